/- DrvSets. -/
import Derived.Test.YtdfhhfpfnkjbnaaAk
namespace Go.Proofs.Ytdfhhfpfnkjbnaa
open Go.RowKit Go.Conc
abbrev drz : Value := .agg #[.int .i64 0, .int .i64 0, .bool false, .int .i64 0, .int .i64 0, .int .i64 0, .bool false, .int .i64 0, .int .i64 0]
abbrev ako (d : Dr) (want : Bool) (per st : Int) (a : Option Addr) (n c : Nat) : Obj := .cells #[.int .i64 d.addr, .int .i64 d.id, .bool d.want, .int .i64 d.per, .int .i64 d.st, .int .i64 d.fails, .bool d.tried, .int .i64 d.left, .int .i64 d.bad, .bool want, .int .i64 per, .int .i64 st, .slice a n c] 29
/-- a variable of an ask -/
def AV (w : World) (b : Nat) (d : Dr) (want : Bool) (per : Int) : Prop := D9 w b 0 d ∧ w.cell? ⟨b, 9, none⟩ = some (.bool want) ∧ w.cell? ⟨b, 10, none⟩ = some (.int .i64 per)
theorem av_at {w : World} (d : Dr) (want : Bool) (per st : Int) (a : Option Addr) (n c : Nat) : AV (w.alloc (ako d want per st a n c)) w.heap.size d want per := by
  refine ⟨⟨?_, ?_, ?_, ?_, ?_, ?_, ?_, ?_, ?_⟩, ?_, ?_⟩ <;> simp [go_sem]
theorem AV.ext {w w' : World} {b : Nat} {d : Dr} {want : Bool} {per : Int} (h : AV w b d want per) (x : Ext w w') : AV w' b d want per := ⟨h.1.ext x, x.keepc h.2.1, x.keepc h.2.2⟩
set_option maxRecDepth 20000 in
set_option maxHeartbeats 8000000 in
theorem sets_any (w : World) (a : Option Addr) (L : List Ask) (cap : Nat) (_hl : L.length ≤ maxLen) (hA : AKs w a L) :
    Calls Try.prog 4 #[.slice a L.length cap] w fun e w' => e = .returned (.bool true) ∧ Ext w w' := by
  have HA : Hid (∀ wr, Ext w wr → AKs wr a L) := fun wr x => hA.ext x
  have HNU : Hid (∀ v w', Calls Try.prog 11 #[.int .i64 v] w' fun e w'' => e = .returned (.int .i64 v) ∧ w'' = w') := num9_any
  have HW : Hid (∀ w', Calls Try.prog 13 #[] w' fun e w'' => e = .returned (.bool true) ∧ Ext w' w'') := wakes9_any
  unfold maxLen at _hl
  clear hA
  go_enter Try.func4, Try.ntmps4
  go_wp2_with fail
  go_loopw [3, 4, 5, 6, 7, 8] (fun i _ _ _ _ _ wr => ∃ k : Nat, k ≤ L.length ∧ k ≤ 30 ∧ i = .int .i64 k ∧ Hid (Ext w wr)) (fun i _ _ _ _ _ _ => 30 - (intOf i).toNat)
  case atStart => exact ⟨0, Nat.zero_le _, Nat.zero_le _, rfl, Ext.refl w⟩
  case round =>
    obtain ⟨k, hk, hk30, rfl, hR⟩ := hrel
    by_cases hlt : k < L.length
    · have hlti : (k : Int) < (L.length : Int) := by omega
      by_cases h30 : k < 30
      · have h30i : (k : Int) < 30 := by omega
        obtain ⟨b1, o1, da, dc, rfl, ⟨⟨c0, c1, c2, c3, c4, c5, c6, c7, c8⟩, c9, c10, c11, c12⟩, _⟩ := HA.out wr hR.out k hlt
        have HM : Hid (∀ W, Calls Try.prog 10 #[drv (gk L k).d] W fun e w' => e = .returned (.bool (okD (gk L k).d)) ∧ Ext W w') := mayd_any _
        have HSt : Hid (okD (gk L k).d = true → inn (gk L k).d.st 0 8 = true) := okD_st
        generalize (gk L k).want = want at *
        generalize (gk L k).per = per at *
        generalize (gk L k).st = st at *
        generalize (gk L k).data.length = dn at *
        generalize (gk L k).d = d at *
        clear HA
        go_upto_region 5 with fail
        have V4 : Hid (AV (wr.alloc (ako d want per st da dn dc)) wr.heap.size d want per ∧ Ext w (wr.alloc (ako d want per st da dn dc))) := ⟨av_at d want per st da dn dc, hR.out.alloc _⟩
        generalize wr.heap.size = B4 at *
        generalize wr.alloc (ako d want per st da dn dc) = w4 at *
        clear c0 c1 c2 c3 c4 c5 c6 c7 c8 c9 c10 c11 c12
        obtain ⟨⟨c0, c1, c2, c3, c4, c5, c6, c7, c8⟩, c9, c10⟩ := V4.out.1
        simp only [Nat.zero_add] at c0 c1 c2 c3 c4 c5 c6 c7 c8
        cases hok : okD d
        · rw [hok] at HM
          have HS : Hid (∀ W, Calls Try.prog 14 #[drv d, .bool want, .int .i64 per] W fun e w' => e = .returned (.tuple #[drz, .int .i64 1]) ∧ Ext W w') := setdr_bad d want per (.inl hok)
          clear hok HSt
          go_upto_region 6 with (go_at_call 14; refine (HS.out _).mono ?_; rintro e w5 ⟨rfl, x5⟩)
          have V5 : Hid (AV (w5.alloc zro) B4 d want per ∧ DV (w5.alloc zro) w5.heap.size zeroD ∧ Ext w (w5.alloc zro)) := ⟨V4.out.1.ext (x5.alloc _), dv_at rfl zeroD, V4.out.2.trans (x5.alloc _)⟩
          clear c0 c1 c2 c3 c4 c5 c6 c7 c8 c9 c10 V4 x5 HS
          generalize w5.heap.size = B5 at *
          generalize w5.alloc zro = w6 at *
          obtain ⟨⟨c0, c1, c2, c3, c4, c5, c6, c7, c8⟩, c9, c10⟩ := V5.out.1
          simp only [Nat.zero_add] at c0 c1 c2 c3 c4 c5 c6 c7 c8
          go_upto_region 7 with (go_at_call 10; refine (HM.out _).mono ?_; rintro e w7 ⟨rfl, x7⟩; clear c0 c1 c2 c3 c4 c5 c6 c7 c8 c9 c10; obtain ⟨⟨c0, c1, c2, c3, c4, c5, c6, c7, c8⟩, c9, c10⟩ := V5.out.1.ext x7; simp only [Nat.zero_add] at c0 c1 c2 c3 c4 c5 c6 c7 c8)
          have V7 : Hid (Ext w w7) := V5.out.2.2.trans x7
          clear c0 c1 c2 c3 c4 c5 c6 c7 c8 c9 c10
          obtain ⟨⟨e0, e1, e2, e3, e4, e5, e6, e7, e8⟩, _⟩ := V5.out.2.1.ext x7
          simp only [Nat.zero_add, zeroD] at e0 e1 e2 e3 e4 e5 e6 e7 e8
          have he := eqD zeroD
          clear V5 x7 HM
          go_wp2_with (go_at_call 11; refine (HNU.out _ _).mono ?_; rintro e wx ⟨rfl, hwx⟩; have hwy := hwx.symm; clear hwx; subst hwy)
          go_roundw
          case measure => simp [intOf]; omega
          case rel => exact ⟨k + 1, by omega, by omega, by simp, V7⟩
        · rw [hok] at HM
          by_cases hp1 : per < 1
          · have hpn : inn per 1 250 = false := inn_not.2 (by omega)
            have HS : Hid (∀ W, Calls Try.prog 14 #[drv d, .bool want, .int .i64 per] W fun e w' => e = .returned (.tuple #[drz, .int .i64 1]) ∧ Ext W w') := setdr_bad d want per (.inr hpn)
            clear hpn
            clear hok HSt
            go_upto_region 6 with (go_at_call 14; refine (HS.out _).mono ?_; rintro e w5 ⟨rfl, x5⟩)
            have V5 : Hid (AV (w5.alloc zro) B4 d want per ∧ DV (w5.alloc zro) w5.heap.size zeroD ∧ Ext w (w5.alloc zro)) := ⟨V4.out.1.ext (x5.alloc _), dv_at rfl zeroD, V4.out.2.trans (x5.alloc _)⟩
            clear c0 c1 c2 c3 c4 c5 c6 c7 c8 c9 c10 V4 x5 HS
            generalize w5.heap.size = B5 at *
            generalize w5.alloc zro = w6 at *
            obtain ⟨⟨c0, c1, c2, c3, c4, c5, c6, c7, c8⟩, c9, c10⟩ := V5.out.1
            simp only [Nat.zero_add] at c0 c1 c2 c3 c4 c5 c6 c7 c8
            go_upto_region 7 with (go_at_call 10; refine (HM.out _).mono ?_; rintro e w7 ⟨rfl, x7⟩; clear c0 c1 c2 c3 c4 c5 c6 c7 c8 c9 c10; obtain ⟨⟨c0, c1, c2, c3, c4, c5, c6, c7, c8⟩, c9, c10⟩ := V5.out.1.ext x7; simp only [Nat.zero_add] at c0 c1 c2 c3 c4 c5 c6 c7 c8)
            have V7 : Hid (Ext w w7) := V5.out.2.2.trans x7
            clear c0 c1 c2 c3 c4 c5 c6 c7 c8 c9 c10
            obtain ⟨⟨e0, e1, e2, e3, e4, e5, e6, e7, e8⟩, _⟩ := V5.out.2.1.ext x7
            simp only [Nat.zero_add, zeroD] at e0 e1 e2 e3 e4 e5 e6 e7 e8
            have he := eqD zeroD
            clear V5 x7 HM
            go_wp2_with (go_at_call 11; refine (HNU.out _ _).mono ?_; rintro e wx ⟨rfl, hwx⟩; have hwy := hwx.symm; clear hwx; subst hwy)
            go_roundw
            case measure => simp [intOf]; omega
            case rel => exact ⟨k + 1, by omega, by omega, by simp, V7⟩
          · by_cases hp2 : 250 < per
            · have hpn : inn per 1 250 = false := inn_not.2 (by omega)
              have HS : Hid (∀ W, Calls Try.prog 14 #[drv d, .bool want, .int .i64 per] W fun e w' => e = .returned (.tuple #[drz, .int .i64 1]) ∧ Ext W w') := setdr_bad d want per (.inr hpn)
              clear hpn
              clear hok HSt
              go_upto_region 6 with (go_at_call 14; refine (HS.out _).mono ?_; rintro e w5 ⟨rfl, x5⟩)
              have V5 : Hid (AV (w5.alloc zro) B4 d want per ∧ DV (w5.alloc zro) w5.heap.size zeroD ∧ Ext w (w5.alloc zro)) := ⟨V4.out.1.ext (x5.alloc _), dv_at rfl zeroD, V4.out.2.trans (x5.alloc _)⟩
              clear c0 c1 c2 c3 c4 c5 c6 c7 c8 c9 c10 V4 x5 HS
              generalize w5.heap.size = B5 at *
              generalize w5.alloc zro = w6 at *
              obtain ⟨⟨c0, c1, c2, c3, c4, c5, c6, c7, c8⟩, c9, c10⟩ := V5.out.1
              simp only [Nat.zero_add] at c0 c1 c2 c3 c4 c5 c6 c7 c8
              go_upto_region 7 with (go_at_call 10; refine (HM.out _).mono ?_; rintro e w7 ⟨rfl, x7⟩; clear c0 c1 c2 c3 c4 c5 c6 c7 c8 c9 c10; obtain ⟨⟨c0, c1, c2, c3, c4, c5, c6, c7, c8⟩, c9, c10⟩ := V5.out.1.ext x7; simp only [Nat.zero_add] at c0 c1 c2 c3 c4 c5 c6 c7 c8)
              have V7 : Hid (Ext w w7) := V5.out.2.2.trans x7
              clear c0 c1 c2 c3 c4 c5 c6 c7 c8 c9 c10
              obtain ⟨⟨e0, e1, e2, e3, e4, e5, e6, e7, e8⟩, _⟩ := V5.out.2.1.ext x7
              simp only [Nat.zero_add, zeroD] at e0 e1 e2 e3 e4 e5 e6 e7 e8
              have he := eqD zeroD
              clear V5 x7 HM
              go_wp2_with (go_at_call 11; refine (HNU.out _ _).mono ?_; rintro e wx ⟨rfl, hwx⟩; have hwy := hwx.symm; clear hwx; subst hwy)
              go_roundw
              case measure => simp [intOf]; omega
              case rel => exact ⟨k + 1, by omega, by omega, by simp, V7⟩
            · have hpn : inn per 1 250 = true := inn_iff.2 ⟨by omega, by omega⟩
              have HS : Hid (∀ W, Calls Try.prog 14 #[drv d, .bool want, .int .i64 per] W fun e w' => e = .returned (.tuple #[drv (setD d want per), .int .i64 0]) ∧ Ext W w') := setdr_good d want per hok hpn
              have HS2 : Hid (∀ W, Calls Try.prog 14 #[drv (setD d want per), .bool want, .int .i64 per] W fun e w' => e = .returned (.tuple #[drv (setD d want per), .int .i64 0]) ∧ Ext W w') := fun W => by
                have h := setdr_good (setD d want per) want per (setD_ok d hok want per hpn) hpn W
                rw [setD_idem d (HSt.out hok)] at h
                exact h
              have HR : Hid (∀ W, Calls Try.prog 15 #[drv d, .bool want, .int .i64 per] W fun e w' => e = .returned (drv (setD d want per)) ∧ Ext W w') := refset_any d (HSt.out hok) want per
              obtain ⟨k1, k2, k3, k4, k5, k6, k7⟩ := setD_keep d want per
              clear hpn hok HSt k1 k2 k7
              generalize setD d want per = q at *
              obtain ⟨qa, qi, qw, qp, qs, qf, qt, ql, qb⟩ := q
              simp only at k3 k4 k5 k6
              have k3 := k3.symm
              have k4 := k4.symm
              subst k3; subst k4; subst k5; subst k6
              go_upto_region 6 with (go_at_call 14; refine (HS.out _).mono ?_; rintro e w5 ⟨rfl, x5⟩)
              have V5 : Hid (AV (w5.alloc (dro ⟨qa, qi, want, per, qs, qf, d.tried, ql, d.bad⟩)) B4 d want per ∧ DV (w5.alloc (dro ⟨qa, qi, want, per, qs, qf, d.tried, ql, d.bad⟩)) w5.heap.size ⟨qa, qi, want, per, qs, qf, d.tried, ql, d.bad⟩ ∧ Ext w (w5.alloc (dro ⟨qa, qi, want, per, qs, qf, d.tried, ql, d.bad⟩))) := ⟨V4.out.1.ext (x5.alloc _), dv_at rfl _, V4.out.2.trans (x5.alloc _)⟩
              clear c0 c1 c2 c3 c4 c5 c6 c7 c8 c9 c10 V4 x5 HS
              generalize w5.heap.size = B5 at *
              generalize w5.alloc (dro ⟨qa, qi, want, per, qs, qf, d.tried, ql, d.bad⟩) = w6 at *
              obtain ⟨⟨c0, c1, c2, c3, c4, c5, c6, c7, c8⟩, c9, c10⟩ := V5.out.1
              simp only [Nat.zero_add] at c0 c1 c2 c3 c4 c5 c6 c7 c8
              go_upto_region 9 with (go_at_call 10; refine (HM.out _).mono ?_; rintro e w7 ⟨rfl, x7⟩; clear c0 c1 c2 c3 c4 c5 c6 c7 c8 c9 c10; obtain ⟨⟨c0, c1, c2, c3, c4, c5, c6, c7, c8⟩, c9, c10⟩ := V5.out.1.ext x7; simp only [Nat.zero_add] at c0 c1 c2 c3 c4 c5 c6 c7 c8)
              have V7 : Hid (AV w7 B4 d want per ∧ DV w7 B5 ⟨qa, qi, want, per, qs, qf, d.tried, ql, d.bad⟩ ∧ Ext w w7) := ⟨V5.out.1.ext x7, V5.out.2.1.ext x7, V5.out.2.2.trans x7⟩
              obtain ⟨⟨e0, e1, e2, e3, e4, e5, e6, e7, e8⟩, _⟩ := V7.out.2.1
              simp only [Nat.zero_add] at e0 e1 e2 e3 e4 e5 e6 e7 e8
              clear V5 x7 HM
              go_upto_region 10 with (go_at_call 14; refine (HS2.out _).mono ?_; rintro e w8 ⟨rfl, x8⟩)
              have V9 : Hid (AV (w8.alloc (dro ⟨qa, qi, want, per, qs, qf, d.tried, ql, d.bad⟩)) B4 d want per ∧ DV (w8.alloc (dro ⟨qa, qi, want, per, qs, qf, d.tried, ql, d.bad⟩)) B5 ⟨qa, qi, want, per, qs, qf, d.tried, ql, d.bad⟩ ∧ DV (w8.alloc (dro ⟨qa, qi, want, per, qs, qf, d.tried, ql, d.bad⟩)) w8.heap.size ⟨qa, qi, want, per, qs, qf, d.tried, ql, d.bad⟩ ∧ Ext w (w8.alloc (dro ⟨qa, qi, want, per, qs, qf, d.tried, ql, d.bad⟩))) := ⟨V7.out.1.ext (x8.alloc _), V7.out.2.1.ext (x8.alloc _), dv_at rfl _, V7.out.2.2.trans (x8.alloc _)⟩
              clear c0 c1 c2 c3 c4 c5 c6 c7 c8 c9 c10 e0 e1 e2 e3 e4 e5 e6 e7 e8 V7 x8 HS2
              generalize w8.heap.size = B7 at *
              generalize w8.alloc (dro ⟨qa, qi, want, per, qs, qf, d.tried, ql, d.bad⟩) = w9 at *
              have HQ : Hid (∀ W, Ext w9 W → (W.cell? ⟨B4, 0, none⟩ = some (.int .i64 d.addr) ∧ W.cell? ⟨B4, 1, none⟩ = some (.int .i64 d.id) ∧ W.cell? ⟨B4, 2, none⟩ = some (.bool d.want) ∧ W.cell? ⟨B4, 3, none⟩ = some (.int .i64 d.per) ∧ W.cell? ⟨B4, 4, none⟩ = some (.int .i64 d.st) ∧ W.cell? ⟨B4, 5, none⟩ = some (.int .i64 d.fails) ∧ W.cell? ⟨B4, 6, none⟩ = some (.bool d.tried) ∧ W.cell? ⟨B4, 7, none⟩ = some (.int .i64 d.left) ∧ W.cell? ⟨B4, 8, none⟩ = some (.int .i64 d.bad) ∧ W.cell? ⟨B4, 9, none⟩ = some (.bool want) ∧ W.cell? ⟨B4, 10, none⟩ = some (.int .i64 per)) ∧ (W.cell? ⟨B5, 0, none⟩ = some (.int .i64 qa) ∧ W.cell? ⟨B5, 1, none⟩ = some (.int .i64 qi) ∧ W.cell? ⟨B5, 2, none⟩ = some (.bool want) ∧ W.cell? ⟨B5, 3, none⟩ = some (.int .i64 per) ∧ W.cell? ⟨B5, 4, none⟩ = some (.int .i64 qs) ∧ W.cell? ⟨B5, 5, none⟩ = some (.int .i64 qf) ∧ W.cell? ⟨B5, 6, none⟩ = some (.bool d.tried) ∧ W.cell? ⟨B5, 7, none⟩ = some (.int .i64 ql) ∧ W.cell? ⟨B5, 8, none⟩ = some (.int .i64 d.bad)) ∧ (W.cell? ⟨B7, 0, none⟩ = some (.int .i64 qa) ∧ W.cell? ⟨B7, 1, none⟩ = some (.int .i64 qi) ∧ W.cell? ⟨B7, 2, none⟩ = some (.bool want) ∧ W.cell? ⟨B7, 3, none⟩ = some (.int .i64 per) ∧ W.cell? ⟨B7, 4, none⟩ = some (.int .i64 qs) ∧ W.cell? ⟨B7, 5, none⟩ = some (.int .i64 qf) ∧ W.cell? ⟨B7, 6, none⟩ = some (.bool d.tried) ∧ W.cell? ⟨B7, 7, none⟩ = some (.int .i64 ql) ∧ W.cell? ⟨B7, 8, none⟩ = some (.int .i64 d.bad))) := fun W x => by
                have h1 := V9.out.1.ext x
                have h2 := V9.out.2.1.ext x
                have h3 := V9.out.2.2.1.ext x
                obtain ⟨⟨c0, c1, c2, c3, c4, c5, c6, c7, c8⟩, c9, c10⟩ := h1
                obtain ⟨⟨d0, d1, d2, d3, d4, d5, d6, d7, d8⟩, _⟩ := h2
                obtain ⟨⟨e0, e1, e2, e3, e4, e5, e6, e7, e8⟩, _⟩ := h3
                simp only [Nat.zero_add] at c0 c1 c2 c3 c4 c5 c6 c7 c8 d0 d1 d2 d3 d4 d5 d6 d7 d8 e0 e1 e2 e3 e4 e5 e6 e7 e8
                exact ⟨⟨c0, c1, c2, c3, c4, c5, c6, c7, c8, c9, c10⟩, ⟨d0, d1, d2, d3, d4, d5, d6, d7, d8⟩, e0, e1, e2, e3, e4, e5, e6, e7, e8⟩
              have HX : Hid (Ext w w9) := V9.out.2.2.2
              have HR2 : Hid (∀ W, Ext w9 W → Calls Try.prog 15 #[drv d, .bool want, .int .i64 per] W fun e w' => e = .returned (drv ⟨qa, qi, want, per, qs, qf, d.tried, ql, d.bad⟩) ∧ Hid (Ext w9 w') ∧ (w'.cell? ⟨B4, 0, none⟩ = some (.int .i64 d.addr) ∧ w'.cell? ⟨B4, 1, none⟩ = some (.int .i64 d.id) ∧ w'.cell? ⟨B4, 2, none⟩ = some (.bool d.want) ∧ w'.cell? ⟨B4, 3, none⟩ = some (.int .i64 d.per) ∧ w'.cell? ⟨B4, 4, none⟩ = some (.int .i64 d.st) ∧ w'.cell? ⟨B4, 5, none⟩ = some (.int .i64 d.fails) ∧ w'.cell? ⟨B4, 6, none⟩ = some (.bool d.tried) ∧ w'.cell? ⟨B4, 7, none⟩ = some (.int .i64 d.left) ∧ w'.cell? ⟨B4, 8, none⟩ = some (.int .i64 d.bad) ∧ w'.cell? ⟨B4, 9, none⟩ = some (.bool want) ∧ w'.cell? ⟨B4, 10, none⟩ = some (.int .i64 per)) ∧ (w'.cell? ⟨B5, 0, none⟩ = some (.int .i64 qa) ∧ w'.cell? ⟨B5, 1, none⟩ = some (.int .i64 qi) ∧ w'.cell? ⟨B5, 2, none⟩ = some (.bool want) ∧ w'.cell? ⟨B5, 3, none⟩ = some (.int .i64 per) ∧ w'.cell? ⟨B5, 4, none⟩ = some (.int .i64 qs) ∧ w'.cell? ⟨B5, 5, none⟩ = some (.int .i64 qf) ∧ w'.cell? ⟨B5, 6, none⟩ = some (.bool d.tried) ∧ w'.cell? ⟨B5, 7, none⟩ = some (.int .i64 ql) ∧ w'.cell? ⟨B5, 8, none⟩ = some (.int .i64 d.bad)) ∧ (w'.cell? ⟨B7, 0, none⟩ = some (.int .i64 qa) ∧ w'.cell? ⟨B7, 1, none⟩ = some (.int .i64 qi) ∧ w'.cell? ⟨B7, 2, none⟩ = some (.bool want) ∧ w'.cell? ⟨B7, 3, none⟩ = some (.int .i64 per) ∧ w'.cell? ⟨B7, 4, none⟩ = some (.int .i64 qs) ∧ w'.cell? ⟨B7, 5, none⟩ = some (.int .i64 qf) ∧ w'.cell? ⟨B7, 6, none⟩ = some (.bool d.tried) ∧ w'.cell? ⟨B7, 7, none⟩ = some (.int .i64 ql) ∧ w'.cell? ⟨B7, 8, none⟩ = some (.int .i64 d.bad))) := fun W x => (HR.out W).mono fun e w' ⟨h1, h2⟩ => ⟨h1, x.trans h2, HQ.out w' (x.trans h2)⟩
              obtain ⟨⟨c0, c1, c2, c3, c4, c5, c6, c7, c8, c9, c10⟩, ⟨d0, d1, d2, d3, d4, d5, d6, d7, d8⟩, e0, e1, e2, e3, e4, e5, e6, e7, e8⟩ := HQ.out w9 (Ext.refl _)
              have he := eqD ⟨qa, qi, want, per, qs, qf, d.tried, ql, d.bad⟩
              have X9 : Hid (Ext w9 w9.drew) := (Ext.refl w9).drew
              clear HR V9 HQ
              go_region_held3 (fun w' => (w'.cell? ⟨B4, 0, none⟩ = some (.int .i64 d.addr) ∧ w'.cell? ⟨B4, 1, none⟩ = some (.int .i64 d.id) ∧ w'.cell? ⟨B4, 2, none⟩ = some (.bool d.want) ∧ w'.cell? ⟨B4, 3, none⟩ = some (.int .i64 d.per) ∧ w'.cell? ⟨B4, 4, none⟩ = some (.int .i64 d.st) ∧ w'.cell? ⟨B4, 5, none⟩ = some (.int .i64 d.fails) ∧ w'.cell? ⟨B4, 6, none⟩ = some (.bool d.tried) ∧ w'.cell? ⟨B4, 7, none⟩ = some (.int .i64 d.left) ∧ w'.cell? ⟨B4, 8, none⟩ = some (.int .i64 d.bad) ∧ w'.cell? ⟨B4, 9, none⟩ = some (.bool want) ∧ w'.cell? ⟨B4, 10, none⟩ = some (.int .i64 per)) ∧ (w'.cell? ⟨B5, 0, none⟩ = some (.int .i64 qa) ∧ w'.cell? ⟨B5, 1, none⟩ = some (.int .i64 qi) ∧ w'.cell? ⟨B5, 2, none⟩ = some (.bool want) ∧ w'.cell? ⟨B5, 3, none⟩ = some (.int .i64 per) ∧ w'.cell? ⟨B5, 4, none⟩ = some (.int .i64 qs) ∧ w'.cell? ⟨B5, 5, none⟩ = some (.int .i64 qf) ∧ w'.cell? ⟨B5, 6, none⟩ = some (.bool d.tried) ∧ w'.cell? ⟨B5, 7, none⟩ = some (.int .i64 ql) ∧ w'.cell? ⟨B5, 8, none⟩ = some (.int .i64 d.bad)) ∧ (w'.cell? ⟨B7, 0, none⟩ = some (.int .i64 qa) ∧ w'.cell? ⟨B7, 1, none⟩ = some (.int .i64 qi) ∧ w'.cell? ⟨B7, 2, none⟩ = some (.bool want) ∧ w'.cell? ⟨B7, 3, none⟩ = some (.int .i64 per) ∧ w'.cell? ⟨B7, 4, none⟩ = some (.int .i64 qs) ∧ w'.cell? ⟨B7, 5, none⟩ = some (.int .i64 qf) ∧ w'.cell? ⟨B7, 6, none⟩ = some (.bool d.tried) ∧ w'.cell? ⟨B7, 7, none⟩ = some (.int .i64 ql) ∧ w'.cell? ⟨B7, 8, none⟩ = some (.int .i64 d.bad))) (first | (go_keep; done) | skip) (first | (go_at_call 11; refine (HNU.out _ _).mono ?_; rintro e wx ⟨rfl, hwx⟩; have hwy := hwx.symm; clear hwx; subst hwy) | (go_at_call 15; refine (HR2.out _ X9.out).mono ?_; rintro e wz ⟨rfl, XZ, ⟨s0, s1, s2, s3, s4, s5, s6, s7, s8, s9, s10⟩, ⟨t0, t1, t2, t3, t4, t5, t6, t7, t8⟩, u0, u1, u2, u3, u4, u5, u6, u7, u8⟩))
              have XR : Hid (Ext w wz) := HX.out.trans XZ.out
              go_wp2_with fail
              go_roundw
              case measure => simp [intOf]; omega
              case rel => exact ⟨k + 1, by omega, by omega, by simp, XR⟩
      · have h30i : ¬ (k : Int) < 30 := by omega
        go_wp2_with (go_at_call 13; refine (HW.out _).mono ?_; rintro e w9 ⟨rfl, x9⟩)
        go_ret
        exact ⟨rfl, hR.out.trans x9⟩
    · have hlti : ¬ (k : Int) < (L.length : Int) := by omega
      go_wp2_with (go_at_call 13; refine (HW.out _).mono ?_; rintro e w9 ⟨rfl, x9⟩)
      go_ret
      exact ⟨rfl, hR.out.trans x9⟩
end Go.Proofs.Ytdfhhfpfnkjbnaa
