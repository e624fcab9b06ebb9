/- BusRegisters: its walk. -/
import Derived.Test.YtadgaolakbnhcaaGw
namespace Go.Proofs.Ytadgaolakbnhcaa
open Go.RowKit Go.Conc
abbrev scv (am : Option Addr) (lm cm : Nat) (af : Option Addr) (lf cf : Nat) (al : Option Addr) (ll cl : Nat) : Value := .agg #[.slice am lm cm, .slice af lf cf, .slice al ll cl]
abbrev scc (am : Option Addr) (lm cm : Nat) (af : Option Addr) (lf cf : Nat) (al : Option Addr) (ll cl : Nat) : Obj := .cells #[.slice am lm cm, .slice af lf cf, .slice al ll cl] 26
/-- a variable of a script -/
def SC (w : World) (k : Nat) (am : Option Addr) (lm cm : Nat) (af : Option Addr) (lf cf : Nat) (al : Option Addr) (ll cl : Nat) : Prop :=
  w.cell? ⟨k, 0, none⟩ = some (.slice am lm cm) ∧ w.cell? ⟨k, 1, none⟩ = some (.slice af lf cf) ∧ w.cell? ⟨k, 2, none⟩ = some (.slice al ll cl)
theorem sc_new {w : World} {am : Option Addr} {lm cm : Nat} {af : Option Addr} {lf cf : Nat} {al : Option Addr} {ll cl : Nat} : SC (w.alloc (scc am lm cm af lf cf al ll cl)) w.heap.size am lm cm af lf cf al ll cl := by
  refine ⟨?_, ?_, ?_⟩ <;> simp [go_sem]
theorem SC.ext {w w' : World} {k : Nat} {am : Option Addr} {lm cm : Nat} {af : Option Addr} {lf cf : Nat} {al : Option Addr} {ll cl : Nat} (h : SC w k am lm cm af lf cf al ll cl) (x : Ext w w') : SC w' k am lm cm af lf cf al ll cl := ⟨x.keepc h.1, x.keepc h.2.1, x.keepc h.2.2⟩
/-- four bytes laid out -/
theorem lit4 {w w1 : World} {a : Option Addr} {c : Nat} {x : Int} {p q : Int} {z : Int} {l : List Int} (h : RdB w (.slice a 4 c) l) (hl : l = [x, p, q, z]) (e : Ext w w1) :
    Calls Try.prog 26 #[.slice a 4 c, .slice (some ⟨w1.heap.size, 0, none⟩) 4 4] (w1.alloc (.cells #[.int .u8 x, .int .u8 p, .int .u8 q, .int .u8 z] Eb)) fun e w' => e = .returned (.bool true) ∧ Ext w1 w' := by
  subst hl
  have y : Ext w1 (w1.alloc (.cells #[.int .u8 x, .int .u8 p, .int .u8 q, .int .u8 z] Eb)) := (Ext.refl w1).alloc _
  refine (eq_bytes (l := [x, p, q, z]) _ _ _ ((h.ext e).ext y) ⟨_, 4, rfl, fun j hj => ⟨_, _, rfl, ?_⟩⟩ (by simp)).mono ?_
  · match j, hj with
    | 0, _ => simp [go_sem]
    | 1, _ => simp [go_sem]
    | 2, _ => simp [go_sem]
    | 3, _ => simp [go_sem]
    | j + 4, h => simp at h; omega
  · rintro e w' ⟨rfl, z⟩
    exact ⟨rfl, y.trans z⟩
set_option maxRecDepth 20000 in
set_option maxHeartbeats 8000000 in
theorem registers_any (w : World) (am : Option Addr) (M : List Md) (cm : Nat) (af : Option Addr) (lf cf : Nat) (al : Option Addr) (L : List Ac) (cl : Nat) (hM : MRs w am M) (hl : M.length ≤ maxLen) (hcm : M.length ≤ cm) (hA : ARs w al L) (_ : L.length ≤ maxLen) :
    Calls Try.prog 6 #[scv am M.length cm af lf cf al L.length cl] w fun e w' => e = .returned (.bool true) ∧ Ext w w' := by
  have x0 : Ext w (w.alloc (scc am M.length cm af lf cf al L.length cl)) := (Ext.refl w).alloc _
  have hS : SC (w.alloc (scc am M.length cm af lf cf al L.length cl)) w.heap.size am M.length cm af lf cf al L.length cl := sc_new
  have HH := heavy_any _ am M cm none 0 0 (hM.ext x0) hl
  have HA : Hid (∀ wr, Ext (w.alloc (scc am M.length cm af lf cf al L.length cl)) wr → ARs wr al L) := fun wr x => (hA.ext x0).ext x
  have HMM : Hid (∀ wr, Ext (w.alloc (scc am M.length cm af lf cf al L.length cl)) wr → MRs wr am M) := fun wr x => (hM.ext x0).ext x
  have HX0 : Hid (Ext w (w.alloc (scc am M.length cm af lf cf al L.length cl))) := x0
  have HNU : Hid (∀ v w', Calls Try.prog 11 #[.int .i64 v] w' fun e w'' => e = .returned (.int .i64 v) ∧ w'' = w') := num_any
  unfold maxLen at hl
  clear hM hA x0
  obtain ⟨s0, s1, s2⟩ := id hS
  have HS : Hid (SC (w.alloc (scc am M.length cm af lf cf al L.length cl)) w.heap.size am M.length cm af lf cf al L.length cl) := hS
  clear hS
  go_enter Try.func6, Try.ntmps6
  go_upto_region 1 with fail
  generalize w.alloc (scc am M.length cm af lf cf al L.length cl) = w0 at *
  generalize w.heap.size = B at *
  cases hhv : heavyB 0 M <;> rw [hhv] at HH
  · by_cases h0 : M.length = 0
    · rw [h0] at HH s0
      go_wp2_with (go_at_call 7; refine HH.mono ?_; rintro e wx ⟨rfl, hwx⟩; have hwy := hwx.symm; clear hwx; subst hwy)
      go_ret
      exact ⟨rfl, HX0.out⟩
    · have h0p : 0 < M.length := by omega
      have h0b : ((M.length : Int) == 0) = false := beq_eq_false_iff_ne.2 (by omega)
      have hc1 : (1 : Int) ≤ (cm : Int) := by omega
      have hM1 := (HMM.out w0 (Ext.refl _)).one h0p
      have HY := may_any w0 am [gm M 0] cm none [] 0 hM1 (by simp [maxLen]) (frs_nil _ _) (by simp [maxLen])
      clear hM1
      cases hok : okMs [gm M 0] && okFs [] <;> rw [hok] at HY
      · go_wp2_with (first | (go_at_call 7; refine HH.mono ?_; rintro e wx ⟨rfl, hwx⟩; have hwy := hwx.symm; clear hwx; subst hwy) | (go_at_call 10; refine HY.mono ?_; rintro e w1 ⟨rfl, x1⟩))
        go_ret
        exact ⟨rfl, HX0.out.trans x1⟩
      · have hmm : okM (gm M 0) = true := by
          have h1 := (Bool.and_eq_true _ _ ▸ hok).1
          have h2 : (okUp [gm M 0] 0 && (okM (gm [gm M 0] 0) && (fnd (dvs [gm M 0]) 0 (gm [gm M 0] 0).addr).isNone)) = true := (Bool.and_eq_true _ _ ▸ h1).2
          simp only [Bool.and_eq_true] at h2
          exact h2.2.1
        have HN : Hid (∀ w1, Ext w0 w1 → Calls Try.prog 9 #[.slice am 1 cm, .slice none 0 0] w1 fun e w' => ∃ y : BA, e = .returned (.tuple #[.pointer (some ⟨y.b, 0, none⟩), .int .i64 0]) ∧ Hid (Rg w0 w' y (newB [gm M 0] []))) := fun w1 x1 => by
          refine (busnew_any w1 am [gm M 0] cm none [] 0 ((HMM.out w1 x1).one h0p) (by simp [maxLen]) (frs_nil _ _) (by simp [maxLen])).mono ?_
          rintro e w' ⟨x2, _, hy⟩
          obtain ⟨y, he, hb, hf⟩ := hy hok
          exact ⟨y, he, x1.trans x2, hb, fun k o => by have := hf k o; have := x1.size; omega⟩
        have HMO : Hid (okM (gm M 0) = true) := hmm
        clear hmm hok
        go_upto_region 4 with (first | (go_at_call 7; refine HH.mono ?_; rintro e wx ⟨rfl, hwx⟩; have hwy := hwx.symm; clear hwx; subst hwy) | (go_at_call 10; refine HY.mono ?_; rintro e w1 ⟨rfl, x1⟩; obtain ⟨q0, q1, q2⟩ := HS.out.ext x1) | (go_at_call 9; refine (HN.out _ x1).mono ?_; rintro e w2 ⟨y, rfl, h2⟩))
        go_upto_region 6 with (go_at_call 11; refine (HNU.out _ _).mono ?_; rintro e wx ⟨rfl, hwx⟩; have hwy := hwx.symm; clear hwx; subst hwy)
        obtain ⟨b1, o1, la, lc, rfl, _, _, _⟩ := HMM.out w2 h2.out.x 0 h0p
        have HM0 : Hid (∀ wr, Ext w0 wr → wr.cell? ⟨b1, o1, none⟩ = some (.int .i64 (gm M 0).addr) ∧ wr.cell? ⟨b1, o1 + 1, none⟩ = some (.int .i64 (gm M 0).id)) := fun wr x => by
          obtain ⟨b', off', la', lc', e', m', r', _⟩ := HMM.out wr x 0 h0p
          cases e'
          exact ⟨m'.1, m'.2.1⟩
        have H2 : Hid (Rg w0 w2 y (newB [gm M 0] []) ∧ RG (newB [gm M 0] []) (gm M 0)) := ⟨h2.out, RG.new _⟩
        have hid : 0 ≤ (gm M 0).id ∧ (gm M 0).id ≤ 255 := by
          have hm := HMO.out
          unfold okM at hm
          simp only [Bool.and_eq_true, inn_iff] at hm
          exact hm.1.2
        have HMlen : Hid (0 < M.length) := h0p
        clear h2 HN HH HY hhv
        generalize newB [gm M 0] [] = sn at *
        generalize gm M 0 = m at *
        have hq := HM0.out w2 H2.out.1.x
        obtain ⟨q3, q4⟩ := hq
        obtain ⟨p0, p1, p2⟩ := HS.out.ext H2.out.1.x
        clear q0 q1 q2
        go_upto_region 7 with fail
        clear q3 q4 p0 p1 p2 s0 s1 s2
        go_wp2_with fail
        go_loopw [6, 7, 8, 9, 10, 11, 12] (fun i _ _ _ _ _ _ wr => ∃ (k : Nat) (s : Bs), k ≤ L.length ∧ k ≤ 12 ∧ i = .int .i64 k ∧ Hid (Rg w0 wr y s ∧ RG s m)) (fun i _ _ _ _ _ _ _ => 12 - (intOf i).toNat)
        case atStart => exact ⟨0, _, Nat.zero_le _, Nat.zero_le _, rfl, H2⟩
        case round =>
          obtain ⟨k, s, hk, hk12, rfl, hR⟩ := hrel
          clear H2
          obtain ⟨p0, p1, p2⟩ := HS.out.ext hR.out.1.x
          by_cases hlt : k < L.length
          · have hlti : (k : Int) < (L.length : Int) := by omega
            by_cases h12 : k < 12
            · have h12i : (k : Int) < 12 := by omega
              obtain ⟨ba, oa, wa, wc, rfl, ⟨d0, d1, d2, d3, d4, d5⟩, _⟩ := HA.out wr hR.out.1.x k hlt
              obtain ⟨qn, hqn, HW1⟩ := within_any (ga L k).n 256 (by omega) (by omega)
              obtain ⟨qo, hqo, HW2⟩ := within_any (ga L k).do_ 2 (by omega) (by omega)
              have HV1 : Hid (∀ w, Calls Try.prog 14 #[.int .i64 (ga L k).n, .int .i64 256] w fun e w' => e = .returned (.int .i64 qn) ∧ w' = w) := HW1
              have HV2 : Hid (∀ w, Calls Try.prog 14 #[.int .i64 (ga L k).do_, .int .i64 2] w fun e w' => e = .returned (.int .i64 qo) ∧ w' = w) := HW2
              have HD1 := hw_any hR.out.1 hR.out.2 HMO.out qo qn (by omega) (by omega)
              clear HW1 HW2
              generalize (ga L k).n = aN at *
              generalize (ga L k).do_ = aD at *
              have hqni : (qn : Int) < 256 := by omega
              have hqoi : (qo : Int) < 2 := by omega
              go_upto_region 12 with (first | (go_at_call_of 14 (Value.int IntKind.i64 256); refine (HV1.out _).mono ?_; rintro e wx ⟨rfl, hwx⟩; have hwy := hwx.symm; clear hwx; subst hwy) | (go_at_call_of 14 (Value.int IntKind.i64 2); refine (HV2.out _).mono ?_; rintro e wx ⟨rfl, hwx⟩; have hwy := hwx.symm; clear hwx; subst hwy))
              clear d0 d1 d2 d3 d4 d5
              go_upto_region 13 with (go_at_call 19; refine HD1.mono ?_; rintro e w3 ⟨a3, c3, rfl, h3⟩)
              obtain ⟨s3, g3, r3, o3, pr3⟩ := h3.out
              have x3 : Ext w3 (w3.alloc (.cells #[.int .i64 1, .slice a3 0 c3] 57)) := (Ext.refl w3).alloc _
              have HD2 := hr_any (g3.ext x3) r3 HMO.out
              generalize w3.alloc (.cells #[.int .i64 1, .slice a3 0 c3] 57) = w4 at *
              clear HD1 x3 g3 h3
              go_upto_region 14 with (go_at_call 19; refine HD2.mono ?_; rintro e w5 ⟨a5, c5, rfl, h5⟩)
              obtain ⟨s5, g5, r5, e5⟩ := h5.out.2
              have x5 : Ext w5 (w5.alloc (.cells #[.int .i64 1, .slice a5 4 c5] 57)) := (Ext.refl w5).alloc _
              have hl5 : [m.id, if (s3.D 0).on = true then 1 else 0, ((s3.D 0).per % 256 : Nat), 0] = [m.id, (qo : Int), (qn : Int), 0] := by
                have h1 : (if (s3.D 0).on = true then (1 : Int) else 0) = (qo : Int) := by
                  rw [o3]
                  have : qo = 0 ∨ qo = 1 := by omega
                  rcases this with rfl | rfl <;> rfl
                have h2 : (((s3.D 0).per % 256 : Nat) : Int) = (qn : Int) := by
                  rw [pr3]
                  split
                  · subst_vars; rfl
                  · omega
                rw [h1, h2]
              have G5 := g5.ext x5
              obtain ⟨p0, p1, p2⟩ := HS.out.ext G5.x
              obtain ⟨m0, m1⟩ := HM0.out _ G5.x
              have k5 : (w5.alloc (.cells #[.int .i64 1, .slice a5 4 c5] 57)).cell? ⟨w5.heap.size, 1, none⟩ = some (.slice a5 4 c5) := by simp [go_sem]
              have HE : Hid (∀ W, Ext (w5.alloc (.cells #[.int .i64 1, .slice a5 4 c5] 57)) W → Calls Try.prog 26 #[.slice a5 4 c5, .slice (some ⟨W.heap.size, 0, none⟩) 4 4] (W.alloc (.cells #[.int .u8 m.id, .int .u8 qo, .int .u8 qn, .int .u8 0] Eb)) fun e w' => e = .returned (.bool true) ∧ Hid (Ext (w5.alloc (.cells #[.int .i64 1, .slice a5 4 c5] 57)) w') ∧ w'.cell? ⟨w5.heap.size, 1, none⟩ = some (.slice a5 4 c5) ∧ w'.cell? ⟨B, 0, none⟩ = some (.slice (some ⟨b1, o1, none⟩) M.length cm) ∧ w'.cell? ⟨b1, o1 + 1, none⟩ = some (.int .i64 m.id)) := fun W xW => by
                refine (lit4 (h5.out.1.ext x5) hl5 xW).mono ?_
                rintro e w' ⟨rfl, xx⟩
                have x9 := xW.trans xx
                exact ⟨rfl, x9, x9.keepc k5, x9.keepc p0, x9.keepc m1⟩
              have HG5 : Hid (Rg w0 (w5.alloc (.cells #[.int .i64 1, .slice a5 4 c5] 57)) y s5 ∧ RG s5 m) := ⟨G5, r5⟩
              have hw8 : IntKind.u8.wrap m.id = m.id := by rw [IntKind.wrap_u8]; omega
              have lt5 : w5.heap.size < (w5.alloc (.cells #[.int .i64 1, .slice a5 4 c5] 57)).heap.size := by simp
              generalize w5.alloc (.cells #[.int .i64 1, .slice a5 4 c5] 57) = W5 at *
              have HX1 : Hid (Ext W5 W5.drew) := (Ext.refl W5).drew
              have ltB : B < W5.heap.size := World.block_lt_of_cell? W5 ⟨B, 0, none⟩ p0
              have ltb : b1 < W5.heap.size := World.block_lt_of_cell? W5 ⟨b1, o1, none⟩ m0
              have ne1 := Nat.ne_of_lt lt5
              have ne2 := Nat.ne_of_gt lt5
              have ne3 := Nat.ne_of_lt ltB
              have ne4 := Nat.ne_of_gt ltB
              have ne5 := Nat.ne_of_lt ltb
              have ne6 := Nat.ne_of_gt ltb
              have hMl : (0 : Int) < (M.length : Int) := by have := HMlen.out; omega
              clear h5 G5 x5 hl5 g5 r5 e5 o3 pr3 r3 HD2 hR lt5 ltB ltb hid
              generalize w5.heap.size = V5 at *
              go_region_held3 (fun w' => w'.cell? ⟨V5, 1, none⟩ = some (.slice a5 4 c5) ∧ w'.cell? ⟨B, 0, none⟩ = some (.slice (some ⟨b1, o1, none⟩) M.length cm) ∧ w'.cell? ⟨b1, o1 + 1, none⟩ = some (.int .i64 m.id)) (first | (go_keep; done) | skip) (first | (go_at_call 11; refine (HNU.out _ _).mono ?_; rintro e wx ⟨rfl, hwx⟩; have hwy := hwx.symm; clear hwx; subst hwy) | (go_at_call 26; refine (HE.out _ HX1.out).mono ?_; rintro e w6 ⟨rfl, x6, t1, t2, t3⟩))
              go_wp2_with fail
              have R9 : Hid (Rg w0 w6 y s5 ∧ RG s5 m) := ⟨HG5.out.1.ext x6.out, HG5.out.2⟩
              go_roundw
              case measure => simp [intOf]; omega
              case rel => exact ⟨k + 1, s5, by omega, by omega, by simp, R9⟩
            · have h12i : ¬ (k : Int) < 12 := by omega
              have h12b : decide ((k : Int) < 12) = false := by simpa using h12i
              go_upto_region 16 with fail
              clear p0 p1 p2
              have HD1 := hs_any hR.out.1 hR.out.2 HMO.out
              go_upto_region 17 with (go_at_call 19; refine HD1.mono ?_; rintro e w3 ⟨a3, c3, rfl, h3⟩)
              obtain ⟨s3, g3, r3, o3, pr3⟩ := h3.out
              have x3 : Ext w3 (w3.alloc (.cells #[.int .i64 1, .slice a3 0 c3] 57)) := (Ext.refl w3).alloc _
              have HD2 := hr_any (g3.ext x3) r3 HMO.out
              generalize w3.alloc (.cells #[.int .i64 1, .slice a3 0 c3] 57) = w4 at *
              clear HD1 x3 g3 h3
              go_upto_region 18 with (go_at_call 19; refine HD2.mono ?_; rintro e w5 ⟨a5, c5, rfl, h5⟩)
              obtain ⟨s5, g5, r5, e5⟩ := h5.out.2
              have x5 : Ext w5 (w5.alloc (.cells #[.int .i64 1, .slice a5 4 c5] 57)) := (Ext.refl w5).alloc _
              have hl5 : [m.id, if (s3.D 0).on = true then 1 else 0, ((s3.D 0).per % 256 : Nat), 0] = [m.id, 0, 1, 0] := by rw [o3, pr3]; rfl
              have R5 : Hid (RdB (w5.alloc (.cells #[.int .i64 1, .slice a5 4 c5] 57)) (.slice a5 4 c5) [m.id, 0, 1, 0]) := by rw [← hl5]; exact h5.out.1.ext x5
              have k5 : (w5.alloc (.cells #[.int .i64 1, .slice a5 4 c5] 57)).cell? ⟨w5.heap.size, 1, none⟩ = some (.slice a5 4 c5) := by simp [go_sem]
              have HK5 : Hid ((w5.alloc (.cells #[.int .i64 1, .slice a5 4 c5] 57)).cell? ⟨w5.heap.size, 1, none⟩ = some (.slice a5 4 c5)) := k5
              have HDv := hd_any (g5.ext x5) r5
              have ond : (s5.D 0).on = false := by rw [e5]; exact o3
              have ped : (s5.D 0).per = 1 := by rw [e5]; exact pr3
              have HON : Hid ((s5.D 0).on = false ∧ (s5.D 0).per = 1) := ⟨ond, ped⟩
              unfold Dv.told at HDv
              rw [ond, ped] at HDv
              generalize w5.alloc (.cells #[.int .i64 1, .slice a5 4 c5] 57) = W5 at *
              generalize w5.heap.size = V5 at *
              clear h5 g5 x5 hl5 e5 o3 pr3 r3 HD2 hR k5 ond ped
              generalize s5.D 0 = d5 at *
              go_upto_region 19 with (go_at_call 17; refine HDv.mono ?_; rintro e w6 ⟨rfl, g6, y6⟩)
              have x7 : Ext w6 (w6.alloc (.cells #[.int .i64 d5.addr, .bool false, .int .i64 1, .int .i64 d5.q.length, .int .i64 d5.lost, .int .i64 d5.next] 51)) := (Ext.refl w6).alloc _
              have G7 := g6.ext x7
              have y7 := y6.trans x7
              obtain ⟨p0, p1, p2⟩ := HS.out.ext G7.x
              obtain ⟨m0, m1⟩ := HM0.out _ G7.x
              have k7 := y7.keepc HK5.out
              have v1 : (w6.alloc (.cells #[.int .i64 d5.addr, .bool false, .int .i64 1, .int .i64 d5.q.length, .int .i64 d5.lost, .int .i64 d5.next] 51)).cell? ⟨w6.heap.size, 1, none⟩ = some (.bool false) := by simp [go_sem]
              have v2 : (w6.alloc (.cells #[.int .i64 d5.addr, .bool false, .int .i64 1, .int .i64 d5.q.length, .int .i64 d5.lost, .int .i64 d5.next] 51)).cell? ⟨w6.heap.size, 2, none⟩ = some (.int .i64 1) := by simp [go_sem]
              have HR7 : Hid (RdB (w6.alloc (.cells #[.int .i64 d5.addr, .bool false, .int .i64 1, .int .i64 d5.q.length, .int .i64 d5.lost, .int .i64 d5.next] 51)) (.slice a5 4 c5) [m.id, 0, 1, 0]) := R5.out.ext y7
              have HX7 : Hid (Ext w (w6.alloc (.cells #[.int .i64 d5.addr, .bool false, .int .i64 1, .int .i64 d5.q.length, .int .i64 d5.lost, .int .i64 d5.next] 51))) := HX0.out.trans G7.x
              have hw8 : IntKind.u8.wrap m.id = m.id := by rw [IntKind.wrap_u8]; omega
              generalize (w6.alloc (.cells #[.int .i64 d5.addr, .bool false, .int .i64 1, .int .i64 d5.q.length, .int .i64 d5.lost, .int .i64 d5.next] 51)) = W7 at *
              generalize w6.heap.size = V7 at *
              have HKP : Hid (∀ w', Ext W7 w' → w'.cell? ⟨V5, 1, none⟩ = some (.slice a5 4 c5) ∧ w'.cell? ⟨B, 0, none⟩ = some (.slice (some ⟨b1, o1, none⟩) M.length cm) ∧ w'.cell? ⟨b1, o1 + 1, none⟩ = some (.int .i64 m.id) ∧ w'.cell? ⟨V7, 1, none⟩ = some (.bool false) ∧ w'.cell? ⟨V7, 2, none⟩ = some (.int .i64 1)) := fun w' x9 => ⟨x9.keepc k7, x9.keepc p0, x9.keepc m1, x9.keepc v1, x9.keepc v2⟩
              have HE : Hid (∀ W, Ext W7 W → Calls Try.prog 26 #[.slice a5 4 c5, .slice (some ⟨W.heap.size, 0, none⟩) 4 4] (W.alloc (.cells #[.int .u8 m.id, .int .u8 0, .int .u8 1, .int .u8 0] Eb)) fun e w' => e = .returned (.bool true) ∧ Hid (Ext W7 w') ∧ w'.cell? ⟨V5, 1, none⟩ = some (.slice a5 4 c5) ∧ w'.cell? ⟨B, 0, none⟩ = some (.slice (some ⟨b1, o1, none⟩) M.length cm) ∧ w'.cell? ⟨b1, o1 + 1, none⟩ = some (.int .i64 m.id) ∧ w'.cell? ⟨V7, 1, none⟩ = some (.bool false) ∧ w'.cell? ⟨V7, 2, none⟩ = some (.int .i64 1)) := fun W xW => by
                refine (lit4 HR7.out rfl xW).mono ?_
                rintro e w' ⟨rfl, xx⟩
                exact ⟨rfl, xW.trans xx, HKP.out _ (xW.trans xx)⟩
              have HWK : Hid (∀ W, Ext W7 W → Calls Try.prog 12 #[] W fun e w' => e = .returned (.bool true) ∧ Hid (Ext W7 w') ∧ w'.cell? ⟨V5, 1, none⟩ = some (.slice a5 4 c5) ∧ w'.cell? ⟨B, 0, none⟩ = some (.slice (some ⟨b1, o1, none⟩) M.length cm) ∧ w'.cell? ⟨b1, o1 + 1, none⟩ = some (.int .i64 m.id) ∧ w'.cell? ⟨V7, 1, none⟩ = some (.bool false) ∧ w'.cell? ⟨V7, 2, none⟩ = some (.int .i64 1)) := fun W xW => by
                refine (wakes_any W).mono ?_
                rintro e w' ⟨rfl, xx⟩
                exact ⟨rfl, xW.trans xx, HKP.out _ (xW.trans xx)⟩
              have HX1 : Hid (Ext W7 W7.drew) := (Ext.refl W7).drew
              have ltB : B < W7.heap.size := World.block_lt_of_cell? W7 ⟨B, 0, none⟩ p0
              have ltb : b1 < W7.heap.size := World.block_lt_of_cell? W7 ⟨b1, o1, none⟩ m0
              have ltV : V5 < W7.heap.size := World.block_lt_of_cell? W7 ⟨V5, 1, none⟩ k7
              have ltW : V7 < W7.heap.size := World.block_lt_of_cell? W7 ⟨V7, 1, none⟩ v1
              have ne1 := Nat.ne_of_lt ltV
              have ne2 := Nat.ne_of_gt ltV
              have ne3 := Nat.ne_of_lt ltB
              have ne4 := Nat.ne_of_gt ltB
              have ne5 := Nat.ne_of_lt ltb
              have ne6 := Nat.ne_of_gt ltb
              have ne7 := Nat.ne_of_lt ltW
              have ne8 := Nat.ne_of_gt ltW
              have hMl : (0 : Int) < (M.length : Int) := by have := HMlen.out; omega
              clear G7 x7 y7 y6 g6 ltB ltb ltV ltW hid HDv R5 HK5 p1 p2 m0 HKP
              go_region_held3 (fun w' => w'.cell? ⟨V5, 1, none⟩ = some (.slice a5 4 c5) ∧ w'.cell? ⟨B, 0, none⟩ = some (.slice (some ⟨b1, o1, none⟩) M.length cm) ∧ w'.cell? ⟨b1, o1 + 1, none⟩ = some (.int .i64 m.id) ∧ w'.cell? ⟨V7, 1, none⟩ = some (.bool false) ∧ w'.cell? ⟨V7, 2, none⟩ = some (.int .i64 1)) (first | (go_keep; done) | skip) (first | (go_at_call 11; refine (HNU.out _ _).mono ?_; rintro e wx ⟨rfl, hwx⟩; have hwy := hwx.symm; clear hwx; subst hwy) | (go_at_call 26; refine (HE.out _ HX1.out).mono ?_; rintro e w8 ⟨rfl, x8, t1, t2, t3, t4, t5⟩) | (go_at_call 12; refine (HWK.out _ x8.out).mono ?_; rintro e w9 ⟨rfl, x9, z1, z2, z3, z4, z5⟩))
              go_wp2_with fail
              go_ret
              exact ⟨rfl, HX7.out.trans x9.out⟩
          · have hlti : ¬ (k : Int) < (L.length : Int) := by omega
            have hltb : decide ((k : Int) < (L.length : Int)) = false := by simpa using hlti
            go_upto_region 16 with fail
            clear p0 p1 p2
            have HD1 := hs_any hR.out.1 hR.out.2 HMO.out
            go_upto_region 17 with (go_at_call 19; refine HD1.mono ?_; rintro e w3 ⟨a3, c3, rfl, h3⟩)
            obtain ⟨s3, g3, r3, o3, pr3⟩ := h3.out
            have x3 : Ext w3 (w3.alloc (.cells #[.int .i64 1, .slice a3 0 c3] 57)) := (Ext.refl w3).alloc _
            have HD2 := hr_any (g3.ext x3) r3 HMO.out
            generalize w3.alloc (.cells #[.int .i64 1, .slice a3 0 c3] 57) = w4 at *
            clear HD1 x3 g3 h3
            go_upto_region 18 with (go_at_call 19; refine HD2.mono ?_; rintro e w5 ⟨a5, c5, rfl, h5⟩)
            obtain ⟨s5, g5, r5, e5⟩ := h5.out.2
            have x5 : Ext w5 (w5.alloc (.cells #[.int .i64 1, .slice a5 4 c5] 57)) := (Ext.refl w5).alloc _
            have hl5 : [m.id, if (s3.D 0).on = true then 1 else 0, ((s3.D 0).per % 256 : Nat), 0] = [m.id, 0, 1, 0] := by rw [o3, pr3]; rfl
            have R5 : Hid (RdB (w5.alloc (.cells #[.int .i64 1, .slice a5 4 c5] 57)) (.slice a5 4 c5) [m.id, 0, 1, 0]) := by rw [← hl5]; exact h5.out.1.ext x5
            have k5 : (w5.alloc (.cells #[.int .i64 1, .slice a5 4 c5] 57)).cell? ⟨w5.heap.size, 1, none⟩ = some (.slice a5 4 c5) := by simp [go_sem]
            have HK5 : Hid ((w5.alloc (.cells #[.int .i64 1, .slice a5 4 c5] 57)).cell? ⟨w5.heap.size, 1, none⟩ = some (.slice a5 4 c5)) := k5
            have HDv := hd_any (g5.ext x5) r5
            have ond : (s5.D 0).on = false := by rw [e5]; exact o3
            have ped : (s5.D 0).per = 1 := by rw [e5]; exact pr3
            have HON : Hid ((s5.D 0).on = false ∧ (s5.D 0).per = 1) := ⟨ond, ped⟩
            unfold Dv.told at HDv
            rw [ond, ped] at HDv
            generalize w5.alloc (.cells #[.int .i64 1, .slice a5 4 c5] 57) = W5 at *
            generalize w5.heap.size = V5 at *
            clear h5 g5 x5 hl5 e5 o3 pr3 r3 HD2 hR k5 ond ped
            generalize s5.D 0 = d5 at *
            go_upto_region 19 with (go_at_call 17; refine HDv.mono ?_; rintro e w6 ⟨rfl, g6, y6⟩)
            have x7 : Ext w6 (w6.alloc (.cells #[.int .i64 d5.addr, .bool false, .int .i64 1, .int .i64 d5.q.length, .int .i64 d5.lost, .int .i64 d5.next] 51)) := (Ext.refl w6).alloc _
            have G7 := g6.ext x7
            have y7 := y6.trans x7
            obtain ⟨p0, p1, p2⟩ := HS.out.ext G7.x
            obtain ⟨m0, m1⟩ := HM0.out _ G7.x
            have k7 := y7.keepc HK5.out
            have v1 : (w6.alloc (.cells #[.int .i64 d5.addr, .bool false, .int .i64 1, .int .i64 d5.q.length, .int .i64 d5.lost, .int .i64 d5.next] 51)).cell? ⟨w6.heap.size, 1, none⟩ = some (.bool false) := by simp [go_sem]
            have v2 : (w6.alloc (.cells #[.int .i64 d5.addr, .bool false, .int .i64 1, .int .i64 d5.q.length, .int .i64 d5.lost, .int .i64 d5.next] 51)).cell? ⟨w6.heap.size, 2, none⟩ = some (.int .i64 1) := by simp [go_sem]
            have HR7 : Hid (RdB (w6.alloc (.cells #[.int .i64 d5.addr, .bool false, .int .i64 1, .int .i64 d5.q.length, .int .i64 d5.lost, .int .i64 d5.next] 51)) (.slice a5 4 c5) [m.id, 0, 1, 0]) := R5.out.ext y7
            have HX7 : Hid (Ext w (w6.alloc (.cells #[.int .i64 d5.addr, .bool false, .int .i64 1, .int .i64 d5.q.length, .int .i64 d5.lost, .int .i64 d5.next] 51))) := HX0.out.trans G7.x
            have hw8 : IntKind.u8.wrap m.id = m.id := by rw [IntKind.wrap_u8]; omega
            generalize (w6.alloc (.cells #[.int .i64 d5.addr, .bool false, .int .i64 1, .int .i64 d5.q.length, .int .i64 d5.lost, .int .i64 d5.next] 51)) = W7 at *
            generalize w6.heap.size = V7 at *
            have HKP : Hid (∀ w', Ext W7 w' → w'.cell? ⟨V5, 1, none⟩ = some (.slice a5 4 c5) ∧ w'.cell? ⟨B, 0, none⟩ = some (.slice (some ⟨b1, o1, none⟩) M.length cm) ∧ w'.cell? ⟨b1, o1 + 1, none⟩ = some (.int .i64 m.id) ∧ w'.cell? ⟨V7, 1, none⟩ = some (.bool false) ∧ w'.cell? ⟨V7, 2, none⟩ = some (.int .i64 1)) := fun w' x9 => ⟨x9.keepc k7, x9.keepc p0, x9.keepc m1, x9.keepc v1, x9.keepc v2⟩
            have HE : Hid (∀ W, Ext W7 W → Calls Try.prog 26 #[.slice a5 4 c5, .slice (some ⟨W.heap.size, 0, none⟩) 4 4] (W.alloc (.cells #[.int .u8 m.id, .int .u8 0, .int .u8 1, .int .u8 0] Eb)) fun e w' => e = .returned (.bool true) ∧ Hid (Ext W7 w') ∧ w'.cell? ⟨V5, 1, none⟩ = some (.slice a5 4 c5) ∧ w'.cell? ⟨B, 0, none⟩ = some (.slice (some ⟨b1, o1, none⟩) M.length cm) ∧ w'.cell? ⟨b1, o1 + 1, none⟩ = some (.int .i64 m.id) ∧ w'.cell? ⟨V7, 1, none⟩ = some (.bool false) ∧ w'.cell? ⟨V7, 2, none⟩ = some (.int .i64 1)) := fun W xW => by
              refine (lit4 HR7.out rfl xW).mono ?_
              rintro e w' ⟨rfl, xx⟩
              exact ⟨rfl, xW.trans xx, HKP.out _ (xW.trans xx)⟩
            have HWK : Hid (∀ W, Ext W7 W → Calls Try.prog 12 #[] W fun e w' => e = .returned (.bool true) ∧ Hid (Ext W7 w') ∧ w'.cell? ⟨V5, 1, none⟩ = some (.slice a5 4 c5) ∧ w'.cell? ⟨B, 0, none⟩ = some (.slice (some ⟨b1, o1, none⟩) M.length cm) ∧ w'.cell? ⟨b1, o1 + 1, none⟩ = some (.int .i64 m.id) ∧ w'.cell? ⟨V7, 1, none⟩ = some (.bool false) ∧ w'.cell? ⟨V7, 2, none⟩ = some (.int .i64 1)) := fun W xW => by
              refine (wakes_any W).mono ?_
              rintro e w' ⟨rfl, xx⟩
              exact ⟨rfl, xW.trans xx, HKP.out _ (xW.trans xx)⟩
            have HX1 : Hid (Ext W7 W7.drew) := (Ext.refl W7).drew
            have ltB : B < W7.heap.size := World.block_lt_of_cell? W7 ⟨B, 0, none⟩ p0
            have ltb : b1 < W7.heap.size := World.block_lt_of_cell? W7 ⟨b1, o1, none⟩ m0
            have ltV : V5 < W7.heap.size := World.block_lt_of_cell? W7 ⟨V5, 1, none⟩ k7
            have ltW : V7 < W7.heap.size := World.block_lt_of_cell? W7 ⟨V7, 1, none⟩ v1
            have ne1 := Nat.ne_of_lt ltV
            have ne2 := Nat.ne_of_gt ltV
            have ne3 := Nat.ne_of_lt ltB
            have ne4 := Nat.ne_of_gt ltB
            have ne5 := Nat.ne_of_lt ltb
            have ne6 := Nat.ne_of_gt ltb
            have ne7 := Nat.ne_of_lt ltW
            have ne8 := Nat.ne_of_gt ltW
            have hMl : (0 : Int) < (M.length : Int) := by have := HMlen.out; omega
            clear G7 x7 y7 y6 g6 ltB ltb ltV ltW hid HDv R5 HK5 p1 p2 m0 HKP
            go_region_held3 (fun w' => w'.cell? ⟨V5, 1, none⟩ = some (.slice a5 4 c5) ∧ w'.cell? ⟨B, 0, none⟩ = some (.slice (some ⟨b1, o1, none⟩) M.length cm) ∧ w'.cell? ⟨b1, o1 + 1, none⟩ = some (.int .i64 m.id) ∧ w'.cell? ⟨V7, 1, none⟩ = some (.bool false) ∧ w'.cell? ⟨V7, 2, none⟩ = some (.int .i64 1)) (first | (go_keep; done) | skip) (first | (go_at_call 11; refine (HNU.out _ _).mono ?_; rintro e wx ⟨rfl, hwx⟩; have hwy := hwx.symm; clear hwx; subst hwy) | (go_at_call 26; refine (HE.out _ HX1.out).mono ?_; rintro e w8 ⟨rfl, x8, t1, t2, t3, t4, t5⟩) | (go_at_call 12; refine (HWK.out _ x8.out).mono ?_; rintro e w9 ⟨rfl, x9, z1, z2, z3, z4, z5⟩))
            go_wp2_with fail
            go_ret
            exact ⟨rfl, HX7.out.trans x9.out⟩
  · go_wp2_with (go_at_call 7; refine HH.mono ?_; rintro e wx ⟨rfl, hwx⟩; have hwy := hwx.symm; clear hwx; subst hwy)
    go_ret
    exact ⟨rfl, HX0.out⟩
end Go.Proofs.Ytadgaolakbnhcaa
