/- TiltAway. -/
import Derived.Test.YtbmocnigmpmfkaaTl2
namespace Go.Proofs.Ytbmocnigmpmfkaa
open Go.RowKit Go.Shelf
/-- up, or north -/
def PP (p q : Int) : Prop := p = 0 ∧ q = 1073741824 ∨ p = 1073741824 ∧ q = 0
theorem PP.sw {p q : Int} (h : PP p q) : PP q p := by unfold PP at *; omega
theorem PP.ok {p q : Int} (h : PP p q) : okD3 0 p q = true := by
  unfold PP at h
  exact okD3_of (by omega) (by omega) (by omega)
theorem PP.same {p q : Int} (h : PP p q) : nearQ (dot3 0 p q 0 p q) = 1073741824 := by
  rcases h with ⟨rfl, rfl⟩ | ⟨rfl, rfl⟩ <;> (unfold dot3 nearQ oddQ; omega)
theorem PP.far {p q : Int} (h : PP p q) : nearQ (dot3 0 p q 0 q p) = 0 := by
  rcases h with ⟨rfl, rfl⟩ | ⟨rfl, rfl⟩ <;> (unfold dot3 nearQ oddQ; omega)
/-- between rounds -/
def AI (p q : Int) (aw : Bool) (N g s : Int) (k : Nat) : Prop :=
  PP p q ∧ 0 ≤ N ∧ N ≤ 899 * k ∧ k ≤ 80 ∧ (aw = true ∧ 0 ≤ g ∧ g ≤ N ∧ s = g ∨ aw = false ∧ g = -1 ∧ s = 0)
theorem st_ok {p q s n : Int} {a : Bool} (h : PP p q) (hs : 0 ≤ s ∧ s ≤ n) (hn : n ≤ 100000) (ha : a = false → s = 0) : okTl true 0 p q s a = true := okTl_of h.ok (by omega) ha
theorem same_take {p q s n : Int} {a : Bool} (h : PP p q) (hs : 0 ≤ s ∧ s ≤ n) (hn : n ≤ 100000) (ha : a = false → s = 0) (w : World) : Calls Try.prog 8 #[.agg #[.bool true, .int .i64 0, .int .i64 p, .int .i64 q, .int .i64 s, .bool a], .agg #[.int .i64 0, .int .i64 p, .int .i64 q], .int .i64 n] w fun e w' => e = .returned (.tuple #[.agg #[.bool true, .int .i64 0, .int .i64 p, .int .i64 q, .int .i64 0, .bool false], .bool false, .int .i64 0]) ∧ Ext w w' :=
  take_in 0 p q s a 0 p q n _ w (st_ok h hs hn ha) h.ok (okTm_iff.2 (by omega)) (by omega) (fun w => vdot_told h.ok h.ok w) (by rw [h.same]; decide)
theorem begin_take {p q n : Int} (h : PP p q) (hs : 0 ≤ n) (hn : n ≤ 100000) (w : World) : Calls Try.prog 8 #[.agg #[.bool true, .int .i64 0, .int .i64 p, .int .i64 q, .int .i64 0, .bool false], .agg #[.int .i64 0, .int .i64 q, .int .i64 p], .int .i64 n] w fun e w' => e = .returned (.tuple #[.agg #[.bool true, .int .i64 0, .int .i64 p, .int .i64 q, .int .i64 n, .bool true], .bool false, .int .i64 0]) ∧ Ext w w' :=
  take_out 0 p q 0 0 q p n _ w (st_ok (n := n) h (by omega) hn (fun _ => rfl)) h.sw.ok (okTm_iff.2 (by omega)) (by omega) (fun w => vdot_told h.ok h.sw.ok w) (by rw [h.far]; decide)
theorem tell_take {p q s n : Int} (h : PP p q) (hs : 0 ≤ s ∧ s ≤ n) (hn : n ≤ 100000) (hd : 2000 ≤ n - s) (w : World) : Calls Try.prog 8 #[.agg #[.bool true, .int .i64 0, .int .i64 p, .int .i64 q, .int .i64 s, .bool true], .agg #[.int .i64 0, .int .i64 q, .int .i64 p], .int .i64 n] w fun e w' => e = .returned (.tuple #[.agg #[.bool true, .int .i64 0, .int .i64 q, .int .i64 p, .int .i64 0, .bool false], .bool true, .int .i64 0]) ∧ Ext w w' :=
  take_tell 0 p q s 0 q p n _ w (st_ok h hs hn (fun h => by cases h)) h.sw.ok (okTm_iff.2 (by omega)) (by omega) (fun w => vdot_told h.ok h.sw.ok w) (by rw [h.far]; decide) hd
theorem stay_take {p q s n : Int} (h : PP p q) (hs : 0 ≤ s ∧ s ≤ n) (hn : n ≤ 100000) (hd : n - s < 2000) (w : World) : Calls Try.prog 8 #[.agg #[.bool true, .int .i64 0, .int .i64 p, .int .i64 q, .int .i64 s, .bool true], .agg #[.int .i64 0, .int .i64 q, .int .i64 p], .int .i64 n] w fun e w' => e = .returned (.tuple #[.agg #[.bool true, .int .i64 0, .int .i64 p, .int .i64 q, .int .i64 s, .bool true], .bool false, .int .i64 0]) ∧ Ext w w' :=
  take_stay 0 p q s 0 q p n _ w (st_ok h hs hn (fun h => by cases h)) h.sw.ok (okTm_iff.2 (by omega)) (by omega) (fun w => vdot_told h.ok h.sw.ok w) (by rw [h.far]; decide) hd
set_option maxRecDepth 20000 in
set_option maxHeartbeats 40000000 in
theorem tiltaway_any (b off len cap : Nat) (C : Nat → Nat → Value) (w : World) (hl : len ≤ maxLen) (hc : ML 10 (fun j => j == 0 || j == 5) w b off len C) :
    Calls Try.prog 5 #[.slice (some ⟨b, off, none⟩) len cap] w fun e w' => e = .returned (.bool true) ∧ Ext w w' := by
  have hl' : len ≤ 9223372036854775807 := by unfold maxLen at hl; omega
  clear hl
  have HA0 : Hid (∀ w, Calls Try.prog 8 #[.agg #[.bool false, .int .i64 0, .int .i64 0, .int .i64 0, .int .i64 0, .bool false], .agg #[.int .i64 0, .int .i64 0, .int .i64 1073741824], .int .i64 0] w fun e w' => e = .returned (.tuple #[.agg #[.bool true, .int .i64 0, .int .i64 0, .int .i64 1073741824, .int .i64 0, .bool false], .bool false, .int .i64 0]) ∧ Ext w w') := fun w => take_off 0 0 1073741824 0 w (by kernel_rfl) (by kernel_rfl)
  have Fa : Hid (HV ((w.alloc (.cells #[.int .i64 0, .int .i64 0, .int .i64 1073741824] 24)).alloc (.cells #[.int .i64 0, .int .i64 1073741824, .int .i64 0] 24)) w.heap.size [.int .i64 0, .int .i64 0, .int .i64 1073741824]) := (hv_at rfl).alloc _
  have Fb : Hid (HV ((w.alloc (.cells #[.int .i64 0, .int .i64 0, .int .i64 1073741824] 24)).alloc (.cells #[.int .i64 0, .int .i64 1073741824, .int .i64 0] 24)) (w.heap.size + 1) [.int .i64 0, .int .i64 1073741824, .int .i64 0]) := hv_at (by simp)
  have FX : Hid (Ext w ((w.alloc (.cells #[.int .i64 0, .int .i64 0, .int .i64 1073741824] 24)).alloc (.cells #[.int .i64 0, .int .i64 1073741824, .int .i64 0] 24))) := ((Ext.refl _).alloc _).alloc _
  have La : Hid (w.heap.size ≤ w.heap.size) := Nat.le_refl _
  have Lb : Hid (w.heap.size ≤ w.heap.size + 1) := Nat.le_add_right _ _
  have ltab : w.heap.size < w.heap.size + 1 := by omega
  go_enter Try.func5, Try.ntmps5
  go_upto_region 3 with fail
  generalize ((w.alloc (.cells #[.int .i64 0, .int .i64 0, .int .i64 1073741824] 24)).alloc (.cells #[.int .i64 0, .int .i64 1073741824, .int .i64 0] 24)) = wa at *
  generalize w.heap.size + 1 = nb at *
  have qa0 : wa.cell? ⟨w.heap.size, 0, none⟩ = some (.int .i64 0) := Fa.out.c 0 rfl
  have qa1 : wa.cell? ⟨w.heap.size, 1, none⟩ = some (.int .i64 0) := Fa.out.c 1 rfl
  have qa2 : wa.cell? ⟨w.heap.size, 2, none⟩ = some (.int .i64 1073741824) := Fa.out.c 2 rfl
  go_upto_region 4 with (first | (go_at_call 8; refine (HA0.out _).mono ?_; rintro e w1 ⟨rfl, x1⟩))
  have Fa : Hid (HV w1 w.heap.size [.int .i64 0, .int .i64 0, .int .i64 1073741824]) := Fa.out.ext x1
  have Fb : Hid (HV w1 nb [.int .i64 0, .int .i64 1073741824, .int .i64 0]) := Fb.out.ext x1
  have FX : Hid (Ext w w1) := FX.out.trans x1
  clear qa0 qa1 qa2 x1 HA0
  have ltat : w.heap.size < w1.heap.size := Fa.out.1
  have ltbt : nb < w1.heap.size := Fb.out.1
  have Lt : Hid (w.heap.size ≤ w1.heap.size) := FX.out.size
  have Fa : Hid (HV (w1.alloc (.cells #[.bool true, .int .i64 0, .int .i64 0, .int .i64 1073741824, .int .i64 0, .bool false] 26)) w.heap.size [.int .i64 0, .int .i64 0, .int .i64 1073741824]) := Fa.out.alloc _
  have Fb : Hid (HV (w1.alloc (.cells #[.bool true, .int .i64 0, .int .i64 0, .int .i64 1073741824, .int .i64 0, .bool false] 26)) nb [.int .i64 0, .int .i64 1073741824, .int .i64 0]) := Fb.out.alloc _
  have Ft : Hid (HV (w1.alloc (.cells #[.bool true, .int .i64 0, .int .i64 0, .int .i64 1073741824, .int .i64 0, .bool false] 26)) w1.heap.size [.bool true, .int .i64 0, .int .i64 0, .int .i64 1073741824, .int .i64 0, .bool false]) := hv_at rfl
  have FX : Hid (Ext w (w1.alloc (.cells #[.bool true, .int .i64 0, .int .i64 0, .int .i64 1073741824, .int .i64 0, .bool false] 26))) := FX.out.alloc _
  generalize (w1.alloc (.cells #[.bool true, .int .i64 0, .int .i64 0, .int .i64 1073741824, .int .i64 0, .bool false] 26)) = wx1 at *
  generalize w1.heap.size = nt at *
  have Fa0 := Fa.out
  have Fb0 := Fb.out
  have Ft0 := Ft.out
  clear Fa0 Fb0 Ft0
  go_upto_region 6 with (go_at_call 9; refine (num19_any _ _).mono ?_; rintro e wx ⟨rfl, hwx⟩; have hwy := hwx.symm; clear hwx; subst hwy)
  go_wp2_with fail
  have D0 : Hid (AI 0 1073741824 false 0 (-1) 0 0) := ⟨Or.inl ⟨rfl, rfl⟩, by omega, by omega, by omega, Or.inr ⟨rfl, rfl, rfl⟩⟩
  go_loopw [8, 9, 10] (fun vN vg vi wr => ∃ (k : Nat) (p q N g s : Int) (aw : Bool), k ≤ len ∧ vi = .int .i64 k ∧ vN = .int .i64 N ∧ vg = .int .i64 g ∧ Hid (AI p q aw N g s k) ∧ Hid (HV wr w.heap.size [.int .i64 0, .int .i64 p, .int .i64 q]) ∧ Hid (HV wr nb [.int .i64 0, .int .i64 q, .int .i64 p]) ∧ Hid (HV wr nt [.bool true, .int .i64 0, .int .i64 p, .int .i64 q, .int .i64 s, .bool aw]) ∧ Hid (Ext w wr)) (fun _ _ i _ => len - (intOf i).toNat)
  case atStart => exact ⟨0, 0, 1073741824, 0, -1, 0, false, Nat.zero_le _, rfl, rfl, rfl, D0, Fa, Fb, Ft, FX⟩
  case round =>
    clear D0 Fa Fb Ft FX
    obtain ⟨k, p, q, N, g, s, aw, hk, rfl, rfl, rfl, HD, Fa, Fb, Ft, FX⟩ := hrel
    by_cases hlt : k < len
    · by_cases h5 : k < 80
      · skip
        obtain ⟨za, h6, _⟩ := hc.num hlt (j := 6) (by omega) rfl
        obtain ⟨zn, h9, _⟩ := hc.num hlt (j := 9) (by omega) rfl
        have hlt' : (k : Int) < (len : Int) := by omega
        clear hc
        have HN : Hid (∀ w, Calls Try.prog 6 #[.int .i64 zn, .int .i64 900] w fun e w' => e = .returned (.int .i64 (zn % 18446744073709551616 % 900)) ∧ w' = w) := within_900 zn
        have Bm : Hid (0 ≤ zn % 18446744073709551616 % 900 ∧ zn % 18446744073709551616 % 900 ≤ 899) := ⟨by omega, by omega⟩
        generalize zn % 18446744073709551616 % 900 = m at *
        have HN3 : Hid (∀ w, Calls Try.prog 6 #[.int .i64 za, .int .i64 3] w fun e w' => e = .returned (.int .i64 (za % 18446744073709551616 % 3)) ∧ w' = w) := within_3 za
        have Be : Hid (0 ≤ za % 18446744073709551616 % 3 ∧ za % 18446744073709551616 % 3 ≤ 2) := ⟨by omega, by omega⟩
        generalize za % 18446744073709551616 % 3 = e at *
        have eq : wrap64 (N + m) = N + m := by
          have h := HD.out.2
          have hm := Bm.out
          unfold wrap64; omega
        have HM : Hid (0 ≤ N + m ∧ N + m ≤ 899 * (k + 1 : Nat) ∧ N + m ≤ 100000 ∧ N ≤ N + m) := by
          have h := HD.out.2
          have hm := Bm.out
          exact ⟨by omega, by omega, by omega, by omega⟩
        have c9 := FX.out.keepc h9
        go_upto_region 12 with (first | (go_at_call 6; refine (HN.out _).mono ?_; rintro e wx ⟨rfl, hwx⟩; have hwy := hwx.symm; clear hwx; subst hwy))
        try rw [eq]
        clear c9 HN eq Bm
        generalize N + m = n at *
        have c6 := FX.out.keepc h6
        go_upto_region 13 with (first | (go_at_call 6; refine (HN3.out _).mono ?_; rintro e wx ⟨rfl, hwx⟩; have hwy := hwx.symm; clear hwx; subst hwy))
        clear c6 HN3 h6 h9
        have qa0 : wr.cell? ⟨w.heap.size, 0, none⟩ = some (.int .i64 0) := Fa.out.c 0 rfl
        have qa1 : wr.cell? ⟨w.heap.size, 1, none⟩ = some (.int .i64 p) := Fa.out.c 1 rfl
        have qa2 : wr.cell? ⟨w.heap.size, 2, none⟩ = some (.int .i64 q) := Fa.out.c 2 rfl
        go_upto_region 14 with fail
        clear qa0 qa1 qa2
        have ltav : w.heap.size < wr.heap.size := Fa.out.1
        have ltbv : nb < wr.heap.size := Fb.out.1
        have lttv : nt < wr.heap.size := Ft.out.1
        have Lv : Hid (w.heap.size ≤ wr.heap.size) := FX.out.size
        have Fa : Hid (HV (wr.alloc (.cells #[.int .i64 0, .int .i64 p, .int .i64 q] 24)) w.heap.size [.int .i64 0, .int .i64 p, .int .i64 q]) := Fa.out.alloc _
        have Fb : Hid (HV (wr.alloc (.cells #[.int .i64 0, .int .i64 p, .int .i64 q] 24)) nb [.int .i64 0, .int .i64 q, .int .i64 p]) := Fb.out.alloc _
        have Ft : Hid (HV (wr.alloc (.cells #[.int .i64 0, .int .i64 p, .int .i64 q] 24)) nt [.bool true, .int .i64 0, .int .i64 p, .int .i64 q, .int .i64 s, .bool aw]) := Ft.out.alloc _
        have Fv : Hid (HV (wr.alloc (.cells #[.int .i64 0, .int .i64 p, .int .i64 q] 24)) wr.heap.size [.int .i64 0, .int .i64 p, .int .i64 q]) := hv_at rfl
        have FX : Hid (Ext w (wr.alloc (.cells #[.int .i64 0, .int .i64 p, .int .i64 q] 24))) := FX.out.alloc _
        generalize (wr.alloc (.cells #[.int .i64 0, .int .i64 p, .int .i64 q] 24)) = wx1 at *
        generalize wr.heap.size = nv at *
        by_cases he : e = 0
        · have d1 : decide (0 < e) = false := by simp; omega
          have ne : ¬ (0 < e) := by omega
          have HS : Hid (AI p q false n (-1) 0 (k + 1)) := by
            have hm := HM.out
            have hp := HD.out.1
            exact ⟨hp, hm.1, hm.2.1, by omega, Or.inr ⟨rfl, rfl, rfl⟩⟩
          have HT : Hid (∀ w, Calls Try.prog 8 #[.agg #[.bool true, .int .i64 0, .int .i64 p, .int .i64 q, .int .i64 s, .bool aw], .agg #[.int .i64 0, .int .i64 p, .int .i64 q], .int .i64 n] w fun e w' => e = .returned (.tuple #[.agg #[.bool true, .int .i64 0, .int .i64 p, .int .i64 q, .int .i64 0, .bool false], .bool false, .int .i64 0]) ∧ Ext w w') := fun w => same_take HD.out.1 (by have h := HD.out.2; have hm := HM.out; omega) HM.out.2.2.1 (by intro ha; have h := HD.out.2.2.2.2; subst ha; simp at h; omega) w
          clear HD HM Be he
          go_upto_region 16 with fail
          have qt0 : wx1.cell? ⟨nt, 0, none⟩ = some (.bool true) := Ft.out.c 0 rfl
          have qt1 : wx1.cell? ⟨nt, 1, none⟩ = some (.int .i64 0) := Ft.out.c 1 rfl
          have qt2 : wx1.cell? ⟨nt, 2, none⟩ = some (.int .i64 p) := Ft.out.c 2 rfl
          have qt3 : wx1.cell? ⟨nt, 3, none⟩ = some (.int .i64 q) := Ft.out.c 3 rfl
          have qt4 : wx1.cell? ⟨nt, 4, none⟩ = some (.int .i64 s) := Ft.out.c 4 rfl
          have qt5 : wx1.cell? ⟨nt, 5, none⟩ = some (.bool aw) := Ft.out.c 5 rfl
          have qv0 : wx1.cell? ⟨nv, 0, none⟩ = some (.int .i64 0) := Fv.out.c 0 rfl
          have qv1 : wx1.cell? ⟨nv, 1, none⟩ = some (.int .i64 p) := Fv.out.c 1 rfl
          have qv2 : wx1.cell? ⟨nv, 2, none⟩ = some (.int .i64 q) := Fv.out.c 2 rfl
          go_upto_region 17 with (first | (go_at_call 8; refine (HT.out _).mono ?_; rintro e w2 ⟨rfl, x2⟩))
          have Fa : Hid (HV w2 w.heap.size [.int .i64 0, .int .i64 p, .int .i64 q]) := Fa.out.ext x2
          have Fb : Hid (HV w2 nb [.int .i64 0, .int .i64 q, .int .i64 p]) := Fb.out.ext x2
          have Ft : Hid (HV w2 nt [.bool true, .int .i64 0, .int .i64 p, .int .i64 q, .int .i64 s, .bool aw]) := Ft.out.ext x2
          have Fv : Hid (HV w2 nv [.int .i64 0, .int .i64 p, .int .i64 q]) := Fv.out.ext x2
          have FX : Hid (Ext w w2) := FX.out.trans x2
          clear qt0 qt1 qt2 qt3 qt4 qt5 qv0 qv1 qv2 x2 HT
          have ltau : w.heap.size < w2.heap.size := Fa.out.1
          have ltbu : nb < w2.heap.size := Fb.out.1
          have lttu : nt < w2.heap.size := Ft.out.1
          have ltvu : nv < w2.heap.size := Fv.out.1
          have Lu : Hid (w.heap.size ≤ w2.heap.size) := FX.out.size
          have Fa : Hid (HV (w2.alloc (.cells #[.bool true, .int .i64 0, .int .i64 p, .int .i64 q, .int .i64 0, .bool false] 26)) w.heap.size [.int .i64 0, .int .i64 p, .int .i64 q]) := Fa.out.alloc _
          have Fb : Hid (HV (w2.alloc (.cells #[.bool true, .int .i64 0, .int .i64 p, .int .i64 q, .int .i64 0, .bool false] 26)) nb [.int .i64 0, .int .i64 q, .int .i64 p]) := Fb.out.alloc _
          have Ft : Hid (HV (w2.alloc (.cells #[.bool true, .int .i64 0, .int .i64 p, .int .i64 q, .int .i64 0, .bool false] 26)) nt [.bool true, .int .i64 0, .int .i64 p, .int .i64 q, .int .i64 s, .bool aw]) := Ft.out.alloc _
          have Fv : Hid (HV (w2.alloc (.cells #[.bool true, .int .i64 0, .int .i64 p, .int .i64 q, .int .i64 0, .bool false] 26)) nv [.int .i64 0, .int .i64 p, .int .i64 q]) := Fv.out.alloc _
          have Fu : Hid (HV (w2.alloc (.cells #[.bool true, .int .i64 0, .int .i64 p, .int .i64 q, .int .i64 0, .bool false] 26)) w2.heap.size [.bool true, .int .i64 0, .int .i64 p, .int .i64 q, .int .i64 0, .bool false]) := hv_at rfl
          have FX : Hid (Ext w (w2.alloc (.cells #[.bool true, .int .i64 0, .int .i64 p, .int .i64 q, .int .i64 0, .bool false] 26))) := FX.out.alloc _
          generalize (w2.alloc (.cells #[.bool true, .int .i64 0, .int .i64 p, .int .i64 q, .int .i64 0, .bool false] 26)) = wx21 at *
          generalize w2.heap.size = nu at *
          go_upto_region 19 with (first | (go_at_call 9; refine (num19_any _ _).mono ?_; rintro e wx ⟨rfl, hwx⟩; have hwy := hwx.symm; clear hwx; subst hwy))
          have qu0 : wx21.cell? ⟨nu, 0, none⟩ = some (.bool true) := Fu.out.c 0 rfl
          have qu1 : wx21.cell? ⟨nu, 1, none⟩ = some (.int .i64 0) := Fu.out.c 1 rfl
          have qu2 : wx21.cell? ⟨nu, 2, none⟩ = some (.int .i64 p) := Fu.out.c 2 rfl
          have qu3 : wx21.cell? ⟨nu, 3, none⟩ = some (.int .i64 q) := Fu.out.c 3 rfl
          have qu4 : wx21.cell? ⟨nu, 4, none⟩ = some (.int .i64 0) := Fu.out.c 4 rfl
          have qu5 : wx21.cell? ⟨nu, 5, none⟩ = some (.bool false) := Fu.out.c 5 rfl
          have y0 : wx21.cell? ⟨nt, 0, none⟩ = some (.bool true) := Ft.out.c 0 rfl
          have g0 : wx21.frozen? ⟨nt, 0, none⟩ = false := Ft.out.f 0 rfl
          have y1 : wx21.cell? ⟨nt, 1, none⟩ = some (.int .i64 0) := Ft.out.c 1 rfl
          have g1 : wx21.frozen? ⟨nt, 1, none⟩ = false := Ft.out.f 1 rfl
          have y2 : wx21.cell? ⟨nt, 2, none⟩ = some (.int .i64 p) := Ft.out.c 2 rfl
          have g2 : wx21.frozen? ⟨nt, 2, none⟩ = false := Ft.out.f 2 rfl
          have y3 : wx21.cell? ⟨nt, 3, none⟩ = some (.int .i64 q) := Ft.out.c 3 rfl
          have g3 : wx21.frozen? ⟨nt, 3, none⟩ = false := Ft.out.f 3 rfl
          have y4 : wx21.cell? ⟨nt, 4, none⟩ = some (.int .i64 s) := Ft.out.c 4 rfl
          have g4 : wx21.frozen? ⟨nt, 4, none⟩ = false := Ft.out.f 4 rfl
          have y5 : wx21.cell? ⟨nt, 5, none⟩ = some (.bool aw) := Ft.out.c 5 rfl
          have g5 : wx21.frozen? ⟨nt, 5, none⟩ = false := Ft.out.f 5 rfl
          go_wp2_with fail
          go_roundw
          case rel => exact ⟨k + 1, p, q, n, -1, 0, false, by omega, by go_num, rfl, rfl, HS, ((((((Fa.out.far (by omega)).far (by omega)).far (by omega)).far (by omega)).far (by omega)).far (by omega)), ((((((Fb.out.far (by omega)).far (by omega)).far (by omega)).far (by omega)).far (by omega)).far (by omega)), ((((((Ft.out.set 0 (.bool true)).set 1 (.int .i64 0)).set 2 (.int .i64 p)).set 3 (.int .i64 q)).set 4 (.int .i64 0)).set 5 (.bool false)), ((((((FX.out.set (p := ⟨nt, 0, none⟩) Lt.out _).set (p := ⟨nt, 1, none⟩) Lt.out _).set (p := ⟨nt, 2, none⟩) Lt.out _).set (p := ⟨nt, 3, none⟩) Lt.out _).set (p := ⟨nt, 4, none⟩) Lt.out _).set (p := ⟨nt, 5, none⟩) Lt.out _)⟩
          case measure => simp [intOf]; omega
        · have d1 : decide (0 < e) = true := by have h := Be.out; simp; omega
          have ne : 0 < e := by have h := Be.out; omega
          rcases HD.out.2.2.2.2 with ⟨rfl, g1, g2, g3⟩ | ⟨rfl, g1, g2⟩
          · subst g3
            have d2 : decide (0 ≤ s) = true := by simpa using g1
            have d4 : decide (s < 0) = false := by simp; omega
            have ed : wrap64 (n - s) = n - s := by have hm := HM.out; unfold wrap64; omega
            by_cases hd : 2000 ≤ n - s
            · have d3 : decide (2000 ≤ n - s) = true := by simpa using hd
              have HS : Hid (AI q p false n (-1) 0 (k + 1)) := by
                have hm := HM.out
                have hp := HD.out.1
                exact ⟨hp.sw, hm.1, hm.2.1, by omega, Or.inr ⟨rfl, rfl, rfl⟩⟩
              have HT : Hid (∀ w, Calls Try.prog 8 #[.agg #[.bool true, .int .i64 0, .int .i64 p, .int .i64 q, .int .i64 s, .bool true], .agg #[.int .i64 0, .int .i64 q, .int .i64 p], .int .i64 n] w fun e w' => e = .returned (.tuple #[.agg #[.bool true, .int .i64 0, .int .i64 q, .int .i64 p, .int .i64 0, .bool false], .bool true, .int .i64 0]) ∧ Ext w w') := fun w => tell_take HD.out.1 (by have hm := HM.out; omega) HM.out.2.2.1 hd w
              clear HD HM Be he g2
              have qb0 : wx1.cell? ⟨nb, 0, none⟩ = some (.int .i64 0) := Fb.out.c 0 rfl
              have qb1 : wx1.cell? ⟨nb, 1, none⟩ = some (.int .i64 q) := Fb.out.c 1 rfl
              have qb2 : wx1.cell? ⟨nb, 2, none⟩ = some (.int .i64 p) := Fb.out.c 2 rfl
              have o0 : wx1.cell? ⟨nv, 0, none⟩ = some (.int .i64 0) := Fv.out.c 0 rfl
              have f0 : wx1.frozen? ⟨nv, 0, none⟩ = false := Fv.out.f 0 rfl
              have o1 : wx1.cell? ⟨nv, 1, none⟩ = some (.int .i64 p) := Fv.out.c 1 rfl
              have f1 : wx1.frozen? ⟨nv, 1, none⟩ = false := Fv.out.f 1 rfl
              have o2 : wx1.cell? ⟨nv, 2, none⟩ = some (.int .i64 q) := Fv.out.c 2 rfl
              have f2 : wx1.frozen? ⟨nv, 2, none⟩ = false := Fv.out.f 2 rfl
              go_upto_region 16 with fail
              clear qb0 qb1 qb2 o0 o1 o2 f0 f1 f2
              have Fa : Hid (HV (((wx1.setCell ⟨nv, 0, none⟩ (.int .i64 0)).setCell ⟨nv, 1, none⟩ (.int .i64 q)).setCell ⟨nv, 2, none⟩ (.int .i64 p)) w.heap.size [.int .i64 0, .int .i64 p, .int .i64 q]) := (((Fa.out.far (by omega)).far (by omega)).far (by omega))
              have Fb : Hid (HV (((wx1.setCell ⟨nv, 0, none⟩ (.int .i64 0)).setCell ⟨nv, 1, none⟩ (.int .i64 q)).setCell ⟨nv, 2, none⟩ (.int .i64 p)) nb [.int .i64 0, .int .i64 q, .int .i64 p]) := (((Fb.out.far (by omega)).far (by omega)).far (by omega))
              have Ft : Hid (HV (((wx1.setCell ⟨nv, 0, none⟩ (.int .i64 0)).setCell ⟨nv, 1, none⟩ (.int .i64 q)).setCell ⟨nv, 2, none⟩ (.int .i64 p)) nt [.bool true, .int .i64 0, .int .i64 p, .int .i64 q, .int .i64 s, .bool true]) := (((Ft.out.far (by omega)).far (by omega)).far (by omega))
              have Fv : Hid (HV (((wx1.setCell ⟨nv, 0, none⟩ (.int .i64 0)).setCell ⟨nv, 1, none⟩ (.int .i64 q)).setCell ⟨nv, 2, none⟩ (.int .i64 p)) nv [.int .i64 0, .int .i64 q, .int .i64 p]) := (((Fv.out.set 0 (.int .i64 0)).set 1 (.int .i64 q)).set 2 (.int .i64 p))
              have FX : Hid (Ext w (((wx1.setCell ⟨nv, 0, none⟩ (.int .i64 0)).setCell ⟨nv, 1, none⟩ (.int .i64 q)).setCell ⟨nv, 2, none⟩ (.int .i64 p))) := (((FX.out.set (p := ⟨nv, 0, none⟩) Lv.out (.int .i64 0)).set (p := ⟨nv, 1, none⟩) Lv.out (.int .i64 q)).set (p := ⟨nv, 2, none⟩) Lv.out (.int .i64 p))
              generalize (((wx1.setCell ⟨nv, 0, none⟩ (.int .i64 0)).setCell ⟨nv, 1, none⟩ (.int .i64 q)).setCell ⟨nv, 2, none⟩ (.int .i64 p)) = wx21 at *
              have qt0 : wx21.cell? ⟨nt, 0, none⟩ = some (.bool true) := Ft.out.c 0 rfl
              have qt1 : wx21.cell? ⟨nt, 1, none⟩ = some (.int .i64 0) := Ft.out.c 1 rfl
              have qt2 : wx21.cell? ⟨nt, 2, none⟩ = some (.int .i64 p) := Ft.out.c 2 rfl
              have qt3 : wx21.cell? ⟨nt, 3, none⟩ = some (.int .i64 q) := Ft.out.c 3 rfl
              have qt4 : wx21.cell? ⟨nt, 4, none⟩ = some (.int .i64 s) := Ft.out.c 4 rfl
              have qt5 : wx21.cell? ⟨nt, 5, none⟩ = some (.bool true) := Ft.out.c 5 rfl
              have qv0 : wx21.cell? ⟨nv, 0, none⟩ = some (.int .i64 0) := Fv.out.c 0 rfl
              have qv1 : wx21.cell? ⟨nv, 1, none⟩ = some (.int .i64 q) := Fv.out.c 1 rfl
              have qv2 : wx21.cell? ⟨nv, 2, none⟩ = some (.int .i64 p) := Fv.out.c 2 rfl
              go_upto_region 17 with (first | (go_at_call 8; refine (HT.out _).mono ?_; rintro e w2 ⟨rfl, x2⟩))
              have Fa : Hid (HV w2 w.heap.size [.int .i64 0, .int .i64 p, .int .i64 q]) := Fa.out.ext x2
              have Fb : Hid (HV w2 nb [.int .i64 0, .int .i64 q, .int .i64 p]) := Fb.out.ext x2
              have Ft : Hid (HV w2 nt [.bool true, .int .i64 0, .int .i64 p, .int .i64 q, .int .i64 s, .bool true]) := Ft.out.ext x2
              have Fv : Hid (HV w2 nv [.int .i64 0, .int .i64 q, .int .i64 p]) := Fv.out.ext x2
              have FX : Hid (Ext w w2) := FX.out.trans x2
              clear qt0 qt1 qt2 qt3 qt4 qt5 qv0 qv1 qv2 x2 HT
              have ltau : w.heap.size < w2.heap.size := Fa.out.1
              have ltbu : nb < w2.heap.size := Fb.out.1
              have lttu : nt < w2.heap.size := Ft.out.1
              have ltvu : nv < w2.heap.size := Fv.out.1
              have Lu : Hid (w.heap.size ≤ w2.heap.size) := FX.out.size
              have Fa : Hid (HV (w2.alloc (.cells #[.bool true, .int .i64 0, .int .i64 q, .int .i64 p, .int .i64 0, .bool false] 26)) w.heap.size [.int .i64 0, .int .i64 p, .int .i64 q]) := Fa.out.alloc _
              have Fb : Hid (HV (w2.alloc (.cells #[.bool true, .int .i64 0, .int .i64 q, .int .i64 p, .int .i64 0, .bool false] 26)) nb [.int .i64 0, .int .i64 q, .int .i64 p]) := Fb.out.alloc _
              have Ft : Hid (HV (w2.alloc (.cells #[.bool true, .int .i64 0, .int .i64 q, .int .i64 p, .int .i64 0, .bool false] 26)) nt [.bool true, .int .i64 0, .int .i64 p, .int .i64 q, .int .i64 s, .bool true]) := Ft.out.alloc _
              have Fv : Hid (HV (w2.alloc (.cells #[.bool true, .int .i64 0, .int .i64 q, .int .i64 p, .int .i64 0, .bool false] 26)) nv [.int .i64 0, .int .i64 q, .int .i64 p]) := Fv.out.alloc _
              have Fu : Hid (HV (w2.alloc (.cells #[.bool true, .int .i64 0, .int .i64 q, .int .i64 p, .int .i64 0, .bool false] 26)) w2.heap.size [.bool true, .int .i64 0, .int .i64 q, .int .i64 p, .int .i64 0, .bool false]) := hv_at rfl
              have FX : Hid (Ext w (w2.alloc (.cells #[.bool true, .int .i64 0, .int .i64 q, .int .i64 p, .int .i64 0, .bool false] 26))) := FX.out.alloc _
              generalize (w2.alloc (.cells #[.bool true, .int .i64 0, .int .i64 q, .int .i64 p, .int .i64 0, .bool false] 26)) = wx22 at *
              generalize w2.heap.size = nu at *
              go_upto_region 19 with (first | (go_at_call 9; refine (num19_any _ _).mono ?_; rintro e wx ⟨rfl, hwx⟩; have hwy := hwx.symm; clear hwx; subst hwy))
              have qa0 : wx22.cell? ⟨w.heap.size, 0, none⟩ = some (.int .i64 0) := Fa.out.c 0 rfl
              have qa1 : wx22.cell? ⟨w.heap.size, 1, none⟩ = some (.int .i64 p) := Fa.out.c 1 rfl
              have qa2 : wx22.cell? ⟨w.heap.size, 2, none⟩ = some (.int .i64 q) := Fa.out.c 2 rfl
              have qb0 : wx22.cell? ⟨nb, 0, none⟩ = some (.int .i64 0) := Fb.out.c 0 rfl
              have qb1 : wx22.cell? ⟨nb, 1, none⟩ = some (.int .i64 q) := Fb.out.c 1 rfl
              have qb2 : wx22.cell? ⟨nb, 2, none⟩ = some (.int .i64 p) := Fb.out.c 2 rfl
              have fa0 : wx22.frozen? ⟨w.heap.size, 0, none⟩ = false := Fa.out.f 0 rfl
              have fa1 : wx22.frozen? ⟨w.heap.size, 1, none⟩ = false := Fa.out.f 1 rfl
              have fa2 : wx22.frozen? ⟨w.heap.size, 2, none⟩ = false := Fa.out.f 2 rfl
              have fb0 : wx22.frozen? ⟨nb, 0, none⟩ = false := Fb.out.f 0 rfl
              have fb1 : wx22.frozen? ⟨nb, 1, none⟩ = false := Fb.out.f 1 rfl
              have fb2 : wx22.frozen? ⟨nb, 2, none⟩ = false := Fb.out.f 2 rfl
              go_upto_region 21 with fail
              clear qa0 qa1 qa2 qb0 qb1 qb2 fa0 fa1 fa2 fb0 fb1 fb2
              have Fb : Hid (HV (((wx22.setCell ⟨w.heap.size, 0, none⟩ (.int .i64 0)).setCell ⟨w.heap.size, 1, none⟩ (.int .i64 q)).setCell ⟨w.heap.size, 2, none⟩ (.int .i64 p)) nb [.int .i64 0, .int .i64 q, .int .i64 p]) := (((Fb.out.far (by omega)).far (by omega)).far (by omega))
              have Ft : Hid (HV (((wx22.setCell ⟨w.heap.size, 0, none⟩ (.int .i64 0)).setCell ⟨w.heap.size, 1, none⟩ (.int .i64 q)).setCell ⟨w.heap.size, 2, none⟩ (.int .i64 p)) nt [.bool true, .int .i64 0, .int .i64 p, .int .i64 q, .int .i64 s, .bool true]) := (((Ft.out.far (by omega)).far (by omega)).far (by omega))
              have Fv : Hid (HV (((wx22.setCell ⟨w.heap.size, 0, none⟩ (.int .i64 0)).setCell ⟨w.heap.size, 1, none⟩ (.int .i64 q)).setCell ⟨w.heap.size, 2, none⟩ (.int .i64 p)) nv [.int .i64 0, .int .i64 q, .int .i64 p]) := (((Fv.out.far (by omega)).far (by omega)).far (by omega))
              have Fu : Hid (HV (((wx22.setCell ⟨w.heap.size, 0, none⟩ (.int .i64 0)).setCell ⟨w.heap.size, 1, none⟩ (.int .i64 q)).setCell ⟨w.heap.size, 2, none⟩ (.int .i64 p)) nu [.bool true, .int .i64 0, .int .i64 q, .int .i64 p, .int .i64 0, .bool false]) := (((Fu.out.far (by omega)).far (by omega)).far (by omega))
              have Fa : Hid (HV (((wx22.setCell ⟨w.heap.size, 0, none⟩ (.int .i64 0)).setCell ⟨w.heap.size, 1, none⟩ (.int .i64 q)).setCell ⟨w.heap.size, 2, none⟩ (.int .i64 p)) w.heap.size [.int .i64 0, .int .i64 q, .int .i64 p]) := (((Fa.out.set 0 (.int .i64 0)).set 1 (.int .i64 q)).set 2 (.int .i64 p))
              have FX : Hid (Ext w (((wx22.setCell ⟨w.heap.size, 0, none⟩ (.int .i64 0)).setCell ⟨w.heap.size, 1, none⟩ (.int .i64 q)).setCell ⟨w.heap.size, 2, none⟩ (.int .i64 p))) := (((FX.out.set (p := ⟨w.heap.size, 0, none⟩) La.out (.int .i64 0)).set (p := ⟨w.heap.size, 1, none⟩) La.out (.int .i64 q)).set (p := ⟨w.heap.size, 2, none⟩) La.out (.int .i64 p))
              generalize (((wx22.setCell ⟨w.heap.size, 0, none⟩ (.int .i64 0)).setCell ⟨w.heap.size, 1, none⟩ (.int .i64 q)).setCell ⟨w.heap.size, 2, none⟩ (.int .i64 p)) = wx23 at *
              have Fa : Hid (HV (((wx23.setCell ⟨nb, 0, none⟩ (.int .i64 0)).setCell ⟨nb, 1, none⟩ (.int .i64 p)).setCell ⟨nb, 2, none⟩ (.int .i64 q)) w.heap.size [.int .i64 0, .int .i64 q, .int .i64 p]) := (((Fa.out.far (by omega)).far (by omega)).far (by omega))
              have Ft : Hid (HV (((wx23.setCell ⟨nb, 0, none⟩ (.int .i64 0)).setCell ⟨nb, 1, none⟩ (.int .i64 p)).setCell ⟨nb, 2, none⟩ (.int .i64 q)) nt [.bool true, .int .i64 0, .int .i64 p, .int .i64 q, .int .i64 s, .bool true]) := (((Ft.out.far (by omega)).far (by omega)).far (by omega))
              have Fv : Hid (HV (((wx23.setCell ⟨nb, 0, none⟩ (.int .i64 0)).setCell ⟨nb, 1, none⟩ (.int .i64 p)).setCell ⟨nb, 2, none⟩ (.int .i64 q)) nv [.int .i64 0, .int .i64 q, .int .i64 p]) := (((Fv.out.far (by omega)).far (by omega)).far (by omega))
              have Fu : Hid (HV (((wx23.setCell ⟨nb, 0, none⟩ (.int .i64 0)).setCell ⟨nb, 1, none⟩ (.int .i64 p)).setCell ⟨nb, 2, none⟩ (.int .i64 q)) nu [.bool true, .int .i64 0, .int .i64 q, .int .i64 p, .int .i64 0, .bool false]) := (((Fu.out.far (by omega)).far (by omega)).far (by omega))
              have Fb : Hid (HV (((wx23.setCell ⟨nb, 0, none⟩ (.int .i64 0)).setCell ⟨nb, 1, none⟩ (.int .i64 p)).setCell ⟨nb, 2, none⟩ (.int .i64 q)) nb [.int .i64 0, .int .i64 p, .int .i64 q]) := (((Fb.out.set 0 (.int .i64 0)).set 1 (.int .i64 p)).set 2 (.int .i64 q))
              have FX : Hid (Ext w (((wx23.setCell ⟨nb, 0, none⟩ (.int .i64 0)).setCell ⟨nb, 1, none⟩ (.int .i64 p)).setCell ⟨nb, 2, none⟩ (.int .i64 q))) := (((FX.out.set (p := ⟨nb, 0, none⟩) Lb.out (.int .i64 0)).set (p := ⟨nb, 1, none⟩) Lb.out (.int .i64 p)).set (p := ⟨nb, 2, none⟩) Lb.out (.int .i64 q))
              generalize (((wx23.setCell ⟨nb, 0, none⟩ (.int .i64 0)).setCell ⟨nb, 1, none⟩ (.int .i64 p)).setCell ⟨nb, 2, none⟩ (.int .i64 q)) = wx24 at *
              have qv0 : wx24.cell? ⟨nv, 0, none⟩ = some (.int .i64 0) := Fv.out.c 0 rfl
              have qv1 : wx24.cell? ⟨nv, 1, none⟩ = some (.int .i64 q) := Fv.out.c 1 rfl
              have qv2 : wx24.cell? ⟨nv, 2, none⟩ = some (.int .i64 p) := Fv.out.c 2 rfl
              have qu0 : wx24.cell? ⟨nu, 0, none⟩ = some (.bool true) := Fu.out.c 0 rfl
              have qu1 : wx24.cell? ⟨nu, 1, none⟩ = some (.int .i64 0) := Fu.out.c 1 rfl
              have qu2 : wx24.cell? ⟨nu, 2, none⟩ = some (.int .i64 q) := Fu.out.c 2 rfl
              have qu3 : wx24.cell? ⟨nu, 3, none⟩ = some (.int .i64 p) := Fu.out.c 3 rfl
              have qu4 : wx24.cell? ⟨nu, 4, none⟩ = some (.int .i64 0) := Fu.out.c 4 rfl
              have qu5 : wx24.cell? ⟨nu, 5, none⟩ = some (.bool false) := Fu.out.c 5 rfl
              have y0 : wx24.cell? ⟨nt, 0, none⟩ = some (.bool true) := Ft.out.c 0 rfl
              have g0 : wx24.frozen? ⟨nt, 0, none⟩ = false := Ft.out.f 0 rfl
              have y1 : wx24.cell? ⟨nt, 1, none⟩ = some (.int .i64 0) := Ft.out.c 1 rfl
              have g1 : wx24.frozen? ⟨nt, 1, none⟩ = false := Ft.out.f 1 rfl
              have y2 : wx24.cell? ⟨nt, 2, none⟩ = some (.int .i64 p) := Ft.out.c 2 rfl
              have g2 : wx24.frozen? ⟨nt, 2, none⟩ = false := Ft.out.f 2 rfl
              have y3 : wx24.cell? ⟨nt, 3, none⟩ = some (.int .i64 q) := Ft.out.c 3 rfl
              have g3 : wx24.frozen? ⟨nt, 3, none⟩ = false := Ft.out.f 3 rfl
              have y4 : wx24.cell? ⟨nt, 4, none⟩ = some (.int .i64 s) := Ft.out.c 4 rfl
              have g4 : wx24.frozen? ⟨nt, 4, none⟩ = false := Ft.out.f 4 rfl
              have y5 : wx24.cell? ⟨nt, 5, none⟩ = some (.bool true) := Ft.out.c 5 rfl
              have g5 : wx24.frozen? ⟨nt, 5, none⟩ = false := Ft.out.f 5 rfl
              go_wp2_with fail
              go_roundw
              case rel => exact ⟨k + 1, q, p, n, -1, 0, false, by omega, by go_num, rfl, rfl, HS, ((((((Fa.out.far (by omega)).far (by omega)).far (by omega)).far (by omega)).far (by omega)).far (by omega)), ((((((Fb.out.far (by omega)).far (by omega)).far (by omega)).far (by omega)).far (by omega)).far (by omega)), ((((((Ft.out.set 0 (.bool true)).set 1 (.int .i64 0)).set 2 (.int .i64 q)).set 3 (.int .i64 p)).set 4 (.int .i64 0)).set 5 (.bool false)), ((((((FX.out.set (p := ⟨nt, 0, none⟩) Lt.out _).set (p := ⟨nt, 1, none⟩) Lt.out _).set (p := ⟨nt, 2, none⟩) Lt.out _).set (p := ⟨nt, 3, none⟩) Lt.out _).set (p := ⟨nt, 4, none⟩) Lt.out _).set (p := ⟨nt, 5, none⟩) Lt.out _)⟩
              case measure => simp [intOf]; omega
            · have d3 : decide (2000 ≤ n - s) = false := by simp; omega
              have HS : Hid (AI p q true n s s (k + 1)) := by
                have hm := HM.out
                have hp := HD.out.1
                exact ⟨hp, hm.1, hm.2.1, by omega, Or.inl ⟨rfl, g1, by omega, rfl⟩⟩
              have HT : Hid (∀ w, Calls Try.prog 8 #[.agg #[.bool true, .int .i64 0, .int .i64 p, .int .i64 q, .int .i64 s, .bool true], .agg #[.int .i64 0, .int .i64 q, .int .i64 p], .int .i64 n] w fun e w' => e = .returned (.tuple #[.agg #[.bool true, .int .i64 0, .int .i64 p, .int .i64 q, .int .i64 s, .bool true], .bool false, .int .i64 0]) ∧ Ext w w') := fun w => stay_take HD.out.1 (by have hm := HM.out; omega) HM.out.2.2.1 (by omega) w
              clear HD HM Be he g2
              have qb0 : wx1.cell? ⟨nb, 0, none⟩ = some (.int .i64 0) := Fb.out.c 0 rfl
              have qb1 : wx1.cell? ⟨nb, 1, none⟩ = some (.int .i64 q) := Fb.out.c 1 rfl
              have qb2 : wx1.cell? ⟨nb, 2, none⟩ = some (.int .i64 p) := Fb.out.c 2 rfl
              have o0 : wx1.cell? ⟨nv, 0, none⟩ = some (.int .i64 0) := Fv.out.c 0 rfl
              have f0 : wx1.frozen? ⟨nv, 0, none⟩ = false := Fv.out.f 0 rfl
              have o1 : wx1.cell? ⟨nv, 1, none⟩ = some (.int .i64 p) := Fv.out.c 1 rfl
              have f1 : wx1.frozen? ⟨nv, 1, none⟩ = false := Fv.out.f 1 rfl
              have o2 : wx1.cell? ⟨nv, 2, none⟩ = some (.int .i64 q) := Fv.out.c 2 rfl
              have f2 : wx1.frozen? ⟨nv, 2, none⟩ = false := Fv.out.f 2 rfl
              go_upto_region 16 with fail
              clear qb0 qb1 qb2 o0 o1 o2 f0 f1 f2
              have Fa : Hid (HV (((wx1.setCell ⟨nv, 0, none⟩ (.int .i64 0)).setCell ⟨nv, 1, none⟩ (.int .i64 q)).setCell ⟨nv, 2, none⟩ (.int .i64 p)) w.heap.size [.int .i64 0, .int .i64 p, .int .i64 q]) := (((Fa.out.far (by omega)).far (by omega)).far (by omega))
              have Fb : Hid (HV (((wx1.setCell ⟨nv, 0, none⟩ (.int .i64 0)).setCell ⟨nv, 1, none⟩ (.int .i64 q)).setCell ⟨nv, 2, none⟩ (.int .i64 p)) nb [.int .i64 0, .int .i64 q, .int .i64 p]) := (((Fb.out.far (by omega)).far (by omega)).far (by omega))
              have Ft : Hid (HV (((wx1.setCell ⟨nv, 0, none⟩ (.int .i64 0)).setCell ⟨nv, 1, none⟩ (.int .i64 q)).setCell ⟨nv, 2, none⟩ (.int .i64 p)) nt [.bool true, .int .i64 0, .int .i64 p, .int .i64 q, .int .i64 s, .bool true]) := (((Ft.out.far (by omega)).far (by omega)).far (by omega))
              have Fv : Hid (HV (((wx1.setCell ⟨nv, 0, none⟩ (.int .i64 0)).setCell ⟨nv, 1, none⟩ (.int .i64 q)).setCell ⟨nv, 2, none⟩ (.int .i64 p)) nv [.int .i64 0, .int .i64 q, .int .i64 p]) := (((Fv.out.set 0 (.int .i64 0)).set 1 (.int .i64 q)).set 2 (.int .i64 p))
              have FX : Hid (Ext w (((wx1.setCell ⟨nv, 0, none⟩ (.int .i64 0)).setCell ⟨nv, 1, none⟩ (.int .i64 q)).setCell ⟨nv, 2, none⟩ (.int .i64 p))) := (((FX.out.set (p := ⟨nv, 0, none⟩) Lv.out (.int .i64 0)).set (p := ⟨nv, 1, none⟩) Lv.out (.int .i64 q)).set (p := ⟨nv, 2, none⟩) Lv.out (.int .i64 p))
              generalize (((wx1.setCell ⟨nv, 0, none⟩ (.int .i64 0)).setCell ⟨nv, 1, none⟩ (.int .i64 q)).setCell ⟨nv, 2, none⟩ (.int .i64 p)) = wx21 at *
              have qt0 : wx21.cell? ⟨nt, 0, none⟩ = some (.bool true) := Ft.out.c 0 rfl
              have qt1 : wx21.cell? ⟨nt, 1, none⟩ = some (.int .i64 0) := Ft.out.c 1 rfl
              have qt2 : wx21.cell? ⟨nt, 2, none⟩ = some (.int .i64 p) := Ft.out.c 2 rfl
              have qt3 : wx21.cell? ⟨nt, 3, none⟩ = some (.int .i64 q) := Ft.out.c 3 rfl
              have qt4 : wx21.cell? ⟨nt, 4, none⟩ = some (.int .i64 s) := Ft.out.c 4 rfl
              have qt5 : wx21.cell? ⟨nt, 5, none⟩ = some (.bool true) := Ft.out.c 5 rfl
              have qv0 : wx21.cell? ⟨nv, 0, none⟩ = some (.int .i64 0) := Fv.out.c 0 rfl
              have qv1 : wx21.cell? ⟨nv, 1, none⟩ = some (.int .i64 q) := Fv.out.c 1 rfl
              have qv2 : wx21.cell? ⟨nv, 2, none⟩ = some (.int .i64 p) := Fv.out.c 2 rfl
              go_upto_region 17 with (first | (go_at_call 8; refine (HT.out _).mono ?_; rintro e w2 ⟨rfl, x2⟩))
              have Fa : Hid (HV w2 w.heap.size [.int .i64 0, .int .i64 p, .int .i64 q]) := Fa.out.ext x2
              have Fb : Hid (HV w2 nb [.int .i64 0, .int .i64 q, .int .i64 p]) := Fb.out.ext x2
              have Ft : Hid (HV w2 nt [.bool true, .int .i64 0, .int .i64 p, .int .i64 q, .int .i64 s, .bool true]) := Ft.out.ext x2
              have Fv : Hid (HV w2 nv [.int .i64 0, .int .i64 q, .int .i64 p]) := Fv.out.ext x2
              have FX : Hid (Ext w w2) := FX.out.trans x2
              clear qt0 qt1 qt2 qt3 qt4 qt5 qv0 qv1 qv2 x2 HT
              have ltau : w.heap.size < w2.heap.size := Fa.out.1
              have ltbu : nb < w2.heap.size := Fb.out.1
              have lttu : nt < w2.heap.size := Ft.out.1
              have ltvu : nv < w2.heap.size := Fv.out.1
              have Lu : Hid (w.heap.size ≤ w2.heap.size) := FX.out.size
              have Fa : Hid (HV (w2.alloc (.cells #[.bool true, .int .i64 0, .int .i64 p, .int .i64 q, .int .i64 s, .bool true] 26)) w.heap.size [.int .i64 0, .int .i64 p, .int .i64 q]) := Fa.out.alloc _
              have Fb : Hid (HV (w2.alloc (.cells #[.bool true, .int .i64 0, .int .i64 p, .int .i64 q, .int .i64 s, .bool true] 26)) nb [.int .i64 0, .int .i64 q, .int .i64 p]) := Fb.out.alloc _
              have Ft : Hid (HV (w2.alloc (.cells #[.bool true, .int .i64 0, .int .i64 p, .int .i64 q, .int .i64 s, .bool true] 26)) nt [.bool true, .int .i64 0, .int .i64 p, .int .i64 q, .int .i64 s, .bool true]) := Ft.out.alloc _
              have Fv : Hid (HV (w2.alloc (.cells #[.bool true, .int .i64 0, .int .i64 p, .int .i64 q, .int .i64 s, .bool true] 26)) nv [.int .i64 0, .int .i64 q, .int .i64 p]) := Fv.out.alloc _
              have Fu : Hid (HV (w2.alloc (.cells #[.bool true, .int .i64 0, .int .i64 p, .int .i64 q, .int .i64 s, .bool true] 26)) w2.heap.size [.bool true, .int .i64 0, .int .i64 p, .int .i64 q, .int .i64 s, .bool true]) := hv_at rfl
              have FX : Hid (Ext w (w2.alloc (.cells #[.bool true, .int .i64 0, .int .i64 p, .int .i64 q, .int .i64 s, .bool true] 26))) := FX.out.alloc _
              generalize (w2.alloc (.cells #[.bool true, .int .i64 0, .int .i64 p, .int .i64 q, .int .i64 s, .bool true] 26)) = wx22 at *
              generalize w2.heap.size = nu at *
              go_upto_region 19 with (first | (go_at_call 9; refine (num19_any _ _).mono ?_; rintro e wx ⟨rfl, hwx⟩; have hwy := hwx.symm; clear hwx; subst hwy))
              have qu0 : wx22.cell? ⟨nu, 0, none⟩ = some (.bool true) := Fu.out.c 0 rfl
              have qu1 : wx22.cell? ⟨nu, 1, none⟩ = some (.int .i64 0) := Fu.out.c 1 rfl
              have qu2 : wx22.cell? ⟨nu, 2, none⟩ = some (.int .i64 p) := Fu.out.c 2 rfl
              have qu3 : wx22.cell? ⟨nu, 3, none⟩ = some (.int .i64 q) := Fu.out.c 3 rfl
              have qu4 : wx22.cell? ⟨nu, 4, none⟩ = some (.int .i64 s) := Fu.out.c 4 rfl
              have qu5 : wx22.cell? ⟨nu, 5, none⟩ = some (.bool true) := Fu.out.c 5 rfl
              have y0 : wx22.cell? ⟨nt, 0, none⟩ = some (.bool true) := Ft.out.c 0 rfl
              have g0 : wx22.frozen? ⟨nt, 0, none⟩ = false := Ft.out.f 0 rfl
              have y1 : wx22.cell? ⟨nt, 1, none⟩ = some (.int .i64 0) := Ft.out.c 1 rfl
              have g1 : wx22.frozen? ⟨nt, 1, none⟩ = false := Ft.out.f 1 rfl
              have y2 : wx22.cell? ⟨nt, 2, none⟩ = some (.int .i64 p) := Ft.out.c 2 rfl
              have g2 : wx22.frozen? ⟨nt, 2, none⟩ = false := Ft.out.f 2 rfl
              have y3 : wx22.cell? ⟨nt, 3, none⟩ = some (.int .i64 q) := Ft.out.c 3 rfl
              have g3 : wx22.frozen? ⟨nt, 3, none⟩ = false := Ft.out.f 3 rfl
              have y4 : wx22.cell? ⟨nt, 4, none⟩ = some (.int .i64 s) := Ft.out.c 4 rfl
              have g4 : wx22.frozen? ⟨nt, 4, none⟩ = false := Ft.out.f 4 rfl
              have y5 : wx22.cell? ⟨nt, 5, none⟩ = some (.bool true) := Ft.out.c 5 rfl
              have g5 : wx22.frozen? ⟨nt, 5, none⟩ = false := Ft.out.f 5 rfl
              go_wp2_with fail
              go_roundw
              case rel => exact ⟨k + 1, p, q, n, s, s, true, by omega, by go_num, rfl, rfl, HS, ((((((Fa.out.far (by omega)).far (by omega)).far (by omega)).far (by omega)).far (by omega)).far (by omega)), ((((((Fb.out.far (by omega)).far (by omega)).far (by omega)).far (by omega)).far (by omega)).far (by omega)), ((((((Ft.out.set 0 (.bool true)).set 1 (.int .i64 0)).set 2 (.int .i64 p)).set 3 (.int .i64 q)).set 4 (.int .i64 s)).set 5 (.bool true)), ((((((FX.out.set (p := ⟨nt, 0, none⟩) Lt.out _).set (p := ⟨nt, 1, none⟩) Lt.out _).set (p := ⟨nt, 2, none⟩) Lt.out _).set (p := ⟨nt, 3, none⟩) Lt.out _).set (p := ⟨nt, 4, none⟩) Lt.out _).set (p := ⟨nt, 5, none⟩) Lt.out _)⟩
              case measure => simp [intOf]; omega
          · subst g1 g2
            have HS : Hid (AI p q true n n n (k + 1)) := by
              have hm := HM.out
              have hp := HD.out.1
              exact ⟨hp, hm.1, hm.2.1, by omega, Or.inl ⟨rfl, hm.1, by omega, rfl⟩⟩
            have HT : Hid (∀ w, Calls Try.prog 8 #[.agg #[.bool true, .int .i64 0, .int .i64 p, .int .i64 q, .int .i64 0, .bool false], .agg #[.int .i64 0, .int .i64 q, .int .i64 p], .int .i64 n] w fun e w' => e = .returned (.tuple #[.agg #[.bool true, .int .i64 0, .int .i64 p, .int .i64 q, .int .i64 n, .bool true], .bool false, .int .i64 0]) ∧ Ext w w') := fun w => begin_take HD.out.1 HM.out.1 HM.out.2.2.1 w
            clear HD HM Be he
            have qb0 : wx1.cell? ⟨nb, 0, none⟩ = some (.int .i64 0) := Fb.out.c 0 rfl
            have qb1 : wx1.cell? ⟨nb, 1, none⟩ = some (.int .i64 q) := Fb.out.c 1 rfl
            have qb2 : wx1.cell? ⟨nb, 2, none⟩ = some (.int .i64 p) := Fb.out.c 2 rfl
            have o0 : wx1.cell? ⟨nv, 0, none⟩ = some (.int .i64 0) := Fv.out.c 0 rfl
            have f0 : wx1.frozen? ⟨nv, 0, none⟩ = false := Fv.out.f 0 rfl
            have o1 : wx1.cell? ⟨nv, 1, none⟩ = some (.int .i64 p) := Fv.out.c 1 rfl
            have f1 : wx1.frozen? ⟨nv, 1, none⟩ = false := Fv.out.f 1 rfl
            have o2 : wx1.cell? ⟨nv, 2, none⟩ = some (.int .i64 q) := Fv.out.c 2 rfl
            have f2 : wx1.frozen? ⟨nv, 2, none⟩ = false := Fv.out.f 2 rfl
            go_upto_region 16 with fail
            clear qb0 qb1 qb2 o0 o1 o2 f0 f1 f2
            have Fa : Hid (HV (((wx1.setCell ⟨nv, 0, none⟩ (.int .i64 0)).setCell ⟨nv, 1, none⟩ (.int .i64 q)).setCell ⟨nv, 2, none⟩ (.int .i64 p)) w.heap.size [.int .i64 0, .int .i64 p, .int .i64 q]) := (((Fa.out.far (by omega)).far (by omega)).far (by omega))
            have Fb : Hid (HV (((wx1.setCell ⟨nv, 0, none⟩ (.int .i64 0)).setCell ⟨nv, 1, none⟩ (.int .i64 q)).setCell ⟨nv, 2, none⟩ (.int .i64 p)) nb [.int .i64 0, .int .i64 q, .int .i64 p]) := (((Fb.out.far (by omega)).far (by omega)).far (by omega))
            have Ft : Hid (HV (((wx1.setCell ⟨nv, 0, none⟩ (.int .i64 0)).setCell ⟨nv, 1, none⟩ (.int .i64 q)).setCell ⟨nv, 2, none⟩ (.int .i64 p)) nt [.bool true, .int .i64 0, .int .i64 p, .int .i64 q, .int .i64 0, .bool false]) := (((Ft.out.far (by omega)).far (by omega)).far (by omega))
            have Fv : Hid (HV (((wx1.setCell ⟨nv, 0, none⟩ (.int .i64 0)).setCell ⟨nv, 1, none⟩ (.int .i64 q)).setCell ⟨nv, 2, none⟩ (.int .i64 p)) nv [.int .i64 0, .int .i64 q, .int .i64 p]) := (((Fv.out.set 0 (.int .i64 0)).set 1 (.int .i64 q)).set 2 (.int .i64 p))
            have FX : Hid (Ext w (((wx1.setCell ⟨nv, 0, none⟩ (.int .i64 0)).setCell ⟨nv, 1, none⟩ (.int .i64 q)).setCell ⟨nv, 2, none⟩ (.int .i64 p))) := (((FX.out.set (p := ⟨nv, 0, none⟩) Lv.out (.int .i64 0)).set (p := ⟨nv, 1, none⟩) Lv.out (.int .i64 q)).set (p := ⟨nv, 2, none⟩) Lv.out (.int .i64 p))
            generalize (((wx1.setCell ⟨nv, 0, none⟩ (.int .i64 0)).setCell ⟨nv, 1, none⟩ (.int .i64 q)).setCell ⟨nv, 2, none⟩ (.int .i64 p)) = wx21 at *
            have qt0 : wx21.cell? ⟨nt, 0, none⟩ = some (.bool true) := Ft.out.c 0 rfl
            have qt1 : wx21.cell? ⟨nt, 1, none⟩ = some (.int .i64 0) := Ft.out.c 1 rfl
            have qt2 : wx21.cell? ⟨nt, 2, none⟩ = some (.int .i64 p) := Ft.out.c 2 rfl
            have qt3 : wx21.cell? ⟨nt, 3, none⟩ = some (.int .i64 q) := Ft.out.c 3 rfl
            have qt4 : wx21.cell? ⟨nt, 4, none⟩ = some (.int .i64 0) := Ft.out.c 4 rfl
            have qt5 : wx21.cell? ⟨nt, 5, none⟩ = some (.bool false) := Ft.out.c 5 rfl
            have qv0 : wx21.cell? ⟨nv, 0, none⟩ = some (.int .i64 0) := Fv.out.c 0 rfl
            have qv1 : wx21.cell? ⟨nv, 1, none⟩ = some (.int .i64 q) := Fv.out.c 1 rfl
            have qv2 : wx21.cell? ⟨nv, 2, none⟩ = some (.int .i64 p) := Fv.out.c 2 rfl
            go_upto_region 17 with (first | (go_at_call 8; refine (HT.out _).mono ?_; rintro e w2 ⟨rfl, x2⟩))
            have Fa : Hid (HV w2 w.heap.size [.int .i64 0, .int .i64 p, .int .i64 q]) := Fa.out.ext x2
            have Fb : Hid (HV w2 nb [.int .i64 0, .int .i64 q, .int .i64 p]) := Fb.out.ext x2
            have Ft : Hid (HV w2 nt [.bool true, .int .i64 0, .int .i64 p, .int .i64 q, .int .i64 0, .bool false]) := Ft.out.ext x2
            have Fv : Hid (HV w2 nv [.int .i64 0, .int .i64 q, .int .i64 p]) := Fv.out.ext x2
            have FX : Hid (Ext w w2) := FX.out.trans x2
            clear qt0 qt1 qt2 qt3 qt4 qt5 qv0 qv1 qv2 x2 HT
            have ltau : w.heap.size < w2.heap.size := Fa.out.1
            have ltbu : nb < w2.heap.size := Fb.out.1
            have lttu : nt < w2.heap.size := Ft.out.1
            have ltvu : nv < w2.heap.size := Fv.out.1
            have Lu : Hid (w.heap.size ≤ w2.heap.size) := FX.out.size
            have Fa : Hid (HV (w2.alloc (.cells #[.bool true, .int .i64 0, .int .i64 p, .int .i64 q, .int .i64 n, .bool true] 26)) w.heap.size [.int .i64 0, .int .i64 p, .int .i64 q]) := Fa.out.alloc _
            have Fb : Hid (HV (w2.alloc (.cells #[.bool true, .int .i64 0, .int .i64 p, .int .i64 q, .int .i64 n, .bool true] 26)) nb [.int .i64 0, .int .i64 q, .int .i64 p]) := Fb.out.alloc _
            have Ft : Hid (HV (w2.alloc (.cells #[.bool true, .int .i64 0, .int .i64 p, .int .i64 q, .int .i64 n, .bool true] 26)) nt [.bool true, .int .i64 0, .int .i64 p, .int .i64 q, .int .i64 0, .bool false]) := Ft.out.alloc _
            have Fv : Hid (HV (w2.alloc (.cells #[.bool true, .int .i64 0, .int .i64 p, .int .i64 q, .int .i64 n, .bool true] 26)) nv [.int .i64 0, .int .i64 q, .int .i64 p]) := Fv.out.alloc _
            have Fu : Hid (HV (w2.alloc (.cells #[.bool true, .int .i64 0, .int .i64 p, .int .i64 q, .int .i64 n, .bool true] 26)) w2.heap.size [.bool true, .int .i64 0, .int .i64 p, .int .i64 q, .int .i64 n, .bool true]) := hv_at rfl
            have FX : Hid (Ext w (w2.alloc (.cells #[.bool true, .int .i64 0, .int .i64 p, .int .i64 q, .int .i64 n, .bool true] 26))) := FX.out.alloc _
            generalize (w2.alloc (.cells #[.bool true, .int .i64 0, .int .i64 p, .int .i64 q, .int .i64 n, .bool true] 26)) = wx22 at *
            generalize w2.heap.size = nu at *
            go_upto_region 19 with (first | (go_at_call 9; refine (num19_any _ _).mono ?_; rintro e wx ⟨rfl, hwx⟩; have hwy := hwx.symm; clear hwx; subst hwy))
            have qu0 : wx22.cell? ⟨nu, 0, none⟩ = some (.bool true) := Fu.out.c 0 rfl
            have qu1 : wx22.cell? ⟨nu, 1, none⟩ = some (.int .i64 0) := Fu.out.c 1 rfl
            have qu2 : wx22.cell? ⟨nu, 2, none⟩ = some (.int .i64 p) := Fu.out.c 2 rfl
            have qu3 : wx22.cell? ⟨nu, 3, none⟩ = some (.int .i64 q) := Fu.out.c 3 rfl
            have qu4 : wx22.cell? ⟨nu, 4, none⟩ = some (.int .i64 n) := Fu.out.c 4 rfl
            have qu5 : wx22.cell? ⟨nu, 5, none⟩ = some (.bool true) := Fu.out.c 5 rfl
            have y0 : wx22.cell? ⟨nt, 0, none⟩ = some (.bool true) := Ft.out.c 0 rfl
            have g0 : wx22.frozen? ⟨nt, 0, none⟩ = false := Ft.out.f 0 rfl
            have y1 : wx22.cell? ⟨nt, 1, none⟩ = some (.int .i64 0) := Ft.out.c 1 rfl
            have g1 : wx22.frozen? ⟨nt, 1, none⟩ = false := Ft.out.f 1 rfl
            have y2 : wx22.cell? ⟨nt, 2, none⟩ = some (.int .i64 p) := Ft.out.c 2 rfl
            have g2 : wx22.frozen? ⟨nt, 2, none⟩ = false := Ft.out.f 2 rfl
            have y3 : wx22.cell? ⟨nt, 3, none⟩ = some (.int .i64 q) := Ft.out.c 3 rfl
            have g3 : wx22.frozen? ⟨nt, 3, none⟩ = false := Ft.out.f 3 rfl
            have y4 : wx22.cell? ⟨nt, 4, none⟩ = some (.int .i64 0) := Ft.out.c 4 rfl
            have g4 : wx22.frozen? ⟨nt, 4, none⟩ = false := Ft.out.f 4 rfl
            have y5 : wx22.cell? ⟨nt, 5, none⟩ = some (.bool false) := Ft.out.c 5 rfl
            have g5 : wx22.frozen? ⟨nt, 5, none⟩ = false := Ft.out.f 5 rfl
            go_wp2_with fail
            go_roundw
            case rel => exact ⟨k + 1, p, q, n, n, n, true, by omega, by go_num, rfl, rfl, HS, ((((((Fa.out.far (by omega)).far (by omega)).far (by omega)).far (by omega)).far (by omega)).far (by omega)), ((((((Fb.out.far (by omega)).far (by omega)).far (by omega)).far (by omega)).far (by omega)).far (by omega)), ((((((Ft.out.set 0 (.bool true)).set 1 (.int .i64 0)).set 2 (.int .i64 p)).set 3 (.int .i64 q)).set 4 (.int .i64 n)).set 5 (.bool true)), ((((((FX.out.set (p := ⟨nt, 0, none⟩) Lt.out _).set (p := ⟨nt, 1, none⟩) Lt.out _).set (p := ⟨nt, 2, none⟩) Lt.out _).set (p := ⟨nt, 3, none⟩) Lt.out _).set (p := ⟨nt, 4, none⟩) Lt.out _).set (p := ⟨nt, 5, none⟩) Lt.out _)⟩
            case measure => simp [intOf]; omega
      · go_wp2_with fail
        refine (wakes19_any _).mono ?_
        rintro e w1 ⟨rfl, x1⟩
        have E1 : Ext w w1 := FX.out.trans x1
        go_wp2_with fail
        go_ret
        exact ⟨rfl, E1⟩
    · have hk' : k = len := by omega
      subst hk'
      go_wp2_with fail
      refine (wakes19_any _).mono ?_
      rintro e w1 ⟨rfl, x1⟩
      have E1 : Ext w w1 := FX.out.trans x1
      go_wp2_with fail
      go_ret
      exact ⟨rfl, E1⟩
set_option maxRecDepth 20000 in
set_option maxHeartbeats 8000000 in
theorem tiltaway_none (x : Option Addr) (cap : Nat) (w : World) :
    Calls Try.prog 5 #[.slice x 0 cap] w fun e w' => e = .returned (.bool true) ∧ Ext w w' := by
  have HA0 : Hid (∀ w, Calls Try.prog 8 #[.agg #[.bool false, .int .i64 0, .int .i64 0, .int .i64 0, .int .i64 0, .bool false], .agg #[.int .i64 0, .int .i64 0, .int .i64 1073741824], .int .i64 0] w fun e w' => e = .returned (.tuple #[.agg #[.bool true, .int .i64 0, .int .i64 0, .int .i64 1073741824, .int .i64 0, .bool false], .bool false, .int .i64 0]) ∧ Ext w w') := fun w => take_off 0 0 1073741824 0 w (by kernel_rfl) (by kernel_rfl)
  have Fa : Hid (HV ((w.alloc (.cells #[.int .i64 0, .int .i64 0, .int .i64 1073741824] 24)).alloc (.cells #[.int .i64 0, .int .i64 1073741824, .int .i64 0] 24)) w.heap.size [.int .i64 0, .int .i64 0, .int .i64 1073741824]) := (hv_at rfl).alloc _
  have Fb : Hid (HV ((w.alloc (.cells #[.int .i64 0, .int .i64 0, .int .i64 1073741824] 24)).alloc (.cells #[.int .i64 0, .int .i64 1073741824, .int .i64 0] 24)) (w.heap.size + 1) [.int .i64 0, .int .i64 1073741824, .int .i64 0]) := hv_at (by simp)
  have FX : Hid (Ext w ((w.alloc (.cells #[.int .i64 0, .int .i64 0, .int .i64 1073741824] 24)).alloc (.cells #[.int .i64 0, .int .i64 1073741824, .int .i64 0] 24))) := ((Ext.refl _).alloc _).alloc _
  have La : Hid (w.heap.size ≤ w.heap.size) := Nat.le_refl _
  have Lb : Hid (w.heap.size ≤ w.heap.size + 1) := Nat.le_add_right _ _
  have ltab : w.heap.size < w.heap.size + 1 := by omega
  go_enter Try.func5, Try.ntmps5
  go_upto_region 3 with fail
  generalize ((w.alloc (.cells #[.int .i64 0, .int .i64 0, .int .i64 1073741824] 24)).alloc (.cells #[.int .i64 0, .int .i64 1073741824, .int .i64 0] 24)) = wa at *
  generalize w.heap.size + 1 = nb at *
  have qa0 : wa.cell? ⟨w.heap.size, 0, none⟩ = some (.int .i64 0) := Fa.out.c 0 rfl
  have qa1 : wa.cell? ⟨w.heap.size, 1, none⟩ = some (.int .i64 0) := Fa.out.c 1 rfl
  have qa2 : wa.cell? ⟨w.heap.size, 2, none⟩ = some (.int .i64 1073741824) := Fa.out.c 2 rfl
  go_upto_region 4 with (first | (go_at_call 8; refine (HA0.out _).mono ?_; rintro e w1 ⟨rfl, x1⟩))
  have Fa : Hid (HV w1 w.heap.size [.int .i64 0, .int .i64 0, .int .i64 1073741824]) := Fa.out.ext x1
  have Fb : Hid (HV w1 nb [.int .i64 0, .int .i64 1073741824, .int .i64 0]) := Fb.out.ext x1
  have FX : Hid (Ext w w1) := FX.out.trans x1
  clear qa0 qa1 qa2 x1 HA0
  have ltat : w.heap.size < w1.heap.size := Fa.out.1
  have ltbt : nb < w1.heap.size := Fb.out.1
  have Lt : Hid (w.heap.size ≤ w1.heap.size) := FX.out.size
  have Fa : Hid (HV (w1.alloc (.cells #[.bool true, .int .i64 0, .int .i64 0, .int .i64 1073741824, .int .i64 0, .bool false] 26)) w.heap.size [.int .i64 0, .int .i64 0, .int .i64 1073741824]) := Fa.out.alloc _
  have Fb : Hid (HV (w1.alloc (.cells #[.bool true, .int .i64 0, .int .i64 0, .int .i64 1073741824, .int .i64 0, .bool false] 26)) nb [.int .i64 0, .int .i64 1073741824, .int .i64 0]) := Fb.out.alloc _
  have Ft : Hid (HV (w1.alloc (.cells #[.bool true, .int .i64 0, .int .i64 0, .int .i64 1073741824, .int .i64 0, .bool false] 26)) w1.heap.size [.bool true, .int .i64 0, .int .i64 0, .int .i64 1073741824, .int .i64 0, .bool false]) := hv_at rfl
  have FX : Hid (Ext w (w1.alloc (.cells #[.bool true, .int .i64 0, .int .i64 0, .int .i64 1073741824, .int .i64 0, .bool false] 26))) := FX.out.alloc _
  generalize (w1.alloc (.cells #[.bool true, .int .i64 0, .int .i64 0, .int .i64 1073741824, .int .i64 0, .bool false] 26)) = wx1 at *
  generalize w1.heap.size = nt at *
  have Fa0 := Fa.out
  have Fb0 := Fb.out
  have Ft0 := Ft.out
  clear Fa0 Fb0 Ft0
  go_upto_region 6 with (go_at_call 9; refine (num19_any _ _).mono ?_; rintro e wx ⟨rfl, hwx⟩; have hwy := hwx.symm; clear hwx; subst hwy)
  go_wp2_with fail
  go_loopw [8, 9, 10] (fun _ _ i wr => i = .int .i64 0 ∧ Hid (Ext w wr)) (fun _ _ _ _ => 0)
  case atStart => exact ⟨rfl, FX⟩
  case round =>
    clear FX
    obtain ⟨rfl, FX⟩ := hrel
    go_wp2_with fail
    refine (wakes19_any _).mono ?_
    rintro e w1 ⟨rfl, x1⟩
    have E1 : Ext w w1 := FX.out.trans x1
    go_wp2_with fail
    go_ret
    exact ⟨rfl, E1⟩
end Go.Proofs.Ytbmocnigmpmfkaa
