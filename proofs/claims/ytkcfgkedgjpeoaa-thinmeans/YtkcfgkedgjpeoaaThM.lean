/- ThinMeans. -/
import Derived.Test.YtkcfgkedgjpeoaaThO
namespace Go.Proofs.Ytkcfgkedgjpeoaa
open Go.RowKit Go.Shelf
/-- between rounds -/
def TI (s0 s1 s2 n S lo hi : Int) : Prop := (-(17592186044416 * n) ≤ s0 ∧ s0 ≤ 17592186044416 * n) ∧ (-(17592186044416 * n) ≤ s1 ∧ s1 ≤ 17592186044416 * n) ∧ (-(17592186044416 * n) ≤ s2 ∧ s2 ≤ 17592186044416 * n) ∧ (0 ≤ n ∧ n ≤ 8) ∧ (0 < n → S = s2 ∧ n * lo ≤ S ∧ S ≤ n * hi ∧ -17592186044416 ≤ lo ∧ hi ≤ 17592186044416)
/-- within a round -/
def QI (s2 n S lo hi : Int) : Prop := S = s2 ∧ n * lo ≤ S ∧ S ≤ n * hi ∧ -17592186044416 ≤ lo ∧ hi ≤ 17592186044416
theorem near_in {s k a b : Int} (hk : 0 < k) (h1 : k * a ≤ s) (h2 : s ≤ k * b) : a ≤ nearI s k ∧ nearI s k ≤ b := by
  obtain ⟨g1, g2, _⟩ := nearI_spec s k hk
  generalize nearI s k = z at *
  refine ⟨?_, ?_⟩
  · by_cases h : a ≤ z
    · exact h
    · exfalso
      have m : k * (z + 1) ≤ k * a := Int.mul_le_mul_of_nonneg_left (by omega) (by omega)
      rw [Int.mul_add, Int.mul_one, Int.mul_comm k z] at m
      omega
  · by_cases h : z ≤ b
    · exact h
    · exfalso
      have m : k * b ≤ k * (z - 1) := Int.mul_le_mul_of_nonneg_left (by omega) (by omega)
      rw [Int.mul_sub, Int.mul_one, Int.mul_comm k z] at m
      omega
theorem okW_in {a : Int} (h1 : -35184372088832 < a) (h2 : a < 35184372088832) : okW a = true := by
  unfold okW; simp; omega
theorem ok3_of {a b c : Int} (h0 : -35184372088832 < a ∧ a < 35184372088832) (h1 : -35184372088832 < b ∧ b < 35184372088832) (h2 : -35184372088832 < c ∧ c < 35184372088832) : ok3 a b c = true := by
  unfold ok3; rw [okW_in h0.1 h0.2, okW_in h1.1 h1.2, okW_in h2.1 h2.2]; rfl
theorem ti_okT {s0 s1 s2 n S lo hi : Int} (h : TI s0 s1 s2 n S lo hi) : okT s0 s1 s2 n = true := by
  obtain ⟨a0, a1, a2, an, _⟩ := h
  exact okT_of (by omega) (by omega) (by omega) (by omega) (fun e => by omega)
theorem sums_step {n S lo hi v lo' hi' : Int} (hn : 0 ≤ n) (h1 : n * lo ≤ S) (h2 : S ≤ n * hi) (a : lo' ≤ lo ∧ lo' ≤ v) (b : hi ≤ hi' ∧ v ≤ hi') : (n + 1) * lo' ≤ S + v ∧ S + v ≤ (n + 1) * hi' := by
  have m1 : n * lo' ≤ n * lo := Int.mul_le_mul_of_nonneg_left a.1 hn
  have m2 : n * hi ≤ n * hi' := Int.mul_le_mul_of_nonneg_left b.1 hn
  rw [Int.add_mul, Int.add_mul, Int.one_mul, Int.one_mul]
  omega
theorem means_more {s0 s1 s2 n S0 lo hi k v0 v1 v2 S la ha lo' hi' : Int} (h : TI s0 s1 s2 n S0 lo hi) (q : QI s2 n S la ha) (hk : n + 1 < k ∧ k ≤ 9) (h0 : -17592186044416 ≤ v0 ∧ v0 ≤ 17592186044416) (h1 : -17592186044416 ≤ v1 ∧ v1 ≤ 17592186044416) (h2 : -17592186044416 ≤ v2 ∧ v2 ≤ 17592186044416)
    (ll : lo' ≤ la ∧ lo' ≤ v2 ∧ (lo' = la ∨ lo' = v2)) (hh : ha ≤ hi' ∧ v2 ≤ hi' ∧ (hi' = ha ∨ hi' = v2)) :
    takeT s0 s1 s2 n k v0 v1 v2 = .tuple #[.agg #[.int .i64 (s0 + v0), .int .i64 (s1 + v1), .int .i64 (s2 + v2), .int .i64 (n + 1)], .agg #[.int .i64 0, .int .i64 0, .int .i64 0], .bool false, .int .i64 0] ∧ TI (s0 + v0) (s1 + v1) (s2 + v2) (n + 1) (S + v2) lo' hi' := by
  have ok := ti_okT h
  obtain ⟨a0, a1, a2, an, _⟩ := h
  obtain ⟨rfl, q1, q2, q3, q4⟩ := q
  have hs := sums_step (n := n) an.1 q1 q2 ⟨ll.1, ll.2.1⟩ ⟨hh.1, hh.2.1⟩
  refine ⟨?_, by omega, by omega, by omega, by omega, fun _ => ⟨rfl, hs.1, hs.2, by omega, by omega⟩⟩
  unfold takeT
  rw [ok, okK_iff.2 (show 1 ≤ k ∧ k ≤ 256 by omega), ok3_of (show -35184372088832 < v0 ∧ v0 < 35184372088832 by omega) (show -35184372088832 < v1 ∧ v1 < 35184372088832 by omega) (show -35184372088832 < v2 ∧ v2 < 35184372088832 by omega), if_pos hk.1]
  rfl
theorem means_last {s0 s1 s2 n S0 lo hi k v0 v1 v2 S la ha lo' hi' : Int} (h : TI s0 s1 s2 n S0 lo hi) (q : QI s2 n S la ha) (hk : n + 1 = k ∧ k ≤ 9) (h0 : -17592186044416 ≤ v0 ∧ v0 ≤ 17592186044416) (h1 : -17592186044416 ≤ v1 ∧ v1 ≤ 17592186044416) (h2 : -17592186044416 ≤ v2 ∧ v2 ≤ 17592186044416)
    (ll : lo' ≤ la ∧ lo' ≤ v2 ∧ (lo' = la ∨ lo' = v2)) (hh : ha ≤ hi' ∧ v2 ≤ hi' ∧ (hi' = ha ∨ hi' = v2)) :
    ∃ m0 m1 m2 p, takeT s0 s1 s2 n k v0 v1 v2 = .tuple #[.agg #[.int .i64 0, .int .i64 0, .int .i64 0, .int .i64 0], .agg #[.int .i64 m0, .int .i64 m1, .int .i64 m2], .bool true, .int .i64 0] ∧ lo' ≤ m2 ∧ m2 ≤ hi' ∧ wrap64 (m2 * k) = p ∧ -k ≤ 2 * (p - (S + v2)) ∧ 2 * (p - (S + v2)) ≤ k ∧ -200000000000000 ≤ p ∧ p ≤ 200000000000000 := by
  have ok := ti_okT h
  obtain ⟨a0, a1, a2, an, _⟩ := h
  obtain ⟨rfl, q1, q2, q3, q4⟩ := q
  have hs := sums_step (n := n) an.1 q1 q2 ⟨ll.1, ll.2.1⟩ ⟨hh.1, hh.2.1⟩
  obtain ⟨rfl, hk⟩ := hk
  have b0 := near_in (s := s0 + v0) (k := n + 1) (a := -17592186044416) (b := 17592186044416) (by omega) (by omega) (by omega)
  have b1 := near_in (s := s1 + v1) (k := n + 1) (a := -17592186044416) (b := 17592186044416) (by omega) (by omega) (by omega)
  have b2 := near_in (s := S + v2) (k := n + 1) (a := -17592186044416) (b := 17592186044416) (by omega) (by omega) (by omega)
  have b3 := near_in (s := S + v2) (k := n + 1) (a := lo') (b := hi') (by omega) hs.1 hs.2
  obtain ⟨g1, g2, _⟩ := nearI_spec (S + v2) (n + 1) (by omega)
  refine ⟨nearI (s0 + v0) (n + 1), nearI (s1 + v1) (n + 1), nearI (S + v2) (n + 1), nearI (S + v2) (n + 1) * (n + 1), ?_, b3.1, b3.2, wrap_le _ (by omega) (by omega), by omega, by omega, by omega, by omega⟩
  unfold takeT
  rw [ok, okK_iff.2 (show 1 ≤ n + 1 ∧ n + 1 ≤ 256 by omega), ok3_of (show -35184372088832 < v0 ∧ v0 < 35184372088832 by omega) (show -35184372088832 < v1 ∧ v1 < 35184372088832 by omega) (show -35184372088832 < v2 ∧ v2 < 35184372088832 by omega), if_neg (show ¬ (n + 1 < n + 1) by omega), ok3_of (show -35184372088832 < nearI (s0 + v0) (n + 1) ∧ nearI (s0 + v0) (n + 1) < 35184372088832 by omega) (show -35184372088832 < nearI (s1 + v1) (n + 1) ∧ nearI (s1 + v1) (n + 1) < 35184372088832 by omega) (show -35184372088832 < nearI (S + v2) (n + 1) ∧ nearI (S + v2) (n + 1) < 35184372088832 by omega)]
  rfl
theorem qi_first {s0 s1 s2 S lo hi v : Int} (h : TI s0 s1 s2 0 S lo hi) (hv : -17592186044416 ≤ v ∧ v ≤ 17592186044416) : QI s2 0 0 v v := by
  obtain ⟨a0, a1, a2, _⟩ := h
  refine ⟨by omega, by omega, by omega, hv.1, hv.2⟩
theorem qi_more {s0 s1 s2 n S lo hi : Int} (h : TI s0 s1 s2 n S lo hi) (hn : ¬ n = 0) : QI s2 n S lo hi := by
  obtain ⟨a0, a1, a2, an, q⟩ := h
  exact q (by omega)
set_option maxRecDepth 20000 in
set_option maxHeartbeats 40000000 in
theorem thinmeans_pos (b off len cap : Nat) (Z : Nat → Nat → Int) (w : World) (hl : len ≤ maxLen) (hc : NL 8 w b off len Z) (hpos : 0 < len) :
    Calls Try.prog 4 #[.slice (some ⟨b, off, none⟩) len cap] w fun e w' => e = .returned (.bool true) ∧ Ext w w' := by
  have hl' : len ≤ 9223372036854775807 := by unfold maxLen at hl; omega
  clear hl
  have TI0 : Hid (TI 0 0 0 0 0 0 0) := by show TI _ _ _ _ _ _ _; unfold TI; omega
  have Ft : Hid (HV (w.alloc (.cells #[.int .i64 0, .int .i64 0, .int .i64 0, .int .i64 0] 26)) w.heap.size [.int .i64 0, .int .i64 0, .int .i64 0, .int .i64 0]) := hv_at rfl
  have FX : Hid (Ext w (w.alloc (.cells #[.int .i64 0, .int .i64 0, .int .i64 0, .int .i64 0] 26))) := (Ext.refl _).alloc _
  have c4 := (hc 0 hpos 4 (by omega)).1
  rw [Nat.zero_mul, Nat.add_zero] at c4
  have HW : Hid (∀ w, Calls Try.prog 12 #[.int .i64 (Z 0 4), .int .i64 9] w fun e w' => e = .returned (.int .i64 (Z 0 4 % 18446744073709551616 % 9)) ∧ w' = w) := within_9 (Z 0 4)
  have f0 : 0 ≤ Z 0 4 % 18446744073709551616 % 9 := by omega
  have f1 : Z 0 4 % 18446744073709551616 % 9 ≤ 8 := by omega
  generalize Z 0 4 % 18446744073709551616 % 9 = f at *
  have hpos' : (0 : Int) < (len : Int) := by omega
  have hne : ((len : Int) == 0) = false := by simp; omega
  go_enter Try.func4, Try.ntmps4
  go_upto_region 5 with (go_at_call 12; refine (HW.out _).mono ?_; rintro e wx ⟨rfl, hwx⟩; have hwy := hwx.symm; clear hwx; subst hwy)
  generalize (w.alloc (.cells #[.int .i64 0, .int .i64 0, .int .i64 0, .int .i64 0] 26)) = wa at *
  clear c4 HW hpos' hne
  have K1 : 1 ≤ 1 + f := by omega
  have K2 : 1 + f ≤ 9 := by omega
  clear f0 f1
  generalize 1 + f = kk at *
  go_wp2_with fail
  go_loopw [5, 6, 7, 8, 9] (fun vn vs vlo vhi vi wr => ∃ (k : Nat) (n S lo hi s0 s1 s2 : Int), k ≤ len ∧ vi = .int .i64 k ∧ vn = .int .i64 n ∧ vs = .int .i64 S ∧ vlo = .int .i64 lo ∧ vhi = .int .i64 hi ∧ Hid (n < kk) ∧ Hid (TI s0 s1 s2 n S lo hi) ∧ Hid (HV wr w.heap.size [.int .i64 s0, .int .i64 s1, .int .i64 s2, .int .i64 n]) ∧ Hid (Ext w wr)) (fun _ _ _ _ i _ => len - (intOf i).toNat)
  case atStart => exact ⟨0, 0, 0, 0, 0, 0, 0, 0, Nat.zero_le _, rfl, rfl, rfl, rfl, rfl, by show _ < _; omega, TI0, Ft, FX⟩
  case round =>
    clear TI0 Ft FX
    obtain ⟨k, n, S, lo, hi, s0, s1, s2, hk, rfl, rfl, rfl, rfl, rfl, Hn, HR, Ft, FX⟩ := hrel
    by_cases hlt : k < len
    · by_cases h5 : k < 60
      · skip
        have c0 := ((hc.ext FX.out) k hlt 5 (by omega)).1
        have c1 := ((hc.ext FX.out) k hlt 6 (by omega)).1
        have c2 := ((hc.ext FX.out) k hlt 7 (by omega)).1
        have hlt' : (k : Int) < (len : Int) := by omega
        clear hc
        generalize Z k 5 = z0 at *
        generalize Z k 6 = z1 at *
        generalize Z k 7 = z2 at *
        have HB : Hid (∀ w, Calls Try.prog 13 #[.agg #[.int .i64 z0, .int .i64 z1, .int .i64 z2], .int .i64 17592186044416] w fun e w' => e = .returned (.agg #[.int .i64 (brt 17592186044416 z0), .int .i64 (brt 17592186044416 z1), .int .i64 (brt 17592186044416 z2)]) ∧ Ext w w') := brvec_17592186044416 _ _ _
        have gb0 := brt_bounds 17592186044416 z0 (by decide)
        generalize brt 17592186044416 z0 = v0 at *
        have gb1 := brt_bounds 17592186044416 z1 (by decide)
        generalize brt 17592186044416 z1 = v1 at *
        have gb2 := brt_bounds 17592186044416 z2 (by decide)
        generalize brt 17592186044416 z2 = v2 at *
        have GV0 : Hid (-17592186044416 ≤ v0 ∧ v0 ≤ 17592186044416) := gb0
        have GV1 : Hid (-17592186044416 ≤ v1 ∧ v1 ≤ 17592186044416) := gb1
        have GV2 : Hid (-17592186044416 ≤ v2 ∧ v2 ≤ 17592186044416) := gb2
        obtain ⟨g2a, g2b⟩ := gb2
        clear gb0 gb1
        go_upto_region 11 with (first | (go_at_call 13; refine (HB.out _).mono ?_; rintro e wq0 ⟨rfl, xq0⟩))
        have Ft : Hid (HV wq0 w.heap.size [.int .i64 s0, .int .i64 s1, .int .i64 s2, .int .i64 n]) := Ft.out.ext xq0
        have FX : Hid (Ext w wq0) := FX.out.trans xq0
        clear xq0 HB c0 c1 c2
        have lttv : w.heap.size < wq0.heap.size := Ft.out.1
        have Lv : Hid (w.heap.size ≤ wq0.heap.size) := FX.out.size
        have Ft : Hid (HV (wq0.alloc (.cells #[.int .i64 v0, .int .i64 v1, .int .i64 v2] 24)) w.heap.size [.int .i64 s0, .int .i64 s1, .int .i64 s2, .int .i64 n]) := Ft.out.alloc _
        have Fv : Hid (HV (wq0.alloc (.cells #[.int .i64 v0, .int .i64 v1, .int .i64 v2] 24)) wq0.heap.size [.int .i64 v0, .int .i64 v1, .int .i64 v2]) := hv_at rfl
        have FX : Hid (Ext w (wq0.alloc (.cells #[.int .i64 v0, .int .i64 v1, .int .i64 v2] 24))) := FX.out.alloc _
        generalize (wq0.alloc (.cells #[.int .i64 v0, .int .i64 v1, .int .i64 v2] 24)) = wx1 at *
        generalize wq0.heap.size = nv at *
        go_upto_if 44 with fail
        go_cut [6, 7, 8] from 27 to 117 (fun v6 v7 v8 wx => ∃ S1 la ha : Int, v6 = .int .i64 S1 ∧ v7 = .int .i64 la ∧ v8 = .int .i64 ha ∧ Hid (QI s2 n S1 la ha) ∧ Hid (Ext wx1 wx))
        case first =>
          by_cases e0 : n = 0
          · subst e0
            have QQ : Hid (QI s2 0 0 v2 v2) := qi_first HR.out GV2.out
            have qv2 : wx1.cell? ⟨nv, 2, none⟩ = some (.int .i64 v2) := Fv.out.c 2 rfl
            go_upto_region 12 with fail
            go_quiet (fail)
            go_wp2_with fail
            go_meet
            exact ⟨0, v2, v2, rfl, rfl, rfl, QQ, (Ext.refl _).drewN _⟩
          · have QQ : Hid (QI s2 n S lo hi) := qi_more HR.out e0
            have e3 : (n == 0) = false := by simp [e0]
            go_wp2_with fail
            go_meet
            exact ⟨S, lo, hi, rfl, rfl, rfl, QQ, Ext.refl _⟩
        case rest =>
          obtain ⟨S1, la, ha, rfl, rfl, rfl, QQ, hx⟩ := hcut
          have hx := hx.out
          have Ft : Hid (HV wc w.heap.size [.int .i64 s0, .int .i64 s1, .int .i64 s2, .int .i64 n]) := Ft.out.ext hx
          have Fv : Hid (HV wc nv [.int .i64 v0, .int .i64 v1, .int .i64 v2]) := Fv.out.ext hx
          have FX : Hid (Ext w wc) := FX.out.trans hx
          clear hx
          obtain ⟨nb0, nb1⟩ : 0 ≤ n ∧ n ≤ 8 := HR.out.2.2.2.1
          obtain ⟨sb0, sb1⟩ : -140737488355328 ≤ S1 ∧ S1 ≤ 140737488355328 := by have a := HR.out.2.2.1; have c := QQ.out.1; omega
          have qv2 : wc.cell? ⟨nv, 2, none⟩ = some (.int .i64 v2) := Fv.out.c 2 rfl
          go_upto_region 17 with fail
          clear qv2
          have LL : Hid (min la v2 ≤ la ∧ min la v2 ≤ v2 ∧ (min la v2 = la ∨ min la v2 = v2)) := by show _ ∧ _; omega
          have HH : Hid (ha ≤ max ha v2 ∧ v2 ≤ max ha v2 ∧ (max ha v2 = ha ∨ max ha v2 = v2)) := by show _ ∧ _; omega
          generalize min la v2 = lo1 at *
          generalize max ha v2 = hi1 at *
          by_cases hl : n + 1 < kk
          · obtain ⟨et, HR1⟩ := means_more HR.out QQ.out ⟨hl, K2⟩ GV0.out GV1.out GV2.out LL.out HH.out
            have HR1 : Hid (TI (s0 + v0) (s1 + v1) (s2 + v2) (n + 1) (S1 + v2) lo1 hi1) := HR1
            have ek : (n + 1 == kk) = false := by simp; omega
            have HT : Hid (∀ w, Calls Try.prog 9 #[.agg #[.int .i64 s0, .int .i64 s1, .int .i64 s2, .int .i64 n], .int .i64 kk, .agg #[.int .i64 v0, .int .i64 v1, .int .i64 v2]] w fun e w' => e = .returned (.tuple #[.agg #[.int .i64 (s0 + v0), .int .i64 (s1 + v1), .int .i64 (s2 + v2), .int .i64 (n + 1)], .agg #[.int .i64 0, .int .i64 0, .int .i64 0], .bool false, .int .i64 0]) ∧ Ext w w') := fun w => by have h := ttake_any s0 s1 s2 n kk v0 v1 v2 w; rw [et] at h; exact h
            clear et HR QQ GV0 GV1 GV2 LL HH 
            generalize s0 + v0 = y0 at *
            generalize s1 + v1 = y1 at *
            generalize s2 + v2 = y2 at *
            have qt0 : wc.cell? ⟨w.heap.size, 0, none⟩ = some (.int .i64 s0) := Ft.out.c 0 rfl
            have qt1 : wc.cell? ⟨w.heap.size, 1, none⟩ = some (.int .i64 s1) := Ft.out.c 1 rfl
            have qt2 : wc.cell? ⟨w.heap.size, 2, none⟩ = some (.int .i64 s2) := Ft.out.c 2 rfl
            have qt3 : wc.cell? ⟨w.heap.size, 3, none⟩ = some (.int .i64 n) := Ft.out.c 3 rfl
            have qv0 : wc.cell? ⟨nv, 0, none⟩ = some (.int .i64 v0) := Fv.out.c 0 rfl
            have qv1 : wc.cell? ⟨nv, 1, none⟩ = some (.int .i64 v1) := Fv.out.c 1 rfl
            have qv2 : wc.cell? ⟨nv, 2, none⟩ = some (.int .i64 v2) := Fv.out.c 2 rfl
            go_upto_region 18 with (first | (go_at_call 9; refine (HT.out _).mono ?_; rintro e wq1 ⟨rfl, xq1⟩))
            have Ft : Hid (HV wq1 w.heap.size [.int .i64 s0, .int .i64 s1, .int .i64 s2, .int .i64 n]) := Ft.out.ext xq1
            have Fv : Hid (HV wq1 nv [.int .i64 v0, .int .i64 v1, .int .i64 v2]) := Fv.out.ext xq1
            have FX : Hid (Ext w wq1) := FX.out.trans xq1
            clear qt0 qt1 qt2 qt3 qv0 qv1 qv2 xq1 HT
            have lttu : w.heap.size < wq1.heap.size := Ft.out.1
            have ltvu : nv < wq1.heap.size := Fv.out.1
            have Lu : Hid (w.heap.size ≤ wq1.heap.size) := FX.out.size
            have Lm : Hid (w.heap.size ≤ wq1.heap.size + 1) := Nat.le_trans FX.out.size (Nat.le_add_right _ _)
            have Ft : Hid (HV ((wq1.alloc (.cells #[.int .i64 y0, .int .i64 y1, .int .i64 y2, .int .i64 (n + 1)] 26)).alloc (.cells #[.int .i64 0, .int .i64 0, .int .i64 0] 24)) w.heap.size [.int .i64 s0, .int .i64 s1, .int .i64 s2, .int .i64 n]) := ((Ft.out.alloc _).alloc _)
            have Fv : Hid (HV ((wq1.alloc (.cells #[.int .i64 y0, .int .i64 y1, .int .i64 y2, .int .i64 (n + 1)] 26)).alloc (.cells #[.int .i64 0, .int .i64 0, .int .i64 0] 24)) nv [.int .i64 v0, .int .i64 v1, .int .i64 v2]) := ((Fv.out.alloc _).alloc _)
            have Fu : Hid (HV ((wq1.alloc (.cells #[.int .i64 y0, .int .i64 y1, .int .i64 y2, .int .i64 (n + 1)] 26)).alloc (.cells #[.int .i64 0, .int .i64 0, .int .i64 0] 24)) wq1.heap.size [.int .i64 y0, .int .i64 y1, .int .i64 y2, .int .i64 (n + 1)]) := ((hv_at rfl).alloc _)
            have Fm : Hid (HV ((wq1.alloc (.cells #[.int .i64 y0, .int .i64 y1, .int .i64 y2, .int .i64 (n + 1)] 26)).alloc (.cells #[.int .i64 0, .int .i64 0, .int .i64 0] 24)) (wq1.heap.size + 1) [.int .i64 0, .int .i64 0, .int .i64 0]) := (hv_at (by simp))
            have FX : Hid (Ext w ((wq1.alloc (.cells #[.int .i64 y0, .int .i64 y1, .int .i64 y2, .int .i64 (n + 1)] 26)).alloc (.cells #[.int .i64 0, .int .i64 0, .int .i64 0] 24))) := ((FX.out.alloc _).alloc _)
            generalize ((wq1.alloc (.cells #[.int .i64 y0, .int .i64 y1, .int .i64 y2, .int .i64 (n + 1)] 26)).alloc (.cells #[.int .i64 0, .int .i64 0, .int .i64 0] 24)) = wx2 at *
            generalize wq1.heap.size = nu at *
            have ltum : nu < nu + 1 := by omega
            generalize nu + 1 = nm at *
            go_upto_region 20 with (first | (go_at_call 10; refine (num14_any _ _).mono ?_; rintro e wx ⟨rfl, hwx⟩; have hwy := hwx.symm; clear hwx; subst hwy))
            have Lt : Hid (w.heap.size ≤ w.heap.size) := Nat.le_refl _
            have qu0 : wx2.cell? ⟨nu, 0, none⟩ = some (.int .i64 y0) := Fu.out.c 0 rfl
            have qu1 : wx2.cell? ⟨nu, 1, none⟩ = some (.int .i64 y1) := Fu.out.c 1 rfl
            have qu2 : wx2.cell? ⟨nu, 2, none⟩ = some (.int .i64 y2) := Fu.out.c 2 rfl
            have qu3 : wx2.cell? ⟨nu, 3, none⟩ = some (.int .i64 (n + 1)) := Fu.out.c 3 rfl
            have qt0 : wx2.cell? ⟨w.heap.size, 0, none⟩ = some (.int .i64 s0) := Ft.out.c 0 rfl
            have zt0 : wx2.frozen? ⟨w.heap.size, 0, none⟩ = false := Ft.out.f 0 rfl
            have qt1 : wx2.cell? ⟨w.heap.size, 1, none⟩ = some (.int .i64 s1) := Ft.out.c 1 rfl
            have zt1 : wx2.frozen? ⟨w.heap.size, 1, none⟩ = false := Ft.out.f 1 rfl
            have qt2 : wx2.cell? ⟨w.heap.size, 2, none⟩ = some (.int .i64 s2) := Ft.out.c 2 rfl
            have zt2 : wx2.frozen? ⟨w.heap.size, 2, none⟩ = false := Ft.out.f 2 rfl
            have qt3 : wx2.cell? ⟨w.heap.size, 3, none⟩ = some (.int .i64 n) := Ft.out.c 3 rfl
            have zt3 : wx2.frozen? ⟨w.heap.size, 3, none⟩ = false := Ft.out.f 3 rfl
            go_upto_region 21 with fail
            clear qu0 qu1 qu2 qu3 qt0 qt1 qt2 qt3 zt0 zt1 zt2 zt3
            have Fv : Hid (HV ((((wx2.setCell ⟨w.heap.size, 0, none⟩ (.int .i64 y0)).setCell ⟨w.heap.size, 1, none⟩ (.int .i64 y1)).setCell ⟨w.heap.size, 2, none⟩ (.int .i64 y2)).setCell ⟨w.heap.size, 3, none⟩ (.int .i64 (n + 1))) nv [.int .i64 v0, .int .i64 v1, .int .i64 v2]) := ((((Fv.out.far (by omega)).far (by omega)).far (by omega)).far (by omega))
            have Fu : Hid (HV ((((wx2.setCell ⟨w.heap.size, 0, none⟩ (.int .i64 y0)).setCell ⟨w.heap.size, 1, none⟩ (.int .i64 y1)).setCell ⟨w.heap.size, 2, none⟩ (.int .i64 y2)).setCell ⟨w.heap.size, 3, none⟩ (.int .i64 (n + 1))) nu [.int .i64 y0, .int .i64 y1, .int .i64 y2, .int .i64 (n + 1)]) := ((((Fu.out.far (by omega)).far (by omega)).far (by omega)).far (by omega))
            have Fm : Hid (HV ((((wx2.setCell ⟨w.heap.size, 0, none⟩ (.int .i64 y0)).setCell ⟨w.heap.size, 1, none⟩ (.int .i64 y1)).setCell ⟨w.heap.size, 2, none⟩ (.int .i64 y2)).setCell ⟨w.heap.size, 3, none⟩ (.int .i64 (n + 1))) nm [.int .i64 0, .int .i64 0, .int .i64 0]) := ((((Fm.out.far (by omega)).far (by omega)).far (by omega)).far (by omega))
            have Ft : Hid (HV ((((wx2.setCell ⟨w.heap.size, 0, none⟩ (.int .i64 y0)).setCell ⟨w.heap.size, 1, none⟩ (.int .i64 y1)).setCell ⟨w.heap.size, 2, none⟩ (.int .i64 y2)).setCell ⟨w.heap.size, 3, none⟩ (.int .i64 (n + 1))) w.heap.size [.int .i64 y0, .int .i64 y1, .int .i64 y2, .int .i64 (n + 1)]) := ((((Ft.out.set 0 (.int .i64 y0)).set 1 (.int .i64 y1)).set 2 (.int .i64 y2)).set 3 (.int .i64 (n + 1)))
            have FX : Hid (Ext w ((((wx2.setCell ⟨w.heap.size, 0, none⟩ (.int .i64 y0)).setCell ⟨w.heap.size, 1, none⟩ (.int .i64 y1)).setCell ⟨w.heap.size, 2, none⟩ (.int .i64 y2)).setCell ⟨w.heap.size, 3, none⟩ (.int .i64 (n + 1)))) := ((((FX.out.set (p := ⟨w.heap.size, 0, none⟩) Lt.out (.int .i64 y0)).set (p := ⟨w.heap.size, 1, none⟩) Lt.out (.int .i64 y1)).set (p := ⟨w.heap.size, 2, none⟩) Lt.out (.int .i64 y2)).set (p := ⟨w.heap.size, 3, none⟩) Lt.out (.int .i64 (n + 1)))
            generalize ((((wx2.setCell ⟨w.heap.size, 0, none⟩ (.int .i64 y0)).setCell ⟨w.heap.size, 1, none⟩ (.int .i64 y1)).setCell ⟨w.heap.size, 2, none⟩ (.int .i64 y2)).setCell ⟨w.heap.size, 3, none⟩ (.int .i64 (n + 1))) = wx3 at *
            go_wp2_with fail
            go_roundw
            case rel => exact ⟨k + 1, n + 1, S1 + v2, lo1, hi1, y0, y1, y2, by omega, by go_num, rfl, rfl, rfl, rfl, hl, HR1, Ft, FX⟩
            case measure => simp [intOf]; omega
          · have hl2 : n + 1 = kk := by have := Hn.out; omega
            obtain ⟨m0, m1, m2, p, et, r1, r2, r3, r4, r5, r6, r7⟩ := means_last HR.out QQ.out ⟨hl2, K2⟩ GV0.out GV1.out GV2.out LL.out HH.out
            have ek : (n + 1 == kk) = true := by simp; omega
            have HT : Hid (∀ w, Calls Try.prog 9 #[.agg #[.int .i64 s0, .int .i64 s1, .int .i64 s2, .int .i64 n], .int .i64 kk, .agg #[.int .i64 v0, .int .i64 v1, .int .i64 v2]] w fun e w' => e = .returned (.tuple #[.agg #[.int .i64 0, .int .i64 0, .int .i64 0, .int .i64 0], .agg #[.int .i64 m0, .int .i64 m1, .int .i64 m2], .bool true, .int .i64 0]) ∧ Ext w w') := fun w => by have h := ttake_any s0 s1 s2 n kk v0 v1 v2 w; rw [et] at h; exact h
            clear et HR QQ GV0 GV1 GV2 LL HH hl
            have qt0 : wc.cell? ⟨w.heap.size, 0, none⟩ = some (.int .i64 s0) := Ft.out.c 0 rfl
            have qt1 : wc.cell? ⟨w.heap.size, 1, none⟩ = some (.int .i64 s1) := Ft.out.c 1 rfl
            have qt2 : wc.cell? ⟨w.heap.size, 2, none⟩ = some (.int .i64 s2) := Ft.out.c 2 rfl
            have qt3 : wc.cell? ⟨w.heap.size, 3, none⟩ = some (.int .i64 n) := Ft.out.c 3 rfl
            have qv0 : wc.cell? ⟨nv, 0, none⟩ = some (.int .i64 v0) := Fv.out.c 0 rfl
            have qv1 : wc.cell? ⟨nv, 1, none⟩ = some (.int .i64 v1) := Fv.out.c 1 rfl
            have qv2 : wc.cell? ⟨nv, 2, none⟩ = some (.int .i64 v2) := Fv.out.c 2 rfl
            go_upto_region 18 with (first | (go_at_call 9; refine (HT.out _).mono ?_; rintro e wq1 ⟨rfl, xq1⟩))
            have Ft : Hid (HV wq1 w.heap.size [.int .i64 s0, .int .i64 s1, .int .i64 s2, .int .i64 n]) := Ft.out.ext xq1
            have Fv : Hid (HV wq1 nv [.int .i64 v0, .int .i64 v1, .int .i64 v2]) := Fv.out.ext xq1
            have FX : Hid (Ext w wq1) := FX.out.trans xq1
            clear qt0 qt1 qt2 qt3 qv0 qv1 qv2 xq1 HT
            have lttu : w.heap.size < wq1.heap.size := Ft.out.1
            have ltvu : nv < wq1.heap.size := Fv.out.1
            have Lu : Hid (w.heap.size ≤ wq1.heap.size) := FX.out.size
            have Lm : Hid (w.heap.size ≤ wq1.heap.size + 1) := Nat.le_trans FX.out.size (Nat.le_add_right _ _)
            have Ft : Hid (HV ((wq1.alloc (.cells #[.int .i64 0, .int .i64 0, .int .i64 0, .int .i64 0] 26)).alloc (.cells #[.int .i64 m0, .int .i64 m1, .int .i64 m2] 24)) w.heap.size [.int .i64 s0, .int .i64 s1, .int .i64 s2, .int .i64 n]) := ((Ft.out.alloc _).alloc _)
            have Fv : Hid (HV ((wq1.alloc (.cells #[.int .i64 0, .int .i64 0, .int .i64 0, .int .i64 0] 26)).alloc (.cells #[.int .i64 m0, .int .i64 m1, .int .i64 m2] 24)) nv [.int .i64 v0, .int .i64 v1, .int .i64 v2]) := ((Fv.out.alloc _).alloc _)
            have Fu : Hid (HV ((wq1.alloc (.cells #[.int .i64 0, .int .i64 0, .int .i64 0, .int .i64 0] 26)).alloc (.cells #[.int .i64 m0, .int .i64 m1, .int .i64 m2] 24)) wq1.heap.size [.int .i64 0, .int .i64 0, .int .i64 0, .int .i64 0]) := ((hv_at rfl).alloc _)
            have Fm : Hid (HV ((wq1.alloc (.cells #[.int .i64 0, .int .i64 0, .int .i64 0, .int .i64 0] 26)).alloc (.cells #[.int .i64 m0, .int .i64 m1, .int .i64 m2] 24)) (wq1.heap.size + 1) [.int .i64 m0, .int .i64 m1, .int .i64 m2]) := (hv_at (by simp))
            have FX : Hid (Ext w ((wq1.alloc (.cells #[.int .i64 0, .int .i64 0, .int .i64 0, .int .i64 0] 26)).alloc (.cells #[.int .i64 m0, .int .i64 m1, .int .i64 m2] 24))) := ((FX.out.alloc _).alloc _)
            generalize ((wq1.alloc (.cells #[.int .i64 0, .int .i64 0, .int .i64 0, .int .i64 0] 26)).alloc (.cells #[.int .i64 m0, .int .i64 m1, .int .i64 m2] 24)) = wx2 at *
            generalize wq1.heap.size = nu at *
            have ltum : nu < nu + 1 := by omega
            generalize nu + 1 = nm at *
            go_upto_region 20 with (first | (go_at_call 10; refine (num14_any _ _).mono ?_; rintro e wx ⟨rfl, hwx⟩; have hwy := hwx.symm; clear hwx; subst hwy))
            have Lt : Hid (w.heap.size ≤ w.heap.size) := Nat.le_refl _
            have qu0 : wx2.cell? ⟨nu, 0, none⟩ = some (.int .i64 0) := Fu.out.c 0 rfl
            have qu1 : wx2.cell? ⟨nu, 1, none⟩ = some (.int .i64 0) := Fu.out.c 1 rfl
            have qu2 : wx2.cell? ⟨nu, 2, none⟩ = some (.int .i64 0) := Fu.out.c 2 rfl
            have qu3 : wx2.cell? ⟨nu, 3, none⟩ = some (.int .i64 0) := Fu.out.c 3 rfl
            have qt0 : wx2.cell? ⟨w.heap.size, 0, none⟩ = some (.int .i64 s0) := Ft.out.c 0 rfl
            have zt0 : wx2.frozen? ⟨w.heap.size, 0, none⟩ = false := Ft.out.f 0 rfl
            have qt1 : wx2.cell? ⟨w.heap.size, 1, none⟩ = some (.int .i64 s1) := Ft.out.c 1 rfl
            have zt1 : wx2.frozen? ⟨w.heap.size, 1, none⟩ = false := Ft.out.f 1 rfl
            have qt2 : wx2.cell? ⟨w.heap.size, 2, none⟩ = some (.int .i64 s2) := Ft.out.c 2 rfl
            have zt2 : wx2.frozen? ⟨w.heap.size, 2, none⟩ = false := Ft.out.f 2 rfl
            have qt3 : wx2.cell? ⟨w.heap.size, 3, none⟩ = some (.int .i64 n) := Ft.out.c 3 rfl
            have zt3 : wx2.frozen? ⟨w.heap.size, 3, none⟩ = false := Ft.out.f 3 rfl
            go_upto_region 21 with fail
            clear qu0 qu1 qu2 qu3 qt0 qt1 qt2 qt3 zt0 zt1 zt2 zt3
            have Fv : Hid (HV ((((wx2.setCell ⟨w.heap.size, 0, none⟩ (.int .i64 0)).setCell ⟨w.heap.size, 1, none⟩ (.int .i64 0)).setCell ⟨w.heap.size, 2, none⟩ (.int .i64 0)).setCell ⟨w.heap.size, 3, none⟩ (.int .i64 0)) nv [.int .i64 v0, .int .i64 v1, .int .i64 v2]) := ((((Fv.out.far (by omega)).far (by omega)).far (by omega)).far (by omega))
            have Fu : Hid (HV ((((wx2.setCell ⟨w.heap.size, 0, none⟩ (.int .i64 0)).setCell ⟨w.heap.size, 1, none⟩ (.int .i64 0)).setCell ⟨w.heap.size, 2, none⟩ (.int .i64 0)).setCell ⟨w.heap.size, 3, none⟩ (.int .i64 0)) nu [.int .i64 0, .int .i64 0, .int .i64 0, .int .i64 0]) := ((((Fu.out.far (by omega)).far (by omega)).far (by omega)).far (by omega))
            have Fm : Hid (HV ((((wx2.setCell ⟨w.heap.size, 0, none⟩ (.int .i64 0)).setCell ⟨w.heap.size, 1, none⟩ (.int .i64 0)).setCell ⟨w.heap.size, 2, none⟩ (.int .i64 0)).setCell ⟨w.heap.size, 3, none⟩ (.int .i64 0)) nm [.int .i64 m0, .int .i64 m1, .int .i64 m2]) := ((((Fm.out.far (by omega)).far (by omega)).far (by omega)).far (by omega))
            have Ft : Hid (HV ((((wx2.setCell ⟨w.heap.size, 0, none⟩ (.int .i64 0)).setCell ⟨w.heap.size, 1, none⟩ (.int .i64 0)).setCell ⟨w.heap.size, 2, none⟩ (.int .i64 0)).setCell ⟨w.heap.size, 3, none⟩ (.int .i64 0)) w.heap.size [.int .i64 0, .int .i64 0, .int .i64 0, .int .i64 0]) := ((((Ft.out.set 0 (.int .i64 0)).set 1 (.int .i64 0)).set 2 (.int .i64 0)).set 3 (.int .i64 0))
            have FX : Hid (Ext w ((((wx2.setCell ⟨w.heap.size, 0, none⟩ (.int .i64 0)).setCell ⟨w.heap.size, 1, none⟩ (.int .i64 0)).setCell ⟨w.heap.size, 2, none⟩ (.int .i64 0)).setCell ⟨w.heap.size, 3, none⟩ (.int .i64 0))) := ((((FX.out.set (p := ⟨w.heap.size, 0, none⟩) Lt.out (.int .i64 0)).set (p := ⟨w.heap.size, 1, none⟩) Lt.out (.int .i64 0)).set (p := ⟨w.heap.size, 2, none⟩) Lt.out (.int .i64 0)).set (p := ⟨w.heap.size, 3, none⟩) Lt.out (.int .i64 0))
            generalize ((((wx2.setCell ⟨w.heap.size, 0, none⟩ (.int .i64 0)).setCell ⟨w.heap.size, 1, none⟩ (.int .i64 0)).setCell ⟨w.heap.size, 2, none⟩ (.int .i64 0)).setCell ⟨w.heap.size, 3, none⟩ (.int .i64 0)) = wx3 at *
            have qm2 : wx3.cell? ⟨nm, 2, none⟩ = some (.int .i64 m2) := Fm.out.c 2 rfl
            have qu0 : wx3.cell? ⟨nu, 0, none⟩ = some (.int .i64 0) := Fu.out.c 0 rfl
            have qu1 : wx3.cell? ⟨nu, 1, none⟩ = some (.int .i64 0) := Fu.out.c 1 rfl
            have qu2 : wx3.cell? ⟨nu, 2, none⟩ = some (.int .i64 0) := Fu.out.c 2 rfl
            have qu3 : wx3.cell? ⟨nu, 3, none⟩ = some (.int .i64 0) := Fu.out.c 3 rfl
            skip
            go_wp2_with fail
            go_roundw
            case rel => exact ⟨k + 1, 0, S1 + v2, lo1, hi1, 0, 0, 0, by omega, by go_num, rfl, rfl, rfl, rfl, by show _ < _; omega, by show TI _ _ _ _ _ _ _; unfold TI; omega, Ft, FX⟩
            case measure => simp [intOf]; omega
      · go_wp2_with fail
        refine (wakes14_any _).mono ?_
        rintro e w1 ⟨rfl, x1⟩
        have E1 : Ext w w1 := FX.out.trans x1
        go_wp2_with fail
        go_ret
        exact ⟨rfl, E1⟩
    · have hk' : k = len := by omega
      subst hk'
      go_wp2_with fail
      refine (wakes14_any _).mono ?_
      rintro e w1 ⟨rfl, x1⟩
      have E1 : Ext w w1 := FX.out.trans x1
      go_wp2_with fail
      go_ret
      exact ⟨rfl, E1⟩
set_option maxHeartbeats 4000000 in
theorem thinmeans_none (a : Option Addr) (cap : Nat) (w : World) :
    Calls Try.prog 4 #[.slice a 0 cap] w fun e w' => e = .returned (.bool true) ∧ Ext w w' := by
  go_enter Try.func4, Try.ntmps4
  go_wp2_with fail
  refine (wakes14_any _).mono ?_
  rintro e w1 ⟨rfl, x1⟩
  go_wp2_with fail
  go_ret
  exact ⟨rfl, x1⟩
theorem thinmeans_any (b off len cap : Nat) (Z : Nat → Nat → Int) (w : World) (hl : len ≤ maxLen) (hc : NL 8 w b off len Z) :
    Calls Try.prog 4 #[.slice (some ⟨b, off, none⟩) len cap] w fun e w' => e = .returned (.bool true) ∧ Ext w w' := by
  by_cases h : len = 0
  · subst h
    exact thinmeans_none _ cap w
  · exact thinmeans_pos b off len cap Z w hl hc (by omega)
end Go.Proofs.Ytkcfgkedgjpeoaa
