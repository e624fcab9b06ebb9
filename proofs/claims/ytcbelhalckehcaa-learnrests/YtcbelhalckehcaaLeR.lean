/- LearnRests. -/
import Derived.Test.YtcbelhalckehcaaLeS
namespace Go.Proofs.Ytcbelhalckehcaa
open Go.RowKit Go.Shelf
/-- what is kept from sample to sample -/
def RI (b0 b1 b2 s0 s1 s2 n lo hi : Int) : Prop :=
  (-1048576 ≤ b0 ∧ b0 ≤ 1048576) ∧ (-1048576 ≤ b1 ∧ b1 ≤ 1048576) ∧ (-1048576 ≤ b2 ∧ b2 ≤ 1048576) ∧ (0 ≤ n ∧ n < 32) ∧ (n = 0 → s0 = 0 ∧ s1 = 0 ∧ s2 = 0) ∧
  (-(n * 1048576) ≤ s0 ∧ s0 ≤ n * 1048576) ∧ (-(n * 1048576) ≤ s1 ∧ s1 ≤ n * 1048576) ∧ (-(n * 1048576) ≤ s2 ∧ s2 ≤ n * 1048576) ∧ (0 < n → n * lo ≤ s0 ∧ s0 ≤ n * hi)
/-- what a sample is -/
def RV (v0 v1 v2 : Int) : Prop := (-1048576 ≤ v0 ∧ v0 ≤ 1048576) ∧ (-1048576 ≤ v1 ∧ v1 ≤ 1048576) ∧ ((-1048576 ≤ v2 ∧ v2 ≤ 1048576) ∨ v2 = 1099511627776)
theorem nr_le {s m : Int} (h1 : -(32 * m) ≤ s) (h2 : s ≤ 32 * m) : -m ≤ nr s ∧ nr s ≤ m := by unfold nr nearI; omega
theorem nr_in {s a b : Int} (h1 : 32 * a ≤ s) (h2 : s ≤ 32 * b) : a ≤ nr s ∧ nr s ≤ b := by unfold nr nearI; omega
theorem half_le {a m : Int} (h1 : -(2 * m) ≤ a) (h2 : a ≤ 2 * m) : -m ≤ a.tdiv 2 ∧ a.tdiv 2 ≤ m := by
  have h := Int.mul_tdiv_add_tmod a 2
  rcases Int.le_total 0 a with k | k
  · have a1 := Int.tmod_nonneg 2 k
    have a2 := Int.tmod_lt_of_pos a (show (0:Int) < 2 by decide)
    omega
  · have e : a.tmod 2 = -((-a).tmod 2) := by rw [Int.neg_tmod, Int.neg_neg]
    have a1 := Int.tmod_nonneg 2 (show 0 ≤ -a by omega)
    have a2 := Int.tmod_lt_of_pos (-a) (show (0:Int) < 2 by decide)
    omega
theorem rests_far {b0 b1 b2 s0 s1 s2 n lo hi v0 v1 v2 : Int} (h : RI b0 b1 b2 s0 s1 s2 n lo hi) (hv : RV v0 v1 v2) (hn : ngh v0 v1 v2 b0 b1 b2 = false) :
    takeL b0 b1 b2 s0 s1 s2 n v0 v1 v2 = .tuple #[.agg #[.int .i64 b0, .int .i64 b1, .int .i64 b2, .int .i64 0, .int .i64 0, .int .i64 0, .int .i64 0], .bool false, .int .i64 0] ∧ ∀ lo' hi', RI b0 b1 b2 0 0 0 0 lo' hi' := by
  obtain ⟨k0, k1, k2, kn, kz, m0, m1, m2, _⟩ := h
  obtain ⟨g0, g1, g2⟩ := hv
  have ok : okLn b0 b1 b2 s0 s1 s2 n = true := okLn_of (ok3_of (by omega) (by omega) (by omega)) (by omega) (by omega) (by omega) kn kz
  refine ⟨?_, fun lo' hi' => ⟨k0, k1, k2, by omega, by simp, by omega, by omega, by omega, fun h => by omega⟩⟩
  unfold takeL
  rw [ok, ok3_of (show -35184372088832 < v0 ∧ v0 < 35184372088832 by omega) (show -35184372088832 < v1 ∧ v1 < 35184372088832 by omega) (show -35184372088832 < v2 ∧ v2 < 35184372088832 by omega), hn]
  rfl
theorem ngh_parts {v0 v1 v2 b0 b1 b2 : Int} (h : ngh v0 v1 v2 b0 b1 b2 = true) : (-1048576 ≤ v0 - b0 ∧ v0 - b0 ≤ 1048576) ∧ (-1048576 ≤ v1 - b1 ∧ v1 - b1 ≤ 1048576) ∧ (-1048576 ≤ v2 - b2 ∧ v2 - b2 ≤ 1048576) := by
  unfold ngh at h
  simp only [Bool.and_eq_true, gte_iff] at h
  exact ⟨h.1.1, h.1.2, h.2⟩
theorem mul_lo {n a b : Int} (hn : 0 ≤ n) (h : a ≤ b) : n * a ≤ n * b := Int.mul_le_mul_of_nonneg_left h hn
theorem rests_more {b0 b1 b2 s0 s1 s2 n lo hi v0 v1 v2 lo' hi' : Int} (h : RI b0 b1 b2 s0 s1 s2 n lo hi) (hv : RV v0 v1 v2) (hn : ngh v0 v1 v2 b0 b1 b2 = true) (hl : n + 1 < 32) (l1 : lo' ≤ v0) (l2 : v0 ≤ hi') (l3 : 0 < n → lo' ≤ lo ∧ hi ≤ hi') :
    takeL b0 b1 b2 s0 s1 s2 n v0 v1 v2 = .tuple #[.agg #[.int .i64 b0, .int .i64 b1, .int .i64 b2, .int .i64 (s0 + v0), .int .i64 (s1 + v1), .int .i64 (s2 + v2), .int .i64 (n + 1)], .bool false, .int .i64 0] ∧ RI b0 b1 b2 (s0 + v0) (s1 + v1) (s2 + v2) (n + 1) lo' hi' := by
  obtain ⟨k0, k1, k2, kn, kz, m0, m1, m2, kl⟩ := h
  obtain ⟨g0, g1, g2⟩ := hv
  obtain ⟨q0, q1, q2⟩ := ngh_parts hn
  have ok : okLn b0 b1 b2 s0 s1 s2 n = true := okLn_of (ok3_of (by omega) (by omega) (by omega)) (by omega) (by omega) (by omega) kn kz
  constructor
  · unfold takeL
    rw [ok, ok3_of (show -35184372088832 < v0 ∧ v0 < 35184372088832 by omega) (show -35184372088832 < v1 ∧ v1 < 35184372088832 by omega) (show -35184372088832 < v2 ∧ v2 < 35184372088832 by omega), hn, if_pos hl]
    rfl
  · have hlo : (n + 1) * lo' ≤ s0 + v0 ∧ s0 + v0 ≤ (n + 1) * hi' := by
      rw [Int.add_mul, Int.add_mul, Int.one_mul, Int.one_mul]
      by_cases h0 : 0 < n
      · have a1 := mul_lo kn.1 (l3 h0).1
        have a2 := mul_lo kn.1 (l3 h0).2
        have a3 := kl h0
        omega
      · have e : n = 0 := by omega
        have := kz e
        subst e
        rw [Int.zero_mul, Int.zero_mul]
        omega
    exact ⟨k0, k1, k2, by omega, by omega, by omega, by omega, by omega, fun _ => hlo⟩
theorem rests_mean {b0 b1 b2 s0 s1 s2 n lo hi v0 v1 v2 lo' hi' : Int} (h : RI b0 b1 b2 s0 s1 s2 n lo hi) (hv : RV v0 v1 v2) (hn : ngh v0 v1 v2 b0 b1 b2 = true) (hl : n = 31) (l1 : lo' ≤ v0) (l2 : v0 ≤ hi') (l3 : 0 < n → lo' ≤ lo ∧ hi ≤ hi') :
    ∃ r0 r1 r2, takeL b0 b1 b2 s0 s1 s2 n v0 v1 v2 = .tuple #[.agg #[.int .i64 r0, .int .i64 r1, .int .i64 r2, .int .i64 0, .int .i64 0, .int .i64 0, .int .i64 0], .bool true, .int .i64 0] ∧ lo' ≤ r0 ∧ r0 ≤ hi' ∧ ∀ lo hi, RI r0 r1 r2 0 0 0 0 lo hi := by
  obtain ⟨k0, k1, k2, kn, kz, m0, m1, m2, kl⟩ := h
  obtain ⟨g0, g1, g2⟩ := hv
  obtain ⟨q0, q1, q2⟩ := ngh_parts hn
  have ok : okLn b0 b1 b2 s0 s1 s2 n = true := okLn_of (ok3_of (by omega) (by omega) (by omega)) (by omega) (by omega) (by omega) kn kz
  have g2' : -1048576 ≤ v2 ∧ v2 ≤ 1048576 := by omega
  obtain ⟨p1, p2⟩ := kl (by omega)
  obtain ⟨p3, p4⟩ := l3 (by omega)
  subst hl
  have f0 := nr_le (s := s0 + v0) (m := 1048576) (by omega) (by omega)
  have f1 := nr_le (s := s1 + v1) (m := 1048576) (by omega) (by omega)
  have f2 := nr_le (s := s2 + v2) (m := 1048576) (by omega) (by omega)
  have f3 := nr_in (s := s0 + v0) (a := lo') (b := hi') (by omega) (by omega)
  refine ⟨nr (s0 + v0), nr (s1 + v1), nr (s2 + v2), ?_, f3.1, f3.2, fun lo hi => ⟨f0, f1, f2, by omega, by simp, by omega, by omega, by omega, fun h => by omega⟩⟩
  unfold takeL
  rw [ok, ok3_of (show -35184372088832 < v0 ∧ v0 < 35184372088832 by omega) (show -35184372088832 < v1 ∧ v1 < 35184372088832 by omega) (show -35184372088832 < v2 ∧ v2 < 35184372088832 by omega), hn, if_neg (show ¬ ((31 : Int) + 1 < 32) by decide), ok3_of (show -35184372088832 < nr (s0 + v0) ∧ nr (s0 + v0) < 35184372088832 by omega) (show -35184372088832 < nr (s1 + v1) ∧ nr (s1 + v1) < 35184372088832 by omega) (show -35184372088832 < nr (s2 + v2) ∧ nr (s2 + v2) < 35184372088832 by omega)]
  rfl
set_option maxRecDepth 20000 in
set_option maxHeartbeats 40000000 in
theorem learnrests_any (b off len cap : Nat) (Z : Nat → Nat → Int) (w : World) (hl : len ≤ maxLen) (hc : NL 3 w b off len Z) :
    Calls Try.prog 4 #[.slice (some ⟨b, off, none⟩) len cap] w fun e w' => e = .returned (.bool true) ∧ Ext w w' := by
  have hl' : len ≤ 9223372036854775807 := by unfold maxLen at hl; omega
  clear hl
  have RI0 : Hid (RI 0 0 0 0 0 0 0 0 0) := by show RI _ _ _ _ _ _ _ _ _; unfold RI; omega
  have Fm : Hid (HV (w.alloc (.cells #[.int .i64 0, .int .i64 0, .int .i64 0, .int .i64 0, .int .i64 0, .int .i64 0, .int .i64 0] 26)) w.heap.size [.int .i64 0, .int .i64 0, .int .i64 0, .int .i64 0, .int .i64 0, .int .i64 0, .int .i64 0]) := hv_at rfl
  have FX : Hid (Ext w (w.alloc (.cells #[.int .i64 0, .int .i64 0, .int .i64 0, .int .i64 0, .int .i64 0, .int .i64 0, .int .i64 0] 26))) := (Ext.refl _).alloc _
  go_enter Try.func4, Try.ntmps4
  go_upto_region 4 with fail
  generalize (w.alloc (.cells #[.int .i64 0, .int .i64 0, .int .i64 0, .int .i64 0, .int .i64 0, .int .i64 0, .int .i64 0] 26)) = wa at *
  go_wp2_with fail
  go_loopw [4, 5, 6, 7] (fun vn vlo vhi vi wr => ∃ (k : Nat) (n lo hi b0 b1 b2 s0 s1 s2 : Int), k ≤ len ∧ vi = .int .i64 k ∧ vn = .int .i64 n ∧ vlo = .int .i64 lo ∧ vhi = .int .i64 hi ∧ Hid (RI b0 b1 b2 s0 s1 s2 n lo hi) ∧ Hid (HV wr w.heap.size [.int .i64 b0, .int .i64 b1, .int .i64 b2, .int .i64 s0, .int .i64 s1, .int .i64 s2, .int .i64 n]) ∧ Hid (Ext w wr)) (fun _ _ _ i _ => len - (intOf i).toNat)
  case atStart => exact ⟨0, 0, 0, 0, 0, 0, 0, 0, 0, 0, Nat.zero_le _, rfl, rfl, rfl, rfl, RI0, Fm, FX⟩
  case round =>
    clear RI0 Fm FX
    obtain ⟨k, n, lo, hi, b0, b1, b2, s0, s1, s2, hk, rfl, rfl, rfl, rfl, HR, Fm, FX⟩ := hrel
    by_cases hlt : k < len
    · by_cases h5 : k < 240
      · skip
        obtain ⟨c0, n0a, n0b⟩ := (hc.ext FX.out) k hlt 0 (by omega)
        obtain ⟨c1, n1a, n1b⟩ := (hc.ext FX.out) k hlt 1 (by omega)
        obtain ⟨c2, n2a, n2b⟩ := (hc.ext FX.out) k hlt 2 (by omega)
        rw [Nat.add_zero] at c0
        have hlt' : (k : Int) < (len : Int) := by omega
        have NB : Hid (b < w.heap.size) := cell_lt (hc k hlt 0 (by omega)).1
        clear hc n0a n0b n1a n1b n2a n2b
        generalize Z k 0 = z0 at *
        generalize Z k 1 = z1 at *
        generalize Z k 2 = z2 at *
        have HB : Hid (∀ w, Calls Try.prog 13 #[.agg #[.int .i64 z0, .int .i64 z1, .int .i64 z2], .int .i64 1048576] w fun e w' => e = .returned (.agg #[.int .i64 (brt 1048576 z0), .int .i64 (brt 1048576 z1), .int .i64 (brt 1048576 z2)]) ∧ Ext w w') := brvec_1048576 _ _ _
        have HW : Hid (∀ w, Calls Try.prog 14 #[.int .i64 z1, .int .i64 50] w fun e w' => e = .returned (.int .i64 (z1 % 18446744073709551616 % 50)) ∧ w' = w) := within_50 z1
        have gb0 := brt_bounds 1048576 z0 (by decide)
        generalize brt 1048576 z0 = g0 at *
        have gb1 := brt_bounds 1048576 z1 (by decide)
        generalize brt 1048576 z1 = g1 at *
        have gb2 := brt_bounds 1048576 z2 (by decide)
        generalize brt 1048576 z2 = g2 at *
        generalize z1 % 18446744073709551616 % 50 = f at *
        obtain ⟨g0a, g0b⟩ := gb0
        obtain ⟨g1a, g1b⟩ := gb1
        obtain ⟨g2a, g2b⟩ := gb2
        go_upto_region 8 with (first | (go_at_call 13; refine (HB.out _).mono ?_; rintro e wq0 ⟨rfl, xq0⟩))
        have c1 : wq0.cell? ⟨b, off + k * 3 + 1, none⟩ = some (.int .i64 z1) := xq0.keepc c1
        have Fm : Hid (HV wq0 w.heap.size [.int .i64 b0, .int .i64 b1, .int .i64 b2, .int .i64 s0, .int .i64 s1, .int .i64 s2, .int .i64 n]) := Fm.out.ext xq0
        have FX : Hid (Ext w wq0) := FX.out.trans xq0
        clear xq0 HB
        have cy : (wq0.alloc (.cells #[.int .i64 g0, .int .i64 g1, .int .i64 g2] 24)).cell? ⟨b, off + k * 3 + 1, none⟩ = some (.int .i64 z1) := ((Ext.refl wq0).alloc _).keepc c1
        have ltmv : w.heap.size < wq0.heap.size := Fm.out.1
        have Lv : Hid (w.heap.size ≤ wq0.heap.size) := FX.out.size
        have Fm : Hid (HV (wq0.alloc (.cells #[.int .i64 g0, .int .i64 g1, .int .i64 g2] 24)) w.heap.size [.int .i64 b0, .int .i64 b1, .int .i64 b2, .int .i64 s0, .int .i64 s1, .int .i64 s2, .int .i64 n]) := Fm.out.alloc _
        have Fv : Hid (HV (wq0.alloc (.cells #[.int .i64 g0, .int .i64 g1, .int .i64 g2] 24)) wq0.heap.size [.int .i64 g0, .int .i64 g1, .int .i64 g2]) := hv_at rfl
        have FX : Hid (Ext w (wq0.alloc (.cells #[.int .i64 g0, .int .i64 g1, .int .i64 g2] 24))) := FX.out.alloc _
        generalize (wq0.alloc (.cells #[.int .i64 g0, .int .i64 g1, .int .i64 g2] 24)) = wx1 at *
        generalize wq0.heap.size = nv at *
        clear c0 c1 c2
        have qv0 : wx1.cell? ⟨nv, 0, none⟩ = some (.int .i64 g0) := Fv.out.c 0 rfl
        have zv0 : wx1.frozen? ⟨nv, 0, none⟩ = false := Fv.out.f 0 rfl
        go_upto_region 9 with fail
        clear qv0 zv0
        have NBv : Hid (b < nv) := Nat.lt_of_lt_of_le NB.out Lv.out
        have cz : (wx1.setCell ⟨nv, 0, none⟩ (.int .i64 (g0.tdiv 2))).cell? ⟨b, off + k * 3 + 1, none⟩ = some (.int .i64 z1) := by rw [World.cell?_setCell_far _ _ _ _ (by have := NBv.out; dsimp only; omega)]; exact cy
        clear cy
        have Fm : Hid (HV (wx1.setCell ⟨nv, 0, none⟩ (.int .i64 (g0.tdiv 2))) w.heap.size [.int .i64 b0, .int .i64 b1, .int .i64 b2, .int .i64 s0, .int .i64 s1, .int .i64 s2, .int .i64 n]) := (Fm.out.far (by omega))
        have Fv : Hid (HV (wx1.setCell ⟨nv, 0, none⟩ (.int .i64 (g0.tdiv 2))) nv [.int .i64 (g0.tdiv 2), .int .i64 g1, .int .i64 g2]) := (Fv.out.set 0 (.int .i64 (g0.tdiv 2)))
        have FX : Hid (Ext w (wx1.setCell ⟨nv, 0, none⟩ (.int .i64 (g0.tdiv 2)))) := (FX.out.set (p := ⟨nv, 0, none⟩) Lv.out (.int .i64 (g0.tdiv 2)))
        generalize (wx1.setCell ⟨nv, 0, none⟩ (.int .i64 (g0.tdiv 2))) = wx2 at *
        obtain ⟨h0a, h0b⟩ := half_le (a := g0) (m := 524288) (by omega) (by omega)
        generalize g0.tdiv 2 = h0 at *
        clear g0a g0b
        go_upto_if 42 with (go_at_call 14; refine (HW.out _).mono ?_; rintro e wx ⟨rfl, hwx⟩; have hwy := hwx.symm; clear hwx; subst hwy)
        clear cz HW NB NBv
        go_cut [42] from 16 to 191 (fun _ wx => ∃ v2 : Int, Hid (HV wx nv [.int .i64 h0, .int .i64 g1, .int .i64 v2]) ∧ Hid ((-1048576 ≤ v2 ∧ v2 ≤ 1048576) ∨ v2 = 1099511627776) ∧ Hid (HV wx w.heap.size [.int .i64 b0, .int .i64 b1, .int .i64 b2, .int .i64 s0, .int .i64 s1, .int .i64 s2, .int .i64 n]) ∧ Hid (Ext w wx))
        case first =>
          by_cases hf : f = 0
          · subst hf
            have qv2 : wx2.cell? ⟨nv, 2, none⟩ = some (.int .i64 g2) := Fv.out.c 2 rfl
            have zv2 : wx2.frozen? ⟨nv, 2, none⟩ = false := Fv.out.f 2 rfl
            go_wp2_with fail
            go_meet
            exact ⟨1099511627776, Fv.out.set 2 (.int .i64 1099511627776), .inr rfl, Fm.out.far (by omega), FX.out.set (p := ⟨nv, 2, none⟩) Lv.out _⟩
          · have hf2 : (f == 0) = false := by simp [hf]
            go_wp2_with fail
            go_meet
            exact ⟨g2, Fv, .inl ⟨g2a, g2b⟩, Fm, FX⟩
        case rest =>
          clear Fv Fm FX
          obtain ⟨v2, Fv, hv2, Fm, FX⟩ := hcut
          clear g2a g2b
          have qm0 : wc.cell? ⟨w.heap.size, 0, none⟩ = some (.int .i64 b0) := Fm.out.c 0 rfl
          have qm1 : wc.cell? ⟨w.heap.size, 1, none⟩ = some (.int .i64 b1) := Fm.out.c 1 rfl
          have qm2 : wc.cell? ⟨w.heap.size, 2, none⟩ = some (.int .i64 b2) := Fm.out.c 2 rfl
          have qm3 : wc.cell? ⟨w.heap.size, 3, none⟩ = some (.int .i64 s0) := Fm.out.c 3 rfl
          have qm4 : wc.cell? ⟨w.heap.size, 4, none⟩ = some (.int .i64 s1) := Fm.out.c 4 rfl
          have qm5 : wc.cell? ⟨w.heap.size, 5, none⟩ = some (.int .i64 s2) := Fm.out.c 5 rfl
          have qm6 : wc.cell? ⟨w.heap.size, 6, none⟩ = some (.int .i64 n) := Fm.out.c 6 rfl
          go_upto_region 13 with fail
          clear qm0 qm1 qm2 qm3 qm4 qm5 qm6
          have ltmd : w.heap.size < wc.heap.size := Fm.out.1
          have ltvd : nv < wc.heap.size := Fv.out.1
          have Ld : Hid (w.heap.size ≤ wc.heap.size) := FX.out.size
          have Fm : Hid (HV (wc.alloc (.cells #[.int .i64 b0, .int .i64 b1, .int .i64 b2, .int .i64 s0, .int .i64 s1, .int .i64 s2, .int .i64 n] 26)) w.heap.size [.int .i64 b0, .int .i64 b1, .int .i64 b2, .int .i64 s0, .int .i64 s1, .int .i64 s2, .int .i64 n]) := Fm.out.alloc _
          have Fv : Hid (HV (wc.alloc (.cells #[.int .i64 b0, .int .i64 b1, .int .i64 b2, .int .i64 s0, .int .i64 s1, .int .i64 s2, .int .i64 n] 26)) nv [.int .i64 h0, .int .i64 g1, .int .i64 v2]) := Fv.out.alloc _
          have Fd : Hid (HV (wc.alloc (.cells #[.int .i64 b0, .int .i64 b1, .int .i64 b2, .int .i64 s0, .int .i64 s1, .int .i64 s2, .int .i64 n] 26)) wc.heap.size [.int .i64 b0, .int .i64 b1, .int .i64 b2, .int .i64 s0, .int .i64 s1, .int .i64 s2, .int .i64 n]) := hv_at rfl
          have FX : Hid (Ext w (wc.alloc (.cells #[.int .i64 b0, .int .i64 b1, .int .i64 b2, .int .i64 s0, .int .i64 s1, .int .i64 s2, .int .i64 n] 26))) := FX.out.alloc _
          generalize (wc.alloc (.cells #[.int .i64 b0, .int .i64 b1, .int .i64 b2, .int .i64 s0, .int .i64 s1, .int .i64 s2, .int .i64 n] 26)) = wx3 at *
          generalize wc.heap.size = nd at *
          have qv0 : wx3.cell? ⟨nv, 0, none⟩ = some (.int .i64 h0) := Fv.out.c 0 rfl
          have qm0 : wx3.cell? ⟨w.heap.size, 0, none⟩ = some (.int .i64 b0) := Fm.out.c 0 rfl
          have zv0 : wx3.frozen? ⟨nv, 0, none⟩ = false := Fv.out.f 0 rfl
          obtain ⟨⟨b0a, b0b⟩, ⟨b1a, b1b⟩, ⟨b2a, b2b⟩, _⟩ := HR.out
          obtain ⟨t0a, t0b⟩ := half_le (a := b0) (m := 524288) (by omega) (by omega)
          generalize eh : b0.tdiv 2 = t0 at *
          go_upto_region 14 with fail
          clear qv0 qm0 zv0 eh
          have Fm : Hid (HV (wx3.setCell ⟨nv, 0, none⟩ (.int .i64 (h0 + t0))) w.heap.size [.int .i64 b0, .int .i64 b1, .int .i64 b2, .int .i64 s0, .int .i64 s1, .int .i64 s2, .int .i64 n]) := (Fm.out.far (by omega))
          have Fd : Hid (HV (wx3.setCell ⟨nv, 0, none⟩ (.int .i64 (h0 + t0))) nd [.int .i64 b0, .int .i64 b1, .int .i64 b2, .int .i64 s0, .int .i64 s1, .int .i64 s2, .int .i64 n]) := (Fd.out.far (by omega))
          have Fv : Hid (HV (wx3.setCell ⟨nv, 0, none⟩ (.int .i64 (h0 + t0))) nv [.int .i64 (h0 + t0), .int .i64 g1, .int .i64 v2]) := (Fv.out.set 0 (.int .i64 (h0 + t0)))
          have FX : Hid (Ext w (wx3.setCell ⟨nv, 0, none⟩ (.int .i64 (h0 + t0)))) := (FX.out.set (p := ⟨nv, 0, none⟩) Lv.out (.int .i64 (h0 + t0)))
          generalize (wx3.setCell ⟨nv, 0, none⟩ (.int .i64 (h0 + t0))) = wx4 at *
          have hv0a : -1048576 ≤ h0 + t0 := by omega
          have hv0b : h0 + t0 ≤ 1048576 := by omega
          clear h0a h0b t0a t0b
          generalize h0 + t0 = v0 at *
          have HV0 : Hid (RV v0 g1 v2) := ⟨⟨hv0a, hv0b⟩, ⟨g1a, g1b⟩, hv2.out⟩
          have v2a : -1048576 ≤ v2 := by have := hv2.out; omega
          have v2b : v2 ≤ 1099511627776 := by have := hv2.out; omega
          clear hv2
          have qv0 : wx4.cell? ⟨nv, 0, none⟩ = some (.int .i64 v0) := Fv.out.c 0 rfl
          have qv1 : wx4.cell? ⟨nv, 1, none⟩ = some (.int .i64 g1) := Fv.out.c 1 rfl
          have qv2 : wx4.cell? ⟨nv, 2, none⟩ = some (.int .i64 v2) := Fv.out.c 2 rfl
          have qm0 : wx4.cell? ⟨w.heap.size, 0, none⟩ = some (.int .i64 b0) := Fm.out.c 0 rfl
          have qm1 : wx4.cell? ⟨w.heap.size, 1, none⟩ = some (.int .i64 b1) := Fm.out.c 1 rfl
          have qm2 : wx4.cell? ⟨w.heap.size, 2, none⟩ = some (.int .i64 b2) := Fm.out.c 2 rfl
          go_cut [11] from 16 to 191 (fun v11 wx => v11 = .bool (ngh v0 g1 v2 b0 b1 b2) ∧ wx4 = wx)
          case first =>
            by_cases p0 : v0 - b0 ≤ 1048576
            · skip
              by_cases p1 : b0 - v0 ≤ 1048576
              · skip
                by_cases p2 : g1 - b1 ≤ 1048576
                · skip
                  by_cases p3 : b1 - g1 ≤ 1048576
                  · skip
                    by_cases p4 : v2 - b2 ≤ 1048576
                    · skip
                      by_cases p5 : b2 - v2 ≤ 1048576
                      · skip
                        have e : Hid (ngh v0 g1 v2 b0 b1 b2 = true) := ngh_of (by omega) (by omega) (by omega)
                        go_wp2_with fail
                        go_meet
                        exact ⟨by rw [e.out], rfl⟩
                      · have e : Hid (ngh v0 g1 v2 b0 b1 b2 = false) := Bool.eq_false_iff.2 (fun h => by have := ngh_parts h; omega)
                        go_wp2_with fail
                        go_meet
                        exact ⟨by rw [e.out], rfl⟩
                    · have e : Hid (ngh v0 g1 v2 b0 b1 b2 = false) := Bool.eq_false_iff.2 (fun h => by have := ngh_parts h; omega)
                      go_wp2_with fail
                      go_meet
                      exact ⟨by rw [e.out], rfl⟩
                  · have e : Hid (ngh v0 g1 v2 b0 b1 b2 = false) := Bool.eq_false_iff.2 (fun h => by have := ngh_parts h; omega)
                    go_wp2_with fail
                    go_meet
                    exact ⟨by rw [e.out], rfl⟩
                · have e : Hid (ngh v0 g1 v2 b0 b1 b2 = false) := Bool.eq_false_iff.2 (fun h => by have := ngh_parts h; omega)
                  go_wp2_with fail
                  go_meet
                  exact ⟨by rw [e.out], rfl⟩
              · have e : Hid (ngh v0 g1 v2 b0 b1 b2 = false) := Bool.eq_false_iff.2 (fun h => by have := ngh_parts h; omega)
                go_wp2_with fail
                go_meet
                exact ⟨by rw [e.out], rfl⟩
            · have e : Hid (ngh v0 g1 v2 b0 b1 b2 = false) := Bool.eq_false_iff.2 (fun h => by have := ngh_parts h; omega)
              go_wp2_with fail
              go_meet
              exact ⟨by rw [e.out], rfl⟩
          case rest =>
            obtain ⟨rfl, rfl⟩ := hcut
            clear qv0 qv1 qv2 qm0 qm1 qm2
            have HT : Hid (∀ w, Calls Try.prog 9 #[.agg #[.int .i64 b0, .int .i64 b1, .int .i64 b2, .int .i64 s0, .int .i64 s1, .int .i64 s2, .int .i64 n], .agg #[.int .i64 v0, .int .i64 g1, .int .i64 v2]] w fun e w' => e = .returned (takeL b0 b1 b2 s0 s1 s2 n v0 g1 v2) ∧ Ext w w') := fun w => ltake_any _ _ _ _ _ _ _ _ _ _ w
            cases hn : ngh v0 g1 v2 b0 b1 b2
            · as_aux_lemma =>
                obtain ⟨et, HR0⟩ := rests_far HR.out HV0.out hn
                rw [et] at HT
                have HR1 : Hid (∀ lo hi, RI b0 b1 b2 0 0 0 0 lo hi) := HR0
                clear et hn HR HV0 HR0
                have qv0 : wx4.cell? ⟨nv, 0, none⟩ = some (.int .i64 v0) := Fv.out.c 0 rfl
                have qv1 : wx4.cell? ⟨nv, 1, none⟩ = some (.int .i64 g1) := Fv.out.c 1 rfl
                have qv2 : wx4.cell? ⟨nv, 2, none⟩ = some (.int .i64 v2) := Fv.out.c 2 rfl
                have qm0 : wx4.cell? ⟨w.heap.size, 0, none⟩ = some (.int .i64 b0) := Fm.out.c 0 rfl
                have qm1 : wx4.cell? ⟨w.heap.size, 1, none⟩ = some (.int .i64 b1) := Fm.out.c 1 rfl
                have qm2 : wx4.cell? ⟨w.heap.size, 2, none⟩ = some (.int .i64 b2) := Fm.out.c 2 rfl
                have qm3 : wx4.cell? ⟨w.heap.size, 3, none⟩ = some (.int .i64 s0) := Fm.out.c 3 rfl
                have qm4 : wx4.cell? ⟨w.heap.size, 4, none⟩ = some (.int .i64 s1) := Fm.out.c 4 rfl
                have qm5 : wx4.cell? ⟨w.heap.size, 5, none⟩ = some (.int .i64 s2) := Fm.out.c 5 rfl
                have qm6 : wx4.cell? ⟨w.heap.size, 6, none⟩ = some (.int .i64 n) := Fm.out.c 6 rfl
                go_upto_region 16 with (first | (go_at_call 9; refine (HT.out _).mono ?_; rintro e wq2 ⟨rfl, xq2⟩))
                have Fm : Hid (HV wq2 w.heap.size [.int .i64 b0, .int .i64 b1, .int .i64 b2, .int .i64 s0, .int .i64 s1, .int .i64 s2, .int .i64 n]) := Fm.out.ext xq2
                have Fv : Hid (HV wq2 nv [.int .i64 v0, .int .i64 g1, .int .i64 v2]) := Fv.out.ext xq2
                have Fd : Hid (HV wq2 nd [.int .i64 b0, .int .i64 b1, .int .i64 b2, .int .i64 s0, .int .i64 s1, .int .i64 s2, .int .i64 n]) := Fd.out.ext xq2
                have FX : Hid (Ext w wq2) := FX.out.trans xq2
                clear qv0 qv1 qv2 qm0 qm1 qm2 qm3 qm4 qm5 qm6 xq2 HT
                have ltmu : w.heap.size < wq2.heap.size := Fm.out.1
                have ltvu : nv < wq2.heap.size := Fv.out.1
                have ltdu : nd < wq2.heap.size := Fd.out.1
                have Lu : Hid (w.heap.size ≤ wq2.heap.size) := FX.out.size
                have Fm : Hid (HV (wq2.alloc (.cells #[.int .i64 b0, .int .i64 b1, .int .i64 b2, .int .i64 0, .int .i64 0, .int .i64 0, .int .i64 0] 26)) w.heap.size [.int .i64 b0, .int .i64 b1, .int .i64 b2, .int .i64 s0, .int .i64 s1, .int .i64 s2, .int .i64 n]) := Fm.out.alloc _
                have Fv : Hid (HV (wq2.alloc (.cells #[.int .i64 b0, .int .i64 b1, .int .i64 b2, .int .i64 0, .int .i64 0, .int .i64 0, .int .i64 0] 26)) nv [.int .i64 v0, .int .i64 g1, .int .i64 v2]) := Fv.out.alloc _
                have Fd : Hid (HV (wq2.alloc (.cells #[.int .i64 b0, .int .i64 b1, .int .i64 b2, .int .i64 0, .int .i64 0, .int .i64 0, .int .i64 0] 26)) nd [.int .i64 b0, .int .i64 b1, .int .i64 b2, .int .i64 s0, .int .i64 s1, .int .i64 s2, .int .i64 n]) := Fd.out.alloc _
                have Fu : Hid (HV (wq2.alloc (.cells #[.int .i64 b0, .int .i64 b1, .int .i64 b2, .int .i64 0, .int .i64 0, .int .i64 0, .int .i64 0] 26)) wq2.heap.size [.int .i64 b0, .int .i64 b1, .int .i64 b2, .int .i64 0, .int .i64 0, .int .i64 0, .int .i64 0]) := hv_at rfl
                have FX : Hid (Ext w (wq2.alloc (.cells #[.int .i64 b0, .int .i64 b1, .int .i64 b2, .int .i64 0, .int .i64 0, .int .i64 0, .int .i64 0] 26))) := FX.out.alloc _
                generalize (wq2.alloc (.cells #[.int .i64 b0, .int .i64 b1, .int .i64 b2, .int .i64 0, .int .i64 0, .int .i64 0, .int .i64 0] 26)) = wx1 at *
                generalize wq2.heap.size = nu at *
                go_upto_region 19 with (first | (go_at_call 10; refine (num11_any _ _).mono ?_; rintro e wx ⟨rfl, hwx⟩; have hwy := hwx.symm; clear hwx; subst hwy))
                have qu0 : wx1.cell? ⟨nu, 0, none⟩ = some (.int .i64 b0) := Fu.out.c 0 rfl
                have qu1 : wx1.cell? ⟨nu, 1, none⟩ = some (.int .i64 b1) := Fu.out.c 1 rfl
                have qu2 : wx1.cell? ⟨nu, 2, none⟩ = some (.int .i64 b2) := Fu.out.c 2 rfl
                have qu3 : wx1.cell? ⟨nu, 3, none⟩ = some (.int .i64 0) := Fu.out.c 3 rfl
                have qu4 : wx1.cell? ⟨nu, 4, none⟩ = some (.int .i64 0) := Fu.out.c 4 rfl
                have qu5 : wx1.cell? ⟨nu, 5, none⟩ = some (.int .i64 0) := Fu.out.c 5 rfl
                have qu6 : wx1.cell? ⟨nu, 6, none⟩ = some (.int .i64 0) := Fu.out.c 6 rfl
                have qd0 : wx1.cell? ⟨nd, 0, none⟩ = some (.int .i64 b0) := Fd.out.c 0 rfl
                have qd1 : wx1.cell? ⟨nd, 1, none⟩ = some (.int .i64 b1) := Fd.out.c 1 rfl
                have qd2 : wx1.cell? ⟨nd, 2, none⟩ = some (.int .i64 b2) := Fd.out.c 2 rfl
                go_upto_region 22 with fail
                clear qu0 qu1 qu2 qu3 qu4 qu5 qu6 qd0 qd1 qd2
                have qu0 : wx1.cell? ⟨nu, 0, none⟩ = some (.int .i64 b0) := Fu.out.c 0 rfl
                have qu1 : wx1.cell? ⟨nu, 1, none⟩ = some (.int .i64 b1) := Fu.out.c 1 rfl
                have qu2 : wx1.cell? ⟨nu, 2, none⟩ = some (.int .i64 b2) := Fu.out.c 2 rfl
                have qu3 : wx1.cell? ⟨nu, 3, none⟩ = some (.int .i64 0) := Fu.out.c 3 rfl
                have qu4 : wx1.cell? ⟨nu, 4, none⟩ = some (.int .i64 0) := Fu.out.c 4 rfl
                have qu5 : wx1.cell? ⟨nu, 5, none⟩ = some (.int .i64 0) := Fu.out.c 5 rfl
                have qu6 : wx1.cell? ⟨nu, 6, none⟩ = some (.int .i64 0) := Fu.out.c 6 rfl
                have qm0 : wx1.cell? ⟨w.heap.size, 0, none⟩ = some (.int .i64 b0) := Fm.out.c 0 rfl
                have zm0 : wx1.frozen? ⟨w.heap.size, 0, none⟩ = false := Fm.out.f 0 rfl
                have qm1 : wx1.cell? ⟨w.heap.size, 1, none⟩ = some (.int .i64 b1) := Fm.out.c 1 rfl
                have zm1 : wx1.frozen? ⟨w.heap.size, 1, none⟩ = false := Fm.out.f 1 rfl
                have qm2 : wx1.cell? ⟨w.heap.size, 2, none⟩ = some (.int .i64 b2) := Fm.out.c 2 rfl
                have zm2 : wx1.frozen? ⟨w.heap.size, 2, none⟩ = false := Fm.out.f 2 rfl
                have qm3 : wx1.cell? ⟨w.heap.size, 3, none⟩ = some (.int .i64 s0) := Fm.out.c 3 rfl
                have zm3 : wx1.frozen? ⟨w.heap.size, 3, none⟩ = false := Fm.out.f 3 rfl
                have qm4 : wx1.cell? ⟨w.heap.size, 4, none⟩ = some (.int .i64 s1) := Fm.out.c 4 rfl
                have zm4 : wx1.frozen? ⟨w.heap.size, 4, none⟩ = false := Fm.out.f 4 rfl
                have qm5 : wx1.cell? ⟨w.heap.size, 5, none⟩ = some (.int .i64 s2) := Fm.out.c 5 rfl
                have zm5 : wx1.frozen? ⟨w.heap.size, 5, none⟩ = false := Fm.out.f 5 rfl
                have qm6 : wx1.cell? ⟨w.heap.size, 6, none⟩ = some (.int .i64 n) := Fm.out.c 6 rfl
                have zm6 : wx1.frozen? ⟨w.heap.size, 6, none⟩ = false := Fm.out.f 6 rfl
                go_wp2_with fail
                go_roundw
                case rel => exact ⟨k + 1, 0, lo, hi, b0, b1, b2, 0, 0, 0, by omega, by go_num, rfl, rfl, rfl, HR1.out lo hi, (((((((Fm.out.set 0 (.int .i64 b0)).set 1 (.int .i64 b1)).set 2 (.int .i64 b2)).set 3 (.int .i64 0)).set 4 (.int .i64 0)).set 5 (.int .i64 0)).set 6 (.int .i64 0)), (((((((FX.out.set (p := ⟨w.heap.size, 0, none⟩) (Nat.le_refl _) _).set (p := ⟨w.heap.size, 1, none⟩) (Nat.le_refl _) _).set (p := ⟨w.heap.size, 2, none⟩) (Nat.le_refl _) _).set (p := ⟨w.heap.size, 3, none⟩) (Nat.le_refl _) _).set (p := ⟨w.heap.size, 4, none⟩) (Nat.le_refl _) _).set (p := ⟨w.heap.size, 5, none⟩) (Nat.le_refl _) _).set (p := ⟨w.heap.size, 6, none⟩) (Nat.le_refl _) _)⟩
                case measure => simp [intOf]; omega
            · skip
              obtain ⟨la, ha, LA⟩ : ∃ la ha : Int, Hid (n = 0 ∧ la = v0 ∧ ha = v0 ∨ n ≠ 0 ∧ la = lo ∧ ha = hi) := by
                by_cases h : n = 0
                · exact ⟨v0, v0, .inl ⟨h, rfl, rfl⟩⟩
                · exact ⟨lo, hi, .inr ⟨h, rfl, rfl⟩⟩
              obtain ⟨lo1, LB⟩ : ∃ lo1 : Int, Hid (v0 < la ∧ lo1 = v0 ∨ ¬ v0 < la ∧ lo1 = la) := by
                by_cases h : v0 < la
                · exact ⟨v0, .inl ⟨h, rfl⟩⟩
                · exact ⟨la, .inr ⟨h, rfl⟩⟩
              obtain ⟨hi1, LC⟩ : ∃ hi1 : Int, Hid (ha < v0 ∧ hi1 = v0 ∨ ¬ ha < v0 ∧ hi1 = ha) := by
                by_cases h : ha < v0
                · exact ⟨v0, .inl ⟨h, rfl⟩⟩
                · exact ⟨ha, .inr ⟨h, rfl⟩⟩
              obtain ⟨l1, l2, l3⟩ : lo1 ≤ v0 ∧ v0 ≤ hi1 ∧ (0 < n → lo1 ≤ lo ∧ hi ≤ hi1) := by have h1 := LA.out; have h2 := LB.out; have h3 := LC.out; omega
              obtain ⟨kna, knb⟩ := HR.out.2.2.2.1
              by_cases hl : n + 1 < 32
              · as_aux_lemma =>
                  obtain ⟨et, HR0⟩ := rests_more HR.out HV0.out hn hl l1 l2 l3
                  have HR1 : Hid (RI b0 b1 b2 (s0 + v0) (s1 + g1) (s2 + v2) (n + 1) lo1 hi1) := HR0
                  rw [et] at HT
                  clear et hn HR HV0 HR0 l1 l2 l3
                  generalize s0 + v0 = y0 at *
                  generalize s1 + g1 = y1 at *
                  generalize s2 + v2 = y2 at *
                  have qv0 : wx4.cell? ⟨nv, 0, none⟩ = some (.int .i64 v0) := Fv.out.c 0 rfl
                  have qv1 : wx4.cell? ⟨nv, 1, none⟩ = some (.int .i64 g1) := Fv.out.c 1 rfl
                  have qv2 : wx4.cell? ⟨nv, 2, none⟩ = some (.int .i64 v2) := Fv.out.c 2 rfl
                  have qm0 : wx4.cell? ⟨w.heap.size, 0, none⟩ = some (.int .i64 b0) := Fm.out.c 0 rfl
                  have qm1 : wx4.cell? ⟨w.heap.size, 1, none⟩ = some (.int .i64 b1) := Fm.out.c 1 rfl
                  have qm2 : wx4.cell? ⟨w.heap.size, 2, none⟩ = some (.int .i64 b2) := Fm.out.c 2 rfl
                  have qm3 : wx4.cell? ⟨w.heap.size, 3, none⟩ = some (.int .i64 s0) := Fm.out.c 3 rfl
                  have qm4 : wx4.cell? ⟨w.heap.size, 4, none⟩ = some (.int .i64 s1) := Fm.out.c 4 rfl
                  have qm5 : wx4.cell? ⟨w.heap.size, 5, none⟩ = some (.int .i64 s2) := Fm.out.c 5 rfl
                  have qm6 : wx4.cell? ⟨w.heap.size, 6, none⟩ = some (.int .i64 n) := Fm.out.c 6 rfl
                  go_upto_region 16 with (first | (go_at_call 9; refine (HT.out _).mono ?_; rintro e wq2 ⟨rfl, xq2⟩))
                  have Fm : Hid (HV wq2 w.heap.size [.int .i64 b0, .int .i64 b1, .int .i64 b2, .int .i64 s0, .int .i64 s1, .int .i64 s2, .int .i64 n]) := Fm.out.ext xq2
                  have Fv : Hid (HV wq2 nv [.int .i64 v0, .int .i64 g1, .int .i64 v2]) := Fv.out.ext xq2
                  have Fd : Hid (HV wq2 nd [.int .i64 b0, .int .i64 b1, .int .i64 b2, .int .i64 s0, .int .i64 s1, .int .i64 s2, .int .i64 n]) := Fd.out.ext xq2
                  have FX : Hid (Ext w wq2) := FX.out.trans xq2
                  clear qv0 qv1 qv2 qm0 qm1 qm2 qm3 qm4 qm5 qm6 xq2 HT
                  have ltmu : w.heap.size < wq2.heap.size := Fm.out.1
                  have ltvu : nv < wq2.heap.size := Fv.out.1
                  have ltdu : nd < wq2.heap.size := Fd.out.1
                  have Lu : Hid (w.heap.size ≤ wq2.heap.size) := FX.out.size
                  have Fm : Hid (HV (wq2.alloc (.cells #[.int .i64 b0, .int .i64 b1, .int .i64 b2, .int .i64 y0, .int .i64 y1, .int .i64 y2, .int .i64 (n + 1)] 26)) w.heap.size [.int .i64 b0, .int .i64 b1, .int .i64 b2, .int .i64 s0, .int .i64 s1, .int .i64 s2, .int .i64 n]) := Fm.out.alloc _
                  have Fv : Hid (HV (wq2.alloc (.cells #[.int .i64 b0, .int .i64 b1, .int .i64 b2, .int .i64 y0, .int .i64 y1, .int .i64 y2, .int .i64 (n + 1)] 26)) nv [.int .i64 v0, .int .i64 g1, .int .i64 v2]) := Fv.out.alloc _
                  have Fd : Hid (HV (wq2.alloc (.cells #[.int .i64 b0, .int .i64 b1, .int .i64 b2, .int .i64 y0, .int .i64 y1, .int .i64 y2, .int .i64 (n + 1)] 26)) nd [.int .i64 b0, .int .i64 b1, .int .i64 b2, .int .i64 s0, .int .i64 s1, .int .i64 s2, .int .i64 n]) := Fd.out.alloc _
                  have Fu : Hid (HV (wq2.alloc (.cells #[.int .i64 b0, .int .i64 b1, .int .i64 b2, .int .i64 y0, .int .i64 y1, .int .i64 y2, .int .i64 (n + 1)] 26)) wq2.heap.size [.int .i64 b0, .int .i64 b1, .int .i64 b2, .int .i64 y0, .int .i64 y1, .int .i64 y2, .int .i64 (n + 1)]) := hv_at rfl
                  have FX : Hid (Ext w (wq2.alloc (.cells #[.int .i64 b0, .int .i64 b1, .int .i64 b2, .int .i64 y0, .int .i64 y1, .int .i64 y2, .int .i64 (n + 1)] 26))) := FX.out.alloc _
                  generalize (wq2.alloc (.cells #[.int .i64 b0, .int .i64 b1, .int .i64 b2, .int .i64 y0, .int .i64 y1, .int .i64 y2, .int .i64 (n + 1)] 26)) = wx1 at *
                  generalize wq2.heap.size = nu at *
                  go_upto_if 132 with (go_at_call 10; refine (num11_any _ _).mono ?_; rintro e wx ⟨rfl, hwx⟩; have hwy := hwx.symm; clear hwx; subst hwy)
                  go_cut [5, 6] from 16 to 191 (fun v5 v6 wx => v5 = .int .i64 la ∧ v6 = .int .i64 ha ∧ Hid (Ext wx1 wx))
                  case first =>
                    rcases LA.out with ⟨e0, e1, e2⟩ | ⟨e0, e1, e2⟩
                    · have e3 : (n == 0) = true := by simp [e0]
                      have qv0 : wx1.cell? ⟨nv, 0, none⟩ = some (.int .i64 v0) := Fv.out.c 0 rfl
                      have E : Hid (la = v0 ∧ ha = v0) := ⟨e1, e2⟩
                      clear e0 e1 e2
                      go_upto_region 24 with fail
                      go_quiet (fail)
                      go_wp2_with fail
                      go_meet
                      exact ⟨by rw [E.out.1], by rw [E.out.2], (Ext.refl _).drewN _⟩
                    · have e3 : (n == 0) = false := by simp [e0]
                      have E : Hid (la = lo ∧ ha = hi) := ⟨e1, e2⟩
                      clear e0 e1 e2
                      go_wp2_with fail
                      go_meet
                      exact ⟨by rw [E.out.1], by rw [E.out.2], Ext.refl _⟩
                  case rest =>
                    obtain ⟨rfl, rfl, hx⟩ := hcut
                    have hx := hx.out
                    have Fm : Hid (HV wc w.heap.size [.int .i64 b0, .int .i64 b1, .int .i64 b2, .int .i64 s0, .int .i64 s1, .int .i64 s2, .int .i64 n]) := Fm.out.ext hx
                    have Fv : Hid (HV wc nv [.int .i64 v0, .int .i64 g1, .int .i64 v2]) := Fv.out.ext hx
                    have Fd : Hid (HV wc nd [.int .i64 b0, .int .i64 b1, .int .i64 b2, .int .i64 s0, .int .i64 s1, .int .i64 s2, .int .i64 n]) := Fd.out.ext hx
                    have Fu : Hid (HV wc nu [.int .i64 b0, .int .i64 b1, .int .i64 b2, .int .i64 y0, .int .i64 y1, .int .i64 y2, .int .i64 (n + 1)]) := Fu.out.ext hx
                    have FX : Hid (Ext w wc) := FX.out.trans hx
                    clear hx
                    go_upto_region 25 with fail
                    go_cut [5] from 16 to 191 (fun v5 wx => v5 = .int .i64 lo1 ∧ wc = wx)
                    case first =>
                      have qv0 : wc.cell? ⟨nv, 0, none⟩ = some (.int .i64 v0) := Fv.out.c 0 rfl
                      rcases LB.out with ⟨e0, e1⟩ | ⟨e0, e1⟩
                      · have E : Hid (lo1 = v0) := e1
                        clear e1
                        go_wp2_with fail
                        go_meet
                        refine ⟨?_, rfl⟩
                        rw [E.out]
                        first | rfl | (congr 1; simp only [Int.min_def]; split <;> omega)
                      · have E : Hid (lo1 = la) := e1
                        clear e1
                        go_wp2_with fail
                        go_meet
                        refine ⟨?_, rfl⟩
                        rw [E.out]
                        first | rfl | (congr 1; simp only [Int.min_def]; split <;> omega)
                    case rest =>
                      obtain ⟨rfl, rfl⟩ := hcut
                      go_upto_region 26 with fail
                      go_cut [6] from 16 to 191 (fun v5 wx => v5 = .int .i64 hi1 ∧ wc = wx)
                      case first =>
                        have qv0 : wc.cell? ⟨nv, 0, none⟩ = some (.int .i64 v0) := Fv.out.c 0 rfl
                        rcases LC.out with ⟨e0, e1⟩ | ⟨e0, e1⟩
                        · have E : Hid (hi1 = v0) := e1
                          clear e1
                          go_wp2_with fail
                          go_meet
                          refine ⟨?_, rfl⟩
                          rw [E.out]
                          first | rfl | (congr 1; simp only [Int.max_def]; split <;> omega)
                        · have E : Hid (hi1 = ha) := e1
                          clear e1
                          go_wp2_with fail
                          go_meet
                          refine ⟨?_, rfl⟩
                          rw [E.out]
                          first | rfl | (congr 1; simp only [Int.max_def]; split <;> omega)
                      case rest =>
                        obtain ⟨rfl, rfl⟩ := hcut
                        have qu0 : wc.cell? ⟨nu, 0, none⟩ = some (.int .i64 b0) := Fu.out.c 0 rfl
                        have qu1 : wc.cell? ⟨nu, 1, none⟩ = some (.int .i64 b1) := Fu.out.c 1 rfl
                        have qu2 : wc.cell? ⟨nu, 2, none⟩ = some (.int .i64 b2) := Fu.out.c 2 rfl
                        have qu3 : wc.cell? ⟨nu, 3, none⟩ = some (.int .i64 y0) := Fu.out.c 3 rfl
                        have qu4 : wc.cell? ⟨nu, 4, none⟩ = some (.int .i64 y1) := Fu.out.c 4 rfl
                        have qu5 : wc.cell? ⟨nu, 5, none⟩ = some (.int .i64 y2) := Fu.out.c 5 rfl
                        have qu6 : wc.cell? ⟨nu, 6, none⟩ = some (.int .i64 (n + 1)) := Fu.out.c 6 rfl
                        have qd0 : wc.cell? ⟨nd, 0, none⟩ = some (.int .i64 b0) := Fd.out.c 0 rfl
                        have qd1 : wc.cell? ⟨nd, 1, none⟩ = some (.int .i64 b1) := Fd.out.c 1 rfl
                        have qd2 : wc.cell? ⟨nd, 2, none⟩ = some (.int .i64 b2) := Fd.out.c 2 rfl
                        have n32 : (n + 1 == 32) = false := by simp; omega
                        go_upto_region 32 with fail
                        clear qu0 qu1 qu2 qu3 qu4 qu5 qu6 qd0 qd1 qd2
                        have qu0 : wc.cell? ⟨nu, 0, none⟩ = some (.int .i64 b0) := Fu.out.c 0 rfl
                        have qu1 : wc.cell? ⟨nu, 1, none⟩ = some (.int .i64 b1) := Fu.out.c 1 rfl
                        have qu2 : wc.cell? ⟨nu, 2, none⟩ = some (.int .i64 b2) := Fu.out.c 2 rfl
                        have qu3 : wc.cell? ⟨nu, 3, none⟩ = some (.int .i64 y0) := Fu.out.c 3 rfl
                        have qu4 : wc.cell? ⟨nu, 4, none⟩ = some (.int .i64 y1) := Fu.out.c 4 rfl
                        have qu5 : wc.cell? ⟨nu, 5, none⟩ = some (.int .i64 y2) := Fu.out.c 5 rfl
                        have qu6 : wc.cell? ⟨nu, 6, none⟩ = some (.int .i64 (n + 1)) := Fu.out.c 6 rfl
                        have qm0 : wc.cell? ⟨w.heap.size, 0, none⟩ = some (.int .i64 b0) := Fm.out.c 0 rfl
                        have zm0 : wc.frozen? ⟨w.heap.size, 0, none⟩ = false := Fm.out.f 0 rfl
                        have qm1 : wc.cell? ⟨w.heap.size, 1, none⟩ = some (.int .i64 b1) := Fm.out.c 1 rfl
                        have zm1 : wc.frozen? ⟨w.heap.size, 1, none⟩ = false := Fm.out.f 1 rfl
                        have qm2 : wc.cell? ⟨w.heap.size, 2, none⟩ = some (.int .i64 b2) := Fm.out.c 2 rfl
                        have zm2 : wc.frozen? ⟨w.heap.size, 2, none⟩ = false := Fm.out.f 2 rfl
                        have qm3 : wc.cell? ⟨w.heap.size, 3, none⟩ = some (.int .i64 s0) := Fm.out.c 3 rfl
                        have zm3 : wc.frozen? ⟨w.heap.size, 3, none⟩ = false := Fm.out.f 3 rfl
                        have qm4 : wc.cell? ⟨w.heap.size, 4, none⟩ = some (.int .i64 s1) := Fm.out.c 4 rfl
                        have zm4 : wc.frozen? ⟨w.heap.size, 4, none⟩ = false := Fm.out.f 4 rfl
                        have qm5 : wc.cell? ⟨w.heap.size, 5, none⟩ = some (.int .i64 s2) := Fm.out.c 5 rfl
                        have zm5 : wc.frozen? ⟨w.heap.size, 5, none⟩ = false := Fm.out.f 5 rfl
                        have qm6 : wc.cell? ⟨w.heap.size, 6, none⟩ = some (.int .i64 n) := Fm.out.c 6 rfl
                        have zm6 : wc.frozen? ⟨w.heap.size, 6, none⟩ = false := Fm.out.f 6 rfl
                        go_wp2_with fail
                        go_roundw
                        case rel => exact ⟨k + 1, n + 1, lo1, hi1, b0, b1, b2, y0, y1, y2, by omega, by go_num, rfl, rfl, rfl, HR1, (((((((Fm.out.set 0 (.int .i64 b0)).set 1 (.int .i64 b1)).set 2 (.int .i64 b2)).set 3 (.int .i64 y0)).set 4 (.int .i64 y1)).set 5 (.int .i64 y2)).set 6 (.int .i64 (n + 1))), (((((((FX.out.set (p := ⟨w.heap.size, 0, none⟩) (Nat.le_refl _) _).set (p := ⟨w.heap.size, 1, none⟩) (Nat.le_refl _) _).set (p := ⟨w.heap.size, 2, none⟩) (Nat.le_refl _) _).set (p := ⟨w.heap.size, 3, none⟩) (Nat.le_refl _) _).set (p := ⟨w.heap.size, 4, none⟩) (Nat.le_refl _) _).set (p := ⟨w.heap.size, 5, none⟩) (Nat.le_refl _) _).set (p := ⟨w.heap.size, 6, none⟩) (Nat.le_refl _) _)⟩
                        case measure => simp [intOf]; omega
              · as_aux_lemma =>
                  have h31 : n = 31 := by omega
                  obtain ⟨r0, r1, r2, et, p1, p2, HR0⟩ := rests_mean HR.out HV0.out hn h31 l1 l2 l3
                  have HR1 : Hid (∀ lo hi, RI r0 r1 r2 0 0 0 0 lo hi) := HR0
                  have H31 : Hid (n = 31) := h31
                  clear h31
                  rw [et] at HT
                  clear et hn HR HV0 HR0 l1 l2 l3
                  have qv0 : wx4.cell? ⟨nv, 0, none⟩ = some (.int .i64 v0) := Fv.out.c 0 rfl
                  have qv1 : wx4.cell? ⟨nv, 1, none⟩ = some (.int .i64 g1) := Fv.out.c 1 rfl
                  have qv2 : wx4.cell? ⟨nv, 2, none⟩ = some (.int .i64 v2) := Fv.out.c 2 rfl
                  have qm0 : wx4.cell? ⟨w.heap.size, 0, none⟩ = some (.int .i64 b0) := Fm.out.c 0 rfl
                  have qm1 : wx4.cell? ⟨w.heap.size, 1, none⟩ = some (.int .i64 b1) := Fm.out.c 1 rfl
                  have qm2 : wx4.cell? ⟨w.heap.size, 2, none⟩ = some (.int .i64 b2) := Fm.out.c 2 rfl
                  have qm3 : wx4.cell? ⟨w.heap.size, 3, none⟩ = some (.int .i64 s0) := Fm.out.c 3 rfl
                  have qm4 : wx4.cell? ⟨w.heap.size, 4, none⟩ = some (.int .i64 s1) := Fm.out.c 4 rfl
                  have qm5 : wx4.cell? ⟨w.heap.size, 5, none⟩ = some (.int .i64 s2) := Fm.out.c 5 rfl
                  have qm6 : wx4.cell? ⟨w.heap.size, 6, none⟩ = some (.int .i64 n) := Fm.out.c 6 rfl
                  go_upto_region 16 with (first | (go_at_call 9; refine (HT.out _).mono ?_; rintro e wq2 ⟨rfl, xq2⟩))
                  have Fm : Hid (HV wq2 w.heap.size [.int .i64 b0, .int .i64 b1, .int .i64 b2, .int .i64 s0, .int .i64 s1, .int .i64 s2, .int .i64 n]) := Fm.out.ext xq2
                  have Fv : Hid (HV wq2 nv [.int .i64 v0, .int .i64 g1, .int .i64 v2]) := Fv.out.ext xq2
                  have Fd : Hid (HV wq2 nd [.int .i64 b0, .int .i64 b1, .int .i64 b2, .int .i64 s0, .int .i64 s1, .int .i64 s2, .int .i64 n]) := Fd.out.ext xq2
                  have FX : Hid (Ext w wq2) := FX.out.trans xq2
                  clear qv0 qv1 qv2 qm0 qm1 qm2 qm3 qm4 qm5 qm6 xq2 HT
                  have ltmu : w.heap.size < wq2.heap.size := Fm.out.1
                  have ltvu : nv < wq2.heap.size := Fv.out.1
                  have ltdu : nd < wq2.heap.size := Fd.out.1
                  have Lu : Hid (w.heap.size ≤ wq2.heap.size) := FX.out.size
                  have Fm : Hid (HV (wq2.alloc (.cells #[.int .i64 r0, .int .i64 r1, .int .i64 r2, .int .i64 0, .int .i64 0, .int .i64 0, .int .i64 0] 26)) w.heap.size [.int .i64 b0, .int .i64 b1, .int .i64 b2, .int .i64 s0, .int .i64 s1, .int .i64 s2, .int .i64 n]) := Fm.out.alloc _
                  have Fv : Hid (HV (wq2.alloc (.cells #[.int .i64 r0, .int .i64 r1, .int .i64 r2, .int .i64 0, .int .i64 0, .int .i64 0, .int .i64 0] 26)) nv [.int .i64 v0, .int .i64 g1, .int .i64 v2]) := Fv.out.alloc _
                  have Fd : Hid (HV (wq2.alloc (.cells #[.int .i64 r0, .int .i64 r1, .int .i64 r2, .int .i64 0, .int .i64 0, .int .i64 0, .int .i64 0] 26)) nd [.int .i64 b0, .int .i64 b1, .int .i64 b2, .int .i64 s0, .int .i64 s1, .int .i64 s2, .int .i64 n]) := Fd.out.alloc _
                  have Fu : Hid (HV (wq2.alloc (.cells #[.int .i64 r0, .int .i64 r1, .int .i64 r2, .int .i64 0, .int .i64 0, .int .i64 0, .int .i64 0] 26)) wq2.heap.size [.int .i64 r0, .int .i64 r1, .int .i64 r2, .int .i64 0, .int .i64 0, .int .i64 0, .int .i64 0]) := hv_at rfl
                  have FX : Hid (Ext w (wq2.alloc (.cells #[.int .i64 r0, .int .i64 r1, .int .i64 r2, .int .i64 0, .int .i64 0, .int .i64 0, .int .i64 0] 26))) := FX.out.alloc _
                  generalize (wq2.alloc (.cells #[.int .i64 r0, .int .i64 r1, .int .i64 r2, .int .i64 0, .int .i64 0, .int .i64 0, .int .i64 0] 26)) = wx1 at *
                  generalize wq2.heap.size = nu at *
                  go_upto_if 132 with (go_at_call 10; refine (num11_any _ _).mono ?_; rintro e wx ⟨rfl, hwx⟩; have hwy := hwx.symm; clear hwx; subst hwy)
                  go_cut [5, 6] from 16 to 191 (fun v5 v6 wx => v5 = .int .i64 la ∧ v6 = .int .i64 ha ∧ Hid (Ext wx1 wx))
                  case first =>
                    rcases LA.out with ⟨e0, e1, e2⟩ | ⟨e0, e1, e2⟩
                    · exfalso; have h := H31.out; omega
                    · have e3 : (n == 0) = false := by simp [e0]
                      have E : Hid (la = lo ∧ ha = hi) := ⟨e1, e2⟩
                      clear e0 e1 e2
                      go_wp2_with fail
                      go_meet
                      exact ⟨by rw [E.out.1], by rw [E.out.2], Ext.refl _⟩
                  case rest =>
                    obtain ⟨rfl, rfl, hx⟩ := hcut
                    have hx := hx.out
                    have Fm : Hid (HV wc w.heap.size [.int .i64 b0, .int .i64 b1, .int .i64 b2, .int .i64 s0, .int .i64 s1, .int .i64 s2, .int .i64 n]) := Fm.out.ext hx
                    have Fv : Hid (HV wc nv [.int .i64 v0, .int .i64 g1, .int .i64 v2]) := Fv.out.ext hx
                    have Fd : Hid (HV wc nd [.int .i64 b0, .int .i64 b1, .int .i64 b2, .int .i64 s0, .int .i64 s1, .int .i64 s2, .int .i64 n]) := Fd.out.ext hx
                    have Fu : Hid (HV wc nu [.int .i64 r0, .int .i64 r1, .int .i64 r2, .int .i64 0, .int .i64 0, .int .i64 0, .int .i64 0]) := Fu.out.ext hx
                    have FX : Hid (Ext w wc) := FX.out.trans hx
                    clear hx
                    go_upto_region 25 with fail
                    go_cut [5] from 16 to 191 (fun v5 wx => v5 = .int .i64 lo1 ∧ wc = wx)
                    case first =>
                      have qv0 : wc.cell? ⟨nv, 0, none⟩ = some (.int .i64 v0) := Fv.out.c 0 rfl
                      rcases LB.out with ⟨e0, e1⟩ | ⟨e0, e1⟩
                      · have E : Hid (lo1 = v0) := e1
                        clear e1
                        go_wp2_with fail
                        go_meet
                        refine ⟨?_, rfl⟩
                        rw [E.out]
                        first | rfl | (congr 1; simp only [Int.min_def]; split <;> omega)
                      · have E : Hid (lo1 = la) := e1
                        clear e1
                        go_wp2_with fail
                        go_meet
                        refine ⟨?_, rfl⟩
                        rw [E.out]
                        first | rfl | (congr 1; simp only [Int.min_def]; split <;> omega)
                    case rest =>
                      obtain ⟨rfl, rfl⟩ := hcut
                      go_upto_region 26 with fail
                      go_cut [6] from 16 to 191 (fun v5 wx => v5 = .int .i64 hi1 ∧ wc = wx)
                      case first =>
                        have qv0 : wc.cell? ⟨nv, 0, none⟩ = some (.int .i64 v0) := Fv.out.c 0 rfl
                        rcases LC.out with ⟨e0, e1⟩ | ⟨e0, e1⟩
                        · have E : Hid (hi1 = v0) := e1
                          clear e1
                          go_wp2_with fail
                          go_meet
                          refine ⟨?_, rfl⟩
                          rw [E.out]
                          first | rfl | (congr 1; simp only [Int.max_def]; split <;> omega)
                        · have E : Hid (hi1 = ha) := e1
                          clear e1
                          go_wp2_with fail
                          go_meet
                          refine ⟨?_, rfl⟩
                          rw [E.out]
                          first | rfl | (congr 1; simp only [Int.max_def]; split <;> omega)
                      case rest =>
                        obtain ⟨rfl, rfl⟩ := hcut
                        have qu0 : wc.cell? ⟨nu, 0, none⟩ = some (.int .i64 r0) := Fu.out.c 0 rfl
                        have qu1 : wc.cell? ⟨nu, 1, none⟩ = some (.int .i64 r1) := Fu.out.c 1 rfl
                        have qu2 : wc.cell? ⟨nu, 2, none⟩ = some (.int .i64 r2) := Fu.out.c 2 rfl
                        have qu3 : wc.cell? ⟨nu, 3, none⟩ = some (.int .i64 0) := Fu.out.c 3 rfl
                        have qu4 : wc.cell? ⟨nu, 4, none⟩ = some (.int .i64 0) := Fu.out.c 4 rfl
                        have qu5 : wc.cell? ⟨nu, 5, none⟩ = some (.int .i64 0) := Fu.out.c 5 rfl
                        have qu6 : wc.cell? ⟨nu, 6, none⟩ = some (.int .i64 0) := Fu.out.c 6 rfl
                        have qd0 : wc.cell? ⟨nd, 0, none⟩ = some (.int .i64 b0) := Fd.out.c 0 rfl
                        have qd1 : wc.cell? ⟨nd, 1, none⟩ = some (.int .i64 b1) := Fd.out.c 1 rfl
                        have qd2 : wc.cell? ⟨nd, 2, none⟩ = some (.int .i64 b2) := Fd.out.c 2 rfl
                        have h31 : n = 31 := H31.out
                        clear H31
                        subst h31
                        go_upto_region 32 with fail
                        clear qu0 qu1 qu2 qu3 qu4 qu5 qu6 qd0 qd1 qd2
                        have qu0 : wc.cell? ⟨nu, 0, none⟩ = some (.int .i64 r0) := Fu.out.c 0 rfl
                        have qu1 : wc.cell? ⟨nu, 1, none⟩ = some (.int .i64 r1) := Fu.out.c 1 rfl
                        have qu2 : wc.cell? ⟨nu, 2, none⟩ = some (.int .i64 r2) := Fu.out.c 2 rfl
                        have qu3 : wc.cell? ⟨nu, 3, none⟩ = some (.int .i64 0) := Fu.out.c 3 rfl
                        have qu4 : wc.cell? ⟨nu, 4, none⟩ = some (.int .i64 0) := Fu.out.c 4 rfl
                        have qu5 : wc.cell? ⟨nu, 5, none⟩ = some (.int .i64 0) := Fu.out.c 5 rfl
                        have qu6 : wc.cell? ⟨nu, 6, none⟩ = some (.int .i64 0) := Fu.out.c 6 rfl
                        have qm0 : wc.cell? ⟨w.heap.size, 0, none⟩ = some (.int .i64 b0) := Fm.out.c 0 rfl
                        have zm0 : wc.frozen? ⟨w.heap.size, 0, none⟩ = false := Fm.out.f 0 rfl
                        have qm1 : wc.cell? ⟨w.heap.size, 1, none⟩ = some (.int .i64 b1) := Fm.out.c 1 rfl
                        have zm1 : wc.frozen? ⟨w.heap.size, 1, none⟩ = false := Fm.out.f 1 rfl
                        have qm2 : wc.cell? ⟨w.heap.size, 2, none⟩ = some (.int .i64 b2) := Fm.out.c 2 rfl
                        have zm2 : wc.frozen? ⟨w.heap.size, 2, none⟩ = false := Fm.out.f 2 rfl
                        have qm3 : wc.cell? ⟨w.heap.size, 3, none⟩ = some (.int .i64 s0) := Fm.out.c 3 rfl
                        have zm3 : wc.frozen? ⟨w.heap.size, 3, none⟩ = false := Fm.out.f 3 rfl
                        have qm4 : wc.cell? ⟨w.heap.size, 4, none⟩ = some (.int .i64 s1) := Fm.out.c 4 rfl
                        have zm4 : wc.frozen? ⟨w.heap.size, 4, none⟩ = false := Fm.out.f 4 rfl
                        have qm5 : wc.cell? ⟨w.heap.size, 5, none⟩ = some (.int .i64 s2) := Fm.out.c 5 rfl
                        have zm5 : wc.frozen? ⟨w.heap.size, 5, none⟩ = false := Fm.out.f 5 rfl
                        have qm6 : wc.cell? ⟨w.heap.size, 6, none⟩ = some (.int .i64 31) := Fm.out.c 6 rfl
                        have zm6 : wc.frozen? ⟨w.heap.size, 6, none⟩ = false := Fm.out.f 6 rfl
                        go_wp2_with fail
                        go_roundw
                        case rel => exact ⟨k + 1, 0, lo1, hi1, r0, r1, r2, 0, 0, 0, by omega, by go_num, rfl, rfl, rfl, HR1.out lo1 hi1, (((((((Fm.out.set 0 (.int .i64 r0)).set 1 (.int .i64 r1)).set 2 (.int .i64 r2)).set 3 (.int .i64 0)).set 4 (.int .i64 0)).set 5 (.int .i64 0)).set 6 (.int .i64 0)), (((((((FX.out.set (p := ⟨w.heap.size, 0, none⟩) (Nat.le_refl _) _).set (p := ⟨w.heap.size, 1, none⟩) (Nat.le_refl _) _).set (p := ⟨w.heap.size, 2, none⟩) (Nat.le_refl _) _).set (p := ⟨w.heap.size, 3, none⟩) (Nat.le_refl _) _).set (p := ⟨w.heap.size, 4, none⟩) (Nat.le_refl _) _).set (p := ⟨w.heap.size, 5, none⟩) (Nat.le_refl _) _).set (p := ⟨w.heap.size, 6, none⟩) (Nat.le_refl _) _)⟩
                        case measure => simp [intOf]; omega
      · go_wp2_with fail
        refine (wakes11_any _).mono ?_
        rintro e w1 ⟨rfl, x1⟩
        have E1 : Ext w w1 := FX.out.trans x1
        go_wp2_with fail
        go_ret
        exact ⟨rfl, E1⟩
    · have hk' : k = len := by omega
      subst hk'
      go_wp2_with fail
      refine (wakes11_any _).mono ?_
      rintro e w1 ⟨rfl, x1⟩
      have E1 : Ext w w1 := FX.out.trans x1
      go_wp2_with fail
      go_ret
      exact ⟨rfl, E1⟩
set_option maxRecDepth 20000 in
set_option maxHeartbeats 4000000 in
theorem learnrests_none (a : Option Addr) (cap : Nat) (w : World) :
    Calls Try.prog 4 #[.slice a 0 cap] w fun e w' => e = .returned (.bool true) ∧ Ext w w' := by
  have FX : Hid (Ext w (w.alloc (.cells #[.int .i64 0, .int .i64 0, .int .i64 0, .int .i64 0, .int .i64 0, .int .i64 0, .int .i64 0] 26))) := (Ext.refl _).alloc _
  go_enter Try.func4, Try.ntmps4
  go_upto_region 4 with fail
  generalize (w.alloc (.cells #[.int .i64 0, .int .i64 0, .int .i64 0, .int .i64 0, .int .i64 0, .int .i64 0, .int .i64 0] 26)) = wa at *
  go_wp2_with fail
  go_loopw [7] (fun i wr => i = .int .i64 0 ∧ Hid (Ext w wr)) (fun _ _ => 0)
  case atStart => exact ⟨rfl, FX⟩
  case round =>
    clear FX
    obtain ⟨rfl, FX⟩ := hrel
    go_wp2_with fail
    refine (wakes11_any _).mono ?_
    rintro e w1 ⟨rfl, x1⟩
    have E1 : Ext w w1 := FX.out.trans x1
    go_wp2_with fail
    go_ret
    exact ⟨rfl, E1⟩
end Go.Proofs.Ytcbelhalckehcaa
