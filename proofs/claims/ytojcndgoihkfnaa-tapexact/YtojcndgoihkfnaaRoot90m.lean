/- The reference's whole numbers with a sign: Root, of squares. -/
import Derived.Test.YtojcndgoihkfnaaMg40
import Derived.Test.YtojcndgoihkfnaaMg46
namespace Go.Proofs.Ytojcndgoihkfnaa
open Go.RowKit

theorem nat_nonneg (n : Nat) : decide ((n : Int) < 0) = false := decide_eq_false (Int.not_lt.2 (Int.natCast_nonneg n))
theorem hid_ff : Hid (false = false) := rfl
/-- with t bits to come -/
structure RtRel (a t r : Nat) : Prop where
  lo : r * r ≤ a
  hi : a < (r + 2 ^ t) * (r + 2 ^ t)
theorem RtRel.start (a : Nat) : RtRel a (Dig.blen a / 2 + 2) 0 := by
  refine ⟨by omega, ?_⟩
  rw [Nat.zero_add, ← Nat.pow_add]
  exact Nat.lt_of_lt_of_le (Dig.lt_blen a) (Nat.pow_le_pow_right (by omega) (by omega))
theorem RtRel.yes {a i r : Nat} (h : RtRel a (i + 1) r) (hy : (r + 2 ^ i) * (r + 2 ^ i) ≤ a) : RtRel a i (r + 2 ^ i) := by
  refine ⟨hy, ?_⟩
  have := h.hi
  have e : r + 2 ^ i + 2 ^ i = r + 2 ^ (i + 1) := by rw [Nat.pow_succ]; omega
  rw [e]
  exact this
theorem RtRel.no {a i r : Nat} (h : RtRel a (i + 1) r) (hy : ¬ (r + 2 ^ i) * (r + 2 ^ i) ≤ a) : RtRel a i r := ⟨h.lo, by omega⟩
theorem RtRel.le {a t r : Nat} (h : RtRel a t r) : r ≤ a := by
  have := h.lo
  rcases Nat.eq_zero_or_pos r with h0 | h0
  · omega
  · exact Nat.le_trans (Nat.le_mul_of_pos_left r h0) this

set_option maxHeartbeats 8000000 in
theorem root2_isI (x k : Nat) (r1 : Value) (w : World) (h : IsI w r1 (x : Int)) (hk : k ≤ 800) (f : Fit k (x : Int)) :
    Calls Try.prog 60 #[r1, .int .i64 2] w fun e w' => (∃ (r' : Value) (s : Nat), e = .returned r' ∧ IsI w' r' (s : Int) ∧ s * s ≤ x ∧ x < (s + 1) * (s + 1)) ∧ Ext w w' := by
  obtain ⟨u, rfl, hu⟩ := h
  rw [Int.natAbs_natCast] at hu
  rw [decide_eq_false (show ¬ (x : Int) < 0 by omega)]
  have fx : x < 2 ^ k := by have := f; unfold Fit at this; rwa [Int.natAbs_natCast] at this
  have hbl : Dig.blen x ≤ k := Dig.blen_le x k fx
  obtain ⟨K, hK⟩ : ∃ K, Hid (Dig.blen x / 2 + 2 = K + 1) := ⟨Dig.blen x / 2 + 1, rfl⟩
  have hK2 : K ≤ 1000 := by have := hK.out; omega
  obtain ⟨E, hE⟩ : ∃ E : Nat, E = 1799 := ⟨_, rfl⟩
  have fr : ∀ r i : Nat, r ≤ x → i ≤ K → Fit (E + 1) ((r + 2 ^ i : Nat) : Int) := fun r i hr hi => by
    have g1 : Fit E ((r : Nat) : Int) := (f.of_le (by rw [Int.natAbs_natCast, Int.natAbs_natCast]; exact hr)).le (by omega)
    have g2 : Fit E ((2 ^ i : Nat) : Int) := by
      unfold Fit
      rw [Int.natAbs_natCast]
      exact Nat.pow_lt_pow_right (by omega) (by omega)
    rw [Int.natCast_add]
    exact g1.add g2
  have HO0 : Hid (∀ w', Calls Try.prog 51 #[.int .i64 0] w' fun e w'' => (∃ r, e = .returned r ∧ IsI w'' r 0) ∧ Ext w' w'') := fun w' => from_any 0 w' (by omega) (by omega)
  have HO : Hid (∀ w', Calls Try.prog 51 #[.int .i64 1] w' fun e w'' => (∃ r, e = .returned r ∧ IsI w'' r 1) ∧ Ext w' w'') := fun w' => from_any 1 w' (by omega) (by omega)
  have HN : Hid (∀ w', Ext w w' → Calls Try.prog 86 #[.agg #[.bool false, u]] w' fun e w'' => e = .returned (.int .i64 (Dig.blen x : Int)) ∧ Ext w' w'') := fun w' hx => len_isI (x : Int) _ w' ⟨u, by rw [decide_eq_false (by omega)], by rw [Int.natAbs_natCast]; exact hu.ext hx⟩ (f.small (by omega))
  have HL : Hid (∀ (i : Nat) q w', i ≤ K → IsI w' q 1 → Calls Try.prog 62 #[q, .int .i64 (i : Int)] w' fun e w'' => (∃ r', e = .returned r' ∧ IsI w'' r' ((2 ^ i : Nat) : Int)) ∧ Ext w' w'') := fun i q w' hi hq => by
    have h := left_isI 1 i q w' hq ((fit_one 1 (by omega) : Fit 1 1).small (by omega)) (by omega) (((fit_one 1 (by omega) : Fit 1 1).shl i).small (by omega))
    have e : (1 : Int) * 2 ^ i = ((2 ^ i : Nat) : Int) := by rw [Int.one_mul]; simp
    rw [e] at h
    exact h
  have HP : Hid (∀ (i r : Nat) q q' w', i ≤ K → r ≤ x → IsI w' q (r : Int) → IsI w' q' ((2 ^ i : Nat) : Int) → Calls Try.prog 48 #[q, q'] w' fun e w'' => (∃ r', e = .returned r' ∧ IsI w'' r' ((r + 2 ^ i : Nat) : Int)) ∧ Ext w' w'') := fun i r q q' w' hi hr hq hq' => by
    have h := plus_isI (r : Int) ((2 ^ i : Nat) : Int) q q' w' hq hq' (((fr r i hr hi).of_le (by rw [Int.natAbs_natCast, Int.natAbs_natCast]; exact Nat.le_add_right _ _)).small (by omega)) (((fr r i hr hi).of_le (by rw [Int.natAbs_natCast, Int.natAbs_natCast]; exact Nat.le_add_left _ _)).small (by omega)) (by rw [← Int.natCast_add]; exact (fr r i hr hi).small (by omega))
    rw [← Int.natCast_add] at h
    exact h
  have HW : Hid (∀ (i r : Nat) q w', i ≤ K → r ≤ x → IsI w' q ((r + 2 ^ i : Nat) : Int) → Calls Try.prog 87 #[q, .int .i64 2] w' fun e w'' => (∃ r', e = .returned r' ∧ IsI w'' r' (((r + 2 ^ i) * (r + 2 ^ i) : Nat) : Int)) ∧ Ext w' w'') := fun i r q w' hi hr hq => by
    have h := pow_isI ((r + 2 ^ i : Nat) : Int) 2 (E + 1) q w' hq (by omega) (fr r i hr hi) (by omega) (by omega)
    have e : ((r + 2 ^ i : Nat) : Int) ^ 2 = (((r + 2 ^ i) * (r + 2 ^ i) : Nat) : Int) := by rw [Int.natCast_mul, Int.pow_succ, Int.pow_succ, Int.pow_zero, Int.one_mul]
    rw [e] at h
    exact h
  have HC : Hid (∀ (i r : Nat) q w', i ≤ K → r ≤ x → IsI w' q (((r + 2 ^ i) * (r + 2 ^ i) : Nat) : Int) → Ext w w' → Calls Try.prog 66 #[q, .agg #[.bool false, u]] w' fun e w'' => e = .returned (.int .i64 (sgn ((((r + 2 ^ i) * (r + 2 ^ i) : Nat) : Int) - (x : Int)))) ∧ Ext w' w'') := fun i r q w' hi hr hq hx => by
    have f2 : Fit (E + 1 + (E + 1)) (((r + 2 ^ i) * (r + 2 ^ i) : Nat) : Int) := by rw [Int.natCast_mul]; exact (fr r i hr hi).mul (fr r i hr hi)
    exact cmp_isI _ (x : Int) q _ w' hq ⟨u, by rw [decide_eq_false (by omega)], by rw [Int.natAbs_natCast]; exact hu.ext hx⟩ (f2.small (by omega)) (f.small (by omega)) ((f2.sub (f.le (by omega))).small (by omega))
  have HST : Hid (RtRel x (K + 1) 0) := by have := RtRel.start x; rw [hK.out] at this; exact this
  have eK : (Dig.blen x : Int) / 2 + 1 = (K : Int) := by have := hK.out; omega
  have hb64 : Dig.blen x ≤ 800 := by omega
  obtain ⟨a1, l1, c1, rfl⟩ := hu.isSlice
  clear hu f fx fr hbl hk hE
  generalize Dig.blen x = BL at *
  have XS : Hid (Ext w ((w.alloc (.cells #[.bool false, .slice a1 l1 c1] 72)).alloc (.cells #[.bool false, .slice none 0 0] 72))) := ((Ext.refl w).alloc _).alloc _
  have LA : Hid (Has ((w.alloc (.cells #[.bool false, .slice a1 l1 c1] 72)).alloc (.cells #[.bool false, .slice none 0 0] 72)) w.heap.size (.bool false) (.slice a1 l1 c1)) := by constructor <;> simp [go_sem]
  have LB : Hid (Has ((w.alloc (.cells #[.bool false, .slice a1 l1 c1] 72)).alloc (.cells #[.bool false, .slice none 0 0] 72)) (w.heap.size + 1) (.bool false) (.slice none 0 0)) := by constructor <;> simp [go_sem]
  go_enter Try.func60, Try.ntmps60
  go_wp2_with fail
  generalize ((w.alloc (.cells #[.bool false, .slice a1 l1 c1] 72)).alloc (.cells #[.bool false, .slice none 0 0] 72)) = W at *
  refine (HO0.out _).mono ?_
  rintro e w1 ⟨⟨r1, rfl, hr1⟩, x1⟩
  obtain ⟨u1, hu1, k1⟩ := hr1
  obtain ⟨ax, lx, cx, ex⟩ := k1.isSlice
  subst ex
  subst hu1
  have hpg : w.heap.size + 1 < w1.heap.size := Nat.lt_of_lt_of_le LB.out.lt x1.size
  have S0 : Hid (PowRel w (w1.alloc (.cells #[.bool false, .slice ax lx cx] 72)) w.heap.size w1.heap.size (.bool false) (.slice a1 l1 c1) ((0 : Nat) : Int) (.bool false) (.slice ax lx cx)) :=
    ⟨(LA.out.ext x1).ext ((Ext.refl _).alloc _), (LB.out.ext x1).ext ((Ext.refl _).alloc _), by constructor <;> simp [go_sem], ⟨_, rfl, k1.ext ((Ext.refl _).alloc _)⟩, (XS.out.trans x1).alloc _⟩
  obtain ⟨b0, b1, b2, b3⟩ := S0.out.a
  clear LA LB XS x1 k1 HO0
  go_wp2_with fail
  refine (HN.out _ S0.out.x).mono ?_
  rintro e w2 ⟨rfl, x2⟩
  have S2 : Hid (PowRel w w2 w.heap.size w1.heap.size (.bool false) (.slice a1 l1 c1) ((0 : Nat) : Int) (.bool false) (.slice ax lx cx)) := ⟨S0.out.a.ext x2, S0.out.b.ext x2, S0.out.g.ext x2, S0.out.i.ext x2, S0.out.x.trans x2⟩
  clear S0 b0 b1 b2 b3 x2 HN
  go_wp2_with fail
  clear eK
  generalize w1.heap.size = gr at *
  go_loopw [6] (fun iv wr => ∃ (t r : Nat) (d : Bool) (a : Option Addr) (l c : Nat), t ≤ K + 1 ∧ iv = .int .i64 ((t : Int) - 1) ∧ Hid (RtRel x t r) ∧ Hid (PowRel w wr w.heap.size gr (.bool false) (.slice a1 l1 c1) (r : Int) (.bool d) (.slice a l c))) (fun iv _ => ((intOf iv) + 1).toNat)
  case atStart => exact ⟨K + 1, 0, _, _, _, _, Nat.le_refl _, by go_num, HST, S2⟩
  case round =>
    obtain ⟨t, r, d, a, l, c, ht, rfl, hT, hR⟩ := hrel
    obtain ⟨⟨p0, p1, p2, p3⟩, ⟨p4, p5, p6, p7⟩, ⟨p8, p9, p10, p11⟩, _, _⟩ := hR.out
    cases t with
    | zero =>
      have HI : Hid (IsI wr (.agg #[.bool d, .slice a l c]) (r : Int)) := hR.out.i
      have X9 : Hid (Ext w wr) := hR.out.x
      have hlo := hT.out.lo
      have hhi := hT.out.hi
      rw [Nat.pow_zero] at hhi
      have HB : Hid (r * r ≤ x ∧ x < (r + 1) * (r + 1)) := ⟨hlo, hhi⟩
      clear hlo hhi
      go_wp2_with fail
      exact bodyPost_ret (v := .agg #[.bool d, .slice a l c]) (by simp [results, Try.results60, go_sem, p4, p5]) rfl ⟨⟨_, r, rfl, HI.out.set2 p4 p5, HB.out⟩, (X9.out.setCell (show w.heap.size ≤ w.heap.size + 1 by omega) _).setCell (show w.heap.size ≤ w.heap.size + 1 by omega) _⟩
    | succ i =>
      have et : ((i + 1 : Nat) : Int) - 1 = (i : Int) := by omega
      rw [et]
      clear et
      have hi : i ≤ K := by omega
      have hr : r ≤ x := hT.out.le
      have np : gr ≠ wr.heap.size := Nat.ne_of_lt hR.out.g.lt
      have np' := np.symm
      go_upto_region 5 with fail
      go_cut [7] (fun s7 wx => ∃ (gx : Nat) (dx : Bool) (ax : Option Addr) (lx cx : Nat), s7 = .pointer (some ⟨gx, 0, none⟩) ∧ Hid (OneV wr wx gx (.bool dx) (.slice ax lx cx) (r + 2 ^ i)) ∧ Hid (dx = false))
      case first =>
        go_region_held (fun w' => w'.cell? ⟨gr, 0, none⟩ = some (.bool d) ∧ w'.cell? ⟨gr, 1, none⟩ = some (.slice a l c)) (first | (go_keep; done) | skip) (first | (go_at_call 51; refine (HO.out _).mono ?_; rintro e w3 ⟨⟨o3, rfl, ho3⟩, x3⟩; have X3 : Hid (Ext wr w3) := (by first | exact x3 | exact cell_drew x3 | exact ((Ext.refl wr).alloc _).trans x3 | exact ((Ext.refl wr).drew.alloc _).trans x3); obtain ⟨s0, s1, s2, s3⟩ := hR.out.g.ext X3.out; have ns3 : gr ≠ w3.heap.size := Nat.ne_of_lt (hR.out.g.ext X3.out).lt; have ns3' := ns3.symm; (try ((first | have N3 : Hid _ := ext_new1 x3 | have N3 : Hid _ := ext_new1 (cell_drew x3)); (try simp only [size_drewN] at N3); obtain ⟨N3a, N3b, N3c, N3d, N3e, N3f, N3g, N3h, N3i, N3j⟩ := N3.out.kn))) | (go_at_call 62; refine (HL.out i _ _ hi (ho3.ext (by first | exact Ext.refl _ | exact (Ext.refl _).drew | exact (Ext.refl _).alloc _ | exact (Ext.refl _).drew.alloc _))).mono ?_; rintro e w4 ⟨⟨o4, rfl, ho4⟩, x4⟩; have X34 : Hid (Ext w3 w4) := (by first | exact x4 | exact cell_drew x4 | exact ((Ext.refl w3).alloc _).trans x4 | exact ((Ext.refl w3).drew.alloc _).trans x4); obtain ⟨t0, t1, t2, t3⟩ := hR.out.g.ext (X3.out.trans X34.out); have nt4 : gr ≠ w4.heap.size := Nat.ne_of_lt (hR.out.g.ext (X3.out.trans X34.out)).lt; have nt4' := nt4.symm; (try (have N34 : Hid _ := Has.ext N3.out X34.out; obtain ⟨N34a, N34b, N34c, N34d, N34e, N34f, N34g, N34h, N34i, N34j⟩ := N34.out.kn)); (try ((first | have N4 : Hid _ := ext_new1 x4 | have N4 : Hid _ := ext_new1 (cell_drew x4)); (try simp only [size_drewN] at N4); obtain ⟨N4a, N4b, N4c, N4d, N4e, N4f, N4g, N4h, N4i, N4j⟩ := N4.out.kn))) | (go_at_call 48; refine (HP.out i r _ _ _ hi hr ((hR.out.i.ext (X3.out.trans X34.out)).ext (by first | exact Ext.refl _ | exact (Ext.refl _).drew | exact (Ext.refl _).alloc _ | exact (Ext.refl _).drew.alloc _)) (ho4.ext (by first | exact Ext.refl _ | exact (Ext.refl _).drew | exact (Ext.refl _).alloc _ | exact (Ext.refl _).drew.alloc _))).mono ?_; rintro e w5 ⟨⟨o5, rfl, ho5⟩, x5⟩; have X45 : Hid (Ext w4 w5) := (by first | exact x5 | exact cell_drew x5 | exact ((Ext.refl w4).alloc _).trans x5 | exact ((Ext.refl w4).drew.alloc _).trans x5); obtain ⟨v0, v1, v2, v3⟩ := hR.out.g.ext ((X3.out.trans X34.out).trans X45.out); have nv5 : gr ≠ w5.heap.size := Nat.ne_of_lt (hR.out.g.ext ((X3.out.trans X34.out).trans X45.out)).lt; have nv5' := nv5.symm; (try (have N345 : Hid _ := Has.ext N34.out X45.out; obtain ⟨N345a, N345b, N345c, N345d, N345e, N345f, N345g, N345h, N345i, N345j⟩ := N345.out.kn)); (try (have N45 : Hid _ := Has.ext N4.out X45.out; obtain ⟨N45a, N45b, N45c, N45d, N45e, N45f, N45g, N45h, N45i, N45j⟩ := N45.out.kn)); (try ((first | have N5 : Hid _ := ext_new1 x5 | have N5 : Hid _ := ext_new1 (cell_drew x5)); (try simp only [size_drewN] at N5); obtain ⟨N5a, N5b, N5c, N5d, N5e, N5f, N5g, N5h, N5i, N5j⟩ := N5.out.kn)); obtain ⟨u5, hu5, k5⟩ := ho5; obtain ⟨ax, lx, cx, hax⟩ := k5.isSlice; subst hax; rw [nat_nonneg] at hu5; subst hu5))
        all_goals
          have k5' : IsN w5 (.slice ax lx cx) (r + 2 ^ i) := by rw [Int.natAbs_natCast] at k5; exact k5
          go_wp2_with fail
          go_meet
          first
            | with_reducible exact ⟨_, _, _, _, _, rfl, one_a ((X3.out.trans X34.out).trans X45.out) k5', hid_ff⟩
            | ((with_reducible refine ⟨_, _, _, _, _, rfl, one_b ((X3.out.trans X34.out).trans X45.out) k5' ?_ ?_, hid_ff⟩) <;> (first | with_reducible exact N345.out | with_reducible exact N45.out | with_reducible exact N5.out | (have q1 := X3.out.size; have q2 := X34.out.size; have q3 := X45.out.size; omega)))
      case rest =>
        obtain ⟨gx, dx, ax', lx', cx', rfl, hO, hdx⟩ := hcut
        have XA : Hid (Ext w wc) := hR.out.x.trans hO.out.x
        have BX : Hid (Has wc gx (.bool dx) (.slice ax' lx' cx')) := hO.out.h
        have BA : Hid (Has wc w.heap.size (.bool false) (.slice a1 l1 c1)) := hR.out.a.ext hO.out.x
        have HX : Hid (IsI wc (.agg #[.bool dx, .slice ax' lx' cx']) ((r + 2 ^ i : Nat) : Int)) := ⟨_, by rw [hdx.out, nat_nonneg], by rw [Int.natAbs_natCast]; exact hO.out.i⟩
        have R1 : Hid (PowRel w wc w.heap.size gr (.bool false) (.slice a1 l1 c1) (r : Int) (.bool d) (.slice a l c)) := ⟨hR.out.a.ext hO.out.x, hR.out.b.ext hO.out.x, hR.out.g.ext hO.out.x, hR.out.i.ext hO.out.x, XA.out⟩
        obtain ⟨f0, f1, f2, f3⟩ := BX.out
        obtain ⟨f4, f5, f6, f7⟩ := BA.out
        clear p0 p1 p2 p3 p4 p5 p6 p7 p8 p9 p10 p11 np np' hR hO hdx HO HL HP
        by_cases hy : (r + 2 ^ i) * (r + 2 ^ i) ≤ x
        · have HY : Hid (RtRel x i (r + 2 ^ i)) := hT.out.yes hy
          obtain ⟨cc, gcc, gc1⟩ : ∃ cc : Int, sgn ((((r + 2 ^ i) * (r + 2 ^ i) : Nat) : Int) - (x : Int)) = cc ∧ cc ≤ 0 := ⟨_, rfl, by unfold sgn; split; omega; split <;> omega⟩
          have HC' : Hid (∀ q w', IsI w' q (((r + 2 ^ i) * (r + 2 ^ i) : Nat) : Int) → Ext w w' → Calls Try.prog 66 #[q, .agg #[.bool false, .slice a1 l1 c1]] w' fun e w'' => e = .returned (.int .i64 cc) ∧ Ext w' w'') := fun q w' hq hx => by
            have h := HC.out i r q w' hi hr hq hx
            rw [gcc] at h
            exact h
          clear hy gcc
          go_wp2_with fail
          go_region_held (fun w' => w'.cell? ⟨gx, 0, none⟩ = some (.bool dx) ∧ w'.cell? ⟨gx, 1, none⟩ = some (.slice ax' lx' cx') ∧ w'.cell? ⟨w.heap.size, 0, none⟩ = some (.bool false) ∧ w'.cell? ⟨w.heap.size, 1, none⟩ = some (.slice a1 l1 c1)) (go_keep) (first | (go_at_call 87; refine (HW.out i r _ _ hi hr (HX.out.ext ((Ext.refl _).drew))).mono ?_; rintro e w6 ⟨⟨o6, rfl, ho6⟩, x6⟩; obtain ⟨e0, e1, e2, e3⟩ := BX.out.ext (cell_drew x6); obtain ⟨e4, e5, e6, e7⟩ := BA.out.ext (cell_drew x6)) | (go_at_call 66; refine (HC'.out _ _ ho6 (XA.out.trans (cell_drew x6))).mono ?_; rintro e w7 ⟨rfl, x7⟩; obtain ⟨g0, g1, g2, g3⟩ := BX.out.ext ((cell_drew x6).trans x7); obtain ⟨g4, g5, g6, g7⟩ := BA.out.ext ((cell_drew x6).trans x7)))
          obtain ⟨j0, j1, j2, j3⟩ := R1.out.g.ext ((cell_drew x6).trans x7)
          have x67 : Hid (Ext wc w7) := (cell_drew x6).trans x7
          have R7 : Hid (PowRel w ((w7.setCell ⟨gr, 0, none⟩ (.bool dx)).setCell ⟨gr, 1, none⟩ (.slice ax' lx' cx')) w.heap.size gr (.bool false) (.slice a1 l1 c1) ((r + 2 ^ i : Nat) : Int) (.bool dx) (.slice ax' lx' cx')) := by
            obtain ⟨A, B, C, _, X⟩ := R1.out
            have C2 := C.ext x67.out
            exact ⟨(A.ext x67.out).far (by omega), (B.ext x67.out).far (by omega), C2.here, (HX.out.ext x67.out).set2 C2.c0 C2.c1, ((X.trans x67.out).setCell (by omega) _).setCell (by omega) _⟩
          go_wp2_with fail
          go_roundw
          case rel => exact ⟨i, r + 2 ^ i, _, _, _, _, by omega, by go_num, HY, R7⟩
          case measure => simp [intOf]
        · have HY : Hid (RtRel x i r) := hT.out.no hy
          obtain ⟨cc, gcc, gc1⟩ : ∃ cc : Int, sgn ((((r + 2 ^ i) * (r + 2 ^ i) : Nat) : Int) - (x : Int)) = cc ∧ ¬ cc ≤ 0 := ⟨_, rfl, by unfold sgn; rw [if_neg (by omega), if_neg (by omega)]; omega⟩
          have HC' : Hid (∀ q w', IsI w' q (((r + 2 ^ i) * (r + 2 ^ i) : Nat) : Int) → Ext w w' → Calls Try.prog 66 #[q, .agg #[.bool false, .slice a1 l1 c1]] w' fun e w'' => e = .returned (.int .i64 cc) ∧ Ext w' w'') := fun q w' hq hx => by
            have h := HC.out i r q w' hi hr hq hx
            rw [gcc] at h
            exact h
          clear hy gcc
          go_wp2_with fail
          go_region_held (fun w' => w'.cell? ⟨gx, 0, none⟩ = some (.bool dx) ∧ w'.cell? ⟨gx, 1, none⟩ = some (.slice ax' lx' cx') ∧ w'.cell? ⟨w.heap.size, 0, none⟩ = some (.bool false) ∧ w'.cell? ⟨w.heap.size, 1, none⟩ = some (.slice a1 l1 c1)) (go_keep) (first | (go_at_call 87; refine (HW.out i r _ _ hi hr (HX.out.ext ((Ext.refl _).drew))).mono ?_; rintro e w6 ⟨⟨o6, rfl, ho6⟩, x6⟩; obtain ⟨e0, e1, e2, e3⟩ := BX.out.ext (cell_drew x6); obtain ⟨e4, e5, e6, e7⟩ := BA.out.ext (cell_drew x6)) | (go_at_call 66; refine (HC'.out _ _ ho6 (XA.out.trans (cell_drew x6))).mono ?_; rintro e w7 ⟨rfl, x7⟩; obtain ⟨g0, g1, g2, g3⟩ := BX.out.ext ((cell_drew x6).trans x7); obtain ⟨g4, g5, g6, g7⟩ := BA.out.ext ((cell_drew x6).trans x7)))
          have x67 : Hid (Ext wc w7) := (cell_drew x6).trans x7
          have R7 : Hid (PowRel w w7 w.heap.size gr (.bool false) (.slice a1 l1 c1) (r : Int) (.bool d) (.slice a l c)) := ⟨R1.out.a.ext x67.out, R1.out.b.ext x67.out, R1.out.g.ext x67.out, R1.out.i.ext x67.out, R1.out.x.trans x67.out⟩
          go_wp2_with fail
          go_roundw
          case rel => exact ⟨i, r, _, _, _, _, by omega, by go_num, HY, R7⟩
          case measure => simp [intOf]
end Go.Proofs.Ytojcndgoihkfnaa
