/- The reference's whole numbers: NDivide, of long divisors. -/
import Derived.Test.YtbmocnigmpmfkaaBig11m
import Derived.Test.YtbmocnigmpmfkaaNew1m
namespace Go.Proofs.Ytbmocnigmpmfkaa
open Go.RowKit

def f64 (F : Nat → Nat) : Nat → Value := fun j => .int .u64 (F j : Int)
theorem row64_of_is {w : World} {g : Nat} {t : TypeId} {L : Nat} {F : Nat → Nat} (h : w.rowIs g t L (f64 F)) (hL : L ≤ 100000) : Row .u64 w (.slice (some ⟨g, 0, none⟩) L L) ((List.range L).map F) := by
  refine .inr ⟨g, 0, L, by simp, by simp, by unfold maxLen; omega, ?_⟩
  intro i hi
  have hi' : i < L := by simpa using hi
  rw [Nat.zero_add, h.cell hi', List.getD_eq_getElem?_getD, List.getElem?_map, List.getElem?_range hi']
  rfl
theorem is64_upd {w : World} {g : Nat} {t : TypeId} {L : Nat} {F : Nat → Nat} (h : w.rowIs g t L (f64 F)) (i z : Nat) : (w.setCell ⟨g, i, none⟩ (.int .u64 (z : Int))).rowIs g t L (f64 (Dig.upd F i z)) :=
  (h.set i _).congr fun j _ => by unfold f64 Dig.upd; split <;> rfl
theorem row_ext {w w' : World} {g : Nat} {t : TypeId} {L : Nat} {f : Nat → Value} (h : w.rowIs g t L f) (hx : Ext w w') : w'.rowIs g t L f := h.of_block (hx.block g h.lt)
theorem map_ok (B L : Nat) (F : Nat → Nat) (hB : 0 < B) (h : ∀ j, F j < B) : Dig.Ok B ((List.range L).map F) := by
  intro j
  rw [List.getD_eq_getElem?_getD, List.getElem?_map]
  by_cases hj : j < L
  · rw [List.getElem?_range hj]
    exact h j
  · rw [List.getElem?_eq_none (by simp; omega)]
    exact hB
theorem or_bit64 (f s : Nat) (h : f % 2 ^ (s + 1) = 0) (hf : f + 2 ^ s < 18446744073709551616) : bits BinOp.or IntKind.u64 (f : Int) ((2 ^ s : Nat) : Int) = ((f + 2 ^ s : Nat) : Int) := by
  rw [bits_or_u64_nat _ _ (by omega) (by omega), Dig.or_bit f s h]
theorem up_bound (m b n : Nat) (hm : m ≠ 0) (hn : Dig.blen b + n ≤ Dig.blen m) : b * 2 ^ n ≤ 2 * m := by
  have h1 := Dig.lt_blen b
  have h2 : b * 2 ^ n ≤ 2 ^ Dig.blen b * 2 ^ n := Nat.mul_le_mul_right _ (Nat.le_of_lt h1)
  rw [← Nat.pow_add] at h2
  exact Nat.le_trans h2 (Nat.le_trans (Nat.pow_le_pow_right (by omega) hn) (Dig.blen_ge m hm))

/-- a number that does not lie in block g -/
structure IsO (g : Nat) (w : World) (v : Value) (n : Nat) : Prop where
  is : IsN w v n
  off : ∀ a l c, v = .slice (some a) l c → a.block ≠ g
theorem IsO.ext {g : Nat} {w w' : World} {v : Value} {n : Nat} (h : IsO g w v n) (hx : Ext w w') : IsO g w' v n := ⟨h.is.ext hx, h.off⟩
theorem IsO.new {B g : Nat} {w : World} {v : Value} {n : Nat} (h : IsA B w v n) (hg : g < B) : IsO g w v n := ⟨h.row, fun a l c e => by have := h.at_ a l c e; omega⟩
theorem IsO.old {g : Nat} {w : World} {v : Value} {n : Nat} (h : IsN w v n) (hn : n ≠ 0) (hg : w.heap.size ≤ g) : IsO g w v n := by
  refine ⟨h, fun a l c e => ?_⟩
  obtain ⟨a', c', hv, hc⟩ := Row.shape h
  have hl : 0 < (Dig.digs 18446744073709551616 n).length := by
    apply Nat.pos_of_ne_zero
    intro h0
    exact hn (Dig.digs_nil _ n (by omega) (List.eq_nil_of_length_eq_zero h0))
  obtain ⟨b, o, hb, hcell⟩ := hc hl
  have hlt : b < w.heap.size := cell_lt (hcell 0 hl)
  rw [hv, hb] at e
  have ea := (Value.slice.inj e).1
  rw [← Option.some.inj ea]
  show b ≠ g
  omega
theorem IsO.set {g : Nat} {w : World} {v : Value} {n j : Nat} {z : Value} (h : IsO g w v n) : IsO g (w.setCell ⟨g, j, none⟩ z) v n := by
  refine ⟨?_, h.off⟩
  rcases h.is with h1 | ⟨b, o, cap, h1, h2, h3, h4⟩
  · exact .inl h1
  · refine .inr ⟨b, o, cap, h1, h2, h3, fun i hi => ?_⟩
    have hne : (⟨b, o + i, none⟩ : Addr) ≠ ⟨g, j, none⟩ := by
      intro e
      have : b = g := congrArg Addr.block e
      exact h.off _ _ _ h1 this
    rw [World.cell?_setCell_other _ _ _ _ hne.symm]
    exact h4 i hi

set_option maxHeartbeats 4000000 in
theorem ndivide_long (m b : Nat) (v1 v2 : Value) (w : World) (h1 : IsN w v1 m) (h2 : IsN w v2 b) (s1 : Small (2 * m)) (s2 : Small b) (hb : b ≠ 0) (hl : (Dig.digs 4294967296 b).length ≠ 1) (hlt : ¬ Dig.blen m < Dig.blen b) (hm : Dig.blen m ≤ 10000) :
    Calls Try.prog 48 #[v1, v2] w fun e w' => (∃ q r, e = .returned (.tuple #[q, r]) ∧ IsN w' q (m / b) ∧ IsN w' r (m % b)) ∧ Ext w w' := by
  have s1' : Small m := small_le s1 (by omega)
  have hm0 : m ≠ 0 := by
    intro h0
    rw [h0, Dig.blen_zero, Dig.blen_pos b hb] at hlt
    omega
  obtain ⟨n, hn, hn2⟩ : ∃ n : Nat, Hid (Dig.blen b + n = Dig.blen m) ∧ n ≤ 10000 := ⟨Dig.blen m - Dig.blen b, by show _ = _; omega, by omega⟩
  have eN : (Dig.blen m : Int) - (Dig.blen b : Int) = (n : Int) := by have := hn.out; omega
  obtain ⟨L, hL, hL2⟩ : ∃ L : Nat, Hid (n / 64 + 1 = L) ∧ L ≤ 200 := ⟨_, rfl, by omega⟩
  have eL : (n : Int) / 64 + 1 = (L : Int) := by have := hL.out; omega
  have hup := up_bound m b n hm0 (Nat.le_of_eq hn.out)
  have SD : Hid (∀ t, t ≤ n + 1 → Small (b * 2 ^ t / 2)) := by
    intro t ht
    refine small_le s1 (Nat.le_trans ?_ hup)
    have h1 := Nat.mul_le_mul_left b (Nat.pow_le_pow_right (n := 2) (by omega) ht)
    rw [Nat.pow_succ, ← Nat.mul_assoc] at h1
    omega
  have T1 : Dig.blen m ≤ 64000 := Dig.blen_bound m 1000 s1'.1
  have T2 : Dig.blen b ≤ 64000 := Dig.blen_bound b 1000 s2.1
  have H1 : Hid (∀ w', Ext w w' → Calls Try.prog 65 #[v2] w' fun e w'' => (∃ v', e = .returned v' ∧ Row .u32 w'' v' (Dig.digs 4294967296 b)) ∧ Ext w' w'') := fun w' hx => halves_any b v2 w' (h2.ext hx) s2.1
  have H2 : Hid (∀ w', Ext w w' → Calls Try.prog 68 #[v1] w' fun e w'' => e = .returned (.int .i64 (Dig.blen m : Int)) ∧ w'' = w') := fun w' hx => nlen_any m v1 w' (h1.ext hx) s1'
  have H3 : Hid (∀ w', Ext w w' → Calls Try.prog 68 #[v2] w' fun e w'' => e = .returned (.int .i64 (Dig.blen b : Int)) ∧ w'' = w') := fun w' hx => nlen_any b v2 w' (h2.ext hx) s2
  have H4 : Hid (∀ w', Ext w w' → Calls Try.prog 36 #[v2, .int .i64 (n : Int)] w' fun e w'' => (∃ v', e = .returned v' ∧ IsA w'.heap.size w'' v' (b * 2 ^ (n + 1) / 2)) ∧ Ext w' w'') := fun w' hx => by
    have h := up2_new b n v2 w' (h2.ext hx) s2 hn2
    have e : b * 2 ^ n = b * 2 ^ (n + 1) / 2 := by rw [Nat.pow_succ, ← Nat.mul_assoc, Nat.mul_div_cancel _ (by omega)]
    rw [e] at h
    exact h
  have HC : Hid (∀ t r u v w', t ≤ n → r ≤ m → IsN w' u r → IsN w' v (b * 2 ^ (t + 1) / 2) → Calls Try.prog 52 #[u, v] w' fun e w'' => e = .returned (.int .i64 (cmpN r (b * 2 ^ (t + 1) / 2))) ∧ Ext w' w'') := fun t r u v w' ht hr hu hv => ncmp_any r _ u v w' hu hv (small_le s1' hr) (SD.out (t + 1) (by omega))
  have HS : Hid (∀ t r u v w', t ≤ n → r ≤ m → b * 2 ^ (t + 1) / 2 ≤ r → IsN w' u r → IsN w' v (b * 2 ^ (t + 1) / 2) → Calls Try.prog 53 #[u, v] w' fun e w'' => (∃ v', e = .returned v' ∧ IsA w'.heap.size w'' v' (r - b * 2 ^ t)) ∧ Ext w' w'') := fun t r u v w' ht hr hle hu hv => by
    have h := nless_new r _ u v w' hu hv (small_le s1' hr) (SD.out (t + 1) (by omega)) hle
    have e : b * 2 ^ (t + 1) / 2 = b * 2 ^ t := by rw [Nat.pow_succ, ← Nat.mul_assoc, Nat.mul_div_cancel _ (by omega)]
    rw [e] at h
    exact h
  have HW : Hid (∀ t v w', t ≤ n → IsN w' v (b * 2 ^ (t + 1) / 2) → Calls Try.prog 69 #[v, .int .i64 1] w' fun e w'' => (∃ v', e = .returned v' ∧ IsA w'.heap.size w'' v' (b * 2 ^ t / 2)) ∧ Ext w' w'') := fun t v w' ht hv => by
    have h := down2_new _ 1 v w' hv (SD.out (t + 1) (by omega)) (by omega)
    have e : b * 2 ^ (t + 1) / 2 = b * 2 ^ t := by rw [Nat.pow_succ, ← Nat.mul_assoc, Nat.mul_div_cancel _ (by omega)]
    rw [e, Nat.pow_one] at h
    exact h
  have HT : Hid (∀ v w F Q r, Dig.DRelQNum3 m b L 0 Q r F → Dig.fval 18446744073709551616 F L = Q → Row .u64 w v ((List.range L).map F) → Calls Try.prog 50 #[v] w fun e w' => (∃ v', e = .returned v' ∧ IsN w v' (m / b)) ∧ w' = w) := by
    intro v w F Q r hR hQ hrow
    have h := ntrim_any _ v w hrow (map_ok _ L F (by omega) hR.dig)
    rw [Dig.val_range, hQ, hR.done.1] at h
    exact h
  have HST : Hid (Dig.DRelQNum3 m b L (n + 1) 0 m (fun _ => 0)) := Dig.DRelQNum3.start L hb (Nat.le_of_eq hn.out.symm)
  have HM : Hid (∀ g, w.heap.size ≤ g → IsO g w v1 m) := fun g hg => IsO.old h1 hm0 hg
  have hmk := run_make_row' (P := Try.prog) 61 49 (.int .u64 0) 8 Try.underlying61 Try.info64 rfl .i64 .i64 L (by omega) (by omega)
  obtain ⟨a1, l1, c1, e1⟩ := h1.isSlice
  obtain ⟨a2, l2, c2, e2⟩ := h2.isSlice
  subst e1 e2
  have HS2 : Hid ((Dig.digs 4294967296 b).length ≤ 2000) := s2.2
  clear h1 h2 s1 s2 s1' hm0 hup hm hlt
  generalize Dig.blen m = A at *
  generalize Dig.blen b = B at *
  generalize Dig.digs 4294967296 b = xs at *
  have hne : ((xs.length : Int) == 1) = false := by simp; omega
  have hl2 : xs.length ≤ 2000 := HS2.out
  clear hl
  go_enter Try.func48, Try.ntmps48
  go_wp2_with fail
  refine (H1.out _ (Ext.refl _)).mono ?_
  rintro e w1 ⟨⟨y, rfl, hy⟩, x1⟩
  obtain ⟨ay, cy, rfl, gy⟩ := hy.shape
  clear gy hy
  go_wp2_with fail
  refine (H2.out _ x1).mono ?_
  rintro e wx ⟨rfl, hwx⟩
  have hwy := hwx.symm
  clear hwx
  subst hwy
  go_wp2_with fail
  refine (H3.out _ x1).mono ?_
  rintro e wx ⟨rfl, hwx⟩
  have hwy := hwx.symm
  clear hwx
  subst hwy
  go_wp2_with fail
  have XA : Hid (Ext w (w1.alloc (.cells (madeCells #[Value.int .u64 0] L) 49))) := x1.alloc _
  have RA : Hid ((w1.alloc (.cells (madeCells #[Value.int .u64 0] L) 49)).rowIs w1.heap.size 49 L (f64 fun _ => 0)) := World.rowIs_made _ _ _ _
  refine (H4.out _ XA.out).mono ?_
  rintro e w2 ⟨⟨d0, rfl, hd0⟩, x2⟩
  have X2 : Hid (Ext w w2) := XA.out.trans x2
  have R2 : Hid (w2.rowIs w1.heap.size 49 L (f64 fun _ => 0)) := row_ext RA.out x2
  have HB0 : Hid (w.heap.size ≤ w1.heap.size) := x1.size
  have HG : Hid (w1.heap.size < w2.heap.size) := by
    have := x2.size
    simp only [World.size_alloc] at this
    show _ < _
    omega
  have HD0 : Hid (IsO w1.heap.size w2 d0 (b * 2 ^ (n + 1) / 2)) := IsO.new hd0 (by simp)
  have HR0 : Hid (IsO w1.heap.size w2 (.slice a1 l1 c1) m) := (HM.out _ HB0.out).ext X2.out
  obtain ⟨ad, ld, cd, ed⟩ := hd0.isN.isSlice
  subst ed
  clear hd0 hmk XA RA x1 x2 H1 H2 H3 H4 eN eL HM
  go_wp2_with fail
  go_loopw [11, 12, 13] (fun rv dv iv wr => ∃ (t Q r : Nat) (F : Nat → Nat), t ≤ n + 1 ∧ iv = .int .i64 ((t : Int) - 1) ∧ Hid (IsO w1.heap.size wr rv r) ∧ Hid (IsO w1.heap.size wr dv (b * 2 ^ t / 2)) ∧ Hid (Dig.DRelQNum3 m b L t Q r F) ∧ Hid (Dig.fval 18446744073709551616 F L = Q) ∧ wr.rowIs w1.heap.size 49 L (f64 F) ∧ Hid (w1.heap.size < wr.heap.size) ∧ Ext w wr) (fun _ _ i _ => ((intOf i) + 1).toNat)
  case atStart => exact ⟨n + 1, 0, m, fun _ => 0, Nat.le_refl _, by go_num, HR0, HD0, HST, Dig.fval_zero _ _, R2.out, HG, X2.out⟩
  case round =>
    obtain ⟨t, Q, r, F, ht, rfl, hr, hd, hR, hQ, hrow, hsz, hx⟩ := hrel
    obtain ⟨ar, lr, cr, er⟩ := hr.out.is.isSlice
    obtain ⟨ae, le, ce, ee⟩ := hd.out.is.isSlice
    subst er ee
    cases t with
    | zero =>
      have hrw := row64_of_is hrow (by omega)
      have hr2 : Hid (IsN wr (.slice ar lr cr) (m % b)) := by have := hr.out.is; rw [hR.out.done.2] at this; exact this
      clear hrow hr hd
      go_wp2_with fail
      refine (HT.out _ _ F Q r hR.out hQ.out hrw).mono ?_
      rintro e w4 ⟨⟨v3, rfl, hr3⟩, hw4⟩
      have hw4' := hw4.symm
      clear hw4
      subst hw4'
      clear hrw
      go_wp2_with fail
      go_ret2
      exact ⟨⟨_, _, rfl, hr3, hr2.out⟩, hx⟩
    | succ i =>
      have et : ((i + 1 : Nat) : Int) - 1 = (i : Int) := by omega
      rw [et]
      have hrm : Hid (r ≤ m) := by have := hR.out.sum; show _ ≤ _; rw [this]; exact Nat.le_add_left _ _
      have ed2 : Hid (b * 2 ^ (i + 1) / 2 = b * 2 ^ i) := by show _ = _; rw [Nat.pow_succ, ← Nat.mul_assoc, Nat.mul_div_cancel _ (by omega)]
      by_cases hge : b * 2 ^ (i + 1) / 2 ≤ r
      · have HGE : Hid _ := hge
        obtain ⟨c, gc, gc'⟩ : ∃ c : Int, cmpN r (b * 2 ^ (i + 1) / 2) = c ∧ 0 ≤ c := ⟨_, rfl, by unfold cmpN; rw [if_neg (by omega)]; split <;> omega⟩
        have HC' := HC.out i r (.slice ar lr cr) (.slice ae le ce) wr (by omega) hrm.out hr.out.is hd.out.is
        rw [gc] at HC'
        have HCC : Hid (Calls Try.prog 52 #[.slice ar lr cr, .slice ae le ce] wr fun e w'' => e = .returned (.int .i64 c) ∧ Ext wr w'') := HC'
        obtain ⟨j, s, hj, hs, hs63, hjn, hjs⟩ : ∃ j s : Nat, (i : Int) / 64 = (j : Int) ∧ (i : Int) % 64 = (s : Int) ∧ s ≤ 63 ∧ j < L ∧ Hid (j = i / 64 ∧ s = i % 64) := ⟨i / 64, i % 64, by omega, by omega, by omega, by have := hL.out; omega, rfl, rfl⟩
        have hbit := hR.out.bit
        rw [← hjs.out.1, ← hjs.out.2] at hbit
        have hor := or_bit64 (F j) s hbit.1 hbit.2
        have hYes : Hid _ := hR.out.yes (by rw [← ed2.out]; exact hge)
        have hQ2 : Hid _ := Dig.fval_yes F L i Q (by rw [← hjs.out.1]; exact hjn) hQ.out
        rw [← hjs.out.1, ← hjs.out.2] at hYes hQ2
        obtain ⟨f0, gf, gf1, gf2⟩ : ∃ f : Int, (F j : Int) = f ∧ 0 ≤ f ∧ f < 18446744073709551616 := ⟨_, rfl, by omega, by have := hR.out.dig j; omega⟩
        obtain ⟨Z, gZ⟩ : ∃ Z : Int, ((F j + 2 ^ s : Nat) : Int) = Z := ⟨_, rfl⟩
        have hp63 : (2 : Int) ^ s < 18446744073709551616 := by
          have := Nat.pow_le_pow_right (n := 2) (by omega) hs63
          have e : (2 : Nat) ^ 63 = 9223372036854775808 := by decide
          have e2 : ((2 ^ s : Nat) : Int) = (2 : Int) ^ s := by simp
          omega
        have hp0 : (0 : Int) ≤ 2 ^ s := Int.le_of_lt (Int.pow_pos (by omega))
        have hor2 : bits BinOp.or IntKind.u64 f0 (IntKind.u64.wrap (2 ^ s)) = Z := by
          have e2 : IntKind.u64.wrap ((2 : Int) ^ s) = ((2 ^ s : Nat) : Int) := by rw [IntKind.wrap_u64]; simp; omega
          rw [e2, ← gZ, ← hor, ← gf]
        clear hp0 hp63
        have GZ : Hid (((F j + 2 ^ s : Nat) : Int) = Z) := gZ
        clear HC' gc hge hbit hor gZ et
        go_wp2_with fail
        refine (HCC.out).mono ?_
        rintro e w3 ⟨rfl, x3⟩
        go_wp2_with fail
        refine (HS.out i r _ _ _ (by omega) hrm.out HGE.out (hr.out.is.ext x3) (hd.out.is.ext x3)).mono ?_
        rintro e w4 ⟨⟨r', rfl, hr'⟩, x4⟩
        have hrow4 := row_ext hrow (x3.trans x4)
        have hcl := hrow4.cell hjn
        have hcl' : w4.cell? ⟨w1.heap.size, j, none⟩ = some (.int .u64 f0) := by rw [hcl]; unfold f64; rw [gf]
        have hfr := hrow4.frozen j
        have X4 : Hid (Ext w w4) := (hx.trans x3).trans x4
        have HR4 : Hid (IsO w1.heap.size (w4.setCell ⟨w1.heap.size, j, none⟩ (.int .u64 Z)) r' (r - b * 2 ^ i)) := (IsO.new hr' (Nat.lt_of_lt_of_le hsz.out x3.size)).set
        have HD4 : Hid (IsO w1.heap.size (w4.setCell ⟨w1.heap.size, j, none⟩ (.int .u64 Z)) (.slice ae le ce) (b * 2 ^ (i + 1) / 2)) := (hd.out.ext (x3.trans x4)).set
        have X5 : Hid (Ext w (w4.setCell ⟨w1.heap.size, j, none⟩ (.int .u64 Z))) := X4.out.setCell HB0.out _
        have R5 : Hid ((w4.setCell ⟨w1.heap.size, j, none⟩ (.int .u64 Z)).rowIs w1.heap.size 49 L (f64 (Dig.upd F j (F j + 2 ^ s)))) := by
          rw [← GZ.out]; exact is64_upd hrow4 _ _
        have SZ5 : Hid (w1.heap.size < (w4.setCell ⟨w1.heap.size, j, none⟩ (.int .u64 Z)).heap.size) := by
          have := (x3.trans x4).size
          have := hsz.out
          show _ < _
          simp only [World.size_setCell]
          omega
        obtain ⟨aq, lq, cq, eq⟩ := hr'.isN.isSlice
        subst eq
        clear hr' x3 x4 hrow hrow4 hcl hr hd HCC gf
        go_wp2_with fail
        refine (HW.out i _ _ (by omega) HD4.out.is).mono ?_
        rintro e w5 ⟨⟨d', rfl, hd'⟩, x5⟩
        obtain ⟨af, lf, cf, ef⟩ := hd'.isN.isSlice
        subst ef
        go_wp2_with fail
        go_roundw
        case rel => exact ⟨i, _, _, _, by omega, by go_num, HR4.out.ext x5, IsO.new hd' SZ5.out, hYes, hQ2, row_ext R5.out x5, Nat.lt_of_lt_of_le SZ5.out x5.size, X5.out.trans x5⟩
        case measure => simp [intOf]
      · obtain ⟨c, gc, gc'⟩ : ∃ c : Int, cmpN r (b * 2 ^ (i + 1) / 2) = c ∧ ¬ 0 ≤ c := ⟨_, rfl, by unfold cmpN; rw [if_pos (by omega)]; omega⟩
        have HC' := HC.out i r (.slice ar lr cr) (.slice ae le ce) wr (by omega) hrm.out hr.out.is hd.out.is
        rw [gc] at HC'
        have HCC : Hid (Calls Try.prog 52 #[.slice ar lr cr, .slice ae le ce] wr fun e w'' => e = .returned (.int .i64 c) ∧ Ext wr w'') := HC'
        have hNo : Hid (Dig.DRelQNum3 m b L i Q r F) := hR.out.no (by rw [← ed2.out]; omega)
        clear HC' gc hge et
        go_wp2_with fail
        refine (HCC.out).mono ?_
        rintro e w3 ⟨rfl, x3⟩
        go_wp2_with fail
        refine (HW.out i _ _ (by omega) (hd.out.is.ext x3)).mono ?_
        rintro e w5 ⟨⟨d', rfl, hd'⟩, x5⟩
        obtain ⟨af, lf, cf, ef⟩ := hd'.isN.isSlice
        subst ef
        have hx5 := hx.trans (x3.trans x5)
        have hrow5 := row_ext hrow (x3.trans x5)
        have hr5 : Hid _ := hr.out.ext (x3.trans x5)
        have hd5 : Hid (IsO w1.heap.size w5 (.slice af lf cf) (b * 2 ^ i / 2)) := IsO.new hd' (Nat.lt_of_lt_of_le hsz.out x3.size)
        have sz5 : Hid _ := Nat.lt_of_lt_of_le hsz.out (x3.trans x5).size
        clear hx hrow hr hd hd' x3 x5
        go_wp2_with fail
        go_roundw
        case rel => exact ⟨i, _, _, _, by omega, by go_num, hr5, hd5, hNo, hQ, hrow5, sz5, hx5⟩
        case measure => simp [intOf]

theorem ndivide_any (m b : Nat) (v1 v2 : Value) (w : World) (h1 : IsN w v1 m) (h2 : IsN w v2 b) (s1 : Small (2 * m)) (s2 : Small b) (hb : b ≠ 0) (hm : Dig.blen m ≤ 10000) :
    Calls Try.prog 48 #[v1, v2] w fun e w' => (∃ q r, e = .returned (.tuple #[q, r]) ∧ IsN w' q (m / b) ∧ IsN w' r (m % b)) ∧ Ext w w' := by
  have s1' : Small m := small_le s1 (by omega)
  by_cases hl : (Dig.digs 4294967296 b).length = 1
  · exact ndivide_short m b v1 v2 w h1 h2 s1' s2 hl
  · by_cases hlt : Dig.blen m < Dig.blen b
    · exact ndivide_less m b v1 v2 w h1 h2 s1' s2 hl hlt
    · exact ndivide_long m b v1 v2 w h1 h2 s1 s2 hb hl hlt hm
end Go.Proofs.Ytbmocnigmpmfkaa
