/- The reference's whole numbers: NTimes. -/
import Derived.Test.YtbmocnigmpmfkaaBig6m
import Derived.Deep.OwnRows
namespace Go.Proofs.Ytbmocnigmpmfkaa
open Go.RowKit

namespace Dig
def fval (B : Nat) (F : Nat → Nat) : Nat → Nat
  | 0 => 0
  | n + 1 => fval B F n + B ^ n * F n
def upd (F : Nat → Nat) (i z : Nat) : Nat → Nat := fun j => if j = i then z else F j
theorem fval_congr (B : Nat) (F G : Nat → Nat) (n : Nat) (h : ∀ j, j < n → F j = G j) : fval B F n = fval B G n := by
  induction n with
  | zero => rfl
  | succ n ih => simp only [fval]; rw [ih (fun j hj => h j (by omega)), h n (by omega)]
theorem fval_upd (B : Nat) (F : Nat → Nat) (i z n : Nat) (hi : i < n) : fval B (upd F i z) n + B ^ i * F i = fval B F n + B ^ i * z := by
  induction n with
  | zero => omega
  | succ n ih =>
    simp only [fval]
    by_cases h : i = n
    · subst h
      rw [fval_congr B (upd F i z) F i (fun j hj => by unfold upd; rw [if_neg (by omega)])]
      have : upd F i z i = z := by unfold upd; rw [if_pos rfl]
      rw [this]; omega
    · have := ih (by omega)
      have e : upd F i z n = F n := by unfold upd; rw [if_neg (by omega)]
      rw [e]; omega
theorem val_range (B : Nat) (F : Nat → Nat) (n : Nat) : val B ((List.range n).map F) = fval B F n := by
  induction n with
  | zero => rfl
  | succ n ih => rw [List.range_succ, List.map_append, List.map_singleton, val_snoc, ih]; simp [fval]
theorem fval_zero (B n : Nat) : fval B (fun _ => 0) n = 0 := by
  induction n with
  | zero => rfl
  | succ n ih => simp [fval, ih]

/-- the outer loop's relation -/
def TOut (xs ys : List Nat) (i : Nat) (F : Nat → Nat) : Prop :=
  fval 4294967296 F (xs.length + ys.length) = val 4294967296 (xs.take i) * val 4294967296 ys ∧ (∀ j, i + ys.length ≤ j → F j = 0) ∧ (∀ j, F j < 4294967296)
/-- the inner loop's relation -/
def TIn (xs ys : List Nat) (i k c : Nat) (F : Nat → Nat) : Prop :=
  fval 4294967296 F (xs.length + ys.length) + 4294967296 ^ (i + k) * c = val 4294967296 (xs.take i) * val 4294967296 ys + 4294967296 ^ i * xs.getD i 0 * val 4294967296 (ys.take k) ∧ (∀ j, i + ys.length ≤ j → F j = 0) ∧ (∀ j, F j < 4294967296) ∧ c < 4294967296
theorem TOut.start (xs ys : List Nat) : TOut xs ys 0 (fun _ => 0) := ⟨by rw [fval_zero]; simp [val], fun _ _ => rfl, fun _ => by show 0 < _; omega⟩
theorem TOut.into {xs ys : List Nat} {i : Nat} {F : Nat → Nat} (h : TOut xs ys i F) : TIn xs ys i 0 0 F := ⟨by rw [h.1]; simp [val], h.2.1, h.2.2, by omega⟩
theorem TIn.step {xs ys : List Nat} {i k c : Nat} {F : Nat → Nat} (h : TIn xs ys i k c F) (hi : i < xs.length) (hk : k < ys.length) (hx : xs.getD i 0 < 4294967296) (hy : ys.getD k 0 < 4294967296) :
    c + F (i + k) + xs.getD i 0 * ys.getD k 0 < 18446744073709551616 ∧
    TIn xs ys i (k + 1) ((c + F (i + k) + xs.getD i 0 * ys.getD k 0) / 4294967296) (upd F (i + k) ((c + F (i + k) + xs.getD i 0 * ys.getD k 0) % 4294967296)) := by
  obtain ⟨h1, h2, h3, h4⟩ := h
  have hF := h3 (i + k)
  have hp : xs.getD i 0 * ys.getD k 0 ≤ 4294967295 * 4294967295 := Nat.mul_le_mul (by omega) (by omega)
  have hs : c + F (i + k) + xs.getD i 0 * ys.getD k 0 < 18446744073709551616 := by omega
  refine ⟨hs, ?_, ?_, ?_, by omega⟩
  · have hu := fval_upd 4294967296 F (i + k) ((c + F (i + k) + xs.getD i 0 * ys.getD k 0) % 4294967296) (xs.length + ys.length) (by omega)
    have hm := Nat.mod_add_div (c + F (i + k) + xs.getD i 0 * ys.getD k 0) 4294967296
    generalize (c + F (i + k) + xs.getD i 0 * ys.getD k 0) % 4294967296 = z at *
    generalize (c + F (i + k) + xs.getD i 0 * ys.getD k 0) / 4294967296 = q at *
    rw [val_take_succ, ← Nat.add_assoc, Nat.pow_succ, Nat.mul_add]
    have e1 : 4294967296 ^ (i + k) * (z + 4294967296 * q) = 4294967296 ^ (i + k) * c + 4294967296 ^ (i + k) * F (i + k) + 4294967296 ^ (i + k) * (xs.getD i 0 * ys.getD k 0) := by rw [hm, Nat.mul_add, Nat.mul_add]
    have e2 : 4294967296 ^ i * xs.getD i 0 * (4294967296 ^ k * ys.getD k 0) = 4294967296 ^ (i + k) * (xs.getD i 0 * ys.getD k 0) := by
      rw [Nat.pow_add]; simp only [Nat.mul_assoc, Nat.mul_left_comm, Nat.mul_comm]
    rw [Nat.mul_add, ← Nat.mul_assoc] at e1
    rw [e2]
    omega
  · intro j hj
    unfold upd
    rw [if_neg (by omega)]
    exact h2 j hj
  · intro j
    unfold upd
    split
    · omega
    · exact h3 j
theorem TIn.out {xs ys : List Nat} {i c : Nat} {F : Nat → Nat} (h : TIn xs ys i ys.length c F) (hi : i < xs.length) : TOut xs ys (i + 1) (upd F (i + ys.length) c) := by
  obtain ⟨h1, h2, h3, h4⟩ := h
  refine ⟨?_, ?_, ?_⟩
  · have hu := fval_upd 4294967296 F (i + ys.length) c (xs.length + ys.length) (by omega)
    rw [h2 (i + ys.length) (by omega), Nat.mul_zero, Nat.add_zero] at hu
    rw [hu, h1, List.take_of_length_le (Nat.le_refl _), val_take_succ, Nat.add_mul]
  · intro j hj
    unfold upd
    rw [if_neg (by omega)]
    exact h2 j (by omega)
  · intro j
    unfold upd
    split
    · exact h4
    · exact h3 j
theorem TOut.done {xs ys : List Nat} {F : Nat → Nat} (h : TOut xs ys xs.length F) : Ok 4294967296 ((List.range (xs.length + ys.length)).map F) ∧ val 4294967296 ((List.range (xs.length + ys.length)).map F) = val 4294967296 xs * val 4294967296 ys := by
  refine ⟨?_, by rw [val_range, h.1, List.take_of_length_le (Nat.le_refl _)]⟩
  intro j
  rw [List.getD_eq_getElem?_getD, List.getElem?_map]
  by_cases hj : j < xs.length + ys.length
  · rw [List.getElem?_range hj]
    exact h.2.2 j
  · rw [List.getElem?_eq_none (by simp; omega)]
    show 0 < _
    omega
end Dig

def f32 (F : Nat → Nat) : Nat → Value := fun j => .int .u32 (F j : Int)
theorem row_of_is {w : World} {g : Nat} {t : TypeId} {L : Nat} {F : Nat → Nat} (h : w.rowIs g t L (f32 F)) (hL : L ≤ 100000) : Row .u32 w (.slice (some ⟨g, 0, none⟩) L L) ((List.range L).map F) := by
  refine .inr ⟨g, 0, L, by simp, by simp, by unfold maxLen; omega, ?_⟩
  intro i hi
  have hi' : i < L := by simpa using hi
  rw [Nat.zero_add, h.cell hi', List.getD_eq_getElem?_getD, List.getElem?_map, List.getElem?_range hi']
  rfl
theorem is_upd {w : World} {g : Nat} {t : TypeId} {L : Nat} {F : Nat → Nat} (h : w.rowIs g t L (f32 F)) (i z : Nat) : (w.setCell ⟨g, i, none⟩ (.int .u32 (z : Int))).rowIs g t L (f32 (Dig.upd F i z)) :=
  (h.set i _).congr fun j _ => by unfold f32 Dig.upd; split <;> rfl
theorem row_drewN {w : World} {g : Nat} {t : TypeId} {L : Nat} {f : Nat → Value} (h : w.rowIs g t L f) : ∀ n, (w.drewN n).rowIs g t L f
  | 0 => h
  | n + 1 => (row_drewN h n).drew
theorem Ext.setCell {a w : World} (h : Ext a w) {g i : Nat} (hg : a.heap.size ≤ g) (v : Value) : Ext a (w.setCell ⟨g, i, none⟩ v) := Below.setCell h hg v

set_option maxHeartbeats 4000000 in
theorem ntimes_any (m n : Nat) (v1 v2 : Value) (w : World) (h1 : IsN w v1 m) (h2 : IsN w v2 n) (s1 : Small m) (s2 : Small n) :
    Calls Try.prog 71 #[v1, v2] w fun e w' => (∃ v', e = .returned v' ∧ IsN w' v' (m * n)) ∧ Ext w w' := by
  have ok1 := Dig.okd 4294967296 m (by omega)
  have ok2 := Dig.okd 4294967296 n (by omega)
  have V1 := Dig.vald 4294967296 m (by omega)
  have V2 := Dig.vald 4294967296 n (by omega)
  have H1 : Hid (∀ w', Ext w w' → Calls Try.prog 65 #[v1] w' fun e w'' => (∃ v', e = .returned v' ∧ Row .u32 w'' v' (Dig.digs 4294967296 m)) ∧ Ext w' w'') := fun w' hx => halves_any m v1 w' (h1.ext hx) s1.1
  have H2 : Hid (∀ w', Ext w w' → Calls Try.prog 65 #[v2] w' fun e w'' => (∃ v', e = .returned v' ∧ Row .u32 w'' v' (Dig.digs 4294967296 n)) ∧ Ext w' w'') := fun w' hx => halves_any n v2 w' (h2.ext hx) s2.1
  have S1 : (Dig.digs 4294967296 m).length ≤ 2000 := s1.2
  have S2 : (Dig.digs 4294967296 n).length ≤ 2000 := s2.2
  have HD : Hid (∀ F, Dig.TOut (Dig.digs 4294967296 m) (Dig.digs 4294967296 n) (Dig.digs 4294967296 m).length F → (∀ v w, Row .u32 w v ((List.range ((Dig.digs 4294967296 m).length + (Dig.digs 4294967296 n).length)).map F) → Calls Try.prog 70 #[v] w fun e w' => (∃ v', e = .returned v' ∧ Row .u32 w v' (Dig.digs 4294967296 (m * n))) ∧ w' = w) ∧
    (∀ v w, Row .u32 w v (Dig.digs 4294967296 (m * n)) → Calls Try.prog 67 #[v] w fun e w' => (∃ v', e = .returned v' ∧ IsN w' v' (m * n)) ∧ Ext w w')) := by
    intro F hF
    obtain ⟨d1, d2⟩ := hF.done
    rw [V1, V2] at d2
    exact cutwhole _ d1 (by simp; omega) _ d2
  clear h1 h2 s1 s2 V1 V2
  generalize Dig.digs 4294967296 m = xs at *
  generalize Dig.digs 4294967296 n = ys at *
  obtain ⟨L, hL, eL⟩ : ∃ L : Nat, Hid (xs.length + ys.length = L) ∧ (xs.length : Int) + (ys.length : Int) = (L : Int) := ⟨_, rfl, by omega⟩
  have hL4 : L ≤ 4000 := by have := hL.out; omega
  rw [hL.out] at HD
  have hmk := run_make_row' (P := Try.prog) 102 104 (.int .u32 0) 4 Try.underlying102 Try.info32 rfl .i64 .i64 L (by omega) (by omega)
  go_enter Try.func71, Try.ntmps71
  go_wp2_with fail
  refine (H1.out _ (Ext.refl _)).mono ?_
  rintro e w1 ⟨⟨x, rfl, hx⟩, x1⟩
  go_wp2_with fail
  refine (H2.out _ x1).mono ?_
  rintro e w2 ⟨⟨y, rfl, hy⟩, x2⟩
  have hx' := hx.ext x2
  have X2 : Hid (Ext w w2) := x1.trans x2
  obtain ⟨ax, cx, rfl, gx⟩ := hx'.shape
  obtain ⟨ay, cy, rfl, gy⟩ := hy.shape
  have GX : Hid _ := gx
  have GY : Hid _ := gy
  clear hx hy hx' x1 x2 H1 H2 gx gy
  go_wp2_with fail
  clear hmk
  go_loopw [8] (fun i wr => ∃ (t : Nat) (F : Nat → Nat), t ≤ xs.length ∧ i = .int .i64 (t : Int) ∧ Dig.TOut xs ys t F ∧ wr.rowIs w2.heap.size 104 L (f32 F) ∧ Ext w2 wr) (fun i _ => xs.length - (intOf i).toNat)
  case atStart => exact ⟨0, fun _ => 0, by omega, rfl, Dig.TOut.start _ _, World.rowIs_made _ _ _ _, (Ext.refl _).alloc _⟩
  case round =>
    obtain ⟨t, F, ht, rfl, hT, hrow, hx⟩ := hrel
    by_cases hlt : t < xs.length
    · obtain ⟨blx, ofx, rfl, cx'⟩ := GX.out (by omega)
      have hcx := cx' t hlt
      have hxt := ok1 t
      obtain ⟨X, gX, gX', gX''⟩ : ∃ X : Int, ((xs.getD t 0 : Nat) : Int) = X ∧ 0 ≤ X ∧ X < 4294967296 := ⟨_, rfl, by omega, by omega⟩
      rw [gX] at hcx
      have hlt' : (t : Int) < (xs.length : Int) := by omega
      have hI := hT.into
      clear hT cx'
      go_wp2_with fail
      go_loopw [9, 10] (fun c kk wi => ∃ (k C : Nat) (G : Nat → Nat), k ≤ ys.length ∧ kk = .int .i64 (k : Int) ∧ c = .int .u64 (C : Int) ∧ Dig.TIn xs ys t k C G ∧ wi.rowIs w2.heap.size 104 L (f32 G) ∧ Ext w2 wi) (fun _ kk _ => ys.length - (intOf kk).toNat)
      case atStart => exact ⟨0, 0, F, by omega, rfl, rfl, hI, hrow, hx⟩
      case round =>
        clear hI hrow hx
        obtain ⟨k, C, G, hk, rfl, rfl, hG, hrow, hx⟩ := hrel
        have hC4 := hG.2.2.2
        obtain ⟨c0, gc, gc', gc''⟩ : ∃ c : Int, (C : Int) = c ∧ 0 ≤ c ∧ c < 4294967296 := ⟨_, rfl, by omega, by omega⟩
        rw [gc]
        by_cases hky : k < ys.length
        · obtain ⟨bly, ofy, rfl, cy'⟩ := GY.out (by omega)
          have hcy := (hx.lay).1 bly (ofy + k) (cell_lt (cy' k hky))
          rw [cy' k hky] at hcy
          have hcx2 := (hx.lay).1 blx (ofx + t) (cell_lt hcx)
          rw [hcx] at hcx2
          have hyk := ok2 k
          obtain ⟨Y, gY, gY', gY''⟩ : ∃ X : Int, ((ys.getD k 0 : Nat) : Int) = X ∧ 0 ≤ X ∧ X < 4294967296 := ⟨_, rfl, by omega, by omega⟩
          rw [gY] at hcy
          have hky' : (k : Int) < (ys.length : Int) := by omega
          have htk : (t : Int) + (k : Int) < (L : Int) := by have := hL.out; omega
          have htkn : t + k < L := by omega
          have hcl := hrow.cell htkn
          have hfr := hrow.frozen (t + k)
          have hGk := hG.2.2.1 (t + k)
          obtain ⟨hs, hst⟩ := hG.step hlt hky hxt hyk
          obtain ⟨Fv, gF, gF', gF''⟩ : ∃ X : Int, ((G (t + k) : Nat) : Int) = X ∧ 0 ≤ X ∧ X < 4294967296 := ⟨_, rfl, by omega, by omega⟩
          have hcl' : wr.cell? ⟨w2.heap.size, t + k, none⟩ = some (.int .u32 Fv) := by rw [hcl]; unfold f32; rw [gF]
          obtain ⟨P, gP, gP2, gP', gP''⟩ := Num.prod_of X Y gX' gX'' gY' gY''
          have hP : ((xs.getD t 0 * ys.getD k 0 : Nat) : Int) = P := by rw [Int.natCast_mul, gX, gY]; exact gP2
          obtain ⟨Z, eZ, fZ⟩ : ∃ Z : Int, IntKind.u32.wrap (c0 + Fv + P) = Z ∧ Hid (Z = (((C + G (t + k) + xs.getD t 0 * ys.getD k 0) % 4294967296 : Nat) : Int)) := ⟨_, rfl, by show _ = _; rw [IntKind.wrap_u32]; omega⟩
          obtain ⟨D, eD, fD⟩ : ∃ D : Int, (c0 + Fv + P) / 4294967296 = D ∧ Hid ((((C + G (t + k) + xs.getD t 0 * ys.getD k 0) / 4294967296 : Nat) : Int) = D) := ⟨_, rfl, by show _ = _; omega⟩
          have hS : c0 + Fv + P < 18446744073709551616 := by omega
          have HR : Hid (∀ nq : Nat, ((wr.drewN nq).setCell ⟨w2.heap.size, t + k, none⟩ (.int .u32 Z)).rowIs w2.heap.size 104 L (f32 (Dig.upd G (t + k) ((C + G (t + k) + xs.getD t 0 * ys.getD k 0) % 4294967296)))) := by
            intro nq
            rw [fZ.out]
            exact is_upd (row_drewN hrow nq) _ _
          have HX : Hid (∀ nq : Nat, Ext w2 ((wr.drewN nq).setCell ⟨w2.heap.size, t + k, none⟩ (.int .u32 Z))) := fun nq => (hx.drewN nq).setCell (Nat.le_refl _) _
          have HS : Hid _ := hst
          clear gX gY gF gP2 hP hs hst hG hrow cy' hcx hxt hyk hGk hC4 fZ hcl
          go_wp2_with fail
          go_quiet (fail)
          go_wp2_with fail
          go_roundw
          case rel => exact ⟨k + 1, _, _, by omega, by go_num, congrArg (Value.int .u64) fD.out.symm, HS.out, HR.out _, HX.out _⟩
          case measure => simp [intOf]; omega
        · have hky' : ¬ (k : Int) < (ys.length : Int) := by omega
          obtain rfl : k = ys.length := by omega
          have htk : (t : Int) + (ys.length : Int) < (L : Int) := by have := hL.out; omega
          have htkn : t + ys.length < L := by omega
          have hcl := hrow.cell htkn
          have hfr := hrow.frozen (t + ys.length)
          have HS : Hid _ := hG.out hlt
          have HR : Hid ((wr.setCell ⟨w2.heap.size, t + ys.length, none⟩ (.int .u32 c0)).rowIs w2.heap.size 104 L (f32 (Dig.upd G (t + ys.length) C))) := by
            rw [← gc]
            exact is_upd hrow _ _
          have HX : Hid (Ext w2 (wr.setCell ⟨w2.heap.size, t + ys.length, none⟩ (.int .u32 c0))) := hx.setCell (Nat.le_refl _) _
          clear gc hG hrow hcx hxt hC4 gX
          go_wp2_with fail
          go_roundw
          case rel => exact ⟨t + 1, _, by omega, by go_num, HS.out, HR.out, HX.out⟩
          case measure => simp [intOf]; omega
    · have hlt' : ¬ (t : Int) < (xs.length : Int) := by omega
      obtain rfl : t = xs.length := by omega
      obtain ⟨hcut, hwhole⟩ := HD.out F hT
      have HCu : Hid _ := hcut
      have HWh : Hid _ := hwhole
      have hr := row_of_is hrow (by omega)
      clear hcut hwhole hT hrow
      go_wp2_with fail
      refine (HCu.out _ _ hr).mono ?_
      rintro e w4 ⟨⟨v3, rfl, hr3⟩, rfl⟩
      clear hr
      go_wp2_with fail
      refine (HWh.out _ _ hr3).mono ?_
      rintro e w5 ⟨⟨v4, rfl, hr4⟩, x5⟩
      go_wp2_with fail
      go_ret
      exact ⟨⟨_, rfl, hr4⟩, (X2.out.trans hx).trans x5⟩
end Go.Proofs.Ytbmocnigmpmfkaa
