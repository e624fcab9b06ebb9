/- fuse: numbersOf, isOrientation, Check, Fresh. fuse: the leaves of its steps. quat: Mul of any two. -/
import Derived.Test.YtoeecldhbabmbaaGreatMg3
import Derived.Test.YtoeecldhbabmbaaGreatMg0
import Derived.Test.YtoeecldhbabmbaaGreatMg10
import Derived.Test.YtoeecldhbabmbaaGreatMg23
import Derived.Test.YtoeecldhbabmbaaGreatQ10m
open Go.Value renaming int → J, agg → zG
open Go.IntKind renaming i64 → zq
open Go.Ending renaming returned → zR
open Go.Proofs.Tryz renaming prog → zP
namespace Go.Proofs.YtoeecldhbabmbaaGreat
open Go.RowKit Go.Shelf
def inO (v : Int) : Bool := decide (-1073741828 ≤ v) && decide (v ≤ 1073741828)
theorem inO_iff {v : Int} : inO v = true ↔ -1073741828 ≤ v ∧ v ≤ 1073741828 := by unfold inO; simp
def okO (a b c d : Int) : Bool := inO a && (inO b && (inO c && (inO d && (decide (1152921496016912400 ≤ a * a + b * b + c * c + d * d) && decide (a * a + b * b + c * c + d * d ≤ 1152921513196781584)))))
theorem okO_iff {a b c d : Int} : okO a b c d = true ↔ (-1073741828 ≤ a ∧ a ≤ 1073741828) ∧ (-1073741828 ≤ b ∧ b ≤ 1073741828) ∧ (-1073741828 ≤ c ∧ c ≤ 1073741828) ∧ (-1073741828 ≤ d ∧ d ≤ 1073741828) ∧ 1152921496016912400 ≤ a * a + b * b + c * c + d * d ∧ a * a + b * b + c * c + d * d ≤ 1152921513196781584 := by
  unfold okO; simp only [Bool.and_eq_true, inO_iff, decide_eq_true_eq]
theorem inO_sq {v : Int} (h : -1073741828 ≤ v ∧ v ≤ 1073741828) : 0 ≤ v * v ∧ v * v ≤ 1152921513196781584 := by
  have e : v * v = ((v.natAbs * v.natAbs : Nat) : Int) := Int.natAbs_mul_self.symm
  have m : v.natAbs * v.natAbs ≤ 1073741828 * 1073741828 := Nat.mul_le_mul (by omega) (by omega)
  omega
set_option maxHeartbeats 400000 in
theorem numbersOf_any (a b c d : Int) (w : World) : Calls zP 79 #[zG #[J zq a, J zq b, J zq c, J zq d]] w fun e w' => e = zR (zG #[J zq a, J zq b, J zq c, J zq d]) ∧ Ext w w' := by
  go_enter Tryz.func79, Tryz.ntmps79
  go_wp2_with fail
  exact bodyPost_ret (v := zG #[J zq a, J zq b, J zq c, J zq d]) (by simp [results, Tryz.results79, go_sem]) rfl ⟨rfl, xa⟩
theorem ix4 (T : TypeId) (hT : T = 114) (x y z u : Int) : (∀ w : World, (Instr.index T (zG #[J zq x, J zq y, J zq z, J zq u]) (J zq 0)).run zP w = .ok (J zq x) w) ∧ (∀ w : World, (Instr.index T (zG #[J zq x, J zq y, J zq z, J zq u]) (J zq 1)).run zP w = .ok (J zq y) w) ∧ (∀ w : World, (Instr.index T (zG #[J zq x, J zq y, J zq z, J zq u]) (J zq 2)).run zP w = .ok (J zq z) w) ∧ (∀ w : World, (Instr.index T (zG #[J zq x, J zq y, J zq z, J zq u]) (J zq 3)).run zP w = .ok (J zq u) w) := by
  subst hT
  exact ⟨fun _ => by kernel_rfl, fun _ => by kernel_rfl, fun _ => by kernel_rfl, fun _ => by kernel_rfl⟩
set_option maxRecDepth 20000 in
set_option maxHeartbeats 4000000 in
theorem isor_below0 (a b c d : Int) (w : World) (hb : a < -1073741828) : Calls zP 42 #[zG #[J zq a, J zq b, J zq c, J zq d]] w fun e w' => e = zR (.bool false) ∧ Ext w w' := by
  have HN : Hid (∀ w', Calls zP 79 #[zG #[J zq a, J zq b, J zq c, J zq d]] w' fun e w'' => e = zR (zG #[J zq a, J zq b, J zq c, J zq d]) ∧ Ext w' w'') := numbersOf_any a b c d
  obtain ⟨i0, i1, i2, i3⟩ := ix4 114 rfl a b c d
  go_enter Tryz.func42, Tryz.ntmps42
  go_wp2_with (go_at_call 79; refine (HN.out _).mono ?_; rintro e w1 ⟨rfl, x1⟩)
  have X1 : Ext w w1 := Ext.trans ((Ext.refl w).alloc _) x1
  clear x1
  refine wp_loop_rounds 6 ?_
  rw [rounds_succ]
  go_wp2_with fail
  go_ret
  exact ⟨rfl, X1⟩
set_option maxRecDepth 20000 in
set_option maxHeartbeats 4000000 in
theorem isor_above0 (a b c d : Int) (w : World) (hb : 1073741828 < a) : Calls zP 42 #[zG #[J zq a, J zq b, J zq c, J zq d]] w fun e w' => e = zR (.bool false) ∧ Ext w w' := by
  have HN : Hid (∀ w', Calls zP 79 #[zG #[J zq a, J zq b, J zq c, J zq d]] w' fun e w'' => e = zR (zG #[J zq a, J zq b, J zq c, J zq d]) ∧ Ext w' w'') := numbersOf_any a b c d
  obtain ⟨i0, i1, i2, i3⟩ := ix4 114 rfl a b c d
  go_enter Tryz.func42, Tryz.ntmps42
  go_wp2_with (go_at_call 79; refine (HN.out _).mono ?_; rintro e w1 ⟨rfl, x1⟩)
  have X1 : Ext w w1 := Ext.trans ((Ext.refl w).alloc _) x1
  clear x1
  refine wp_loop_rounds 6 ?_
  rw [rounds_succ]
  go_wp2_with fail
  go_ret
  exact ⟨rfl, X1⟩
set_option maxRecDepth 20000 in
set_option maxHeartbeats 4000000 in
theorem isor_below1 (a b c d A : Int) (w : World) (h0 : -1073741828 ≤ a ∧ a ≤ 1073741828) (hb : b < -1073741828) (e0 : a * a = A) : Calls zP 42 #[zG #[J zq a, J zq b, J zq c, J zq d]] w fun e w' => e = zR (.bool false) ∧ Ext w w' := by
  have HN : Hid (∀ w', Calls zP 79 #[zG #[J zq a, J zq b, J zq c, J zq d]] w' fun e w'' => e = zR (zG #[J zq a, J zq b, J zq c, J zq d]) ∧ Ext w' w'') := numbersOf_any a b c d
  obtain ⟨i0, i1, i2, i3⟩ := ix4 114 rfl a b c d
  obtain ⟨p0, q0⟩ := e0 ▸ inO_sq h0
  obtain ⟨l0, m0⟩ := h0
  go_enter Tryz.func42, Tryz.ntmps42
  go_wp2_with (go_at_call 79; refine (HN.out _).mono ?_; rintro e w1 ⟨rfl, x1⟩)
  have X1 : Ext w w1 := Ext.trans ((Ext.refl w).alloc _) x1
  clear x1
  refine wp_loop_rounds 6 ?_
  rw [rounds_succ]
  go_wp2_with fail
  rw [rounds_succ]
  go_wp2_with fail
  go_ret
  exact ⟨rfl, X1⟩
set_option maxRecDepth 20000 in
set_option maxHeartbeats 4000000 in
theorem isor_above1 (a b c d A : Int) (w : World) (h0 : -1073741828 ≤ a ∧ a ≤ 1073741828) (hb : 1073741828 < b) (e0 : a * a = A) : Calls zP 42 #[zG #[J zq a, J zq b, J zq c, J zq d]] w fun e w' => e = zR (.bool false) ∧ Ext w w' := by
  have HN : Hid (∀ w', Calls zP 79 #[zG #[J zq a, J zq b, J zq c, J zq d]] w' fun e w'' => e = zR (zG #[J zq a, J zq b, J zq c, J zq d]) ∧ Ext w' w'') := numbersOf_any a b c d
  obtain ⟨i0, i1, i2, i3⟩ := ix4 114 rfl a b c d
  obtain ⟨p0, q0⟩ := e0 ▸ inO_sq h0
  obtain ⟨l0, m0⟩ := h0
  go_enter Tryz.func42, Tryz.ntmps42
  go_wp2_with (go_at_call 79; refine (HN.out _).mono ?_; rintro e w1 ⟨rfl, x1⟩)
  have X1 : Ext w w1 := Ext.trans ((Ext.refl w).alloc _) x1
  clear x1
  refine wp_loop_rounds 6 ?_
  rw [rounds_succ]
  go_wp2_with fail
  rw [rounds_succ]
  go_wp2_with fail
  go_ret
  exact ⟨rfl, X1⟩
set_option maxRecDepth 20000 in
set_option maxHeartbeats 4000000 in
theorem isor_below2 (a b c d A B : Int) (w : World) (h0 : -1073741828 ≤ a ∧ a ≤ 1073741828) (h1 : -1073741828 ≤ b ∧ b ≤ 1073741828) (hb : c < -1073741828) (e0 : a * a = A) (e1 : b * b = B) : Calls zP 42 #[zG #[J zq a, J zq b, J zq c, J zq d]] w fun e w' => e = zR (.bool false) ∧ Ext w w' := by
  have HN : Hid (∀ w', Calls zP 79 #[zG #[J zq a, J zq b, J zq c, J zq d]] w' fun e w'' => e = zR (zG #[J zq a, J zq b, J zq c, J zq d]) ∧ Ext w' w'') := numbersOf_any a b c d
  obtain ⟨i0, i1, i2, i3⟩ := ix4 114 rfl a b c d
  obtain ⟨p0, q0⟩ := e0 ▸ inO_sq h0
  obtain ⟨l0, m0⟩ := h0
  obtain ⟨p1, q1⟩ := e1 ▸ inO_sq h1
  obtain ⟨l1, m1⟩ := h1
  go_enter Tryz.func42, Tryz.ntmps42
  go_wp2_with (go_at_call 79; refine (HN.out _).mono ?_; rintro e w1 ⟨rfl, x1⟩)
  have X1 : Ext w w1 := Ext.trans ((Ext.refl w).alloc _) x1
  clear x1
  refine wp_loop_rounds 6 ?_
  rw [rounds_succ]
  go_wp2_with fail
  rw [rounds_succ]
  go_wp2_with fail
  rw [rounds_succ]
  go_wp2_with fail
  go_ret
  exact ⟨rfl, X1⟩
set_option maxRecDepth 20000 in
set_option maxHeartbeats 4000000 in
theorem isor_above2 (a b c d A B : Int) (w : World) (h0 : -1073741828 ≤ a ∧ a ≤ 1073741828) (h1 : -1073741828 ≤ b ∧ b ≤ 1073741828) (hb : 1073741828 < c) (e0 : a * a = A) (e1 : b * b = B) : Calls zP 42 #[zG #[J zq a, J zq b, J zq c, J zq d]] w fun e w' => e = zR (.bool false) ∧ Ext w w' := by
  have HN : Hid (∀ w', Calls zP 79 #[zG #[J zq a, J zq b, J zq c, J zq d]] w' fun e w'' => e = zR (zG #[J zq a, J zq b, J zq c, J zq d]) ∧ Ext w' w'') := numbersOf_any a b c d
  obtain ⟨i0, i1, i2, i3⟩ := ix4 114 rfl a b c d
  obtain ⟨p0, q0⟩ := e0 ▸ inO_sq h0
  obtain ⟨l0, m0⟩ := h0
  obtain ⟨p1, q1⟩ := e1 ▸ inO_sq h1
  obtain ⟨l1, m1⟩ := h1
  go_enter Tryz.func42, Tryz.ntmps42
  go_wp2_with (go_at_call 79; refine (HN.out _).mono ?_; rintro e w1 ⟨rfl, x1⟩)
  have X1 : Ext w w1 := Ext.trans ((Ext.refl w).alloc _) x1
  clear x1
  refine wp_loop_rounds 6 ?_
  rw [rounds_succ]
  go_wp2_with fail
  rw [rounds_succ]
  go_wp2_with fail
  rw [rounds_succ]
  go_wp2_with fail
  go_ret
  exact ⟨rfl, X1⟩
set_option maxRecDepth 20000 in
set_option maxHeartbeats 4000000 in
theorem isor_below3 (a b c d A B C : Int) (w : World) (h0 : -1073741828 ≤ a ∧ a ≤ 1073741828) (h1 : -1073741828 ≤ b ∧ b ≤ 1073741828) (h2 : -1073741828 ≤ c ∧ c ≤ 1073741828) (hb : d < -1073741828) (e0 : a * a = A) (e1 : b * b = B) (e2 : c * c = C) : Calls zP 42 #[zG #[J zq a, J zq b, J zq c, J zq d]] w fun e w' => e = zR (.bool false) ∧ Ext w w' := by
  have HN : Hid (∀ w', Calls zP 79 #[zG #[J zq a, J zq b, J zq c, J zq d]] w' fun e w'' => e = zR (zG #[J zq a, J zq b, J zq c, J zq d]) ∧ Ext w' w'') := numbersOf_any a b c d
  obtain ⟨i0, i1, i2, i3⟩ := ix4 114 rfl a b c d
  obtain ⟨p0, q0⟩ := e0 ▸ inO_sq h0
  obtain ⟨l0, m0⟩ := h0
  obtain ⟨p1, q1⟩ := e1 ▸ inO_sq h1
  obtain ⟨l1, m1⟩ := h1
  obtain ⟨p2, q2⟩ := e2 ▸ inO_sq h2
  obtain ⟨l2, m2⟩ := h2
  go_enter Tryz.func42, Tryz.ntmps42
  go_wp2_with (go_at_call 79; refine (HN.out _).mono ?_; rintro e w1 ⟨rfl, x1⟩)
  have X1 : Ext w w1 := Ext.trans ((Ext.refl w).alloc _) x1
  clear x1
  refine wp_loop_rounds 6 ?_
  rw [rounds_succ]
  go_wp2_with fail
  rw [rounds_succ]
  go_wp2_with fail
  rw [rounds_succ]
  go_wp2_with fail
  rw [rounds_succ]
  go_wp2_with fail
  go_ret
  exact ⟨rfl, X1⟩
set_option maxRecDepth 20000 in
set_option maxHeartbeats 4000000 in
theorem isor_above3 (a b c d A B C : Int) (w : World) (h0 : -1073741828 ≤ a ∧ a ≤ 1073741828) (h1 : -1073741828 ≤ b ∧ b ≤ 1073741828) (h2 : -1073741828 ≤ c ∧ c ≤ 1073741828) (hb : 1073741828 < d) (e0 : a * a = A) (e1 : b * b = B) (e2 : c * c = C) : Calls zP 42 #[zG #[J zq a, J zq b, J zq c, J zq d]] w fun e w' => e = zR (.bool false) ∧ Ext w w' := by
  have HN : Hid (∀ w', Calls zP 79 #[zG #[J zq a, J zq b, J zq c, J zq d]] w' fun e w'' => e = zR (zG #[J zq a, J zq b, J zq c, J zq d]) ∧ Ext w' w'') := numbersOf_any a b c d
  obtain ⟨i0, i1, i2, i3⟩ := ix4 114 rfl a b c d
  obtain ⟨p0, q0⟩ := e0 ▸ inO_sq h0
  obtain ⟨l0, m0⟩ := h0
  obtain ⟨p1, q1⟩ := e1 ▸ inO_sq h1
  obtain ⟨l1, m1⟩ := h1
  obtain ⟨p2, q2⟩ := e2 ▸ inO_sq h2
  obtain ⟨l2, m2⟩ := h2
  go_enter Tryz.func42, Tryz.ntmps42
  go_wp2_with (go_at_call 79; refine (HN.out _).mono ?_; rintro e w1 ⟨rfl, x1⟩)
  have X1 : Ext w w1 := Ext.trans ((Ext.refl w).alloc _) x1
  clear x1
  refine wp_loop_rounds 6 ?_
  rw [rounds_succ]
  go_wp2_with fail
  rw [rounds_succ]
  go_wp2_with fail
  rw [rounds_succ]
  go_wp2_with fail
  rw [rounds_succ]
  go_wp2_with fail
  go_ret
  exact ⟨rfl, X1⟩
set_option maxRecDepth 20000 in
set_option maxHeartbeats 4000000 in
theorem isor_lo (a b c d A B C D : Int) (w : World) (h0 : -1073741828 ≤ a ∧ a ≤ 1073741828) (h1 : -1073741828 ≤ b ∧ b ≤ 1073741828) (h2 : -1073741828 ≤ c ∧ c ≤ 1073741828) (h3 : -1073741828 ≤ d ∧ d ≤ 1073741828) (hs : A + B + C + D < 1152921496016912400) (e0 : a * a = A) (e1 : b * b = B) (e2 : c * c = C) (e3 : d * d = D) : Calls zP 42 #[zG #[J zq a, J zq b, J zq c, J zq d]] w fun e w' => e = zR (.bool false) ∧ Ext w w' := by
  have HN : Hid (∀ w', Calls zP 79 #[zG #[J zq a, J zq b, J zq c, J zq d]] w' fun e w'' => e = zR (zG #[J zq a, J zq b, J zq c, J zq d]) ∧ Ext w' w'') := numbersOf_any a b c d
  obtain ⟨i0, i1, i2, i3⟩ := ix4 114 rfl a b c d
  obtain ⟨p0, q0⟩ := e0 ▸ inO_sq h0
  obtain ⟨l0, m0⟩ := h0
  obtain ⟨p1, q1⟩ := e1 ▸ inO_sq h1
  obtain ⟨l1, m1⟩ := h1
  obtain ⟨p2, q2⟩ := e2 ▸ inO_sq h2
  obtain ⟨l2, m2⟩ := h2
  obtain ⟨p3, q3⟩ := e3 ▸ inO_sq h3
  obtain ⟨l3, m3⟩ := h3
  go_enter Tryz.func42, Tryz.ntmps42
  go_wp2_with (go_at_call 79; refine (HN.out _).mono ?_; rintro e w1 ⟨rfl, x1⟩)
  have X1 : Ext w w1 := Ext.trans ((Ext.refl w).alloc _) x1
  clear x1
  refine wp_loop_rounds 6 ?_
  rw [rounds_succ]
  go_wp2_with fail
  rw [rounds_succ]
  go_wp2_with fail
  rw [rounds_succ]
  go_wp2_with fail
  rw [rounds_succ]
  go_wp2_with fail
  rw [rounds_succ]
  go_wp2_with fail
  go_ret
  exact ⟨rfl, X1⟩
set_option maxRecDepth 20000 in
set_option maxHeartbeats 4000000 in
theorem isor_hi (a b c d A B C D : Int) (w : World) (h0 : -1073741828 ≤ a ∧ a ≤ 1073741828) (h1 : -1073741828 ≤ b ∧ b ≤ 1073741828) (h2 : -1073741828 ≤ c ∧ c ≤ 1073741828) (h3 : -1073741828 ≤ d ∧ d ≤ 1073741828) (hs : 1152921513196781584 < A + B + C + D) (e0 : a * a = A) (e1 : b * b = B) (e2 : c * c = C) (e3 : d * d = D) : Calls zP 42 #[zG #[J zq a, J zq b, J zq c, J zq d]] w fun e w' => e = zR (.bool false) ∧ Ext w w' := by
  have HN : Hid (∀ w', Calls zP 79 #[zG #[J zq a, J zq b, J zq c, J zq d]] w' fun e w'' => e = zR (zG #[J zq a, J zq b, J zq c, J zq d]) ∧ Ext w' w'') := numbersOf_any a b c d
  obtain ⟨i0, i1, i2, i3⟩ := ix4 114 rfl a b c d
  obtain ⟨p0, q0⟩ := e0 ▸ inO_sq h0
  obtain ⟨l0, m0⟩ := h0
  obtain ⟨p1, q1⟩ := e1 ▸ inO_sq h1
  obtain ⟨l1, m1⟩ := h1
  obtain ⟨p2, q2⟩ := e2 ▸ inO_sq h2
  obtain ⟨l2, m2⟩ := h2
  obtain ⟨p3, q3⟩ := e3 ▸ inO_sq h3
  obtain ⟨l3, m3⟩ := h3
  go_enter Tryz.func42, Tryz.ntmps42
  go_wp2_with (go_at_call 79; refine (HN.out _).mono ?_; rintro e w1 ⟨rfl, x1⟩)
  have X1 : Ext w w1 := Ext.trans ((Ext.refl w).alloc _) x1
  clear x1
  refine wp_loop_rounds 6 ?_
  rw [rounds_succ]
  go_wp2_with fail
  rw [rounds_succ]
  go_wp2_with fail
  rw [rounds_succ]
  go_wp2_with fail
  rw [rounds_succ]
  go_wp2_with fail
  rw [rounds_succ]
  go_wp2_with fail
  go_ret
  exact ⟨by simp; omega, X1⟩
set_option maxRecDepth 20000 in
set_option maxHeartbeats 4000000 in
theorem isor_ok (a b c d A B C D : Int) (w : World) (h0 : -1073741828 ≤ a ∧ a ≤ 1073741828) (h1 : -1073741828 ≤ b ∧ b ≤ 1073741828) (h2 : -1073741828 ≤ c ∧ c ≤ 1073741828) (h3 : -1073741828 ≤ d ∧ d ≤ 1073741828) (hs : 1152921496016912400 ≤ A + B + C + D) (hs2 : A + B + C + D ≤ 1152921513196781584) (e0 : a * a = A) (e1 : b * b = B) (e2 : c * c = C) (e3 : d * d = D) : Calls zP 42 #[zG #[J zq a, J zq b, J zq c, J zq d]] w fun e w' => e = zR (.bool true) ∧ Ext w w' := by
  have HN : Hid (∀ w', Calls zP 79 #[zG #[J zq a, J zq b, J zq c, J zq d]] w' fun e w'' => e = zR (zG #[J zq a, J zq b, J zq c, J zq d]) ∧ Ext w' w'') := numbersOf_any a b c d
  obtain ⟨i0, i1, i2, i3⟩ := ix4 114 rfl a b c d
  obtain ⟨p0, q0⟩ := e0 ▸ inO_sq h0
  obtain ⟨l0, m0⟩ := h0
  obtain ⟨p1, q1⟩ := e1 ▸ inO_sq h1
  obtain ⟨l1, m1⟩ := h1
  obtain ⟨p2, q2⟩ := e2 ▸ inO_sq h2
  obtain ⟨l2, m2⟩ := h2
  obtain ⟨p3, q3⟩ := e3 ▸ inO_sq h3
  obtain ⟨l3, m3⟩ := h3
  go_enter Tryz.func42, Tryz.ntmps42
  go_wp2_with (go_at_call 79; refine (HN.out _).mono ?_; rintro e w1 ⟨rfl, x1⟩)
  have X1 : Ext w w1 := Ext.trans ((Ext.refl w).alloc _) x1
  clear x1
  refine wp_loop_rounds 6 ?_
  rw [rounds_succ]
  go_wp2_with fail
  rw [rounds_succ]
  go_wp2_with fail
  rw [rounds_succ]
  go_wp2_with fail
  rw [rounds_succ]
  go_wp2_with fail
  rw [rounds_succ]
  go_wp2_with fail
  go_ret
  exact ⟨rfl, X1⟩
theorem isor_any (a b c d : Int) (w : World) : Calls zP 42 #[zG #[J zq a, J zq b, J zq c, J zq d]] w fun e w' => e = zR (.bool (okO a b c d)) ∧ Ext w w' := by
  by_cases g0 : a < -1073741828
  · have e : okO a b c d = false := Bool.eq_false_iff.2 (fun h => by have := okO_iff.1 h; omega)
    rw [e]; exact isor_below0 a b c d  w g0
  by_cases g0' : 1073741828 < a
  · have e : okO a b c d = false := Bool.eq_false_iff.2 (fun h => by have := okO_iff.1 h; omega)
    rw [e]; exact isor_above0 a b c d  w g0'
  have h0 : -1073741828 ≤ a ∧ a ≤ 1073741828 := ⟨by omega, by omega⟩
  by_cases g1 : b < -1073741828
  · have e : okO a b c d = false := Bool.eq_false_iff.2 (fun h => by have := okO_iff.1 h; omega)
    rw [e]; exact isor_below1 a b c d (a * a) w h0 g1 rfl
  by_cases g1' : 1073741828 < b
  · have e : okO a b c d = false := Bool.eq_false_iff.2 (fun h => by have := okO_iff.1 h; omega)
    rw [e]; exact isor_above1 a b c d (a * a) w h0 g1' rfl
  have h1 : -1073741828 ≤ b ∧ b ≤ 1073741828 := ⟨by omega, by omega⟩
  by_cases g2 : c < -1073741828
  · have e : okO a b c d = false := Bool.eq_false_iff.2 (fun h => by have := okO_iff.1 h; omega)
    rw [e]; exact isor_below2 a b c d (a * a) (b * b) w h0 h1 g2 rfl rfl
  by_cases g2' : 1073741828 < c
  · have e : okO a b c d = false := Bool.eq_false_iff.2 (fun h => by have := okO_iff.1 h; omega)
    rw [e]; exact isor_above2 a b c d (a * a) (b * b) w h0 h1 g2' rfl rfl
  have h2 : -1073741828 ≤ c ∧ c ≤ 1073741828 := ⟨by omega, by omega⟩
  by_cases g3 : d < -1073741828
  · have e : okO a b c d = false := Bool.eq_false_iff.2 (fun h => by have := okO_iff.1 h; omega)
    rw [e]; exact isor_below3 a b c d (a * a) (b * b) (c * c) w h0 h1 h2 g3 rfl rfl rfl
  by_cases g3' : 1073741828 < d
  · have e : okO a b c d = false := Bool.eq_false_iff.2 (fun h => by have := okO_iff.1 h; omega)
    rw [e]; exact isor_above3 a b c d (a * a) (b * b) (c * c) w h0 h1 h2 g3' rfl rfl rfl
  have h3 : -1073741828 ≤ d ∧ d ≤ 1073741828 := ⟨by omega, by omega⟩
  by_cases k0 : a * a + b * b + c * c + d * d < 1152921496016912400
  · have e : okO a b c d = false := Bool.eq_false_iff.2 (fun h => by have := okO_iff.1 h; omega)
    rw [e]; exact isor_lo a b c d (a * a) (b * b) (c * c) (d * d) w h0 h1 h2 h3 k0 rfl rfl rfl rfl
  by_cases k1 : 1152921513196781584 < a * a + b * b + c * c + d * d
  · have e : okO a b c d = false := Bool.eq_false_iff.2 (fun h => by have := okO_iff.1 h; omega)
    rw [e]; exact isor_hi a b c d (a * a) (b * b) (c * c) (d * d) w h0 h1 h2 h3 k1 rfl rfl rfl rfl
  have e : okO a b c d = true := okO_iff.2 ⟨h0, h1, h2, h3, by omega, by omega⟩
  rw [e]; exact isor_ok a b c d (a * a) (b * b) (c * c) (d * d) w h0 h1 h2 h3 (by omega) (by omega) rfl rfl rfl rfl
def chkO (a b c d : Int) : Int := if okO a b c d then 0 else 1
set_option maxRecDepth 20000 in
set_option maxHeartbeats 4000000 in
theorem fCheck_any (a b c d : Int) (w : World) : Calls zP 11 #[zG #[J zq a, J zq b, J zq c, J zq d]] w fun e w' => e = zR (J zq (chkO a b c d)) ∧ Ext w w' := by
  have HN : Hid (∀ w', Calls zP 42 #[zG #[J zq a, J zq b, J zq c, J zq d]] w' fun e w'' => e = zR (.bool (okO a b c d)) ∧ Ext w' w'') := isor_any a b c d
  have hr : Hid (chkO a b c d = if okO a b c d then 0 else 1) := rfl
  generalize chkO a b c d = R at *
  generalize okO a b c d = o at *
  cases o
  all_goals
    go_enter Tryz.func11, Tryz.ntmps11
    go_wp2_with (go_at_call 42; refine (HN.out _).mono ?_; rintro e w1 ⟨rfl, x1⟩)
    go_ret
    exact ⟨by rw [hr.out]; simp, Ext.trans ((Ext.refl w).alloc _) x1⟩
set_option maxHeartbeats 400000 in
theorem fresh_any (w : World) : Calls zP 15 #[] w fun e w' => e = zR (zG #[J zq 1073741824, J zq 0, J zq 0, J zq 0]) ∧ Ext w w' := by
  go_enter Tryz.func15, Tryz.ntmps15
  go_wp2_with fail
  exact bodyPost_ret (v := zG #[J zq 1073741824, J zq 0, J zq 0, J zq 0]) (by simp [results, Tryz.results15, go_sem]) rfl ⟨rfl, xa⟩
def rad (x : Int) : Bool := decide (-1073741824 ≤ x) && decide (x ≤ 1073741824)
theorem rad_iff {x : Int} : rad x = true ↔ -1073741824 ≤ x ∧ x ≤ 1073741824 := by unfold rad; simp
def tck (x : Int) : Bool := decide (0 ≤ x) && decide (x ≤ 1000)
theorem tck_iff {x : Int} : tck x = true ↔ 0 ≤ x ∧ x ≤ 1000 := by unfold tck; simp
def rad3 (x y z : Int) : Bool := rad x && rad y && rad z
set_option maxHeartbeats 400000 in
theorem israd_any (x : Int) (w : World) : Calls zP 77 #[J zq x] w fun e w' => e = zR (.bool (rad x)) ∧ w' = w := by
  by_cases h1 : -1073741824 ≤ x
  · by_cases h2 : x ≤ 1073741824
    · have e : Hid (rad x = true) := rad_iff.2 ⟨h1, h2⟩
      go_enter Tryz.func77, Tryz.ntmps77
      go_wp2
      go_ret
      rw [e.out]; exact ⟨rfl, rfl⟩
    · have e : Hid (rad x = false) := Bool.eq_false_iff.2 (fun h => h2 (rad_iff.1 h).2)
      go_enter Tryz.func77, Tryz.ntmps77
      go_wp2
      go_ret
      rw [e.out]; exact ⟨rfl, rfl⟩
  · have e : Hid (rad x = false) := Bool.eq_false_iff.2 (fun h => h1 (rad_iff.1 h).1)
    go_enter Tryz.func77, Tryz.ntmps77
    go_wp2
    go_ret
    rw [e.out]; exact ⟨rfl, rfl⟩
set_option maxHeartbeats 400000 in
theorem isticks_any (x : Int) (w : World) : Calls zP 37 #[J zq x] w fun e w' => e = zR (.bool (tck x)) ∧ w' = w := by
  by_cases h1 : 0 ≤ x
  · by_cases h2 : x ≤ 1000
    · have e : Hid (tck x = true) := tck_iff.2 ⟨h1, h2⟩
      go_enter Tryz.func37, Tryz.ntmps37
      go_wp2
      go_ret
      rw [e.out]; exact ⟨rfl, rfl⟩
    · have e : Hid (tck x = false) := Bool.eq_false_iff.2 (fun h => h2 (tck_iff.1 h).2)
      go_enter Tryz.func37, Tryz.ntmps37
      go_wp2
      go_ret
      rw [e.out]; exact ⟨rfl, rfl⟩
  · have e : Hid (tck x = false) := Bool.eq_false_iff.2 (fun h => h1 (tck_iff.1 h).1)
    go_enter Tryz.func37, Tryz.ntmps37
    go_wp2
    go_ret
    rw [e.out]; exact ⟨rfl, rfl⟩
set_option maxRecDepth 20000 in
set_option maxHeartbeats 8000000 in
theorem isspin_any (x y z : Int) (w : World) : Calls zP 39 #[zG #[J zq x, J zq y, J zq z]] w fun e w' => e = zR (.bool (rad3 x y z)) ∧ Ext w w' := by
  have HX : Hid (∀ w, Calls zP 77 #[J zq x] w fun e w' => e = zR (.bool (rad x)) ∧ w' = w) := israd_any x
  have HY : Hid (∀ w, Calls zP 77 #[J zq y] w fun e w' => e = zR (.bool (rad y)) ∧ w' = w) := israd_any y
  have HZ : Hid (∀ w, Calls zP 77 #[J zq z] w fun e w' => e = zR (.bool (rad z)) ∧ w' = w) := israd_any z
  have ex : Hid (rad3 x y z = (rad x && rad y && rad z)) := rfl
  generalize rad x = p1 at *
  generalize rad y = p2 at *
  generalize rad z = p3 at *
  generalize rad3 x y z = R at *
  have hx : Ext w (w.alloc (.cells #[J zq x, J zq y, J zq z] 28)) := (Ext.refl w).alloc _
  cases p1 <;> cases p2 <;> cases p3
  all_goals
    go_enter Tryz.func39, Tryz.ntmps39
    go_wp2_with (first | (go_at_call_of 77 (Value.int IntKind.i64 x); refine (HX.out _).mono ?_; rintro e wx ⟨rfl, hwx⟩; have hwy := hwx.symm; clear hwx; subst hwy) | (go_at_call_of 77 (Value.int IntKind.i64 y); refine (HY.out _).mono ?_; rintro e wx ⟨rfl, hwx⟩; have hwy := hwx.symm; clear hwx; subst hwy) | (go_at_call_of 77 (Value.int IntKind.i64 z); refine (HZ.out _).mono ?_; rintro e wx ⟨rfl, hwx⟩; have hwy := hwx.symm; clear hwx; subst hwy))
    go_ret
    rw [ex.out]
    exact ⟨by first | rfl | simp, hx⟩
set_option maxRecDepth 20000 in
set_option maxHeartbeats 8000000 in
theorem angle_any (n x y z A B C : Int) (w : World) (eA : n * x = A) (eB : n * y = B) (eC : n * z = C) (a1 : -9223372036854775808 ≤ A) (a2 : A ≤ 9223372036854775807) (b1 : -9223372036854775808 ≤ B) (b2 : B ≤ 9223372036854775807) (c1 : -9223372036854775808 ≤ C) (c2 : C ≤ 9223372036854775807) :
    Calls zP 38 #[zG #[J zq x, J zq y, J zq z], J zq n] w fun e w' => e = zR (zG #[J zq A, J zq B, J zq C]) ∧ Ext w w' := by
  go_enter Tryz.func38, Tryz.ntmps38
  go_wp2_with fail
  exact bodyPost_ret (v := zG #[J zq A, J zq B, J zq C]) (by simp [results, Tryz.results38, go_sem]) rfl ⟨rfl, xa⟩
set_option maxRecDepth 20000 in
set_option maxHeartbeats 8000000 in
theorem exprod_raw (a b c d x y z nb p0 p1 p2 p3 p4 p5 p6 p7 p8 p9 p10 p11 : Int) (w : World) (hb : -b = nb) (nb1 : -1073741828 ≤ nb) (nb2 : nb ≤ 1073741828) (e0 : nb * x = p0) (e1 : c * y = p1) (e2 : d * z = p2) (e3 : a * x = p3) (e4 : c * z = p4) (e5 : d * y = p5) (e6 : a * y = p6) (e7 : b * z = p7) (e8 : d * x = p8) (e9 : a * z = p9) (e10 : b * y = p10) (e11 : c * x = p11) (l0 : -1152921508901814272 ≤ p0) (m0 : p0 ≤ 1152921508901814272) (l1 : -1152921508901814272 ≤ p1) (m1 : p1 ≤ 1152921508901814272) (l2 : -1152921508901814272 ≤ p2) (m2 : p2 ≤ 1152921508901814272) (l3 : -1152921508901814272 ≤ p3) (m3 : p3 ≤ 1152921508901814272) (l4 : -1152921508901814272 ≤ p4) (m4 : p4 ≤ 1152921508901814272) (l5 : -1152921508901814272 ≤ p5) (m5 : p5 ≤ 1152921508901814272) (l6 : -1152921508901814272 ≤ p6) (m6 : p6 ≤ 1152921508901814272) (l7 : -1152921508901814272 ≤ p7) (m7 : p7 ≤ 1152921508901814272) (l8 : -1152921508901814272 ≤ p8) (m8 : p8 ≤ 1152921508901814272) (l9 : -1152921508901814272 ≤ p9) (m9 : p9 ≤ 1152921508901814272) (l10 : -1152921508901814272 ≤ p10) (m10 : p10 ≤ 1152921508901814272) (l11 : -1152921508901814272 ≤ p11) (m11 : p11 ≤ 1152921508901814272) :
    Calls zP 80 #[zG #[J zq a, J zq b, J zq c, J zq d], zG #[J zq x, J zq y, J zq z]] w fun e w' => e = zR (zG #[J zq (p0 - p1 - p2), J zq (p3 + p4 - p5), J zq (p6 - p7 + p8), J zq (p9 + p10 - p11)]) ∧ Ext w w' := by
  go_enter Tryz.func80, Tryz.ntmps80
  go_wp2_with fail
  exact bodyPost_ret (v := zG #[J zq (p0 - p1 - p2), J zq (p3 + p4 - p5), J zq (p6 - p7 + p8), J zq (p9 + p10 - p11)]) (by simp [results, Tryz.results80, go_sem]) rfl ⟨rfl, xa⟩
set_option maxRecDepth 20000 in
set_option maxHeartbeats 8000000 in
theorem leaned_raw (a b c d x y z P0 P1 P2 P3 ee : Int) (w : World) (HM : Hid (∀ w', Calls zP 87 #[zG #[J zq a, J zq b, J zq c, J zq d], zG #[J zq 1073741824, J zq x, J zq y, J zq z]] w' fun e w'' => e = zR (.tuple #[zG #[J zq P0, J zq P1, J zq P2, J zq P3], J zq ee]) ∧ Ext w' w'')) :
    Calls zP 46 #[zG #[J zq a, J zq b, J zq c, J zq d], zG #[J zq x, J zq y, J zq z]] w fun e w' => e = zR (.tuple #[zG #[J zq P0, J zq P1, J zq P2, J zq P3], J zq ee]) ∧ Ext w w' := by
  have RB : Hid (H4 (((w.alloc (.cells #[J zq a, J zq b, J zq c, J zq d] 24)).alloc (.cells #[J zq x, J zq y, J zq z] 28)).alloc (.cells #[J zq 0, J zq 0, J zq 0, J zq 0] 24)) (w.heap.size + 1 + 1) (J zq 0) (J zq 0) (J zq 0) (J zq 0)) := h4_at (by simp)
  have XB : Ext w (((w.alloc (.cells #[J zq a, J zq b, J zq c, J zq d] 24)).alloc (.cells #[J zq x, J zq y, J zq z] 28)).alloc (.cells #[J zq 0, J zq 0, J zq 0, J zq 0] 24)) := (((Ext.refl _).alloc _).alloc _).alloc _
  go_enter Tryz.func46, Tryz.ntmps46
  go_wp2_with (go_at_call 87; refine (HM.out _).mono ?_; rintro e w1 ⟨rfl, x1⟩; obtain ⟨r0, r1, r2, r3, r4, r5, r6, r7, r8⟩ := RB.out.ext x1; have E1 : Ext w w1 := XB.trans x1; clear x1)
  exact bodyPost_ret (v := .tuple #[zG #[J zq P0, J zq P1, J zq P2, J zq P3], J zq ee]) (by simp [results, Tryz.results46, go_sem, r0, r1, r2, r3]) rfl ⟨rfl, xa⟩
set_option maxRecDepth 20000 in
set_option maxHeartbeats 8000000 in
theorem swung_raw (a b c d x P0 P1 P2 P3 ee : Int) (w : World) (HM : Hid (∀ w', Calls zP 87 #[zG #[J zq 1073741824, J zq 0, J zq 0, J zq x], zG #[J zq a, J zq b, J zq c, J zq d]] w' fun e w'' => e = zR (.tuple #[zG #[J zq P0, J zq P1, J zq P2, J zq P3], J zq ee]) ∧ Ext w' w'')) :
    Calls zP 50 #[zG #[J zq a, J zq b, J zq c, J zq d], J zq x] w fun e w' => e = zR (.tuple #[zG #[J zq P0, J zq P1, J zq P2, J zq P3], J zq ee]) ∧ Ext w w' := by
  have RB : Hid (H4 ((w.alloc (.cells #[J zq a, J zq b, J zq c, J zq d] 24)).alloc (.cells #[J zq 0, J zq 0, J zq 0, J zq 0] 24)) (w.heap.size + 1) (J zq 0) (J zq 0) (J zq 0) (J zq 0)) := h4_at (by simp)
  have XB : Ext w ((w.alloc (.cells #[J zq a, J zq b, J zq c, J zq d] 24)).alloc (.cells #[J zq 0, J zq 0, J zq 0, J zq 0] 24)) := ((Ext.refl _).alloc _).alloc _
  go_enter Tryz.func50, Tryz.ntmps50
  go_wp2_with (go_at_call 87; refine (HM.out _).mono ?_; rintro e w1 ⟨rfl, x1⟩; obtain ⟨r0, r1, r2, r3, r4, r5, r6, r7, r8⟩ := RB.out.ext x1; have E1 : Ext w w1 := XB.trans x1; clear x1)
  exact bodyPost_ret (v := .tuple #[zG #[J zq P0, J zq P1, J zq P2, J zq P3], J zq ee]) (by simp [results, Tryz.results50, go_sem, r0, r1, r2, r3]) rfl ⟨rfl, xa⟩
set_option maxRecDepth 20000 in
set_option maxHeartbeats 8000000 in
theorem stepSpun (a b c d x y z P0 P1 P2 P3 u0 u1 u2 u3 ue : Int) (w : World) (HT : Hid (∀ w', Calls zP 41 #[zG #[J zq a, J zq b, J zq c, J zq d], zG #[J zq x, J zq y, J zq z]] w' fun e w'' => e = zR (.tuple #[zG #[J zq P0, J zq P1, J zq P2, J zq P3], J zq 0]) ∧ Ext w' w'')) (HU : Hid (∀ w', Calls zP 78 #[zG #[J zq P0, J zq P1, J zq P2, J zq P3]] w' fun e w'' => e = zR (.tuple #[zG #[J zq u0, J zq u1, J zq u2, J zq u3], J zq ue]) ∧ Ext w' w'')) :
    Calls zP 40 #[zG #[J zq a, J zq b, J zq c, J zq d], zG #[J zq x, J zq y, J zq z], .func (.func 41) #[] #[]] w fun e w' => e = zR (.tuple #[zG #[J zq u0, J zq u1, J zq u2, J zq u3], J zq ue]) ∧ Ext w w' := by
  have RB : Hid (H4 (((w.alloc (.cells #[J zq a, J zq b, J zq c, J zq d] 26)).alloc (.cells #[J zq x, J zq y, J zq z] 28)).alloc (.cells #[J zq 0, J zq 0, J zq 0, J zq 0] 26)) (w.heap.size + 1 + 1) (J zq 0) (J zq 0) (J zq 0) (J zq 0)) := h4_at (by simp)
  have XB : Ext w (((w.alloc (.cells #[J zq a, J zq b, J zq c, J zq d] 26)).alloc (.cells #[J zq x, J zq y, J zq z] 28)).alloc (.cells #[J zq 0, J zq 0, J zq 0, J zq 0] 26)) := (((Ext.refl _).alloc _).alloc _).alloc _
  go_enter Tryz.func40, Tryz.ntmps40
  go_wp2_with fail
  refine (HT.out _).mono ?_
  rintro e w1 ⟨rfl, x1⟩
  have RB1 : Hid (H4 w1 (w.heap.size + 1 + 1) (J zq 0) (J zq 0) (J zq 0) (J zq 0)) := RB.out.ext x1
  have E1 : Ext w w1 := XB.trans x1
  have hl := E1.lay.2.2
  have hl1 := RB1.out.2.2.2.2.2.2.2.2
  clear x1 RB XB
  go_wp2_with fail
  refine (HU.out _).mono ?_
  rintro e w2 ⟨rfl, x2⟩
  obtain ⟨r0, r1, r2, r3, r4, r5, r6, r7, r8⟩ := (RB1.out.alloc _).ext x2
  have E2 : Ext w w2 := (E1.alloc _).trans x2
  have hk : w1.heap.size < w2.heap.size := Nat.lt_of_lt_of_le (by simp) x2.lay.2.2
  obtain ⟨s0, s1, s2, s3, s4, s5, s6, s7, s8⟩ : H4 w2 w1.heap.size (J zq P0) (J zq P1) (J zq P2) (J zq P3) := (h4_at rfl).ext x2
  have ne1 : w2.heap.size ≠ w.heap.size + 1 + 1 := by omega
  have ne2 : ¬ w.heap.size + 1 + 1 = w2.heap.size := by omega
  clear x2
  go_wp2_with fail
  exact bodyPost_ret (v := .tuple #[zG #[J zq u0, J zq u1, J zq u2, J zq u3], J zq ue]) (by simp [results, Tryz.results40, go_sem, r0, r1, r2, r3, r8]) rfl ⟨rfl, xa⟩
set_option maxRecDepth 20000 in
set_option maxHeartbeats 8000000 in
theorem stepLeaned (a b c d x y z P0 P1 P2 P3 u0 u1 u2 u3 ue : Int) (w : World) (HT : Hid (∀ w', Calls zP 46 #[zG #[J zq a, J zq b, J zq c, J zq d], zG #[J zq x, J zq y, J zq z]] w' fun e w'' => e = zR (.tuple #[zG #[J zq P0, J zq P1, J zq P2, J zq P3], J zq 0]) ∧ Ext w' w'')) (HU : Hid (∀ w', Calls zP 78 #[zG #[J zq P0, J zq P1, J zq P2, J zq P3]] w' fun e w'' => e = zR (.tuple #[zG #[J zq u0, J zq u1, J zq u2, J zq u3], J zq ue]) ∧ Ext w' w'')) :
    Calls zP 40 #[zG #[J zq a, J zq b, J zq c, J zq d], zG #[J zq x, J zq y, J zq z], .func (.func 46) #[] #[]] w fun e w' => e = zR (.tuple #[zG #[J zq u0, J zq u1, J zq u2, J zq u3], J zq ue]) ∧ Ext w w' := by
  have RB : Hid (H4 (((w.alloc (.cells #[J zq a, J zq b, J zq c, J zq d] 26)).alloc (.cells #[J zq x, J zq y, J zq z] 28)).alloc (.cells #[J zq 0, J zq 0, J zq 0, J zq 0] 26)) (w.heap.size + 1 + 1) (J zq 0) (J zq 0) (J zq 0) (J zq 0)) := h4_at (by simp)
  have XB : Ext w (((w.alloc (.cells #[J zq a, J zq b, J zq c, J zq d] 26)).alloc (.cells #[J zq x, J zq y, J zq z] 28)).alloc (.cells #[J zq 0, J zq 0, J zq 0, J zq 0] 26)) := (((Ext.refl _).alloc _).alloc _).alloc _
  go_enter Tryz.func40, Tryz.ntmps40
  go_wp2_with fail
  refine (HT.out _).mono ?_
  rintro e w1 ⟨rfl, x1⟩
  have RB1 : Hid (H4 w1 (w.heap.size + 1 + 1) (J zq 0) (J zq 0) (J zq 0) (J zq 0)) := RB.out.ext x1
  have E1 : Ext w w1 := XB.trans x1
  have hl := E1.lay.2.2
  have hl1 := RB1.out.2.2.2.2.2.2.2.2
  clear x1 RB XB
  go_wp2_with fail
  refine (HU.out _).mono ?_
  rintro e w2 ⟨rfl, x2⟩
  obtain ⟨r0, r1, r2, r3, r4, r5, r6, r7, r8⟩ := (RB1.out.alloc _).ext x2
  have E2 : Ext w w2 := (E1.alloc _).trans x2
  have hk : w1.heap.size < w2.heap.size := Nat.lt_of_lt_of_le (by simp) x2.lay.2.2
  obtain ⟨s0, s1, s2, s3, s4, s5, s6, s7, s8⟩ : H4 w2 w1.heap.size (J zq P0) (J zq P1) (J zq P2) (J zq P3) := (h4_at rfl).ext x2
  have ne1 : w2.heap.size ≠ w.heap.size + 1 + 1 := by omega
  have ne2 : ¬ w.heap.size + 1 + 1 = w2.heap.size := by omega
  clear x2
  go_wp2_with fail
  exact bodyPost_ret (v := .tuple #[zG #[J zq u0, J zq u1, J zq u2, J zq u3], J zq ue]) (by simp [results, Tryz.results40, go_sem, r0, r1, r2, r3, r8]) rfl ⟨rfl, xa⟩
set_option maxRecDepth 20000 in
set_option maxHeartbeats 8000000 in
theorem stepSwung (a b c d x P0 P1 P2 P3 u0 u1 u2 u3 ue : Int) (w : World) (HT : Hid (∀ w', Calls zP 50 #[zG #[J zq a, J zq b, J zq c, J zq d], J zq x] w' fun e w'' => e = zR (.tuple #[zG #[J zq P0, J zq P1, J zq P2, J zq P3], J zq 0]) ∧ Ext w' w'')) (HU : Hid (∀ w', Calls zP 78 #[zG #[J zq P0, J zq P1, J zq P2, J zq P3]] w' fun e w'' => e = zR (.tuple #[zG #[J zq u0, J zq u1, J zq u2, J zq u3], J zq ue]) ∧ Ext w' w'')) :
    Calls zP 49 #[zG #[J zq a, J zq b, J zq c, J zq d], J zq x, .func (.func 50) #[] #[]] w fun e w' => e = zR (.tuple #[zG #[J zq u0, J zq u1, J zq u2, J zq u3], J zq ue]) ∧ Ext w w' := by
  have RB : Hid (H4 ((w.alloc (.cells #[J zq a, J zq b, J zq c, J zq d] 26)).alloc (.cells #[J zq 0, J zq 0, J zq 0, J zq 0] 26)) (w.heap.size + 1) (J zq 0) (J zq 0) (J zq 0) (J zq 0)) := h4_at (by simp)
  have XB : Ext w ((w.alloc (.cells #[J zq a, J zq b, J zq c, J zq d] 26)).alloc (.cells #[J zq 0, J zq 0, J zq 0, J zq 0] 26)) := ((Ext.refl _).alloc _).alloc _
  go_enter Tryz.func49, Tryz.ntmps49
  go_wp2_with fail
  refine (HT.out _).mono ?_
  rintro e w1 ⟨rfl, x1⟩
  have RB1 : Hid (H4 w1 (w.heap.size + 1) (J zq 0) (J zq 0) (J zq 0) (J zq 0)) := RB.out.ext x1
  have E1 : Ext w w1 := XB.trans x1
  have hl := E1.lay.2.2
  have hl1 := RB1.out.2.2.2.2.2.2.2.2
  clear x1 RB XB
  go_wp2_with fail
  refine (HU.out _).mono ?_
  rintro e w2 ⟨rfl, x2⟩
  obtain ⟨r0, r1, r2, r3, r4, r5, r6, r7, r8⟩ := (RB1.out.alloc _).ext x2
  have E2 : Ext w w2 := (E1.alloc _).trans x2
  have hk : w1.heap.size < w2.heap.size := Nat.lt_of_lt_of_le (by simp) x2.lay.2.2
  obtain ⟨s0, s1, s2, s3, s4, s5, s6, s7, s8⟩ : H4 w2 w1.heap.size (J zq P0) (J zq P1) (J zq P2) (J zq P3) := (h4_at rfl).ext x2
  have ne1 : w2.heap.size ≠ w.heap.size + 1 := by omega
  have ne2 : ¬ w.heap.size + 1 = w2.heap.size := by omega
  clear x2
  go_wp2_with fail
  exact bodyPost_ret (v := .tuple #[zG #[J zq u0, J zq u1, J zq u2, J zq u3], J zq ue]) (by simp [results, Tryz.results49, go_sem, r0, r1, r2, r3, r8]) rfl ⟨rfl, xa⟩
def qmulR (a b c d x y z t : Int) : Value := if ok4 a b c d && ok4 x y z t then qres (nearQ (qw a b c d x y z t)) (nearQ (qx a b c d x y z t)) (nearQ (qy a b c d x y z t)) (nearQ (qz a b c d x y z t)) else .tuple #[zG #[J zq 0, J zq 0, J zq 0, J zq 0], J zq 1]
theorem chk4_cases (a b c d : Int) : chk4 a b c d = 0 ∧ ok4 a b c d = true ∨ chk4 a b c d = 1 ∧ ok4 a b c d = false := by
  unfold chk4; cases ok4 a b c d <;> simp
theorem prod_lt {a b : Int} (ha : okW a = true) (hb : okW b = true) : -1237940039285380274899124224 < a * b ∧ a * b < 1237940039285380274899124224 := by
  have h1 := word_abs ha; have h2 := word_abs hb
  have h3 : a.natAbs * b.natAbs ≤ 35184372088831 * 35184372088831 := Nat.mul_le_mul (by omega) (by omega)
  have h4 : (a * b).natAbs = a.natAbs * b.natAbs := Int.natAbs_mul a b
  omega
theorem qMul_any (a b c d x y z t : Int) (w : World) :
    Calls zP 87 #[zG #[J zq a, J zq b, J zq c, J zq d], zG #[J zq x, J zq y, J zq z, J zq t]] w fun e w' => e = zR (qmulR a b c d x y z t) ∧ Ext w w' := by
  unfold qmulR
  rcases chk4_cases a b c d with ⟨e1, h1⟩ | ⟨e1, h1⟩
  · rcases chk4_cases x y z t with ⟨e2, h2⟩ | ⟨e2, h2⟩
    · rw [h1, h2]
      have h1' := h1; have h2' := h2
      unfold ok4 at h1' h2'
      simp only [Bool.and_eq_true] at h1' h2'
      obtain ⟨ha, hb, hc, hd⟩ := h1'
      obtain ⟨hx, hy, hz, ht⟩ := h2'
      have q1 := prod_lt ha hx; have q2 := prod_lt hb hy; have q3 := prod_lt hc hz; have q4 := prod_lt hd ht
      have q5 := prod_lt ha hy; have q6 := prod_lt hb hx; have q7 := prod_lt hc ht; have q8 := prod_lt hd hz
      have q9 := prod_lt ha hz; have q10 := prod_lt hb ht; have q11 := prod_lt hc hx; have q12 := prod_lt hd hy
      have q13 := prod_lt ha ht; have q14 := prod_lt hb hz; have q15 := prod_lt hc hy; have q16 := prod_lt hd hx
      have b0 : (qw a b c d x y z t).natAbs < 4951760157141521099596496896 := by unfold qw; omega
      have b1 : (qx a b c d x y z t).natAbs < 4951760157141521099596496896 := by unfold qx; omega
      have b2 : (qy a b c d x y z t).natAbs < 4951760157141521099596496896 := by unfold qy; omega
      have b3 : (qz a b c d x y z t).natAbs < 4951760157141521099596496896 := by unfold qz; omega
      have iw : ∀ z : Int, z.natAbs < 4951760157141521099596496896 → InW (nearQ z) ∧ InW (z + 536870912) ∧ InW z := fun z hz => ⟨inW_of (by unfold nearQ oddQ; omega), inW_of (by omega), inW_of (by omega)⟩
      obtain ⟨E0, E1, E2, E3, ee, hE⟩ := qres_shape (nearQ (qw a b c d x y z t)) (nearQ (qx a b c d x y z t)) (nearQ (qy a b c d x y z t)) (nearQ (qz a b c d x y z t))
      rw [if_pos (show (true && true) = true from rfl), hE]
      refine qMul_yes a b c d x y z t _ _ _ _ E0 E1 E2 E3 ee w (fun a b c d w' => qCheck_any a b c d w') (fun g w' hg => cmpOr2 _ _ _ g w' hg (by rw [e1, e2]; rfl)) (fun a b c d w' => qof_any a b c d w') (fun w' => product64_any a b c d x y z t w' ha hb hc hd hx hy hz ht) ?_ (fun w' => asQuat_any _ _ _ _ _ w')
      intro v w' hv
      rw [← hE]
      obtain ⟨l0, l1, l2, l3, l4, l5, l6, l7, l8, l9, l10, l11, rfl, i0, i1, i2, i3⟩ := hv
      exact throughN_any l0 l1 l2 l3 l4 l5 l6 l7 l8 l9 l10 l11 _ _ _ _ w' (iw _ b0).1 (iw _ b1).1 (iw _ b2).1 (iw _ b3).1
        (fun w2 _ => qinQ30_any _ _ w2 i0 (iw _ b0).2.1 (iw _ b0).2.2) (fun w2 _ => qinQ30_any _ _ w2 i1 (iw _ b1).2.1 (iw _ b1).2.2)
        (fun w2 _ => qinQ30_any _ _ w2 i2 (iw _ b2).2.1 (iw _ b2).2.2) (fun w2 _ => qinQ30_any _ _ w2 i3 (iw _ b3).2.1 (iw _ b3).2.2)
    · rw [h2, Bool.and_false]
      exact qMul_bad a b c d x y z t w (fun a b c d w' => qCheck_any a b c d w') (fun g w' hg => cmpOr2 _ _ _ g w' hg (by rw [e1, e2]; rfl))
  · rw [h1]
    exact qMul_bad a b c d x y z t w (fun a b c d w' => qCheck_any a b c d w') (fun g w' hg => cmpOr2 _ _ _ g w' hg (by rw [e1]; rfl))
end Go.Proofs.YtoeecldhbabmbaaGreat
