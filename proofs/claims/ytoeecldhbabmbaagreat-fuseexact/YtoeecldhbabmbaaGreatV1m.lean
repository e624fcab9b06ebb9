/- vec: of, across. vec: check of one vector, Check. -/
import Derived.Test.YtoeecldhbabmbaaGreatMg10
import Derived.Test.YtoeecldhbabmbaaGreatMg2
open Go.Value renaming int → J, agg → zG
open Go.IntKind renaming i64 → zq
namespace Go.Proofs.YtoeecldhbabmbaaGreat
open Go.RowKit Go.Shelf
set_option maxHeartbeats 1000000 in
theorem of_any (x y z : Int) (w : World) :
    Calls Tryz.prog 76 #[zG #[J zq x, J zq y, J zq z]] w fun e w' => e = .returned (zG #[J zq x, J zq y, J zq z]) ∧ Ext w w' := by
  go_enter Tryz.func76, Tryz.ntmps76
  go_wp2_with fail
  exact bodyPost_ret (v := zG #[J zq x, J zq y, J zq z]) (by simp [results, Tryz.results76, go_sem]) rfl ⟨rfl, xa⟩
set_option maxHeartbeats 1000000 in
theorem across_any (x y z : Int) (w : World) :
    Calls Tryz.prog 112 #[zG #[J zq x, J zq y, J zq z]] w fun e w' => e = .returned (zG #[J zq 0, J zq z, J zq (wrap64 (-y)), J zq (wrap64 (-z)), J zq 0, J zq x, J zq y, J zq (wrap64 (-x)), J zq 0]) ∧ Ext w w' := by
  go_enter Tryz.func112, Tryz.ntmps112
  go_wp2_with fail
  go_region
  go_wp2_with fail
  exact bodyPost_ret (v := zG #[J zq 0, J zq z, J zq (wrap64 (-y)), J zq (wrap64 (-z)), J zq 0, J zq x, J zq y, J zq (wrap64 (-x)), J zq 0]) (by simp [results, Tryz.results112, go_sem]) rfl ⟨rfl, xa⟩
def one3 (a0 a1 a2 : Int) (_i j : Nat) : Int := if j = 0 then a0 else if j = 1 then a1 else a2
theorem cells3_at (a0 a1 a2 : Int) (W : World) (n : Nat) (T : TypeId) (hn : W.heap.size = n) : ∀ i, i < 1 → ∀ j, j < 3 → (W.alloc (.cells #[J zq a0, J zq a1, J zq a2] T)).cell? ⟨n, i * 3 + j, none⟩ = some (J zq (one3 a0 a1 a2 i j)) := by
  subst hn
  intro i hi j hj
  obtain rfl : i = 0 := by omega
  have hj' : j = 0 ∨ j = 1 ∨ j = 2 := by omega
  rcases hj' with rfl | rfl | rfl <;> simp [go_sem, one3]
theorem check1_yes (a0 a1 a2 : Int) (W : World) (n : Nat) (T : TypeId) (hn : W.heap.size = n) (h1 : ok3 a0 a1 a2 = true) :
    Calls Tryz.prog 75 #[.slice (some ⟨n, 0, none⟩) 1 1] (W.alloc (.cells #[J zq a0, J zq a1, J zq a2] T)) fun e w' => e = .returned (J zq 0) ∧ Ext (W.alloc (.cells #[J zq a0, J zq a1, J zq a2] T)) w' := by
  refine (check_list 1 (one3 a0 a1 a2) n _ (by omega) (cells3_at a0 a1 a2 W n T hn)).mono ?_
  rintro e w1 ⟨⟨r, rfl, hr⟩, x⟩
  rcases hr with ⟨rfl, _⟩ | ⟨_, i, hi, hb⟩
  · exact ⟨rfl, x⟩
  · exfalso
    simp [one3, h1] at hb
theorem check1_no (a0 a1 a2 : Int) (W : World) (n : Nat) (T : TypeId) (hn : W.heap.size = n) (h : ok3 a0 a1 a2 = false) :
    Calls Tryz.prog 75 #[.slice (some ⟨n, 0, none⟩) 1 1] (W.alloc (.cells #[J zq a0, J zq a1, J zq a2] T)) fun e w' => e = .returned (J zq 1) ∧ Ext (W.alloc (.cells #[J zq a0, J zq a1, J zq a2] T)) w' := by
  refine (check_list 1 (one3 a0 a1 a2) n _ (by omega) (cells3_at a0 a1 a2 W n T hn)).mono ?_
  rintro e w1 ⟨⟨r, rfl, hr⟩, x⟩
  rcases hr with ⟨rfl, hk⟩ | ⟨rfl, _⟩
  · exfalso
    have h1 := hk 0 (by omega)
    simp [one3] at h1
    rw [h1] at h
    cases h
  · exact ⟨rfl, x⟩
def chk3 (x y z : Int) : Int := if ok3 x y z then 0 else 1
set_option maxRecDepth 20000 in
set_option maxHeartbeats 4000000 in
theorem vCheck_any (x y z : Int) (w : World) :
    Calls Tryz.prog 36 #[zG #[J zq x, J zq y, J zq z]] w fun e w' => e = .returned (J zq (chk3 x y z)) ∧ Ext w w' := by
  have HF : Hid _ := of_any x y z
  have HC : Hid (∀ (W : World) (n : Nat) (T : TypeId), W.heap.size = n → Calls Tryz.prog 75 #[.slice (some ⟨n, 0, none⟩) 1 1] (W.alloc (.cells #[J zq x, J zq y, J zq z] T)) fun e w' => e = .returned (J zq (chk3 x y z)) ∧ Ext (W.alloc (.cells #[J zq x, J zq y, J zq z] T)) w') := by
    intro W n T hn
    unfold chk3
    cases h : ok3 x y z
    · exact check1_no x y z W n T hn h
    · exact check1_yes x y z W n T hn h
  go_enter Tryz.func36, Tryz.ntmps36
  go_wp2_with fail
  refine (HF.out _).mono ?_
  rintro e w1 ⟨rfl, x1⟩
  have X1 : Ext w w1 := Ext.trans xa x1
  clear x1
  go_wp2_with fail
  refine (HC.out _ _ _ rfl).mono ?_
  rintro e w2 ⟨rfl, x2⟩
  have X2 : Ext w w2 := Ext.trans xa x2
  go_wp2_with fail
  go_ret
  exact ⟨rfl, X2⟩
end Go.Proofs.YtoeecldhbabmbaaGreat
