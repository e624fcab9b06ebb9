/- median: fx.Check, vec.Check, May; isSize, isWindow. -/
import Derived.Test.YtfooakbcgjebfaaHvM
namespace Go.Proofs.Ytfooakbcgjebfaa
open Go.RowKit Go.Conc Go.Shelf
theorem ret_bool {a b : Bool} (h : a = b) : Ending.returned (.bool a) = .returned (.bool b) := by rw [h]
def okW (v : Int) : Bool := decide (-35184372088832 < v) && decide (v < 35184372088832)
def chk (v : Int) : Int := if okW v then 0 else 1
set_option maxHeartbeats 400000 in
theorem check_any (v : Int) (w : World) :
    Calls Try.prog 36 #[.int .i64 v] w fun e w' => e = .returned (.int .i64 (chk v)) ∧ w' = w := by
  by_cases h1 : v ≤ -35184372088832
  · have e1 : chk v = 1 := by unfold chk okW; rw [if_neg]; simp; omega
    rw [e1]
    go_enter Try.func36, Try.ntmps36
    go_wp2
    go_ret
    exact ⟨rfl, rfl⟩
  · by_cases h2 : 35184372088832 ≤ v
    · have e1 : chk v = 1 := by unfold chk okW; rw [if_neg]; simp; omega
      rw [e1]
      go_enter Try.func36, Try.ntmps36
      go_wp2
      go_ret
      exact ⟨rfl, rfl⟩
    · have e1 : chk v = 0 := by unfold chk okW; rw [if_pos]; simp; omega
      rw [e1]
      go_enter Try.func36, Try.ntmps36
      go_wp2
      go_ret
      exact ⟨rfl, rfl⟩

set_option maxHeartbeats 1000000 in
theorem of_any (x y z : Int) (w : World) :
    Calls Try.prog 27 #[.agg #[.int .i64 x, .int .i64 y, .int .i64 z]] w fun e w' => e = .returned (.agg #[.int .i64 x, .int .i64 y, .int .i64 z]) ∧ Ext w w' := by
  go_enter Try.func27, Try.ntmps27
  go_wp2_with fail
  exact bodyPost_ret (v := .agg #[.int .i64 x, .int .i64 y, .int .i64 z]) (by simp [results, Try.results27, go_sem]) rfl ⟨rfl, by repeat (first | with_reducible assumption | with_reducible exact Ext.refl _ | with_reducible refine Ext.drew ?_ | with_reducible refine Ext.drewN ?_ _ | with_reducible refine Ext.alloc ?_ _ | with_reducible refine Ext.set ?_ (by first | exact Nat.le_refl _ | (dsimp only; omega) | (simp; done)) _)⟩

/-- three words -/
def ok3 (a b c : Int) : Bool := okW a && (okW b && okW c)
theorem ix3 (T : TypeId) (hT : T = 54) (x y z : Int) : (∀ w : World, (Instr.index T (.agg #[.int .i64 x, .int .i64 y, .int .i64 z]) (.int .i64 0)).run Try.prog w = .ok (.int .i64 x) w) ∧ (∀ w : World, (Instr.index T (.agg #[.int .i64 x, .int .i64 y, .int .i64 z]) (.int .i64 1)).run Try.prog w = .ok (.int .i64 y) w) ∧ (∀ w : World, (Instr.index T (.agg #[.int .i64 x, .int .i64 y, .int .i64 z]) (.int .i64 2)).run Try.prog w = .ok (.int .i64 z) w) := by
  subst hT
  exact ⟨fun _ => by kernel_rfl, fun _ => by kernel_rfl, fun _ => by kernel_rfl⟩
set_option maxRecDepth 20000 in
set_option maxHeartbeats 4000000 in
theorem check_list (n : Nat) (A : Nat → Nat → Int) (b : Nat) (w : World) (hn : n ≤ 4) (h : ∀ i, i < n → ∀ j, j < 3 → w.cell? ⟨b, i * 3 + j, none⟩ = some (.int .i64 (A i j))) :
    Calls Try.prog 26 #[.slice (some ⟨b, 0, none⟩) n n] w fun e w' => (∃ r : Int, e = .returned (.int .i64 r) ∧ (r = 0 ∧ (∀ i, i < n → ok3 (A i 0) (A i 1) (A i 2) = true) ∨ r = 1 ∧ ∃ i, i < n ∧ ok3 (A i 0) (A i 1) (A i 2) = false)) ∧ Ext w w' := by
  have HC : Hid (∀ v w', Calls Try.prog 36 #[.int .i64 v] w' fun e w'' => e = .returned (.int .i64 (chk v)) ∧ w'' = w') := check_any
  have hh : Hid _ := h
  clear h
  go_enter Try.func26, Try.ntmps26
  go_wp2_with fail
  go_loopw [10] (fun i wr => ∃ k : Nat, k ≤ n ∧ i = .int .i64 (k : Int) ∧ (∀ i, i < k → ok3 (A i 0) (A i 1) (A i 2) = true) ∧ Ext w wr) (fun i _ => n - (intOf i).toNat)
  case atStart => exact ⟨0, by omega, rfl, fun i hi => by omega, Ext.refl _⟩
  case round =>
    obtain ⟨k, hk, rfl, hok, hx⟩ := hrel
    have HK : Hid _ := hok
    clear hok
    by_cases hlt : k < n
    · have c0 := hx.keepc (hh.out k hlt 0 (by omega))
      rw [Nat.add_zero] at c0
      have c1 := hx.keepc (hh.out k hlt 1 (by omega))
      have c2 := hx.keepc (hh.out k hlt 2 (by omega))
      have HB : Hid (ok3 (A k 0) (A k 1) (A k 2) = false → ∃ i, i < n ∧ ok3 (A i 0) (A i 1) (A i 2) = false) := fun h => ⟨k, hlt, h⟩
      have HG : Hid (ok3 (A k 0) (A k 1) (A k 2) = true → ∀ i, i < k + 1 → ok3 (A i 0) (A i 1) (A i 2) = true) := fun h i hi => by
        rcases Nat.lt_or_ge i k with h1 | h1
        · exact HK.out i h1
        · obtain rfl : i = k := by omega
          exact h
      have hlt' : (k : Int) < (n : Int) := by omega
      generalize A k 0 = x0 at *
      generalize A k 1 = x1 at *
      generalize A k 2 = x2 at *
      obtain ⟨i0, i1, i2⟩ := ix3 54 rfl x0 x1 x2
      cases g0 : okW x0
      · have e0 : chk x0 = 1 := by unfold chk; rw [g0]; rfl
        have HF : Hid _ := HB.out (by unfold ok3; rw [g0]; rfl)
        clear g0 HB HG
        go_wp2_with fail
        refine wp_loop_rounds 4 ?_
        rw [rounds_succ]
        go_wp2_with (go_at_call 36; refine (HC.out _ _).mono ?_; rintro e wx ⟨rfl, hwx⟩; have hwy := hwx.symm; clear hwx; subst hwy)
        go_ret
        exact ⟨⟨1, rfl, Or.inr ⟨rfl, HF.out⟩⟩, by repeat (first | with_reducible assumption | with_reducible exact Ext.refl _ | with_reducible refine Ext.drew ?_ | with_reducible refine Ext.drewN ?_ _ | with_reducible refine Ext.alloc ?_ _ | with_reducible refine Ext.set ?_ (by first | exact Nat.le_refl _ | (dsimp only; omega) | (simp; done)) _)⟩
      · have e0 : chk x0 = 0 := by unfold chk; rw [g0]; rfl
        cases g1 : okW x1
        · have e1 : chk x1 = 1 := by unfold chk; rw [g1]; rfl
          have HF : Hid _ := HB.out (by unfold ok3; rw [g0, g1]; rfl)
          clear g0 g1 HB HG
          go_wp2_with fail
          refine wp_loop_rounds 4 ?_
          rw [rounds_succ]
          go_wp2_with (go_at_call 36; refine (HC.out _ _).mono ?_; rintro e wx ⟨rfl, hwx⟩; have hwy := hwx.symm; clear hwx; subst hwy)
          rw [rounds_succ]
          go_wp2_with (go_at_call 36; refine (HC.out _ _).mono ?_; rintro e wx ⟨rfl, hwx⟩; have hwy := hwx.symm; clear hwx; subst hwy)
          go_ret
          exact ⟨⟨1, rfl, Or.inr ⟨rfl, HF.out⟩⟩, by repeat (first | with_reducible assumption | with_reducible exact Ext.refl _ | with_reducible refine Ext.drew ?_ | with_reducible refine Ext.drewN ?_ _ | with_reducible refine Ext.alloc ?_ _ | with_reducible refine Ext.set ?_ (by first | exact Nat.le_refl _ | (dsimp only; omega) | (simp; done)) _)⟩
        · have e1 : chk x1 = 0 := by unfold chk; rw [g1]; rfl
          cases g2 : okW x2
          · have e2 : chk x2 = 1 := by unfold chk; rw [g2]; rfl
            have HF : Hid _ := HB.out (by unfold ok3; rw [g0, g1, g2]; rfl)
            clear g0 g1 g2 HB HG
            go_wp2_with fail
            refine wp_loop_rounds 4 ?_
            rw [rounds_succ]
            go_wp2_with (go_at_call 36; refine (HC.out _ _).mono ?_; rintro e wx ⟨rfl, hwx⟩; have hwy := hwx.symm; clear hwx; subst hwy)
            rw [rounds_succ]
            go_wp2_with (go_at_call 36; refine (HC.out _ _).mono ?_; rintro e wx ⟨rfl, hwx⟩; have hwy := hwx.symm; clear hwx; subst hwy)
            rw [rounds_succ]
            go_wp2_with (go_at_call 36; refine (HC.out _ _).mono ?_; rintro e wx ⟨rfl, hwx⟩; have hwy := hwx.symm; clear hwx; subst hwy)
            go_ret
            exact ⟨⟨1, rfl, Or.inr ⟨rfl, HF.out⟩⟩, by repeat (first | with_reducible assumption | with_reducible exact Ext.refl _ | with_reducible refine Ext.drew ?_ | with_reducible refine Ext.drewN ?_ _ | with_reducible refine Ext.alloc ?_ _ | with_reducible refine Ext.set ?_ (by first | exact Nat.le_refl _ | (dsimp only; omega) | (simp; done)) _)⟩
          · have e2 : chk x2 = 0 := by unfold chk; rw [g2]; rfl
            have HF : Hid _ := HG.out (by unfold ok3; rw [g0, g1, g2]; rfl)
            clear g0 g1 g2 HB HG
            go_wp2_with fail
            refine wp_loop_rounds 4 ?_
            rw [rounds_succ]
            go_wp2_with (go_at_call 36; refine (HC.out _ _).mono ?_; rintro e wx ⟨rfl, hwx⟩; have hwy := hwx.symm; clear hwx; subst hwy)
            rw [rounds_succ]
            go_wp2_with (go_at_call 36; refine (HC.out _ _).mono ?_; rintro e wx ⟨rfl, hwx⟩; have hwy := hwx.symm; clear hwx; subst hwy)
            rw [rounds_succ]
            go_wp2_with (go_at_call 36; refine (HC.out _ _).mono ?_; rintro e wx ⟨rfl, hwx⟩; have hwy := hwx.symm; clear hwx; subst hwy)
            rw [rounds_succ]
            go_wp2_with (go_at_call 36; refine (HC.out _ _).mono ?_; rintro e wx ⟨rfl, hwx⟩; have hwy := hwx.symm; clear hwx; subst hwy)
            go_roundw
            case rel => exact ⟨k + 1, by omega, by go_num, HF.out, by repeat (first | with_reducible assumption | with_reducible exact Ext.refl _ | with_reducible refine Ext.drew ?_ | with_reducible refine Ext.drewN ?_ _ | with_reducible refine Ext.alloc ?_ _ | with_reducible refine Ext.set ?_ (by first | exact Nat.le_refl _ | (dsimp only; omega) | (simp; done)) _)⟩
            case measure => simp [intOf]; omega
    · go_wp2_with fail
      go_ret
      exact ⟨⟨0, rfl, Or.inl ⟨rfl, fun i hi => HK.out i (by omega)⟩⟩, hx⟩
def one3 (a0 a1 a2 : Int) (_i j : Nat) : Int := if j = 0 then a0 else if j = 1 then a1 else a2
theorem cells3_at (a0 a1 a2 : Int) (W : World) (n : Nat) (T : TypeId) (hn : W.heap.size = n) : ∀ i, i < 1 → ∀ j, j < 3 → (W.alloc (.cells #[.int .i64 a0, .int .i64 a1, .int .i64 a2] T)).cell? ⟨n, i * 3 + j, none⟩ = some (.int .i64 (one3 a0 a1 a2 i j)) := by
  subst hn
  intro i hi j hj
  obtain rfl : i = 0 := by omega
  have hj' : j = 0 ∨ j = 1 ∨ j = 2 := by omega
  rcases hj' with rfl | rfl | rfl <;> simp [go_sem, one3]
theorem check1_yes (a0 a1 a2 : Int) (W : World) (n : Nat) (T : TypeId) (hn : W.heap.size = n) (h1 : ok3 a0 a1 a2 = true) :
    Calls Try.prog 26 #[.slice (some ⟨n, 0, none⟩) 1 1] (W.alloc (.cells #[.int .i64 a0, .int .i64 a1, .int .i64 a2] T)) fun e w' => e = .returned (.int .i64 0) ∧ Ext (W.alloc (.cells #[.int .i64 a0, .int .i64 a1, .int .i64 a2] T)) w' := by
  refine (check_list 1 (one3 a0 a1 a2) n _ (by omega) (cells3_at a0 a1 a2 W n T hn)).mono ?_
  rintro e w1 ⟨⟨r, rfl, hr⟩, x⟩
  rcases hr with ⟨rfl, _⟩ | ⟨_, i, hi, hb⟩
  · exact ⟨rfl, x⟩
  · exfalso
    simp [one3, h1] at hb
theorem check1_no (a0 a1 a2 : Int) (W : World) (n : Nat) (T : TypeId) (hn : W.heap.size = n) (h : ok3 a0 a1 a2 = false) :
    Calls Try.prog 26 #[.slice (some ⟨n, 0, none⟩) 1 1] (W.alloc (.cells #[.int .i64 a0, .int .i64 a1, .int .i64 a2] T)) fun e w' => e = .returned (.int .i64 1) ∧ Ext (W.alloc (.cells #[.int .i64 a0, .int .i64 a1, .int .i64 a2] T)) w' := by
  refine (check_list 1 (one3 a0 a1 a2) n _ (by omega) (cells3_at a0 a1 a2 W n T hn)).mono ?_
  rintro e w1 ⟨⟨r, rfl, hr⟩, x⟩
  rcases hr with ⟨rfl, hk⟩ | ⟨rfl, _⟩
  · exfalso
    have h1 := hk 0 (by omega)
    simp [one3] at h1
    rw [h1] at h
    cases h
  · exact ⟨rfl, x⟩
def chk3 (x y z : Int) : Int := if ok3 x y z then 0 else 1
set_option maxRecDepth 20000 in
set_option maxHeartbeats 4000000 in
theorem vCheck_any (x y z : Int) (w : World) :
    Calls Try.prog 18 #[.agg #[.int .i64 x, .int .i64 y, .int .i64 z]] w fun e w' => e = .returned (.int .i64 (chk3 x y z)) ∧ Ext w w' := by
  have HF : Hid _ := of_any x y z
  have HC : Hid (∀ (W : World) (n : Nat) (T : TypeId), W.heap.size = n → Calls Try.prog 26 #[.slice (some ⟨n, 0, none⟩) 1 1] (W.alloc (.cells #[.int .i64 x, .int .i64 y, .int .i64 z] T)) fun e w' => e = .returned (.int .i64 (chk3 x y z)) ∧ Ext (W.alloc (.cells #[.int .i64 x, .int .i64 y, .int .i64 z] T)) w') := by
    intro W n T hn
    unfold chk3
    cases h : ok3 x y z
    · exact check1_no x y z W n T hn h
    · exact check1_yes x y z W n T hn h
  go_enter Try.func18, Try.ntmps18
  go_wp2_with fail
  refine (HF.out _).mono ?_
  rintro e w1 ⟨rfl, x1⟩
  have X1 : Ext w w1 := Ext.trans (by repeat (first | with_reducible assumption | with_reducible exact Ext.refl _ | with_reducible refine Ext.drew ?_ | with_reducible refine Ext.drewN ?_ _ | with_reducible refine Ext.alloc ?_ _ | with_reducible refine Ext.set ?_ (by first | exact Nat.le_refl _ | (dsimp only; omega) | (simp; done)) _)) x1
  clear x1
  go_wp2_with fail
  refine (HC.out _ _ _ rfl).mono ?_
  rintro e w2 ⟨rfl, x2⟩
  have X2 : Ext w w2 := Ext.trans (by repeat (first | with_reducible assumption | with_reducible exact Ext.refl _ | with_reducible refine Ext.drew ?_ | with_reducible refine Ext.drewN ?_ _ | with_reducible refine Ext.alloc ?_ _ | with_reducible refine Ext.set ?_ (by first | exact Nat.le_refl _ | (dsimp only; omega) | (simp; done)) _)) x2
  go_wp2_with fail
  go_ret
  exact ⟨rfl, X2⟩
set_option maxHeartbeats 400000 in
theorem may_any (v : Int) (w : World) :
    Calls Try.prog 24 #[.int .i64 v] w fun e w' => e = .returned (.bool (okW v)) ∧ w' = w := by
  by_cases h1 : -35184372088832 < v
  · by_cases h2 : v < 35184372088832
    · have e1 : Hid (true = okW v) := by show true = okW v; unfold okW; simp; omega
      go_enter Try.func24, Try.ntmps24
      go_wp2
      go_ret
      exact ⟨ret_bool (by rw [← e1.out]), rfl⟩
    · have e1 : Hid (false = okW v) := by show false = okW v; unfold okW; simp; omega
      go_enter Try.func24, Try.ntmps24
      go_wp2
      go_ret
      exact ⟨ret_bool (by rw [← e1.out]), rfl⟩
  · have e1 : Hid (false = okW v) := by show false = okW v; unfold okW; simp; omega
    go_enter Try.func24, Try.ntmps24
    go_wp2
    go_ret
    exact ⟨ret_bool (by rw [← e1.out]), rfl⟩
set_option maxHeartbeats 2000000 in
theorem mayv_any (x y z : Int) (w : World) :
    Calls Try.prog 14 #[.agg #[.int .i64 x, .int .i64 y, .int .i64 z]] w fun e w' => e = .returned (.bool (ok3 x y z)) ∧ Ext w w' := by
  have HM : Hid (∀ v w', Calls Try.prog 24 #[.int .i64 v] w' fun e w'' => e = .returned (.bool (okW v)) ∧ w'' = w') := may_any
  unfold ok3
  cases h0 : okW x
  · go_enter Try.func14, Try.ntmps14
    go_wp2_with (go_at_call 24; refine (HM.out _ _).mono ?_; rintro e wx ⟨rfl, hwx⟩; have hwy := hwx.symm; clear hwx; subst hwy)
    go_ret
    exact ⟨rfl, (Ext.refl _).alloc _⟩
  · cases h1 : okW y
    · go_enter Try.func14, Try.ntmps14
      go_wp2_with (go_at_call 24; refine (HM.out _ _).mono ?_; rintro e wx ⟨rfl, hwx⟩; have hwy := hwx.symm; clear hwx; subst hwy)
      go_ret
      exact ⟨rfl, (Ext.refl _).alloc _⟩
    · go_enter Try.func14, Try.ntmps14
      go_wp2_with (go_at_call 24; refine (HM.out _ _).mono ?_; rintro e wx ⟨rfl, hwx⟩; have hwy := hwx.symm; clear hwx; subst hwy)
      go_ret
      exact ⟨rfl, (Ext.refl _).alloc _⟩


/-- a vector -/
def okv (v : Vc) : Bool := ok3 v.x v.y v.z
theorem okv_chk (v : Vc) : chk3 v.x v.y v.z = if okv v then 0 else 1 := rfl
/-- how long a window may be -/
def okN (n : Int) : Bool := n == 1 || n == 3 || n == 5 || n == 7
set_option maxHeartbeats 1000000 in
theorem isSize_any (n : Int) (w : World) : Calls Try.prog 25 #[.int .i64 n] w fun e w' => e = .returned (.bool (okN n)) ∧ w' = w := by
  have ex : Hid (okN n = (n == 1 || n == 3 || n == 5 || n == 7)) := rfl
  by_cases h1 : n = 1
  · subst h1
    go_enter Try.func25, Try.ntmps25
    go_wp2
    go_ret
    exact ⟨rfl, rfl⟩
  · by_cases h3 : n = 3
    · subst h3
      go_enter Try.func25, Try.ntmps25
      go_wp2
      go_ret
      exact ⟨rfl, rfl⟩
    · by_cases h5 : n = 5
      · subst h5
        go_enter Try.func25, Try.ntmps25
        go_wp2
        go_ret
        exact ⟨rfl, rfl⟩
      · by_cases h7 : n = 7
        · subst h7
          go_enter Try.func25, Try.ntmps25
          go_wp2
          go_ret
          exact ⟨rfl, rfl⟩
        · have er : okN n = false := by rw [ex.out]; simp [h1, h3, h5, h7]
          rw [er]
          have ef : Hid ((n == 1 || n == 3 || n == 5 || n == 7) = false) := ex.out.symm.trans er
          clear er ex
          go_enter Try.func25, Try.ntmps25
          go_wp2
          go_ret
          exact ⟨ret_bool ef.out, rfl⟩
/-- a window -/
def okWin (ls : List Vc) (n : Int) : Bool := okN n && (decide ((ls.length : Int) ≤ n) && ls.all okv)
theorem okN_le {n : Int} (h : okN n = true) : 1 ≤ n ∧ n ≤ 7 := by
  unfold okN at h
  simp at h
  omega
theorem all_take {ls : List Vc} {k : Nat} {v : Vc} (hv : ls[k]? = some v) (h : (ls.take k).all okv = true) (h2 : okv v = true) : (ls.take (k + 1)).all okv = true := by
  rw [List.take_add_one, hv, List.all_append, h]
  simp [h2]
theorem all_not {ls : List Vc} {k : Nat} {v : Vc} (hv : ls[k]? = some v) (h2 : okv v = false) : ls.all okv = false := by
  have hm := List.mem_of_getElem? hv
  cases h : ls.all okv
  · rfl
  · rw [List.all_eq_true] at h
    rw [h v hm] at h2
    cases h2
set_option maxRecDepth 20000 in
set_option maxHeartbeats 4000000 in
theorem isWindow_any (ls : List Vc) (a : Option Addr) (lc : Nat) (n : Int) (w : World) (hV : VL w a ls) :
    Calls Try.prog 17 #[.slice a ls.length lc, .int .i64 n] w fun e w' => e = .returned (.bool (okWin ls n)) ∧ Ext w w' := by
  have HS : Hid (Calls Try.prog 25 #[.int .i64 n] w fun e w' => e = .returned (.bool (okN n)) ∧ w' = w) := isSize_any n w
  have HV : Hid (VL w a ls) := hV
  have HO : Hid (okWin ls n = (okN n && (decide ((ls.length : Int) ≤ n) && ls.all okv))) := rfl
  have HX : Hid (Ext w w) := Ext.refl w
  clear hV
  cases h0 : okN n
  · rw [h0] at HS
    have er : okWin ls n = false := by rw [HO.out, h0]; rfl
    rw [er]
    clear HO er h0
    go_enter Try.func17, Try.ntmps17
    go_wp2_with (go_at_call 25; refine HS.out.mono ?_; rintro e wx ⟨rfl, hwx⟩; have hwy := hwx.symm; clear hwx; subst hwy)
    go_ret
    exact ⟨rfl, HX.out⟩
  · obtain ⟨n1, n2⟩ := okN_le h0
    rw [h0] at HS
    by_cases hl : (ls.length : Int) ≤ n
    · have er : Hid (okWin ls n = ls.all okv) := by show _ = _; rw [HO.out, h0, decide_eq_true hl]; rfl
      have hgt : ¬ (n < (ls.length : Int)) := by omega
      have hll : ls.length ≤ 7 := by omega
      clear HO h0
      go_enter Try.func17, Try.ntmps17
      go_wp2_with (go_at_call 25; refine HS.out.mono ?_; rintro e wx ⟨rfl, hwx⟩; have hwy := hwx.symm; clear hwx; subst hwy)
      clear hgt hl n1 n2
      go_loopw [18] (fun i wr => ∃ k : Nat, k ≤ ls.length ∧ i = .int .i64 k ∧ Hid ((ls.take k).all okv = true ∧ Ext w wr)) (fun i _ => ls.length - (intOf i).toNat)
      case atStart => exact ⟨0, Nat.zero_le _, rfl, rfl, HX.out⟩
      case round =>
        obtain ⟨k, hk, rfl, hR⟩ := hrel
        by_cases hlt : k < ls.length
        · obtain ⟨v, hv⟩ : ∃ v, ls[k]? = some v := ⟨_, List.getElem?_eq_getElem hlt⟩
          obtain ⟨b, off, rfl, c0, c1, c2⟩ := (HV.out.ext hR.out.2) k v hv
          have HC : Hid (Calls Try.prog 18 #[rv v] (wr.alloc (cells3 v)) fun e w' => e = .returned (.int .i64 (if okv v then 0 else 1)) ∧ Ext w w') := (vCheck_any v.x v.y v.z _).mono fun e w' ⟨h1, h2⟩ => ⟨h1, (hR.out.2.alloc _).trans h2⟩
          cases hov : okv v
          · have ef : Hid (okWin ls n = false) := er.out.trans (all_not hv hov)
            rw [hov, if_neg (by simp)] at HC
            clear hv hov
            go_wp2_with (go_at_call 18; refine HC.out.mono ?_; rintro e w2 ⟨rfl, x2⟩)
            go_ret
            exact ⟨ret_bool ef.out.symm, x2⟩
          · have ht : Hid ((ls.take (k + 1)).all okv = true) := all_take hv hR.out.1 hov
            rw [hov, if_pos rfl] at HC
            clear hv hov
            go_wp2_with (go_at_call 18; refine HC.out.mono ?_; rintro e w2 ⟨rfl, x2⟩)
            have X2 : Hid (Ext w w2) := x2
            clear x2 HC c0 c1 c2
            go_roundw
            case measure => simp [intOf]; omega
            case rel => exact ⟨k + 1, by omega, by simp, ht.out, X2.out⟩
        · have hke : k = ls.length := by omega
          subst hke
          have ef : Hid (okWin ls n = true) := by
            show _ = _
            rw [er.out]
            have := hR.out.1
            rwa [List.take_length] at this
          go_wp2_with fail
          go_ret
          exact ⟨ret_bool ef.out.symm, hR.out.2⟩
    · have er : okWin ls n = false := by rw [HO.out, decide_eq_false hl]; simp
      rw [er]
      have hgt : n < (ls.length : Int) := by omega
      clear HO er h0 hl
      go_enter Try.func17, Try.ntmps17
      go_wp2_with (go_at_call 25; refine HS.out.mono ?_; rintro e wx ⟨rfl, hwx⟩; have hwy := hwx.symm; clear hwx; subst hwy)
      go_ret
      exact ⟨rfl, HX.out⟩
end Go.Proofs.Ytfooakbcgjebfaa
