/- tap: phase, rows, the row at a number. variables of three cells that are written. vec: three words, or refused. -/
import Derived.Test.YtojcndgoihkfnaaMg8
import Derived.Test.YtojcndgoihkfnaaW4m
import Derived.Test.YtojcndgoihkfnaaMg7
namespace Go.Proofs.Ytojcndgoihkfnaa
open Go.RowKit
/-- what a row tells, and which marks stand behind it -/
def rwK (k : Nat) : Int := match k with | 3 => 1 | 4 => 2 | _ => 0
def rwS (k : Nat) (s m : Int) : Int := match k with | 1 => m | 2 => s | _ => 0
def rwP (k : Nat) (p m : Int) : Int := match k with | 3 => m | 4 => 0 | _ => p
abbrev rwv (k : Nat) (s p m : Int) : Value := .agg #[.int .i64 (rwK k), .int .i64 (rwS k s m), .int .i64 (rwP k p m)]
/-- the table of rows -/
def TR (w : World) (b : Nat) (s p m : Int) : Prop := ∀ k, k < 6 → w.cell? ⟨b, k * 3, none⟩ = some (.int .i64 (rwK k)) ∧ w.cell? ⟨b, k * 3 + 1, none⟩ = some (.int .i64 (rwS k s m)) ∧ w.cell? ⟨b, k * 3 + 2, none⟩ = some (.int .i64 (rwP k p m))
theorem TR.ext {w w' : World} {b : Nat} {s p m : Int} (h : TR w b s p m) (x : Ext w w') : TR w' b s p m := fun k hk => ⟨x.keepc (h k hk).1, x.keepc (h k hk).2.1, x.keepc (h k hk).2.2⟩
set_option maxRecDepth 20000 in
set_option maxHeartbeats 4000000 in
theorem rows_any (on : Bool) (x y z s p m : Int) (w : World) : Calls Try.prog 20 #[.agg #[.bool on, .int .i64 x, .int .i64 y, .int .i64 z, .int .i64 s, .int .i64 p], .int .i64 m] w fun e w' => ∃ b, e = .returned (.slice (some ⟨b, 0, none⟩) 6 6) ∧ TR w' b s p m ∧ Ext w w' := by
  have B : Hid (HV (w.alloc (.cells #[.bool on, .int .i64 x, .int .i64 y, .int .i64 z, .int .i64 s, .int .i64 p] 26)) w.heap.size [.bool on, .int .i64 x, .int .i64 y, .int .i64 z, .int .i64 s, .int .i64 p]) := hv_at rfl
  have X0 : Hid (Ext w (w.alloc (.cells #[.bool on, .int .i64 x, .int .i64 y, .int .i64 z, .int .i64 s, .int .i64 p] 26))) := (Ext.refl w).alloc _
  go_enter Try.func20, Try.ntmps20
  go_upto_region 1 with fail
  generalize (w.alloc (.cells #[.bool on, .int .i64 x, .int .i64 y, .int .i64 z, .int .i64 s, .int .i64 p] 26)) = wa at *
  have k4 : wa.cell? ⟨w.heap.size, 4, none⟩ = some (.int .i64 s) := B.out.c 4 rfl
  have k5 : wa.cell? ⟨w.heap.size, 5, none⟩ = some (.int .i64 p) := B.out.c 5 rfl
  go_wp2_with fail
  go_ret
  refine ⟨wa.heap.size, rfl, fun k hk => ?_, X0.out.alloc _⟩
  match k, hk with
  | 0, _ | 1, _ | 2, _ | 3, _ | 4, _ | 5, _ => refine ⟨?_, ?_, ?_⟩ <;> simp [go_sem, rwK, rwS, rwP]
  | k + 6, h => omega
set_option maxRecDepth 20000 in
set_option maxHeartbeats 1000000 in
theorem attap_any (k : Nat) (hk : k < 6) (b : Nat) (s p m : Int) (w : World) (h : TR w b s p m) : Calls Try.prog 21 #[.slice (some ⟨b, 0, none⟩) 6 6, .int .i64 k] w fun e w' => e = .returned (.tuple #[rwv k s p m, .bool true]) ∧ Ext w w' := by
  have hx : Ext w (w.alloc (.cells #[.int .i64 0, .int .i64 0, .int .i64 0] 48)) := (Ext.refl w).alloc _
  have hx2 : Ext w (w.alloc (.cells #[.int .i64 (rwK k), .int .i64 (rwS k s m), .int .i64 (rwP k p m)] 48)) := (Ext.refl w).alloc _
  obtain ⟨c0, c1, c2⟩ := (h.ext hx) k hk
  have hki : (k : Int) < 6 := by omega
  go_enter Try.func21, Try.ntmps21
  go_wp2
  exact bodyPost_ret (v := .tuple #[rwv k s p m, .bool true]) (by simp [results, Try.results21, go_sem]) rfl ⟨rfl, hx2⟩
/-- what a sample finds -/
def phs (s p j m : Int) : Nat := if 9806650 < j then (if s = 0 then 1 else 2) else if s = 0 then 0 else if 60 < m - s then 5 else if p ≠ 0 ∧ m - p ≤ 300 then 4 else 3
theorem phs_lt (s p j m : Int) : phs s p j m < 6 := by
  unfold phs
  (repeat' split) <;> omega
theorem neg_wrap64 {a : Int} (h : -1099511627777 ≤ a) (k : a ≤ 1099511627777) : wrap64 a = a := by unfold wrap64; omega
set_option maxRecDepth 20000 in
set_option maxHeartbeats 8000000 in
theorem phase_any (on : Bool) (x y z s p j m : Int) (w : World) (hs : okMk s = true) (hp : okMk p = true) (hm : okMk m = true) : Calls Try.prog 22 #[.agg #[.bool on, .int .i64 x, .int .i64 y, .int .i64 z, .int .i64 s, .int .i64 p], .int .i64 j, .int .i64 m] w fun e w' => e = .returned (.int .i64 (phs s p j m)) ∧ Ext w w' := by
  obtain ⟨s1, s2⟩ := okMk_iff.1 hs
  obtain ⟨p1, p2⟩ := okMk_iff.1 hp
  obtain ⟨m1, m2⟩ := okMk_iff.1 hm
  have es : wrap64 (m - s) = m - s := neg_wrap64 (by omega) (by omega)
  have ep : wrap64 (m - p) = m - p := neg_wrap64 (by omega) (by omega)
  have B : Hid (HV (w.alloc (.cells #[.bool on, .int .i64 x, .int .i64 y, .int .i64 z, .int .i64 s, .int .i64 p] 26)) w.heap.size [.bool on, .int .i64 x, .int .i64 y, .int .i64 z, .int .i64 s, .int .i64 p]) := hv_at rfl
  have X0 : Hid (Ext w (w.alloc (.cells #[.bool on, .int .i64 x, .int .i64 y, .int .i64 z, .int .i64 s, .int .i64 p] 26))) := (Ext.refl w).alloc _
  clear hs hp hm s1 s2 p1 p2 m1 m2
  by_cases b1 : 9806650 < j
  · have d1 : decide (9806650 < j) = true := by simpa using b1
    by_cases b2 : s = 0
    · have er : phs s p j m = 1 := by unfold phs; rw [if_pos b1, if_pos b2]
      rw [er]
      subst b2
      clear er b1 es ep
      go_enter Try.func22, Try.ntmps22
      go_upto_region 1 with fail
      generalize (w.alloc (.cells #[.bool on, .int .i64 x, .int .i64 y, .int .i64 z, .int .i64 0, .int .i64 p] 26)) = wa at *
      have k4 : wa.cell? ⟨w.heap.size, 4, none⟩ = some (.int .i64 0) := B.out.c 4 rfl
      have k5 : wa.cell? ⟨w.heap.size, 5, none⟩ = some (.int .i64 p) := B.out.c 5 rfl
      go_quiet (fail)
      go_wp2_with fail
      all_goals
        refine bodyPost_ret (v := .int .i64 1) (by simp [results, Try.results22, go_sem, *]) rfl ⟨rfl, ?_⟩
        exact X0.out.drewN _
    · have er : phs s p j m = 2 := by unfold phs; rw [if_pos b1, if_neg b2]
      rw [er]
      have d2 : (s != 0) = true := by simpa using b2
      clear er b1 es ep b2
      go_enter Try.func22, Try.ntmps22
      go_upto_region 1 with fail
      generalize (w.alloc (.cells #[.bool on, .int .i64 x, .int .i64 y, .int .i64 z, .int .i64 s, .int .i64 p] 26)) = wa at *
      have k4 : wa.cell? ⟨w.heap.size, 4, none⟩ = some (.int .i64 s) := B.out.c 4 rfl
      have k5 : wa.cell? ⟨w.heap.size, 5, none⟩ = some (.int .i64 p) := B.out.c 5 rfl
      go_quiet (fail)
      go_wp2_with fail
      all_goals
        refine bodyPost_ret (v := .int .i64 2) (by simp [results, Try.results22, go_sem, *]) rfl ⟨rfl, ?_⟩
        exact X0.out.drewN _
  · have d1 : decide (9806650 < j) = false := by simpa using b1
    by_cases b2 : s = 0
    · have er : phs s p j m = 0 := by unfold phs; rw [if_neg b1, if_pos b2]
      rw [er]
      subst b2
      clear er b1 es ep
      go_enter Try.func22, Try.ntmps22
      go_upto_region 1 with fail
      generalize (w.alloc (.cells #[.bool on, .int .i64 x, .int .i64 y, .int .i64 z, .int .i64 0, .int .i64 p] 26)) = wa at *
      have k4 : wa.cell? ⟨w.heap.size, 4, none⟩ = some (.int .i64 0) := B.out.c 4 rfl
      have k5 : wa.cell? ⟨w.heap.size, 5, none⟩ = some (.int .i64 p) := B.out.c 5 rfl
      go_quiet (fail)
      go_wp2_with fail
      all_goals
        refine bodyPost_ret (v := .int .i64 0) (by simp [results, Try.results22, go_sem, *]) rfl ⟨rfl, ?_⟩
        exact X0.out.drewN _
    · have d2 : (s != 0) = true := by simpa using b2
      by_cases b3 : 60 < m - s
      · have er : phs s p j m = 5 := by unfold phs; rw [if_neg b1, if_neg b2, if_pos b3]
        rw [er]
        have d3 : decide (60 < m - s) = true := by simpa using b3
        clear er b1 ep b2 b3
        go_enter Try.func22, Try.ntmps22
        go_upto_region 1 with fail
        generalize (w.alloc (.cells #[.bool on, .int .i64 x, .int .i64 y, .int .i64 z, .int .i64 s, .int .i64 p] 26)) = wa at *
        have k4 : wa.cell? ⟨w.heap.size, 4, none⟩ = some (.int .i64 s) := B.out.c 4 rfl
        have k5 : wa.cell? ⟨w.heap.size, 5, none⟩ = some (.int .i64 p) := B.out.c 5 rfl
        go_quiet (fail)
        go_wp2_with fail
        all_goals
          refine bodyPost_ret (v := .int .i64 5) (by simp [results, Try.results22, go_sem, *]) rfl ⟨rfl, ?_⟩
          exact X0.out.drewN _
      · have d3 : decide (60 < m - s) = false := by simpa using b3
        by_cases b4 : p = 0
        · have er : phs s p j m = 3 := by unfold phs; rw [if_neg b1, if_neg b2, if_neg b3, if_neg (by omega)]
          rw [er]
          subst b4
          clear er b1 ep b2 b3
          go_enter Try.func22, Try.ntmps22
          go_upto_region 1 with fail
          generalize (w.alloc (.cells #[.bool on, .int .i64 x, .int .i64 y, .int .i64 z, .int .i64 s, .int .i64 0] 26)) = wa at *
          have k4 : wa.cell? ⟨w.heap.size, 4, none⟩ = some (.int .i64 s) := B.out.c 4 rfl
          have k5 : wa.cell? ⟨w.heap.size, 5, none⟩ = some (.int .i64 0) := B.out.c 5 rfl
          go_quiet (fail)
          go_wp2_with fail
          all_goals
            refine bodyPost_ret (v := .int .i64 3) (by simp [results, Try.results22, go_sem, *]) rfl ⟨rfl, ?_⟩
            exact X0.out.drewN _
        · have d4 : (p != 0) = true := by simpa using b4
          by_cases b5 : m - p ≤ 300
          · have er : phs s p j m = 4 := by unfold phs; rw [if_neg b1, if_neg b2, if_neg b3, if_pos ⟨b4, b5⟩]
            rw [er]
            have d5 : decide (m - p ≤ 300) = true := by simpa using b5
            clear er b1 b2 b3 b4 b5
            go_enter Try.func22, Try.ntmps22
            go_upto_region 1 with fail
            generalize (w.alloc (.cells #[.bool on, .int .i64 x, .int .i64 y, .int .i64 z, .int .i64 s, .int .i64 p] 26)) = wa at *
            have k4 : wa.cell? ⟨w.heap.size, 4, none⟩ = some (.int .i64 s) := B.out.c 4 rfl
            have k5 : wa.cell? ⟨w.heap.size, 5, none⟩ = some (.int .i64 p) := B.out.c 5 rfl
            go_quiet (fail)
            go_wp2_with fail
            all_goals
              refine bodyPost_ret (v := .int .i64 4) (by simp [results, Try.results22, go_sem, *]) rfl ⟨rfl, ?_⟩
              exact X0.out.drewN _
          · have er : phs s p j m = 3 := by unfold phs; rw [if_neg b1, if_neg b2, if_neg b3, if_neg (by omega)]
            rw [er]
            have d5 : decide (m - p ≤ 300) = false := by simpa using b5
            clear er b1 b2 b3 b4 b5
            go_enter Try.func22, Try.ntmps22
            go_upto_region 1 with fail
            generalize (w.alloc (.cells #[.bool on, .int .i64 x, .int .i64 y, .int .i64 z, .int .i64 s, .int .i64 p] 26)) = wa at *
            have k4 : wa.cell? ⟨w.heap.size, 4, none⟩ = some (.int .i64 s) := B.out.c 4 rfl
            have k5 : wa.cell? ⟨w.heap.size, 5, none⟩ = some (.int .i64 p) := B.out.c 5 rfl
            go_quiet (fail)
            go_wp2_with fail
            all_goals
              refine bodyPost_ret (v := .int .i64 3) (by simp [results, Try.results22, go_sem, *]) rfl ⟨rfl, ?_⟩
              exact X0.out.drewN _
end Go.Proofs.Ytojcndgoihkfnaa

namespace Go.Proofs.Ytojcndgoihkfnaa
open Go.RowKit Go.Shelf
theorem H3.farA {w : World} {b g o : Nat} {u v x y : Value} (h : H3 w b u v x) (hb : b ≠ g) : H3 (w.setCell ⟨g, o, none⟩ y) b u v x := by
  obtain ⟨h0, h1, h2, f0, f1, f2, hz⟩ := h
  have k : ∀ i, (w.setCell ⟨g, o, none⟩ y).cell? ⟨b, i, none⟩ = w.cell? ⟨b, i, none⟩ := fun i => World.cell?_setCell_other _ _ _ _ (by intro e; have := congrArg Addr.block e; dsimp only at this; omega)
  refine ⟨by rw [k]; exact h0, by rw [k]; exact h1, by rw [k]; exact h2, ?_, ?_, ?_, ?_⟩ <;> simp [go_sem, f0, f1, f2, hz]

theorem H3.set0 {w : World} {b : Nat} {u v x : Value} (h : H3 w b u v x) (u' : Value) : H3 (w.setCell ⟨b, 0, none⟩ u') b u' v x := by
  obtain ⟨h0, h1, h2, f0, f1, f2, hb⟩ := h
  refine ⟨?_, ?_, ?_, ?_, ?_, ?_, ?_⟩ <;> simp [go_sem, h0, h1, h2, f0, f1, f2, hb]
theorem H3.set1 {w : World} {b : Nat} {u v x : Value} (h : H3 w b u v x) (v' : Value) : H3 (w.setCell ⟨b, 1, none⟩ v') b u v' x := by
  obtain ⟨h0, h1, h2, f0, f1, f2, hb⟩ := h
  refine ⟨?_, ?_, ?_, ?_, ?_, ?_, ?_⟩ <;> simp [go_sem, h0, h1, h2, f0, f1, f2, hb]
theorem H3.set2 {w : World} {b : Nat} {u v x : Value} (h : H3 w b u v x) (x' : Value) : H3 (w.setCell ⟨b, 2, none⟩ x') b u v x' := by
  obtain ⟨h0, h1, h2, f0, f1, f2, hb⟩ := h
  refine ⟨?_, ?_, ?_, ?_, ?_, ?_, ?_⟩ <;> simp [go_sem, h0, h1, h2, f0, f1, f2, hb]
/-- three answers, one behind the other: all of it fails, if one does -/
def thr (r0 e0 r1 e1 r2 e2 : Int) : Value :=
  if e0 = 0 then if e1 = 0 then if e2 = 0 then .tuple #[.agg #[.int .i64 r0, .int .i64 r1, .int .i64 r2], .int .i64 0] else .tuple #[.agg #[.int .i64 0, .int .i64 0, .int .i64 0], .int .i64 e2] else .tuple #[.agg #[.int .i64 0, .int .i64 0, .int .i64 0], .int .i64 e1] else .tuple #[.agg #[.int .i64 0, .int .i64 0, .int .i64 0], .int .i64 e0]
end Go.Proofs.Ytojcndgoihkfnaa

namespace Go.Proofs.Ytojcndgoihkfnaa
open Go.RowKit Go.Shelf
def vres (s0 s1 s2 : Int) : Value := if ok3 s0 s1 s2 then .tuple #[.agg #[.int .i64 s0, .int .i64 s1, .int .i64 s2], .int .i64 0] else .tuple #[.agg #[.int .i64 0, .int .i64 0, .int .i64 0], .int .i64 2]
def vbad : Value := .tuple #[.agg #[.int .i64 0, .int .i64 0, .int .i64 0], .int .i64 1]
theorem fit_yes' {s : Int} (h : okW s = true) : fitR s = (s, 0) := by unfold fitR; rw [if_pos h]
theorem fit_no' {s : Int} (h : okW s = false) : fitR s = (0, 2) := by unfold fitR; rw [h]; rfl
theorem thr_fit (s0 s1 s2 : Int) : thr (fitR s0).1 (fitR s0).2 (fitR s1).1 (fitR s1).2 (fitR s2).1 (fitR s2).2 = vres s0 s1 s2 := by
  unfold vres ok3 thr
  cases h0 : okW s0
  · rw [fit_no' h0]; rfl
  · rw [fit_yes' h0]
    cases h1 : okW s1
    · rw [fit_no' h1]; rfl
    · rw [fit_yes' h1]
      cases h2 : okW s2
      · rw [fit_no' h2]; rfl
      · rw [fit_yes' h2]; rfl
theorem vres_shape (s0 s1 s2 : Int) : ∃ x y z e : Int, vres s0 s1 s2 = .tuple #[.agg #[.int .i64 x, .int .i64 y, .int .i64 z], .int .i64 e] := by
  unfold vres; split <;> exact ⟨_, _, _, _, rfl⟩
theorem ok3_parts {a b c : Int} (h : ok3 a b c = true) : okW a = true ∧ okW b = true ∧ okW c = true := by
  unfold ok3 at h; simp only [Bool.and_eq_true] at h; exact ⟨h.1, h.2.1, h.2.2⟩

end Go.Proofs.Ytojcndgoihkfnaa
