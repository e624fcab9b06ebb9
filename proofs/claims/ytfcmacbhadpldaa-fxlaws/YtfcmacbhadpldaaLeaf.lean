/- Contracts of the leaves of package fx: Check, num, fit, size. -/
import Derived.Test.YtfcmacbhadpldaaRows
import Derived.WalkKit
import Derived.WalkSpells
import Derived.WalkLawsBesides
import Derived.Deep.RegionWith
namespace Go.Proofs.Ytfcmacbhadpldaa
open Go.RowKit

def okW (v : Int) : Bool := decide (-35184372088832 < v) && decide (v < 35184372088832)
def chk (v : Int) : Int := if okW v then 0 else 1

set_option maxHeartbeats 400000 in
theorem check_any (v : Int) (w : World) :
    Calls Try.prog 22 #[.int .i64 v] w fun e w' => e = .returned (.int .i64 (chk v)) ∧ w' = w := by
  by_cases h1 : v ≤ -35184372088832
  · have e1 : chk v = 1 := by unfold chk okW; rw [if_neg]; simp; omega
    rw [e1]
    go_enter Try.func22, Try.ntmps22
    go_wp2
    go_ret
    exact ⟨rfl, rfl⟩
  · by_cases h2 : 35184372088832 ≤ v
    · have e1 : chk v = 1 := by unfold chk okW; rw [if_neg]; simp; omega
      rw [e1]
      go_enter Try.func22, Try.ntmps22
      go_wp2
      go_ret
      exact ⟨rfl, rfl⟩
    · have e1 : chk v = 0 := by unfold chk okW; rw [if_pos]; simp; omega
      rw [e1]
      go_enter Try.func22, Try.ntmps22
      go_wp2
      go_ret
      exact ⟨rfl, rfl⟩

set_option maxHeartbeats 400000 in
theorem num_any (v : Int) (w : World) :
    Calls Try.prog 21 #[.int .i64 v] w fun e w' => e = .returned (.int .i64 v) ∧ w' = w := by
  go_enter Try.func21, Try.ntmps21
  go_wp2
  go_ret
  exact ⟨rfl, rfl⟩

set_option maxHeartbeats 400000 in
theorem fit_yes (v : Int) (w : World) (h : okW v = true) :
    Calls Try.prog 70 #[.int .i64 v] w fun e w' => e = .returned (.tuple #[.int .i64 v, .int .i64 0]) ∧ w' = w := by
  have hc : chk v = 0 := by unfold chk; rw [if_pos h]
  go_enter Try.func70, Try.ntmps70
  go_wp2_with (go_at_call 22; refine (check_any _ _).mono ?_; rintro e w' ⟨rfl, rfl⟩)
  go_ret2
  exact ⟨rfl, rfl⟩

set_option maxHeartbeats 400000 in
theorem fit_no (v : Int) (w : World) (h : okW v = false) :
    Calls Try.prog 70 #[.int .i64 v] w fun e w' => e = .returned (.tuple #[.int .i64 0, .int .i64 2]) ∧ w' = w := by
  have hc : chk v = 1 := by unfold chk; rw [h]; rfl
  go_enter Try.func70, Try.ntmps70
  go_wp2_with (go_at_call 22; refine (check_any _ _).mono ?_; rintro e w' ⟨rfl, rfl⟩)
  go_ret2
  exact ⟨rfl, rfl⟩

theorem ret_int {k : IntKind} {a b : Int} (h : a = b) : Ending.returned (.int k a) = .returned (.int k b) := by rw [h]
theorem size_neg (v : Int) (h1 : -9223372036854775808 ≤ v) (h : v < 0) : IntKind.u64.wrap (wrap64 (-v)) = (v.natAbs : Int) := by
  rw [IntKind.wrap_u64]; unfold wrap64; omega

set_option maxHeartbeats 400000 in
theorem size_any (v : Int) (w : World) (h1 : -9223372036854775808 ≤ v) (h2 : v ≤ 9223372036854775807) :
    Calls Try.prog 69 #[.int .i64 v] w fun e w' => e = .returned (.int .u64 (v.natAbs : Int)) ∧ w' = w := by
  by_cases h : v < 0
  · go_enter Try.func69, Try.ntmps69
    go_wp2
    go_ret
    exact ⟨ret_int (size_neg v h1 h), rfl⟩
  · go_enter Try.func69, Try.ntmps69
    go_wp2
    go_ret
    exact ⟨ret_int (by omega), rfl⟩

/-- Nothing that was there has turned; there may be more. -/
def Ext (w w' : World) : Prop := Below w.heap.size w w'
theorem Ext.refl (w : World) : Ext w w := Below.refl _ _
theorem Ext.size {w w' : World} (h : Ext w w') : w.heap.size ≤ w'.heap.size := Below.size h
theorem Ext.trans {a b c : World} (h : Ext a b) (k : Ext b c) : Ext a c := Below.trans h (Below.mono k h.size)
theorem Ext.drew {a w : World} (h : Ext a w) : Ext a w.drew := Below.drew h
theorem Ext.alloc {a w : World} (h : Ext a w) (o : Obj) : Ext a (w.alloc o) := Below.alloc h h.size o
theorem Ext.lay {w w' : World} (h : Ext w w') : (∀ b o, b < w.heap.size → w'.cell? ⟨b, o, none⟩ = w.cell? ⟨b, o, none⟩) ∧ (∀ b o, b < w.heap.size → w'.frozen? ⟨b, o, none⟩ = w.frozen? ⟨b, o, none⟩) ∧ w.heap.size ≤ w'.heap.size :=
  ⟨fun b o k => Below.cell (p := ⟨b, o, none⟩) h k, fun b o k => Below.frozen (p := ⟨b, o, none⟩) h k, h.size⟩

set_option maxHeartbeats 400000 in
theorem eachErr_any (a b : Int) (w : World) :
    Calls Try.prog 79 #[.agg #[.int .i64 a, .int .i64 b], .func (.func 22) #[] #[]] w fun e w' => e = .returned (.agg #[.int .i64 (chk a), .int .i64 (chk b)]) ∧ Ext w w' := by
  go_enter Try.func79, Try.ntmps79
  go_wp2
  go_region_with (go_at_call 22; refine (check_any _ _).mono ?_; rintro e w' ⟨rfl, rfl⟩)
  all_goals
    go_wp2
    exact bodyPost_ret (v := .agg #[.int .i64 (chk a), .int .i64 (chk b)]) (by simp [results, Try.results79, go_sem]) rfl ⟨rfl, (((Ext.refl _).alloc _).alloc _).drew⟩

theorem ret_bool {a b : Bool} (h : a = b) : Ending.returned (.bool a) = .returned (.bool b) := by rw [h]
theorem chk_ok {a : Int} (h : chk a = 0) : okW a = true := by
  unfold chk at h; split at h
  · assumption
  · omega
theorem chk_no {a : Int} (h : ¬ chk a = 0) : okW a = false := by
  unfold chk at h; split at h
  · omega
  · rename_i h2; simpa using h2
theorem words1 {a b : Int} (h : chk a = 0) (k : chk b = 0) : true = (okW a && okW b) := by rw [chk_ok h, chk_ok k]; rfl
theorem words2 {a b : Int} (h : chk a = 0) (k : ¬ chk b = 0) : false = (okW a && okW b) := by rw [chk_ok h, chk_no k]; rfl
theorem words3 {a b : Int} (h : ¬ chk a = 0) : false = (okW a && okW b) := by rw [chk_no h]; rfl

set_option maxHeartbeats 400000 in
theorem words_any (a b : Int) (w : World) :
    Calls Try.prog 54 #[.agg #[.int .i64 a, .int .i64 b]] w fun e w' => e = .returned (.bool (okW a && okW b)) ∧ Ext w w' := by
  go_enter Try.func54, Try.ntmps54
  go_wp2_with (go_at_call 79; refine (eachErr_any _ _ _).mono ?_; rintro e w' ⟨rfl, hx⟩)
  all_goals
    go_ret
    exact ⟨ret_bool (by first | exact words1 ‹_› ‹_› | exact words2 ‹_› ‹_› | exact words3 ‹_›), ((Ext.refl _).alloc _).trans hx⟩

set_option maxHeartbeats 400000 in
theorem eachSize_any (a b : Int) (w : World) (h1 : -9223372036854775808 ≤ a) (h2 : a ≤ 9223372036854775807) (k1 : -9223372036854775808 ≤ b) (k2 : b ≤ 9223372036854775807) :
    Calls Try.prog 68 #[.agg #[.int .i64 a, .int .i64 b], .func (.func 69) #[] #[]] w fun e w' => e = .returned (.agg #[.int .u64 (a.natAbs : Int), .int .u64 (b.natAbs : Int)]) ∧ Ext w w' := by
  go_enter Try.func68, Try.ntmps68
  go_wp2
  go_region_with (go_at_call 69; refine (size_any _ _ (by omega) (by omega)).mono ?_; rintro e w' ⟨rfl, rfl⟩)
  all_goals
    go_wp2
    exact bodyPost_ret (v := .agg #[.int .u64 (a.natAbs : Int), .int .u64 (b.natAbs : Int)]) (by simp [results, Try.results68, go_sem]) rfl ⟨rfl, (((Ext.refl _).alloc _).alloc _).drew⟩
end Go.Proofs.Ytfcmacbhadpldaa
