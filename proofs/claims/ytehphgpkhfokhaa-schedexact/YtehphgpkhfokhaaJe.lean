/- wheel: heap.ahead. -/
import Derived.Test.YtehphgpkhfokhaaJd
namespace Go.Proofs.Ytehphgpkhfokhaa
open Go.RowKit
theorem meth_ahead (x y z : Int) (w : World) : (method 218 90 (.agg #[.int .i64 x, .int .i64 y, .int .i64 z]) "gimbal/wheel.ahead").run Try.prog w = .ok (78, .agg #[.int .i64 x, .int .i64 y, .int .i64 z]) w := rfl
set_option maxRecDepth 20000 in
set_option maxHeartbeats 4000000 in
theorem hahead_any {p g cap : Nat} {xs : List Tm} {T : Int} (i j : Nat) (w : World) (h : HS w p (.slice (some ⟨g, 0, none⟩) xs.length cap) xs T) (hi : i < xs.length) (hj : j < xs.length) :
    Calls Try.prog 58 #[.pointer (some ⟨p, 1, none⟩), .int .i64 i, .int .i64 j] w fun e w' => e = .returned (.bool (dlt (gt xs i) (gt xs j))) ∧ Ext w w' := by
  have HT : Hid (∀ w', Calls Try.prog 78 #[.agg #[.int .i64 (gt xs i).1, .int .i64 (gt xs i).2.1, .int .i64 (gt xs i).2.2], .agg #[.int .i64 (gt xs j).1, .int .i64 (gt xs j).2.1, .int .i64 (gt xs j).2.2]] w' fun e w'' => e = .returned (.bool (dlt (gt xs i) (gt xs j))) ∧ Ext w' w'') := tahead_any _ _
  obtain ⟨i0, i1, i2⟩ := h.cells hi
  obtain ⟨j0, j1, j2⟩ := h.cells hj
  have hp := h.1.1
  have hi' : (i : Int) < (xs.length : Int) := by omega
  have hj' : (j : Int) < (xs.length : Int) := by omega
  clear h hi hj
  generalize (gt xs i).1 = a1 at *
  generalize (gt xs i).2.1 = a2 at *
  generalize (gt xs i).2.2 = a3 at *
  generalize (gt xs j).1 = b1 at *
  generalize (gt xs j).2.1 = b2 at *
  generalize (gt xs j).2.2 = b3 at *
  generalize dlt (gt xs i) (gt xs j) = R at *
  generalize xs.length = n at *
  have hm := meth_ahead a1 a2 a3
  go_enter Try.func58, Try.ntmps58
  go_wp2_with fail
  go_region_held (fun w' => w'.cell? ⟨p, 1, none⟩ = some (.slice (some ⟨g, 0, none⟩) n cap) ∧ w'.cell? ⟨g, i * 3, none⟩ = some (.int .i64 a1) ∧ w'.cell? ⟨g, i * 3 + 1, none⟩ = some (.int .i64 a2) ∧ w'.cell? ⟨g, i * 3 + 2, none⟩ = some (.int .i64 a3) ∧ w'.cell? ⟨g, j * 3, none⟩ = some (.int .i64 b1) ∧ w'.cell? ⟨g, j * 3 + 1, none⟩ = some (.int .i64 b2) ∧ w'.cell? ⟨g, j * 3 + 2, none⟩ = some (.int .i64 b3)) (first | (go_keep; done) | skip) (first | (go_at_call 78; refine (HT.out _).mono ?_; rintro e w1 ⟨rfl, x1⟩; have X1 : Ext w w1 := Ext.trans (by repeat (first | with_reducible assumption | with_reducible exact Ext.refl _ | with_reducible refine Ext.drew ?_)) x1; have hp := X1.keepc hp; have i0 := X1.keepc i0; have i1 := X1.keepc i1; have i2 := X1.keepc i2; have j0 := X1.keepc j0; have j1 := X1.keepc j1; have j2 := X1.keepc j2))
  all_goals
    go_wp2_with fail
    go_ret
    exact ⟨rfl, X1⟩
end Go.Proofs.Ytehphgpkhfokhaa
