/- vec: rowwise, Cross, Apply. -/
import Derived.Test.YtbmocnigmpmfkaaMg19
import Derived.Test.YtbmocnigmpmfkaaMg48
namespace Go.Proofs.Ytbmocnigmpmfkaa
open Go.RowKit Go.Shelf

def four12 (m0 m1 m2 m3 m4 m5 m6 m7 m8 a0 a1 a2 : Int) (i j : Nat) : Int :=
  if i = 0 then (if j = 0 then m0 else if j = 1 then m1 else m2) else if i = 1 then (if j = 0 then m3 else if j = 1 then m4 else m5) else if i = 2 then (if j = 0 then m6 else if j = 1 then m7 else m8) else (if j = 0 then a0 else if j = 1 then a1 else a2)
theorem cells12_at (m0 m1 m2 m3 m4 m5 m6 m7 m8 a0 a1 a2 : Int) (W : World) (n : Nat) (T : TypeId) (hn : W.heap.size = n) : ∀ i, i < 4 → ∀ j, j < 3 → (W.alloc (.cells #[.int .i64 m0, .int .i64 m1, .int .i64 m2, .int .i64 m3, .int .i64 m4, .int .i64 m5, .int .i64 m6, .int .i64 m7, .int .i64 m8, .int .i64 a0, .int .i64 a1, .int .i64 a2] T)).cell? ⟨n, i * 3 + j, none⟩ = some (.int .i64 (four12 m0 m1 m2 m3 m4 m5 m6 m7 m8 a0 a1 a2 i j)) := by
  subst hn
  intro i hi j hj
  have hi' : i = 0 ∨ i = 1 ∨ i = 2 ∨ i = 3 := by omega
  have hj' : j = 0 ∨ j = 1 ∨ j = 2 := by omega
  rcases hi' with rfl | rfl | rfl | rfl <;> rcases hj' with rfl | rfl | rfl <;> simp [go_sem, four12]
theorem check4_yes (m0 m1 m2 m3 m4 m5 m6 m7 m8 a0 a1 a2 : Int) (W : World) (n : Nat) (T : TypeId) (hn : W.heap.size = n) (h1 : ok3 m0 m1 m2 = true) (h2 : ok3 m3 m4 m5 = true) (h3 : ok3 m6 m7 m8 = true) (h4 : ok3 a0 a1 a2 = true) :
    Calls Try.prog 24 #[.slice (some ⟨n, 0, none⟩) 4 4] (W.alloc (.cells #[.int .i64 m0, .int .i64 m1, .int .i64 m2, .int .i64 m3, .int .i64 m4, .int .i64 m5, .int .i64 m6, .int .i64 m7, .int .i64 m8, .int .i64 a0, .int .i64 a1, .int .i64 a2] T)) fun e w' => e = .returned (.int .i64 0) ∧ Ext (W.alloc (.cells #[.int .i64 m0, .int .i64 m1, .int .i64 m2, .int .i64 m3, .int .i64 m4, .int .i64 m5, .int .i64 m6, .int .i64 m7, .int .i64 m8, .int .i64 a0, .int .i64 a1, .int .i64 a2] T)) w' := by
  refine (check_list 4 (four12 m0 m1 m2 m3 m4 m5 m6 m7 m8 a0 a1 a2) n _ (by omega) (cells12_at m0 m1 m2 m3 m4 m5 m6 m7 m8 a0 a1 a2 W n T hn)).mono ?_
  rintro e w1 ⟨⟨r, rfl, hr⟩, x⟩
  rcases hr with ⟨rfl, _⟩ | ⟨_, i, hi, hb⟩
  · exact ⟨rfl, x⟩
  · exfalso
    have hi' : i = 0 ∨ i = 1 ∨ i = 2 ∨ i = 3 := by omega
    rcases hi' with rfl | rfl | rfl | rfl
    · simp [four12, h1] at hb
    · simp [four12, h2] at hb
    · simp [four12, h3] at hb
    · simp [four12, h4] at hb
theorem check4_no (m0 m1 m2 m3 m4 m5 m6 m7 m8 a0 a1 a2 : Int) (W : World) (n : Nat) (T : TypeId) (hn : W.heap.size = n) (h : (ok3 m0 m1 m2 && (ok3 m3 m4 m5 && (ok3 m6 m7 m8 && ok3 a0 a1 a2))) = false) :
    Calls Try.prog 24 #[.slice (some ⟨n, 0, none⟩) 4 4] (W.alloc (.cells #[.int .i64 m0, .int .i64 m1, .int .i64 m2, .int .i64 m3, .int .i64 m4, .int .i64 m5, .int .i64 m6, .int .i64 m7, .int .i64 m8, .int .i64 a0, .int .i64 a1, .int .i64 a2] T)) fun e w' => e = .returned (.int .i64 1) ∧ Ext (W.alloc (.cells #[.int .i64 m0, .int .i64 m1, .int .i64 m2, .int .i64 m3, .int .i64 m4, .int .i64 m5, .int .i64 m6, .int .i64 m7, .int .i64 m8, .int .i64 a0, .int .i64 a1, .int .i64 a2] T)) w' := by
  refine (check_list 4 (four12 m0 m1 m2 m3 m4 m5 m6 m7 m8 a0 a1 a2) n _ (by omega) (cells12_at m0 m1 m2 m3 m4 m5 m6 m7 m8 a0 a1 a2 W n T hn)).mono ?_
  rintro e w1 ⟨⟨r, rfl, hr⟩, x⟩
  rcases hr with ⟨rfl, hk⟩ | ⟨rfl, _⟩
  · exfalso
    have h1 := hk 0 (by omega)
    have h2 := hk 1 (by omega)
    have h3 := hk 2 (by omega)
    have h4 := hk 3 (by omega)
    simp [four12] at h1 h2 h3 h4
    rw [h1, h2, h3, h4] at h
    cases h
  · exact ⟨rfl, x⟩
/-- nine cells of a variable -/
def H9 (w : World) (b : Nat) (v0 v1 v2 v3 v4 v5 v6 v7 v8 : Value) : Prop :=
  w.cell? ⟨b, 0, none⟩ = some v0 ∧ w.cell? ⟨b, 1, none⟩ = some v1 ∧ w.cell? ⟨b, 2, none⟩ = some v2 ∧ w.cell? ⟨b, 3, none⟩ = some v3 ∧ w.cell? ⟨b, 4, none⟩ = some v4 ∧ w.cell? ⟨b, 5, none⟩ = some v5 ∧ w.cell? ⟨b, 6, none⟩ = some v6 ∧ w.cell? ⟨b, 7, none⟩ = some v7 ∧ w.cell? ⟨b, 8, none⟩ = some v8
theorem H9.ext {w w' : World} {b : Nat} {v0 v1 v2 v3 v4 v5 v6 v7 v8 : Value} (h : H9 w b v0 v1 v2 v3 v4 v5 v6 v7 v8) (hx : Ext w w') : H9 w' b v0 v1 v2 v3 v4 v5 v6 v7 v8 := by
  obtain ⟨h0, h1, h2, h3, h4, h5, h6, h7, h8⟩ := h
  exact ⟨hx.keepc h0, hx.keepc h1, hx.keepc h2, hx.keepc h3, hx.keepc h4, hx.keepc h5, hx.keepc h6, hx.keepc h7, hx.keepc h8⟩
theorem h9_at {w : World} {b : Nat} {v0 v1 v2 v3 v4 v5 v6 v7 v8 : Value} {T : TypeId} (h : w.heap.size = b) : H9 (w.alloc (.cells #[v0, v1, v2, v3, v4, v5, v6, v7, v8] T)) b v0 v1 v2 v3 v4 v5 v6 v7 v8 := by
  subst h
  refine ⟨?_, ?_, ?_, ?_, ?_, ?_, ?_, ?_, ?_⟩ <;> simp [go_sem]
theorem H9.alloc {w : World} {b : Nat} {v0 v1 v2 v3 v4 v5 v6 v7 v8 : Value} (h : H9 w b v0 v1 v2 v3 v4 v5 v6 v7 v8) (o : Obj) : H9 (w.alloc o) b v0 v1 v2 v3 v4 v5 v6 v7 v8 := h.ext ((Ext.refl _).alloc o)

/-- a row times a vector, rounded -/
def rowQ (m0 m1 m2 a0 a1 a2 : Int) : Int := nearQ (dot3 m0 m1 m2 a0 a1 a2)
theorem wrap_neg {b : Int} (h : okW b = true) : wrap64 (-b) = -b := by
  have := okW_bounds h; unfold wrap64; omega
theorem okW_wrap {b : Int} (h1 : -9223372036854775808 ≤ b) (h2 : b ≤ 9223372036854775807) : okW (wrap64 (-b)) = okW b := by
  rw [Bool.eq_iff_iff]; unfold okW wrap64; simp; omega
end Go.Proofs.Ytbmocnigmpmfkaa
