/- WheelNext. -/
import Derived.Test.YtiallnpmgdjdfaaL6
namespace Go.Proofs.Ytiallnpmgdjdfaa
open Go.RowKit
/-- what WheelNext's wheel holds -/
def Kept (w wr : World) (p : Nat) (v : Value) (S : List Tm) (T : Int) : Prop := Wh wr p v S T ∧ Ext w wr ∧ w.heap.size ≤ p ∧ ∀ i, v.ownBlock = some i → w.heap.size ≤ i
theorem Kept.ext {w wr w' : World} {p : Nat} {v : Value} {S : List Tm} {T : Int} (h : Kept w wr p v S T) (x : Ext wr w') : Kept w w' p v S T := ⟨h.1.ext x, h.2.1.trans x, h.2.2⟩
theorem Kept.goes {w wr w' : World} {p : Nat} {v v' : Value} {S S' : List Tm} {T T' : Int} (h : Kept w wr p v S T) (g : Goes p v v' wr w') (hw : Wh w' p v' S' T') : Kept w w' p v' S' T' := by
  obtain ⟨a, b⟩ := g.below h.2.1 h.2.2.1 h.2.2.2
  exact ⟨hw, a, h.2.2.1, b⟩
theorem take_any {p : Nat} {v : Value} {S : List Tm} {T : Int} (now : Int) (w : World) (h : Wh w p v S T) (hT : T ≤ 100000) :
    Calls Try.prog 15 #[.pointer (some ⟨p, 0, none⟩), .int .i64 now] w fun e w' => ∃ a cap, e = .returned (.slice a (due now S).length cap) ∧ w'.ownsRow w.heap.size Ea 2 (.slice a (due now S).length cap) (due now S).length (flat2 (due now S)) ∧ ∃ v', Wh w' p v' (left now S) T ∧ Goes p v v' w w' := by
  obtain ⟨xs, h, hw⟩ := h
  refine (take_raw now w h hw hT).mono ?_
  rintro e w' ⟨r, rfl, q1, ⟨v', ys, q2, q3, q4⟩, q5⟩
  obtain ⟨a, cap, rfl⟩ : ∃ a cap, r = .slice a (due now S).length cap := by
    rcases q1.2 with ⟨e1, e2⟩ | ⟨g, cap, cur, e1, _⟩
    · exact ⟨none, 0, by rw [e1, e2]⟩
    · exact ⟨_, _, e1⟩
  exact ⟨a, cap, rfl, q1, v', ⟨ys, q2, q3⟩, q5, fun k hk => .inl (by rw [← q4]; exact hk)⟩
theorem all_sl {p : Nat} {v : Value} {S : List Tm} {T : Int} (w : World) (h : Wh w p v S T) (hT : T ≤ 100000) :
    Calls Try.prog 12 #[.pointer (some ⟨p, 0, none⟩)] w fun e w' => ∃ a cap, e = .returned (.slice a S.length cap) ∧ w'.ownsRow w.heap.size Ea 2 (.slice a S.length cap) S.length (flat2 S) ∧ Ext w w' := by
  refine (all_any w h hT).mono ?_
  rintro e w' ⟨r, rfl, q1, q2⟩
  obtain ⟨a, cap, rfl⟩ : ∃ a cap, r = .slice a S.length cap := by
    rcases q1.2 with ⟨e1, e2⟩ | ⟨g, cap, cur, e1, _⟩
    · exact ⟨none, 0, by rw [e1, e2]⟩
    · exact ⟨_, _, e1⟩
  exact ⟨a, cap, rfl, q1, q2⟩
theorem row2 {w : World} {B : Nat} {a : Option Addr} {cap : Nat} {S : List Tm} (h : w.ownsRow B Ea 2 (.slice a S.length cap) S.length (flat2 S)) {j : Nat} (hj : j < S.length) : ∃ g, a = some ⟨g, 0, none⟩ ∧ w.cell? ⟨g, j * 2, none⟩ = some (.int .i64 (gt S j).1) ∧ w.cell? ⟨g, j * 2 + 1, none⟩ = some (.int .i64 (gt S j).2.1) := by
  obtain ⟨g, cap', e, _, _⟩ := h.form (by omega)
  simp only [Value.slice.injEq, true_and] at e
  obtain ⟨rfl, rfl⟩ := e
  obtain ⟨f0, f1⟩ := flat2_at S j hj
  exact ⟨g, rfl, by rw [h.cellAt _ (by omega)]; exact f0, by rw [h.cellAt _ (by omega)]; exact f1⟩
theorem wh_next {p : Nat} {v : Value} {S : List Tm} {T : Int} (w : World) (h : Wh w p v S T) :
    Calls Try.prog 11 #[.pointer (some ⟨p, 0, none⟩)] w fun e w' => e = .returned (.tuple #[.int .i64 (headAt S), .bool (hasOne S)]) ∧ w' = w := by
  obtain ⟨xs, h, hw⟩ := h
  exact next_at w h hw
/-- how many have that number -/
def cnt (id : Int) (l : List Tm) : Nat := l.countP (fun t => t.1 == id)
theorem cnt_ins (x : Tm) (S : List Tm) : cnt x.1 (ins x (S.filter (fun t => t.1 ≠ x.1))) = 1 := by
  unfold cnt
  rw [(ins_perm x _).countP_eq, List.countP_cons]
  have : List.countP (fun t => t.1 == x.1) (S.filter (fun t => t.1 ≠ x.1)) = 0 := by
    rw [List.countP_eq_zero]
    intro t ht
    have := (List.mem_filter.1 ht).2
    simpa using this
  rw [this]; simp
theorem mem_ins {x : Tm} {S : List Tm} {t : Tm} (h : t ∈ ins x (S.filter (fun t => t.1 ≠ x.1))) (he : t.1 = x.1) : t = x := by
  rcases List.mem_cons.1 ((ins_perm x _).mem_iff.1 h) with e | e
  · exact e
  · have := (List.mem_filter.1 e).2
    simp [he] at this
theorem cnt_take {id : Int} {S : List Tm} {j : Nat} (hj : j < S.length) : cnt id (S.take (j + 1)) = cnt id (S.take j) + (if (gt S j).1 = id then 1 else 0) := by
  unfold cnt
  rw [List.take_add_one, gt_at hj, Option.toList_some, List.countP_append, List.countP_singleton]
  simp
theorem ins_ne (x : Tm) (S : List Tm) : ∃ s l, ins x S = s :: l := by
  cases h : ins x S with
  | nil => unfold ins at h; simp at h
  | cons s l => exact ⟨s, l, rfl⟩
theorem gt_mem {S : List Tm} {j : Nat} (hj : j < S.length) : gt S j ∈ S := List.mem_of_getElem? (gt_at hj)
end Go.Proofs.Ytiallnpmgdjdfaa
