/- What a push and a pop do to the list that a ring holds. -/
import Derived.Test.YtfgljkeohoffiaaRb
namespace Go.Proofs.Ytfgljkeohoffiaa
open Go.RowKit Go.Conc
theorem mod_add_ne {f i j n : Nat} (hi : i < n) (hj : j < n) (h : (f + i) % n = (f + j) % n) : i = j := by
  have h1 := Nat.mod_add_div (f + i) n
  have h2 := Nat.mod_add_div (f + j) n
  rw [h] at h1
  have h3 : n * ((f + i) / n) + j = n * ((f + j) / n) + i := by omega
  rcases Nat.lt_trichotomy ((f + i) / n) ((f + j) / n) with hlt | heq | hgt
  · have := Nat.mul_le_mul_left n hlt
    rw [Nat.mul_succ] at this; omega
  · rw [heq] at h3; omega
  · have := Nat.mul_le_mul_left n hgt
    rw [Nat.mul_succ] at this; omega
section
variable {cap first : Nat} {A buf : Array Value} {l : List Value}
/-- room: the first free place takes x. -/
theorem Holds.push (h : Holds cap first A buf l) (hl : l.length < cap) (x : Value) :
    buf[0]? = some (.int .i64 ((first + l.length) % cap : Nat)) ∧ (first + l.length) % cap < cap ∧ Holds cap first (A.setIfInBounds ((first + l.length) % cap) x) (buf.extract 1 buf.size) (l ++ [x]) := by
  obtain ⟨h1, h2, h3, h4, h5, h6, h7⟩ := h
  have hlt : (first + l.length) % cap < cap := Nat.mod_lt _ (by omega)
  refine ⟨by have := h6 0 (by omega); simpa using this, hlt, h1, h2, h3, by simp [h4], ?_, ?_, ?_⟩
  · simp; omega
  · intro j hj
    have hj' : j + 1 < buf.size := by simp at hj; omega
    have := h6 (j + 1) hj'
    rw [Array.getElem?_extract, if_pos (by simp at hj ⊢; omega), Nat.add_comm 1 j, this, show first + (l ++ [x]).length + j = first + l.length + (j + 1) by simp; omega]
  · intro i hi
    simp at hi
    by_cases e : i = l.length
    · subst e
      rw [Array.getElem?_setIfInBounds_self_of_lt (by omega)]
      simp
    · have hne : (first + l.length) % cap ≠ (first + i) % cap := fun k => e (mod_add_ne (by omega) hl k.symm)
      rw [Array.getElem?_setIfInBounds_ne hne, List.getElem?_append_left (by omega)]
      exact h7 i (by omega)
theorem Holds.pop {v : Value} (h : Holds cap first A buf (v :: l)) (z : Value) :
    A[first]? = some v ∧ Holds cap ((first + 1) % cap) (A.setIfInBounds first z) (buf.push (.int .i64 first)) l := by
  obtain ⟨h1, h2, h3, h4, h5, h6, h7⟩ := h
  have hf : first % cap = first := Nat.mod_eq_of_lt h3
  have hsh : ∀ k, ((first + 1) % cap + k) % cap = (first + (k + 1)) % cap := by
    intro k
    rw [Nat.mod_add_mod]; congr 1; omega
  refine ⟨by have := h7 0 (by simp); simpa [hf] using this, h1, h2, Nat.mod_lt _ (by omega), by simp [h4], ?_, ?_, ?_⟩
  · simp at h5 ⊢; omega
  · intro j hj
    simp at hj h5
    rw [Nat.add_assoc, hsh]
    by_cases e : j = buf.size
    · subst e
      have : (first + (l.length + buf.size + 1)) % cap = first := by
        rw [show first + (l.length + buf.size + 1) = first + cap by omega, Nat.add_mod_right]; exact hf
      rw [this]; simp
    · have := h6 j (by omega)
      rw [Array.getElem?_push, if_neg e, this, show first + (v :: l).length + j = first + (l.length + j + 1) by simp; omega]
  · intro i hi
    simp at h5
    have hne : first ≠ (first + (i + 1)) % cap := fun k => by
      have := mod_add_ne (f := first) (i := 0) (j := i + 1) (n := cap) (by omega) (by omega) (by rw [Nat.add_zero, hf]; exact k)
      omega
    rw [hsh, Array.getElem?_setIfInBounds_ne hne]
    have := h7 (i + 1) (by simp; omega)
    simpa using this
end
section
variable {p d c cap first : Nat} {A buf : Array Value} {s r : Nat} {l : List Value}
theorem RS.drewN {T E : TypeId} {w : World} (h : RS w T E p d c cap first A buf s r) (n : Nat) : RS (w.drewN n) T E p d c cap first A buf s r := h
theorem RS.alike {T E : TypeId} {w w' : World} (h : RS w T E p d c cap first A buf s r) (hx : w'.heap = w.heap) : RS w' T E p d c cap first A buf s r := by
  obtain ⟨hp, hd, hc⟩ := h
  exact ⟨by rw [hx]; exact hp, by rw [hx]; exact hd, by rw [hx]; exact hc⟩
theorem drewN_turn {w : World} (n : Nat) : Turn p d c w (w.drewN n) := ⟨⟨rfl, rfl, rfl, Nat.le_refl _, fun _ _ => rfl⟩, fun _ _ _ _ _ => rfl⟩
theorem IsRing.ext {T E : TypeId} {w w' : World} (h : IsRing w T E p d c cap l) (hx : Ext w w') : IsRing w' T E p d c cap l := by
  obtain ⟨first, A, buf, s, r, h, hh, hd⟩ := h
  exact ⟨first, A, buf, s, r, h.ext hx, hh, hd⟩
theorem IsRing.drewN {T E : TypeId} {w : World} (h : IsRing w T E p d c cap l) (n : Nat) : IsRing (w.drewN n) T E p d c cap l := h
/-- what Push hands back, and the list behind it -/
def pushed (cap : Nat) (l : List Value) (x : Value) : List Value := if l.length < cap then l ++ [x] else l.tail ++ [x]
theorem pushed_len (cap : Nat) (l : List Value) (x : Value) (h : l.length ≤ cap) (h1 : 1 ≤ cap) : (pushed cap l x).length ≤ cap := by
  unfold pushed; split <;> simp <;> omega
theorem IsRing.le {T E : TypeId} {w : World} (h : IsRing w T E p d c cap l) : l.length ≤ cap ∧ 1 ≤ cap ∧ cap ≤ 256 := by
  obtain ⟨first, A, buf, s, r, h, hh, hd⟩ := h
  exact ⟨by have := hh.2.2.2.2.1; omega, hh.1, hh.2.1⟩
/-- the first k places -/
def freeTo (k : Nat) : Array Value := ((List.range k).map fun j => (.int .i64 (j : Nat) : Value)).toArray
theorem freeTo_succ (k : Nat) : freeTo (k + 1) = (freeTo k).push (.int .i64 k) := by simp [freeTo, List.range_succ]
theorem freeTo_size (k : Nat) : (freeTo k).size = k := by simp [freeTo]
theorem freeTo_at (k j : Nat) (h : j < k) : (freeTo k)[j]? = some (.int .i64 j) := by simp [freeTo, h]
theorem holds_new (cap : Nat) (h1 : 1 ≤ cap) (h2 : cap ≤ 256) (A : Array Value) (hA : A.size = cap) : Holds cap 0 A (freeTo cap) [] := by
  refine ⟨h1, h2, by omega, hA, by simp [freeTo_size], fun j hj => ?_, fun i hi => by simp at hi⟩
  rw [freeTo_size] at hj
  rw [freeTo_at _ _ hj]; simp [Nat.mod_eq_of_lt hj]
theorem three_new (w : World) (a b c : Obj) : (((w.alloc a).alloc b).alloc c).heap[w.heap.size]? = some a ∧ (((w.alloc a).alloc b).alloc c).heap[w.heap.size + 1]? = some b ∧ (((w.alloc a).alloc b).alloc c).heap[w.heap.size + 1 + 1]? = some c := by
  have h1 := heap_alloc_new w a
  have h2 := heap_alloc_new (w.alloc a) b
  have h3 := heap_alloc_new ((w.alloc a).alloc b) c
  simp only [World.size_alloc] at h2 h3
  refine ⟨?_, ?_, h3⟩
  · rw [Below.heap_alloc _ _ _ (by simp only [World.size_alloc]; omega), Below.heap_alloc _ _ _ (by simp only [World.size_alloc]; omega)]; exact h1
  · rw [Below.heap_alloc _ _ _ (by simp only [World.size_alloc]; omega)]; exact h2
theorem rs_newA (w : World) (cap : Nat) (A : Array Value) (T E : TypeId) : RS (((w.alloc (.cells A E)).alloc (.chan cap #[] false 0 0 false)).alloc (.cells #[.slice (some ⟨w.heap.size, 0, none⟩) cap cap, .int .i64 0, .chan (some (w.heap.size + 1))] T)).drew T E (w.heap.size + 1 + 1) w.heap.size (w.heap.size + 1) cap 0 A #[] 0 0 := by
  obtain ⟨h1, h2, h3⟩ := three_new w (.cells A E) (.chan cap #[] false 0 0 false) (.cells #[.slice (some ⟨w.heap.size, 0, none⟩) cap cap, .int .i64 0, .chan (some (w.heap.size + 1))] T)
  exact ⟨h3, h1, h2⟩
theorem rs_newB (w : World) (cap : Nat) (A : Array Value) (T E : TypeId) : RS (((w.alloc (.chan cap #[] false 0 0 false)).alloc (.cells A E)).alloc (.cells #[.slice (some ⟨w.heap.size + 1, 0, none⟩) cap cap, .int .i64 0, .chan (some w.heap.size)] T)).drew T E (w.heap.size + 1 + 1) (w.heap.size + 1) w.heap.size cap 0 A #[] 0 0 := by
  obtain ⟨h1, h2, h3⟩ := three_new w (.chan cap #[] false 0 0 false) (.cells A E) (.cells #[.slice (some ⟨w.heap.size + 1, 0, none⟩) cap cap, .int .i64 0, .chan (some w.heap.size)] T)
  exact ⟨h3, h2, h1⟩
/-- a new ring's blocks, its free places laid up to k -/
def NewTo (w wx : World) (T E : TypeId) (p d c cap : Nat) (A : Array Value) (k : Nat) : Prop :=
  RS wx T E p d c cap 0 A (freeTo k) k 0 ∧ w.heap.size ≤ p ∧ w.heap.size ≤ d ∧ w.heap.size ≤ c ∧ p ≠ d ∧ p ≠ c ∧ d ≠ c ∧ Ext w wx
theorem infoi : ∃ i, Try.prog.info? 3 = some i ∧ i.bytes = 8 ∧ i.size = 1 ∧ i.zero = some (.int .i64 0) := by
  have h : (Try.prog.info? 3).map (fun i => (i.bytes, i.size, i.zero)) = some (8, 1, some (.int .i64 0)) := by kernel_rfl
  obtain ⟨i, hi, hb⟩ := Option.map_eq_some_iff.1 h
  simp only [Prod.mk.injEq] at hb
  exact ⟨i, hi, hb⟩
theorem infos : ∃ i, Try.prog.info? 9 = some i ∧ i.bytes = 16 ∧ i.size = 1 ∧ i.zero = some (.string ⟨#[]⟩) := by
  have h : (Try.prog.info? 9).map (fun i => (i.bytes, i.size, i.zero)) = some (16, 1, some (.string ⟨#[]⟩)) := by kernel_rfl
  obtain ⟨i, hi, hb⟩ := Option.map_eq_some_iff.1 h
  simp only [Prod.mk.injEq] at hb
  exact ⟨i, hi, hb⟩
theorem mkchan (n : Nat) (hn : n ≤ 256) (w : World) : (Instr.makeChan 109 (.int .i64 n)).run Try.prog w = .ok (.chan (some w.heap.size)) (w.alloc (.chan n #[] false 0 0 false)) := by
  obtain ⟨i, hi, hb, _⟩ := infoi
  exact run_makeChan (P := Try.prog) (w := w) Try.underlying109 hi .i64 n (by omega) (by rw [hb]; omega)
end
end Go.Proofs.Ytfgljkeohoffiaa
