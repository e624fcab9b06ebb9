/- sched: Awake; lists of numbers. -/
import Derived.Test.YtehphgpkhfokhaaSc
namespace Go.Proofs.Ytehphgpkhfokhaa
open Go.RowKit Go.Conc
abbrev Ei : TypeId := 3
/-- the cells of numbers -/
def nums (l : List Int) : List Value := l.map (fun x => .int .i64 x)
theorem nums_len (l : List Int) : (nums l).length = l.length := by simp [nums]
theorem nums_app (l m : List Int) : nums (l ++ m) = nums l ++ nums m := by simp [nums]
def gi (l : List Int) (k : Nat) : Int := l.getD k 0
theorem gi_at {l : List Int} {k : Nat} (h : k < l.length) : l[k]? = some (gi l k) := by simp [gi, h]
theorem nums_at {l : List Int} {k : Nat} (h : k < l.length) : (nums l)[k]? = some (.int .i64 (gi l k)) := by simp [nums, gi_at h]
theorem Try.infoInt : (Try.prog.info? Ei).map (fun i => (i.zero, i.size, i.bytes)) = some (some (.int .i64 0), 1, 8) := by kernel_rfl
theorem row_mono {w : World} {B B' : Nat} {e : TypeId} {s n : Nat} {v : Value} {xs : List Value} (h : w.ownsRow B e s v n xs) (hb : B' ≤ B) : w.ownsRow B' e s v n xs := by
  refine ⟨h.1, ?_⟩
  rcases h.2 with e1 | ⟨g, cap, cur, hv, hg, hr⟩
  · exact .inl e1
  · exact .inr ⟨g, cap, cur, hv, by omega, hr⟩
theorem row_grown {w w' : World} {v : Value} {B : Nat} {e : TypeId} {s n : Nat} {xs : List Value} (hg : w.grownBy w' v.ownBlock) (h : w.ownsRow B e s v n xs) {a : World} (hx : Ext a w) (hB : a.heap.size ≤ B) : Ext a w' :=
  Below.trans hx ⟨hg.os, hg.tape, hg.output, hg.size, fun k hk => hg.block k (Nat.lt_of_lt_of_le hk hx.size) (fun e => by
    have := (h.lt k e.symm).1
    omega)⟩
/-- the slice v tells the numbers of l -/
def RdI (w : World) (v : Value) (l : List Int) : Prop :=
  ∃ a cap, v = .slice a l.length cap ∧ ∀ j, j < l.length → ∃ b off, a = some ⟨b, off, none⟩ ∧ w.cell? ⟨b, off + j, none⟩ = some (.int .i64 (gi l j))
theorem RdI.ext {w w' : World} {v : Value} {l : List Int} (h : RdI w v l) (x : Ext w w') : RdI w' v l := by
  obtain ⟨a, cap, e, h⟩ := h
  refine ⟨a, cap, e, fun j hj => ?_⟩
  obtain ⟨b, off, ea, h1⟩ := h j hj
  exact ⟨b, off, ea, x.keepc h1⟩
theorem row_shape {w : World} {B : Nat} {e : TypeId} {s n : Nat} {v : Value} {xs : List Value} (h : w.ownsRow B e s v n xs) : ∃ a cap, v = .slice a n cap ∧ (0 < n → ∃ g, a = some ⟨g, 0, none⟩) := by
  rcases h.2 with ⟨e1, e2⟩ | ⟨g, cap, cur, e1, _⟩
  · exact ⟨none, 0, by rw [e1, e2], fun k => by omega⟩
  · exact ⟨_, _, e1, fun _ => ⟨g, rfl⟩⟩
theorem rdi_row {w : World} {B : Nat} {v : Value} {l : List Int} (h : w.ownsRow B Ei 1 v l.length (nums l)) : RdI w v l := by
  obtain ⟨a, cap, rfl, ha⟩ := row_shape h
  refine ⟨a, cap, rfl, fun j hj => ?_⟩
  obtain ⟨g, rfl⟩ := ha (by omega)
  exact ⟨g, 0, rfl, by rw [Nat.zero_add, h.cellAt _ (by omega)]; exact nums_at hj⟩
theorem one_new (w : World) (u : Value) (T : TypeId) : ∀ j x, [u][j]? = some x → (w.alloc (.cells #[u] T)).cell? ((⟨w.heap.size, 0, none⟩ : Addr).add j) = some x := by
  intro j y h
  match j with
  | 0 => simp at h; subst h; simp [go_sem, Addr.add]
  | j + 1 => simp at h
/-- those awake below j -/
def ups (A : List Bool) (j : Nat) : List Int := ((List.range j).filter (fun i => up A i)).map (fun i : Nat => (i : Int))
theorem ups_step (A : List Bool) (j : Nat) : ups A (j + 1) = ups A j ++ (if up A j then [(j : Int)] else []) := by
  unfold ups
  rw [List.range_succ, List.filter_append, List.map_append]
  congr 1
  cases h : up A j <;> simp [h]
theorem ups_le (A : List Bool) (j : Nat) : (ups A j).length ≤ j := by
  unfold ups
  rw [List.length_map]
  have := List.length_filter_le (fun i => up A i) (List.range j)
  simpa using this
section
variable {t b : Nat} {c : Nat → Nat} {v : Value} {s : St}
theorem len_tab (w : World) (h : Tab w t b c v s) {i : Nat} (hi : i < s.A.length) : ∃ x y, w.heap[c i]? = some (.chan 1 (chanOf (up s.A i)) false x y false) := (h.ch i hi).2
set_option maxRecDepth 20000 in
set_option maxHeartbeats 2000000 in
theorem awake_any (w : World) (h : Tab w t b c v s) :
    Calls Try.prog 26 #[.pointer (some ⟨t, 0, none⟩)] w fun e w' => ∃ r, e = .returned r ∧ w'.ownsRow w.heap.size Ei 1 r (ups s.A s.A.length).length (nums (ups s.A s.A.length)) ∧ Ext w w' := by
  obtain ⟨i0, hi, hz0, hz1, hz2⟩ := info_parts Try.infoInt
  have c0 := h.c0
  have HH : Hid (Tab w t b c v s) := h
  have hn := h.n.2
  clear h
  go_enter Try.func26, Try.ntmps26
  go_wp2_with fail
  go_loopw [3, 11] (fun s3 s11 wr => ∃ (k m : Nat) (a : Option Addr) (cp : Nat), k ≤ s.A.length ∧ s11 = .int .i64 k ∧ s3 = .slice a m cp ∧ Hid (m = (ups s.A k).length ∧ m ≤ k ∧ wr.ownsRow w.heap.size Ei 1 (.slice a m cp) m (nums (ups s.A k)) ∧ Ext w wr)) (fun _ s11 _ => s.A.length - (intOf s11).toNat)
  case atStart => exact ⟨0, 0, none, 0, Nat.zero_le _, rfl, rfl, rfl, Nat.le_refl _, World.ownsRow_nil _ _ _ _, Ext.refl _⟩
  case round =>
    obtain ⟨k, m, a, cp, hk, rfl, rfl, hR⟩ := hrel
    by_cases hlt : k < s.A.length
    · have hlt' : (k : Int) < (s.A.length : Int) := by omega
      obtain ⟨q1, q2, q3, q4⟩ := hR.out
      have hT := HH.out.ext q4
      obtain ⟨c1, x, y, hc⟩ := hT.ch k hlt
      have hst := ups_step s.A k
      cases hu : up s.A k with
      | true =>
        rw [hu] at hc hst
        have hlen := run_len_chan (P := Try.prog) 73 3 Try.underlying73 hc
        have HT : Hid (nums (ups s.A (k + 1)) = nums (ups s.A k) ++ [.int .i64 k]) := by show _ = _; rw [hst, nums_app]; rfl
        have HM : Hid (m + 1 = (ups s.A (k + 1)).length) := by show _ = _; rw [hst, q1]; simp
        have hb : w.heap.size ≤ wr.heap.size + 1 := by have := q4.size; omega
        have h63 : m + 1 ≤ maxLen := by unfold maxLen; omega
        have hby : (m + 1) * 8 ≤ 140737488355328 := by omega
        have HX : Hid (Ext w wr) := q4
        simp only [chanOf] at hlen
        clear hst hu hR hT hc q1
        go_wp2_with (at_builtin; refine wpList_append_lies _ rfl (.tmp 19) (.tmp 21) 40 rfl w.heap.size Ei i0 (.int .i64 0) 1 8 Try.underlying40 hi hz0 hz1 hz2 rfl (by decide) _ m (nums (ups s.A k)) rfl (by exact q3.alloc _) ⟨wr.heap.size, 0, none⟩ 1 1 [.int .i64 k] rfl rfl (by exact one_new wr _ _) (by simp [Value.oneCell']) (by decide) h63 hby (by simpa using hb) (wr.heap.size + 1) (by simp) ?_; intro g' cap' w2 hown' hg' hgb hgl; have R1 : Hid (m + 1 = (ups s.A (k + 1)).length ∧ m + 1 ≤ k + 1 ∧ w2.ownsRow w.heap.size Ei 1 (.slice (some ⟨g', 0, none⟩) (m + 1) cap') (m + 1) (nums (ups s.A (k + 1))) ∧ Ext w w2) := (by refine ⟨HM.out, by omega, ?_, row_grown hg' (q3.alloc _) (HX.out.alloc _) (Nat.le_refl _)⟩; rw [HT.out]; exact hown'); clear hown' hg' hgb hgl)
        go_roundw
        case measure => simp [intOf]; omega
        case rel => exact ⟨k + 1, m + 1, _, cap', by omega, by simp, rfl, R1⟩
      | false =>
        rw [hu] at hc hst
        have hlen := run_len_chan (P := Try.prog) 73 3 Try.underlying73 hc
        simp only [chanOf] at hlen
        have R1 : Hid (m = (ups s.A (k + 1)).length ∧ m ≤ k + 1 ∧ wr.ownsRow w.heap.size Ei 1 (.slice a m cp) m (nums (ups s.A (k + 1))) ∧ Ext w wr) := by
          rw [if_neg (by simp), List.append_nil] at hst
          rw [hst]
          exact ⟨q1, by omega, q3, q4⟩
        clear hst hu hR hT hc q1 q2 q3 q4
        go_wp2_with fail
        go_roundw
        case measure => simp [intOf]; omega
        case rel => exact ⟨k + 1, m, a, cp, by omega, by simp, rfl, R1⟩
    · have hkn : ¬ (k : Int) < (s.A.length : Int) := by omega
      have HF : Hid (wr.ownsRow w.heap.size Ei 1 (.slice a m cp) (ups s.A s.A.length).length (nums (ups s.A s.A.length)) ∧ Ext w wr) := by
        obtain ⟨q1, q2, q3, q4⟩ := hR.out
        rw [show k = s.A.length by omega] at q1 q3
        rw [← q1]; exact ⟨q3, q4⟩
      clear hR
      go_wp2_with fail
      go_ret
      exact ⟨_, rfl, HF.out.1, HF.out.2⟩
end
end Go.Proofs.Ytehphgpkhfokhaa
