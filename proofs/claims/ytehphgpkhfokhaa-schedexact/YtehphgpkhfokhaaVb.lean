/- The reference's table: Next, List. -/
import Derived.Test.YtehphgpkhfokhaaVa
namespace Go.Proofs.Ytehphgpkhfokhaa
open Go.RowKit Go.Conc
section
variable {q g : Nat} {v : Value} {s : St}
set_option maxHeartbeats 1000000 in
theorem rnext_any (w : World) (h : RT w q g v s) :
    Calls Try.prog 19 #[.pointer (some ⟨q, 0, none⟩)] w fun e w' =>
      (lo s.A = none ∧ e = .returned (.int .i64 (-1)) ∧ w' = w) ∨
      ∃ i, lo s.A = some i ∧ e = .returned (.int .i64 (i : Nat)) ∧ i < s.A.length ∧ DoesR q g v v s { s with A := s.A.set i false } w w' := by
  have c0 := h.c0
  have HH : Hid (RT w q g v s) := h
  have hn := h.n.2
  have HN : Hid (lo s.A = loFrom s.A (s.A.length - 0) 0) := rfl
  clear h
  go_enter Try.func19, Try.ntmps19
  go_wp2_with fail
  go_loopw [3] (fun s3 wr => ∃ k : Nat, k ≤ s.A.length ∧ s3 = .int .i64 k ∧ wr = w ∧ Hid (lo s.A = loFrom s.A (s.A.length - k) k)) (fun s3 _ => s.A.length - (intOf s3).toNat)
  case atStart => exact ⟨0, Nat.zero_le _, rfl, rfl, HN⟩
  case round =>
    obtain ⟨k, hk, rfl, hwr, hR⟩ := hrel
    have hwr' := hwr.symm
    clear hwr
    subst hwr'
    by_cases hlt : k < s.A.length
    · have hlt' : (k : Int) < (s.A.length : Int) := by omega
      obtain ⟨c1, f1⟩ := HH.out.ch k hlt
      have hst := hR.out
      rw [loFrom_step hlt] at hst
      cases hu : up s.A k with
      | true =>
        rw [hu] at c1
        have HD : Hid (DoesR q g v v s { s with A := s.A.set k false } w (w.setCell ⟨g, k, none⟩ (.bool false))) := HH.out.does_put hlt false
        rw [hu, if_pos rfl] at hst
        have HST : Hid (lo s.A = some k) := hst
        clear hst hu hR HN
        go_wp2_with fail
        go_ret
        exact .inr ⟨k, HST.out, rfl, hlt, HD.out⟩
      | false =>
        rw [hu] at hst c1
        have HST : Hid (lo s.A = loFrom s.A (s.A.length - (k + 1)) (k + 1)) := by show _ = _; simpa using hst
        clear hst hu hR HN
        go_wp2_with fail
        go_roundw
        case measure => simp [intOf]; omega
        case rel => exact ⟨k + 1, by omega, by simp, by first | rfl | trivial, HST⟩
    · have hkn : ¬ (k : Int) < (s.A.length : Int) := by omega
      have HST : Hid (lo s.A = none) := by
        have := hR.out
        rw [show s.A.length - k = 0 by omega] at this
        exact this
      clear hR HN
      go_wp2_with fail
      go_ret
      exact .inl ⟨HST.out, rfl, rfl⟩
set_option maxRecDepth 20000 in
set_option maxHeartbeats 2000000 in
theorem rlist_any (w : World) (h : RT w q g v s) :
    Calls Try.prog 27 #[.pointer (some ⟨q, 0, none⟩)] w fun e w' => ∃ r, e = .returned r ∧ w'.ownsRow w.heap.size Ei 1 r (ups s.A s.A.length).length (nums (ups s.A s.A.length)) ∧ Ext w w' := by
  obtain ⟨i0, hi, hz0, hz1, hz2⟩ := info_parts Try.infoInt
  have c0 := h.c0
  have HH : Hid (RT w q g v s) := h
  have hn := h.n.2
  clear h
  go_enter Try.func27, Try.ntmps27
  go_wp2_with fail
  go_loopw [3, 4] (fun s3 s4 wr => ∃ (k m : Nat) (a : Option Addr) (cp : Nat), k ≤ s.A.length ∧ s4 = .int .i64 k ∧ s3 = .slice a m cp ∧ Hid (m = (ups s.A k).length ∧ m ≤ k ∧ wr.ownsRow w.heap.size Ei 1 (.slice a m cp) m (nums (ups s.A k)) ∧ Ext w wr)) (fun _ s4 _ => s.A.length - (intOf s4).toNat)
  case atStart => exact ⟨0, 0, none, 0, Nat.zero_le _, rfl, rfl, rfl, Nat.le_refl _, World.ownsRow_nil _ _ _ _, Ext.refl _⟩
  case round =>
    obtain ⟨k, m, a, cp, hk, rfl, rfl, hR⟩ := hrel
    obtain ⟨q1, q2, q3, q4⟩ := hR.out
    have hT := HH.out.ext q4
    have c0r := hT.c0
    by_cases hlt : k < s.A.length
    · have hlt' : (k : Int) < (s.A.length : Int) := by omega
      obtain ⟨c1, _⟩ := hT.ch k hlt
      have hst := ups_step s.A k
      cases hu : up s.A k with
      | true =>
        rw [hu] at c1 hst
        have HT : Hid (nums (ups s.A (k + 1)) = nums (ups s.A k) ++ [.int .i64 k]) := by show _ = _; rw [hst, nums_app]; rfl
        have HM : Hid (m + 1 = (ups s.A (k + 1)).length) := by show _ = _; rw [hst, q1]; simp
        have hb : w.heap.size ≤ wr.heap.size + 1 := by have := q4.size; omega
        have h63 : m + 1 ≤ maxLen := by unfold maxLen; omega
        have hby : (m + 1) * 8 ≤ 140737488355328 := by omega
        have HX : Hid (Ext w wr) := q4
        clear hst hu hR hT q1
        go_wp2_with (at_builtin; refine wpList_append_lies _ rfl (.tmp 21) (.tmp 23) 40 rfl w.heap.size Ei i0 (.int .i64 0) 1 8 Try.underlying40 hi hz0 hz1 hz2 rfl (by decide) _ m (nums (ups s.A k)) rfl (by exact q3.alloc _) ⟨wr.heap.size, 0, none⟩ 1 1 [.int .i64 k] rfl rfl (by exact one_new wr _ _) (by simp [Value.oneCell']) (by decide) h63 hby (by simpa using hb) (wr.heap.size + 1) (by simp) ?_; intro g' cap' w2 hown' hg' hgb hgl; have R1 : Hid (m + 1 = (ups s.A (k + 1)).length ∧ m + 1 ≤ k + 1 ∧ w2.ownsRow w.heap.size Ei 1 (.slice (some ⟨g', 0, none⟩) (m + 1) cap') (m + 1) (nums (ups s.A (k + 1))) ∧ Ext w w2) := (by refine ⟨HM.out, by omega, ?_, row_grown hg' (q3.alloc _) (HX.out.alloc _) (Nat.le_refl _)⟩; rw [HT.out]; exact hown'); clear hown' hg' hgb hgl)
        go_roundw
        case measure => simp [intOf]; omega
        case rel => exact ⟨k + 1, m + 1, _, cap', by omega, by simp, rfl, R1⟩
      | false =>
        rw [hu] at c1 hst
        have R1 : Hid (m = (ups s.A (k + 1)).length ∧ m ≤ k + 1 ∧ wr.ownsRow w.heap.size Ei 1 (.slice a m cp) m (nums (ups s.A (k + 1))) ∧ Ext w wr) := by
          rw [if_neg (by simp), List.append_nil] at hst
          rw [hst]
          exact ⟨q1, by omega, q3, q4⟩
        clear hst hu hR hT q1 q2 q3 q4
        go_wp2_with fail
        go_roundw
        case measure => simp [intOf]; omega
        case rel => exact ⟨k + 1, m, a, cp, by omega, by simp, rfl, R1⟩
    · have hkn : ¬ (k : Int) < (s.A.length : Int) := by omega
      have HF : Hid (wr.ownsRow w.heap.size Ei 1 (.slice a m cp) (ups s.A s.A.length).length (nums (ups s.A s.A.length)) ∧ Ext w wr) := by
        rw [show k = s.A.length by omega] at q1 q3
        rw [← q1]; exact ⟨q3, q4⟩
      clear hR q1 q2 q3 q4 hT
      go_wp2_with fail
      go_ret
      exact ⟨_, rfl, HF.out.1, HF.out.2⟩
end
end Go.Proofs.Ytehphgpkhfokhaa
