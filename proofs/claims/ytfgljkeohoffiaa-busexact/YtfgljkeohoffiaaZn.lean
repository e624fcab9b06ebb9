/- Copies: faults. -/
import Derived.Test.YtfgljkeohoffiaaZm
namespace Go.Proofs.Ytfgljkeohoffiaa
open Go.RowKit Go.Conc
abbrev Erf : TypeId := 76
def ffd (f : Flt) : Nat → Value
  | 0 => .int .i64 f.at_
  | 1 => .int .i64 f.kind
  | 2 => .int .i64 f.idx
  | _ => .int .u8 f.xor
/-- the cells of faults -/
def ff4 : List Flt → List Value
  | [] => []
  | f :: l => .int .i64 f.at_ :: .int .i64 f.kind :: .int .i64 f.idx :: .int .u8 f.xor :: ff4 l
theorem ff4_len : ∀ l : List Flt, (ff4 l).length = l.length * 4
  | [] => rfl
  | r :: l => by simp [ff4, ff4_len l]; omega
theorem ff4_app : ∀ l m : List Flt, ff4 (l ++ m) = ff4 l ++ ff4 m
  | [], m => rfl
  | r :: l, m => by simp [ff4, ff4_app l m]
theorem ff4_at : ∀ (l : List Flt) (i k : Nat), i < l.length → k < 4 → (ff4 l)[i * 4 + k]? = some (ffd (gf l i) k)
  | [], i, k, h, _ => by simp at h
  | r :: l, 0, k, _, hk => by
    match k, hk with
    | 0, _ => rfl
    | 1, _ => rfl
    | 2, _ => rfl
    | 3, _ => rfl
    | k + 4, h => omega
  | r :: l, i + 1, k, h, hk => by
    have := ff4_at l i k (by simpa using h) hk
    rw [show (i + 1) * 4 + k = (i * 4 + k) + 1 + 1 + 1 + 1 by omega]
    simpa [ff4, gf] using this
theorem ff4_one (l : List Flt) : ∀ u ∈ ff4 l, u.oneCell' = true := by
  induction l with
  | nil => intro u hu; simp [ff4] at hu
  | cons t l ih =>
    intro u hu
    simp only [ff4, List.mem_cons] at hu
    rcases hu with rfl | rfl | rfl | rfl | hu
    · rfl
    · rfl
    · rfl
    · rfl
    · exact ih u hu
/-- faults that a row holds -/
theorem fr_row {w : World} {B n cap : Nat} {a : Option Addr} {l : List Flt} (h : w.ownsRow B Erf 4 (.slice a n cap) n (ff4 l)) : FRs w a l := by
  intro i hi
  have hl := h.1
  rw [ff4_len] at hl
  rcases h.2 with ⟨_, e2⟩ | ⟨g, cap', cur, e1, _⟩
  · omega
  · cases e1
    have q : ∀ k, k < 4 → w.cell? ⟨g, 0 + i * 4 + k, none⟩ = some (ffd (gf l i) k) := fun k hk => by
      rw [Nat.zero_add, h.cellAt _ (by omega)]
      exact ff4_at l i k hi hk
    exact ⟨g, 0, rfl, q 0 (by omega), q 1 (by omega), q 2 (by omega), q 3 (by omega)⟩
theorem newf (w : World) (f : Flt) : ∀ j u, (ff4 [f])[j]? = some u → (w.alloc (fc f)).cell? ((⟨w.heap.size, 0, none⟩ : Addr).add j) = some u := by
  intro j u hu
  have hj : j < 4 := by have := (List.getElem?_eq_some_iff.1 hu).1; simpa [ff4_len] using this
  obtain ⟨g0, g1, g2, g3⟩ := f4_new (w := w) (f := f) rfl
  rw [add_plain]
  match j, hj with
  | 0, _ => cases hu; exact g0
  | 1, _ => cases hu; exact g1
  | 2, _ => cases hu; exact g2
  | 3, _ => cases hu; exact g3
  | j + 4, h => omega
theorem Try.infoTf : (Try.prog.info? Erf).map (fun i => (i.zero, i.size, i.bytes)) = some (some (fv noF), 4, 32) := by kernel_rfl
theorem take_snoc_f (l : List Flt) {k : Nat} (h : k < l.length) : l.take (k + 1) = l.take k ++ [gf l k] := by
  rw [List.take_add_one, gf, List.getD_eq_getElem?_getD, List.getElem?_eq_getElem h]; rfl
set_option maxRecDepth 20000 in
set_option maxHeartbeats 4000000 in
theorem copyfaults_any (w : World) (a : Option Addr) (l : List Flt) (c : Nat) (h : FRs w a l) (hm : l.length ≤ 100000) :
    Calls Try.prog 29 #[.slice a l.length c] w fun e w' => ∃ r rc, e = .returned (.slice r l.length rc) ∧ w'.ownsRow w.heap.size Erf 4 (.slice r l.length rc) l.length (ff4 l) ∧ Ext w w' := by
  obtain ⟨i0, hi, hz0, hz1, hz2⟩ := info_parts Try.infoTf
  have HL : Hid (∀ wr, Ext w wr → FRs wr a l) := fun wr x => h.ext x
  have H0 : Hid (w.ownsRow w.heap.size Erf 4 (.slice none 0 0) 0 (ff4 (l.take 0)) ∧ Ext w w) := ⟨World.ownsRow_nil _ _ _ _, Ext.refl _⟩
  clear h
  go_enter Try.func29, Try.ntmps29
  go_wp2_with fail
  go_loopw [3, 4] (fun v i wr => ∃ (k : Nat) (r : Option Addr) (cc : Nat), k ≤ l.length ∧ v = .slice r k cc ∧ i = .int .i64 k ∧ Hid (wr.ownsRow w.heap.size Erf 4 (.slice r k cc) k (ff4 (l.take k)) ∧ Ext w wr)) (fun _ i _ => l.length - (intOf i).toNat)
  case atStart => exact ⟨0, none, 0, Nat.zero_le _, rfl, rfl, H0⟩
  case round =>
    obtain ⟨k, r, cc, hk, rfl, rfl, hR⟩ := hrel
    clear H0
    by_cases hlt : k < l.length
    · have hlti : (k : Int) < (l.length : Int) := by omega
      obtain ⟨b, off, ha, j0, j1, j2, j3⟩ := HL.out wr hR.out.2 k hlt
      subst ha
      have HT : Hid (ff4 (l.take (k + 1)) = ff4 (l.take k) ++ ff4 [gf l k]) := by show _ = _; rw [take_snoc_f l hlt, ff4_app]
      generalize gf l k = z at *
      have h63 : k + 1 ≤ maxLen := by unfold maxLen; omega
      have hby : (k + 1) * 32 ≤ 140737488355328 := by omega
      have x4 : Ext wr (wr.alloc (fc z)) := (Ext.refl wr).alloc _
      have O4 : Hid ((wr.alloc (fc z)).ownsRow w.heap.size Erf 4 (.slice r k cc) k (ff4 (l.take k)) ∧ Ext w (wr.alloc (fc z))) := ⟨row_ext hR.out.1 x4, hR.out.2.trans x4⟩
      clear x4 hR
      go_wp2_with (at_builtin; refine wpList_append_lies _ rfl (.tmp 11) (.tmp 16) 23 rfl w.heap.size Erf i0 (fv noF) 4 32 Try.underlying23 hi hz0 hz1 hz2 rfl (by decide) _ k (ff4 (l.take k)) rfl (by exact O4.out.1) ⟨wr.heap.size, 0, none⟩ 1 1 (ff4 [z]) rfl rfl (by exact newf wr z) (ff4_one _) (by decide) h63 hby (by exact O4.out.2.size) _ rfl ?_; intro g' cap' w9 hown' hg' hgb hgl; have R9 : Hid (w9.ownsRow w.heap.size Erf 4 (.slice (some ⟨g', 0, none⟩) (k + 1) cap') (k + 1) (ff4 (l.take (k + 1))) ∧ Ext w w9) := (by rw [HT.out]; exact ⟨hown', row_grown hg' O4.out.1 O4.out.2 (Nat.le_refl _)⟩); clear hown' hg' hgb hgl)
      go_roundw
      case measure => simp [intOf]; omega
      case rel => exact ⟨k + 1, _, cap', by omega, rfl, by simp, R9⟩
    · have hlti : ¬ (k : Int) < (l.length : Int) := by omega
      have hkl : k = l.length := by omega
      subst hkl
      have HF : Hid (wr.ownsRow w.heap.size Erf 4 (.slice r l.length cc) l.length (ff4 l) ∧ Ext w wr) := by rw [List.take_length] at hR; exact hR
      clear hR
      go_wp2_with fail
      go_ret
      exact ⟨r, cc, rfl, HF.out.1, HF.out.2⟩
end Go.Proofs.Ytfgljkeohoffiaa
