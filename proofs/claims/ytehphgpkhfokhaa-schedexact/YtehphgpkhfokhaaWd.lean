/- SchedExact: Run, with the function that it hands over. -/
import Derived.Test.YtehphgpkhfokhaaWc
import Derived.Deep.CutBlock
namespace Go.Proofs.Ytehphgpkhfokhaa
open Go.RowKit Go.Conc
/-- what the function that is handed over does, as it is asked, up to its B-th run -/
def AsksB (fv : Value) (told : Told) (Q : Nat → Prop) (I : Nat → World → Prop) (n : Nat) (w : World) (B : Nat) : Prop :=
  ∀ k i wr, k < B → I k wr → i < n → w.heap.size ≤ wr.heap.size → Calls Try.prog 38 #[fv, .int .i64 (i : Nat)] wr fun e w' => ∃ a cap, e = .returned (.tuple #[.slice a (told k i).1.length cap, .int .i64 (told k i).2]) ∧ RdF w' (fun q => q < wr.heap.size) (.slice a (told k i).1.length cap) (told k i).1 ∧ I (k + 1) w' ∧ Turn (fun q _ => Q q) wr w'
set_option maxRecDepth 20000 in
set_option maxHeartbeats 4000000 in
theorem run_anyB {t b : Nat} {c : Nat → Nat} {v : Value} {s : St} {Q : Nat → Prop} {I : Nat → World → Prop} (most : Nat) (fn : Fn) (fa fc : Array Value) (told : Told) (k0 : Nat) (w : World) (hm : most ≤ 256) (h : Tab w t b c v s) (hT : s.T + most ≤ 100000) (f : Fair t b c v s.A.length Q I w) (hI : I k0 w) (B : Nat) (hB : k0 + most ≤ B) (ha : AsksB (.func fn fa fc) told Q I s.A.length w B) (hl : ∀ k i, (told k i).1.length ≤ 100000 ∧ -9223372036854775808 ≤ (told k i).2 ∧ (told k i).2 ≤ 9223372036854775807) :
    Calls Try.prog 14 #[.pointer (some ⟨t, 0, none⟩), .int .i64 most, .func fn fa fc] w fun e w' => ∃ a cap v', e = .returned (.tuple #[.slice a (runs told most k0 s).1.length cap, .int .i64 0]) ∧ Rn t b c v v' s (runs told most k0 s).2.1 Q I w w' (runs told most k0 s).2.2 (.slice a (runs told most k0 s).1.length cap) (runs told most k0 s).1 := by
  obtain ⟨i0, hi, hz0, hz1, hz2⟩ := info_parts Try.infoInt
  have hnil : ∀ w, (binOp .eql 43 (.func fn fa fc) .nilFunc).run Try.prog w = .ok (.bool false) w := fun _ => rfl
  have H0 : Hid (Rn t b c v v s s Q I w w k0 (.slice none 0 0) []) := ⟨h, Turn.refl _ _, fun _ z => .inl z, rfl, hI, World.ownsRow_nil _ _ _ _, fun g hg => by simp [Value.ownBlock] at hg⟩
  have HF : Hid (Fair t b c v s.A.length Q I w) := f
  have HA : Hid (AsksB (.func fn fa fc) told Q I s.A.length w B) := ha
  have HB : Hid (k0 + most ≤ B) := hB
  have HL : Hid (∀ k i, (told k i).1.length ≤ 100000 ∧ -9223372036854775808 ≤ (told k i).2 ∧ (told k i).2 ≤ 9223372036854775807) := hl
  have HT : Hid (s.T + most ≤ 100000) := hT
  have h1 : ¬ (most : Int) < 0 := by omega
  have h2 : ¬ (most : Int) > 256 := by omega
  clear h hI f ha hl hT hB
  go_enter Try.func14, Try.ntmps14
  go_wp2_with fail
  have HG : Hid (runs told most k0 s = ([] ++ (runs told (most - 0) k0 s).1, (runs told (most - 0) k0 s).2)) := rfl
  go_loopw [8] (fun s8 wr => ∃ (a : Option Addr) (cap k : Nat) (v' : Value) (s' : St) (l : List Int), s8 = .slice a l.length cap ∧ l.length ≤ most ∧ Hid (k = k0 + l.length ∧ s'.T ≤ s.T + l.length ∧ runs told most k0 s = (l ++ (runs told (most - l.length) k s').1, (runs told (most - l.length) k s').2) ∧ Rn t b c v v' s s' Q I w wr k (.slice a l.length cap) l)) (fun s8 _ => most - lenV s8)
  case atStart => exact ⟨none, 0, k0, v, s, [], rfl, Nat.zero_le _, by simp, by simp, HG.out, H0.out⟩
  case round =>
    obtain ⟨a, cap, k, v1, s1, l, rfl, hk, hR⟩ := hrel
    clear H0 HG
    by_cases hlt : l.length < most
    · have hlt' : (l.length : Int) < (most : Int) := by omega
      have HFi := first_any wr hR.out.2.2.2.tab
      go_upto_region 6 with (go_at_call 37; refine HFi.mono ?_; intro e w1 hfi; rcases hfi with ⟨hlo, rfl, hw1⟩ | ⟨i, hlo, rfl, hil, d1⟩)
      · subst hw1
        have HE : Hid (∃ v', Rn t b c v v' s (runs told most k0 s).2.1 Q I w w1 (runs told most k0 s).2.2 (.slice a l.length cap) (runs told most k0 s).1 ∧ (runs told most k0 s).1.length = l.length) := by
          obtain ⟨_, _, q2, q3⟩ := hR.out
          rw [runs_none hlo] at q2
          rw [q2]
          simp only [List.append_nil]
          exact ⟨v1, q3, trivial⟩
        clear hR HF HA HL HT hlo HFi
        go_wp2_with fail
        obtain ⟨v', h1, h2⟩ := HE.out
        exact bodyPost_ret (v := .tuple #[.slice a l.length cap, .int .i64 0]) (by simp [results, Try.results14, go_sem]) rfl (by rw [h2]; first | exact ⟨a, cap, v', rfl, h1⟩ | exact ⟨a, cap, rfl, v', h1⟩)
      · obtain ⟨q0, q1, q2, q3⟩ := hR.out
        have R1 := q3.does HF.out d1
        have hlen1 := q3.len
        have hrun : runs told (most - l.length) k s1 = ((i : Int) :: (runs told (most - (l.length + 1)) (k + 1) (stepR told k i s1)).1, (runs told (most - (l.length + 1)) (k + 1) (stepR told k i s1)).2) := by
          rw [show most - l.length = (most - (l.length + 1)) + 1 by omega]
          exact runs_some hlo
        have HQ : Hid (k + 1 = k0 + (l ++ [(i : Int)]).length ∧ (stepR told k i s1).T ≤ s.T + (l ++ [(i : Int)]).length ∧ runs told most k0 s = ((l ++ [(i : Int)]) ++ (runs told (most - (l ++ [(i : Int)]).length) (k + 1) (stepR told k i s1)).1, (runs told (most - (l ++ [(i : Int)]).length) (k + 1) (stepR told k i s1)).2)) := by
          have hT := stepR_T told k i s1
          have e1 : (l ++ [(i : Int)]).length = l.length + 1 := by simp
          rw [e1]
          refine ⟨by omega, by omega, ?_⟩
          rw [q2, hrun]
          simp
        have hiA : i < s.A.length := by omega
        have hTm : s1.T + 1 ≤ 100000 := by have := HT.out; omega
        have row1 := R1.row
        have hb : w.heap.size ≤ w1.heap.size + 1 := by have := R1.turn.size; omega
        have h63 : l.length + 1 ≤ maxLen := by unfold maxLen; omega
        have hby : (l.length + 1) * 8 ≤ 140737488355328 := by omega
        have HA1 : Hid (∀ w2, I k w2 → w.heap.size ≤ w2.heap.size → Calls Try.prog 38 #[.func fn fa fc, .int .i64 (i : Nat)] w2 fun e w' => ∃ a cap, e = .returned (.tuple #[.slice a (told k i).1.length cap, .int .i64 (told k i).2]) ∧ RdF w' (fun q => q < w2.heap.size) (.slice a (told k i).1.length cap) (told k i).1 ∧ I (k + 1) w' ∧ Turn (fun q _ => Q q) w2 w') := fun w2 h h' => HA.out k i w2 (by have := HB.out; omega) h hiA h'
        have HHe : Hid (∀ (w2 w3 : World) (r : Value) (a3 : Option Addr) (cap3 : Nat), Rn t b c v v1 s { s1 with A := s1.A.set i false } Q I w w2 k r (l ++ [(i : Int)]) → RdF w3 (fun q => q < w2.heap.size) (.slice a3 (told k i).1.length cap3) (told k i).1 → I (k + 1) w3 → Turn (fun q _ => Q q) w2 w3 → Calls Try.prog 39 #[.pointer (some ⟨t, 0, none⟩), .int .i64 i, .slice a3 (told k i).1.length cap3, .int .i64 (told k i).2] w3 fun e w' => (∃ x, e = .returned x) ∧ ∃ v', Hid (Rn t b c v v' s (stepR told k i s1) Q I w w' (k + 1) r (l ++ [(i : Int)]))) := fun w2 w3 r a3 cap3 R2 hrd hi3 t3 => by
          have R3 := R2.asks HF.out t3 hi3
          have hl := HL.out k i
          refine (heed_any i _ _ (told k i).2 w3 R3.tab (hrd.mono fun q o => R2.tab.lt q o) (by simpa using hil) (by show s1.T < 100000; omega) hl.1 hl.2).mono ?_
          rintro e w' ⟨he, v', d⟩
          exact ⟨he, v', R3.does HF.out d⟩
        clear hR q0 q1 q2 q3 hrun HL HT HA HFi d1 hlo hTm
        have HR1 : Hid (Rn t b c v v1 s { s1 with A := s1.A.set i false } Q I w w1 k (.slice a l.length cap) l) := R1
        clear R1
        go_upto_region 8 with (at_builtin; refine wpList_append_lies _ rfl (.tmp 34) (.tmp 36) 40 rfl w.heap.size Ei i0 (.int .i64 0) 1 8 Try.underlying40 hi hz0 hz1 hz2 rfl (by decide) _ l.length (nums l) rfl (by exact row1.alloc _) ⟨w1.heap.size, 0, none⟩ 1 1 [.int .i64 i] rfl rfl (by exact one_new w1 _ _) (by simp [Value.oneCell']) (by decide) h63 hby (by simpa using hb) (w1.heap.size + 1) (by simp) ?_; intro g' cap' w2 hown' hg' hgb hgl; have R2 : Hid (Rn t b c v v1 s { s1 with A := s1.A.set i false } Q I w w2 k (.slice (some ⟨g', 0, none⟩) (l ++ [(i : Int)]).length cap') (l ++ [(i : Int)])) := HR1.out.app HF.out _ hg' hown' hgb; clear hown' hg' hgb hgl)
        have HA3 := HA1.out w2 R2.out.inv R2.out.turn.size
        have hll : (l ++ [(i : Int)]).length = l.length + 1 := by simp
        clear HR1 HA1 row1 h63 hby hb
        go_wp2_with (first | (go_at_call 38; refine HA3.mono ?_; rintro e w3 ⟨a3, cap3, rfl, hrd, hi3, t3⟩; have HHe4 := HHe.out w2 w3 _ a3 cap3 R2.out hrd hi3 t3; clear hrd hi3 t3) | (go_at_call 39; refine HHe4.mono ?_; rintro e w4 ⟨⟨x4, rfl⟩, v4, R4⟩))
        go_roundw
        case measure => simp [lenV]; omega
        case rel => exact ⟨_, cap', k + 1, v4, stepR told k i s1, l ++ [(i : Int)], by rw [hll], by rw [hll]; omega, HQ.out.1, HQ.out.2.1, HQ.out.2.2, R4.out⟩
    · have hkn : ¬ (l.length : Int) < (most : Int) := by omega
      have hke : most - l.length = 0 := by omega
      have HE : Hid (∃ v', Rn t b c v v' s (runs told most k0 s).2.1 Q I w wr (runs told most k0 s).2.2 (.slice a l.length cap) (runs told most k0 s).1 ∧ (runs told most k0 s).1.length = l.length) := by
        obtain ⟨_, _, q2, q3⟩ := hR.out
        rw [hke] at q2
        rw [q2]
        simp only [runs, List.append_nil]
        exact ⟨v1, q3, trivial⟩
      clear hR HF HA HL HT hke
      go_wp2_with fail
      obtain ⟨v', h1, h2⟩ := HE.out
      exact bodyPost_ret (v := .tuple #[.slice a l.length cap, .int .i64 0]) (by simp [results, Try.results14, go_sem]) rfl (by rw [h2]; first | exact ⟨a, cap, v', rfl, h1⟩ | exact ⟨a, cap, rfl, v', h1⟩)
theorem asks_exact2 {w0 : World} {P K : Nat} {N : Int} {at_ al : Option Addr} {lt ct ll cl : Nat} {U : Nat → Value} {L : Nat → List Int} {G : Nat → Int} (n : Nat) (w : World) (hT : Trns w0 at_ lt U L G) (hL : ∀ i, i < lt → (L i).length ≤ 40) :
    AsksB (.func (.func 16) #[] #[.pointer (some ⟨P, 0, none⟩), .pointer (some ⟨K, 0, none⟩)]) (fun k _ => tell lt L G k) (fun q => q = K) (Ik w0 P K N at_ al lt ct ll cl) n w 100000 := by
  intro k i wr hk hI _ _
  refine (ask_exact2 (i : Int) _ _ wr (R := fun a n cp x w' => n = (tell lt L G k).1.length ∧ x = (tell lt L G k).2 ∧ RdF w' (fun q => q < wr.heap.size) (.slice a n cp) (tell lt L G k).1 ∧ Ik w0 P K N at_ al lt ct ll cl (k + 1) w' ∧ Turn (fun q _ => q = K) wr w') (exact2_any (i : Int) hI hT hL (by omega))).mono ?_
  rintro e w' ⟨a, n, cp, x, rfl, rfl, rfl, h1, h2, h3⟩
  exact ⟨a, cp, rfl, h1, h2, h3⟩
theorem tell_in {w0 : World} {at_ : Option Addr} {lt : Nat} {U : Nat → Value} {L : Nat → List Int} {G : Nat → Int} (hT : Trns w0 at_ lt U L G) (hL : ∀ i, i < lt → (L i).length ≤ 40) (k : Nat) : (tell lt L G k).1.length ≤ 40 ∧ -9223372036854775808 ≤ (tell lt L G k).2 ∧ (tell lt L G k).2 ≤ 9223372036854775807 := by
  unfold tell
  split
  · rename_i h
    obtain ⟨_, _, _, _, _, _, _, h1, h2⟩ := hT k h
    exact ⟨hL k h, h1, h2⟩
  · simp
/-- Run: of the table beside the reference's -/
theorem px_run {F : Nat → Prop} {w0 wr : World} {t q : Nat} {s r : St} {P K : Nat} {N : Int} {at_ al : Option Addr} {lt ct ll cl : Nat} {U : Nat → Value} {L : Nat → List Int} {G : Nat → Int} (most k0 : Nat) (h : PX (fun k => F k ∨ k = K) w0 wr t q s r) (hFK : ¬ F K) (hFP : F P) (hI : Ik w0 P K N at_ al lt ct ll cl k0 wr) (hT : Trns w0 at_ lt U L G) (hL : ∀ i, i < lt → (L i).length ≤ 40) (hm : most ≤ 256) (hsT : s.T + most ≤ 100000) (hk : k0 + most ≤ 100000) :
    Calls Try.prog 14 #[.pointer (some ⟨t, 0, none⟩), .int .i64 most, .func (.func 16) #[] #[.pointer (some ⟨P, 0, none⟩), .pointer (some ⟨K, 0, none⟩)]] wr fun e w' => ∃ a cap, e = .returned (.tuple #[.slice a (runs (fun k _ => tell lt L G k) most k0 s).1.length cap, .int .i64 0]) ∧ PX (fun k => (F k ∨ k = K) ∨ (Value.slice a (runs (fun k _ => tell lt L G k) most k0 s).1.length cap).ownBlock = some k) w0 w' t q (runs (fun k _ => tell lt L G k) most k0 s).2.1 r ∧ w'.ownsRow wr.heap.size Ei 1 (.slice a (runs (fun k _ => tell lt L G k) most k0 s).1.length cap) (runs (fun k _ => tell lt L G k) most k0 s).1.length (nums (runs (fun k _ => tell lt L G k) most k0 s).1) ∧ Ik w0 P K N at_ al lt ct ll cl (runs (fun k _ => tell lt L G k) most k0 s).2.2 w' ∧ Keep F wr w' := by
  obtain ⟨b, c, v, g, u, h⟩ := h
  have hfK := h.f K (.inr rfl)
  have hfP := h.f P (.inl hFP)
  refine (run_anyB most (.func 16) #[] #[.pointer (some ⟨P, 0, none⟩), .pointer (some ⟨K, 0, none⟩)] (fun k _ => tell lt L G k) k0 wr hm h.a.tab hsT (ik_fair hI hfP.1 hfK.1 h.a.o) hI 100000 hk (asks_exact2 _ _ hT hL) (fun k _ => by have := tell_in hT hL k; omega)).mono ?_
  rintro e w' ⟨a, cap, v', rfl, rn⟩
  have tt := rn.turn
  refine ⟨a, cap, rfl, ⟨b, c, v', g, u, ⟨rn.tab, rn.inv.x, fun k o => ?_⟩, h.r.far tt (fun k o o' => ?_), h.ro, fun k o o' => ?_, fun k o => ?_⟩, rn.row, rn.inv, fun k j x hk hc => tt.keepc (fun o => ?_) hc⟩
  · rcases OwnT.back rn.len rn.own o with z | z
    · exact h.a.o k z
    · have := h.a.x.size; omega
  · rcases o' with o' | o'
    · exact h.d k o' o
    · rw [o'] at o; exact hfK.2.1 o
  · rcases OwnT.back rn.len rn.own o with z | z
    · exact h.d k z o'
    · have := h.r.lt k o'; omega
  · rcases o with o | o
    · obtain ⟨f1, f2, f3⟩ := h.f k o
      refine ⟨fun o' => ?_, f2, Nat.lt_of_lt_of_le f3 tt.size⟩
      rcases OwnT.back rn.len rn.own o' with z | z
      · exact f1 z
      · omega
    · have hrow := rn.row.lt k o
      refine ⟨?_, fun o' => ?_, hrow.2⟩
      · rw [rn.len]; exact rn.far k o
      · have := h.r.lt k o'; omega
  · rcases o with o | o
    · exact (h.f k (.inl hk)).1 o
    · exact hFK (by rw [← o]; exact hk)
end Go.Proofs.Ytehphgpkhfokhaa
