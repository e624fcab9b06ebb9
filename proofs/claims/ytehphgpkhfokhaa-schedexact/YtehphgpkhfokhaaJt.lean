/- wheel: Take. -/
import Derived.Test.YtehphgpkhfokhaaJn
namespace Go.Proofs.Ytehphgpkhfokhaa
open Go.RowKit
abbrev Ea : TypeId := 82
/-- the cells of timers as they are told -/
def flat2 : List Tm → List Value
  | [] => []
  | t :: l => .int .i64 t.1 :: .int .i64 t.2.1 :: flat2 l
theorem flat2_len : ∀ xs : List Tm, (flat2 xs).length = xs.length * 2
  | [] => rfl
  | t :: l => by simp [flat2, flat2_len l]; omega
theorem flat2_app : ∀ xs ys : List Tm, flat2 (xs ++ ys) = flat2 xs ++ flat2 ys
  | [], ys => rfl
  | t :: l, ys => by simp [flat2, flat2_app l ys]
theorem flat2_at : ∀ (xs : List Tm) (k : Nat), k < xs.length → (flat2 xs)[k * 2]? = some (.int .i64 (gt xs k).1) ∧ (flat2 xs)[k * 2 + 1]? = some (.int .i64 (gt xs k).2.1)
  | [], k, h => by simp at h
  | t :: l, 0, _ => by simp [flat2, gt]
  | t :: l, k + 1, h => by
    have := flat2_at l k (by simpa using h)
    rw [show (k + 1) * 2 = k * 2 + 1 + 1 by omega]
    simpa [flat2, gt] using this
theorem Try.infoTa : (Try.prog.info? Ea).map (fun i => (i.zero, i.size, i.bytes)) = some (some (.agg #[.int .i64 0, .int .i64 0]), 2, 16) := by kernel_rfl
theorem field_tm (x y z : Int) (w : World) : (Instr.field 90 (.agg #[.int .i64 x, .int .i64 y, .int .i64 z]) 0).run Try.prog w = .ok (.agg #[.int .i64 x, .int .i64 y]) w := rfl
theorem two_new (w : World) (u v : Value) (T : TypeId) : ∀ j x, [u, v][j]? = some x → (w.alloc (.cells #[u, v] T)).cell? ((⟨w.heap.size, 0, none⟩ : Addr).add j) = some x := by
  intro j y h
  match j with
  | 0 => simp at h; subst h; simp [go_sem, Addr.add]
  | 1 => simp at h; subst h; simp [go_sem, Addr.add]
  | j + 2 => simp at h
theorem row_turn {w w' : World} {B : Nat} {e : TypeId} {s n : Nat} {v : Value} {xs : List Value} {o : Nat → Nat → Prop} (h : w.ownsRow B e s v n xs) (t : Turn o w w') (ho : ∀ k j, o k j → k < B) : w'.ownsRow B e s v n xs := by
  refine ⟨h.1, ?_⟩
  rcases h.2 with e1 | ⟨g, cap, cur, hv, hb, hg, hr⟩
  · exact .inl e1
  · refine .inr ⟨g, cap, cur, hv, hb, ?_, hr⟩
    rw [t.2.1 g (Array.getElem?_eq_some_iff.1 hg).1 (fun j k => by have := ho g j k; omega)]; exact hg
theorem row_far {w w' : World} {B : Nat} {e : TypeId} {s n : Nat} {v : Value} {xs : List Value} {o : Nat → Nat → Prop} (h : w.ownsRow B e s v n xs) (t : Turn o w w') (ho : ∀ k j, v.ownBlock = some k → ¬ o k j) : w'.ownsRow B e s v n xs := by
  refine ⟨h.1, ?_⟩
  rcases h.2 with e1 | ⟨g, cap, cur, hv, hb, hg, hr⟩
  · exact .inl e1
  · refine .inr ⟨g, cap, cur, hv, hb, ?_, hr⟩
    rw [t.2.1 g (Array.getElem?_eq_some_iff.1 hg).1 (fun j => ho g j (by rw [hv]; rfl))]; exact hg
theorem row_ext {w w' : World} {B : Nat} {e : TypeId} {s n : Nat} {v : Value} {xs : List Value} (h : w.ownsRow B e s v n xs) (t : Ext w w') : w'.ownsRow B e s v n xs := row_far (o := fun _ _ => False) h (Turn.of_ext t) (fun _ _ _ k => k)
def lenV : Value → Nat
  | .slice _ n _ => n
  | _ => 0
/-- the first of those that are left -/
def headAt : List Tm → Int
  | [] => 0
  | s :: _ => s.2.1
/-- is one left? -/
def hasOne : List Tm → Bool
  | [] => false
  | _ :: _ => true
theorem hasOne_nil : hasOne [] = false := rfl
theorem hasOne_cons (s : Tm) (l : List Tm) : hasOne (s :: l) = true := rfl
theorem headAt_nil : headAt [] = 0 := rfl
theorem headAt_cons (s : Tm) (l : List Tm) : headAt (s :: l) = s.2.1 := rfl
theorem due_is {pre rest : List Tm} {now : Int} (h : ∀ t ∈ pre, t.2.1 ≤ now) (hr : ∀ s l, rest = s :: l → now < s.2.1) : due now (pre ++ rest) = pre ∧ left now (pre ++ rest) = rest := by
  induction pre with
  | nil =>
    cases rest with
    | nil => exact ⟨rfl, rfl⟩
    | cons s l =>
      have := hr s l rfl
      have hn : ¬ s.2.1 ≤ now := by omega
      simp [due, left, hn]
  | cons t pre ih =>
    have ht := h t List.mem_cons_self
    obtain ⟨i1, i2⟩ := ih (fun s hs => h s (List.mem_cons_of_mem _ hs))
    simp only [due, left] at i1 i2
    simp [due, left, ht, i1, i2]
theorem next_at {p : Nat} {v : Value} {S : List Tm} {xs : List Tm} {T T' : Int} (w : World) (h : HS w p v xs T') (hw : Hw xs S T) :
    Calls Try.prog 49 #[.pointer (some ⟨p, 1, none⟩)] w fun e w' => e = .returned (.tuple #[.int .i64 (headAt S), .bool (hasOne S)]) ∧ w' = w := by
  refine (next_any w h hw).mono fun e w' ⟨he, hx⟩ => ⟨?_, hx⟩
  rw [he]; cases S <;> rfl
/-- what Take has done so far -/
def Taken (w wr : World) (p : Nat) (v : Value) (S pre rest : List Tm) (T T' now : Int) (r : Value) : Prop :=
  S = pre ++ rest ∧ (∀ t ∈ pre, t.2.1 ≤ now) ∧ wr.ownsRow w.heap.size Ea 2 r pre.length (flat2 pre) ∧ (∃ v' ys, HS wr p v' ys T' ∧ Hw ys rest T ∧ v'.ownBlock = v.ownBlock) ∧ Turn (own p v) w wr
set_option maxRecDepth 20000 in
set_option maxHeartbeats 8000000 in
theorem take_raw {p : Nat} {v : Value} {S : List Tm} {xs : List Tm} {T T' : Int} (now : Int) (w : World) (h : HS w p v xs T') (hw : Hw xs S T) (hT : T ≤ 100000) :
    Calls Try.prog 43 #[.pointer (some ⟨p, 1, none⟩), .int .i64 now] w fun e w' => ∃ r, e = .returned r ∧ w'.ownsRow w.heap.size Ea 2 r (due now S).length (flat2 (due now S)) ∧ (∃ v' ys, HS w' p v' ys T' ∧ Hw ys (left now S) T ∧ v'.ownBlock = v.ownBlock) ∧ Turn (own p v) w w' := by
  obtain ⟨i0, hi, hz0, hz1, hz2⟩ := info_parts Try.infoTa
  have H0 : Hid (Taken w w p v S [] S T T' now (.slice none 0 0)) := ⟨rfl, fun t ht => by simp at ht, World.ownsRow_nil _ _ _ _, ⟨v, xs, h, hw, rfl⟩, Turn.refl _ _⟩
  have HN0 := next_at w h hw
  have HN : Hid (∀ (w : World) (v : Value) (ys S : List Tm), HS w p v ys T' → Hw ys S T → Calls Try.prog 49 #[.pointer (some ⟨p, 1, none⟩)] w fun e w' => e = .returned (.tuple #[.int .i64 (headAt S), .bool (hasOne S)]) ∧ w' = w) := fun w v ys S a b => next_at w a b
  have lp : p < w.heap.size := World.block_lt_of_cell? w ⟨p, 1, none⟩ h.1.1
  have lv : Hid (∀ k, v.ownBlock = some k → k < w.heap.size) := fun k hk => (h.2.2.1.lt k hk).2
  have hS : S.length ≤ 100000 := by have := hw.2.2.2.2.1.2; omega
  clear h hw
  go_enter Try.func43, Try.ntmps43
  go_wp2_with (go_at_call 49; refine HN0.mono ?_; rintro e wx ⟨rfl, hwx⟩; have hwy := hwx.symm; clear hwx; subst hwy)
  go_loopw [5, 6, 7] (fun s5 s6 s7 wr => ∃ (pre rest : List Tm) (a : Option Addr) (cap : Nat), s5 = .slice a pre.length cap ∧ s6 = .int .i64 (headAt rest) ∧ s7 = .bool (hasOne rest) ∧ Hid (Taken w wr p v S pre rest T T' now (.slice a pre.length cap))) (fun s5 _ _ _ => S.length - lenV s5)
  case atStart => exact ⟨[], S, none, 0, rfl, rfl, rfl, H0.out⟩
  case round =>
    obtain ⟨pre, rest, a, cap, rfl, rfl, rfl, hR⟩ := hrel
    clear HN0 H0
    cases rest with
    | nil =>
      simp only [headAt_nil, hasOne_nil]
      go_wp2_with fail
      go_ret
      obtain ⟨h1, h2, h3, h4, h5⟩ := hR.out
      obtain ⟨d1, d2⟩ := due_is (rest := []) h2 (fun s l e => by cases e)
      rw [h1, d1, d2]
      exact ⟨_, rfl, h3, h4, h5⟩
    | cons s rest =>
      simp only [headAt_cons, hasOne_cons]
      by_cases hle : s.2.1 ≤ now
      · obtain ⟨h1, h2, h3, ⟨v', ys, h4, h4w, h4v⟩, h5⟩ := hR.out
        have hpos := h4w.head.1
        obtain ⟨g, cp, rfl, _, _⟩ := h4.form hpos
        have HD := drop_any 0 wr h4 hpos (by have := h4w.small hT; omega) h4w.1
        rw [h4w.head.2] at HD
        unfold tv at HD
        have hlen : pre.length + 1 ≤ S.length := by rw [h1]; simp
        have HB : Hid (w.heap.size ≤ wr.heap.size) := h5.size
        have hp := h4.1.1
        obtain ⟨s1, s2, s3⟩ := s
        simp only at HD hle ⊢
        have HOv : Hid (∀ k j, own p (.slice (some ⟨g, 0, none⟩) ys.length cp) k j → k < w.heap.size) := fun k j o => by
          rcases o with o | o
          · omega
          · rw [h4v] at o; exact lv.out k o
        have HAll : Hid (∀ w1 zs, zs.Perm (dl ys 0) → Heap (gt zs) zs.length → HS w1 p (.slice (some ⟨g, 0, none⟩) zs.length cp) zs T' → Turn (own p (.slice (some ⟨g, 0, none⟩) ys.length cp)) wr w1 → w1.ownsRow w.heap.size Ea 2 (.slice a pre.length cap) pre.length (flat2 pre) ∧ Hw zs rest T ∧ Turn (own p v) w w1 ∧ w.heap.size ≤ w1.heap.size) := fun w1 zs q1 q2 q3 q4 => ⟨row_turn h3 q4 HOv.out, h4w.drop0 q2 q1, h5.trans q4 (fun i _ _ o => by rcases o with o | o; exact .inl o; exact .inr (by rw [← h4v]; exact o)), Nat.le_trans h5.size q4.size⟩
        have HPre : Hid (∀ t ∈ pre ++ [(s1, s2, s3)], t.2.1 ≤ now) := fun t ht => by
          rcases List.mem_append.1 ht with k | k
          · exact h2 t k
          · rw [List.mem_singleton.1 k]; exact hle
        have HSx : Hid (S = pre ++ [(s1, s2, s3)] ++ rest) := by show _ = _; rw [h1]; simp
        have HLv : Hid ((Value.slice (some ⟨g, 0, none⟩) ys.length cp).ownBlock = v.ownBlock) := h4v
        have hfd := field_tm s1 s2 s3
        clear h1 h2 h3 h4 h4w h4v h5 hR
        go_wp2_with (first | (go_at_call 50; refine HD.mono ?_; rintro e w1 ⟨rfl, zs, q1, q2, q3, q4⟩; obtain ⟨k1, k2, k3, k4⟩ := HAll.out w1 zs q1 q2 q3 q4; clear q1 q2 q4) | (at_builtin; refine wpList_append_lies _ rfl (.tmp 24) (.tmp 30) 53 rfl w.heap.size Ea i0 (.agg #[.int .i64 0, .int .i64 0]) 2 16 Try.underlying53 hi hz0 hz1 hz2 rfl (by decide) _ pre.length (flat2 pre) rfl (by exact k1.alloc _) ⟨w1.heap.size, 0, none⟩ 1 1 [.int .i64 s1, .int .i64 s2] rfl rfl (by exact two_new w1 _ _ _) (by simp [Value.oneCell']) (by decide) (by unfold maxLen; omega) (by omega) (by simp; omega) (w1.heap.size + 1) (by simp) ?_; intro g' cap' w2 hown' hg' hgb hgl))
        have hg2 : (w1.alloc (.cells #[.int .i64 s1, .int .i64 s2] Ea)).grownBy w2 (Value.slice a pre.length cap).ownBlock := hg'
        have hrow : ∀ k, (Value.slice a pre.length cap).ownBlock = some k → w.heap.size ≤ k := fun k hk => (k1.lt k hk).1
        have tG : Turn (fun k _ => (Value.slice a pre.length cap).ownBlock = some k) (w1.alloc (.cells #[.int .i64 s1, .int .i64 s2] Ea)) w2 := (Turn.refl _ _).grown hg2 (fun k hk => .inl (fun _ => hk))
        have q5 : HS w2 p (.slice (some ⟨g, 0, none⟩) zs.length cp) zs T' := (q3.ext ((Ext.refl w1).alloc _)).far tG ⟨fun k => by have := hrow p k; omega, fun k => by have := hrow p k; omega⟩ (fun k _ hk o => by have h1 := hrow k o; have h2 := HOv.out k 0 (.inr hk); omega)
        have t2 : Turn (own p v) w w2 := (k3.alloc _).grown hg2 (fun k hk => .inr (hrow k hk))
        have hl1 : (pre ++ [(s1, s2, s3)]).length = pre.length + 1 := by simp
        have HT2 : Hid (Taken w w2 p v S (pre ++ [(s1, s2, s3)]) rest T T' now (.slice (some ⟨g', 0, none⟩) (pre ++ [(s1, s2, s3)]).length cap')) := by
          refine ⟨HSx.out, HPre.out, ?_, ⟨_, zs, q5, k2, HLv.out⟩, t2⟩
          rw [hl1, flat2_app]
          exact hown'
        have HNx := HN.out w2 _ zs rest q5 k2
        clear hg' hg2 hrow tG q5 t2 hown' hgb hgl k1 k2 k3 k4 q3 hp
        go_wp2_with (go_at_call 49; refine HNx.mono ?_; rintro e wx ⟨rfl, hwx⟩; have hwy := hwx.symm; clear hwx; subst hwy)
        go_roundw
        case measure => simp [lenV]; omega
        case rel => exact ⟨pre ++ [(s1, s2, s3)], rest, _, cap', by rw [hl1], rfl, rfl, HT2⟩
      · go_wp2_with fail
        go_ret
        obtain ⟨h1, h2, h3, h4, h5⟩ := hR.out
        obtain ⟨d1, d2⟩ := due_is (rest := s :: rest) (now := now) h2 (fun s' l e => by cases e; omega)
        rw [h1, d1, d2]
        exact ⟨_, rfl, h3, h4, h5⟩
end Go.Proofs.Ytehphgpkhfokhaa
