/- gimbalref8: MayRaw, Check, Bytes; rows of bytes. -/
import Derived.Test.YtdfhhfpfnkjbnaaUb
import Derived.Deep.AppendLies
namespace Go.Proofs.Ytdfhhfpfnkjbnaa
open Go.RowKit Go.Conc
theorem info_parts {P : Program} {e : TypeId} {z : Value} {n m : Nat} (h : (P.info? e).map (fun i => (i.zero, i.size, i.bytes)) = some (some z, n, m)) : ∃ i, P.info? e = some i ∧ i.zero = some z ∧ i.size = n ∧ i.bytes = m := by
  cases hp : P.info? e with
  | none => rw [hp] at h; simp at h
  | some i =>
    rw [hp] at h
    simp only [Option.map_some, Option.some.injEq, Prod.mk.injEq] at h
    exact ⟨i, rfl, h.1, h.2.1, h.2.2⟩
theorem Try.infoTb : (Try.prog.info? 5).map (fun i => (i.zero, i.size, i.bytes)) = some (some (.int .u8 0), 1, 1) := by kernel_rfl
abbrev Eb : TypeId := 5
theorem row_grown {w w' : World} {v : Value} {B : Nat} {e : TypeId} {s n : Nat} {xs : List Value} (hg : w.grownBy w' v.ownBlock) (h : w.ownsRow B e s v n xs) {a : World} (hx : Ext a w) (hB : a.heap.size ≤ B) : Ext a w' :=
  Below.grown hx hg hx.size (fun k hk => by have := (h.lt k hk).1; omega)
theorem row_tn {own : Nat → Prop} {w w' : World} {B : Nat} {e : TypeId} {s n : Nat} {v : Value} {xs : List Value} (h : w.ownsRow B e s v n xs) (t : Tn own w w') (ho : ∀ k, B ≤ k → v.ownBlock = some k → ¬ own k) : w'.ownsRow B e s v n xs := by
  refine ⟨h.1, ?_⟩
  rcases h.2 with e2 | ⟨g, cap, cur, hv', hb, hg, hr⟩
  · exact .inl e2
  · refine .inr ⟨g, cap, cur, hv', hb, ?_, hr⟩
    rw [t.2 g (Array.getElem?_eq_some_iff.1 hg).1 (ho g hb (by rw [hv']; rfl))]; exact hg
theorem row_ext {w w' : World} {B : Nat} {e : TypeId} {s n : Nat} {v : Value} {xs : List Value} (h : w.ownsRow B e s v n xs) (x : Ext w w') : w'.ownsRow B e s v n xs :=
  row_tn (own := fun _ => False) h (Tn.of_ext x) (fun _ _ _ k => k)
def bv (l : List Int) : List Value := l.map fun b => (.int .u8 b : Value)
theorem bv_len (l : List Int) : (bv l).length = l.length := by simp [bv]
theorem bv_app (l m : List Int) : bv (l ++ m) = bv l ++ bv m := by simp [bv]
theorem bv_take (l : List Int) (n : Nat) : bv (l.take n) = (bv l).take n := by simp [bv, List.map_take]
theorem bv_one (l : List Int) : ∀ u ∈ bv l, u.oneCell' = true := by
  intro u h
  simp only [bv, List.mem_map] at h
  obtain ⟨b, _, rfl⟩ := h
  rfl
def B8.l (b : B8) : List Int := [b.b0, b.b1, b.b2, b.b3, b.b4, b.b5, b.b6, b.b7]
theorem V8.news {w : World} {k : Nat} {b : B8} (h : V8 w k b) : ∀ j u, (bv b.l)[j]? = some u → w.cell? ((⟨k, 0, none⟩ : Addr).add j) = some u := by
  intro j u hu
  have hj : j < 8 := by
    have := (List.getElem?_eq_some_iff.1 hu).1
    simpa [bv, B8.l] using this
  have hadd : (⟨k, 0, none⟩ : Addr).add j = ⟨k, j, none⟩ := by unfold Addr.add; split <;> simp_all
  rw [hadd, h.cell hj, ← hu]
  match j, hj with
  | 0, _ | 1, _ | 2, _ | 3, _ | 4, _ | 5, _ | 6, _ | 7, _ => rfl
  | j + 8, h => omega
abbrev cells4 (x : Raw) : Obj := .cells #[.int .i64 x.x, .int .i64 x.y, .int .i64 x.z, .int .i64 x.t] Erw
theorem row_form {w : World} {B : Nat} {e : TypeId} {s n : Nat} {v : Value} {xs : List Value} (h : w.ownsRow B e s v n xs) : ∃ a c, v = .slice a n c := by
  rcases h.2 with ⟨e1, e2⟩ | ⟨g, cap, cur, e1, _⟩
  · exact ⟨none, 0, by rw [e1, e2]⟩
  · exact ⟨_, _, e1⟩
theorem row_some {w : World} {B n : Nat} {v : Value} {xs : List Int} (h : w.ownsRow B Eb 1 v n (bv xs)) (hn : 0 < n) : ∃ g c, v = .slice (some ⟨g, 0, none⟩) n c ∧ ∀ j, j < n → w.cell? ⟨g, j, none⟩ = some (.int .u8 (xs.getD j 0)) := by
  have h' := h
  rcases h.2 with ⟨e1, e2⟩ | ⟨g, cap, cur, e1, _⟩
  · omega
  · refine ⟨g, cap, e1, fun j hj => ?_⟩
    rw [e1] at h'
    have hl := h.1
    rw [bv_len] at hl
    rw [h'.cellAt j (by omega)]
    have : j < xs.length := by omega
    simp [bv, this]
theorem one_new (w : World) (u : Value) (T : TypeId) : ∀ j x, [u][j]? = some x → (w.alloc (.cells #[u] T)).cell? ((⟨w.heap.size, 0, none⟩ : Addr).add j) = some x := by
  intro j y h
  match j, h with
  | 0, h => simp at h; subst h; simp [Addr.add, go_sem]
  | j + 1, h => simp at h
theorem within_num (i : Int) (n : Nat) (hn : 0 < n) (h2 : n ≤ 1000) : ∃ q : Nat, q < n ∧ (IntKind.u64.wrap i) % (n : Int) = (q : Int) := by
  refine ⟨((IntKind.u64.wrap i) % (n : Int)).toNat, ?_, ?_⟩
  · have := Int.emod_lt_of_pos (IntKind.u64.wrap i) (b := (n : Int)) (by omega)
    omega
  · have := Int.emod_nonneg (IntKind.u64.wrap i) (b := (n : Int)) (by omega)
    omega
set_option maxHeartbeats 400000 in
theorem within_any (i : Int) (n : Nat) (hn : 0 < n) (h2 : n ≤ 1000) : ∃ q : Nat, q < n ∧ ∀ w, Calls Try.prog 24 #[.int .i64 i, .int .i64 n] w fun e w' => e = .returned (.int .i64 q) ∧ w' = w := by
  obtain ⟨q, hq, he⟩ := within_num i n hn h2
  refine ⟨q, hq, fun w => ?_⟩
  have hne : (n : Int) ≠ 0 := by omega
  have HE : Hid ((IntKind.u64.wrap i) % (n : Int) = (q : Int)) := he
  clear he
  go_enter Try.func24, Try.ntmps24
  go_wp2
  go_ret
  refine ⟨ret_int ?_, rfl⟩
  have h0 : 0 ≤ IntKind.u64.wrap i := by rw [IntKind.wrap_u64]; omega
  rw [Int.tmod_eq_emod_of_nonneg h0, HE.out]
  unfold wrap64; omega
/-- bytes that can be read -/
def RdB (w : World) (v : Value) (l : List Int) : Prop := ∃ a c, v = .slice a l.length c ∧ ∀ j, j < l.length → ∃ b off, a = some ⟨b, off, none⟩ ∧ w.cell? ⟨b, off + j, none⟩ = some (.int .u8 (l.getD j 0))
theorem RdB.ext {w w' : World} {v : Value} {l : List Int} (h : RdB w v l) (x : Ext w w') : RdB w' v l := by
  obtain ⟨a, c, e, h⟩ := h
  refine ⟨a, c, e, fun j hj => ?_⟩
  obtain ⟨b, off, e2, h2⟩ := h j hj
  exact ⟨b, off, e2, x.keepc h2⟩
theorem rdb_row {w : World} {B : Nat} {v : Value} {l : List Int} (h : w.ownsRow B Eb 1 v l.length (bv l)) : RdB w v l := by
  obtain ⟨a, c, rfl⟩ := row_form h
  refine ⟨a, c, rfl, fun j hj => ?_⟩
  obtain ⟨g, c', e, h2⟩ := row_some h (by omega)
  cases e
  exact ⟨g, 0, rfl, by rw [Nat.zero_add]; exact h2 j hj⟩
theorem RdB.tn {own : Nat → Prop} {w w' : World} {v : Value} {l : List Int} (h : RdB w v l) (t : Tn own w w') (ho : ∀ k, v.ownBlock = some k → ¬ own k) : RdB w' v l := by
  obtain ⟨a, c, e, h⟩ := h
  subst e
  refine ⟨a, c, rfl, fun j hj => ?_⟩
  obtain ⟨b, off, e2, h2⟩ := h j hj
  exact ⟨b, off, e2, t.keepc (ho b (by rw [e2]; rfl)) h2⟩
set_option maxHeartbeats 400000 in
theorem in_any (x a b : Int) (w : World) : Calls Try.prog 47 #[.int .i64 x, .int .i64 a, .int .i64 b] w fun e w' => e = .returned (.bool (inn x a b)) ∧ w' = w := by
  by_cases h1 : a ≤ x
  · by_cases h2 : x ≤ b
    · have e : Hid (inn x a b = true) := inn_iff.2 ⟨h1, h2⟩
      go_enter Try.func47, Try.ntmps47
      go_wp2
      go_ret
      rw [e.out]; exact ⟨rfl, rfl⟩
    · have e : Hid (inn x a b = false) := inn_not.2 (fun h => h2 h.2)
      go_enter Try.func47, Try.ntmps47
      go_wp2
      go_ret
      rw [e.out]; exact ⟨rfl, rfl⟩
  · have e : Hid (inn x a b = false) := inn_not.2 (fun h => h1 h.1)
    go_enter Try.func47, Try.ntmps47
    go_wp2
    go_ret
    rw [e.out]; exact ⟨rfl, rfl⟩
set_option maxRecDepth 20000 in
set_option maxHeartbeats 2000000 in
theorem mayraw_any (r : Raw) (w : World) : Calls Try.prog 30 #[rv r] w fun e w' => e = .returned (.bool (okR r)) ∧ Ext w w' := by
  have hx : Ext w (w.alloc (cells4 r)) := (Ext.refl w).alloc _
  have HX : Hid (∀ w, Calls Try.prog 47 #[.int .i64 r.x, .int .i64 (-32768), .int .i64 32767] w fun e w' => e = .returned (.bool (inn r.x (-32768) 32767)) ∧ w' = w) := in_any r.x _ _
  have HY : Hid (∀ w, Calls Try.prog 47 #[.int .i64 r.y, .int .i64 (-32768), .int .i64 32767] w fun e w' => e = .returned (.bool (inn r.y (-32768) 32767)) ∧ w' = w) := in_any r.y _ _
  have HZ : Hid (∀ w, Calls Try.prog 47 #[.int .i64 r.z, .int .i64 (-32768), .int .i64 32767] w fun e w' => e = .returned (.bool (inn r.z (-32768) 32767)) ∧ w' = w) := in_any r.z _ _
  have HT : Hid (∀ w, Calls Try.prog 47 #[.int .i64 r.t, .int .i64 (-128), .int .i64 127] w fun e w' => e = .returned (.bool (inn r.t (-128) 127)) ∧ w' = w) := in_any r.t _ _
  unfold okR
  obtain ⟨x, y, z, t⟩ := r
  cases h1 : inn x (-32768) 32767 <;> cases h2 : inn y (-32768) 32767 <;> cases h3 : inn z (-32768) 32767 <;> cases h4 : inn t (-128) 127
  all_goals
    rw [h1] at HX; rw [h2] at HY; rw [h3] at HZ; rw [h4] at HT
    clear h1 h2 h3 h4
    go_enter Try.func30, Try.ntmps30
    go_wp2_with (first | (go_at_call_of 47 (Value.int IntKind.i64 x); refine (HX.out _).mono ?_; rintro e w' ⟨rfl, rfl⟩) | (go_at_call_of 47 (Value.int IntKind.i64 y); refine (HY.out _).mono ?_; rintro e w' ⟨rfl, rfl⟩) | (go_at_call_of 47 (Value.int IntKind.i64 z); refine (HZ.out _).mono ?_; rintro e w' ⟨rfl, rfl⟩) | (go_at_call_of 47 (Value.int IntKind.i64 t); refine (HT.out _).mono ?_; rintro e w' ⟨rfl, rfl⟩))
    go_ret
    exact ⟨rfl, hx⟩
def ckL (l : List Int) : Nat → Int
  | 0 => 90
  | k + 1 => bits BinOp.xor IntKind.u8 (ckL l k) (l.getD k 0)
set_option maxRecDepth 20000 in
set_option maxHeartbeats 2000000 in
theorem check_any (w : World) (v : Value) (l : List Int) (h : RdB w v l) (hl : l.length = 7) : Calls Try.prog 42 #[v] w fun e w' => e = .returned (.int .u8 (ckL l 7)) ∧ w' = w := by
  obtain ⟨a, c, rfl, hc⟩ := h
  have HC : Hid (∀ j, j < l.length → ∃ b off, a = some ⟨b, off, none⟩ ∧ w.cell? ⟨b, off + j, none⟩ = some (.int .u8 (l.getD j 0))) := hc
  clear hc
  go_enter Try.func42, Try.ntmps42
  go_wp2_with fail
  go_loopw [3, 4] (fun v i wr => ∃ k : Nat, k ≤ 7 ∧ i = .int .i64 k ∧ v = .int .u8 (ckL l k) ∧ wr = w) (fun _ i _ => 7 - (intOf i).toNat)
  case atStart => exact ⟨0, by omega, rfl, rfl, rfl⟩
  case round =>
    obtain ⟨k, hk, rfl, rfl, hw⟩ := hrel
    subst hw
    by_cases hlt : k < 7
    · obtain ⟨b, off, rfl, c0⟩ := HC.out k (by omega)
      have hkl : (k : Int) < (l.length : Int) := by omega
      have es : Hid (ckL l (k + 1) = bits BinOp.xor IntKind.u8 (ckL l k) (l.getD k 0)) := rfl
      generalize l.getD k 0 = y at *
      generalize hc1 : ckL l (k + 1) = c1 at *
      have HC1 : Hid (ckL l (k + 1) = c1) := hc1
      clear hc1
      generalize ckL l k = c2 at *
      go_wp2_with fail
      go_roundw
      case measure => simp [intOf]; omega
      case rel => exact ⟨k + 1, by omega, by simp, by rw [HC1.out, es.out], trivial⟩
    · have hk7 : k = 7 := by omega
      subst hk7
      go_wp2_with fail
      go_ret
      exact ⟨rfl, rfl⟩
/-- the seven bytes ahead of the check -/
def s7 (r : Raw) : List Int := [r.x / 256 % 256, r.x % 256, r.y / 256 % 256, r.y % 256, r.z / 256 % 256, r.z % 256, r.t % 256]
def s7' (r : Raw) : List Int := [r.x / 256 % 256, IntKind.u8.wrap r.x, r.y / 256 % 256, IntKind.u8.wrap r.y, r.z / 256 % 256, IntKind.u8.wrap r.z, IntKind.u8.wrap r.t]
theorem s7_pk (r : Raw) : (pk r).l = s7 r ++ [ckL (s7 r) 7] := by
  have e : s7 r = s7' r := by simp only [s7, s7', IntKind.wrap_u8]
  rw [e]; rfl
set_option maxRecDepth 20000 in
set_option maxHeartbeats 4000000 in
theorem bytes_any (w : World) (r : Raw) : Calls Try.prog 31 #[rv r] w fun e w' => ∃ g c, e = .returned (.slice (some ⟨g, 0, none⟩) 8 c) ∧ w'.ownsRow w.heap.size Eb 1 (.slice (some ⟨g, 0, none⟩) 8 c) 8 (bv (pk r).l) ∧ Ext w w' := by
  obtain ⟨i0, hi, hz0, hz1, hz2⟩ := info_parts Try.infoTb
  have x1 : Ext w (w.alloc (cells4 r)) := (Ext.refl w).alloc _
  have hs : (w.alloc (cells4 r)).heap.size = w.heap.size + 1 := by simp
  have HS : Hid ((w.alloc (cells4 r)).heap.size = w.heap.size + 1) := hs
  have h1 : P4 (w.alloc (cells4 r)) w.heap.size r := p4_at rfl
  obtain ⟨⟨a0, a1, a2, a3⟩, _⟩ := h1
  have HP : Hid (bv (pk r).l = bv (s7 r) ++ [.int .u8 (ckL (s7 r) 7)]) := by show _ = _; rw [s7_pk, bv_app]; rfl
  clear hs
  go_enter Try.func31, Try.ntmps31
  go_upto_region 1 with fail
  generalize w.alloc (cells4 r) = w1 at *
  have HO : Hid ((w1.alloc (.cells (bv (s7 r)).toArray Eb)).ownsRow w.heap.size Eb 1 (.slice (some ⟨w1.heap.size, 0, none⟩) 7 7) 7 (bv (s7 r))) := World.ownsRow_lit w1 (bv (s7 r)).toArray 7 (by rw [HS.out]; omega) (by decide) rfl
  have HX2 : Hid (Ext w (w1.alloc (.cells (bv (s7 r)).toArray Eb))) := x1.alloc _
  have HK := check_any _ _ _ (rdb_row (l := s7 r) HO.out) rfl
  have HOB : Hid (∀ k, (Value.slice (some ⟨w1.heap.size, 0, none⟩) 7 7).ownBlock = some k → w.heap.size ≤ k) := fun k e => (HO.out.lt k e).1
  obtain ⟨x, y, z, t⟩ := r
  generalize hck : ckL (s7 ⟨x, y, z, t⟩) 7 = ck at *
  clear hck
  have hO := HO.out
  have hle : w.heap.size ≤ w1.heap.size + 1 + 1 := by rw [HS.out]; omega
  have hX := HX2.out
  simp only [s7, bv, List.map_cons, List.map_nil] at HK hO hX
  have h63 : 7 + 1 ≤ maxLen := by decide
  go_upto_region 2 with fail
  generalize hw2 : w1.alloc (.cells #[.int .u8 (x / 256 % 256), .int .u8 (x % 256), .int .u8 (y / 256 % 256), .int .u8 (y % 256), .int .u8 (z / 256 % 256), .int .u8 (z % 256), .int .u8 (t % 256)] Eb) = w2 at *
  have hle2 : w.heap.size ≤ w2.heap.size + 1 := by rw [← hw2]; simp; omega
  clear hw2
  go_wp2_with (first | (go_at_call 42; refine HK.mono ?_; rintro e wx ⟨rfl, hwx⟩; have hwy := hwx.symm; clear hwx; subst hwy) | (at_builtin; refine wpList_append_lies _ rfl (.tmp 29) (.tmp 32) 25 rfl w.heap.size Eb i0 (.int .u8 0) 1 1 Try.underlying25 hi hz0 hz1 hz2 rfl (by decide) _ 7 _ rfl (by exact hO.alloc _) ⟨w2.heap.size, 0, none⟩ 1 1 [.int .u8 ck] rfl rfl (by exact one_new w2 _ _) (by simp [Value.oneCell']) (by decide) h63 (by decide) (by simpa using hle2) (w2.heap.size + 1) (by simp) ?_; intro g' cap' w9 hown' hg' hgb hgl; have R1 : Hid (w9.ownsRow w.heap.size Eb 1 (.slice (some ⟨g', 0, none⟩) 8 cap') 8 (bv (pk ⟨x, y, z, t⟩).l) ∧ Ext w w9) := (by refine ⟨?_, row_grown hg' (hO.alloc _) (hX.alloc _) (Nat.le_refl _)⟩; rw [HP.out]; exact hown'); clear hown' hg' hgb hgl))
  go_ret
  exact ⟨g', cap', rfl, R1.out.1, R1.out.2⟩
end Go.Proofs.Ytdfhhfpfnkjbnaa
