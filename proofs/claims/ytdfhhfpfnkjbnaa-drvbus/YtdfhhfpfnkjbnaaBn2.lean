/- DrvBus: what each call of a round tells. -/
import Derived.Test.YtdfhhfpfnkjbnaaBn1
import Derived.Test.YtdfhhfpfnkjbnaaHvG
namespace Go.Proofs.Ytdfhhfpfnkjbnaa
open Go.RowKit Go.Conc
/-- a bus of one device, without faults -/
structure B1 (s : Bs) (v : Dv) : Prop where
  n : s.n = 1
  F : s.F = []
  D : s.D 0 = v
theorem do_b1 {s : Bs} {v : Dv} (h : B1 s v) (ha : v.addr = 16) (r : Nat) (l : List Nat) (n : Nat) :
    (doB s 16 r l n).1 = 1 ∧ (doB s 16 r l n).2.1 = v.tells r l n ∧ B1 (doB s 16 r l n).2.2 (v.does r l n) := by
  obtain ⟨sn, sD, sF, sc⟩ := s
  obtain ⟨h1, h2, h3⟩ := h
  dsimp only at h1 h2 h3
  subst h1 h2 h3
  have e : fnd sD 1 16 = some 0 := by
    show (match fnd sD 0 16 with | some i => some i | none => if (sD 0).addr = 16 then some 0 else none) = _
    show (if (sD 0).addr = 16 then some 0 else none) = _
    rw [if_pos ha]
  unfold doB
  dsimp only
  rw [e]
  dsimp only
  have ef : (Bs.flt ⟨1, sD, [], sc⟩) = noF := rfl
  rw [ef]
  have k1 : ¬ noF.kind = 1 := by decide
  have k2 : ¬ noF.kind = 2 := by decide
  rw [if_neg k1, if_neg k2]
  refine ⟨rfl, ?_, rfl, rfl, ?_⟩
  · show corr noF ((sD 0).tells r l n) = _
    unfold corr
    rw [if_neg (fun h => absurd h.1 (by decide))]
  · exact upd_at sD 0 ((sD 0).does r l n)
theorem tick_b1 {s : Bs} {v : Dv} (h : B1 s v) (k : Nat) : B1 (tickB s k) (v.ticks k) := by
  obtain ⟨h1, h2, h3⟩ := h
  refine ⟨h1, h2, ?_⟩
  show (if 0 < s.n then (s.D 0).ticks k else s.D 0) = _
  rw [h1, if_pos (by omega), h3]
/-- what is handed round: the bus beside the law's own variables -/
structure Hb (w0 wr : World) (y : BA) (s : Bs) (lo : Nat) : Prop where
  x : Ext w0 wr
  b : IsBus wr y s
  f : ∀ k, FB y k → w0.heap.size ≤ k
  g : ∀ k, FB y k → k < lo
  s : lo ≤ wr.heap.size
theorem Hb.ext {w0 wr w' : World} {y : BA} {s : Bs} {lo : Nat} (h : Hb w0 wr y s lo) (x : Ext wr w') : Hb w0 w' y s lo := ⟨h.x.trans x, h.b.ext x, h.f, h.g, by have := h.s; have := x.size; omega⟩
theorem row_rdy {w : World} {B : Nat} {x : Value} {l : List Int} (h : w.ownsRow B Eb 1 x l.length (bv l)) : ∃ r rc, x = .slice r l.length rc ∧ l.length ≤ rc ∧ RdY w B r l := by
  rcases h.2 with ⟨e1, e2⟩ | ⟨g, cap, cur, e1, hb, _, hc, _⟩
  · refine ⟨none, 0, by rw [e1, e2], by omega, fun j hj => by omega⟩
  · have h' := h
    subst e1
    refine ⟨_, cap, rfl, by omega, fun j hj => ⟨g, 0, rfl, hb, ?_⟩⟩
    rw [Nat.zero_add, h'.cellAt j (by omega)]
    simp [bv, hj]
theorem ext_tn {own : Nat → Prop} {a w w' : World} (h : Ext a w) (t : Tn own w w') (ho : ∀ k, own k → a.heap.size ≤ k) : Ext a w' := t.below h ho
theorem HV.tn {own : Nat → Prop} {w w' : World} {b : Nat} {vs : List Value} (h : HV w b vs) (t : Tn own w w') (ho : ¬ own b) : HV w' b vs :=
  ⟨Nat.lt_of_lt_of_le h.1 t.size, fun j _ hv => ⟨t.keepc ho (h.c j hv), t.keepf ho (h.c j hv) (h.f j hv)⟩⟩
theorem Hb.bd {w0 wr w' : World} {y : BA} {s s' : Bs} {lo : Nat} (h : Hb w0 wr y s lo) (d : Bd y s' wr w') : Hb w0 w' y s' lo :=
  ⟨ext_tn h.x d.2 h.f, d.1, h.f, h.g, Nat.le_trans h.s d.2.size⟩
theorem Hb.hv {w0 wr w' : World} {y : BA} {s s' : Bs} {lo : Nat} {b : Nat} {vs : List Value} (h : Hb w0 wr y s lo) (d : Bd y s' wr w') (hv : HV wr b vs) (hb : b < w0.heap.size ∨ lo ≤ b) : HV w' b vs :=
  hv.tn d.2 (fun o => by have := h.f b o; have := h.g b o; omega)
section
variable {L : List Raw} {per i : Nat} {d : Dr} {v : Dv} {all : List Raw}
theorem bn_next (J : Js L per i d v all) (ha : d.addr = 16) (w : World) :
    Calls Try.prog 9 #[drv d] w fun e w' => ∃ a c, e = .returned (.tuple #[txv 16 (regN d : Int) a (wrN d).length c (rdN d : Int), .bool true, .int .i64 0]) ∧ (BR w' a (wrN d) ∧ ∀ k off, 0 < (wrN d).length → a = some ⟨k, off, none⟩ → w.heap.size ≤ k) ∧ Ext w w' := by
  refine (next_some d J.ok J.st w).mono ?_
  rintro e w' ⟨a, c, rfl, hr, x⟩
  have el : (txWr d).length = (wrN d).length := by rw [J.wr]; simp
  refine ⟨a, c, ?_, ⟨fun j hj => ?_, fun k off h0 ea => ?_⟩, x⟩
  · rw [← J.rg, ← J.rd, ← el, ha]
  · obtain ⟨b, off, e1, _, e2⟩ := hr j (by omega)
    have e3 : (txWr d).getD j 0 = ((gb (wrN d) j : Nat) : Int) := by
      rw [J.wr]
      unfold gb
      rw [List.getD_eq_getElem?_getD, List.getD_eq_getElem?_getD, List.getElem?_map, List.getElem?_eq_getElem hj]
      rfl
    rw [e3] at e2
    refine ⟨?_, b, off, e1, e2⟩
    have : gb (wrN d) j ∈ wrN d := by
      unfold gb
      rw [List.getD_eq_getElem?_getD, List.getElem?_eq_getElem hj]
      exact List.getElem_mem hj
    exact J.by_ _ this
  · obtain ⟨b, off', e1, h1, _⟩ := hr 0 (by omega)
    rw [ea] at e1
    cases e1
    exact h1
theorem bn_do (J : Js L per i d v all) (hv : v.addr = 16) {w0 w : World} {y : BA} {s : Bs} {lo : Nat} (h : Hb w0 w y s lo) (hs : B1 s v) {a : Option Addr} {c : Nat} (hb : BR w a (wrN d)) (hf : ∀ k off, 0 < (wrN d).length → a = some ⟨k, off, none⟩ → lo ≤ k) :
    Calls Try.prog 27 #[.pointer (some ⟨y.b, 0, none⟩), txv 16 (regN d : Int) a (wrN d).length c (rdN d : Int)] w fun e w' => ∃ r rc s', e = .returned (.tuple #[.agg #[.int .i64 1, .slice r (ansB d v).length rc], .int .i64 0]) ∧ ((ansB d v).length ≤ rc ∧ RdY w' w.heap.size r (ansB d v)) ∧ B1 s' (v.does (regN d) (wrN d) (rdN d)) ∧ Bd y s' w w' := by
  have hd := do_b1 hs hv (regN d) (wrN d) (rdN d)
  refine (do_ok w h.b 16 (regN d) a (wrN d) c (rdN d) (by have := J.wl; unfold maxLen; omega) J.tx hb (fun k off h0 ea o => by have := hf k off h0 ea; have := h.g k o; omega) (fun k => by rw [hs.F]; exact Int.le_refl _)).mono ?_
  rintro e w' ⟨x, rfl, ho, hB⟩
  rw [hd.2.1] at ho
  obtain ⟨r, rc, rfl, hc, hrow⟩ := row_rdy ho
  refine ⟨r, rc, _, ?_, ⟨hc, hrow⟩, hd.2.2, hB⟩
  rw [hd.1]
  rfl
theorem bn_take (J : Js L per i d v all) {w : World} {r : Option Addr} {rc : Nat} (hc : (ansB d v).length ≤ rc) (hr : RdY w 0 r (ansB d v)) :
    Calls Try.prog 19 #[drv d, .agg #[.int .i64 1, .slice r (ansB d v).length rc]] w fun e w' => ∃ ra rb, e = .returned (.tuple #[drv (takeD d 1 (ansB d v)), .slice ra (toldD d 1 (ansB d v)).length rb, .bool false, .int .i64 0]) ∧ RawsAt (w.heap.size + 3) (toldD d 1 (ansB d v)) w' (.slice ra (toldD d 1 (ansB d v)).length rb) ∧ Ext w w' := by
  have h8 : ((takeD d 1 (ansB d v)).st == 8) = false := beq_eq_false_iff_ne.2 J.n8
  have h := take_any (w := w) (ast := 1) (c := rc) J.ok J.st (by have := J.al; unfold maxLen; omega) hc hr J.ab
  unfold TakeC at h
  rw [h8] at h
  refine h.mono ?_
  rintro e w' ⟨x, rfl, hx, hE⟩
  obtain ⟨ra, rb, rfl⟩ := row_form hx
  exact ⟨ra, rb, rfl, hx, hE⟩
theorem bn_tick {w0 w : World} {y : BA} {s : Bs} {lo : Nat} (h : Hb w0 w y s lo) (hs : B1 s v) :
    Calls Try.prog 28 #[.pointer (some ⟨y.b, 0, none⟩), .int .i64 2] w fun e w' => ∃ s', e = .returned (.int .i64 0) ∧ B1 s' (v.ticks 2) ∧ Bd y s' w w' :=
  (tick_b w h.b 2 (by omega)).mono fun e w' ⟨h1, h2⟩ => ⟨_, h1, tick_b1 hs 2, h2⟩
theorem jn_addr (J : Jn L per i d v all) : v.addr = 16 := by
  rcases J.wa with ⟨_, _, rfl, _⟩ | ⟨_, _, rfl, _⟩ | ⟨_, _, rfl, _⟩ | ⟨_, _, h, _⟩
  · rfl
  · rfl
  · rfl
  · exact h.ad
/-- what has been told behind the last round -/
theorem jn_end (J : Jn L per 60 d v all) (hp : 1 ≤ per ∧ per ≤ 5) : all = cyc L all.length ∧ 0 < all.length ∧ (d.st = 4 ∨ d.st = 5) ∧ Goes2 L per all v 116 := by
  rcases J.wa with ⟨h, _⟩ | ⟨h, _⟩ | ⟨h, _⟩ | ⟨_, _, h, hw⟩
  · omega
  · omega
  · omega
  · have hq : v.q.length ≤ 6 := by rcases hw with ⟨_, h1⟩ | ⟨n, _, _, _, h2, _, h3⟩ <;> omega
    refine ⟨?_, ?_, by rcases hw with ⟨h1, _⟩ | ⟨n, h1, _⟩ <;> omega, h⟩
    · have e := h.sq
      have e2 : (all ++ v.q).take all.length = (cyc L (all.length + v.q.length)).take all.length := by rw [e]
      rw [List.take_left] at e2
      rw [e2]
      unfold cyc
      rw [← List.map_take, List.take_range]
      congr 2
      rw [List.length_map, List.length_range]
    · have t := h.ti
      have k := h.tk
      by_cases h0 : 0 < all.length
      · exact h0
      · exfalso
        have e0 : all.length = 0 := by omega
        rw [e0, Nat.zero_add] at t
        have m : per * v.q.length ≤ 5 * 6 := Nat.mul_le_mul hp.2 hq
        omega
theorem jn_three (J : Jn L per i d v all) (h : i = 3) : d.st = 4 := by
  rcases J.wa with ⟨e, _⟩ | ⟨e, _⟩ | ⟨e, _⟩ | ⟨_, e, _⟩
  · omega
  · omega
  · omega
  · exact e h
end
abbrev dcl (d : Dr) : List Value := [.int .i64 d.addr, .int .i64 d.id, .bool d.want, .int .i64 d.per, .int .i64 d.st, .int .i64 d.fails, .bool d.tried, .int .i64 d.left, .int .i64 d.bad]
section
variable {w0 wr : World} {y : BA} {s : Bs} {lo nd : Nat}
theorem tn_nine (wr : World) (nd : Nat) (d : Dr) : Tn (fun k => k = nd) wr (put9 wr nd d) :=
  ((((((((((Tn.refl (fun k => k = nd) wr).set (.inl rfl) _ _).set (.inl rfl) _ _).set (.inl rfl) _ _).set (.inl rfl) _ _).set (.inl rfl) _ _).set (.inl rfl) _ _).set (.inl rfl) _ _).set (.inl rfl) _ _).set (.inl rfl) _ _)
theorem Hb.put (h : Hb w0 wr y s lo) (hl : lo ≤ nd) (h0 : w0.heap.size ≤ nd) (d : Dr) : Hb w0 (put9 wr nd d) y s lo :=
  ⟨(tn_nine wr nd d).below h.x (fun k e => by omega), h.b.tn (tn_nine wr nd d) (fun k o e => by have := h.g k o; omega), h.f, h.g, Nat.le_trans h.s (tn_nine wr nd d).size⟩
theorem HV.nine {v0 v1 v2 v3 v4 v5 v6 v7 v8 : Value} (h : HV wr nd [v0, v1, v2, v3, v4, v5, v6, v7, v8]) (d : Dr) : HV (put9 wr nd d) nd (dcl d) :=
  ((((((((h.set 0 _).set 1 _).set 2 _).set 3 _).set 4 _).set 5 _).set 6 _).set 7 _).set 8 _
theorem HV.past {b : Nat} {vs : List Value} (h : HV wr b vs) (hb : b ≠ nd) (d : Dr) : HV (put9 wr nd d) b vs := h.tn (tn_nine wr nd d) hb
end
/-- what stands ahead of a round -/
structure Lp (w wr : World) (y : BA) (lo np nd : Nat) (a : Option Addr) (c : Nat) (N : Int) (L : List Raw) (per i : Nat) (d : Dr) (all : List Raw) (va : Value) : Prop where
  hb : ∃ s v, Hb w wr y s lo ∧ B1 s v ∧ Jn L per i d v all
  fd : HV wr nd (dcl d)
  fp : HV wr np [.slice a L.length c, .int .i64 N]
  row : wr.ownsRow (nd + 1) 72 4 va all.length (rvs all)
theorem jn_zero (L : List Raw) (per : Nat) : Jn L per 0 ⟨16, 49, true, per, 1, 0, false, 0, 0⟩ (dv0 L 1) [] := ⟨rfl, rfl, rfl, rfl, rfl, rfl, fun _ => rfl, .inl ⟨rfl, rfl, rfl, rfl⟩⟩
end Go.Proofs.Ytdfhhfpfnkjbnaa
