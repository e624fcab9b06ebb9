/- DrvBus: how a driver and its device go on, side by side: a round. -/
import Derived.Test.YtdfhhfpfnkjbnaaBn0
namespace Go.Proofs.Ytdfhhfpfnkjbnaa
open Go.RowKit Go.Conc
def regN (d : Dr) : Nat := (txReg d.st).toNat
def wrN (d : Dr) : List Nat := (txWr d).map Int.toNat
def rdN (d : Dr) : Nat := (txRd d).toNat
/-- what the device answers -/
def ansB (d : Dr) (v : Dv) : List Int := v.tells (regN d) (wrN d) (rdN d)
/-- the device behind that, and two ticks -/
def doesB (d : Dr) (v : Dv) : Dv := (v.does (regN d) (wrN d) (rdN d)).ticks 2
abbrev dv0 (L : List Raw) (per : Nat) : Dv := ⟨16, 49, L, 0, false, per, 0, [], 0⟩
/-- driver and device ahead of round i -/
structure Jn (L : List Raw) (per i : Nat) (d : Dr) (v : Dv) (all : List Raw) : Prop where
  ad : d.addr = 16
  idn : d.id = 49
  wn : d.want = true
  pe : d.per = per
  fa : d.fails = 0
  bd : d.bad = 0
  le : d.st ≠ 5 → d.left = 0
  wa : (i = 0 ∧ d.st = 1 ∧ v = dv0 L 1 ∧ all = []) ∨ (i = 1 ∧ d.st = 2 ∧ v = dv0 L 1 ∧ all = []) ∨ (i = 2 ∧ d.st = 3 ∧ v = dv0 L per ∧ all = []) ∨
    (3 ≤ i ∧ (i = 3 → d.st = 4) ∧ Goes2 L per all v (2 * (i - 2)) ∧ ((d.st = 4 ∧ v.q.length ≤ 4) ∨ ∃ n : Nat, d.st = 5 ∧ d.left = n ∧ 1 ≤ n ∧ n ≤ 4 ∧ n ≤ v.q.length ∧ v.q.length ≤ n + 2))
/-- what a round needs and gives -/
structure Js (L : List Raw) (per i : Nat) (d : Dr) (v : Dv) (all : List Raw) : Prop where
  ok : okD d = true
  st : inn d.st 1 7 = true
  tx : okT 16 (regN d) (wrN d).length (rdN d) = true
  rg : txReg d.st = (regN d : Int)
  rd : txRd d = (rdN d : Int)
  wr : txWr d = (wrN d).map Int.ofNat
  by_ : ∀ x ∈ wrN d, x ≤ 255
  wl : (wrN d).length ≤ 1
  al : (ansB d v).length ≤ 128
  ab : ∀ j, 0 ≤ (ansB d v).getD j 0 ∧ (ansB d v).getD j 0 ≤ 255
  nb : (takeD d 1 (ansB d v)).bad = 0
  n8 : (takeD d 1 (ansB d v)).st ≠ 8
  tl : (toldD d 1 (ansB d v)).length ≤ 4
  nx : Jn L per (i + 1) (takeD d 1 (ansB d v)) (doesB d v) (all ++ toldD d 1 (ansB d v))
theorem okR_cyc {L : List Raw} (h : ∀ r ∈ L, okR r = true) (hL : 0 < L.length) (n : Nat) : okR (smp L (n % L.length)) = true := by
  have hlt : n % L.length < L.length := Nat.mod_lt _ hL
  unfold smp
  rw [List.getD_eq_getElem?_getD, List.getElem?_eq_getElem hlt]
  exact h _ (List.getElem_mem hlt)
theorem okR_q {L : List Raw} {per : Nat} {all : List Raw} {v : Dv} {t : Nat} (h : Goes2 L per all v t) (hr : ∀ r ∈ L, okR r = true) (hL : 0 < L.length) : ∀ i, i < v.q.length → okR (smp v.q i) = true := fun i hi => by
  have e : smp v.q i = smp L ((all.length + i) % L.length) := by
    have h1 := cyc_at L (all.length + v.q.length) (all.length + i) (by omega)
    rw [← h.sq] at h1
    rw [← h1]
    unfold smp
    rw [List.getD_eq_getElem?_getD, List.getD_eq_getElem?_getD, List.getElem?_append_right (by omega), Nat.add_sub_cancel_left]
  rw [e]
  exact okR_cyc hr hL _
theorem one_byte {x : Int} (h : 0 ≤ x ∧ x ≤ 255) (j : Nat) : 0 ≤ [x].getD j 0 ∧ [x].getD j 0 ≤ 255 := by
  match j with
  | 0 => exact h
  | j + 1 => exact ⟨by simp, by simp⟩
theorem nil_byte (j : Nat) : 0 ≤ ([] : List Int).getD j 0 ∧ ([] : List Int).getD j 0 ≤ 255 := ⟨by simp, by simp⟩
theorem okD_mk {per st left : Int} (tried : Bool) (hp : 1 ≤ per ∧ per ≤ 5) (hs : 0 ≤ st ∧ st ≤ 8) (hl : okL ⟨16, 49, true, per, st, 0, tried, left, 0⟩ = true) : okD ⟨16, 49, true, per, st, 0, tried, left, 0⟩ = true := by
  unfold okD
  dsimp only
  rw [hl, inn_iff.2 (show (0 : Int) ≤ 16 ∧ (16 : Int) ≤ 127 by omega), inn_iff.2 (show (0 : Int) ≤ 49 ∧ (49 : Int) ≤ 255 by omega), inn_iff.2 (show (1 : Int) ≤ per ∧ per ≤ 250 by omega), inn_iff.2 hs, inn_iff.2 (show (0 : Int) ≤ 0 ∧ (0 : Int) ≤ 2 by omega), inn_iff.2 (show (0 : Int) ≤ 0 ∧ (0 : Int) ≤ 1099511627776 by omega)]
  rfl
section
variable {L : List Raw} {per : Nat} {tried : Bool}
theorem js0 (hp : 1 ≤ per ∧ per ≤ 5) : Js L per 0 ⟨16, 49, true, per, 1, 0, tried, 0, 0⟩ (dv0 L 1) [] := by
  have ea : ansB ⟨16, 49, true, per, 1, 0, tried, 0, 0⟩ (dv0 L 1) = [49] := rfl
  have ed : doesB ⟨16, 49, true, per, 1, 0, tried, 0, 0⟩ (dv0 L 1) = dv0 L 1 := off_ticks rfl
  have eg : goodD ⟨16, 49, true, per, 1, 0, tried, 0, 0⟩ 1 [49] = true := rfl
  have et : takeD ⟨16, 49, true, per, 1, 0, tried, 0, 0⟩ 1 [49] = ⟨16, 49, true, per, 2, 0, tried, 0, 0⟩ := by unfold takeD; rw [if_pos eg]; rfl
  have eo : toldD ⟨16, 49, true, per, 1, 0, tried, 0, 0⟩ 1 [49] = [] := told_plain (by dsimp only; decide)
  refine ⟨okD_mk _ (by omega) (by omega) rfl, rfl, rfl, rfl, rfl, rfl, (fun x hx => by cases hx), Nat.zero_le _, ?_, ?_, ?_, ?_, ?_, ?_⟩
  · rw [ea]; decide
  · rw [ea]; exact one_byte (by omega)
  · rw [ea, et]
  · rw [ea, et]; dsimp only; decide
  · rw [ea, eo]; decide
  · rw [ea, ed, et, eo]
    exact ⟨rfl, rfl, rfl, rfl, rfl, rfl, fun _ => rfl, .inr (.inl ⟨rfl, rfl, rfl, rfl⟩)⟩
theorem wr_per {per : Nat} (hp : 1 ≤ per ∧ per ≤ 5) : IntKind.u8.wrap (per : Int) = per := by rw [IntKind.wrap_u8]; omega
theorem js1 (hp : 1 ≤ per ∧ per ≤ 5) : Js L per 1 ⟨16, 49, true, per, 2, 0, tried, 0, 0⟩ (dv0 L 1) [] := by
  have ew : txWr ⟨16, 49, true, per, 2, 0, tried, 0, 0⟩ = [(per : Int)] := by show [IntKind.u8.wrap (per : Int)] = _; rw [wr_per hp]
  have en : wrN ⟨16, 49, true, per, 2, 0, tried, 0, 0⟩ = [per] := by unfold wrN; rw [ew]; rfl
  have ea : ansB ⟨16, 49, true, per, 2, 0, tried, 0, 0⟩ (dv0 L 1) = [] := by unfold ansB; rw [en]; rfl
  have ed : doesB ⟨16, 49, true, per, 2, 0, tried, 0, 0⟩ (dv0 L 1) = dv0 L per := by
    unfold doesB
    rw [en]
    have e : (dv0 L 1).does (regN ⟨16, 49, true, per, 2, 0, tried, 0, 0⟩) [per] (rdN ⟨16, 49, true, per, 2, 0, tried, 0, 0⟩) = dv0 L per := by
      show (dv0 L 1).write 2 per = _
      show ({ dv0 L 1 with per := if per = 0 then 256 else per } : Dv) = _
      rw [if_neg (by omega)]
    rw [e]
    exact off_ticks rfl
  have eg : goodD ⟨16, 49, true, per, 2, 0, tried, 0, 0⟩ 1 [] = true := rfl
  have et : takeD ⟨16, 49, true, per, 2, 0, tried, 0, 0⟩ 1 [] = ⟨16, 49, true, per, 3, 0, tried, 0, 0⟩ := by unfold takeD; rw [if_pos eg]; rfl
  have eo : toldD ⟨16, 49, true, per, 2, 0, tried, 0, 0⟩ 1 [] = [] := told_plain (by dsimp only; decide)
  refine ⟨okD_mk _ (by omega) (by omega) rfl, rfl, by rw [en]; rfl, rfl, rfl, by rw [en, ew]; rfl, ?_, by rw [en]; exact Nat.le_refl _, ?_, ?_, ?_, ?_, ?_, ?_⟩
  · rw [en]; intro x hx; rw [List.mem_singleton] at hx; omega
  · rw [ea]; decide
  · rw [ea]; exact nil_byte
  · rw [ea, et]
  · rw [ea, et]; dsimp only; decide
  · rw [ea, eo]; decide
  · rw [ea, ed, et, eo]
    exact ⟨rfl, rfl, rfl, rfl, rfl, rfl, fun _ => rfl, .inr (.inr (.inl ⟨rfl, rfl, rfl, rfl⟩))⟩
theorem js2 (hp : 1 ≤ per ∧ per ≤ 5) (hL : 0 < L.length) : Js L per 2 ⟨16, 49, true, per, 3, 0, tried, 0, 0⟩ (dv0 L per) [] := by
  have ea : ansB ⟨16, 49, true, per, 3, 0, tried, 0, 0⟩ (dv0 L per) = [] := rfl
  have e : (dv0 L per).does (regN ⟨16, 49, true, per, 3, 0, tried, 0, 0⟩) (wrN ⟨16, 49, true, per, 3, 0, tried, 0, 0⟩) (rdN ⟨16, 49, true, per, 3, 0, tried, 0, 0⟩) = ⟨16, 49, L, 0, true, per, 0, [], 0⟩ := rfl
  have eg : goodD ⟨16, 49, true, per, 3, 0, tried, 0, 0⟩ 1 [] = true := rfl
  have et : takeD ⟨16, 49, true, per, 3, 0, tried, 0, 0⟩ 1 [] = ⟨16, 49, true, per, 4, 0, false, 0, 0⟩ := by unfold takeD; rw [if_pos eg]; rfl
  have eo : toldD ⟨16, 49, true, per, 3, 0, tried, 0, 0⟩ 1 [] = [] := told_plain (by dsimp only; decide)
  have hg : Goes2 L per [] ⟨16, 49, L, 0, true, per, 0, [], 0⟩ 0 := ⟨rfl, rfl, rfl, rfl, rfl, by dsimp only; omega, by simp, by simp [cyc], by simp⟩
  obtain ⟨g1, _, g3⟩ := goes_ticks hL (by simp) hg
  refine ⟨okD_mk _ (by omega) (by omega) rfl, rfl, rfl, rfl, rfl, rfl, ?_, Nat.le_refl _, ?_, ?_, ?_, ?_, ?_, ?_⟩
  · intro x hx
    have hx2 : x ∈ [1] := hx
    rw [List.mem_singleton] at hx2; omega
  · rw [ea]; decide
  · rw [ea]; exact nil_byte
  · rw [ea, et]
  · rw [ea, et]; dsimp only; decide
  · rw [ea, eo]; decide
  · rw [ea, et, eo]
    unfold doesB
    rw [e]
    refine ⟨rfl, rfl, rfl, rfl, rfl, rfl, fun _ => rfl, .inr (.inr (.inr ⟨by omega, fun _ => rfl, g1, .inl ⟨rfl, ?_⟩⟩))⟩
    have g3' : (Dv.ticks ⟨16, 49, L, 0, true, per, 0, [], 0⟩ 2).q.length ≤ 0 + 2 := g3
    omega
theorem js4 {v : Dv} {all : List Raw} {i : Nat} (hp : 1 ≤ per ∧ per ≤ 5) (hL : 0 < L.length) (hi : 3 ≤ i) (hg : Goes2 L per all v (2 * (i - 2))) (hq : v.q.length ≤ 4) : Js L per i ⟨16, 49, true, per, 4, 0, tried, 0, 0⟩ v all := by
  have ea : ansB ⟨16, 49, true, per, 4, 0, tried, 0, 0⟩ v = [(v.q.length : Int)] := rfl
  have ed : doesB ⟨16, 49, true, per, 4, 0, tried, 0, 0⟩ v = v.ticks 2 := rfl
  have eg : goodD ⟨16, 49, true, per, 4, 0, tried, 0, 0⟩ 1 [(v.q.length : Int)] = true := by
    have : fitD ⟨16, 49, true, per, 4, 0, tried, 0, 0⟩ [(v.q.length : Int)] = true := by
      show decide ((v.q.length : Int) ≤ 16) = true
      exact decide_eq_true (by omega)
    unfold goodD
    rw [this]
    rfl
  have eo : toldD ⟨16, 49, true, per, 4, 0, tried, 0, 0⟩ 1 [(v.q.length : Int)] = [] := told_plain (by dsimp only; decide)
  have et : takeD ⟨16, 49, true, per, 4, 0, tried, 0, 0⟩ 1 [(v.q.length : Int)] = if (v.q.length : Int) = 0 then ⟨16, 49, true, per, 4, 0, tried, 0, 0⟩ else ⟨16, 49, true, per, 5, 0, tried, v.q.length, 0⟩ := by
    unfold takeD; rw [if_pos eg]; rfl
  obtain ⟨g1, g2, g3⟩ := goes_ticks hL (by omega) hg
  refine ⟨okD_mk _ (by omega) (by omega) rfl, rfl, rfl, rfl, rfl, rfl, (fun x hx => by cases hx), Nat.zero_le _, ?_, ?_, ?_, ?_, ?_, ?_⟩
  · rw [ea]; exact (by omega : 1 ≤ 128)
  · rw [ea]; exact one_byte (by omega)
  · rw [ea, et]; split <;> rfl
  · rw [ea, et]; split <;> (dsimp only; decide)
  · rw [ea, eo]; decide
  · rw [ea, ed, et, eo, List.append_nil]
    have e2 : 2 * (i - 2) + 2 = 2 * (i + 1 - 2) := by omega
    rw [e2] at g1
    by_cases h0 : (v.q.length : Int) = 0
    · rw [if_pos h0]
      exact ⟨rfl, rfl, rfl, rfl, rfl, rfl, fun _ => rfl, .inr (.inr (.inr ⟨by omega, fun h => by omega, g1, .inl ⟨rfl, by omega⟩⟩))⟩
    · rw [if_neg h0]
      exact ⟨rfl, rfl, rfl, rfl, rfl, rfl, fun h => absurd rfl h, .inr (.inr (.inr ⟨by omega, fun h => by omega, g1, .inr ⟨v.q.length, rfl, rfl, by omega, hq, g2, g3⟩⟩))⟩
theorem js5 {v : Dv} {all : List Raw} {i n : Nat} (hp : 1 ≤ per ∧ per ≤ 5) (hL : 0 < L.length) (hr : ∀ r ∈ L, okR r = true) (hi : 3 ≤ i) (hg : Goes2 L per all v (2 * (i - 2))) (n1 : 1 ≤ n) (n4 : n ≤ 4) (hq : n ≤ v.q.length) (hq2 : v.q.length ≤ n + 2) : Js L per i ⟨16, 49, true, per, 5, 0, tried, n, 0⟩ v all := by
  have ew : wrap64 (8 * (n : Int)) = ((8 * n : Nat) : Int) := by unfold wrap64; omega
  have er : txRd ⟨16, 49, true, per, 5, 0, tried, n, 0⟩ = ((8 * n : Nat) : Int) := by
    unfold txRd
    dsimp only
    rw [if_neg (by decide), if_neg (by decide), if_pos rfl, ew]
  have en : rdN ⟨16, 49, true, per, 5, 0, tried, n, 0⟩ = 8 * n := by unfold rdN; rw [er]; exact Int.toNat_natCast _
  have e1 : wrN ⟨16, 49, true, per, 5, 0, tried, n, 0⟩ = [] := by unfold wrN txWr; dsimp only; rw [if_neg (by decide), if_neg (by decide), if_neg (by decide), if_neg (by decide)]; rfl
  have e2 : regN ⟨16, 49, true, per, 5, 0, tried, n, 0⟩ = 4 := rfl
  have ek : (8 * n + 7) / 8 = n := by omega
  have hl : (brst v.q n).length = 8 * n := brst_len v.q n
  have ea : ansB ⟨16, 49, true, per, 5, 0, tried, n, 0⟩ v = brst v.q n := by
    unfold ansB Dv.tells
    rw [en, e1, e2, if_neg (by decide), if_pos rfl, ek]
    exact List.take_of_length_le (by omega)
  have ed : doesB ⟨16, 49, true, per, 5, 0, tried, n, 0⟩ v = ({ v with q := v.q.drop n } : Dv).ticks 2 := by
    unfold doesB Dv.does
    rw [en, e1, e2, if_neg (by decide), if_pos rfl, ek]
  have eg : goodD ⟨16, 49, true, per, 5, 0, tried, n, 0⟩ 1 (brst v.q n) = true := by
    have ef : fitD ⟨16, 49, true, per, 5, 0, tried, n, 0⟩ (brst v.q n) = true := by unfold fitD; dsimp only; rw [if_neg (by decide), if_neg (by decide)]
    unfold goodD
    rw [er, hl, ef, decide_eq_true rfl, decide_eq_true rfl]
    rfl
  have es : smps (chunkB (brst v.q n)) 0 (List.range n) = (v.q.take n, 0) := smps_brst v.q 0 n hq (okR_q hg hr hL)
  have eo : toldD ⟨16, 49, true, per, 5, 0, tried, n, 0⟩ 1 (brst v.q n) = v.q.take n := by
    unfold toldD
    rw [if_pos eg]
    unfold rawsD
    dsimp only
    rw [if_pos rfl, Int.toNat_natCast, es]
  have et : takeD ⟨16, 49, true, per, 5, 0, tried, n, 0⟩ 1 (brst v.q n) = ⟨16, 49, true, per, 4, 0, tried, 0, 0⟩ := by
    unfold takeD
    rw [if_pos eg]
    unfold gotD enterD
    dsimp only
    rw [if_neg (by decide), if_neg (by decide), if_neg (by decide), if_neg (by decide), if_pos rfl, Int.toNat_natCast, es]
  obtain ⟨g1, g2, g3⟩ := goes_ticks hL (by dsimp only; rw [List.length_drop]; omega) (goes_told n hq hg)
  dsimp only at g2 g3
  rw [List.length_drop] at g2 g3
  refine ⟨okD_mk _ (by omega) (by omega) (inn_iff.2 (by dsimp only; omega)), rfl, ?_, rfl, by rw [er, en], by rw [e1]; unfold txWr; dsimp only; rw [if_neg (by decide), if_neg (by decide), if_neg (by decide), if_neg (by decide)]; rfl, (fun x hx => by rw [e1] at hx; cases hx), by rw [e1]; exact Nat.zero_le _, ?_, ?_, ?_, ?_, ?_, ?_⟩
  · rw [en, e1, e2]
    have : inn ((8 * n : Nat) : Int) 1 128 = true := inn_iff.2 (by omega)
    unfold okT
    rw [if_neg (by decide), this]; rfl
  · rw [ea, hl]; omega
  · rw [ea]; exact brst_byte v.q n hq
  · rw [ea, et]
  · rw [ea, et]; dsimp only; decide
  · rw [ea, eo, List.length_take]; omega
  · rw [ea, ed, et, eo]
    have e2 : 2 * (i - 2) + 2 = 2 * (i + 1 - 2) := by omega
    rw [e2] at g1
    exact ⟨rfl, rfl, rfl, rfl, rfl, rfl, fun _ => rfl, .inr (.inr (.inr ⟨by omega, fun h => by omega, g1, .inl ⟨rfl, by omega⟩⟩))⟩
theorem js_any {d : Dr} {v : Dv} {all : List Raw} {i : Nat} (hp : 1 ≤ per ∧ per ≤ 5) (hL : 0 < L.length) (hr : ∀ r ∈ L, okR r = true) (h : Jn L per i d v all) : Js L per i d v all := by
  obtain ⟨ad, idn, wn, pe, fa, bd, le, wa⟩ := h
  obtain ⟨daddr, did, dwant, dper, dst, dfails, dtried, dleft, dbad⟩ := d
  dsimp only at ad idn wn pe fa bd le wa
  subst ad idn wn pe fa bd
  rcases wa with ⟨rfl, rfl, rfl, rfl⟩ | ⟨rfl, rfl, rfl, rfl⟩ | ⟨rfl, rfl, rfl, rfl⟩ | ⟨hi, _, hg, ⟨rfl, hq⟩ | ⟨n, rfl, rfl, n1, n4, q1, q2⟩⟩
  · have := le (by decide); subst this; exact js0 hp
  · have := le (by decide); subst this; exact js1 hp
  · have := le (by decide); subst this; exact js2 hp hL
  · have := le (by decide); subst this; exact js4 hp hL hi hg hq
  · exact js5 hp hL hr hi hg n1 n4 q1 q2
end
end Go.Proofs.Ytdfhhfpfnkjbnaa
