/- DrvBus: its end: numbers, and what its calls tell. -/
import Derived.Test.YtdfhhfpfnkjbnaaBn2c
namespace Go.Proofs.Ytdfhhfpfnkjbnaa
open Go.RowKit Go.Conc
/-- what a driver's transaction needs -/
structure Jw (d : Dr) (v : Dv) : Prop where
  ok : okD d = true
  st : inn d.st 1 7 = true
  tx : okT 16 (regN d) (wrN d).length (rdN d) = true
  rg : txReg d.st = (regN d : Int)
  rd : txRd d = (rdN d : Int)
  wr : txWr d = (wrN d).map Int.ofNat
  by_ : ∀ x ∈ wrN d, x ≤ 255
  wl : (wrN d).length ≤ 1
  al : (ansB d v).length ≤ 128
  ab : ∀ j, 0 ≤ (ansB d v).getD j 0 ∧ (ansB d v).getD j 0 ≤ 255
  n8 : (takeD d 1 (ansB d v)).st ≠ 8
section
variable {d : Dr} {v : Dv}
theorem bw_next (J : Jw d v) (ha : d.addr = 16) (w : World) :
    Calls Try.prog 9 #[drv d] w fun e w' => ∃ a c, e = .returned (.tuple #[txv 16 (regN d : Int) a (wrN d).length c (rdN d : Int), .bool true, .int .i64 0]) ∧ (BR w' a (wrN d) ∧ ∀ k off, 0 < (wrN d).length → a = some ⟨k, off, none⟩ → w.heap.size ≤ k) ∧ Ext w w' := by
  refine (next_some d J.ok J.st w).mono ?_
  rintro e w' ⟨a, c, rfl, hr, x⟩
  have el : (txWr d).length = (wrN d).length := by rw [J.wr]; simp
  refine ⟨a, c, ?_, ⟨fun j hj => ?_, fun k off h0 ea => ?_⟩, x⟩
  · rw [← J.rg, ← J.rd, ← el, ha]
  · obtain ⟨b, off, e1, _, e2⟩ := hr j (by omega)
    have e3 : (txWr d).getD j 0 = ((gb (wrN d) j : Nat) : Int) := by
      rw [J.wr]
      unfold gb
      rw [List.getD_eq_getElem?_getD, List.getD_eq_getElem?_getD, List.getElem?_map, List.getElem?_eq_getElem hj]
      rfl
    rw [e3] at e2
    refine ⟨?_, b, off, e1, e2⟩
    have : gb (wrN d) j ∈ wrN d := by
      unfold gb
      rw [List.getD_eq_getElem?_getD, List.getElem?_eq_getElem hj]
      exact List.getElem_mem hj
    exact J.by_ _ this
  · obtain ⟨b, off', e1, h1, _⟩ := hr 0 (by omega)
    rw [ea] at e1
    cases e1
    exact h1
theorem bw_do (J : Jw d v) (hv : v.addr = 16) {w0 w : World} {y : BA} {s : Bs} {lo : Nat} (h : Hb w0 w y s lo) (hs : B1 s v) {a : Option Addr} {c : Nat} (hb : BR w a (wrN d)) (hf : ∀ k off, 0 < (wrN d).length → a = some ⟨k, off, none⟩ → lo ≤ k) :
    Calls Try.prog 27 #[.pointer (some ⟨y.b, 0, none⟩), txv 16 (regN d : Int) a (wrN d).length c (rdN d : Int)] w fun e w' => ∃ r rc s', e = .returned (.tuple #[.agg #[.int .i64 1, .slice r (ansB d v).length rc], .int .i64 0]) ∧ ((ansB d v).length ≤ rc ∧ RdY w' w.heap.size r (ansB d v)) ∧ B1 s' (v.does (regN d) (wrN d) (rdN d)) ∧ Bd y s' w w' := by
  have hd := do_b1 hs hv (regN d) (wrN d) (rdN d)
  refine (do_ok w h.b 16 (regN d) a (wrN d) c (rdN d) (by have := J.wl; unfold maxLen; omega) J.tx hb (fun k off h0 ea o => by have := hf k off h0 ea; have := h.g k o; omega) (fun k => by rw [hs.F]; exact Int.le_refl _)).mono ?_
  rintro e w' ⟨x, rfl, ho, hB⟩
  rw [hd.2.1] at ho
  obtain ⟨r, rc, rfl, hc, hrow⟩ := row_rdy ho
  refine ⟨r, rc, _, ?_, ⟨hc, hrow⟩, hd.2.2, hB⟩
  rw [hd.1]
  rfl
theorem bw_take (J : Jw d v) {w : World} {r : Option Addr} {rc : Nat} (hc : (ansB d v).length ≤ rc) (hr : RdY w 0 r (ansB d v)) :
    Calls Try.prog 19 #[drv d, .agg #[.int .i64 1, .slice r (ansB d v).length rc]] w fun e w' => ∃ ra rb, e = .returned (.tuple #[drv (takeD d 1 (ansB d v)), .slice ra (toldD d 1 (ansB d v)).length rb, .bool false, .int .i64 0]) ∧ RawsAt (w.heap.size + 3) (toldD d 1 (ansB d v)) w' (.slice ra (toldD d 1 (ansB d v)).length rb) ∧ Ext w w' := by
  have h8 : ((takeD d 1 (ansB d v)).st == 8) = false := beq_eq_false_iff_ne.2 J.n8
  have h := take_any (w := w) (ast := 1) (c := rc) J.ok J.st (by have := J.al; unfold maxLen; omega) hc hr J.ab
  unfold TakeC at h
  rw [h8] at h
  refine h.mono ?_
  rintro e w' ⟨x, rfl, hx, hE⟩
  obtain ⟨ra, rb, rfl⟩ := row_form hx
  exact ⟨ra, rb, rfl, hx, hE⟩
end
theorem stop_to {st : Int} (h : st = 4 ∨ st = 5) (x : Bool) : stepTo st false x = 6 := by
  rcases h with rfl | rfl <;> rfl
theorem stop_set {d : Dr} (h : d.st = 4 ∨ d.st = 5) : setD d false d.per = ⟨d.addr, d.id, false, d.per, 6, 0, d.tried, 0, d.bad⟩ := by
  unfold setD
  rw [stop_to h, if_neg (by rcases h with h | h <;> rw [h] <;> decide)]
  rfl
theorem jw_stop {per : Int} {tr : Bool} {v : Dv} (hok : okD ⟨16, 49, false, per, 6, 0, tr, 0, 0⟩ = true) : Jw ⟨16, 49, false, per, 6, 0, tr, 0, 0⟩ v ∧ (takeD ⟨16, 49, false, per, 6, 0, tr, 0, 0⟩ 1 (ansB ⟨16, 49, false, per, 6, 0, tr, 0, 0⟩ v)).st = 0 ∧ (v.does (regN ⟨16, 49, false, per, 6, 0, tr, 0, 0⟩) (wrN ⟨16, 49, false, per, 6, 0, tr, 0, 0⟩) (rdN ⟨16, 49, false, per, 6, 0, tr, 0, 0⟩)) = v.turn false := by
  have en : wrN ⟨16, 49, false, per, 6, 0, tr, 0, 0⟩ = [0] := rfl
  have ea : ansB ⟨16, 49, false, per, 6, 0, tr, 0, 0⟩ v = [] := rfl
  have eg : goodD ⟨16, 49, false, per, 6, 0, tr, 0, 0⟩ 1 [] = true := rfl
  have et : takeD ⟨16, 49, false, per, 6, 0, tr, 0, 0⟩ 1 [] = ⟨16, 49, false, per, 0, 0, false, 0, 0⟩ := by unfold takeD; rw [if_pos eg]; rfl
  refine ⟨⟨hok, rfl, rfl, rfl, rfl, rfl, ?_, Nat.le_refl _, ?_, ?_, ?_⟩, ?_, rfl⟩
  · intro x hx
    have hx2 : x ∈ [0] := hx
    rw [List.mem_singleton] at hx2; omega
  · rw [ea]; decide
  · rw [ea]; exact nil_byte
  · rw [ea, et]; dsimp only; decide
  · rw [ea, et]
theorem dev_b1 {s : Bs} {v : Dv} (h : B1 s v) (ha : v.addr = 16) : devV s 16 = .tuple #[v.told, .int .i64 0] := by
  obtain ⟨sn, sD, sF, sc⟩ := s
  obtain ⟨h1, h2, h3⟩ := h
  dsimp only at h1 h2 h3
  subst h1 h2 h3
  have e : fnd sD 1 16 = some 0 := by
    show (match fnd sD 0 16 with | some i => some i | none => if (sD 0).addr = 16 then some 0 else none) = _
    show (if (sD 0).addr = 16 then some 0 else none) = _
    rw [if_pos ha]
  unfold devV
  dsimp only
  rw [e]
/-- what is read of the samples that were told -/
theorem rvs_four : ∀ (l : List Raw) (j : Nat), j < l.length → (rvs l)[j * 4]? = some (.int .i64 (smp l j).x) ∧ (rvs l)[j * 4 + 1]? = some (.int .i64 (smp l j).y) ∧ (rvs l)[j * 4 + 2]? = some (.int .i64 (smp l j).z) ∧ (rvs l)[j * 4 + 3]? = some (.int .i64 (smp l j).t)
  | [], j, h => by simp at h
  | x :: l, 0, _ => ⟨rfl, rfl, rfl, rfl⟩
  | x :: l, j + 1, h => by
    have ih := rvs_four l j (by simpa using h)
    have e : rvs (x :: l) = [(.int .i64 x.x : Value), .int .i64 x.y, .int .i64 x.z, .int .i64 x.t] ++ rvs l := by simp [rvs]
    have k : ∀ c, ([(.int .i64 x.x : Value), .int .i64 x.y, .int .i64 x.z, .int .i64 x.t] ++ rvs l)[(j + 1) * 4 + c]? = (rvs l)[j * 4 + c]? := fun c => by
      rw [List.getElem?_append_right (by simp; omega)]
      congr 1
      simp; omega
    rw [e]
    exact ⟨(k 0).trans ih.1, (k 1).trans ih.2.1, (k 2).trans ih.2.2.1, (k 3).trans ih.2.2.2⟩
theorem add_at (g k : Nat) : Addr.add ⟨g, 0, none⟩ k = ⟨g, k, none⟩ := by
  unfold Addr.add
  split
  · rename_i hz; subst hz; rfl
  · simp
theorem wr64_le {n : Int} (h1 : -9223372036854775808 ≤ n) (h2 : n ≤ 9223372036854775807) : wrap64 n = n := by unfold wrap64; omega
theorem told_at {L all : List Raw} (h : all = cyc L all.length) {j : Nat} (hj : j < all.length) : smp all j = smp L (j % L.length) := by
  have e := cyc_at L all.length j hj
  rw [← h] at e
  exact e
end Go.Proofs.Ytdfhhfpfnkjbnaa
