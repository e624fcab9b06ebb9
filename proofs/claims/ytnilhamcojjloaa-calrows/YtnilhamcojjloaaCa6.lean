/- gimbalref10: MayCal; a variable that is stored whole. -/
import Derived.Test.YtnilhamcojjloaaCa5
import Derived.Test.YtnilhamcojjloaaNearNum
namespace Go.Proofs.Ytnilhamcojjloaa
open Go.RowKit Go.Shelf
theorem HV.take {w : World} {b : Nat} {vs : List Value} (h : HV w b vs) (n : Nat) : w.rangeAt b 0 (vs.take n) := fun j v hv => by
  rw [Nat.zero_add]
  by_cases hj : j < n
  · rw [List.getElem?_take_of_lt hj] at hv
    exact h.c j hv
  · rw [List.getElem?_eq_none (by rw [List.length_take]; omega)] at hv
    cases hv
theorem size_setCells (b : Nat) : ∀ (vs : List Value) (o : Nat) (w : World), (w.setCells b o vs).heap.size = w.heap.size
  | [], _, _ => rfl
  | v :: vs, o, w => by
    show ((w.setCell ⟨b, o, none⟩ v).setCells b (o + 1) vs).heap.size = _
    rw [size_setCells b vs (o + 1)]
    simp
theorem ext_setCells {a : World} (b : Nat) (hb : a.heap.size ≤ b) : ∀ (vs : List Value) (o : Nat) (w : World), Ext a w → Ext a (w.setCells b o vs)
  | [], _, _, h => h
  | v :: vs, o, _, h => ext_setCells b hb vs (o + 1) _ (h.set (p := ⟨b, o, none⟩) hb v)
theorem HV.put {w : World} {b : Nat} {vs0 : List Value} (h : HV w b vs0) (vs : List Value) (hl : vs.length = vs0.length) : HV (w.setCells b 0 vs) b vs := by
  have hs : ∀ j, j < vs.length → (w.cell? ⟨b, 0 + j, none⟩).isSome = true := fun j hj => by
    rw [Nat.zero_add, h.c j (List.getElem?_eq_getElem (by omega : j < vs0.length))]; rfl
  refine ⟨by rw [size_setCells]; exact h.1, fun j v hv => ?_⟩
  have hj : j < vs.length := (List.getElem?_eq_some_iff.1 hv).1
  have e := World.cell?_setCells_in b vs 0 w hs j hj
  rw [Nat.zero_add] at e
  refine ⟨?_, ?_⟩
  · rw [e]; rw [List.getElem?_eq_getElem hj] at hv; exact hv
  · rw [World.frozen?_setCells]
    exact h.f j (List.getElem?_eq_getElem (by omega : j < vs0.length))
theorem HV.apart {w : World} {b g : Nat} {us : List Value} (h : HV w b us) (hb : b ≠ g) : ∀ (vs : List Value) (o : Nat), HV (w.setCells g o vs) b us := fun vs o => by
  refine ⟨by rw [size_setCells]; exact h.1, fun j v hv => ?_⟩
  obtain ⟨h1, h2⟩ := h.2 j v hv
  refine ⟨?_, by rw [World.frozen?_setCells]; exact h2⟩
  rw [World.cell?_setCells_out g vs o w _ (fun e => absurd e hb)]
  exact h1
/-- a variable that is stored whole -/
theorem wpList_store_var {ops : Array Oper} {rest : List Oper} {op : Oper} {a : Act} {w : World} {Q : Exit → Act → World → Prop} (b : Nat) (zs cs : List Value) (hgd : op.guard = none) (ty : TypeId) (x y : Operand) (ho : op.op = .store ty x y)
    (hx : a.eval x = .pointer (some ⟨b, 0, none⟩)) (hy : a.eval y = .agg cs.toArray) (hV : HV w b zs) (hz : zs.length = cs.length)
    (hi : (Try.prog.info? ty).map (·.size) = some cs.length) (h1 : ∀ v ∈ cs, v.oneCell' = true)
    (h : ∀ w', Hid (HV w' b cs) → Hid (∀ b' vs, b' ≠ b → HV w b' vs → HV w' b' vs) → Hid (∀ a, Ext a w → a.heap.size ≤ b → Ext a w') → wpList Try.prog ops Q rest (a.put op.dst undef) w') : wpList Try.prog ops Q (op :: rest) a w := by
  have ht : w.there b 0 cs.toArray.size := fun j hj => by
    have hj' : j < zs.length := by simp at hj; omega
    rw [Nat.zero_add, hV.c j (List.getElem?_eq_getElem hj')]
    exact ⟨rfl, hV.f j (List.getElem?_eq_getElem hj')⟩
  refine wpList_store_mid hgd ty x y ho b 0 cs.toArray hx hy ht (by simpa using hi) (all_oneCell_toArray h1) ?_
  exact h _ (hV.put cs hz.symm) (fun b' vs hb hv => hv.apart hb cs 0) (fun a ha hb => ext_setCells b hb cs 0 w ha)
theorem m_at {w : World} {n : Nat} {b0 b1 b2 h0 h1 h2 rf : Int} {m : Nat → Int} (h : HV w n [.int .i64 b0, .int .i64 b1, .int .i64 b2, .int .i64 h0, .int .i64 h1, .int .i64 h2, .int .i64 rf, .int .i64 (m 0), .int .i64 (m 1), .int .i64 (m 2), .int .i64 (m 3), .int .i64 (m 4), .int .i64 (m 5), .int .i64 (m 6), .int .i64 (m 7), .int .i64 (m 8)]) {k : Nat} (hk : k < 9) : w.cell? ⟨n, 7 + k, none⟩ = some (.int .i64 (m k)) := by
  refine h.c (7 + k) ?_
  obtain rfl | rfl | rfl | rfl | rfl | rfl | rfl | rfl | rfl : k = 0 ∨ k = 1 ∨ k = 2 ∨ k = 3 ∨ k = 4 ∨ k = 5 ∨ k = 6 ∨ k = 7 ∨ k = 8 := by omega
  all_goals rfl
set_option maxRecDepth 20000 in
set_option maxHeartbeats 4000000 in
theorem maycal_any (b0 b1 b2 h0 h1 h2 rf : Int) (m : Nat → Int) (w : World) : Calls Try.prog 7 #[.agg #[.int .i64 b0, .int .i64 b1, .int .i64 b2, .int .i64 h0, .int .i64 h1, .int .i64 h2, .int .i64 rf, .int .i64 (m 0), .int .i64 (m 1), .int .i64 (m 2), .int .i64 (m 3), .int .i64 (m 4), .int .i64 (m 5), .int .i64 (m 6), .int .i64 (m 7), .int .i64 (m 8)]] w fun e w' => e = .returned (.bool (okC b0 b1 b2 h0 h1 h2 rf m)) ∧ Ext w w' := by
  have HM : Hid (∀ v w', Calls Try.prog 18 #[.int .i64 v] w' fun e w'' => e = .returned (.bool (okW v)) ∧ w'' = w') := may_any
  have HB : Hid (∀ w, Calls Try.prog 19 #[.agg #[.int .i64 b0, .int .i64 b1, .int .i64 b2]] w fun e w' => e = .returned (.bool (ok3 b0 b1 b2)) ∧ Ext w w') := mayv_any b0 b1 b2
  have HH : Hid (∀ w, Calls Try.prog 19 #[.agg #[.int .i64 h0, .int .i64 h1, .int .i64 h2]] w fun e w' => e = .returned (.bool (ok3 h0 h1 h2)) ∧ Ext w w') := mayv_any h0 h1 h2
  have HN : Hid (∀ k, k < 9 → okW (m k) = false → okC b0 b1 b2 h0 h1 h2 rf m = false) := fun k hk h => by
    unfold okC; rw [okM_no hk h]; cases inn rf (-128) 127 <;> cases ok3 b0 b1 b2 <;> cases ok3 h0 h1 h2 <;> rfl
  have HG : Hid ((∀ k, k < 9 → okW (m k) = true) → okC b0 b1 b2 h0 h1 h2 rf m = (ok3 b0 b1 b2 && ok3 h0 h1 h2 && (decide (-128 ≤ rf) && decide (rf ≤ 127)))) := fun h => by
    unfold okC; rw [okM_of h]
    have e4 : inn rf (-128) 127 = (decide ((-128 : Int) ≤ rf) && decide (rf ≤ 127)) := by unfold inn; simp
    rw [e4]
    cases decide ((-128 : Int) ≤ rf) <;> cases decide (rf ≤ 127) <;> cases ok3 b0 b1 b2 <;> cases ok3 h0 h1 h2 <;> rfl
  generalize okC b0 b1 b2 h0 h1 h2 rf m = R at *
  generalize ok3 b0 b1 b2 = p1 at *
  generalize ok3 h0 h1 h2 = p2 at *
  have FB : Hid (HV (w.alloc (.cells #[.int .i64 b0, .int .i64 b1, .int .i64 b2, .int .i64 h0, .int .i64 h1, .int .i64 h2, .int .i64 rf, .int .i64 (m 0), .int .i64 (m 1), .int .i64 (m 2), .int .i64 (m 3), .int .i64 (m 4), .int .i64 (m 5), .int .i64 (m 6), .int .i64 (m 7), .int .i64 (m 8)] 27)) w.heap.size [.int .i64 b0, .int .i64 b1, .int .i64 b2, .int .i64 h0, .int .i64 h1, .int .i64 h2, .int .i64 rf, .int .i64 (m 0), .int .i64 (m 1), .int .i64 (m 2), .int .i64 (m 3), .int .i64 (m 4), .int .i64 (m 5), .int .i64 (m 6), .int .i64 (m 7), .int .i64 (m 8)]) := hv_at rfl
  have HX : Hid (Ext w (w.alloc (.cells #[.int .i64 b0, .int .i64 b1, .int .i64 b2, .int .i64 h0, .int .i64 h1, .int .i64 h2, .int .i64 rf, .int .i64 (m 0), .int .i64 (m 1), .int .i64 (m 2), .int .i64 (m 3), .int .i64 (m 4), .int .i64 (m 5), .int .i64 (m 6), .int .i64 (m 7), .int .i64 (m 8)] 27))) := (Ext.refl w).alloc _
  go_enter Try.func7, Try.ntmps7
  go_wp2_with fail
  generalize (w.alloc (.cells #[.int .i64 b0, .int .i64 b1, .int .i64 b2, .int .i64 h0, .int .i64 h1, .int .i64 h2, .int .i64 rf, .int .i64 (m 0), .int .i64 (m 1), .int .i64 (m 2), .int .i64 (m 3), .int .i64 (m 4), .int .i64 (m 5), .int .i64 (m 6), .int .i64 (m 7), .int .i64 (m 8)] 27)) = wB at *
  go_loopw [3] (fun i wr => ∃ k : Nat, k ≤ 9 ∧ i = .int .i64 (k : Int) ∧ Hid (∀ i, i < k → okW (m i) = true) ∧ Hid (Ext wB wr)) (fun i _ => 9 - (intOf i).toNat)
  case atStart => exact ⟨0, by omega, rfl, fun i hi => by omega, Ext.refl _⟩
  case round =>
    obtain ⟨k, hk, rfl, hok, hx⟩ := hrel
    by_cases hlt : k < 9
    · have kx : (k : Int) < 9 := by omega
      have hc := m_at (FB.out.ext hx.out) hlt
      cases ho : okW (m k)
      · have e1 : R = false := HN.out k hlt ho
        subst e1
        have ho' : Hid (∀ w', Calls Try.prog 18 #[.int .i64 (m k)] w' fun e w'' => e = .returned (.bool false) ∧ w'' = w') := fun w' => by have h := HM.out (m k) w'; rw [ho] at h; exact h
        clear HN HG ho hok
        generalize m k = mk at *
        go_wp2_with (go_at_call 18; refine (ho'.out _).mono ?_; rintro e wx ⟨rfl, hwx⟩; have hwy := hwx.symm; clear hwx; subst hwy)
        go_ret
        exact ⟨rfl, HX.out.trans hx.out⟩
      · have H1 : Hid (∀ i, i < k + 1 → okW (m i) = true) := fun i hi => by
          rcases Nat.lt_or_ge i k with h | h
          · exact hok.out i h
          · obtain rfl : i = k := by omega
            exact ho
        have ho' : Hid (∀ w', Calls Try.prog 18 #[.int .i64 (m k)] w' fun e w'' => e = .returned (.bool true) ∧ w'' = w') := fun w' => by have h := HM.out (m k) w'; rw [ho] at h; exact h
        clear HN HG ho hok HB HH
        have ho' := ho'.out
        generalize m k = mk at hc ho'
        have ho' : Hid _ := ho'
        go_wp2_with (go_at_call 18; refine (ho'.out _).mono ?_; rintro e wx ⟨rfl, hwx⟩; have hwy := hwx.symm; clear hwx; subst hwy)
        go_roundw
        case rel => exact ⟨k + 1, by omega, by go_num, H1, hx⟩
        case measure => simp [intOf]; omega
    · have hk9 : k = 9 := by omega
      subst hk9
      have e1 : Hid (R = (p1 && p2 && (decide (-128 ≤ rf) && decide (rf ≤ 127)))) := HG.out hok.out
      obtain ⟨c0, c1, c2, c3, c4, c5, c6, c7, c8, c9, c10, c11, c12, c13, c14, c15⟩ := (FB.out.ext hx.out).k16
      clear HN HG hok c7 c8 c9 c10 c11 c12 c13 c14 c15
      by_cases t1 : (-128 : Int) ≤ rf <;> by_cases t2 : rf ≤ 127 <;> first | (exfalso; omega) | skip
      all_goals
        cases p1
        · go_wp2_with (go_at_call 19; refine (HB.out _).mono ?_; rintro e u1 ⟨rfl, x1⟩)
          go_ret
          exact ⟨by rw [e1.out]; rfl, HX.out.trans (hx.out.trans x1)⟩
        · cases p2
          · go_wp2_with (first | (go_at_call_of 19 (Value.agg #[.int .i64 b0, .int .i64 b1, .int .i64 b2]); refine (HB.out _).mono ?_; rintro e u1 ⟨rfl, x1⟩; obtain ⟨d0, d1, d2, d3, d4, d5, d6, d7, d8, d9, d10, d11, d12, d13, d14, d15⟩ := (FB.out.ext (hx.out.trans x1)).k16) | (go_at_call_of 19 (Value.agg #[.int .i64 h0, .int .i64 h1, .int .i64 h2]); refine (HH.out _).mono ?_; rintro e u2 ⟨rfl, x2⟩))
            go_ret
            exact ⟨by rw [e1.out]; rfl, HX.out.trans (hx.out.trans (x1.trans x2))⟩
          · go_wp2_with (first | (go_at_call_of 19 (Value.agg #[.int .i64 b0, .int .i64 b1, .int .i64 b2]); refine (HB.out _).mono ?_; rintro e u1 ⟨rfl, x1⟩; obtain ⟨d0, d1, d2, d3, d4, d5, d6, d7, d8, d9, d10, d11, d12, d13, d14, d15⟩ := (FB.out.ext (hx.out.trans x1)).k16) | (go_at_call_of 19 (Value.agg #[.int .i64 h0, .int .i64 h1, .int .i64 h2]); refine (HH.out _).mono ?_; rintro e u2 ⟨rfl, x2⟩; obtain ⟨f0, f1, f2, f3, f4, f5, f6, f7, f8, f9, f10, f11, f12, f13, f14, f15⟩ := (FB.out.ext (hx.out.trans (x1.trans x2))).k16))
            go_ret
            exact ⟨by rw [e1.out]; simp [t1, t2], HX.out.trans (hx.out.trans (x1.trans x2))⟩
end Go.Proofs.Ytnilhamcojjloaa
