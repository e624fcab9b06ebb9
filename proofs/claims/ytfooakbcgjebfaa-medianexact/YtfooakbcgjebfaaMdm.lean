/- median: Take. -/
import Derived.Test.YtfooakbcgjebfaaMdk
namespace Go.Proofs.Ytfooakbcgjebfaa
open Go.RowKit Go.Conc Go.Shelf Go.Lib
/-- what the window is, and its middle -/
def medv (l : List Vc) : Vc := ⟨med (l.map fun v => v.x), med (l.map fun v => v.y), med (l.map fun v => v.z)⟩
theorem row_cells {w : World} {B n : Nat} {g cap : Nat} {xs : List Value} (h : w.ownsRow B Erw 3 (.slice (some ⟨g, 0, none⟩) n cap) n xs) : ∀ j u, xs[j]? = some u → w.cell? ⟨g, j, none⟩ = some u := by
  rcases h.2 with ⟨e, _⟩ | ⟨g', cap', cur, hv, hb, hg, h1, _, h3, h4⟩
  · cases e
  · cases hv
    intro j u hu
    have hj := (List.getElem?_eq_some_iff.1 hu).1
    rw [h.1] at hj
    simp only [World.cell?, hg]
    rw [← h4, List.getElem?_take, if_pos hj] at hu
    simpa using hu
theorem pushL_pos (n : Nat) (l : List Vc) (x : Vc) : 0 < (pushL n l x).length := by unfold pushL; split <;> simp
theorem pushL_le {n : Nat} {l : List Vc} (x : Vc) (h : l.length ≤ n) (h1 : 1 ≤ n) : (pushL n l x).length ≤ n := by
  unfold pushL; split <;> simp <;> omega
theorem okWin_le {ls : List Vc} {n : Int} (h : okWin ls n = true) : 1 ≤ n ∧ n ≤ 7 ∧ (ls.length : Int) ≤ n := by
  unfold okWin at h
  simp only [Bool.and_eq_true, decide_eq_true_eq] at h
  obtain ⟨h1, h2, _⟩ := h
  have := okN_le h1
  omega
theorem take_vars (w : World) (x : Vc) : P3 ((w.alloc (cells3 x)).alloc cells0) w.heap.size x ∧ P3 ((w.alloc (cells3 x)).alloc cells0) (w.heap.size + 1) nought ∧ Ext w ((w.alloc (cells3 x)).alloc cells0) :=
  ⟨(p3_at rfl).alloc _, p3_at (r := nought) (by simp), ((Ext.refl w).alloc _).alloc _⟩
set_option maxRecDepth 20000 in
set_option maxHeartbeats 8000000 in
theorem take_good (ls : List Vc) (a : Option Addr) (lc n : Nat) (x : Vc) (w : World) (hV : VL w a ls) (h1 : okWin ls n = true) (h2 : okv x = true) :
    Calls Try.prog 9 #[.slice a ls.length lc, .int .i64 n, rv x] w fun e w' => ∃ g cap, e = .returned (.tuple #[.slice (some ⟨g, 0, none⟩) (pushL n ls x).length cap, rv (medv (pushL n ls x)), .int .i64 0]) ∧ w'.ownsRow w.heap.size Erw 3 (.slice (some ⟨g, 0, none⟩) (pushL n ls x).length cap) (pushL n ls x).length (vcs (pushL n ls x)) ∧ Ext w w' := by
  obtain ⟨n1, n2, n3⟩ := okWin_le h1
  have hms := pushL_pos n ls x
  have hml := pushL_le (n := n) x (by omega : ls.length ≤ n) (by omega)
  have HSl := fun w hV => slid_any ls a lc n x (by omega) (by omega) (by omega) w hV
  generalize pushL n ls x = ms at *
  obtain ⟨m, hm⟩ : ∃ m, medv ms = m := ⟨_, rfl⟩
  rw [hm]
  obtain ⟨HB, HZ, HX⟩ := take_vars w x
  have HVV : Hid (VL ((w.alloc (cells3 x)).alloc cells0) a ls) := hV.ext HX
  have HW := isWindow_any ls a lc n _ HVV.out
  rw [h1] at HW
  have HC : Hid (∀ W, Calls Try.prog 18 #[rv x] W fun e w' => e = .returned (.int .i64 0) ∧ Ext W w') := fun W => by
    have := vCheck_any x.x x.y x.z W
    rw [okv_chk, h2] at this
    exact this
  have HSH : Hid _ := HSl
  have HMM : Hid (medv ms = m) := hm
  have HMS : Hid (0 < ms.length ∧ ms.length ≤ 256) := ⟨hms, by omega⟩
  have HBH : Hid (P3 _ w.heap.size x) := HB
  have HZH : Hid (P3 _ (w.heap.size + 1) nought) := HZ
  have HXH : Hid (Ext w _) := HX
  clear hV h1 h2 n1 n2 n3 hms hml HSl hm HB HZ HX
  go_enter Try.func9, Try.ntmps9
  go_upto_region 1 with fail
  generalize ((w.alloc (cells3 x)).alloc cells0) = W0 at *
  go_upto_region 3 with (first | (go_at_call 17; refine HW.mono ?_; rintro e w1 ⟨rfl, x1⟩; obtain ⟨⟨b0, b1, b2⟩, _⟩ := HBH.out.ext x1) | (go_at_call 18; refine (HC.out _).mono ?_; rintro e w2 ⟨rfl, x2⟩))
  have X2 : Ext W0 w2 := x1.trans x2
  have HS2 := HSH.out w2 (HVV.out.ext X2)
  clear b0 b1 b2 x1 x2 HW HC HSH HVV
  obtain ⟨⟨b0, b1, b2⟩, _⟩ := HBH.out.ext X2
  have HX2 : Hid (Ext W0 w2) := X2
  clear X2
  go_upto_region 6 with (go_at_call 19; refine HS2.mono ?_; rintro e w3 ⟨g, cap, rfl, hown, x3⟩)
  have hc := row_cells hown
  have HM1 : Hid (∀ W, Ext w3 W → Calls Try.prog 20 #[.slice (some ⟨g, 0, none⟩) ms.length cap, .func (.func 21) #[] #[]] W fun e w' => e = .returned (.int .i64 m.x) ∧ Ext w3 w') := fun W x => (middle1_any ms g cap HMS.out.1 HMS.out.2 W (fun j u hu => x.keepc (hc j u hu))).mono fun e w' ⟨h1, h2⟩ => ⟨by rw [← HMM.out]; exact h1, x.trans h2⟩
  have HM2 : Hid (∀ W, Ext w3 W → Calls Try.prog 20 #[.slice (some ⟨g, 0, none⟩) ms.length cap, .func (.func 22) #[] #[]] W fun e w' => e = .returned (.int .i64 m.y) ∧ Ext w3 w') := fun W x => (middle2_any ms g cap HMS.out.1 HMS.out.2 W (fun j u hu => x.keepc (hc j u hu))).mono fun e w' ⟨h1, h2⟩ => ⟨by rw [← HMM.out]; exact h1, x.trans h2⟩
  have HM3 : Hid (∀ W, Ext w3 W → Calls Try.prog 20 #[.slice (some ⟨g, 0, none⟩) ms.length cap, .func (.func 23) #[] #[]] W fun e w' => e = .returned (.int .i64 m.z) ∧ Ext w3 w') := fun W x => (middle3_any ms g cap HMS.out.1 HMS.out.2 W (fun j u hu => x.keepc (hc j u hu))).mono fun e w' ⟨h1, h2⟩ => ⟨by rw [← HMM.out]; exact h1, x.trans h2⟩
  have HR : Hid (∀ W, Ext w3 W → W.ownsRow w.heap.size Erw 3 (.slice (some ⟨g, 0, none⟩) ms.length cap) ms.length (vcs ms)) := fun W x => by
    have := vrow_ext hown x
    refine ⟨this.1, ?_⟩
    rcases this.2 with e | ⟨g', cap', cur, hv, hb, hr⟩
    · exact .inl e
    · exact .inr ⟨g', cap', cur, hv, Nat.le_trans (HXH.out.trans HX2.out).size hb, hr⟩
  have HG : Hid (w2.heap.size ≤ g) := (hown.lt g rfl).1
  have HX3 : Hid (Ext W0 w3) := HX2.out.trans x3
  have x33 : Hid (Ext w3 w3) := Ext.refl w3
  clear hc hown x3 b0 b1 b2 HS2 HMM
  go_upto_region 7 with fail
  refine (HM1.out _ x33.out).mono ?_
  rintro e w4 ⟨rfl, x4⟩
  go_upto_region 7 with fail
  refine (HM2.out _ x4).mono ?_
  rintro e w5 ⟨rfl, x5⟩
  go_upto_region 7 with fail
  refine (HM3.out _ x5).mono ?_
  rintro e w6 ⟨rfl, x6⟩
  obtain ⟨⟨z0, z1, z2⟩, zf0, zf1, zf2⟩ := HZH.out.ext (HX3.out.trans x6)
  have HR6 : Hid (w6.ownsRow w.heap.size Erw 3 (.slice (some ⟨g, 0, none⟩) ms.length cap) ms.length (vcs ms)) := HR.out w6 x6
  have HX6 : Hid (Ext w w6) := HXH.out.trans (HX3.out.trans x6)
  have HP6 : Hid (P3 w6 (w.heap.size + 1) nought) := HZH.out.ext (HX3.out.trans x6)
  have hgb : Hid (g ≠ w.heap.size + 1) := by
    have h1 := HG.out
    have h2 := (HZH.out.ext HX2.out).lt
    show _ ≠ _
    omega
  clear HM1 HM2 HM3 HR HX3 HZH HBH HX2 x4 x5 x6 x33 HG HXH
  go_upto_region 7 with fail
  have e7 : Hid (put3 w6 (w.heap.size + 1) 0 m = ((w6.setCell ⟨w.heap.size + 1, 0, none⟩ (.int .i64 m.x)).setCell ⟨w.heap.size + 1, 1, none⟩ (.int .i64 m.y)).setCell ⟨w.heap.size + 1, 2, none⟩ (.int .i64 m.z)) := rfl
  rw [← e7.out]
  have t7 : Tn (fun k => k = w.heap.size + 1) w6 (put3 w6 (w.heap.size + 1) 0 m) := (((Tn.refl (fun k => k = w.heap.size + 1) w6).set (.inl rfl) _ _).set (.inl rfl) _ _).set (.inl rfl) _ _
  have P7 := HP6.out.set m
  have HP7 : Hid (P3 (put3 w6 (w.heap.size + 1) 0 m) (w.heap.size + 1) m) := P7
  have HX7 : Hid (Ext w (put3 w6 (w.heap.size + 1) 0 m)) := HX6.out.put3 (Nat.le_succ _) 0 m
  have HR7 : Hid ((put3 w6 (w.heap.size + 1) 0 m).ownsRow w.heap.size Erw 3 (.slice (some ⟨g, 0, none⟩) ms.length cap) ms.length (vcs ms)) := vrow_tn HR6.out t7 (fun k _ hk e => by simp only [Value.ownBlock, Option.some.injEq] at hk; exact hgb.out (hk.trans e))
  clear e7 t7 HP6 HX6 HR6 z0 z1 z2 zf0 zf1 zf2
  generalize put3 w6 (w.heap.size + 1) 0 m = w7 at *
  obtain ⟨⟨z0, z1, z2⟩, zf0, zf1, zf2⟩ := P7
  go_region
  all_goals
    go_wp2_with fail
    have t8 : Tn (fun k => k = w.heap.size + 1) w7 (put3 w7 (w.heap.size + 1) 0 m) := (((Tn.refl (fun k => k = w.heap.size + 1) w7).set (.inl rfl) _ _).set (.inl rfl) _ _).set (.inl rfl) _ _
    have hr8 := vrow_tn HR7.out t8 (fun k _ hk e => by simp only [Value.ownBlock, Option.some.injEq] at hk; exact hgb.out (hk.trans e))
    have hx8 : Ext w (put3 w7 (w.heap.size + 1) 0 m) := HX7.out.put3 (Nat.le_succ _) 0 m
    refine bodyPost_ret (v := .tuple #[.slice (some ⟨g, 0, none⟩) ms.length cap, rv m, .int .i64 0]) (by simp [results, Try.results9, go_sem, z0, z1, z2]) rfl ⟨g, cap, rfl, vrow_ext hr8 ((Ext.refl _).drew), hx8.drew⟩
set_option maxRecDepth 20000 in
set_option maxHeartbeats 8000000 in
theorem take_bad (ls : List Vc) (a : Option Addr) (lc : Nat) (n : Int) (x : Vc) (w : World) (hV : VL w a ls) (h1 : (okWin ls n && okv x) = false) :
    Calls Try.prog 9 #[.slice a ls.length lc, .int .i64 n, rv x] w fun e w' => e = .returned (.tuple #[.slice none 0 0, rv nought, .int .i64 1]) ∧ Ext w w' := by
  obtain ⟨HB, HZ, HX⟩ := take_vars w x
  have HVV : Hid (VL ((w.alloc (cells3 x)).alloc cells0) a ls) := hV.ext HX
  have HW := isWindow_any ls a lc n _ HVV.out
  have HC : Hid (∀ W, Calls Try.prog 18 #[rv x] W fun e w' => e = .returned (.int .i64 (if okv x then 0 else 1)) ∧ Ext W w') := fun W => vCheck_any x.x x.y x.z W
  have HBH : Hid (P3 _ w.heap.size x) := HB
  have HZH : Hid (P3 _ (w.heap.size + 1) nought) := HZ
  have HXH : Hid (Ext w _) := HX
  clear hV HB HZ HX
  cases h2 : okWin ls n
  · rw [h2] at HW
    clear h1 h2 HC
    go_enter Try.func9, Try.ntmps9
    go_upto_region 1 with fail
    generalize ((w.alloc (cells3 x)).alloc cells0) = W0 at *
    go_upto_region 2 with (first | (go_at_call 17; refine HW.mono ?_; rintro e w1 ⟨rfl, x1⟩; obtain ⟨⟨z0, z1, z2⟩, zf0, zf1, zf2⟩ := HZH.out.ext x1))
    have hx8 : Ext w (put3 w1 (w.heap.size + 1) 0 nought) := (HXH.out.trans x1).put3 (Nat.le_succ _) 0 nought
    obtain ⟨⟨y0, y1, y2⟩, _⟩ := (HZH.out.ext x1).set nought
    go_wp2_with fail
    refine bodyPost_ret (v := .tuple #[.slice none 0 0, rv nought, .int .i64 1]) (by simp [results, Try.results9, go_sem, z0, z1, z2, nought]) rfl ⟨rfl, hx8⟩
  · rw [h2] at HW h1
    have h3 : okv x = false := by simpa using h1
    rw [h3, if_neg (by simp)] at HC
    clear h1 h2 h3
    go_enter Try.func9, Try.ntmps9
    go_upto_region 1 with fail
    generalize ((w.alloc (cells3 x)).alloc cells0) = W0 at *
    go_upto_region 2 with (first | (go_at_call 17; refine HW.mono ?_; rintro e w1 ⟨rfl, x1⟩; obtain ⟨⟨b0, b1, b2⟩, _⟩ := HBH.out.ext x1) | (go_at_call 18; refine (HC.out _).mono ?_; rintro e w2 ⟨rfl, x2⟩; obtain ⟨⟨z0, z1, z2⟩, zf0, zf1, zf2⟩ := HZH.out.ext (x1.trans x2)))
    have hx8 : Ext w (put3 w2 (w.heap.size + 1) 0 nought) := (HXH.out.trans (x1.trans x2)).put3 (Nat.le_succ _) 0 nought
    go_wp2_with fail
    refine bodyPost_ret (v := .tuple #[.slice none 0 0, rv nought, .int .i64 1]) (by simp [results, Try.results9, go_sem, z0, z1, z2, nought]) rfl ⟨rfl, hx8⟩
end Go.Proofs.Ytfooakbcgjebfaa
