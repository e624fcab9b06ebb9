/- fault of the reference's bus. -/
import Derived.Test.YtfgljkeohoffiaaZk
import Derived.Test.YtfgljkeohoffiaaGy
namespace Go.Proofs.Ytfgljkeohoffiaa
open Go.RowKit Go.Conc
theorem flt_first {c : Int} : ∀ {F : List Flt} {k : Nat}, k < F.length → (∀ j, j < k → (gf F j).at_ ≠ c) → (gf F k).at_ = c → flt F c = some (gf F k)
  | [], k, h, _, _ => absurd h (Nat.not_lt_zero _)
  | f :: F, 0, _, _, e => by
    have e2 : f.at_ = c := e
    unfold flt; rw [if_pos e2.symm]; rfl
  | f :: F, k + 1, h, h1, e => by
    have e2 : f.at_ ≠ c := h1 0 (by omega)
    have := flt_first (F := F) (k := k) (by simpa using h) (fun j hj => h1 (j + 1) (by omega)) e
    unfold flt; rw [if_neg (fun q => e2 q.symm)]; exact this
theorem flt_no {c : Int} : ∀ {F : List Flt}, (∀ j, j < F.length → (gf F j).at_ ≠ c) → flt F c = none
  | [], _ => rfl
  | f :: F, h => by
    have e2 : f.at_ ≠ c := h 0 (by simp)
    have := flt_no (F := F) (fun j hj => h (j + 1) (by simpa using hj))
    unfold flt; rw [if_neg (fun q => e2 q.symm)]; exact this
section
variable {w w' : World} {x : RA} {own : Nat → Prop} {s : Bs}
set_option maxRecDepth 20000 in
set_option maxHeartbeats 4000000 in
theorem rfault_any (h : RB w x own s) : Calls Try.prog 38 #[.pointer (some ⟨x.b, 0, none⟩)] w fun e w' => e = .returned (fv ((flt x.F s.cnt).getD noF)) ∧ Ext w w' := by
  have hx : Ext w (w.alloc (fc noF)) := (Ext.refl w).alloc _
  have h1 := h.ext hx
  have HV : Hid (∀ wr, Ext (w.alloc (fc noF)) wr → F4 wr w.heap.size 0 noF ∧ (∀ j, j < 4 → wr.frozen? ⟨w.heap.size, j, none⟩ = false) ∧ Ext w wr) := fun wr xr => by
    have f4 := f4_new (w := w) (f := noF) rfl
    obtain ⟨g0, g1, g2, g3⟩ := id f4
    refine ⟨f4.ext xr, fun j hj => ?_, hx.trans xr⟩
    match j, hj with
    | 0, _ => exact xr.keepf g0 (by simp [go_sem])
    | 1, _ => exact xr.keepf g1 (by simp [go_sem])
    | 2, _ => exact xr.keepf g2 (by simp [go_sem])
    | 3, _ => exact xr.keepf g3 (by simp [go_sem])
    | j + 4, h => omega
  have HC : Hid (∀ wr, Ext (w.alloc (fc noF)) wr → wr.cell? ⟨x.b, 1, none⟩ = some (.slice x.fa x.F.length x.fc) ∧ wr.cell? ⟨x.b, 2, none⟩ = some (.int .i64 s.cnt) ∧ FRs wr x.fa x.F) := fun wr xr => ⟨xr.keepc h1.c1, xr.keepc h1.c2, h1.fs.ext xr⟩
  have hl := h.fl.1
  have H0 : Hid (Ext (w.alloc (fc noF)) (w.alloc (fc noF)) ∧ ∀ j, j < 0 → (gf x.F j).at_ ≠ s.cnt) := ⟨Ext.refl _, fun j hj => absurd hj (Nat.not_lt_zero _)⟩
  clear h h1 hx
  go_enter Try.func38, Try.ntmps38
  go_wp2_with fail
  generalize hcn : s.cnt = cn at *
  have HCN : Hid (s.cnt = cn) := hcn
  clear hcn
  obtain ⟨xb, xg, xdc, xd, xfa, xfc, xA, xLC, xF⟩ := x
  simp only at HC hl H0 ⊢
  go_loopw [3] (fun i wr => ∃ k : Nat, k ≤ xF.length ∧ i = .int .i64 k ∧ Hid (Ext (w.alloc (fc noF)) wr ∧ ∀ j, j < k → (gf xF j).at_ ≠ cn)) (fun i _ => xF.length - (intOf i).toNat)
  case atStart => exact ⟨0, Nat.zero_le _, rfl, H0⟩
  case round =>
    obtain ⟨k, hk, rfl, hR⟩ := hrel
    clear H0
    obtain ⟨c1, c2, hfr⟩ := HC.out wr hR.out.1
    by_cases hlt : k < xF.length
    · have hlti : (k : Int) < (xF.length : Int) := by omega
      obtain ⟨fb, fo, rfl, i0, i1, i2, i3⟩ := hfr k hlt
      go_upto_region 4 with fail
      go_quiet (fail)
      have R2 : Hid (Ext (w.alloc (fc noF)) (wr.drewN nq) ∧ ∀ j, j < k → (gf xF j).at_ ≠ cn) := ⟨hR.out.1.trans (drewN_ext nq), hR.out.2⟩
      have j0 := (drewN_ext nq).keepc i0
      have j1 := (drewN_ext nq).keepc i1
      have j2 := (drewN_ext nq).keepc i2
      have j3 := (drewN_ext nq).keepc i3
      have k1 := (drewN_ext nq).keepc c1
      clear hR c1 c2 hfr i0 i1 i2 i3
      generalize wr.drewN nq = w2 at *
      by_cases ha : (gf xF k).at_ = cn
      · have e : Hid (flt xF cn = some (gf xF k)) := flt_first hlt R2.out.2 ha
        obtain ⟨⟨b0, b1, b2, b3⟩, bf, bx⟩ := HV.out w2 R2.out.1
        have f0 := bf 0 (by omega)
        have f1 := bf 1 (by omega)
        have f2 := bf 2 (by omega)
        have f3 := bf 3 (by omega)
        have HXX : Hid (Ext w w2) := bx
        simp only [Nat.zero_add] at b0 b1 b2 b3
        have hab : ((gf xF k).at_ == cn) = true := by simpa using ha
        clear ha bf bx
        generalize gf xF k = f at *
        go_wp2_with fail
        exact bodyPost_ret (v := fv f) (by simp [results, Try.results38, go_sem, b0, b1, b2, b3]) rfl ⟨by rw [HCN.out, e.out]; rfl, (((HXX.out.new (Nat.le_refl _) _ _).new (Nat.le_refl _) _ _).new (Nat.le_refl _) _ _).new (Nat.le_refl _) _ _⟩
      · have ha2 : ((gf xF k).at_ == cn) = false := by simpa using ha
        have R3 : Hid (Ext (w.alloc (fc noF)) w2 ∧ ∀ j, j < k + 1 → (gf xF j).at_ ≠ cn) := ⟨R2.out.1, fun j hj => by
          by_cases ej : j = k
          · rw [ej]; exact ha
          · exact R2.out.2 j (by omega)⟩
        generalize (gf xF k).at_ = ad at *
        go_wp2_with fail
        go_roundw
        case measure => simp [intOf]; omega
        case rel => exact ⟨k + 1, by omega, by simp, R3⟩
    · have hlti : ¬ (k : Int) < (xF.length : Int) := by omega
      have e : Hid (flt xF cn = none) := flt_no (fun j hj => hR.out.2 j (by omega))
      obtain ⟨⟨b0, b1, b2, b3⟩, bf, bx⟩ := HV.out wr hR.out.1
      have f0 := bf 0 (by omega)
      have f1 := bf 1 (by omega)
      have f2 := bf 2 (by omega)
      have f3 := bf 3 (by omega)
      have HXX : Hid (Ext w wr) := bx
      simp only [Nat.zero_add] at b0 b1 b2 b3
      clear bf bx hfr c2
      go_wp2_with fail
      exact bodyPost_ret (v := fv noF) (by simp [results, Try.results38, go_sem, b0, b1, b2, b3, noF]) rfl ⟨by rw [HCN.out, e.out]; rfl, (((HXX.out.new (Nat.le_refl _) _ _).new (Nat.le_refl _) _ _).new (Nat.le_refl _) _ _).new (Nat.le_refl _) _ _⟩
end
end Go.Proofs.Ytfgljkeohoffiaa
