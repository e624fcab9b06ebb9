/- wide: Unit. -/
import Derived.Test.YtoeecldhbabmbaaGreatMg18
import Derived.Deep.DeepCutAuto
open Go.Value renaming int → J, agg → zG
open Go.IntKind renaming i64 → zq, u64 → zu
open Go.Ending renaming returned → zR
open Go.Proofs.Tryz renaming prog → zP
namespace Go.Proofs.YtoeecldhbabmbaaGreat
open Go.RowKit Go.Shelf
theorem hid_extQW9 {w w' : World} {b : Nat} {u v x : Value} (h : Hid (H3 w b u v x)) (hx : Ext w w') : Hid (H3 w' b u v x) := h.out.ext hx
theorem ext_newA {X w' : World} {u v x : Value} {T : TypeId} (h : Ext (X.alloc (.cells #[u, v, x] T)) w') : Hid (H3 w' X.heap.size u v x) := (h3_at rfl).ext h
theorem ext_newD {X w' : World} {u v x : Value} {T : TypeId} (h : Ext (X.alloc (.cells #[u, v, x] T)).drew w') : Hid (H3 w' X.heap.size u v x) := (H3.drew (h3_at rfl)).ext h
theorem H3.set3u {w : World} {b : Nat} {u v x : Value} (h : H3 w b u v x) (u' v' x' : Value) : H3 (((w.setCell ⟨b, 0, none⟩ u').setCell ⟨b, 1, none⟩ v').setCell ⟨b, 2, none⟩ x') b u' v' x' := by
  obtain ⟨h0, h1, h2, f0, f1, f2, hb⟩ := h
  refine ⟨?_, ?_, ?_, ?_, ?_, ?_, ?_⟩ <;> simp [go_sem, h0, h1, h2, f0, f1, f2, hb]
def Part (w wx : World) (g : Nat) (k : Int) : Prop := ∃ s0 s1 s2 : Int, H3 wx g (J zu s0) (J zu s1) (J zu s2) ∧ IsW (zG #[J zu s0, J zu s1, J zu s2]) k ∧ Ext w wx ∧ w.heap.size ≤ g
theorem part_a {w wR : World} {s0 s1 s2 k : Int} {T : TypeId} (hR : Hid (s0 = l0 k ∧ s1 = l1 k ∧ s2 = l2 k)) (y : Ext w wR) : Hid (Part w (wR.alloc (.cells #[J zu s0, J zu s1, J zu s2] T)) wR.heap.size k) :=
  ⟨s0, s1, s2, h3_at rfl, ⟨_, _, _, rfl, hR.out⟩, y.alloc _, y.size⟩
theorem part_b {w wR : World} {g : Nat} {u v x : Value} {s0 s1 s2 k : Int} (hN : Hid (H3 wR g u v x)) (hR : Hid (s0 = l0 k ∧ s1 = l1 k ∧ s2 = l2 k)) (y : Ext w wR) (hg : w.heap.size ≤ g) :
    Hid (Part w (((wR.setCell ⟨g, 0, none⟩ (J zu s0)).setCell ⟨g, 1, none⟩ (J zu s1)).setCell ⟨g, 2, none⟩ (J zu s2)) g k) :=
  ⟨s0, s1, s2, hN.out.set3u _ _ _, ⟨_, _, _, rfl, hR.out⟩, ((y.set hg _).set hg _).set hg _, hg⟩
theorem rootw_det (p n k : Nat) (u v : Value) (w : World) (hk : RootQ p n k) (hu : IsW u p) (hv : IsW v n) (h0 : 0 < n) (hn : n < 4951760157141521099596496896) (hp : p / n < 4951760157141521099596496896) (hp2 : p < 98079714615416886934934209737619787751599303819750539264) :
    Calls zP 142 #[u, v] w fun e w' => (∃ r, e = zR r ∧ IsW r (k : Int)) ∧ Ext w w' := by
  refine (rootw_any p n u v w hu hv h0 hn hp hp2).mono ?_
  rintro e w1 ⟨⟨r, rfl, k', h1, h2, _⟩, x1⟩
  rw [rootQ_unique h0 h2 hk] at h1
  exact ⟨⟨r, rfl, h1⟩, x1⟩
set_option maxHeartbeats 8000000 in
theorem unitw_pos (v b0 b1 b2 z1 z2 : Int) (k : Nat) (w : World) (hv : ¬ v < 0)
    (HP : Hid (∀ w', Calls zP 116 #[J zq v, J zq v] w' fun e w'' => (∃ r, e = zR r ∧ IsW r z1) ∧ Ext w' w''))
    (HT : Hid (∀ t w', IsW t z1 → Calls zP 167 #[t, J zu 1152921504606846976] w' fun e w'' => (∃ r, e = zR r ∧ IsW r z2) ∧ Ext w' w''))
    (HR : Hid (∀ t w', IsW t z2 → Calls zP 142 #[t, zG #[J zu b0, J zu b1, J zu b2]] w' fun e w'' => (∃ r, e = zR r ∧ IsW r (k : Int)) ∧ Ext w' w'')) :
    Calls zP 136 #[J zq v, zG #[J zu b0, J zu b1, J zu b2]] w fun e w' => (∃ r, e = zR r ∧ IsW r (k : Int)) ∧ Ext w w' := by
  have GB : Hid (H3 ((w.alloc (.cells #[J zu b0, J zu b1, J zu b2] 152)).alloc (.cells #[J zu 0, J zu 0, J zu 0] 152)) w.heap.size (J zu b0) (J zu b1) (J zu b2)) := H3.alloc (h3_at rfl) _
  have RB : Hid (H3 ((w.alloc (.cells #[J zu b0, J zu b1, J zu b2] 152)).alloc (.cells #[J zu 0, J zu 0, J zu 0] 152)) (w.heap.size + 1) (J zu 0) (J zu 0) (J zu 0)) := h3_at (by simp)
  have EB : Ext w ((w.alloc (.cells #[J zu b0, J zu b1, J zu b2] 152)).alloc (.cells #[J zu 0, J zu 0, J zu 0] 152)) := ((Ext.refl _).alloc _).alloc _
  have SB : Hid (((w.alloc (.cells #[J zu b0, J zu b1, J zu b2] 152)).alloc (.cells #[J zu 0, J zu 0, J zu 0] 152)).heap.size = w.heap.size + 1 + 1) := (by simp : ((w.alloc (.cells #[J zu b0, J zu b1, J zu b2] 152)).alloc (.cells #[J zu 0, J zu 0, J zu 0] 152)).heap.size = w.heap.size + 1 + 1)
  go_enter Tryz.func136, Tryz.ntmps136
  go_upto_region 1 with fail
  generalize ((w.alloc (.cells #[J zu b0, J zu b1, J zu b2] 152)).alloc (.cells #[J zu 0, J zu 0, J zu 0] 152)) = wB at *
  obtain ⟨g0, g1, g2, g3, g4, g5, g6⟩ := GB.out
  have d0 := fun o => (GB.out.alloc o).1
  have d1 := fun o => (GB.out.alloc o).2.1
  have d2 := fun o => (GB.out.alloc o).2.2.1
  go_cut [5] (fun s5 wx => ∃ gp, s5 = .pointer (some ⟨gp, 0, none⟩) ∧ Hid (Part wB wx gp (k : Int)))
  case first =>
    go_region_with (first | (go_at_call 116; refine (HP.out _).mono ?_; rintro e wP ⟨⟨uP, rfl, hP⟩, xP⟩; have yP : Ext wB wP := Ext.trans xa xP; obtain ⟨g0, g1, g2, g3, g4, g5, g6⟩ := GB.out.ext yP; have d0 := fun o => (GB.out.ext (yP.alloc o)).1; have d1 := fun o => (GB.out.ext (yP.alloc o)).2.1; have d2 := fun o => (GB.out.ext (yP.alloc o)).2.2.1; first | ((with_reducible have hNP := ext_newD xP); obtain ⟨n0, n1, n2, n3, n4, n5, n6⟩ := hNP.out) | ((with_reducible have hNP := ext_newA xP); obtain ⟨n0, n1, n2, n3, n4, n5, n6⟩ := hNP.out) | skip) | (go_at_call 167; refine (HT.out _ _ hP).mono ?_; rintro e wT ⟨⟨uT, rfl, hT⟩, xT⟩; have yT : Ext wB wT := Ext.trans xa xT; obtain ⟨g0, g1, g2, g3, g4, g5, g6⟩ := GB.out.ext yT; have d0 := fun o => (GB.out.ext (yT.alloc o)).1; have d1 := fun o => (GB.out.ext (yT.alloc o)).2.1; have d2 := fun o => (GB.out.ext (yT.alloc o)).2.2.1; first | ((with_reducible have hNT := hid_extQW9 hNP xT); obtain ⟨n0, n1, n2, n3, n4, n5, n6⟩ := hNT.out) | ((with_reducible have hNT := ext_newD xT); obtain ⟨n0, n1, n2, n3, n4, n5, n6⟩ := hNT.out) | ((with_reducible have hNT := ext_newA xT); obtain ⟨n0, n1, n2, n3, n4, n5, n6⟩ := hNT.out) | skip) | (go_at_call 142; refine (HR.out _ _ hT).mono ?_; rintro e wR ⟨⟨uR, rfl, s0, s1, s2, rfl, hR⟩, xR⟩; have HRh : Hid _ := hR; clear hR; have yR : Ext wB wR := Ext.trans xa xR; obtain ⟨g0, g1, g2, g3, g4, g5, g6⟩ := GB.out.ext yR; have d0 := fun o => (GB.out.ext (yR.alloc o)).1; have d1 := fun o => (GB.out.ext (yR.alloc o)).2.1; have d2 := fun o => (GB.out.ext (yR.alloc o)).2.2.1; first | ((with_reducible have hNR := hid_extQW9 hNT xR); obtain ⟨n0, n1, n2, n3, n4, n5, n6⟩ := hNR.out) | ((with_reducible have hNR := ext_newD xR); obtain ⟨n0, n1, n2, n3, n4, n5, n6⟩ := hNR.out) | ((with_reducible have hNR := ext_newA xR); obtain ⟨n0, n1, n2, n3, n4, n5, n6⟩ := hNR.out) | skip))
    all_goals
      go_wp2_with fail
      go_meet
      first
        | with_reducible exact ⟨_, rfl, part_a HRh yR⟩
        | ((with_reducible refine ⟨_, rfl, part_b hNR HRh yR ?_⟩) <;> (have s1 := yP.size; have s2 := yT.size; omega))
  case rest =>
    obtain ⟨gp, rfl, hO⟩ := hcut
    obtain ⟨s0, s1, s2, hH, hI, hE0, hG⟩ := hO.out
    have hE : Ext wB wc := hE0
    have hG2 : w.heap.size + 1 + 1 ≤ gp := by have := SB.out; omega
    have HRR : Hid (IsW (zG #[J zu s0, J zu s1, J zu s2]) (k : Int)) := hI
    have HH : Hid (H3 wc gp (J zu s0) (J zu s1) (J zu s2)) := hH
    have EW : Ext w wc := EB.trans hE
    clear hI hO g0 g1 g2 g3 g4 g5 g6 d0 d1 d2 GB hE0 EB SB
    obtain ⟨q0, q1, q2, q3, q4, q5, q6⟩ := hH
    obtain ⟨c0, c1, c2, c3, c4, c5, c6⟩ := RB.out.ext hE
    go_wp2_with fail
    exact bodyPost_ret (v := zG #[J zu s0, J zu s1, J zu s2]) (by simp [results, Tryz.results136, go_sem, c0, c1, c2]) rfl ⟨⟨_, rfl, HRR.out⟩, xa⟩
set_option maxHeartbeats 8000000 in
theorem unitw_neg (v b0 b1 b2 z1 z2 : Int) (k : Nat) (w : World) (hv : v < 0)
    (HP : Hid (∀ w', Calls zP 116 #[J zq v, J zq v] w' fun e w'' => (∃ r, e = zR r ∧ IsW r z1) ∧ Ext w' w''))
    (HT : Hid (∀ t w', IsW t z1 → Calls zP 167 #[t, J zu 1152921504606846976] w' fun e w'' => (∃ r, e = zR r ∧ IsW r z2) ∧ Ext w' w''))
    (HR : Hid (∀ t w', IsW t z2 → Calls zP 142 #[t, zG #[J zu b0, J zu b1, J zu b2]] w' fun e w'' => (∃ r, e = zR r ∧ IsW r (k : Int)) ∧ Ext w' w''))
    (HN : Hid (∀ t w', IsW t (k : Int) → Calls zP 168 #[t] w' fun e w'' => (∃ r, e = zR r ∧ IsW r (-(k : Int))) ∧ Ext w' w'')) :
    Calls zP 136 #[J zq v, zG #[J zu b0, J zu b1, J zu b2]] w fun e w' => (∃ r, e = zR r ∧ IsW r (-(k : Int))) ∧ Ext w w' := by
  have GB : Hid (H3 ((w.alloc (.cells #[J zu b0, J zu b1, J zu b2] 152)).alloc (.cells #[J zu 0, J zu 0, J zu 0] 152)) w.heap.size (J zu b0) (J zu b1) (J zu b2)) := H3.alloc (h3_at rfl) _
  have RB : Hid (H3 ((w.alloc (.cells #[J zu b0, J zu b1, J zu b2] 152)).alloc (.cells #[J zu 0, J zu 0, J zu 0] 152)) (w.heap.size + 1) (J zu 0) (J zu 0) (J zu 0)) := h3_at (by simp)
  have EB : Ext w ((w.alloc (.cells #[J zu b0, J zu b1, J zu b2] 152)).alloc (.cells #[J zu 0, J zu 0, J zu 0] 152)) := ((Ext.refl _).alloc _).alloc _
  have SB : Hid (((w.alloc (.cells #[J zu b0, J zu b1, J zu b2] 152)).alloc (.cells #[J zu 0, J zu 0, J zu 0] 152)).heap.size = w.heap.size + 1 + 1) := (by simp : ((w.alloc (.cells #[J zu b0, J zu b1, J zu b2] 152)).alloc (.cells #[J zu 0, J zu 0, J zu 0] 152)).heap.size = w.heap.size + 1 + 1)
  go_enter Tryz.func136, Tryz.ntmps136
  go_upto_region 1 with fail
  generalize ((w.alloc (.cells #[J zu b0, J zu b1, J zu b2] 152)).alloc (.cells #[J zu 0, J zu 0, J zu 0] 152)) = wB at *
  obtain ⟨g0, g1, g2, g3, g4, g5, g6⟩ := GB.out
  have d0 := fun o => (GB.out.alloc o).1
  have d1 := fun o => (GB.out.alloc o).2.1
  have d2 := fun o => (GB.out.alloc o).2.2.1
  go_cut [5] (fun s5 wx => ∃ gp, s5 = .pointer (some ⟨gp, 0, none⟩) ∧ Hid (Part wB wx gp (k : Int)))
  case first =>
    go_region_with (first | (go_at_call 116; refine (HP.out _).mono ?_; rintro e wP ⟨⟨uP, rfl, hP⟩, xP⟩; have yP : Ext wB wP := Ext.trans xa xP; obtain ⟨g0, g1, g2, g3, g4, g5, g6⟩ := GB.out.ext yP; have d0 := fun o => (GB.out.ext (yP.alloc o)).1; have d1 := fun o => (GB.out.ext (yP.alloc o)).2.1; have d2 := fun o => (GB.out.ext (yP.alloc o)).2.2.1; first | ((with_reducible have hNP := ext_newD xP); obtain ⟨n0, n1, n2, n3, n4, n5, n6⟩ := hNP.out) | ((with_reducible have hNP := ext_newA xP); obtain ⟨n0, n1, n2, n3, n4, n5, n6⟩ := hNP.out) | skip) | (go_at_call 167; refine (HT.out _ _ hP).mono ?_; rintro e wT ⟨⟨uT, rfl, hT⟩, xT⟩; have yT : Ext wB wT := Ext.trans xa xT; obtain ⟨g0, g1, g2, g3, g4, g5, g6⟩ := GB.out.ext yT; have d0 := fun o => (GB.out.ext (yT.alloc o)).1; have d1 := fun o => (GB.out.ext (yT.alloc o)).2.1; have d2 := fun o => (GB.out.ext (yT.alloc o)).2.2.1; first | ((with_reducible have hNT := hid_extQW9 hNP xT); obtain ⟨n0, n1, n2, n3, n4, n5, n6⟩ := hNT.out) | ((with_reducible have hNT := ext_newD xT); obtain ⟨n0, n1, n2, n3, n4, n5, n6⟩ := hNT.out) | ((with_reducible have hNT := ext_newA xT); obtain ⟨n0, n1, n2, n3, n4, n5, n6⟩ := hNT.out) | skip) | (go_at_call 142; refine (HR.out _ _ hT).mono ?_; rintro e wR ⟨⟨uR, rfl, s0, s1, s2, rfl, hR⟩, xR⟩; have HRh : Hid _ := hR; clear hR; have yR : Ext wB wR := Ext.trans xa xR; obtain ⟨g0, g1, g2, g3, g4, g5, g6⟩ := GB.out.ext yR; have d0 := fun o => (GB.out.ext (yR.alloc o)).1; have d1 := fun o => (GB.out.ext (yR.alloc o)).2.1; have d2 := fun o => (GB.out.ext (yR.alloc o)).2.2.1; first | ((with_reducible have hNR := hid_extQW9 hNT xR); obtain ⟨n0, n1, n2, n3, n4, n5, n6⟩ := hNR.out) | ((with_reducible have hNR := ext_newD xR); obtain ⟨n0, n1, n2, n3, n4, n5, n6⟩ := hNR.out) | ((with_reducible have hNR := ext_newA xR); obtain ⟨n0, n1, n2, n3, n4, n5, n6⟩ := hNR.out) | skip))
    all_goals
      go_wp2_with fail
      go_meet
      first
        | with_reducible exact ⟨_, rfl, part_a HRh yR⟩
        | ((with_reducible refine ⟨_, rfl, part_b hNR HRh yR ?_⟩) <;> (have s1 := yP.size; have s2 := yT.size; omega))
  case rest =>
    obtain ⟨gp, rfl, hO⟩ := hcut
    obtain ⟨s0, s1, s2, hH, hI, hE0, hG⟩ := hO.out
    have hE : Ext wB wc := hE0
    have hG2 : w.heap.size + 1 + 1 ≤ gp := by have := SB.out; omega
    have HRR : Hid (IsW (zG #[J zu s0, J zu s1, J zu s2]) (k : Int)) := hI
    have HH : Hid (H3 wc gp (J zu s0) (J zu s1) (J zu s2)) := hH
    have EW : Ext w wc := EB.trans hE
    clear hI hO g0 g1 g2 g3 g4 g5 g6 d0 d1 d2 GB hE0 EB SB
    obtain ⟨q0, q1, q2, q3, q4, q5, q6⟩ := hH
    obtain ⟨c0, c1, c2, c3, c4, c5, c6⟩ := RB.out.ext hE
    go_wp2_with fail
    refine (HN.out _ _ HRR.out).mono ?_
    rintro e wN ⟨⟨uN, rfl, t0, t1, t2, rfl, hNN⟩, xN⟩
    have HNR : Hid _ := hNN
    clear hNN q0 q1 q2 q3 q4 q5 q6 c0 c1 c2 c3 c4 c5 c6
    have yN : Ext w wN := EW.trans xN
    obtain ⟨c0, c1, c2, c3, c4, c5, c6⟩ := (RB.out.ext hE).ext xN
    go_wp2_with fail
    exact bodyPost_ret (v := zG #[J zu t0, J zu t1, J zu t2]) (by simp [results, Tryz.results136, go_sem, c0, c1, c2]) rfl ⟨⟨_, rfl, _, _, _, rfl, HNR.out⟩, xa⟩
def sgd (v : Int) (k : Nat) : Int := if v < 0 then -(k : Int) else (k : Int)
theorem unitw_any (v : Int) (n k : Nat) (u : Value) (w : World) (hu : IsW u n) (h0 : 0 < n) (hn : n < 4951760157141521099596496896) (hv : v.natAbs < 35184372088832) (hvn : v.natAbs * v.natAbs ≤ n) (hk : RootQ (v.natAbs * v.natAbs * 1152921504606846976) n k) :
    Calls zP 136 #[J zq v, u] w fun e w' => (∃ r, e = zR r ∧ IsW r (sgd v k)) ∧ Ext w w' := by
  obtain ⟨b0, b1, b2, rfl, hb⟩ := hu
  have hB : IsW (zG #[J zu b0, J zu b1, J zu b2]) n := ⟨_, _, _, rfl, hb⟩
  have vv : v.natAbs * v.natAbs ≤ 35184372088832 * 35184372088832 := Nat.mul_le_mul (by omega) (by omega)
  have ev : v * v = ((v.natAbs * v.natAbs : Nat) : Int) := by rw [Int.natCast_mul]; exact (Int.natAbs_mul_self' v).symm
  have ev2 : v * v * ((1152921504606846976 : Nat) : Int) = ((v.natAbs * v.natAbs * 1152921504606846976 : Nat) : Int) := by rw [ev, ← Int.natCast_mul]
  have HP := fun w' => productw_any v v w' (by omega) (by omega) (by omega) (by omega)
  have HT := fun t w' (ht : IsW t (v * v)) => timesw_any (v * v) 1152921504606846976 t w' ht (by omega)
  rw [ev2] at HT
  have HR := fun t w' (ht : IsW t ((v.natAbs * v.natAbs * 1152921504606846976 : Nat) : Int)) => rootw_det _ n k t (zG #[J zu b0, J zu b1, J zu b2]) w' hk ht hB h0 hn (by
    have h1 : v.natAbs * v.natAbs * 1152921504606846976 ≤ n * 1152921504606846976 := Nat.mul_le_mul_right _ hvn
    have h2 : v.natAbs * v.natAbs * 1152921504606846976 / n ≤ n * 1152921504606846976 / n := Nat.div_le_div_right h1
    rw [Nat.mul_div_cancel_left _ h0] at h2
    omega) (by omega)
  unfold sgd
  split
  · rename_i h
    exact unitw_neg v b0 b1 b2 _ _ k w h HP HT HR (fun t w' ht => negw_any _ t w' ht)
  · rename_i h
    exact unitw_pos v b0 b1 b2 _ _ k w h HP HT HR
end Go.Proofs.YtoeecldhbabmbaaGreat
