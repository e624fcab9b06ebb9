/- fall.Take. -/
import Derived.Test.YtleiiiagdkcckaaFb0
namespace Go.Proofs.Ytleiiiagdkcckaa
open Go.RowKit
/-- what Take tells -/
def takeF (lo tl : Bool) (s m n : Int) : Value :=
  if okF lo tl s && okMg m && okTm n && decide (s ≤ n) then
    if 4903325 < m then (.tuple #[.agg #[.bool false, .bool false, .int .i64 0], .bool false, .int .i64 0] : Value)
    else if m < 2451662 then
      if lo = false then .tuple #[.agg #[.bool true, .bool false, .int .i64 n], .bool false, .int .i64 0]
      else if tl = false ∧ 100 ≤ n - s then .tuple #[.agg #[.bool true, .bool true, .int .i64 s], .bool true, .int .i64 0]
      else .tuple #[.agg #[.bool lo, .bool tl, .int .i64 s], .bool false, .int .i64 0]
    else .tuple #[.agg #[.bool lo, .bool tl, .int .i64 s], .bool false, .int .i64 0]
  else .tuple #[.agg #[.bool false, .bool false, .int .i64 0], .bool false, .int .i64 1]
theorem takeF_good {lo tl : Bool} {s m n : Int} (h1 : okF lo tl s = true) (h2 : okMg m = true) (h3 : okTm n = true) (h4 : s ≤ n) : takeF lo tl s m n =
    if 4903325 < m then (.tuple #[.agg #[.bool false, .bool false, .int .i64 0], .bool false, .int .i64 0] : Value)
    else if m < 2451662 then
      if lo = false then .tuple #[.agg #[.bool true, .bool false, .int .i64 n], .bool false, .int .i64 0]
      else if tl = false ∧ 100 ≤ n - s then .tuple #[.agg #[.bool true, .bool true, .int .i64 s], .bool true, .int .i64 0]
      else .tuple #[.agg #[.bool lo, .bool tl, .int .i64 s], .bool false, .int .i64 0]
    else .tuple #[.agg #[.bool lo, .bool tl, .int .i64 s], .bool false, .int .i64 0] := by
  unfold takeF
  rw [h1, h2, h3, if_pos (by simpa using h4)]
theorem takeF_form (lo tl : Bool) (s m n : Int) : ∃ (a b : Bool) (d : Int) (t : Bool) (e : Int), takeF lo tl s m n = .tuple #[.agg #[.bool a, .bool b, .int .i64 d], .bool t, .int .i64 e] := by
  unfold takeF
  split
  · split
    · exact ⟨_, _, _, _, _, rfl⟩
    · split
      · split
        · exact ⟨_, _, _, _, _, rfl⟩
        · split
          · exact ⟨_, _, _, _, _, rfl⟩
          · exact ⟨_, _, _, _, _, rfl⟩
      · exact ⟨_, _, _, _, _, rfl⟩
  · exact ⟨_, _, _, _, _, rfl⟩
set_option maxRecDepth 20000 in
set_option maxHeartbeats 16000000 in
theorem ftake_any (lo tl : Bool) (s m n : Int) (w : World) : Calls Try.prog 10 #[.agg #[.bool lo, .bool tl, .int .i64 s], .int .i64 m, .int .i64 n] w fun e w' => e = .returned (takeF lo tl s m n) ∧ Ext w w' := by
  have HI : Hid (∀ w, Calls Try.prog 15 #[.agg #[.bool lo, .bool tl, .int .i64 s]] w fun e w' => e = .returned (.bool (okF lo tl s)) ∧ Ext w w') := isfall_any lo tl s
  have HM : Hid (∀ w, Calls Try.prog 16 #[.int .i64 m] w fun e w' => e = .returned (.bool (okMg m)) ∧ w' = w) := ismag_any m
  have HT : Hid (∀ w, Calls Try.prog 17 #[.int .i64 n] w fun e w' => e = .returned (.bool (okTm n)) ∧ w' = w) := istime_any n
  have Fs : Hid (HV ((w.alloc (.cells #[.bool lo, .bool tl, .int .i64 s] 24)).alloc (.cells #[.bool false, .bool false, .int .i64 0] 24)) w.heap.size [.bool lo, .bool tl, .int .i64 s]) := (hv_at rfl).alloc _
  have Ft : Hid (HV ((w.alloc (.cells #[.bool lo, .bool tl, .int .i64 s] 24)).alloc (.cells #[.bool false, .bool false, .int .i64 0] 24)) (w.heap.size + 1) [.bool false, .bool false, .int .i64 0]) := hv_at (by simp)
  have Ls : Hid (w.heap.size ≤ w.heap.size) := Nat.le_refl _
  have Lt : Hid (w.heap.size ≤ w.heap.size + 1) := Nat.le_add_right _ _
  have FX : Hid (Ext w ((w.alloc (.cells #[.bool lo, .bool tl, .int .i64 s] 24)).alloc (.cells #[.bool false, .bool false, .int .i64 0] 24))) := ((Ext.refl w).alloc _).alloc _
  cases a1 : okF lo tl s
  · have er : takeF lo tl s m n = .tuple #[.agg #[.bool false, .bool false, .int .i64 0], .bool false, .int .i64 1] := by unfold takeF; rw [a1]; rfl
    rw [er]
    rw [a1] at HI
    clear er a1
    go_enter Try.func10, Try.ntmps10
    go_upto_region 1 with fail
    generalize ((w.alloc (.cells #[.bool lo, .bool tl, .int .i64 s] 24)).alloc (.cells #[.bool false, .bool false, .int .i64 0] 24)) = wa at *
    have qs0 : wa.cell? ⟨w.heap.size, 0, none⟩ = some (.bool lo) := Fs.out.c 0 rfl
    have qs1 : wa.cell? ⟨w.heap.size, 1, none⟩ = some (.bool tl) := Fs.out.c 1 rfl
    have qs2 : wa.cell? ⟨w.heap.size, 2, none⟩ = some (.int .i64 s) := Fs.out.c 2 rfl
    go_upto_region 2 with (first | (go_at_call 15; refine (HI.out _).mono ?_; rintro e w1 ⟨rfl, x1⟩; have ks2 : w1.cell? ⟨w.heap.size, 2, none⟩ = some (.int .i64 s) := (Fs.out.ext x1).c 2 rfl))
    have Fs : Hid (HV w1 w.heap.size [.bool lo, .bool tl, .int .i64 s]) := Fs.out.ext x1
    have Ft : Hid (HV w1 (w.heap.size + 1) [.bool false, .bool false, .int .i64 0]) := Ft.out.ext x1
    have FX : Hid (Ext w w1) := FX.out.trans x1
    clear qs0 qs1 qs2 x1 HI HM HT
    have o0 : w1.cell? ⟨(w.heap.size + 1), 0, none⟩ = some (.bool false) := Ft.out.c 0 rfl
    have z0 : w1.frozen? ⟨(w.heap.size + 1), 0, none⟩ = false := Ft.out.f 0 rfl
    have o1 : w1.cell? ⟨(w.heap.size + 1), 1, none⟩ = some (.bool false) := Ft.out.c 1 rfl
    have z1 : w1.frozen? ⟨(w.heap.size + 1), 1, none⟩ = false := Ft.out.f 1 rfl
    have o2 : w1.cell? ⟨(w.heap.size + 1), 2, none⟩ = some (.int .i64 0) := Ft.out.c 2 rfl
    have z2 : w1.frozen? ⟨(w.heap.size + 1), 2, none⟩ = false := Ft.out.f 2 rfl
    go_wp2_with fail
    refine bodyPost_ret (v := .tuple #[.agg #[.bool false, .bool false, .int .i64 0], .bool false, .int .i64 1]) (by simp [results, Try.results10, go_sem, *]) rfl ⟨rfl, ?_⟩
    exact (Ext.set (Ext.set (Ext.set FX.out Lt.out _) Lt.out _) Lt.out _)
  · cases a2 : okMg m
    · have er : takeF lo tl s m n = .tuple #[.agg #[.bool false, .bool false, .int .i64 0], .bool false, .int .i64 1] := by unfold takeF; rw [a1, a2]; rfl
      rw [er]
      rw [a1] at HI
      rw [a2] at HM
      clear er a1 a2
      go_enter Try.func10, Try.ntmps10
      go_upto_region 1 with fail
      generalize ((w.alloc (.cells #[.bool lo, .bool tl, .int .i64 s] 24)).alloc (.cells #[.bool false, .bool false, .int .i64 0] 24)) = wa at *
      have qs0 : wa.cell? ⟨w.heap.size, 0, none⟩ = some (.bool lo) := Fs.out.c 0 rfl
      have qs1 : wa.cell? ⟨w.heap.size, 1, none⟩ = some (.bool tl) := Fs.out.c 1 rfl
      have qs2 : wa.cell? ⟨w.heap.size, 2, none⟩ = some (.int .i64 s) := Fs.out.c 2 rfl
      go_upto_region 2 with (first | (go_at_call 15; refine (HI.out _).mono ?_; rintro e w1 ⟨rfl, x1⟩; have ks2 : w1.cell? ⟨w.heap.size, 2, none⟩ = some (.int .i64 s) := (Fs.out.ext x1).c 2 rfl) | (go_at_call 16; refine (HM.out _).mono ?_; rintro e wx ⟨rfl, hwx⟩; have hwy := hwx.symm; clear hwx; subst hwy))
      have Fs : Hid (HV w1 w.heap.size [.bool lo, .bool tl, .int .i64 s]) := Fs.out.ext x1
      have Ft : Hid (HV w1 (w.heap.size + 1) [.bool false, .bool false, .int .i64 0]) := Ft.out.ext x1
      have FX : Hid (Ext w w1) := FX.out.trans x1
      clear qs0 qs1 qs2 x1 HI HM HT
      have o0 : w1.cell? ⟨(w.heap.size + 1), 0, none⟩ = some (.bool false) := Ft.out.c 0 rfl
      have z0 : w1.frozen? ⟨(w.heap.size + 1), 0, none⟩ = false := Ft.out.f 0 rfl
      have o1 : w1.cell? ⟨(w.heap.size + 1), 1, none⟩ = some (.bool false) := Ft.out.c 1 rfl
      have z1 : w1.frozen? ⟨(w.heap.size + 1), 1, none⟩ = false := Ft.out.f 1 rfl
      have o2 : w1.cell? ⟨(w.heap.size + 1), 2, none⟩ = some (.int .i64 0) := Ft.out.c 2 rfl
      have z2 : w1.frozen? ⟨(w.heap.size + 1), 2, none⟩ = false := Ft.out.f 2 rfl
      go_wp2_with fail
      refine bodyPost_ret (v := .tuple #[.agg #[.bool false, .bool false, .int .i64 0], .bool false, .int .i64 1]) (by simp [results, Try.results10, go_sem, *]) rfl ⟨rfl, ?_⟩
      exact (Ext.set (Ext.set (Ext.set FX.out Lt.out _) Lt.out _) Lt.out _)
    · cases a3 : okTm n
      · have er : takeF lo tl s m n = .tuple #[.agg #[.bool false, .bool false, .int .i64 0], .bool false, .int .i64 1] := by unfold takeF; rw [a1, a2, a3]; rfl
        rw [er]
        rw [a1] at HI
        rw [a2] at HM
        rw [a3] at HT
        clear er a1 a2 a3
        go_enter Try.func10, Try.ntmps10
        go_upto_region 1 with fail
        generalize ((w.alloc (.cells #[.bool lo, .bool tl, .int .i64 s] 24)).alloc (.cells #[.bool false, .bool false, .int .i64 0] 24)) = wa at *
        have qs0 : wa.cell? ⟨w.heap.size, 0, none⟩ = some (.bool lo) := Fs.out.c 0 rfl
        have qs1 : wa.cell? ⟨w.heap.size, 1, none⟩ = some (.bool tl) := Fs.out.c 1 rfl
        have qs2 : wa.cell? ⟨w.heap.size, 2, none⟩ = some (.int .i64 s) := Fs.out.c 2 rfl
        go_upto_region 2 with (first | (go_at_call 15; refine (HI.out _).mono ?_; rintro e w1 ⟨rfl, x1⟩; have ks2 : w1.cell? ⟨w.heap.size, 2, none⟩ = some (.int .i64 s) := (Fs.out.ext x1).c 2 rfl) | (go_at_call 16; refine (HM.out _).mono ?_; rintro e wx ⟨rfl, hwx⟩; have hwy := hwx.symm; clear hwx; subst hwy) | (go_at_call 17; refine (HT.out _).mono ?_; rintro e wx ⟨rfl, hwx⟩; have hwy := hwx.symm; clear hwx; subst hwy))
        have Fs : Hid (HV w1 w.heap.size [.bool lo, .bool tl, .int .i64 s]) := Fs.out.ext x1
        have Ft : Hid (HV w1 (w.heap.size + 1) [.bool false, .bool false, .int .i64 0]) := Ft.out.ext x1
        have FX : Hid (Ext w w1) := FX.out.trans x1
        clear qs0 qs1 qs2 x1 HI HM HT
        have o0 : w1.cell? ⟨(w.heap.size + 1), 0, none⟩ = some (.bool false) := Ft.out.c 0 rfl
        have z0 : w1.frozen? ⟨(w.heap.size + 1), 0, none⟩ = false := Ft.out.f 0 rfl
        have o1 : w1.cell? ⟨(w.heap.size + 1), 1, none⟩ = some (.bool false) := Ft.out.c 1 rfl
        have z1 : w1.frozen? ⟨(w.heap.size + 1), 1, none⟩ = false := Ft.out.f 1 rfl
        have o2 : w1.cell? ⟨(w.heap.size + 1), 2, none⟩ = some (.int .i64 0) := Ft.out.c 2 rfl
        have z2 : w1.frozen? ⟨(w.heap.size + 1), 2, none⟩ = false := Ft.out.f 2 rfl
        go_wp2_with fail
        refine bodyPost_ret (v := .tuple #[.agg #[.bool false, .bool false, .int .i64 0], .bool false, .int .i64 1]) (by simp [results, Try.results10, go_sem, *]) rfl ⟨rfl, ?_⟩
        exact (Ext.set (Ext.set (Ext.set FX.out Lt.out _) Lt.out _) Lt.out _)
      · by_cases a4 : n < s
        · have er : takeF lo tl s m n = .tuple #[.agg #[.bool false, .bool false, .int .i64 0], .bool false, .int .i64 1] := by unfold takeF; rw [a1, a2, a3, if_neg (by simp; omega)]
          rw [er]
          rw [a1] at HI
          rw [a2] at HM
          rw [a3] at HT
          clear er a1 a2 a3
          go_enter Try.func10, Try.ntmps10
          go_upto_region 1 with fail
          generalize ((w.alloc (.cells #[.bool lo, .bool tl, .int .i64 s] 24)).alloc (.cells #[.bool false, .bool false, .int .i64 0] 24)) = wa at *
          have qs0 : wa.cell? ⟨w.heap.size, 0, none⟩ = some (.bool lo) := Fs.out.c 0 rfl
          have qs1 : wa.cell? ⟨w.heap.size, 1, none⟩ = some (.bool tl) := Fs.out.c 1 rfl
          have qs2 : wa.cell? ⟨w.heap.size, 2, none⟩ = some (.int .i64 s) := Fs.out.c 2 rfl
          go_upto_region 2 with (first | (go_at_call 15; refine (HI.out _).mono ?_; rintro e w1 ⟨rfl, x1⟩; have ks2 : w1.cell? ⟨w.heap.size, 2, none⟩ = some (.int .i64 s) := (Fs.out.ext x1).c 2 rfl) | (go_at_call 16; refine (HM.out _).mono ?_; rintro e wx ⟨rfl, hwx⟩; have hwy := hwx.symm; clear hwx; subst hwy) | (go_at_call 17; refine (HT.out _).mono ?_; rintro e wx ⟨rfl, hwx⟩; have hwy := hwx.symm; clear hwx; subst hwy))
          have Fs : Hid (HV w1 w.heap.size [.bool lo, .bool tl, .int .i64 s]) := Fs.out.ext x1
          have Ft : Hid (HV w1 (w.heap.size + 1) [.bool false, .bool false, .int .i64 0]) := Ft.out.ext x1
          have FX : Hid (Ext w w1) := FX.out.trans x1
          clear qs0 qs1 qs2 x1 HI HM HT
          clear ks2
          have o0 : w1.cell? ⟨(w.heap.size + 1), 0, none⟩ = some (.bool false) := Ft.out.c 0 rfl
          have z0 : w1.frozen? ⟨(w.heap.size + 1), 0, none⟩ = false := Ft.out.f 0 rfl
          have o1 : w1.cell? ⟨(w.heap.size + 1), 1, none⟩ = some (.bool false) := Ft.out.c 1 rfl
          have z1 : w1.frozen? ⟨(w.heap.size + 1), 1, none⟩ = false := Ft.out.f 1 rfl
          have o2 : w1.cell? ⟨(w.heap.size + 1), 2, none⟩ = some (.int .i64 0) := Ft.out.c 2 rfl
          have z2 : w1.frozen? ⟨(w.heap.size + 1), 2, none⟩ = false := Ft.out.f 2 rfl
          go_wp2_with fail
          refine bodyPost_ret (v := .tuple #[.agg #[.bool false, .bool false, .int .i64 0], .bool false, .int .i64 1]) (by simp [results, Try.results10, go_sem, *]) rfl ⟨rfl, ?_⟩
          exact (Ext.set (Ext.set (Ext.set FX.out Lt.out _) Lt.out _) Lt.out _)
        · have b4 : s ≤ n := by omega
          rw [takeF_good a1 a2 a3 b4]
          obtain ⟨⟨l1, l2⟩, _⟩ := okF_bounds a1
          obtain ⟨n1, n2⟩ := okTm_iff.1 a3
          have HK : Hid (∀ w, Calls Try.prog 19 #[.agg #[.bool lo, .bool tl, .int .i64 s], .int .i64 n] w fun e w' => e = .returned (fallV lo tl s n) ∧ Ext w w') := fun w => fallen_any lo tl s n w (by omega) (by omega)
          have HW : Hid (∀ w, Calls Try.prog 18 #[.int .i64 m, .agg #[.int .i64 2451662, .int .i64 4903325]] w fun e w' => e = .returned (.int .i64 (whr m 2451662 4903325)) ∧ Ext w w') := where_any m 2451662 4903325
          rw [a1] at HI
          rw [a2] at HM
          rw [a3] at HT
          have a5 : decide (n < s) = false := by simp; omega
          clear a1 a2 a3 b4 l1 l2 n1 n2 a4
          by_cases b1 : 4903325 < m
          · rw [if_pos b1]
            have er : whr m 2451662 4903325 = 2 := by unfold whr; rw [if_neg (by omega), if_pos b1]
            rw [er] at HW
            clear er b1 HK
            go_enter Try.func10, Try.ntmps10
            go_upto_region 1 with fail
            generalize ((w.alloc (.cells #[.bool lo, .bool tl, .int .i64 s] 24)).alloc (.cells #[.bool false, .bool false, .int .i64 0] 24)) = wa at *
            have qs0 : wa.cell? ⟨w.heap.size, 0, none⟩ = some (.bool lo) := Fs.out.c 0 rfl
            have qs1 : wa.cell? ⟨w.heap.size, 1, none⟩ = some (.bool tl) := Fs.out.c 1 rfl
            have qs2 : wa.cell? ⟨w.heap.size, 2, none⟩ = some (.int .i64 s) := Fs.out.c 2 rfl
            go_upto_region 3 with (first | (go_at_call 15; refine (HI.out _).mono ?_; rintro e w1 ⟨rfl, x1⟩; have ks2 : w1.cell? ⟨w.heap.size, 2, none⟩ = some (.int .i64 s) := (Fs.out.ext x1).c 2 rfl) | (go_at_call 16; refine (HM.out _).mono ?_; rintro e wx ⟨rfl, hwx⟩; have hwy := hwx.symm; clear hwx; subst hwy) | (go_at_call 17; refine (HT.out _).mono ?_; rintro e wx ⟨rfl, hwx⟩; have hwy := hwx.symm; clear hwx; subst hwy))
            have Fs : Hid (HV w1 w.heap.size [.bool lo, .bool tl, .int .i64 s]) := Fs.out.ext x1
            have Ft : Hid (HV w1 (w.heap.size + 1) [.bool false, .bool false, .int .i64 0]) := Ft.out.ext x1
            have FX : Hid (Ext w w1) := FX.out.trans x1
            clear qs0 qs1 qs2 x1 HI HM HT
            clear ks2
            go_upto_region 4 with (first | (go_at_call 18; refine (HW.out _).mono ?_; rintro e w2 ⟨rfl, x2⟩))
            have Fs : Hid (HV w2 w.heap.size [.bool lo, .bool tl, .int .i64 s]) := Fs.out.ext x2
            have Ft : Hid (HV w2 (w.heap.size + 1) [.bool false, .bool false, .int .i64 0]) := Ft.out.ext x2
            have FX : Hid (Ext w w2) := FX.out.trans x2
            clear x2 HW
            have o0 : w2.cell? ⟨(w.heap.size + 1), 0, none⟩ = some (.bool false) := Ft.out.c 0 rfl
            have z0 : w2.frozen? ⟨(w.heap.size + 1), 0, none⟩ = false := Ft.out.f 0 rfl
            have o1 : w2.cell? ⟨(w.heap.size + 1), 1, none⟩ = some (.bool false) := Ft.out.c 1 rfl
            have z1 : w2.frozen? ⟨(w.heap.size + 1), 1, none⟩ = false := Ft.out.f 1 rfl
            have o2 : w2.cell? ⟨(w.heap.size + 1), 2, none⟩ = some (.int .i64 0) := Ft.out.c 2 rfl
            have z2 : w2.frozen? ⟨(w.heap.size + 1), 2, none⟩ = false := Ft.out.f 2 rfl
            go_wp2_with fail
            refine bodyPost_ret (v := .tuple #[.agg #[.bool false, .bool false, .int .i64 0], .bool false, .int .i64 0]) (by simp [results, Try.results10, go_sem, *]) rfl ⟨rfl, ?_⟩
            exact (Ext.set (Ext.set (Ext.set FX.out Lt.out _) Lt.out _) Lt.out _)
          · rw [if_neg b1]
            by_cases b2 : m < 2451662
            · rw [if_pos b2]
              have er : whr m 2451662 4903325 = 0 := by unfold whr; rw [if_pos b2]
              rw [er] at HW
              clear er b1 b2
              unfold fallV at HK
              by_cases b3 : lo = false
              · rw [if_pos b3]
                rw [if_pos b3] at HK
                clear b3
                go_enter Try.func10, Try.ntmps10
                go_upto_region 1 with fail
                generalize ((w.alloc (.cells #[.bool lo, .bool tl, .int .i64 s] 24)).alloc (.cells #[.bool false, .bool false, .int .i64 0] 24)) = wa at *
                have qs0 : wa.cell? ⟨w.heap.size, 0, none⟩ = some (.bool lo) := Fs.out.c 0 rfl
                have qs1 : wa.cell? ⟨w.heap.size, 1, none⟩ = some (.bool tl) := Fs.out.c 1 rfl
                have qs2 : wa.cell? ⟨w.heap.size, 2, none⟩ = some (.int .i64 s) := Fs.out.c 2 rfl
                go_upto_region 3 with (first | (go_at_call 15; refine (HI.out _).mono ?_; rintro e w1 ⟨rfl, x1⟩; have ks2 : w1.cell? ⟨w.heap.size, 2, none⟩ = some (.int .i64 s) := (Fs.out.ext x1).c 2 rfl) | (go_at_call 16; refine (HM.out _).mono ?_; rintro e wx ⟨rfl, hwx⟩; have hwy := hwx.symm; clear hwx; subst hwy) | (go_at_call 17; refine (HT.out _).mono ?_; rintro e wx ⟨rfl, hwx⟩; have hwy := hwx.symm; clear hwx; subst hwy))
                have Fs : Hid (HV w1 w.heap.size [.bool lo, .bool tl, .int .i64 s]) := Fs.out.ext x1
                have Ft : Hid (HV w1 (w.heap.size + 1) [.bool false, .bool false, .int .i64 0]) := Ft.out.ext x1
                have FX : Hid (Ext w w1) := FX.out.trans x1
                clear qs0 qs1 qs2 x1 HI HM HT
                clear ks2
                go_upto_region 4 with (first | (go_at_call 18; refine (HW.out _).mono ?_; rintro e w2 ⟨rfl, x2⟩))
                have Fs : Hid (HV w2 w.heap.size [.bool lo, .bool tl, .int .i64 s]) := Fs.out.ext x2
                have Ft : Hid (HV w2 (w.heap.size + 1) [.bool false, .bool false, .int .i64 0]) := Ft.out.ext x2
                have FX : Hid (Ext w w2) := FX.out.trans x2
                clear x2 HW
                have qs0 : w2.cell? ⟨w.heap.size, 0, none⟩ = some (.bool lo) := Fs.out.c 0 rfl
                have qs1 : w2.cell? ⟨w.heap.size, 1, none⟩ = some (.bool tl) := Fs.out.c 1 rfl
                have qs2 : w2.cell? ⟨w.heap.size, 2, none⟩ = some (.int .i64 s) := Fs.out.c 2 rfl
                go_upto_region 8 with (first | (go_at_call 19; refine (HK.out _).mono ?_; rintro e w3 ⟨rfl, x3⟩; have kt0 : w3.cell? ⟨(w.heap.size + 1), 0, none⟩ = some (.bool false) := (Ft.out.ext x3).c 0 rfl; have zt0 : w3.frozen? ⟨(w.heap.size + 1), 0, none⟩ = false := (Ft.out.ext x3).f 0 rfl; have kt1 : w3.cell? ⟨(w.heap.size + 1), 1, none⟩ = some (.bool false) := (Ft.out.ext x3).c 1 rfl; have zt1 : w3.frozen? ⟨(w.heap.size + 1), 1, none⟩ = false := (Ft.out.ext x3).f 1 rfl; have kt2 : w3.cell? ⟨(w.heap.size + 1), 2, none⟩ = some (.int .i64 0) := (Ft.out.ext x3).c 2 rfl; have zt2 : w3.frozen? ⟨(w.heap.size + 1), 2, none⟩ = false := (Ft.out.ext x3).f 2 rfl))
                have Fs : Hid (HV w3 w.heap.size [.bool lo, .bool tl, .int .i64 s]) := Fs.out.ext x3
                have Ft : Hid (HV w3 (w.heap.size + 1) [.bool false, .bool false, .int .i64 0]) := Ft.out.ext x3
                have FX : Hid (Ext w w3) := FX.out.trans x3
                clear qs0 qs1 qs2 x3 HK kt0 kt1 kt2 zt0 zt1 zt2
                have Fs : Hid (HV (((w3.setCell ⟨(w.heap.size + 1), 0, none⟩ (.bool true)).setCell ⟨(w.heap.size + 1), 1, none⟩ (.bool false)).setCell ⟨(w.heap.size + 1), 2, none⟩ (.int .i64 n)) w.heap.size [.bool lo, .bool tl, .int .i64 s]) := (((Fs.out.far (by omega)).far (by omega)).far (by omega))
                have Ft : Hid (HV (((w3.setCell ⟨(w.heap.size + 1), 0, none⟩ (.bool true)).setCell ⟨(w.heap.size + 1), 1, none⟩ (.bool false)).setCell ⟨(w.heap.size + 1), 2, none⟩ (.int .i64 n)) (w.heap.size + 1) [.bool true, .bool false, .int .i64 n]) := (((Ft.out.set 0 (.bool true)).set 1 (.bool false)).set 2 (.int .i64 n))
                have FX : Hid (Ext w (((w3.setCell ⟨(w.heap.size + 1), 0, none⟩ (.bool true)).setCell ⟨(w.heap.size + 1), 1, none⟩ (.bool false)).setCell ⟨(w.heap.size + 1), 2, none⟩ (.int .i64 n))) := (((FX.out.set (p := ⟨(w.heap.size + 1), 0, none⟩) Lt.out (.bool true)).set (p := ⟨(w.heap.size + 1), 1, none⟩) Lt.out (.bool false)).set (p := ⟨(w.heap.size + 1), 2, none⟩) Lt.out (.int .i64 n))
                generalize (((w3.setCell ⟨(w.heap.size + 1), 0, none⟩ (.bool true)).setCell ⟨(w.heap.size + 1), 1, none⟩ (.bool false)).setCell ⟨(w.heap.size + 1), 2, none⟩ (.int .i64 n)) = wx1 at *
                have qt0 : wx1.cell? ⟨(w.heap.size + 1), 0, none⟩ = some (.bool true) := Ft.out.c 0 rfl
                have qt1 : wx1.cell? ⟨(w.heap.size + 1), 1, none⟩ = some (.bool false) := Ft.out.c 1 rfl
                have qt2 : wx1.cell? ⟨(w.heap.size + 1), 2, none⟩ = some (.int .i64 n) := Ft.out.c 2 rfl
                have o0 : wx1.cell? ⟨(w.heap.size + 1), 0, none⟩ = some (.bool true) := Ft.out.c 0 rfl
                have z0 : wx1.frozen? ⟨(w.heap.size + 1), 0, none⟩ = false := Ft.out.f 0 rfl
                have o1 : wx1.cell? ⟨(w.heap.size + 1), 1, none⟩ = some (.bool false) := Ft.out.c 1 rfl
                have z1 : wx1.frozen? ⟨(w.heap.size + 1), 1, none⟩ = false := Ft.out.f 1 rfl
                have o2 : wx1.cell? ⟨(w.heap.size + 1), 2, none⟩ = some (.int .i64 n) := Ft.out.c 2 rfl
                have z2 : wx1.frozen? ⟨(w.heap.size + 1), 2, none⟩ = false := Ft.out.f 2 rfl
                go_wp2_with fail
                refine bodyPost_ret (v := .tuple #[.agg #[.bool true, .bool false, .int .i64 n], .bool false, .int .i64 0]) (by simp [results, Try.results10, go_sem, *]) rfl ⟨rfl, ?_⟩
                exact (Ext.set (Ext.set (Ext.set FX.out Lt.out _) Lt.out _) Lt.out _)
              · rw [if_neg b3]
                rw [if_neg b3] at HK
                clear b3
                by_cases b5 : tl = false ∧ 100 ≤ n - s
                · rw [if_pos b5]
                  rw [if_pos b5] at HK
                  clear b5
                  go_enter Try.func10, Try.ntmps10
                  go_upto_region 1 with fail
                  generalize ((w.alloc (.cells #[.bool lo, .bool tl, .int .i64 s] 24)).alloc (.cells #[.bool false, .bool false, .int .i64 0] 24)) = wa at *
                  have qs0 : wa.cell? ⟨w.heap.size, 0, none⟩ = some (.bool lo) := Fs.out.c 0 rfl
                  have qs1 : wa.cell? ⟨w.heap.size, 1, none⟩ = some (.bool tl) := Fs.out.c 1 rfl
                  have qs2 : wa.cell? ⟨w.heap.size, 2, none⟩ = some (.int .i64 s) := Fs.out.c 2 rfl
                  go_upto_region 3 with (first | (go_at_call 15; refine (HI.out _).mono ?_; rintro e w1 ⟨rfl, x1⟩; have ks2 : w1.cell? ⟨w.heap.size, 2, none⟩ = some (.int .i64 s) := (Fs.out.ext x1).c 2 rfl) | (go_at_call 16; refine (HM.out _).mono ?_; rintro e wx ⟨rfl, hwx⟩; have hwy := hwx.symm; clear hwx; subst hwy) | (go_at_call 17; refine (HT.out _).mono ?_; rintro e wx ⟨rfl, hwx⟩; have hwy := hwx.symm; clear hwx; subst hwy))
                  have Fs : Hid (HV w1 w.heap.size [.bool lo, .bool tl, .int .i64 s]) := Fs.out.ext x1
                  have Ft : Hid (HV w1 (w.heap.size + 1) [.bool false, .bool false, .int .i64 0]) := Ft.out.ext x1
                  have FX : Hid (Ext w w1) := FX.out.trans x1
                  clear qs0 qs1 qs2 x1 HI HM HT
                  clear ks2
                  go_upto_region 4 with (first | (go_at_call 18; refine (HW.out _).mono ?_; rintro e w2 ⟨rfl, x2⟩))
                  have Fs : Hid (HV w2 w.heap.size [.bool lo, .bool tl, .int .i64 s]) := Fs.out.ext x2
                  have Ft : Hid (HV w2 (w.heap.size + 1) [.bool false, .bool false, .int .i64 0]) := Ft.out.ext x2
                  have FX : Hid (Ext w w2) := FX.out.trans x2
                  clear x2 HW
                  have qs0 : w2.cell? ⟨w.heap.size, 0, none⟩ = some (.bool lo) := Fs.out.c 0 rfl
                  have qs1 : w2.cell? ⟨w.heap.size, 1, none⟩ = some (.bool tl) := Fs.out.c 1 rfl
                  have qs2 : w2.cell? ⟨w.heap.size, 2, none⟩ = some (.int .i64 s) := Fs.out.c 2 rfl
                  go_upto_region 8 with (first | (go_at_call 19; refine (HK.out _).mono ?_; rintro e w3 ⟨rfl, x3⟩; have kt0 : w3.cell? ⟨(w.heap.size + 1), 0, none⟩ = some (.bool false) := (Ft.out.ext x3).c 0 rfl; have zt0 : w3.frozen? ⟨(w.heap.size + 1), 0, none⟩ = false := (Ft.out.ext x3).f 0 rfl; have kt1 : w3.cell? ⟨(w.heap.size + 1), 1, none⟩ = some (.bool false) := (Ft.out.ext x3).c 1 rfl; have zt1 : w3.frozen? ⟨(w.heap.size + 1), 1, none⟩ = false := (Ft.out.ext x3).f 1 rfl; have kt2 : w3.cell? ⟨(w.heap.size + 1), 2, none⟩ = some (.int .i64 0) := (Ft.out.ext x3).c 2 rfl; have zt2 : w3.frozen? ⟨(w.heap.size + 1), 2, none⟩ = false := (Ft.out.ext x3).f 2 rfl))
                  have Fs : Hid (HV w3 w.heap.size [.bool lo, .bool tl, .int .i64 s]) := Fs.out.ext x3
                  have Ft : Hid (HV w3 (w.heap.size + 1) [.bool false, .bool false, .int .i64 0]) := Ft.out.ext x3
                  have FX : Hid (Ext w w3) := FX.out.trans x3
                  clear qs0 qs1 qs2 x3 HK kt0 kt1 kt2 zt0 zt1 zt2
                  have Fs : Hid (HV (((w3.setCell ⟨(w.heap.size + 1), 0, none⟩ (.bool true)).setCell ⟨(w.heap.size + 1), 1, none⟩ (.bool true)).setCell ⟨(w.heap.size + 1), 2, none⟩ (.int .i64 s)) w.heap.size [.bool lo, .bool tl, .int .i64 s]) := (((Fs.out.far (by omega)).far (by omega)).far (by omega))
                  have Ft : Hid (HV (((w3.setCell ⟨(w.heap.size + 1), 0, none⟩ (.bool true)).setCell ⟨(w.heap.size + 1), 1, none⟩ (.bool true)).setCell ⟨(w.heap.size + 1), 2, none⟩ (.int .i64 s)) (w.heap.size + 1) [.bool true, .bool true, .int .i64 s]) := (((Ft.out.set 0 (.bool true)).set 1 (.bool true)).set 2 (.int .i64 s))
                  have FX : Hid (Ext w (((w3.setCell ⟨(w.heap.size + 1), 0, none⟩ (.bool true)).setCell ⟨(w.heap.size + 1), 1, none⟩ (.bool true)).setCell ⟨(w.heap.size + 1), 2, none⟩ (.int .i64 s))) := (((FX.out.set (p := ⟨(w.heap.size + 1), 0, none⟩) Lt.out (.bool true)).set (p := ⟨(w.heap.size + 1), 1, none⟩) Lt.out (.bool true)).set (p := ⟨(w.heap.size + 1), 2, none⟩) Lt.out (.int .i64 s))
                  generalize (((w3.setCell ⟨(w.heap.size + 1), 0, none⟩ (.bool true)).setCell ⟨(w.heap.size + 1), 1, none⟩ (.bool true)).setCell ⟨(w.heap.size + 1), 2, none⟩ (.int .i64 s)) = wx1 at *
                  have qt0 : wx1.cell? ⟨(w.heap.size + 1), 0, none⟩ = some (.bool true) := Ft.out.c 0 rfl
                  have qt1 : wx1.cell? ⟨(w.heap.size + 1), 1, none⟩ = some (.bool true) := Ft.out.c 1 rfl
                  have qt2 : wx1.cell? ⟨(w.heap.size + 1), 2, none⟩ = some (.int .i64 s) := Ft.out.c 2 rfl
                  have o0 : wx1.cell? ⟨(w.heap.size + 1), 0, none⟩ = some (.bool true) := Ft.out.c 0 rfl
                  have z0 : wx1.frozen? ⟨(w.heap.size + 1), 0, none⟩ = false := Ft.out.f 0 rfl
                  have o1 : wx1.cell? ⟨(w.heap.size + 1), 1, none⟩ = some (.bool true) := Ft.out.c 1 rfl
                  have z1 : wx1.frozen? ⟨(w.heap.size + 1), 1, none⟩ = false := Ft.out.f 1 rfl
                  have o2 : wx1.cell? ⟨(w.heap.size + 1), 2, none⟩ = some (.int .i64 s) := Ft.out.c 2 rfl
                  have z2 : wx1.frozen? ⟨(w.heap.size + 1), 2, none⟩ = false := Ft.out.f 2 rfl
                  go_wp2_with fail
                  refine bodyPost_ret (v := .tuple #[.agg #[.bool true, .bool true, .int .i64 s], .bool true, .int .i64 0]) (by simp [results, Try.results10, go_sem, *]) rfl ⟨rfl, ?_⟩
                  exact (Ext.set (Ext.set (Ext.set FX.out Lt.out _) Lt.out _) Lt.out _)
                · rw [if_neg b5]
                  rw [if_neg b5] at HK
                  clear b5
                  go_enter Try.func10, Try.ntmps10
                  go_upto_region 1 with fail
                  generalize ((w.alloc (.cells #[.bool lo, .bool tl, .int .i64 s] 24)).alloc (.cells #[.bool false, .bool false, .int .i64 0] 24)) = wa at *
                  have qs0 : wa.cell? ⟨w.heap.size, 0, none⟩ = some (.bool lo) := Fs.out.c 0 rfl
                  have qs1 : wa.cell? ⟨w.heap.size, 1, none⟩ = some (.bool tl) := Fs.out.c 1 rfl
                  have qs2 : wa.cell? ⟨w.heap.size, 2, none⟩ = some (.int .i64 s) := Fs.out.c 2 rfl
                  go_upto_region 3 with (first | (go_at_call 15; refine (HI.out _).mono ?_; rintro e w1 ⟨rfl, x1⟩; have ks2 : w1.cell? ⟨w.heap.size, 2, none⟩ = some (.int .i64 s) := (Fs.out.ext x1).c 2 rfl) | (go_at_call 16; refine (HM.out _).mono ?_; rintro e wx ⟨rfl, hwx⟩; have hwy := hwx.symm; clear hwx; subst hwy) | (go_at_call 17; refine (HT.out _).mono ?_; rintro e wx ⟨rfl, hwx⟩; have hwy := hwx.symm; clear hwx; subst hwy))
                  have Fs : Hid (HV w1 w.heap.size [.bool lo, .bool tl, .int .i64 s]) := Fs.out.ext x1
                  have Ft : Hid (HV w1 (w.heap.size + 1) [.bool false, .bool false, .int .i64 0]) := Ft.out.ext x1
                  have FX : Hid (Ext w w1) := FX.out.trans x1
                  clear qs0 qs1 qs2 x1 HI HM HT
                  clear ks2
                  go_upto_region 4 with (first | (go_at_call 18; refine (HW.out _).mono ?_; rintro e w2 ⟨rfl, x2⟩))
                  have Fs : Hid (HV w2 w.heap.size [.bool lo, .bool tl, .int .i64 s]) := Fs.out.ext x2
                  have Ft : Hid (HV w2 (w.heap.size + 1) [.bool false, .bool false, .int .i64 0]) := Ft.out.ext x2
                  have FX : Hid (Ext w w2) := FX.out.trans x2
                  clear x2 HW
                  have qs0 : w2.cell? ⟨w.heap.size, 0, none⟩ = some (.bool lo) := Fs.out.c 0 rfl
                  have qs1 : w2.cell? ⟨w.heap.size, 1, none⟩ = some (.bool tl) := Fs.out.c 1 rfl
                  have qs2 : w2.cell? ⟨w.heap.size, 2, none⟩ = some (.int .i64 s) := Fs.out.c 2 rfl
                  go_upto_region 8 with (first | (go_at_call 19; refine (HK.out _).mono ?_; rintro e w3 ⟨rfl, x3⟩; have kt0 : w3.cell? ⟨(w.heap.size + 1), 0, none⟩ = some (.bool false) := (Ft.out.ext x3).c 0 rfl; have zt0 : w3.frozen? ⟨(w.heap.size + 1), 0, none⟩ = false := (Ft.out.ext x3).f 0 rfl; have kt1 : w3.cell? ⟨(w.heap.size + 1), 1, none⟩ = some (.bool false) := (Ft.out.ext x3).c 1 rfl; have zt1 : w3.frozen? ⟨(w.heap.size + 1), 1, none⟩ = false := (Ft.out.ext x3).f 1 rfl; have kt2 : w3.cell? ⟨(w.heap.size + 1), 2, none⟩ = some (.int .i64 0) := (Ft.out.ext x3).c 2 rfl; have zt2 : w3.frozen? ⟨(w.heap.size + 1), 2, none⟩ = false := (Ft.out.ext x3).f 2 rfl))
                  have Fs : Hid (HV w3 w.heap.size [.bool lo, .bool tl, .int .i64 s]) := Fs.out.ext x3
                  have Ft : Hid (HV w3 (w.heap.size + 1) [.bool false, .bool false, .int .i64 0]) := Ft.out.ext x3
                  have FX : Hid (Ext w w3) := FX.out.trans x3
                  clear qs0 qs1 qs2 x3 HK kt0 kt1 kt2 zt0 zt1 zt2
                  have Fs : Hid (HV (((w3.setCell ⟨(w.heap.size + 1), 0, none⟩ (.bool lo)).setCell ⟨(w.heap.size + 1), 1, none⟩ (.bool tl)).setCell ⟨(w.heap.size + 1), 2, none⟩ (.int .i64 s)) w.heap.size [.bool lo, .bool tl, .int .i64 s]) := (((Fs.out.far (by omega)).far (by omega)).far (by omega))
                  have Ft : Hid (HV (((w3.setCell ⟨(w.heap.size + 1), 0, none⟩ (.bool lo)).setCell ⟨(w.heap.size + 1), 1, none⟩ (.bool tl)).setCell ⟨(w.heap.size + 1), 2, none⟩ (.int .i64 s)) (w.heap.size + 1) [.bool lo, .bool tl, .int .i64 s]) := (((Ft.out.set 0 (.bool lo)).set 1 (.bool tl)).set 2 (.int .i64 s))
                  have FX : Hid (Ext w (((w3.setCell ⟨(w.heap.size + 1), 0, none⟩ (.bool lo)).setCell ⟨(w.heap.size + 1), 1, none⟩ (.bool tl)).setCell ⟨(w.heap.size + 1), 2, none⟩ (.int .i64 s))) := (((FX.out.set (p := ⟨(w.heap.size + 1), 0, none⟩) Lt.out (.bool lo)).set (p := ⟨(w.heap.size + 1), 1, none⟩) Lt.out (.bool tl)).set (p := ⟨(w.heap.size + 1), 2, none⟩) Lt.out (.int .i64 s))
                  generalize (((w3.setCell ⟨(w.heap.size + 1), 0, none⟩ (.bool lo)).setCell ⟨(w.heap.size + 1), 1, none⟩ (.bool tl)).setCell ⟨(w.heap.size + 1), 2, none⟩ (.int .i64 s)) = wx1 at *
                  have qt0 : wx1.cell? ⟨(w.heap.size + 1), 0, none⟩ = some (.bool lo) := Ft.out.c 0 rfl
                  have qt1 : wx1.cell? ⟨(w.heap.size + 1), 1, none⟩ = some (.bool tl) := Ft.out.c 1 rfl
                  have qt2 : wx1.cell? ⟨(w.heap.size + 1), 2, none⟩ = some (.int .i64 s) := Ft.out.c 2 rfl
                  have o0 : wx1.cell? ⟨(w.heap.size + 1), 0, none⟩ = some (.bool lo) := Ft.out.c 0 rfl
                  have z0 : wx1.frozen? ⟨(w.heap.size + 1), 0, none⟩ = false := Ft.out.f 0 rfl
                  have o1 : wx1.cell? ⟨(w.heap.size + 1), 1, none⟩ = some (.bool tl) := Ft.out.c 1 rfl
                  have z1 : wx1.frozen? ⟨(w.heap.size + 1), 1, none⟩ = false := Ft.out.f 1 rfl
                  have o2 : wx1.cell? ⟨(w.heap.size + 1), 2, none⟩ = some (.int .i64 s) := Ft.out.c 2 rfl
                  have z2 : wx1.frozen? ⟨(w.heap.size + 1), 2, none⟩ = false := Ft.out.f 2 rfl
                  go_wp2_with fail
                  refine bodyPost_ret (v := .tuple #[.agg #[.bool lo, .bool tl, .int .i64 s], .bool false, .int .i64 0]) (by simp [results, Try.results10, go_sem, *]) rfl ⟨rfl, ?_⟩
                  exact (Ext.set (Ext.set (Ext.set FX.out Lt.out _) Lt.out _) Lt.out _)
            · rw [if_neg b2]
              have er : whr m 2451662 4903325 = 1 := by unfold whr; rw [if_neg b2, if_neg b1]
              rw [er] at HW
              clear er b1 b2 HK
              go_enter Try.func10, Try.ntmps10
              go_upto_region 1 with fail
              generalize ((w.alloc (.cells #[.bool lo, .bool tl, .int .i64 s] 24)).alloc (.cells #[.bool false, .bool false, .int .i64 0] 24)) = wa at *
              have qs0 : wa.cell? ⟨w.heap.size, 0, none⟩ = some (.bool lo) := Fs.out.c 0 rfl
              have qs1 : wa.cell? ⟨w.heap.size, 1, none⟩ = some (.bool tl) := Fs.out.c 1 rfl
              have qs2 : wa.cell? ⟨w.heap.size, 2, none⟩ = some (.int .i64 s) := Fs.out.c 2 rfl
              go_upto_region 3 with (first | (go_at_call 15; refine (HI.out _).mono ?_; rintro e w1 ⟨rfl, x1⟩; have ks2 : w1.cell? ⟨w.heap.size, 2, none⟩ = some (.int .i64 s) := (Fs.out.ext x1).c 2 rfl) | (go_at_call 16; refine (HM.out _).mono ?_; rintro e wx ⟨rfl, hwx⟩; have hwy := hwx.symm; clear hwx; subst hwy) | (go_at_call 17; refine (HT.out _).mono ?_; rintro e wx ⟨rfl, hwx⟩; have hwy := hwx.symm; clear hwx; subst hwy))
              have Fs : Hid (HV w1 w.heap.size [.bool lo, .bool tl, .int .i64 s]) := Fs.out.ext x1
              have Ft : Hid (HV w1 (w.heap.size + 1) [.bool false, .bool false, .int .i64 0]) := Ft.out.ext x1
              have FX : Hid (Ext w w1) := FX.out.trans x1
              clear qs0 qs1 qs2 x1 HI HM HT
              clear ks2
              go_upto_region 4 with (first | (go_at_call 18; refine (HW.out _).mono ?_; rintro e w2 ⟨rfl, x2⟩))
              have Fs : Hid (HV w2 w.heap.size [.bool lo, .bool tl, .int .i64 s]) := Fs.out.ext x2
              have Ft : Hid (HV w2 (w.heap.size + 1) [.bool false, .bool false, .int .i64 0]) := Ft.out.ext x2
              have FX : Hid (Ext w w2) := FX.out.trans x2
              clear x2 HW
              have qs0 : w2.cell? ⟨w.heap.size, 0, none⟩ = some (.bool lo) := Fs.out.c 0 rfl
              have qs1 : w2.cell? ⟨w.heap.size, 1, none⟩ = some (.bool tl) := Fs.out.c 1 rfl
              have qs2 : w2.cell? ⟨w.heap.size, 2, none⟩ = some (.int .i64 s) := Fs.out.c 2 rfl
              have o0 : w2.cell? ⟨(w.heap.size + 1), 0, none⟩ = some (.bool false) := Ft.out.c 0 rfl
              have z0 : w2.frozen? ⟨(w.heap.size + 1), 0, none⟩ = false := Ft.out.f 0 rfl
              have o1 : w2.cell? ⟨(w.heap.size + 1), 1, none⟩ = some (.bool false) := Ft.out.c 1 rfl
              have z1 : w2.frozen? ⟨(w.heap.size + 1), 1, none⟩ = false := Ft.out.f 1 rfl
              have o2 : w2.cell? ⟨(w.heap.size + 1), 2, none⟩ = some (.int .i64 0) := Ft.out.c 2 rfl
              have z2 : w2.frozen? ⟨(w.heap.size + 1), 2, none⟩ = false := Ft.out.f 2 rfl
              go_wp2_with fail
              refine bodyPost_ret (v := .tuple #[.agg #[.bool lo, .bool tl, .int .i64 s], .bool false, .int .i64 0]) (by simp [results, Try.results10, go_sem, *]) rfl ⟨rfl, ?_⟩
              exact (Ext.set (Ext.set (Ext.set FX.out Lt.out _) Lt.out _) Lt.out _)
end Go.Proofs.Ytleiiiagdkcckaa
