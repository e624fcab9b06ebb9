/- quat: Turn, Back, Conj. -/
import Derived.Test.YtoeecldhbabmbaaGreatMg13
open Go.Value renaming int → J, agg → zG
open Go.IntKind renaming i64 → zq
open Go.Ending renaming returned → zR
open Go.Proofs.Tryz renaming prog → zP
namespace Go.Proofs.YtoeecldhbabmbaaGreat
open Go.RowKit Go.Shelf
set_option maxRecDepth 20000 in
set_option maxHeartbeats 8000000 in
theorem qTurn_raw (a b c d x y z E1 E2 E3 ee : Int) (w : World)
    (HF : Hid (∀ w', Calls zP 89 #[zG #[J zq a, J zq b, J zq c, J zq d]] w' fun e w'' => e = zR (zG #[J zq a, J zq b, J zq c, J zq d]) ∧ Ext w' w''))
    (HT : Hid (∀ w', Calls zP 88 #[zG #[J zq a, J zq b, J zq c, J zq d], zG #[J zq x, J zq y, J zq z]] w' fun e w'' => e = zR (.tuple #[zG #[J zq E1, J zq E2, J zq E3], J zq ee]) ∧ Ext w' w'')) :
    Calls zP 47 #[zG #[J zq a, J zq b, J zq c, J zq d], zG #[J zq x, J zq y, J zq z]] w fun e w' => e = zR (.tuple #[zG #[J zq E1, J zq E2, J zq E3], J zq ee]) ∧ Ext w w' := by
  have QB : Hid (H4 (((w.alloc (.cells #[J zq a, J zq b, J zq c, J zq d] 24)).alloc (.cells #[J zq x, J zq y, J zq z] 28)).alloc (.cells #[J zq 0, J zq 0, J zq 0] 28)) w.heap.size (J zq a) (J zq b) (J zq c) (J zq d)) := H4.alloc (H4.alloc (h4_at rfl) _) _
  have VB : Hid (H3 (((w.alloc (.cells #[J zq a, J zq b, J zq c, J zq d] 24)).alloc (.cells #[J zq x, J zq y, J zq z] 28)).alloc (.cells #[J zq 0, J zq 0, J zq 0] 28)) (w.heap.size + 1) (J zq x) (J zq y) (J zq z)) := H3.alloc (h3_at (by simp)) _
  have RB : Hid (H3 (((w.alloc (.cells #[J zq a, J zq b, J zq c, J zq d] 24)).alloc (.cells #[J zq x, J zq y, J zq z] 28)).alloc (.cells #[J zq 0, J zq 0, J zq 0] 28)) (w.heap.size + 1 + 1) (J zq 0) (J zq 0) (J zq 0)) := h3_at (by simp)
  have XB : Ext w (((w.alloc (.cells #[J zq a, J zq b, J zq c, J zq d] 24)).alloc (.cells #[J zq x, J zq y, J zq z] 28)).alloc (.cells #[J zq 0, J zq 0, J zq 0] 28)) := (((Ext.refl _).alloc _).alloc _).alloc _
  obtain ⟨s0, s1, s2, s3, s4, s5, s6, s7, s8⟩ := QB.out
  obtain ⟨t0, t1, t2, t3, t4, t5, t6⟩ := VB.out
  obtain ⟨r0, r1, r2, r3, r4, r5, r6⟩ := RB.out
  have ne1 : w.heap.size ≠ w.heap.size + 1 + 1 := by omega
  have ne2 : w.heap.size + 1 + 1 ≠ w.heap.size := by omega
  have ne3 : w.heap.size + 1 ≠ w.heap.size + 1 + 1 := by omega
  have ne4 : w.heap.size + 1 + 1 ≠ w.heap.size + 1 := by omega
  go_enter Tryz.func47, Tryz.ntmps47
  go_upto_region 1 with fail
  generalize (((w.alloc (.cells #[J zq a, J zq b, J zq c, J zq d] 24)).alloc (.cells #[J zq x, J zq y, J zq z] 28)).alloc (.cells #[J zq 0, J zq 0, J zq 0] 28)) = wB at *
  go_region_held (fun w' => w'.cell? ⟨w.heap.size, 0, none⟩ = some (J zq a) ∧ w'.cell? ⟨w.heap.size, 1, none⟩ = some (J zq b) ∧ w'.cell? ⟨w.heap.size, 2, none⟩ = some (J zq c) ∧ w'.cell? ⟨w.heap.size, 3, none⟩ = some (J zq d) ∧ w'.cell? ⟨w.heap.size + 1, 0, none⟩ = some (J zq x) ∧ w'.cell? ⟨w.heap.size + 1, 1, none⟩ = some (J zq y) ∧ w'.cell? ⟨w.heap.size + 1, 2, none⟩ = some (J zq z)) (first | (go_keep; done) | skip) (first | (go_at_call 89; refine (HF.out _).mono ?_; rintro e w1 ⟨rfl, x1⟩; have y1 : Ext wB w1 := Ext.trans xa x1; obtain ⟨s0, s1, s2, s3, s4, s5, s6, s7, s8⟩ := QB.out.ext y1; obtain ⟨t0, t1, t2, t3, t4, t5, t6⟩ := VB.out.ext y1; obtain ⟨r0, r1, r2, r3, r4, r5, r6⟩ := RB.out.ext y1) | (go_at_call 88; refine (HT.out _).mono ?_; rintro e w2 ⟨rfl, x2⟩; have y2 : Ext wB w2 := Ext.trans xa x2; obtain ⟨s0, s1, s2, s3, s4, s5, s6, s7, s8⟩ := QB.out.ext y2; obtain ⟨t0, t1, t2, t3, t4, t5, t6⟩ := VB.out.ext y2; obtain ⟨r0, r1, r2, r3, r4, r5, r6⟩ := RB.out.ext y2))
  all_goals
    have X3 : Ext w w2 := XB.trans y2
    obtain ⟨r0, r1, r2, r3, r4, r5, r6⟩ := RB.out.ext y2
    go_wp2_with fail
    exact bodyPost_ret (v := .tuple #[zG #[J zq E1, J zq E2, J zq E3], J zq ee]) (by simp [results, Tryz.results47, go_sem, r0, r1, r2]) rfl ⟨rfl, xa⟩
set_option maxRecDepth 20000 in
set_option maxHeartbeats 8000000 in
theorem qBack_raw (a b c d x y z nb nc nd E1 E2 E3 ee : Int) (w : World)
    (HF : Hid (∀ w', Calls zP 89 #[zG #[J zq a, J zq b, J zq c, J zq d]] w' fun e w'' => e = zR (zG #[J zq a, J zq b, J zq c, J zq d]) ∧ Ext w' w''))
    (HC : Hid (∀ w', Calls zP 109 #[zG #[J zq a, J zq b, J zq c, J zq d]] w' fun e w'' => e = zR (zG #[J zq a, J zq nb, J zq nc, J zq nd]) ∧ Ext w' w''))
    (HT : Hid (∀ w', Calls zP 88 #[zG #[J zq a, J zq nb, J zq nc, J zq nd], zG #[J zq x, J zq y, J zq z]] w' fun e w'' => e = zR (.tuple #[zG #[J zq E1, J zq E2, J zq E3], J zq ee]) ∧ Ext w' w'')) :
    Calls zP 83 #[zG #[J zq a, J zq b, J zq c, J zq d], zG #[J zq x, J zq y, J zq z]] w fun e w' => e = zR (.tuple #[zG #[J zq E1, J zq E2, J zq E3], J zq ee]) ∧ Ext w w' := by
  have QB : Hid (H4 (((w.alloc (.cells #[J zq a, J zq b, J zq c, J zq d] 24)).alloc (.cells #[J zq x, J zq y, J zq z] 28)).alloc (.cells #[J zq 0, J zq 0, J zq 0] 28)) w.heap.size (J zq a) (J zq b) (J zq c) (J zq d)) := H4.alloc (H4.alloc (h4_at rfl) _) _
  have VB : Hid (H3 (((w.alloc (.cells #[J zq a, J zq b, J zq c, J zq d] 24)).alloc (.cells #[J zq x, J zq y, J zq z] 28)).alloc (.cells #[J zq 0, J zq 0, J zq 0] 28)) (w.heap.size + 1) (J zq x) (J zq y) (J zq z)) := H3.alloc (h3_at (by simp)) _
  have RB : Hid (H3 (((w.alloc (.cells #[J zq a, J zq b, J zq c, J zq d] 24)).alloc (.cells #[J zq x, J zq y, J zq z] 28)).alloc (.cells #[J zq 0, J zq 0, J zq 0] 28)) (w.heap.size + 1 + 1) (J zq 0) (J zq 0) (J zq 0)) := h3_at (by simp)
  have XB : Ext w (((w.alloc (.cells #[J zq a, J zq b, J zq c, J zq d] 24)).alloc (.cells #[J zq x, J zq y, J zq z] 28)).alloc (.cells #[J zq 0, J zq 0, J zq 0] 28)) := (((Ext.refl _).alloc _).alloc _).alloc _
  obtain ⟨s0, s1, s2, s3, s4, s5, s6, s7, s8⟩ := QB.out
  obtain ⟨t0, t1, t2, t3, t4, t5, t6⟩ := VB.out
  obtain ⟨r0, r1, r2, r3, r4, r5, r6⟩ := RB.out
  have ne1 : w.heap.size ≠ w.heap.size + 1 + 1 := by omega
  have ne2 : w.heap.size + 1 + 1 ≠ w.heap.size := by omega
  have ne3 : w.heap.size + 1 ≠ w.heap.size + 1 + 1 := by omega
  have ne4 : w.heap.size + 1 + 1 ≠ w.heap.size + 1 := by omega
  go_enter Tryz.func83, Tryz.ntmps83
  go_upto_region 1 with fail
  generalize (((w.alloc (.cells #[J zq a, J zq b, J zq c, J zq d] 24)).alloc (.cells #[J zq x, J zq y, J zq z] 28)).alloc (.cells #[J zq 0, J zq 0, J zq 0] 28)) = wB at *
  go_region_held (fun w' => w'.cell? ⟨w.heap.size, 0, none⟩ = some (J zq a) ∧ w'.cell? ⟨w.heap.size, 1, none⟩ = some (J zq b) ∧ w'.cell? ⟨w.heap.size, 2, none⟩ = some (J zq c) ∧ w'.cell? ⟨w.heap.size, 3, none⟩ = some (J zq d) ∧ w'.cell? ⟨w.heap.size + 1, 0, none⟩ = some (J zq x) ∧ w'.cell? ⟨w.heap.size + 1, 1, none⟩ = some (J zq y) ∧ w'.cell? ⟨w.heap.size + 1, 2, none⟩ = some (J zq z)) (first | (go_keep; done) | skip) (first | (go_at_call 89; refine (HF.out _).mono ?_; rintro e w1 ⟨rfl, x1⟩; have y1 : Ext wB w1 := Ext.trans xa x1; obtain ⟨s0, s1, s2, s3, s4, s5, s6, s7, s8⟩ := QB.out.ext y1; obtain ⟨t0, t1, t2, t3, t4, t5, t6⟩ := VB.out.ext y1; obtain ⟨r0, r1, r2, r3, r4, r5, r6⟩ := RB.out.ext y1) | (go_at_call 109; refine (HC.out _).mono ?_; rintro e w2 ⟨rfl, x2⟩; have y2 : Ext wB w2 := Ext.trans xa x2; obtain ⟨s0, s1, s2, s3, s4, s5, s6, s7, s8⟩ := QB.out.ext y2; obtain ⟨t0, t1, t2, t3, t4, t5, t6⟩ := VB.out.ext y2; obtain ⟨r0, r1, r2, r3, r4, r5, r6⟩ := RB.out.ext y2) | (go_at_call 88; refine (HT.out _).mono ?_; rintro e w3 ⟨rfl, x3⟩; have y3 : Ext wB w3 := Ext.trans xa x3; obtain ⟨s0, s1, s2, s3, s4, s5, s6, s7, s8⟩ := QB.out.ext y3; obtain ⟨t0, t1, t2, t3, t4, t5, t6⟩ := VB.out.ext y3; obtain ⟨r0, r1, r2, r3, r4, r5, r6⟩ := RB.out.ext y3))
  all_goals
    have X3 : Ext w w3 := XB.trans y3
    obtain ⟨r0, r1, r2, r3, r4, r5, r6⟩ := RB.out.ext y3
    go_wp2_with fail
    exact bodyPost_ret (v := .tuple #[zG #[J zq E1, J zq E2, J zq E3], J zq ee]) (by simp [results, Tryz.results83, go_sem, r0, r1, r2]) rfl ⟨rfl, xa⟩
theorem qTurn_any (a b c d x y z : Int) (w : World) :
    Calls zP 47 #[zG #[J zq a, J zq b, J zq c, J zq d], zG #[J zq x, J zq y, J zq z]] w fun e w' => e = zR (turnR a b c d x y z) ∧ Ext w w' := by
  have T := qturn_any a b c d x y z
  obtain ⟨s0, s1, s2, e, he⟩ := turnR_shape a b c d x y z
  rw [he] at T ⊢
  exact qTurn_raw a b c d x y z s0 s1 s2 e w (qof_any a b c d) T
theorem qBack_any (a b c d x y z : Int) (w : World) :
    Calls zP 83 #[zG #[J zq a, J zq b, J zq c, J zq d], zG #[J zq x, J zq y, J zq z]] w fun e w' => e = zR (turnR a (wrap64 (-b)) (wrap64 (-c)) (wrap64 (-d)) x y z) ∧ Ext w w' := by
  have T := qturn_any a (wrap64 (-b)) (wrap64 (-c)) (wrap64 (-d)) x y z
  obtain ⟨s0, s1, s2, e, he⟩ := turnR_shape a (wrap64 (-b)) (wrap64 (-c)) (wrap64 (-d)) x y z
  rw [he] at T ⊢
  exact qBack_raw a b c d x y z _ _ _ s0 s1 s2 e w (qof_any a b c d) (qconj_any a b c d) T
end Go.Proofs.YtoeecldhbabmbaaGreat
