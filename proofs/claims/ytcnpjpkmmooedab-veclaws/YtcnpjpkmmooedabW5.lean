/- wide: rootDown, Root. -/
import Derived.Test.YtcnpjpkmmooedabW4
import Derived.Test.YtcnpjpkmmooedabWRootNum
import Derived.Test.YtcnpjpkmmooedabRootQNum
namespace Go.Proofs.Ytcnpjpkmmooedab
open Go.RowKit Go.Shelf

theorem inW_of {z : Int} (h : z.natAbs < 3138550867693340381917894711603833208051177722232017256448) : InW z := by unfold InW; omega
theorem sq_bound {n X : Nat} (hn : n < 4951760157141521099596496896) (hX : X ≤ 140737488355328) : n * X * X < 98079714615416886934934209737619787751599303819750539264 := by
  have h1 : n * X ≤ 4951760157141521099596496896 * 140737488355328 := Nat.mul_le_mul (by omega) hX
  have h2 : n * X * X ≤ 4951760157141521099596496896 * 140737488355328 * 140737488355328 := Nat.mul_le_mul h1 hX
  have e : 4951760157141521099596496896 * 140737488355328 * 140737488355328 = 98079714615416886934934209737619787751599303819750539264 := by decide
  have : n * X * X ≤ 98079714615416886934934209737619787751599303819750539264 := by omega
  rcases Nat.lt_or_eq_of_le this with h | h
  · exact h
  · exfalso
    have h3 : n * X * X ≤ 4951760157141521099596496895 * 140737488355328 * 140737488355328 := Nat.mul_le_mul (Nat.mul_le_mul (by omega) hX) hX
    omega
theorem div_sq {p n X : Nat} (hn : 0 < n) : X * X ≤ p / n ↔ n * X * X ≤ p := by
  rw [Nat.le_div_iff_mul_le hn, Nat.mul_assoc n, Nat.mul_comm (X * X)]

set_option maxHeartbeats 4000000 in
theorem rootDownw_any (p n : Nat) (u v : Value) (w : World) (hu : IsW u p) (hv : IsW v n) (h0 : 0 < n) (hn : n < 4951760157141521099596496896) (hp : p / n < 4951760157141521099596496896) (hp2 : p < 98079714615416886934934209737619787751599303819750539264) :
    Calls Try.prog 77 #[u, v] w fun e w' => (∃ R : Nat, e = .returned (.int .u64 (R : Int)) ∧ R * R ≤ p / n ∧ p / n < (R + 1) * (R + 1) ∧ R < 70368744177664) ∧ Ext w w' := by
  have st := Num.rootw_start _ hp
  have CT1 : Hid (∀ (X : Nat) w', X < 70368744177664 → Calls Try.prog 60 #[v, .int .u64 (X : Int)] w' fun e w'' => (∃ r, e = .returned r ∧ IsW r (n * X)) ∧ Ext w' w'') := fun X w' hX => timesw_any n X v w' hv (by omega)
  have CT2 : Hid (∀ (X : Nat) t w', X < 70368744177664 → IsW t (n * X) → Calls Try.prog 60 #[t, .int .u64 (X : Int)] w' fun e w'' => (∃ r, e = .returned r ∧ IsW r (n * X * X)) ∧ Ext w' w'') := fun X t w' hX ht => timesw_any _ X t w' ht (by omega)
  have CM : Hid (∀ (X : Nat) t w', IsW t (n * X * X) → Calls Try.prog 78 #[u, t] w' fun e w'' => (∃ r, e = .returned r ∧ IsW r (p - n * X * X)) ∧ Ext w' w'') := fun X t w' ht => minus_any p _ u t w' hu ht
  have CS : Hid (∀ (X : Nat) t w', X < 70368744177664 → IsW t ((p : Int) - n * X * X) → Calls Try.prog 79 #[t] w' fun e w'' => e = .returned (.int .i64 (sgn (p - n * X * X))) ∧ Ext w' w'') := fun X t w' hX ht => signw_any _ t w' ht (by
    have := sq_bound hn (show X ≤ 140737488355328 by omega)
    have e : ((n : Int) * X * X) = ((n * X * X : Nat) : Int) := by simp [Int.natCast_mul]
    rw [e]; apply inW_of; omega)
  have CX : Hid (∀ X : Nat, (X * X ≤ p / n → 0 ≤ sgn (p - n * X * X)) ∧ (p / n < X * X → sgn (p - n * X * X) < 0)) := by
    intro X
    have e : ((n : Int) * X * X) = ((n * X * X : Nat) : Int) := by simp [Int.natCast_mul]
    rw [e]
    constructor
    · intro h
      have := (div_sq h0).1 h
      unfold sgn; split
      · omega
      · split <;> omega
    · intro h
      have : ¬ n * X * X ≤ p := fun hh => by have := (div_sq h0).2 hh; omega
      unfold sgn; split
      · omega
      · split <;> omega
  obtain ⟨a0, a1, a2, rfl, ha⟩ := hu
  obtain ⟨b0, b1, b2, rfl, hb⟩ := hv
  clear ha hb hp hp2 hn h0
  generalize p / n = N at *
  go_enter Try.func77, Try.ntmps77
  go_wp2_with fail
  go_loopw [5, 6] (fun r b wr => ∃ R B : Int, r = .int .u64 R ∧ b = .int .u64 B ∧ Num.RRelW N R B ∧ Ext ((w.alloc (.cells #[.int .u64 a0, .int .u64 a1, .int .u64 a2] 75)).alloc (.cells #[.int .u64 b0, .int .u64 b1, .int .u64 b2] 75)) wr) (fun _ b _ => (intOf b).toNat)
  case atStart => exact ⟨0, 35184372088832, rfl, rfl, st, Ext.refl _⟩
  case round =>
    obtain ⟨R, B, rfl, rfl, hR, hx⟩ := hrel
    clear st
    have PB : Hid (H3 wr w.heap.size (.int .u64 a0) (.int .u64 a1) (.int .u64 a2)) := (H3.alloc (h3_at rfl) _).ext hx
    have NB : Hid (H3 wr (w.heap.size + 1) (.int .u64 b0) (.int .u64 b1) (.int .u64 b2)) := (h3_at (by simp)).ext hx
    have X0 : Ext w wr := Ext.trans (((Ext.refl _).alloc _).alloc _) hx
    rcases Num.rootw_round N R B hR with ⟨rfl, Rn, rfl, g1, g2, g3⟩ | ⟨g1, g2, g3, g4, X, g5, g6, g7, g8⟩
    · go_wp2_with fail
      go_ret
      exact ⟨⟨Rn, rfl, g1, g2, g3⟩, X0⟩
    · obtain ⟨p0, p1, p2, p3, p4, p5, p6⟩ := PB.out
      obtain ⟨n0, n1, n2, n3, n4, n5, n6⟩ := NB.out
      have HT1 : Hid _ := fun w' => CT1.out X w' g6
      have HT2 : Hid _ := fun t w' => CT2.out X t w' g6
      have HM : Hid _ := fun t w' => CM.out X t w'
      have HS : Hid _ := fun t w' => CS.out X t w' g6
      have HX := CX.out X
      by_cases hX : X * X ≤ N
      · have hn : Num.RRelW N X (B / 2) := g7 hX
        have hs := HX.1 hX
        clear g6 g7 g8 hX HX CT1 CT2 CM CS CX hR
        generalize sgn (p - n * X * X) = s at *
        generalize (n : Int) * (X : Int) * (X : Int) = nxx at *
        generalize (n : Int) * (X : Int) = nx at *
        generalize (X : Int) = x at *
        go_wp2_with fail
        go_region_with (first | (go_at_call 60; refine (HT2.out _ _ hu1).mono ?_; rintro e w2 ⟨⟨u2, rfl, hu2⟩, x2⟩; obtain ⟨r0, r1, r2, r3, r4, r5, r6⟩ := (PB.out.drew.ext x1).ext x2) | (go_at_call 60; refine (HT1.out _).mono ?_; rintro e w1 ⟨⟨u1, rfl, hu1⟩, x1⟩; obtain ⟨q0, q1, q2, q3, q4, q5, q6⟩ := PB.out.drew.ext x1) | (go_at_call 78; refine (HM.out _ _ hu2).mono ?_; rintro e w3 ⟨⟨u3, rfl, hu3⟩, x3⟩) | (go_at_call 79; refine (HS.out _ _ hu3).mono ?_; rintro e w4 ⟨rfl, x4⟩))
        all_goals
          go_wp2_with fail
          go_roundw
          case rel => exact ⟨x, B / 2, by go_num, by go_num, hn, (((hx.drew.trans x1).trans x2).trans x3).trans x4⟩
          case measure => simp [intOf]; omega
      · have hn : Num.RRelW N R (B / 2) := g8 (by omega)
        have hs := HX.2 (by omega)
        clear g6 g7 g8 hX HX CT1 CT2 CM CS CX hR
        generalize sgn (p - n * X * X) = s at *
        generalize (n : Int) * (X : Int) * (X : Int) = nxx at *
        generalize (n : Int) * (X : Int) = nx at *
        generalize (X : Int) = x at *
        go_wp2_with fail
        go_region_with (first | (go_at_call 60; refine (HT2.out _ _ hu1).mono ?_; rintro e w2 ⟨⟨u2, rfl, hu2⟩, x2⟩; obtain ⟨r0, r1, r2, r3, r4, r5, r6⟩ := (PB.out.drew.ext x1).ext x2) | (go_at_call 60; refine (HT1.out _).mono ?_; rintro e w1 ⟨⟨u1, rfl, hu1⟩, x1⟩; obtain ⟨q0, q1, q2, q3, q4, q5, q6⟩ := PB.out.drew.ext x1) | (go_at_call 78; refine (HM.out _ _ hu2).mono ?_; rintro e w3 ⟨⟨u3, rfl, hu3⟩, x3⟩) | (go_at_call 79; refine (HS.out _ _ hu3).mono ?_; rintro e w4 ⟨rfl, x4⟩))
        all_goals
          go_wp2_with fail
          go_roundw
          case rel => exact ⟨R, B / 2, by go_num, by go_num, hn, (((hx.drew.trans x1).trans x2).trans x3).trans x4⟩
          case measure => simp [intOf]; omega
end Go.Proofs.Ytcnpjpkmmooedab
