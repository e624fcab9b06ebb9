/- Contracts: times, bits.Div64. -/
import Derived.Test.YtoeecldhbabmbaaGreatMg2
import Derived.Test.YtoeecldhbabmbaaGreatMg0
import Derived.Test.YtoeecldhbabmbaaGreatMg1
import Derived.Deep.QuietTactic
import Derived.BigQuiet
open Go.Value renaming int → J
open Go.IntKind renaming u64 → zu
namespace Go.Proofs.YtoeecldhbabmbaaGreat
open Go.RowKit
set_option maxHeartbeats 400000 in
theorem times_any (x y : Nat) (hx : x < 18446744073709551616) (hy : y < 18446744073709551616) (w : World) :
    Calls Tryz.prog 138 #[.agg #[J zu x, J zu y]] w fun e w' => e = .returned (.agg #[J zu ((x * y / 18446744073709551616 : Nat) : Int), J zu ((x * y % 18446744073709551616 : Nat) : Int)]) ∧ Ext w w' := by
  have hm := fun W => mul64_any x y hx hy W
  have hH : Hid (∀ W, Calls Tryz.prog 170 #[J zu x, J zu y] W fun e w' => e = .returned (.tuple #[J zu ((x * y / 18446744073709551616 : Nat) : Int), J zu ((x * y % 18446744073709551616 : Nat) : Int)]) ∧ w' = W) := hm
  clear hm
  generalize x * y / 18446744073709551616 = p at *
  generalize x * y % 18446744073709551616 = q at *
  go_enter Tryz.func138, Tryz.ntmps138
  go_wp2_with (go_at_call 170; refine (hH.out _).mono ?_; rintro e w' ⟨rfl, rfl⟩)
  exact bodyPost_ret (v := .agg #[J zu (p : Int), J zu (q : Int)]) (by simp [results, Tryz.results138, go_sem]) rfl ⟨rfl, ((Ext.refl _).alloc _).alloc _⟩
set_option maxHeartbeats 400000 in
theorem div64_low (x y : Nat) (hx : x < 18446744073709551616) (hy : y < 18446744073709551616) (h0 : 0 < y) (w : World) :
    Calls Tryz.prog 169 #[J zu 0, J zu x, J zu y] w fun e w' => e = .returned (.tuple #[J zu ((x / y : Nat) : Int), J zu ((x % y : Nat) : Int)]) ∧ Ext w w' := by
  have hy0 : ((y : Int) == 0) = false := by simp; omega
  have hy1 : ¬ y = 0 := by omega
  have hq : IntKind.u64.wrap ((x : Int) / (y : Int)) = ((x / y : Nat) : Int) := by rw [IntKind.wrap_u64, ← Int.natCast_ediv]; have := Nat.div_le_self x y; exact Int.emod_eq_of_lt (Int.natCast_nonneg _) (by omega)
  have hH : Hid (IntKind.u64.wrap ((x : Int) / (y : Int)) = ((x / y : Nat) : Int)) := hq
  clear hq
  go_enter Tryz.func169, Tryz.ntmps169
  go_wp2
  go_quiet (fail)
  go_wp2
  go_ret2
  exact ⟨ret2_ints hH.out (Int.natCast_emod x y), (Ext.refl _).drewN _⟩
set_option maxHeartbeats 2000000 in
theorem div64_high (hi lo y : Nat) (hl : lo < 18446744073709551616) (hy : y < 18446744073709551616) (h0 : 0 < hi) (hlt : hi < y) (w : World) :
    Calls Tryz.prog 169 #[J zu hi, J zu lo, J zu y] w fun e w' => e = .returned (.tuple #[J zu (dQ hi lo y), J zu (dR hi lo y)]) ∧ w' = w := by
  have hy0 : ((y : Int) == 0) = false := by simp; omega
  have hh0 : ((hi : Int) == 0) = false := by simp; omega
  have hy1 : ¬ y ≤ hi := by omega
  obtain ⟨s, Y, u, v, y1, y0, v1, v0, q, r, t, u2, q', r', t', hs1, hs2, ⟨c1, c2, c3, c4, c5, c6, c7, c8, c9, c10, c11, c12, c13, c14⟩, ⟨e1, e2, e3, e4, e5, e6, e7⟩, ⟨d1, d2, d3, d4, d5, d5', d6, d7, d8, S1⟩, ⟨f1, f2, f3⟩, ⟨p1, p2, p3, p4, p5, p5', p6, p7, p8, S2⟩, z1, z3, z2⟩ := Num.setupI hi lo y hl hy hlt
  have hH : Hid (64 - (Lib.bitLen (y : Int).toNat : Int) = s) := hs2
  have D3 : Hid (q * y1 + r = u) := d3
  have P3 : Hid (q' * y1 + r' = u2) := p3
  have Z1 : Hid (t * 4294967296 + t' = dQ hi lo y) := z1
  have Z3 : Hid (IntKind.u64.wrap (t * 4294967296 + t') = dQ hi lo y) := by
    show IntKind.u64.wrap (t * 4294967296 + t') = dQ hi lo y
    rw [z1]; exact Num.wrapI _ (Int.natCast_nonneg _) z3
  have Z2 : Hid (IntKind.u64.wrap (IntKind.u64.wrap (IntKind.u64.wrap (u2 * 4294967296) + v0) - IntKind.u64.wrap (t' * Y)) / 2 ^ s = dR hi lo y) := z2
  clear hs2 d3 p3 z1 z2 z3
  go_enter Tryz.func169, Tryz.ntmps169
  go_wp2_with (go_at_call 182; refine (lz64_any _ _ (by omega) (by omega)).mono ?_; rw [hH.out]; rintro e w' ⟨rfl, rfl⟩)
  go_loop [15, 16] (fun a b => DRel u y1 t a b) (fun a _ => (intOf a).toNat)
  case atStart => exact ⟨q, r, by first | rfl | simp only [d1], by first | rfl | simp only [d1, d2], D3.out, d4, d5, d6, d8⟩
  case round =>
    obtain ⟨a, b, rfl, rfl, i1, i0, i2, i3, i4⟩ := hrel
    have I1 : Hid (a * y1 + b = u) := i1
    clear i1 e1 e2 e3 e4 e5 e6 e7 d1 d2
    by_cases hb : 4294967296 ≤ a
    · have ht : t + 1 ≤ a := (S1 a b I1.out i0 i4).1 (Or.inl hb)
      by_cases hr : 4294967296 ≤ b + y1
      · obtain rfl : a = t + 1 := by
          have := (S1 (a - 1) (b + y1) (step_eq I1.out) (by omega) (by omega)).2.2 hr (by omega)
          omega
        go_wp2
        go_loop [16, 18] (fun b a => DRel u2 y1 t' a b) (fun _ a => (intOf a).toNat)
        case atStart => exact ⟨q', r', by first | rfl | simp only [p1], by first | rfl | simp only [p1, p2], P3.out, p4, p5, p6, p8⟩
        case round =>
          obtain ⟨a', b', rfl, rfl, i1', i0', i2', i3', i4'⟩ := hrel
          have I1' : Hid (a' * y1 + b' = u2) := i1'
          clear i1' f1 p1 p2
          by_cases hb' : 4294967296 ≤ a'
          · have ht' : t' + 1 ≤ a' := (S2 a' b' I1'.out i0' i4').1 (Or.inl hb')
            by_cases hr' : 4294967296 ≤ b' + y1
            · obtain rfl : a' = t' + 1 := by
                have := (S2 (a' - 1) (b' + y1) (step_eq I1'.out) (by omega) (by omega)).2.2 hr' (by omega)
                omega
              go_wp2
              go_ret2
              exact ⟨ret2_ints (by first | exact Z1.out | exact Z3.out | (rw [Num.wrap_add]; exact Z3.out)) Z2.out, rfl⟩
            · go_wp2
              go_round
              case rel => exact ⟨a' - 1, b' + y1, by go_num, by go_num, step_eq I1'.out, by omega, by omega, by omega, by omega⟩
              case measure => simp [intOf]; omega
          · obtain ⟨p', g1', g2'', g3', g4'⟩ := Num.prod_of a' y0 (by omega) (by omega) c3 c4
            have g2' : Hid (a' * y0 = p') := g2''
            clear g2''
            by_cases hp' : 4294967296 * b' + v0 < p'
            · have ht' : t' + 1 ≤ a' := (S2 a' b' I1'.out i0' i4').1 (Or.inr (by rw [g2'.out]; exact hp'))
              by_cases hr' : 4294967296 ≤ b' + y1
              · obtain rfl : a' = t' + 1 := by
                  have := (S2 (a' - 1) (b' + y1) (step_eq I1'.out) (by omega) (by omega)).2.2 hr' (by omega)
                  omega
                go_wp2
                go_ret2
                exact ⟨ret2_ints (by first | exact Z1.out | exact Z3.out | (rw [Num.wrap_add]; exact Z3.out)) Z2.out, rfl⟩
              · go_wp2
                go_round
                case rel => exact ⟨a' - 1, b' + y1, by go_num, by go_num, step_eq I1'.out, by omega, by omega, by omega, by omega⟩
                case measure => simp [intOf]; omega
            · obtain rfl := ((S2 a' b' I1'.out i0' i4').2.1 (by rw [g2'.out]; omega)).symm
              go_wp2
              go_ret2
              exact ⟨ret2_ints (by first | exact Z1.out | exact Z3.out | (rw [Num.wrap_add]; exact Z3.out)) Z2.out, rfl⟩
      · go_wp2
        go_round
        case rel => exact ⟨a - 1, b + y1, by go_num, by go_num, step_eq I1.out, by omega, by omega, by omega, by omega⟩
        case measure => simp [intOf]; omega
    · obtain ⟨p, g1, g2', g3, g4⟩ := Num.prod_of a y0 (by omega) (by omega) c3 c4
      have g2 : Hid (a * y0 = p) := g2'
      clear g2'
      by_cases hp : 4294967296 * b + v1 < p
      · have ht : t + 1 ≤ a := (S1 a b I1.out i0 i4).1 (Or.inr (by rw [g2.out]; exact hp))
        by_cases hr : 4294967296 ≤ b + y1
        · obtain rfl : a = t + 1 := by
            have := (S1 (a - 1) (b + y1) (step_eq I1.out) (by omega) (by omega)).2.2 hr (by omega)
            omega
          go_wp2
          go_loop [16, 18] (fun b a => DRel u2 y1 t' a b) (fun _ a => (intOf a).toNat)
          case atStart => exact ⟨q', r', by first | rfl | simp only [p1], by first | rfl | simp only [p1, p2], P3.out, p4, p5, p6, p8⟩
          case round =>
            obtain ⟨a', b', rfl, rfl, i1', i0', i2', i3', i4'⟩ := hrel
            have I1' : Hid (a' * y1 + b' = u2) := i1'
            clear i1' f1 p1 p2
            by_cases hb' : 4294967296 ≤ a'
            · have ht' : t' + 1 ≤ a' := (S2 a' b' I1'.out i0' i4').1 (Or.inl hb')
              by_cases hr' : 4294967296 ≤ b' + y1
              · obtain rfl : a' = t' + 1 := by
                  have := (S2 (a' - 1) (b' + y1) (step_eq I1'.out) (by omega) (by omega)).2.2 hr' (by omega)
                  omega
                go_wp2
                go_ret2
                exact ⟨ret2_ints (by first | exact Z1.out | exact Z3.out | (rw [Num.wrap_add]; exact Z3.out)) Z2.out, rfl⟩
              · go_wp2
                go_round
                case rel => exact ⟨a' - 1, b' + y1, by go_num, by go_num, step_eq I1'.out, by omega, by omega, by omega, by omega⟩
                case measure => simp [intOf]; omega
            · obtain ⟨p', g1', g2'', g3', g4'⟩ := Num.prod_of a' y0 (by omega) (by omega) c3 c4
              have g2' : Hid (a' * y0 = p') := g2''
              clear g2''
              by_cases hp' : 4294967296 * b' + v0 < p'
              · have ht' : t' + 1 ≤ a' := (S2 a' b' I1'.out i0' i4').1 (Or.inr (by rw [g2'.out]; exact hp'))
                by_cases hr' : 4294967296 ≤ b' + y1
                · obtain rfl : a' = t' + 1 := by
                    have := (S2 (a' - 1) (b' + y1) (step_eq I1'.out) (by omega) (by omega)).2.2 hr' (by omega)
                    omega
                  go_wp2
                  go_ret2
                  exact ⟨ret2_ints (by first | exact Z1.out | exact Z3.out | (rw [Num.wrap_add]; exact Z3.out)) Z2.out, rfl⟩
                · go_wp2
                  go_round
                  case rel => exact ⟨a' - 1, b' + y1, by go_num, by go_num, step_eq I1'.out, by omega, by omega, by omega, by omega⟩
                  case measure => simp [intOf]; omega
              · obtain rfl := ((S2 a' b' I1'.out i0' i4').2.1 (by rw [g2'.out]; omega)).symm
                go_wp2
                go_ret2
                exact ⟨ret2_ints (by first | exact Z1.out | exact Z3.out | (rw [Num.wrap_add]; exact Z3.out)) Z2.out, rfl⟩
        · go_wp2
          go_round
          case rel => exact ⟨a - 1, b + y1, by go_num, by go_num, step_eq I1.out, by omega, by omega, by omega, by omega⟩
          case measure => simp [intOf]; omega
      · obtain rfl := ((S1 a b I1.out i0 i4).2.1 (by rw [g2.out]; omega)).symm
        go_wp2
        go_loop [16, 18] (fun b a => DRel u2 y1 t' a b) (fun _ a => (intOf a).toNat)
        case atStart => exact ⟨q', r', by first | rfl | simp only [p1], by first | rfl | simp only [p1, p2], P3.out, p4, p5, p6, p8⟩
        case round =>
          obtain ⟨a', b', rfl, rfl, i1', i0', i2', i3', i4'⟩ := hrel
          have I1' : Hid (a' * y1 + b' = u2) := i1'
          clear i1' f1 p1 p2
          by_cases hb' : 4294967296 ≤ a'
          · have ht' : t' + 1 ≤ a' := (S2 a' b' I1'.out i0' i4').1 (Or.inl hb')
            by_cases hr' : 4294967296 ≤ b' + y1
            · obtain rfl : a' = t' + 1 := by
                have := (S2 (a' - 1) (b' + y1) (step_eq I1'.out) (by omega) (by omega)).2.2 hr' (by omega)
                omega
              go_wp2
              go_ret2
              exact ⟨ret2_ints (by first | exact Z1.out | exact Z3.out | (rw [Num.wrap_add]; exact Z3.out)) Z2.out, rfl⟩
            · go_wp2
              go_round
              case rel => exact ⟨a' - 1, b' + y1, by go_num, by go_num, step_eq I1'.out, by omega, by omega, by omega, by omega⟩
              case measure => simp [intOf]; omega
          · obtain ⟨p', g1', g2'', g3', g4'⟩ := Num.prod_of a' y0 (by omega) (by omega) c3 c4
            have g2' : Hid (a' * y0 = p') := g2''
            clear g2''
            by_cases hp' : 4294967296 * b' + v0 < p'
            · have ht' : t' + 1 ≤ a' := (S2 a' b' I1'.out i0' i4').1 (Or.inr (by rw [g2'.out]; exact hp'))
              by_cases hr' : 4294967296 ≤ b' + y1
              · obtain rfl : a' = t' + 1 := by
                  have := (S2 (a' - 1) (b' + y1) (step_eq I1'.out) (by omega) (by omega)).2.2 hr' (by omega)
                  omega
                go_wp2
                go_ret2
                exact ⟨ret2_ints (by first | exact Z1.out | exact Z3.out | (rw [Num.wrap_add]; exact Z3.out)) Z2.out, rfl⟩
              · go_wp2
                go_round
                case rel => exact ⟨a' - 1, b' + y1, by go_num, by go_num, step_eq I1'.out, by omega, by omega, by omega, by omega⟩
                case measure => simp [intOf]; omega
            · obtain rfl := ((S2 a' b' I1'.out i0' i4').2.1 (by rw [g2'.out]; omega)).symm
              go_wp2
              go_ret2
              exact ⟨ret2_ints (by first | exact Z1.out | exact Z3.out | (rw [Num.wrap_add]; exact Z3.out)) Z2.out, rfl⟩
theorem div64_any (hi lo y : Nat) (hl : lo < 18446744073709551616) (hy : y < 18446744073709551616) (hlt : hi < y) (w : World) :
    Calls Tryz.prog 169 #[J zu hi, J zu lo, J zu y] w fun e w' => e = .returned (.tuple #[J zu (dQ hi lo y), J zu (dR hi lo y)]) ∧ Ext w w' := by
  by_cases h0 : 0 < hi
  · refine (div64_high hi lo y hl hy h0 hlt w).mono ?_
    rintro e w' ⟨he, rfl⟩
    exact ⟨he, Ext.refl _⟩
  · obtain rfl : hi = 0 := by omega
    have h := div64_low lo y hl hy (by omega) w
    unfold dQ dR
    rw [Nat.zero_mul, Nat.zero_add]
    exact h
end Go.Proofs.YtoeecldhbabmbaaGreat
