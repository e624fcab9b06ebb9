/- CalExact. -/
import Derived.Test.YtnilhamcojjloaaCaX1
namespace Go.Proofs.Ytnilhamcojjloaa
open Go.RowKit Go.Shelf
theorem uf_uC (b0 b1 b2 h0 h1 h2 rf x y z t : Int) (j : Nat) : uf (clr x b0 h0 (t - rf)) (clr y b1 h1 (t - rf)) (clr z b2 h2 (t - rf)) j = uC b0 b1 b2 h0 h1 h2 rf x y z t j := rfl
theorem sum_bound {Z : Nat → Int} {B : Int} (hB : 0 ≤ B) (h : ∀ k, k < 3 → -B ≤ Z k ∧ Z k ≤ B) : ∀ j, j ≤ 3 → -(3 * B) ≤ sumTo Z j ∧ sumTo Z j ≤ 3 * B := by
  intro j hj
  have h0 := h 0 (by omega)
  have h1 := h 1 (by omega)
  have h2 := h 2 (by omega)
  obtain rfl | rfl | rfl | rfl : j = 0 ∨ j = 1 ∨ j = 2 ∨ j = 3 := by omega
  all_goals (simp only [sumTo]; omega)
theorem rapply_any (b0 b1 b2 h0 h1 h2 rf : Int) (m : Nat → Int) (x y z t : Int) (w : World) (hc : okC b0 b1 b2 h0 h1 h2 rf m = true) (hr : okR x y z t = true) :
    Calls Try.prog 9 #[.agg #[.int .i64 b0, .int .i64 b1, .int .i64 b2, .int .i64 h0, .int .i64 h1, .int .i64 h2, .int .i64 rf, .int .i64 (m 0), .int .i64 (m 1), .int .i64 (m 2), .int .i64 (m 3), .int .i64 (m 4), .int .i64 (m 5), .int .i64 (m 6), .int .i64 (m 7), .int .i64 (m 8)], .agg #[.int .i64 x, .int .i64 y, .int .i64 z, .int .i64 t]] w fun e w' => e = .returned (vres (nearQ (rowU m (uC b0 b1 b2 h0 h1 h2 rf x y z t) 0)) (nearQ (rowU m (uC b0 b1 b2 h0 h1 h2 rf x y z t) 1)) (nearQ (rowU m (uC b0 b1 b2 h0 h1 h2 rf x y z t) 2))) ∧ Ext w w' := by
  obtain ⟨rx, ry, rz, rt⟩ := okR_bounds hr
  obtain ⟨cr, cb, ch, cm⟩ := okC_parts hc
  have hd : -255 ≤ t - rf ∧ t - rf ≤ 255 := by omega
  have hu := uC_bound b0 b1 b2 h0 h1 h2 rf m x y z t hc hr
  have hm : ∀ k, k < 9 → -35184372088832 ≤ m k ∧ m k ≤ 35184372088832 := fun k hk => by have := okW_bounds (okM_at cm hk); omega
  have fu : ∀ j, j < 3 → Fit 64 (uC b0 b1 b2 h0 h1 h2 rf x y z t j) := fun j hj => fit_of' 64 18446744073709551616 _ (by decide) (by have := hu j hj; omega) (by have := hu j hj; omega)
  have fm : ∀ k, k < 9 → Fit 64 (m k) := fun k hk => fit_of' 64 18446744073709551616 _ (by decide) (by have := hm k hk; omega) (by have := hm k hk; omega)
  have pb : ∀ k j, k < 9 → j < 3 → -(35184372088832 * 36028797018963968) ≤ m k * uC b0 b1 b2 h0 h1 h2 rf x y z t j ∧ m k * uC b0 b1 b2 h0 h1 h2 rf x y z t j ≤ 35184372088832 * 36028797018963968 := fun k j hk hj => mul_bound (hm k hk).1 (hm k hk).2 (hu j hj).1 (hu j hj).2
  have fp : ∀ k j, k < 9 → j < 3 → Fit 128 (m k * uC b0 b1 b2 h0 h1 h2 rf x y z t j) := fun k j hk hj => (fm k hk).mul (fu j hj)
  have sb : ∀ i j, i < 3 → j ≤ 3 → -(3 * (35184372088832 * 36028797018963968)) ≤ sumTo (fun k => m (3 * i + k) * uC b0 b1 b2 h0 h1 h2 rf x y z t k) j ∧ sumTo (fun k => m (3 * i + k) * uC b0 b1 b2 h0 h1 h2 rf x y z t k) j ≤ 3 * (35184372088832 * 36028797018963968) := fun i j hi hj => sum_bound (by decide) (fun k hk => pb (3 * i + k) k (by omega) hk) j hj
  have fs : ∀ i j, i < 3 → j ≤ 3 → Fit 128 (sumTo (fun k => m (3 * i + k) * uC b0 b1 b2 h0 h1 h2 rf x y z t k) j) := fun i j hi hj => fit_of' 128 340282366920938463463374607431768211456 _ (by decide) (by have := sb i j hi hj; omega) (by have := sb i j hi hj; omega)
  have er : ∀ i, i < 3 → sumTo (fun k => m (3 * i + k) * uC b0 b1 b2 h0 h1 h2 rf x y z t k) 3 = rowU m (uC b0 b1 b2 h0 h1 h2 rf x y z t) i := fun i _ => by
    rw [rowU_eq]; simp only [sumTo, Nat.add_zero, Int.zero_add]; rw [Int.mul_comm (m (3 * i)), Int.mul_comm (m (3 * i + 1)), Int.mul_comm (m (3 * i + 2))]
  have nq : ∀ a : Int, IsNear a 1073741824 (nearQ a) := fun a => by unfold IsNear nearQ oddQ; omega
  exact rapply_raw b0 b1 b2 h0 h1 h2 rf m (fun i => nearQ (rowU m (uC b0 b1 b2 h0 h1 h2 rf x y z t) i)) x y z t (t - rf) (clr x b0 h0 (t - rf)) (clr y b1 h1 (t - rf)) (clr z b2 h2 (t - rf)) w (by unfold wrap64; omega)
    (fun w' => rleft_any x b0 h0 (t - rf) w' rx (ok3_parts cb).1 (ok3_parts ch).1 hd) (fun w' => rleft_any y b1 h1 (t - rf) w' ry (ok3_parts cb).2.1 (ok3_parts ch).2.1 hd) (fun w' => rleft_any z b2 h2 (t - rf) w' rz (ok3_parts cb).2.2 (ok3_parts ch).2.2 hd)
    (fun k w' hk => from_any _ w' (by have := hm k hk; omega) (by have := hm k hk; omega)) (fun w' => from_any _ w' (by omega) (by omega))
    (fun k j r1 r2 w' hk hj h1 h2 => times_isI _ _ r1 r2 w' h1 h2 ((fm k hk).small (by omega)) ((fu j hj).small (by omega)) ((fp k j hk hj).small (by omega)))
    (fun i j r1 r2 w' hi hj h1 h2 => plus_isI _ _ r1 r2 w' h1 h2 ((fs i j hi (by omega)).small (by omega)) ((fp (3 * i + j) j (by omega) hj).small (by omega)) ((fs i (j + 1) hi (by omega)).small (by omega)))
    (fun i r w' hi h => by
      have h' := nearq_any (sumTo (fun k => m (3 * i + k) * uC b0 b1 b2 h0 h1 h2 rf x y z t k) 3) (nearQ (rowU m (uC b0 b1 b2 h0 h1 h2 rf x y z t) i)) 128 r w' h (by omega) (by omega) (fs i 3 hi (by omega)) (by rw [er i hi]; exact nq _)
      exact h')

theorem eqCal (w : World) : (Op.equalIn 10000 27 (.agg #[.int .i64 0, .int .i64 0, .int .i64 0, .int .i64 0, .int .i64 0, .int .i64 0, .int .i64 0, .int .i64 1073741824, .int .i64 0, .int .i64 0, .int .i64 0, .int .i64 1073741824, .int .i64 0, .int .i64 0, .int .i64 0, .int .i64 1073741824]) (.agg #[.int .i64 0, .int .i64 0, .int .i64 0, .int .i64 0, .int .i64 0, .int .i64 0, .int .i64 0, .int .i64 1073741824, .int .i64 0, .int .i64 0, .int .i64 0, .int .i64 1073741824, .int .i64 0, .int .i64 0, .int .i64 0, .int .i64 1073741824])).run Try.prog w = .ok true w := by kernel_rfl
set_option maxHeartbeats 40000000 in
set_option maxRecDepth 20000 in
theorem calexact_any (b off len cap : Nat) (Z : Nat → Nat → Int) (w : World) (hl : len ≤ maxLen) (hc : Asks w b off len Z) :
    Calls Try.prog 3 #[.slice (some ⟨b, off, none⟩) len cap] w fun e w' => e = .returned (.bool true) ∧ Ext w w' := by
  have hl' : len ≤ 9223372036854775807 := by unfold maxLen at hl; omega
  clear hl
  go_enter Try.func3, Try.ntmps3
  go_wp2_with fail
  go_loopw [3] (fun i wr => ∃ k : Nat, k ≤ len ∧ i = .int .i64 k ∧ Ext w wr) (fun i _ => len - (intOf i).toNat)
  case atStart => exact ⟨0, Nat.zero_le _, rfl, Ext.refl _⟩
  case round =>
    obtain ⟨k, hk, rfl, hx⟩ := hrel
    have HX : Hid (Ext w wr) := hx
    clear hx
    by_cases hlt : k < len
    · by_cases h20 : k < 20
      · have RW := (hc.ext HX.out).row hlt
        have hlt' : (k : Int) < (len : Int) := by omega
        have HZ : Hid (∀ j, j < 20 → -9223372036854775808 ≤ Z k j ∧ Z k j ≤ 9223372036854775807) := fun j hj => (hc k hlt j hj).2
        clear hc
        generalize Z k = z at *
        have hs20 : (Try.prog.info? 31).map (·.size) = some ([.int .i64 (z 0), .int .i64 (z 1), .int .i64 (z 2), .int .i64 (z 3), .int .i64 (z 4), .int .i64 (z 5), .int .i64 (z 6), .int .i64 (z 7), .int .i64 (z 8), .int .i64 (z 9), .int .i64 (z 10), .int .i64 (z 11), .int .i64 (z 12), .int .i64 (z 13), .int .i64 (z 14), .int .i64 (z 15), .int .i64 (z 16), .int .i64 (z 17), .int .i64 (z 18), .int .i64 (z 19)] : List Value).length := by kernel_rfl
        have Fp : Hid (HV (wr.alloc (.cells #[.int .i64 (z 0), .int .i64 (z 1), .int .i64 (z 2), .int .i64 (z 3), .int .i64 (z 4), .int .i64 (z 5), .int .i64 (z 6), .int .i64 (z 7), .int .i64 (z 8), .int .i64 (z 9), .int .i64 (z 10), .int .i64 (z 11), .int .i64 (z 12), .int .i64 (z 13), .int .i64 (z 14), .int .i64 (z 15), .int .i64 (z 16), .int .i64 (z 17), .int .i64 (z 18), .int .i64 (z 19)] 31)) wr.heap.size [.int .i64 (z 0), .int .i64 (z 1), .int .i64 (z 2), .int .i64 (z 3), .int .i64 (z 4), .int .i64 (z 5), .int .i64 (z 6), .int .i64 (z 7), .int .i64 (z 8), .int .i64 (z 9), .int .i64 (z 10), .int .i64 (z 11), .int .i64 (z 12), .int .i64 (z 13), .int .i64 (z 14), .int .i64 (z 15), .int .i64 (z 16), .int .i64 (z 17), .int .i64 (z 18), .int .i64 (z 19)]) := hv_at rfl
        have FX : Hid (Ext w (wr.alloc (.cells #[.int .i64 (z 0), .int .i64 (z 1), .int .i64 (z 2), .int .i64 (z 3), .int .i64 (z 4), .int .i64 (z 5), .int .i64 (z 6), .int .i64 (z 7), .int .i64 (z 8), .int .i64 (z 9), .int .i64 (z 10), .int .i64 (z 11), .int .i64 (z 12), .int .i64 (z 13), .int .i64 (z 14), .int .i64 (z 15), .int .i64 (z 16), .int .i64 (z 17), .int .i64 (z 18), .int .i64 (z 19)] 31))) := HX.out.alloc _
        clear HX
        go_upto_region 5 with (first | ((with_reducible show wpList _ _ _ (_ :: _) _ _); refine wpList_load_mid rfl 31 (.tmp 22) rfl b (off + k * 20) rfl [.int .i64 (z 0), .int .i64 (z 1), .int .i64 (z 2), .int .i64 (z 3), .int .i64 (z 4), .int .i64 (z 5), .int .i64 (z 6), .int .i64 (z 7), .int .i64 (z 8), .int .i64 (z 9), .int .i64 (z 10), .int .i64 (z 11), .int .i64 (z 12), .int .i64 (z 13), .int .i64 (z 14), .int .i64 (z 15), .int .i64 (z 16), .int .i64 (z 17), .int .i64 (z 18), .int .i64 (z 19)] _ RW Try.underlying31 rfl hs20 ?_) | ((with_reducible show wpList _ _ _ (_ :: _) _ _); refine wpList_store_new 31 [.int .i64 0, .int .i64 0, .int .i64 0, .int .i64 0, .int .i64 0, .int .i64 0, .int .i64 0, .int .i64 0, .int .i64 0, .int .i64 0, .int .i64 0, .int .i64 0, .int .i64 0, .int .i64 0, .int .i64 0, .int .i64 0, .int .i64 0, .int .i64 0, .int .i64 0, .int .i64 0] [.int .i64 (z 0), .int .i64 (z 1), .int .i64 (z 2), .int .i64 (z 3), .int .i64 (z 4), .int .i64 (z 5), .int .i64 (z 6), .int .i64 (z 7), .int .i64 (z 8), .int .i64 (z 9), .int .i64 (z 10), .int .i64 (z 11), .int .i64 (z 12), .int .i64 (z 13), .int .i64 (z 14), .int .i64 (z 15), .int .i64 (z 16), .int .i64 (z 17), .int .i64 (z 18), .int .i64 (z 19)] rfl 31 (.tmp 4) (.tmp 23) rfl rfl rfl rfl hs20 (by simp [Value.oneCell']) ?_))
        clear RW hs20
        generalize (wr.alloc (.cells #[.int .i64 (z 0), .int .i64 (z 1), .int .i64 (z 2), .int .i64 (z 3), .int .i64 (z 4), .int .i64 (z 5), .int .i64 (z 6), .int .i64 (z 7), .int .i64 (z 8), .int .i64 (z 9), .int .i64 (z 10), .int .i64 (z 11), .int .i64 (z 12), .int .i64 (z 13), .int .i64 (z 14), .int .i64 (z 15), .int .i64 (z 16), .int .i64 (z 17), .int .i64 (z 18), .int .i64 (z 19)] 31)) = w0 at *
        generalize hnp : wr.heap.size = np at *
        clear hnp
        have hsC : (Try.prog.info? 27).map (·.size) = some ([.int .i64 (z 0), .int .i64 (z 1), .int .i64 (z 2), .int .i64 (z 3), .int .i64 (z 4), .int .i64 (z 5), .int .i64 (z 6), .int .i64 (z 7), .int .i64 (z 8), .int .i64 (z 9), .int .i64 (z 10), .int .i64 (z 11), .int .i64 (z 12), .int .i64 (z 13), .int .i64 (z 14), .int .i64 (z 15)] : List Value).length := by kernel_rfl
        cases h1 : okC (z 0) (z 1) (z 2) (z 3) (z 4) (z 5) (z 6) (fun k => z (7 + k)) <;> cases h2 : okR (z 16) (z 17) (z 18) (z 19)
        · have HC : Hid (∀ w, Calls Try.prog 7 #[.agg #[.int .i64 (z 0), .int .i64 (z 1), .int .i64 (z 2), .int .i64 (z 3), .int .i64 (z 4), .int .i64 (z 5), .int .i64 (z 6), .int .i64 (z 7), .int .i64 (z 8), .int .i64 (z 9), .int .i64 (z 10), .int .i64 (z 11), .int .i64 (z 12), .int .i64 (z 13), .int .i64 (z 14), .int .i64 (z 15)]] w fun e w' => e = .returned (.bool false) ∧ Ext w w') := fun w => by have h := maycal_any (z 0) (z 1) (z 2) (z 3) (z 4) (z 5) (z 6) (fun k => z (7 + k)) w; rw [h1] at h; exact h
          have HR : Hid (∀ w, Calls Try.prog 8 #[.agg #[.int .i64 (z 16), .int .i64 (z 17), .int .i64 (z 18), .int .i64 (z 19)]] w fun e w' => e = .returned (.bool false) ∧ Ext w w') := fun w => by have h := mayraw_any (z 16) (z 17) (z 18) (z 19) w; rw [h2] at h; exact h
          have HK : Hid (∀ w, Calls Try.prog 12 #[.agg #[.int .i64 (z 0), .int .i64 (z 1), .int .i64 (z 2), .int .i64 (z 3), .int .i64 (z 4), .int .i64 (z 5), .int .i64 (z 6), .int .i64 (z 7), .int .i64 (z 8), .int .i64 (z 9), .int .i64 (z 10), .int .i64 (z 11), .int .i64 (z 12), .int .i64 (z 13), .int .i64 (z 14), .int .i64 (z 15)]] w fun e w' => e = .returned (.int .i64 1) ∧ Ext w w') := fun w => by have h := cCheck_any (z 0) (z 1) (z 2) (z 3) (z 4) (z 5) (z 6) (fun k => z (7 + k)) w; unfold chkC at h; rw [h1] at h; exact h
          have HA : Hid (∀ w, Calls Try.prog 10 #[.agg #[.int .i64 (z 0), .int .i64 (z 1), .int .i64 (z 2), .int .i64 (z 3), .int .i64 (z 4), .int .i64 (z 5), .int .i64 (z 6), .int .i64 (z 7), .int .i64 (z 8), .int .i64 (z 9), .int .i64 (z 10), .int .i64 (z 11), .int .i64 (z 12), .int .i64 (z 13), .int .i64 (z 14), .int .i64 (z 15)], .agg #[.int .i64 (z 16), .int .i64 (z 17), .int .i64 (z 18), .int .i64 (z 19)]] w fun e w' => e = .returned (.tuple #[.agg #[.int .i64 0, .int .i64 0, .int .i64 0], .int .i64 1]) ∧ Ext w w') := fun w => by have h := cApply_any (z 0) (z 1) (z 2) (z 3) (z 4) (z 5) (z 6) (fun k => z (7 + k)) (z 16) (z 17) (z 18) (z 19) w; unfold calR at h; rw [h1] at h; exact h
          clear h1 h2
          have Rp : w0.rangeAt np 0 [.int .i64 (z 0), .int .i64 (z 1), .int .i64 (z 2), .int .i64 (z 3), .int .i64 (z 4), .int .i64 (z 5), .int .i64 (z 6), .int .i64 (z 7), .int .i64 (z 8), .int .i64 (z 9), .int .i64 (z 10), .int .i64 (z 11), .int .i64 (z 12), .int .i64 (z 13), .int .i64 (z 14), .int .i64 (z 15)] := Fp.out.take 16
          go_upto_region 9 with (first | ((with_reducible show wpList _ _ _ (_ :: _) _ _); refine wpList_load_mid rfl 27 (.tmp 24) rfl np 0 rfl [.int .i64 (z 0), .int .i64 (z 1), .int .i64 (z 2), .int .i64 (z 3), .int .i64 (z 4), .int .i64 (z 5), .int .i64 (z 6), .int .i64 (z 7), .int .i64 (z 8), .int .i64 (z 9), .int .i64 (z 10), .int .i64 (z 11), .int .i64 (z 12), .int .i64 (z 13), .int .i64 (z 14), .int .i64 (z 15)] _ Rp Try.underlying27 rfl hsC ?_) | (go_at_call 7; refine (HC.out _).mono ?_; rintro e u0 ⟨rfl, x0⟩))
          have Fp : Hid (HV u0 np [.int .i64 (z 0), .int .i64 (z 1), .int .i64 (z 2), .int .i64 (z 3), .int .i64 (z 4), .int .i64 (z 5), .int .i64 (z 6), .int .i64 (z 7), .int .i64 (z 8), .int .i64 (z 9), .int .i64 (z 10), .int .i64 (z 11), .int .i64 (z 12), .int .i64 (z 13), .int .i64 (z 14), .int .i64 (z 15), .int .i64 (z 16), .int .i64 (z 17), .int .i64 (z 18), .int .i64 (z 19)]) := Fp.out.ext x0
          have FX : Hid (Ext w u0) := FX.out.trans x0
          clear Rp x0 HC
          have qp16 : u0.cell? ⟨np, 16, none⟩ = some (.int .i64 (z 16)) := Fp.out.c 16 rfl
          have qp17 : u0.cell? ⟨np, 17, none⟩ = some (.int .i64 (z 17)) := Fp.out.c 17 rfl
          have qp18 : u0.cell? ⟨np, 18, none⟩ = some (.int .i64 (z 18)) := Fp.out.c 18 rfl
          have qp19 : u0.cell? ⟨np, 19, none⟩ = some (.int .i64 (z 19)) := Fp.out.c 19 rfl
          go_upto_region 11 with (first | (go_at_call 8; refine (HR.out _).mono ?_; rintro e u1 ⟨rfl, x1⟩))
          have Fp : Hid (HV u1 np [.int .i64 (z 0), .int .i64 (z 1), .int .i64 (z 2), .int .i64 (z 3), .int .i64 (z 4), .int .i64 (z 5), .int .i64 (z 6), .int .i64 (z 7), .int .i64 (z 8), .int .i64 (z 9), .int .i64 (z 10), .int .i64 (z 11), .int .i64 (z 12), .int .i64 (z 13), .int .i64 (z 14), .int .i64 (z 15), .int .i64 (z 16), .int .i64 (z 17), .int .i64 (z 18), .int .i64 (z 19)]) := Fp.out.ext x1
          have FX : Hid (Ext w u1) := FX.out.trans x1
          clear qp16 qp17 qp18 qp19 x1 HR
          go_upto_region 12 with fail
          have ltpn : np < u1.heap.size := Fp.out.1
          have Ln : Hid (w.heap.size ≤ u1.heap.size) := FX.out.size
          have Fp : Hid (HV (u1.alloc (.cells #[.int .i64 0, .int .i64 0, .int .i64 0] 24)) np [.int .i64 (z 0), .int .i64 (z 1), .int .i64 (z 2), .int .i64 (z 3), .int .i64 (z 4), .int .i64 (z 5), .int .i64 (z 6), .int .i64 (z 7), .int .i64 (z 8), .int .i64 (z 9), .int .i64 (z 10), .int .i64 (z 11), .int .i64 (z 12), .int .i64 (z 13), .int .i64 (z 14), .int .i64 (z 15), .int .i64 (z 16), .int .i64 (z 17), .int .i64 (z 18), .int .i64 (z 19)]) := Fp.out.alloc _
          have Fn : Hid (HV (u1.alloc (.cells #[.int .i64 0, .int .i64 0, .int .i64 0] 24)) u1.heap.size [.int .i64 0, .int .i64 0, .int .i64 0]) := hv_at rfl
          have FX : Hid (Ext w (u1.alloc (.cells #[.int .i64 0, .int .i64 0, .int .i64 0] 24))) := FX.out.alloc _
          generalize (u1.alloc (.cells #[.int .i64 0, .int .i64 0, .int .i64 0] 24)) = wx1 at *
          generalize u1.heap.size = nn at *
          go_upto_region 14 with fail
          have Rp : wx1.rangeAt np 0 [.int .i64 (z 0), .int .i64 (z 1), .int .i64 (z 2), .int .i64 (z 3), .int .i64 (z 4), .int .i64 (z 5), .int .i64 (z 6), .int .i64 (z 7), .int .i64 (z 8), .int .i64 (z 9), .int .i64 (z 10), .int .i64 (z 11), .int .i64 (z 12), .int .i64 (z 13), .int .i64 (z 14), .int .i64 (z 15)] := Fp.out.take 16
          have qp16 : wx1.cell? ⟨np, 16, none⟩ = some (.int .i64 (z 16)) := Fp.out.c 16 rfl
          have qp17 : wx1.cell? ⟨np, 17, none⟩ = some (.int .i64 (z 17)) := Fp.out.c 17 rfl
          have qp18 : wx1.cell? ⟨np, 18, none⟩ = some (.int .i64 (z 18)) := Fp.out.c 18 rfl
          have qp19 : wx1.cell? ⟨np, 19, none⟩ = some (.int .i64 (z 19)) := Fp.out.c 19 rfl
          go_upto_region 15 with (first | ((with_reducible show wpList _ _ _ (_ :: _) _ _); refine wpList_load_mid rfl 27 (.tmp 44) rfl np 0 rfl [.int .i64 (z 0), .int .i64 (z 1), .int .i64 (z 2), .int .i64 (z 3), .int .i64 (z 4), .int .i64 (z 5), .int .i64 (z 6), .int .i64 (z 7), .int .i64 (z 8), .int .i64 (z 9), .int .i64 (z 10), .int .i64 (z 11), .int .i64 (z 12), .int .i64 (z 13), .int .i64 (z 14), .int .i64 (z 15)] _ Rp Try.underlying27 rfl hsC ?_) | (go_at_call 10; refine (HA.out _).mono ?_; rintro e u3 ⟨rfl, x3⟩))
          have Fp : Hid (HV u3 np [.int .i64 (z 0), .int .i64 (z 1), .int .i64 (z 2), .int .i64 (z 3), .int .i64 (z 4), .int .i64 (z 5), .int .i64 (z 6), .int .i64 (z 7), .int .i64 (z 8), .int .i64 (z 9), .int .i64 (z 10), .int .i64 (z 11), .int .i64 (z 12), .int .i64 (z 13), .int .i64 (z 14), .int .i64 (z 15), .int .i64 (z 16), .int .i64 (z 17), .int .i64 (z 18), .int .i64 (z 19)]) := Fp.out.ext x3
          have Fn : Hid (HV u3 nn [.int .i64 0, .int .i64 0, .int .i64 0]) := Fn.out.ext x3
          have FX : Hid (Ext w u3) := FX.out.trans x3
          clear Rp qp16 qp17 qp18 qp19 x3 HA
          have ltpv : np < u3.heap.size := Fp.out.1
          have ltnv : nn < u3.heap.size := Fn.out.1
          have Lv : Hid (w.heap.size ≤ u3.heap.size) := FX.out.size
          have Fp : Hid (HV (u3.alloc (.cells #[.int .i64 0, .int .i64 0, .int .i64 0] 24)) np [.int .i64 (z 0), .int .i64 (z 1), .int .i64 (z 2), .int .i64 (z 3), .int .i64 (z 4), .int .i64 (z 5), .int .i64 (z 6), .int .i64 (z 7), .int .i64 (z 8), .int .i64 (z 9), .int .i64 (z 10), .int .i64 (z 11), .int .i64 (z 12), .int .i64 (z 13), .int .i64 (z 14), .int .i64 (z 15), .int .i64 (z 16), .int .i64 (z 17), .int .i64 (z 18), .int .i64 (z 19)]) := Fp.out.alloc _
          have Fn : Hid (HV (u3.alloc (.cells #[.int .i64 0, .int .i64 0, .int .i64 0] 24)) nn [.int .i64 0, .int .i64 0, .int .i64 0]) := Fn.out.alloc _
          have Fv : Hid (HV (u3.alloc (.cells #[.int .i64 0, .int .i64 0, .int .i64 0] 24)) u3.heap.size [.int .i64 0, .int .i64 0, .int .i64 0]) := hv_at rfl
          have FX : Hid (Ext w (u3.alloc (.cells #[.int .i64 0, .int .i64 0, .int .i64 0] 24))) := FX.out.alloc _
          generalize (u3.alloc (.cells #[.int .i64 0, .int .i64 0, .int .i64 0] 24)) = wx2 at *
          generalize u3.heap.size = nv at *
          have Rp : wx2.rangeAt np 0 [.int .i64 (z 0), .int .i64 (z 1), .int .i64 (z 2), .int .i64 (z 3), .int .i64 (z 4), .int .i64 (z 5), .int .i64 (z 6), .int .i64 (z 7), .int .i64 (z 8), .int .i64 (z 9), .int .i64 (z 10), .int .i64 (z 11), .int .i64 (z 12), .int .i64 (z 13), .int .i64 (z 14), .int .i64 (z 15)] := Fp.out.take 16
          have hq := eqCal
          go_wp2_with (first | ((with_reducible show wpList _ _ _ (_ :: _) _ _); refine wpList_load_mid rfl 27 (.tmp 51) rfl np 0 rfl [.int .i64 (z 0), .int .i64 (z 1), .int .i64 (z 2), .int .i64 (z 3), .int .i64 (z 4), .int .i64 (z 5), .int .i64 (z 6), .int .i64 (z 7), .int .i64 (z 8), .int .i64 (z 9), .int .i64 (z 10), .int .i64 (z 11), .int .i64 (z 12), .int .i64 (z 13), .int .i64 (z 14), .int .i64 (z 15)] _ Rp Try.underlying27 rfl hsC ?_) | (go_at_call 12; refine (HK.out _).mono ?_; rintro e u4 ⟨rfl, x4⟩; have kn0 : u4.cell? ⟨nn, 0, none⟩ = some (.int .i64 0) := (Fn.out.ext x4).c 0 rfl; have kn1 : u4.cell? ⟨nn, 1, none⟩ = some (.int .i64 0) := (Fn.out.ext x4).c 1 rfl; have kn2 : u4.cell? ⟨nn, 2, none⟩ = some (.int .i64 0) := (Fn.out.ext x4).c 2 rfl; have kv0 : u4.cell? ⟨nv, 0, none⟩ = some (.int .i64 0) := (Fv.out.ext x4).c 0 rfl; have kv1 : u4.cell? ⟨nv, 1, none⟩ = some (.int .i64 0) := (Fv.out.ext x4).c 1 rfl; have kv2 : u4.cell? ⟨nv, 2, none⟩ = some (.int .i64 0) := (Fv.out.ext x4).c 2 rfl) | (go_at_call 11; refine (num10_any _ _).mono ?_; rintro e wx ⟨rfl, hwx⟩; have hwy := hwx.symm; clear hwx; subst hwy) | (go_at_call 13; refine (plain_any _).mono ?_; rintro e u5 ⟨rfl, x5⟩) | (go_at_call 14; refine (rplain_any _).mono ?_; rintro e u6 ⟨rfl, x6⟩))
          go_roundw
          case rel => exact ⟨k + 1, by omega, by go_num, FX.out.trans (x4.trans (x5.trans x6))⟩
          case measure => simp [intOf]; omega
        · have HC : Hid (∀ w, Calls Try.prog 7 #[.agg #[.int .i64 (z 0), .int .i64 (z 1), .int .i64 (z 2), .int .i64 (z 3), .int .i64 (z 4), .int .i64 (z 5), .int .i64 (z 6), .int .i64 (z 7), .int .i64 (z 8), .int .i64 (z 9), .int .i64 (z 10), .int .i64 (z 11), .int .i64 (z 12), .int .i64 (z 13), .int .i64 (z 14), .int .i64 (z 15)]] w fun e w' => e = .returned (.bool false) ∧ Ext w w') := fun w => by have h := maycal_any (z 0) (z 1) (z 2) (z 3) (z 4) (z 5) (z 6) (fun k => z (7 + k)) w; rw [h1] at h; exact h
          have HR : Hid (∀ w, Calls Try.prog 8 #[.agg #[.int .i64 (z 16), .int .i64 (z 17), .int .i64 (z 18), .int .i64 (z 19)]] w fun e w' => e = .returned (.bool true) ∧ Ext w w') := fun w => by have h := mayraw_any (z 16) (z 17) (z 18) (z 19) w; rw [h2] at h; exact h
          have HK : Hid (∀ w, Calls Try.prog 12 #[.agg #[.int .i64 (z 0), .int .i64 (z 1), .int .i64 (z 2), .int .i64 (z 3), .int .i64 (z 4), .int .i64 (z 5), .int .i64 (z 6), .int .i64 (z 7), .int .i64 (z 8), .int .i64 (z 9), .int .i64 (z 10), .int .i64 (z 11), .int .i64 (z 12), .int .i64 (z 13), .int .i64 (z 14), .int .i64 (z 15)]] w fun e w' => e = .returned (.int .i64 1) ∧ Ext w w') := fun w => by have h := cCheck_any (z 0) (z 1) (z 2) (z 3) (z 4) (z 5) (z 6) (fun k => z (7 + k)) w; unfold chkC at h; rw [h1] at h; exact h
          have HA : Hid (∀ w, Calls Try.prog 10 #[.agg #[.int .i64 (z 0), .int .i64 (z 1), .int .i64 (z 2), .int .i64 (z 3), .int .i64 (z 4), .int .i64 (z 5), .int .i64 (z 6), .int .i64 (z 7), .int .i64 (z 8), .int .i64 (z 9), .int .i64 (z 10), .int .i64 (z 11), .int .i64 (z 12), .int .i64 (z 13), .int .i64 (z 14), .int .i64 (z 15)], .agg #[.int .i64 (z 16), .int .i64 (z 17), .int .i64 (z 18), .int .i64 (z 19)]] w fun e w' => e = .returned (.tuple #[.agg #[.int .i64 0, .int .i64 0, .int .i64 0], .int .i64 1]) ∧ Ext w w') := fun w => by have h := cApply_any (z 0) (z 1) (z 2) (z 3) (z 4) (z 5) (z 6) (fun k => z (7 + k)) (z 16) (z 17) (z 18) (z 19) w; unfold calR at h; rw [h1] at h; exact h
          clear h1 h2
          have Rp : w0.rangeAt np 0 [.int .i64 (z 0), .int .i64 (z 1), .int .i64 (z 2), .int .i64 (z 3), .int .i64 (z 4), .int .i64 (z 5), .int .i64 (z 6), .int .i64 (z 7), .int .i64 (z 8), .int .i64 (z 9), .int .i64 (z 10), .int .i64 (z 11), .int .i64 (z 12), .int .i64 (z 13), .int .i64 (z 14), .int .i64 (z 15)] := Fp.out.take 16
          go_upto_region 9 with (first | ((with_reducible show wpList _ _ _ (_ :: _) _ _); refine wpList_load_mid rfl 27 (.tmp 24) rfl np 0 rfl [.int .i64 (z 0), .int .i64 (z 1), .int .i64 (z 2), .int .i64 (z 3), .int .i64 (z 4), .int .i64 (z 5), .int .i64 (z 6), .int .i64 (z 7), .int .i64 (z 8), .int .i64 (z 9), .int .i64 (z 10), .int .i64 (z 11), .int .i64 (z 12), .int .i64 (z 13), .int .i64 (z 14), .int .i64 (z 15)] _ Rp Try.underlying27 rfl hsC ?_) | (go_at_call 7; refine (HC.out _).mono ?_; rintro e u0 ⟨rfl, x0⟩))
          have Fp : Hid (HV u0 np [.int .i64 (z 0), .int .i64 (z 1), .int .i64 (z 2), .int .i64 (z 3), .int .i64 (z 4), .int .i64 (z 5), .int .i64 (z 6), .int .i64 (z 7), .int .i64 (z 8), .int .i64 (z 9), .int .i64 (z 10), .int .i64 (z 11), .int .i64 (z 12), .int .i64 (z 13), .int .i64 (z 14), .int .i64 (z 15), .int .i64 (z 16), .int .i64 (z 17), .int .i64 (z 18), .int .i64 (z 19)]) := Fp.out.ext x0
          have FX : Hid (Ext w u0) := FX.out.trans x0
          clear Rp x0 HC
          have qp16 : u0.cell? ⟨np, 16, none⟩ = some (.int .i64 (z 16)) := Fp.out.c 16 rfl
          have qp17 : u0.cell? ⟨np, 17, none⟩ = some (.int .i64 (z 17)) := Fp.out.c 17 rfl
          have qp18 : u0.cell? ⟨np, 18, none⟩ = some (.int .i64 (z 18)) := Fp.out.c 18 rfl
          have qp19 : u0.cell? ⟨np, 19, none⟩ = some (.int .i64 (z 19)) := Fp.out.c 19 rfl
          go_upto_region 11 with (first | (go_at_call 8; refine (HR.out _).mono ?_; rintro e u1 ⟨rfl, x1⟩))
          have Fp : Hid (HV u1 np [.int .i64 (z 0), .int .i64 (z 1), .int .i64 (z 2), .int .i64 (z 3), .int .i64 (z 4), .int .i64 (z 5), .int .i64 (z 6), .int .i64 (z 7), .int .i64 (z 8), .int .i64 (z 9), .int .i64 (z 10), .int .i64 (z 11), .int .i64 (z 12), .int .i64 (z 13), .int .i64 (z 14), .int .i64 (z 15), .int .i64 (z 16), .int .i64 (z 17), .int .i64 (z 18), .int .i64 (z 19)]) := Fp.out.ext x1
          have FX : Hid (Ext w u1) := FX.out.trans x1
          clear qp16 qp17 qp18 qp19 x1 HR
          go_upto_region 12 with fail
          have ltpn : np < u1.heap.size := Fp.out.1
          have Ln : Hid (w.heap.size ≤ u1.heap.size) := FX.out.size
          have Fp : Hid (HV (u1.alloc (.cells #[.int .i64 0, .int .i64 0, .int .i64 0] 24)) np [.int .i64 (z 0), .int .i64 (z 1), .int .i64 (z 2), .int .i64 (z 3), .int .i64 (z 4), .int .i64 (z 5), .int .i64 (z 6), .int .i64 (z 7), .int .i64 (z 8), .int .i64 (z 9), .int .i64 (z 10), .int .i64 (z 11), .int .i64 (z 12), .int .i64 (z 13), .int .i64 (z 14), .int .i64 (z 15), .int .i64 (z 16), .int .i64 (z 17), .int .i64 (z 18), .int .i64 (z 19)]) := Fp.out.alloc _
          have Fn : Hid (HV (u1.alloc (.cells #[.int .i64 0, .int .i64 0, .int .i64 0] 24)) u1.heap.size [.int .i64 0, .int .i64 0, .int .i64 0]) := hv_at rfl
          have FX : Hid (Ext w (u1.alloc (.cells #[.int .i64 0, .int .i64 0, .int .i64 0] 24))) := FX.out.alloc _
          generalize (u1.alloc (.cells #[.int .i64 0, .int .i64 0, .int .i64 0] 24)) = wx1 at *
          generalize u1.heap.size = nn at *
          go_upto_region 14 with fail
          have Rp : wx1.rangeAt np 0 [.int .i64 (z 0), .int .i64 (z 1), .int .i64 (z 2), .int .i64 (z 3), .int .i64 (z 4), .int .i64 (z 5), .int .i64 (z 6), .int .i64 (z 7), .int .i64 (z 8), .int .i64 (z 9), .int .i64 (z 10), .int .i64 (z 11), .int .i64 (z 12), .int .i64 (z 13), .int .i64 (z 14), .int .i64 (z 15)] := Fp.out.take 16
          have qp16 : wx1.cell? ⟨np, 16, none⟩ = some (.int .i64 (z 16)) := Fp.out.c 16 rfl
          have qp17 : wx1.cell? ⟨np, 17, none⟩ = some (.int .i64 (z 17)) := Fp.out.c 17 rfl
          have qp18 : wx1.cell? ⟨np, 18, none⟩ = some (.int .i64 (z 18)) := Fp.out.c 18 rfl
          have qp19 : wx1.cell? ⟨np, 19, none⟩ = some (.int .i64 (z 19)) := Fp.out.c 19 rfl
          go_upto_region 15 with (first | ((with_reducible show wpList _ _ _ (_ :: _) _ _); refine wpList_load_mid rfl 27 (.tmp 44) rfl np 0 rfl [.int .i64 (z 0), .int .i64 (z 1), .int .i64 (z 2), .int .i64 (z 3), .int .i64 (z 4), .int .i64 (z 5), .int .i64 (z 6), .int .i64 (z 7), .int .i64 (z 8), .int .i64 (z 9), .int .i64 (z 10), .int .i64 (z 11), .int .i64 (z 12), .int .i64 (z 13), .int .i64 (z 14), .int .i64 (z 15)] _ Rp Try.underlying27 rfl hsC ?_) | (go_at_call 10; refine (HA.out _).mono ?_; rintro e u3 ⟨rfl, x3⟩))
          have Fp : Hid (HV u3 np [.int .i64 (z 0), .int .i64 (z 1), .int .i64 (z 2), .int .i64 (z 3), .int .i64 (z 4), .int .i64 (z 5), .int .i64 (z 6), .int .i64 (z 7), .int .i64 (z 8), .int .i64 (z 9), .int .i64 (z 10), .int .i64 (z 11), .int .i64 (z 12), .int .i64 (z 13), .int .i64 (z 14), .int .i64 (z 15), .int .i64 (z 16), .int .i64 (z 17), .int .i64 (z 18), .int .i64 (z 19)]) := Fp.out.ext x3
          have Fn : Hid (HV u3 nn [.int .i64 0, .int .i64 0, .int .i64 0]) := Fn.out.ext x3
          have FX : Hid (Ext w u3) := FX.out.trans x3
          clear Rp qp16 qp17 qp18 qp19 x3 HA
          have ltpv : np < u3.heap.size := Fp.out.1
          have ltnv : nn < u3.heap.size := Fn.out.1
          have Lv : Hid (w.heap.size ≤ u3.heap.size) := FX.out.size
          have Fp : Hid (HV (u3.alloc (.cells #[.int .i64 0, .int .i64 0, .int .i64 0] 24)) np [.int .i64 (z 0), .int .i64 (z 1), .int .i64 (z 2), .int .i64 (z 3), .int .i64 (z 4), .int .i64 (z 5), .int .i64 (z 6), .int .i64 (z 7), .int .i64 (z 8), .int .i64 (z 9), .int .i64 (z 10), .int .i64 (z 11), .int .i64 (z 12), .int .i64 (z 13), .int .i64 (z 14), .int .i64 (z 15), .int .i64 (z 16), .int .i64 (z 17), .int .i64 (z 18), .int .i64 (z 19)]) := Fp.out.alloc _
          have Fn : Hid (HV (u3.alloc (.cells #[.int .i64 0, .int .i64 0, .int .i64 0] 24)) nn [.int .i64 0, .int .i64 0, .int .i64 0]) := Fn.out.alloc _
          have Fv : Hid (HV (u3.alloc (.cells #[.int .i64 0, .int .i64 0, .int .i64 0] 24)) u3.heap.size [.int .i64 0, .int .i64 0, .int .i64 0]) := hv_at rfl
          have FX : Hid (Ext w (u3.alloc (.cells #[.int .i64 0, .int .i64 0, .int .i64 0] 24))) := FX.out.alloc _
          generalize (u3.alloc (.cells #[.int .i64 0, .int .i64 0, .int .i64 0] 24)) = wx2 at *
          generalize u3.heap.size = nv at *
          have Rp : wx2.rangeAt np 0 [.int .i64 (z 0), .int .i64 (z 1), .int .i64 (z 2), .int .i64 (z 3), .int .i64 (z 4), .int .i64 (z 5), .int .i64 (z 6), .int .i64 (z 7), .int .i64 (z 8), .int .i64 (z 9), .int .i64 (z 10), .int .i64 (z 11), .int .i64 (z 12), .int .i64 (z 13), .int .i64 (z 14), .int .i64 (z 15)] := Fp.out.take 16
          have hq := eqCal
          go_wp2_with (first | ((with_reducible show wpList _ _ _ (_ :: _) _ _); refine wpList_load_mid rfl 27 (.tmp 51) rfl np 0 rfl [.int .i64 (z 0), .int .i64 (z 1), .int .i64 (z 2), .int .i64 (z 3), .int .i64 (z 4), .int .i64 (z 5), .int .i64 (z 6), .int .i64 (z 7), .int .i64 (z 8), .int .i64 (z 9), .int .i64 (z 10), .int .i64 (z 11), .int .i64 (z 12), .int .i64 (z 13), .int .i64 (z 14), .int .i64 (z 15)] _ Rp Try.underlying27 rfl hsC ?_) | (go_at_call 12; refine (HK.out _).mono ?_; rintro e u4 ⟨rfl, x4⟩; have kn0 : u4.cell? ⟨nn, 0, none⟩ = some (.int .i64 0) := (Fn.out.ext x4).c 0 rfl; have kn1 : u4.cell? ⟨nn, 1, none⟩ = some (.int .i64 0) := (Fn.out.ext x4).c 1 rfl; have kn2 : u4.cell? ⟨nn, 2, none⟩ = some (.int .i64 0) := (Fn.out.ext x4).c 2 rfl; have kv0 : u4.cell? ⟨nv, 0, none⟩ = some (.int .i64 0) := (Fv.out.ext x4).c 0 rfl; have kv1 : u4.cell? ⟨nv, 1, none⟩ = some (.int .i64 0) := (Fv.out.ext x4).c 1 rfl; have kv2 : u4.cell? ⟨nv, 2, none⟩ = some (.int .i64 0) := (Fv.out.ext x4).c 2 rfl) | (go_at_call 11; refine (num10_any _ _).mono ?_; rintro e wx ⟨rfl, hwx⟩; have hwy := hwx.symm; clear hwx; subst hwy) | (go_at_call 13; refine (plain_any _).mono ?_; rintro e u5 ⟨rfl, x5⟩) | (go_at_call 14; refine (rplain_any _).mono ?_; rintro e u6 ⟨rfl, x6⟩))
          go_roundw
          case rel => exact ⟨k + 1, by omega, by go_num, FX.out.trans (x4.trans (x5.trans x6))⟩
          case measure => simp [intOf]; omega
        · have HC : Hid (∀ w, Calls Try.prog 7 #[.agg #[.int .i64 (z 0), .int .i64 (z 1), .int .i64 (z 2), .int .i64 (z 3), .int .i64 (z 4), .int .i64 (z 5), .int .i64 (z 6), .int .i64 (z 7), .int .i64 (z 8), .int .i64 (z 9), .int .i64 (z 10), .int .i64 (z 11), .int .i64 (z 12), .int .i64 (z 13), .int .i64 (z 14), .int .i64 (z 15)]] w fun e w' => e = .returned (.bool true) ∧ Ext w w') := fun w => by have h := maycal_any (z 0) (z 1) (z 2) (z 3) (z 4) (z 5) (z 6) (fun k => z (7 + k)) w; rw [h1] at h; exact h
          have HR : Hid (∀ w, Calls Try.prog 8 #[.agg #[.int .i64 (z 16), .int .i64 (z 17), .int .i64 (z 18), .int .i64 (z 19)]] w fun e w' => e = .returned (.bool false) ∧ Ext w w') := fun w => by have h := mayraw_any (z 16) (z 17) (z 18) (z 19) w; rw [h2] at h; exact h
          have HK : Hid (∀ w, Calls Try.prog 12 #[.agg #[.int .i64 (z 0), .int .i64 (z 1), .int .i64 (z 2), .int .i64 (z 3), .int .i64 (z 4), .int .i64 (z 5), .int .i64 (z 6), .int .i64 (z 7), .int .i64 (z 8), .int .i64 (z 9), .int .i64 (z 10), .int .i64 (z 11), .int .i64 (z 12), .int .i64 (z 13), .int .i64 (z 14), .int .i64 (z 15)]] w fun e w' => e = .returned (.int .i64 0) ∧ Ext w w') := fun w => by have h := cCheck_any (z 0) (z 1) (z 2) (z 3) (z 4) (z 5) (z 6) (fun k => z (7 + k)) w; unfold chkC at h; rw [h1] at h; exact h
          have HA : Hid (∀ w, Calls Try.prog 10 #[.agg #[.int .i64 (z 0), .int .i64 (z 1), .int .i64 (z 2), .int .i64 (z 3), .int .i64 (z 4), .int .i64 (z 5), .int .i64 (z 6), .int .i64 (z 7), .int .i64 (z 8), .int .i64 (z 9), .int .i64 (z 10), .int .i64 (z 11), .int .i64 (z 12), .int .i64 (z 13), .int .i64 (z 14), .int .i64 (z 15)], .agg #[.int .i64 (z 16), .int .i64 (z 17), .int .i64 (z 18), .int .i64 (z 19)]] w fun e w' => e = .returned (.tuple #[.agg #[.int .i64 0, .int .i64 0, .int .i64 0], .int .i64 1]) ∧ Ext w w') := fun w => by have h := cApply_any (z 0) (z 1) (z 2) (z 3) (z 4) (z 5) (z 6) (fun k => z (7 + k)) (z 16) (z 17) (z 18) (z 19) w; unfold calR at h; rw [h1, h2] at h; exact h
          clear h1 h2
          have Rp : w0.rangeAt np 0 [.int .i64 (z 0), .int .i64 (z 1), .int .i64 (z 2), .int .i64 (z 3), .int .i64 (z 4), .int .i64 (z 5), .int .i64 (z 6), .int .i64 (z 7), .int .i64 (z 8), .int .i64 (z 9), .int .i64 (z 10), .int .i64 (z 11), .int .i64 (z 12), .int .i64 (z 13), .int .i64 (z 14), .int .i64 (z 15)] := Fp.out.take 16
          go_upto_region 9 with (first | ((with_reducible show wpList _ _ _ (_ :: _) _ _); refine wpList_load_mid rfl 27 (.tmp 24) rfl np 0 rfl [.int .i64 (z 0), .int .i64 (z 1), .int .i64 (z 2), .int .i64 (z 3), .int .i64 (z 4), .int .i64 (z 5), .int .i64 (z 6), .int .i64 (z 7), .int .i64 (z 8), .int .i64 (z 9), .int .i64 (z 10), .int .i64 (z 11), .int .i64 (z 12), .int .i64 (z 13), .int .i64 (z 14), .int .i64 (z 15)] _ Rp Try.underlying27 rfl hsC ?_) | (go_at_call 7; refine (HC.out _).mono ?_; rintro e u0 ⟨rfl, x0⟩))
          have Fp : Hid (HV u0 np [.int .i64 (z 0), .int .i64 (z 1), .int .i64 (z 2), .int .i64 (z 3), .int .i64 (z 4), .int .i64 (z 5), .int .i64 (z 6), .int .i64 (z 7), .int .i64 (z 8), .int .i64 (z 9), .int .i64 (z 10), .int .i64 (z 11), .int .i64 (z 12), .int .i64 (z 13), .int .i64 (z 14), .int .i64 (z 15), .int .i64 (z 16), .int .i64 (z 17), .int .i64 (z 18), .int .i64 (z 19)]) := Fp.out.ext x0
          have FX : Hid (Ext w u0) := FX.out.trans x0
          clear Rp x0 HC
          have qp16 : u0.cell? ⟨np, 16, none⟩ = some (.int .i64 (z 16)) := Fp.out.c 16 rfl
          have qp17 : u0.cell? ⟨np, 17, none⟩ = some (.int .i64 (z 17)) := Fp.out.c 17 rfl
          have qp18 : u0.cell? ⟨np, 18, none⟩ = some (.int .i64 (z 18)) := Fp.out.c 18 rfl
          have qp19 : u0.cell? ⟨np, 19, none⟩ = some (.int .i64 (z 19)) := Fp.out.c 19 rfl
          go_upto_region 11 with (first | (go_at_call 8; refine (HR.out _).mono ?_; rintro e u1 ⟨rfl, x1⟩))
          have Fp : Hid (HV u1 np [.int .i64 (z 0), .int .i64 (z 1), .int .i64 (z 2), .int .i64 (z 3), .int .i64 (z 4), .int .i64 (z 5), .int .i64 (z 6), .int .i64 (z 7), .int .i64 (z 8), .int .i64 (z 9), .int .i64 (z 10), .int .i64 (z 11), .int .i64 (z 12), .int .i64 (z 13), .int .i64 (z 14), .int .i64 (z 15), .int .i64 (z 16), .int .i64 (z 17), .int .i64 (z 18), .int .i64 (z 19)]) := Fp.out.ext x1
          have FX : Hid (Ext w u1) := FX.out.trans x1
          clear qp16 qp17 qp18 qp19 x1 HR
          go_upto_region 12 with fail
          have ltpn : np < u1.heap.size := Fp.out.1
          have Ln : Hid (w.heap.size ≤ u1.heap.size) := FX.out.size
          have Fp : Hid (HV (u1.alloc (.cells #[.int .i64 0, .int .i64 0, .int .i64 0] 24)) np [.int .i64 (z 0), .int .i64 (z 1), .int .i64 (z 2), .int .i64 (z 3), .int .i64 (z 4), .int .i64 (z 5), .int .i64 (z 6), .int .i64 (z 7), .int .i64 (z 8), .int .i64 (z 9), .int .i64 (z 10), .int .i64 (z 11), .int .i64 (z 12), .int .i64 (z 13), .int .i64 (z 14), .int .i64 (z 15), .int .i64 (z 16), .int .i64 (z 17), .int .i64 (z 18), .int .i64 (z 19)]) := Fp.out.alloc _
          have Fn : Hid (HV (u1.alloc (.cells #[.int .i64 0, .int .i64 0, .int .i64 0] 24)) u1.heap.size [.int .i64 0, .int .i64 0, .int .i64 0]) := hv_at rfl
          have FX : Hid (Ext w (u1.alloc (.cells #[.int .i64 0, .int .i64 0, .int .i64 0] 24))) := FX.out.alloc _
          generalize (u1.alloc (.cells #[.int .i64 0, .int .i64 0, .int .i64 0] 24)) = wx1 at *
          generalize u1.heap.size = nn at *
          go_upto_region 14 with fail
          have Rp : wx1.rangeAt np 0 [.int .i64 (z 0), .int .i64 (z 1), .int .i64 (z 2), .int .i64 (z 3), .int .i64 (z 4), .int .i64 (z 5), .int .i64 (z 6), .int .i64 (z 7), .int .i64 (z 8), .int .i64 (z 9), .int .i64 (z 10), .int .i64 (z 11), .int .i64 (z 12), .int .i64 (z 13), .int .i64 (z 14), .int .i64 (z 15)] := Fp.out.take 16
          have qp16 : wx1.cell? ⟨np, 16, none⟩ = some (.int .i64 (z 16)) := Fp.out.c 16 rfl
          have qp17 : wx1.cell? ⟨np, 17, none⟩ = some (.int .i64 (z 17)) := Fp.out.c 17 rfl
          have qp18 : wx1.cell? ⟨np, 18, none⟩ = some (.int .i64 (z 18)) := Fp.out.c 18 rfl
          have qp19 : wx1.cell? ⟨np, 19, none⟩ = some (.int .i64 (z 19)) := Fp.out.c 19 rfl
          go_upto_region 15 with (first | ((with_reducible show wpList _ _ _ (_ :: _) _ _); refine wpList_load_mid rfl 27 (.tmp 44) rfl np 0 rfl [.int .i64 (z 0), .int .i64 (z 1), .int .i64 (z 2), .int .i64 (z 3), .int .i64 (z 4), .int .i64 (z 5), .int .i64 (z 6), .int .i64 (z 7), .int .i64 (z 8), .int .i64 (z 9), .int .i64 (z 10), .int .i64 (z 11), .int .i64 (z 12), .int .i64 (z 13), .int .i64 (z 14), .int .i64 (z 15)] _ Rp Try.underlying27 rfl hsC ?_) | (go_at_call 10; refine (HA.out _).mono ?_; rintro e u3 ⟨rfl, x3⟩))
          have Fp : Hid (HV u3 np [.int .i64 (z 0), .int .i64 (z 1), .int .i64 (z 2), .int .i64 (z 3), .int .i64 (z 4), .int .i64 (z 5), .int .i64 (z 6), .int .i64 (z 7), .int .i64 (z 8), .int .i64 (z 9), .int .i64 (z 10), .int .i64 (z 11), .int .i64 (z 12), .int .i64 (z 13), .int .i64 (z 14), .int .i64 (z 15), .int .i64 (z 16), .int .i64 (z 17), .int .i64 (z 18), .int .i64 (z 19)]) := Fp.out.ext x3
          have Fn : Hid (HV u3 nn [.int .i64 0, .int .i64 0, .int .i64 0]) := Fn.out.ext x3
          have FX : Hid (Ext w u3) := FX.out.trans x3
          clear Rp qp16 qp17 qp18 qp19 x3 HA
          have ltpv : np < u3.heap.size := Fp.out.1
          have ltnv : nn < u3.heap.size := Fn.out.1
          have Lv : Hid (w.heap.size ≤ u3.heap.size) := FX.out.size
          have Fp : Hid (HV (u3.alloc (.cells #[.int .i64 0, .int .i64 0, .int .i64 0] 24)) np [.int .i64 (z 0), .int .i64 (z 1), .int .i64 (z 2), .int .i64 (z 3), .int .i64 (z 4), .int .i64 (z 5), .int .i64 (z 6), .int .i64 (z 7), .int .i64 (z 8), .int .i64 (z 9), .int .i64 (z 10), .int .i64 (z 11), .int .i64 (z 12), .int .i64 (z 13), .int .i64 (z 14), .int .i64 (z 15), .int .i64 (z 16), .int .i64 (z 17), .int .i64 (z 18), .int .i64 (z 19)]) := Fp.out.alloc _
          have Fn : Hid (HV (u3.alloc (.cells #[.int .i64 0, .int .i64 0, .int .i64 0] 24)) nn [.int .i64 0, .int .i64 0, .int .i64 0]) := Fn.out.alloc _
          have Fv : Hid (HV (u3.alloc (.cells #[.int .i64 0, .int .i64 0, .int .i64 0] 24)) u3.heap.size [.int .i64 0, .int .i64 0, .int .i64 0]) := hv_at rfl
          have FX : Hid (Ext w (u3.alloc (.cells #[.int .i64 0, .int .i64 0, .int .i64 0] 24))) := FX.out.alloc _
          generalize (u3.alloc (.cells #[.int .i64 0, .int .i64 0, .int .i64 0] 24)) = wx2 at *
          generalize u3.heap.size = nv at *
          have Rp : wx2.rangeAt np 0 [.int .i64 (z 0), .int .i64 (z 1), .int .i64 (z 2), .int .i64 (z 3), .int .i64 (z 4), .int .i64 (z 5), .int .i64 (z 6), .int .i64 (z 7), .int .i64 (z 8), .int .i64 (z 9), .int .i64 (z 10), .int .i64 (z 11), .int .i64 (z 12), .int .i64 (z 13), .int .i64 (z 14), .int .i64 (z 15)] := Fp.out.take 16
          have hq := eqCal
          go_wp2_with (first | ((with_reducible show wpList _ _ _ (_ :: _) _ _); refine wpList_load_mid rfl 27 (.tmp 51) rfl np 0 rfl [.int .i64 (z 0), .int .i64 (z 1), .int .i64 (z 2), .int .i64 (z 3), .int .i64 (z 4), .int .i64 (z 5), .int .i64 (z 6), .int .i64 (z 7), .int .i64 (z 8), .int .i64 (z 9), .int .i64 (z 10), .int .i64 (z 11), .int .i64 (z 12), .int .i64 (z 13), .int .i64 (z 14), .int .i64 (z 15)] _ Rp Try.underlying27 rfl hsC ?_) | (go_at_call 12; refine (HK.out _).mono ?_; rintro e u4 ⟨rfl, x4⟩; have kn0 : u4.cell? ⟨nn, 0, none⟩ = some (.int .i64 0) := (Fn.out.ext x4).c 0 rfl; have kn1 : u4.cell? ⟨nn, 1, none⟩ = some (.int .i64 0) := (Fn.out.ext x4).c 1 rfl; have kn2 : u4.cell? ⟨nn, 2, none⟩ = some (.int .i64 0) := (Fn.out.ext x4).c 2 rfl; have kv0 : u4.cell? ⟨nv, 0, none⟩ = some (.int .i64 0) := (Fv.out.ext x4).c 0 rfl; have kv1 : u4.cell? ⟨nv, 1, none⟩ = some (.int .i64 0) := (Fv.out.ext x4).c 1 rfl; have kv2 : u4.cell? ⟨nv, 2, none⟩ = some (.int .i64 0) := (Fv.out.ext x4).c 2 rfl) | (go_at_call 11; refine (num10_any _ _).mono ?_; rintro e wx ⟨rfl, hwx⟩; have hwy := hwx.symm; clear hwx; subst hwy) | (go_at_call 13; refine (plain_any _).mono ?_; rintro e u5 ⟨rfl, x5⟩) | (go_at_call 14; refine (rplain_any _).mono ?_; rintro e u6 ⟨rfl, x6⟩))
          go_roundw
          case rel => exact ⟨k + 1, by omega, by go_num, FX.out.trans (x4.trans (x5.trans x6))⟩
          case measure => simp [intOf]; omega
        · have HC : Hid (∀ w, Calls Try.prog 7 #[.agg #[.int .i64 (z 0), .int .i64 (z 1), .int .i64 (z 2), .int .i64 (z 3), .int .i64 (z 4), .int .i64 (z 5), .int .i64 (z 6), .int .i64 (z 7), .int .i64 (z 8), .int .i64 (z 9), .int .i64 (z 10), .int .i64 (z 11), .int .i64 (z 12), .int .i64 (z 13), .int .i64 (z 14), .int .i64 (z 15)]] w fun e w' => e = .returned (.bool true) ∧ Ext w w') := fun w => by have h := maycal_any (z 0) (z 1) (z 2) (z 3) (z 4) (z 5) (z 6) (fun k => z (7 + k)) w; rw [h1] at h; exact h
          have HR : Hid (∀ w, Calls Try.prog 8 #[.agg #[.int .i64 (z 16), .int .i64 (z 17), .int .i64 (z 18), .int .i64 (z 19)]] w fun e w' => e = .returned (.bool true) ∧ Ext w w') := fun w => by have h := mayraw_any (z 16) (z 17) (z 18) (z 19) w; rw [h2] at h; exact h
          have HK : Hid (∀ w, Calls Try.prog 12 #[.agg #[.int .i64 (z 0), .int .i64 (z 1), .int .i64 (z 2), .int .i64 (z 3), .int .i64 (z 4), .int .i64 (z 5), .int .i64 (z 6), .int .i64 (z 7), .int .i64 (z 8), .int .i64 (z 9), .int .i64 (z 10), .int .i64 (z 11), .int .i64 (z 12), .int .i64 (z 13), .int .i64 (z 14), .int .i64 (z 15)]] w fun e w' => e = .returned (.int .i64 0) ∧ Ext w w') := fun w => by have h := cCheck_any (z 0) (z 1) (z 2) (z 3) (z 4) (z 5) (z 6) (fun k => z (7 + k)) w; unfold chkC at h; rw [h1] at h; exact h
          obtain ⟨g0, g1, g2, ge, eg⟩ := vres_shape (nearQ (rowU (fun k => z (7 + k)) (uC (z 0) (z 1) (z 2) (z 3) (z 4) (z 5) (z 6) (z 16) (z 17) (z 18) (z 19)) 0)) (nearQ (rowU (fun k => z (7 + k)) (uC (z 0) (z 1) (z 2) (z 3) (z 4) (z 5) (z 6) (z 16) (z 17) (z 18) (z 19)) 1)) (nearQ (rowU (fun k => z (7 + k)) (uC (z 0) (z 1) (z 2) (z 3) (z 4) (z 5) (z 6) (z 16) (z 17) (z 18) (z 19)) 2))
          have HA : Hid (∀ w, Calls Try.prog 10 #[.agg #[.int .i64 (z 0), .int .i64 (z 1), .int .i64 (z 2), .int .i64 (z 3), .int .i64 (z 4), .int .i64 (z 5), .int .i64 (z 6), .int .i64 (z 7), .int .i64 (z 8), .int .i64 (z 9), .int .i64 (z 10), .int .i64 (z 11), .int .i64 (z 12), .int .i64 (z 13), .int .i64 (z 14), .int .i64 (z 15)], .agg #[.int .i64 (z 16), .int .i64 (z 17), .int .i64 (z 18), .int .i64 (z 19)]] w fun e w' => e = .returned (.tuple #[.agg #[.int .i64 g0, .int .i64 g1, .int .i64 g2], .int .i64 ge]) ∧ Ext w w') := fun w => by have h := cApply_any (z 0) (z 1) (z 2) (z 3) (z 4) (z 5) (z 6) (fun k => z (7 + k)) (z 16) (z 17) (z 18) (z 19) w; unfold calR at h; rw [h1, h2] at h; simp only [Bool.and_self, if_true] at h; rw [eg] at h; exact h
          have HQ : Hid (∀ w, Calls Try.prog 9 #[.agg #[.int .i64 (z 0), .int .i64 (z 1), .int .i64 (z 2), .int .i64 (z 3), .int .i64 (z 4), .int .i64 (z 5), .int .i64 (z 6), .int .i64 (z 7), .int .i64 (z 8), .int .i64 (z 9), .int .i64 (z 10), .int .i64 (z 11), .int .i64 (z 12), .int .i64 (z 13), .int .i64 (z 14), .int .i64 (z 15)], .agg #[.int .i64 (z 16), .int .i64 (z 17), .int .i64 (z 18), .int .i64 (z 19)]] w fun e w' => e = .returned (.tuple #[.agg #[.int .i64 g0, .int .i64 g1, .int .i64 g2], .int .i64 ge]) ∧ Ext w w') := fun w => by have h := rapply_any (z 0) (z 1) (z 2) (z 3) (z 4) (z 5) (z 6) (fun k => z (7 + k)) (z 16) (z 17) (z 18) (z 19) w h1 h2; rw [eg] at h; exact h
          clear eg
          clear h1 h2
          have Rp : w0.rangeAt np 0 [.int .i64 (z 0), .int .i64 (z 1), .int .i64 (z 2), .int .i64 (z 3), .int .i64 (z 4), .int .i64 (z 5), .int .i64 (z 6), .int .i64 (z 7), .int .i64 (z 8), .int .i64 (z 9), .int .i64 (z 10), .int .i64 (z 11), .int .i64 (z 12), .int .i64 (z 13), .int .i64 (z 14), .int .i64 (z 15)] := Fp.out.take 16
          go_upto_region 9 with (first | ((with_reducible show wpList _ _ _ (_ :: _) _ _); refine wpList_load_mid rfl 27 (.tmp 24) rfl np 0 rfl [.int .i64 (z 0), .int .i64 (z 1), .int .i64 (z 2), .int .i64 (z 3), .int .i64 (z 4), .int .i64 (z 5), .int .i64 (z 6), .int .i64 (z 7), .int .i64 (z 8), .int .i64 (z 9), .int .i64 (z 10), .int .i64 (z 11), .int .i64 (z 12), .int .i64 (z 13), .int .i64 (z 14), .int .i64 (z 15)] _ Rp Try.underlying27 rfl hsC ?_) | (go_at_call 7; refine (HC.out _).mono ?_; rintro e u0 ⟨rfl, x0⟩))
          have Fp : Hid (HV u0 np [.int .i64 (z 0), .int .i64 (z 1), .int .i64 (z 2), .int .i64 (z 3), .int .i64 (z 4), .int .i64 (z 5), .int .i64 (z 6), .int .i64 (z 7), .int .i64 (z 8), .int .i64 (z 9), .int .i64 (z 10), .int .i64 (z 11), .int .i64 (z 12), .int .i64 (z 13), .int .i64 (z 14), .int .i64 (z 15), .int .i64 (z 16), .int .i64 (z 17), .int .i64 (z 18), .int .i64 (z 19)]) := Fp.out.ext x0
          have FX : Hid (Ext w u0) := FX.out.trans x0
          clear Rp x0 HC
          have qp16 : u0.cell? ⟨np, 16, none⟩ = some (.int .i64 (z 16)) := Fp.out.c 16 rfl
          have qp17 : u0.cell? ⟨np, 17, none⟩ = some (.int .i64 (z 17)) := Fp.out.c 17 rfl
          have qp18 : u0.cell? ⟨np, 18, none⟩ = some (.int .i64 (z 18)) := Fp.out.c 18 rfl
          have qp19 : u0.cell? ⟨np, 19, none⟩ = some (.int .i64 (z 19)) := Fp.out.c 19 rfl
          go_upto_region 11 with (first | (go_at_call 8; refine (HR.out _).mono ?_; rintro e u1 ⟨rfl, x1⟩))
          have Fp : Hid (HV u1 np [.int .i64 (z 0), .int .i64 (z 1), .int .i64 (z 2), .int .i64 (z 3), .int .i64 (z 4), .int .i64 (z 5), .int .i64 (z 6), .int .i64 (z 7), .int .i64 (z 8), .int .i64 (z 9), .int .i64 (z 10), .int .i64 (z 11), .int .i64 (z 12), .int .i64 (z 13), .int .i64 (z 14), .int .i64 (z 15), .int .i64 (z 16), .int .i64 (z 17), .int .i64 (z 18), .int .i64 (z 19)]) := Fp.out.ext x1
          have FX : Hid (Ext w u1) := FX.out.trans x1
          clear qp16 qp17 qp18 qp19 x1 HR
          go_upto_region 12 with fail
          have ltpn : np < u1.heap.size := Fp.out.1
          have Ln : Hid (w.heap.size ≤ u1.heap.size) := FX.out.size
          have Fp : Hid (HV (u1.alloc (.cells #[.int .i64 0, .int .i64 0, .int .i64 0] 24)) np [.int .i64 (z 0), .int .i64 (z 1), .int .i64 (z 2), .int .i64 (z 3), .int .i64 (z 4), .int .i64 (z 5), .int .i64 (z 6), .int .i64 (z 7), .int .i64 (z 8), .int .i64 (z 9), .int .i64 (z 10), .int .i64 (z 11), .int .i64 (z 12), .int .i64 (z 13), .int .i64 (z 14), .int .i64 (z 15), .int .i64 (z 16), .int .i64 (z 17), .int .i64 (z 18), .int .i64 (z 19)]) := Fp.out.alloc _
          have Fn : Hid (HV (u1.alloc (.cells #[.int .i64 0, .int .i64 0, .int .i64 0] 24)) u1.heap.size [.int .i64 0, .int .i64 0, .int .i64 0]) := hv_at rfl
          have FX : Hid (Ext w (u1.alloc (.cells #[.int .i64 0, .int .i64 0, .int .i64 0] 24))) := FX.out.alloc _
          generalize (u1.alloc (.cells #[.int .i64 0, .int .i64 0, .int .i64 0] 24)) = wx1 at *
          generalize u1.heap.size = nn at *
          go_upto_region 13 with fail
          have Rp : wx1.rangeAt np 0 [.int .i64 (z 0), .int .i64 (z 1), .int .i64 (z 2), .int .i64 (z 3), .int .i64 (z 4), .int .i64 (z 5), .int .i64 (z 6), .int .i64 (z 7), .int .i64 (z 8), .int .i64 (z 9), .int .i64 (z 10), .int .i64 (z 11), .int .i64 (z 12), .int .i64 (z 13), .int .i64 (z 14), .int .i64 (z 15)] := Fp.out.take 16
          have qp16 : wx1.cell? ⟨np, 16, none⟩ = some (.int .i64 (z 16)) := Fp.out.c 16 rfl
          have qp17 : wx1.cell? ⟨np, 17, none⟩ = some (.int .i64 (z 17)) := Fp.out.c 17 rfl
          have qp18 : wx1.cell? ⟨np, 18, none⟩ = some (.int .i64 (z 18)) := Fp.out.c 18 rfl
          have qp19 : wx1.cell? ⟨np, 19, none⟩ = some (.int .i64 (z 19)) := Fp.out.c 19 rfl
          go_upto_region 14 with (first | ((with_reducible show wpList _ _ _ (_ :: _) _ _); refine wpList_load_mid rfl 27 (.tmp 36) rfl np 0 rfl [.int .i64 (z 0), .int .i64 (z 1), .int .i64 (z 2), .int .i64 (z 3), .int .i64 (z 4), .int .i64 (z 5), .int .i64 (z 6), .int .i64 (z 7), .int .i64 (z 8), .int .i64 (z 9), .int .i64 (z 10), .int .i64 (z 11), .int .i64 (z 12), .int .i64 (z 13), .int .i64 (z 14), .int .i64 (z 15)] _ Rp Try.underlying27 rfl hsC ?_) | (go_at_call 9; refine (HQ.out _).mono ?_; rintro e u2 ⟨rfl, x2⟩; have kn0 : u2.cell? ⟨nn, 0, none⟩ = some (.int .i64 0) := (Fn.out.ext x2).c 0 rfl; have zn0 : u2.frozen? ⟨nn, 0, none⟩ = false := (Fn.out.ext x2).f 0 rfl; have kn1 : u2.cell? ⟨nn, 1, none⟩ = some (.int .i64 0) := (Fn.out.ext x2).c 1 rfl; have zn1 : u2.frozen? ⟨nn, 1, none⟩ = false := (Fn.out.ext x2).f 1 rfl; have kn2 : u2.cell? ⟨nn, 2, none⟩ = some (.int .i64 0) := (Fn.out.ext x2).c 2 rfl; have zn2 : u2.frozen? ⟨nn, 2, none⟩ = false := (Fn.out.ext x2).f 2 rfl))
          have Fp : Hid (HV u2 np [.int .i64 (z 0), .int .i64 (z 1), .int .i64 (z 2), .int .i64 (z 3), .int .i64 (z 4), .int .i64 (z 5), .int .i64 (z 6), .int .i64 (z 7), .int .i64 (z 8), .int .i64 (z 9), .int .i64 (z 10), .int .i64 (z 11), .int .i64 (z 12), .int .i64 (z 13), .int .i64 (z 14), .int .i64 (z 15), .int .i64 (z 16), .int .i64 (z 17), .int .i64 (z 18), .int .i64 (z 19)]) := Fp.out.ext x2
          have Fn : Hid (HV u2 nn [.int .i64 0, .int .i64 0, .int .i64 0]) := Fn.out.ext x2
          have FX : Hid (Ext w u2) := FX.out.trans x2
          clear Rp qp16 qp17 qp18 qp19 x2 HQ kn0 kn1 kn2 zn0 zn1 zn2
          have Fp : Hid (HV (((u2.setCell ⟨nn, 0, none⟩ (.int .i64 g0)).setCell ⟨nn, 1, none⟩ (.int .i64 g1)).setCell ⟨nn, 2, none⟩ (.int .i64 g2)) np [.int .i64 (z 0), .int .i64 (z 1), .int .i64 (z 2), .int .i64 (z 3), .int .i64 (z 4), .int .i64 (z 5), .int .i64 (z 6), .int .i64 (z 7), .int .i64 (z 8), .int .i64 (z 9), .int .i64 (z 10), .int .i64 (z 11), .int .i64 (z 12), .int .i64 (z 13), .int .i64 (z 14), .int .i64 (z 15), .int .i64 (z 16), .int .i64 (z 17), .int .i64 (z 18), .int .i64 (z 19)]) := (((Fp.out.far (by omega)).far (by omega)).far (by omega))
          have Fn : Hid (HV (((u2.setCell ⟨nn, 0, none⟩ (.int .i64 g0)).setCell ⟨nn, 1, none⟩ (.int .i64 g1)).setCell ⟨nn, 2, none⟩ (.int .i64 g2)) nn [.int .i64 g0, .int .i64 g1, .int .i64 g2]) := (((Fn.out.set 0 (.int .i64 g0)).set 1 (.int .i64 g1)).set 2 (.int .i64 g2))
          have FX : Hid (Ext w (((u2.setCell ⟨nn, 0, none⟩ (.int .i64 g0)).setCell ⟨nn, 1, none⟩ (.int .i64 g1)).setCell ⟨nn, 2, none⟩ (.int .i64 g2))) := (((FX.out.set (p := ⟨nn, 0, none⟩) Ln.out (.int .i64 g0)).set (p := ⟨nn, 1, none⟩) Ln.out (.int .i64 g1)).set (p := ⟨nn, 2, none⟩) Ln.out (.int .i64 g2))
          generalize (((u2.setCell ⟨nn, 0, none⟩ (.int .i64 g0)).setCell ⟨nn, 1, none⟩ (.int .i64 g1)).setCell ⟨nn, 2, none⟩ (.int .i64 g2)) = wx2 at *
          have Rp : wx2.rangeAt np 0 [.int .i64 (z 0), .int .i64 (z 1), .int .i64 (z 2), .int .i64 (z 3), .int .i64 (z 4), .int .i64 (z 5), .int .i64 (z 6), .int .i64 (z 7), .int .i64 (z 8), .int .i64 (z 9), .int .i64 (z 10), .int .i64 (z 11), .int .i64 (z 12), .int .i64 (z 13), .int .i64 (z 14), .int .i64 (z 15)] := Fp.out.take 16
          have qp16 : wx2.cell? ⟨np, 16, none⟩ = some (.int .i64 (z 16)) := Fp.out.c 16 rfl
          have qp17 : wx2.cell? ⟨np, 17, none⟩ = some (.int .i64 (z 17)) := Fp.out.c 17 rfl
          have qp18 : wx2.cell? ⟨np, 18, none⟩ = some (.int .i64 (z 18)) := Fp.out.c 18 rfl
          have qp19 : wx2.cell? ⟨np, 19, none⟩ = some (.int .i64 (z 19)) := Fp.out.c 19 rfl
          go_upto_region 15 with (first | ((with_reducible show wpList _ _ _ (_ :: _) _ _); refine wpList_load_mid rfl 27 (.tmp 44) rfl np 0 rfl [.int .i64 (z 0), .int .i64 (z 1), .int .i64 (z 2), .int .i64 (z 3), .int .i64 (z 4), .int .i64 (z 5), .int .i64 (z 6), .int .i64 (z 7), .int .i64 (z 8), .int .i64 (z 9), .int .i64 (z 10), .int .i64 (z 11), .int .i64 (z 12), .int .i64 (z 13), .int .i64 (z 14), .int .i64 (z 15)] _ Rp Try.underlying27 rfl hsC ?_) | (go_at_call 10; refine (HA.out _).mono ?_; rintro e u3 ⟨rfl, x3⟩))
          have Fp : Hid (HV u3 np [.int .i64 (z 0), .int .i64 (z 1), .int .i64 (z 2), .int .i64 (z 3), .int .i64 (z 4), .int .i64 (z 5), .int .i64 (z 6), .int .i64 (z 7), .int .i64 (z 8), .int .i64 (z 9), .int .i64 (z 10), .int .i64 (z 11), .int .i64 (z 12), .int .i64 (z 13), .int .i64 (z 14), .int .i64 (z 15), .int .i64 (z 16), .int .i64 (z 17), .int .i64 (z 18), .int .i64 (z 19)]) := Fp.out.ext x3
          have Fn : Hid (HV u3 nn [.int .i64 g0, .int .i64 g1, .int .i64 g2]) := Fn.out.ext x3
          have FX : Hid (Ext w u3) := FX.out.trans x3
          clear Rp qp16 qp17 qp18 qp19 x3 HA
          have ltpv : np < u3.heap.size := Fp.out.1
          have ltnv : nn < u3.heap.size := Fn.out.1
          have Lv : Hid (w.heap.size ≤ u3.heap.size) := FX.out.size
          have Fp : Hid (HV (u3.alloc (.cells #[.int .i64 g0, .int .i64 g1, .int .i64 g2] 24)) np [.int .i64 (z 0), .int .i64 (z 1), .int .i64 (z 2), .int .i64 (z 3), .int .i64 (z 4), .int .i64 (z 5), .int .i64 (z 6), .int .i64 (z 7), .int .i64 (z 8), .int .i64 (z 9), .int .i64 (z 10), .int .i64 (z 11), .int .i64 (z 12), .int .i64 (z 13), .int .i64 (z 14), .int .i64 (z 15), .int .i64 (z 16), .int .i64 (z 17), .int .i64 (z 18), .int .i64 (z 19)]) := Fp.out.alloc _
          have Fn : Hid (HV (u3.alloc (.cells #[.int .i64 g0, .int .i64 g1, .int .i64 g2] 24)) nn [.int .i64 g0, .int .i64 g1, .int .i64 g2]) := Fn.out.alloc _
          have Fv : Hid (HV (u3.alloc (.cells #[.int .i64 g0, .int .i64 g1, .int .i64 g2] 24)) u3.heap.size [.int .i64 g0, .int .i64 g1, .int .i64 g2]) := hv_at rfl
          have FX : Hid (Ext w (u3.alloc (.cells #[.int .i64 g0, .int .i64 g1, .int .i64 g2] 24))) := FX.out.alloc _
          generalize (u3.alloc (.cells #[.int .i64 g0, .int .i64 g1, .int .i64 g2] 24)) = wx3 at *
          generalize u3.heap.size = nv at *
          have Rp : wx3.rangeAt np 0 [.int .i64 (z 0), .int .i64 (z 1), .int .i64 (z 2), .int .i64 (z 3), .int .i64 (z 4), .int .i64 (z 5), .int .i64 (z 6), .int .i64 (z 7), .int .i64 (z 8), .int .i64 (z 9), .int .i64 (z 10), .int .i64 (z 11), .int .i64 (z 12), .int .i64 (z 13), .int .i64 (z 14), .int .i64 (z 15)] := Fp.out.take 16
          have hq := eqCal
          go_wp2_with (first | ((with_reducible show wpList _ _ _ (_ :: _) _ _); refine wpList_load_mid rfl 27 (.tmp 51) rfl np 0 rfl [.int .i64 (z 0), .int .i64 (z 1), .int .i64 (z 2), .int .i64 (z 3), .int .i64 (z 4), .int .i64 (z 5), .int .i64 (z 6), .int .i64 (z 7), .int .i64 (z 8), .int .i64 (z 9), .int .i64 (z 10), .int .i64 (z 11), .int .i64 (z 12), .int .i64 (z 13), .int .i64 (z 14), .int .i64 (z 15)] _ Rp Try.underlying27 rfl hsC ?_) | (go_at_call 12; refine (HK.out _).mono ?_; rintro e u4 ⟨rfl, x4⟩; have kn0 : u4.cell? ⟨nn, 0, none⟩ = some (.int .i64 g0) := (Fn.out.ext x4).c 0 rfl; have kn1 : u4.cell? ⟨nn, 1, none⟩ = some (.int .i64 g1) := (Fn.out.ext x4).c 1 rfl; have kn2 : u4.cell? ⟨nn, 2, none⟩ = some (.int .i64 g2) := (Fn.out.ext x4).c 2 rfl; have kv0 : u4.cell? ⟨nv, 0, none⟩ = some (.int .i64 g0) := (Fv.out.ext x4).c 0 rfl; have kv1 : u4.cell? ⟨nv, 1, none⟩ = some (.int .i64 g1) := (Fv.out.ext x4).c 1 rfl; have kv2 : u4.cell? ⟨nv, 2, none⟩ = some (.int .i64 g2) := (Fv.out.ext x4).c 2 rfl) | (go_at_call 11; refine (num10_any _ _).mono ?_; rintro e wx ⟨rfl, hwx⟩; have hwy := hwx.symm; clear hwx; subst hwy) | (go_at_call 13; refine (plain_any _).mono ?_; rintro e u5 ⟨rfl, x5⟩) | (go_at_call 14; refine (rplain_any _).mono ?_; rintro e u6 ⟨rfl, x6⟩))
          go_roundw
          case rel => exact ⟨k + 1, by omega, by go_num, FX.out.trans (x4.trans (x5.trans x6))⟩
          case measure => simp [intOf]; omega
      · go_wp2_with fail
        refine (wakes10_any _).mono ?_
        rintro e w1 ⟨rfl, x1⟩
        have E1 : Ext w w1 := HX.out.trans x1
        go_wp2_with fail
        go_ret
        exact ⟨rfl, E1⟩
    · have hk' : k = len := by omega
      subst hk'
      go_wp2_with fail
      refine (wakes10_any _).mono ?_
      rintro e w1 ⟨rfl, x1⟩
      have E1 : Ext w w1 := HX.out.trans x1
      go_wp2_with fail
      go_ret
      exact ⟨rfl, E1⟩
set_option maxHeartbeats 4000000 in
theorem calexact_none (a : Option Addr) (cap : Nat) (w : World) :
    Calls Try.prog 3 #[.slice a 0 cap] w fun e w' => e = .returned (.bool true) ∧ Ext w w' := by
  go_enter Try.func3, Try.ntmps3
  go_wp2_with fail
  go_loopw [3] (fun i wr => i = .int .i64 0 ∧ Ext w wr) (fun _ _ => 0)
  case atStart => exact ⟨rfl, Ext.refl _⟩
  case round =>
    obtain ⟨rfl, hx⟩ := hrel
    go_wp2_with fail
    refine (wakes10_any _).mono ?_
    rintro e w1 ⟨rfl, x1⟩
    have E1 : Ext w w1 := hx.trans x1
    go_wp2_with fail
    go_ret
    exact ⟨rfl, E1⟩
end Go.Proofs.Ytnilhamcojjloaa
