/- FallOnce. -/
import Derived.Test.YtleiiiagdkcckaaFb2
namespace Go.Proofs.Ytleiiiagdkcckaa
open Go.RowKit
/-- between rounds -/
def AI (lo tl : Bool) (s N Sn : Int) (k : Nat) : Prop :=
  k ≤ 80 ∧ 0 ≤ s ∧ s ≤ N ∧ N ≤ 59 * k ∧ (lo = true → Sn = s) ∧ (lo = false → Sn = -1 ∧ tl = false ∧ s = 0)
theorem fall_ok {lo tl : Bool} {s N m : Int} (h1 : 0 ≤ s ∧ s ≤ N) (h2 : N ≤ 200000) (h3 : 0 ≤ m ∧ m ≤ 29419949) (h4 : lo = false → tl = false ∧ s = 0) : okF lo tl s = true ∧ okMg m = true ∧ okTm N = true ∧ s ≤ N := by
  refine ⟨?_, ?_, okTm_iff.2 ⟨by omega, by omega⟩, h1.2⟩
  · unfold okF
    cases lo
    · simp [h4 rfl]
    · simp [okTm_iff]; omega
  · unfold okMg okW
    simp
    omega
theorem once_third {lo tl : Bool} {s N Sn d : Int} {k : Nat} (h : AI lo tl s N Sn k) (hk : k < 80) (hd : 0 ≤ d ∧ d ≤ 59) :
    takeF lo tl s 3268883 (N + d) = .tuple #[.agg #[.bool lo, .bool tl, .int .i64 s], .bool false, .int .i64 0] ∧ AI lo tl s (N + d) Sn (k + 1) := by
  obtain ⟨h0, h1, h2, h3, h4, h5⟩ := h
  obtain ⟨o1, o2, o3, o4⟩ := fall_ok (lo := lo) (tl := tl) (s := s) (N := N + d) (m := 3268883) ⟨h1, by omega⟩ (by omega) (by omega) (fun x => (h5 x).2)
  refine ⟨?_, by omega, h1, by omega, by omega, h4, h5⟩
  rw [takeF_good o1 o2 o3 o4, if_neg (by omega), if_neg (by omega)]
theorem once_high {lo tl : Bool} {s N Sn d : Int} {k : Nat} (h : AI lo tl s N Sn k) (hk : k < 80) (hd : 0 ≤ d ∧ d ≤ 59) :
    takeF lo tl s 9806650 (N + d) = .tuple #[.agg #[.bool false, .bool false, .int .i64 0], .bool false, .int .i64 0] ∧ AI false false 0 (N + d) (-1) (k + 1) := by
  obtain ⟨h0, h1, h2, h3, h4, h5⟩ := h
  obtain ⟨o1, o2, o3, o4⟩ := fall_ok (lo := lo) (tl := tl) (s := s) (N := N + d) (m := 9806650) ⟨h1, by omega⟩ (by omega) (by omega) (fun x => (h5 x).2)
  refine ⟨?_, by omega, by omega, by omega, by omega, fun x => (by cases x), fun _ => ⟨rfl, rfl, rfl⟩⟩
  rw [takeF_good o1 o2 o3 o4, if_pos (by omega)]
theorem once_low {lo tl : Bool} {s N Sn d : Int} {k : Nat} (h : AI lo tl s N Sn k) (hk : k < 80) (hd : 0 ≤ d ∧ d ≤ 59) :
    (lo = false ∧ Sn = -1 ∧ tl = false ∧ s = 0 ∧ takeF false false 0 0 (N + d) = .tuple #[.agg #[.bool true, .bool false, .int .i64 ((N + d))], .bool false, .int .i64 0] ∧ AI true false (N + d) (N + d) (N + d) (k + 1)) ∨
    (lo = true ∧ Sn = s ∧ 0 ≤ s ∧ wrap64 (N + d - s) = N + d - s ∧ tl = false ∧ 100 ≤ N + d - s ∧ takeF true false s 0 (N + d) = .tuple #[.agg #[.bool true, .bool true, .int .i64 s], .bool true, .int .i64 0] ∧ AI true true s (N + d) s (k + 1)) ∨
    (lo = true ∧ Sn = s ∧ 0 ≤ s ∧ wrap64 (N + d - s) = N + d - s ∧ tl = false ∧ N + d - s < 100 ∧ takeF true false s 0 (N + d) = .tuple #[.agg #[.bool true, .bool false, .int .i64 s], .bool false, .int .i64 0] ∧ AI true false s (N + d) s (k + 1)) ∨
    (lo = true ∧ Sn = s ∧ 0 ≤ s ∧ tl = true ∧ takeF true true s 0 (N + d) = .tuple #[.agg #[.bool true, .bool true, .int .i64 s], .bool false, .int .i64 0] ∧ AI true true s (N + d) s (k + 1)) := by
  obtain ⟨h0, h1, h2, h3, h4, h5⟩ := h
  obtain ⟨o1, o2, o3, o4⟩ := fall_ok (lo := lo) (tl := tl) (s := s) (N := N + d) (m := 0) ⟨h1, by omega⟩ (by omega) (by omega) (fun x => (h5 x).2)
  have e := takeF_good o1 o2 o3 o4
  rw [if_neg (by omega), if_pos (by omega)] at e
  have ew : wrap64 (N + d - s) = N + d - s := wrap_le _ (by omega) (by omega)
  cases lo
  · obtain ⟨g1, rfl, rfl⟩ := h5 rfl
    rw [if_pos rfl] at e
    exact .inl ⟨rfl, g1, rfl, rfl, e, by omega, by omega, by omega, by omega, fun _ => rfl, fun x => by cases x⟩
  · rw [if_neg (by simp)] at e
    cases tl
    · by_cases b : 100 ≤ N + d - s
      · rw [if_pos ⟨rfl, b⟩] at e
        exact .inr (.inl ⟨rfl, h4 rfl, h1, ew, rfl, b, e, by omega, by omega, by omega, by omega, fun _ => rfl, fun x => by cases x⟩)
      · rw [if_neg (fun h => b h.2)] at e
        exact .inr (.inr (.inl ⟨rfl, h4 rfl, h1, ew, rfl, by omega, e, by omega, by omega, by omega, by omega, fun _ => rfl, fun x => by cases x⟩))
    · rw [if_neg (fun h => by cases h.1)] at e
      exact .inr (.inr (.inr ⟨rfl, h4 rfl, h1, rfl, e, by omega, by omega, by omega, by omega, fun _ => rfl, fun x => by cases x⟩))
set_option maxRecDepth 20000 in
set_option maxHeartbeats 40000000 in
theorem fallonce_any (b off len cap : Nat) (C : Nat → Nat → Value) (w : World) (hl : len ≤ maxLen) (hc : ML 5 (fun j => j == 0 || j == 1) w b off len C) :
    Calls Try.prog 4 #[.slice (some ⟨b, off, none⟩) len cap] w fun e w' => e = .returned (.bool true) ∧ Ext w w' := by
  have hl' : len ≤ 9223372036854775807 := by unfold maxLen at hl; omega
  clear hl
  have A0 : Hid (AI false false 0 0 (-1) 0) := by show AI _ _ _ _ _ _; unfold AI; simp
  have Fs : Hid (HV (w.alloc (.cells #[.bool false, .bool false, .int .i64 0] 24)) w.heap.size [.bool false, .bool false, .int .i64 0]) := hv_at rfl
  have FX : Hid (Ext w (w.alloc (.cells #[.bool false, .bool false, .int .i64 0] 24))) := (Ext.refl _).alloc _
  have Ls : Hid (w.heap.size ≤ w.heap.size) := Nat.le_refl _
  go_enter Try.func4, Try.ntmps4
  go_upto_region 2 with fail
  generalize (w.alloc (.cells #[.bool false, .bool false, .int .i64 0] 24)) = wa at *
  go_wp2_with fail
  go_loopw [4, 5, 6, 7] (fun vN vSn vR vi wr => ∃ (k : Nat) (lo tl : Bool) (s N Sn : Int), k ≤ len ∧ vi = .int .i64 k ∧ vN = .int .i64 N ∧ vSn = .int .i64 Sn ∧ vR = .bool tl ∧ Hid (AI lo tl s N Sn k) ∧ Hid (HV wr w.heap.size [.bool lo, .bool tl, .int .i64 s]) ∧ Hid (Ext w wr)) (fun _ _ _ i _ => len - (intOf i).toNat)
  case atStart => exact ⟨0, false, false, 0, 0, -1, Nat.zero_le _, rfl, rfl, rfl, rfl, A0, Fs, FX⟩
  case round =>
    clear A0 Fs FX
    obtain ⟨k, lo, tl, s, N, Sn, hk, rfl, rfl, rfl, rfl, HA, Fs, FX⟩ := hrel
    by_cases hlt : k < len
    · by_cases h5 : k < 80
      · skip
        obtain ⟨zm, c3, _⟩ := (hc.ext FX.out).num hlt (j := 3) (by omega) rfl
        obtain ⟨zn, c4, _⟩ := (hc.ext FX.out).num hlt (j := 4) (by omega) rfl
        have hlt' : (k : Int) < (len : Int) := by omega
        clear hc
        have HD : Hid (∀ w, Calls Try.prog 13 #[.int .i64 zn, .int .i64 60] w fun e w' => e = .returned (.int .i64 (zn % 18446744073709551616 % 60)) ∧ w' = w) := within_60 zn
        have Bd : Hid (0 ≤ zn % 18446744073709551616 % 60 ∧ zn % 18446744073709551616 % 60 ≤ 59) := ⟨by omega, by omega⟩
        generalize zn % 18446744073709551616 % 60 = d at *
        have HB : Hid (∀ w, Calls Try.prog 13 #[.int .i64 zm, .int .i64 3] w fun e w' => e = .returned (.int .i64 (zm % 18446744073709551616 % 3)) ∧ w' = w) := within_3 zm
        have Bq : Hid (0 ≤ zm % 18446744073709551616 % 3 ∧ zm % 18446744073709551616 % 3 ≤ 2) := ⟨by omega, by omega⟩
        generalize zm % 18446744073709551616 % 3 = q at *
        have HC : Hid (∀ w, Calls Try.prog 13 #[.int .i64 zm, .int .i64 7] w fun e w' => e = .returned (.int .i64 (zm % 18446744073709551616 % 7)) ∧ w' = w) := within_7 zm
        have Bp : Hid (0 ≤ zm % 18446744073709551616 % 7 ∧ zm % 18446744073709551616 % 7 ≤ 6) := ⟨by omega, by omega⟩
        generalize zm % 18446744073709551616 % 7 = p at *
        have ed : IntKind.i64.wrap (N + d) = N + d := by
          have h := HA.out
          have hd := Bd.out
          unfold AI at h
          rw [IntKind.wrap_i64]
          omega
        have ea : wrap64 (N + d) = N + d := by
          have h := HA.out
          have hd := Bd.out
          unfold AI at h
          exact wrap_le _ (by omega) (by omega)
        go_upto_region 9 with (first | (go_at_call_of 13 (Value.int IntKind.i64 zn); refine (HD.out _).mono ?_; rintro e wx ⟨rfl, hwx⟩; have hwy := hwx.symm; clear hwx; subst hwy))
        clear c4 HD ed
        obtain ⟨M, hM⟩ : ∃ M, N + d = M := ⟨_, rfl⟩
        rw [hM] at ea
        try rw [hM]
        have Fs : Hid (HV (wr.alloc (.cells #[.int .i64 0, .int .i64 3268883, .int .i64 9806650] 2)) w.heap.size [.bool lo, .bool tl, .int .i64 s]) := Fs.out.alloc _
        have Fq : Hid (HV (wr.alloc (.cells #[.int .i64 0, .int .i64 3268883, .int .i64 9806650] 2)) wr.heap.size [.int .i64 0, .int .i64 3268883, .int .i64 9806650]) := hv_at rfl
        have FX : Hid (Ext w (wr.alloc (.cells #[.int .i64 0, .int .i64 3268883, .int .i64 9806650] 2))) := FX.out.alloc _
        have c3 : (wr.alloc (.cells #[.int .i64 0, .int .i64 3268883, .int .i64 9806650] 2)).cell? ⟨b, off + k * 5 + 3, none⟩ = some (.int .i64 zm) := by
          rw [((Ext.refl wr).alloc _).lay.1 b _ (cell_lt c3)]
          exact c3
        have HQ : Hid (q = 0 ∨ q = 1 ∨ q = 2) := by have := Bq.out; show _ ∨ _ ∨ _; omega
        clear Bq
        rcases HQ.out with rfl | rfl | rfl
        · clear HQ
          have cq : (wr.alloc (.cells #[.int .i64 0, .int .i64 3268883, .int .i64 9806650] 2)).cell? ⟨wr.heap.size, 0, none⟩ = some (.int .i64 0) := Fq.out.c 0 rfl
          go_upto_region 10 with (go_at_call_of 13 (Value.int IntKind.i64 zm); refine (HB.out _).mono ?_; rintro e wx ⟨rfl, hwx⟩; have hwy := hwx.symm; clear hwx; subst hwy)
          clear HB cq Fq
          generalize (wr.alloc (.cells #[.int .i64 0, .int .i64 3268883, .int .i64 9806650] 2)) = wz at *
          by_cases b1 : 1 < p
          · have b2 : decide (1 < p) = true := by simpa using b1
            clear Bp b1
            go_upto_region 12 with (go_at_call_of 13 (Value.int IntKind.i64 zm); refine (HC.out _).mono ?_; rintro e wx ⟨rfl, hwx⟩; have hwy := hwx.symm; clear hwx; subst hwy)
            clear HC c3 b2
            rcases once_low HA.out h5 Bd.out with ⟨rfl, rfl, rfl, rfl, e1, HA⟩ | ⟨rfl, rfl, g1, g2, rfl, g3, e1, HA⟩ | ⟨rfl, rfl, g1, g2, rfl, g3, e1, HA⟩ | ⟨rfl, rfl, g1, rfl, e1, HA⟩
            · rw [hM] at e1 HA
              have k1 := ftake_any false false 0 0 M
              rw [e1] at k1
              have HT : Hid (∀ w, Calls Try.prog 10 #[.agg #[.bool false, .bool false, .int .i64 0], .int .i64 0, .int .i64 M] w fun e w' => e = .returned (.tuple #[.agg #[.bool true, .bool false, .int .i64 M], .bool false, .int .i64 0]) ∧ Ext w w') := k1
              clear k1 e1 Bd
              have HA1 : Hid (AI true false M M M (k + 1)) := HA
              clear HA
              have qs0 : wz.cell? ⟨w.heap.size, 0, none⟩ = some (.bool false) := Fs.out.c 0 rfl
              have qs1 : wz.cell? ⟨w.heap.size, 1, none⟩ = some (.bool false) := Fs.out.c 1 rfl
              have qs2 : wz.cell? ⟨w.heap.size, 2, none⟩ = some (.int .i64 0) := Fs.out.c 2 rfl
              go_upto_region 13 with (first | (go_at_call 10; refine (HT.out _).mono ?_; rintro e wq1 ⟨rfl, xq1⟩))
              have Fs : Hid (HV wq1 w.heap.size [.bool false, .bool false, .int .i64 0]) := Fs.out.ext xq1
              have FX : Hid (Ext w wq1) := FX.out.trans xq1
              clear qs0 qs1 qs2 xq1 HT
              have ltst : w.heap.size < wq1.heap.size := Fs.out.1
              have Lt : Hid (w.heap.size ≤ wq1.heap.size) := FX.out.size
              have Fs : Hid (HV (wq1.alloc (.cells #[.bool true, .bool false, .int .i64 M] 24)) w.heap.size [.bool false, .bool false, .int .i64 0]) := Fs.out.alloc _
              have Ft : Hid (HV (wq1.alloc (.cells #[.bool true, .bool false, .int .i64 M] 24)) wq1.heap.size [.bool true, .bool false, .int .i64 M]) := hv_at rfl
              have FX : Hid (Ext w (wq1.alloc (.cells #[.bool true, .bool false, .int .i64 M] 24))) := FX.out.alloc _
              generalize (wq1.alloc (.cells #[.bool true, .bool false, .int .i64 M] 24)) = wx11 at *
              generalize wq1.heap.size = nt at *
              have qt0 : wx11.cell? ⟨nt, 0, none⟩ = some (.bool true) := Ft.out.c 0 rfl
              have qt1 : wx11.cell? ⟨nt, 1, none⟩ = some (.bool false) := Ft.out.c 1 rfl
              have qt2 : wx11.cell? ⟨nt, 2, none⟩ = some (.int .i64 M) := Ft.out.c 2 rfl
              go_upto_region 21 with (first | (go_at_call 11; refine (num20_any _ _).mono ?_; rintro e wx ⟨rfl, hwx⟩; have hwy := hwx.symm; clear hwx; subst hwy))
              have y0 : wx11.cell? ⟨w.heap.size, 0, none⟩ = some (.bool false) := Fs.out.c 0 rfl
              have g0 : wx11.frozen? ⟨w.heap.size, 0, none⟩ = false := Fs.out.f 0 rfl
              have y1 : wx11.cell? ⟨w.heap.size, 1, none⟩ = some (.bool false) := Fs.out.c 1 rfl
              have g1 : wx11.frozen? ⟨w.heap.size, 1, none⟩ = false := Fs.out.f 1 rfl
              have y2 : wx11.cell? ⟨w.heap.size, 2, none⟩ = some (.int .i64 0) := Fs.out.c 2 rfl
              have g2 : wx11.frozen? ⟨w.heap.size, 2, none⟩ = false := Fs.out.f 2 rfl
              go_wp2_with fail
              go_roundw
              case rel => exact ⟨k + 1, true, false, M, M, M, by omega, by go_num, rfl, rfl, rfl, HA1, (((Fs.out.set 0 (.bool true)).set 1 (.bool false)).set 2 (.int .i64 M)), (((FX.out.set (p := ⟨w.heap.size, 0, none⟩) Ls.out _).set (p := ⟨w.heap.size, 1, none⟩) Ls.out _).set (p := ⟨w.heap.size, 2, none⟩) Ls.out _)⟩
              case measure => simp [intOf]; omega
            · have g5 : decide (0 ≤ Sn) = true := by simpa using g1
              have g6 : decide (Sn < 0) = false := by simp; omega
              rw [hM] at e1 HA g2 g3
              have k1 := ftake_any true false Sn 0 M
              rw [e1] at k1
              have HT : Hid (∀ w, Calls Try.prog 10 #[.agg #[.bool true, .bool false, .int .i64 Sn], .int .i64 0, .int .i64 M] w fun e w' => e = .returned (.tuple #[.agg #[.bool true, .bool true, .int .i64 Sn], .bool true, .int .i64 0]) ∧ Ext w w') := k1
              clear k1 e1 Bd
              have g4 : decide (100 ≤ M - Sn) = true := by simpa using g3
              have HA1 : Hid (AI true true Sn M Sn (k + 1)) := HA
              clear HA
              have qs0 : wz.cell? ⟨w.heap.size, 0, none⟩ = some (.bool true) := Fs.out.c 0 rfl
              have qs1 : wz.cell? ⟨w.heap.size, 1, none⟩ = some (.bool false) := Fs.out.c 1 rfl
              have qs2 : wz.cell? ⟨w.heap.size, 2, none⟩ = some (.int .i64 Sn) := Fs.out.c 2 rfl
              go_upto_region 13 with (first | (go_at_call 10; refine (HT.out _).mono ?_; rintro e wq1 ⟨rfl, xq1⟩))
              have Fs : Hid (HV wq1 w.heap.size [.bool true, .bool false, .int .i64 Sn]) := Fs.out.ext xq1
              have FX : Hid (Ext w wq1) := FX.out.trans xq1
              clear qs0 qs1 qs2 xq1 HT
              have ltst : w.heap.size < wq1.heap.size := Fs.out.1
              have Lt : Hid (w.heap.size ≤ wq1.heap.size) := FX.out.size
              have Fs : Hid (HV (wq1.alloc (.cells #[.bool true, .bool true, .int .i64 Sn] 24)) w.heap.size [.bool true, .bool false, .int .i64 Sn]) := Fs.out.alloc _
              have Ft : Hid (HV (wq1.alloc (.cells #[.bool true, .bool true, .int .i64 Sn] 24)) wq1.heap.size [.bool true, .bool true, .int .i64 Sn]) := hv_at rfl
              have FX : Hid (Ext w (wq1.alloc (.cells #[.bool true, .bool true, .int .i64 Sn] 24))) := FX.out.alloc _
              generalize (wq1.alloc (.cells #[.bool true, .bool true, .int .i64 Sn] 24)) = wx11 at *
              generalize wq1.heap.size = nt at *
              have qt0 : wx11.cell? ⟨nt, 0, none⟩ = some (.bool true) := Ft.out.c 0 rfl
              have qt1 : wx11.cell? ⟨nt, 1, none⟩ = some (.bool true) := Ft.out.c 1 rfl
              have qt2 : wx11.cell? ⟨nt, 2, none⟩ = some (.int .i64 Sn) := Ft.out.c 2 rfl
              go_upto_region 21 with (first | (go_at_call 11; refine (num20_any _ _).mono ?_; rintro e wx ⟨rfl, hwx⟩; have hwy := hwx.symm; clear hwx; subst hwy))
              have y0 : wx11.cell? ⟨w.heap.size, 0, none⟩ = some (.bool true) := Fs.out.c 0 rfl
              have g0 : wx11.frozen? ⟨w.heap.size, 0, none⟩ = false := Fs.out.f 0 rfl
              have y1 : wx11.cell? ⟨w.heap.size, 1, none⟩ = some (.bool false) := Fs.out.c 1 rfl
              have g1 : wx11.frozen? ⟨w.heap.size, 1, none⟩ = false := Fs.out.f 1 rfl
              have y2 : wx11.cell? ⟨w.heap.size, 2, none⟩ = some (.int .i64 Sn) := Fs.out.c 2 rfl
              have g2 : wx11.frozen? ⟨w.heap.size, 2, none⟩ = false := Fs.out.f 2 rfl
              go_wp2_with fail
              go_roundw
              case rel => exact ⟨k + 1, true, true, Sn, M, Sn, by omega, by go_num, rfl, rfl, rfl, HA1, (((Fs.out.set 0 (.bool true)).set 1 (.bool true)).set 2 (.int .i64 Sn)), (((FX.out.set (p := ⟨w.heap.size, 0, none⟩) Ls.out _).set (p := ⟨w.heap.size, 1, none⟩) Ls.out _).set (p := ⟨w.heap.size, 2, none⟩) Ls.out _)⟩
              case measure => simp [intOf]; omega
            · have g5 : decide (0 ≤ Sn) = true := by simpa using g1
              have g6 : decide (Sn < 0) = false := by simp; omega
              rw [hM] at e1 HA g2 g3
              have k1 := ftake_any true false Sn 0 M
              rw [e1] at k1
              have HT : Hid (∀ w, Calls Try.prog 10 #[.agg #[.bool true, .bool false, .int .i64 Sn], .int .i64 0, .int .i64 M] w fun e w' => e = .returned (.tuple #[.agg #[.bool true, .bool false, .int .i64 Sn], .bool false, .int .i64 0]) ∧ Ext w w') := k1
              clear k1 e1 Bd
              have g4 : decide (100 ≤ M - Sn) = false := by simp; omega
              have HA1 : Hid (AI true false Sn M Sn (k + 1)) := HA
              clear HA
              have qs0 : wz.cell? ⟨w.heap.size, 0, none⟩ = some (.bool true) := Fs.out.c 0 rfl
              have qs1 : wz.cell? ⟨w.heap.size, 1, none⟩ = some (.bool false) := Fs.out.c 1 rfl
              have qs2 : wz.cell? ⟨w.heap.size, 2, none⟩ = some (.int .i64 Sn) := Fs.out.c 2 rfl
              go_upto_region 13 with (first | (go_at_call 10; refine (HT.out _).mono ?_; rintro e wq1 ⟨rfl, xq1⟩))
              have Fs : Hid (HV wq1 w.heap.size [.bool true, .bool false, .int .i64 Sn]) := Fs.out.ext xq1
              have FX : Hid (Ext w wq1) := FX.out.trans xq1
              clear qs0 qs1 qs2 xq1 HT
              have ltst : w.heap.size < wq1.heap.size := Fs.out.1
              have Lt : Hid (w.heap.size ≤ wq1.heap.size) := FX.out.size
              have Fs : Hid (HV (wq1.alloc (.cells #[.bool true, .bool false, .int .i64 Sn] 24)) w.heap.size [.bool true, .bool false, .int .i64 Sn]) := Fs.out.alloc _
              have Ft : Hid (HV (wq1.alloc (.cells #[.bool true, .bool false, .int .i64 Sn] 24)) wq1.heap.size [.bool true, .bool false, .int .i64 Sn]) := hv_at rfl
              have FX : Hid (Ext w (wq1.alloc (.cells #[.bool true, .bool false, .int .i64 Sn] 24))) := FX.out.alloc _
              generalize (wq1.alloc (.cells #[.bool true, .bool false, .int .i64 Sn] 24)) = wx11 at *
              generalize wq1.heap.size = nt at *
              have qt0 : wx11.cell? ⟨nt, 0, none⟩ = some (.bool true) := Ft.out.c 0 rfl
              have qt1 : wx11.cell? ⟨nt, 1, none⟩ = some (.bool false) := Ft.out.c 1 rfl
              have qt2 : wx11.cell? ⟨nt, 2, none⟩ = some (.int .i64 Sn) := Ft.out.c 2 rfl
              go_upto_region 21 with (first | (go_at_call 11; refine (num20_any _ _).mono ?_; rintro e wx ⟨rfl, hwx⟩; have hwy := hwx.symm; clear hwx; subst hwy))
              have y0 : wx11.cell? ⟨w.heap.size, 0, none⟩ = some (.bool true) := Fs.out.c 0 rfl
              have g0 : wx11.frozen? ⟨w.heap.size, 0, none⟩ = false := Fs.out.f 0 rfl
              have y1 : wx11.cell? ⟨w.heap.size, 1, none⟩ = some (.bool false) := Fs.out.c 1 rfl
              have g1 : wx11.frozen? ⟨w.heap.size, 1, none⟩ = false := Fs.out.f 1 rfl
              have y2 : wx11.cell? ⟨w.heap.size, 2, none⟩ = some (.int .i64 Sn) := Fs.out.c 2 rfl
              have g2 : wx11.frozen? ⟨w.heap.size, 2, none⟩ = false := Fs.out.f 2 rfl
              go_wp2_with fail
              go_roundw
              case rel => exact ⟨k + 1, true, false, Sn, M, Sn, by omega, by go_num, rfl, rfl, rfl, HA1, (((Fs.out.set 0 (.bool true)).set 1 (.bool false)).set 2 (.int .i64 Sn)), (((FX.out.set (p := ⟨w.heap.size, 0, none⟩) Ls.out _).set (p := ⟨w.heap.size, 1, none⟩) Ls.out _).set (p := ⟨w.heap.size, 2, none⟩) Ls.out _)⟩
              case measure => simp [intOf]; omega
            · have g5 : decide (0 ≤ Sn) = true := by simpa using g1
              have g6 : decide (Sn < 0) = false := by simp; omega
              rw [hM] at e1 HA
              have k1 := ftake_any true true Sn 0 M
              rw [e1] at k1
              have HT : Hid (∀ w, Calls Try.prog 10 #[.agg #[.bool true, .bool true, .int .i64 Sn], .int .i64 0, .int .i64 M] w fun e w' => e = .returned (.tuple #[.agg #[.bool true, .bool true, .int .i64 Sn], .bool false, .int .i64 0]) ∧ Ext w w') := k1
              clear k1 e1 Bd
              have HA1 : Hid (AI true true Sn M Sn (k + 1)) := HA
              clear HA
              have qs0 : wz.cell? ⟨w.heap.size, 0, none⟩ = some (.bool true) := Fs.out.c 0 rfl
              have qs1 : wz.cell? ⟨w.heap.size, 1, none⟩ = some (.bool true) := Fs.out.c 1 rfl
              have qs2 : wz.cell? ⟨w.heap.size, 2, none⟩ = some (.int .i64 Sn) := Fs.out.c 2 rfl
              go_upto_region 13 with (first | (go_at_call 10; refine (HT.out _).mono ?_; rintro e wq1 ⟨rfl, xq1⟩))
              have Fs : Hid (HV wq1 w.heap.size [.bool true, .bool true, .int .i64 Sn]) := Fs.out.ext xq1
              have FX : Hid (Ext w wq1) := FX.out.trans xq1
              clear qs0 qs1 qs2 xq1 HT
              have ltst : w.heap.size < wq1.heap.size := Fs.out.1
              have Lt : Hid (w.heap.size ≤ wq1.heap.size) := FX.out.size
              have Fs : Hid (HV (wq1.alloc (.cells #[.bool true, .bool true, .int .i64 Sn] 24)) w.heap.size [.bool true, .bool true, .int .i64 Sn]) := Fs.out.alloc _
              have Ft : Hid (HV (wq1.alloc (.cells #[.bool true, .bool true, .int .i64 Sn] 24)) wq1.heap.size [.bool true, .bool true, .int .i64 Sn]) := hv_at rfl
              have FX : Hid (Ext w (wq1.alloc (.cells #[.bool true, .bool true, .int .i64 Sn] 24))) := FX.out.alloc _
              generalize (wq1.alloc (.cells #[.bool true, .bool true, .int .i64 Sn] 24)) = wx11 at *
              generalize wq1.heap.size = nt at *
              have qt0 : wx11.cell? ⟨nt, 0, none⟩ = some (.bool true) := Ft.out.c 0 rfl
              have qt1 : wx11.cell? ⟨nt, 1, none⟩ = some (.bool true) := Ft.out.c 1 rfl
              have qt2 : wx11.cell? ⟨nt, 2, none⟩ = some (.int .i64 Sn) := Ft.out.c 2 rfl
              go_upto_region 21 with (first | (go_at_call 11; refine (num20_any _ _).mono ?_; rintro e wx ⟨rfl, hwx⟩; have hwy := hwx.symm; clear hwx; subst hwy))
              have y0 : wx11.cell? ⟨w.heap.size, 0, none⟩ = some (.bool true) := Fs.out.c 0 rfl
              have g0 : wx11.frozen? ⟨w.heap.size, 0, none⟩ = false := Fs.out.f 0 rfl
              have y1 : wx11.cell? ⟨w.heap.size, 1, none⟩ = some (.bool true) := Fs.out.c 1 rfl
              have g1 : wx11.frozen? ⟨w.heap.size, 1, none⟩ = false := Fs.out.f 1 rfl
              have y2 : wx11.cell? ⟨w.heap.size, 2, none⟩ = some (.int .i64 Sn) := Fs.out.c 2 rfl
              have g2 : wx11.frozen? ⟨w.heap.size, 2, none⟩ = false := Fs.out.f 2 rfl
              go_wp2_with fail
              go_roundw
              case rel => exact ⟨k + 1, true, true, Sn, M, Sn, by omega, by go_num, rfl, rfl, rfl, HA1, (((Fs.out.set 0 (.bool true)).set 1 (.bool true)).set 2 (.int .i64 Sn)), (((FX.out.set (p := ⟨w.heap.size, 0, none⟩) Ls.out _).set (p := ⟨w.heap.size, 1, none⟩) Ls.out _).set (p := ⟨w.heap.size, 2, none⟩) Ls.out _)⟩
              case measure => simp [intOf]; omega
          · have b2 : decide (1 < p) = false := by simpa using b1
            clear Bp b1
            go_upto_region 12 with (go_at_call_of 13 (Value.int IntKind.i64 zm); refine (HC.out _).mono ?_; rintro e wx ⟨rfl, hwx⟩; have hwy := hwx.symm; clear hwx; subst hwy)
            clear HC c3 b2
            rcases once_low HA.out h5 Bd.out with ⟨rfl, rfl, rfl, rfl, e1, HA⟩ | ⟨rfl, rfl, g1, g2, rfl, g3, e1, HA⟩ | ⟨rfl, rfl, g1, g2, rfl, g3, e1, HA⟩ | ⟨rfl, rfl, g1, rfl, e1, HA⟩
            · rw [hM] at e1 HA
              have k1 := ftake_any false false 0 0 M
              rw [e1] at k1
              have HT : Hid (∀ w, Calls Try.prog 10 #[.agg #[.bool false, .bool false, .int .i64 0], .int .i64 0, .int .i64 M] w fun e w' => e = .returned (.tuple #[.agg #[.bool true, .bool false, .int .i64 M], .bool false, .int .i64 0]) ∧ Ext w w') := k1
              clear k1 e1 Bd
              have HA1 : Hid (AI true false M M M (k + 1)) := HA
              clear HA
              have qs0 : wz.cell? ⟨w.heap.size, 0, none⟩ = some (.bool false) := Fs.out.c 0 rfl
              have qs1 : wz.cell? ⟨w.heap.size, 1, none⟩ = some (.bool false) := Fs.out.c 1 rfl
              have qs2 : wz.cell? ⟨w.heap.size, 2, none⟩ = some (.int .i64 0) := Fs.out.c 2 rfl
              go_upto_region 13 with (first | (go_at_call 10; refine (HT.out _).mono ?_; rintro e wq1 ⟨rfl, xq1⟩))
              have Fs : Hid (HV wq1 w.heap.size [.bool false, .bool false, .int .i64 0]) := Fs.out.ext xq1
              have FX : Hid (Ext w wq1) := FX.out.trans xq1
              clear qs0 qs1 qs2 xq1 HT
              have ltst : w.heap.size < wq1.heap.size := Fs.out.1
              have Lt : Hid (w.heap.size ≤ wq1.heap.size) := FX.out.size
              have Fs : Hid (HV (wq1.alloc (.cells #[.bool true, .bool false, .int .i64 M] 24)) w.heap.size [.bool false, .bool false, .int .i64 0]) := Fs.out.alloc _
              have Ft : Hid (HV (wq1.alloc (.cells #[.bool true, .bool false, .int .i64 M] 24)) wq1.heap.size [.bool true, .bool false, .int .i64 M]) := hv_at rfl
              have FX : Hid (Ext w (wq1.alloc (.cells #[.bool true, .bool false, .int .i64 M] 24))) := FX.out.alloc _
              generalize (wq1.alloc (.cells #[.bool true, .bool false, .int .i64 M] 24)) = wx11 at *
              generalize wq1.heap.size = nt at *
              have qt0 : wx11.cell? ⟨nt, 0, none⟩ = some (.bool true) := Ft.out.c 0 rfl
              have qt1 : wx11.cell? ⟨nt, 1, none⟩ = some (.bool false) := Ft.out.c 1 rfl
              have qt2 : wx11.cell? ⟨nt, 2, none⟩ = some (.int .i64 M) := Ft.out.c 2 rfl
              go_upto_region 21 with (first | (go_at_call 11; refine (num20_any _ _).mono ?_; rintro e wx ⟨rfl, hwx⟩; have hwy := hwx.symm; clear hwx; subst hwy))
              have y0 : wx11.cell? ⟨w.heap.size, 0, none⟩ = some (.bool false) := Fs.out.c 0 rfl
              have g0 : wx11.frozen? ⟨w.heap.size, 0, none⟩ = false := Fs.out.f 0 rfl
              have y1 : wx11.cell? ⟨w.heap.size, 1, none⟩ = some (.bool false) := Fs.out.c 1 rfl
              have g1 : wx11.frozen? ⟨w.heap.size, 1, none⟩ = false := Fs.out.f 1 rfl
              have y2 : wx11.cell? ⟨w.heap.size, 2, none⟩ = some (.int .i64 0) := Fs.out.c 2 rfl
              have g2 : wx11.frozen? ⟨w.heap.size, 2, none⟩ = false := Fs.out.f 2 rfl
              go_wp2_with fail
              go_roundw
              case rel => exact ⟨k + 1, true, false, M, M, M, by omega, by go_num, rfl, rfl, rfl, HA1, (((Fs.out.set 0 (.bool true)).set 1 (.bool false)).set 2 (.int .i64 M)), (((FX.out.set (p := ⟨w.heap.size, 0, none⟩) Ls.out _).set (p := ⟨w.heap.size, 1, none⟩) Ls.out _).set (p := ⟨w.heap.size, 2, none⟩) Ls.out _)⟩
              case measure => simp [intOf]; omega
            · have g5 : decide (0 ≤ Sn) = true := by simpa using g1
              have g6 : decide (Sn < 0) = false := by simp; omega
              rw [hM] at e1 HA g2 g3
              have k1 := ftake_any true false Sn 0 M
              rw [e1] at k1
              have HT : Hid (∀ w, Calls Try.prog 10 #[.agg #[.bool true, .bool false, .int .i64 Sn], .int .i64 0, .int .i64 M] w fun e w' => e = .returned (.tuple #[.agg #[.bool true, .bool true, .int .i64 Sn], .bool true, .int .i64 0]) ∧ Ext w w') := k1
              clear k1 e1 Bd
              have g4 : decide (100 ≤ M - Sn) = true := by simpa using g3
              have HA1 : Hid (AI true true Sn M Sn (k + 1)) := HA
              clear HA
              have qs0 : wz.cell? ⟨w.heap.size, 0, none⟩ = some (.bool true) := Fs.out.c 0 rfl
              have qs1 : wz.cell? ⟨w.heap.size, 1, none⟩ = some (.bool false) := Fs.out.c 1 rfl
              have qs2 : wz.cell? ⟨w.heap.size, 2, none⟩ = some (.int .i64 Sn) := Fs.out.c 2 rfl
              go_upto_region 13 with (first | (go_at_call 10; refine (HT.out _).mono ?_; rintro e wq1 ⟨rfl, xq1⟩))
              have Fs : Hid (HV wq1 w.heap.size [.bool true, .bool false, .int .i64 Sn]) := Fs.out.ext xq1
              have FX : Hid (Ext w wq1) := FX.out.trans xq1
              clear qs0 qs1 qs2 xq1 HT
              have ltst : w.heap.size < wq1.heap.size := Fs.out.1
              have Lt : Hid (w.heap.size ≤ wq1.heap.size) := FX.out.size
              have Fs : Hid (HV (wq1.alloc (.cells #[.bool true, .bool true, .int .i64 Sn] 24)) w.heap.size [.bool true, .bool false, .int .i64 Sn]) := Fs.out.alloc _
              have Ft : Hid (HV (wq1.alloc (.cells #[.bool true, .bool true, .int .i64 Sn] 24)) wq1.heap.size [.bool true, .bool true, .int .i64 Sn]) := hv_at rfl
              have FX : Hid (Ext w (wq1.alloc (.cells #[.bool true, .bool true, .int .i64 Sn] 24))) := FX.out.alloc _
              generalize (wq1.alloc (.cells #[.bool true, .bool true, .int .i64 Sn] 24)) = wx11 at *
              generalize wq1.heap.size = nt at *
              have qt0 : wx11.cell? ⟨nt, 0, none⟩ = some (.bool true) := Ft.out.c 0 rfl
              have qt1 : wx11.cell? ⟨nt, 1, none⟩ = some (.bool true) := Ft.out.c 1 rfl
              have qt2 : wx11.cell? ⟨nt, 2, none⟩ = some (.int .i64 Sn) := Ft.out.c 2 rfl
              go_upto_region 21 with (first | (go_at_call 11; refine (num20_any _ _).mono ?_; rintro e wx ⟨rfl, hwx⟩; have hwy := hwx.symm; clear hwx; subst hwy))
              have y0 : wx11.cell? ⟨w.heap.size, 0, none⟩ = some (.bool true) := Fs.out.c 0 rfl
              have g0 : wx11.frozen? ⟨w.heap.size, 0, none⟩ = false := Fs.out.f 0 rfl
              have y1 : wx11.cell? ⟨w.heap.size, 1, none⟩ = some (.bool false) := Fs.out.c 1 rfl
              have g1 : wx11.frozen? ⟨w.heap.size, 1, none⟩ = false := Fs.out.f 1 rfl
              have y2 : wx11.cell? ⟨w.heap.size, 2, none⟩ = some (.int .i64 Sn) := Fs.out.c 2 rfl
              have g2 : wx11.frozen? ⟨w.heap.size, 2, none⟩ = false := Fs.out.f 2 rfl
              go_wp2_with fail
              go_roundw
              case rel => exact ⟨k + 1, true, true, Sn, M, Sn, by omega, by go_num, rfl, rfl, rfl, HA1, (((Fs.out.set 0 (.bool true)).set 1 (.bool true)).set 2 (.int .i64 Sn)), (((FX.out.set (p := ⟨w.heap.size, 0, none⟩) Ls.out _).set (p := ⟨w.heap.size, 1, none⟩) Ls.out _).set (p := ⟨w.heap.size, 2, none⟩) Ls.out _)⟩
              case measure => simp [intOf]; omega
            · have g5 : decide (0 ≤ Sn) = true := by simpa using g1
              have g6 : decide (Sn < 0) = false := by simp; omega
              rw [hM] at e1 HA g2 g3
              have k1 := ftake_any true false Sn 0 M
              rw [e1] at k1
              have HT : Hid (∀ w, Calls Try.prog 10 #[.agg #[.bool true, .bool false, .int .i64 Sn], .int .i64 0, .int .i64 M] w fun e w' => e = .returned (.tuple #[.agg #[.bool true, .bool false, .int .i64 Sn], .bool false, .int .i64 0]) ∧ Ext w w') := k1
              clear k1 e1 Bd
              have g4 : decide (100 ≤ M - Sn) = false := by simp; omega
              have HA1 : Hid (AI true false Sn M Sn (k + 1)) := HA
              clear HA
              have qs0 : wz.cell? ⟨w.heap.size, 0, none⟩ = some (.bool true) := Fs.out.c 0 rfl
              have qs1 : wz.cell? ⟨w.heap.size, 1, none⟩ = some (.bool false) := Fs.out.c 1 rfl
              have qs2 : wz.cell? ⟨w.heap.size, 2, none⟩ = some (.int .i64 Sn) := Fs.out.c 2 rfl
              go_upto_region 13 with (first | (go_at_call 10; refine (HT.out _).mono ?_; rintro e wq1 ⟨rfl, xq1⟩))
              have Fs : Hid (HV wq1 w.heap.size [.bool true, .bool false, .int .i64 Sn]) := Fs.out.ext xq1
              have FX : Hid (Ext w wq1) := FX.out.trans xq1
              clear qs0 qs1 qs2 xq1 HT
              have ltst : w.heap.size < wq1.heap.size := Fs.out.1
              have Lt : Hid (w.heap.size ≤ wq1.heap.size) := FX.out.size
              have Fs : Hid (HV (wq1.alloc (.cells #[.bool true, .bool false, .int .i64 Sn] 24)) w.heap.size [.bool true, .bool false, .int .i64 Sn]) := Fs.out.alloc _
              have Ft : Hid (HV (wq1.alloc (.cells #[.bool true, .bool false, .int .i64 Sn] 24)) wq1.heap.size [.bool true, .bool false, .int .i64 Sn]) := hv_at rfl
              have FX : Hid (Ext w (wq1.alloc (.cells #[.bool true, .bool false, .int .i64 Sn] 24))) := FX.out.alloc _
              generalize (wq1.alloc (.cells #[.bool true, .bool false, .int .i64 Sn] 24)) = wx11 at *
              generalize wq1.heap.size = nt at *
              have qt0 : wx11.cell? ⟨nt, 0, none⟩ = some (.bool true) := Ft.out.c 0 rfl
              have qt1 : wx11.cell? ⟨nt, 1, none⟩ = some (.bool false) := Ft.out.c 1 rfl
              have qt2 : wx11.cell? ⟨nt, 2, none⟩ = some (.int .i64 Sn) := Ft.out.c 2 rfl
              go_upto_region 21 with (first | (go_at_call 11; refine (num20_any _ _).mono ?_; rintro e wx ⟨rfl, hwx⟩; have hwy := hwx.symm; clear hwx; subst hwy))
              have y0 : wx11.cell? ⟨w.heap.size, 0, none⟩ = some (.bool true) := Fs.out.c 0 rfl
              have g0 : wx11.frozen? ⟨w.heap.size, 0, none⟩ = false := Fs.out.f 0 rfl
              have y1 : wx11.cell? ⟨w.heap.size, 1, none⟩ = some (.bool false) := Fs.out.c 1 rfl
              have g1 : wx11.frozen? ⟨w.heap.size, 1, none⟩ = false := Fs.out.f 1 rfl
              have y2 : wx11.cell? ⟨w.heap.size, 2, none⟩ = some (.int .i64 Sn) := Fs.out.c 2 rfl
              have g2 : wx11.frozen? ⟨w.heap.size, 2, none⟩ = false := Fs.out.f 2 rfl
              go_wp2_with fail
              go_roundw
              case rel => exact ⟨k + 1, true, false, Sn, M, Sn, by omega, by go_num, rfl, rfl, rfl, HA1, (((Fs.out.set 0 (.bool true)).set 1 (.bool false)).set 2 (.int .i64 Sn)), (((FX.out.set (p := ⟨w.heap.size, 0, none⟩) Ls.out _).set (p := ⟨w.heap.size, 1, none⟩) Ls.out _).set (p := ⟨w.heap.size, 2, none⟩) Ls.out _)⟩
              case measure => simp [intOf]; omega
            · have g5 : decide (0 ≤ Sn) = true := by simpa using g1
              have g6 : decide (Sn < 0) = false := by simp; omega
              rw [hM] at e1 HA
              have k1 := ftake_any true true Sn 0 M
              rw [e1] at k1
              have HT : Hid (∀ w, Calls Try.prog 10 #[.agg #[.bool true, .bool true, .int .i64 Sn], .int .i64 0, .int .i64 M] w fun e w' => e = .returned (.tuple #[.agg #[.bool true, .bool true, .int .i64 Sn], .bool false, .int .i64 0]) ∧ Ext w w') := k1
              clear k1 e1 Bd
              have HA1 : Hid (AI true true Sn M Sn (k + 1)) := HA
              clear HA
              have qs0 : wz.cell? ⟨w.heap.size, 0, none⟩ = some (.bool true) := Fs.out.c 0 rfl
              have qs1 : wz.cell? ⟨w.heap.size, 1, none⟩ = some (.bool true) := Fs.out.c 1 rfl
              have qs2 : wz.cell? ⟨w.heap.size, 2, none⟩ = some (.int .i64 Sn) := Fs.out.c 2 rfl
              go_upto_region 13 with (first | (go_at_call 10; refine (HT.out _).mono ?_; rintro e wq1 ⟨rfl, xq1⟩))
              have Fs : Hid (HV wq1 w.heap.size [.bool true, .bool true, .int .i64 Sn]) := Fs.out.ext xq1
              have FX : Hid (Ext w wq1) := FX.out.trans xq1
              clear qs0 qs1 qs2 xq1 HT
              have ltst : w.heap.size < wq1.heap.size := Fs.out.1
              have Lt : Hid (w.heap.size ≤ wq1.heap.size) := FX.out.size
              have Fs : Hid (HV (wq1.alloc (.cells #[.bool true, .bool true, .int .i64 Sn] 24)) w.heap.size [.bool true, .bool true, .int .i64 Sn]) := Fs.out.alloc _
              have Ft : Hid (HV (wq1.alloc (.cells #[.bool true, .bool true, .int .i64 Sn] 24)) wq1.heap.size [.bool true, .bool true, .int .i64 Sn]) := hv_at rfl
              have FX : Hid (Ext w (wq1.alloc (.cells #[.bool true, .bool true, .int .i64 Sn] 24))) := FX.out.alloc _
              generalize (wq1.alloc (.cells #[.bool true, .bool true, .int .i64 Sn] 24)) = wx11 at *
              generalize wq1.heap.size = nt at *
              have qt0 : wx11.cell? ⟨nt, 0, none⟩ = some (.bool true) := Ft.out.c 0 rfl
              have qt1 : wx11.cell? ⟨nt, 1, none⟩ = some (.bool true) := Ft.out.c 1 rfl
              have qt2 : wx11.cell? ⟨nt, 2, none⟩ = some (.int .i64 Sn) := Ft.out.c 2 rfl
              go_upto_region 21 with (first | (go_at_call 11; refine (num20_any _ _).mono ?_; rintro e wx ⟨rfl, hwx⟩; have hwy := hwx.symm; clear hwx; subst hwy))
              have y0 : wx11.cell? ⟨w.heap.size, 0, none⟩ = some (.bool true) := Fs.out.c 0 rfl
              have g0 : wx11.frozen? ⟨w.heap.size, 0, none⟩ = false := Fs.out.f 0 rfl
              have y1 : wx11.cell? ⟨w.heap.size, 1, none⟩ = some (.bool true) := Fs.out.c 1 rfl
              have g1 : wx11.frozen? ⟨w.heap.size, 1, none⟩ = false := Fs.out.f 1 rfl
              have y2 : wx11.cell? ⟨w.heap.size, 2, none⟩ = some (.int .i64 Sn) := Fs.out.c 2 rfl
              have g2 : wx11.frozen? ⟨w.heap.size, 2, none⟩ = false := Fs.out.f 2 rfl
              go_wp2_with fail
              go_roundw
              case rel => exact ⟨k + 1, true, true, Sn, M, Sn, by omega, by go_num, rfl, rfl, rfl, HA1, (((Fs.out.set 0 (.bool true)).set 1 (.bool true)).set 2 (.int .i64 Sn)), (((FX.out.set (p := ⟨w.heap.size, 0, none⟩) Ls.out _).set (p := ⟨w.heap.size, 1, none⟩) Ls.out _).set (p := ⟨w.heap.size, 2, none⟩) Ls.out _)⟩
              case measure => simp [intOf]; omega
        · clear HQ
          have cq : (wr.alloc (.cells #[.int .i64 0, .int .i64 3268883, .int .i64 9806650] 2)).cell? ⟨wr.heap.size, 1, none⟩ = some (.int .i64 3268883) := Fq.out.c 1 rfl
          go_upto_region 10 with (go_at_call_of 13 (Value.int IntKind.i64 zm); refine (HB.out _).mono ?_; rintro e wx ⟨rfl, hwx⟩; have hwy := hwx.symm; clear hwx; subst hwy)
          clear HB cq Fq
          generalize (wr.alloc (.cells #[.int .i64 0, .int .i64 3268883, .int .i64 9806650] 2)) = wz at *
          by_cases b1 : 1 < p
          · have b2 : decide (1 < p) = true := by simpa using b1
            clear Bp b1
            go_upto_region 12 with (go_at_call_of 13 (Value.int IntKind.i64 zm); refine (HC.out _).mono ?_; rintro e wx ⟨rfl, hwx⟩; have hwy := hwx.symm; clear hwx; subst hwy)
            clear HC c3 b2
            rcases once_low HA.out h5 Bd.out with ⟨rfl, rfl, rfl, rfl, e1, HA⟩ | ⟨rfl, rfl, g1, g2, rfl, g3, e1, HA⟩ | ⟨rfl, rfl, g1, g2, rfl, g3, e1, HA⟩ | ⟨rfl, rfl, g1, rfl, e1, HA⟩
            · rw [hM] at e1 HA
              have k1 := ftake_any false false 0 0 M
              rw [e1] at k1
              have HT : Hid (∀ w, Calls Try.prog 10 #[.agg #[.bool false, .bool false, .int .i64 0], .int .i64 0, .int .i64 M] w fun e w' => e = .returned (.tuple #[.agg #[.bool true, .bool false, .int .i64 M], .bool false, .int .i64 0]) ∧ Ext w w') := k1
              clear k1 e1 Bd
              have HA1 : Hid (AI true false M M M (k + 1)) := HA
              clear HA
              have qs0 : wz.cell? ⟨w.heap.size, 0, none⟩ = some (.bool false) := Fs.out.c 0 rfl
              have qs1 : wz.cell? ⟨w.heap.size, 1, none⟩ = some (.bool false) := Fs.out.c 1 rfl
              have qs2 : wz.cell? ⟨w.heap.size, 2, none⟩ = some (.int .i64 0) := Fs.out.c 2 rfl
              go_upto_region 13 with (first | (go_at_call 10; refine (HT.out _).mono ?_; rintro e wq1 ⟨rfl, xq1⟩))
              have Fs : Hid (HV wq1 w.heap.size [.bool false, .bool false, .int .i64 0]) := Fs.out.ext xq1
              have FX : Hid (Ext w wq1) := FX.out.trans xq1
              clear qs0 qs1 qs2 xq1 HT
              have ltst : w.heap.size < wq1.heap.size := Fs.out.1
              have Lt : Hid (w.heap.size ≤ wq1.heap.size) := FX.out.size
              have Fs : Hid (HV (wq1.alloc (.cells #[.bool true, .bool false, .int .i64 M] 24)) w.heap.size [.bool false, .bool false, .int .i64 0]) := Fs.out.alloc _
              have Ft : Hid (HV (wq1.alloc (.cells #[.bool true, .bool false, .int .i64 M] 24)) wq1.heap.size [.bool true, .bool false, .int .i64 M]) := hv_at rfl
              have FX : Hid (Ext w (wq1.alloc (.cells #[.bool true, .bool false, .int .i64 M] 24))) := FX.out.alloc _
              generalize (wq1.alloc (.cells #[.bool true, .bool false, .int .i64 M] 24)) = wx11 at *
              generalize wq1.heap.size = nt at *
              have qt0 : wx11.cell? ⟨nt, 0, none⟩ = some (.bool true) := Ft.out.c 0 rfl
              have qt1 : wx11.cell? ⟨nt, 1, none⟩ = some (.bool false) := Ft.out.c 1 rfl
              have qt2 : wx11.cell? ⟨nt, 2, none⟩ = some (.int .i64 M) := Ft.out.c 2 rfl
              go_upto_region 21 with (first | (go_at_call 11; refine (num20_any _ _).mono ?_; rintro e wx ⟨rfl, hwx⟩; have hwy := hwx.symm; clear hwx; subst hwy))
              have y0 : wx11.cell? ⟨w.heap.size, 0, none⟩ = some (.bool false) := Fs.out.c 0 rfl
              have g0 : wx11.frozen? ⟨w.heap.size, 0, none⟩ = false := Fs.out.f 0 rfl
              have y1 : wx11.cell? ⟨w.heap.size, 1, none⟩ = some (.bool false) := Fs.out.c 1 rfl
              have g1 : wx11.frozen? ⟨w.heap.size, 1, none⟩ = false := Fs.out.f 1 rfl
              have y2 : wx11.cell? ⟨w.heap.size, 2, none⟩ = some (.int .i64 0) := Fs.out.c 2 rfl
              have g2 : wx11.frozen? ⟨w.heap.size, 2, none⟩ = false := Fs.out.f 2 rfl
              go_wp2_with fail
              go_roundw
              case rel => exact ⟨k + 1, true, false, M, M, M, by omega, by go_num, rfl, rfl, rfl, HA1, (((Fs.out.set 0 (.bool true)).set 1 (.bool false)).set 2 (.int .i64 M)), (((FX.out.set (p := ⟨w.heap.size, 0, none⟩) Ls.out _).set (p := ⟨w.heap.size, 1, none⟩) Ls.out _).set (p := ⟨w.heap.size, 2, none⟩) Ls.out _)⟩
              case measure => simp [intOf]; omega
            · have g5 : decide (0 ≤ Sn) = true := by simpa using g1
              have g6 : decide (Sn < 0) = false := by simp; omega
              rw [hM] at e1 HA g2 g3
              have k1 := ftake_any true false Sn 0 M
              rw [e1] at k1
              have HT : Hid (∀ w, Calls Try.prog 10 #[.agg #[.bool true, .bool false, .int .i64 Sn], .int .i64 0, .int .i64 M] w fun e w' => e = .returned (.tuple #[.agg #[.bool true, .bool true, .int .i64 Sn], .bool true, .int .i64 0]) ∧ Ext w w') := k1
              clear k1 e1 Bd
              have g4 : decide (100 ≤ M - Sn) = true := by simpa using g3
              have HA1 : Hid (AI true true Sn M Sn (k + 1)) := HA
              clear HA
              have qs0 : wz.cell? ⟨w.heap.size, 0, none⟩ = some (.bool true) := Fs.out.c 0 rfl
              have qs1 : wz.cell? ⟨w.heap.size, 1, none⟩ = some (.bool false) := Fs.out.c 1 rfl
              have qs2 : wz.cell? ⟨w.heap.size, 2, none⟩ = some (.int .i64 Sn) := Fs.out.c 2 rfl
              go_upto_region 13 with (first | (go_at_call 10; refine (HT.out _).mono ?_; rintro e wq1 ⟨rfl, xq1⟩))
              have Fs : Hid (HV wq1 w.heap.size [.bool true, .bool false, .int .i64 Sn]) := Fs.out.ext xq1
              have FX : Hid (Ext w wq1) := FX.out.trans xq1
              clear qs0 qs1 qs2 xq1 HT
              have ltst : w.heap.size < wq1.heap.size := Fs.out.1
              have Lt : Hid (w.heap.size ≤ wq1.heap.size) := FX.out.size
              have Fs : Hid (HV (wq1.alloc (.cells #[.bool true, .bool true, .int .i64 Sn] 24)) w.heap.size [.bool true, .bool false, .int .i64 Sn]) := Fs.out.alloc _
              have Ft : Hid (HV (wq1.alloc (.cells #[.bool true, .bool true, .int .i64 Sn] 24)) wq1.heap.size [.bool true, .bool true, .int .i64 Sn]) := hv_at rfl
              have FX : Hid (Ext w (wq1.alloc (.cells #[.bool true, .bool true, .int .i64 Sn] 24))) := FX.out.alloc _
              generalize (wq1.alloc (.cells #[.bool true, .bool true, .int .i64 Sn] 24)) = wx11 at *
              generalize wq1.heap.size = nt at *
              have qt0 : wx11.cell? ⟨nt, 0, none⟩ = some (.bool true) := Ft.out.c 0 rfl
              have qt1 : wx11.cell? ⟨nt, 1, none⟩ = some (.bool true) := Ft.out.c 1 rfl
              have qt2 : wx11.cell? ⟨nt, 2, none⟩ = some (.int .i64 Sn) := Ft.out.c 2 rfl
              go_upto_region 21 with (first | (go_at_call 11; refine (num20_any _ _).mono ?_; rintro e wx ⟨rfl, hwx⟩; have hwy := hwx.symm; clear hwx; subst hwy))
              have y0 : wx11.cell? ⟨w.heap.size, 0, none⟩ = some (.bool true) := Fs.out.c 0 rfl
              have g0 : wx11.frozen? ⟨w.heap.size, 0, none⟩ = false := Fs.out.f 0 rfl
              have y1 : wx11.cell? ⟨w.heap.size, 1, none⟩ = some (.bool false) := Fs.out.c 1 rfl
              have g1 : wx11.frozen? ⟨w.heap.size, 1, none⟩ = false := Fs.out.f 1 rfl
              have y2 : wx11.cell? ⟨w.heap.size, 2, none⟩ = some (.int .i64 Sn) := Fs.out.c 2 rfl
              have g2 : wx11.frozen? ⟨w.heap.size, 2, none⟩ = false := Fs.out.f 2 rfl
              go_wp2_with fail
              go_roundw
              case rel => exact ⟨k + 1, true, true, Sn, M, Sn, by omega, by go_num, rfl, rfl, rfl, HA1, (((Fs.out.set 0 (.bool true)).set 1 (.bool true)).set 2 (.int .i64 Sn)), (((FX.out.set (p := ⟨w.heap.size, 0, none⟩) Ls.out _).set (p := ⟨w.heap.size, 1, none⟩) Ls.out _).set (p := ⟨w.heap.size, 2, none⟩) Ls.out _)⟩
              case measure => simp [intOf]; omega
            · have g5 : decide (0 ≤ Sn) = true := by simpa using g1
              have g6 : decide (Sn < 0) = false := by simp; omega
              rw [hM] at e1 HA g2 g3
              have k1 := ftake_any true false Sn 0 M
              rw [e1] at k1
              have HT : Hid (∀ w, Calls Try.prog 10 #[.agg #[.bool true, .bool false, .int .i64 Sn], .int .i64 0, .int .i64 M] w fun e w' => e = .returned (.tuple #[.agg #[.bool true, .bool false, .int .i64 Sn], .bool false, .int .i64 0]) ∧ Ext w w') := k1
              clear k1 e1 Bd
              have g4 : decide (100 ≤ M - Sn) = false := by simp; omega
              have HA1 : Hid (AI true false Sn M Sn (k + 1)) := HA
              clear HA
              have qs0 : wz.cell? ⟨w.heap.size, 0, none⟩ = some (.bool true) := Fs.out.c 0 rfl
              have qs1 : wz.cell? ⟨w.heap.size, 1, none⟩ = some (.bool false) := Fs.out.c 1 rfl
              have qs2 : wz.cell? ⟨w.heap.size, 2, none⟩ = some (.int .i64 Sn) := Fs.out.c 2 rfl
              go_upto_region 13 with (first | (go_at_call 10; refine (HT.out _).mono ?_; rintro e wq1 ⟨rfl, xq1⟩))
              have Fs : Hid (HV wq1 w.heap.size [.bool true, .bool false, .int .i64 Sn]) := Fs.out.ext xq1
              have FX : Hid (Ext w wq1) := FX.out.trans xq1
              clear qs0 qs1 qs2 xq1 HT
              have ltst : w.heap.size < wq1.heap.size := Fs.out.1
              have Lt : Hid (w.heap.size ≤ wq1.heap.size) := FX.out.size
              have Fs : Hid (HV (wq1.alloc (.cells #[.bool true, .bool false, .int .i64 Sn] 24)) w.heap.size [.bool true, .bool false, .int .i64 Sn]) := Fs.out.alloc _
              have Ft : Hid (HV (wq1.alloc (.cells #[.bool true, .bool false, .int .i64 Sn] 24)) wq1.heap.size [.bool true, .bool false, .int .i64 Sn]) := hv_at rfl
              have FX : Hid (Ext w (wq1.alloc (.cells #[.bool true, .bool false, .int .i64 Sn] 24))) := FX.out.alloc _
              generalize (wq1.alloc (.cells #[.bool true, .bool false, .int .i64 Sn] 24)) = wx11 at *
              generalize wq1.heap.size = nt at *
              have qt0 : wx11.cell? ⟨nt, 0, none⟩ = some (.bool true) := Ft.out.c 0 rfl
              have qt1 : wx11.cell? ⟨nt, 1, none⟩ = some (.bool false) := Ft.out.c 1 rfl
              have qt2 : wx11.cell? ⟨nt, 2, none⟩ = some (.int .i64 Sn) := Ft.out.c 2 rfl
              go_upto_region 21 with (first | (go_at_call 11; refine (num20_any _ _).mono ?_; rintro e wx ⟨rfl, hwx⟩; have hwy := hwx.symm; clear hwx; subst hwy))
              have y0 : wx11.cell? ⟨w.heap.size, 0, none⟩ = some (.bool true) := Fs.out.c 0 rfl
              have g0 : wx11.frozen? ⟨w.heap.size, 0, none⟩ = false := Fs.out.f 0 rfl
              have y1 : wx11.cell? ⟨w.heap.size, 1, none⟩ = some (.bool false) := Fs.out.c 1 rfl
              have g1 : wx11.frozen? ⟨w.heap.size, 1, none⟩ = false := Fs.out.f 1 rfl
              have y2 : wx11.cell? ⟨w.heap.size, 2, none⟩ = some (.int .i64 Sn) := Fs.out.c 2 rfl
              have g2 : wx11.frozen? ⟨w.heap.size, 2, none⟩ = false := Fs.out.f 2 rfl
              go_wp2_with fail
              go_roundw
              case rel => exact ⟨k + 1, true, false, Sn, M, Sn, by omega, by go_num, rfl, rfl, rfl, HA1, (((Fs.out.set 0 (.bool true)).set 1 (.bool false)).set 2 (.int .i64 Sn)), (((FX.out.set (p := ⟨w.heap.size, 0, none⟩) Ls.out _).set (p := ⟨w.heap.size, 1, none⟩) Ls.out _).set (p := ⟨w.heap.size, 2, none⟩) Ls.out _)⟩
              case measure => simp [intOf]; omega
            · have g5 : decide (0 ≤ Sn) = true := by simpa using g1
              have g6 : decide (Sn < 0) = false := by simp; omega
              rw [hM] at e1 HA
              have k1 := ftake_any true true Sn 0 M
              rw [e1] at k1
              have HT : Hid (∀ w, Calls Try.prog 10 #[.agg #[.bool true, .bool true, .int .i64 Sn], .int .i64 0, .int .i64 M] w fun e w' => e = .returned (.tuple #[.agg #[.bool true, .bool true, .int .i64 Sn], .bool false, .int .i64 0]) ∧ Ext w w') := k1
              clear k1 e1 Bd
              have HA1 : Hid (AI true true Sn M Sn (k + 1)) := HA
              clear HA
              have qs0 : wz.cell? ⟨w.heap.size, 0, none⟩ = some (.bool true) := Fs.out.c 0 rfl
              have qs1 : wz.cell? ⟨w.heap.size, 1, none⟩ = some (.bool true) := Fs.out.c 1 rfl
              have qs2 : wz.cell? ⟨w.heap.size, 2, none⟩ = some (.int .i64 Sn) := Fs.out.c 2 rfl
              go_upto_region 13 with (first | (go_at_call 10; refine (HT.out _).mono ?_; rintro e wq1 ⟨rfl, xq1⟩))
              have Fs : Hid (HV wq1 w.heap.size [.bool true, .bool true, .int .i64 Sn]) := Fs.out.ext xq1
              have FX : Hid (Ext w wq1) := FX.out.trans xq1
              clear qs0 qs1 qs2 xq1 HT
              have ltst : w.heap.size < wq1.heap.size := Fs.out.1
              have Lt : Hid (w.heap.size ≤ wq1.heap.size) := FX.out.size
              have Fs : Hid (HV (wq1.alloc (.cells #[.bool true, .bool true, .int .i64 Sn] 24)) w.heap.size [.bool true, .bool true, .int .i64 Sn]) := Fs.out.alloc _
              have Ft : Hid (HV (wq1.alloc (.cells #[.bool true, .bool true, .int .i64 Sn] 24)) wq1.heap.size [.bool true, .bool true, .int .i64 Sn]) := hv_at rfl
              have FX : Hid (Ext w (wq1.alloc (.cells #[.bool true, .bool true, .int .i64 Sn] 24))) := FX.out.alloc _
              generalize (wq1.alloc (.cells #[.bool true, .bool true, .int .i64 Sn] 24)) = wx11 at *
              generalize wq1.heap.size = nt at *
              have qt0 : wx11.cell? ⟨nt, 0, none⟩ = some (.bool true) := Ft.out.c 0 rfl
              have qt1 : wx11.cell? ⟨nt, 1, none⟩ = some (.bool true) := Ft.out.c 1 rfl
              have qt2 : wx11.cell? ⟨nt, 2, none⟩ = some (.int .i64 Sn) := Ft.out.c 2 rfl
              go_upto_region 21 with (first | (go_at_call 11; refine (num20_any _ _).mono ?_; rintro e wx ⟨rfl, hwx⟩; have hwy := hwx.symm; clear hwx; subst hwy))
              have y0 : wx11.cell? ⟨w.heap.size, 0, none⟩ = some (.bool true) := Fs.out.c 0 rfl
              have g0 : wx11.frozen? ⟨w.heap.size, 0, none⟩ = false := Fs.out.f 0 rfl
              have y1 : wx11.cell? ⟨w.heap.size, 1, none⟩ = some (.bool true) := Fs.out.c 1 rfl
              have g1 : wx11.frozen? ⟨w.heap.size, 1, none⟩ = false := Fs.out.f 1 rfl
              have y2 : wx11.cell? ⟨w.heap.size, 2, none⟩ = some (.int .i64 Sn) := Fs.out.c 2 rfl
              have g2 : wx11.frozen? ⟨w.heap.size, 2, none⟩ = false := Fs.out.f 2 rfl
              go_wp2_with fail
              go_roundw
              case rel => exact ⟨k + 1, true, true, Sn, M, Sn, by omega, by go_num, rfl, rfl, rfl, HA1, (((Fs.out.set 0 (.bool true)).set 1 (.bool true)).set 2 (.int .i64 Sn)), (((FX.out.set (p := ⟨w.heap.size, 0, none⟩) Ls.out _).set (p := ⟨w.heap.size, 1, none⟩) Ls.out _).set (p := ⟨w.heap.size, 2, none⟩) Ls.out _)⟩
              case measure => simp [intOf]; omega
          · have b2 : decide (1 < p) = false := by simpa using b1
            clear Bp b1
            go_upto_region 12 with (go_at_call_of 13 (Value.int IntKind.i64 zm); refine (HC.out _).mono ?_; rintro e wx ⟨rfl, hwx⟩; have hwy := hwx.symm; clear hwx; subst hwy)
            clear HC c3 b2
            cases tl
            · obtain ⟨e1, HA0⟩ := once_third HA.out h5 Bd.out
              clear HA
              rw [hM] at e1 HA0
              have k1 := ftake_any lo false s 3268883 M
              rw [e1] at k1
              have HT : Hid (∀ w, Calls Try.prog 10 #[.agg #[.bool lo, .bool false, .int .i64 s], .int .i64 3268883, .int .i64 M] w fun e w' => e = .returned (.tuple #[.agg #[.bool lo, .bool false, .int .i64 s], .bool false, .int .i64 0]) ∧ Ext w w') := k1
              clear k1 e1 Bd
              have HA1 : Hid (AI lo false s M Sn (k + 1)) := HA0
              clear HA0
              have qs0 : wz.cell? ⟨w.heap.size, 0, none⟩ = some (.bool lo) := Fs.out.c 0 rfl
              have qs1 : wz.cell? ⟨w.heap.size, 1, none⟩ = some (.bool false) := Fs.out.c 1 rfl
              have qs2 : wz.cell? ⟨w.heap.size, 2, none⟩ = some (.int .i64 s) := Fs.out.c 2 rfl
              go_upto_region 13 with (first | (go_at_call 10; refine (HT.out _).mono ?_; rintro e wq1 ⟨rfl, xq1⟩))
              have Fs : Hid (HV wq1 w.heap.size [.bool lo, .bool false, .int .i64 s]) := Fs.out.ext xq1
              have FX : Hid (Ext w wq1) := FX.out.trans xq1
              clear qs0 qs1 qs2 xq1 HT
              have ltst : w.heap.size < wq1.heap.size := Fs.out.1
              have Lt : Hid (w.heap.size ≤ wq1.heap.size) := FX.out.size
              have Fs : Hid (HV (wq1.alloc (.cells #[.bool lo, .bool false, .int .i64 s] 24)) w.heap.size [.bool lo, .bool false, .int .i64 s]) := Fs.out.alloc _
              have Ft : Hid (HV (wq1.alloc (.cells #[.bool lo, .bool false, .int .i64 s] 24)) wq1.heap.size [.bool lo, .bool false, .int .i64 s]) := hv_at rfl
              have FX : Hid (Ext w (wq1.alloc (.cells #[.bool lo, .bool false, .int .i64 s] 24))) := FX.out.alloc _
              generalize (wq1.alloc (.cells #[.bool lo, .bool false, .int .i64 s] 24)) = wx11 at *
              generalize wq1.heap.size = nt at *
              have qt0 : wx11.cell? ⟨nt, 0, none⟩ = some (.bool lo) := Ft.out.c 0 rfl
              have qt1 : wx11.cell? ⟨nt, 1, none⟩ = some (.bool false) := Ft.out.c 1 rfl
              have qt2 : wx11.cell? ⟨nt, 2, none⟩ = some (.int .i64 s) := Ft.out.c 2 rfl
              go_upto_region 21 with (first | (go_at_call 11; refine (num20_any _ _).mono ?_; rintro e wx ⟨rfl, hwx⟩; have hwy := hwx.symm; clear hwx; subst hwy))
              have y0 : wx11.cell? ⟨w.heap.size, 0, none⟩ = some (.bool lo) := Fs.out.c 0 rfl
              have g0 : wx11.frozen? ⟨w.heap.size, 0, none⟩ = false := Fs.out.f 0 rfl
              have y1 : wx11.cell? ⟨w.heap.size, 1, none⟩ = some (.bool false) := Fs.out.c 1 rfl
              have g1 : wx11.frozen? ⟨w.heap.size, 1, none⟩ = false := Fs.out.f 1 rfl
              have y2 : wx11.cell? ⟨w.heap.size, 2, none⟩ = some (.int .i64 s) := Fs.out.c 2 rfl
              have g2 : wx11.frozen? ⟨w.heap.size, 2, none⟩ = false := Fs.out.f 2 rfl
              go_wp2_with fail
              go_roundw
              case rel => exact ⟨k + 1, lo, false, s, M, Sn, by omega, by go_num, rfl, rfl, rfl, HA1, (((Fs.out.set 0 (.bool lo)).set 1 (.bool false)).set 2 (.int .i64 s)), (((FX.out.set (p := ⟨w.heap.size, 0, none⟩) Ls.out _).set (p := ⟨w.heap.size, 1, none⟩) Ls.out _).set (p := ⟨w.heap.size, 2, none⟩) Ls.out _)⟩
              case measure => simp [intOf]; omega
            · obtain ⟨e1, HA0⟩ := once_third HA.out h5 Bd.out
              clear HA
              rw [hM] at e1 HA0
              have k1 := ftake_any lo true s 3268883 M
              rw [e1] at k1
              have HT : Hid (∀ w, Calls Try.prog 10 #[.agg #[.bool lo, .bool true, .int .i64 s], .int .i64 3268883, .int .i64 M] w fun e w' => e = .returned (.tuple #[.agg #[.bool lo, .bool true, .int .i64 s], .bool false, .int .i64 0]) ∧ Ext w w') := k1
              clear k1 e1 Bd
              have HA1 : Hid (AI lo true s M Sn (k + 1)) := HA0
              clear HA0
              have qs0 : wz.cell? ⟨w.heap.size, 0, none⟩ = some (.bool lo) := Fs.out.c 0 rfl
              have qs1 : wz.cell? ⟨w.heap.size, 1, none⟩ = some (.bool true) := Fs.out.c 1 rfl
              have qs2 : wz.cell? ⟨w.heap.size, 2, none⟩ = some (.int .i64 s) := Fs.out.c 2 rfl
              go_upto_region 13 with (first | (go_at_call 10; refine (HT.out _).mono ?_; rintro e wq1 ⟨rfl, xq1⟩))
              have Fs : Hid (HV wq1 w.heap.size [.bool lo, .bool true, .int .i64 s]) := Fs.out.ext xq1
              have FX : Hid (Ext w wq1) := FX.out.trans xq1
              clear qs0 qs1 qs2 xq1 HT
              have ltst : w.heap.size < wq1.heap.size := Fs.out.1
              have Lt : Hid (w.heap.size ≤ wq1.heap.size) := FX.out.size
              have Fs : Hid (HV (wq1.alloc (.cells #[.bool lo, .bool true, .int .i64 s] 24)) w.heap.size [.bool lo, .bool true, .int .i64 s]) := Fs.out.alloc _
              have Ft : Hid (HV (wq1.alloc (.cells #[.bool lo, .bool true, .int .i64 s] 24)) wq1.heap.size [.bool lo, .bool true, .int .i64 s]) := hv_at rfl
              have FX : Hid (Ext w (wq1.alloc (.cells #[.bool lo, .bool true, .int .i64 s] 24))) := FX.out.alloc _
              generalize (wq1.alloc (.cells #[.bool lo, .bool true, .int .i64 s] 24)) = wx11 at *
              generalize wq1.heap.size = nt at *
              have qt0 : wx11.cell? ⟨nt, 0, none⟩ = some (.bool lo) := Ft.out.c 0 rfl
              have qt1 : wx11.cell? ⟨nt, 1, none⟩ = some (.bool true) := Ft.out.c 1 rfl
              have qt2 : wx11.cell? ⟨nt, 2, none⟩ = some (.int .i64 s) := Ft.out.c 2 rfl
              go_upto_region 21 with (first | (go_at_call 11; refine (num20_any _ _).mono ?_; rintro e wx ⟨rfl, hwx⟩; have hwy := hwx.symm; clear hwx; subst hwy))
              have y0 : wx11.cell? ⟨w.heap.size, 0, none⟩ = some (.bool lo) := Fs.out.c 0 rfl
              have g0 : wx11.frozen? ⟨w.heap.size, 0, none⟩ = false := Fs.out.f 0 rfl
              have y1 : wx11.cell? ⟨w.heap.size, 1, none⟩ = some (.bool true) := Fs.out.c 1 rfl
              have g1 : wx11.frozen? ⟨w.heap.size, 1, none⟩ = false := Fs.out.f 1 rfl
              have y2 : wx11.cell? ⟨w.heap.size, 2, none⟩ = some (.int .i64 s) := Fs.out.c 2 rfl
              have g2 : wx11.frozen? ⟨w.heap.size, 2, none⟩ = false := Fs.out.f 2 rfl
              go_wp2_with fail
              go_roundw
              case rel => exact ⟨k + 1, lo, true, s, M, Sn, by omega, by go_num, rfl, rfl, rfl, HA1, (((Fs.out.set 0 (.bool lo)).set 1 (.bool true)).set 2 (.int .i64 s)), (((FX.out.set (p := ⟨w.heap.size, 0, none⟩) Ls.out _).set (p := ⟨w.heap.size, 1, none⟩) Ls.out _).set (p := ⟨w.heap.size, 2, none⟩) Ls.out _)⟩
              case measure => simp [intOf]; omega
        · clear HQ
          have cq : (wr.alloc (.cells #[.int .i64 0, .int .i64 3268883, .int .i64 9806650] 2)).cell? ⟨wr.heap.size, 2, none⟩ = some (.int .i64 9806650) := Fq.out.c 2 rfl
          go_upto_region 10 with (go_at_call_of 13 (Value.int IntKind.i64 zm); refine (HB.out _).mono ?_; rintro e wx ⟨rfl, hwx⟩; have hwy := hwx.symm; clear hwx; subst hwy)
          clear HB cq Fq
          generalize (wr.alloc (.cells #[.int .i64 0, .int .i64 3268883, .int .i64 9806650] 2)) = wz at *
          by_cases b1 : 1 < p
          · have b2 : decide (1 < p) = true := by simpa using b1
            clear Bp b1
            go_upto_region 12 with (go_at_call_of 13 (Value.int IntKind.i64 zm); refine (HC.out _).mono ?_; rintro e wx ⟨rfl, hwx⟩; have hwy := hwx.symm; clear hwx; subst hwy)
            clear HC c3 b2
            rcases once_low HA.out h5 Bd.out with ⟨rfl, rfl, rfl, rfl, e1, HA⟩ | ⟨rfl, rfl, g1, g2, rfl, g3, e1, HA⟩ | ⟨rfl, rfl, g1, g2, rfl, g3, e1, HA⟩ | ⟨rfl, rfl, g1, rfl, e1, HA⟩
            · rw [hM] at e1 HA
              have k1 := ftake_any false false 0 0 M
              rw [e1] at k1
              have HT : Hid (∀ w, Calls Try.prog 10 #[.agg #[.bool false, .bool false, .int .i64 0], .int .i64 0, .int .i64 M] w fun e w' => e = .returned (.tuple #[.agg #[.bool true, .bool false, .int .i64 M], .bool false, .int .i64 0]) ∧ Ext w w') := k1
              clear k1 e1 Bd
              have HA1 : Hid (AI true false M M M (k + 1)) := HA
              clear HA
              have qs0 : wz.cell? ⟨w.heap.size, 0, none⟩ = some (.bool false) := Fs.out.c 0 rfl
              have qs1 : wz.cell? ⟨w.heap.size, 1, none⟩ = some (.bool false) := Fs.out.c 1 rfl
              have qs2 : wz.cell? ⟨w.heap.size, 2, none⟩ = some (.int .i64 0) := Fs.out.c 2 rfl
              go_upto_region 13 with (first | (go_at_call 10; refine (HT.out _).mono ?_; rintro e wq1 ⟨rfl, xq1⟩))
              have Fs : Hid (HV wq1 w.heap.size [.bool false, .bool false, .int .i64 0]) := Fs.out.ext xq1
              have FX : Hid (Ext w wq1) := FX.out.trans xq1
              clear qs0 qs1 qs2 xq1 HT
              have ltst : w.heap.size < wq1.heap.size := Fs.out.1
              have Lt : Hid (w.heap.size ≤ wq1.heap.size) := FX.out.size
              have Fs : Hid (HV (wq1.alloc (.cells #[.bool true, .bool false, .int .i64 M] 24)) w.heap.size [.bool false, .bool false, .int .i64 0]) := Fs.out.alloc _
              have Ft : Hid (HV (wq1.alloc (.cells #[.bool true, .bool false, .int .i64 M] 24)) wq1.heap.size [.bool true, .bool false, .int .i64 M]) := hv_at rfl
              have FX : Hid (Ext w (wq1.alloc (.cells #[.bool true, .bool false, .int .i64 M] 24))) := FX.out.alloc _
              generalize (wq1.alloc (.cells #[.bool true, .bool false, .int .i64 M] 24)) = wx11 at *
              generalize wq1.heap.size = nt at *
              have qt0 : wx11.cell? ⟨nt, 0, none⟩ = some (.bool true) := Ft.out.c 0 rfl
              have qt1 : wx11.cell? ⟨nt, 1, none⟩ = some (.bool false) := Ft.out.c 1 rfl
              have qt2 : wx11.cell? ⟨nt, 2, none⟩ = some (.int .i64 M) := Ft.out.c 2 rfl
              go_upto_region 21 with (first | (go_at_call 11; refine (num20_any _ _).mono ?_; rintro e wx ⟨rfl, hwx⟩; have hwy := hwx.symm; clear hwx; subst hwy))
              have y0 : wx11.cell? ⟨w.heap.size, 0, none⟩ = some (.bool false) := Fs.out.c 0 rfl
              have g0 : wx11.frozen? ⟨w.heap.size, 0, none⟩ = false := Fs.out.f 0 rfl
              have y1 : wx11.cell? ⟨w.heap.size, 1, none⟩ = some (.bool false) := Fs.out.c 1 rfl
              have g1 : wx11.frozen? ⟨w.heap.size, 1, none⟩ = false := Fs.out.f 1 rfl
              have y2 : wx11.cell? ⟨w.heap.size, 2, none⟩ = some (.int .i64 0) := Fs.out.c 2 rfl
              have g2 : wx11.frozen? ⟨w.heap.size, 2, none⟩ = false := Fs.out.f 2 rfl
              go_wp2_with fail
              go_roundw
              case rel => exact ⟨k + 1, true, false, M, M, M, by omega, by go_num, rfl, rfl, rfl, HA1, (((Fs.out.set 0 (.bool true)).set 1 (.bool false)).set 2 (.int .i64 M)), (((FX.out.set (p := ⟨w.heap.size, 0, none⟩) Ls.out _).set (p := ⟨w.heap.size, 1, none⟩) Ls.out _).set (p := ⟨w.heap.size, 2, none⟩) Ls.out _)⟩
              case measure => simp [intOf]; omega
            · have g5 : decide (0 ≤ Sn) = true := by simpa using g1
              have g6 : decide (Sn < 0) = false := by simp; omega
              rw [hM] at e1 HA g2 g3
              have k1 := ftake_any true false Sn 0 M
              rw [e1] at k1
              have HT : Hid (∀ w, Calls Try.prog 10 #[.agg #[.bool true, .bool false, .int .i64 Sn], .int .i64 0, .int .i64 M] w fun e w' => e = .returned (.tuple #[.agg #[.bool true, .bool true, .int .i64 Sn], .bool true, .int .i64 0]) ∧ Ext w w') := k1
              clear k1 e1 Bd
              have g4 : decide (100 ≤ M - Sn) = true := by simpa using g3
              have HA1 : Hid (AI true true Sn M Sn (k + 1)) := HA
              clear HA
              have qs0 : wz.cell? ⟨w.heap.size, 0, none⟩ = some (.bool true) := Fs.out.c 0 rfl
              have qs1 : wz.cell? ⟨w.heap.size, 1, none⟩ = some (.bool false) := Fs.out.c 1 rfl
              have qs2 : wz.cell? ⟨w.heap.size, 2, none⟩ = some (.int .i64 Sn) := Fs.out.c 2 rfl
              go_upto_region 13 with (first | (go_at_call 10; refine (HT.out _).mono ?_; rintro e wq1 ⟨rfl, xq1⟩))
              have Fs : Hid (HV wq1 w.heap.size [.bool true, .bool false, .int .i64 Sn]) := Fs.out.ext xq1
              have FX : Hid (Ext w wq1) := FX.out.trans xq1
              clear qs0 qs1 qs2 xq1 HT
              have ltst : w.heap.size < wq1.heap.size := Fs.out.1
              have Lt : Hid (w.heap.size ≤ wq1.heap.size) := FX.out.size
              have Fs : Hid (HV (wq1.alloc (.cells #[.bool true, .bool true, .int .i64 Sn] 24)) w.heap.size [.bool true, .bool false, .int .i64 Sn]) := Fs.out.alloc _
              have Ft : Hid (HV (wq1.alloc (.cells #[.bool true, .bool true, .int .i64 Sn] 24)) wq1.heap.size [.bool true, .bool true, .int .i64 Sn]) := hv_at rfl
              have FX : Hid (Ext w (wq1.alloc (.cells #[.bool true, .bool true, .int .i64 Sn] 24))) := FX.out.alloc _
              generalize (wq1.alloc (.cells #[.bool true, .bool true, .int .i64 Sn] 24)) = wx11 at *
              generalize wq1.heap.size = nt at *
              have qt0 : wx11.cell? ⟨nt, 0, none⟩ = some (.bool true) := Ft.out.c 0 rfl
              have qt1 : wx11.cell? ⟨nt, 1, none⟩ = some (.bool true) := Ft.out.c 1 rfl
              have qt2 : wx11.cell? ⟨nt, 2, none⟩ = some (.int .i64 Sn) := Ft.out.c 2 rfl
              go_upto_region 21 with (first | (go_at_call 11; refine (num20_any _ _).mono ?_; rintro e wx ⟨rfl, hwx⟩; have hwy := hwx.symm; clear hwx; subst hwy))
              have y0 : wx11.cell? ⟨w.heap.size, 0, none⟩ = some (.bool true) := Fs.out.c 0 rfl
              have g0 : wx11.frozen? ⟨w.heap.size, 0, none⟩ = false := Fs.out.f 0 rfl
              have y1 : wx11.cell? ⟨w.heap.size, 1, none⟩ = some (.bool false) := Fs.out.c 1 rfl
              have g1 : wx11.frozen? ⟨w.heap.size, 1, none⟩ = false := Fs.out.f 1 rfl
              have y2 : wx11.cell? ⟨w.heap.size, 2, none⟩ = some (.int .i64 Sn) := Fs.out.c 2 rfl
              have g2 : wx11.frozen? ⟨w.heap.size, 2, none⟩ = false := Fs.out.f 2 rfl
              go_wp2_with fail
              go_roundw
              case rel => exact ⟨k + 1, true, true, Sn, M, Sn, by omega, by go_num, rfl, rfl, rfl, HA1, (((Fs.out.set 0 (.bool true)).set 1 (.bool true)).set 2 (.int .i64 Sn)), (((FX.out.set (p := ⟨w.heap.size, 0, none⟩) Ls.out _).set (p := ⟨w.heap.size, 1, none⟩) Ls.out _).set (p := ⟨w.heap.size, 2, none⟩) Ls.out _)⟩
              case measure => simp [intOf]; omega
            · have g5 : decide (0 ≤ Sn) = true := by simpa using g1
              have g6 : decide (Sn < 0) = false := by simp; omega
              rw [hM] at e1 HA g2 g3
              have k1 := ftake_any true false Sn 0 M
              rw [e1] at k1
              have HT : Hid (∀ w, Calls Try.prog 10 #[.agg #[.bool true, .bool false, .int .i64 Sn], .int .i64 0, .int .i64 M] w fun e w' => e = .returned (.tuple #[.agg #[.bool true, .bool false, .int .i64 Sn], .bool false, .int .i64 0]) ∧ Ext w w') := k1
              clear k1 e1 Bd
              have g4 : decide (100 ≤ M - Sn) = false := by simp; omega
              have HA1 : Hid (AI true false Sn M Sn (k + 1)) := HA
              clear HA
              have qs0 : wz.cell? ⟨w.heap.size, 0, none⟩ = some (.bool true) := Fs.out.c 0 rfl
              have qs1 : wz.cell? ⟨w.heap.size, 1, none⟩ = some (.bool false) := Fs.out.c 1 rfl
              have qs2 : wz.cell? ⟨w.heap.size, 2, none⟩ = some (.int .i64 Sn) := Fs.out.c 2 rfl
              go_upto_region 13 with (first | (go_at_call 10; refine (HT.out _).mono ?_; rintro e wq1 ⟨rfl, xq1⟩))
              have Fs : Hid (HV wq1 w.heap.size [.bool true, .bool false, .int .i64 Sn]) := Fs.out.ext xq1
              have FX : Hid (Ext w wq1) := FX.out.trans xq1
              clear qs0 qs1 qs2 xq1 HT
              have ltst : w.heap.size < wq1.heap.size := Fs.out.1
              have Lt : Hid (w.heap.size ≤ wq1.heap.size) := FX.out.size
              have Fs : Hid (HV (wq1.alloc (.cells #[.bool true, .bool false, .int .i64 Sn] 24)) w.heap.size [.bool true, .bool false, .int .i64 Sn]) := Fs.out.alloc _
              have Ft : Hid (HV (wq1.alloc (.cells #[.bool true, .bool false, .int .i64 Sn] 24)) wq1.heap.size [.bool true, .bool false, .int .i64 Sn]) := hv_at rfl
              have FX : Hid (Ext w (wq1.alloc (.cells #[.bool true, .bool false, .int .i64 Sn] 24))) := FX.out.alloc _
              generalize (wq1.alloc (.cells #[.bool true, .bool false, .int .i64 Sn] 24)) = wx11 at *
              generalize wq1.heap.size = nt at *
              have qt0 : wx11.cell? ⟨nt, 0, none⟩ = some (.bool true) := Ft.out.c 0 rfl
              have qt1 : wx11.cell? ⟨nt, 1, none⟩ = some (.bool false) := Ft.out.c 1 rfl
              have qt2 : wx11.cell? ⟨nt, 2, none⟩ = some (.int .i64 Sn) := Ft.out.c 2 rfl
              go_upto_region 21 with (first | (go_at_call 11; refine (num20_any _ _).mono ?_; rintro e wx ⟨rfl, hwx⟩; have hwy := hwx.symm; clear hwx; subst hwy))
              have y0 : wx11.cell? ⟨w.heap.size, 0, none⟩ = some (.bool true) := Fs.out.c 0 rfl
              have g0 : wx11.frozen? ⟨w.heap.size, 0, none⟩ = false := Fs.out.f 0 rfl
              have y1 : wx11.cell? ⟨w.heap.size, 1, none⟩ = some (.bool false) := Fs.out.c 1 rfl
              have g1 : wx11.frozen? ⟨w.heap.size, 1, none⟩ = false := Fs.out.f 1 rfl
              have y2 : wx11.cell? ⟨w.heap.size, 2, none⟩ = some (.int .i64 Sn) := Fs.out.c 2 rfl
              have g2 : wx11.frozen? ⟨w.heap.size, 2, none⟩ = false := Fs.out.f 2 rfl
              go_wp2_with fail
              go_roundw
              case rel => exact ⟨k + 1, true, false, Sn, M, Sn, by omega, by go_num, rfl, rfl, rfl, HA1, (((Fs.out.set 0 (.bool true)).set 1 (.bool false)).set 2 (.int .i64 Sn)), (((FX.out.set (p := ⟨w.heap.size, 0, none⟩) Ls.out _).set (p := ⟨w.heap.size, 1, none⟩) Ls.out _).set (p := ⟨w.heap.size, 2, none⟩) Ls.out _)⟩
              case measure => simp [intOf]; omega
            · have g5 : decide (0 ≤ Sn) = true := by simpa using g1
              have g6 : decide (Sn < 0) = false := by simp; omega
              rw [hM] at e1 HA
              have k1 := ftake_any true true Sn 0 M
              rw [e1] at k1
              have HT : Hid (∀ w, Calls Try.prog 10 #[.agg #[.bool true, .bool true, .int .i64 Sn], .int .i64 0, .int .i64 M] w fun e w' => e = .returned (.tuple #[.agg #[.bool true, .bool true, .int .i64 Sn], .bool false, .int .i64 0]) ∧ Ext w w') := k1
              clear k1 e1 Bd
              have HA1 : Hid (AI true true Sn M Sn (k + 1)) := HA
              clear HA
              have qs0 : wz.cell? ⟨w.heap.size, 0, none⟩ = some (.bool true) := Fs.out.c 0 rfl
              have qs1 : wz.cell? ⟨w.heap.size, 1, none⟩ = some (.bool true) := Fs.out.c 1 rfl
              have qs2 : wz.cell? ⟨w.heap.size, 2, none⟩ = some (.int .i64 Sn) := Fs.out.c 2 rfl
              go_upto_region 13 with (first | (go_at_call 10; refine (HT.out _).mono ?_; rintro e wq1 ⟨rfl, xq1⟩))
              have Fs : Hid (HV wq1 w.heap.size [.bool true, .bool true, .int .i64 Sn]) := Fs.out.ext xq1
              have FX : Hid (Ext w wq1) := FX.out.trans xq1
              clear qs0 qs1 qs2 xq1 HT
              have ltst : w.heap.size < wq1.heap.size := Fs.out.1
              have Lt : Hid (w.heap.size ≤ wq1.heap.size) := FX.out.size
              have Fs : Hid (HV (wq1.alloc (.cells #[.bool true, .bool true, .int .i64 Sn] 24)) w.heap.size [.bool true, .bool true, .int .i64 Sn]) := Fs.out.alloc _
              have Ft : Hid (HV (wq1.alloc (.cells #[.bool true, .bool true, .int .i64 Sn] 24)) wq1.heap.size [.bool true, .bool true, .int .i64 Sn]) := hv_at rfl
              have FX : Hid (Ext w (wq1.alloc (.cells #[.bool true, .bool true, .int .i64 Sn] 24))) := FX.out.alloc _
              generalize (wq1.alloc (.cells #[.bool true, .bool true, .int .i64 Sn] 24)) = wx11 at *
              generalize wq1.heap.size = nt at *
              have qt0 : wx11.cell? ⟨nt, 0, none⟩ = some (.bool true) := Ft.out.c 0 rfl
              have qt1 : wx11.cell? ⟨nt, 1, none⟩ = some (.bool true) := Ft.out.c 1 rfl
              have qt2 : wx11.cell? ⟨nt, 2, none⟩ = some (.int .i64 Sn) := Ft.out.c 2 rfl
              go_upto_region 21 with (first | (go_at_call 11; refine (num20_any _ _).mono ?_; rintro e wx ⟨rfl, hwx⟩; have hwy := hwx.symm; clear hwx; subst hwy))
              have y0 : wx11.cell? ⟨w.heap.size, 0, none⟩ = some (.bool true) := Fs.out.c 0 rfl
              have g0 : wx11.frozen? ⟨w.heap.size, 0, none⟩ = false := Fs.out.f 0 rfl
              have y1 : wx11.cell? ⟨w.heap.size, 1, none⟩ = some (.bool true) := Fs.out.c 1 rfl
              have g1 : wx11.frozen? ⟨w.heap.size, 1, none⟩ = false := Fs.out.f 1 rfl
              have y2 : wx11.cell? ⟨w.heap.size, 2, none⟩ = some (.int .i64 Sn) := Fs.out.c 2 rfl
              have g2 : wx11.frozen? ⟨w.heap.size, 2, none⟩ = false := Fs.out.f 2 rfl
              go_wp2_with fail
              go_roundw
              case rel => exact ⟨k + 1, true, true, Sn, M, Sn, by omega, by go_num, rfl, rfl, rfl, HA1, (((Fs.out.set 0 (.bool true)).set 1 (.bool true)).set 2 (.int .i64 Sn)), (((FX.out.set (p := ⟨w.heap.size, 0, none⟩) Ls.out _).set (p := ⟨w.heap.size, 1, none⟩) Ls.out _).set (p := ⟨w.heap.size, 2, none⟩) Ls.out _)⟩
              case measure => simp [intOf]; omega
          · have b2 : decide (1 < p) = false := by simpa using b1
            clear Bp b1
            go_upto_region 12 with (go_at_call_of 13 (Value.int IntKind.i64 zm); refine (HC.out _).mono ?_; rintro e wx ⟨rfl, hwx⟩; have hwy := hwx.symm; clear hwx; subst hwy)
            clear HC c3 b2
            obtain ⟨e1, HA0⟩ := once_high HA.out h5 Bd.out
            clear HA
            rw [hM] at e1 HA0
            have k1 := ftake_any lo tl s 9806650 M
            rw [e1] at k1
            have HT : Hid (∀ w, Calls Try.prog 10 #[.agg #[.bool lo, .bool tl, .int .i64 s], .int .i64 9806650, .int .i64 M] w fun e w' => e = .returned (.tuple #[.agg #[.bool false, .bool false, .int .i64 0], .bool false, .int .i64 0]) ∧ Ext w w') := k1
            clear k1 e1 Bd
            have HA1 : Hid (AI false false 0 M (-1) (k + 1)) := HA0
            clear HA0
            have qs0 : wz.cell? ⟨w.heap.size, 0, none⟩ = some (.bool lo) := Fs.out.c 0 rfl
            have qs1 : wz.cell? ⟨w.heap.size, 1, none⟩ = some (.bool tl) := Fs.out.c 1 rfl
            have qs2 : wz.cell? ⟨w.heap.size, 2, none⟩ = some (.int .i64 s) := Fs.out.c 2 rfl
            go_upto_region 13 with (first | (go_at_call 10; refine (HT.out _).mono ?_; rintro e wq1 ⟨rfl, xq1⟩))
            have Fs : Hid (HV wq1 w.heap.size [.bool lo, .bool tl, .int .i64 s]) := Fs.out.ext xq1
            have FX : Hid (Ext w wq1) := FX.out.trans xq1
            clear qs0 qs1 qs2 xq1 HT
            have ltst : w.heap.size < wq1.heap.size := Fs.out.1
            have Lt : Hid (w.heap.size ≤ wq1.heap.size) := FX.out.size
            have Fs : Hid (HV (wq1.alloc (.cells #[.bool false, .bool false, .int .i64 0] 24)) w.heap.size [.bool lo, .bool tl, .int .i64 s]) := Fs.out.alloc _
            have Ft : Hid (HV (wq1.alloc (.cells #[.bool false, .bool false, .int .i64 0] 24)) wq1.heap.size [.bool false, .bool false, .int .i64 0]) := hv_at rfl
            have FX : Hid (Ext w (wq1.alloc (.cells #[.bool false, .bool false, .int .i64 0] 24))) := FX.out.alloc _
            generalize (wq1.alloc (.cells #[.bool false, .bool false, .int .i64 0] 24)) = wx11 at *
            generalize wq1.heap.size = nt at *
            have qt0 : wx11.cell? ⟨nt, 0, none⟩ = some (.bool false) := Ft.out.c 0 rfl
            have qt1 : wx11.cell? ⟨nt, 1, none⟩ = some (.bool false) := Ft.out.c 1 rfl
            have qt2 : wx11.cell? ⟨nt, 2, none⟩ = some (.int .i64 0) := Ft.out.c 2 rfl
            go_upto_region 21 with (first | (go_at_call 11; refine (num20_any _ _).mono ?_; rintro e wx ⟨rfl, hwx⟩; have hwy := hwx.symm; clear hwx; subst hwy))
            have y0 : wx11.cell? ⟨w.heap.size, 0, none⟩ = some (.bool lo) := Fs.out.c 0 rfl
            have g0 : wx11.frozen? ⟨w.heap.size, 0, none⟩ = false := Fs.out.f 0 rfl
            have y1 : wx11.cell? ⟨w.heap.size, 1, none⟩ = some (.bool tl) := Fs.out.c 1 rfl
            have g1 : wx11.frozen? ⟨w.heap.size, 1, none⟩ = false := Fs.out.f 1 rfl
            have y2 : wx11.cell? ⟨w.heap.size, 2, none⟩ = some (.int .i64 s) := Fs.out.c 2 rfl
            have g2 : wx11.frozen? ⟨w.heap.size, 2, none⟩ = false := Fs.out.f 2 rfl
            go_wp2_with fail
            go_roundw
            case rel => exact ⟨k + 1, false, false, 0, M, (-1), by omega, by go_num, rfl, rfl, rfl, HA1, (((Fs.out.set 0 (.bool false)).set 1 (.bool false)).set 2 (.int .i64 0)), (((FX.out.set (p := ⟨w.heap.size, 0, none⟩) Ls.out _).set (p := ⟨w.heap.size, 1, none⟩) Ls.out _).set (p := ⟨w.heap.size, 2, none⟩) Ls.out _)⟩
            case measure => simp [intOf]; omega
      · go_wp2_with fail
        refine (wakes20_any _).mono ?_
        rintro e w1 ⟨rfl, x1⟩
        have E1 : Ext w w1 := FX.out.trans x1
        go_wp2_with fail
        go_ret
        exact ⟨rfl, E1⟩
    · have hk' : k = len := by omega
      subst hk'
      go_wp2_with fail
      refine (wakes20_any _).mono ?_
      rintro e w1 ⟨rfl, x1⟩
      have E1 : Ext w w1 := FX.out.trans x1
      go_wp2_with fail
      go_ret
      exact ⟨rfl, E1⟩
set_option maxRecDepth 20000 in
set_option maxHeartbeats 4000000 in
theorem fallonce_none (a : Option Addr) (cap : Nat) (w : World) :
    Calls Try.prog 4 #[.slice a 0 cap] w fun e w' => e = .returned (.bool true) ∧ Ext w w' := by
  go_enter Try.func4, Try.ntmps4
  go_wp2_with fail
  go_loopw [7] (fun i wr => i = .int .i64 0 ∧ Hid (Ext w wr)) (fun _ _ => 0)
  case atStart => exact ⟨rfl, (Ext.refl _).alloc _⟩
  case round =>
    obtain ⟨rfl, FX⟩ := hrel
    go_wp2_with fail
    refine (wakes20_any _).mono ?_
    rintro e w1 ⟨rfl, x1⟩
    have E1 : Ext w w1 := FX.out.trans x1
    go_wp2_with fail
    go_ret
    exact ⟨rfl, E1⟩
end Go.Proofs.Ytleiiiagdkcckaa
