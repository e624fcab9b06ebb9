/- StepApart. -/
import Derived.Test.YtfeoiolcdiddiaaSp2
namespace Go.Proofs.Ytfeoiolcdiddiaa
open Go.RowKit
/-- between rounds -/
def AI (u : Bool) (l c N La : Int) (R : Bool) (n : Int) (k : Nat) : Prop :=
  c = n ∧ 0 ≤ n ∧ n ≤ k ∧ k ≤ 80 ∧ 0 ≤ l ∧ l ≤ N ∧ N ≤ 199 * k ∧ (n = 0 → La = -1) ∧ (0 < n → La = l) ∧ (u = true → R = true)
theorem step_ok {l c m N : Int} (h1 : 0 ≤ l ∧ l ≤ N) (h2 : 0 ≤ c ∧ c ≤ 80) (h3 : N ≤ 200000) (h4 : 0 ≤ m ∧ m ≤ 29419949) : okSt l c = true ∧ okMg m = true ∧ okTm N = true ∧ l ≤ N := by
  refine ⟨?_, ?_, okTm_iff.2 ⟨by omega, by omega⟩, h1.2⟩
  · unfold okSt
    rw [okTm_iff.2 ⟨h1.1, by omega⟩, okTm_iff.2 ⟨h2.1, by omega⟩]; rfl
  · unfold okMg okW
    simp
    omega
theorem apart_step {u : Bool} {l c N La : Int} {R : Bool} {n : Int} {k : Nat} {m d : Int} (h : AI u l c N La R n k) (hk : k < 80) (hm : 0 ≤ m ∧ m ≤ 29419949) (hd : 0 ≤ d ∧ d ≤ 199) :
    (∃ (u' : Bool) (l' c' : Int), takeS u l c m (N + d) = .tuple #[.agg #[.bool u', .int .i64 (l'), .int .i64 (c')], .bool false, .int .i64 0] ∧ takeS u' l' c' m (N + d) = .tuple #[.agg #[.bool u', .int .i64 (l'), .int .i64 (c')], .bool false, .int .i64 0] ∧ c' = n ∧ AI u' l' c' (N + d) La (R || decide (9806650 < m)) n (k + 1)) ∨
    (∃ (l' c' : Int), takeS u l c m (N + d) = .tuple #[.agg #[.bool false, .int .i64 (l'), .int .i64 (c')], .bool true, .int .i64 0] ∧ takeS false l' c' m (N + d) = .tuple #[.agg #[.bool false, .int .i64 (l'), .int .i64 (c')], .bool false, .int .i64 0] ∧ c' = n + 1 ∧ R = true ∧ m < 9806650 ∧ (0 ≤ La → 250 ≤ N + d - La) ∧ AI false l' c' (N + d) (N + d) false (n + 1) (k + 1)) := by
  obtain ⟨rfl, h0, h1, h2, h3, h4, h5, h6, h7, h8⟩ := h
  obtain ⟨o1, o2, o3, o4⟩ := step_ok (l := l) (c := c) (m := m) (N := N + d) ⟨h3, by omega⟩ ⟨h0, by omega⟩ (by omega) hm
  have e := takeS_good (u := u) o1 o2 o3 o4
  by_cases b1 : 11032481 < m
  · left
    rw [if_pos b1] at e
    have e2 := takeS_good (u := true) o1 o2 o3 o4
    rw [if_pos b1] at e2
    exact ⟨true, l, c, e, e2, rfl, rfl, h0, by omega, by omega, h3, by omega, by omega, h6, h7, fun _ => by simp; omega⟩
  · rw [if_neg b1] at e
    by_cases b2 : m < 9193735 ∧ u = true
    · rw [if_pos b2] at e
      by_cases b3 : c = 0 ∨ 250 ≤ N + d - l
      · rw [if_pos b3, if_neg (by omega)] at e
        right
        obtain ⟨p1, p2, p3, p4⟩ := step_ok (l := N + d) (c := c + 1) (m := m) (N := N + d) ⟨by omega, by omega⟩ ⟨by omega, by omega⟩ (by omega) hm
        have e2 := takeS_good (u := false) p1 p2 p3 p4
        rw [if_neg b1, if_neg (by simp)] at e2
        refine ⟨N + d, c + 1, e, e2, rfl, h8 b2.2, by omega, ?_, rfl, by omega, by omega, by omega, by omega, by omega, by omega, by omega, fun _ => rfl, fun x => by cases x⟩
        intro hl
        by_cases b4 : c = 0
        · have := h6 b4; omega
        · have := h7 (by omega); omega
      · rw [if_neg b3] at e
        left
        have e2 := takeS_good (u := false) o1 o2 o3 o4
        rw [if_neg b1, if_neg (by simp)] at e2
        exact ⟨false, l, c, e, e2, rfl, rfl, h0, by omega, by omega, h3, by omega, by omega, h6, h7, fun x => by cases x⟩
    · rw [if_neg b2] at e
      left
      exact ⟨u, l, c, e, e, rfl, rfl, h0, by omega, by omega, h3, by omega, by omega, h6, h7, fun x => by simp [h8 x]⟩
set_option maxRecDepth 20000 in
set_option maxHeartbeats 40000000 in
theorem stepapart_any (b off len cap : Nat) (C : Nat → Nat → Value) (w : World) (hl : len ≤ maxLen) (hc : ML 5 (fun j => j == 0) w b off len C) :
    Calls Try.prog 4 #[.slice (some ⟨b, off, none⟩) len cap] w fun e w' => e = .returned (.bool true) ∧ Ext w w' := by
  have hl' : len ≤ 9223372036854775807 := by unfold maxLen at hl; omega
  clear hl
  have A0 : Hid (AI false 0 0 0 (-1) false 0 0) := by show AI _ _ _ _ _ _ _ _; unfold AI; simp
  have Fs : Hid (HV (w.alloc (.cells #[.bool false, .int .i64 0, .int .i64 0] 24)) w.heap.size [.bool false, .int .i64 0, .int .i64 0]) := hv_at rfl
  have FX : Hid (Ext w (w.alloc (.cells #[.bool false, .int .i64 0, .int .i64 0] 24))) := (Ext.refl _).alloc _
  have Ls : Hid (w.heap.size ≤ w.heap.size) := Nat.le_refl _
  go_enter Try.func4, Try.ntmps4
  go_upto_region 2 with fail
  generalize (w.alloc (.cells #[.bool false, .int .i64 0, .int .i64 0] 24)) = wa at *
  go_wp2_with fail
  go_loopw [4, 5, 6, 7, 8] (fun vN vLa vR vn vi wr => ∃ (k : Nat) (u : Bool) (l c N La n : Int) (R : Bool), k ≤ len ∧ vi = .int .i64 k ∧ vN = .int .i64 N ∧ vLa = .int .i64 La ∧ vR = .bool R ∧ vn = .int .i64 n ∧ Hid (AI u l c N La R n k) ∧ Hid (HV wr w.heap.size [.bool u, .int .i64 l, .int .i64 c]) ∧ Hid (Ext w wr)) (fun _ _ _ _ i _ => len - (intOf i).toNat)
  case atStart => exact ⟨0, false, 0, 0, 0, -1, 0, false, Nat.zero_le _, rfl, rfl, rfl, rfl, rfl, A0, Fs, FX⟩
  case round =>
    clear A0 Fs FX
    obtain ⟨k, u, l, c, N, La, n, R, hk, rfl, rfl, rfl, rfl, rfl, HA, Fs, FX⟩ := hrel
    by_cases hlt : k < len
    · by_cases h5 : k < 80
      · skip
        obtain ⟨zm, c3, _⟩ := (hc.ext FX.out).num hlt (j := 3) (by omega) rfl
        obtain ⟨zn, c4, _⟩ := (hc.ext FX.out).num hlt (j := 4) (by omega) rfl
        have hlt' : (k : Int) < (len : Int) := by omega
        clear hc
        have HB : Hid (∀ w, Calls Try.prog 13 #[.int .i64 zm, .int .i64 29419950] w fun e w' => e = .returned (.int .i64 (zm % 18446744073709551616 % 29419950)) ∧ w' = w) := within_29419950 zm
        have Bm : Hid (0 ≤ zm % 18446744073709551616 % 29419950 ∧ zm % 18446744073709551616 % 29419950 ≤ 29419949) := ⟨by omega, by omega⟩
        generalize zm % 18446744073709551616 % 29419950 = m at *
        have HD : Hid (∀ w, Calls Try.prog 13 #[.int .i64 zn, .int .i64 200] w fun e w' => e = .returned (.int .i64 (zn % 18446744073709551616 % 200)) ∧ w' = w) := within_200 zn
        have Bd : Hid (0 ≤ zn % 18446744073709551616 % 200 ∧ zn % 18446744073709551616 % 200 ≤ 199) := ⟨by omega, by omega⟩
        generalize zn % 18446744073709551616 % 200 = d at *
        have HS := apart_step HA.out h5 Bm.out Bd.out
        have ed : IntKind.i64.wrap (N + d) = N + d := by
          have h := HA.out
          have hd := Bd.out
          unfold AI at h
          rw [IntKind.wrap_i64]
          omega
        have ea : wrap64 (N + d) = N + d := by
          have h := HA.out
          have hd := Bd.out
          unfold AI at h
          exact wrap_le _ (by omega) (by omega)
        have hn1 : wrap64 (n + 1) = n + 1 := by
          have h := HA.out
          unfold AI at h
          exact wrap_le _ (by omega) (by omega)
        have hs2 : Hid (0 ≤ La → wrap64 (N + d - La) = N + d - La) := fun hl => by
          have h := HA.out
          have hd := Bd.out
          unfold AI at h
          exact wrap_le _ (by omega) (by omega)
        go_upto_region 10 with (first | (go_at_call_of 13 (Value.int IntKind.i64 zm); refine (HB.out _).mono ?_; rintro e wx ⟨rfl, hwx⟩; have hwy := hwx.symm; clear hwx; subst hwy))
        go_upto_region 11 with (first | (go_at_call_of 13 (Value.int IntKind.i64 zn); refine (HD.out _).mono ?_; rintro e wx ⟨rfl, hwx⟩; have hwy := hwx.symm; clear hwx; subst hwy))
        clear c3 c4 HB HD Bd ed
        generalize N + d = M at *
        clear ea HA
        rcases HS with ⟨u', l', c', e1, e2, ec, HA⟩ | ⟨l', c', e1, e2, ec, rfl, em, el, HA⟩
        · cases R
          · by_cases b1 : 9806650 < m
            · have HA1 : Hid (AI u' l' c' M La true n (k + 1)) := by
                have h := HA
                rw [show (false || decide (9806650 < m)) = true by simpa using b1] at h
                exact h
              clear HA
              have b2 : decide (9806650 < m) = true := by simpa using b1
              have k1 := stake_any u l c m M
              rw [e1] at k1
              have k2 := stake_any u' l' c' m M
              rw [e2] at k2
              have HT : Hid (∀ w, Calls Try.prog 10 #[.agg #[.bool u, .int .i64 l, .int .i64 c], .int .i64 m, .int .i64 M] w fun e w' => e = .returned (.tuple #[.agg #[.bool u', .int .i64 (l'), .int .i64 (c')], .bool false, .int .i64 0]) ∧ Ext w w') := k1
              have HU : Hid (∀ w, Calls Try.prog 10 #[.agg #[.bool u', .int .i64 (l'), .int .i64 (c')], .int .i64 m, .int .i64 M] w fun e w' => e = .returned (.tuple #[.agg #[.bool u', .int .i64 (l'), .int .i64 (c')], .bool false, .int .i64 0]) ∧ Ext w w') := k2
              clear k1 k2 e1 e2
              subst ec
              go_upto_region 12 with fail
              have qs0 : wr.cell? ⟨w.heap.size, 0, none⟩ = some (.bool u) := Fs.out.c 0 rfl
              have qs1 : wr.cell? ⟨w.heap.size, 1, none⟩ = some (.int .i64 l) := Fs.out.c 1 rfl
              have qs2 : wr.cell? ⟨w.heap.size, 2, none⟩ = some (.int .i64 c) := Fs.out.c 2 rfl
              go_upto_region 13 with (first | (go_at_call 10; refine (HT.out _).mono ?_; rintro e wq1 ⟨rfl, xq1⟩))
              have Fs : Hid (HV wq1 w.heap.size [.bool u, .int .i64 l, .int .i64 c]) := Fs.out.ext xq1
              have FX : Hid (Ext w wq1) := FX.out.trans xq1
              clear qs0 qs1 qs2 xq1 HT
              have ltst : w.heap.size < wq1.heap.size := Fs.out.1
              have Lt : Hid (w.heap.size ≤ wq1.heap.size) := FX.out.size
              have Fs : Hid (HV (wq1.alloc (.cells #[.bool u', .int .i64 (l'), .int .i64 (c')] 24)) w.heap.size [.bool u, .int .i64 l, .int .i64 c]) := Fs.out.alloc _
              have Ft : Hid (HV (wq1.alloc (.cells #[.bool u', .int .i64 (l'), .int .i64 (c')] 24)) wq1.heap.size [.bool u', .int .i64 (l'), .int .i64 (c')]) := hv_at rfl
              have FX : Hid (Ext w (wq1.alloc (.cells #[.bool u', .int .i64 (l'), .int .i64 (c')] 24))) := FX.out.alloc _
              generalize (wq1.alloc (.cells #[.bool u', .int .i64 (l'), .int .i64 (c')] 24)) = wx11 at *
              generalize wq1.heap.size = nt at *
              have qt0 : wx11.cell? ⟨nt, 0, none⟩ = some (.bool u') := Ft.out.c 0 rfl
              have qt1 : wx11.cell? ⟨nt, 1, none⟩ = some (.int .i64 (l')) := Ft.out.c 1 rfl
              have qt2 : wx11.cell? ⟨nt, 2, none⟩ = some (.int .i64 (c')) := Ft.out.c 2 rfl
              go_upto_region 23 with (first | (go_at_call 11; refine (num17_any _ _).mono ?_; rintro e wx ⟨rfl, hwx⟩; have hwy := hwx.symm; clear hwx; subst hwy))
              go_upto_region 24 with (first | (go_at_call 10; refine (HU.out _).mono ?_; rintro e wq2 ⟨rfl, xq2⟩))
              have Fs : Hid (HV wq2 w.heap.size [.bool u, .int .i64 l, .int .i64 c]) := Fs.out.ext xq2
              have Ft : Hid (HV wq2 nt [.bool u', .int .i64 (l'), .int .i64 (c')]) := Ft.out.ext xq2
              have FX : Hid (Ext w wq2) := FX.out.trans xq2
              clear qt0 qt1 qt2 xq2 HU
              have ltsv : w.heap.size < wq2.heap.size := Fs.out.1
              have lttv : nt < wq2.heap.size := Ft.out.1
              have Lv : Hid (w.heap.size ≤ wq2.heap.size) := FX.out.size
              have Fs : Hid (HV (wq2.alloc (.cells #[.bool u', .int .i64 (l'), .int .i64 (c')] 24)) w.heap.size [.bool u, .int .i64 l, .int .i64 c]) := Fs.out.alloc _
              have Ft : Hid (HV (wq2.alloc (.cells #[.bool u', .int .i64 (l'), .int .i64 (c')] 24)) nt [.bool u', .int .i64 (l'), .int .i64 (c')]) := Ft.out.alloc _
              have Fv : Hid (HV (wq2.alloc (.cells #[.bool u', .int .i64 (l'), .int .i64 (c')] 24)) wq2.heap.size [.bool u', .int .i64 (l'), .int .i64 (c')]) := hv_at rfl
              have FX : Hid (Ext w (wq2.alloc (.cells #[.bool u', .int .i64 (l'), .int .i64 (c')] 24))) := FX.out.alloc _
              generalize (wq2.alloc (.cells #[.bool u', .int .i64 (l'), .int .i64 (c')] 24)) = wx12 at *
              generalize wq2.heap.size = nv at *
              have qv2 : wx12.cell? ⟨nv, 2, none⟩ = some (.int .i64 (c')) := Fv.out.c 2 rfl
              go_upto_region 26 with (first | (go_at_call 11; refine (num17_any _ _).mono ?_; rintro e wx ⟨rfl, hwx⟩; have hwy := hwx.symm; clear hwx; subst hwy))
              clear qv2
              have qt0 : wx12.cell? ⟨nt, 0, none⟩ = some (.bool u') := Ft.out.c 0 rfl
              have qt1 : wx12.cell? ⟨nt, 1, none⟩ = some (.int .i64 (l')) := Ft.out.c 1 rfl
              have qt2 : wx12.cell? ⟨nt, 2, none⟩ = some (.int .i64 (c')) := Ft.out.c 2 rfl
              have y0 : wx12.cell? ⟨w.heap.size, 0, none⟩ = some (.bool u) := Fs.out.c 0 rfl
              have g0 : wx12.frozen? ⟨w.heap.size, 0, none⟩ = false := Fs.out.f 0 rfl
              have y1 : wx12.cell? ⟨w.heap.size, 1, none⟩ = some (.int .i64 l) := Fs.out.c 1 rfl
              have g1 : wx12.frozen? ⟨w.heap.size, 1, none⟩ = false := Fs.out.f 1 rfl
              have y2 : wx12.cell? ⟨w.heap.size, 2, none⟩ = some (.int .i64 c) := Fs.out.c 2 rfl
              have g2 : wx12.frozen? ⟨w.heap.size, 2, none⟩ = false := Fs.out.f 2 rfl
              go_wp2_with fail
              go_roundw
              case rel => exact ⟨k + 1, u', l', c', M, La, c', true, by omega, by go_num, rfl, rfl, rfl, rfl, HA1, (((Fs.out.set 0 (.bool u')).set 1 (.int .i64 (l'))).set 2 (.int .i64 (c'))), (((FX.out.set (p := ⟨w.heap.size, 0, none⟩) Ls.out _).set (p := ⟨w.heap.size, 1, none⟩) Ls.out _).set (p := ⟨w.heap.size, 2, none⟩) Ls.out _)⟩
              case measure => simp [intOf]; omega
            · have HA1 : Hid (AI u' l' c' M La false n (k + 1)) := by
                have h := HA
                rw [show (false || decide (9806650 < m)) = false by simpa using b1] at h
                exact h
              clear HA
              have b2 : decide (9806650 < m) = false := by simpa using b1
              have k1 := stake_any u l c m M
              rw [e1] at k1
              have k2 := stake_any u' l' c' m M
              rw [e2] at k2
              have HT : Hid (∀ w, Calls Try.prog 10 #[.agg #[.bool u, .int .i64 l, .int .i64 c], .int .i64 m, .int .i64 M] w fun e w' => e = .returned (.tuple #[.agg #[.bool u', .int .i64 (l'), .int .i64 (c')], .bool false, .int .i64 0]) ∧ Ext w w') := k1
              have HU : Hid (∀ w, Calls Try.prog 10 #[.agg #[.bool u', .int .i64 (l'), .int .i64 (c')], .int .i64 m, .int .i64 M] w fun e w' => e = .returned (.tuple #[.agg #[.bool u', .int .i64 (l'), .int .i64 (c')], .bool false, .int .i64 0]) ∧ Ext w w') := k2
              clear k1 k2 e1 e2
              subst ec
              go_upto_region 12 with fail
              have qs0 : wr.cell? ⟨w.heap.size, 0, none⟩ = some (.bool u) := Fs.out.c 0 rfl
              have qs1 : wr.cell? ⟨w.heap.size, 1, none⟩ = some (.int .i64 l) := Fs.out.c 1 rfl
              have qs2 : wr.cell? ⟨w.heap.size, 2, none⟩ = some (.int .i64 c) := Fs.out.c 2 rfl
              go_upto_region 13 with (first | (go_at_call 10; refine (HT.out _).mono ?_; rintro e wq1 ⟨rfl, xq1⟩))
              have Fs : Hid (HV wq1 w.heap.size [.bool u, .int .i64 l, .int .i64 c]) := Fs.out.ext xq1
              have FX : Hid (Ext w wq1) := FX.out.trans xq1
              clear qs0 qs1 qs2 xq1 HT
              have ltst : w.heap.size < wq1.heap.size := Fs.out.1
              have Lt : Hid (w.heap.size ≤ wq1.heap.size) := FX.out.size
              have Fs : Hid (HV (wq1.alloc (.cells #[.bool u', .int .i64 (l'), .int .i64 (c')] 24)) w.heap.size [.bool u, .int .i64 l, .int .i64 c]) := Fs.out.alloc _
              have Ft : Hid (HV (wq1.alloc (.cells #[.bool u', .int .i64 (l'), .int .i64 (c')] 24)) wq1.heap.size [.bool u', .int .i64 (l'), .int .i64 (c')]) := hv_at rfl
              have FX : Hid (Ext w (wq1.alloc (.cells #[.bool u', .int .i64 (l'), .int .i64 (c')] 24))) := FX.out.alloc _
              generalize (wq1.alloc (.cells #[.bool u', .int .i64 (l'), .int .i64 (c')] 24)) = wx11 at *
              generalize wq1.heap.size = nt at *
              have qt0 : wx11.cell? ⟨nt, 0, none⟩ = some (.bool u') := Ft.out.c 0 rfl
              have qt1 : wx11.cell? ⟨nt, 1, none⟩ = some (.int .i64 (l')) := Ft.out.c 1 rfl
              have qt2 : wx11.cell? ⟨nt, 2, none⟩ = some (.int .i64 (c')) := Ft.out.c 2 rfl
              go_upto_region 23 with (first | (go_at_call 11; refine (num17_any _ _).mono ?_; rintro e wx ⟨rfl, hwx⟩; have hwy := hwx.symm; clear hwx; subst hwy))
              go_upto_region 24 with (first | (go_at_call 10; refine (HU.out _).mono ?_; rintro e wq2 ⟨rfl, xq2⟩))
              have Fs : Hid (HV wq2 w.heap.size [.bool u, .int .i64 l, .int .i64 c]) := Fs.out.ext xq2
              have Ft : Hid (HV wq2 nt [.bool u', .int .i64 (l'), .int .i64 (c')]) := Ft.out.ext xq2
              have FX : Hid (Ext w wq2) := FX.out.trans xq2
              clear qt0 qt1 qt2 xq2 HU
              have ltsv : w.heap.size < wq2.heap.size := Fs.out.1
              have lttv : nt < wq2.heap.size := Ft.out.1
              have Lv : Hid (w.heap.size ≤ wq2.heap.size) := FX.out.size
              have Fs : Hid (HV (wq2.alloc (.cells #[.bool u', .int .i64 (l'), .int .i64 (c')] 24)) w.heap.size [.bool u, .int .i64 l, .int .i64 c]) := Fs.out.alloc _
              have Ft : Hid (HV (wq2.alloc (.cells #[.bool u', .int .i64 (l'), .int .i64 (c')] 24)) nt [.bool u', .int .i64 (l'), .int .i64 (c')]) := Ft.out.alloc _
              have Fv : Hid (HV (wq2.alloc (.cells #[.bool u', .int .i64 (l'), .int .i64 (c')] 24)) wq2.heap.size [.bool u', .int .i64 (l'), .int .i64 (c')]) := hv_at rfl
              have FX : Hid (Ext w (wq2.alloc (.cells #[.bool u', .int .i64 (l'), .int .i64 (c')] 24))) := FX.out.alloc _
              generalize (wq2.alloc (.cells #[.bool u', .int .i64 (l'), .int .i64 (c')] 24)) = wx12 at *
              generalize wq2.heap.size = nv at *
              have qv2 : wx12.cell? ⟨nv, 2, none⟩ = some (.int .i64 (c')) := Fv.out.c 2 rfl
              go_upto_region 26 with (first | (go_at_call 11; refine (num17_any _ _).mono ?_; rintro e wx ⟨rfl, hwx⟩; have hwy := hwx.symm; clear hwx; subst hwy))
              clear qv2
              have qt0 : wx12.cell? ⟨nt, 0, none⟩ = some (.bool u') := Ft.out.c 0 rfl
              have qt1 : wx12.cell? ⟨nt, 1, none⟩ = some (.int .i64 (l')) := Ft.out.c 1 rfl
              have qt2 : wx12.cell? ⟨nt, 2, none⟩ = some (.int .i64 (c')) := Ft.out.c 2 rfl
              have y0 : wx12.cell? ⟨w.heap.size, 0, none⟩ = some (.bool u) := Fs.out.c 0 rfl
              have g0 : wx12.frozen? ⟨w.heap.size, 0, none⟩ = false := Fs.out.f 0 rfl
              have y1 : wx12.cell? ⟨w.heap.size, 1, none⟩ = some (.int .i64 l) := Fs.out.c 1 rfl
              have g1 : wx12.frozen? ⟨w.heap.size, 1, none⟩ = false := Fs.out.f 1 rfl
              have y2 : wx12.cell? ⟨w.heap.size, 2, none⟩ = some (.int .i64 c) := Fs.out.c 2 rfl
              have g2 : wx12.frozen? ⟨w.heap.size, 2, none⟩ = false := Fs.out.f 2 rfl
              go_wp2_with fail
              go_roundw
              case rel => exact ⟨k + 1, u', l', c', M, La, c', false, by omega, by go_num, rfl, rfl, rfl, rfl, HA1, (((Fs.out.set 0 (.bool u')).set 1 (.int .i64 (l'))).set 2 (.int .i64 (c'))), (((FX.out.set (p := ⟨w.heap.size, 0, none⟩) Ls.out _).set (p := ⟨w.heap.size, 1, none⟩) Ls.out _).set (p := ⟨w.heap.size, 2, none⟩) Ls.out _)⟩
              case measure => simp [intOf]; omega
          · have HA1 : Hid (AI u' l' c' M La true n (k + 1)) := HA
            clear HA
            have k1 := stake_any u l c m M
            rw [e1] at k1
            have k2 := stake_any u' l' c' m M
            rw [e2] at k2
            have HT : Hid (∀ w, Calls Try.prog 10 #[.agg #[.bool u, .int .i64 l, .int .i64 c], .int .i64 m, .int .i64 M] w fun e w' => e = .returned (.tuple #[.agg #[.bool u', .int .i64 (l'), .int .i64 (c')], .bool false, .int .i64 0]) ∧ Ext w w') := k1
            have HU : Hid (∀ w, Calls Try.prog 10 #[.agg #[.bool u', .int .i64 (l'), .int .i64 (c')], .int .i64 m, .int .i64 M] w fun e w' => e = .returned (.tuple #[.agg #[.bool u', .int .i64 (l'), .int .i64 (c')], .bool false, .int .i64 0]) ∧ Ext w w') := k2
            clear k1 k2 e1 e2
            subst ec
            go_upto_region 12 with fail
            have qs0 : wr.cell? ⟨w.heap.size, 0, none⟩ = some (.bool u) := Fs.out.c 0 rfl
            have qs1 : wr.cell? ⟨w.heap.size, 1, none⟩ = some (.int .i64 l) := Fs.out.c 1 rfl
            have qs2 : wr.cell? ⟨w.heap.size, 2, none⟩ = some (.int .i64 c) := Fs.out.c 2 rfl
            go_upto_region 13 with (first | (go_at_call 10; refine (HT.out _).mono ?_; rintro e wq1 ⟨rfl, xq1⟩))
            have Fs : Hid (HV wq1 w.heap.size [.bool u, .int .i64 l, .int .i64 c]) := Fs.out.ext xq1
            have FX : Hid (Ext w wq1) := FX.out.trans xq1
            clear qs0 qs1 qs2 xq1 HT
            have ltst : w.heap.size < wq1.heap.size := Fs.out.1
            have Lt : Hid (w.heap.size ≤ wq1.heap.size) := FX.out.size
            have Fs : Hid (HV (wq1.alloc (.cells #[.bool u', .int .i64 (l'), .int .i64 (c')] 24)) w.heap.size [.bool u, .int .i64 l, .int .i64 c]) := Fs.out.alloc _
            have Ft : Hid (HV (wq1.alloc (.cells #[.bool u', .int .i64 (l'), .int .i64 (c')] 24)) wq1.heap.size [.bool u', .int .i64 (l'), .int .i64 (c')]) := hv_at rfl
            have FX : Hid (Ext w (wq1.alloc (.cells #[.bool u', .int .i64 (l'), .int .i64 (c')] 24))) := FX.out.alloc _
            generalize (wq1.alloc (.cells #[.bool u', .int .i64 (l'), .int .i64 (c')] 24)) = wx11 at *
            generalize wq1.heap.size = nt at *
            have qt0 : wx11.cell? ⟨nt, 0, none⟩ = some (.bool u') := Ft.out.c 0 rfl
            have qt1 : wx11.cell? ⟨nt, 1, none⟩ = some (.int .i64 (l')) := Ft.out.c 1 rfl
            have qt2 : wx11.cell? ⟨nt, 2, none⟩ = some (.int .i64 (c')) := Ft.out.c 2 rfl
            go_upto_region 23 with (first | (go_at_call 11; refine (num17_any _ _).mono ?_; rintro e wx ⟨rfl, hwx⟩; have hwy := hwx.symm; clear hwx; subst hwy))
            go_upto_region 24 with (first | (go_at_call 10; refine (HU.out _).mono ?_; rintro e wq2 ⟨rfl, xq2⟩))
            have Fs : Hid (HV wq2 w.heap.size [.bool u, .int .i64 l, .int .i64 c]) := Fs.out.ext xq2
            have Ft : Hid (HV wq2 nt [.bool u', .int .i64 (l'), .int .i64 (c')]) := Ft.out.ext xq2
            have FX : Hid (Ext w wq2) := FX.out.trans xq2
            clear qt0 qt1 qt2 xq2 HU
            have ltsv : w.heap.size < wq2.heap.size := Fs.out.1
            have lttv : nt < wq2.heap.size := Ft.out.1
            have Lv : Hid (w.heap.size ≤ wq2.heap.size) := FX.out.size
            have Fs : Hid (HV (wq2.alloc (.cells #[.bool u', .int .i64 (l'), .int .i64 (c')] 24)) w.heap.size [.bool u, .int .i64 l, .int .i64 c]) := Fs.out.alloc _
            have Ft : Hid (HV (wq2.alloc (.cells #[.bool u', .int .i64 (l'), .int .i64 (c')] 24)) nt [.bool u', .int .i64 (l'), .int .i64 (c')]) := Ft.out.alloc _
            have Fv : Hid (HV (wq2.alloc (.cells #[.bool u', .int .i64 (l'), .int .i64 (c')] 24)) wq2.heap.size [.bool u', .int .i64 (l'), .int .i64 (c')]) := hv_at rfl
            have FX : Hid (Ext w (wq2.alloc (.cells #[.bool u', .int .i64 (l'), .int .i64 (c')] 24))) := FX.out.alloc _
            generalize (wq2.alloc (.cells #[.bool u', .int .i64 (l'), .int .i64 (c')] 24)) = wx12 at *
            generalize wq2.heap.size = nv at *
            have qv2 : wx12.cell? ⟨nv, 2, none⟩ = some (.int .i64 (c')) := Fv.out.c 2 rfl
            go_upto_region 26 with (first | (go_at_call 11; refine (num17_any _ _).mono ?_; rintro e wx ⟨rfl, hwx⟩; have hwy := hwx.symm; clear hwx; subst hwy))
            clear qv2
            have qt0 : wx12.cell? ⟨nt, 0, none⟩ = some (.bool u') := Ft.out.c 0 rfl
            have qt1 : wx12.cell? ⟨nt, 1, none⟩ = some (.int .i64 (l')) := Ft.out.c 1 rfl
            have qt2 : wx12.cell? ⟨nt, 2, none⟩ = some (.int .i64 (c')) := Ft.out.c 2 rfl
            have y0 : wx12.cell? ⟨w.heap.size, 0, none⟩ = some (.bool u) := Fs.out.c 0 rfl
            have g0 : wx12.frozen? ⟨w.heap.size, 0, none⟩ = false := Fs.out.f 0 rfl
            have y1 : wx12.cell? ⟨w.heap.size, 1, none⟩ = some (.int .i64 l) := Fs.out.c 1 rfl
            have g1 : wx12.frozen? ⟨w.heap.size, 1, none⟩ = false := Fs.out.f 1 rfl
            have y2 : wx12.cell? ⟨w.heap.size, 2, none⟩ = some (.int .i64 c) := Fs.out.c 2 rfl
            have g2 : wx12.frozen? ⟨w.heap.size, 2, none⟩ = false := Fs.out.f 2 rfl
            go_wp2_with fail
            go_roundw
            case rel => exact ⟨k + 1, u', l', c', M, La, c', true, by omega, by go_num, rfl, rfl, rfl, rfl, HA1, (((Fs.out.set 0 (.bool u')).set 1 (.int .i64 (l'))).set 2 (.int .i64 (c'))), (((FX.out.set (p := ⟨w.heap.size, 0, none⟩) Ls.out _).set (p := ⟨w.heap.size, 1, none⟩) Ls.out _).set (p := ⟨w.heap.size, 2, none⟩) Ls.out _)⟩
            case measure => simp [intOf]; omega
        · have HA1 : Hid (AI false l' c' M M false (n + 1) (k + 1)) := HA
          clear HA
          have k1 := stake_any u l c m M
          rw [e1] at k1
          have k2 := stake_any false l' c' m M
          rw [e2] at k2
          have HT : Hid (∀ w, Calls Try.prog 10 #[.agg #[.bool u, .int .i64 l, .int .i64 c], .int .i64 m, .int .i64 M] w fun e w' => e = .returned (.tuple #[.agg #[.bool false, .int .i64 (l'), .int .i64 (c')], .bool true, .int .i64 0]) ∧ Ext w w') := k1
          have HU : Hid (∀ w, Calls Try.prog 10 #[.agg #[.bool false, .int .i64 (l'), .int .i64 (c')], .int .i64 m, .int .i64 M] w fun e w' => e = .returned (.tuple #[.agg #[.bool false, .int .i64 (l'), .int .i64 (c')], .bool false, .int .i64 0]) ∧ Ext w w') := k2
          clear k1 k2 e1 e2
          subst ec
          have b3 : decide (9806650 ≤ m) = false := by simp; omega
          by_cases b4 : 0 ≤ La
          · have b5 := hs2.out b4
            have b6 : decide (M - La < 250) = false := by have := el b4; simp; omega
            have b7 : decide (0 ≤ La) = true := by simpa using b4
            clear el hs2
            go_upto_region 12 with fail
            have qs0 : wr.cell? ⟨w.heap.size, 0, none⟩ = some (.bool u) := Fs.out.c 0 rfl
            have qs1 : wr.cell? ⟨w.heap.size, 1, none⟩ = some (.int .i64 l) := Fs.out.c 1 rfl
            have qs2 : wr.cell? ⟨w.heap.size, 2, none⟩ = some (.int .i64 c) := Fs.out.c 2 rfl
            go_upto_region 13 with (first | (go_at_call 10; refine (HT.out _).mono ?_; rintro e wq1 ⟨rfl, xq1⟩))
            have Fs : Hid (HV wq1 w.heap.size [.bool u, .int .i64 l, .int .i64 c]) := Fs.out.ext xq1
            have FX : Hid (Ext w wq1) := FX.out.trans xq1
            clear qs0 qs1 qs2 xq1 HT
            have ltst : w.heap.size < wq1.heap.size := Fs.out.1
            have Lt : Hid (w.heap.size ≤ wq1.heap.size) := FX.out.size
            have Fs : Hid (HV (wq1.alloc (.cells #[.bool false, .int .i64 (l'), .int .i64 (n + 1)] 24)) w.heap.size [.bool u, .int .i64 l, .int .i64 c]) := Fs.out.alloc _
            have Ft : Hid (HV (wq1.alloc (.cells #[.bool false, .int .i64 (l'), .int .i64 (n + 1)] 24)) wq1.heap.size [.bool false, .int .i64 (l'), .int .i64 (n + 1)]) := hv_at rfl
            have FX : Hid (Ext w (wq1.alloc (.cells #[.bool false, .int .i64 (l'), .int .i64 (n + 1)] 24))) := FX.out.alloc _
            generalize (wq1.alloc (.cells #[.bool false, .int .i64 (l'), .int .i64 (n + 1)] 24)) = wx21 at *
            generalize wq1.heap.size = nt at *
            have qt0 : wx21.cell? ⟨nt, 0, none⟩ = some (.bool false) := Ft.out.c 0 rfl
            have qt1 : wx21.cell? ⟨nt, 1, none⟩ = some (.int .i64 (l')) := Ft.out.c 1 rfl
            have qt2 : wx21.cell? ⟨nt, 2, none⟩ = some (.int .i64 (n + 1)) := Ft.out.c 2 rfl
            go_upto_region 23 with (first | (go_at_call 11; refine (num17_any _ _).mono ?_; rintro e wx ⟨rfl, hwx⟩; have hwy := hwx.symm; clear hwx; subst hwy))
            go_upto_region 24 with (first | (go_at_call 10; refine (HU.out _).mono ?_; rintro e wq2 ⟨rfl, xq2⟩))
            have Fs : Hid (HV wq2 w.heap.size [.bool u, .int .i64 l, .int .i64 c]) := Fs.out.ext xq2
            have Ft : Hid (HV wq2 nt [.bool false, .int .i64 (l'), .int .i64 (n + 1)]) := Ft.out.ext xq2
            have FX : Hid (Ext w wq2) := FX.out.trans xq2
            clear qt0 qt1 qt2 xq2 HU
            have ltsv : w.heap.size < wq2.heap.size := Fs.out.1
            have lttv : nt < wq2.heap.size := Ft.out.1
            have Lv : Hid (w.heap.size ≤ wq2.heap.size) := FX.out.size
            have Fs : Hid (HV (wq2.alloc (.cells #[.bool false, .int .i64 (l'), .int .i64 (n + 1)] 24)) w.heap.size [.bool u, .int .i64 l, .int .i64 c]) := Fs.out.alloc _
            have Ft : Hid (HV (wq2.alloc (.cells #[.bool false, .int .i64 (l'), .int .i64 (n + 1)] 24)) nt [.bool false, .int .i64 (l'), .int .i64 (n + 1)]) := Ft.out.alloc _
            have Fv : Hid (HV (wq2.alloc (.cells #[.bool false, .int .i64 (l'), .int .i64 (n + 1)] 24)) wq2.heap.size [.bool false, .int .i64 (l'), .int .i64 (n + 1)]) := hv_at rfl
            have FX : Hid (Ext w (wq2.alloc (.cells #[.bool false, .int .i64 (l'), .int .i64 (n + 1)] 24))) := FX.out.alloc _
            generalize (wq2.alloc (.cells #[.bool false, .int .i64 (l'), .int .i64 (n + 1)] 24)) = wx22 at *
            generalize wq2.heap.size = nv at *
            have qv2 : wx22.cell? ⟨nv, 2, none⟩ = some (.int .i64 (n + 1)) := Fv.out.c 2 rfl
            go_upto_region 26 with (first | (go_at_call 11; refine (num17_any _ _).mono ?_; rintro e wx ⟨rfl, hwx⟩; have hwy := hwx.symm; clear hwx; subst hwy))
            clear qv2
            have qt0 : wx22.cell? ⟨nt, 0, none⟩ = some (.bool false) := Ft.out.c 0 rfl
            have qt1 : wx22.cell? ⟨nt, 1, none⟩ = some (.int .i64 (l')) := Ft.out.c 1 rfl
            have qt2 : wx22.cell? ⟨nt, 2, none⟩ = some (.int .i64 (n + 1)) := Ft.out.c 2 rfl
            have y0 : wx22.cell? ⟨w.heap.size, 0, none⟩ = some (.bool u) := Fs.out.c 0 rfl
            have g0 : wx22.frozen? ⟨w.heap.size, 0, none⟩ = false := Fs.out.f 0 rfl
            have y1 : wx22.cell? ⟨w.heap.size, 1, none⟩ = some (.int .i64 l) := Fs.out.c 1 rfl
            have g1 : wx22.frozen? ⟨w.heap.size, 1, none⟩ = false := Fs.out.f 1 rfl
            have y2 : wx22.cell? ⟨w.heap.size, 2, none⟩ = some (.int .i64 c) := Fs.out.c 2 rfl
            have g2 : wx22.frozen? ⟨w.heap.size, 2, none⟩ = false := Fs.out.f 2 rfl
            go_wp2_with fail
            go_roundw
            case rel => exact ⟨k + 1, false, l', n + 1, M, M, n + 1, false, by omega, by go_num, rfl, rfl, rfl, rfl, HA1, (((Fs.out.set 0 (.bool false)).set 1 (.int .i64 (l'))).set 2 (.int .i64 (n + 1))), (((FX.out.set (p := ⟨w.heap.size, 0, none⟩) Ls.out _).set (p := ⟨w.heap.size, 1, none⟩) Ls.out _).set (p := ⟨w.heap.size, 2, none⟩) Ls.out _)⟩
            case measure => simp [intOf]; omega
          · have b7 : decide (0 ≤ La) = false := by simpa using b4
            clear el hs2
            go_upto_region 12 with fail
            have qs0 : wr.cell? ⟨w.heap.size, 0, none⟩ = some (.bool u) := Fs.out.c 0 rfl
            have qs1 : wr.cell? ⟨w.heap.size, 1, none⟩ = some (.int .i64 l) := Fs.out.c 1 rfl
            have qs2 : wr.cell? ⟨w.heap.size, 2, none⟩ = some (.int .i64 c) := Fs.out.c 2 rfl
            go_upto_region 13 with (first | (go_at_call 10; refine (HT.out _).mono ?_; rintro e wq1 ⟨rfl, xq1⟩))
            have Fs : Hid (HV wq1 w.heap.size [.bool u, .int .i64 l, .int .i64 c]) := Fs.out.ext xq1
            have FX : Hid (Ext w wq1) := FX.out.trans xq1
            clear qs0 qs1 qs2 xq1 HT
            have ltst : w.heap.size < wq1.heap.size := Fs.out.1
            have Lt : Hid (w.heap.size ≤ wq1.heap.size) := FX.out.size
            have Fs : Hid (HV (wq1.alloc (.cells #[.bool false, .int .i64 (l'), .int .i64 (n + 1)] 24)) w.heap.size [.bool u, .int .i64 l, .int .i64 c]) := Fs.out.alloc _
            have Ft : Hid (HV (wq1.alloc (.cells #[.bool false, .int .i64 (l'), .int .i64 (n + 1)] 24)) wq1.heap.size [.bool false, .int .i64 (l'), .int .i64 (n + 1)]) := hv_at rfl
            have FX : Hid (Ext w (wq1.alloc (.cells #[.bool false, .int .i64 (l'), .int .i64 (n + 1)] 24))) := FX.out.alloc _
            generalize (wq1.alloc (.cells #[.bool false, .int .i64 (l'), .int .i64 (n + 1)] 24)) = wx21 at *
            generalize wq1.heap.size = nt at *
            have qt0 : wx21.cell? ⟨nt, 0, none⟩ = some (.bool false) := Ft.out.c 0 rfl
            have qt1 : wx21.cell? ⟨nt, 1, none⟩ = some (.int .i64 (l')) := Ft.out.c 1 rfl
            have qt2 : wx21.cell? ⟨nt, 2, none⟩ = some (.int .i64 (n + 1)) := Ft.out.c 2 rfl
            go_upto_region 23 with (first | (go_at_call 11; refine (num17_any _ _).mono ?_; rintro e wx ⟨rfl, hwx⟩; have hwy := hwx.symm; clear hwx; subst hwy))
            go_upto_region 24 with (first | (go_at_call 10; refine (HU.out _).mono ?_; rintro e wq2 ⟨rfl, xq2⟩))
            have Fs : Hid (HV wq2 w.heap.size [.bool u, .int .i64 l, .int .i64 c]) := Fs.out.ext xq2
            have Ft : Hid (HV wq2 nt [.bool false, .int .i64 (l'), .int .i64 (n + 1)]) := Ft.out.ext xq2
            have FX : Hid (Ext w wq2) := FX.out.trans xq2
            clear qt0 qt1 qt2 xq2 HU
            have ltsv : w.heap.size < wq2.heap.size := Fs.out.1
            have lttv : nt < wq2.heap.size := Ft.out.1
            have Lv : Hid (w.heap.size ≤ wq2.heap.size) := FX.out.size
            have Fs : Hid (HV (wq2.alloc (.cells #[.bool false, .int .i64 (l'), .int .i64 (n + 1)] 24)) w.heap.size [.bool u, .int .i64 l, .int .i64 c]) := Fs.out.alloc _
            have Ft : Hid (HV (wq2.alloc (.cells #[.bool false, .int .i64 (l'), .int .i64 (n + 1)] 24)) nt [.bool false, .int .i64 (l'), .int .i64 (n + 1)]) := Ft.out.alloc _
            have Fv : Hid (HV (wq2.alloc (.cells #[.bool false, .int .i64 (l'), .int .i64 (n + 1)] 24)) wq2.heap.size [.bool false, .int .i64 (l'), .int .i64 (n + 1)]) := hv_at rfl
            have FX : Hid (Ext w (wq2.alloc (.cells #[.bool false, .int .i64 (l'), .int .i64 (n + 1)] 24))) := FX.out.alloc _
            generalize (wq2.alloc (.cells #[.bool false, .int .i64 (l'), .int .i64 (n + 1)] 24)) = wx22 at *
            generalize wq2.heap.size = nv at *
            have qv2 : wx22.cell? ⟨nv, 2, none⟩ = some (.int .i64 (n + 1)) := Fv.out.c 2 rfl
            go_upto_region 26 with (first | (go_at_call 11; refine (num17_any _ _).mono ?_; rintro e wx ⟨rfl, hwx⟩; have hwy := hwx.symm; clear hwx; subst hwy))
            clear qv2
            have qt0 : wx22.cell? ⟨nt, 0, none⟩ = some (.bool false) := Ft.out.c 0 rfl
            have qt1 : wx22.cell? ⟨nt, 1, none⟩ = some (.int .i64 (l')) := Ft.out.c 1 rfl
            have qt2 : wx22.cell? ⟨nt, 2, none⟩ = some (.int .i64 (n + 1)) := Ft.out.c 2 rfl
            have y0 : wx22.cell? ⟨w.heap.size, 0, none⟩ = some (.bool u) := Fs.out.c 0 rfl
            have g0 : wx22.frozen? ⟨w.heap.size, 0, none⟩ = false := Fs.out.f 0 rfl
            have y1 : wx22.cell? ⟨w.heap.size, 1, none⟩ = some (.int .i64 l) := Fs.out.c 1 rfl
            have g1 : wx22.frozen? ⟨w.heap.size, 1, none⟩ = false := Fs.out.f 1 rfl
            have y2 : wx22.cell? ⟨w.heap.size, 2, none⟩ = some (.int .i64 c) := Fs.out.c 2 rfl
            have g2 : wx22.frozen? ⟨w.heap.size, 2, none⟩ = false := Fs.out.f 2 rfl
            go_wp2_with fail
            go_roundw
            case rel => exact ⟨k + 1, false, l', n + 1, M, M, n + 1, false, by omega, by go_num, rfl, rfl, rfl, rfl, HA1, (((Fs.out.set 0 (.bool false)).set 1 (.int .i64 (l'))).set 2 (.int .i64 (n + 1))), (((FX.out.set (p := ⟨w.heap.size, 0, none⟩) Ls.out _).set (p := ⟨w.heap.size, 1, none⟩) Ls.out _).set (p := ⟨w.heap.size, 2, none⟩) Ls.out _)⟩
            case measure => simp [intOf]; omega
      · go_wp2_with fail
        refine (wakes17_any _).mono ?_
        rintro e w1 ⟨rfl, x1⟩
        have E1 : Ext w w1 := FX.out.trans x1
        go_wp2_with fail
        go_ret
        exact ⟨rfl, E1⟩
    · have hk' : k = len := by omega
      subst hk'
      go_wp2_with fail
      refine (wakes17_any _).mono ?_
      rintro e w1 ⟨rfl, x1⟩
      have E1 : Ext w w1 := FX.out.trans x1
      go_wp2_with fail
      go_ret
      exact ⟨rfl, E1⟩
set_option maxRecDepth 20000 in
set_option maxHeartbeats 4000000 in
theorem stepapart_none (a : Option Addr) (cap : Nat) (w : World) :
    Calls Try.prog 4 #[.slice a 0 cap] w fun e w' => e = .returned (.bool true) ∧ Ext w w' := by
  go_enter Try.func4, Try.ntmps4
  go_wp2_with fail
  go_loopw [8] (fun i wr => i = .int .i64 0 ∧ Hid (Ext w wr)) (fun _ _ => 0)
  case atStart => exact ⟨rfl, (Ext.refl _).alloc _⟩
  case round =>
    obtain ⟨rfl, FX⟩ := hrel
    go_wp2_with fail
    refine (wakes17_any _).mono ?_
    rintro e w1 ⟨rfl, x1⟩
    have E1 : Ext w w1 := FX.out.trans x1
    go_wp2_with fail
    go_ret
    exact ⟨rfl, E1⟩
end Go.Proofs.Ytfeoiolcdiddiaa
