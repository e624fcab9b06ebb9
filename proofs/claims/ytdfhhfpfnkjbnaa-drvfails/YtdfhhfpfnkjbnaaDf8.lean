/- DrvFails. -/
import Derived.Test.YtdfhhfpfnkjbnaaHvG
namespace Go.Proofs.Ytdfhhfpfnkjbnaa
open Go.RowKit Go.Conc
theorem within9 (i : Int) (n : Nat) (hn : 0 < n) (h2 : n ≤ 1000) : ∃ q : Nat, q < n ∧ ∀ w, Calls Try.prog 24 #[.int .i64 i, .int .i64 n] w fun e w' => e = .returned (.int .i64 q) ∧ w' = w := by
  obtain ⟨q, hq, he⟩ : ∃ q : Nat, q < n ∧ (IntKind.u64.wrap i) % (n : Int) = (q : Int) := by
    refine ⟨((IntKind.u64.wrap i) % (n : Int)).toNat, ?_, ?_⟩
    · have := Int.emod_lt_of_pos (IntKind.u64.wrap i) (b := (n : Int)) (by omega)
      omega
    · have := Int.emod_nonneg (IntKind.u64.wrap i) (b := (n : Int)) (by omega)
      omega
  refine ⟨q, hq, fun w => ?_⟩
  have hne : (n : Int) ≠ 0 := by omega
  have HE : Hid ((IntKind.u64.wrap i) % (n : Int) = (q : Int)) := he
  clear he
  go_enter Try.func24, Try.ntmps24
  go_wp2
  go_ret
  refine ⟨ret_int ?_, rfl⟩
  have h0 : 0 ≤ IntKind.u64.wrap i := by rw [IntKind.wrap_u64]; omega
  rw [Int.tmod_eq_emod_of_nonneg h0, HE.out]
  unfold wrap64; omega
theorem setD_fails (d : Dr) (want : Bool) (per : Int) (h : (setD d want per).st = d.st) : (setD d want per).fails = d.fails := by
  unfold setD at h ⊢
  split
  · rfl
  · rename_i hn
    rw [if_neg hn] at h
    exact absurd h hn
theorem setD_fails0 (d : Dr) (want : Bool) (per : Int) (h : (setD d want per).st ≠ d.st) : (setD d want per).fails = 0 := by
  unfold setD at h ⊢
  split
  · rename_i hn
    rw [if_pos hn] at h
    exact absurd rfl h
  · rfl
/-- what becomes of a driver by a good answer -/
theorem got_facts (d : Dr) (data : List Int) (hin : inn d.st 1 7 = true) :
    ((d.st == 7) = false ∧ (d.st == 3) = false ∧ ((gotD d data).st == 0) = false ∧ (gotD d data).tried = d.tried) ∨
    ((d.st == 7) = false ∧ (d.st == 3) = true ∧ ((gotD d data).st == 0) = false ∧ ((gotD d data).st == 4) = true ∧ (gotD d data).tried = false) ∨
    ((d.st == 7) = false ∧ (d.st == 3) = false ∧ ((gotD d data).st == 0) = true ∧ (gotD d data).tried = false) ∨
    ((d.st == 7) = true ∧ (d.st == 3) = false ∧ ((gotD d data).st == 0) = false ∧ (gotD d data).tried = true) := by
  obtain ⟨addr, id, want, per, st, fails, tried, left, bad⟩ := d
  have h := inn_iff.1 hin
  simp only at h ⊢
  obtain rfl | rfl | rfl | rfl | rfl | rfl | rfl : st = 1 ∨ st = 2 ∨ st = 3 ∨ st = 4 ∨ st = 5 ∨ st = 6 ∨ st = 7 := by omega
  · exact .inl ⟨rfl, rfl, rfl, rfl⟩
  · exact .inl ⟨rfl, rfl, rfl, rfl⟩
  · exact .inr (.inl ⟨rfl, rfl, rfl, rfl, rfl⟩)
  · refine .inl ⟨rfl, rfl, ?_, ?_⟩ <;> (unfold gotD; simp; split <;> simp [enterD])
  · exact .inl ⟨rfl, rfl, rfl, rfl⟩
  · exact .inr (.inr (.inl ⟨rfl, rfl, rfl, rfl⟩))
  · refine .inr (.inr (.inr ⟨rfl, rfl, ?_, ?_⟩)) <;> (unfold gotD; cases want <;> simp [enterD])
/-- and by one that is not -/
theorem miss_facts (d : Dr) (hf : 0 ≤ d.fails ∧ d.fails ≤ 2) (h8 : d.st ≠ 8) :
    ((d.st == 7) = true ∧ ((missD d).st == 8) = true ∧ (missD d).fails = 0) ∨
    ((d.st == 7) = false ∧ ((missD d).st == 8) = false ∧ d.fails + 1 < 3 ∧ (missD d).fails = d.fails + 1) ∨
    ((d.st == 7) = false ∧ ((missD d).st == 8) = true ∧ d.fails = 2 ∧ d.tried = true ∧ (missD d).fails = 0) ∨
    ((d.st == 7) = false ∧ ((missD d).st == 8) = false ∧ d.fails = 2 ∧ (missD d).fails = 0) := by
  unfold missD
  by_cases h7 : d.st = 7
  · left
    rw [if_pos h7]
    exact ⟨by rw [h7]; rfl, rfl, rfl⟩
  · right
    have e7 : (d.st == 7) = false := by simp [h7]
    rw [if_neg h7]
    by_cases h3 : d.fails + 1 < 3
    · left
      rw [if_pos h3]
      exact ⟨e7, by simp [h8], h3, rfl⟩
    · right
      rw [if_neg h3]
      cases ht : d.tried
      · right
        exact ⟨e7, rfl, by omega, rfl⟩
      · left
        exact ⟨e7, rfl, by omega, rfl, rfl⟩
set_option maxRecDepth 20000 in
set_option maxHeartbeats 64000000 in
theorem fails_any (w : World) (a : Option Addr) (L : List Ask) (cap : Nat) (_hl : L.length ≤ maxLen) (hA : AKs w a L) :
    Calls Try.prog 6 #[.agg #[.slice a L.length cap]] w fun e w' => e = .returned (.bool true) ∧ Ext w w' := by
  have HA : Hid (AKs w a L) := hA
  have HNU : Hid (∀ v w', Calls Try.prog 11 #[.int .i64 v] w' fun e w'' => e = .returned (.int .i64 v) ∧ w'' = w') := num9_any
  have HW : Hid (∀ w', Calls Try.prog 13 #[] w' fun e w'' => e = .returned (.bool true) ∧ Ext w' w'') := wakes9_any
  have HN : Hid (∀ W, Calls Try.prog 23 #[.int .i64 16, .int .i64 49] W fun e w' => e = .returned (.tuple #[drv ⟨16, 49, false, 1, 0, 0, false, 0, 0⟩, .int .i64 0]) ∧ Ext W w') := fun W => newdr_any 16 49 W
  unfold maxLen at _hl
  clear hA
  have S1 : Hid (HV (w.alloc (.cells #[.slice a L.length cap] 56)) w.heap.size [.slice a L.length cap]) := hv_at rfl
  have X1 : Hid (Ext w (w.alloc (.cells #[.slice a L.length cap] 56))) := (Ext.refl w).alloc _
  go_enter Try.func6, Try.ntmps6
  go_upto_region 1 with fail
  generalize w.alloc (.cells #[.slice a L.length cap] 56) = w1 at *
  generalize hns : w.heap.size = ns at *
  have hns : Hid (w.heap.size = ns) := hns
  have S0 : Hid (HV w1 ns [.slice a L.length cap]) := S1
  go_upto_region 2 with (go_at_call 23; refine (HN.out _).mono ?_; rintro e w2 ⟨rfl, x2⟩)
  have SD : Hid (HV (w2.alloc (.cells #[.int .i64 16, .int .i64 49, .bool false, .int .i64 1, .int .i64 0, .int .i64 0, .bool false, .int .i64 0, .int .i64 0] 24)) w2.heap.size [.int .i64 16, .int .i64 49, .bool false, .int .i64 1, .int .i64 0, .int .i64 0, .bool false, .int .i64 0, .int .i64 0]) := hv_at rfl
  have S1 : Hid (HV (w2.alloc (.cells #[.int .i64 16, .int .i64 49, .bool false, .int .i64 1, .int .i64 0, .int .i64 0, .bool false, .int .i64 0, .int .i64 0] 24)) ns [.slice a L.length cap]) := (S1.out.ext x2).alloc _
  have LB : Hid (ns < w2.heap.size) := Nat.lt_of_lt_of_le S0.out.1 x2.size
  have X1 : Hid (Ext w (w2.alloc (.cells #[.int .i64 16, .int .i64 49, .bool false, .int .i64 1, .int .i64 0, .int .i64 0, .bool false, .int .i64 0, .int .i64 0] 24))) := (X1.out.trans x2).alloc _
  generalize (w2.alloc (.cells #[.int .i64 16, .int .i64 49, .bool false, .int .i64 1, .int .i64 0, .int .i64 0, .bool false, .int .i64 0, .int .i64 0] 24)) = w3 at *
  generalize w2.heap.size = B at *
  clear HN x2 S0
  go_wp2_with (go_at_call 11; refine (HNU.out _ _).mono ?_; rintro e wx ⟨rfl, hwx⟩; have hwy := hwx.symm; clear hwx; subst hwy)
  go_loopw [5, 6, 7, 8, 9, 10, 11, 12, 13, 14, 15, 16, 17, 18, 19] (fun s5 s6 i _ _ _ _ _ _ _ _ _ _ _ _ wr => ∃ (k : Nat) (d : Dr), k ≤ L.length ∧ k ≤ 30 ∧ i = .int .i64 k ∧ s5 = .int .i64 d.fails ∧ s6 = .bool d.tried ∧ Hid (okD d = true ∧ d.id = 49 ∧ HV wr B [.int .i64 d.addr, .int .i64 d.id, .bool d.want, .int .i64 d.per, .int .i64 d.st, .int .i64 d.fails, .bool d.tried, .int .i64 d.left, .int .i64 d.bad] ∧ HV wr ns [.slice a L.length cap] ∧ Ext w wr)) (fun _ _ i _ _ _ _ _ _ _ _ _ _ _ _ _ => 30 - (intOf i).toNat)
  case atStart => exact ⟨0, ⟨16, 49, false, 1, 0, 0, false, 0, 0⟩, Nat.zero_le _, Nat.zero_le _, rfl, rfl, rfl, rfl, rfl, SD.out, S1.out, X1.out⟩
  case round =>
    obtain ⟨k, d, hk, hk30, rfl, rfl, rfl, hR⟩ := hrel
    have zs : wr.cell? ⟨ns, 0, none⟩ = some (.slice a L.length cap) := hR.out.2.2.2.1.c 0 rfl
    by_cases hlt : k < L.length
    · have hlti : (k : Int) < (L.length : Int) := by omega
      by_cases h30 : k < 30
      · have h30i : (k : Int) < 30 := by omega
        obtain ⟨b1, o1, da, dc, rfl, hak, hrd, hdl, hdb, hdc, hp1, hp2⟩ := HA.out k hlt
        obtain ⟨⟨c0, c1, c2, c3, c4, c5, c6, c7, c8⟩, c9, c10, c11, c12⟩ := hak.ext hR.out.2.2.2.2
        have HBY : Hid (∀ j, 0 ≤ (gk L k).data.getD j 0 ∧ (gk L k).data.getD j 0 ≤ 255) := fun j => by
          by_cases hj : j < (gk L k).data.length
          · rw [show (gk L k).data.getD j 0 = (gk L k).data[j] by simp [hj]]
            exact hdb _ (List.getElem_mem hj)
          · rw [show (gk L k).data.getD j 0 = 0 by simp [hj]]
            decide
        have HRD : Hid (RdY w 0 da (gk L k).data) := hrd
        have HDL : Hid ((gk L k).data.length ≤ maxLen ∧ (gk L k).data.length ≤ dc) := ⟨hdl, hdc⟩
        clear hrd hdl hdb hdc hak hp1 hp2 HA
        generalize (gk L k).want = aw at *
        generalize (gk L k).per = ap at *
        generalize (gk L k).st = ast at *
        generalize (gk L k).data = data at *
        generalize (gk L k).d = ad at *
        have FA : Hid (HV (wr.alloc (.cells #[.int .i64 ad.addr, .int .i64 ad.id, .bool ad.want, .int .i64 ad.per, .int .i64 ad.st, .int .i64 ad.fails, .bool ad.tried, .int .i64 ad.left, .int .i64 ad.bad, .bool aw, .int .i64 ap, .int .i64 ast, .slice da data.length dc] 29)) wr.heap.size [.int .i64 ad.addr, .int .i64 ad.id, .bool ad.want, .int .i64 ad.per, .int .i64 ad.st, .int .i64 ad.fails, .bool ad.tried, .int .i64 ad.left, .int .i64 ad.bad, .bool aw, .int .i64 ap, .int .i64 ast, .slice da data.length dc]) := hv_at rfl
        have FD : Hid (HV (wr.alloc (.cells #[.int .i64 ad.addr, .int .i64 ad.id, .bool ad.want, .int .i64 ad.per, .int .i64 ad.st, .int .i64 ad.fails, .bool ad.tried, .int .i64 ad.left, .int .i64 ad.bad, .bool aw, .int .i64 ap, .int .i64 ast, .slice da data.length dc] 29)) B [.int .i64 d.addr, .int .i64 d.id, .bool d.want, .int .i64 d.per, .int .i64 d.st, .int .i64 d.fails, .bool d.tried, .int .i64 d.left, .int .i64 d.bad]) := hR.out.2.2.1.alloc _
        have FSz : Hid (HV (wr.alloc (.cells #[.int .i64 ad.addr, .int .i64 ad.id, .bool ad.want, .int .i64 ad.per, .int .i64 ad.st, .int .i64 ad.fails, .bool ad.tried, .int .i64 ad.left, .int .i64 ad.bad, .bool aw, .int .i64 ap, .int .i64 ast, .slice da data.length dc] 29)) ns [.slice (some ⟨b1, o1, none⟩) L.length cap]) := hR.out.2.2.2.1.alloc _
        have FX : Hid (Ext w (wr.alloc (.cells #[.int .i64 ad.addr, .int .i64 ad.id, .bool ad.want, .int .i64 ad.per, .int .i64 ad.st, .int .i64 ad.fails, .bool ad.tried, .int .i64 ad.left, .int .i64 ad.bad, .bool aw, .int .i64 ap, .int .i64 ast, .slice da data.length dc] 29))) := hR.out.2.2.2.2.alloc _
        have HOK : Hid (okD d = true ∧ d.id = 49) := ⟨hR.out.1, hR.out.2.1⟩
        have lBA : B < wr.heap.size := hR.out.2.2.1.1
        have lBw : Hid (w.heap.size ≤ B) := by rw [hns.out]; exact Nat.le_of_lt LB.out
        have lSB : ns < B := LB.out
        go_upto_region 10 with fail
        clear c0 c1 c2 c3 c4 c5 c6 c7 c8 c9 c10 c11 c12 zs hR
        generalize (wr.alloc (.cells #[.int .i64 ad.addr, .int .i64 ad.id, .bool ad.want, .int .i64 ad.per, .int .i64 ad.st, .int .i64 ad.fails, .bool ad.tried, .int .i64 ad.left, .int .i64 ad.bad, .bool aw, .int .i64 ap, .int .i64 ast, .slice da data.length dc] 29)) = w8 at *
        generalize wr.heap.size = na at *
        have a9 : w8.cell? ⟨na, 9, none⟩ = some (.bool aw) := FA.out.c 9 rfl
        have a10 : w8.cell? ⟨na, 10, none⟩ = some (.int .i64 ap) := FA.out.c 10 rfl
        have a12 : w8.cell? ⟨na, 12, none⟩ = some (.slice da data.length dc) := FA.out.c 12 rfl
        by_cases h400 : 400 < data.length
        · have h400i : (400 : Int) < (data.length : Int) := by omega
          go_wp2_with fail
          go_ret
          exact ⟨rfl, FX.out⟩
        · have h400i : ¬ (400 : Int) < (data.length : Int) := by omega
          obtain ⟨q4, hq4, HW4⟩ := within9 ap 4 (by omega) (by omega)
          obtain ⟨q5, hq5, HW5⟩ := within9 ap 250 (by omega) (by omega)
          have HV4 : Hid (∀ w, Calls Try.prog 24 #[.int .i64 ap, .int .i64 4] w fun e w' => e = .returned (.int .i64 q4) ∧ w' = w) := HW4
          have HV5 : Hid (∀ w, Calls Try.prog 24 #[.int .i64 ap, .int .i64 250] w fun e w' => e = .returned (.int .i64 q5) ∧ w' = w) := HW5
          clear HW4 HW5
          go_upto_if 51 with (go_at_call 24; refine (HV4.out _).mono ?_; rintro e wx ⟨rfl, hwx⟩; have hwy := hwx.symm; clear hwx; subst hwy)
          go_cut [5, 9, 10, 11] from 27 to 202 (fun v5 _ _ _ wx => ∃ d1 : Dr, v5 = .int .i64 d1.fails ∧ d1.tried = d.tried ∧ Hid (okD d1 = true ∧ d1.id = 49 ∧ HV wx B [.int .i64 d1.addr, .int .i64 d1.id, .bool d1.want, .int .i64 d1.per, .int .i64 d1.st, .int .i64 d1.fails, .bool d1.tried, .int .i64 d1.left, .int .i64 d1.bad] ∧ HV wx ns [.slice (some ⟨b1, o1, none⟩) L.length cap] ∧ HV wx na [.int .i64 ad.addr, .int .i64 ad.id, .bool ad.want, .int .i64 ad.per, .int .i64 ad.st, .int .i64 ad.fails, .bool ad.tried, .int .i64 ad.left, .int .i64 ad.bad, .bool aw, .int .i64 ap, .int .i64 ast, .slice da data.length dc] ∧ Ext w wx))
          case first =>
            by_cases hq0 : q4 = 0
            · subst hq0
              have hqb : (((0 : Nat) : Int) == 0) = true := rfl
              have c4 : w8.cell? ⟨B, 4, none⟩ = some (.int .i64 d.st) := FD.out.c 4 rfl
              go_upto_region 14 with fail
              have hp : inn (1 + (q5 : Int)) 1 250 = true := inn_iff.2 ⟨by omega, by omega⟩
              have HS : Hid (∀ W, Calls Try.prog 14 #[drv d, .bool aw, .int .i64 (IntKind.i64.wrap (1 + (q5 : Int)))] W fun e w' => e = .returned (.tuple #[drv (setD d aw (1 + q5)), .int .i64 0]) ∧ Ext W w') := fun W => by rw [show IntKind.i64.wrap (1 + (q5 : Int)) = 1 + q5 by rw [IntKind.wrap_i64]; omega]; exact setdr_good d aw _ HOK.out.1 hp W
              have HK := setD_keep d aw (1 + (q5 : Int))
              have HOK2 : Hid (okD (setD d aw (1 + q5)) = true ∧ (setD d aw (1 + q5)).id = 49 ∧ (setD d aw (1 + q5)).tried = d.tried) := ⟨setD_ok d HOK.out.1 aw _ hp, HK.2.1.trans HOK.out.2, HK.2.2.2.2.1⟩
              have HFA : Hid ((setD d aw (1 + q5)).st = d.st → (setD d aw (1 + q5)).fails = d.fails) := setD_fails d aw _
              have HFB : Hid ((setD d aw (1 + q5)).st ≠ d.st → (setD d aw (1 + q5)).fails = 0) := setD_fails0 d aw _
              clear HK hp
              generalize setD d aw (1 + q5) = e2 at *
              go_cut [10, 11] from 27 to 202 (fun v10 v11 wx => ∃ g, v10 = .pointer (some ⟨g, 0, none⟩) ∧ v11 = .int .i64 0 ∧ Hid (HV wx g [.int .i64 e2.addr, .int .i64 e2.id, .bool e2.want, .int .i64 e2.per, .int .i64 e2.st, .int .i64 e2.fails, .bool e2.tried, .int .i64 e2.left, .int .i64 e2.bad] ∧ Ext w8 wx ∧ w8.heap.size ≤ g))
              case first =>
                have c0 : w8.cell? ⟨B, 0, none⟩ = some (.int .i64 d.addr) := FD.out.c 0 rfl
                have c1 : w8.cell? ⟨B, 1, none⟩ = some (.int .i64 d.id) := FD.out.c 1 rfl
                have c2 : w8.cell? ⟨B, 2, none⟩ = some (.bool d.want) := FD.out.c 2 rfl
                have c3 : w8.cell? ⟨B, 3, none⟩ = some (.int .i64 d.per) := FD.out.c 3 rfl
                have c5 : w8.cell? ⟨B, 5, none⟩ = some (.int .i64 d.fails) := FD.out.c 5 rfl
                have c6 : w8.cell? ⟨B, 6, none⟩ = some (.bool d.tried) := FD.out.c 6 rfl
                have c7 : w8.cell? ⟨B, 7, none⟩ = some (.int .i64 d.left) := FD.out.c 7 rfl
                have c8 : w8.cell? ⟨B, 8, none⟩ = some (.int .i64 d.bad) := FD.out.c 8 rfl
                have e1a := Nat.ne_of_lt FD.out.1
                have e1b := Nat.ne_of_gt FD.out.1
                have e2a := Nat.ne_of_lt FA.out.1
                have e2b := Nat.ne_of_gt FA.out.1
                clear HFA HFB HOK HOK2 HW HNU HV4 HRD HBY HDL a12 hlti h30i h400i h400 hlt hk hk30 h30 _hl FSz FX LB lBA lBw lSB hqb S1 SD X1 hns
                rename_i hA1 hA0
                have hA1 : Hid _ := hA1
                have hA0 : Hid _ := hA0
                go_tidy
                go_region_held3 (fun w' => w'.cell? ⟨B, 0, none⟩ = some (.int .i64 d.addr) ∧ w'.cell? ⟨B, 1, none⟩ = some (.int .i64 d.id) ∧ w'.cell? ⟨B, 2, none⟩ = some (.bool d.want) ∧ w'.cell? ⟨B, 3, none⟩ = some (.int .i64 d.per) ∧ w'.cell? ⟨B, 4, none⟩ = some (.int .i64 d.st) ∧ w'.cell? ⟨B, 5, none⟩ = some (.int .i64 d.fails) ∧ w'.cell? ⟨B, 6, none⟩ = some (.bool d.tried) ∧ w'.cell? ⟨B, 7, none⟩ = some (.int .i64 d.left) ∧ w'.cell? ⟨B, 8, none⟩ = some (.int .i64 d.bad) ∧ w'.cell? ⟨na, 9, none⟩ = some (.bool aw) ∧ w'.cell? ⟨na, 10, none⟩ = some (.int .i64 ap)) (first | (go_keep; done) | skip) (first | (go_at_call 24; refine (HV5.out _).mono ?_; rintro e wx ⟨rfl, hwx⟩; have hwy := hwx.symm; clear hwx; subst hwy) | (go_at_call 14; refine (HS.out _).mono ?_; rintro e v2 ⟨rfl, x2⟩; have Y2 : Ext w8 v2 := Ext.trans (by repeat (first | with_reducible assumption | with_reducible exact Ext.refl _ | with_reducible refine Ext.drew ?_ | with_reducible refine Ext.alloc ?_ _)) x2; have d0 : v2.cell? ⟨B, 0, none⟩ = some (.int .i64 d.addr) := (FD.out.ext Y2).c 0 rfl; have d1 : v2.cell? ⟨B, 1, none⟩ = some (.int .i64 d.id) := (FD.out.ext Y2).c 1 rfl; have d2 : v2.cell? ⟨B, 2, none⟩ = some (.bool d.want) := (FD.out.ext Y2).c 2 rfl; have d3 : v2.cell? ⟨B, 3, none⟩ = some (.int .i64 d.per) := (FD.out.ext Y2).c 3 rfl; have d4 : v2.cell? ⟨B, 4, none⟩ = some (.int .i64 d.st) := (FD.out.ext Y2).c 4 rfl; have d5 : v2.cell? ⟨B, 5, none⟩ = some (.int .i64 d.fails) := (FD.out.ext Y2).c 5 rfl; have d6 : v2.cell? ⟨B, 6, none⟩ = some (.bool d.tried) := (FD.out.ext Y2).c 6 rfl; have d7 : v2.cell? ⟨B, 7, none⟩ = some (.int .i64 d.left) := (FD.out.ext Y2).c 7 rfl; have d8 : v2.cell? ⟨B, 8, none⟩ = some (.int .i64 d.bad) := (FD.out.ext Y2).c 8 rfl; have b9 : v2.cell? ⟨na, 9, none⟩ = some (.bool aw) := (FA.out.ext Y2).c 9 rfl; have b10 : v2.cell? ⟨na, 10, none⟩ = some (.int .i64 ap) := (FA.out.ext Y2).c 10 rfl; have f1a := Nat.ne_of_lt (FD.out.ext Y2).1; have f1b := Nat.ne_of_gt (FD.out.ext Y2).1; have f2a := Nat.ne_of_lt (FA.out.ext Y2).1; have f2b := Nat.ne_of_gt (FA.out.ext Y2).1; (first | (have N : Hid (HV v2 _ [.int .i64 0, .int .i64 0, .bool false, .int .i64 0, .int .i64 0, .int .i64 0, .bool false, .int .i64 0, .int .i64 0]) := (hv_at rfl).ext x2) | (have N : Hid (HV v2 _ [.int .i64 0, .int .i64 0, .bool false, .int .i64 0, .int .i64 0, .int .i64 0, .bool false, .int .i64 0, .int .i64 0]) := (HV.drew (hv_at rfl)).ext x2) | skip); (first | (obtain ⟨n0, n1, n2, n3, n4, n5, n6, n7, n8⟩ := N.out.k9; obtain ⟨o0, o1_, o2, o3, o4, o5, o6, o7, o8⟩ := N.out.z9) | skip)))
                all_goals
                  have hA1 := hA1.out
                  have hA0 := hA0.out
                  go_wp2_with fail
                  go_meet
                  refine ⟨_, rfl, rfl, ?_⟩
                  first | ((with_reducible show Hid (HV (World.alloc _ _) _ _ ∧ _ ∧ _)); exact ⟨hv_at rfl, Y2.alloc _, Y2.size⟩) | exact ⟨(((((((((N.out.set 0 _).set 1 _).set 2 _).set 3 _).set 4 _).set 5 _).set 6 _).set 7 _).set 8 _), (((((((((Y2.set (p := ⟨_, 0, none⟩) (Nat.le_refl _) _).set (p := ⟨_, 1, none⟩) (Nat.le_refl _) _).set (p := ⟨_, 2, none⟩) (Nat.le_refl _) _).set (p := ⟨_, 3, none⟩) (Nat.le_refl _) _).set (p := ⟨_, 4, none⟩) (Nat.le_refl _) _).set (p := ⟨_, 5, none⟩) (Nat.le_refl _) _).set (p := ⟨_, 6, none⟩) (Nat.le_refl _) _).set (p := ⟨_, 7, none⟩) (Nat.le_refl _) _).set (p := ⟨_, 8, none⟩) (Nat.le_refl _) _), Nat.le_refl _⟩
              case rest =>
                obtain ⟨g, rfl, rfl, hcut⟩ := hcut
                have FG : Hid (HV wc g [.int .i64 e2.addr, .int .i64 e2.id, .bool e2.want, .int .i64 e2.per, .int .i64 e2.st, .int .i64 e2.fails, .bool e2.tried, .int .i64 e2.left, .int .i64 e2.bad]) := hcut.out.1
                have FD : Hid (HV wc B [.int .i64 d.addr, .int .i64 d.id, .bool d.want, .int .i64 d.per, .int .i64 d.st, .int .i64 d.fails, .bool d.tried, .int .i64 d.left, .int .i64 d.bad]) := FD.out.ext hcut.out.2.1
                have FA : Hid (HV wc na [.int .i64 ad.addr, .int .i64 ad.id, .bool ad.want, .int .i64 ad.per, .int .i64 ad.st, .int .i64 ad.fails, .bool ad.tried, .int .i64 ad.left, .int .i64 ad.bad, .bool aw, .int .i64 ap, .int .i64 ast, .slice da data.length dc]) := FA.out.ext hcut.out.2.1
                have FSz : Hid (HV wc ns [.slice (some ⟨b1, o1, none⟩) L.length cap]) := FSz.out.ext hcut.out.2.1
                have FX : Hid (Ext w wc) := FX.out.trans hcut.out.2.1
                have hsD : (Try.prog.info? 24).map (·.size) = some ([.int .i64 e2.addr, .int .i64 e2.id, .bool e2.want, .int .i64 e2.per, .int .i64 e2.st, .int .i64 e2.fails, .bool e2.tried, .int .i64 e2.left, .int .i64 e2.bad] : List Value).length := by kernel_rfl
                have FV : HV wc B [.int .i64 d.addr, .int .i64 d.id, .bool d.want, .int .i64 d.per, .int .i64 d.st, .int .i64 d.fails, .bool d.tried, .int .i64 d.left, .int .i64 d.bad] := FD.out
                have g0 : wc.cell? ⟨g, 0, none⟩ = some (.int .i64 e2.addr) := FG.out.c 0 rfl
                have g1 : wc.cell? ⟨g, 1, none⟩ = some (.int .i64 e2.id) := FG.out.c 1 rfl
                have g2 : wc.cell? ⟨g, 2, none⟩ = some (.bool e2.want) := FG.out.c 2 rfl
                have g3 : wc.cell? ⟨g, 3, none⟩ = some (.int .i64 e2.per) := FG.out.c 3 rfl
                have g4 : wc.cell? ⟨g, 4, none⟩ = some (.int .i64 e2.st) := FG.out.c 4 rfl
                have g5 : wc.cell? ⟨g, 5, none⟩ = some (.int .i64 e2.fails) := FG.out.c 5 rfl
                have g6 : wc.cell? ⟨g, 6, none⟩ = some (.bool e2.tried) := FG.out.c 6 rfl
                have g7 : wc.cell? ⟨g, 7, none⟩ = some (.int .i64 e2.left) := FG.out.c 7 rfl
                have g8 : wc.cell? ⟨g, 8, none⟩ = some (.int .i64 e2.bad) := FG.out.c 8 rfl
                go_upto_region 18 with (first | ((with_reducible show wpList _ _ _ (_ :: _) _ _); refine wpList_store_var B [.int .i64 d.addr, .int .i64 d.id, .bool d.want, .int .i64 d.per, .int .i64 d.st, .int .i64 d.fails, .bool d.tried, .int .i64 d.left, .int .i64 d.bad] [.int .i64 e2.addr, .int .i64 e2.id, .bool e2.want, .int .i64 e2.per, .int .i64 e2.st, .int .i64 e2.fails, .bool e2.tried, .int .i64 e2.left, .int .i64 e2.bad] rfl 24 (.tmp 3) (.tmp 68) rfl rfl rfl FV rfl hsD (by simp [Value.oneCell']) ?_; intro ws V1 V2 V3) | (go_at_call 11; refine (HNU.out _ _).mono ?_; rintro e wx ⟨rfl, hwx⟩; have hwy := hwx.symm; clear hwx; subst hwy))
                have FA : Hid (HV ws na [.int .i64 ad.addr, .int .i64 ad.id, .bool ad.want, .int .i64 ad.per, .int .i64 ad.st, .int .i64 ad.fails, .bool ad.tried, .int .i64 ad.left, .int .i64 ad.bad, .bool aw, .int .i64 ap, .int .i64 ast, .slice da data.length dc]) := V2.out _ _ (by omega) FA.out
                have FSz : Hid (HV ws ns [.slice (some ⟨b1, o1, none⟩) L.length cap]) := V2.out _ _ (by omega) FSz.out
                have FX : Hid (Ext w ws) := V3.out _ FX.out lBw.out
                have FD : Hid (HV ws B [.int .i64 e2.addr, .int .i64 e2.id, .bool e2.want, .int .i64 e2.per, .int .i64 e2.st, .int .i64 e2.fails, .bool e2.tried, .int .i64 e2.left, .int .i64 e2.bad]) := V1
                clear V1 V2 V3 FV g0 g1 g2 g3 g4 g5 g6 g7 g8 hcut FG c4
                have c4 : ws.cell? ⟨B, 4, none⟩ = some (.int .i64 e2.st) := FD.out.c 4 rfl
                have RES : Hid (okD e2 = true ∧ e2.id = 49 ∧ HV ws B [.int .i64 e2.addr, .int .i64 e2.id, .bool e2.want, .int .i64 e2.per, .int .i64 e2.st, .int .i64 e2.fails, .bool e2.tried, .int .i64 e2.left, .int .i64 e2.bad] ∧ HV ws ns [.slice (some ⟨b1, o1, none⟩) L.length cap] ∧ HV ws na [.int .i64 ad.addr, .int .i64 ad.id, .bool ad.want, .int .i64 ad.per, .int .i64 ad.st, .int .i64 ad.fails, .bool ad.tried, .int .i64 ad.left, .int .i64 ad.bad, .bool aw, .int .i64 ap, .int .i64 ast, .slice da data.length dc] ∧ Ext w ws) := ⟨HOK2.out.1, HOK2.out.2.1, FD.out, FSz.out, FA.out, FX.out⟩
                have HTR : Hid (e2.tried = d.tried) := HOK2.out.2.2
                by_cases hst : e2.st = d.st
                · have hsb : (e2.st != d.st) = false := by simp [hst]
                  have hfe : Hid (e2.fails = d.fails) := HFA.out hst
                  clear hst HFA HFB
                  go_wp2_with fail
                  go_meet
                  exact ⟨e2, by rw [hfe.out], HTR.out, RES⟩
                · have hsb : (e2.st != d.st) = true := by simp [hst]
                  have hfe : Hid (e2.fails = 0) := HFB.out hst
                  clear hst HFA HFB
                  go_wp2_with fail
                  go_meet
                  exact ⟨e2, by rw [hfe.out], HTR.out, RES⟩
            · have hqb : ((q4 : Int) == 0) = false := beq_eq_false_iff_ne.2 (by omega)
              go_wp2_with fail
              go_meet
              exact ⟨d, rfl, rfl, HOK.out.1, HOK.out.2, FD.out, FSz.out, FA.out, FX.out⟩
          case rest =>
            obtain ⟨d1, rfl, htr, hcut⟩ := hcut
            rw [← htr]
            clear htr
            have FD : Hid (HV wc B [.int .i64 d1.addr, .int .i64 d1.id, .bool d1.want, .int .i64 d1.per, .int .i64 d1.st, .int .i64 d1.fails, .bool d1.tried, .int .i64 d1.left, .int .i64 d1.bad]) := hcut.out.2.2.1
            have FSz : Hid (HV wc ns [.slice (some ⟨b1, o1, none⟩) L.length cap]) := hcut.out.2.2.2.1
            have FA : Hid (HV wc na [.int .i64 ad.addr, .int .i64 ad.id, .bool ad.want, .int .i64 ad.per, .int .i64 ad.st, .int .i64 ad.fails, .bool ad.tried, .int .i64 ad.left, .int .i64 ad.bad, .bool aw, .int .i64 ap, .int .i64 ast, .slice da data.length dc]) := hcut.out.2.2.2.2.1
            have FX : Hid (Ext w wc) := hcut.out.2.2.2.2.2
            have HO : Hid (okD d1 = true ∧ d1.id = 49) := ⟨hcut.out.1, hcut.out.2.1⟩
            have HID : Hid (d1.id = 49) := HO.out.2
            have HST : Hid (inn d1.st 0 8 = true ∧ (0 ≤ d1.fails ∧ d1.fails ≤ 2)) := ⟨okD_st HO.out.1, okD_f HO.out.1⟩
            clear hcut HOK a9 a10 a12 hq4 hq5 HV4 HV5
            have c0 : wc.cell? ⟨B, 0, none⟩ = some (.int .i64 d1.addr) := FD.out.c 0 rfl
            have c1 : wc.cell? ⟨B, 1, none⟩ = some (.int .i64 d1.id) := FD.out.c 1 rfl
            have c2 : wc.cell? ⟨B, 2, none⟩ = some (.bool d1.want) := FD.out.c 2 rfl
            have c3 : wc.cell? ⟨B, 3, none⟩ = some (.int .i64 d1.per) := FD.out.c 3 rfl
            have c4 : wc.cell? ⟨B, 4, none⟩ = some (.int .i64 d1.st) := FD.out.c 4 rfl
            have c5 : wc.cell? ⟨B, 5, none⟩ = some (.int .i64 d1.fails) := FD.out.c 5 rfl
            have c6 : wc.cell? ⟨B, 6, none⟩ = some (.bool d1.tried) := FD.out.c 6 rfl
            have c7 : wc.cell? ⟨B, 7, none⟩ = some (.int .i64 d1.left) := FD.out.c 7 rfl
            have c8 : wc.cell? ⟨B, 8, none⟩ = some (.int .i64 d1.bad) := FD.out.c 8 rfl
            cases hin : inn d1.st 1 7
            · have HNx : Hid (∀ W, Calls Try.prog 9 #[drv d1] W fun e w' => e = .returned (.tuple #[notx, .bool false, .int .i64 0]) ∧ Ext W w') := fun W => next_none d1 HO.out.1 hin W
              have hor : d1.st = 0 ∨ d1.st = 8 := by have h1 := inn_iff.1 HST.out.1; have h2 := inn_not.1 hin; omega
              rcases hor with h0 | h8
              · as_aux_lemma =>
                  have hb0 : (d1.st == 0) = true := by rw [h0]; rfl
                  have hb8 : (d1.st == 8) = false := by rw [h0]; rfl
                  clear h0 hin
                  go_wp2_with (first | (go_at_call 9; refine (HNx.out _).mono ?_; rintro e u0 ⟨rfl, x0⟩; have k4 : ∀ x, (u0.alloc x).cell? ⟨B, 4, none⟩ = some (.int .i64 d1.st) := fun x => ((FD.out.ext x0).alloc x).c 4 rfl) | (go_at_call 11; refine (HNU.out _ _).mono ?_; rintro e wx ⟨rfl, hwx⟩; have hwy := hwx.symm; clear hwx; subst hwy))
                  go_roundw
                  case rel => exact ⟨k + 1, d1, by omega, by omega, by go_num, rfl, rfl, HO.out.1, HO.out.2, (FD.out.ext x0).alloc _, (FSz.out.ext x0).alloc _, (FX.out.trans x0).alloc _⟩
                  case measure => simp [intOf]; omega
              · as_aux_lemma =>
                  have hb0 : (d1.st == 0) = false := by rw [h8]; rfl
                  have hb8 : (d1.st == 8) = true := by rw [h8]; rfl
                  clear h8 hin
                  go_wp2_with (first | (go_at_call 9; refine (HNx.out _).mono ?_; rintro e u0 ⟨rfl, x0⟩; have k4 : ∀ x, (u0.alloc x).cell? ⟨B, 4, none⟩ = some (.int .i64 d1.st) := fun x => ((FD.out.ext x0).alloc x).c 4 rfl) | (go_at_call 11; refine (HNU.out _ _).mono ?_; rintro e wx ⟨rfl, hwx⟩; have hwy := hwx.symm; clear hwx; subst hwy))
                  go_roundw
                  case rel => exact ⟨k + 1, d1, by omega, by omega, by go_num, rfl, rfl, HO.out.1, HO.out.2, (FD.out.ext x0).alloc _, (FSz.out.ext x0).alloc _, (FX.out.trans x0).alloc _⟩
                  case measure => simp [intOf]; omega
            · have HNx : Hid (∀ W, Calls Try.prog 9 #[drv d1] W fun e w' => ∃ a c, e = .returned (.tuple #[txw d1.addr (txReg d1.st) a (txWr d1).length c (txRd d1), .bool true, .int .i64 0]) ∧ RdY w' W.heap.size a (txWr d1) ∧ Ext W w') := fun W => next_some d1 HO.out.1 hin W
              have hne : d1.st ≠ 0 ∧ d1.st ≠ 8 := by have h2 := inn_iff.1 hin; omega
              have hb0 : (d1.st == 0) = false := by simp [hne.1]
              have hb8 : (d1.st == 8) = false := by simp [hne.2]
              have H8 : Hid (d1.st ≠ 8) := hne.2
              have HIN : Hid (inn d1.st 1 7 = true) := hin
              clear hne hin
              have HGD : Hid (goodD d1 ast data = (decide (ast = 1) && (decide ((data.length : Int) = txRd d1) && fitD d1 data))) := rfl
              have HR1 : Hid (d1.st = 1 ∨ d1.st = 4 → txRd d1 = 1) := fun h => by unfold txRd; rcases h with h | h <;> rw [h] <;> rfl
              generalize txRd d1 = rd at *
              generalize txReg d1.st = rg at *
              generalize txWr d1 = tw at *
              go_upto_region 21 with (go_at_call 9; refine (HNx.out _).mono ?_; rintro e u0 ⟨ta, tc, rfl, _, x0⟩)
              have FT : Hid (HV (u0.alloc (.cells #[.int .i64 d1.addr, .int .i64 rg, .slice ta tw.length tc, .int .i64 rd] 31)) u0.heap.size [.int .i64 d1.addr, .int .i64 rg, .slice ta tw.length tc, .int .i64 rd]) := hv_at rfl
              have FD : Hid (HV (u0.alloc (.cells #[.int .i64 d1.addr, .int .i64 rg, .slice ta tw.length tc, .int .i64 rd] 31)) B [.int .i64 d1.addr, .int .i64 d1.id, .bool d1.want, .int .i64 d1.per, .int .i64 d1.st, .int .i64 d1.fails, .bool d1.tried, .int .i64 d1.left, .int .i64 d1.bad]) := (FD.out.ext x0).alloc _
              have FSz : Hid (HV (u0.alloc (.cells #[.int .i64 d1.addr, .int .i64 rg, .slice ta tw.length tc, .int .i64 rd] 31)) ns [.slice (some ⟨b1, o1, none⟩) L.length cap]) := (FSz.out.ext x0).alloc _
              have FA : Hid (HV (u0.alloc (.cells #[.int .i64 d1.addr, .int .i64 rg, .slice ta tw.length tc, .int .i64 rd] 31)) na [.int .i64 ad.addr, .int .i64 ad.id, .bool ad.want, .int .i64 ad.per, .int .i64 ad.st, .int .i64 ad.fails, .bool ad.tried, .int .i64 ad.left, .int .i64 ad.bad, .bool aw, .int .i64 ap, .int .i64 ast, .slice da data.length dc]) := (FA.out.ext x0).alloc _
              have FX : Hid (Ext w (u0.alloc (.cells #[.int .i64 d1.addr, .int .i64 rg, .slice ta tw.length tc, .int .i64 rd] 31))) := (FX.out.trans x0).alloc _
              clear x0 HNx c0 c1 c2 c3 c4 c5 c6 c7 c8
              generalize (u0.alloc (.cells #[.int .i64 d1.addr, .int .i64 rg, .slice ta tw.length tc, .int .i64 rd] 31)) = wt at *
              generalize u0.heap.size = nt at *
              have c0 : wt.cell? ⟨B, 0, none⟩ = some (.int .i64 d1.addr) := FD.out.c 0 rfl
              have c1 : wt.cell? ⟨B, 1, none⟩ = some (.int .i64 d1.id) := FD.out.c 1 rfl
              have c2 : wt.cell? ⟨B, 2, none⟩ = some (.bool d1.want) := FD.out.c 2 rfl
              have c3 : wt.cell? ⟨B, 3, none⟩ = some (.int .i64 d1.per) := FD.out.c 3 rfl
              have c4 : wt.cell? ⟨B, 4, none⟩ = some (.int .i64 d1.st) := FD.out.c 4 rfl
              have c5 : wt.cell? ⟨B, 5, none⟩ = some (.int .i64 d1.fails) := FD.out.c 5 rfl
              have c6 : wt.cell? ⟨B, 6, none⟩ = some (.bool d1.tried) := FD.out.c 6 rfl
              have c7 : wt.cell? ⟨B, 7, none⟩ = some (.int .i64 d1.left) := FD.out.c 7 rfl
              have c8 : wt.cell? ⟨B, 8, none⟩ = some (.int .i64 d1.bad) := FD.out.c 8 rfl
              go_upto_region 24 with (go_at_call 11; refine (HNU.out _ _).mono ?_; rintro e wx ⟨rfl, hwx⟩; have hwy := hwx.symm; clear hwx; subst hwy)
              have a11 : wt.cell? ⟨na, 11, none⟩ = some (.int .i64 ast) := FA.out.c 11 rfl
              have a12 : wt.cell? ⟨na, 12, none⟩ = some (.slice da data.length dc) := FA.out.c 12 rfl
              have t3 : wt.cell? ⟨nt, 3, none⟩ = some (.int .i64 rd) := FT.out.c 3 rfl
              have HRW : Hid (RdY wt 0 da data) := HRD.out.ext FX.out
              go_cut [15] from 27 to 202 (fun v15 wx => v15 = .bool (goodD d1 ast data) ∧ wt = wx)
              case first =>
                rename_i hA1 hA0
                have hA1 : Hid _ := hA1
                have hA0 : Hid _ := hA0
                clear HW HNU HBY HDL HRD HO HST H8 HIN FD FSz FA FX FT h400i hlti h30i
                go_tidy
                have hA1 := hA1.out
                have hA0 := hA0.out
                by_cases g1 : ast = 1
                · have j1 : (ast == 1) = true := by simp [g1]
                  have G1 : Hid (ast = 1) := g1
                  clear g1
                  by_cases g2 : (data.length : Int) = rd
                  · have j2 : ((data.length : Int) == rd) = true := by simp [g2]
                    have G2 : Hid ((data.length : Int) = rd) := g2
                    clear g2
                    by_cases st1 : d1.st = 1
                    · have m1 : (d1.st != 1) = false := by rw [st1]; rfl
                      have m4 : (d1.st != 4) = true := by rw [st1]; rfl
                      have hl1 : data.length = 1 := by have h1 := HR1.out (by omega); have h2 := G2.out; omega
                      obtain ⟨bb, oo, rfl, _, hc0⟩ := HRW.out 0 (by omega)
                      rw [Nat.add_zero] at hc0
                      have hl2 : (0 : Int) < (data.length : Int) := by omega
                      have hft : Hid (fitD d1 data = (data.getD 0 0 == d1.id)) := by show _ = _; unfold fitD; rw [st1]; rfl
                      clear st1 hl1
                      have hid : Hid (d1.id = 49) := HID
                      generalize data.getD 0 0 = x0 at *
                      by_cases h0 : x0 = 49
                      · have jx : (x0 == 49) = true := by simp [h0]
                        have H0 : Hid ((x0 = 49)) := h0
                        clear h0
                        as_aux_lemma =>
                          go_wp2_with fail
                          go_meet
                          exact ⟨by rw [HGD.out, hft.out]; simp [G1.out, G2.out, H0.out, hid.out], rfl⟩
                      · have jx : (x0 == 49) = false := by simp [h0]
                        have H0 : Hid (¬ (x0 = 49)) := h0
                        clear h0
                        as_aux_lemma =>
                          go_wp2_with fail
                          go_meet
                          exact ⟨by rw [HGD.out, hft.out]; simp [G1.out, G2.out, H0.out, hid.out], rfl⟩
                    · have m1 : (d1.st != 1) = true := by simp [st1]
                      have M1 : Hid (d1.st ≠ 1) := st1
                      clear st1
                      by_cases st4 : d1.st = 4
                      · have m1 : (d1.st != 1) = true := by rw [st4]; rfl
                        have m4 : (d1.st != 4) = false := by rw [st4]; rfl
                        have hl1 : data.length = 1 := by have h1 := HR1.out (by omega); have h2 := G2.out; omega
                        obtain ⟨bb, oo, rfl, _, hc0⟩ := HRW.out 0 (by omega)
                        rw [Nat.add_zero] at hc0
                        have hl2 : (0 : Int) < (data.length : Int) := by omega
                        have hft : Hid (fitD d1 data = decide (data.getD 0 0 ≤ 16)) := by show _ = _; unfold fitD; rw [st4]; rfl
                        clear st4 hl1
                        generalize data.getD 0 0 = x0 at *
                        by_cases h0 : x0 ≤ 16
                        · have jx : decide (x0 ≤ 16) = true := by simp [h0]
                          have H0 : Hid ((x0 ≤ 16)) := h0
                          clear h0
                          as_aux_lemma =>
                            go_wp2_with fail
                            go_meet
                            exact ⟨by rw [HGD.out, hft.out]; simp [G1.out, G2.out, H0.out], rfl⟩
                        · have jx : decide (x0 ≤ 16) = false := by simp [h0]
                          have H0 : Hid (¬ (x0 ≤ 16)) := h0
                          clear h0
                          as_aux_lemma =>
                            go_wp2_with fail
                            go_meet
                            exact ⟨by rw [HGD.out, hft.out]; simp [G1.out, G2.out, H0.out], rfl⟩
                      · have m4 : (d1.st != 4) = true := by simp [st4]
                        have M4 : Hid (d1.st ≠ 4) := st4
                        clear st4
                        as_aux_lemma =>
                          go_wp2_with fail
                          go_meet
                          exact ⟨by rw [HGD.out]; unfold fitD; rw [if_neg M1.out, if_neg M4.out]; simp [G1.out, G2.out], rfl⟩
                  · have j2 : ((data.length : Int) == rd) = false := by simp [g2]
                    have G2 : Hid (¬ (data.length : Int) = rd) := g2
                    clear g2
                    as_aux_lemma =>
                      go_wp2_with fail
                      go_meet
                      exact ⟨by rw [HGD.out]; simp [G2.out], rfl⟩
                · have j1 : (ast == 1) = false := by simp [g1]
                  have G1 : Hid (¬ ast = 1) := g1
                  clear g1
                  as_aux_lemma =>
                    go_wp2_with fail
                    go_meet
                    exact ⟨by rw [HGD.out]; simp [G1.out], rfl⟩
              case rest =>
                obtain ⟨rfl, hwc⟩ := hcut
                subst hwc
                have HTk : Hid (TakeC wt d1 ast data da dc) := take_any HO.out.1 HIN.out HDL.out.1 HDL.out.2 HRW.out HBY.out
                have HE : Hid (okD (takeD d1 ast data) = true ∧ (takeD d1 ast data).id = 49) := ⟨takeD_ok HO.out.1 HBY.out, (takeD_id d1 ast data).trans HO.out.2⟩
                have HGT : Hid (goodD d1 ast data = true → takeD d1 ast data = gotD d1 data) := fun h => if_pos h
                have HMS : Hid (goodD d1 ast data = false → takeD d1 ast data = missD d1) := fun h => if_neg (by rw [h]; exact Bool.false_ne_true)
                have HGF : Hid _ := got_facts d1 data HIN.out
                have HMF : Hid _ := miss_facts d1 HST.out.2 H8.out
                have HGK : Hid ((gotD d1 data).fails = 0 ∧ (gotD d1 data).st ≠ 8) := ⟨(gotD_keep d1 data).2.2.1, (gotD_keep d1 data).2.2.2⟩
                have HMK : Hid ((missD d1).tried = d1.tried) := (missD_keep d1).2.2
                generalize goodD d1 ast data = G at *
                have HTk := HTk.out
                unfold TakeC at HTk
                generalize takeD d1 ast data = e2 at *
                have HTk : Hid (Calls Try.prog 19 #[drv d1, .agg #[.int .i64 ast, .slice da data.length dc]] wt fun e w' => ∃ v, e = .returned (.tuple #[drv e2, v, .bool (e2.st == 8), .int .i64 0]) ∧ RawsAt (wt.heap.size + 3) (toldD d1 ast data) w' v ∧ Ext wt w') := HTk
                go_upto_region 26 with (go_at_call 19; refine HTk.out.mono ?_; rintro e u1 ⟨rv, rfl, _, x1⟩)
                have FN : Hid (HV (u1.alloc (.cells #[.int .i64 e2.addr, .int .i64 e2.id, .bool e2.want, .int .i64 e2.per, .int .i64 e2.st, .int .i64 e2.fails, .bool e2.tried, .int .i64 e2.left, .int .i64 e2.bad] 24)) u1.heap.size [.int .i64 e2.addr, .int .i64 e2.id, .bool e2.want, .int .i64 e2.per, .int .i64 e2.st, .int .i64 e2.fails, .bool e2.tried, .int .i64 e2.left, .int .i64 e2.bad]) := hv_at rfl
                have FD : Hid (HV (u1.alloc (.cells #[.int .i64 e2.addr, .int .i64 e2.id, .bool e2.want, .int .i64 e2.per, .int .i64 e2.st, .int .i64 e2.fails, .bool e2.tried, .int .i64 e2.left, .int .i64 e2.bad] 24)) B [.int .i64 d1.addr, .int .i64 d1.id, .bool d1.want, .int .i64 d1.per, .int .i64 d1.st, .int .i64 d1.fails, .bool d1.tried, .int .i64 d1.left, .int .i64 d1.bad]) := (FD.out.ext x1).alloc _
                have FSz : Hid (HV (u1.alloc (.cells #[.int .i64 e2.addr, .int .i64 e2.id, .bool e2.want, .int .i64 e2.per, .int .i64 e2.st, .int .i64 e2.fails, .bool e2.tried, .int .i64 e2.left, .int .i64 e2.bad] 24)) ns [.slice (some ⟨b1, o1, none⟩) L.length cap]) := (FSz.out.ext x1).alloc _
                have FX : Hid (Ext w (u1.alloc (.cells #[.int .i64 e2.addr, .int .i64 e2.id, .bool e2.want, .int .i64 e2.per, .int .i64 e2.st, .int .i64 e2.fails, .bool e2.tried, .int .i64 e2.left, .int .i64 e2.bad] 24))) := (FX.out.trans x1).alloc _
                clear x1 HTk a11 a12 t3 HRW FT FA c0 c1 c2 c3 c4 c5 c6 c7 c8
                generalize (u1.alloc (.cells #[.int .i64 e2.addr, .int .i64 e2.id, .bool e2.want, .int .i64 e2.per, .int .i64 e2.st, .int .i64 e2.fails, .bool e2.tried, .int .i64 e2.left, .int .i64 e2.bad] 24)) = wn at *
                generalize u1.heap.size = nn at *
                have c4 : wn.cell? ⟨B, 4, none⟩ = some (.int .i64 d1.st) := FD.out.c 4 rfl
                have n0 : wn.cell? ⟨nn, 0, none⟩ = some (.int .i64 e2.addr) := FN.out.c 0 rfl
                have n1 : wn.cell? ⟨nn, 1, none⟩ = some (.int .i64 e2.id) := FN.out.c 1 rfl
                have n2 : wn.cell? ⟨nn, 2, none⟩ = some (.bool e2.want) := FN.out.c 2 rfl
                have n3 : wn.cell? ⟨nn, 3, none⟩ = some (.int .i64 e2.per) := FN.out.c 3 rfl
                have n4 : wn.cell? ⟨nn, 4, none⟩ = some (.int .i64 e2.st) := FN.out.c 4 rfl
                have n5 : wn.cell? ⟨nn, 5, none⟩ = some (.int .i64 e2.fails) := FN.out.c 5 rfl
                have n6 : wn.cell? ⟨nn, 6, none⟩ = some (.bool e2.tried) := FN.out.c 6 rfl
                have n7 : wn.cell? ⟨nn, 7, none⟩ = some (.int .i64 e2.left) := FN.out.c 7 rfl
                have n8 : wn.cell? ⟨nn, 8, none⟩ = some (.int .i64 e2.bad) := FN.out.c 8 rfl
                have hsD : (Try.prog.info? 24).map (·.size) = some ([.int .i64 e2.addr, .int .i64 e2.id, .bool e2.want, .int .i64 e2.per, .int .i64 e2.st, .int .i64 e2.fails, .bool e2.tried, .int .i64 e2.left, .int .i64 e2.bad] : List Value).length := by kernel_rfl
                have FV : HV wn B [.int .i64 d1.addr, .int .i64 d1.id, .bool d1.want, .int .i64 d1.per, .int .i64 d1.st, .int .i64 d1.fails, .bool d1.tried, .int .i64 d1.left, .int .i64 d1.bad] := FD.out
                cases G
                · have he := HMS.out rfl
                  rw [← he] at HMF HMK
                  clear he HMS HGT HGF HGK
                  obtain ⟨f1, f2⟩ := HST.out.2
                  rcases HMF.out with ⟨s7, s8, sf⟩ | ⟨s7, s8, s3, sf⟩ | ⟨s7, s8, s2, st_, sf⟩ | ⟨s7, s8, s2, sf⟩
                  · have s7n : (d1.st != 7) = false := by simpa using s7
                    have SF : Hid (e2.fails = 0) := sf
                    clear sf HMF
                    as_aux_lemma =>
                      go_upto_region 39 with (go_at_call 11; refine (HNU.out _ _).mono ?_; rintro e wx ⟨rfl, hwx⟩; have hwy := hwx.symm; clear hwx; subst hwy)
                      go_wp2_with (first | ((with_reducible show wpList _ _ _ (_ :: _) _ _); refine wpList_store_var B [.int .i64 d1.addr, .int .i64 d1.id, .bool d1.want, .int .i64 d1.per, .int .i64 d1.st, .int .i64 d1.fails, .bool d1.tried, .int .i64 d1.left, .int .i64 d1.bad] [.int .i64 e2.addr, .int .i64 e2.id, .bool e2.want, .int .i64 e2.per, .int .i64 e2.st, .int .i64 e2.fails, .bool e2.tried, .int .i64 e2.left, .int .i64 e2.bad] rfl 24 (.tmp 3) (.tmp 202) rfl rfl rfl FV rfl hsD (by simp [Value.oneCell']) ?_; intro ws V1 V2 V3) | (go_at_call 11; refine (HNU.out _ _).mono ?_; rintro e wx ⟨rfl, hwx⟩; have hwy := hwx.symm; clear hwx; subst hwy))
                      go_roundw
                      case rel => exact ⟨k + 1, e2, by omega, by omega, by go_num, by rw [SF.out], by rw [HMK.out], HE.out.1, HE.out.2, V1.out, V2.out _ _ (by omega) FSz.out, V3.out _ FX.out lBw.out⟩
                      case measure => simp [intOf]; omega
                  · have s7n : (d1.st != 7) = true := by simpa using s7
                    have SF : Hid (e2.fails = d1.fails + 1) := sf
                    have r3 : (d1.fails + 1 == 3) = false := by simp; omega
                    clear sf HMF
                    as_aux_lemma =>
                      go_upto_region 39 with (go_at_call 11; refine (HNU.out _ _).mono ?_; rintro e wx ⟨rfl, hwx⟩; have hwy := hwx.symm; clear hwx; subst hwy)
                      go_wp2_with (first | ((with_reducible show wpList _ _ _ (_ :: _) _ _); refine wpList_store_var B [.int .i64 d1.addr, .int .i64 d1.id, .bool d1.want, .int .i64 d1.per, .int .i64 d1.st, .int .i64 d1.fails, .bool d1.tried, .int .i64 d1.left, .int .i64 d1.bad] [.int .i64 e2.addr, .int .i64 e2.id, .bool e2.want, .int .i64 e2.per, .int .i64 e2.st, .int .i64 e2.fails, .bool e2.tried, .int .i64 e2.left, .int .i64 e2.bad] rfl 24 (.tmp 3) (.tmp 202) rfl rfl rfl FV rfl hsD (by simp [Value.oneCell']) ?_; intro ws V1 V2 V3) | (go_at_call 11; refine (HNU.out _ _).mono ?_; rintro e wx ⟨rfl, hwx⟩; have hwy := hwx.symm; clear hwx; subst hwy))
                      go_roundw
                      case rel => exact ⟨k + 1, e2, by omega, by omega, by go_num, by rw [SF.out], by rw [HMK.out], HE.out.1, HE.out.2, V1.out, V2.out _ _ (by omega) FSz.out, V3.out _ FX.out lBw.out⟩
                      case measure => simp [intOf]; omega
                  · have s7n : (d1.st != 7) = true := by simpa using s7
                    have SF : Hid (e2.fails = 0) := sf
                    have r3 : (d1.fails + 1 == 3) = true := by simp; omega
                    have r4 : ¬ (d1.fails + 1 < 3) := by omega
                    rw [st_] at HMK ⊢
                    clear sf HMF st_ s2
                    as_aux_lemma =>
                      go_upto_region 39 with (go_at_call 11; refine (HNU.out _ _).mono ?_; rintro e wx ⟨rfl, hwx⟩; have hwy := hwx.symm; clear hwx; subst hwy)
                      go_wp2_with (first | ((with_reducible show wpList _ _ _ (_ :: _) _ _); refine wpList_store_var B [.int .i64 d1.addr, .int .i64 d1.id, .bool d1.want, .int .i64 d1.per, .int .i64 d1.st, .int .i64 d1.fails, .bool d1.tried, .int .i64 d1.left, .int .i64 d1.bad] [.int .i64 e2.addr, .int .i64 e2.id, .bool e2.want, .int .i64 e2.per, .int .i64 e2.st, .int .i64 e2.fails, .bool e2.tried, .int .i64 e2.left, .int .i64 e2.bad] rfl 24 (.tmp 3) (.tmp 202) rfl rfl rfl FV rfl hsD (by simp [Value.oneCell']) ?_; intro ws V1 V2 V3) | (go_at_call 11; refine (HNU.out _ _).mono ?_; rintro e wx ⟨rfl, hwx⟩; have hwy := hwx.symm; clear hwx; subst hwy))
                      go_roundw
                      case rel => exact ⟨k + 1, e2, by omega, by omega, by go_num, by rw [SF.out], by rw [HMK.out], HE.out.1, HE.out.2, V1.out, V2.out _ _ (by omega) FSz.out, V3.out _ FX.out lBw.out⟩
                      case measure => simp [intOf]; omega
                  · have s7n : (d1.st != 7) = true := by simpa using s7
                    have SF : Hid (e2.fails = 0) := sf
                    have r3 : (d1.fails + 1 == 3) = true := by simp; omega
                    clear sf HMF s2
                    as_aux_lemma =>
                      go_upto_region 39 with (go_at_call 11; refine (HNU.out _ _).mono ?_; rintro e wx ⟨rfl, hwx⟩; have hwy := hwx.symm; clear hwx; subst hwy)
                      go_wp2_with (first | ((with_reducible show wpList _ _ _ (_ :: _) _ _); refine wpList_store_var B [.int .i64 d1.addr, .int .i64 d1.id, .bool d1.want, .int .i64 d1.per, .int .i64 d1.st, .int .i64 d1.fails, .bool d1.tried, .int .i64 d1.left, .int .i64 d1.bad] [.int .i64 e2.addr, .int .i64 e2.id, .bool e2.want, .int .i64 e2.per, .int .i64 e2.st, .int .i64 e2.fails, .bool e2.tried, .int .i64 e2.left, .int .i64 e2.bad] rfl 24 (.tmp 3) (.tmp 202) rfl rfl rfl FV rfl hsD (by simp [Value.oneCell']) ?_; intro ws V1 V2 V3) | (go_at_call 11; refine (HNU.out _ _).mono ?_; rintro e wx ⟨rfl, hwx⟩; have hwy := hwx.symm; clear hwx; subst hwy))
                      go_roundw
                      case rel => exact ⟨k + 1, e2, by omega, by omega, by go_num, by rw [SF.out], by rw [HMK.out], HE.out.1, HE.out.2, V1.out, V2.out _ _ (by omega) FSz.out, V3.out _ FX.out lBw.out⟩
                      case measure => simp [intOf]; omega
                · have he := HGT.out rfl
                  rw [← he] at HGF HGK
                  clear he HMS HGT HMF HMK
                  have SF : Hid (e2.fails = 0) := HGK.out.1
                  have s8 : (e2.st == 8) = false := by simp [HGK.out.2]
                  clear HGK
                  rcases HGF.out with ⟨s7, s3, s0, sr⟩ | ⟨s7, s3, s0, s4, sr⟩ | ⟨s7, s3, s0, sr⟩ | ⟨s7, s3, s0, sr⟩
                  · have SR : Hid (e2.tried = d1.tried) := sr
                    clear sr HGF
                    as_aux_lemma =>
                      go_upto_region 35 with (go_at_call 11; refine (HNU.out _ _).mono ?_; rintro e wx ⟨rfl, hwx⟩; have hwy := hwx.symm; clear hwx; subst hwy)
                      clear s7 s3 s0
                      go_upto_region 39 with fail
                      go_wp2_with (first | ((with_reducible show wpList _ _ _ (_ :: _) _ _); refine wpList_store_var B [.int .i64 d1.addr, .int .i64 d1.id, .bool d1.want, .int .i64 d1.per, .int .i64 d1.st, .int .i64 d1.fails, .bool d1.tried, .int .i64 d1.left, .int .i64 d1.bad] [.int .i64 e2.addr, .int .i64 e2.id, .bool e2.want, .int .i64 e2.per, .int .i64 e2.st, .int .i64 e2.fails, .bool e2.tried, .int .i64 e2.left, .int .i64 e2.bad] rfl 24 (.tmp 3) (.tmp 202) rfl rfl rfl FV rfl hsD (by simp [Value.oneCell']) ?_; intro ws V1 V2 V3) | (go_at_call 11; refine (HNU.out _ _).mono ?_; rintro e wx ⟨rfl, hwx⟩; have hwy := hwx.symm; clear hwx; subst hwy))
                      go_roundw
                      case rel => exact ⟨k + 1, e2, by omega, by omega, by go_num, by rw [SF.out], by rw [SR.out], HE.out.1, HE.out.2, V1.out, V2.out _ _ (by omega) FSz.out, V3.out _ FX.out lBw.out⟩
                      case measure => simp [intOf]; omega
                  · have SR : Hid (e2.tried = false) := sr
                    clear sr HGF
                    as_aux_lemma =>
                      go_upto_region 35 with (go_at_call 11; refine (HNU.out _ _).mono ?_; rintro e wx ⟨rfl, hwx⟩; have hwy := hwx.symm; clear hwx; subst hwy)
                      clear s7 s3 s0 s4
                      go_upto_region 39 with fail
                      go_wp2_with (first | ((with_reducible show wpList _ _ _ (_ :: _) _ _); refine wpList_store_var B [.int .i64 d1.addr, .int .i64 d1.id, .bool d1.want, .int .i64 d1.per, .int .i64 d1.st, .int .i64 d1.fails, .bool d1.tried, .int .i64 d1.left, .int .i64 d1.bad] [.int .i64 e2.addr, .int .i64 e2.id, .bool e2.want, .int .i64 e2.per, .int .i64 e2.st, .int .i64 e2.fails, .bool e2.tried, .int .i64 e2.left, .int .i64 e2.bad] rfl 24 (.tmp 3) (.tmp 202) rfl rfl rfl FV rfl hsD (by simp [Value.oneCell']) ?_; intro ws V1 V2 V3) | (go_at_call 11; refine (HNU.out _ _).mono ?_; rintro e wx ⟨rfl, hwx⟩; have hwy := hwx.symm; clear hwx; subst hwy))
                      go_roundw
                      case rel => exact ⟨k + 1, e2, by omega, by omega, by go_num, by rw [SF.out], by rw [SR.out], HE.out.1, HE.out.2, V1.out, V2.out _ _ (by omega) FSz.out, V3.out _ FX.out lBw.out⟩
                      case measure => simp [intOf]; omega
                  · have SR : Hid (e2.tried = false) := sr
                    clear sr HGF
                    as_aux_lemma =>
                      go_upto_region 35 with (go_at_call 11; refine (HNU.out _ _).mono ?_; rintro e wx ⟨rfl, hwx⟩; have hwy := hwx.symm; clear hwx; subst hwy)
                      clear s7 s3 s0
                      go_upto_region 39 with fail
                      go_wp2_with (first | ((with_reducible show wpList _ _ _ (_ :: _) _ _); refine wpList_store_var B [.int .i64 d1.addr, .int .i64 d1.id, .bool d1.want, .int .i64 d1.per, .int .i64 d1.st, .int .i64 d1.fails, .bool d1.tried, .int .i64 d1.left, .int .i64 d1.bad] [.int .i64 e2.addr, .int .i64 e2.id, .bool e2.want, .int .i64 e2.per, .int .i64 e2.st, .int .i64 e2.fails, .bool e2.tried, .int .i64 e2.left, .int .i64 e2.bad] rfl 24 (.tmp 3) (.tmp 202) rfl rfl rfl FV rfl hsD (by simp [Value.oneCell']) ?_; intro ws V1 V2 V3) | (go_at_call 11; refine (HNU.out _ _).mono ?_; rintro e wx ⟨rfl, hwx⟩; have hwy := hwx.symm; clear hwx; subst hwy))
                      go_roundw
                      case rel => exact ⟨k + 1, e2, by omega, by omega, by go_num, by rw [SF.out], by rw [SR.out], HE.out.1, HE.out.2, V1.out, V2.out _ _ (by omega) FSz.out, V3.out _ FX.out lBw.out⟩
                      case measure => simp [intOf]; omega
                  · have SR : Hid (e2.tried = true) := sr
                    clear sr HGF
                    as_aux_lemma =>
                      go_upto_region 35 with (go_at_call 11; refine (HNU.out _ _).mono ?_; rintro e wx ⟨rfl, hwx⟩; have hwy := hwx.symm; clear hwx; subst hwy)
                      clear s7 s3 s0
                      go_upto_region 39 with fail
                      go_wp2_with (first | ((with_reducible show wpList _ _ _ (_ :: _) _ _); refine wpList_store_var B [.int .i64 d1.addr, .int .i64 d1.id, .bool d1.want, .int .i64 d1.per, .int .i64 d1.st, .int .i64 d1.fails, .bool d1.tried, .int .i64 d1.left, .int .i64 d1.bad] [.int .i64 e2.addr, .int .i64 e2.id, .bool e2.want, .int .i64 e2.per, .int .i64 e2.st, .int .i64 e2.fails, .bool e2.tried, .int .i64 e2.left, .int .i64 e2.bad] rfl 24 (.tmp 3) (.tmp 202) rfl rfl rfl FV rfl hsD (by simp [Value.oneCell']) ?_; intro ws V1 V2 V3) | (go_at_call 11; refine (HNU.out _ _).mono ?_; rintro e wx ⟨rfl, hwx⟩; have hwy := hwx.symm; clear hwx; subst hwy))
                      go_roundw
                      case rel => exact ⟨k + 1, e2, by omega, by omega, by go_num, by rw [SF.out], by rw [SR.out], HE.out.1, HE.out.2, V1.out, V2.out _ _ (by omega) FSz.out, V3.out _ FX.out lBw.out⟩
                      case measure => simp [intOf]; omega
      · have h30i : ¬ (k : Int) < 30 := by omega
        go_wp2_with (go_at_call 13; refine (HW.out _).mono ?_; rintro e w9 ⟨rfl, x9⟩)
        go_ret
        exact ⟨rfl, hR.out.2.2.2.2.trans x9⟩
    · have hlti : ¬ (k : Int) < (L.length : Int) := by omega
      go_wp2_with (go_at_call 13; refine (HW.out _).mono ?_; rintro e w9 ⟨rfl, x9⟩)
      go_ret
      exact ⟨rfl, hR.out.2.2.2.2.trans x9⟩
end Go.Proofs.Ytdfhhfpfnkjbnaa
