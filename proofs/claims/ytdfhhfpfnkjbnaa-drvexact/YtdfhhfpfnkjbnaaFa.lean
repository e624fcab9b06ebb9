/- gimbalref9: Next, good, bad, signed. -/
import Derived.Test.YtdfhhfpfnkjbnaaHvG
import Derived.Test.YtdfhhfpfnkjbnaaEd
import Derived.Test.YtdfhhfpfnkjbnaaDi
namespace Go.Proofs.Ytdfhhfpfnkjbnaa
open Go.RowKit Go.Conc
set_option maxRecDepth 20000 in
set_option maxHeartbeats 4000000 in
theorem rnext1 (addr id : Int) (want : Bool) (per fails : Int) (tried : Bool) (left bad : Int) (w : World) : Calls Try.prog 16 #[drv ⟨addr, id, want, per, 1, fails, tried, left, bad⟩] w fun e w' => ∃ a c, e = .returned (.tuple #[txw addr (txReg 1) a (txWr ⟨addr, id, want, per, 1, fails, tried, left, bad⟩).length c (txRd ⟨addr, id, want, per, 1, fails, tried, left, bad⟩), .bool true]) ∧ RdY w' w.heap.size a (txWr ⟨addr, id, want, per, 1, fails, tried, left, bad⟩) ∧ Ext w w' := by
  go_enter Try.func16, Try.ntmps16
  go_wp2_with fail
  refine bodyPost_ret (v := .tuple #[.agg #[.int .i64 addr, .int .i64 0, .slice none 0 0, .int .i64 (1)], .bool true]) (by simp [results, Try.results16, go_sem]) rfl ⟨_, _, rfl, ?_, ?_⟩
  · exact rdy_nil _ _ _
  · repeat (first | with_reducible assumption | with_reducible exact Ext.refl _ | with_reducible refine Ext.drew ?_ | with_reducible refine Ext.drewN ?_ _ | with_reducible refine Ext.alloc ?_ _ | with_reducible refine Ext.set ?_ (by first | exact Nat.le_refl _ | (dsimp only; omega) | (simp; done)) _)
set_option maxRecDepth 20000 in
set_option maxHeartbeats 4000000 in
theorem rnext2 (addr id : Int) (want : Bool) (per fails : Int) (tried : Bool) (left bad : Int) (w : World) : Calls Try.prog 16 #[drv ⟨addr, id, want, per, 2, fails, tried, left, bad⟩] w fun e w' => ∃ a c, e = .returned (.tuple #[txw addr (txReg 2) a (txWr ⟨addr, id, want, per, 2, fails, tried, left, bad⟩).length c (txRd ⟨addr, id, want, per, 2, fails, tried, left, bad⟩), .bool true]) ∧ RdY w' w.heap.size a (txWr ⟨addr, id, want, per, 2, fails, tried, left, bad⟩) ∧ Ext w w' := by
  go_enter Try.func16, Try.ntmps16
  go_wp2_with fail
  refine bodyPost_ret (v := .tuple #[.agg #[.int .i64 addr, .int .i64 2, .slice (some ⟨w.heap.size + 1 + 1 + 1, 0, none⟩) 1 1, .int .i64 (0)], .bool true]) (by simp [results, Try.results16, go_sem]) rfl ⟨_, _, rfl, ?_, ?_⟩
  · exact rdy_one (g := w.heap.size + 1 + 1 + 1) (by omega) (by first | (simp [go_sem]; done) | simp [go_sem, IntKind.wrap_u8])
  · repeat (first | with_reducible assumption | with_reducible exact Ext.refl _ | with_reducible refine Ext.drew ?_ | with_reducible refine Ext.drewN ?_ _ | with_reducible refine Ext.alloc ?_ _ | with_reducible refine Ext.set ?_ (by first | exact Nat.le_refl _ | (dsimp only; omega) | (simp; done)) _)
set_option maxRecDepth 20000 in
set_option maxHeartbeats 4000000 in
theorem rnext3 (addr id : Int) (want : Bool) (per fails : Int) (tried : Bool) (left bad : Int) (w : World) : Calls Try.prog 16 #[drv ⟨addr, id, want, per, 3, fails, tried, left, bad⟩] w fun e w' => ∃ a c, e = .returned (.tuple #[txw addr (txReg 3) a (txWr ⟨addr, id, want, per, 3, fails, tried, left, bad⟩).length c (txRd ⟨addr, id, want, per, 3, fails, tried, left, bad⟩), .bool true]) ∧ RdY w' w.heap.size a (txWr ⟨addr, id, want, per, 3, fails, tried, left, bad⟩) ∧ Ext w w' := by
  go_enter Try.func16, Try.ntmps16
  go_wp2_with fail
  refine bodyPost_ret (v := .tuple #[.agg #[.int .i64 addr, .int .i64 1, .slice (some ⟨w.heap.size + 1 + 1 + 1, 0, none⟩) 1 1, .int .i64 (0)], .bool true]) (by simp [results, Try.results16, go_sem]) rfl ⟨_, _, rfl, ?_, ?_⟩
  · exact rdy_one (g := w.heap.size + 1 + 1 + 1) (by omega) (by first | (simp [go_sem]; done) | simp [go_sem, IntKind.wrap_u8])
  · repeat (first | with_reducible assumption | with_reducible exact Ext.refl _ | with_reducible refine Ext.drew ?_ | with_reducible refine Ext.drewN ?_ _ | with_reducible refine Ext.alloc ?_ _ | with_reducible refine Ext.set ?_ (by first | exact Nat.le_refl _ | (dsimp only; omega) | (simp; done)) _)
set_option maxRecDepth 20000 in
set_option maxHeartbeats 4000000 in
theorem rnext4 (addr id : Int) (want : Bool) (per fails : Int) (tried : Bool) (left bad : Int) (w : World) : Calls Try.prog 16 #[drv ⟨addr, id, want, per, 4, fails, tried, left, bad⟩] w fun e w' => ∃ a c, e = .returned (.tuple #[txw addr (txReg 4) a (txWr ⟨addr, id, want, per, 4, fails, tried, left, bad⟩).length c (txRd ⟨addr, id, want, per, 4, fails, tried, left, bad⟩), .bool true]) ∧ RdY w' w.heap.size a (txWr ⟨addr, id, want, per, 4, fails, tried, left, bad⟩) ∧ Ext w w' := by
  go_enter Try.func16, Try.ntmps16
  go_wp2_with fail
  refine bodyPost_ret (v := .tuple #[.agg #[.int .i64 addr, .int .i64 3, .slice none 0 0, .int .i64 (1)], .bool true]) (by simp [results, Try.results16, go_sem]) rfl ⟨_, _, rfl, ?_, ?_⟩
  · exact rdy_nil _ _ _
  · repeat (first | with_reducible assumption | with_reducible exact Ext.refl _ | with_reducible refine Ext.drew ?_ | with_reducible refine Ext.drewN ?_ _ | with_reducible refine Ext.alloc ?_ _ | with_reducible refine Ext.set ?_ (by first | exact Nat.le_refl _ | (dsimp only; omega) | (simp; done)) _)
set_option maxRecDepth 20000 in
set_option maxHeartbeats 4000000 in
theorem rnext5 (addr id : Int) (want : Bool) (per fails : Int) (tried : Bool) (left bad : Int) (w : World) : Calls Try.prog 16 #[drv ⟨addr, id, want, per, 5, fails, tried, left, bad⟩] w fun e w' => ∃ a c, e = .returned (.tuple #[txw addr (txReg 5) a (txWr ⟨addr, id, want, per, 5, fails, tried, left, bad⟩).length c (txRd ⟨addr, id, want, per, 5, fails, tried, left, bad⟩), .bool true]) ∧ RdY w' w.heap.size a (txWr ⟨addr, id, want, per, 5, fails, tried, left, bad⟩) ∧ Ext w w' := by
  go_enter Try.func16, Try.ntmps16
  go_wp2_with fail
  refine bodyPost_ret (v := .tuple #[.agg #[.int .i64 addr, .int .i64 4, .slice none 0 0, .int .i64 (wrap64 (8 * left))], .bool true]) (by simp [results, Try.results16, go_sem]) rfl ⟨_, _, rfl, ?_, ?_⟩
  · exact rdy_nil _ _ _
  · repeat (first | with_reducible assumption | with_reducible exact Ext.refl _ | with_reducible refine Ext.drew ?_ | with_reducible refine Ext.drewN ?_ _ | with_reducible refine Ext.alloc ?_ _ | with_reducible refine Ext.set ?_ (by first | exact Nat.le_refl _ | (dsimp only; omega) | (simp; done)) _)
set_option maxRecDepth 20000 in
set_option maxHeartbeats 4000000 in
theorem rnext6 (addr id : Int) (want : Bool) (per fails : Int) (tried : Bool) (left bad : Int) (w : World) : Calls Try.prog 16 #[drv ⟨addr, id, want, per, 6, fails, tried, left, bad⟩] w fun e w' => ∃ a c, e = .returned (.tuple #[txw addr (txReg 6) a (txWr ⟨addr, id, want, per, 6, fails, tried, left, bad⟩).length c (txRd ⟨addr, id, want, per, 6, fails, tried, left, bad⟩), .bool true]) ∧ RdY w' w.heap.size a (txWr ⟨addr, id, want, per, 6, fails, tried, left, bad⟩) ∧ Ext w w' := by
  go_enter Try.func16, Try.ntmps16
  go_wp2_with fail
  refine bodyPost_ret (v := .tuple #[.agg #[.int .i64 addr, .int .i64 1, .slice (some ⟨w.heap.size + 1 + 1 + 1, 0, none⟩) 1 1, .int .i64 (0)], .bool true]) (by simp [results, Try.results16, go_sem]) rfl ⟨_, _, rfl, ?_, ?_⟩
  · exact rdy_one (g := w.heap.size + 1 + 1 + 1) (by omega) (by first | (simp [go_sem]; done) | simp [go_sem, IntKind.wrap_u8])
  · repeat (first | with_reducible assumption | with_reducible exact Ext.refl _ | with_reducible refine Ext.drew ?_ | with_reducible refine Ext.drewN ?_ _ | with_reducible refine Ext.alloc ?_ _ | with_reducible refine Ext.set ?_ (by first | exact Nat.le_refl _ | (dsimp only; omega) | (simp; done)) _)
set_option maxRecDepth 20000 in
set_option maxHeartbeats 4000000 in
theorem rnext7 (addr id : Int) (want : Bool) (per fails : Int) (tried : Bool) (left bad : Int) (w : World) : Calls Try.prog 16 #[drv ⟨addr, id, want, per, 7, fails, tried, left, bad⟩] w fun e w' => ∃ a c, e = .returned (.tuple #[txw addr (txReg 7) a (txWr ⟨addr, id, want, per, 7, fails, tried, left, bad⟩).length c (txRd ⟨addr, id, want, per, 7, fails, tried, left, bad⟩), .bool true]) ∧ RdY w' w.heap.size a (txWr ⟨addr, id, want, per, 7, fails, tried, left, bad⟩) ∧ Ext w w' := by
  go_enter Try.func16, Try.ntmps16
  go_wp2_with fail
  refine bodyPost_ret (v := .tuple #[.agg #[.int .i64 addr, .int .i64 5, .slice (some ⟨w.heap.size + 1 + 1 + 1, 0, none⟩) 1 1, .int .i64 (0)], .bool true]) (by simp [results, Try.results16, go_sem]) rfl ⟨_, _, rfl, ?_, ?_⟩
  · exact rdy_one (g := w.heap.size + 1 + 1 + 1) (by omega) (by first | (simp [go_sem]; done) | simp [go_sem, IntKind.wrap_u8])
  · repeat (first | with_reducible assumption | with_reducible exact Ext.refl _ | with_reducible refine Ext.drew ?_ | with_reducible refine Ext.drewN ?_ _ | with_reducible refine Ext.alloc ?_ _ | with_reducible refine Ext.set ?_ (by first | exact Nat.le_refl _ | (dsimp only; omega) | (simp; done)) _)
theorem rnext_some (d : Dr) (hb : inn d.st 1 7 = true) (w : World) : Calls Try.prog 16 #[drv d] w fun e w' => ∃ a c, e = .returned (.tuple #[txw d.addr (txReg d.st) a (txWr d).length c (txRd d), .bool true]) ∧ RdY w' w.heap.size a (txWr d) ∧ Ext w w' := by
  obtain ⟨addr, id, want, per, st, fails, tried, left, bad⟩ := d
  have h := inn_iff.1 hb
  simp only at h
  have hc : st = 1 ∨ st = 2 ∨ st = 3 ∨ st = 4 ∨ st = 5 ∨ st = 6 ∨ st = 7 := by omega
  clear h hb
  rcases hc with rfl | rfl | rfl | rfl | rfl | rfl | rfl
  · exact rnext1 addr id want per fails tried left bad w
  · exact rnext2 addr id want per fails tried left bad w
  · exact rnext3 addr id want per fails tried left bad w
  · exact rnext4 addr id want per fails tried left bad w
  · exact rnext5 addr id want per fails tried left bad w
  · exact rnext6 addr id want per fails tried left bad w
  · exact rnext7 addr id want per fails tried left bad w
set_option maxRecDepth 20000 in
set_option maxHeartbeats 4000000 in
theorem rnext0 (addr id : Int) (want : Bool) (per fails : Int) (tried : Bool) (left bad : Int) (w : World) : Calls Try.prog 16 #[drv ⟨addr, id, want, per, 0, fails, tried, left, bad⟩] w fun e w' => e = .returned (.tuple #[txw 0 0 none 0 0 0, .bool false]) ∧ Ext w w' := by
  go_enter Try.func16, Try.ntmps16
  go_wp2_with fail
  refine bodyPost_ret (v := .tuple #[.agg #[.int .i64 0, .int .i64 0, .slice none 0 0, .int .i64 0], .bool false]) (by simp [results, Try.results16, go_sem]) rfl ⟨rfl, ?_⟩
  repeat (first | with_reducible assumption | with_reducible exact Ext.refl _ | with_reducible refine Ext.drew ?_ | with_reducible refine Ext.drewN ?_ _ | with_reducible refine Ext.alloc ?_ _ | with_reducible refine Ext.set ?_ (by first | exact Nat.le_refl _ | (dsimp only; omega) | (simp; done)) _)
set_option maxRecDepth 20000 in
set_option maxHeartbeats 4000000 in
theorem rnext8 (addr id : Int) (want : Bool) (per fails : Int) (tried : Bool) (left bad : Int) (w : World) : Calls Try.prog 16 #[drv ⟨addr, id, want, per, 8, fails, tried, left, bad⟩] w fun e w' => e = .returned (.tuple #[txw 0 0 none 0 0 0, .bool false]) ∧ Ext w w' := by
  go_enter Try.func16, Try.ntmps16
  go_wp2_with fail
  refine bodyPost_ret (v := .tuple #[.agg #[.int .i64 0, .int .i64 0, .slice none 0 0, .int .i64 0], .bool false]) (by simp [results, Try.results16, go_sem]) rfl ⟨rfl, ?_⟩
  repeat (first | with_reducible assumption | with_reducible exact Ext.refl _ | with_reducible refine Ext.drew ?_ | with_reducible refine Ext.drewN ?_ _ | with_reducible refine Ext.alloc ?_ _ | with_reducible refine Ext.set ?_ (by first | exact Nat.le_refl _ | (dsimp only; omega) | (simp; done)) _)
theorem rnext_none (d : Dr) (h8 : inn d.st 0 8 = true) (hb : inn d.st 1 7 = false) (w : World) : Calls Try.prog 16 #[drv d] w fun e w' => e = .returned (.tuple #[txw 0 0 none 0 0 0, .bool false]) ∧ Ext w w' := by
  obtain ⟨addr, id, want, per, st, fails, tried, left, bad⟩ := d
  have h := inn_iff.1 h8
  have h2 := inn_not.1 hb
  simp only at h h2
  have hc : st = 0 ∨ st = 8 := by omega
  clear h h2 hb h8
  rcases hc with rfl | rfl
  · exact rnext0 addr id want per fails tried left bad w
  · exact rnext8 addr id want per fails tried left bad w
set_option maxRecDepth 20000 in
set_option maxHeartbeats 4000000 in
theorem rgood_any (d : Dr) (ta tr : Int) (tw : Option Addr) (tl tc : Nat) (ast : Int) (data : List Int) (da : Option Addr) (c : Nat) (w : World) (hrd : RdY w 0 da data) (hby : ∀ j, 0 ≤ data.getD j 0 ∧ data.getD j 0 ≤ 255) :
    Calls Try.prog 40 #[drv d, txw ta tr tw tl tc (txRd d), .agg #[.int .i64 ast, .slice da data.length c]] w fun e w' => e = .returned (.bool (goodD d ast data)) ∧ Ext w w' := by
  by_cases h1 : ast = 1
  · by_cases h2 : (data.length : Int) = txRd d
    · subst h1
      have eg : Hid (goodD d 1 data = fitD d data) := by show _ = _; unfold goodD; rw [decide_eq_true h2]; simp
      have hx : Hid (Ext w (((w.alloc (dro d)).alloc (txo ta tr tw tl tc (txRd d))).alloc (.cells #[.int .i64 1, .slice da data.length c] 27))) := (((Ext.refl w).alloc _).alloc _).alloc _
      by_cases s1 : d.st = 1
      · have e1 : txRd d = 1 := by unfold txRd; rw [if_pos s1]
        have hl : data.length = 1 := by omega
        obtain ⟨g, o, ea, _, hc⟩ := hrd 0 (by omega)
        rw [Nat.add_zero] at hc
        subst ea
        have ef : Hid (fitD d data = (data.getD 0 0 == d.id)) := by show _ = _; unfold fitD; rw [if_pos s1]
        have hb := hby 0
        generalize data.getD 0 0 = b0 at *
        rw [e1] at hx ⊢
        rw [hl] at hx ⊢
        clear hrd hby h2 e1 hl
        obtain ⟨addr, id, want, per, st, fails, tried, left, bad⟩ := d
        simp only at s1 ef
        subst s1
        have hc2 := hx.out.keepc hc
        generalize goodD ⟨addr, id, want, per, 1, fails, tried, left, bad⟩ 1 data = R at *
        generalize fitD ⟨addr, id, want, per, 1, fails, tried, left, bad⟩ data = R2 at *
        obtain ⟨hb1, hb2⟩ := hb
        go_enter Try.func40, Try.ntmps40
        go_upto_region 5 with fail
        go_quiet (fail)
        go_wp2_with fail
        go_ret
        refine ⟨?_, hx.out.trans (drewN_ext _)⟩
        rw [eg.out, ef.out]
        first | rfl | simp
      · by_cases s4 : d.st = 4
        · have e1 : txRd d = 1 := by unfold txRd; rw [if_neg s1, if_pos s4]
          have hl : data.length = 1 := by omega
          obtain ⟨g, o, ea, _, hc⟩ := hrd 0 (by omega)
          rw [Nat.add_zero] at hc
          subst ea
          have ef : Hid (fitD d data = decide (data.getD 0 0 ≤ 16)) := by show _ = _; unfold fitD; rw [if_neg s1, if_pos s4]
          have hb := hby 0
          generalize data.getD 0 0 = b0 at *
          rw [e1] at hx ⊢
          rw [hl] at hx ⊢
          clear hrd hby h2 e1 hl s1
          obtain ⟨addr, id, want, per, st, fails, tried, left, bad⟩ := d
          simp only at s4 ef
          subst s4
          have hc2 := hx.out.keepc hc
          generalize goodD ⟨addr, id, want, per, 4, fails, tried, left, bad⟩ 1 data = R at *
          generalize fitD ⟨addr, id, want, per, 4, fails, tried, left, bad⟩ data = R2 at *
          obtain ⟨hb1, hb2⟩ := hb
          go_enter Try.func40, Try.ntmps40
          go_wp2_with fail
          go_ret
          refine ⟨?_, hx.out⟩
          rw [eg.out, ef.out]
          first | rfl | simp
        · have ef : Hid (goodD d 1 data = true) := by show _ = _; rw [eg.out]; unfold fitD; rw [if_neg s1, if_neg s4]
          rw [ef.out]
          obtain ⟨addr, id, want, per, st, fails, tried, left, bad⟩ := d
          simp only at s1 s4
          rw [← h2] at hx ⊢
          have s1' : (st == 1) = false := by simp [s1]
          have s4' : (st == 4) = false := by simp [s4]
          clear hrd hby h2 ef eg
          generalize data.length = n at *
          go_enter Try.func40, Try.ntmps40
          go_wp2_with fail
          go_ret
          exact ⟨rfl, hx.out⟩
    · have eg : goodD d ast data = false := by unfold goodD; rw [decide_eq_false h2]; simp
      rw [eg]
      have hx : Hid (Ext w (((w.alloc (dro d)).alloc (txo ta tr tw tl tc (txRd d))).alloc (.cells #[.int .i64 ast, .slice da data.length c] 27))) := (((Ext.refl w).alloc _).alloc _).alloc _
      clear eg hrd hby
      generalize txRd d = rd at *
      generalize data.length = n at *
      obtain ⟨addr, id, want, per, st, fails, tried, left, bad⟩ := d
      have h2' : ((n : Int) == rd) = false := by simp [h2]
      subst h1
      go_enter Try.func40, Try.ntmps40
      go_wp2_with fail
      go_ret
      exact ⟨rfl, hx.out⟩
  · have eg : goodD d ast data = false := by unfold goodD; rw [decide_eq_false h1]; rfl
    rw [eg]
    have hx : Hid (Ext w (((w.alloc (dro d)).alloc (txo ta tr tw tl tc (txRd d))).alloc (.cells #[.int .i64 ast, .slice da data.length c] 27))) := (((Ext.refl w).alloc _).alloc _).alloc _
    clear eg hrd hby
    generalize txRd d = rd at *
    generalize data.length = n at *
    obtain ⟨addr, id, want, per, st, fails, tried, left, bad⟩ := d
    have h1' : (ast == 1) = false := by simp [h1]
    go_enter Try.func40, Try.ntmps40
    go_wp2_with fail
    go_ret
    exact ⟨rfl, hx.out⟩
set_option maxHeartbeats 1000000 in
theorem signed_any (u l : Int) (h0 : 0 ≤ u) (h1 : u ≤ 255) (h2 : 0 ≤ l) (h3 : l ≤ 255) (w : World) : Calls Try.prog 43 #[.int .u8 u, .int .u8 l] w fun e w' => e = .returned (.int .i64 (w16 u l)) ∧ w' = w := by
  obtain ⟨a, rfl⟩ := Int.eq_ofNat_of_zero_le h0
  obtain ⟨b, rfl⟩ := Int.eq_ofNat_of_zero_le h2
  have e := or8L a b (by omega) (by omega)
  have hw : Hid (w16 (a : Int) (b : Int) = if (a : Int) * 256 + b ≥ 32768 then (a : Int) * 256 + b - 65536 else (a : Int) * 256 + b) := rfl
  generalize w16 (a : Int) (b : Int) = R at *
  by_cases hc : (32768 : Int) ≤ (a : Int) * 256 + b
  · rw [if_pos hc] at hw
    go_enter Try.func43, Try.ntmps43
    go_wp2_with fail
    go_ret
    exact ⟨by rw [hw.out]; rfl, rfl⟩
  · rw [if_neg hc] at hw
    go_enter Try.func43, Try.ntmps43
    go_wp2_with fail
    go_ret
    exact ⟨by rw [hw.out]; rfl, rfl⟩
set_option maxRecDepth 20000 in
set_option maxHeartbeats 4000000 in
theorem rbad_any (d : Dr) (hd : okD d = true) (hin : inn d.st 1 7 = true) (w : World) : Calls Try.prog 41 #[drv d] w fun e w' => e = .returned (.tuple #[drv (missD d), .slice none 0 0, .bool ((missD d).st == 8)]) ∧ Ext w w' := by
  have hf := okD_f hd
  have h8 := inn_iff.1 hin
  obtain ⟨addr, id, want, per, st, fails, tried, left, bad⟩ := d
  simp only at hf h8
  obtain ⟨hf0, hf1⟩ := hf
  have e8 : (st == 8) = false := by simp; omega
  clear hd hin h8
  by_cases s7 : st = 7
  · subst s7
    have e : missD ⟨addr, id, want, per, 7, fails, tried, left, bad⟩ = ⟨addr, id, want, per, 8, 0, tried, 0, bad⟩ := rfl
    rw [e]
    clear e e8
    go_enter Try.func41, Try.ntmps41
    go_wp2_with fail
    refine bodyPost_ret (v := .tuple #[.agg #[.int .i64 addr, .int .i64 id, .bool want, .int .i64 per, .int .i64 8, .int .i64 0, .bool tried, .int .i64 0, .int .i64 bad], .slice none 0 0, .bool true]) (by simp [results, Try.results41, go_sem]) rfl ⟨rfl, ?_⟩
    repeat (first | with_reducible assumption | with_reducible exact Ext.refl _ | with_reducible refine Ext.drew ?_ | with_reducible refine Ext.drewN ?_ _ | with_reducible refine Ext.alloc ?_ _ | with_reducible refine Ext.set ?_ (by first | exact Nat.le_refl _ | (dsimp only; omega) | (simp; done)) _)
  · have s7' : (st == 7) = false := by simp [s7]
    by_cases f3 : fails + 1 < 3
    · have e : missD ⟨addr, id, want, per, st, fails, tried, left, bad⟩ = ⟨addr, id, want, per, st, fails + 1, tried, left, bad⟩ := by unfold missD; rw [if_neg s7, if_pos f3]
      rw [e]
      simp only [e8]
      clear e e8
      go_enter Try.func41, Try.ntmps41
      go_wp2_with fail
      refine bodyPost_ret (v := .tuple #[.agg #[.int .i64 addr, .int .i64 id, .bool want, .int .i64 per, .int .i64 st, .int .i64 (fails + 1), .bool tried, .int .i64 left, .int .i64 bad], .slice none 0 0, .bool false]) (by simp [results, Try.results41, go_sem]) rfl ⟨rfl, ?_⟩
      repeat (first | with_reducible assumption | with_reducible exact Ext.refl _ | with_reducible refine Ext.drew ?_ | with_reducible refine Ext.drewN ?_ _ | with_reducible refine Ext.alloc ?_ _ | with_reducible refine Ext.set ?_ (by first | exact Nat.le_refl _ | (dsimp only; omega) | (simp; done)) _)
    · cases tried
      · have e : missD ⟨addr, id, want, per, st, fails, false, left, bad⟩ = ⟨addr, id, want, per, 7, 0, false, 0, bad⟩ := by unfold missD; rw [if_neg s7, if_neg f3]; rfl
        rw [e]
        clear e e8
        go_enter Try.func41, Try.ntmps41
        go_wp2_with fail
        refine bodyPost_ret (v := .tuple #[.agg #[.int .i64 addr, .int .i64 id, .bool want, .int .i64 per, .int .i64 7, .int .i64 0, .bool false, .int .i64 0, .int .i64 bad], .slice none 0 0, .bool false]) (by simp [results, Try.results41, go_sem]) rfl ⟨rfl, ?_⟩
        repeat (first | with_reducible assumption | with_reducible exact Ext.refl _ | with_reducible refine Ext.drew ?_ | with_reducible refine Ext.drewN ?_ _ | with_reducible refine Ext.alloc ?_ _ | with_reducible refine Ext.set ?_ (by first | exact Nat.le_refl _ | (dsimp only; omega) | (simp; done)) _)
      · have e : missD ⟨addr, id, want, per, st, fails, true, left, bad⟩ = ⟨addr, id, want, per, 8, 0, true, 0, bad⟩ := by unfold missD; rw [if_neg s7, if_neg f3]; rfl
        rw [e]
        clear e e8
        go_enter Try.func41, Try.ntmps41
        go_wp2_with fail
        refine bodyPost_ret (v := .tuple #[.agg #[.int .i64 addr, .int .i64 id, .bool want, .int .i64 per, .int .i64 8, .int .i64 0, .bool true, .int .i64 0, .int .i64 bad], .slice none 0 0, .bool true]) (by simp [results, Try.results41, go_sem]) rfl ⟨rfl, ?_⟩
        repeat (first | with_reducible assumption | with_reducible exact Ext.refl _ | with_reducible refine Ext.drew ?_ | with_reducible refine Ext.drewN ?_ _ | with_reducible refine Ext.alloc ?_ _ | with_reducible refine Ext.set ?_ (by first | exact Nat.le_refl _ | (dsimp only; omega) | (simp; done)) _)
end Go.Proofs.Ytdfhhfpfnkjbnaa
