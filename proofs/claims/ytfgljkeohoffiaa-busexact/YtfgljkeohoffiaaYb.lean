/- The reference's bus: what Do does from region 12 on. -/
import Derived.Test.YtfgljkeohoffiaaYa
import Derived.Test.YtfgljkeohoffiaaZf
namespace Go.Proofs.Ytfgljkeohoffiaa
open Go.RowKit Go.Conc
/-- what a reading tells, and what it leaves -/
def rdT (s : Dv) (reg n : Nat) : List Int := if 0 < n ∧ reg = 4 then (brst s.q ((n + 7) / 8)).take n else s.reads reg n
def rdS (s : Dv) (reg n : Nat) : Dv := if 0 < n ∧ reg = 4 then { s with q := s.q.drop ((n + 7) / 8) } else s
theorem reads_len (s : Dv) (reg n : Nat) : (s.reads reg n).length = n := by unfold Dv.reads; simp
theorem reads_more (s : Dv) (reg n : Nat) : bv (s.reads reg (n + 1)) = bv (s.reads reg n) ++ [.int .u8 (s.read (reg + n))] := by
  unfold Dv.reads bv
  rw [List.range_succ, List.map_append, List.map_append]
  rfl
theorem one_byte (w : World) (u : Value) (T : TypeId) : ∀ j x, [u][j]? = some x → (w.alloc (.cells #[u] T)).cell? ((⟨w.heap.size, 0, none⟩ : Addr).add j) = some x := by
  intro j x hx
  match j with
  | 0 =>
    simp only [List.getElem?_cons_zero, Option.some.injEq] at hx
    subst hx
    simp [Addr.add, go_sem]
  | j + 1 => simp at hx
theorem lt_meas {n j : Nat} (h : j < n) : n - (intOf (.int .i64 ((j + 1 : Nat) : Int))).toNat < n - (intOf (.int .i64 (j : Int))).toNat := by
  simp [intOf]
  omega
set_option maxRecDepth 20000 in
set_option maxHeartbeats 8000000 in
theorem rdo_reads (w : World) (na nf nx g o : Nat) (a qa ta : Option Addr) (lc qc len c : Nat) (s : Dv) (f : Flt) (addr : Int) (reg n : Nat) (bd cd : Code) (hbd : Try.f18.body = some bd) (hcd : cd = rgt [(), (), (), (), (), (), (), ()] bd) (y0 y1 y2 y6 y9 y10 y11 y12 y13 y14 y15 y16 y17 y18 y19 y20 y21 y22 y23 y24 y25 y26 y27 y28 y29 y30 y31 y32 y33 y34 y35 y36 y37 y38 y39 y40 y41 y42 y43 y44 y45 y46 y47 y48 y49 y50 y51 y52 y53 y54 y55 y56 y57 y58 y59 y60 y61 y62 y63 y64 y65 y66 y67 y68 y69 y70 y71 y72 y73 y74 y75 y76 y77 y78 y79 y80 y81 y82 y83 y84 y85 y86 y87 y88 y89 y90 y91 y92 y93 y94 y95 y96 y97 y98 y99 y100 y101 y102 y103 y104 y105 y106 y107 y108 y109 y110 y111 y112 y113 y114 : Value) (Po : Ending → World → Prop)
    (Ft : TX w nx addr reg ta len c n) (h : RD w g o a lc qa qc s)
    (HF : Hid (∀ w1, Tn (fun k => k = g ∨ QB qa k) w w1 → F4 w1 nf 0 f ∧ AV w1 na))
    (hB : na < w.heap.size ∧ nf < w.heap.size) (hix : 0 ≤ f.idx) (hr : reg ≤ 20) (hn : n ≤ 128)
    (HP : Hid (∀ (v' : Value) (w1 w' : World), Rdk g o a lc qa (rdS s reg n) w w1 → Tn (fun k => k = na ∨ w.heap.size ≤ k) w1 w' → w'.ownsRow w.heap.size Eb 1 v' (if f.kind = 2 then [] else corr f (rdT s reg n)).length (bv (if f.kind = 2 then [] else corr f (rdT s reg n))) → Po (.returned (.agg #[.int .i64 (if f.kind = 2 then 3 else 1), v'])) w')) :
    Code.wp Try.prog cd (bodyPost Try.prog Try.f18 Po) { tmps := #[y0, y1, y2, .pointer (some ⟨nx, 0, none⟩), .pointer (some ⟨na, 0, none⟩), .pointer (some ⟨nf, 0, none⟩), y6, .pointer (some ⟨g, o, none⟩), .slice none 0 0, y9, y10, y11, y12, y13, y14, y15, y16, y17, y18, y19, y20, y21, y22, y23, y24, y25, y26, y27, y28, y29, y30, y31, y32, y33, y34, y35, y36, y37, y38, y39, y40, y41, y42, y43, y44, y45, y46, y47, y48, y49, y50, y51, y52, y53, y54, y55, y56, y57, y58, y59, y60, y61, y62, y63, y64, y65, y66, y67, y68, y69, y70, y71, y72, y73, y74, y75, y76, y77, y78, y79, y80, y81, y82, y83, y84, y85, y86, y87, y88, y89, y90, y91, y92, y93, y94, y95, y96, y97, y98, y99, y100, y101, y102, y103, y104, y105, y106, y107, y108, y109, y110, y111, y112, y113, y114], defers := [] } w := by
  obtain ⟨i0, hi, hz0, hz1, hz2⟩ := info_parts Try.infoTb
  subst hcd
  simp only [Try.f18] at hbd
  injection hbd with hbd
  subst hbd
  simp only [rgt]
  show (let Q : Exit → Act → World → Prop := bodyPost Try.prog Try.f18 Po; Code.wp Try.prog _ Q _ _)
  intro Q
  obtain ⟨t0, t1, t2, t3⟩ := Ft
  by_cases h4 : 0 < n ∧ reg = 4
  · have eT : rdT s reg n = (brst s.q ((n + 7) / 8)).take n := by unfold rdT; rw [if_pos h4]
    have eS : rdS s reg n = { s with q := s.q.drop ((n + 7) / 8) } := by unfold rdS; rw [if_pos h4]
    rw [eT, eS] at HP
    clear eT eS
    obtain ⟨h0, rfl⟩ := h4
    have h0i : (0 : Int) < (n : Int) := by omega
    have t1' : w.cell? ⟨nx, 1, none⟩ = some (.int .i64 4) := t1
    have HTK : Hid (Calls Try.prog 40 #[.pointer (some ⟨g, o, none⟩), .int .i64 n] w fun e w' => ∃ g' cap, e = .returned (.slice (some ⟨g', 0, none⟩) n cap) ∧ Hid (w'.ownsRow w.heap.size Eb 1 (.slice (some ⟨g', 0, none⟩) n cap) n (bv ((brst s.q ((n + 7) / 8)).take n))) ∧ Hid (Rdk g o a lc qa { s with q := s.q.drop ((n + 7) / 8) } w w')) := rtaken_any h n h0 hn
    have hlen : ((brst s.q ((n + 7) / 8)).take n).length = n := by rw [List.length_take, brst_len]; omega
    clear h hr hn t0 t2 t1
    go_upto_if 63 with fail
    rename_i K hK
    have HK0 : Hid (∀ (a : Act) (w : World), Code.wp Try.prog _ _ a w → K a w) := hK
    clear hK
    go_wp2_with (go_at_call 40; refine HTK.out.mono ?_; rintro e w1 ⟨g', cap, rfl, row, rd⟩; (try dsimp only))
    have RD1 := rd.out
    obtain ⟨qa', qc', _, fr, _⟩ := rd.out
    have ROW : w1.ownsRow w.heap.size Eb 1 (.slice (some ⟨g', 0, none⟩) n cap) ((brst s.q ((n + 7) / 8)).take n).length (bv ((brst s.q ((n + 7) / 8)).take n)) := by rw [hlen]; exact row.out
    refine HK0.out _ _ ?_
    exact rdo_tail w1 na nf w.heap.size f ((brst s.q ((n + 7) / 8)).take n) (.slice (some ⟨g', 0, none⟩) n cap) _ _ rfl rfl _ _ _ _ _ _ _ _ _ _ _ _ _ _ _ _ _ _ _ _ _ _ _ _ _ _ _ _ _ _ _ _ _ _ _ _ _ _ _ _ _ _ _ _ _ _ _ _ _ _ _ _ _ _ _ _ _ _ _ _ _ _ _ _ _ _ _ _ _ _ _ _ _ _ _ _ _ _ _ _ _ _ _ _ _ _ _ _ _ _ _ _ _ _ _ _ _ _ _ _ _ _ _ _ _ _ _ _ _ _ _ _ Po (HF.out _ fr.t).1 (HF.out _ fr.t).2 hB ROW hix (fun v' w' o t => HP.out v' w1 w' RD1 t o)
  · have eT : rdT s reg n = s.reads reg n := by unfold rdT; rw [if_neg h4]
    have eS : rdS s reg n = s := by unfold rdS; rw [if_neg h4]
    rw [eT, eS] at HP
    clear eT eS
    have HH : Hid (RD w g o a lc qa qc s) := h
    clear h
    go_upto_region 12 with fail
    go_cut [63] from 56 to 82 (fun v63 wx => v63 = .bool false ∧ Hid (w = wx))
    case first =>
      by_cases h0 : 0 < n
      · have h0i : (0 : Int) < (n : Int) := by omega
        have hr4 : ((reg : Int) == 4) = false := by simp; omega
        go_wp2_with fail
        go_meet
        exact ⟨rfl, rfl⟩
      · have h0i : ¬ (0 : Int) < (n : Int) := by omega
        go_wp2_with fail
        go_meet
        exact ⟨rfl, rfl⟩
    case rest =>
      obtain ⟨rfl, hwc⟩ := hcut
      have hwc2 : w = wc := hwc.out
      clear hwc
      subst hwc2
      go_upto_if 63 with fail
      rename_i K hK
      have HK0 : Hid (∀ (a : Act) (w : World), Code.wp Try.prog _ _ a w → K a w) := hK
      clear hK
      go_wp2_with fail
      go_loopw [8, 10] (fun v8 v10 wr => ∃ j : Nat, j ≤ n ∧ v10 = .int .i64 j ∧ Hid (Ext w wr ∧ wr.ownsRow w.heap.size Eb 1 v8 j (bv (s.reads reg j)))) (fun _ i _ => n - (intOf i).toNat)
      case atStart => exact ⟨0, Nat.zero_le _, rfl, Ext.refl _, World.ownsRow_nil _ _ _ _⟩
      case round =>
        obtain ⟨j, hj, rfl, HL⟩ := hrel
        by_cases hlt : j < n
        · have hlti : (j : Int) < (n : Int) := by omega
          have k1 := HL.out.1.keepc t1
          have k3 := HL.out.1.keepc t3
          have HRD : Hid (Calls Try.prog 41 #[.pointer (some ⟨g, o, none⟩), .int .i64 ((reg : Int) + (j : Int))] wr fun e w' => e = .returned (.int .u8 (s.read (reg + j))) ∧ w' = wr) := by
            rw [show ((reg : Int) + (j : Int)) = ((reg + j : Nat) : Int) by omega]
            exact rread_any (HH.out.ext HL.out.1) (reg + j) (by omega)
          have hM : Hid (bv (s.reads reg (j + 1)) = bv (s.reads reg j) ++ [.int .u8 (s.read (reg + j))]) := reads_more s reg j
          obtain ⟨X, hX⟩ : ∃ X : Int, s.read (reg + j) = X := ⟨_, rfl⟩
          rw [hX] at HRD hM
          clear hX
          obtain ⟨va, vc, rfl⟩ := row_form HL.out.2
          have hown := HL.out.2
          have hB2 : w.heap.size ≤ wr.heap.size := HL.out.1.size
          have h63 : j + 1 ≤ maxLen := by unfold maxLen; omega
          have hby : (j + 1) * 1 ≤ 140737488355328 := by omega
          go_wp2_with (first | (go_at_call 41; refine HRD.out.mono ?_; rintro e wx ⟨rfl, hwx⟩; have hwy := hwx.symm; clear hwx; subst hwy; (try dsimp only)) | (at_builtin; refine wpList_append_lies _ rfl (.tmp 74) (.tmp 81) 42 rfl w.heap.size Eb i0 (.int .u8 0) 1 1 Try.underlying42 hi hz0 hz1 hz2 rfl (by decide) _ j _ rfl (hown.alloc _) ⟨wr.heap.size, 0, none⟩ 1 1 [.int .u8 X] rfl rfl (one_byte wr _ _) (by simp [Value.oneCell']) (by decide) h63 hby (by simp; exact Nat.le_succ_of_le hB2) (wr.heap.size + 1) (by simp) ?_; intro g2 cap2 w2 hown2 hg2 hgb2 hgl2; have R1 : Hid (w2.ownsRow w.heap.size Eb 1 (.slice (some ⟨g2, 0, none⟩) (j + 1) cap2) (j + 1) (bv (s.reads reg (j + 1)))) := (by show w2.ownsRow _ _ _ _ _ _; rw [hM.out]; exact hown2); have R2 : Hid (Ext w w2) := row_grown hg2 (hown.alloc _) (HL.out.1.alloc _) (Nat.le_refl _); clear hown2 hg2 hgb2 hgl2 hown))
          go_roundw
          case rel => exact ⟨j + 1, by omega, by go_num, R2.out, R1.out⟩
          case measure => exact lt_meas hlt
        · have hk : j = n := by omega
          subst hk
          have k3 := HL.out.1.keepc t3
          obtain ⟨va, vc, rfl⟩ := row_form HL.out.2
          have RD1 : Rdk g o a lc qa s w wr := Rdk.of (HH.out.ext HL.out.1) (Fr.of_ext HL.out.1 (World.block_lt_of_cell? w ⟨g, o, none⟩ HH.out.c0))
          have ROW : wr.ownsRow w.heap.size Eb 1 (.slice va j vc) (s.reads reg j).length (bv (s.reads reg j)) := by rw [reads_len]; exact HL.out.2
          go_wp2_with fail
          refine HK0.out _ _ ?_
          exact rdo_tail wr na nf w.heap.size f (s.reads reg j) (.slice va j vc) _ _ rfl rfl _ _ _ _ _ _ _ _ _ _ _ _ _ _ _ _ _ _ _ _ _ _ _ _ _ _ _ _ _ _ _ _ _ _ _ _ _ _ _ _ _ _ _ _ _ _ _ _ _ _ _ _ _ _ _ _ _ _ _ _ _ _ _ _ _ _ _ _ _ _ _ _ _ _ _ _ _ _ _ _ _ _ _ _ _ _ _ _ _ _ _ _ _ _ _ _ _ _ _ _ _ _ _ _ _ _ _ _ _ _ _ _ Po (HF.out _ (Tn.of_ext HL.out.1)).1 (HF.out _ (Tn.of_ext HL.out.1)).2 hB ROW hix (fun v' w' o t => HP.out v' wr w' RD1 t o)
end Go.Proofs.Ytfgljkeohoffiaa
