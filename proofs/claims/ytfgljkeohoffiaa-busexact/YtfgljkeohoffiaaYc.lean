/- The reference's bus: what Do does from region 8 on. -/
import Derived.Test.YtfgljkeohoffiaaYb
import Derived.Test.YtfgljkeohoffiaaZi
import Derived.Deep.RegionHeld3
namespace Go.Proofs.Ytfgljkeohoffiaa
open Go.RowKit Go.Conc
theorem rd_step {g o lc : Nat} {a qa qa1 : Option Addr} {s2 : Dv} {w w1 w2 : World} (t : Fr g o (QB qa) w w1) (q : ∀ k, QB qa1 k → QB qa k) (r : Rdk g o a lc qa1 s2 w1 w2) : Rdk g o a lc qa s2 w w2 := by
  obtain ⟨qa2, qc2, h, t2, q2⟩ := r
  exact ⟨qa2, qc2, h, t.trans t2 (fun i _ e => q i e), fun k e => q k (q2 k e)⟩
set_option maxRecDepth 20000 in
set_option maxHeartbeats 8000000 in
theorem rdo_writes (w : World) (na nf nx g o : Nat) (a qa ta : Option Addr) (lc qc c : Nat) (l : List Nat) (s : Dv) (f : Flt) (addr : Int) (reg n : Nat) (bd cd : Code) (hbd : Try.f18.body = some bd) (hcd : cd = rgt [(), (), (), (), (), (), ()] bd) (y0 y1 y2 y6 y9 y10 y11 y12 y13 y14 y15 y16 y17 y18 y19 y20 y21 y22 y23 y24 y25 y26 y27 y28 y29 y30 y31 y32 y33 y34 y35 y36 y37 y38 y39 y40 y41 y42 y43 y44 y45 y46 y47 y48 y49 y50 y51 y52 y53 y54 y55 y56 y57 y58 y59 y60 y61 y62 y63 y64 y65 y66 y67 y68 y69 y70 y71 y72 y73 y74 y75 y76 y77 y78 y79 y80 y81 y82 y83 y84 y85 y86 y87 y88 y89 y90 y91 y92 y93 y94 y95 y96 y97 y98 y99 y100 y101 y102 y103 y104 y105 y106 y107 y108 y109 y110 y111 y112 y113 y114 : Value) (Po : Ending → World → Prop)
    (h : RD w g o a lc qa qc s)
    (HF : Hid (∀ w1, Tn (fun k => k = g ∨ QB qa k) w w1 → F4 w1 nf 0 f ∧ AV w1 na ∧ TX w1 nx addr reg ta l.length c n ∧ BR w1 ta l))
    (hB : na < w.heap.size ∧ nf < w.heap.size) (hix : 0 ≤ f.idx) (hr : reg + l.length ≤ 20) (hn : n ≤ 128)
    (HP : Hid (∀ (v' : Value) (w1 w' : World), Rdk g o a lc qa (rdS (s.writes reg l l.length) reg n) w w1 → Tn (fun k => k = na ∨ w.heap.size ≤ k) w1 w' → w'.ownsRow w.heap.size Eb 1 v' (if f.kind = 2 then [] else corr f (rdT (s.writes reg l l.length) reg n)).length (bv (if f.kind = 2 then [] else corr f (rdT (s.writes reg l l.length) reg n))) → Po (.returned (.agg #[.int .i64 (if f.kind = 2 then 3 else 1), v'])) w')) :
    Code.wp Try.prog cd (bodyPost Try.prog Try.f18 Po) { tmps := #[y0, y1, y2, .pointer (some ⟨nx, 0, none⟩), .pointer (some ⟨na, 0, none⟩), .pointer (some ⟨nf, 0, none⟩), y6, .pointer (some ⟨g, o, none⟩), .slice none 0 0, y9, y10, y11, y12, y13, y14, y15, y16, y17, y18, y19, y20, y21, y22, y23, y24, y25, y26, y27, y28, y29, y30, y31, y32, y33, y34, y35, y36, y37, y38, y39, y40, y41, y42, y43, y44, y45, y46, y47, y48, y49, y50, y51, y52, y53, y54, y55, y56, y57, y58, y59, y60, y61, y62, y63, y64, y65, y66, y67, y68, y69, y70, y71, y72, y73, y74, y75, y76, y77, y78, y79, y80, y81, y82, y83, y84, y85, y86, y87, y88, y89, y90, y91, y92, y93, y94, y95, y96, y97, y98, y99, y100, y101, y102, y103, y104, y105, y106, y107, y108, y109, y110, y111, y112, y113, y114], defers := [] } w := by
  subst hcd
  simp only [Try.f18] at hbd
  injection hbd with hbd
  subst hbd
  simp only [rgt]
  show (let Q : Exit → Act → World → Prop := bodyPost Try.prog Try.f18 Po; Code.wp Try.prog _ Q _ _)
  intro Q
  have R0 : Hid (Rdk g o a lc qa (s.writes reg l 0) w w) := Rdk.of h (Fr.refl _ _ _ _)
  clear h
  go_upto_region 8 with fail
  go_wp2_with fail
  rename_i K hK
  have HK0 : Hid (∀ (a : Act) (w : World), Code.wp Try.prog _ _ a w → K a w) := hK
  clear hK
  go_loopw [9] (fun v9 wr => ∃ j : Nat, j ≤ l.length ∧ v9 = .int .i64 j ∧ Hid (Rdk g o a lc qa (s.writes reg l j) w wr)) (fun i _ => l.length - (intOf i).toNat)
  case atStart => exact ⟨0, Nat.zero_le _, rfl, R0⟩
  case round =>
    clear R0
    obtain ⟨j, hj, rfl, HL⟩ := hrel
    obtain ⟨qa1, qc1, D, t, qq⟩ := HL.out
    obtain ⟨_, _, ⟨t0, t1, t2, t3⟩, br⟩ := HF.out wr t.t
    by_cases hlt : j < l.length
    · have hlti : (j : Int) < (l.length : Int) := by omega
      obtain ⟨hb, tb, toff, rfl, cb⟩ := br j hlt
      have HW : Hid (∀ W, Ext wr W → Calls Try.prog 39 #[.pointer (some ⟨g, o, none⟩), .int .i64 (IntKind.i64.wrap ((reg : Int) + (j : Int))), .int .u8 (gb l j)] W fun e w' => (∃ v, e = .returned v) ∧ Hid (Rdk g o a lc qa (s.writes reg l (j + 1)) w w') ∧ w'.cell? ⟨nx, 1, none⟩ = some (.int .i64 reg) ∧ w'.cell? ⟨nx, 2, none⟩ = some (.slice (some ⟨tb, toff, none⟩) l.length c) ∧ w'.cell? ⟨tb, toff + j, none⟩ = some (.int .u8 (gb l j))) := fun W x => by
        rw [show IntKind.i64.wrap ((reg : Int) + (j : Int)) = ((reg + j : Nat) : Int) by rw [IntKind.wrap_i64]; omega]
        refine (rwrite_any (D.ext x) (reg + j) (gb l j) (by omega) hb).mono ?_
        rintro e w' ⟨he, hd⟩
        have r9 := rd_step t qq (rd_step (Fr.of_ext x (World.block_lt_of_cell? wr ⟨g, o, none⟩ D.c0)) (fun k e => e) hd)
        obtain ⟨_, _, _, t9, _⟩ := id r9
        obtain ⟨_, _, ⟨_, s1, s2, _⟩, br9⟩ := HF.out w' t9.t
        obtain ⟨_, tb9, toff9, e9, cb9⟩ := br9 j hlt
        cases e9
        exact ⟨he, r9, s1, s2, cb9⟩
      clear D t qq HL br
      go_upto_region 11 with fail
      go_region_held3 (fun w' => w'.cell? ⟨nx, 1, none⟩ = some (.int .i64 reg) ∧ w'.cell? ⟨nx, 2, none⟩ = some (.slice (some ⟨tb, toff, none⟩) l.length c) ∧ w'.cell? ⟨tb, toff + j, none⟩ = some (.int .u8 (gb l j))) (first | (go_keep; done) | exact ⟨s1, s2, s3⟩ | skip) (first | (go_at_call 39; refine (HW.out _ (Ext.refl wr).drew).mono ?_; rintro e w2 ⟨⟨v2, rfl⟩, R2, s1, s2, s3⟩; (try dsimp only)))
      all_goals
        go_wp2_with fail
        go_roundw
        case rel => exact ⟨j + 1, by omega, by go_num, R2⟩
        case measure => exact lt_meas hlt
    · have hk : j = l.length := by omega
      subst hk
      go_wp2_with fail
      refine HK0.out _ _ ?_
      exact rdo_reads wr na nf nx g o a qa1 ta lc qc1 l.length c (s.writes reg l l.length) f addr reg n _ _ rfl rfl _ _ _ _ _ _ _ _ _ _ _ _ _ _ _ _ _ _ _ _ _ _ _ _ _ _ _ _ _ _ _ _ _ _ _ _ _ _ _ _ _ _ _ _ _ _ _ _ _ _ _ _ _ _ _ _ _ _ _ _ _ _ _ _ _ _ _ _ _ _ _ _ _ _ _ _ _ _ _ _ _ _ _ _ _ _ _ _ _ _ _ _ _ _ _ _ _ _ _ _ _ _ _ _ _ _ _ _ _ _ Po ⟨t0, t1, t2, t3⟩ D (show Hid _ from fun w1 t1 => by
        have tt : Tn (fun k => k = g ∨ QB qa k) w w1 := t.t.trans t1 (fun i _ e => e.imp id (fun x => qq i x))
        have q := HF.out w1 tt
        exact ⟨q.1, q.2.1⟩) (by have := t.t.size; omega) hix (by omega) hn (show Hid _ from fun v' w1 w' r1 t1 o1 => HP.out v' w1 w' (rd_step t qq r1) (t1.mono (fun i _ e => e.imp id (fun x => Nat.le_trans t.t.size x))) (row_mono o1 t.t.size))
end Go.Proofs.Ytfgljkeohoffiaa
