/- DrvExact: its walk. -/
import Derived.Test.YtdfhhfpfnkjbnaaFxc
namespace Go.Proofs.Ytdfhhfpfnkjbnaa
open Go.RowKit Go.Conc
set_option maxRecDepth 20000 in
set_option maxHeartbeats 40000000 in
theorem dexact_walk (w : World) (a : Option Addr) (L : List Ask) (cap : Nat) (_hl : L.length ≤ maxLen) (hA : AKs w a L) :
    Calls Try.prog 5 #[.slice a L.length cap] w fun e w' => e = .returned (.bool true) ∧ Ext w w' := by
  have HA : Hid (∀ wr, Ext w wr → AKs wr a L) := fun wr x => hA.ext x
  have HNU : Hid (∀ v w', Calls Try.prog 11 #[.int .i64 v] w' fun e w'' => e = .returned (.int .i64 v) ∧ w'' = w') := num9_any
  have HW : Hid (∀ w', Calls Try.prog 13 #[] w' fun e w'' => e = .returned (.bool true) ∧ Ext w' w'') := wakes9_any
  unfold maxLen at _hl
  clear hA
  go_enter Try.func5, Try.ntmps5
  go_wp2_with fail
  go_loopw [3] (fun i wr => ∃ k : Nat, k ≤ 30 ∧ i = .int .i64 k ∧ Hid (Ext w wr)) (fun i _ => 30 - (intOf i).toNat)
  case atStart => exact ⟨0, Nat.zero_le _, rfl, Ext.refl w⟩
  case round =>
    obtain ⟨k, hk30, rfl, hR⟩ := hrel
    by_cases hlt : k < L.length
    · have hlti : (k : Int) < (L.length : Int) := by omega
      by_cases h30 : k < 30
      · have h30i : (k : Int) < 30 := by omega
        obtain ⟨b1, o1, da, dc, rfl, hak, hrd, hmx, hby0, hcap, hp1, hp2⟩ := HA.out w (Ext.refl w) k hlt
        obtain ⟨⟨c0, c1, c2, c3, c4, c5, c6, c7, c8⟩, c9, c10, c11, c12⟩ := hak.ext hR.out
        have hby : ∀ j, 0 ≤ (gk L k).data.getD j 0 ∧ (gk L k).data.getD j 0 ≤ 255 := fun j => by
          by_cases hj : j < (gk L k).data.length
          · have : (gk L k).data.getD j 0 = (gk L k).data[j] := by simp [hj]
            rw [this]
            exact hby0 _ (List.getElem_mem hj)
          · have : (gk L k).data.getD j 0 = 0 := by simp [List.getElem?_eq_none (Nat.le_of_not_lt hj)]
            rw [this]
            omega
        clear hby0 hlt HA hmx hak
        generalize gk L k = q at *
        obtain ⟨d, wn, pr, ast, data⟩ := q
        dsimp only at c0 c1 c2 c3 c4 c5 c6 c7 c8 c9 c10 c11 c12 hrd hcap hp1 hp2 hby
        have FX : Hid (Ext w wr) := hR
        have HRD0 : Hid (RdY w 0 da data ∧ data.length ≤ dc ∧ ∀ j, 0 ≤ data.getD j 0 ∧ data.getD j 0 ≤ 255) := ⟨hrd, hcap, hby⟩
        clear hR hrd hcap hby
        have hs13 : (Try.prog.info? 29).map (·.size) = some 13 := by kernel_rfl
        have RW : wr.rangeAt b1 (o1 + k * 13) [.int .i64 d.addr, .int .i64 d.id, .bool d.want, .int .i64 d.per, .int .i64 d.st, .int .i64 d.fails, .bool d.tried, .int .i64 d.left, .int .i64 d.bad, .bool wn, .int .i64 pr, .int .i64 ast, .slice da data.length dc] := fun j v hv => by
          have hj : j < 13 := (List.getElem?_eq_some_iff.1 hv).1
          match j, hj with
          | 0, _ => cases hv; exact c0
          | 1, _ => cases hv; exact c1
          | 2, _ => cases hv; exact c2
          | 3, _ => cases hv; exact c3
          | 4, _ => cases hv; exact c4
          | 5, _ => cases hv; exact c5
          | 6, _ => cases hv; exact c6
          | 7, _ => cases hv; exact c7
          | 8, _ => cases hv; exact c8
          | 9, _ => cases hv; exact c9
          | 10, _ => cases hv; exact c10
          | 11, _ => cases hv; exact c11
          | 12, _ => cases hv; exact c12
        clear c0 c1 c2 c3 c4 c5 c6 c7 c8 c9 c10 c11 c12
        go_upto_region 5 with (first | ((with_reducible show wpList _ _ _ (_ :: _) _ _); refine wpList_load_mid rfl 29 (.tmp 41) rfl b1 (o1 + k * 13) rfl [.int .i64 d.addr, .int .i64 d.id, .bool d.want, .int .i64 d.per, .int .i64 d.st, .int .i64 d.fails, .bool d.tried, .int .i64 d.left, .int .i64 d.bad, .bool wn, .int .i64 pr, .int .i64 ast, .slice da data.length dc] _ RW Try.underlying29 rfl hs13 ?_) | ((with_reducible show wpList _ _ _ (_ :: _) _ _); refine wpList_store_new 29 [.int .i64 0, .int .i64 0, .bool false, .int .i64 0, .int .i64 0, .int .i64 0, .bool false, .int .i64 0, .int .i64 0, .bool false, .int .i64 0, .int .i64 0, .slice none 0 0] [.int .i64 d.addr, .int .i64 d.id, .bool d.want, .int .i64 d.per, .int .i64 d.st, .int .i64 d.fails, .bool d.tried, .int .i64 d.left, .int .i64 d.bad, .bool wn, .int .i64 pr, .int .i64 ast, .slice da data.length dc] rfl 29 (.tmp 4) (.tmp 42) rfl rfl rfl rfl hs13 (by simp [Value.oneCell']) ?_))
        clear RW hs13
        have hsz : wr.heap.size ≤ wr.heap.size := Nat.le_refl _
        have HRD : Hid (∀ W, Ext w W → RdY W 0 da data) := fun W x => HRD0.out.1.ext x
        have Lp : Hid (w.heap.size ≤ wr.heap.size) := FX.out.size
        have Fp : Hid (HV (wr.alloc (.cells #[.int .i64 d.addr, .int .i64 d.id, .bool d.want, .int .i64 d.per, .int .i64 d.st, .int .i64 d.fails, .bool d.tried, .int .i64 d.left, .int .i64 d.bad, .bool wn, .int .i64 pr, .int .i64 ast, .slice da data.length dc] 29)) wr.heap.size [.int .i64 d.addr, .int .i64 d.id, .bool d.want, .int .i64 d.per, .int .i64 d.st, .int .i64 d.fails, .bool d.tried, .int .i64 d.left, .int .i64 d.bad, .bool wn, .int .i64 pr, .int .i64 ast, .slice da data.length dc]) := hv_at rfl
        have FX : Hid (Ext w (wr.alloc (.cells #[.int .i64 d.addr, .int .i64 d.id, .bool d.want, .int .i64 d.per, .int .i64 d.st, .int .i64 d.fails, .bool d.tried, .int .i64 d.left, .int .i64 d.bad, .bool wn, .int .i64 pr, .int .i64 ast, .slice da data.length dc] 29))) := FX.out.alloc _
        generalize (wr.alloc (.cells #[.int .i64 d.addr, .int .i64 d.id, .bool d.want, .int .i64 d.per, .int .i64 d.st, .int .i64 d.fails, .bool d.tried, .int .i64 d.left, .int .i64 d.bad, .bool wn, .int .i64 pr, .int .i64 ast, .slice da data.length dc] 29)) = wx1 at *
        generalize wr.heap.size = np at *
        clear hsz
        by_cases h400 : data.length ≤ 400
        · have h400i : (data.length : Int) ≤ 400 := by omega
          have H400 : Hid (data.length ≤ 400) := h400
          have qp12 : wx1.cell? ⟨np, 12, none⟩ = some (.slice da data.length dc) := Fp.out.c 12 rfl
          go_upto_region 8 with fail
          clear qp12 h400 h400i
          obtain ⟨okd, hokd⟩ : ∃ b, okD d = b := ⟨_, rfl⟩
          have HOK : Hid (okD d = okd) := hokd
          have HM : Hid (∀ W, Calls Try.prog 10 #[.agg #[.int .i64 d.addr, .int .i64 d.id, .bool d.want, .int .i64 d.per, .int .i64 d.st, .int .i64 d.fails, .bool d.tried, .int .i64 d.left, .int .i64 d.bad]] W fun e w' => e = .returned (.bool okd) ∧ Ext W w') := fun W => by
            have h := mayd_any d W
            rw [hokd] at h
            exact h
          clear hokd
          have qp0 : wx1.cell? ⟨np, 0, none⟩ = some (.int .i64 d.addr) := Fp.out.c 0 rfl
          have qp1 : wx1.cell? ⟨np, 1, none⟩ = some (.int .i64 d.id) := Fp.out.c 1 rfl
          have qp2 : wx1.cell? ⟨np, 2, none⟩ = some (.bool d.want) := Fp.out.c 2 rfl
          have qp3 : wx1.cell? ⟨np, 3, none⟩ = some (.int .i64 d.per) := Fp.out.c 3 rfl
          have qp4 : wx1.cell? ⟨np, 4, none⟩ = some (.int .i64 d.st) := Fp.out.c 4 rfl
          have qp5 : wx1.cell? ⟨np, 5, none⟩ = some (.int .i64 d.fails) := Fp.out.c 5 rfl
          have qp6 : wx1.cell? ⟨np, 6, none⟩ = some (.bool d.tried) := Fp.out.c 6 rfl
          have qp7 : wx1.cell? ⟨np, 7, none⟩ = some (.int .i64 d.left) := Fp.out.c 7 rfl
          have qp8 : wx1.cell? ⟨np, 8, none⟩ = some (.int .i64 d.bad) := Fp.out.c 8 rfl
          go_upto_if 51 with (go_at_call 10; refine (HM.out _).mono ?_; rintro e wm ⟨rfl, xm⟩)
          have Fp : Hid (HV wm np [.int .i64 d.addr, .int .i64 d.id, .bool d.want, .int .i64 d.per, .int .i64 d.st, .int .i64 d.fails, .bool d.tried, .int .i64 d.left, .int .i64 d.bad, .bool wn, .int .i64 pr, .int .i64 ast, .slice da data.length dc]) := Fp.out.ext xm
          have FX : Hid (Ext w wm) := FX.out.trans xm
          clear qp0 qp1 qp2 qp3 qp4 qp5 qp6 qp7 qp8 xm HM
          go_cut [5] (fun v5 wx => ∃ bd, v5 = .int .i64 bd ∧ Hid (bd = if okd = true then 0 else 1) ∧ Hid (wm = wx))
          case first =>
            rename_i hA1 hA0
            have hA1 : Hid _ := hA1
            have hA0 : Hid _ := hA0
            go_tidy
            have hA1 := hA1.out
            have hA0 := hA0.out
            cases okd
            · go_wp2_with fail
              go_meet
              exact ⟨1, rfl, rfl, rfl⟩
            · go_wp2_with fail
              go_meet
              exact ⟨0, rfl, rfl, rfl⟩
          case rest =>
            obtain ⟨bd, rfl, HBD, hwc⟩ := hcut
            have hwc2 : wm = wc := hwc.out
            clear hwc
            subst hwc2
            clear hp1 hp2
            first | (rename_i hKR; refine hKR _ _ ?_) | (rename_i hKR _; refine hKR _ _ ?_) | (rename_i hKR _ _; refine hKR _ _ ?_) | (rename_i hKR _ _ _; refine hKR _ _ ?_) | (rename_i hKR _ _ _ _; refine hKR _ _ ?_) | (rename_i hKR _ _ _ _ _; refine hKR _ _ ?_) | (rename_i hKR _ _ _ _ _ _; refine hKR _ _ ?_) | (rename_i hKR _ _ _ _ _ _ _; refine hKR _ _ ?_)
            refine dexactc w wm d okd wn bd pr ast data da dc np _ _ rfl rfl _ _ _ _ _ _ _ _ _ _ _ _ _ _ _ _ _ _ _ _ _ _ _ _ _ _ _ _ _ _ _ _ _ _ _ _ _ _ _ _ _ _ _ _ _ _ _ _ _ _ _ _ _ _ _ _ _ _ _ _ _ _ _ _ _ _ _ _ _ _ _ _ _ _ _ _ _ _ _ _ _ _ _ _ _ _ _ _ _ _ _ _ _ _ _ _ _ _ _ _ _ _ _ _ _ _ _ _ _ _ _ _ _ _ _ _ _ _ _ _ _ _ _ _ _ _ _ _ _ _ _ _ _ _ _ _ _ _ _ _ _ _ _ _ _ _ _ _ _ _ _ _ _ _ _ _ _ _ _ _ _ _ _ _ _ _ _ _ _ _ _ _ _ _ _ _ _ _ _ _ _ _ _ _ _ _ _ _ _ _ _ _ _ _ _ _ _ _ _ _ _ _ _ _ _ _ _ _ _ _ _ _ _ _ _ _ _ _ _ _ _ _ _ _ _ _ _ _ _ _ _ _ ?_ HNU HOK HBD HRD0 HRD H400 Fp FX
            intro y4 y5 y6 y7 y8 y9 y10 y11 y12 y13 y14 y15 y16 y17 y18 y19 y20 y21 y22 y23 y24 y25 y26 y27 y28 y29 y30 y31 y32 y33 y34 y35 y36 y37 y38 y39 y40 y41 y42 y43 y44 y45 y46 y47 y48 y49 y50 y51 y52 y53 y54 y55 y56 y57 y58 y59 y60 y61 y62 y63 y64 y65 y66 y67 y68 y69 y70 y71 y72 y73 y74 y75 y76 y77 y78 y79 y80 y81 y82 y83 y84 y85 y86 y87 y88 y89 y90 y91 y92 y93 y94 y95 y96 y97 y98 y99 y100 y101 y102 y103 y104 y105 y106 y107 y108 y109 y110 y111 y112 y113 y114 y115 y116 y117 y118 y119 y120 y121 y122 y123 y124 y125 y126 y127 y128 y129 y130 y131 y132 y133 y134 y135 y136 y137 y138 y139 y140 y141 y142 y143 y144 y145 y146 y147 y148 y149 y150 y151 y152 y153 y154 y155 y156 y157 y158 y159 y160 y161 y162 y163 y164 y165 y166 y167 y168 y169 y170 y171 y172 y173 y174 y175 y176 y177 y178 y179 y180 y181 y182 y183 y184 y185 y186 y187 y188 y189 y190 y191 y192 y193 y194 y195 y196 y197 y198 y199 y200 y201 y202 y203 y204 y205 y206 y207 y208 y209 y210 y211 y212 y213 y214 y215 y216 y217 y218 y219 y220 y221 y222 y223 y224 y225 y226 y227 y228 y229 y230 y231 wq hq
            simp only [Exit.inBlock, Exit.then]
            clear hKR
            go_wp2_with fail
            go_roundw
            case measure => exact lt_meas9 h30
            case rel =>
              first | exact ⟨k + 1, by omega, by simp, hq⟩ | ((repeat apply Exists.intro); exact ⟨⟨k + 1, by omega, by simp, hq⟩, rfl⟩)
        · have h400i : ¬ (data.length : Int) ≤ 400 := by omega
          have qp12 : wx1.cell? ⟨np, 12, none⟩ = some (.slice da data.length dc) := Fp.out.c 12 rfl
          go_wp2_with fail
          go_ret
          exact ⟨rfl, FX.out⟩
      · have h30i : ¬ (k : Int) < 30 := by omega
        go_wp2_with (go_at_call 13; refine (HW.out _).mono ?_; rintro e w9 ⟨rfl, x9⟩)
        go_ret
        exact ⟨rfl, hR.out.trans x9⟩
    · have hlti : ¬ (k : Int) < (L.length : Int) := by omega
      go_wp2_with (go_at_call 13; refine (HW.out _).mono ?_; rintro e w9 ⟨rfl, x9⟩)
      go_ret
      exact ⟨rfl, hR.out.trans x9⟩
end Go.Proofs.Ytdfhhfpfnkjbnaa
