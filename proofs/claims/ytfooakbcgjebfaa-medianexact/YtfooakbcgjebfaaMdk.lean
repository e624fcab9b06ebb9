/- median: middle, Take. -/
import Derived.Test.YtfooakbcgjebfaaMdj
namespace Go.Proofs.Ytfooakbcgjebfaa
open Go.RowKit Go.Conc Go.Shelf Go.Lib
open Go.Sort hiding Below
def encV (v : Vc) : List Value := [.int .i64 v.x, .int .i64 v.y, .int .i64 v.z]
theorem encV_one (x : Vc) : ∀ v ∈ encV x, v.oneCell' = true := fun v hv => by simp [encV] at hv; rcases hv with rfl | rfl | rfl <;> rfl
theorem vcs_one (l : List Vc) : ∀ u ∈ vcs l, u.oneCell' = true := fun u hu => by
  unfold vcs at hu
  rw [List.mem_flatMap] at hu
  obtain ⟨v, _, hv⟩ := hu
  exact encV_one v u hv
theorem vcs_at {l : List Vc} {i c : Nat} {x : Vc} (hi : l[i]? = some x) (hc : c < 3) : (vcs l)[i * 3 + c]? = (encV x)[c]? := by
  induction l generalizing i with
  | nil => simp at hi
  | cons a l ih =>
    have h : vcs (a :: l) = encV a ++ vcs l := rfl
    cases i with
    | zero =>
      simp at hi
      subst hi
      rw [h, Nat.zero_mul, Nat.zero_add, List.getElem?_append_left (by simp [encV]; omega)]
    | succ i =>
      rw [h, List.getElem?_append_right (by simp [encV]; omega)]
      have := ih (i := i) (by simpa using hi)
      rw [← this]
      congr 1
      simp [encV]
      omega
/-- a row that holds vectors, for the library's sort -/
theorem holds_row [Inhabited Vc] {w : World} {B n : Nat} {v : Value} {ls : List Vc} (h : w.ownsRow B Erw 3 v n (vcs ls)) (hn : n = ls.length) (h0 : 0 < n) :
    ∃ g cap, v = .slice (some ⟨g, 0, none⟩) ls.length cap ∧ HoldsK encV 3 w g 0 ls.toArray ∧ B ≤ g ∧ g < w.heap.size := by
  rcases h.2 with ⟨_, e⟩ | ⟨g, cap, cur, hv, hb, hg, h1, _, h3, h4⟩
  · omega
  · subst hn
    refine ⟨g, cap, hv, ?_, hb, (Array.getElem?_eq_some_iff.1 hg).1⟩
    intro j hj
    have hj' : j < ls.length * 3 := by simpa using hj
    have hq : j / 3 < ls.length := by omega
    have e1 : cur[j]? = (vcs ls)[j]? := by
      rw [← h4, List.getElem?_take, if_pos hj']
      simp
    have hx : ls[j / 3]? = some ls[j / 3] := List.getElem?_eq_getElem hq
    have e2 := vcs_at hx (Nat.mod_lt j (by decide : 0 < 3))
    rw [show j / 3 * 3 + j % 3 = j by omega] at e2
    have h3c : j % 3 < 3 := Nat.mod_lt j (by decide)
    rw [get_flatK encV 3 ls.toArray j (by simpa using hj')]
    refine ⟨?_, by simp [World.frozen?, hg]⟩
    simp only [World.cell?, hg, Nat.zero_add, e1, e2]
    rw [getElem!_pos ls.toArray (j / 3) (by simpa using hq)]
    simp only [id]
    have hl : (encV ls[j / 3]).length = 3 := rfl
    rw [List.getElem?_eq_getElem (by omega)]
    simp only [List.getElem_toArray]
    rw [getElem!_pos _ (j % 3) (by rw [hl]; exact h3c)]
    rfl
theorem ext_grow {w : World} (os : Array Obj) : Ext w (grow w os) := ⟨rfl, rfl, rfl, by simp [grow], fun k hk => by simp [grow, Array.getElem?_append_left hk]⟩
theorem ext_sortWorld [Inhabited Vc] {a w : World} {g m : Nat} {d : Array Vc} {os : Array Obj} (h : Ext a w) (hg : a.heap.size ≤ g) : Ext a (sortWorldK encV 3 w g 0 m d os) := by
  unfold sortWorldK
  refine Ext.trans ?_ (ext_grow os)
  refine ⟨h.os, h.tape, h.output, by rw [size_putRowK]; exact h.size, fun k hk => ?_⟩
  rw [← h.block k hk]
  unfold putRowK putRow mapBlock
  simp only [Sort.ahead, Array.getElem?_modify]
  rw [if_neg (by omega)]
set_option maxRecDepth 20000 in
set_option maxHeartbeats 4000000 in
theorem middle1_any (ls : List Vc) (g cap : Nat) (h0 : 0 < ls.length) (h7 : ls.length ≤ 256) (w : World) (hc : ∀ j u, (vcs ls)[j]? = some u → w.cell? ⟨g, j, none⟩ = some u) :
    Calls Try.prog 20 #[.slice (some ⟨g, 0, none⟩) ls.length cap, .func (.func 21) #[] #[]] w fun e w' => e = .returned (.int .i64 (med (ls.map fun v => v.x))) ∧ Ext w w' := by
  haveI : Inhabited Vc := ⟨nought⟩
  obtain ⟨r, hr0⟩ : ∃ r, med (ls.map fun v => v.x) = r := ⟨_, rfl⟩
  have HR0 : Hid (med (ls.map fun v => v.x) = r) := hr0
  rw [hr0]
  clear hr0
  obtain ⟨ii, hii, hi1, hi2, hi3⟩ := infoq
  have HX : Hid (Ext w (w.alloc (.cells #[.func (.func 21) #[] #[]] 49))) := (Ext.refl w).alloc _
  have hB : (w.alloc (.cells #[.func (.func 21) #[] #[]] 49)).cell? ⟨w.heap.size, 0, none⟩ = some (.func (.func 21) #[] #[]) := by simp [go_sem]
  have hBl : w.heap.size < (w.alloc (.cells #[.func (.func 21) #[] #[]] 49)).heap.size := by simp
  have HC : Calls Try.prog 32 #[.slice (some ⟨g, 0, none⟩) ls.length cap] (w.alloc (.cells #[.func (.func 21) #[] #[]] 49)) fun e w' => ∃ v', e = .returned v' ∧ w'.ownsRow (w.alloc (.cells #[.func (.func 21) #[] #[]] 49)).heap.size Erw 3 v' ls.length (vcs ls) ∧ v' ≠ .slice none 0 0 ∧ Below (w.alloc (.cells #[.func (.func 21) #[] #[]] 49)).heap.size (w.alloc (.cells #[.func (.func 21) #[] #[]] 49)) w' :=
    AnyE.slices_Clone cloneV ii _ 3 24 hii hi3 hi2 hi1 rfl (by decide) Try.sizeOf25 g 0 ls.length cap (vcs ls) _ (vcs_len ls) (by unfold maxLen; omega) (by omega) (fun j u hu => by rw [Nat.zero_add]; exact HX.out.keepc (hc j u hu)) (vcs_one ls)
  clear hc
  have hz : w.heap.size + 1 = (w.alloc (.cells #[.func (.func 21) #[] #[]] 49)).heap.size := by simp
  have HCM : Hid (∀ w2 g', Ext (w.alloc (.cells #[.func (.func 21) #[] #[]] 49)) w2 → g' ≠ w.heap.size → CmpLays Try.prog 34 #[.pointer (some ⟨w.heap.size, 0, none⟩)] encV 3 (fun x y : Vc => cmpI x.x y.x) g' 0 ls.toArray.size w2) := fun w2 g' x hne m os dk _ a b =>
    clo1_any a b w.heap.size _ (by rw [cell?_sortWorldK_other encV 3 w2 g' 0 m dk os ⟨w.heap.size, 0, none⟩ (fun e => hne e.symm) (Nat.lt_of_lt_of_le hBl x.size)]; exact x.keepc hB)
  have HBB : Hid ((w.alloc (.cells #[.func (.func 21) #[] #[]] 49)).cell? ⟨w.heap.size, 0, none⟩ = some (.func (.func 21) #[] #[])) := hB
  have HZ : Hid (w.heap.size + 1 = (w.alloc (.cells #[.func (.func 21) #[] #[]] 49)).heap.size) := hz
  have mixed : Try.prog.follows .mixedOrders = true := by kernel_rfl
  clear hB hz hBl
  go_enter Try.func20, Try.ntmps20
  go_upto_region 1 with fail
  generalize (w.alloc (.cells #[.func (.func 21) #[] #[]] 49)) = w1 at *
  go_upto_region 2 with (go_at_call 32; refine HC.mono ?_; rintro e w2 ⟨v, rfl, hown, _, hx⟩)
  have X2 : Ext w1 w2 := hx
  obtain ⟨g', cap', rfl, hH, hg1, hg2⟩ := holds_row hown rfl h0
  have hne : g' ≠ w.heap.size := by have := HZ.out; omega
  have HS0 := AnyQ.slices_SortFunc sortV 3 Try.isAgg25 Try.sizeOf25 encV (fun _ => rfl) encV_one (fun x y : Vc => cmpI x.x y.x) (swo_cmp fun v => v.x) 34 #[.pointer (some ⟨w.heap.size, 0, none⟩)] g' 0 cap' ls.toArray w2 (enters_of Try.func34 (by kernel_rfl) rfl) (HCM.out w2 g' X2 hne) hH hg2 (by simp; omega)
  have HS : Calls Try.prog 33 #[.slice (some ⟨g', 0, none⟩) ls.length cap', .func (.func 34) #[] #[.pointer (some ⟨w.heap.size, 0, none⟩)]] w2 fun e w' => e = .returned (.tuple #[]) ∧ ∃ d', (d'.size = ls.length ∧ d'[(ls.length - 1) / 2]!.x = r) ∧ HoldsK encV 3 w' g' 0 d' ∧ Ext w1 w' := by
    refine HS0.mono ?_
    rintro e w' ⟨rfl, d', n, os, hp, hs, rfl⟩
    have hsz : d'.size = ls.toArray.size := hp.1
    exact ⟨rfl, d', ⟨by simpa using hsz, (med_sorted (fun v => v.x) ls d' hp hs h0).trans HR0.out⟩, holdsK_sortWorldK encV 3 w2 g' 0 n ls.toArray d' os hg2 hH hsz, ext_sortWorld X2 hg1⟩
  have HG2 : Hid (w1.heap.size ≤ g') := hg1
  clear HS0 HCM HC hown hH hg1 hg2 hx X2
  go_upto_region 3 with (go_at_call 33; refine HS.mono ?_; rintro e w3 ⟨rfl, d', ⟨hd, hr⟩, hH, X3⟩)
  obtain ⟨k1, hk1⟩ : ∃ k1, ls.length - 1 = k1 := ⟨_, rfl⟩
  rw [hk1] at hr
  have e0 : wrap64 ((ls.length : Int) - 1) = (k1 : Int) := by unfold wrap64; omega
  have e1 : IntKind.i64.wrap ((ls.length : Int) - 1) = (k1 : Int) := by rw [IntKind.wrap_i64]; omega
  obtain ⟨m, hm⟩ : ∃ m, k1 / 2 = m := ⟨_, rfl⟩
  have e2 : (k1 : Int).tdiv 2 = (m : Int) := by rw [← hm]; rfl
  have hml : m < ls.length := by omega
  have hmi : (m : Int) < (ls.length : Int) := by omega
  have e3 : IntKind.i64.wrap (m : Int) = (m : Int) := by rw [IntKind.wrap_i64]; omega
  rw [hm] at hr
  have q0 := (hH.cell (i := m) (c := 0) (by omega) (by omega)).1
  have q1 := (hH.cell (i := m) (c := 1) (by omega) (by omega)).1
  have q2 := (hH.cell (i := m) (c := 2) (by omega) (by omega)).1
  generalize d'[m]! = y at *
  rw [Nat.zero_add] at q0 q1 q2
  have p0 : ∀ n os, (grow (w3.drewN n) os).cell? ⟨g', m * 3, none⟩ = some (.int .i64 y.x) := cell_grown (World.block_lt_of_cell? w3 _ q0) q0
  have p1 : ∀ n os, (grow (w3.drewN n) os).cell? ⟨g', m * 3 + 1, none⟩ = some (.int .i64 y.y) := cell_grown (World.block_lt_of_cell? w3 _ q1) q1
  have p2 : ∀ n os, (grow (w3.drewN n) os).cell? ⟨g', m * 3 + 2, none⟩ = some (.int .i64 y.z) := cell_grown (World.block_lt_of_cell? w3 _ q2) q2
  have b0 := X3.keepc HBB.out
  have b1 := cell_grown (World.block_lt_of_cell? w3 _ b0) b0
  have HT : Hid (∀ w, Calls Try.prog 21 #[rv y] w fun e w' => e = .returned (.int .i64 r) ∧ ∃ q os', w' = grow (w.drewN q) os') := fun w => by
    have := take1_any y w
    rw [hr] at this
    exact this
  have HXX : Hid (∀ n os, Ext w (grow (w3.drewN n) os)) := fun n os => ((HX.out.trans X3).drewN n).trans (ext_grow os)
  clear q0 q1 q2 b0 hH hr hd X3 HS HX HBB HZ HG2 hk1 hm hne h0
  go_quiet_grown (first | (go_at_call 21; exact Calls.grown_of (HT.out _)))
  go_wp2_with fail
  go_ret
  exact ⟨rfl, HXX.out _ _⟩
set_option maxRecDepth 20000 in
set_option maxHeartbeats 4000000 in
theorem middle2_any (ls : List Vc) (g cap : Nat) (h0 : 0 < ls.length) (h7 : ls.length ≤ 256) (w : World) (hc : ∀ j u, (vcs ls)[j]? = some u → w.cell? ⟨g, j, none⟩ = some u) :
    Calls Try.prog 20 #[.slice (some ⟨g, 0, none⟩) ls.length cap, .func (.func 22) #[] #[]] w fun e w' => e = .returned (.int .i64 (med (ls.map fun v => v.y))) ∧ Ext w w' := by
  haveI : Inhabited Vc := ⟨nought⟩
  obtain ⟨r, hr0⟩ : ∃ r, med (ls.map fun v => v.y) = r := ⟨_, rfl⟩
  have HR0 : Hid (med (ls.map fun v => v.y) = r) := hr0
  rw [hr0]
  clear hr0
  obtain ⟨ii, hii, hi1, hi2, hi3⟩ := infoq
  have HX : Hid (Ext w (w.alloc (.cells #[.func (.func 22) #[] #[]] 49))) := (Ext.refl w).alloc _
  have hB : (w.alloc (.cells #[.func (.func 22) #[] #[]] 49)).cell? ⟨w.heap.size, 0, none⟩ = some (.func (.func 22) #[] #[]) := by simp [go_sem]
  have hBl : w.heap.size < (w.alloc (.cells #[.func (.func 22) #[] #[]] 49)).heap.size := by simp
  have HC : Calls Try.prog 32 #[.slice (some ⟨g, 0, none⟩) ls.length cap] (w.alloc (.cells #[.func (.func 22) #[] #[]] 49)) fun e w' => ∃ v', e = .returned v' ∧ w'.ownsRow (w.alloc (.cells #[.func (.func 22) #[] #[]] 49)).heap.size Erw 3 v' ls.length (vcs ls) ∧ v' ≠ .slice none 0 0 ∧ Below (w.alloc (.cells #[.func (.func 22) #[] #[]] 49)).heap.size (w.alloc (.cells #[.func (.func 22) #[] #[]] 49)) w' :=
    AnyE.slices_Clone cloneV ii _ 3 24 hii hi3 hi2 hi1 rfl (by decide) Try.sizeOf25 g 0 ls.length cap (vcs ls) _ (vcs_len ls) (by unfold maxLen; omega) (by omega) (fun j u hu => by rw [Nat.zero_add]; exact HX.out.keepc (hc j u hu)) (vcs_one ls)
  clear hc
  have hz : w.heap.size + 1 = (w.alloc (.cells #[.func (.func 22) #[] #[]] 49)).heap.size := by simp
  have HCM : Hid (∀ w2 g', Ext (w.alloc (.cells #[.func (.func 22) #[] #[]] 49)) w2 → g' ≠ w.heap.size → CmpLays Try.prog 34 #[.pointer (some ⟨w.heap.size, 0, none⟩)] encV 3 (fun x y : Vc => cmpI x.y y.y) g' 0 ls.toArray.size w2) := fun w2 g' x hne m os dk _ a b =>
    clo2_any a b w.heap.size _ (by rw [cell?_sortWorldK_other encV 3 w2 g' 0 m dk os ⟨w.heap.size, 0, none⟩ (fun e => hne e.symm) (Nat.lt_of_lt_of_le hBl x.size)]; exact x.keepc hB)
  have HBB : Hid ((w.alloc (.cells #[.func (.func 22) #[] #[]] 49)).cell? ⟨w.heap.size, 0, none⟩ = some (.func (.func 22) #[] #[])) := hB
  have HZ : Hid (w.heap.size + 1 = (w.alloc (.cells #[.func (.func 22) #[] #[]] 49)).heap.size) := hz
  have mixed : Try.prog.follows .mixedOrders = true := by kernel_rfl
  clear hB hz hBl
  go_enter Try.func20, Try.ntmps20
  go_upto_region 1 with fail
  generalize (w.alloc (.cells #[.func (.func 22) #[] #[]] 49)) = w1 at *
  go_upto_region 2 with (go_at_call 32; refine HC.mono ?_; rintro e w2 ⟨v, rfl, hown, _, hx⟩)
  have X2 : Ext w1 w2 := hx
  obtain ⟨g', cap', rfl, hH, hg1, hg2⟩ := holds_row hown rfl h0
  have hne : g' ≠ w.heap.size := by have := HZ.out; omega
  have HS0 := AnyQ.slices_SortFunc sortV 3 Try.isAgg25 Try.sizeOf25 encV (fun _ => rfl) encV_one (fun x y : Vc => cmpI x.y y.y) (swo_cmp fun v => v.y) 34 #[.pointer (some ⟨w.heap.size, 0, none⟩)] g' 0 cap' ls.toArray w2 (enters_of Try.func34 (by kernel_rfl) rfl) (HCM.out w2 g' X2 hne) hH hg2 (by simp; omega)
  have HS : Calls Try.prog 33 #[.slice (some ⟨g', 0, none⟩) ls.length cap', .func (.func 34) #[] #[.pointer (some ⟨w.heap.size, 0, none⟩)]] w2 fun e w' => e = .returned (.tuple #[]) ∧ ∃ d', (d'.size = ls.length ∧ d'[(ls.length - 1) / 2]!.y = r) ∧ HoldsK encV 3 w' g' 0 d' ∧ Ext w1 w' := by
    refine HS0.mono ?_
    rintro e w' ⟨rfl, d', n, os, hp, hs, rfl⟩
    have hsz : d'.size = ls.toArray.size := hp.1
    exact ⟨rfl, d', ⟨by simpa using hsz, (med_sorted (fun v => v.y) ls d' hp hs h0).trans HR0.out⟩, holdsK_sortWorldK encV 3 w2 g' 0 n ls.toArray d' os hg2 hH hsz, ext_sortWorld X2 hg1⟩
  have HG2 : Hid (w1.heap.size ≤ g') := hg1
  clear HS0 HCM HC hown hH hg1 hg2 hx X2
  go_upto_region 3 with (go_at_call 33; refine HS.mono ?_; rintro e w3 ⟨rfl, d', ⟨hd, hr⟩, hH, X3⟩)
  obtain ⟨k1, hk1⟩ : ∃ k1, ls.length - 1 = k1 := ⟨_, rfl⟩
  rw [hk1] at hr
  have e0 : wrap64 ((ls.length : Int) - 1) = (k1 : Int) := by unfold wrap64; omega
  have e1 : IntKind.i64.wrap ((ls.length : Int) - 1) = (k1 : Int) := by rw [IntKind.wrap_i64]; omega
  obtain ⟨m, hm⟩ : ∃ m, k1 / 2 = m := ⟨_, rfl⟩
  have e2 : (k1 : Int).tdiv 2 = (m : Int) := by rw [← hm]; rfl
  have hml : m < ls.length := by omega
  have hmi : (m : Int) < (ls.length : Int) := by omega
  have e3 : IntKind.i64.wrap (m : Int) = (m : Int) := by rw [IntKind.wrap_i64]; omega
  rw [hm] at hr
  have q0 := (hH.cell (i := m) (c := 0) (by omega) (by omega)).1
  have q1 := (hH.cell (i := m) (c := 1) (by omega) (by omega)).1
  have q2 := (hH.cell (i := m) (c := 2) (by omega) (by omega)).1
  generalize d'[m]! = y at *
  rw [Nat.zero_add] at q0 q1 q2
  have p0 : ∀ n os, (grow (w3.drewN n) os).cell? ⟨g', m * 3, none⟩ = some (.int .i64 y.x) := cell_grown (World.block_lt_of_cell? w3 _ q0) q0
  have p1 : ∀ n os, (grow (w3.drewN n) os).cell? ⟨g', m * 3 + 1, none⟩ = some (.int .i64 y.y) := cell_grown (World.block_lt_of_cell? w3 _ q1) q1
  have p2 : ∀ n os, (grow (w3.drewN n) os).cell? ⟨g', m * 3 + 2, none⟩ = some (.int .i64 y.z) := cell_grown (World.block_lt_of_cell? w3 _ q2) q2
  have b0 := X3.keepc HBB.out
  have b1 := cell_grown (World.block_lt_of_cell? w3 _ b0) b0
  have HT : Hid (∀ w, Calls Try.prog 22 #[rv y] w fun e w' => e = .returned (.int .i64 r) ∧ ∃ q os', w' = grow (w.drewN q) os') := fun w => by
    have := take2_any y w
    rw [hr] at this
    exact this
  have HXX : Hid (∀ n os, Ext w (grow (w3.drewN n) os)) := fun n os => ((HX.out.trans X3).drewN n).trans (ext_grow os)
  clear q0 q1 q2 b0 hH hr hd X3 HS HX HBB HZ HG2 hk1 hm hne h0
  go_quiet_grown (first | (go_at_call 22; exact Calls.grown_of (HT.out _)))
  go_wp2_with fail
  go_ret
  exact ⟨rfl, HXX.out _ _⟩
set_option maxRecDepth 20000 in
set_option maxHeartbeats 4000000 in
theorem middle3_any (ls : List Vc) (g cap : Nat) (h0 : 0 < ls.length) (h7 : ls.length ≤ 256) (w : World) (hc : ∀ j u, (vcs ls)[j]? = some u → w.cell? ⟨g, j, none⟩ = some u) :
    Calls Try.prog 20 #[.slice (some ⟨g, 0, none⟩) ls.length cap, .func (.func 23) #[] #[]] w fun e w' => e = .returned (.int .i64 (med (ls.map fun v => v.z))) ∧ Ext w w' := by
  haveI : Inhabited Vc := ⟨nought⟩
  obtain ⟨r, hr0⟩ : ∃ r, med (ls.map fun v => v.z) = r := ⟨_, rfl⟩
  have HR0 : Hid (med (ls.map fun v => v.z) = r) := hr0
  rw [hr0]
  clear hr0
  obtain ⟨ii, hii, hi1, hi2, hi3⟩ := infoq
  have HX : Hid (Ext w (w.alloc (.cells #[.func (.func 23) #[] #[]] 49))) := (Ext.refl w).alloc _
  have hB : (w.alloc (.cells #[.func (.func 23) #[] #[]] 49)).cell? ⟨w.heap.size, 0, none⟩ = some (.func (.func 23) #[] #[]) := by simp [go_sem]
  have hBl : w.heap.size < (w.alloc (.cells #[.func (.func 23) #[] #[]] 49)).heap.size := by simp
  have HC : Calls Try.prog 32 #[.slice (some ⟨g, 0, none⟩) ls.length cap] (w.alloc (.cells #[.func (.func 23) #[] #[]] 49)) fun e w' => ∃ v', e = .returned v' ∧ w'.ownsRow (w.alloc (.cells #[.func (.func 23) #[] #[]] 49)).heap.size Erw 3 v' ls.length (vcs ls) ∧ v' ≠ .slice none 0 0 ∧ Below (w.alloc (.cells #[.func (.func 23) #[] #[]] 49)).heap.size (w.alloc (.cells #[.func (.func 23) #[] #[]] 49)) w' :=
    AnyE.slices_Clone cloneV ii _ 3 24 hii hi3 hi2 hi1 rfl (by decide) Try.sizeOf25 g 0 ls.length cap (vcs ls) _ (vcs_len ls) (by unfold maxLen; omega) (by omega) (fun j u hu => by rw [Nat.zero_add]; exact HX.out.keepc (hc j u hu)) (vcs_one ls)
  clear hc
  have hz : w.heap.size + 1 = (w.alloc (.cells #[.func (.func 23) #[] #[]] 49)).heap.size := by simp
  have HCM : Hid (∀ w2 g', Ext (w.alloc (.cells #[.func (.func 23) #[] #[]] 49)) w2 → g' ≠ w.heap.size → CmpLays Try.prog 34 #[.pointer (some ⟨w.heap.size, 0, none⟩)] encV 3 (fun x y : Vc => cmpI x.z y.z) g' 0 ls.toArray.size w2) := fun w2 g' x hne m os dk _ a b =>
    clo3_any a b w.heap.size _ (by rw [cell?_sortWorldK_other encV 3 w2 g' 0 m dk os ⟨w.heap.size, 0, none⟩ (fun e => hne e.symm) (Nat.lt_of_lt_of_le hBl x.size)]; exact x.keepc hB)
  have HBB : Hid ((w.alloc (.cells #[.func (.func 23) #[] #[]] 49)).cell? ⟨w.heap.size, 0, none⟩ = some (.func (.func 23) #[] #[])) := hB
  have HZ : Hid (w.heap.size + 1 = (w.alloc (.cells #[.func (.func 23) #[] #[]] 49)).heap.size) := hz
  have mixed : Try.prog.follows .mixedOrders = true := by kernel_rfl
  clear hB hz hBl
  go_enter Try.func20, Try.ntmps20
  go_upto_region 1 with fail
  generalize (w.alloc (.cells #[.func (.func 23) #[] #[]] 49)) = w1 at *
  go_upto_region 2 with (go_at_call 32; refine HC.mono ?_; rintro e w2 ⟨v, rfl, hown, _, hx⟩)
  have X2 : Ext w1 w2 := hx
  obtain ⟨g', cap', rfl, hH, hg1, hg2⟩ := holds_row hown rfl h0
  have hne : g' ≠ w.heap.size := by have := HZ.out; omega
  have HS0 := AnyQ.slices_SortFunc sortV 3 Try.isAgg25 Try.sizeOf25 encV (fun _ => rfl) encV_one (fun x y : Vc => cmpI x.z y.z) (swo_cmp fun v => v.z) 34 #[.pointer (some ⟨w.heap.size, 0, none⟩)] g' 0 cap' ls.toArray w2 (enters_of Try.func34 (by kernel_rfl) rfl) (HCM.out w2 g' X2 hne) hH hg2 (by simp; omega)
  have HS : Calls Try.prog 33 #[.slice (some ⟨g', 0, none⟩) ls.length cap', .func (.func 34) #[] #[.pointer (some ⟨w.heap.size, 0, none⟩)]] w2 fun e w' => e = .returned (.tuple #[]) ∧ ∃ d', (d'.size = ls.length ∧ d'[(ls.length - 1) / 2]!.z = r) ∧ HoldsK encV 3 w' g' 0 d' ∧ Ext w1 w' := by
    refine HS0.mono ?_
    rintro e w' ⟨rfl, d', n, os, hp, hs, rfl⟩
    have hsz : d'.size = ls.toArray.size := hp.1
    exact ⟨rfl, d', ⟨by simpa using hsz, (med_sorted (fun v => v.z) ls d' hp hs h0).trans HR0.out⟩, holdsK_sortWorldK encV 3 w2 g' 0 n ls.toArray d' os hg2 hH hsz, ext_sortWorld X2 hg1⟩
  have HG2 : Hid (w1.heap.size ≤ g') := hg1
  clear HS0 HCM HC hown hH hg1 hg2 hx X2
  go_upto_region 3 with (go_at_call 33; refine HS.mono ?_; rintro e w3 ⟨rfl, d', ⟨hd, hr⟩, hH, X3⟩)
  obtain ⟨k1, hk1⟩ : ∃ k1, ls.length - 1 = k1 := ⟨_, rfl⟩
  rw [hk1] at hr
  have e0 : wrap64 ((ls.length : Int) - 1) = (k1 : Int) := by unfold wrap64; omega
  have e1 : IntKind.i64.wrap ((ls.length : Int) - 1) = (k1 : Int) := by rw [IntKind.wrap_i64]; omega
  obtain ⟨m, hm⟩ : ∃ m, k1 / 2 = m := ⟨_, rfl⟩
  have e2 : (k1 : Int).tdiv 2 = (m : Int) := by rw [← hm]; rfl
  have hml : m < ls.length := by omega
  have hmi : (m : Int) < (ls.length : Int) := by omega
  have e3 : IntKind.i64.wrap (m : Int) = (m : Int) := by rw [IntKind.wrap_i64]; omega
  rw [hm] at hr
  have q0 := (hH.cell (i := m) (c := 0) (by omega) (by omega)).1
  have q1 := (hH.cell (i := m) (c := 1) (by omega) (by omega)).1
  have q2 := (hH.cell (i := m) (c := 2) (by omega) (by omega)).1
  generalize d'[m]! = y at *
  rw [Nat.zero_add] at q0 q1 q2
  have p0 : ∀ n os, (grow (w3.drewN n) os).cell? ⟨g', m * 3, none⟩ = some (.int .i64 y.x) := cell_grown (World.block_lt_of_cell? w3 _ q0) q0
  have p1 : ∀ n os, (grow (w3.drewN n) os).cell? ⟨g', m * 3 + 1, none⟩ = some (.int .i64 y.y) := cell_grown (World.block_lt_of_cell? w3 _ q1) q1
  have p2 : ∀ n os, (grow (w3.drewN n) os).cell? ⟨g', m * 3 + 2, none⟩ = some (.int .i64 y.z) := cell_grown (World.block_lt_of_cell? w3 _ q2) q2
  have b0 := X3.keepc HBB.out
  have b1 := cell_grown (World.block_lt_of_cell? w3 _ b0) b0
  have HT : Hid (∀ w, Calls Try.prog 23 #[rv y] w fun e w' => e = .returned (.int .i64 r) ∧ ∃ q os', w' = grow (w.drewN q) os') := fun w => by
    have := take3_any y w
    rw [hr] at this
    exact this
  have HXX : Hid (∀ n os, Ext w (grow (w3.drewN n) os)) := fun n os => ((HX.out.trans X3).drewN n).trans (ext_grow os)
  clear q0 q1 q2 b0 hH hr hd X3 HS HX HBB HZ HG2 hk1 hm hne h0
  go_quiet_grown (first | (go_at_call 23; exact Calls.grown_of (HT.out _)))
  go_wp2_with fail
  go_ret
  exact ⟨rfl, HXX.out _ _⟩
end Go.Proofs.Ytfooakbcgjebfaa
