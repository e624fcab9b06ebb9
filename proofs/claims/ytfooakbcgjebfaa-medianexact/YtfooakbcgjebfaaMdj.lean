/- median: cmp.Compare, the closures; what stands in the middle. -/
import Derived.Shelf.SlSortCmp.QuietGrown
import Derived.Test.YtfooakbcgjebfaaMdl
namespace Go.Proofs.Ytfooakbcgjebfaa
open Go.RowKit Go.Conc Go.Shelf Go.Lib
open Go.Sort hiding Below
def leI (a b : Int) : Bool := decide (a ≤ b)
/-- the one in the middle of the rising order -/
def med (l : List Int) : Int := (l.mergeSort leI)[(l.length - 1) / 2]?.getD 0
theorem leI_trans (a b c : Int) (h1 : leI a b = true) (h2 : leI b c = true) : leI a c = true := by simp only [leI, decide_eq_true_eq] at *; omega
theorem leI_total (a b : Int) : (leI a b || leI b a) = true := by simp only [leI, Bool.or_eq_true, decide_eq_true_eq]; omega
theorem sort_eq {l s : List Int} (hp : s.Perm l) (hs : s.Pairwise (fun a b => a ≤ b)) : s = l.mergeSort leI := by
  refine List.Perm.eq_of_pairwise (le := fun a b => leI a b = true) (fun a b _ _ h1 h2 => ?_) (hs.imp (fun h => by simp only [leI, decide_eq_true_eq]; exact h)) (List.pairwise_mergeSort leI_trans leI_total l) (hp.trans (List.mergeSort_perm l leI).symm)
  simp only [leI, decide_eq_true_eq] at h1 h2
  omega
theorem med_perm {l s : List Int} (hp : s.Perm l) : med s = med l := by
  have h : s.mergeSort leI = l.mergeSort leI := sort_eq ((List.mergeSort_perm s leI).trans hp) ((List.pairwise_mergeSort leI_trans leI_total s).imp (fun h => by simpa [leI] using h))
  unfold med
  rw [h, hp.length_eq]
/-- what cmp.Compare tells -/
def cmpI (x y : Int) : Int := if x < y then -1 else if y < x then 1 else 0
theorem lt_cmp (f : Vc → Int) (x y : Vc) : ltOf (fun x y => cmpI (f x) (f y)) x y = decide (f x < f y) := by
  unfold ltOf cmpI
  by_cases h1 : f x < f y
  · simp [h1]
  · by_cases h2 : f y < f x <;> simp [h1, h2]
theorem swo_cmp (f : Vc → Int) : SWO (ltOf fun x y => cmpI (f x) (f y)) := {
  irrefl := fun x => by rw [lt_cmp]; simp
  trans := fun x y z h1 h2 => by rw [lt_cmp] at *; simp at *; omega
  ntrans := fun x y z h1 h2 => by rw [lt_cmp] at *; simp at *; omega }
theorem med_sorted [Inhabited Vc] (f : Vc → Int) (ls : List Vc) (d' : Array Vc) (hp : PermIn 0 ls.toArray.size ls.toArray d') (hs : SortedIn (ltOf fun x y => cmpI (f x) (f y)) 0 ls.toArray.size d') (h0 : 0 < ls.length) :
    f (d'[(ls.length - 1) / 2]!) = med (ls.map f) := by
  obtain ⟨h1, _, h3⟩ := hp
  have hsz : d'.size = ls.length := by simpa using h1
  have e1 : (d'.extract 0 ls.toArray.size).toList = d'.toList := by simp [← hsz]
  have e2 : (ls.toArray.extract 0 ls.toArray.size).toList = ls := by simp
  rw [e1, e2] at h3
  have hm := sort_eq (h3.map f) (by
    rw [List.pairwise_map]
    refine List.pairwise_iff_getElem.2 (fun i j hi hj hij => ?_)
    have hi' : i < d'.size := by simpa using hi
    have hj' : j < d'.size := by simpa using hj
    have := hs i j (Nat.zero_le _) hij (by simpa [hsz] using hj')
    rw [lt_cmp] at this
    rw [getElem!_pos d' i hi', getElem!_pos d' j hj'] at this
    simp at this
    simpa using this)
  unfold med
  rw [← hm, List.length_map]
  have hk : (ls.length - 1) / 2 < d'.size := by omega
  rw [getElem!_pos d' _ hk]
  simp [hk]
set_option maxHeartbeats 400000 in
theorem isNaN_any (x : Int) (w : World) : Calls Try.prog 43 #[.int .i64 x] w fun e w' => e = .returned (.bool false) ∧ w' = w := by
  go_enter Try.func43, Try.ntmps43
  go_wp2
  go_ret
  exact ⟨rfl, rfl⟩
set_option maxHeartbeats 1000000 in
theorem compare_any (x y : Int) (w : World) : Calls Try.prog 35 #[.int .i64 x, .int .i64 y] w fun e w' => e = .returned (.int .i64 (cmpI x y)) ∧ w' = w := by
  have HN : Hid (∀ x w, Calls Try.prog 43 #[.int .i64 x] w fun e w' => e = .returned (.bool false) ∧ w' = w) := isNaN_any
  by_cases h1 : x < y
  · have e1 : cmpI x y = -1 := if_pos h1
    rw [e1]
    go_enter Try.func35, Try.ntmps35
    go_wp2_with (go_at_call 43; refine (HN.out _ _).mono ?_; rintro e wx ⟨rfl, hwx⟩; have hwy := hwx.symm; clear hwx; subst hwy)
    go_ret
    exact ⟨rfl, rfl⟩
  · by_cases h2 : y < x
    · have e1 : cmpI x y = 1 := by unfold cmpI; rw [if_neg h1, if_pos h2]
      rw [e1]
      go_enter Try.func35, Try.ntmps35
      go_wp2_with (go_at_call 43; refine (HN.out _ _).mono ?_; rintro e wx ⟨rfl, hwx⟩; have hwy := hwx.symm; clear hwx; subst hwy)
      go_ret
      exact ⟨rfl, rfl⟩
    · have e1 : cmpI x y = 0 := by unfold cmpI; rw [if_neg h1, if_neg h2]
      rw [e1]
      go_enter Try.func35, Try.ntmps35
      go_wp2_with (go_at_call 43; refine (HN.out _ _).mono ?_; rintro e wx ⟨rfl, hwx⟩; have hwy := hwx.symm; clear hwx; subst hwy)
      go_ret
      exact ⟨rfl, rfl⟩
theorem grow2 (W : World) (o1 o2 : Obj) (n : Nat) (os : Array Obj) : ∃ q os', grow (((W.alloc o1).alloc o2).drewN n) os = grow (W.drewN q) os' :=
  ⟨n, #[o1] ++ #[o2] ++ os, by rw [alloc_eq_grow, alloc_eq_grow, grow_grow]; show grow (grow (W.drewN n) (#[o1] ++ #[o2])) os = _; rw [grow_grow]⟩
set_option maxHeartbeats 400000 in
theorem take1_any (v : Vc) (w : World) : Calls Try.prog 21 #[rv v] w fun e w' => e = .returned (.int .i64 v.x) ∧ ∃ q os', w' = grow (w.drewN q) os' := by
  go_enter Try.func21, Try.ntmps21
  go_wp2
  go_ret
  exact ⟨rfl, 0, #[.cells #[.int .i64 v.x, .int .i64 v.y, .int .i64 v.z] 25], by rw [alloc_eq_grow]; rfl⟩
set_option maxRecDepth 20000 in
set_option maxHeartbeats 4000000 in
theorem clo1_any (x y : Vc) (B : Nat) (w : World) (hB : w.cell? ⟨B, 0, none⟩ = some (.func (.func 21) #[] #[])) :
    Calls Try.prog 34 #[rv x, rv y, .pointer (some ⟨B, 0, none⟩)] w fun e w' => e = .returned (.int .i64 (cmpI x.x y.x)) ∧ ∃ q os', w' = grow (w.drewN q) os' := by
  have HT : Hid (∀ v w, Calls Try.prog 21 #[rv v] w fun e w' => e = .returned (.int .i64 v.x) ∧ ∃ q os', w' = grow (w.drewN q) os') := take1_any
  have HC : Hid (∀ w, Calls Try.prog 35 #[.int .i64 x.x, .int .i64 y.x] w fun e w' => e = .returned (.int .i64 (cmpI x.x y.x)) ∧ ∃ q os', w' = grow (w.drewN q) os') := fun w => (compare_any x.x y.x w).mono fun e w' ⟨h1, h2⟩ => ⟨h1, 0, #[], by rw [h2, grow_empty]; rfl⟩
  have hb0 : ((w.alloc (cells3 x)).alloc (cells3 y)).cell? ⟨B, 0, none⟩ = some (.func (.func 21) #[] #[]) := (((Ext.refl w).alloc _).alloc _).keepc hB
  have hx0 : P3 ((w.alloc (cells3 x)).alloc (cells3 y)) w.heap.size x := (p3_at rfl).alloc _
  have hy0 : P3 ((w.alloc (cells3 x)).alloc (cells3 y)) (w.heap.size + 1) y := p3_at (by simp)
  have HG : Hid (∀ n os, ∃ q os', grow (((w.alloc (cells3 x)).alloc (cells3 y)).drewN n) os = grow (w.drewN q) os') := grow2 w _ _
  have mixed : Try.prog.follows .mixedOrders = true := by kernel_rfl
  clear hB
  generalize cmpI x.x y.x = r at *
  go_enter Try.func34, Try.ntmps34
  go_upto_region 1 with fail
  generalize ((w.alloc (cells3 x)).alloc (cells3 y)) = W at *
  have b0 := cell_grown (World.block_lt_of_cell? W _ hb0) hb0
  have x0 := cell_grown (World.block_lt_of_cell? W _ hx0.1.1) hx0.1.1
  have x1 := cell_grown (World.block_lt_of_cell? W _ hx0.1.2.1) hx0.1.2.1
  have x2 := cell_grown (World.block_lt_of_cell? W _ hx0.1.2.2) hx0.1.2.2
  have y0 := cell_grown (World.block_lt_of_cell? W _ hy0.1.1) hy0.1.1
  have y1 := cell_grown (World.block_lt_of_cell? W _ hy0.1.2.1) hy0.1.2.1
  have y2 := cell_grown (World.block_lt_of_cell? W _ hy0.1.2.2) hy0.1.2.2
  clear hb0 hx0 hy0
  go_quiet_grown (first | (go_at_call 21; exact Calls.grown_of (HT.out _ _)) | (go_at_call 35; exact Calls.grown_of (HC.out _)))
  go_wp2_with fail
  go_ret
  exact ⟨rfl, HG.out _ _⟩
set_option maxHeartbeats 400000 in
theorem take2_any (v : Vc) (w : World) : Calls Try.prog 22 #[rv v] w fun e w' => e = .returned (.int .i64 v.y) ∧ ∃ q os', w' = grow (w.drewN q) os' := by
  go_enter Try.func22, Try.ntmps22
  go_wp2
  go_ret
  exact ⟨rfl, 0, #[.cells #[.int .i64 v.x, .int .i64 v.y, .int .i64 v.z] 25], by rw [alloc_eq_grow]; rfl⟩
set_option maxRecDepth 20000 in
set_option maxHeartbeats 4000000 in
theorem clo2_any (x y : Vc) (B : Nat) (w : World) (hB : w.cell? ⟨B, 0, none⟩ = some (.func (.func 22) #[] #[])) :
    Calls Try.prog 34 #[rv x, rv y, .pointer (some ⟨B, 0, none⟩)] w fun e w' => e = .returned (.int .i64 (cmpI x.y y.y)) ∧ ∃ q os', w' = grow (w.drewN q) os' := by
  have HT : Hid (∀ v w, Calls Try.prog 22 #[rv v] w fun e w' => e = .returned (.int .i64 v.y) ∧ ∃ q os', w' = grow (w.drewN q) os') := take2_any
  have HC : Hid (∀ w, Calls Try.prog 35 #[.int .i64 x.y, .int .i64 y.y] w fun e w' => e = .returned (.int .i64 (cmpI x.y y.y)) ∧ ∃ q os', w' = grow (w.drewN q) os') := fun w => (compare_any x.y y.y w).mono fun e w' ⟨h1, h2⟩ => ⟨h1, 0, #[], by rw [h2, grow_empty]; rfl⟩
  have hb0 : ((w.alloc (cells3 x)).alloc (cells3 y)).cell? ⟨B, 0, none⟩ = some (.func (.func 22) #[] #[]) := (((Ext.refl w).alloc _).alloc _).keepc hB
  have hx0 : P3 ((w.alloc (cells3 x)).alloc (cells3 y)) w.heap.size x := (p3_at rfl).alloc _
  have hy0 : P3 ((w.alloc (cells3 x)).alloc (cells3 y)) (w.heap.size + 1) y := p3_at (by simp)
  have HG : Hid (∀ n os, ∃ q os', grow (((w.alloc (cells3 x)).alloc (cells3 y)).drewN n) os = grow (w.drewN q) os') := grow2 w _ _
  have mixed : Try.prog.follows .mixedOrders = true := by kernel_rfl
  clear hB
  generalize cmpI x.y y.y = r at *
  go_enter Try.func34, Try.ntmps34
  go_upto_region 1 with fail
  generalize ((w.alloc (cells3 x)).alloc (cells3 y)) = W at *
  have b0 := cell_grown (World.block_lt_of_cell? W _ hb0) hb0
  have x0 := cell_grown (World.block_lt_of_cell? W _ hx0.1.1) hx0.1.1
  have x1 := cell_grown (World.block_lt_of_cell? W _ hx0.1.2.1) hx0.1.2.1
  have x2 := cell_grown (World.block_lt_of_cell? W _ hx0.1.2.2) hx0.1.2.2
  have y0 := cell_grown (World.block_lt_of_cell? W _ hy0.1.1) hy0.1.1
  have y1 := cell_grown (World.block_lt_of_cell? W _ hy0.1.2.1) hy0.1.2.1
  have y2 := cell_grown (World.block_lt_of_cell? W _ hy0.1.2.2) hy0.1.2.2
  clear hb0 hx0 hy0
  go_quiet_grown (first | (go_at_call 22; exact Calls.grown_of (HT.out _ _)) | (go_at_call 35; exact Calls.grown_of (HC.out _)))
  go_wp2_with fail
  go_ret
  exact ⟨rfl, HG.out _ _⟩
set_option maxHeartbeats 400000 in
theorem take3_any (v : Vc) (w : World) : Calls Try.prog 23 #[rv v] w fun e w' => e = .returned (.int .i64 v.z) ∧ ∃ q os', w' = grow (w.drewN q) os' := by
  go_enter Try.func23, Try.ntmps23
  go_wp2
  go_ret
  exact ⟨rfl, 0, #[.cells #[.int .i64 v.x, .int .i64 v.y, .int .i64 v.z] 25], by rw [alloc_eq_grow]; rfl⟩
set_option maxRecDepth 20000 in
set_option maxHeartbeats 4000000 in
theorem clo3_any (x y : Vc) (B : Nat) (w : World) (hB : w.cell? ⟨B, 0, none⟩ = some (.func (.func 23) #[] #[])) :
    Calls Try.prog 34 #[rv x, rv y, .pointer (some ⟨B, 0, none⟩)] w fun e w' => e = .returned (.int .i64 (cmpI x.z y.z)) ∧ ∃ q os', w' = grow (w.drewN q) os' := by
  have HT : Hid (∀ v w, Calls Try.prog 23 #[rv v] w fun e w' => e = .returned (.int .i64 v.z) ∧ ∃ q os', w' = grow (w.drewN q) os') := take3_any
  have HC : Hid (∀ w, Calls Try.prog 35 #[.int .i64 x.z, .int .i64 y.z] w fun e w' => e = .returned (.int .i64 (cmpI x.z y.z)) ∧ ∃ q os', w' = grow (w.drewN q) os') := fun w => (compare_any x.z y.z w).mono fun e w' ⟨h1, h2⟩ => ⟨h1, 0, #[], by rw [h2, grow_empty]; rfl⟩
  have hb0 : ((w.alloc (cells3 x)).alloc (cells3 y)).cell? ⟨B, 0, none⟩ = some (.func (.func 23) #[] #[]) := (((Ext.refl w).alloc _).alloc _).keepc hB
  have hx0 : P3 ((w.alloc (cells3 x)).alloc (cells3 y)) w.heap.size x := (p3_at rfl).alloc _
  have hy0 : P3 ((w.alloc (cells3 x)).alloc (cells3 y)) (w.heap.size + 1) y := p3_at (by simp)
  have HG : Hid (∀ n os, ∃ q os', grow (((w.alloc (cells3 x)).alloc (cells3 y)).drewN n) os = grow (w.drewN q) os') := grow2 w _ _
  have mixed : Try.prog.follows .mixedOrders = true := by kernel_rfl
  clear hB
  generalize cmpI x.z y.z = r at *
  go_enter Try.func34, Try.ntmps34
  go_upto_region 1 with fail
  generalize ((w.alloc (cells3 x)).alloc (cells3 y)) = W at *
  have b0 := cell_grown (World.block_lt_of_cell? W _ hb0) hb0
  have x0 := cell_grown (World.block_lt_of_cell? W _ hx0.1.1) hx0.1.1
  have x1 := cell_grown (World.block_lt_of_cell? W _ hx0.1.2.1) hx0.1.2.1
  have x2 := cell_grown (World.block_lt_of_cell? W _ hx0.1.2.2) hx0.1.2.2
  have y0 := cell_grown (World.block_lt_of_cell? W _ hy0.1.1) hy0.1.1
  have y1 := cell_grown (World.block_lt_of_cell? W _ hy0.1.2.1) hy0.1.2.1
  have y2 := cell_grown (World.block_lt_of_cell? W _ hy0.1.2.2) hy0.1.2.2
  clear hb0 hx0 hy0
  go_quiet_grown (first | (go_at_call 23; exact Calls.grown_of (HT.out _ _)) | (go_at_call 35; exact Calls.grown_of (HC.out _)))
  go_wp2_with fail
  go_ret
  exact ⟨rfl, HG.out _ _⟩
end Go.Proofs.Ytfooakbcgjebfaa
