/- SchedExact: the function that it hands over. -/
import Derived.Test.YtehphgpkhfokhaaWb
namespace Go.Proofs.Ytehphgpkhfokhaa
open Go.RowKit Go.Conc
/-- the script as it lies, the number of the next run, and what came in -/
structure Ik (w0 : World) (P K : Nat) (N : Int) (at_ al : Option Addr) (lt ct ll cl : Nat) (k : Nat) (w : World) : Prop where
  p0 : w.cell? ⟨P, 0, none⟩ = some (.int .i64 N)
  p1 : w.cell? ⟨P, 1, none⟩ = some (.slice at_ lt ct)
  p2 : w.cell? ⟨P, 2, none⟩ = some (.slice al ll cl)
  k0 : w.cell? ⟨K, 0, none⟩ = some (.int .i64 (k : Nat))
  kf : w.frozen? ⟨K, 0, none⟩ = false
  x : Ext w0 w
  ne : P ≠ K
  lk : w0.heap.size ≤ K
section
variable {w0 w w' : World} {P K : Nat} {N : Int} {at_ al : Option Addr} {lt ct ll cl k : Nat}
theorem Ik.ext (h : Ik w0 P K N at_ al lt ct ll cl k w) (x : Ext w w') : Ik w0 P K N at_ al lt ct ll cl k w' :=
  ⟨x.keepc h.p0, x.keepc h.p1, x.keepc h.p2, x.keepc h.k0, x.keepf h.k0 h.kf, h.x.trans x, h.ne, h.lk⟩
theorem Ik.up (h : Ik w0 P K N at_ al lt ct ll cl k w) : Ik w0 P K N at_ al lt ct ll cl (k + 1) (w.setCell ⟨K, 0, none⟩ (.int .i64 ((k : Int) + 1))) := by
  have t1 : Turn (fun q _ => q = K) w (w.setCell ⟨K, 0, none⟩ (.int .i64 ((k : Int) + 1))) := (Turn.refl (fun q _ => q = K) w).set (q := K) (o := 0) rfl _
  refine ⟨t1.keepc h.ne h.p0, t1.keepc h.ne h.p1, t1.keepc h.ne h.p2, ?_, by rw [World.frozen?_setCell]; exact h.kf, t1.below h.x (fun i _ o => by rw [o]; exact h.lk), h.ne, h.lk⟩
  rw [World.cell?_setCell_same _ _ _ h.k0]; simp
theorem ik_fair {t b : Nat} {c : Nat → Nat} {v : Value} {n : Nat} (h : Ik w0 P K N at_ al lt ct ll cl k w) (hP : ¬ OwnT t b c n v P) (hK : ¬ OwnT t b c n v K) (ho : ∀ q, OwnT t b c n v q → w0.heap.size ≤ q) : Fair t b c v n (fun q => q = K) (Ik w0 P K N at_ al lt ct ll cl) w := by
  have lP := World.block_lt_of_cell? w ⟨P, 0, none⟩ h.p0
  have lK := World.block_lt_of_cell? w ⟨K, 0, none⟩ h.k0
  refine ⟨fun q e => by rw [e]; exact ⟨hK, lK⟩, fun j w1 w2 Q i1 t1 hs hQ => ?_⟩
  have nP : ¬ Q P := fun o => hP (hQ P o lP)
  have nK : ¬ Q K := fun o => hK (hQ K o lK)
  refine ⟨t1.keepc nP i1.p0, t1.keepc nP i1.p1, t1.keepc nP i1.p2, t1.keepc nK i1.k0, t1.keepf nK i1.k0 i1.kf, t1.below i1.x (fun q _ o => ?_), i1.ne, i1.lk⟩
  by_cases hq : q < w.heap.size
  · exact ho q (hQ q o hq)
  · have := h.x.size; omega
set_option maxRecDepth 20000 in
set_option maxHeartbeats 2000000 in
theorem exact2_any {U : Nat → Value} {L : Nat → List Int} {G : Nat → Int} (i : Int) (h : Ik w0 P K N at_ al lt ct ll cl k w) (hT : Trns w0 at_ lt U L G) (hL : ∀ i, i < lt → (L i).length ≤ 40) (hk : k ≤ 100000) :
    Calls Try.prog 16 #[.int .i64 i, .pointer (some ⟨P, 0, none⟩), .pointer (some ⟨K, 0, none⟩)] w fun e w' => ∃ a n cp x, e = .returned (.tuple #[.slice a n cp, .int .i64 x]) ∧ n = (tell lt L G k).1.length ∧ x = (tell lt L G k).2 ∧ RdF w' (fun q => q < w.heap.size) (.slice a n cp) (tell lt L G k).1 ∧ Ik w0 P K N at_ al lt ct ll cl (k + 1) w' ∧ Turn (fun q _ => q = K) w w' := by
  have HT := turn_any N at_ al lt ct ll cl U L G k w0 w h.x hT
  have hl40 : (tell lt L G k).1.length ≤ 40 := by
    unfold tell
    split
    · exact hL k (by assumption)
    · simp
  obtain ⟨l, hl⟩ : ∃ l, (tell lt L G k).1 = l := ⟨_, rfl⟩
  obtain ⟨y, hy⟩ : ∃ y, (tell lt L G k).2 = y := ⟨_, rfl⟩
  rw [hl, hy] at HT
  rw [hl] at hl40
  rw [hl, hy]
  have HI : Hid (Ik w0 P K N at_ al lt ct ll cl k w) := h
  have p0 := h.p0
  have p1 := h.p1
  have p2 := h.p2
  have k0 := h.k0
  have HK : Hid (k ≤ 100000) := hk
  have hkx : (k : Int) ≤ 9223372036854775806 := by omega
  clear h hk hT hL hl hy
  go_enter Try.func16, Try.ntmps16
  go_upto_region 2 with (go_at_call 17; refine HT.mono ?_; rintro e w1 ⟨a, cap, rfl, r1, x1⟩)
  have x2 : Ext w (w1.alloc (.cells #[.slice a l.length cap, .int .i64 y] 45)) := x1.trans ((Ext.refl w1).alloc _)
  have i2 := HI.out.ext x2
  have X0 : (w1.alloc (.cells #[.slice a l.length cap, .int .i64 y] 45)).cell? ⟨w1.heap.size, 0, none⟩ = some (.slice a l.length cap) := by simp [go_sem]
  have X1 : (w1.alloc (.cells #[.slice a l.length cap, .int .i64 y] 45)).cell? ⟨w1.heap.size, 1, none⟩ = some (.int .i64 y) := by simp [go_sem]
  have hXw : w.heap.size ≤ w1.heap.size := x1.size
  have HI2 : Hid (Ik w0 P K N at_ al lt ct ll cl k (w1.alloc (.cells #[.slice a l.length cap, .int .i64 y] 45)) ∧ Ext w (w1.alloc (.cells #[.slice a l.length cap, .int .i64 y] 45))) := ⟨i2, x2⟩
  have lK := World.block_lt_of_cell? w ⟨K, 0, none⟩ k0
  simp only at lK
  have nKX : ¬ K = w1.heap.size := by omega
  have nXK : ¬ w1.heap.size = K := by omega
  have k2 := i2.k0
  have kf2 := i2.kf
  clear i2 x2 x1 HT p0 p1 p2 k0
  generalize w1.alloc (.cells #[.slice a l.length cap, .int .i64 y] 45) = W at *
  generalize hX : w1.heap.size = X at *
  have HX : Hid (w.heap.size ≤ X) := hXw
  clear hX hXw lK
  go_upto_region 3 with fail
  have i3 := HI2.out.1.up
  have t3 : Turn (fun q _ => q = K) w (W.setCell ⟨K, 0, none⟩ (.int .i64 ((k : Int) + 1))) := (Turn.of_ext HI2.out.2).set (q := K) (o := 0) rfl _
  have X03 : (W.setCell ⟨K, 0, none⟩ (.int .i64 ((k : Int) + 1))).cell? ⟨X, 0, none⟩ = some (.slice a l.length cap) := by rw [World.cell?_setCell_other (h := fun e => by cases e; exact nKX rfl)]; exact X0
  have X13 : (W.setCell ⟨K, 0, none⟩ (.int .i64 ((k : Int) + 1))).cell? ⟨X, 1, none⟩ = some (.int .i64 y) := by rw [World.cell?_setCell_other (h := fun e => by cases e)]; exact X1
  have HC : Hid (∀ m, Calls Try.prog 18 #[.slice a l.length cap] ((W.setCell ⟨K, 0, none⟩ (.int .i64 ((k : Int) + 1))).drewN m) fun e w' => ∃ a' cap', e = .returned (.slice a' l.length cap') ∧ w'.cell? ⟨X, 0, none⟩ = some (.slice a l.length cap) ∧ w'.cell? ⟨X, 1, none⟩ = some (.int .i64 y) ∧ Hid (RdF w' (fun q => q < w.heap.size) (.slice a' l.length cap') l ∧ Ik w0 P K N at_ al lt ct ll cl (k + 1) w' ∧ Turn (fun q _ => q = K) w w')) := fun m => by
    have xm : Ext (W.setCell ⟨K, 0, none⟩ (.int .i64 ((k : Int) + 1))) ((W.setCell ⟨K, 0, none⟩ (.int .i64 ((k : Int) + 1))).drewN m) := drewN_ext m
    have im := i3.ext xm
    refine (copy_nums (l := l) _ _ (r1.ext im.x) (by omega)).mono ?_
    rintro e w' ⟨a', cap', rfl, q1, q2⟩
    refine ⟨a', cap', rfl, q2.keepc (xm.keepc X03), q2.keepc (xm.keepc X13), ?_, im.ext q2, (t3.trans (Turn.of_ext (own := fun q _ => q = K) (xm.trans q2)) (fun _ _ _ o => o))⟩
    obtain ⟨a2, cap2, e2, hr⟩ := rdi_row q1
    refine ⟨a2, cap2, e2, fun j hj => ?_⟩
    obtain ⟨b', off, h1, h2⟩ := hr j hj
    refine ⟨b', off, h1, ?_, h2⟩
    simp only [Value.slice.injEq, true_and] at e2
    have := (q1.lt b' (by rw [e2.1, h1]; rfl)).1
    have s1 := t3.size
    have s2 := xm.size
    omega
  clear i3 t3 X0 X1 k2 kf2 HI2 r1 HI nKX nXK
  generalize W.setCell ⟨K, 0, none⟩ (.int .i64 ((k : Int) + 1)) = W3 at *
  go_region_held (fun w' => w'.cell? ⟨X, 0, none⟩ = some (.slice a l.length cap) ∧ w'.cell? ⟨X, 1, none⟩ = some (.int .i64 y)) (first | (go_keep; done) | skip) (first | (go_at_call 18; refine (HC.out 1).mono ?_; rintro e w4 ⟨a4, c4, rfl, X03, X13, R4⟩))
  all_goals
    go_wp2_with fail
    exact bodyPost_ret (v := .tuple #[.slice a4 l.length c4, .int .i64 y]) (by simp [results, Try.results16, go_sem]) rfl ⟨a4, l.length, c4, y, rfl, rfl, rfl, R4.out.1, R4.out.2.1, R4.out.2.2⟩
end
end Go.Proofs.Ytehphgpkhfokhaa
