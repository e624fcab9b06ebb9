/- bus: New; Tick, Dev, Count. -/
import Derived.Test.YtfgljkeohoffiaaGp
namespace Go.Proofs.Ytfgljkeohoffiaa
open Go.RowKit Go.Conc
/-- how a bus is -/
structure Bs where
  n : Nat
  D : Nat → Dv
  F : List Flt
  cnt : Int
/-- where a bus lies -/
structure BA where
  b : Nat
  m : Nat
  v : Value
  X : Nat → DA
  L : Nat → Nat
  n : Nat
def FB (y : BA) (k : Nat) : Prop := FD y.b y.v y.X y.L y.n k ∨ k = y.m
/-- The bus at y.b. -/
structure IsBus (w : World) (y : BA) (s : Bs) : Prop where
  d : IsDevs w y.b y.v y.X y.L y.n s.D
  c1 : w.cell? ⟨y.b, 1, none⟩ = some (.map (some y.m))
  c2 : w.cell? ⟨y.b, 2, none⟩ = some (.int .i64 s.cnt)
  mp : MapOk w y.m s.F
  mf : ¬ FD y.b y.v y.X y.L y.n y.m
  hn : y.n = s.n
  tk : ∀ i, i < y.n → (s.D i).tk ≤ 255
section
variable {w w' : World} {y : BA} {s : Bs}
theorem IsBus.tn {own : Nat → Prop} (h : IsBus w y s) (t : Tn own w w') (ho : ∀ k, FB y k → ¬ own k) : IsBus w' y s :=
  ⟨h.d.tn t (fun k o => ho k (.inl o)), t.keepc (ho _ (.inl (.inl rfl))) h.c1, t.keepc (ho _ (.inl (.inl rfl))) h.c2, h.mp.tn t (ho _ (.inr rfl)), h.mf, h.hn, h.tk⟩
theorem IsBus.ext (h : IsBus w y s) (x : Ext w w') : IsBus w' y s := h.tn (own := fun _ => False) (Tn.of_ext x) (fun _ _ k => k)
theorem IsBus.lt (h : IsBus w y s) : ∀ k, FB y k → k < w.heap.size := by
  intro k o
  rcases o with o | o
  · exact h.d.lt k o
  · rw [o]; exact h.mp.lt
end
/-- what a call has done to a bus -/
def Bd (y : BA) (s : Bs) (w w' : World) : Prop := IsBus w' y s ∧ Tn (FB y) w w'
theorem Bd.ext {y : BA} {s : Bs} {a b c : World} (h : Bd y s a b) (k : Ext b c) : Bd y s a c := ⟨h.1.ext k, h.2.more k⟩
theorem Bd.of_ext {y : BA} {s : Bs} {a b : World} (h : IsBus a y s) (k : Ext a b) : Bd y s a b := ⟨h.ext k, Tn.of_ext k⟩
theorem Bd.trans {y : BA} {s s' : Bs} {a b c : World} (h : Bd y s a b) (k : Bd y s' b c) : Bd y s' a c := ⟨k.1, h.2.trans k.2 (fun _ _ o => o)⟩
/-- one device has turned -/
theorem IsBus.turned {w w' : World} {y : BA} {s : Bs} (h : IsBus w y s) {i : Nat} (hi : i < y.n) {t : Dv} (d : Dd (y.X i) t w w') (hs : t.list = (s.D i).list) (ht : t.tk ≤ 255) : Bd y { s with D := upd s.D i t } w w' := by
  have ho : ∀ k, DO (y.X i) k → FD y.b y.v y.X y.L y.n k := fun k o => .inr (.inr ⟨i, hi, .inl o⟩)
  have hb : ¬ DO (y.X i) y.b := fun o => h.d.ab i hi (.inl o)
  refine ⟨⟨h.d.turned hi d hs, d.2.keepc hb h.c1, d.2.keepc hb h.c2, h.mp.tn d.2 (fun o => h.mf (ho _ o)), h.mf, h.hn, fun j hj => ?_⟩, d.2.mono (fun k _ o => .inl (ho k o))⟩
  show (upd s.D i t j).tk ≤ 255
  by_cases e : j = i
  · subst e; rw [upd_at]; exact ht
  · rw [upd_ne _ _ e]; exact h.tk j hj
/-- a bus of models and faults -/
def newB (M : List Md) (F : List Flt) : Bs := ⟨M.length, dvs M, fsts F F.length, 0⟩
set_option maxRecDepth 20000 in
set_option maxHeartbeats 8000000 in
theorem busnew_any (w : World) (a : Option Addr) (M : List Md) (c : Nat) (a2 : Option Addr) (F : List Flt) (c2 : Nat) (hM : MRs w a M) (hl : M.length ≤ maxLen) (hF : FRs w a2 F) (hl2 : F.length ≤ maxLen) :
    Calls Try.prog 6 #[.slice a M.length c, .slice a2 F.length c2] w fun e w' => Ext w w' ∧ ((okMs M && okFs F) = false → e = .returned (.tuple #[.pointer none, .int .i64 1])) ∧ ((okMs M && okFs F) = true → ∃ y : BA, e = .returned (.tuple #[.pointer (some ⟨y.b, 0, none⟩), .int .i64 0]) ∧ IsBus w' y (newB M F) ∧ ∀ k, FB y k → w.heap.size ≤ k) := by
  have x1 : Ext w (w.alloc (.cells #[.slice none 0 0, .map none, .int .i64 0] 70)) := (Ext.refl w).alloc _
  have hI : ∀ D, JI w (w.alloc (.cells #[.slice none 0 0, .map none, .int .i64 0] 70)) w.heap.size (.slice none 0 0) (fun _ => ⟨0, 0, 0, 0, none, 0⟩) (fun _ => 0) 0 D := fun D => by
    refine ⟨⟨by simp [go_sem], fun j => ?_, World.ownsRow_nil _ _ _ _, fun i hi => by omega, fun i hi => by omega, fun i j hi => by omega, fun i hi => by omega, fun i k hi => by omega, by simp [Value.ownBlock], by omega⟩, x1, fun j o => ?_, by simp [go_sem], by simp [go_sem]⟩
    · unfold World.frozen?; rw [heap_alloc_new]; simp
    · rcases o with o | o | ⟨i, hi, _⟩
      · omega
      · simp [Value.ownBlock] at o
      · omega
  have HJ : Hid (∀ w', Ext w w' → True) := fun _ _ => trivial
  have HA := join_any w _ w.heap.size a M c hM hl hI
  have HB : Hid (∀ w' v X L, JI w w' w.heap.size v X L M.length (dvs M) → Calls Try.prog 25 #[.pointer (some ⟨w.heap.size, 0, none⟩), .slice a2 F.length c2] w' fun e w'' => e = .returned (.bool (okFs F)) ∧ Ext w w'' ∧ (okFs F = true → ∃ m, MK w w'' w.heap.size v X L M.length (dvs M) m (fsts F F.length))) := fun w' v X L h => mark_any w w' a2 F c2 hF hl2 h
  clear hI hM hF
  cases hm : okMs M <;> rw [hm] at HA
  · go_enter Try.func6, Try.ntmps6
    go_wp2_with (go_at_call 24; refine HA.mono ?_; rintro e w1 ⟨rfl, e1, _⟩)
    go_ret2
    exact ⟨e1, fun _ => rfl, fun h => by cases h⟩
  · cases hf : okFs F <;> rw [hf] at HB
    · go_enter Try.func6, Try.ntmps6
      go_wp2_with (first | (go_at_call 24; refine HA.mono ?_; rintro e w1 ⟨rfl, e1, hj⟩; obtain ⟨v, X, L, j1⟩ := hj rfl) | (go_at_call 25; refine (HB.out _ _ _ _ j1).mono ?_; rintro e w2 ⟨rfl, e2, _⟩))
      go_ret2
      exact ⟨e2, fun _ => rfl, fun h => by cases h⟩
    · go_enter Try.func6, Try.ntmps6
      go_wp2_with (first | (go_at_call 24; refine HA.mono ?_; rintro e w1 ⟨rfl, e1, hj⟩; obtain ⟨v, X, L, j1⟩ := hj rfl) | (go_at_call 25; refine (HB.out _ _ _ _ j1).mono ?_; rintro e w2 ⟨rfl, e2, hk⟩))
      go_ret2
      obtain ⟨m, k⟩ := hk (by first | rfl | trivial)
      refine ⟨e2, (fun h => by cases h), fun _ => ⟨⟨w.heap.size, m, v, X, L, M.length⟩, rfl, ⟨k.d, k.c1, k.c2, k.mp, k.mf, rfl, fun i hi => Nat.zero_le _⟩, fun j o => ?_⟩⟩
      rcases o with o | o
      · exact k.nw j o
      · rw [o]; exact k.m0
set_option maxHeartbeats 400000 in
theorem count_any (w : World) {y : BA} {s : Bs} (h : IsBus w y s) : Calls Try.prog 21 #[.pointer (some ⟨y.b, 0, none⟩)] w fun e w' => e = .returned (.int .i64 s.cnt) ∧ w' = w := by
  have c2 := h.c2
  go_enter Try.func21, Try.ntmps21
  go_wp2_with fail
  go_ret
  exact ⟨rfl, rfl⟩
/-- what Dev tells -/
def noDev : Value := .agg #[.int .i64 0, .bool false, .int .i64 0, .int .i64 0, .int .i64 0, .int .i64 0]
def devV (s : Bs) (addr : Int) : Value := match fnd s.D s.n addr with
  | some i => .tuple #[(s.D i).told, .int .i64 0]
  | none => .tuple #[noDev, .int .i64 5]
set_option maxRecDepth 20000 in
set_option maxHeartbeats 2000000 in
theorem dev_any (w : World) {y : BA} {s : Bs} (h : IsBus w y s) (addr : Int) : Calls Try.prog 14 #[.pointer (some ⟨y.b, 0, none⟩), .int .i64 addr] w fun e w' => e = .returned (devV s addr) ∧ Ext w w' := by
  have hx : Ext w (w.alloc (.cells #[.int .i64 0, .bool false, .int .i64 0, .int .i64 0, .int .i64 0, .int .i64 0] 51)) := (Ext.refl w).alloc _
  have HD := device_any (h.d.ext hx) addr
  rw [h.hn] at HD
  cases hf : fnd s.D s.n addr with
  | none =>
    rw [hf] at HD
    have e : Hid (devV s addr = .tuple #[noDev, .int .i64 5]) := by show _ = _; unfold devV; rw [hf]
    simp only [dptr] at HD
    go_enter Try.func14, Try.ntmps14
    go_wp2_with (go_at_call 33; refine HD.mono ?_; rintro e w1 ⟨rfl, rfl⟩)
    refine bodyPost_ret (v := .tuple #[noDev, .int .i64 5]) (by simp [results, Try.results14, go_sem, noDev]) rfl ⟨by rw [e.out], ?_⟩
    exact hx
  | some i =>
    rw [hf] at HD
    have hi := (fnd_lt hf).1
    have e : Hid (devV s addr = .tuple #[(s.D i).told, .int .i64 0]) := by show _ = _; unfold devV; rw [hf]
    have HS := show_any _ ((h.d.ext hx).dev i (by rw [h.hn]; exact hi))
    simp only [dptr] at HD
    have b : ∀ j, j < 6 → ∃ v, (w.alloc (.cells #[.int .i64 0, .bool false, .int .i64 0, .int .i64 0, .int .i64 0, .int .i64 0] 51)).cell? ⟨w.heap.size, j, none⟩ = some v ∧ (w.alloc (.cells #[.int .i64 0, .bool false, .int .i64 0, .int .i64 0, .int .i64 0, .int .i64 0] 51)).frozen? ⟨w.heap.size, j, none⟩ = false := by
      intro j hj
      match j, hj with
      | 0, _ => exact ⟨.int .i64 0, by simp [go_sem], by simp [go_sem]⟩
      | 1, _ => exact ⟨.bool false, by simp [go_sem], by simp [go_sem]⟩
      | 2, _ => exact ⟨.int .i64 0, by simp [go_sem], by simp [go_sem]⟩
      | 3, _ => exact ⟨.int .i64 0, by simp [go_sem], by simp [go_sem]⟩
      | 4, _ => exact ⟨.int .i64 0, by simp [go_sem], by simp [go_sem]⟩
      | 5, _ => exact ⟨.int .i64 0, by simp [go_sem], by simp [go_sem]⟩
      | j + 6, h => omega
    have HB : Hid (∀ w2, Ext (w.alloc (.cells #[.int .i64 0, .bool false, .int .i64 0, .int .i64 0, .int .i64 0, .int .i64 0] 51)) w2 → ∀ j, j < 6 → ∃ v, w2.cell? ⟨w.heap.size, j, none⟩ = some v ∧ w2.frozen? ⟨w.heap.size, j, none⟩ = false) := fun w2 x j hj => by
      obtain ⟨v, c, f⟩ := b j hj
      exact ⟨v, x.keepc c, x.keepf c f⟩
    clear b h
    go_enter Try.func14, Try.ntmps14
    generalize hd : s.D i = dd at *
    have HDD : Hid (s.D i = dd) := hd
    clear hd
    go_wp2_with (first | (go_at_call 33; refine HD.mono ?_; rintro e w1 ⟨rfl, rfl⟩) | (go_at_call 34; refine HS.mono ?_; rintro e w2 ⟨rfl, x2⟩; obtain ⟨v0, b0, f0⟩ := HB.out w2 x2 0 (by omega); obtain ⟨v1, b1, f1⟩ := HB.out w2 x2 1 (by omega); obtain ⟨v2, b2, f2⟩ := HB.out w2 x2 2 (by omega); obtain ⟨v3, b3, f3⟩ := HB.out w2 x2 3 (by omega); obtain ⟨v4, b4, f4⟩ := HB.out w2 x2 4 (by omega); obtain ⟨v5, b5, f5⟩ := HB.out w2 x2 5 (by omega); unfold Dv.told))
    have hx9 : Ext w ((((((w2.setCell ⟨w.heap.size, 0, none⟩ (.int .i64 dd.addr)).setCell ⟨w.heap.size, 1, none⟩ (.bool dd.on)).setCell ⟨w.heap.size, 2, none⟩ (.int .i64 dd.per)).setCell ⟨w.heap.size, 3, none⟩ (.int .i64 dd.q.length)).setCell ⟨w.heap.size, 4, none⟩ (.int .i64 dd.lost)).setCell ⟨w.heap.size, 5, none⟩ (.int .i64 dd.next)) := ((((((hx.trans x2).new (Nat.le_refl _) _ _).new (Nat.le_refl _) _ _).new (Nat.le_refl _) _ _).new (Nat.le_refl _) _ _).new (Nat.le_refl _) _ _).new (Nat.le_refl _) _ _
    exact bodyPost_ret (v := .tuple #[dd.told, .int .i64 0]) (by simp [results, Try.results14, go_sem, Dv.told, b0, b1, b2, b3, b4, b5]) rfl ⟨by rw [e.out], hx9⟩
def Dv.ticks (s : Dv) : Nat → Dv
  | 0 => s
  | k + 1 => (s.ticks k).tick
theorem meas_list (s : Dv) : s.meas.list = s.list := by unfold Dv.meas; split; rfl; split <;> rfl
theorem tick_list (s : Dv) : s.tick.list = s.list := by
  unfold Dv.tick
  split
  · split
    · rw [meas_list]
    · rfl
  · rfl
theorem ticks_list (s : Dv) : ∀ k, (s.ticks k).list = s.list
  | 0 => rfl
  | k + 1 => (tick_list _).trans (ticks_list s k)
/-- ticks of the devices up to i, and of that one k -/
def tkTo (D : Nat → Dv) (n i : Nat) : Nat → Dv := fun j => if j < i then (D j).ticks n else D j
def tickB (s : Bs) (n : Nat) : Bs := { s with D := tkTo s.D n s.n }
theorem IsBus.congr {w : World} {y : BA} {s : Bs} {D : Nat → Dv} (h : IsBus w y s) (hD : ∀ i, i < y.n → D i = s.D i) : IsBus w y { s with D := D } :=
  ⟨h.d.congr hD, h.c1, h.c2, h.mp, h.mf, h.hn, fun i hi => by show (D i).tk ≤ 255; rw [hD i hi]; exact h.tk i hi⟩
set_option maxRecDepth 20000 in
set_option maxHeartbeats 8000000 in
theorem tick_bad (w : World) (b : Nat) (n : Int) (hn : ¬ (0 ≤ n ∧ n ≤ 1000)) : Calls Try.prog 13 #[.pointer (some ⟨b, 0, none⟩), .int .i64 n] w fun e w' => e = .returned (.int .i64 1) ∧ w' = w := by
  have HW := within_b n 0 1000
  rw [inn_not.2 hn] at HW
  clear hn
  go_enter Try.func13, Try.ntmps13
  go_wp2_with (go_at_call 31; refine (HW _).mono ?_; rintro e w' ⟨rfl, rfl⟩)
  go_ret
  exact ⟨rfl, rfl⟩
set_option maxRecDepth 20000 in
set_option maxHeartbeats 8000000 in
theorem tick_b (w : World) {y : BA} {s : Bs} (h : IsBus w y s) (n : Nat) (hn : n ≤ 1000) : Calls Try.prog 13 #[.pointer (some ⟨y.b, 0, none⟩), .int .i64 n] w fun e w' => e = .returned (.int .i64 0) ∧ Bd y (tickB s n) w w' := by
  have HW := within_b n 0 1000
  rw [inn_iff.2 (by omega)] at HW
  have c0 := h.d.c0
  obtain ⟨va, vc, ev, _⟩ := h.d.form
  rw [ev] at c0
  have HV : Hid (y.v = .slice va y.n vc) := ev
  have h8 := h.d.n8
  have H0 : Hid (Bd y { s with D := tkTo s.D n 0 } w w) := ⟨h.congr (fun i _ => if_neg (Nat.not_lt_zero _)), Tn.refl _ _⟩
  have HN : Hid (y.n = s.n) := h.hn
  have HT : Hid (∀ i, i < y.n → (s.D i).tk ≤ 255) := h.tk
  clear h ev
  go_enter Try.func13, Try.ntmps13
  go_wp2_with (go_at_call 31; refine (HW _).mono ?_; rintro e w' ⟨rfl, rfl⟩)
  clear c0
  go_loopw [6, 15] (fun _ i wr => ∃ k : Nat, k ≤ y.n ∧ i = .int .i64 k ∧ Hid (Bd y { s with D := tkTo s.D n k } w' wr)) (fun _ i _ => y.n - (intOf i).toNat)
  case atStart => exact ⟨0, Nat.zero_le _, rfl, H0⟩
  case round =>
    obtain ⟨k, hk, rfl, hR⟩ := hrel
    by_cases hlt : k < y.n
    · have hlti : (k : Int) < (y.n : Int) := by omega
      obtain ⟨va2, vc2, ev2, hrow⟩ := hR.out.1.d.form
      rw [HV.out] at ev2
      cases ev2
      obtain ⟨g, rfl, k1⟩ := hrow k hlt
      clear hrow
      have hk255 := HT.out k hlt
      have H1 : Hid (Bd y { s with D := upd (tkTo s.D n k) k ((s.D k).ticks 0) } w' wr) := ⟨hR.out.1.congr (fun i hi => by
        by_cases e : i = k
        · subst e; rw [upd_at]; exact (if_neg (Nat.lt_irrefl _)).symm
        · rw [upd_ne _ _ e]), hR.out.2⟩
      have HC : Hid (∀ t w1, Bd y { s with D := upd (tkTo s.D n k) k ((s.D k).ticks t) } w' w1 → Calls Try.prog 32 #[.pointer (some ⟨(y.X k).p, 0, none⟩)] w1 fun e w2 => (∃ u, e = .returned u) ∧ Hid (Bd y { s with D := upd (tkTo s.D n k) k ((s.D k).ticks (t + 1)) } w' w2)) := fun t w1 q => by
        have hd := q.1.d.dev k hlt
        have htk := q.1.tk k hlt
        dsimp only at hd htk
        rw [upd_at] at hd htk
        refine (tick_any w1 hd htk).mono ?_
        rintro e w2 ⟨he, d⟩
        refine ⟨he, ?_⟩
        have q2 := q.1.turned hlt d (by show _ = (upd (tkTo s.D n k) k ((s.D k).ticks t) k).list; rw [upd_at]; exact tick_list _) (tick_le _ htk hd.n2.2)
        refine ⟨q2.1.congr (fun i hi => ?_), q.2.trans q2.2 (fun _ _ o => o)⟩
        show upd (tkTo s.D n k) k ((s.D k).ticks (t + 1)) i = upd (upd (tkTo s.D n k) k ((s.D k).ticks t)) k _ i
        by_cases e : i = k
        · subst e; rw [upd_at, upd_at]; rfl
        · rw [upd_ne _ _ e, upd_ne _ _ e, upd_ne _ _ e]
      have HZ : Hid (∀ w1, Bd y { s with D := upd (tkTo s.D n k) k ((s.D k).ticks n) } w' w1 → Bd y { s with D := tkTo s.D n (k + 1) } w' w1) := fun w1 q => ⟨q.1.congr (fun i hi => by
        show tkTo s.D n (k + 1) i = upd (tkTo s.D n k) k ((s.D k).ticks n) i
        by_cases e : i = k
        · subst e; rw [upd_at]; exact if_pos (by omega)
        · rw [upd_ne _ _ e]
          unfold tkTo
          by_cases h2 : i < k
          · rw [if_pos h2, if_pos (by omega)]
          · rw [if_neg h2, if_neg (by omega)]), q.2⟩
      clear hR H0
      go_wp2_with fail
      go_loopw [20] (fun i wi => ∃ t : Nat, t ≤ n ∧ i = .int .i64 t ∧ Hid (Bd y { s with D := upd (tkTo s.D n k) k ((s.D k).ticks t) } w' wi)) (fun i _ => n - (intOf i).toNat)
      case atStart => exact ⟨0, Nat.zero_le _, rfl, H1⟩
      case round =>
        obtain ⟨t, ht, rfl, hQ⟩ := hrel
        by_cases htl : t < n
        · have htli : (t : Int) < (n : Int) := by omega
          have HC2 := HC.out t _ hQ.out
          go_wp2_with (go_at_call 32; refine HC2.mono ?_; rintro e w5 ⟨⟨u, rfl⟩, q5⟩)
          go_roundw
          case measure => simp [intOf]; omega
          case rel => exact ⟨t + 1, by omega, by simp, q5⟩
        · have htli : ¬ (t : Int) < (n : Int) := by omega
          have htn : t = n := by omega
          subst htn
          have R9 : Hid _ := HZ.out _ hQ.out
          go_wp2_with fail
          go_roundw
          case measure => simp [intOf]; omega
          case rel => exact ⟨k + 1, by omega, by simp, R9⟩
    · have hlti : ¬ (k : Int) < (y.n : Int) := by omega
      have hkl : k = y.n := by omega
      have HF : Hid (Bd y (tickB s n) w' wr) := by
        have e9 : tkTo s.D n k = tkTo s.D n s.n := by rw [hkl, HN.out]
        have q := hR.out
        rw [e9] at q
        exact q
      go_wp2_with fail
      go_ret
      exact ⟨rfl, HF.out⟩
end Go.Proofs.Ytfgljkeohoffiaa
