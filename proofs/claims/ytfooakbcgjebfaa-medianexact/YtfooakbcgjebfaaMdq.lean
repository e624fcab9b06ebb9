/- gimballaw13's may. -/
import Derived.Test.YtfooakbcgjebfaaMdp
namespace Go.Proofs.Ytfooakbcgjebfaa
open Go.RowKit Go.Conc Go.Shelf Go.Lib
abbrev askv (a : Option Addr) (c : Nat) (q : Ask) : Value := .agg #[.slice a q.l.length c, .int .i64 q.n, .int .i64 q.v.x, .int .i64 q.v.y, .int .i64 q.v.z]
abbrev asko (a : Option Addr) (c : Nat) (q : Ask) : Obj := .cells #[.slice a q.l.length c, .int .i64 q.n, .int .i64 q.v.x, .int .i64 q.v.y, .int .i64 q.v.z] 27
/-- the five cells of an ask -/
def P5 (w : World) (b : Nat) (a : Option Addr) (c : Nat) (q : Ask) : Prop :=
  w.cell? ⟨b, 0, none⟩ = some (.slice a q.l.length c) ∧ w.cell? ⟨b, 1, none⟩ = some (.int .i64 q.n) ∧ w.cell? ⟨b, 2, none⟩ = some (.int .i64 q.v.x) ∧ w.cell? ⟨b, 3, none⟩ = some (.int .i64 q.v.y) ∧ w.cell? ⟨b, 4, none⟩ = some (.int .i64 q.v.z)
theorem P5.ext {w w' : World} {b : Nat} {a : Option Addr} {c : Nat} {q : Ask} (h : P5 w b a c q) (x : Ext w w') : P5 w' b a c q := by
  obtain ⟨h0, h1, h2, h3, h4⟩ := h
  exact ⟨x.keepc h0, x.keepc h1, x.keepc h2, x.keepc h3, x.keepc h4⟩
theorem P5.tn {own : Nat → Prop} {w w' : World} {b : Nat} {a : Option Addr} {c : Nat} {q : Ask} (h : P5 w b a c q) (x : Tn own w w') (hb : ¬ own b) : P5 w' b a c q := by
  obtain ⟨h0, h1, h2, h3, h4⟩ := h
  exact ⟨x.keepc hb h0, x.keepc hb h1, x.keepc hb h2, x.keepc hb h3, x.keepc hb h4⟩
theorem p5_at {w : World} {b : Nat} {a : Option Addr} {c : Nat} {q : Ask} (h : w.heap.size = b) : P5 (w.alloc (asko a c q)) b a c q := by
  subst h
  refine ⟨?_, ?_, ?_, ?_, ?_⟩ <;> simp [go_sem]
theorem P5.lt {w : World} {b : Nat} {a : Option Addr} {c : Nat} {q : Ask} (h : P5 w b a c q) : b < w.heap.size := World.block_lt_of_cell? w ⟨b, 0, none⟩ h.1
/-- what may be -/
def okA (q : Ask) : Bool := okWin q.l q.n && okv q.v
theorem okN_cases {n : Int} (h : okN n = true) : n = 1 ∨ n = 3 ∨ n = 5 ∨ n = 7 := by unfold okN at h; simp at h; omega
set_option maxRecDepth 20000 in
set_option maxHeartbeats 8000000 in
theorem may13_any (q : Ask) (a : Option Addr) (c : Nat) (w : World) (h : VL w a q.l) :
    Calls Try.prog 6 #[askv a c q] w fun e w' => e = .returned (.bool (okA q)) ∧ Ext w w' := by
  have HX : Hid (Ext w (w.alloc (asko a c q))) := (Ext.refl w).alloc _
  obtain ⟨q0, q1, q2, q3, q4⟩ := p5_at (w := w) (a := a) (c := c) (q := q) rfl
  have HM : Hid (∀ W, Calls Try.prog 14 #[rv q.v] W fun e w' => e = .returned (.bool (okv q.v)) ∧ Ext W w') := fun W => mayv_any q.v.x q.v.y q.v.z W
  have EO : Hid (okA q = (okN q.n && (decide ((q.l.length : Int) ≤ q.n) && q.l.all okv) && okv q.v)) := rfl
  have HV0 : Hid (q.l.length ≤ 7 → Calls Try.prog 15 #[.slice a q.l.length c] (w.alloc (asko a c q)) fun e w' => e = .returned (.bool (q.l.all okv)) ∧ Ext (w.alloc (asko a c q)) w') := fun h7 => vecs_any q.l a c _ (h.ext HX.out) (by omega)
  clear h
  obtain ⟨l, n, v⟩ := q
  dsimp only at q0 q1 q2 q3 q4 HM EO HV0 HX ⊢
  cases h0 : okN n
  · have er : okA ⟨l, n, v⟩ = false := by rw [EO.out, h0]; rfl
    rw [er]
    have h1 : ¬ n = 1 := fun e => by subst e; cases h0
    have h3 : ¬ n = 3 := fun e => by subst e; cases h0
    have h5 : ¬ n = 5 := fun e => by subst e; cases h0
    have h7 : ¬ n = 7 := fun e => by subst e; cases h0
    clear h0 er EO HV0
    go_enter Try.func6, Try.ntmps6
    go_upto_region 1 with fail
    generalize (w.alloc (asko a c ⟨l, n, v⟩)) = W0 at *
    go_wp2_with fail
    go_ret
    exact ⟨ret_bool (by simp), HX.out⟩
  · rcases okN_cases h0 with rfl | rfl | rfl | rfl
    · by_cases hl : (l.length : Int) ≤ 1
      · have HV : Hid (Calls Try.prog 15 #[.slice a l.length c] (w.alloc (asko a c ⟨l, 1, v⟩)) fun e w' => e = .returned (.bool (l.all okv)) ∧ Ext (w.alloc (asko a c ⟨l, 1, v⟩)) w') := HV0.out (by omega)
        cases ha : l.all okv
        · have er : okA ⟨l, 1, v⟩ = false := by rw [EO.out, ha]; simp
          rw [er]
          rw [ha] at HV
          clear EO er HV0 h0 ha
          go_enter Try.func6, Try.ntmps6
          go_upto_region 1 with fail
          generalize (w.alloc (asko a c ⟨l, 1, v⟩)) = W0 at *
          go_wp2_with (first | (go_at_call 15; refine HV.out.mono ?_; rintro e w1 ⟨rfl, x1⟩; have c0 := x1.keepc q0; have c1 := x1.keepc q1; have c2 := x1.keepc q2; have c3 := x1.keepc q3; have c4 := x1.keepc q4))
          go_ret
          exact ⟨ret_bool (by simp), HX.out.trans x1⟩
        · have er : okA ⟨l, 1, v⟩ = okv v := by rw [EO.out, h0, ha, decide_eq_true hl]; simp
          rw [er]
          rw [ha] at HV
          generalize okv v = R at *
          clear EO er HV0 h0 ha
          go_enter Try.func6, Try.ntmps6
          go_upto_region 1 with fail
          generalize (w.alloc (asko a c ⟨l, 1, v⟩)) = W0 at *
          go_wp2_with (first | (go_at_call 15; refine HV.out.mono ?_; rintro e w1 ⟨rfl, x1⟩; have c0 := x1.keepc q0; have c1 := x1.keepc q1; have c2 := x1.keepc q2; have c3 := x1.keepc q3; have c4 := x1.keepc q4) | (go_at_call 14; refine (HM.out _).mono ?_; rintro e w2 ⟨rfl, x2⟩))
          go_ret
          exact ⟨ret_bool (by simp), (HX.out.trans x1).trans x2⟩
      · have er : okA ⟨l, 1, v⟩ = false := by rw [EO.out, decide_eq_false hl]; simp
        rw [er]
        have hl2 : (1 : Int) < (l.length : Int) := by omega
        clear EO er HV0 h0
        go_enter Try.func6, Try.ntmps6
        go_upto_region 1 with fail
        generalize (w.alloc (asko a c ⟨l, 1, v⟩)) = W0 at *
        go_wp2_with fail
        go_ret
        exact ⟨ret_bool (by simp), HX.out⟩
    · by_cases hl : (l.length : Int) ≤ 3
      · have HV : Hid (Calls Try.prog 15 #[.slice a l.length c] (w.alloc (asko a c ⟨l, 3, v⟩)) fun e w' => e = .returned (.bool (l.all okv)) ∧ Ext (w.alloc (asko a c ⟨l, 3, v⟩)) w') := HV0.out (by omega)
        cases ha : l.all okv
        · have er : okA ⟨l, 3, v⟩ = false := by rw [EO.out, ha]; simp
          rw [er]
          rw [ha] at HV
          clear EO er HV0 h0 ha
          go_enter Try.func6, Try.ntmps6
          go_upto_region 1 with fail
          generalize (w.alloc (asko a c ⟨l, 3, v⟩)) = W0 at *
          go_wp2_with (first | (go_at_call 15; refine HV.out.mono ?_; rintro e w1 ⟨rfl, x1⟩; have c0 := x1.keepc q0; have c1 := x1.keepc q1; have c2 := x1.keepc q2; have c3 := x1.keepc q3; have c4 := x1.keepc q4))
          go_ret
          exact ⟨ret_bool (by simp), HX.out.trans x1⟩
        · have er : okA ⟨l, 3, v⟩ = okv v := by rw [EO.out, h0, ha, decide_eq_true hl]; simp
          rw [er]
          rw [ha] at HV
          generalize okv v = R at *
          clear EO er HV0 h0 ha
          go_enter Try.func6, Try.ntmps6
          go_upto_region 1 with fail
          generalize (w.alloc (asko a c ⟨l, 3, v⟩)) = W0 at *
          go_wp2_with (first | (go_at_call 15; refine HV.out.mono ?_; rintro e w1 ⟨rfl, x1⟩; have c0 := x1.keepc q0; have c1 := x1.keepc q1; have c2 := x1.keepc q2; have c3 := x1.keepc q3; have c4 := x1.keepc q4) | (go_at_call 14; refine (HM.out _).mono ?_; rintro e w2 ⟨rfl, x2⟩))
          go_ret
          exact ⟨ret_bool (by simp), (HX.out.trans x1).trans x2⟩
      · have er : okA ⟨l, 3, v⟩ = false := by rw [EO.out, decide_eq_false hl]; simp
        rw [er]
        have hl2 : (3 : Int) < (l.length : Int) := by omega
        clear EO er HV0 h0
        go_enter Try.func6, Try.ntmps6
        go_upto_region 1 with fail
        generalize (w.alloc (asko a c ⟨l, 3, v⟩)) = W0 at *
        go_wp2_with fail
        go_ret
        exact ⟨ret_bool (by simp), HX.out⟩
    · by_cases hl : (l.length : Int) ≤ 5
      · have HV : Hid (Calls Try.prog 15 #[.slice a l.length c] (w.alloc (asko a c ⟨l, 5, v⟩)) fun e w' => e = .returned (.bool (l.all okv)) ∧ Ext (w.alloc (asko a c ⟨l, 5, v⟩)) w') := HV0.out (by omega)
        cases ha : l.all okv
        · have er : okA ⟨l, 5, v⟩ = false := by rw [EO.out, ha]; simp
          rw [er]
          rw [ha] at HV
          clear EO er HV0 h0 ha
          go_enter Try.func6, Try.ntmps6
          go_upto_region 1 with fail
          generalize (w.alloc (asko a c ⟨l, 5, v⟩)) = W0 at *
          go_wp2_with (first | (go_at_call 15; refine HV.out.mono ?_; rintro e w1 ⟨rfl, x1⟩; have c0 := x1.keepc q0; have c1 := x1.keepc q1; have c2 := x1.keepc q2; have c3 := x1.keepc q3; have c4 := x1.keepc q4))
          go_ret
          exact ⟨ret_bool (by simp), HX.out.trans x1⟩
        · have er : okA ⟨l, 5, v⟩ = okv v := by rw [EO.out, h0, ha, decide_eq_true hl]; simp
          rw [er]
          rw [ha] at HV
          generalize okv v = R at *
          clear EO er HV0 h0 ha
          go_enter Try.func6, Try.ntmps6
          go_upto_region 1 with fail
          generalize (w.alloc (asko a c ⟨l, 5, v⟩)) = W0 at *
          go_wp2_with (first | (go_at_call 15; refine HV.out.mono ?_; rintro e w1 ⟨rfl, x1⟩; have c0 := x1.keepc q0; have c1 := x1.keepc q1; have c2 := x1.keepc q2; have c3 := x1.keepc q3; have c4 := x1.keepc q4) | (go_at_call 14; refine (HM.out _).mono ?_; rintro e w2 ⟨rfl, x2⟩))
          go_ret
          exact ⟨ret_bool (by simp), (HX.out.trans x1).trans x2⟩
      · have er : okA ⟨l, 5, v⟩ = false := by rw [EO.out, decide_eq_false hl]; simp
        rw [er]
        have hl2 : (5 : Int) < (l.length : Int) := by omega
        clear EO er HV0 h0
        go_enter Try.func6, Try.ntmps6
        go_upto_region 1 with fail
        generalize (w.alloc (asko a c ⟨l, 5, v⟩)) = W0 at *
        go_wp2_with fail
        go_ret
        exact ⟨ret_bool (by simp), HX.out⟩
    · by_cases hl : (l.length : Int) ≤ 7
      · have HV : Hid (Calls Try.prog 15 #[.slice a l.length c] (w.alloc (asko a c ⟨l, 7, v⟩)) fun e w' => e = .returned (.bool (l.all okv)) ∧ Ext (w.alloc (asko a c ⟨l, 7, v⟩)) w') := HV0.out (by omega)
        cases ha : l.all okv
        · have er : okA ⟨l, 7, v⟩ = false := by rw [EO.out, ha]; simp
          rw [er]
          rw [ha] at HV
          clear EO er HV0 h0 ha
          go_enter Try.func6, Try.ntmps6
          go_upto_region 1 with fail
          generalize (w.alloc (asko a c ⟨l, 7, v⟩)) = W0 at *
          go_wp2_with (first | (go_at_call 15; refine HV.out.mono ?_; rintro e w1 ⟨rfl, x1⟩; have c0 := x1.keepc q0; have c1 := x1.keepc q1; have c2 := x1.keepc q2; have c3 := x1.keepc q3; have c4 := x1.keepc q4))
          go_ret
          exact ⟨ret_bool (by simp), HX.out.trans x1⟩
        · have er : okA ⟨l, 7, v⟩ = okv v := by rw [EO.out, h0, ha, decide_eq_true hl]; simp
          rw [er]
          rw [ha] at HV
          generalize okv v = R at *
          clear EO er HV0 h0 ha
          go_enter Try.func6, Try.ntmps6
          go_upto_region 1 with fail
          generalize (w.alloc (asko a c ⟨l, 7, v⟩)) = W0 at *
          go_wp2_with (first | (go_at_call 15; refine HV.out.mono ?_; rintro e w1 ⟨rfl, x1⟩; have c0 := x1.keepc q0; have c1 := x1.keepc q1; have c2 := x1.keepc q2; have c3 := x1.keepc q3; have c4 := x1.keepc q4) | (go_at_call 14; refine (HM.out _).mono ?_; rintro e w2 ⟨rfl, x2⟩))
          go_ret
          exact ⟨ret_bool (by simp), (HX.out.trans x1).trans x2⟩
      · have er : okA ⟨l, 7, v⟩ = false := by rw [EO.out, decide_eq_false hl]; simp
        rw [er]
        have hl2 : (7 : Int) < (l.length : Int) := by omega
        clear EO er HV0 h0
        go_enter Try.func6, Try.ntmps6
        go_upto_region 1 with fail
        generalize (w.alloc (asko a c ⟨l, 7, v⟩)) = W0 at *
        go_wp2_with fail
        go_ret
        exact ⟨ret_bool (by simp), HX.out⟩
end Go.Proofs.Ytfooakbcgjebfaa
