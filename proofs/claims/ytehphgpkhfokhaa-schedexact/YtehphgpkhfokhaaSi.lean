/- sched: ask. -/
import Derived.Test.YtehphgpkhfokhaaSh
namespace Go.Proofs.Ytehphgpkhfokhaa
open Go.RowKit Go.Conc
/-- recover, in a frame that returns: nothing turns. -/
theorem catch_idle (w : World) :
    CallsD Try.prog 45 #[] .returning w fun e u' w' => e = .returned (.tuple #[]) ∧ u' = .returning ∧ w' = w := by
  refine callsD_of_wpS Try.func45 rfl fun c₀ cs hu => ?_
  apply wpS_region
  simp [wpOpsS, go_sem, recoverD, hu, Try.ntmps45]
  cases c₀
  simp_all [bodyPostS, results, Try.results45]
theorem ask_wakes (i : Int) (w : World) {R : Option Addr → Nat → Nat → Int → World → Prop} (h : Calls Try.prog 34 #[.int .i64 i] w fun e w' => ∃ a n cp x, e = .returned (.tuple #[.slice a n cp, .int .i64 x]) ∧ R a n cp x w') :
    Calls Try.prog 38 #[.func (.func 34) #[] #[], .int .i64 i] w fun e w' => ∃ a n cp x, e = .returned (.tuple #[.slice a n cp, .int .i64 x]) ∧ R a n cp x w' := by
  have hmf : ∀ (fn : Fn) (first cap : Array Value) (w : World), (Instr.makeFunc fn first cap).run Try.prog w = .ok (.func fn first cap) w := fun _ _ _ _ => rfl
  go_enter_defers Try.func38, Try.ntmps38
  go_wp2_with (go_at_call 34; refine h.mono ?_; rintro e w1 ⟨a, n, cp, x, rfl, r1⟩)
  refine leaves_cons (f := 45) (args := #[]) (by simp) (by simp [go_sem]) ?_
  refine (catch_idle _).mono ?_
  rintro e u' w'' ⟨rfl, rfl, rfl⟩
  simp [Leaves, settle, results, Try.results38, go_sem]
  exact ⟨a, n, cp, x, ⟨⟨rfl, rfl, rfl⟩, rfl⟩, r1⟩
theorem ask_turns1 (i : Int) (w : World) {R : Option Addr → Nat → Nat → Int → World → Prop} (h : Calls Try.prog 28 #[.int .i64 i] w fun e w' => ∃ a n cp x, e = .returned (.tuple #[.slice a n cp, .int .i64 x]) ∧ R a n cp x w') :
    Calls Try.prog 38 #[.func (.func 28) #[] #[], .int .i64 i] w fun e w' => ∃ a n cp x, e = .returned (.tuple #[.slice a n cp, .int .i64 x]) ∧ R a n cp x w' := by
  have hmf : ∀ (fn : Fn) (first cap : Array Value) (w : World), (Instr.makeFunc fn first cap).run Try.prog w = .ok (.func fn first cap) w := fun _ _ _ _ => rfl
  go_enter_defers Try.func38, Try.ntmps38
  go_wp2_with (go_at_call 28; refine h.mono ?_; rintro e w1 ⟨a, n, cp, x, rfl, r1⟩)
  refine leaves_cons (f := 45) (args := #[]) (by simp) (by simp [go_sem]) ?_
  refine (catch_idle _).mono ?_
  rintro e u' w'' ⟨rfl, rfl, rfl⟩
  simp [Leaves, settle, results, Try.results38, go_sem]
  exact ⟨a, n, cp, x, ⟨⟨rfl, rfl, rfl⟩, rfl⟩, r1⟩
theorem ask_turns2 (i : Int) (w : World) {R : Option Addr → Nat → Nat → Int → World → Prop} (h : Calls Try.prog 30 #[.int .i64 i] w fun e w' => ∃ a n cp x, e = .returned (.tuple #[.slice a n cp, .int .i64 x]) ∧ R a n cp x w') :
    Calls Try.prog 38 #[.func (.func 30) #[] #[], .int .i64 i] w fun e w' => ∃ a n cp x, e = .returned (.tuple #[.slice a n cp, .int .i64 x]) ∧ R a n cp x w' := by
  have hmf : ∀ (fn : Fn) (first cap : Array Value) (w : World), (Instr.makeFunc fn first cap).run Try.prog w = .ok (.func fn first cap) w := fun _ _ _ _ => rfl
  go_enter_defers Try.func38, Try.ntmps38
  go_wp2_with (go_at_call 30; refine h.mono ?_; rintro e w1 ⟨a, n, cp, x, rfl, r1⟩)
  refine leaves_cons (f := 45) (args := #[]) (by simp) (by simp [go_sem]) ?_
  refine (catch_idle _).mono ?_
  rintro e u' w'' ⟨rfl, rfl, rfl⟩
  simp [Leaves, settle, results, Try.results38, go_sem]
  exact ⟨a, n, cp, x, ⟨⟨rfl, rfl, rfl⟩, rfl⟩, r1⟩
theorem ask_ticks1 (i : Int) (x0 : Value) (w : World) {R : Option Addr → Nat → Nat → Int → World → Prop} (h : Calls Try.prog 31 #[.int .i64 i, x0] w fun e w' => ∃ a n cp x, e = .returned (.tuple #[.slice a n cp, .int .i64 x]) ∧ R a n cp x w') :
    Calls Try.prog 38 #[.func (.func 31) #[] #[x0], .int .i64 i] w fun e w' => ∃ a n cp x, e = .returned (.tuple #[.slice a n cp, .int .i64 x]) ∧ R a n cp x w' := by
  have hmf : ∀ (fn : Fn) (first cap : Array Value) (w : World), (Instr.makeFunc fn first cap).run Try.prog w = .ok (.func fn first cap) w := fun _ _ _ _ => rfl
  go_enter_defers Try.func38, Try.ntmps38
  go_wp2_with (go_at_call 31; refine h.mono ?_; rintro e w1 ⟨a, n, cp, x, rfl, r1⟩)
  refine leaves_cons (f := 45) (args := #[]) (by simp) (by simp [go_sem]) ?_
  refine (catch_idle _).mono ?_
  rintro e u' w'' ⟨rfl, rfl, rfl⟩
  simp [Leaves, settle, results, Try.results38, go_sem]
  exact ⟨a, n, cp, x, ⟨⟨rfl, rfl, rfl⟩, rfl⟩, r1⟩
theorem ask_ticks2 (i : Int) (x0 : Value) (w : World) {R : Option Addr → Nat → Nat → Int → World → Prop} (h : Calls Try.prog 32 #[.int .i64 i, x0] w fun e w' => ∃ a n cp x, e = .returned (.tuple #[.slice a n cp, .int .i64 x]) ∧ R a n cp x w') :
    Calls Try.prog 38 #[.func (.func 32) #[] #[x0], .int .i64 i] w fun e w' => ∃ a n cp x, e = .returned (.tuple #[.slice a n cp, .int .i64 x]) ∧ R a n cp x w' := by
  have hmf : ∀ (fn : Fn) (first cap : Array Value) (w : World), (Instr.makeFunc fn first cap).run Try.prog w = .ok (.func fn first cap) w := fun _ _ _ _ => rfl
  go_enter_defers Try.func38, Try.ntmps38
  go_wp2_with (go_at_call 32; refine h.mono ?_; rintro e w1 ⟨a, n, cp, x, rfl, r1⟩)
  refine leaves_cons (f := 45) (args := #[]) (by simp) (by simp [go_sem]) ?_
  refine (catch_idle _).mono ?_
  rintro e u' w'' ⟨rfl, rfl, rfl⟩
  simp [Leaves, settle, results, Try.results38, go_sem]
  exact ⟨a, n, cp, x, ⟨⟨rfl, rfl, rfl⟩, rfl⟩, r1⟩
theorem ask_exact2 (i : Int) (x0 x1 : Value) (w : World) {R : Option Addr → Nat → Nat → Int → World → Prop} (h : Calls Try.prog 16 #[.int .i64 i, x0, x1] w fun e w' => ∃ a n cp x, e = .returned (.tuple #[.slice a n cp, .int .i64 x]) ∧ R a n cp x w') :
    Calls Try.prog 38 #[.func (.func 16) #[] #[x0, x1], .int .i64 i] w fun e w' => ∃ a n cp x, e = .returned (.tuple #[.slice a n cp, .int .i64 x]) ∧ R a n cp x w' := by
  have hmf : ∀ (fn : Fn) (first cap : Array Value) (w : World), (Instr.makeFunc fn first cap).run Try.prog w = .ok (.func fn first cap) w := fun _ _ _ _ => rfl
  go_enter_defers Try.func38, Try.ntmps38
  go_wp2_with (go_at_call 16; refine h.mono ?_; rintro e w1 ⟨a, n, cp, x, rfl, r1⟩)
  refine leaves_cons (f := 45) (args := #[]) (by simp) (by simp [go_sem]) ?_
  refine (catch_idle _).mono ?_
  rintro e u' w'' ⟨rfl, rfl, rfl⟩
  simp [Leaves, settle, results, Try.results38, go_sem]
  exact ⟨a, n, cp, x, ⟨⟨rfl, rfl, rfl⟩, rfl⟩, r1⟩
end Go.Proofs.Ytehphgpkhfokhaa
