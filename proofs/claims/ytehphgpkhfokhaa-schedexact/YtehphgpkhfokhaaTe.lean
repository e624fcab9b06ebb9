/- SchedTicks: what calls do to two tables. -/
import Derived.Test.YtehphgpkhfokhaaTc
namespace Go.Proofs.Ytehphgpkhfokhaa
open Go.RowKit Go.Conc
/-- two tables, at ta and tb -/
def Pk (F : Nat → Prop) (w wr : World) (ta tb : Nat) (sa sb : St) : Prop :=
  ∃ (ba : Nat) (ca : Nat → Nat) (va : Value) (bb : Nat) (cb : Nat → Nat) (vb : Value), Tw F w wr ta ba ca va sa tb bb cb vb sb
def Keep (F : Nat → Prop) (w w' : World) : Prop := ∀ k j u, F k → w.cell? ⟨k, j, none⟩ = some u → w'.cell? ⟨k, j, none⟩ = some u
/-- the slice u tells the numbers of l, which lie in F -/
def RdG (F : Nat → Prop) (w : World) (u : Value) (l : List Int) : Prop :=
  ∃ a cap, u = .slice a l.length cap ∧ ∀ j, j < l.length → ∃ b off, a = some ⟨b, off, none⟩ ∧ F b ∧ w.cell? ⟨b, off + j, none⟩ = some (.int .i64 (gi l j))
section
variable {F : Nat → Prop} {w wr w' : World} {ta tb : Nat} {sa sb : St}
theorem RdG.keep {u : Value} {l : List Int} (h : RdG F wr u l) (k : Keep F wr w') : RdG F w' u l := by
  obtain ⟨a, cap, e, h⟩ := h
  refine ⟨a, cap, e, fun j hj => ?_⟩
  obtain ⟨b, off, h1, h2, h3⟩ := h j hj
  exact ⟨b, off, h1, h2, k _ _ _ h2 h3⟩
theorem RdG.mono {F' : Nat → Prop} {u : Value} {l : List Int} (h : RdG F wr u l) (k : ∀ b, F b → F' b) : RdG F' wr u l := by
  obtain ⟨a, cap, e, h⟩ := h
  refine ⟨a, cap, e, fun j hj => ?_⟩
  obtain ⟨b, off, h1, h2, h3⟩ := h j hj
  exact ⟨b, off, h1, k _ h2, h3⟩
theorem RdG.rd {u : Value} {l : List Int} (h : RdG F wr u l) : RdI wr u l := by
  obtain ⟨a, cap, e, h⟩ := h
  refine ⟨a, cap, e, fun j hj => ?_⟩
  obtain ⟨b, off, h1, h2, h3⟩ := h j hj
  exact ⟨b, off, h1, h3⟩
theorem Pk.x (h : Pk F w wr ta tb sa sb) : Ext w wr := by
  obtain ⟨_, _, _, _, _, _, h⟩ := h
  exact h.a.x
theorem Pk.ext (h : Pk F w wr ta tb sa sb) (x : Ext wr w') : Pk F w w' ta tb sa sb := by
  obtain ⟨_, _, _, _, _, _, h⟩ := h
  exact ⟨_, _, _, _, _, _, h.ext x⟩
theorem Pk.swap (h : Pk F w wr ta tb sa sb) : Pk F w wr tb ta sb sa := by
  obtain ⟨_, _, _, _, _, _, h⟩ := h
  exact ⟨_, _, _, _, _, _, h.swap⟩
theorem Pk.mono {F' : Nat → Prop} (h : Pk F w wr ta tb sa sb) (k : ∀ b, F' b → F b) : Pk F' w wr ta tb sa sb := by
  obtain ⟨_, _, _, _, _, _, h⟩ := h
  exact ⟨_, _, _, _, _, _, h.frame (fun b o => .inl (k b o))⟩
/-- a new block -/
theorem Pk.more (h : Pk F w wr ta tb sa sb) (o : Obj) : Pk (fun k => F k ∨ k = wr.heap.size) w (wr.alloc o) ta tb sa sb := by
  obtain ⟨_, _, _, _, _, _, h⟩ := h
  refine ⟨_, _, _, _, _, _, (h.ext ((Ext.refl wr).alloc o)).frame (fun k z => ?_)⟩
  rcases z with z | z
  · exact .inl z
  · refine .inr ⟨fun o' => ?_, fun o' => ?_, by rw [z]; simp⟩
    · have := h.a.tab.lt k o'; omega
    · have := h.b.tab.lt k o'; omega
theorem pk_wake (i : Int) (h : Pk F w wr ta tb sa sb) :
    Calls Try.prog 13 #[.pointer (some ⟨ta, 0, none⟩), .int .i64 i] wr fun e w' => e = .returned (.int .i64 (werr sa.A i)) ∧ Pk F w w' ta tb { sa with A := wk sa.A i } sb ∧ Keep F wr w' := by
  obtain ⟨_, _, _, _, _, _, h⟩ := h
  refine (wake_any i wr h.a.tab).mono ?_
  rintro e w' ⟨rfl, d⟩
  exact ⟨rfl, ⟨_, _, _, _, _, _, h.left d⟩, fun k j u hk hc => h.keepl d hk hc⟩
theorem pk_tick (n : Int) (h : Pk F w wr ta tb sa sb) (hn : tickOk sa n) (hT : sa.T ≤ 100000) :
    Calls Try.prog 24 #[.pointer (some ⟨ta, 0, none⟩), .int .i64 n] wr fun e w' => e = .returned (.int .i64 0) ∧ Pk F w w' ta tb (ticked sa n) sb ∧ Keep F wr w' := by
  obtain ⟨_, _, _, _, _, _, h⟩ := h
  refine (tick_any n wr h.a.tab hn hT).mono ?_
  rintro e w' ⟨rfl, v', d⟩
  exact ⟨rfl, ⟨_, _, _, _, _, _, h.left d⟩, fun k j u hk hc => h.keepl d hk hc⟩
theorem pk_now (h : Pk F w wr ta tb sa sb) :
    Calls Try.prog 25 #[.pointer (some ⟨ta, 0, none⟩)] wr fun e w' => e = .returned (.int .i64 sa.now) ∧ w' = wr := by
  obtain ⟨_, _, _, _, _, _, h⟩ := h
  exact now_any wr h.a.tab
theorem pk_awake (h : Pk F w wr ta tb sa sb) :
    Calls Try.prog 26 #[.pointer (some ⟨ta, 0, none⟩)] wr fun e w' => ∃ a cap, e = .returned (.slice a (ups sa.A sa.A.length).length cap) ∧ RdI w' (.slice a (ups sa.A sa.A.length).length cap) (ups sa.A sa.A.length) ∧ Ext wr w' := by
  obtain ⟨_, _, _, _, _, _, h⟩ := h
  refine (awake_any wr h.a.tab).mono ?_
  rintro e w' ⟨r, rfl, q1, q2⟩
  obtain ⟨a, cap, rfl, _⟩ := row_shape q1
  exact ⟨a, cap, rfl, rdi_row q1, q2⟩
theorem pk_run (most : Nat) (fn : Fn) (fa fc : Array Value) (told : Told) {I : Nat → World → Prop} (h : Pk F w wr ta tb sa sb) (hm : most ≤ 256) (hT : sa.T + most ≤ 100000) (hf : ∀ t b c v n, (∀ k, F k → ¬ OwnT t b c n v k ∧ k < wr.heap.size) → Fair t b c v n (fun _ => False) I wr) (hI : I 0 wr) (ha : Asks (.func fn fa fc) told (fun _ => False) I sa.A.length wr) (hl : ∀ k i, (told k i).1.length ≤ 100000 ∧ -9223372036854775808 ≤ (told k i).2 ∧ (told k i).2 ≤ 9223372036854775807) :
    Calls Try.prog 14 #[.pointer (some ⟨ta, 0, none⟩), .int .i64 most, .func fn fa fc] wr fun e w' => ∃ a cap, e = .returned (.tuple #[.slice a (runs told most 0 sa).1.length cap, .int .i64 0]) ∧ Pk (fun k => F k ∨ (Value.slice a (runs told most 0 sa).1.length cap).ownBlock = some k) w w' ta tb (runs told most 0 sa).2.1 sb ∧ RdG (fun k => (Value.slice a (runs told most 0 sa).1.length cap).ownBlock = some k) w' (.slice a (runs told most 0 sa).1.length cap) (runs told most 0 sa).1 ∧ Keep F wr w' := by
  obtain ⟨ba, ca, va, bb, cb, vb, h⟩ := h
  refine (run_any most fn fa fc told 0 wr hm h.a.tab hT (hf _ _ _ _ _ (fun k z => ⟨(h.f k z).1, (h.f k z).2.2⟩)) hI ha hl).mono ?_
  rintro e w' ⟨a, cap, v', rfl, r⟩
  have d := r.plain
  refine ⟨a, cap, rfl, ⟨ba, ca, v', bb, cb, vb, (h.left d).frame (fun k z => ?_)⟩, ?_, fun k j u hk hc => h.keepl d hk hc⟩
  · rcases z with z | z
    · exact .inl z
    · have q := r.row.lt k z
      refine .inr ⟨?_, fun o' => ?_, q.2⟩
      · rw [d.len]; exact r.far k z
      · have := h.b.tab.lt k o'; omega
  · have rd := rdi_row r.row
    obtain ⟨a', cap', e, hr⟩ := rd
    refine ⟨a', cap', e, fun j hj => ?_⟩
    obtain ⟨g, he, _⟩ := row_shape r.row
    obtain ⟨b, off, h1, h2⟩ := hr j hj
    simp only [Value.slice.injEq, true_and] at e
    refine ⟨b, off, h1, ?_, h2⟩
    rw [e.1, h1]; rfl
end
end Go.Proofs.Ytehphgpkhfokhaa
