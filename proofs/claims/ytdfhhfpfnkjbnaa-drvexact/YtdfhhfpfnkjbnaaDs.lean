/- drv: Take, in each state. -/
import Derived.Test.YtdfhhfpfnkjbnaaDq
import Derived.Test.YtdfhhfpfnkjbnaaDf
namespace Go.Proofs.Ytdfhhfpfnkjbnaa
open Go.RowKit Go.Conc
/-- eight bytes of an answer -/
def chunkB (data : List Int) (k : Nat) : B8 := ⟨data.getD (8 * k) 0, data.getD (8 * k + 1) 0, data.getD (8 * k + 2) 0, data.getD (8 * k + 3) 0, data.getD (8 * k + 4) 0, data.getD (8 * k + 5) 0, data.getD (8 * k + 6) 0, data.getD (8 * k + 7) 0⟩
theorem chunkB_at (data : List Int) (k j : Nat) (hj : j < 8) : (chunkB data k).at j = data.getD (8 * k + j) 0 := by
  match j, hj with
  | 0, _ | 1, _ | 2, _ | 3, _ | 4, _ | 5, _ | 6, _ | 7, _ => rfl
  | j + 8, h => omega
def fitD (d : Dr) (data : List Int) : Bool := if d.st = 1 then data.getD 0 0 == d.id else if d.st = 4 then decide (data.getD 0 0 ≤ 16) else true
/-- an answer that is good -/
def goodD (d : Dr) (ast : Int) (data : List Int) : Bool := decide (ast = 1) && (decide ((data.length : Int) = txRd d) && fitD d data)
/-- what becomes of it by a good one -/
def gotD (d : Dr) (data : List Int) : Dr :=
  if d.st = 1 then enterD d 2 else if d.st = 2 then enterD d 3 else if d.st = 3 then enterD { d with tried := false } 4
  else if d.st = 4 then (if data.getD 0 0 = 0 then enterD d 4 else { enterD d 5 with left := data.getD 0 0 })
  else if d.st = 5 then enterD { d with bad := (smps (chunkB data) d.bad (List.range d.left.toNat)).2 } 4
  else if d.st = 6 then enterD { d with tried := false } 0 else enterD { d with tried := true } (if d.want = true then 1 else 6)
def rawsD (d : Dr) (data : List Int) : List Raw := if d.st = 5 then (smps (chunkB data) d.bad (List.range d.left.toNat)).1 else []
def takeD (d : Dr) (ast : Int) (data : List Int) : Dr := if goodD d ast data = true then gotD d data else missD d
def toldD (d : Dr) (ast : Int) (data : List Int) : List Raw := if goodD d ast data = true then rawsD d data else []
/-- samples that lie from B on -/
def RawsAt (B : Nat) (l : List Raw) (W : World) (v : Value) : Prop := W.ownsRow B 72 4 v l.length (rvs l)
theorem rawsAt_nil (B : Nat) (W : World) : RawsAt B [] W (.slice none 0 0) := World.ownsRow_nil _ _ _ _
section
variable {w : World} {d : Dr} {ast : Int} {data : List Int} {da : Option Addr} {c : Nat}
/-- what Take is handed, and what it tells -/
def TakeC (w : World) (d : Dr) (ast : Int) (data : List Int) (da : Option Addr) (c : Nat) : Prop :=
  Calls Try.prog 19 #[drv d, .agg #[.int .i64 ast, .slice da data.length c]] w fun e w' => ∃ v, e = .returned (.tuple #[drv (takeD d ast data), v, .bool ((takeD d ast data).st == 8), .int .i64 0]) ∧ RawsAt (w.heap.size + 3) (toldD d ast data) w' v ∧ Ext w w'
theorem rawsAt_tn {l : List Raw} {W W' : World} {v : Value} (h : RawsAt (w.heap.size + 3) l W v) (t : Tn (fun k => k = w.heap.size + 1 + 1) W W') : RawsAt (w.heap.size + 3) l W' v := drow_tn h t (fun k hk _ e => by omega)
theorem told_none (h : goodD d ast data = false) : toldD d ast data = [] := if_neg (by rw [h]; exact Bool.false_ne_true)
theorem told_plain (h : d.st ≠ 5) : toldD d ast data = [] := by
  unfold toldD rawsD
  rw [if_neg h]
  split <;> rfl
/-- a state whose take tells nothing -/
theorem take_plain (hok : okD d = true) (h5 : d.st ≠ 5) (hin : inn d.st 1 7 = true) (fa ff ft : FuncId) (sa : sA d.st = .func (.func fa) #[] #[]) (sf : sF d.st = .func (.func ff) #[] #[]) (st_ : sT d.st = .func (.func ft) #[] #[])
    (ea : ∀ args w, (callFunc fa args).run Try.prog w = .ok (.enter fa args) w) (ef : ∀ args w, (callFunc ff args).run Try.prog w = .ok (.enter ff args) w) (et : ∀ args w, (callFunc ft args).run Try.prog w = .ok (.enter ft args) w)
    (hn : data.length ≤ maxLen) (HA : AskC fa d)
    (HF : (data.length : Int) = txRd d → ∀ W, Ext w W → Calls Try.prog ff #[drv d, .slice da data.length c] W fun e w' => e = .returned (.bool (fitD d data)) ∧ Ext W w')
    (HT : goodD d ast data = true → ∀ W, Ext w W → Calls Try.prog ft #[drv d, .slice da data.length c] W fun e w' => e = .returned (.tuple #[drv (gotD d data), .slice none 0 0]) ∧ Ext W w') : TakeC w d ast data da c := by
  have h := take_good d hok hin fa ff ft sa sf st_ ea ef et ast da data.length c hn w (txRd d) (fitD d data) (gotD d data) (RawsAt (w.heap.size + 3) (toldD d ast data)) (fun W W' v h t => rawsAt_tn h t) (fun W _ hg => by rw [told_none hg]; exact rawsAt_nil _ _)
    (fun W => (HA W).mono fun e w' ⟨a, c, h1, _, h3⟩ => ⟨_, a, _, c, h1, h3⟩) HF (fun hg W x _ => (HT hg W x).mono fun e w' ⟨h1, h2⟩ => ⟨_, h1, by rw [told_plain h5]; exact rawsAt_nil _ _, h2⟩)
  exact h
theorem take1 (addr id : Int) (want : Bool) (per fails : Int) (tried : Bool) (left bad : Int) (hok : okD ⟨addr, id, want, per, 1, fails, tried, left, bad⟩ = true) (hn : data.length ≤ maxLen) (hrd : RdY w 0 da data) (hby : ∀ j, 0 ≤ data.getD j 0 ∧ data.getD j 0 ≤ 255) : TakeC w ⟨addr, id, want, per, 1, fails, tried, left, bad⟩ ast data da c :=
  take_plain hok (show (1 : Int) ≠ 5 by decide) rfl 69 70 71 rfl rfl rfl (enters_of Try.func69 (by kernel_rfl) rfl) (enters_of Try.func70 (by kernel_rfl) rfl) (enters_of Try.func71 (by kernel_rfl) rfl) hn (ask1_any _ rfl) (fun hr W x => by
    obtain ⟨g, o, rfl, _, hc⟩ := hrd 0 (by have : (data.length : Int) = 1 := hr; omega)
    rw [Nat.add_zero] at hc
    exact isown_any addr id want per 1 fails tried left bad g o data.length c (by have : (data.length : Int) = 1 := hr; omega) (data.getD 0 0) (hby 0) W (x.keepc hc)) (fun _ W _ => known_any addr id want per 1 fails tried left bad da data.length c W)
theorem take2 (addr id : Int) (want : Bool) (per fails : Int) (tried : Bool) (left bad : Int) (hok : okD ⟨addr, id, want, per, 2, fails, tried, left, bad⟩ = true) (hn : data.length ≤ maxLen) : TakeC w ⟨addr, id, want, per, 2, fails, tried, left, bad⟩ ast data da c :=
  take_plain hok (show (2 : Int) ≠ 5 by decide) rfl 72 73 74 rfl rfl rfl (enters_of Try.func72 (by kernel_rfl) rfl) (enters_of Try.func73 (by kernel_rfl) rfl) (enters_of Try.func74 (by kernel_rfl) rfl) hn (ask2_any _ rfl) (fun _ W _ => isany_any _ _ W) (fun _ W _ => timed_any addr id want per 2 fails tried left bad da data.length c W)
theorem take3 (addr id : Int) (want : Bool) (per fails : Int) (tried : Bool) (left bad : Int) (hok : okD ⟨addr, id, want, per, 3, fails, tried, left, bad⟩ = true) (hn : data.length ≤ maxLen) : TakeC w ⟨addr, id, want, per, 3, fails, tried, left, bad⟩ ast data da c :=
  take_plain hok (show (3 : Int) ≠ 5 by decide) rfl 75 73 76 rfl rfl rfl (enters_of Try.func75 (by kernel_rfl) rfl) (enters_of Try.func73 (by kernel_rfl) rfl) (enters_of Try.func76 (by kernel_rfl) rfl) hn (ask3_any _ rfl) (fun _ W _ => isany_any _ _ W) (fun _ W _ => started_any addr id want per 3 fails tried left bad da data.length c W)
theorem take4 (addr id : Int) (want : Bool) (per fails : Int) (tried : Bool) (left bad : Int) (hok : okD ⟨addr, id, want, per, 4, fails, tried, left, bad⟩ = true) (hn : data.length ≤ maxLen) (hrd : RdY w 0 da data) (hby : ∀ j, 0 ≤ data.getD j 0 ∧ data.getD j 0 ≤ 255) : TakeC w ⟨addr, id, want, per, 4, fails, tried, left, bad⟩ ast data da c :=
  take_plain hok (show (4 : Int) ≠ 5 by decide) rfl 77 78 79 rfl rfl rfl (enters_of Try.func77 (by kernel_rfl) rfl) (enters_of Try.func78 (by kernel_rfl) rfl) (enters_of Try.func79 (by kernel_rfl) rfl) hn (ask4_any _ rfl) (fun hr W x => by
    obtain ⟨g, o, rfl, _, hc⟩ := hrd 0 (by have : (data.length : Int) = 1 := hr; omega)
    rw [Nat.add_zero] at hc
    exact iscount_any ⟨addr, id, want, per, 4, fails, tried, left, bad⟩ g o data.length c (by have : (data.length : Int) = 1 := hr; omega) (data.getD 0 0) W (x.keepc hc)) (fun hg W x => by
    have hr : (data.length : Int) = 1 := by
      unfold goodD at hg
      simp only [Bool.and_eq_true, decide_eq_true_eq] at hg
      exact hg.2.1
    obtain ⟨g, o, rfl, _, hc⟩ := hrd 0 (by omega)
    rw [Nat.add_zero] at hc
    by_cases hz : data.getD 0 0 = 0
    · have e : gotD ⟨addr, id, want, per, 4, fails, tried, left, bad⟩ data = ⟨addr, id, want, per, 4, 0, tried, 0, bad⟩ := by
        show (if data.getD 0 0 = 0 then _ else _) = _
        rw [if_pos hz]; rfl
      rw [e]
      rw [hz] at hc
      exact counted_z addr id want per 4 fails tried left bad g o data.length c (by omega) W (x.keepc hc)
    · have e : gotD ⟨addr, id, want, per, 4, fails, tried, left, bad⟩ data = ⟨addr, id, want, per, 5, 0, tried, data.getD 0 0, bad⟩ := by
        show (if data.getD 0 0 = 0 then _ else _) = _
        rw [if_neg hz]; rfl
      rw [e]
      exact counted_n addr id want per 4 fails tried left bad (data.getD 0 0) hz (hby 0).1 (hby 0).2 g o data.length c (by omega) W (x.keepc hc))
theorem take6 (addr id : Int) (want : Bool) (per fails : Int) (tried : Bool) (left bad : Int) (hok : okD ⟨addr, id, want, per, 6, fails, tried, left, bad⟩ = true) (hn : data.length ≤ maxLen) : TakeC w ⟨addr, id, want, per, 6, fails, tried, left, bad⟩ ast data da c :=
  take_plain hok (show (6 : Int) ≠ 5 by decide) rfl 82 73 83 rfl rfl rfl (enters_of Try.func82 (by kernel_rfl) rfl) (enters_of Try.func73 (by kernel_rfl) rfl) (enters_of Try.func83 (by kernel_rfl) rfl) hn (ask6_any _ rfl) (fun _ W _ => isany_any _ _ W) (fun _ W _ => stopped_any addr id want per 6 fails tried left bad da data.length c W)
theorem take7 (addr id : Int) (want : Bool) (per fails : Int) (tried : Bool) (left bad : Int) (hok : okD ⟨addr, id, want, per, 7, fails, tried, left, bad⟩ = true) (hn : data.length ≤ maxLen) : TakeC w ⟨addr, id, want, per, 7, fails, tried, left, bad⟩ ast data da c :=
  take_plain hok (show (7 : Int) ≠ 5 by decide) rfl 84 73 85 rfl rfl rfl (enters_of Try.func84 (by kernel_rfl) rfl) (enters_of Try.func73 (by kernel_rfl) rfl) (enters_of Try.func85 (by kernel_rfl) rfl) hn (ask7_any _ rfl) (fun _ W _ => isany_any _ _ W) (fun _ W _ => by
    cases want
    · exact renewed_f addr id per 7 fails tried left bad da data.length c W
    · exact renewed_t addr id per 7 fails tried left bad da data.length c W)
theorem take5 (addr id : Int) (want : Bool) (per fails : Int) (tried : Bool) (left bad : Int) (hok : okD ⟨addr, id, want, per, 5, fails, tried, left, bad⟩ = true) (hn : data.length ≤ maxLen) (hcap : data.length ≤ c) (hrd : RdY w 0 da data) (hby : ∀ j, 0 ≤ data.getD j 0 ∧ data.getD j 0 ≤ 255) : TakeC w ⟨addr, id, want, per, 5, fails, tried, left, bad⟩ ast data da c := by
  have hl : 1 ≤ left ∧ left ≤ 16 := by
    have h := hok
    unfold okD at h
    simp only [Bool.and_eq_true] at h
    exact inn_iff.1 h.1.2
  have hb : 0 ≤ bad ∧ bad ≤ 1099511627776 := by
    have h := hok
    unfold okD at h
    simp only [Bool.and_eq_true] at h
    exact inn_iff.1 h.2
  have hrd8 : txRd ⟨addr, id, want, per, 5, fails, tried, left, bad⟩ = 8 * left := by
    show wrap64 (8 * left) = 8 * left
    unfold wrap64
    omega
  refine take_good ⟨addr, id, want, per, 5, fails, tried, left, bad⟩ hok rfl 80 73 81 rfl rfl rfl (enters_of Try.func80 (by kernel_rfl) rfl) (enters_of Try.func73 (by kernel_rfl) rfl) (enters_of Try.func81 (by kernel_rfl) rfl) ast da data.length c hn w (txRd ⟨addr, id, want, per, 5, fails, tried, left, bad⟩) (fitD ⟨addr, id, want, per, 5, fails, tried, left, bad⟩ data) (gotD ⟨addr, id, want, per, 5, fails, tried, left, bad⟩ data) (RawsAt (w.heap.size + 3) (toldD ⟨addr, id, want, per, 5, fails, tried, left, bad⟩ ast data)) (fun W W' v h t => rawsAt_tn h t) (fun W _ hg => by rw [told_none hg]; exact rawsAt_nil _ _)
    (fun W => (ask5_any ⟨addr, id, want, per, 5, fails, tried, left, bad⟩ rfl W).mono fun e w' ⟨a, c, h1, _, h3⟩ => ⟨_, a, _, c, h1, h3⟩) (fun _ W _ => isany_any _ _ W) (fun hg W x hsz => ?_)
  have hg : goodD ⟨addr, id, want, per, 5, fails, tried, left, bad⟩ ast data = true := hg
  have hlen : (data.length : Int) = 8 * left := by
    have h := hg
    unfold goodD at h
    simp only [Bool.and_eq_true, decide_eq_true_eq] at h
    rw [← hrd8]; exact h.2.1
  have hm : data.length = 8 * left.toNat := by omega
  obtain ⟨g, o, e, _, _⟩ := hrd 0 (by omega)
  have hc : ∀ j, j < data.length → w.cell? ⟨g, o + j, none⟩ = some (.int .u8 (data.getD j 0)) := fun j hj => by
    obtain ⟨b, off, e2, _, h2⟩ := hrd j hj
    rw [e] at e2
    cases e2
    exact h2
  subst e
  rw [hm] at hcap ⊢
  refine (sampled_any ⟨addr, id, want, per, 5, fails, tried, left, bad⟩ g o c left.toNat (by omega) hcap (chunkB data) W hb (fun k hk => ⟨fun j hj => by rw [chunkB_at _ _ _ hj]; exact hby _, fun j hj => by rw [chunkB_at _ _ _ hj, Nat.add_assoc]; exact x.keepc (hc _ (by omega))⟩)).mono ?_
  rintro e w' ⟨v, rfl, h2, h3⟩
  refine ⟨v, rfl, ?_, h3⟩
  have et : toldD ⟨addr, id, want, per, 5, fails, tried, left, bad⟩ ast data = (smps (chunkB data) bad (List.range left.toNat)).1 := by unfold toldD; rw [if_pos hg]; rfl
  rw [et]
  obtain ⟨q1, q2⟩ := h2
  refine ⟨q1, ?_⟩
  rcases q2 with e2 | ⟨g', cap, cur, hv', hb', hr'⟩
  · exact .inl e2
  · exact .inr ⟨g', cap, cur, hv', by omega, hr'⟩
/-- Take of a driver that has a transaction -/
theorem take_any (hok : okD d = true) (hin : inn d.st 1 7 = true) (hn : data.length ≤ maxLen) (hcap : data.length ≤ c) (hrd : RdY w 0 da data) (hby : ∀ j, 0 ≤ data.getD j 0 ∧ data.getD j 0 ≤ 255) : TakeC w d ast data da c := by
  obtain ⟨addr, id, want, per, st, fails, tried, left, bad⟩ := d
  have h := inn_iff.1 hin
  simp only at h
  have hc : st = 1 ∨ st = 2 ∨ st = 3 ∨ st = 4 ∨ st = 5 ∨ st = 6 ∨ st = 7 := by omega
  clear h
  rcases hc with rfl | rfl | rfl | rfl | rfl | rfl | rfl
  · exact take1 _ _ _ _ _ _ _ _ hok hn hrd hby
  · exact take2 _ _ _ _ _ _ _ _ hok hn
  · exact take3 _ _ _ _ _ _ _ _ hok hn
  · exact take4 _ _ _ _ _ _ _ _ hok hn hrd hby
  · exact take5 _ _ _ _ _ _ _ _ hok hn hcap hrd hby
  · exact take6 _ _ _ _ _ _ _ _ hok hn
  · exact take7 _ _ _ _ _ _ _ _ hok hn
end
end Go.Proofs.Ytdfhhfpfnkjbnaa
