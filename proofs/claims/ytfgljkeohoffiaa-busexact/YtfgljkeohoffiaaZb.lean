/- BusSamples: what its calls come to. -/
import Derived.Test.YtfgljkeohoffiaaZa
namespace Go.Proofs.Ytfgljkeohoffiaa
open Go.RowKit Go.Conc
def perD (m : Md) (n : Nat) : Dv := ⟨m.addr, m.id, m.list, 0, false, n, 0, [], 0⟩
def offD (m : Md) (n k : Nat) : Dv := ⟨m.addr, m.id, m.list, k, false, n, 0, [], 0⟩
theorem does_per (m : Md) (n : Nat) (h : n ≠ 0) : m.dev.does 2 [n] 0 = perD m n := by
  have e : m.dev.does 2 [n] 0 = { m.dev with per := if n = 0 then 256 else n } := rfl
  rw [e, if_neg h]; rfl
theorem does_on (m : Md) (n : Nat) : (perD m n).does 1 [1] 0 = onD m n 0 := rfl
theorem does_off (m : Md) (n k : Nat) : (onD m n k).does 1 [0] 0 = offD m n k := rfl
theorem does_two (m : Md) (n k : Nat) : (twoD m n k).does 4 [] 16 = onD m n ((k + 1 + 1) % m.list.length) := rfl
theorem tells_two (m : Md) (n k : Nat) : (twoD m n k).tells 4 [] 16 = brst [smp m.list k, smp m.list ((k + 1) % m.list.length)] 2 := rfl
theorem okM_parts {m : Md} (hm : okM m = true) : inn m.addr 0 127 = true ∧ m.list.length ≤ 4096 := by
  unfold okM at hm
  simp only [Bool.and_eq_true, decide_eq_true_eq] at hm
  exact ⟨hm.1.1, hm.2.1⟩
section
variable {w0 wr : World} {y : BA} {s : Bs} {m : Md} {d : Dv}
theorem sg_put (h : Rg w0 wr y s) (hg : SG s m d) (hm : okM m = true) (reg b : Nat) (hb : b ≤ 255) (ho : ∀ x, inn x 0 127 = true → okT x reg 1 0 = true) (d' : Dv) (he : d.does reg [b] 0 = d') (hd : d'.addr = d.addr) :
    Calls Try.prog 16 #[.pointer (some ⟨y.b, 0, none⟩), txv m.addr reg (some ⟨wr.heap.size, 0, none⟩) 1 1 0] (wr.alloc (.cells #[.int .u8 b] Eb)) fun e w' => ∃ a' c', e = .returned (.tuple #[ansV 1 (.slice a' 0 c'), .int .i64 0]) ∧ Hid (∃ s', Rg w0 w' y s' ∧ SG s' m d') := by
  subst he
  have x : Ext wr (wr.alloc (.cells #[.int .u8 b] Eb)) := (Ext.refl wr).alloc _
  have hbr : BR (wr.alloc (.cells #[.int .u8 b] Eb)) (some ⟨wr.heap.size, 0, none⟩) [b] := lit_br [b] (fun i hi => by
    match i, hi with
    | 0, _ => exact hb
    | i + 1, h => simp at h)
  refine (sg_do (h.ext x) hg (okM_parts hm).1 reg (some ⟨wr.heap.size, 0, none⟩) [b] 1 0 (by simp [maxLen]) ho hbr (fun k off _ e => h.fresh k off e) hd).mono ?_
  rintro e w' ⟨a', c', rfl, _, q2⟩
  exact ⟨a', c', rfl, q2⟩
theorem sg_get (h : Rg w0 wr y s) (hg : SG s m d) (hm : okM m = true) (reg n : Nat) (ho : ∀ x, inn x 0 127 = true → okT x reg 0 n = true) (d' : Dv) (he : d.does reg [] n = d') (l : List Int) (hl : d.tells reg [] n = l) (hd : d'.addr = d.addr) :
    Calls Try.prog 16 #[.pointer (some ⟨y.b, 0, none⟩), txv m.addr reg none 0 0 n] wr fun e w' => ∃ a' c', e = .returned (.tuple #[ansV 1 (.slice a' l.length c'), .int .i64 0]) ∧ Hid (RdB w' (.slice a' l.length c') l ∧ ∃ s', Rg w0 w' y s' ∧ SG s' m d') := by
  subst he
  subst hl
  refine (sg_do h hg (okM_parts hm).1 reg none [] 0 n (by simp [maxLen]) ho (br_nil _ _) (fun k off h0 => by simp at h0) hd).mono ?_
  rintro e w' ⟨a', c', rfl, q1, q2⟩
  exact ⟨a', c', rfl, q1, q2⟩
theorem s_per (h : Rg w0 wr y s) (hg : SG s m m.dev) (hm : okM m = true) (n : Nat) (h1 : 1 ≤ n) (h2 : n ≤ 255) :
    Calls Try.prog 16 #[.pointer (some ⟨y.b, 0, none⟩), txv m.addr 2 (some ⟨wr.heap.size, 0, none⟩) 1 1 0] (wr.alloc (.cells #[.int .u8 n] Eb)) fun e w' => ∃ a' c', e = .returned (.tuple #[ansV 1 (.slice a' 0 c'), .int .i64 0]) ∧ Hid (∃ s', Rg w0 w' y s' ∧ SG s' m (perD m n)) :=
  sg_put h hg hm 2 n h2 (fun x hx => by unfold okT; rw [hx]; rfl) _ (does_per m n (by omega)) rfl
theorem s_on (h : Rg w0 wr y s) {n : Nat} (hg : SG s m (perD m n)) (hm : okM m = true) :
    Calls Try.prog 16 #[.pointer (some ⟨y.b, 0, none⟩), txv m.addr 1 (some ⟨wr.heap.size, 0, none⟩) 1 1 0] (wr.alloc (.cells #[.int .u8 1] Eb)) fun e w' => ∃ a' c', e = .returned (.tuple #[ansV 1 (.slice a' 0 c'), .int .i64 0]) ∧ Hid (∃ s', Rg w0 w' y s' ∧ SG s' m (onD m n 0)) :=
  sg_put h hg hm 1 1 (by omega) (fun x hx => by unfold okT; rw [hx]; rfl) _ (does_on m n) rfl
theorem s_off (h : Rg w0 wr y s) {n k : Nat} (hg : SG s m (onD m n k)) (hm : okM m = true) :
    Calls Try.prog 16 #[.pointer (some ⟨y.b, 0, none⟩), txv m.addr 1 (some ⟨wr.heap.size, 0, none⟩) 1 1 0] (wr.alloc (.cells #[.int .u8 0] Eb)) fun e w' => ∃ a' c', e = .returned (.tuple #[ansV 1 (.slice a' 0 c'), .int .i64 0]) ∧ Hid (∃ s', Rg w0 w' y s' ∧ SG s' m (offD m n k)) :=
  sg_put h hg hm 1 0 (by omega) (fun x hx => by unfold okT; rw [hx]; rfl) _ (does_off m n k) rfl
theorem s_two (h : Rg w0 wr y s) {n k : Nat} (hg : SG s m (onD m n k)) (h1 : 1 ≤ n) (h2 : n ≤ 7) (hl : 0 < m.list.length) :
    Calls Try.prog 13 #[.pointer (some ⟨y.b, 0, none⟩), .int .i64 (2 * (n : Int))] wr fun e w' => e = .returned (.int .i64 0) ∧ Hid (∃ s', Rg w0 w' y s' ∧ SG s' m (twoD m n k)) := by
  have e := on_two m n k h1 hl
  have := sg_tick h hg (2 * n) (by omega) (by rw [e]; rfl)
  rw [e] at this
  have e2 : ((2 * n : Nat) : Int) = 2 * (n : Int) := by omega
  rw [e2] at this
  exact this
theorem s_still (h : Rg w0 wr y s) {n k : Nat} (hg : SG s m (offD m n k)) :
    Calls Try.prog 13 #[.pointer (some ⟨y.b, 0, none⟩), .int .i64 100] wr fun e w' => e = .returned (.int .i64 0) ∧ Hid (∃ s', Rg w0 w' y s' ∧ SG s' m (offD m n k)) := by
  have e := off_ticks (offD m n k) rfl 100
  have := sg_tick h hg 100 (by omega) (by rw [e])
  rw [e] at this
  exact this
theorem s_len (h : Rg w0 wr y s) {n k : Nat} (hg : SG s m (twoD m n k)) (hm : okM m = true) :
    Calls Try.prog 16 #[.pointer (some ⟨y.b, 0, none⟩), txv m.addr 3 none 0 0 1] wr fun e w' => ∃ a' c', e = .returned (.tuple #[ansV 1 (.slice a' 1 c'), .int .i64 0]) ∧ Hid (RdB w' (.slice a' 1 c') [2] ∧ ∃ s', Rg w0 w' y s' ∧ SG s' m (twoD m n k)) :=
  sg_get h hg hm 3 1 (fun x hx => by unfold okT; rw [hx]; rfl) _ rfl [2] rfl rfl
theorem s_take (h : Rg w0 wr y s) {n k : Nat} (hg : SG s m (twoD m n k)) (hm : okM m = true) :
    Calls Try.prog 16 #[.pointer (some ⟨y.b, 0, none⟩), txv m.addr 4 none 0 0 16] wr fun e w' => ∃ a' c', e = .returned (.tuple #[ansV 1 (.slice a' 16 c'), .int .i64 0]) ∧ Hid (RdB w' (.slice a' 16 c') (brst [smp m.list k, smp m.list ((k + 1) % m.list.length)] 2) ∧ ∃ s', Rg w0 w' y s' ∧ SG s' m (onD m n ((k + 1 + 1) % m.list.length))) :=
  sg_get h hg hm 4 16 (fun x hx => by unfold okT; rw [hx]; rfl) _ (does_two m n k) _ (tells_two m n k) rfl
theorem s_dev (h : Rg w0 wr y s) {n k : Nat} (hg : SG s m (offD m n k)) : Calls Try.prog 14 #[.pointer (some ⟨y.b, 0, none⟩), .int .i64 m.addr] wr fun e w' => e = .returned (.tuple #[.agg #[.int .i64 m.addr, .bool false, .int .i64 n, .int .i64 0, .int .i64 0, .int .i64 k], .int .i64 0]) ∧ Hid (Rg w0 w' y s) := sg_dev h hg
/-- one byte laid out -/
theorem lit1 {w w1 : World} {a : Option Addr} {c : Nat} {x : Int} (h : RdB w (.slice a 1 c) [x]) (e : Ext w w1) :
    Calls Try.prog 28 #[.slice a 1 c, .slice (some ⟨w1.heap.size, 0, none⟩) 1 1] (w1.alloc (.cells #[.int .u8 x] Eb)) fun e w' => e = .returned (.bool true) ∧ Ext w1 w' := by
  have y : Ext w1 (w1.alloc (.cells #[.int .u8 x] Eb)) := (Ext.refl w1).alloc _
  refine (eq_bytes (l := [x]) _ _ _ ((h.ext e).ext y) ⟨_, 1, rfl, fun j hj => ⟨_, _, rfl, ?_⟩⟩ (by simp)).mono ?_
  · match j, hj with
    | 0, _ => simp [go_sem]
    | j + 1, h => simp at h
  · rintro e w' ⟨rfl, z⟩
    exact ⟨rfl, y.trans z⟩
end
/-- two samples of a list that goes round -/
def two (m : Md) (k : Nat) : List Raw := [smp m.list k, smp m.list ((k + 1) % m.list.length)]
theorem two_bytes (m : Md) (k j : Nat) (hk : k < m.list.length) (hj : j < 2) : bv (brst (two m k) (j + 1)) = bv (brst (two m k) j) ++ bv (pk (smp m.list ((k + j) % m.list.length))).l := by
  have e : bq (two m k) j = pk (smp m.list ((k + j) % m.list.length)) := by
    match j, hj with
    | 0, _ => rw [Nat.add_zero, Nat.mod_eq_of_lt hk]; rfl
    | 1, _ => rfl
  show bv (brst (two m k) j ++ (bq (two m k) j).l) = _
  rw [bv_app, e]
/-- j samples stand in the row v, all newer than the world w -/
def Tw (w wr : World) (m : Md) (k j : Nat) (v : Value) : Prop := wr.ownsRow w.heap.size Eb 1 v (8 * j) (bv (brst (two m k) j)) ∧ Ext w wr
theorem row_news {w : World} {B g c : Nat} {l : List Int} (h : w.ownsRow B Eb 1 (.slice (some ⟨g, 0, none⟩) l.length c) l.length (bv l)) : ∀ j u, (bv l)[j]? = some u → w.cell? ((⟨g, 0, none⟩ : Addr).add j) = some u := by
  intro j u hu
  have hj : j < l.length := by
    have := (List.getElem?_eq_some_iff.1 hu).1
    simpa [bv] using this
  obtain ⟨a, c', e, hc⟩ := rdb_row h
  cases e
  obtain ⟨b, off, e2, h2⟩ := hc j hj
  cases e2
  have hadd : (⟨g, 0, none⟩ : Addr).add j = ⟨g, j, none⟩ := by unfold Addr.add; split <;> simp_all
  rw [hadd]
  rw [Nat.zero_add] at h2
  rw [h2, ← hu]
  simp [bv, hj]
end Go.Proofs.Ytfgljkeohoffiaa
