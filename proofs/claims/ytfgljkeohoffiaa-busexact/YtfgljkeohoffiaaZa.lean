/- BusSamples: a sample's bytes by the reference; what its ticks and transactions come to. -/
import Derived.Test.YtfgljkeohoffiaaGx
namespace Go.Proofs.Ytfgljkeohoffiaa
open Go.RowKit Go.Conc
def ckL (l : List Int) : Nat → Int
  | 0 => 90
  | k + 1 => bits BinOp.xor IntKind.u8 (ckL l k) (l.getD k 0)
set_option maxRecDepth 20000 in
set_option maxHeartbeats 2000000 in
theorem check_any (w : World) (v : Value) (l : List Int) (h : RdB w v l) (hl : l.length = 7) : Calls Try.prog 65 #[v] w fun e w' => e = .returned (.int .u8 (ckL l 7)) ∧ w' = w := by
  obtain ⟨a, c, rfl, hc⟩ := h
  have HC : Hid (∀ j, j < l.length → ∃ b off, a = some ⟨b, off, none⟩ ∧ w.cell? ⟨b, off + j, none⟩ = some (.int .u8 (l.getD j 0))) := hc
  clear hc
  go_enter Try.func65, Try.ntmps65
  go_wp2_with fail
  go_loopw [3, 4] (fun v i wr => ∃ k : Nat, k ≤ 7 ∧ i = .int .i64 k ∧ v = .int .u8 (ckL l k) ∧ wr = w) (fun _ i _ => 7 - (intOf i).toNat)
  case atStart => exact ⟨0, by omega, rfl, rfl, rfl⟩
  case round =>
    obtain ⟨k, hk, rfl, rfl, hw⟩ := hrel
    subst hw
    by_cases hlt : k < 7
    · obtain ⟨b, off, rfl, c0⟩ := HC.out k (by omega)
      have hkl : (k : Int) < (l.length : Int) := by omega
      have es : Hid (ckL l (k + 1) = bits BinOp.xor IntKind.u8 (ckL l k) (l.getD k 0)) := rfl
      generalize l.getD k 0 = y at *
      generalize hc1 : ckL l (k + 1) = c1 at *
      have HC1 : Hid (ckL l (k + 1) = c1) := hc1
      clear hc1
      generalize ckL l k = c2 at *
      go_wp2_with fail
      go_roundw
      case measure => simp [intOf]; omega
      case rel => exact ⟨k + 1, by omega, by simp, by rw [HC1.out, es.out], trivial⟩
    · have hk7 : k = 7 := by omega
      subst hk7
      go_wp2_with fail
      go_ret
      exact ⟨rfl, rfl⟩
/-- the seven bytes ahead of the check -/
def s7 (r : Raw) : List Int := [r.x / 256 % 256, r.x % 256, r.y / 256 % 256, r.y % 256, r.z / 256 % 256, r.z % 256, r.t % 256]
def s7' (r : Raw) : List Int := [r.x / 256 % 256, IntKind.u8.wrap r.x, r.y / 256 % 256, IntKind.u8.wrap r.y, r.z / 256 % 256, IntKind.u8.wrap r.z, IntKind.u8.wrap r.t]
theorem s7_pk (r : Raw) : (pk r).l = s7 r ++ [ckL (s7 r) 7] := by
  have e : s7 r = s7' r := by simp only [s7, s7', IntKind.wrap_u8]
  rw [e]; rfl
set_option maxRecDepth 20000 in
set_option maxHeartbeats 4000000 in
theorem bytes_any (w : World) (r : Raw) : Calls Try.prog 53 #[rv r] w fun e w' => ∃ g c, e = .returned (.slice (some ⟨g, 0, none⟩) 8 c) ∧ w'.ownsRow w.heap.size Eb 1 (.slice (some ⟨g, 0, none⟩) 8 c) 8 (bv (pk r).l) ∧ Ext w w' := by
  obtain ⟨i0, hi, hz0, hz1, hz2⟩ := info_parts Try.infoTb
  have x1 : Ext w (w.alloc (cells4 r)) := (Ext.refl w).alloc _
  have hs : (w.alloc (cells4 r)).heap.size = w.heap.size + 1 := by simp
  have HS : Hid ((w.alloc (cells4 r)).heap.size = w.heap.size + 1) := hs
  have h1 : P4 (w.alloc (cells4 r)) w.heap.size r := p4_at rfl
  obtain ⟨⟨a0, a1, a2, a3⟩, _⟩ := h1
  have HP : Hid (bv (pk r).l = bv (s7 r) ++ [.int .u8 (ckL (s7 r) 7)]) := by show _ = _; rw [s7_pk, bv_app]; rfl
  clear hs
  go_enter Try.func53, Try.ntmps53
  go_upto_region 1 with fail
  generalize w.alloc (cells4 r) = w1 at *
  have HO : Hid ((w1.alloc (.cells (bv (s7 r)).toArray Eb)).ownsRow w.heap.size Eb 1 (.slice (some ⟨w1.heap.size, 0, none⟩) 7 7) 7 (bv (s7 r))) := World.ownsRow_lit w1 (bv (s7 r)).toArray 7 (by rw [HS.out]; omega) (by decide) rfl
  have HX2 : Hid (Ext w (w1.alloc (.cells (bv (s7 r)).toArray Eb))) := x1.alloc _
  have HK := check_any _ _ _ (rdb_row (l := s7 r) HO.out) rfl
  have HOB : Hid (∀ k, (Value.slice (some ⟨w1.heap.size, 0, none⟩) 7 7).ownBlock = some k → w.heap.size ≤ k) := fun k e => (HO.out.lt k e).1
  obtain ⟨x, y, z, t⟩ := r
  generalize hck : ckL (s7 ⟨x, y, z, t⟩) 7 = ck at *
  clear hck
  have hO := HO.out
  have hle : w.heap.size ≤ w1.heap.size + 1 + 1 := by rw [HS.out]; omega
  have hX := HX2.out
  simp only [s7, bv, List.map_cons, List.map_nil] at HK hO hX
  have h63 : 7 + 1 ≤ maxLen := by decide
  go_upto_region 2 with fail
  generalize hw2 : w1.alloc (.cells #[.int .u8 (x / 256 % 256), .int .u8 (x % 256), .int .u8 (y / 256 % 256), .int .u8 (y % 256), .int .u8 (z / 256 % 256), .int .u8 (z % 256), .int .u8 (t % 256)] Eb) = w2 at *
  have hle2 : w.heap.size ≤ w2.heap.size + 1 := by rw [← hw2]; simp; omega
  clear hw2
  go_wp2_with (first | (go_at_call 65; refine HK.mono ?_; rintro e wx ⟨rfl, hwx⟩; have hwy := hwx.symm; clear hwx; subst hwy) | (at_builtin; refine wpList_append_lies _ rfl (.tmp 29) (.tmp 32) 42 rfl w.heap.size Eb i0 (.int .u8 0) 1 1 Try.underlying42 hi hz0 hz1 hz2 rfl (by decide) _ 7 _ rfl (by exact hO.alloc _) ⟨w2.heap.size, 0, none⟩ 1 1 [.int .u8 ck] rfl rfl (by exact one_new w2 _ _) (by simp [Value.oneCell']) (by decide) h63 (by decide) (by simpa using hle2) (w2.heap.size + 1) (by simp) ?_; intro g' cap' w9 hown' hg' hgb hgl; have R1 : Hid (w9.ownsRow w.heap.size Eb 1 (.slice (some ⟨g', 0, none⟩) 8 cap') 8 (bv (pk ⟨x, y, z, t⟩).l) ∧ Ext w w9) := (by refine ⟨?_, row_grown hg' (hO.alloc _) (hX.alloc _) (Nat.le_refl _)⟩; rw [HP.out]; exact hown'); clear hown' hg' hgb hgl))
  go_ret
  exact ⟨g', cap', rfl, R1.out.1, R1.out.2⟩
/-- a device that is on, read out, with n ticks a sample and the next one at k -/
def onD (m : Md) (n k : Nat) : Dv := ⟨m.addr, m.id, m.list, k, true, n, 0, [], 0⟩
theorem ticks_add (s : Dv) (a : Nat) : ∀ b, s.ticks (a + b) = (s.ticks a).ticks b
  | 0 => rfl
  | b + 1 => congrArg Dv.tick (ticks_add s a b)
theorem ticks_up (d : Dv) (n : Nat) (h1 : d.on = true) (h2 : d.per = n) (h3 : d.tk = 0) : ∀ t, t < n → d.ticks t = { d with tk := t }
  | 0, _ => by
    cases d
    simp only at h3
    subst h3; rfl
  | t + 1, ht => by
    have e : d.ticks (t + 1) = (d.ticks t).tick := rfl
    rw [e, ticks_up d n h1 h2 h3 t (by omega)]
    unfold Dv.tick
    rw [if_pos h1, if_neg (by show ¬ d.per ≤ t + 1; omega)]
theorem ticks_n (d : Dv) (n : Nat) (hn : 1 ≤ n) (h1 : d.on = true) (h2 : d.per = n) (h3 : d.tk = 0) : d.ticks n = d.meas := by
  obtain ⟨k, rfl⟩ : ∃ k, n = k + 1 := ⟨n - 1, by omega⟩
  have e : d.ticks (k + 1) = (d.ticks k).tick := rfl
  rw [e, ticks_up d (k + 1) h1 h2 h3 k (by omega)]
  unfold Dv.tick
  rw [if_pos h1, if_pos (by show d.per ≤ k + 1; omega)]
  cases d
  simp only at h3
  subst h3; rfl
/-- two samples -/
def twoD (m : Md) (n k : Nat) : Dv := ⟨m.addr, m.id, m.list, (k + 1 + 1) % m.list.length, true, n, 0, [smp m.list k, smp m.list ((k + 1) % m.list.length)], 0⟩
theorem on_two (m : Md) (n k : Nat) (hn : 1 ≤ n) (hl : 0 < m.list.length) : (onD m n k).ticks (2 * n) = twoD m n k := by
  have hne : m.list.length ≠ 0 := by omega
  have e1 : (onD m n k).meas = ⟨m.addr, m.id, m.list, (k + 1) % m.list.length, true, n, 0, [smp m.list k], 0⟩ := by
    unfold Dv.meas onD
    simp only
    rw [if_neg hne, if_pos (by show (0 : Nat) < 16; omega)]; rfl
  rw [show 2 * n = n + n by omega, ticks_add, ticks_n (onD m n k) n hn rfl rfl rfl, e1]
  rw [ticks_n _ n hn rfl rfl rfl]
  unfold Dv.meas twoD
  simp only
  rw [if_neg hne, if_pos (by show (1 : Nat) < 16; omega)]
  simp [Nat.mod_add_mod]
theorem off_ticks (d : Dv) (h : d.on = false) : ∀ t, d.ticks t = d
  | 0 => rfl
  | t + 1 => by
    have e : d.ticks (t + 1) = (d.ticks t).tick := rfl
    rw [e, off_ticks d h t]
    unfold Dv.tick
    rw [if_neg (by rw [h]; simp)]
/-- one device d, no fault -/
structure SG (s : Bs) (m : Md) (d : Dv) : Prop where
  n1 : s.n = 1
  F0 : s.F = []
  d0 : s.D 0 = d
  ad : d.addr = m.addr
theorem SG.fnd {s : Bs} {m : Md} {d : Dv} (h : SG s m d) : fnd s.D s.n m.addr = some 0 := by
  rw [h.n1]
  exact fnd_some (fun j hj => absurd hj (Nat.not_lt_zero _)) (by rw [h.d0]; exact h.ad) (by omega)
section
variable {w0 wr : World} {y : BA} {s : Bs} {m : Md} {d : Dv}
theorem sg_do (h : Rg w0 wr y s) (hg : SG s m d) (ha : inn m.addr 0 127 = true) (reg : Nat) (a : Option Addr) (l : List Nat) (c n : Nat) (hl : l.length ≤ maxLen) (ho : ∀ x, inn x 0 127 = true → okT x reg l.length n = true) (hb : BR wr a l) (hf : ∀ k off, 0 < l.length → a = some ⟨k, off, none⟩ → ¬ FB y k) (hd : (d.does reg l n).addr = d.addr) :
    Calls Try.prog 16 #[.pointer (some ⟨y.b, 0, none⟩), txv m.addr reg a l.length c n] wr fun e w' => ∃ a' c', e = .returned (.tuple #[ansV 1 (.slice a' (d.tells reg l n).length c'), .int .i64 0]) ∧ RdB w' (.slice a' (d.tells reg l n).length c') (d.tells reg l n) ∧ ∃ s', Rg w0 w' y s' ∧ SG s' m (d.does reg l n) := by
  have e := do_plain s hg.F0 hg.fnd reg l n
  rw [hg.d0] at e
  refine (h.do m.addr reg a l c n hl (ho _ ha) hb hf (no_flt s hg.F0).2).mono ?_
  rintro x w' ⟨a', c', rfl, q1, q2⟩
  rw [e] at q1 q2
  rw [e]
  exact ⟨a', c', rfl, q1, _, q2, hg.n1, hg.F0, upd_at s.D 0 _, hd.trans hg.ad⟩
theorem sg_tick (h : Rg w0 wr y s) (hg : SG s m d) (n : Nat) (hn : n ≤ 1000) (hd : (d.ticks n).addr = d.addr) :
    Calls Try.prog 13 #[.pointer (some ⟨y.b, 0, none⟩), .int .i64 n] wr fun e w' => e = .returned (.int .i64 0) ∧ ∃ s', Rg w0 w' y s' ∧ SG s' m (d.ticks n) := by
  refine (tick_b wr h.b n hn).mono ?_
  rintro e w' ⟨rfl, b⟩
  refine ⟨rfl, _, h.bd b, hg.n1, hg.F0, ?_, hd.trans hg.ad⟩
  show tkTo s.D n s.n 0 = _
  unfold tkTo
  rw [if_pos (by rw [hg.n1]; omega), hg.d0]
theorem SG.new (m : Md) : SG (newB [m] []) m m.dev := ⟨rfl, rfl, rfl, rfl⟩
theorem sg_dev (h : Rg w0 wr y s) (hg : SG s m d) : Calls Try.prog 14 #[.pointer (some ⟨y.b, 0, none⟩), .int .i64 m.addr] wr fun e w' => e = .returned (.tuple #[d.told, .int .i64 0]) ∧ Rg w0 w' y s := by
  refine (dev_any wr h.b m.addr).mono ?_
  rintro e w' ⟨rfl, x⟩
  refine ⟨?_, h.ext x⟩
  unfold devV
  rw [hg.fnd]
  simp only
  rw [hg.d0]
end
end Go.Proofs.Ytfgljkeohoffiaa
