/- wire: a sample of bytes. -/
import Derived.Test.YtdfhhfpfnkjbnaaWi
namespace Go.Proofs.Ytdfhhfpfnkjbnaa
open Go.RowKit Go.Conc
/-- two bytes, in two's complement -/
def w16 (u l : Int) : Int := if u * 256 + l ≥ 32768 then u * 256 + l - 65536 else u * 256 + l
theorem wrapi16 (n : Int) : IntKind.i16.wrap n = if n % 65536 ≥ 32768 then n % 65536 - 65536 else n % 65536 := by simp [IntKind.wrap, IntKind.bits, IntKind.signed]
theorem wrapi8 (n : Int) : IntKind.i8.wrap n = if n % 256 ≥ 128 then n % 256 - 256 else n % 256 := by simp [IntKind.wrap, IntKind.bits, IntKind.signed]
theorem or8n (u l : Nat) (hl : l ≤ 255) : (u * 256) ||| l = u * 256 + l := by
  have h := Nat.shiftLeft_add_eq_or_of_lt (a := u) (b := l) (i := 8) (by omega)
  rw [Nat.shiftLeft_eq] at h
  exact h.symm
theorem or8 (u l : Nat) (hu : u ≤ 255) (hl : l ≤ 255) : bits BinOp.or .u16 ((u : Int) * 256) (l : Int) = (u : Int) * 256 + l := by
  have e1 : (BitVec.ofInt 16 ((u : Int) * 256)).toNat = u * 256 := by
    rw [show ((u : Int) * 256) = ((u * 256 : Nat) : Int) by omega, BitVec.ofInt_natCast, BitVec.toNat_ofNat]
    omega
  have e2 : (BitVec.ofInt 16 (l : Int)).toNat = l := by
    rw [BitVec.ofInt_natCast, BitVec.toNat_ofNat]
    omega
  show IntKind.u16.wrap ((BitVec.ofInt 16 ((u : Int) * 256) ||| BitVec.ofInt 16 (l : Int)).toNat) = _
  rw [BitVec.toNat_or, e1, e2, or8n u l hl, IntKind.wrap_u16]
  omega
theorem or8L (u l : Nat) (hu : u ≤ 255) (hl : l ≤ 255) : bits BinOp.or .i64 ((u : Int) * 256) (l : Int) = (u : Int) * 256 + l := by
  have e1 : (BitVec.ofInt 64 ((u : Int) * 256)).toNat = u * 256 := by
    rw [show ((u : Int) * 256) = ((u * 256 : Nat) : Int) by omega, BitVec.ofInt_natCast, BitVec.toNat_ofNat]
    omega
  have e2 : (BitVec.ofInt 64 (l : Int)).toNat = l := by
    rw [BitVec.ofInt_natCast, BitVec.toNat_ofNat]
    omega
  show IntKind.i64.wrap ((BitVec.ofInt 64 ((u : Int) * 256) ||| BitVec.ofInt 64 (l : Int)).toNat) = _
  rw [BitVec.toNat_or, e1, e2, or8n u l hl, IntKind.wrap_i64]
  omega
theorem wrd16 (u l : Int) (h0 : 0 ≤ u) (h1 : u ≤ 255) (h2 : 0 ≤ l) (h3 : l ≤ 255) : wrap64 (IntKind.i16.wrap (bits BinOp.or IntKind.u16 (u * 256) l)) = w16 u l := by
  obtain ⟨a, rfl⟩ := Int.eq_ofNat_of_zero_le h0
  obtain ⟨b, rfl⟩ := Int.eq_ofNat_of_zero_le h2
  rw [or8 a b (by omega) (by omega), wrapi16]
  unfold w16 wrap64
  split <;> omega
set_option maxHeartbeats 1000000 in
theorem word_any (u l : Int) (h0 : 0 ≤ u) (h1 : u ≤ 255) (h2 : 0 ≤ l) (h3 : l ≤ 255) (w : World) : Calls Try.prog 109 #[.int .u8 u, .int .u8 l] w fun e w' => e = .returned (.int .i64 (w16 u l)) ∧ w' = w := by
  go_enter Try.func109, Try.ntmps109
  have HE : Hid (wrap64 (IntKind.i16.wrap (bits BinOp.or IntKind.u16 (u * 256) l)) = w16 u l) := wrd16 u l h0 h1 h2 h3
  go_wp2
  go_ret
  rw [HE.out]
  exact ⟨rfl, rfl⟩
abbrev z4o : Obj := .cells #[.int .i64 0, .int .i64 0, .int .i64 0, .int .i64 0] 72
/-- a sample of eight bytes -/
def unp (b : B8) : Raw := ⟨w16 b.b0 b.b1, w16 b.b2 b.b3, w16 b.b4 b.b5, IntKind.i8.wrap b.b6⟩
/-- each is a byte -/
def B8.ok (b : B8) : Prop := ∀ j, j < 8 → 0 ≤ b.at j ∧ b.at j ≤ 255
/-- what the bytes tell -/
def unpV (b : B8) : Value := if b.b7 = ckTo b 7 then .tuple #[rv (unp b), .bool true] else .tuple #[rv nought, .bool false]
set_option maxRecDepth 20000 in
set_option maxHeartbeats 4000000 in
theorem unpack_any (b : B8) (hb : b.ok) (g o c : Nat) (hc : 8 ≤ c) (w : World) (h : ∀ j, j < 8 → w.cell? ⟨g, o + j, none⟩ = some (.int .u8 (b.at j))) : Calls Try.prog 99 #[.slice (some ⟨g, o, none⟩) 8 c] w fun e w' => e = .returned (unpV b) ∧ Ext w w' := by
  have hx : Ext w (w.alloc z4o) := (Ext.refl w).alloc _
  have hp : Hid (P4 (w.alloc z4o) w.heap.size nought) := p4_at (r := nought) rfl
  have HC : Hid (∀ W, Ext w W → Calls Try.prog 106 #[.slice (some ⟨g, o, none⟩) 7 c] W fun e w' => e = .returned (.int .u8 (ckTo b 7)) ∧ w' = W) := fun W x => wcheck_any b g o c W (fun j hj => x.keepc (h j (by omega)))
  have HB := hb
  obtain ⟨b0, b1, b2, b3, b4, b5, b6, b7⟩ := b
  have k0 := hx.keepc (h 0 (by omega))
  have k1 := hx.keepc (h 1 (by omega))
  have k2 := hx.keepc (h 2 (by omega))
  have k3 := hx.keepc (h 3 (by omega))
  have k4 := hx.keepc (h 4 (by omega))
  have k5 := hx.keepc (h 5 (by omega))
  have k6 := hx.keepc (h 6 (by omega))
  have k7 := hx.keepc (h 7 (by omega))
  simp only [B8.at, Nat.add_zero] at k0 k1 k2 k3 k4 k5 k6 k7
  have W0 : Hid (∀ W, Calls Try.prog 109 #[.int .u8 b0, .int .u8 b1] W fun e w' => e = .returned (.int .i64 (w16 b0 b1)) ∧ w' = W) := word_any b0 b1 (HB 0 (by omega)).1 (HB 0 (by omega)).2 (HB 1 (by omega)).1 (HB 1 (by omega)).2
  have W1 : Hid (∀ W, Calls Try.prog 109 #[.int .u8 b2, .int .u8 b3] W fun e w' => e = .returned (.int .i64 (w16 b2 b3)) ∧ w' = W) := word_any b2 b3 (HB 2 (by omega)).1 (HB 2 (by omega)).2 (HB 3 (by omega)).1 (HB 3 (by omega)).2
  have W2 : Hid (∀ W, Calls Try.prog 109 #[.int .u8 b4, .int .u8 b5] W fun e w' => e = .returned (.int .i64 (w16 b4 b5)) ∧ w' = W) := word_any b4 b5 (HB 4 (by omega)).1 (HB 4 (by omega)).2 (HB 5 (by omega)).1 (HB 5 (by omega)).2
  have HG : Hid (g ≠ w.heap.size) := Nat.ne_of_lt (World.block_lt_of_cell? w ⟨g, o + 0, none⟩ (h 0 (by omega)))
  clear HB hb h
  go_enter Try.func99, Try.ntmps99
  go_upto_region 1 with fail
  have hci : (7 : Int) ≤ (c : Int) := by omega
  have X0 : Hid (Ext w (w.alloc z4o)) := hx
  clear hx
  generalize w.alloc z4o = w1 at *
  have HCC : Hid (∀ n, Calls Try.prog 106 #[.slice (some ⟨g, o, none⟩) 7 c] (w1.drewN n) fun e w' => e = .returned (.int .u8 (ckTo ⟨b0, b1, b2, b3, b4, b5, b6, b7⟩ 7)) ∧ w' = w1.drewN n) := fun n => HC.out _ (X0.out.trans (drewN_ext n))
  have HT : Hid (IntKind.i64.wrap (IntKind.i8.wrap b6) = IntKind.i8.wrap b6) := by show _ = _; rw [wrapi8, IntKind.wrap_i64]; split <;> omega
  have EU : Hid (unpV ⟨b0, b1, b2, b3, b4, b5, b6, b7⟩ = if b7 = ckTo ⟨b0, b1, b2, b3, b4, b5, b6, b7⟩ 7 then .tuple #[.agg #[.int .i64 (w16 b0 b1), .int .i64 (w16 b2 b3), .int .i64 (w16 b4 b5), .int .i64 (IntKind.i8.wrap b6)], .bool true] else .tuple #[.agg #[.int .i64 0, .int .i64 0, .int .i64 0, .int .i64 0], .bool false]) := rfl
  have ng : g ≠ w.heap.size := HG.out
  have ng' : w.heap.size ≠ g := ng.symm
  generalize ckTo ⟨b0, b1, b2, b3, b4, b5, b6, b7⟩ 7 = ck at *
  clear HC
  by_cases hk : b7 = ck
  · have hkb : (b7 != ck) = false := by simp [hk]
    go_quiet (first | (go_at_call 106; exact Calls.quiet_of_same (HCC.out _)))
    obtain ⟨⟨p0, p1, p2, p3⟩, f0, f1, f2, f3⟩ := hp.out
    simp only [nought] at p0 p1 p2 p3
    have XQ : Hid (Ext w (w1.drewN nq)) := X0.out.trans (drewN_ext nq)
    have a0 := (drewN_ext (w := w1) nq).keepc p0
    have a1 := (drewN_ext (w := w1) nq).keepc p1
    have a2 := (drewN_ext (w := w1) nq).keepc p2
    have a3 := (drewN_ext (w := w1) nq).keepc p3
    have l0 := (drewN_ext (w := w1) nq).keepc k0
    have l1 := (drewN_ext (w := w1) nq).keepc k1
    have l2 := (drewN_ext (w := w1) nq).keepc k2
    have l3 := (drewN_ext (w := w1) nq).keepc k3
    have l4 := (drewN_ext (w := w1) nq).keepc k4
    have l5 := (drewN_ext (w := w1) nq).keepc k5
    have l6 := (drewN_ext (w := w1) nq).keepc k6
    have d0 := (drewN_ext (w := w1) nq).keepf p0 f0
    have d1 := (drewN_ext (w := w1) nq).keepf p1 f1
    have d2 := (drewN_ext (w := w1) nq).keepf p2 f2
    have d3 := (drewN_ext (w := w1) nq).keepf p3 f3
    clear p0 p1 p2 p3 f0 f1 f2 f3 k0 k1 k2 k3 k4 k5 k6 k7 hp X0 HCC
    go_upto_region 3 with fail
    generalize w1.drewN nq = w2 at *
    rw [if_pos hk] at EU
    clear hk hkb
    go_region_held3 (fun w' => w'.cell? ⟨g, o, none⟩ = some (.int .u8 b0) ∧ w'.cell? ⟨g, o + 1, none⟩ = some (.int .u8 b1) ∧ w'.cell? ⟨g, o + 2, none⟩ = some (.int .u8 b2) ∧ w'.cell? ⟨g, o + 3, none⟩ = some (.int .u8 b3) ∧ w'.cell? ⟨g, o + 4, none⟩ = some (.int .u8 b4) ∧ w'.cell? ⟨g, o + 5, none⟩ = some (.int .u8 b5) ∧ w'.cell? ⟨g, o + 6, none⟩ = some (.int .u8 b6)) (first | (go_keep; done) | skip) (first | (go_at_call_of 109 (Value.int IntKind.u8 b0); refine (W0.out _).mono ?_; rintro e wx ⟨rfl, hwx⟩; have hwy := hwx.symm; clear hwx; subst hwy) | (go_at_call_of 109 (Value.int IntKind.u8 b2); refine (W1.out _).mono ?_; rintro e wx ⟨rfl, hwx⟩; have hwy := hwx.symm; clear hwx; subst hwy) | (go_at_call_of 109 (Value.int IntKind.u8 b4); refine (W2.out _).mono ?_; rintro e wx ⟨rfl, hwx⟩; have hwy := hwx.symm; clear hwx; subst hwy))
    all_goals
      go_wp2_with fail
      have hx9 : Ext w (put4 w2 w.heap.size 0 ⟨w16 b0 b1, w16 b2 b3, w16 b4 b5, IntKind.i64.wrap (IntKind.i8.wrap b6)⟩).drew := (XQ.out.put4 (Nat.le_refl _) 0 _).drew
      refine bodyPost_ret (v := .tuple #[.agg #[.int .i64 (w16 b0 b1), .int .i64 (w16 b2 b3), .int .i64 (w16 b4 b5), .int .i64 (IntKind.i64.wrap (IntKind.i8.wrap b6))], .bool true]) (by simp [results, Try.results99, go_sem, a0, a1, a2, a3]) rfl ⟨by rw [EU.out, HT.out], hx9⟩
  · have hkb : (b7 != ck) = true := by simp [hk]
    go_quiet (first | (go_at_call 106; exact Calls.quiet_of_same (HCC.out _)))
    obtain ⟨⟨p0, p1, p2, p3⟩, f0, f1, f2, f3⟩ := hp.out
    simp only [nought] at p0 p1 p2 p3
    have XQ : Hid (Ext w (w1.drewN nq)) := X0.out.trans (drewN_ext nq)
    have a0 := (drewN_ext (w := w1) nq).keepc p0
    have a1 := (drewN_ext (w := w1) nq).keepc p1
    have a2 := (drewN_ext (w := w1) nq).keepc p2
    have a3 := (drewN_ext (w := w1) nq).keepc p3
    have d0 := (drewN_ext (w := w1) nq).keepf p0 f0
    have d1 := (drewN_ext (w := w1) nq).keepf p1 f1
    have d2 := (drewN_ext (w := w1) nq).keepf p2 f2
    have d3 := (drewN_ext (w := w1) nq).keepf p3 f3
    clear p0 p1 p2 p3 f0 f1 f2 f3 k0 k1 k2 k3 k4 k5 k6 k7 hp X0 HCC
    generalize w1.drewN nq = w2 at *
    rw [if_neg hk] at EU
    clear hk
    go_wp2_with fail
    have hx9 : Ext w (put4 w2 w.heap.size 0 nought) := XQ.out.put4 (Nat.le_refl _) 0 _
    exact bodyPost_ret (v := .tuple #[.agg #[.int .i64 0, .int .i64 0, .int .i64 0, .int .i64 0], .bool false]) (by simp [results, Try.results99, go_sem, a0, a1, a2, a3]) rfl ⟨by rw [EU.out], hx9⟩
end Go.Proofs.Ytdfhhfpfnkjbnaa
