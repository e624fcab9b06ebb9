/- wire: what may be handed in; a sample's bytes. -/
import Derived.Test.YtfgljkeohoffiaaGa
namespace Go.Proofs.Ytfgljkeohoffiaa
open Go.RowKit Go.Conc
abbrev c4o (x : Raw) : Obj := .cells #[.int .i64 x.x, .int .i64 x.y, .int .i64 x.z, .int .i64 x.t] Erw
def inn (x a b : Int) : Bool := decide (a ≤ x ∧ x ≤ b)
theorem inn_iff {x a b : Int} : inn x a b = true ↔ a ≤ x ∧ x ≤ b := by simp [inn]
theorem inn_not {x a b : Int} : inn x a b = false ↔ ¬ (a ≤ x ∧ x ≤ b) := by simp [inn]
set_option maxHeartbeats 400000 in
theorem isaddr_any (x : Int) (w : World) : Calls Try.prog 48 #[.int .i64 x] w fun e w' => e = .returned (.bool (inn x 0 127)) ∧ w' = w := by
  by_cases h1 : (0 : Int) ≤ x
  · by_cases h2 : x ≤ (127 : Int)
    · have e : Hid (inn x 0 127 = true) := inn_iff.2 ⟨h1, h2⟩
      go_enter Try.func48, Try.ntmps48
      go_wp2
      go_ret
      rw [e.out]; exact ⟨rfl, rfl⟩
    · have e : Hid (inn x 0 127 = false) := inn_not.2 (fun h => h2 h.2)
      go_enter Try.func48, Try.ntmps48
      go_wp2
      go_ret
      rw [e.out]; exact ⟨rfl, rfl⟩
  · have e : Hid (inn x 0 127 = false) := inn_not.2 (fun h => h1 h.1)
    go_enter Try.func48, Try.ntmps48
    go_wp2
    go_ret
    rw [e.out]; exact ⟨rfl, rfl⟩
set_option maxHeartbeats 400000 in
theorem isid_any (x : Int) (w : World) : Calls Try.prog 54 #[.int .i64 x] w fun e w' => e = .returned (.bool (inn x 0 255)) ∧ w' = w := by
  by_cases h1 : (0 : Int) ≤ x
  · by_cases h2 : x ≤ (255 : Int)
    · have e : Hid (inn x 0 255 = true) := inn_iff.2 ⟨h1, h2⟩
      go_enter Try.func54, Try.ntmps54
      go_wp2
      go_ret
      rw [e.out]; exact ⟨rfl, rfl⟩
    · have e : Hid (inn x 0 255 = false) := inn_not.2 (fun h => h2 h.2)
      go_enter Try.func54, Try.ntmps54
      go_wp2
      go_ret
      rw [e.out]; exact ⟨rfl, rfl⟩
  · have e : Hid (inn x 0 255 = false) := inn_not.2 (fun h => h1 h.1)
    go_enter Try.func54, Try.ntmps54
    go_wp2
    go_ret
    rw [e.out]; exact ⟨rfl, rfl⟩
set_option maxHeartbeats 400000 in
theorem isword_any (x : Int) (w : World) : Calls Try.prog 66 #[.int .i64 x] w fun e w' => e = .returned (.bool (inn x (-32768) 32767)) ∧ w' = w := by
  by_cases h1 : ((-32768) : Int) ≤ x
  · by_cases h2 : x ≤ (32767 : Int)
    · have e : Hid (inn x (-32768) 32767 = true) := inn_iff.2 ⟨h1, h2⟩
      go_enter Try.func66, Try.ntmps66
      go_wp2
      go_ret
      rw [e.out]; exact ⟨rfl, rfl⟩
    · have e : Hid (inn x (-32768) 32767 = false) := inn_not.2 (fun h => h2 h.2)
      go_enter Try.func66, Try.ntmps66
      go_wp2
      go_ret
      rw [e.out]; exact ⟨rfl, rfl⟩
  · have e : Hid (inn x (-32768) 32767 = false) := inn_not.2 (fun h => h1 h.1)
    go_enter Try.func66, Try.ntmps66
    go_wp2
    go_ret
    rw [e.out]; exact ⟨rfl, rfl⟩
set_option maxHeartbeats 400000 in
theorem istemp_any (x : Int) (w : World) : Calls Try.prog 67 #[.int .i64 x] w fun e w' => e = .returned (.bool (inn x (-128) 127)) ∧ w' = w := by
  by_cases h1 : ((-128) : Int) ≤ x
  · by_cases h2 : x ≤ (127 : Int)
    · have e : Hid (inn x (-128) 127 = true) := inn_iff.2 ⟨h1, h2⟩
      go_enter Try.func67, Try.ntmps67
      go_wp2
      go_ret
      rw [e.out]; exact ⟨rfl, rfl⟩
    · have e : Hid (inn x (-128) 127 = false) := inn_not.2 (fun h => h2 h.2)
      go_enter Try.func67, Try.ntmps67
      go_wp2
      go_ret
      rw [e.out]; exact ⟨rfl, rfl⟩
  · have e : Hid (inn x (-128) 127 = false) := inn_not.2 (fun h => h1 h.1)
    go_enter Try.func67, Try.ntmps67
    go_wp2
    go_ret
    rw [e.out]; exact ⟨rfl, rfl⟩
/-- a sample that may be -/
def okR (r : Raw) : Bool := inn r.x (-32768) 32767 && inn r.y (-32768) 32767 && inn r.z (-32768) 32767 && inn r.t (-128) 127
set_option maxRecDepth 20000 in
set_option maxHeartbeats 4000000 in
theorem israw_any (r : Raw) (w : World) : Calls Try.prog 55 #[rv r] w fun e w' => e = .returned (.bool (okR r)) ∧ Ext w w' := by
  have hx : Ext w (w.alloc (c4o r)) := (Ext.refl w).alloc _
  have HX : Hid (∀ w, Calls Try.prog 66 #[.int .i64 r.x] w fun e w' => e = .returned (.bool (inn r.x (-32768) 32767)) ∧ w' = w) := isword_any r.x
  have HY : Hid (∀ w, Calls Try.prog 66 #[.int .i64 r.y] w fun e w' => e = .returned (.bool (inn r.y (-32768) 32767)) ∧ w' = w) := isword_any r.y
  have HZ : Hid (∀ w, Calls Try.prog 66 #[.int .i64 r.z] w fun e w' => e = .returned (.bool (inn r.z (-32768) 32767)) ∧ w' = w) := isword_any r.z
  have HT : Hid (∀ w, Calls Try.prog 67 #[.int .i64 r.t] w fun e w' => e = .returned (.bool (inn r.t (-128) 127)) ∧ w' = w) := istemp_any r.t
  obtain ⟨x, y, z, t⟩ := r
  simp only at HX HY HZ HT
  have ex : Hid (okR ⟨x, y, z, t⟩ = (inn x (-32768) 32767 && inn y (-32768) 32767 && inn z (-32768) 32767 && inn t (-128) 127)) := rfl
  generalize inn x (-32768) 32767 = p1 at *
  generalize inn y (-32768) 32767 = p2 at *
  generalize inn z (-32768) 32767 = p3 at *
  generalize inn t (-128) 127 = p4 at *
  generalize okR ⟨x, y, z, t⟩ = R at *
  cases p1 <;> cases p2 <;> cases p3
  all_goals
    go_enter Try.func55, Try.ntmps55
    go_wp2_with (first | (go_at_call_of 66 (Value.int IntKind.i64 x); refine (HX.out _).mono ?_; rintro e wx ⟨rfl, hwx⟩; have hwy := hwx.symm; clear hwx; subst hwy) | (go_at_call_of 66 (Value.int IntKind.i64 y); refine (HY.out _).mono ?_; rintro e wx ⟨rfl, hwx⟩; have hwy := hwx.symm; clear hwx; subst hwy) | (go_at_call_of 66 (Value.int IntKind.i64 z); refine (HZ.out _).mono ?_; rintro e wx ⟨rfl, hwx⟩; have hwy := hwx.symm; clear hwx; subst hwy) | (go_at_call 67; refine (HT.out _).mono ?_; rintro e wx ⟨rfl, hwx⟩; have hwy := hwx.symm; clear hwx; subst hwy))
    go_ret
    rw [ex.out]
    exact ⟨by first | rfl | simp, hx⟩
set_option maxHeartbeats 400000 in
theorem high_any (n : Int) (w : World) : Calls Try.prog 72 #[.int .i64 n] w fun e w' => e = .returned (.int .u8 (n / 256 % 256)) ∧ w' = w := by
  go_enter Try.func72, Try.ntmps72
  go_wp2
  go_ret
  exact ⟨rfl, rfl⟩
/-- eight bytes -/
structure B8 where
  b0 : Int
  b1 : Int
  b2 : Int
  b3 : Int
  b4 : Int
  b5 : Int
  b6 : Int
  b7 : Int
abbrev c8 (b : B8) : Array Value := #[.int .u8 b.b0, .int .u8 b.b1, .int .u8 b.b2, .int .u8 b.b3, .int .u8 b.b4, .int .u8 b.b5, .int .u8 b.b6, .int .u8 b.b7]
abbrev zero8 : Array Value := #[.int .u8 0, .int .u8 0, .int .u8 0, .int .u8 0, .int .u8 0, .int .u8 0, .int .u8 0, .int .u8 0]
/-- a variable of eight bytes, which may be written -/
def V8 (w : World) (k : Nat) (b : B8) : Prop :=
  (w.cell? ⟨k, 0, none⟩ = some (.int .u8 b.b0) ∧ w.cell? ⟨k, 1, none⟩ = some (.int .u8 b.b1) ∧ w.cell? ⟨k, 2, none⟩ = some (.int .u8 b.b2) ∧ w.cell? ⟨k, 3, none⟩ = some (.int .u8 b.b3) ∧
   w.cell? ⟨k, 4, none⟩ = some (.int .u8 b.b4) ∧ w.cell? ⟨k, 5, none⟩ = some (.int .u8 b.b5) ∧ w.cell? ⟨k, 6, none⟩ = some (.int .u8 b.b6) ∧ w.cell? ⟨k, 7, none⟩ = some (.int .u8 b.b7)) ∧
  w.frozen? ⟨k, 0, none⟩ = false ∧ w.frozen? ⟨k, 1, none⟩ = false ∧ w.frozen? ⟨k, 2, none⟩ = false ∧ w.frozen? ⟨k, 3, none⟩ = false ∧ w.frozen? ⟨k, 4, none⟩ = false ∧ w.frozen? ⟨k, 5, none⟩ = false ∧ w.frozen? ⟨k, 6, none⟩ = false ∧ w.frozen? ⟨k, 7, none⟩ = false
theorem v8_at {w : World} {k : Nat} {T : TypeId} (h : w.heap.size = k) (b : B8) : V8 (w.alloc (.cells (c8 b) T)) k b := by
  subst h
  refine ⟨⟨?_, ?_, ?_, ?_, ?_, ?_, ?_, ?_⟩, ?_, ?_, ?_, ?_, ?_, ?_, ?_, ?_⟩ <;> simp [go_sem]
theorem V8.ext {w w' : World} {k : Nat} {b : B8} (h : V8 w k b) (x : Ext w w') : V8 w' k b := by
  obtain ⟨⟨h0, h1, h2, h3, h4, h5, h6, h7⟩, f0, f1, f2, f3, f4, f5, f6, f7⟩ := h
  exact ⟨⟨x.keepc h0, x.keepc h1, x.keepc h2, x.keepc h3, x.keepc h4, x.keepc h5, x.keepc h6, x.keepc h7⟩, x.keepf h0 f0, x.keepf h1 f1, x.keepf h2 f2, x.keepf h3 f3, x.keepf h4 f4, x.keepf h5 f5, x.keepf h6 f6, x.keepf h7 f7⟩
theorem V8.lt {w : World} {k : Nat} {b : B8} (h : V8 w k b) : k < w.heap.size := World.block_lt_of_cell? w ⟨k, 0, none⟩ h.1.1
/-- eight cells written -/
def put8 (w : World) (k : Nat) (b : B8) : World := (((((((w.setCell ⟨k, 0, none⟩ (.int .u8 b.b0)).setCell ⟨k, 1, none⟩ (.int .u8 b.b1)).setCell ⟨k, 2, none⟩ (.int .u8 b.b2)).setCell ⟨k, 3, none⟩ (.int .u8 b.b3)).setCell ⟨k, 4, none⟩ (.int .u8 b.b4)).setCell ⟨k, 5, none⟩ (.int .u8 b.b5)).setCell ⟨k, 6, none⟩ (.int .u8 b.b6)).setCell ⟨k, 7, none⟩ (.int .u8 b.b7)
theorem Ext.put8 {a w : World} {k : Nat} (h : Ext a w) (hb : a.heap.size ≤ k) (b : B8) : Ext a (put8 w k b) := (((((((h.new hb _ _).new hb _ _).new hb _ _).new hb _ _).new hb _ _).new hb _ _).new hb _ _).new hb _ _
/-- the seven bytes ahead of the check -/
def p7 (r : Raw) (c : Int) : B8 := ⟨r.x / 256 % 256, IntKind.u8.wrap r.x, r.y / 256 % 256, IntKind.u8.wrap r.y, r.z / 256 % 256, IntKind.u8.wrap r.z, IntKind.u8.wrap r.t, c⟩
def B8.at (b : B8) : Nat → Int
  | 0 => b.b0
  | 1 => b.b1
  | 2 => b.b2
  | 3 => b.b3
  | 4 => b.b4
  | 5 => b.b5
  | 6 => b.b6
  | 7 => b.b7
  | _ => 0
theorem V8.cell {w : World} {k : Nat} {b : B8} (h : V8 w k b) {j : Nat} (hj : j < 8) : w.cell? ⟨k, j, none⟩ = some (.int .u8 (b.at j)) := by
  obtain ⟨⟨h0, h1, h2, h3, h4, h5, h6, h7⟩, _⟩ := h
  match j, hj with
  | 0, _ => exact h0
  | 1, _ => exact h1
  | 2, _ => exact h2
  | 3, _ => exact h3
  | 4, _ => exact h4
  | 5, _ => exact h5
  | 6, _ => exact h6
  | 7, _ => exact h7
  | j + 8, h => omega
def ckTo (b : B8) : Nat → Int
  | 0 => 90
  | k + 1 => bits BinOp.xor IntKind.u8 (ckTo b k) (b.at k)
/-- a sample's bytes -/
def pk (r : Raw) : B8 := p7 r (ckTo (p7 r 0) 7)
set_option maxHeartbeats 1000000 in
theorem wcheck_any (bb : B8) (g o c : Nat) (w : World) (h : ∀ j, j < 7 → w.cell? ⟨g, o + j, none⟩ = some (.int .u8 (bb.at j))) : Calls Try.prog 73 #[.slice (some ⟨g, o, none⟩) 7 c] w fun e w' => e = .returned (.int .u8 (ckTo bb 7)) ∧ w' = w := by
  have H : Hid (∀ j, j < 7 → w.cell? ⟨g, o + j, none⟩ = some (.int .u8 (bb.at j))) := h
  clear h
  go_enter Try.func73, Try.ntmps73
  go_wp2_with fail
  go_loopw [3, 8] (fun v i wr => ∃ k : Nat, k ≤ 7 ∧ i = .int .i64 k ∧ v = .int .u8 (ckTo bb k) ∧ w = wr) (fun _ i _ => 7 - (intOf i).toNat)
  case atStart => exact ⟨0, by omega, rfl, rfl, rfl⟩
  case round =>
    obtain ⟨k, hk, rfl, rfl, rfl⟩ := hrel
    by_cases hlt : k < 7
    · have hlti : (k : Int) < 7 := by omega
      have hc := H.out k hlt
      go_wp2_with fail
      go_roundw
      case measure => simp [intOf]; omega
      case rel => exact ⟨k + 1, by omega, by simp, rfl, trivial⟩
    · have hk7 : k = 7 := by omega
      subst hk7
      go_wp2_with fail
      go_ret
      exact ⟨rfl, rfl⟩
set_option maxRecDepth 20000 in
set_option maxHeartbeats 2000000 in
theorem pack_any (r : Raw) (w : World) : Calls Try.prog 63 #[rv r] w fun e w' => e = .returned (.agg (c8 (pk r))) ∧ Ext w w' := by
  have HH : Hid (∀ n wr, Calls Try.prog 72 #[.int .i64 n] wr fun e w' => e = .returned (.int .u8 (n / 256 % 256)) ∧ w' = wr) := high_any
  go_enter Try.func63, Try.ntmps63
  go_upto_region 1 with fail
  have hx : Ext w ((w.alloc (c4o r)).alloc (.cells zero8 114)) := ((Ext.refl w).alloc _).alloc _
  have h1 : P4 ((w.alloc (c4o r)).alloc (.cells zero8 114)) w.heap.size r := (p4_at rfl).alloc _
  have h2 : Hid (V8 ((w.alloc (c4o r)).alloc (.cells zero8 114)) (w.heap.size + 1) ⟨0, 0, 0, 0, 0, 0, 0, 0⟩) := v8_at (by simp) ⟨0, 0, 0, 0, 0, 0, 0, 0⟩
  have hs : ((w.alloc (c4o r)).alloc (.cells zero8 114)).heap.size = w.heap.size + 1 + 1 := by simp
  have HS : Hid (((w.alloc (c4o r)).alloc (.cells zero8 114)).heap.size = w.heap.size + 1 + 1) := hs
  obtain ⟨⟨a0, a1, a2, a3⟩, _⟩ := h1
  clear hs
  generalize ((w.alloc (c4o r)).alloc (.cells zero8 114)) = w1 at *
  have lt1 : w.heap.size < w1.heap.size := by rw [HS.out]; omega
  have n1 := Nat.ne_of_lt lt1
  have n2 := Nat.ne_of_gt lt1
  obtain ⟨x, y, z, t⟩ := r
  simp only at a0 a1 a2 a3
  go_cut [3] (fun v wx => v = .pointer (some ⟨w1.heap.size, 0, none⟩) ∧ Hid (Ext w1 wx ∧ V8 wx w1.heap.size (p7 ⟨x, y, z, t⟩ 0)))
  case first =>
    go_region_held3 (fun w' => w'.cell? ⟨w.heap.size, 0, none⟩ = some (.int .i64 x) ∧ w'.cell? ⟨w.heap.size, 1, none⟩ = some (.int .i64 y) ∧ w'.cell? ⟨w.heap.size, 2, none⟩ = some (.int .i64 z) ∧ w'.cell? ⟨w.heap.size, 3, none⟩ = some (.int .i64 t)) (first | (go_keep; done) | skip) (first | (go_at_call_of 72 (Value.int IntKind.i64 x); refine (HH.out _ _).mono ?_; rintro e w2 ⟨rfl, rfl⟩) | (go_at_call_of 72 (Value.int IntKind.i64 y); refine (HH.out _ _).mono ?_; rintro e w2 ⟨rfl, rfl⟩) | (go_at_call_of 72 (Value.int IntKind.i64 z); refine (HH.out _ _).mono ?_; rintro e w2 ⟨rfl, rfl⟩))
    all_goals
      go_wp2_with fail
      go_meet
      exact ⟨rfl, ((Ext.refl w1).alloc _).drew, v8_at rfl (p7 ⟨x, y, z, t⟩ 0)⟩
  case rest =>
    obtain ⟨rfl, hcut⟩ := hcut
    have HB : Hid (pk ⟨x, y, z, t⟩ = { p7 ⟨x, y, z, t⟩ 0 with b7 := ckTo (p7 ⟨x, y, z, t⟩ 0) 7 }) := rfl
    generalize (p7 ⟨x, y, z, t⟩ 0) = bb at *
    have HC := wcheck_any bb w1.heap.size 0 8 wc (fun j hj => by rw [Nat.zero_add]; exact hcut.out.2.cell (j := j) (by omega))
    have h2' := h2.out.ext hcut.out.1
    obtain ⟨⟨z0, z1, z2, z3, z4, z5, z6, z7⟩, g0, g1, g2, g3, g4, g5, g6, g7⟩ := h2'
    obtain ⟨⟨y0, y1, y2, y3, y4, y5, y6, y7⟩, f0, f1, f2, f3, f4, f5, f6, f7⟩ := hcut.out.2
    have lt2 : w.heap.size + 1 < w1.heap.size := by rw [HS.out]; omega
    have m1 := Nat.ne_of_lt lt2
    have m2 := Nat.ne_of_gt lt2
    generalize ckTo bb 7 = ck at *
    have hx1 : Ext w wc := hx.trans hcut.out.1
    have le1 : w.heap.size ≤ w1.heap.size := by omega
    have hx9 : Ext w (put8 (wc.setCell ⟨w1.heap.size, 7, none⟩ (.int .u8 ck)) (w.heap.size + 1) { bb with b7 := ck }) := (hx1.new le1 7 (.int .u8 ck)).put8 (Nat.le_succ _) _
    go_wp2_with (go_at_call 73; refine HC.mono ?_; rintro e wx ⟨rfl, hwx⟩; have hwy := hwx.symm; clear hwx; subst hwy)
    refine bodyPost_ret (v := .agg (c8 { bb with b7 := ck })) (by simp [results, Try.results63, go_sem, z0, z1, z2, z3, z4, z5, z6, z7]) rfl ⟨?_, hx9⟩
    rw [HB.out]
end Go.Proofs.Ytfgljkeohoffiaa
