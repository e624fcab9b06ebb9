/- A sample's bytes. -/
import Derived.Test.YtpalkiffoognoaaGg
namespace Go.Proofs.Ytpalkiffoognoaa
open Go.RowKit Go.Conc
set_option maxHeartbeats 400000 in
theorem high_any (n : Int) (w : World) : Calls Try.prog 72 #[.int .i64 n] w fun e w' => e = .returned (.int .u8 (n / 256 % 256)) ∧ w' = w := by
  go_enter Try.func72, Try.ntmps72
  go_wp2
  go_ret
  exact ⟨rfl, rfl⟩
/-- eight bytes -/
structure B8 where
  b0 : Int
  b1 : Int
  b2 : Int
  b3 : Int
  b4 : Int
  b5 : Int
  b6 : Int
  b7 : Int
abbrev c8 (b : B8) : Array Value := #[.int .u8 b.b0, .int .u8 b.b1, .int .u8 b.b2, .int .u8 b.b3, .int .u8 b.b4, .int .u8 b.b5, .int .u8 b.b6, .int .u8 b.b7]
abbrev zero8 : Array Value := #[.int .u8 0, .int .u8 0, .int .u8 0, .int .u8 0, .int .u8 0, .int .u8 0, .int .u8 0, .int .u8 0]
/-- a variable of eight bytes, which may be written -/
def V8 (w : World) (k : Nat) (b : B8) : Prop :=
  (w.cell? ⟨k, 0, none⟩ = some (.int .u8 b.b0) ∧ w.cell? ⟨k, 1, none⟩ = some (.int .u8 b.b1) ∧ w.cell? ⟨k, 2, none⟩ = some (.int .u8 b.b2) ∧ w.cell? ⟨k, 3, none⟩ = some (.int .u8 b.b3) ∧
   w.cell? ⟨k, 4, none⟩ = some (.int .u8 b.b4) ∧ w.cell? ⟨k, 5, none⟩ = some (.int .u8 b.b5) ∧ w.cell? ⟨k, 6, none⟩ = some (.int .u8 b.b6) ∧ w.cell? ⟨k, 7, none⟩ = some (.int .u8 b.b7)) ∧
  w.frozen? ⟨k, 0, none⟩ = false ∧ w.frozen? ⟨k, 1, none⟩ = false ∧ w.frozen? ⟨k, 2, none⟩ = false ∧ w.frozen? ⟨k, 3, none⟩ = false ∧ w.frozen? ⟨k, 4, none⟩ = false ∧ w.frozen? ⟨k, 5, none⟩ = false ∧ w.frozen? ⟨k, 6, none⟩ = false ∧ w.frozen? ⟨k, 7, none⟩ = false
theorem v8_at {w : World} {k : Nat} {T : TypeId} (h : w.heap.size = k) (b : B8) : V8 (w.alloc (.cells (c8 b) T)) k b := by
  subst h
  refine ⟨⟨?_, ?_, ?_, ?_, ?_, ?_, ?_, ?_⟩, ?_, ?_, ?_, ?_, ?_, ?_, ?_, ?_⟩ <;> simp [go_sem]
theorem V8.ext {w w' : World} {k : Nat} {b : B8} (h : V8 w k b) (x : Ext w w') : V8 w' k b := by
  obtain ⟨⟨h0, h1, h2, h3, h4, h5, h6, h7⟩, f0, f1, f2, f3, f4, f5, f6, f7⟩ := h
  exact ⟨⟨x.keepc h0, x.keepc h1, x.keepc h2, x.keepc h3, x.keepc h4, x.keepc h5, x.keepc h6, x.keepc h7⟩, x.keepf h0 f0, x.keepf h1 f1, x.keepf h2 f2, x.keepf h3 f3, x.keepf h4 f4, x.keepf h5 f5, x.keepf h6 f6, x.keepf h7 f7⟩
theorem V8.lt {w : World} {k : Nat} {b : B8} (h : V8 w k b) : k < w.heap.size := World.block_lt_of_cell? w ⟨k, 0, none⟩ h.1.1
/-- eight cells written -/
def put8 (w : World) (k : Nat) (b : B8) : World := (((((((w.setCell ⟨k, 0, none⟩ (.int .u8 b.b0)).setCell ⟨k, 1, none⟩ (.int .u8 b.b1)).setCell ⟨k, 2, none⟩ (.int .u8 b.b2)).setCell ⟨k, 3, none⟩ (.int .u8 b.b3)).setCell ⟨k, 4, none⟩ (.int .u8 b.b4)).setCell ⟨k, 5, none⟩ (.int .u8 b.b5)).setCell ⟨k, 6, none⟩ (.int .u8 b.b6)).setCell ⟨k, 7, none⟩ (.int .u8 b.b7)
theorem Ext.put8 {a w : World} {k : Nat} (h : Ext a w) (hb : a.heap.size ≤ k) (b : B8) : Ext a (put8 w k b) := (((((((h.new hb _ _).new hb _ _).new hb _ _).new hb _ _).new hb _ _).new hb _ _).new hb _ _).new hb _ _
/-- the seven bytes ahead of the check -/
def p7 (r : Raw) (c : Int) : B8 := ⟨r.x / 256 % 256, IntKind.u8.wrap r.x, r.y / 256 % 256, IntKind.u8.wrap r.y, r.z / 256 % 256, IntKind.u8.wrap r.z, IntKind.u8.wrap r.t, c⟩
def B8.at (b : B8) : Nat → Int
  | 0 => b.b0
  | 1 => b.b1
  | 2 => b.b2
  | 3 => b.b3
  | 4 => b.b4
  | 5 => b.b5
  | 6 => b.b6
  | 7 => b.b7
  | _ => 0
theorem V8.cell {w : World} {k : Nat} {b : B8} (h : V8 w k b) {j : Nat} (hj : j < 8) : w.cell? ⟨k, j, none⟩ = some (.int .u8 (b.at j)) := by
  obtain ⟨⟨h0, h1, h2, h3, h4, h5, h6, h7⟩, _⟩ := h
  match j, hj with
  | 0, _ => exact h0
  | 1, _ => exact h1
  | 2, _ => exact h2
  | 3, _ => exact h3
  | 4, _ => exact h4
  | 5, _ => exact h5
  | 6, _ => exact h6
  | 7, _ => exact h7
  | j + 8, h => omega
def ckTo (b : B8) : Nat → Int
  | 0 => 90
  | k + 1 => bits BinOp.xor IntKind.u8 (ckTo b k) (b.at k)
/-- a sample's bytes -/
def pk (r : Raw) : B8 := p7 r (ckTo (p7 r 0) 7)
set_option maxRecDepth 20000 in
set_option maxHeartbeats 2000000 in
theorem pack_any (r : Raw) (w : World) : Calls Try.prog 65 #[rv r] w fun e w' => e = .returned (.agg (c8 (pk r))) ∧ Ext w w' := by
  have HH : Hid (∀ n wr, Calls Try.prog 72 #[.int .i64 n] wr fun e w' => e = .returned (.int .u8 (n / 256 % 256)) ∧ w' = wr) := high_any
  go_enter Try.func65, Try.ntmps65
  go_upto_region 1 with fail
  have hx : Ext w ((w.alloc (cells4 r)).alloc (.cells zero8 114)) := ((Ext.refl w).alloc _).alloc _
  have h1 : P4 ((w.alloc (cells4 r)).alloc (.cells zero8 114)) w.heap.size r := (p4_at rfl).alloc _
  have h2 : Hid (V8 ((w.alloc (cells4 r)).alloc (.cells zero8 114)) (w.heap.size + 1) ⟨0, 0, 0, 0, 0, 0, 0, 0⟩) := v8_at (by simp) ⟨0, 0, 0, 0, 0, 0, 0, 0⟩
  have hs : ((w.alloc (cells4 r)).alloc (.cells zero8 114)).heap.size = w.heap.size + 1 + 1 := by simp
  have HS : Hid (((w.alloc (cells4 r)).alloc (.cells zero8 114)).heap.size = w.heap.size + 1 + 1) := hs
  obtain ⟨⟨a0, a1, a2, a3⟩, _⟩ := h1
  clear hs
  generalize ((w.alloc (cells4 r)).alloc (.cells zero8 114)) = w1 at *
  have lt1 : w.heap.size < w1.heap.size := by rw [HS.out]; omega
  have n1 := Nat.ne_of_lt lt1
  have n2 := Nat.ne_of_gt lt1
  obtain ⟨x, y, z, t⟩ := r
  simp only at a0 a1 a2 a3
  go_cut [3] (fun v wx => v = .pointer (some ⟨w1.heap.size, 0, none⟩) ∧ Hid (Ext w1 wx ∧ V8 wx w1.heap.size (p7 ⟨x, y, z, t⟩ 0)))
  case first =>
    go_region_held3 (fun w' => w'.cell? ⟨w.heap.size, 0, none⟩ = some (.int .i64 x) ∧ w'.cell? ⟨w.heap.size, 1, none⟩ = some (.int .i64 y) ∧ w'.cell? ⟨w.heap.size, 2, none⟩ = some (.int .i64 z) ∧ w'.cell? ⟨w.heap.size, 3, none⟩ = some (.int .i64 t)) (first | (go_keep; done) | skip) (first | (go_at_call_of 72 (Value.int IntKind.i64 x); refine (HH.out _ _).mono ?_; rintro e w2 ⟨rfl, rfl⟩) | (go_at_call_of 72 (Value.int IntKind.i64 y); refine (HH.out _ _).mono ?_; rintro e w2 ⟨rfl, rfl⟩) | (go_at_call_of 72 (Value.int IntKind.i64 z); refine (HH.out _ _).mono ?_; rintro e w2 ⟨rfl, rfl⟩))
    all_goals
      go_wp2_with fail
      go_meet
      exact ⟨rfl, ((Ext.refl w1).alloc _).drew, v8_at rfl (p7 ⟨x, y, z, t⟩ 0)⟩
  case rest =>
    obtain ⟨rfl, hcut⟩ := hcut
    go_wp2_with fail
    have HB : Hid (pk ⟨x, y, z, t⟩ = { p7 ⟨x, y, z, t⟩ 0 with b7 := ckTo (p7 ⟨x, y, z, t⟩ 0) 7 }) := rfl
    generalize (p7 ⟨x, y, z, t⟩ 0) = bb at *
    go_loopw [4, 31] (fun v i wr => ∃ k : Nat, k ≤ 7 ∧ i = .int .i64 k ∧ v = .int .u8 (ckTo bb k) ∧ wr = wc) (fun _ i _ => 7 - (intOf i).toNat)
    case atStart => exact ⟨0, by omega, rfl, rfl, rfl⟩
    case round =>
      obtain ⟨k, hk, rfl, rfl, rfl⟩ := hrel
      by_cases hlt : k < 7
      · have hc := hcut.out.2.cell (j := k) (by omega)
        go_wp2_with fail
        go_roundw
        case measure => simp [intOf]; omega
        case rel => exact ⟨k + 1, by omega, by simp, rfl, trivial⟩
      · have hk7 : k = 7 := by omega
        subst hk7
        have h2' := h2.out.ext hcut.out.1
        obtain ⟨⟨z0, z1, z2, z3, z4, z5, z6, z7⟩, g0, g1, g2, g3, g4, g5, g6, g7⟩ := h2'
        obtain ⟨⟨y0, y1, y2, y3, y4, y5, y6, y7⟩, f0, f1, f2, f3, f4, f5, f6, f7⟩ := hcut.out.2
        have lt2 : w.heap.size + 1 < w1.heap.size := by rw [HS.out]; omega
        have m1 := Nat.ne_of_lt lt2
        have m2 := Nat.ne_of_gt lt2
        generalize ckTo bb 7 = ck at *
        have hx1 : Ext w wr := hx.trans hcut.out.1
        have le1 : w.heap.size ≤ w1.heap.size := by omega
        have hx9 : Ext w (put8 (wr.setCell ⟨w1.heap.size, 7, none⟩ (.int .u8 ck)) (w.heap.size + 1) { bb with b7 := ck }) := (hx1.new le1 7 (.int .u8 ck)).put8 (Nat.le_succ _) _
        go_wp2_with fail
        refine bodyPost_ret (v := .agg (c8 { bb with b7 := ck })) (by simp [results, Try.results65, go_sem, z0, z1, z2, z3, z4, z5, z6, z7]) rfl ⟨?_, hx9⟩
        rw [HB.out]
def blk : B8 := ⟨255, 255, 255, 255, 255, 255, 255, 255⟩
/-- k bytes are written -/
def upTo (k : Nat) : B8 := ⟨if 0 < k then 255 else 0, if 1 < k then 255 else 0, if 2 < k then 255 else 0, if 3 < k then 255 else 0, if 4 < k then 255 else 0, if 5 < k then 255 else 0, if 6 < k then 255 else 0, if 7 < k then 255 else 0⟩
theorem V8.put {w : World} {k : Nat} {b : B8} (h : V8 w k b) {j : Nat} (hj : j < 8) : (∃ v, w.cell? ⟨k, j, none⟩ = some v) ∧ w.frozen? ⟨k, j, none⟩ = false := by
  refine ⟨⟨_, h.cell hj⟩, ?_⟩
  obtain ⟨_, f0, f1, f2, f3, f4, f5, f6, f7⟩ := h
  match j, hj with
  | 0, _ => exact f0
  | 1, _ => exact f1
  | 2, _ => exact f2
  | 3, _ => exact f3
  | 4, _ => exact f4
  | 5, _ => exact f5
  | 6, _ => exact f6
  | 7, _ => exact f7
  | j + 8, h => omega
theorem V8.one {w : World} {k : Nat} {j : Nat} (h : V8 w k (upTo j)) (hj : j < 8) : V8 (w.setCell ⟨k, j, none⟩ (.int .u8 255)) k (upTo (j + 1)) := by
  obtain ⟨⟨h0, h1, h2, h3, h4, h5, h6, h7⟩, f0, f1, f2, f3, f4, f5, f6, f7⟩ := h
  match j, hj with
  | 0, _ | 1, _ | 2, _ | 3, _ | 4, _ | 5, _ | 6, _ | 7, _ =>
    simp only [upTo] at h0 h1 h2 h3 h4 h5 h6 h7
    simp at h0 h1 h2 h3 h4 h5 h6 h7
    refine ⟨⟨?_, ?_, ?_, ?_, ?_, ?_, ?_, ?_⟩, ?_, ?_, ?_, ?_, ?_, ?_, ?_, ?_⟩ <;> simp [go_sem, upTo, h0, h1, h2, h3, h4, h5, h6, h7, f0, f1, f2, f3, f4, f5, f6, f7]
  | j + 8, h => omega
set_option maxRecDepth 20000 in
set_option maxHeartbeats 2000000 in
theorem blank_any (w : World) : Calls Try.prog 66 #[] w fun e w' => e = .returned (.agg (c8 blk)) ∧ Ext w w' := by
  have h0 : V8 ((w.alloc (.cells zero8 114)).alloc (.cells zero8 114)) w.heap.size ⟨0, 0, 0, 0, 0, 0, 0, 0⟩ := (v8_at rfl ⟨0, 0, 0, 0, 0, 0, 0, 0⟩).ext ((Ext.refl _).alloc _)
  have h1 : V8 ((w.alloc (.cells zero8 114)).alloc (.cells zero8 114)) (w.heap.size + 1) (upTo 0) := v8_at (by simp) ⟨0, 0, 0, 0, 0, 0, 0, 0⟩
  have hx : Ext w ((w.alloc (.cells zero8 114)).alloc (.cells zero8 114)) := ((Ext.refl w).alloc _).alloc _
  go_enter Try.func66, Try.ntmps66
  go_wp2_with fail
  generalize ((w.alloc (.cells zero8 114)).alloc (.cells zero8 114)) = w1 at *
  have hle : w.heap.size ≤ w.heap.size + 1 := by omega
  have n1 : w.heap.size ≠ w.heap.size + 1 := by omega
  have n2 : w.heap.size + 1 ≠ w.heap.size := by omega
  generalize w.heap.size + 1 = V at *
  have H : Hid (V8 w1 V (upTo 0) ∧ V8 w1 w.heap.size ⟨0, 0, 0, 0, 0, 0, 0, 0⟩ ∧ Ext w w1) := ⟨h1, h0, hx⟩
  clear h0 h1 hx
  go_loopw [3] (fun i wr => ∃ k : Nat, k ≤ 8 ∧ i = .int .i64 k ∧ Hid (V8 wr V (upTo k) ∧ V8 wr w.heap.size ⟨0, 0, 0, 0, 0, 0, 0, 0⟩ ∧ Ext w wr)) (fun i _ => 8 - (intOf i).toNat)
  case atStart => exact ⟨0, by omega, rfl, H⟩
  case round =>
    obtain ⟨k, hk, rfl, hR⟩ := hrel
    by_cases hlt : k < 8
    · obtain ⟨⟨v, hc⟩, hf⟩ := hR.out.1.put hlt
      have H2 : Hid (V8 (wr.setCell ⟨V, k, none⟩ (.int .u8 255)) V (upTo (k + 1)) ∧ V8 (wr.setCell ⟨V, k, none⟩ (.int .u8 255)) w.heap.size ⟨0, 0, 0, 0, 0, 0, 0, 0⟩ ∧ Ext w (wr.setCell ⟨V, k, none⟩ (.int .u8 255))) := by
        refine ⟨hR.out.1.one hlt, ?_, hR.out.2.2.new hle _ _⟩
        obtain ⟨⟨h0, h1, h2, h3, h4, h5, h6, h7⟩, f0, f1, f2, f3, f4, f5, f6, f7⟩ := hR.out.2.1
        refine ⟨⟨?_, ?_, ?_, ?_, ?_, ?_, ?_, ?_⟩, ?_, ?_, ?_, ?_, ?_, ?_, ?_, ?_⟩ <;> simp [go_sem, h0, h1, h2, h3, h4, h5, h6, h7, f0, f1, f2, f3, f4, f5, f6, f7]
      go_wp2_with fail
      go_roundw
      case measure => simp [intOf]; omega
      case rel => exact ⟨k + 1, by omega, by simp, H2⟩
    · have hk8 : k = 8 := by omega
      subst hk8
      obtain ⟨⟨z0, z1, z2, z3, z4, z5, z6, z7⟩, g0, g1, g2, g3, g4, g5, g6, g7⟩ := hR.out.2.1
      have h8 : V8 wr V blk := hR.out.1
      obtain ⟨⟨y0, y1, y2, y3, y4, y5, y6, y7⟩, _⟩ := h8
      have hx9 : Ext w (put8 wr w.heap.size blk) := hR.out.2.2.put8 (Nat.le_refl _) blk
      go_wp2_with fail
      exact bodyPost_ret (v := .agg (c8 blk)) (by simp [results, Try.results66, go_sem, z0, z1, z2, z3, z4, z5, z6, z7]) rfl ⟨rfl, hx9⟩
end Go.Proofs.Ytpalkiffoognoaa
