/- bus: bytes where there is no sample. -/
import Derived.Test.YtfgljkeohoffiaaGg
import Derived.Test.YtfgljkeohoffiaaWi
namespace Go.Proofs.Ytfgljkeohoffiaa
open Go.RowKit Go.Conc
def blk : B8 := ⟨255, 255, 255, 255, 255, 255, 255, 255⟩
/-- k bytes are written -/
def upTo (k : Nat) : B8 := ⟨if 0 < k then 255 else 0, if 1 < k then 255 else 0, if 2 < k then 255 else 0, if 3 < k then 255 else 0, if 4 < k then 255 else 0, if 5 < k then 255 else 0, if 6 < k then 255 else 0, if 7 < k then 255 else 0⟩
theorem V8.put {w : World} {k : Nat} {b : B8} (h : V8 w k b) {j : Nat} (hj : j < 8) : (∃ v, w.cell? ⟨k, j, none⟩ = some v) ∧ w.frozen? ⟨k, j, none⟩ = false := by
  refine ⟨⟨_, h.cell hj⟩, ?_⟩
  obtain ⟨_, f0, f1, f2, f3, f4, f5, f6, f7⟩ := h
  match j, hj with
  | 0, _ => exact f0
  | 1, _ => exact f1
  | 2, _ => exact f2
  | 3, _ => exact f3
  | 4, _ => exact f4
  | 5, _ => exact f5
  | 6, _ => exact f6
  | 7, _ => exact f7
  | j + 8, h => omega
theorem V8.one {w : World} {k : Nat} {j : Nat} (h : V8 w k (upTo j)) (hj : j < 8) : V8 (w.setCell ⟨k, j, none⟩ (.int .u8 255)) k (upTo (j + 1)) := by
  obtain ⟨⟨h0, h1, h2, h3, h4, h5, h6, h7⟩, f0, f1, f2, f3, f4, f5, f6, f7⟩ := h
  match j, hj with
  | 0, _ | 1, _ | 2, _ | 3, _ | 4, _ | 5, _ | 6, _ | 7, _ =>
    simp only [upTo] at h0 h1 h2 h3 h4 h5 h6 h7
    simp at h0 h1 h2 h3 h4 h5 h6 h7
    refine ⟨⟨?_, ?_, ?_, ?_, ?_, ?_, ?_, ?_⟩, ?_, ?_, ?_, ?_, ?_, ?_, ?_, ?_⟩ <;> simp [go_sem, upTo, h0, h1, h2, h3, h4, h5, h6, h7, f0, f1, f2, f3, f4, f5, f6, f7]
  | j + 8, h => omega
set_option maxRecDepth 20000 in
set_option maxHeartbeats 2000000 in
theorem blank_any (w : World) : Calls Try.prog 64 #[] w fun e w' => e = .returned (.agg (c8 blk)) ∧ Ext w w' := by
  have h0 : V8 ((w.alloc (.cells zero8 114)).alloc (.cells zero8 114)) w.heap.size ⟨0, 0, 0, 0, 0, 0, 0, 0⟩ := (v8_at rfl ⟨0, 0, 0, 0, 0, 0, 0, 0⟩).ext ((Ext.refl _).alloc _)
  have h1 : V8 ((w.alloc (.cells zero8 114)).alloc (.cells zero8 114)) (w.heap.size + 1) (upTo 0) := v8_at (by simp) ⟨0, 0, 0, 0, 0, 0, 0, 0⟩
  have hx : Ext w ((w.alloc (.cells zero8 114)).alloc (.cells zero8 114)) := ((Ext.refl w).alloc _).alloc _
  go_enter Try.func64, Try.ntmps64
  go_wp2_with fail
  generalize ((w.alloc (.cells zero8 114)).alloc (.cells zero8 114)) = w1 at *
  have hle : w.heap.size ≤ w.heap.size + 1 := by omega
  have n1 : w.heap.size ≠ w.heap.size + 1 := by omega
  have n2 : w.heap.size + 1 ≠ w.heap.size := by omega
  generalize w.heap.size + 1 = V at *
  have H : Hid (V8 w1 V (upTo 0) ∧ V8 w1 w.heap.size ⟨0, 0, 0, 0, 0, 0, 0, 0⟩ ∧ Ext w w1) := ⟨h1, h0, hx⟩
  clear h0 h1 hx
  go_loopw [3] (fun i wr => ∃ k : Nat, k ≤ 8 ∧ i = .int .i64 k ∧ Hid (V8 wr V (upTo k) ∧ V8 wr w.heap.size ⟨0, 0, 0, 0, 0, 0, 0, 0⟩ ∧ Ext w wr)) (fun i _ => 8 - (intOf i).toNat)
  case atStart => exact ⟨0, by omega, rfl, H⟩
  case round =>
    obtain ⟨k, hk, rfl, hR⟩ := hrel
    by_cases hlt : k < 8
    · obtain ⟨⟨v, hc⟩, hf⟩ := hR.out.1.put hlt
      have H2 : Hid (V8 (wr.setCell ⟨V, k, none⟩ (.int .u8 255)) V (upTo (k + 1)) ∧ V8 (wr.setCell ⟨V, k, none⟩ (.int .u8 255)) w.heap.size ⟨0, 0, 0, 0, 0, 0, 0, 0⟩ ∧ Ext w (wr.setCell ⟨V, k, none⟩ (.int .u8 255))) := by
        refine ⟨hR.out.1.one hlt, ?_, hR.out.2.2.new hle _ _⟩
        obtain ⟨⟨h0, h1, h2, h3, h4, h5, h6, h7⟩, f0, f1, f2, f3, f4, f5, f6, f7⟩ := hR.out.2.1
        refine ⟨⟨?_, ?_, ?_, ?_, ?_, ?_, ?_, ?_⟩, ?_, ?_, ?_, ?_, ?_, ?_, ?_, ?_⟩ <;> simp [go_sem, h0, h1, h2, h3, h4, h5, h6, h7, f0, f1, f2, f3, f4, f5, f6, f7]
      go_wp2_with fail
      go_roundw
      case measure => simp [intOf]; omega
      case rel => exact ⟨k + 1, by omega, by simp, H2⟩
    · have hk8 : k = 8 := by omega
      subst hk8
      obtain ⟨⟨z0, z1, z2, z3, z4, z5, z6, z7⟩, g0, g1, g2, g3, g4, g5, g6, g7⟩ := hR.out.2.1
      have h8 : V8 wr V blk := hR.out.1
      obtain ⟨⟨y0, y1, y2, y3, y4, y5, y6, y7⟩, _⟩ := h8
      have hx9 : Ext w (put8 wr w.heap.size blk) := hR.out.2.2.put8 (Nat.le_refl _) blk
      go_wp2_with fail
      exact bodyPost_ret (v := .agg (c8 blk)) (by simp [results, Try.results64, go_sem, z0, z1, z2, z3, z4, z5, z6, z7]) rfl ⟨rfl, hx9⟩
end Go.Proofs.Ytfgljkeohoffiaa
