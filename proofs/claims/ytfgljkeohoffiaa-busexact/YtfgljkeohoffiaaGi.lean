/- burst of a device. -/
import Derived.Test.YtfgljkeohoffiaaGh
namespace Go.Proofs.Ytfgljkeohoffiaa
open Go.RowKit Go.Conc
theorem info_parts {P : Program} {e : TypeId} {z : Value} {n m : Nat} (h : (P.info? e).map (fun i => (i.zero, i.size, i.bytes)) = some (some z, n, m)) : ∃ i, P.info? e = some i ∧ i.zero = some z ∧ i.size = n ∧ i.bytes = m := by
  cases hp : P.info? e with
  | none => rw [hp] at h; simp at h
  | some i =>
    rw [hp] at h
    simp only [Option.map_some, Option.some.injEq, Prod.mk.injEq] at h
    exact ⟨i, rfl, h.1, h.2.1, h.2.2⟩
theorem Try.infoTb : (Try.prog.info? 5).map (fun i => (i.zero, i.size, i.bytes)) = some (some (.int .u8 0), 1, 1) := by kernel_rfl
abbrev Eb : TypeId := 5
theorem row_grown {w w' : World} {v : Value} {B : Nat} {e : TypeId} {s n : Nat} {xs : List Value} (hg : w.grownBy w' v.ownBlock) (h : w.ownsRow B e s v n xs) {a : World} (hx : Ext a w) (hB : a.heap.size ≤ B) : Ext a w' :=
  Below.grown hx hg hx.size (fun k hk => by have := (h.lt k hk).1; omega)
theorem row_tn {own : Nat → Prop} {w w' : World} {B : Nat} {e : TypeId} {s n : Nat} {v : Value} {xs : List Value} (h : w.ownsRow B e s v n xs) (t : Tn own w w') (ho : ∀ k, B ≤ k → v.ownBlock = some k → ¬ own k) : w'.ownsRow B e s v n xs := by
  refine ⟨h.1, ?_⟩
  rcases h.2 with e2 | ⟨g, cap, cur, hv', hb, hg, hr⟩
  · exact .inl e2
  · refine .inr ⟨g, cap, cur, hv', hb, ?_, hr⟩
    rw [t.2 g (Array.getElem?_eq_some_iff.1 hg).1 (ho g hb (by rw [hv']; rfl))]; exact hg
theorem row_ext {w w' : World} {B : Nat} {e : TypeId} {s n : Nat} {v : Value} {xs : List Value} (h : w.ownsRow B e s v n xs) (x : Ext w w') : w'.ownsRow B e s v n xs :=
  row_tn (own := fun _ => False) h (Tn.of_ext x) (fun _ _ _ k => k)
/-- a row cut -/
theorem row_cut {w : World} {B : Nat} {e : TypeId} {n m cap g : Nat} {xs : List Value} (h : w.ownsRow B e 1 (.slice (some ⟨g, 0, none⟩) n cap) n xs) (hm : m ≤ n) : w.ownsRow B e 1 (.slice (some ⟨g, 0, none⟩) m cap) m (xs.take m) := by
  obtain ⟨h1, h2⟩ := h
  refine ⟨by simp; omega, ?_⟩
  rcases h2 with ⟨e2, _⟩ | ⟨g', cap', cur, hv', hb, hg, hn, hc, hs, hx⟩
  · cases e2
  · cases hv'
    refine .inr ⟨g, cap, cur, rfl, hb, hg, by omega, hc, hs, ?_⟩
    rw [← hx, List.take_take]; congr 1; omega
def bv (l : List Int) : List Value := l.map fun b => (.int .u8 b : Value)
theorem bv_len (l : List Int) : (bv l).length = l.length := by simp [bv]
theorem bv_app (l m : List Int) : bv (l ++ m) = bv l ++ bv m := by simp [bv]
theorem bv_take (l : List Int) (n : Nat) : bv (l.take n) = (bv l).take n := by simp [bv, List.map_take]
theorem bv_one (l : List Int) : ∀ u ∈ bv l, u.oneCell' = true := by
  intro u h
  simp only [bv, List.mem_map] at h
  obtain ⟨b, _, rfl⟩ := h
  rfl
def B8.l (b : B8) : List Int := [b.b0, b.b1, b.b2, b.b3, b.b4, b.b5, b.b6, b.b7]
/-- the bytes of the sample at place j, or where there is none -/
def bq (q : List Raw) (j : Nat) : B8 := if j < q.length then pk (smp q j) else blk
/-- the bytes of j samples -/
def brst (q : List Raw) : Nat → List Int
  | 0 => []
  | j + 1 => brst q j ++ (bq q j).l
theorem brst_len (q : List Raw) : ∀ j, (brst q j).length = 8 * j
  | 0 => rfl
  | j + 1 => by simp [brst, brst_len q j, B8.l]; omega
def sliceLen : Value → Nat
  | .slice _ n _ => n
  | _ => 0
theorem V8.news {w : World} {k : Nat} {b : B8} (h : V8 w k b) : ∀ j u, (bv b.l)[j]? = some u → w.cell? ((⟨k, 0, none⟩ : Addr).add j) = some u := by
  intro j u hu
  have hj : j < 8 := by
    have := (List.getElem?_eq_some_iff.1 hu).1
    simpa [bv, B8.l] using this
  have hadd : (⟨k, 0, none⟩ : Addr).add j = ⟨k, j, none⟩ := by unfold Addr.add; split <;> simp_all
  rw [hadd, h.cell hj, ← hu]
  match j, hj with
  | 0, _ | 1, _ | 2, _ | 3, _ | 4, _ | 5, _ | 6, _ | 7, _ => rfl
  | j + 8, h => omega
theorem V8.put8 {w : World} {k : Nat} {b : B8} (h : V8 w k b) (c : B8) : V8 (Go.Proofs.Ytfgljkeohoffiaa.put8 w k c) k c := by
  obtain ⟨⟨h0, h1, h2, h3, h4, h5, h6, h7⟩, f0, f1, f2, f3, f4, f5, f6, f7⟩ := h
  refine ⟨⟨?_, ?_, ?_, ?_, ?_, ?_, ?_, ?_⟩, ?_, ?_, ?_, ?_, ?_, ?_, ?_, ?_⟩ <;> simp [Go.Proofs.Ytfgljkeohoffiaa.put8, go_sem, h0, h1, h2, h3, h4, h5, h6, h7, f0, f1, f2, f3, f4, f5, f6, f7]
theorem Tn.put8 {own : Nat → Prop} {a w : World} (h : Tn own a w) {k : Nat} (hk : own k ∨ a.heap.size ≤ k) (c : B8) : Tn own a (Go.Proofs.Ytfgljkeohoffiaa.put8 w k c) :=
  (((((((h.set hk _ _).set hk _ _).set hk _ _).set hk _ _).set hk _ _).set hk _ _).set hk _ _).set hk _ _
/-- j samples are told: the row v -/
def Bst (w : World) (x : DA) (s : Dv) (wr : World) (j : Nat) (v : Value) : Prop :=
  wr.ownsRow w.heap.size Eb 1 v (8 * j) (bv (brst s.q j)) ∧ Dd x { s with q := s.q.drop j } w wr
/-- one more sample appended -/
theorem bst_more {w w4 w9 : World} {x : DA} {s : Dv} {j : Nat} {v : Value} {news : List Value} {g cap : Nat} (D : Dd x { s with q := s.q.drop (j + 1) } w w4) (O : w4.ownsRow w.heap.size Eb 1 v (8 * j) (bv (brst s.q j)))
    (hown : w9.ownsRow w.heap.size Eb 1 (.slice (some ⟨g, 0, none⟩) (8 * j + 8) cap) (8 * j + 8) (bv (brst s.q j) ++ news)) (hg : w4.grownBy w9 v.ownBlock) (hT : bv (brst s.q (j + 1)) = bv (brst s.q j) ++ news)
    (hL : ∀ k, DL x s.list.length k → k < w.heap.size) : Bst w x s w9 (j + 1) (.slice (some ⟨g, 0, none⟩) (8 * (j + 1)) cap) := by
  have t : Tn (fun k => v.ownBlock = some k) w4 w9 := (Tn.refl _ w4).grown hg (fun k e => .inl e)
  refine ⟨by rw [hT]; exact hown, D.1.tn t (fun k o e => ?_), D.2.trans t (fun k hk e => ?_)⟩
  · have := hL k o
    have := (O.lt k e).1
    omega
  · have := (O.lt k e).1
    omega
set_option maxRecDepth 20000 in
set_option maxHeartbeats 4000000 in
theorem burst_any (w : World) {x : DA} {s : Dv} (h : IsDev w x s) (n : Nat) (h1 : 1 ≤ n) (h2 : n ≤ 128) :
    Calls Try.prog 50 #[.pointer (some ⟨x.p, 0, none⟩), .int .i64 n] w fun e w' => ∃ g cap, e = .returned (.slice (some ⟨g, 0, none⟩) n cap) ∧ w'.ownsRow w.heap.size Eb 1 (.slice (some ⟨g, 0, none⟩) n cap) n (bv ((brst s.q ((n + 7) / 8)).take n)) ∧ Dd x { s with q := s.q.drop ((n + 7) / 8) } w w' := by
  obtain ⟨i0, hi, hz0, hz1, hz2⟩ := info_parts Try.infoTb
  have HK : Hid (∀ r w, Calls Try.prog 63 #[rv r] w fun e w' => e = .returned (.agg (c8 (pk r))) ∧ Ext w w') := pack_any
  have HBl : Hid (∀ w, Calls Try.prog 64 #[] w fun e w' => e = .returned (.agg (c8 blk)) ∧ Ext w w') := blank_any
  have H0 : Hid (Bst w x s w 0 (.slice none 0 0)) := ⟨World.ownsRow_nil _ _ _ _, h, Tn.refl _ _⟩
  have HLT : Hid (∀ k, DL x s.list.length k → k < w.heap.size) := fun k o => h.lt k o
  clear h
  go_enter Try.func50, Try.ntmps50
  go_wp2_with fail
  go_loopw [5] (fun v wr => ∃ (j : Nat) (r : Option Addr) (c : Nat), j ≤ (n + 7) / 8 ∧ v = .slice r ((8 * j : Nat)) c ∧ Hid (Bst w x s wr j (.slice r ((8 * j : Nat)) c))) (fun v _ => n - sliceLen v)
  case atStart => exact ⟨0, none, 0, by omega, rfl, H0⟩
  case round =>
    obtain ⟨j, r, c, hj, rfl, hR⟩ := hrel
    by_cases hlt : 8 * j < n
    · have hlti : ((8 * j : Nat) : Int) < (n : Int) := by omega
      have HP : Hid (Calls Try.prog 62 #[.pointer (some ⟨x.rp, 0, none⟩)] wr fun e w' => e = .returned (popped (s.q.drop j)) ∧ Hid (Dd x { s with q := s.q.drop (j + 1) } w w') ∧ Hid (w'.ownsRow w.heap.size Eb 1 (.slice r ((8 * j : Nat)) c) (8 * j) (bv (brst s.q j)))) := by
        obtain ⟨q1, q2⟩ := hR.out
        refine (pop_lq wr q2.1.ring).mono ?_
        rintro e w' ⟨rfl, hr, ht⟩
        obtain ⟨d1, d2⟩ := q2.1.ringed ht hr
        rw [List.tail_drop] at d1
        refine ⟨rfl, ⟨d1, q2.2.trans d2 (fun _ _ o => o)⟩, row_tn q1 d2 (fun k hk _ o => ?_)⟩
        have := HLT.out k (.inl o)
        omega
      have c7 : wr.cell? ⟨x.p, 7, none⟩ = some (.pointer (some ⟨x.rp, 0, none⟩)) := hR.out.2.1.c7
      have hj1 : j + 1 ≤ (n + 7) / 8 := by omega
      have HJ : Hid (8 * (j + 1) = 8 * j + 8) := by show _ = _; omega
      have h63 : 8 * j + 8 ≤ maxLen := by unfold maxLen; omega
      have hby : (8 * j + 8) * 1 ≤ 140737488355328 := by omega
      clear hR H0
      by_cases hq : j < s.q.length
      · have ep : popped (s.q.drop j) = .tuple #[rv (smp s.q j), .bool true] := by
          have e1 : s.q.drop j = smp s.q j :: s.q.drop (j + 1) := by
            rw [List.drop_eq_getElem_cons hq]; congr 1; simp [smp, hq]
          rw [e1]; rfl
        rw [ep] at HP
        have HT : Hid (bv (brst s.q (j + 1)) = bv (brst s.q j) ++ bv (pk (smp s.q j)).l) := by show _ = _; rw [brst, bv_app, bq, if_pos hq]
        generalize smp s.q j = y at *
        clear ep
        go_upto_region 7 with (first | (go_at_call 62; refine HP.out.mono ?_; rintro e w1 ⟨rfl, d1, o1⟩) | (go_at_call 63; refine (HK.out _ _).mono ?_; rintro e w3 ⟨rfl, x3⟩))
        have x4 : Ext w1 (w3.alloc (.cells (c8 (pk y)) 114)) := ((((Ext.refl w1).alloc _).trans x3).alloc _)
        have v4 : V8 (w3.alloc (.cells (c8 (pk y)) 114)) w3.heap.size (pk y) := v8_at rfl (pk y)
        have V4 : Hid (V8 (w3.alloc (.cells (c8 (pk y)) 114)) w3.heap.size (pk y)) := v4
        have D4 : Hid (Dd x { s with q := s.q.drop (j + 1) } w (w3.alloc (.cells (c8 (pk y)) 114))) := d1.out.ext x4
        have O4 : Hid ((w3.alloc (.cells (c8 (pk y)) 114)).ownsRow w.heap.size Eb 1 (.slice r ((8 * j : Nat)) c) (8 * j) (bv (brst s.q j))) := row_ext o1.out x4
        clear d1 o1 x3 x4 v4
        generalize (w3.alloc (.cells (c8 (pk y)) 114)) = w4 at *
        generalize w3.heap.size = V at *
        go_wp2_with (at_builtin; refine wpList_append_lies _ rfl (.tmp 26) (.tmp 27) 42 rfl w.heap.size Eb i0 (.int .u8 0) 1 1 Try.underlying42 hi hz0 hz1 hz2 rfl (by decide) _ (8 * j) (bv (brst s.q j)) rfl (by exact O4.out) ⟨V, 0, none⟩ 8 8 (bv (pk y).l) rfl (by simp [bv, B8.l]) (by exact V4.out.news) (bv_one _) (by decide) h63 hby (by exact (Nat.le_trans D4.out.2.size (Nat.le_refl _))) _ rfl ?_; intro g' cap' w9 hown' hg' hgb hgl; have R1 : Hid (Bst w x s w9 (j + 1) (.slice (some ⟨g', 0, none⟩) (8 * (j + 1)) cap')) := (by exact bst_more D4.out O4.out hown' hg' HT.out HLT.out); clear hown' hg' hgb hgl)
        go_roundw
        case measure => simp [sliceLen]; omega
        case rel => exact ⟨j + 1, _, cap', hj1, rfl, R1⟩
      · have ep : popped (s.q.drop j) = .tuple #[rv nought, .bool false] := by
          rw [List.drop_of_length_le (by omega)]; rfl
        rw [ep] at HP
        have HT : Hid (bv (brst s.q (j + 1)) = bv (brst s.q j) ++ bv blk.l) := by show _ = _; rw [brst, bv_app, bq, if_neg hq]
        clear ep
        go_upto_region 6 with (first | (go_at_call 62; refine HP.out.mono ?_; rintro e w1 ⟨rfl, d1, o1⟩) | (go_at_call 63; refine (HK.out _ _).mono ?_; rintro e w3 ⟨rfl, x3⟩))
        have x4 : Ext w1 (w3.alloc (.cells (c8 (pk nought)) 114)) := ((((Ext.refl w1).alloc _).trans x3).alloc _)
        have V4 : Hid (V8 (w3.alloc (.cells (c8 (pk nought)) 114)) w3.heap.size (pk nought)) := v8_at rfl (pk nought)
        have D4 : Hid (Dd x { s with q := s.q.drop (j + 1) } w (w3.alloc (.cells (c8 (pk nought)) 114))) := d1.out.ext x4
        have O4 : Hid ((w3.alloc (.cells (c8 (pk nought)) 114)).ownsRow w.heap.size Eb 1 (.slice r ((8 * j : Nat)) c) (8 * j) (bv (brst s.q j))) := row_ext o1.out x4
        have HV : Hid (w1.heap.size < w3.heap.size) := by have := x3.size; simp at this; exact this
        have HW : Hid (w.heap.size ≤ w1.heap.size) := d1.out.2.size
        have HOB : Hid (∀ k, (Value.slice r ((8 * j : Nat)) c).ownBlock = some k → k < w1.heap.size) := fun k hk => (o1.out.lt k hk).2
        clear d1 o1 x3 x4
        generalize (w3.alloc (.cells (c8 (pk nought)) 114)) = w4 at *
        generalize w3.heap.size = V at *
        have HB5 : Hid (Calls Try.prog 64 #[] w4 fun e w' => e = .returned (.agg (c8 blk)) ∧ Hid (V8 w' V (pk nought)) ∧ Hid (Dd x { s with q := s.q.drop (j + 1) } w w') ∧ Hid (w'.ownsRow w.heap.size Eb 1 (.slice r ((8 * j : Nat)) c) (8 * j) (bv (brst s.q j)))) := (HBl.out w4).mono fun e w' ⟨he, xe⟩ => ⟨he, V4.out.ext xe, D4.out.ext xe, row_ext O4.out xe⟩
        clear V4 D4 O4
        go_upto_region 7 with (go_at_call 64; refine HB5.out.mono ?_; rintro e w5 ⟨rfl, V5, D5, O5⟩; obtain ⟨⟨z0, z1, z2, z3, z4, z5, z6, z7⟩, g0, g1, g2, g3, g4, g5, g6, g7⟩ := V5.out)
        have tq : Tn (fun k => k = V) w5 (put8 w5 V blk) := (Tn.refl (fun k => k = V) w5).put8 (.inl rfl) blk
        have V4 : Hid (V8 (put8 w5 V blk) V blk) := V5.out.put8 blk
        have hVw : w.heap.size ≤ V := by have := HV.out; have := HW.out; omega
        have D4 : Hid (Dd x { s with q := s.q.drop (j + 1) } w (put8 w5 V blk)) := ⟨D5.out.1.tn tq (fun k o e => by have := HLT.out k o; omega), D5.out.2.put8 (.inr hVw) blk⟩
        have O4 : Hid ((put8 w5 V blk).ownsRow w.heap.size Eb 1 (.slice r ((8 * j : Nat)) c) (8 * j) (bv (brst s.q j))) := row_tn O5.out tq (fun k hk hb e => by have := HOB.out k hb; have := HV.out; omega)
        have epu : (((((((w5.setCell ⟨V, 0, none⟩ (.int .u8 blk.b0)).setCell ⟨V, 1, none⟩ (.int .u8 blk.b1)).setCell ⟨V, 2, none⟩ (.int .u8 blk.b2)).setCell ⟨V, 3, none⟩ (.int .u8 blk.b3)).setCell ⟨V, 4, none⟩ (.int .u8 blk.b4)).setCell ⟨V, 5, none⟩ (.int .u8 blk.b5)).setCell ⟨V, 6, none⟩ (.int .u8 blk.b6)).setCell ⟨V, 7, none⟩ (.int .u8 blk.b7) = put8 w5 V blk := rfl
        rw [epu]
        clear epu tq z0 z1 z2 z3 z4 z5 z6 z7 g0 g1 g2 g3 g4 g5 g6 g7 V5 D5 O5
        generalize put8 w5 V blk = w6 at *
        go_wp2_with (at_builtin; refine wpList_append_lies _ rfl (.tmp 26) (.tmp 27) 42 rfl w.heap.size Eb i0 (.int .u8 0) 1 1 Try.underlying42 hi hz0 hz1 hz2 rfl (by decide) _ (8 * j) (bv (brst s.q j)) rfl (by exact O4.out) ⟨V, 0, none⟩ 8 8 (bv blk.l) rfl (by simp [bv, B8.l]) (by exact V4.out.news) (bv_one _) (by decide) h63 hby (by exact (Nat.le_trans D4.out.2.size (Nat.le_refl _))) _ rfl ?_; intro g' cap' w9 hown' hg' hgb hgl; have R1 : Hid (Bst w x s w9 (j + 1) (.slice (some ⟨g', 0, none⟩) (8 * (j + 1)) cap')) := (by exact bst_more D4.out O4.out hown' hg' HT.out HLT.out); clear hown' hg' hgb hgl)
        go_roundw
        case measure => simp [sliceLen]; omega
        case rel => exact ⟨j + 1, _, cap', hj1, rfl, R1⟩
    · have hlti : ¬ ((8 * j : Nat) : Int) < (n : Int) := by omega
      have hjn : j = (n + 7) / 8 := by omega
      obtain ⟨q1, q2⟩ := hR.out
      have hcap : ∃ g, r = some ⟨g, 0, none⟩ ∧ 8 * j ≤ c := by
        rcases q1.2 with ⟨_, e0⟩ | ⟨g, cap, cur, hv, _, _, hc, _⟩
        · omega
        · cases hv; exact ⟨g, rfl, hc⟩
      obtain ⟨g, rfl, hc⟩ := hcap
      have q3 := row_cut q1 (m := n) (by omega)
      have HF : Hid (wr.ownsRow w.heap.size Eb 1 (.slice (some ⟨g, 0, none⟩) n c) n (bv ((brst s.q ((n + 7) / 8)).take n)) ∧ Dd x { s with q := s.q.drop ((n + 7) / 8) } w wr) := ⟨by rw [bv_take, ← hjn]; exact q3, by rw [← hjn]; exact q2⟩
      have hnc : (n : Int) ≤ (c : Int) := by omega
      clear q1 q2 q3 hR H0
      go_wp2_with fail
      go_ret
      exact ⟨g, c, rfl, HF.out.1, HF.out.2⟩
end Go.Proofs.Ytfgljkeohoffiaa
