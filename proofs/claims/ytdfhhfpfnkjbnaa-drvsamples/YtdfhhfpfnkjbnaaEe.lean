/- DrvSamples: what Take tells of such bytes. -/
import Derived.Test.YtdfhhfpfnkjbnaaEd
import Derived.Test.YtdfhhfpfnkjbnaaDs
namespace Go.Proofs.Ytdfhhfpfnkjbnaa
open Go.RowKit Go.Conc
/-- a driver that waits for n samples, and what becomes of it -/
def wD (n : Nat) : Dr := ⟨16, 49, true, 7, 5, 0, false, n, 0⟩
def eD (b : Nat) : Dr := ⟨16, 49, true, 7, 4, 0, false, 0, b⟩
theorem wd_ok (n : Nat) (hn1 : 1 ≤ n) (hn2 : n ≤ 16) : okD (wD n) = true := by
  have h : inn (n : Int) 1 16 = true := inn_iff.2 (by omega)
  show (inn 16 0 127 && inn 49 0 255 && inn 7 1 250 && inn 5 0 8 && inn 0 0 2 && inn (n : Int) 1 16 && inn 0 0 1099511627776) = true
  rw [h]
  decide
theorem wd_tx (n : Nat) (hn2 : n ≤ 16) : txRd (wD n) = 8 * (n : Int) := by
  have e3 : (wD n).st = 5 := rfl
  have e4 : (wD n).left = n := rfl
  unfold txRd
  rw [e3, e4, if_neg (by decide), if_neg (by decide), if_pos rfl]
  unfold wrap64
  omega
theorem wd_good (n : Nat) (hn2 : n ≤ 16) (D : List Int) (hD : D.length = 8 * n) : goodD (wD n) 1 D = true := by
  unfold goodD
  rw [wd_tx n hn2, hD]
  simp [fitD, wD]
theorem wd_take (n : Nat) (hn2 : n ≤ 16) (D : List Int) (hD : D.length = 8 * n) (W : List Raw) (b : Nat) (hs : smps (chunkB D) 0 (List.range n) = (W, (b : Int))) : takeD (wD n) 1 D = eD b ∧ toldD (wD n) 1 D = W := by
  have hg := wd_good n hn2 D hD
  have e : (wD n).left.toNat = n := by show (n : Int).toNat = n; exact Int.toNat_natCast n
  have e2 : (wD n).bad = 0 := rfl
  have e3 : (wD n).st = 5 := rfl
  have h1 : gotD (wD n) D = enterD { wD n with bad := (smps (chunkB D) (wD n).bad (List.range (wD n).left.toNat)).2 } 4 := by
    unfold gotD
    rw [e3, if_neg (by decide), if_neg (by decide), if_neg (by decide), if_neg (by decide), if_pos rfl]
    rfl
  have h2 : rawsD (wD n) D = (smps (chunkB D) (wD n).bad (List.range (wD n).left.toNat)).1 := by
    unfold rawsD
    rw [e3, if_pos rfl]
  rw [e, e2, hs] at h1 h2
  constructor
  · unfold takeD
    rw [if_pos hg, h1]
    rfl
  · unfold toldD
    rw [if_pos hg, h2]
theorem dat_smps (L : List Raw) (T : Nat → Bool) (q m n : Nat) (hq : q < 8) (h1 : 1 ≤ m) (h2 : m ≤ 255) (hn2 : n ≤ 16) (hL : ∀ i, i < n → okR (sm L i) = true) : smps (chunkB (dat (bts L T q m) n)) 0 (List.range n) = (wl L T n, (bd T n : Int)) := by
  rw [smps_congr _ (bts L T q m) 0 n (fun i hi => b8_ext (fun j hj => by rw [chunkB_at _ _ _ hj]; exact dat_at _ i j hj n hi))]
  exact smps_bts L T q m hq h1 h2 n (by omega) hL
theorem row_reads {w : World} {B n bc : Nat} {ba : Option Addr} {D : List Int} (hD : D.length = 8 * n) (hn1 : 1 ≤ n) (hb : w.ownsRow B Eb 1 (.slice ba (8 * n) bc) (8 * n) (bv D)) : 8 * n ≤ bc ∧ RdY w 0 ba D := by
  constructor
  · rcases hb.2 with ⟨_, e⟩ | ⟨g, cap, cur, e, _, _, hc, _⟩
    · omega
    · simp only [Value.slice.injEq, true_and] at e
      omega
  · intro j hj
    obtain ⟨g, c, e, h⟩ := row_some hb (by omega)
    simp only [Value.slice.injEq, true_and] at e
    obtain ⟨rfl, _⟩ := e
    exact ⟨g, 0, rfl, Nat.zero_le _, by rw [Nat.zero_add]; exact h j (by omega)⟩
theorem samples_take (w : World) (L : List Raw) (T : Nat → Bool) (q m n : Nat) (hq : q < 8) (h1 : 1 ≤ m) (h2 : m ≤ 255) (hn1 : 1 ≤ n) (hn2 : n ≤ 16) (hL : ∀ i, i < n → okR (sm L i) = true) (ba : Option Addr) (bc B : Nat) (hb : w.ownsRow B Eb 1 (.slice ba (8 * n) bc) (8 * n) (bv (dat (bts L T q m) n))) :
    Calls Try.prog 19 #[drv (wD n), .agg #[.int .i64 1, .slice ba (8 * n) bc]] w fun e w' => ∃ ra rc, e = .returned (.tuple #[drv (eD (bd T n)), .slice ra (wl L T n).length rc, .bool false, .int .i64 0]) ∧ RdR w' ra (wl L T n) ∧ Ext w w' := by
  have hlen := dat_len (bts L T q m) n
  have hby := dat_byte (bts L T q m) n (fun i _ => bts_ok L T q m hq h1 h2 i)
  have hsm := dat_smps L T q m n hq h1 h2 hn2 hL
  generalize dat (bts L T q m) n = D at *
  generalize wl L T n = W at *
  generalize bd T n = b at *
  obtain ⟨hcap, hrd⟩ := row_reads hlen hn1 hb
  obtain ⟨ht, hr⟩ := wd_take n hn2 D hlen W b hsm
  have h := @take_any w (wD n) 1 D ba bc (wd_ok n hn1 hn2) rfl (by rw [hlen]; unfold maxLen; omega) (by rw [hlen]; exact hcap) hrd hby
  unfold TakeC at h
  rw [ht, hr, hlen] at h
  refine h.mono ?_
  rintro e w' ⟨v, rfl, hv, hx⟩
  obtain ⟨ra, rc, e⟩ := drow_form hv
  subst e
  exact ⟨ra, rc, rfl, rdr_row hv, hx⟩
end Go.Proofs.Ytdfhhfpfnkjbnaa
