/-
  Contracts that the proofs of this seat share: Val, Pl1.
-/
import Derived.Test.YthahoabkehcgbaaDoorBS
import Derived.Test.YthahoabkehcgbaaDoorBM
import Derived.Test.YthahoabkehcgbaaDoorBQ
namespace Go.Proofs.YthahoabkehcgbaaDoor
open Go.RowKit
set_option linter.unusedVariables false

/-- The one form of V times 2 to the power L. -/
def nE (V L : Int) : DE := (wsg V, dlm V, dex V L)
/-- d is worth V units of 2 to the power L. -/
def IsV (L V : Int) (d : DE) : Prop := L ≤ d.2.2 ∧ Nrm d.2.1 ∧ wval d.1 d.2.1 * 2 ^ (d.2.2 - L).toNat = V
theorem nE_shift (m x : Int) (k : Nat) : nE (m * 2 ^ k) (x - k) = nE m x := by
  obtain ⟨h1, h2, h3⟩ := d_shift m x k
  unfold nE
  rw [h1, h2, h3]
theorem IsV.form {L V : Int} {d : DE} (h : IsV L V d) : nE (wval d.1 d.2.1) d.2.2 = nE V L := by
  obtain ⟨h1, h2, h3⟩ := h
  rw [← h3, ← nE_shift (wval d.1 d.2.1) d.2.2 (d.2.2 - L).toNat, show d.2.2 - ((d.2.2 - L).toNat : Int) = L by omega]
theorem tz_back (n : Nat) : n / 2 ^ tz n * 2 ^ tz n = n := by
  by_cases h : n = 0
  · subst h; simp
  · obtain ⟨q, hq⟩ := tz_form h
    exact Nat.div_mul_cancel ⟨2 * q + 1, hq⟩
theorem dlm_back (m : Int) : wval (wsg m) (dlm m) * 2 ^ tz m.natAbs = m := by
  have h1 : wval (wsg m) (dlm m) = if wsg m = true then -((m.natAbs / 2 ^ tz m.natAbs : Nat) : Int) else ((m.natAbs / 2 ^ tz m.natAbs : Nat) : Int) := wval_limbs _ _
  have h2 : (((m.natAbs / 2 ^ tz m.natAbs : Nat) : Int)) * 2 ^ tz m.natAbs = (m.natAbs : Int) := by
    have := congrArg (fun n : Nat => (n : Int)) (tz_back m.natAbs)
    simp only [Int.natCast_mul, Int.natCast_pow] at this
    exact this
  rw [h1]
  unfold wsg
  by_cases hm : m < 0
  · rw [if_pos (decide_eq_true hm), Int.neg_mul, h2]; omega
  · rw [if_neg (by simp; omega), h2]; omega
theorem nE_wn (V : Int) : WN (wsg V) (dlm V) := ⟨limbs_nrm _, fun h => by
  by_cases h0 : V = 0
  · subst h0; cases h
  · exact (dlm_pos h0).1⟩
theorem nE_isV {V L : Int} (hL : L ≤ 0) : IsV L V (nE V L) := by
  by_cases h : V = 0
  · subst h
    refine ⟨hL, (nE_wn 0).1, ?_⟩
    show wval _ (dlm 0) * _ = 0
    rw [dlm_zero, wval_nil, Int.zero_mul]
  · have e : dex V L = L + (tz V.natAbs : Int) := by unfold dex; rw [if_neg h]
    refine ⟨by show L ≤ dex V L; omega, (nE_wn V).1, ?_⟩
    show wval (wsg V) (dlm V) * 2 ^ (dex V L - L).toNat = V
    rw [e, show (L + (tz V.natAbs : Int) - L).toNat = tz V.natAbs by omega]
    exact dlm_back V
theorem dlm_lenV {m : Int} {A n : Nat} (h : m.natAbs < 2 ^ A) (hn : A ≤ 16 * n) : (dlm m).length ≤ n := by
  have h1 := wlm_len h hn
  have h2 : m.natAbs / 2 ^ tz m.natAbs ≤ m.natAbs := Nat.div_le_self _ _
  refine (limbs_length_le _ _).2 ?_
  have h3 := (limbs_length_le m.natAbs n).1 h1
  omega
theorem nE_wb {V L : Int} {A : Nat} (hV : V.natAbs < 2 ^ A) (hA : A ≤ 40000) (hL : L ≤ 0) (hL0 : -40000 ≤ L) : WB (wsg V) (dlm V) (dex V L) := by
  refine ⟨nE_wn V, Nat.le_trans (dlm_lenV hV (show A ≤ 16 * 2500 by omega)) (by decide), ?_, ?_⟩
  · unfold dex
    split
    · decide
    · omega
  · unfold dex
    split
    · decide
    · rename_i h
      have := tz_lt (n := V.natAbs) (by omega) hV
      omega
/-- What a sum is. -/
def sumM (a b : DE) : Int := wval a.1 a.2.1 * 2 ^ (a.2.2 - min a.2.2 b.2.2).toNat + wval b.1 b.2.1 * 2 ^ (b.2.2 - min a.2.2 b.2.2).toNat
theorem pow_step (m : Int) {x y L : Int} (h1 : y ≤ x) (h2 : L ≤ y) : m * 2 ^ (x - y).toNat * 2 ^ (y - L).toNat = m * 2 ^ (x - L).toNat := by
  rw [Int.mul_assoc, ← Int.pow_add, show (x - y).toNat + (y - L).toNat = (x - L).toNat by omega]
theorem sum_V {L V1 V2 : Int} {a b : DE} (h1 : IsV L V1 a) (h2 : IsV L V2 b) : sumM a b * 2 ^ (min a.2.2 b.2.2 - L).toNat = V1 + V2 := by
  have g1 := h1.1
  have g2 := h2.1
  unfold sumM
  rw [Int.add_mul, pow_step _ (by omega) (by omega), pow_step _ (by omega) (by omega), h1.2.2, h2.2.2]
theorem sum_isV {L V1 V2 : Int} {a b d : DE} (h1 : IsV L V1 a) (h2 : IsV L V2 b) (hn : Nrm d.2.1) (hm : wval d.1 d.2.1 = sumM a b) (hx : d.2.2 = min a.2.2 b.2.2) : IsV L (V1 + V2) d := by
  have g1 := h1.1
  have g2 := h2.1
  exact ⟨by rw [hx]; omega, hn, by rw [hm, hx]; exact sum_V h1 h2⟩
theorem sum_nE {L V1 V2 : Int} {a b : DE} (h1 : IsV L V1 a) (h2 : IsV L V2 b) : nE (sumM a b) (min a.2.2 b.2.2) = nE (V1 + V2) L := by
  have g1 := h1.1
  have g2 := h2.1
  rw [← sum_V h1 h2, ← nE_shift (sumM a b) (min a.2.2 b.2.2) (min a.2.2 b.2.2 - L).toNat, show min a.2.2 b.2.2 - ((min a.2.2 b.2.2 - L).toNat : Int) = L by omega]
theorem mul_isV {L1 L2 V1 V2 : Int} {a b d : DE} (h1 : IsV L1 V1 a) (h2 : IsV L2 V2 b) (hn : Nrm d.2.1) (hm : wval d.1 d.2.1 = wval a.1 a.2.1 * wval b.1 b.2.1) (hx : d.2.2 = a.2.2 + b.2.2) : IsV (L1 + L2) (V1 * V2) d := by
  have g1 := h1.1
  have g2 := h2.1
  refine ⟨by rw [hx]; omega, hn, ?_⟩
  rw [hm, hx, ← h1.2.2, ← h2.2.2, show (a.2.2 + b.2.2 - (L1 + L2)).toNat = (a.2.2 - L1).toNat + (b.2.2 - L2).toNat by omega, Int.pow_add]
  ac_rfl
theorem neg_isV {L V : Int} {a d : DE} (h : IsV L V a) (hn : Nrm d.2.1) (hm : wval d.1 d.2.1 = -wval a.1 a.2.1) (hx : d.2.2 = a.2.2) : IsV L (-V) d :=
  ⟨by rw [hx]; exact h.1, hn, by rw [hm, hx, Int.neg_mul, h.2.2]⟩
/-- The number's size from its worth. -/
theorem IsV.len {L V : Int} {d : DE} {A n : Nat} (h : IsV L V d) (hV : V.natAbs < 2 ^ A) (hn : A ≤ 16 * n) : d.2.1.length ≤ n := by
  have h1 : (wval d.1 d.2.1).natAbs ≤ V.natAbs := by
    rw [← h.2.2, Int.natAbs_mul]
    exact Nat.le_mul_of_pos_right _ (by rw [Int.natAbs_pow]; exact Nat.pow_pos (by decide))
  rw [nrm_limbs h.2.1]
  rw [wval_abs h.2.1.1] at h1
  refine (limbs_length_le _ _).2 ?_
  have h5 := Nat.lt_of_lt_of_le hV (Nat.pow_le_pow_right (n := 2) (by decide) hn)
  rw [pow_limb]
  omega

end Go.Proofs.YthahoabkehcgbaaDoor

namespace Go.Proofs.YthahoabkehcgbaaDoor
open Go.RowKit
set_option linter.unusedVariables false
set_option maxRecDepth 8000
set_option linter.unusedSimpArgs false

theorem new2_dya {w0 w1 w2 : World} {u1 u2 : Value} {xs ys : List Int} (s1 s2 : Bool) (x1 x2 : Int) (t : TypeId) (o1 : w1.ownsRow w0.heap.size 3 1 u1 xs.length (xs.map (Value.int .i64))) (o2 : w2.ownsRow w1.heap.size 3 1 u2 ys.length (ys.map (Value.int .i64))) (k1 : Kept 0 0 w0 w1) (k2 : Kept 0 0 w1 w2) :
    Dya2 w0 ((w2.alloc (.cells #[u1, .bool s1, .int .i64 x1] t)).alloc (.cells #[u2, .bool s2, .int .i64 x2] t)) w2.heap.size (w2.heap.size + 1) s1 xs x1 s2 ys x2 := by
  have p1 := own_kept o1 k2
  have kA := (Kept.refl 0 0 w2).alloc (.cells #[u1, .bool s1, .int .i64 x1] t)
  obtain ⟨n1, d1, e1⟩ := new_dya s1 x1 t p1
  have kB := (Kept.refl 0 0 (w2.alloc (.cells #[u1, .bool s1, .int .i64 x1] t))).alloc (.cells #[u2, .bool s2, .int .i64 x2] t)
  obtain ⟨n2, d2, e2⟩ := new_dya s2 x2 t (own_kept o2 kA)
  have hz : (w2.alloc (.cells #[u1, .bool s1, .int .i64 x1] t)).heap.size = w2.heap.size + 1 := by simp
  rw [hz] at n2 d2 e2
  have g1 := k1.size
  have g2 := k2.size
  have l1 := n1.lt
  refine ⟨⟨⟨u1, u2, n1.kept kB, n2.less (by omega), by omega, fun e => by have := (o1.lt _ e).2; omega, fun e => by have := (o2.lt _ e).2; omega, fun k e e' => by have := (o1.lt _ e).2; have := (o2.lt _ e').1; omega, ((k1.trans k2).trans kA).trans kB, by omega, by omega⟩, ⟨kB.cell0 d1.1, kB.loose0 (a := ⟨w2.heap.size, 1, none⟩) l1 d1.2⟩, d2⟩, ⟨kB.cell0 e1.1, kB.loose0 (a := ⟨w2.heap.size, 2, none⟩) l1 e1.2⟩, e2⟩

/-- So many bits are enough. -/
def AA : Nat := 40000
/-- A number that is worked on, worth V, not too great. -/
def NV (L V : Int) (d : DE) : Prop := IsV L V d ∧ d.2.1.length ≤ 3000 ∧ d.2.2 ≤ 40000

end Go.Proofs.YthahoabkehcgbaaDoor
