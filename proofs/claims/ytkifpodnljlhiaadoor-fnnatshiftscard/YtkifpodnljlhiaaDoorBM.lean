/-
  Contracts that the proofs of this seat share: DivNum, Nat15, Nat16, IDiv6.
-/
import Derived.Test.YtkifpodnljlhiaaDoorBA
import Derived.Test.YtkifpodnljlhiaaDoorBB
import Derived.Test.YtkifpodnljlhiaaDoorBE
import Derived.Test.YtkifpodnljlhiaaDoorBC
import Derived.Deep.DeepCutAuto
namespace Go.Proofs.YtkifpodnljlhiaaDoor
set_option linter.unusedVariables false

theorem times_bound (t y : Int) (h0 : -65535 ≤ t) (h1 : t ≤ 65535) (y0 : 0 ≤ y) (y1 : y ≤ 65535) : -4294836225 ≤ t * y ∧ t * y ≤ 4294836225 := by
  have a := Int.mul_le_mul_of_nonneg_right h1 y0
  have b := Int.mul_le_mul_of_nonneg_right h0 y0
  omega

/-- One limb of a multiple that is added. -/
theorem times_step (zs ys : List Int) (p i : Nat) (hi : p + i < zs.length) (hy : i < ys.length) (z t c S0 : Int) (hz : zs.getD (p + i) 0 = z) (h : val zs + 65536 ^ (p + i) * c = S0 + t * (65536 ^ p * val (ys.take i))) :
    val (zs.set (p + i) ((z + t * ys.getD i 0 + c) % 65536)) + 65536 ^ (p + (i + 1)) * ((z + t * ys.getD i 0 + c) / 65536) = S0 + t * (65536 ^ p * val (ys.take (i + 1))) := by
  rw [val_set _ _ _ hi, hz, val_take_succ ys i hy, Int.mul_add, Int.mul_add, ← Int.add_assoc, ← h, ← Nat.add_assoc, Int.pow_succ]
  generalize ys.getD i 0 = y
  have e : (z + t * y + c) % 65536 - z + 65536 * ((z + t * y + c) / 65536) = c + t * y := by
    generalize t * y = m; omega
  have key : ∀ P A B : Int, P * A + P * 65536 * B = P * (A + 65536 * B) := fun P A B => by rw [Int.mul_add, Int.mul_assoc]
  rw [Int.add_assoc, key, e, Int.mul_add, Int.pow_add, Int.add_assoc]
  congr 2
  rw [Int.mul_comm t (65536 ^ p * (65536 ^ i * y)), Int.mul_assoc, Int.mul_assoc, Int.mul_assoc, Int.mul_comm t y]

theorem times_end (zs ys : List Int) (p : Nat) (hp : p + ys.length < zs.length) (t c S0 : Int) (h : val zs + 65536 ^ (p + ys.length) * c = S0 + t * (65536 ^ p * val ys)) :
    val (zs.set (p + ys.length) (zs.getD (p + ys.length) 0 + c)) = S0 + t * (65536 ^ p * val ys) := by
  rw [val_set _ _ _ hp, ← h]
  congr 2
  omega

/-- The value from a place on, where all below it is given. -/
theorem val_split (zs : List Int) (p : Nat) (hp : p ≤ zs.length) : val zs = val (zs.take p) + 65536 ^ p * val (zs.drop p) := val_take_drop zs p hp

theorem lim_of_getD {zs : List Int} (h : ∀ j, j < zs.length → 0 ≤ zs.getD j 0 ∧ zs.getD j 0 ≤ 65535) : Lim zs := fun z hz => by
  obtain ⟨i, hi, rfl⟩ := List.getElem_of_mem hz
  have := h i hi
  simpa [List.getD, hi] using this

/-- The guess of a limb is not too small. -/
theorem guess_ge (R Y H P y q low : Int) (hP : 0 < P) (hy : 0 < y) (hR : R = H * P + low) (hlow : low < P) (hY : y * P ≤ Y) (hq : 0 ≤ q) (h : q * Y ≤ R) : q ≤ H / y := by
  have h1 : q * (y * P) ≤ q * Y := Int.mul_le_mul_of_nonneg_left hY hq
  have h2 : q * y * P < (H + 1) * P := by
    rw [Int.mul_assoc, Int.add_mul, Int.one_mul]; omega
  have h3 : q * y < H + 1 := Int.lt_of_mul_lt_mul_right h2 (Int.le_of_lt hP)
  exact (Int.le_ediv_iff_mul_le hy).2 (by omega)

/-- The quotient's rest by one limb more. -/
theorem div_unique2 (R Y d S : Int) (hS : S = R - d * Y) (h0 : 0 ≤ S) (h1 : S < Y) : d = R / Y := by
  have hY : 0 < Y := by omega
  have e : R = S + d * Y := by omega
  rw [e, Int.add_mul_ediv_right _ _ (by omega), Int.ediv_eq_zero_of_lt h0 h1, Int.zero_add]
end Go.Proofs.YtkifpodnljlhiaaDoor

namespace Go.Proofs.YtkifpodnljlhiaaDoor
open Go.RowKit
set_option linter.unusedVariables false
set_option maxRecDepth 8000
set_option linter.unusedSimpArgs false

end Go.Proofs.YtkifpodnljlhiaaDoor

namespace Go.Proofs.YtkifpodnljlhiaaDoor
open Go.RowKit
set_option linter.unusedVariables false
set_option maxRecDepth 8000
set_option linter.unusedSimpArgs false

/-- A row appended to one limb that was written out. -/
theorem wp_append_row {o : Oper} {a : Act} {K : Act → World → Prop} {Q : Exit → Act → World → Prop} {W w : World} {b g lo hi : Nat} {bw : Bool} {z : Int} {v : Value} {zs : List Int} (s x : Operand)
    (ho : o.op = .call { callee := .builtin .append, args := #[s, x], argTypes := #[23, 23] }) (hs : a.eval s = .slice (some ⟨g, 0, none⟩) 1 1) (hx : a.eval x = v)
    (hown : w.ownsRow b 3 1 (.slice (some ⟨g, 0, none⟩) 1 1) 1 ([z].map (Value.int .i64))) (r : Row .i64 bw lo hi w v zs) (hn : zs.length ≤ 200000) (hb : b ≤ w.heap.size) (kW : Kept 0 0 W w) (hg : W.heap.size ≤ g)
    (h : ∀ v' w', Row .i64 true b w'.heap.size w' v' (z :: zs) → Kept 0 0 W w' → K (a.put o.dst v') w') : Oper.wp Tryd.prog o a w K Q := by
  obtain ⟨i0, hi0, hz0, hz1, hz2⟩ := info_parts Tryd.info3'
  by_cases hz : zs = []
  · subst hz
    obtain ⟨a0, c0, rfl⟩ := Row.form' r
    refine Lib.wp_append_run w s x 23 23 ho _ _ hs hx _ _ (run_append_zero w _ _ 3 i0 Tryd.underlying23 hi0 _ _ 1 1 c0 (Nat.le_refl _)) ?_
    exact h _ _ (Row.own hown) kW
  · obtain ⟨g1, off, c', hv, -, -, hnews⟩ := r.news hz
    subst hv
    refine wp_append_own w s x 23 ho b 3 i0 (.int .i64 0) 1 8 Tryd.underlying23 hi0 hz0 hz1 hz2 rfl (by decide) _ 1 _ hs hown ⟨g1, off, none⟩ zs.length c' (zs.map (Value.int .i64)) hx (by simp) hnews (ints_one _ _) (by unfold maxLen; omega) (by omega) hb ?_
    intro v' w' hown' hgrow _
    refine h v' w' ?_ (kW.growNew hgrow (fun q hq => by simp [Value.ownBlock] at hq; omega))
    have e : ([z].map (Value.int .i64)) ++ zs.map (Value.int .i64) = (z :: zs).map (Value.int .i64) := by simp
    rw [e] at hown'
    exact Row.own hown'

/-- The state of the long division: the quotient's limbs, and what is left. -/
structure DivSt (W wr : World) (X M : Nat) (out : List Int) (R : Nat) : Prop where
  own : wr.ownsRow W.heap.size 3 1 (.slice (some ⟨W.heap.size, 0, none⟩) M M) M (out.map (Value.int .i64))
  len : out.length = M
  rest : ∃ v, wr.cell? ⟨X, 0, none⟩ = some v ∧ Row .i64 true (X + 1) wr.heap.size wr v (limbs R)
  loose : wr.frozen? ⟨X, 0, none⟩ = false
  gx : W.heap.size < X
  k : Kept 0 0 W wr

theorem DivSt.kept {W wr w' : World} {X M R : Nat} {out : List Int} (s : DivSt W wr X M out R) (k : Kept 0 0 wr w') : DivSt W w' X M out R := by
  obtain ⟨v, c, r⟩ := s.rest
  have l := World.block_lt_of_cell? _ _ c
  exact ⟨own_kept s.own k, s.len, ⟨v, k.cell0 c, (r.kept k (by omega)).tight⟩, k.loose0 l s.loose, s.gx, s.k.trans k⟩
theorem DivSt.put {W wr : World} {X M R : Nat} {out : List Int} (s : DivSt W wr X M out R) (j : Nat) (z : Int) : DivSt W (wr.setCell ⟨W.heap.size, j, none⟩ (.int .i64 z)) X M (out.set j z) R := by
  obtain ⟨v, c, r⟩ := s.rest
  have hg := s.gx
  have ho := s.own
  have hl := s.len
  subst hl
  refine ⟨by have := own_set ho j z; simpa using this, by simp, ⟨v, cell_aside _ (p := ⟨X, 0, none⟩) (r := ⟨W.heap.size, j, none⟩) (by dsimp only; omega) c, ?_⟩, by rw [frozen_set]; exact s.loose, s.gx, s.k.setNew (p := ⟨W.heap.size, j, none⟩) (Nat.le_refl _) _⟩
  exact (r.set_other (p := ⟨W.heap.size, j, none⟩) (.inl (by dsimp only; omega)) _).tight
theorem DivSt.again {W wr : World} {X M R R' b hi : Nat} {out : List Int} {v : Value} (s : DivSt W wr X M out R) (r : Row .i64 true b hi wr v (limbs R')) (hb : X < b) : DivSt W (wr.setCell ⟨X, 0, none⟩ v) X M out R' := by
  obtain ⟨v0, c, -⟩ := s.rest
  have hg := s.gx
  refine ⟨own_apart s.own (p := ⟨X, 0, none⟩) (by simp [Value.ownBlock]; omega) _, s.len, ⟨v, cell_on _ _ _ _ _ c, ?_⟩, by rw [frozen_set]; exact s.loose, s.gx, s.k.setNew (p := ⟨X, 0, none⟩) (by dsimp only; omega) _⟩
  exact ((r.set_other (p := ⟨X, 0, none⟩) (.inl hb) v).tight.wider (by omega) (Nat.le_refl _))

theorem limbs_len_mono {a b : Nat} (h : a ≤ b) : (limbs a).length ≤ (limbs b).length := (limbs_length_le a _).2 (by
  have := (limbs_length_le b (limbs b).length).1 (Nat.le_refl _)
  omega)
theorem div_digit (xs out : List Int) (j : Nat) (Y R d R' : Int) (hj : j < out.length) (h : val (xs.drop (j + 1)) = val (out.drop (j + 1)) * Y + R) (hd : xs.getD j 0 + 65536 * R = d * Y + R') :
    val (xs.drop j) = val ((out.set j d).drop j) * Y + R' := by
  rw [val_drop xs j, h, set_drop out j d hj, Int.add_mul, Int.mul_add]
  have : 65536 * (val (out.drop (j + 1)) * Y) = 65536 * val (out.drop (j + 1)) * Y := by rw [Int.mul_assoc]
  omega

end Go.Proofs.YtkifpodnljlhiaaDoor

namespace Go.Proofs.YtkifpodnljlhiaaDoor
open Go.RowKit
set_option linter.unusedVariables false
set_option maxRecDepth 8000
set_option linter.unusedSimpArgs false

/-- Whether two lists are divided, and what is told. -/
def divB (xs ys : List Int) : Bool := okB xs && (okB ys && decide (0 < ys.length))
def divQ (xs ys : List Int) : List Int := if divB xs ys = true then limbs (val xs / val ys).toNat else []
def divR (xs ys : List Int) : List Int := if divB xs ys = true then limbs (val xs % val ys).toNat else []
theorem divQ_no {xs ys : List Int} (h : divB xs ys = false) : divQ xs ys = [] := by unfold divQ; rw [h]; rfl
theorem divR_no {xs ys : List Int} (h : divB xs ys = false) : divR xs ys = [] := by unfold divR; rw [h]; rfl
theorem divQ_yes {xs ys : List Int} (h : divB xs ys = true) : divQ xs ys = limbs (val xs / val ys).toNat := by unfold divQ; rw [h]; rfl
theorem divR_yes {xs ys : List Int} (h : divB xs ys = true) : divR xs ys = limbs (val xs % val ys).toNat := by unfold divR; rw [h]; rfl
theorem div_pos {ys : List Int} (h : okB ys = true) (h0 : 0 < ys.length) : 0 < val ys := by
  have hn := ((okB_iff ys).1 h).2
  have e1 := nrm_pow hn (List.length_pos_iff.1 h0)
  have : (0 : Int) < 65536 ^ (ys.length - 1) := Int.pow_pos (by decide)
  omega
theorem divQ_len (xs ys : List Int) : (divQ xs ys).length ≤ 100 := by
  unfold divQ
  split
  · rename_i h
    unfold divB at h
    simp only [Bool.and_eq_true, decide_eq_true_eq] at h
    obtain ⟨l1, n1⟩ := (okB_iff xs).1 h.1
    have h0 := div_pos h.2.1 h.2.2
    have hx := val_nonneg n1.1
    have e : (val xs / val ys).toNat ≤ (val xs).toNat := by have := Int.ediv_le_self (val ys) hx; omega
    have := limbs_len_mono e
    rw [← nrm_limbs n1] at this
    omega
  · simp
theorem divR_len (xs ys : List Int) : (divR xs ys).length ≤ 100 := by
  unfold divR
  split
  · rename_i h
    unfold divB at h
    simp only [Bool.and_eq_true, decide_eq_true_eq] at h
    obtain ⟨l1, n1⟩ := (okB_iff ys).1 h.2.1
    have h0 := div_pos h.2.1 h.2.2
    have e : (val xs % val ys).toNat ≤ (val ys).toNat := by have := Int.emod_lt_of_pos (val xs) h0; omega
    have := limbs_len_mono e
    rw [← nrm_limbs n1] at this
    omega
  · simp

end Go.Proofs.YtkifpodnljlhiaaDoor
