/-
  The contract of the model's l2div, for a divisor of many limbs and for every one.
-/
import Derived.Test.YtpeaghaojfbbnaaNat15
import Derived.Test.YtpeaghaojfbbnaaBC
namespace Go.Proofs.Ytpeaghaojfbbnaa
open Go.RowKit
set_option linter.unusedVariables false
set_option maxRecDepth 8000
set_option linter.unusedSimpArgs false

/-- A row appended to one limb that was written out. -/
theorem wp_append_row {o : Oper} {a : Act} {K : Act → World → Prop} {Q : Exit → Act → World → Prop} {W w : World} {b g lo hi : Nat} {bw : Bool} {z : Int} {v : Value} {zs : List Int} (s x : Operand)
    (ho : o.op = .call { callee := .builtin .append, args := #[s, x], argTypes := #[23, 23] }) (hs : a.eval s = .slice (some ⟨g, 0, none⟩) 1 1) (hx : a.eval x = v)
    (hown : w.ownsRow b 3 1 (.slice (some ⟨g, 0, none⟩) 1 1) 1 ([z].map (Value.int .i64))) (r : Row .i64 bw lo hi w v zs) (hn : zs.length ≤ 200000) (hb : b ≤ w.heap.size) (kW : Kept 0 0 W w) (hg : W.heap.size ≤ g)
    (h : ∀ v' w', Row .i64 true b w'.heap.size w' v' (z :: zs) → Kept 0 0 W w' → K (a.put o.dst v') w') : Oper.wp Try.prog o a w K Q := by
  obtain ⟨i0, hi0, hz0, hz1, hz2⟩ := info_parts Try.info3'
  by_cases hz : zs = []
  · subst hz
    obtain ⟨a0, c0, rfl⟩ := Row.form' r
    refine Lib.wp_append_run w s x 23 23 ho _ _ hs hx _ _ (run_append_zero w _ _ 3 i0 Try.underlying23 hi0 _ _ 1 1 c0 (Nat.le_refl _)) ?_
    exact h _ _ (Row.own hown) kW
  · obtain ⟨g1, off, c', hv, -, -, hnews⟩ := r.news hz
    subst hv
    refine wp_append_own w s x 23 ho b 3 i0 (.int .i64 0) 1 8 Try.underlying23 hi0 hz0 hz1 hz2 rfl (by decide) _ 1 _ hs hown ⟨g1, off, none⟩ zs.length c' (zs.map (Value.int .i64)) hx (by simp) hnews (ints_one _ _) (by unfold maxLen; omega) (by omega) hb ?_
    intro v' w' hown' hgrow _
    refine h v' w' ?_ (kW.growNew hgrow (fun q hq => by simp [Value.ownBlock] at hq; omega))
    have e : ([z].map (Value.int .i64)) ++ zs.map (Value.int .i64) = (z :: zs).map (Value.int .i64) := by simp
    rw [e] at hown'
    exact Row.own hown'

/-- The state of the long division: the quotient's limbs, and what is left. -/
structure DivSt (W wr : World) (X M : Nat) (out : List Int) (R : Nat) : Prop where
  own : wr.ownsRow W.heap.size 3 1 (.slice (some ⟨W.heap.size, 0, none⟩) M M) M (out.map (Value.int .i64))
  len : out.length = M
  rest : ∃ v, wr.cell? ⟨X, 0, none⟩ = some v ∧ Row .i64 true (X + 1) wr.heap.size wr v (limbs R)
  loose : wr.frozen? ⟨X, 0, none⟩ = false
  gx : W.heap.size < X
  k : Kept 0 0 W wr

theorem DivSt.kept {W wr w' : World} {X M R : Nat} {out : List Int} (s : DivSt W wr X M out R) (k : Kept 0 0 wr w') : DivSt W w' X M out R := by
  obtain ⟨v, c, r⟩ := s.rest
  have l := World.block_lt_of_cell? _ _ c
  exact ⟨own_kept s.own k, s.len, ⟨v, k.cell0 c, (r.kept k (by omega)).tight⟩, k.loose0 l s.loose, s.gx, s.k.trans k⟩
theorem DivSt.put {W wr : World} {X M R : Nat} {out : List Int} (s : DivSt W wr X M out R) (j : Nat) (z : Int) : DivSt W (wr.setCell ⟨W.heap.size, j, none⟩ (.int .i64 z)) X M (out.set j z) R := by
  obtain ⟨v, c, r⟩ := s.rest
  have hg := s.gx
  have ho := s.own
  have hl := s.len
  subst hl
  refine ⟨by have := own_set ho j z; simpa using this, by simp, ⟨v, cell_aside _ (p := ⟨X, 0, none⟩) (r := ⟨W.heap.size, j, none⟩) (by dsimp only; omega) c, ?_⟩, by rw [frozen_set]; exact s.loose, s.gx, s.k.setNew (p := ⟨W.heap.size, j, none⟩) (Nat.le_refl _) _⟩
  exact (r.set_other (p := ⟨W.heap.size, j, none⟩) (.inl (by dsimp only; omega)) _).tight
theorem DivSt.again {W wr : World} {X M R R' b hi : Nat} {out : List Int} {v : Value} (s : DivSt W wr X M out R) (r : Row .i64 true b hi wr v (limbs R')) (hb : X < b) : DivSt W (wr.setCell ⟨X, 0, none⟩ v) X M out R' := by
  obtain ⟨v0, c, -⟩ := s.rest
  have hg := s.gx
  refine ⟨own_apart s.own (p := ⟨X, 0, none⟩) (by simp [Value.ownBlock]; omega) _, s.len, ⟨v, cell_on _ _ _ _ _ c, ?_⟩, by rw [frozen_set]; exact s.loose, s.gx, s.k.setNew (p := ⟨X, 0, none⟩) (by dsimp only; omega) _⟩
  exact ((r.set_other (p := ⟨X, 0, none⟩) (.inl hb) v).tight.wider (by omega) (Nat.le_refl _))

theorem limbs_len_mono {a b : Nat} (h : a ≤ b) : (limbs a).length ≤ (limbs b).length := (limbs_length_le a _).2 (by
  have := (limbs_length_le b (limbs b).length).1 (Nat.le_refl _)
  omega)
theorem div_digit (xs out : List Int) (j : Nat) (Y R d R' : Int) (hj : j < out.length) (h : val (xs.drop (j + 1)) = val (out.drop (j + 1)) * Y + R) (hd : xs.getD j 0 + 65536 * R = d * Y + R') :
    val (xs.drop j) = val ((out.set j d).drop j) * Y + R' := by
  rw [val_drop xs j, h, set_drop out j d hj, Int.add_mul, Int.mul_add]
  have : 65536 * (val (out.drop (j + 1)) * Y) = 65536 * val (out.drop (j + 1)) * Y := by rw [Int.mul_assoc]
  omega

end Go.Proofs.Ytpeaghaojfbbnaa
