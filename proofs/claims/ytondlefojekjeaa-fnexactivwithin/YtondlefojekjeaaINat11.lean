/-
  Two numbers of which the first is written into; what a sum's limbs are; the contract of the program's add.
-/
import Derived.Test.YtondlefojekjeaaINat9
namespace Go.Proofs.Ytondlefojekjeaa
open Go.RowKit
set_option linter.unusedVariables false
set_option maxRecDepth 8000

theorem nrm_of_le {zs : List Int} (h : Lim zs) (hv : zs = [] ∨ (65536 : Int) ^ (zs.length - 1) ≤ val zs) : Nrm zs := by
  refine ⟨h, fun z hz e => ?_⟩
  subst e
  rcases hv with rfl | hv
  · simp at hz
  · have hne : zs ≠ [] := by intro e; subst e; simp at hz
    have hl : 0 < zs.length := List.length_pos_iff.2 hne
    have e1 := val_take_succ zs (zs.length - 1) (by omega)
    rw [show zs.length - 1 + 1 = zs.length by omega, List.take_length] at e1
    have e2 : zs.getD (zs.length - 1) 0 = 0 := by
      rw [List.getLast?_eq_getElem?] at hz
      simp [List.getD, hz]
    have e3 := val_lt (h.take (zs.length - 1))
    rw [List.length_take, Nat.min_eq_left (by omega)] at e3
    rw [e2, Int.mul_zero] at e1
    omega
theorem limbs_of_le {zs : List Int} (h : Lim zs) (hv : zs = [] ∨ (65536 : Int) ^ (zs.length - 1) ≤ val zs) : zs = limbs (val zs).toNat := nrm_limbs (nrm_of_le h hv)
theorem drop_pos {ys : List Int} (hy : Nrm ys) (j : Nat) (hj : j < ys.length) : 1 ≤ val (ys.drop j) := by
  have hl : Nrm (ys.drop j) := ⟨hy.1.drop j, fun z hz => hy.2 z (by rw [List.getLast?_drop, if_neg (by omega)] at hz; exact hz)⟩
  rcases Int.lt_or_le 0 (val (ys.drop j)) with h | h
  · omega
  · have h0 : val (ys.drop j) = 0 := by have := val_nonneg hl.1; omega
    have := congrArg List.length (nrm_nil hl h0)
    simp at this
    omega

theorem Two.kept {w0 W w' : World} {g1 g2 : Nat} {u1 u2 : Value} {xs ys : List Int} (t : Two w0 W g1 g2 u1 u2 xs ys) (k : Kept 0 0 W w') : Two w0 w' g1 g2 u1 u2 xs ys :=
  ⟨t.n1.kept k, t.n2.kept k, t.ne, t.o12, t.o21, t.oo, t.k.trans k, t.b1, t.b2⟩
theorem Two.put {w0 wr : World} {g1 g2 gb cap j : Nat} {u2 : Value} {zs ys : List Int} {n : Nat} (t : Two w0 wr g1 g2 (.slice (some ⟨gb, 0, none⟩) n cap) u2 zs ys) (hn : zs.length = n) (z : Int) :
    Two w0 (wr.setCell ⟨gb, j, none⟩ (.int .i64 z)) g1 g2 (.slice (some ⟨gb, 0, none⟩) n cap) u2 (zs.set j z) ys := by
  subst hn
  have n1 : gb ≠ g1 := fun e => t.n1.apart (by simp [Value.ownBlock, e])
  have n2 : gb ≠ g2 := fun e => t.o12 (by simp [Value.ownBlock, e])
  have n3 : u2.ownBlock ≠ some gb := t.oo gb rfl
  have hb := (t.n1.own.lt gb rfl).1
  refine ⟨⟨cell_aside _ (p := ⟨g1, 0, none⟩) (r := ⟨gb, j, none⟩) n1 t.n1.cell, by rw [frozen_set]; exact t.n1.loose, own_set t.n1.own j z, t.n1.apart⟩,
    ⟨cell_aside _ (p := ⟨g2, 0, none⟩) (r := ⟨gb, j, none⟩) n2 t.n2.cell, by rw [frozen_set]; exact t.n2.loose, own_apart t.n2.own (p := ⟨gb, j, none⟩) n3 _, t.n2.apart⟩,
    t.ne, t.o12, t.o21, t.oo, t.k.setNew (p := ⟨gb, j, none⟩) hb _, t.b1, t.b2⟩
theorem Two.snoc {w0 w w' : World} {g1 g2 : Nat} {v v' u2 : Value} {zs ys qs : List Int} (t : Two w0 w g1 g2 v u2 zs ys) (o : Obj) (hg : (w.alloc o).grownBy w' v.ownBlock) (hat : v'.ownBlock = v.ownBlock ∨ v'.ownBlock = some (w.heap.size + 1))
    (hown : w'.ownsRow w0.heap.size 3 1 v' qs.length (qs.map (Value.int .i64))) :
    w'.cell? ⟨g1, 0, none⟩ = some v ∧ w'.frozen? ⟨g1, 0, none⟩ = false ∧ Two w0 (w'.setCell ⟨g1, 0, none⟩ v') g1 g2 v' u2 qs ys := by
  obtain ⟨d1, d2, d3, d4⟩ := t.n1.snoc o hg hat hown
  have hlt := t.n2.lt
  have hS2 : ¬ Own1 g1 v g2 := fun e => e.elim (fun e => t.ne e.symm) t.o12
  have hSo : ∀ i, u2.ownBlock = some i → ¬ Own1 g1 v i := fun i hi e => e.elim (fun e => t.o21 (by rw [hi, e])) (fun e => t.oo i e hi)
  refine ⟨d1, d2, d3, t.n2.mod d4 hS2 hSo, t.ne, ?_, t.o21, ?_, t.k.mod d4 (fun i hi => hi.elim (fun e => by rw [e]; exact t.b1) (fun e => (t.n1.own.lt i e).1)), t.b1, t.b2⟩
  · rcases hat with e | e
    · rw [e]; exact t.o12
    · rw [e]; simp; omega
  · intro k hk
    rcases hat with e | e
    · exact t.oo k (by rw [← e]; exact hk)
    · rw [e] at hk
      simp at hk
      intro e2
      have := (t.n2.own.lt k e2).2
      omega

theorem add_put (zs ys : List Int) (i : Nat) (hi : i < zs.length) (c S z y : Int) (hz : zs.getD i 0 = z) (hy : val (ys.drop i) = y + 65536 * val (ys.drop (i + 1))) (h : val zs + 65536 ^ i * (c + val (ys.drop i)) = S) :
    val (zs.set i ((z + y + c) % 65536)) + 65536 ^ (i + 1) * ((z + y + c) / 65536 + val (ys.drop (i + 1))) = S := by
  rw [val_set _ _ _ hi, hz, ← h, Int.pow_succ, hy]
  have e : (z + y + c) % 65536 - z + 65536 * ((z + y + c) / 65536 + val (ys.drop (i + 1))) = c + (y + 65536 * val (ys.drop (i + 1))) := by omega
  have key : ∀ P A B : Int, P * A + P * 65536 * B = P * (A + 65536 * B) := fun P A B => by rw [Int.mul_add, Int.mul_assoc]
  rw [← e, ← key, Int.add_assoc]

end Go.Proofs.Ytondlefojekjeaa
