/-
  The program's appendDigit: ten times a number, and a digit.
-/
import Derived.Test.YtpeaghaojfbbnaaBF
import Derived.Test.YtpeaghaojfbbnaaBB
namespace Go.Proofs.Ytpeaghaojfbbnaa
open Go.RowKit
set_option linter.unusedVariables false
set_option maxRecDepth 8000

theorem Num.put {b g gb cap j n : Nat} {w : World} {zs : List Int} (h : Num b w g (.slice (some ⟨gb, 0, none⟩) n cap) zs) (hn : n = zs.length) (z : Int) :
    Num b (w.setCell ⟨gb, j, none⟩ (.int .i64 z)) g (.slice (some ⟨gb, 0, none⟩) n cap) (zs.set j z) := by
  subst hn
  have n1 : gb ≠ g := fun e => h.apart (by simp [Value.ownBlock, e])
  exact ⟨cell_aside _ (p := ⟨g, 0, none⟩) (r := ⟨gb, j, none⟩) n1 h.cell, by rw [frozen_set]; exact h.loose, own_set h.own j z, h.apart⟩
theorem dig_step (p xs : List Int) (i : Nat) (x c S : Int) (hp : p.length = i) (hi : i < xs.length) (hx : xs.getD i 0 = x) (h : val p + 65536 ^ i * (c + 10 * val (xs.drop i)) = S) :
    val (p ++ [(10 * x + c) % 65536]) + 65536 ^ (i + 1) * ((10 * x + c) / 65536 + 10 * val (xs.drop (i + 1))) = S := by
  rw [val_snoc, hp, ← h, val_drop xs i, hx, Int.pow_succ]
  have e : (10 * x + c) % 65536 + 65536 * ((10 * x + c) / 65536 + 10 * val (xs.drop (i + 1))) = c + 10 * (x + 65536 * val (xs.drop (i + 1))) := by omega
  have key : ∀ P A B : Int, P * A + P * 65536 * B = P * (A + 65536 * B) := fun P A B => by rw [Int.mul_add, Int.mul_assoc]
  rw [← e, ← key, Int.add_assoc]
theorem mix_set (p xs : List Int) (i : Nat) (z : Int) (hp : p.length = i) (hi : i < xs.length) : (p ++ xs.drop i).set i z = (p ++ [z]) ++ xs.drop (i + 1) := by
  rw [List.set_append_right _ _ (by omega), hp, Nat.sub_self, List.drop_eq_getElem_cons hi, List.set_cons_zero, List.append_assoc]
  rfl
theorem mix_at (p xs : List Int) (i : Nat) (hp : p.length = i) : (p ++ xs.drop i).getD i 0 = xs.getD i 0 := by
  simp only [List.getD]
  rw [List.getElem?_append_right (by omega), hp, Nat.sub_self, List.getElem?_drop, Nat.add_zero]

end Go.Proofs.Ytpeaghaojfbbnaa
