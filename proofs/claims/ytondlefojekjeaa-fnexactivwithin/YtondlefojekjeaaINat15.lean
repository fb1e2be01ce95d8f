/-
  The program's subtract: a difference that is not below nought, written into the first number.
-/
import Derived.Test.YtondlefojekjeaaINat14
namespace Go.Proofs.Ytondlefojekjeaa
open Go.RowKit
set_option linter.unusedVariables false
set_option maxRecDepth 8000

theorem Two.mod1 {w0 W w' : World} {g1 g2 : Nat} {u1 u1' u2 : Value} {xs ys zs : List Int} (t : Two w0 W g1 g2 u1 u2 xs ys) (n : Num w0.heap.size w' g1 u1' zs) (ho : u1'.ownBlock = u1.ownBlock) (m : Mod (fun i => i = g1) W w') : Two w0 w' g1 g2 u1' u2 zs ys :=
  ⟨n, t.n2.mod m (fun e => t.ne e.symm) (fun i hi e => t.o21 (by rw [hi, e])), t.ne, by rw [ho]; exact t.o12, t.o21, by rw [ho]; exact t.oo, t.k.mod m (fun i e => by rw [e]; exact t.b1), t.b1, t.b2⟩

theorem sub_put (zs ys : List Int) (i : Nat) (hi : i < zs.length) (c c' l D y : Int) (hy : val (ys.drop i) = y + 65536 * val (ys.drop (i + 1))) (hl : l = zs.getD i 0 - y - c + 65536 * c') (h : val zs - 65536 ^ i * (c + val (ys.drop i)) = D) :
    val (zs.set i l) - 65536 ^ (i + 1) * (c' + val (ys.drop (i + 1))) = D := by
  rw [val_set _ _ _ hi, ← h, Int.pow_succ, hy]
  have e : l - zs.getD i 0 - 65536 * (c' + val (ys.drop (i + 1))) = - (c + (y + 65536 * val (ys.drop (i + 1)))) := by omega
  have key : ∀ P A B : Int, P * A - P * 65536 * B = P * (A - 65536 * B) := fun P A B => by rw [Int.mul_sub, Int.mul_assoc]
  have e2 := key (65536 ^ i) (l - zs.getD i 0) (c' + val (ys.drop (i + 1)))
  rw [e, Int.mul_neg] at e2
  omega

end Go.Proofs.Ytondlefojekjeaa
