/-
  The program's iterator over decimal digits, the lowest first: it copies the number and takes the digits off the copy.
-/
import Derived.Test.YtckolgaalkohlaaDoorRgF
import Derived.Test.YtckolgaalkohlaaDoorBH
import Derived.Test.YtckolgaalkohlaaDoorINat26
import Derived.Test.YtckolgaalkohlaaDoorTxt1
import Derived.Test.YtckolgaalkohlaaDoorTxt2
import Derived.Sort.LoopGhostIn
namespace Go.Proofs.YtckolgaalkohlaaDoor
open Go.RowKit Go.Shelf
set_option linter.unusedVariables false
set_option maxRecDepth 8000
attribute [local go_sem] Oper.semAt_some

/-- The decimal digits, the lowest first; none of nought. -/
def ddig (n : Nat) : List Int := (tdig n).map (fun z => z - 48)
theorem ddig_zero : ddig 0 = [] := rfl
theorem ddig_step {n : Nat} (h : n ≠ 0) : ddig n = ((n % 10 : Nat) : Int) :: ddig (n / 10) := by
  unfold ddig
  rw [tdig_step h, List.map_cons]
  congr 1
  omega

theorem limbs_mono {a b : Nat} (h : a ≤ b) : (limbs a).length ≤ (limbs b).length := (limbs_length_le a _).2 (by
  have := (limbs_length_le b (limbs b).length).1 (Nat.le_refl _)
  omega)
theorem Mod.win {g lo hi : Nat} {u : Value} {w w' : World} (m : Mod (Own1 g u) w w') (h1 : lo ≤ g) (h2 : g < hi) (hu : ∀ i, u.ownBlock = some i → lo ≤ i ∧ i < hi) : Kept lo hi w w' :=
  ⟨m.os, m.tape, m.output, m.size, fun i hi' ho => m.block i hi' (fun e => by rcases e with e | e; omega; have := hu i e; omega)⟩

end Go.Proofs.YtckolgaalkohlaaDoor
