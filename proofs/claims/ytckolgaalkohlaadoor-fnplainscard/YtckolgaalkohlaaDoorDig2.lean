/-
  The program's text of a number: its decimal digits, the highest first.
-/
import Derived.Test.YtckolgaalkohlaaDoorDig1
import Derived.Test.YtckolgaalkohlaaDoorRev
namespace Go.Proofs.YtckolgaalkohlaaDoor
open Go.RowKit Go.Shelf
set_option linter.unusedVariables false
set_option maxRecDepth 8000
attribute [local go_sem] Oper.semAt_some

theorem Kept.winThen {lo hi : Nat} {w A B : World} (h : Kept 0 0 w A) (k : Kept lo hi A B) (hl : w.heap.size ≤ lo) : Kept 0 0 w B :=
  ⟨k.os.trans h.os, k.tape.trans h.tape, k.output.trans h.output, Nat.le_trans h.size k.size, fun i hi' ho => (k.block i (Nat.lt_of_lt_of_le hi' h.size) (.inl (by omega))).trans (h.block i hi' ho)⟩
theorem Kept.modw {lo hi : Nat} {A B : World} (k : Kept lo hi A B) : Mod (fun i => lo ≤ i ∧ i < hi) A B :=
  ⟨k.os, k.tape, k.output, k.size, fun i hi' ho => k.block i hi' (by omega)⟩

theorem ddig_at (N : Nat) (x : Int) (h : x ∈ ddig N) : 0 ≤ x ∧ x ≤ 9 := by
  unfold ddig at h
  obtain ⟨z, hz, rfl⟩ := List.mem_map.1 h
  have := tdig_at N N (Nat.le_refl _) z hz
  omega

/-- What the loop holds between two rounds: the bytes of the digits that have come. -/
def TxtI (w : World) (B0 hi : Nat) (pre : List Int) (W : World) : Prop :=
  ∃ v, W.cell? ⟨B0, 0, none⟩ = some v ∧ W.frozen? ⟨B0, 0, none⟩ = false ∧ W.ownsRow hi 5 1 v (pre.map (fun z => 48 + z)).length ((pre.map (fun z => 48 + z)).map (Value.int .u8)) ∧ hi ≤ W.heap.size ∧ Kept 0 0 w W

end Go.Proofs.YtckolgaalkohlaaDoor
