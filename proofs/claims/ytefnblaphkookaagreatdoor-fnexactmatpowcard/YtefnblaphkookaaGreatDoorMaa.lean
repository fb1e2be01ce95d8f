/-
  MatAdd of the program.
-/
import Derived.Test.YtefnblaphkookaaGreatDoorOft
import Derived.Test.YtefnblaphkookaaGreatDoorPl2
import Derived.Test.YtefnblaphkookaaGreatDoorBO
namespace Go.Proofs.YtefnblaphkookaaGreatDoor
open Go.RowKit
set_option linter.unusedVariables false
set_option maxRecDepth 8000
set_option linter.unusedSimpArgs false

theorem both_dok {k : Nat} {n2 : Int} {ds1 ds2 : List DE} (h : bothB (k : Int) ds1 n2 ds2 = true) : 0 < k ∧ k ≤ 4 ∧ ds1.length = k * k ∧ ds2.length = k * k ∧ (∀ p, p < k * k → dOkE (ds1.getD p de0) = true) ∧ ∀ p, p < k * k → dOkE (ds2.getD p de0) = true := by
  obtain ⟨h1, h2, rfl⟩ := both_parts h
  obtain ⟨u1, u2, u3, U⟩ := mok_partsA h1
  obtain ⟨-, -, u5, U2⟩ := mok_partsA h2
  have hlen : ds1.length = k * k := by rw [← Int.natCast_mul] at u3; omega
  have hlen2 : ds2.length = k * k := by rw [← Int.natCast_mul] at u5; omega
  exact ⟨by omega, by omega, hlen, hlen2, fun p hp => U p (by omega), fun p hp => U2 p (by omega)⟩
theorem add_fn {k : Nat} {n2 : Int} {ds1 ds2 : List DE} (w : World) (h : bothB (k : Int) ds1 n2 ds2 = true) : SqFn 125 (sgV false ds1 ds2) (-3000) k w ds1 ds2 := by
  have e : ∀ p, sgV false ds1 ds2 p = dv (-3000) (ds1.getD p de0) + dv (-3000) (ds2.getD p de0) := fun p => by unfold sgV; rw [if_neg (by decide)]
  obtain ⟨h0, h4, -, -, U1, U2⟩ := both_dok h
  intro w' R1 G1 S1 b1 R2 G2 S2 b2 kk s1 m1 s2 m2
  refine (plusS_impl (L := -3000) (V1 := fun p => dv (-3000) (ds1.getD p de0)) (V2 := fun p => dv (-3000) (ds2.getD p de0)) w' (by omega) (by decide) s1 m1 s2 m2 (fun p hp => dok_nv (U1 p hp) (by decide)) (fun p hp => dok_nv (U2 p hp) (by decide)) (fun p hp => ?_)).mono ?_
  · have := sgV_lt (ng := false) (U1 p hp) (U2 p hp)
    rw [e] at this
    exact this
  · rintro e w'' ⟨R, G, S, F, rfl, q1, q2, q3, q4, q5⟩
    exact ⟨R, G, S, F, rfl, q1, q2, fun p hp => by rw [e]; exact q3 p hp, q5⟩

theorem in_fn_add : ∀ (w : World) (args : Array Value), (callFunc 125 args).run Tryz.prog w = .ok (.enter 125 args) w := enters Tryz.func125 (by decide) (fun h => by cases h)

end Go.Proofs.YtefnblaphkookaaGreatDoor
