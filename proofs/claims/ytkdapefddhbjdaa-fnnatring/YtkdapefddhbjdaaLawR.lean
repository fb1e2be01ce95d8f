/-
  The model's DrawNatAdd, and the laws' nats.
-/
import Derived.Test.YtkdapefddhbjdaaDrawN5
import Derived.Test.YtkdapefddhbjdaaLawN
import Derived.Test.YtkdapefddhbjdaaINat12
import Derived.Deep.RegionHeld3
namespace Go.Proofs.Ytkdapefddhbjdaa
open Go.RowKit
set_option linter.unusedVariables false
set_option maxRecDepth 8000
set_option linter.unusedSimpArgs false

set_option maxHeartbeats 4000000 in
theorem drawAdd_any {bw : Bool} {lo hi : Nat} {v : Value} {bs : List Int} (w : World) (r : Row .u8 bw lo hi w v bs) (b : Bytes bs) :
    Calls Try.prog 6 #[v] w fun e w' => ∃ v1 v2, e = .returned (.tuple #[.agg #[v1], .agg #[v2]]) ∧ AnyN w w' v1 ∧ AnyN w w' v2 ∧ Kept 0 0 w w' := by
  have k0 := ((Kept.refl 0 0 w).alloc (.cells #[.slice none 0 0] 26)).alloc (.cells #[.slice none 0 0] 26)
  have q := r.kept k0 (by omega)
  have c1 : ((w.alloc (.cells #[.slice none 0 0] 26)).alloc (.cells #[.slice none 0 0] 26)).cell? ⟨w.heap.size, 0, none⟩ = some (.slice none 0 0) := old_cell _ (new_cell_at _ _ _ _ rfl)
  have f1 : ((w.alloc (.cells #[.slice none 0 0] 26)).alloc (.cells #[.slice none 0 0] 26)).frozen? ⟨w.heap.size, 0, none⟩ = false := loose_old (by simp) (new_loose _ _ _ _ rfl)
  have c2 : ((w.alloc (.cells #[.slice none 0 0] 26)).alloc (.cells #[.slice none 0 0] 26)).cell? ⟨w.heap.size + 1, 0, none⟩ = some (.slice none 0 0) := new_cell_at _ _ _ _ (by simp)
  have f2 : ((w.alloc (.cells #[.slice none 0 0] 26)).alloc (.cells #[.slice none 0 0] 26)).frozen? ⟨w.heap.size + 1, 0, none⟩ = false := new_loose _ _ _ _ (by simp)
  have hs : ((w.alloc (.cells #[.slice none 0 0] 26)).alloc (.cells #[.slice none 0 0] 26)).heap.size = w.heap.size + 2 := by simp
  obtain ⟨a0, d0, rfl⟩ := Row.form' r
  clear r
  go_enter Try.func6, Try.ntmps6
  go_wp2_with fail
  generalize (w.alloc (.cells #[.slice none 0 0] 26)).alloc (.cells #[.slice none 0 0] 26) = W at *
  refine (drawCmp_any _ q b).mono ?_
  rintro e w5 ⟨v1, v2, rfl, ⟨zs, ra⟩, ⟨zs5, rb⟩, k5⟩
  obtain ⟨a2, e2, ev⟩ := Row.form' ra
  subst ev
  obtain ⟨a5, e5, ev⟩ := Row.form' rb
  subst ev
  have f15 := k5.loose0 (World.block_lt_of_cell? _ _ c1) f1
  have f25 := k5.loose0 (World.block_lt_of_cell? _ _ c2) f2
  have c15 := k5.cell0 c1
  have c25 := k5.cell0 c2
  have F1 := hide (any_two (k0.trans k5) ra rb (Nat.le_of_eq hs.symm) (Nat.le_of_eq hs.symm))
  have G1 := hide (two_cells (v1 := .slice a2 zs.length e2) (v2 := .slice a5 zs5.length e5) c15 c25)
  clear k0 k5 ra rb q c1 c2 f1 f2 hs
  go_wp2_with fail
  have g1 := (unhide G1).1
  have g2 := (unhide G1).2
  exact bodyPost_ret (v := .tuple #[.agg #[.slice a2 zs.length e2], .agg #[.slice a5 zs5.length e5]]) (by simp [results, Try.results6, go_sem, g1, g2]) rfl ⟨_, _, rfl, unhide F1⟩

theorem nats_small : ansB (okB (limbs (2 : Int).toNat) && okB (limbs (3 : Int).toNat)) (val (limbs (2 : Int).toNat) + val (limbs (3 : Int).toNat)).toNat = true ∧ ansL (okB (limbs (2 : Int).toNat) && okB (limbs (3 : Int).toNat)) (val (limbs (2 : Int).toNat) + val (limbs (3 : Int).toNat)).toNat = limbs (5 : Int).toNat := by
  have h : (okB (limbs (2 : Int).toNat) && okB (limbs (3 : Int).toNat)) = true := by decide
  rw [ansB_yes h, ansL_yes h, limbs_val, limbs_val]
  exact ⟨by decide, by decide⟩

set_option maxHeartbeats 4000000 in
theorem nats_any (w : World) : Calls Try.prog 5 #[] w fun e w' => e = .returned (.bool true) ∧ Kept 0 0 w w' := by
  go_enter Try.func5, Try.ntmps5
  go_wp2_with fail
  refine (nat_any _ 2 (by decide)).mono ?_
  rintro e w1 ⟨v1, rfl, r1, k1⟩
  go_wp2_with fail
  refine (nat_any _ 3 (by decide)).mono ?_
  rintro e w2 ⟨v2, rfl, r2, k2⟩
  replace r1 := r1.kept k2 (by omega)
  go_wp2_with fail
  refine (natAdd_impl _ r1 r2).mono ?_
  rintro e w3 ⟨v3, rfl, r3, k3⟩
  rw [nats_small.1]
  rw [nats_small.2] at r3
  generalize hL5 : limbs (5 : Int).toNat = L5 at r3
  have HL5 := hide hL5
  clear hL5 r1 r2
  obtain ⟨a3, d3, ev⟩ := Row.form' r3
  subst ev
  have kA := (Kept.refl 0 0 w3).alloc (.cells #[.slice a3 L5.length d3] 26)
  have cQ : (w3.alloc (.cells #[.slice a3 L5.length d3] 26)).cell? ⟨w3.heap.size, 0, none⟩ = some (.slice a3 L5.length d3) := new_cell_at _ _ _ _ rfl
  replace r3 := r3.kept kA (by omega)
  have K := hide (((k1.trans k2).trans k3).trans kA)
  clear k1 k2 k3 kA
  go_wp2_with fail
  generalize w3.alloc (.cells #[.slice a3 L5.length d3] 26) = W9 at *
  generalize w3.heap.size = gQ at *
  go_region_held3 (fun w' => w'.cell? ⟨gQ, 0, none⟩ = some (.slice a3 L5.length d3)) (first | exact cQ | exact k91.cell0 cQ | exact k92.cell0 (k91.cell0 cQ))
    ((first
      | (go_at_call 22
         refine (nat_any _ 5 (by decide)).mono ?_
         rintro e w91 ⟨v8, rfl, r8, k91⟩
         rw [unhide HL5] at r8)
      | (go_at_call 10
         refine (sameNat_any _ (r3.kept ((Kept.refl 0 0 _).drew.trans k91) (Or.inr (Or.inr (Nat.le_refl _)))) r8).mono ?_
         rintro e w92 ⟨rfl, k92⟩)))
  have KF := hide ((unhide K).trans ((Kept.refl 0 0 W9).drew.trans (k91.trans k92)))
  rw [show sameL L5 L5 = true from decide_eq_true rfl]
  go_wp2_with fail
  go_ret
  exact ⟨rfl, unhide KF⟩

end Go.Proofs.Ytkdapefddhbjdaa
