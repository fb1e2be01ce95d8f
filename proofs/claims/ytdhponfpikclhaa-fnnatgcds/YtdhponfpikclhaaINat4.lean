/-
  Contracts of NatOf, the model's and the program's.
-/
import Derived.Test.YtdhponfpikclhaaINat3
namespace Go.Proofs.Ytdhponfpikclhaa
open Go.RowKit
set_option linter.unusedVariables false
set_option maxRecDepth 8000

theorem limbs_int_length (n : Int) (hn : n ≤ 9223372036854775807) : (limbs n.toNat).length ≤ 4 := (limbs_length_le _ _).2 (by
    have : (65536 : Int) ^ 4 = 18446744073709551616 := by decide
    omega)
theorem tell_short {zs : List Int} (h : zs.length ≤ 100) : tell zs = zs := by unfold tell; rw [if_pos h]

set_option maxHeartbeats 1000000 in
theorem natOf_spec (w : World) (n : Int) (hn : n ≤ 9223372036854775807) :
    Calls Try.prog 100 #[.int .i64 n] w fun e w' => ∃ v', e = .returned (.tuple #[.agg #[v'], .bool (decide (0 ≤ n))]) ∧ Row .i64 true w.heap.size w'.heap.size w' v' (limbs n.toNat) ∧ Kept 0 0 w w' := by
  by_cases h : n < 0
  · have e0 : n.toNat = 0 := by omega
    rw [decide_eq_false (by omega), e0, limbs_zero]
    go_enter Try.func100, Try.ntmps100
    go_wp2_with fail
    exact bodyPost_ret (v := .tuple #[.agg #[.slice none 0 0], .bool false]) (by simp [results, Try.results100, go_sem]) rfl ⟨_, rfl, Row.nil _ _ _ _ _, (Kept.refl _ _ _).alloc _⟩
  · rw [decide_eq_true (by omega)]
    have cr : (w.alloc (.cells #[.slice none 0 0] 26)).cell? ⟨w.heap.size, 0, none⟩ = some (.slice none 0 0) := new_cell_at _ _ _ _ rfl
    have fr : (w.alloc (.cells #[.slice none 0 0] 26)).frozen? ⟨w.heap.size, 0, none⟩ = false := new_loose _ _ _ _ rfl
    have hs : (w.alloc (.cells #[.slice none 0 0] 26)).heap.size = w.heap.size + 1 := by simp
    have CR := hide cr
    have FR := hide fr
    have HS := hide hs
    clear cr fr hs
    go_enter Try.func100, Try.ntmps100
    go_wp2_with fail
    refine (of_spec _ n hn).mono ?_
    rintro e w6 ⟨v6, rfl, r6, k6⟩
    have cr := k6.cell0 (unhide CR)
    have fr := k6.loose0 (by simp) (unhide FR)
    obtain ⟨a6, c6, rfl⟩ : ∃ a c, v6 = .slice a (limbs n.toNat).length c := by obtain ⟨a, c, h, -⟩ := r6; exact ⟨a, c, h⟩
    have R := hide ((r6.set_other (p := ⟨w.heap.size, 0, none⟩) (by have := unhide HS; simp) (.slice a6 (limbs n.toNat).length c6)).tight.wider (lo' := w.heap.size) (by have := unhide HS; omega) (Nat.le_refl _))
    have K := hide ((((Kept.refl 0 0 w).alloc _).trans k6).setNew (p := ⟨w.heap.size, 0, none⟩) (Nat.le_refl _) (.slice a6 (limbs n.toNat).length c6))
    clear r6 k6 HS CR FR
    go_wp2_with fail
    exact bodyPost_ret (v := .tuple #[.agg #[.slice a6 (limbs n.toNat).length c6], .bool true]) (by simp [results, Try.results100, go_sem, cr]) rfl ⟨_, rfl, unhide R, unhide K⟩

end Go.Proofs.Ytdhponfpikclhaa
