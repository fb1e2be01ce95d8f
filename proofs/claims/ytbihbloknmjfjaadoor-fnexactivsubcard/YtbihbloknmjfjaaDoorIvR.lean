/-
  Sums and differences of dyadic numbers: how great their powers of two can be.
-/
import Derived.Test.YtbihbloknmjfjaaDoorIvN
import Derived.Test.YtbihbloknmjfjaaDoorBT
namespace Go.Proofs.YtbihbloknmjfjaaDoor
open Go.RowKit
set_option linter.unusedVariables false
set_option maxRecDepth 8000
set_option linter.unusedSimpArgs false

theorem sum_rg {s1 s2 : Bool} {l1 l2 : List Int} {e1 e2 : Int} (o1 : dokB s1 l1 e1 = true) (o2 : dokB s2 l2 e2 = true) : dex (wval s1 l1 * 2 ^ (e1 - min e1 e2).toNat + wval s2 l2 * 2 ^ (e2 - min e1 e2).toNat) (min e1 e2) ≤ 9223372036854775807 ∧ -9223372036854775808 ≤ dex (wval s1 l1 * 2 ^ (e1 - min e1 e2).toNat + wval s2 l2 * 2 ^ (e2 - min e1 e2).toNat) (min e1 e2) := by
  obtain ⟨A, hA⟩ : ∃ A : Nat, A = 7600 := ⟨_, rfl⟩
  obtain ⟨w1', f1, f2, -, -⟩ := dok_parts o1
  obtain ⟨w2', f3, f4, -, -⟩ := dok_parts o2
  obtain ⟨-, -, lx, hx⟩ := wok_int w1'
  obtain ⟨-, -, ly, hy⟩ := wok_int w2'
  exact dex_range (wval s1 l1 * 2 ^ (e1 - min e1 e2).toNat + wval s2 l2 * 2 ^ (e2 - min e1 e2).toNat) (min e1 e2) (by omega) (by omega) (add_lt (al_lt hx.1 lx _ (by omega) hA) (al_lt hy.1 ly _ (by omega) hA)) (by omega)

theorem dif_sum {s1 s2 : Bool} {l1 l2 : List Int} {e1 e2 : Int} (o2 : dokB s2 l2 e2 = true) : wval s1 l1 * 2 ^ (e1 - min e1 e2).toNat + wval (wsg (-wval s2 l2)) (wlm (-wval s2 l2)) * 2 ^ (e2 - min e1 e2).toNat = wval s1 l1 * 2 ^ (e1 - min e1 e2).toNat - wval s2 l2 * 2 ^ (e2 - min e1 e2).toNat := by
  rw [(dok_neg o2).2, Int.neg_mul]; omega

end Go.Proofs.YtbihbloknmjfjaaDoor
