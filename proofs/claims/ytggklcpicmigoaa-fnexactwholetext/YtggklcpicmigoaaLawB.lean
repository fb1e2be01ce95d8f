/-
  The laws' helpers for texts, told as those for numbers are.
-/
import Derived.Test.YtggklcpicmigoaaBC
namespace Go.Proofs.Ytggklcpicmigoaa
open Go.RowKit
set_option linter.unusedVariables false

theorem eqT_same {wr1 wr2 : Bool} {l1 h1 l2 h2 : Nat} {v1 v2 : Value} {zs : List Int} (w : World) (r1 : Row .u8 wr1 l1 h1 w v1 zs) (r2 : Row .u8 wr2 l2 h2 w v2 zs) :
    Calls Try.prog 10 #[v1, v2] w fun e w' => e = .returned (.bool true) ∧ Kept 0 0 w w' :=
  (eqByteS_same w r1 r2).mono (fun e w' h => ⟨h.1, by obtain ⟨n, rfl⟩ := h.2; exact (Kept.refl 0 0 w).drewN n⟩)

theorem markT_wide {lo hi : Nat} {v : Value} {zs : List Int} (w : World) (s : Int) (hs0 : 0 ≤ s) (hs1 : s ≤ 1000000) (hn : zs.length ≤ 1099511627776) (r : Row .u8 true lo hi w v zs) :
    Calls Try.prog 13 #[v, .int .i64 s] w fun e w' => e = .returned (.int .i64 (s + zs.length)) ∧ Row .u8 true lo hi w' v (marks .u8 s zs.length) ∧ Kept lo hi w w' :=
  (markByteS_any w s hs0 hs1 hn r).mono (fun e w' h => ⟨h.1, h.2.1, h.2.2.1⟩)

theorem heldT_any {wr : Bool} {lo hi : Nat} {v : Value} {n : Nat} (w : World) (s : Int) (hs0 : 0 ≤ s) (hs1 : s ≤ 1000000) (hn : n ≤ 1099511627776) (r : Row .u8 wr lo hi w v (marks .u8 s n)) :
    Calls Try.prog 14 #[v, .int .i64 s] w fun e w' => e = .returned (.int .i64 (s + n)) ∧ Kept 0 0 w w' :=
  (heldByteS_any w s hs0 hs1 hn r).mono (fun e w' h => ⟨h.1, by rw [h.2]; exact Kept.refl 0 0 w⟩)

end Go.Proofs.Ytggklcpicmigoaa
