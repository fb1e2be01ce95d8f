/-
  makeSquare where each call makes a new number of which something is known.
-/
import Derived.Test.YtgoncjcnakkaoaaGreatDoorSqg
namespace Go.Proofs.YtgoncjcnakkaoaaGreatDoor
open Go.RowKit
set_option linter.unusedVariables false
set_option maxRecDepth 8000

theorem makeSquare_newQ {n : Nat} (hn : n ≤ 1000) (FN : FuncId) (hcf : ∀ (w : World) (args : Array Value), (callFunc FN args).run Tryz.prog w = .ok (.enter FN args) w) (caps : Array Value) (Q : Nat → DE → Prop) (w : World)
    (H : ∀ i j w', i < n → j < n → Kept 0 0 w w' → Calls Tryz.prog FN (#[.int .i64 (i : Int), .int .i64 (j : Int)] ++ caps) w' fun e w'' => ∃ g d, e = .returned (.pointer (some ⟨g, 0, none⟩)) ∧ DyP (fun x => x < w'.heap.size) w'' g d ∧ Q (i * n + j) d ∧ Kept 0 0 w' w'') :
    Calls Tryz.prog 61 #[.int .i64 (n : Int), .func (.func FN) #[] caps] w fun e w' => ∃ R G S F, e = .returned (.agg #[.slice (some ⟨R, 0, none⟩) n n]) ∧ SqG S w' R n n G ∧ Nums w.heap.size S w' (n * n) G F ∧ (∀ p, p < n * n → Q p (F p)) ∧ (∀ x, S x → w.heap.size ≤ x ∧ x < w'.heap.size) ∧ w.heap.size < R ∧ Kept 0 0 w w' := by
  refine (makeSquare_any hn FN hcf caps w (fun k G S w' => ∃ F, Nums w.heap.size S w' k G F ∧ ∀ p, p < k → Q p (F p)) ?_ (fun k G S w1 w2 h m => ?_) (fun k G S w1 x h hx => ?_) ?_).mono ?_
  · intro S hS
    exact ⟨fun _ => de0, ⟨fun _ => 0, fun _ => 0, fun p hp => absurd hp (Nat.not_lt_zero _), fun p q hp => absurd hp (Nat.not_lt_zero _)⟩, fun p hp => absurd hp (Nat.not_lt_zero _)⟩
  · obtain ⟨F, h1, h2⟩ := h
    exact ⟨F, h1.mod m, h2⟩
  · obtain ⟨F, h1, h2⟩ := h
    exact ⟨F, h1.more hx, h2⟩
  · intro i j w' G S hi hj hS k hJ
    obtain ⟨F, h1, h2⟩ := hJ
    refine (H i j w' hi hj k).mono ?_
    rintro e w'' ⟨g, d, rfl, dp, q, k'⟩
    refine ⟨g, rfl, ⟨fun p => if p = i * n + j then d else F p, ?_, fun p hp => ?_⟩, k'⟩
    · refine (h1.congr (F' := fun p => if p = i * n + j then d else F p) (fun _ _ => rfl) (fun p hp => if_neg (by omega))).step k' k.size (fun x hx => (hS x hx).2) ?_
      rw [if_pos rfl]
      exact dp
    · by_cases e : p = i * n + j
      · subst e; dsimp only; rw [if_pos rfl]; exact q
      · dsimp only; rw [if_neg e]; exact h2 p (by omega)
  · rintro e w' ⟨R, G, S, rfl, sq, ⟨F, h1, h2⟩, hS, hR, k⟩
    exact ⟨R, G, S, F, rfl, sq, h1, h2, hS, hR, k⟩

/-- The number at a place of a square. -/
theorem Nums.at {b k p : Nat} {S : Nat → Prop} {w : World} {G : Nat → Nat} {F : Nat → DE} (h : Nums b S w k G F) (hp : p < k) : ∃ u, Num 0 w (G p) u (F p).2.1 ∧ Sd w (G p) (F p).1 ∧ Ex w (G p) (F p).2.2 := by
  obtain ⟨L, H, h1, -⟩ := h
  obtain ⟨⟨u, n, s, e, -⟩, -⟩ := h1 p hp
  exact ⟨u, n, s, e⟩

end Go.Proofs.YtgoncjcnakkaoaaGreatDoor
