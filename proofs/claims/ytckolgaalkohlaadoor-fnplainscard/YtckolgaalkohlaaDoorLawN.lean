/-
  Contracts of the laws' nat, at and sameNat.
-/
import Derived.Test.YtckolgaalkohlaaDoorBC
import Derived.Test.YtckolgaalkohlaaDoorDraw
import Derived.Deep.QuietTactic
import Derived.BigQuiet
namespace Go.Proofs.YtckolgaalkohlaaDoor
open Go.RowKit
set_option linter.unusedVariables false
set_option maxRecDepth 8000

/-- Are two lists the same? -/
def sameL (xs ys : List Int) : Bool := decide (xs = ys)
theorem sameL_len {xs ys : List Int} (h : xs.length ≠ ys.length) : sameL xs ys = false := decide_eq_false (fun e => h (by rw [e]))
theorem sameL_at {xs ys : List Int} (i : Nat) (h : xs.getD i 0 ≠ ys.getD i 0) : sameL xs ys = false := decide_eq_false (fun e => h (by rw [e]))
theorem sameL_all {xs ys : List Int} (hl : xs.length = ys.length) (h : ∀ i, i < xs.length → xs.getD i 0 = ys.getD i 0) : sameL xs ys = true := by
  refine decide_eq_true (List.ext_getElem hl fun i h1 h2 => ?_)
  have := h i h1
  simpa [List.getD, h1, h2] using this

set_option maxHeartbeats 4000000 in
theorem sameNat_any {b1 b2 : Bool} {l1 h1 l2 h2 : Nat} {v1 v2 : Value} {xs ys : List Int} (w : World) (r1 : Row .i64 b1 l1 h1 w v1 xs) (r2 : Row .i64 b2 l2 h2 w v2 ys) :
    Calls Tryd.prog 25 #[.agg #[v1], .agg #[v2]] w fun e w' => e = .returned (.bool (sameL xs ys)) ∧ Kept 0 0 w w' := by
  have k0 := ((Kept.refl 0 0 w).alloc (.cells #[v1] 26)).alloc (.cells #[v2] 26)
  have q1 := r1.kept k0 (by omega)
  have q2 := r2.kept k0 (by omega)
  have c1 : ((w.alloc (.cells #[v1] 26)).alloc (.cells #[v2] 26)).cell? ⟨w.heap.size, 0, none⟩ = some v1 := old_cell _ (new_cell_at _ _ _ _ rfl)
  have c2 : ((w.alloc (.cells #[v1] 26)).alloc (.cells #[v2] 26)).cell? ⟨w.heap.size + 1, 0, none⟩ = some v2 := new_cell_at _ _ _ _ (by simp)
  obtain ⟨M, hM⟩ : ∃ M, M = xs.length := ⟨_, rfl⟩
  obtain ⟨N, hN⟩ : ∃ N, N = ys.length := ⟨_, rfl⟩
  obtain ⟨a1, d1, e1⟩ := Row.form' r1
  obtain ⟨a2, d2, e2⟩ := Row.form' r2
  have m1 := r1.len
  have m2 := r2.len
  rw [← hM] at e1 m1
  rw [← hN] at e2 m2
  unfold maxLen at m1 m2
  subst e1 e2
  have hat1 := (row_cell q1).2.2.2
  have hat2 := (row_cell q2).2.2.2
  rw [← hM] at hat1
  rw [← hN] at hat2
  have HA1 := hide hat1
  have HA2 := hide hat2
  have HM := hide hM
  have HN := hide hN
  have C1 := hide c1
  have C2 := hide c2
  have K := hide k0
  clear r1 r2 q1 q2 hat1 hat2 c1 c2 k0 hM hN
  go_enter Tryd.func25, Tryd.ntmps25
  by_cases hl : M = N
  · subst hl
    go_wp2
    generalize (w.alloc (.cells #[.slice a1 M d1] 26)).alloc (.cells #[.slice a2 M d2] 26) = W at *
    go_loopw [5] (fun ii wr => ∃ (i : Nat), ii = .int .i64 (i : Int) ∧ i ≤ M ∧ Hid (∀ j, j < i → xs.getD j 0 = ys.getD j 0) ∧ Kept 0 0 W wr) (fun ii _ => M - (intOf ii).toNat)
    case atStart => exact ⟨0, rfl, Nat.zero_le _, hide (fun j h => by omega), Kept.refl _ _ _⟩
    case round =>
      obtain ⟨i, rfl, hi, hp, kw⟩ := hrel
      have c1 := kw.cell0 (unhide C1)
      have c2 := kw.cell0 (unhide C2)
      have KF := hide (fun q => ((unhide K).trans kw).drewN q)
      have KF0 := hide ((unhide K).trans kw)
      by_cases hA : i < M
      · have hi1 : (i : Int) < (M : Int) := by omega
        obtain ⟨g1, o1, rfl, x1⟩ := unhide HA1 i hA
        obtain ⟨g2, o2, rfl, x2⟩ := unhide HA2 i hA
        replace x1 := kw.cell0 x1
        replace x2 := kw.cell0 x2
        have hwn := hide (fun q => kw.drewN q)
        by_cases he : xs.getD i 0 = ys.getD i 0
        · have HP2 : Hid (∀ j, j < i + 1 → xs.getD j 0 = ys.getD j 0) := fun j h => by
            by_cases e : j = i
            · subst e; exact he
            · exact unhide hp j (by omega)
          rw [← he] at x2
          generalize xs.getD i 0 = z at x1 x2
          clear hp he kw
          go_wp2
          go_quiet (fail)
          go_wp2
          go_roundw
          case rel => exact ⟨i + 1, by go_num, by omega, HP2, unhide hwn _⟩
          case measure => simp [intOf]; omega
        · have HE := hide (sameL_at (xs := xs) (ys := ys) i he)
          have heb : (xs.getD i 0 == ys.getD i 0) = false := beq_eq_false_iff_ne.2 he
          generalize xs.getD i 0 = z1 at *
          generalize ys.getD i 0 = z2 at *
          clear hp kw
          go_wp2
          go_quiet (fail)
          go_wp2
          go_ret
          exact ⟨by rw [unhide HE]; rfl, unhide KF _⟩
      · have hi1 : ¬ (i : Int) < (M : Int) := by omega
        have HE := hide (sameL_all (xs := xs) (ys := ys) (by rw [← unhide HM, ← unhide HN]) (fun j hj => unhide hp j (by rw [← unhide HM] at hj; omega)))
        clear hp kw
        go_wp2
        go_ret
        exact ⟨by rw [unhide HE]; rfl, unhide KF0⟩
  · have hE := sameL_len (xs := xs) (ys := ys) (by rw [← unhide HM, ← unhide HN]; exact hl)
    have HE := hide hE
    have hl' : ((M : Int) == (N : Int)) = false := beq_eq_false_iff_ne.2 (by omega)
    clear hE
    go_wp2
    go_ret
    exact ⟨by rw [unhide HE]; rfl, unhide K⟩

end Go.Proofs.YtckolgaalkohlaaDoor
