/-
  The laws' helpers sameNat, sameWhole and sameDy.
-/
import Derived.Test.YtckaecmkidplhaaGreatDoorBC
import Derived.Test.YtckaecmkidplhaaGreatDoorDy2
import Derived.Deep.QuietTactic
import Derived.BigQuiet
namespace Go.Proofs.YtckaecmkidplhaaGreatDoor
open Go.RowKit
set_option linter.unusedVariables false
set_option maxRecDepth 8000
set_option linter.unusedSimpArgs false

/-- Are two lists the same? -/
def sameL (xs ys : List Int) : Bool := decide (xs = ys)
theorem sameL_len {xs ys : List Int} (h : xs.length ≠ ys.length) : sameL xs ys = false := decide_eq_false (fun e => h (by rw [e]))
theorem sameL_at {xs ys : List Int} (i : Nat) (h : xs.getD i 0 ≠ ys.getD i 0) : sameL xs ys = false := decide_eq_false (fun e => h (by rw [e]))
theorem sameL_all {xs ys : List Int} (hl : xs.length = ys.length) (h : ∀ i, i < xs.length → xs.getD i 0 = ys.getD i 0) : sameL xs ys = true := by
  refine decide_eq_true (List.ext_getElem hl fun i h1 h2 => ?_)
  have := h i h1
  simpa [List.getD, h1, h2] using this

set_option maxHeartbeats 4000000 in
theorem sameNat_any {b1 b2 : Bool} {l1 h1 l2 h2 : Nat} {v1 v2 : Value} {xs ys : List Int} (w : World) (r1 : Row .i64 b1 l1 h1 w v1 xs) (r2 : Row .i64 b2 l2 h2 w v2 ys) :
    Calls Tryz.prog 73 #[.agg #[v1], .agg #[v2]] w fun e w' => e = .returned (.bool (sameL xs ys)) ∧ Kept 0 0 w w' := by
  have k0 := ((Kept.refl 0 0 w).alloc (.cells #[v1] 38)).alloc (.cells #[v2] 38)
  have q1 := r1.kept k0 (by omega)
  have q2 := r2.kept k0 (by omega)
  have c1 : ((w.alloc (.cells #[v1] 38)).alloc (.cells #[v2] 38)).cell? ⟨w.heap.size, 0, none⟩ = some v1 := old_cell _ (new_cell_at _ _ _ _ rfl)
  have c2 : ((w.alloc (.cells #[v1] 38)).alloc (.cells #[v2] 38)).cell? ⟨w.heap.size + 1, 0, none⟩ = some v2 := new_cell_at _ _ _ _ (by simp)
  obtain ⟨M, hM⟩ : ∃ M, M = xs.length := ⟨_, rfl⟩
  obtain ⟨N, hN⟩ : ∃ N, N = ys.length := ⟨_, rfl⟩
  obtain ⟨a1, d1, e1⟩ := Row.form' r1
  obtain ⟨a2, d2, e2⟩ := Row.form' r2
  have m1 := r1.len
  have m2 := r2.len
  rw [← hM] at e1 m1
  rw [← hN] at e2 m2
  unfold maxLen at m1 m2
  subst e1 e2
  have hat1 := (row_cell q1).2.2.2
  have hat2 := (row_cell q2).2.2.2
  rw [← hM] at hat1
  rw [← hN] at hat2
  have HA1 := hide hat1
  have HA2 := hide hat2
  have HM := hide hM
  have HN := hide hN
  have C1 := hide c1
  have C2 := hide c2
  have K := hide k0
  clear r1 r2 q1 q2 hat1 hat2 c1 c2 k0 hM hN
  go_enter Tryz.func73, Tryz.ntmps73
  by_cases hl : M = N
  · subst hl
    go_wp2
    generalize (w.alloc (.cells #[.slice a1 M d1] 38)).alloc (.cells #[.slice a2 M d2] 38) = W at *
    go_loopw [5] (fun ii wr => ∃ (i : Nat), ii = .int .i64 (i : Int) ∧ i ≤ M ∧ Hid (∀ j, j < i → xs.getD j 0 = ys.getD j 0) ∧ Kept 0 0 W wr) (fun ii _ => M - (intOf ii).toNat)
    case atStart => exact ⟨0, rfl, Nat.zero_le _, hide (fun j h => by omega), Kept.refl _ _ _⟩
    case round =>
      obtain ⟨i, rfl, hi, hp, kw⟩ := hrel
      have c1 := kw.cell0 (unhide C1)
      have c2 := kw.cell0 (unhide C2)
      have KF := hide (fun q => ((unhide K).trans kw).drewN q)
      have KF0 := hide ((unhide K).trans kw)
      by_cases hA : i < M
      · have hi1 : (i : Int) < (M : Int) := by omega
        obtain ⟨g1, o1, rfl, x1⟩ := unhide HA1 i hA
        obtain ⟨g2, o2, rfl, x2⟩ := unhide HA2 i hA
        replace x1 := kw.cell0 x1
        replace x2 := kw.cell0 x2
        have hwn := hide (fun q => kw.drewN q)
        by_cases he : xs.getD i 0 = ys.getD i 0
        · have HP2 : Hid (∀ j, j < i + 1 → xs.getD j 0 = ys.getD j 0) := fun j h => by
            by_cases e : j = i
            · subst e; exact he
            · exact unhide hp j (by omega)
          rw [← he] at x2
          generalize xs.getD i 0 = z at x1 x2
          clear hp he kw
          go_wp2
          go_quiet (fail)
          go_wp2
          go_roundw
          case rel => exact ⟨i + 1, by go_num, by omega, HP2, unhide hwn _⟩
          case measure => simp [intOf]; omega
        · have HE := hide (sameL_at (xs := xs) (ys := ys) i he)
          have heb : (xs.getD i 0 == ys.getD i 0) = false := beq_eq_false_iff_ne.2 he
          generalize xs.getD i 0 = z1 at *
          generalize ys.getD i 0 = z2 at *
          clear hp kw
          go_wp2
          go_quiet (fail)
          go_wp2
          go_ret
          exact ⟨by rw [unhide HE]; rfl, unhide KF _⟩
      · have hi1 : ¬ (i : Int) < (M : Int) := by omega
        have HE := hide (sameL_all (xs := xs) (ys := ys) (by rw [← unhide HM, ← unhide HN]) (fun j hj => unhide hp j (by rw [← unhide HM] at hj; omega)))
        clear hp kw
        go_wp2
        go_ret
        exact ⟨by rw [unhide HE]; rfl, unhide KF0⟩
  · have hE := sameL_len (xs := xs) (ys := ys) (by rw [← unhide HM, ← unhide HN]; exact hl)
    have HE := hide hE
    have hl' : ((M : Int) == (N : Int)) = false := beq_eq_false_iff_ne.2 (by omega)
    clear hE
    go_wp2
    go_ret
    exact ⟨by rw [unhide HE]; rfl, unhide K⟩

def sameDB (s1 : Bool) (xs : List Int) (x1 : Int) (s2 : Bool) (ys : List Int) (x2 : Int) : Bool := decide (x1 = x2) && ((s1 == s2) && sameL xs ys)

set_option maxHeartbeats 4000000 in
theorem sameWhole_any {b1 b2 : Bool} {l1 h1 l2 h2 : Nat} {v1 v2 : Value} {xs ys : List Int} (s1 s2 : Bool) (w : World) (r1 : Row .i64 b1 l1 h1 w v1 xs) (r2 : Row .i64 b2 l2 h2 w v2 ys) :
    Calls Tryz.prog 33 #[.agg #[.bool s1, v1], .agg #[.bool s2, v2]] w fun e w' => e = .returned (.bool ((s1 == s2) && sameL xs ys)) ∧ Kept 0 0 w w' := by
  have k0 : Kept 0 0 w ((w.alloc (.cells #[.bool s1, v1] 40)).alloc (.cells #[.bool s2, v2] 40)) := (((Kept.refl 0 0 w).alloc (.cells #[.bool s1, v1] 40)).alloc (.cells #[.bool s2, v2] 40))
  have q0 : ((w.alloc (.cells #[.bool s1, v1] 40)).alloc (.cells #[.bool s2, v2] 40)).cell? ⟨w.heap.size, 0, none⟩ = some (.bool s1) := old_cell _ (new_cell2 _ _ _ _ _ _ (by simp) rfl)
  have q1 : ((w.alloc (.cells #[.bool s1, v1] 40)).alloc (.cells #[.bool s2, v2] 40)).cell? ⟨w.heap.size, 1, none⟩ = some (v1) := old_cell _ (new_cell2 _ _ _ _ _ _ (by simp) rfl)
  have p0 : ((w.alloc (.cells #[.bool s1, v1] 40)).alloc (.cells #[.bool s2, v2] 40)).cell? ⟨w.heap.size + 1, 0, none⟩ = some (.bool s2) := new_cell2 _ _ _ _ _ _ (by simp) rfl
  have p1 : ((w.alloc (.cells #[.bool s1, v1] 40)).alloc (.cells #[.bool s2, v2] 40)).cell? ⟨w.heap.size + 1, 1, none⟩ = some (v2) := new_cell2 _ _ _ _ _ _ (by simp) rfl
  replace r1 := r1.kept k0 (by omega)
  replace r2 := r2.kept k0 (by omega)
  have s0 : ((w.alloc (.cells #[.bool s1, v1] 40)).alloc (.cells #[.bool s2, v2] 40)).heap.size = w.heap.size + 2 := by simp
  obtain ⟨a1, c1, hv⟩ := Row.form' r1
  subst hv
  obtain ⟨a2, c2, hv⟩ := Row.form' r2
  subst hv
  have K := hide (k0)
  clear k0
  have S0 := hide s0
  clear s0
  obtain ⟨g, hg⟩ : ∃ g, sameL xs ys = g := ⟨_, rfl⟩
  rw [hg]
  have HG := hide hg
  clear hg
  go_enter Tryz.func33, Tryz.ntmps33
  cases s1 <;> cases s2
  · go_wp2_with fail
    generalize ((w.alloc (.cells #[.bool false, .slice a1 xs.length c1] 40)).alloc (.cells #[.bool false, .slice a2 ys.length c2] 40)) = W at *
    have mk := sameNat_any W r1 r2
    rw [unhide HG] at mk
    refine (mk).mono ?_
    rintro e w1 ⟨rfl, k1⟩
    replace r1 := r1.kept k1 (by omega)
    replace r2 := r2.kept k1 (by omega)
    replace q0 := k1.cell0 q0
    replace q1 := k1.cell0 q1
    replace p0 := k1.cell0 p0
    replace p1 := k1.cell0 p1
    replace K := hide ((unhide K).trans k1)
    have z2 := k1.size
    clear k1
    clear mk
    go_wp2_with fail
    try go_ret
    exact ⟨by cases g <;> rfl, unhide K⟩
  · go_wp2_with fail
    try go_ret
    exact ⟨rfl, unhide K⟩
  · go_wp2_with fail
    try go_ret
    exact ⟨rfl, unhide K⟩
  · go_wp2_with fail
    generalize ((w.alloc (.cells #[.bool true, .slice a1 xs.length c1] 40)).alloc (.cells #[.bool true, .slice a2 ys.length c2] 40)) = W at *
    have mk := sameNat_any W r1 r2
    rw [unhide HG] at mk
    refine (mk).mono ?_
    rintro e w1 ⟨rfl, k1⟩
    replace r1 := r1.kept k1 (by omega)
    replace r2 := r2.kept k1 (by omega)
    replace q0 := k1.cell0 q0
    replace q1 := k1.cell0 q1
    replace p0 := k1.cell0 p0
    replace p1 := k1.cell0 p1
    replace K := hide ((unhide K).trans k1)
    have z2 := k1.size
    clear k1
    clear mk
    go_wp2_with fail
    try go_ret
    exact ⟨by cases g <;> rfl, unhide K⟩

set_option maxHeartbeats 4000000 in
theorem sameDy_any {b1 b2 : Bool} {l1 h1 l2 h2 : Nat} {v1 v2 : Value} {xs ys : List Int} (s1 s2 : Bool) (x1 x2 : Int) (w : World) (r1 : Row .i64 b1 l1 h1 w v1 xs) (r2 : Row .i64 b2 l2 h2 w v2 ys) :
    Calls Tryz.prog 27 #[.agg #[.bool s1, v1, .int .i64 x1], .agg #[.bool s2, v2, .int .i64 x2]] w fun e w' => e = .returned (.bool (sameDB s1 xs x1 s2 ys x2)) ∧ Kept 0 0 w w' := by
  have k0 : Kept 0 0 w ((w.alloc (.cells #[.bool s1, v1, .int .i64 x1] 42)).alloc (.cells #[.bool s2, v2, .int .i64 x2] 42)) := (((Kept.refl 0 0 w).alloc (.cells #[.bool s1, v1, .int .i64 x1] 42)).alloc (.cells #[.bool s2, v2, .int .i64 x2] 42))
  have q0 : ((w.alloc (.cells #[.bool s1, v1, .int .i64 x1] 42)).alloc (.cells #[.bool s2, v2, .int .i64 x2] 42)).cell? ⟨w.heap.size, 0, none⟩ = some (.bool s1) := old_cell _ (new_cell2 _ _ _ _ _ _ (by simp) rfl)
  have q1 : ((w.alloc (.cells #[.bool s1, v1, .int .i64 x1] 42)).alloc (.cells #[.bool s2, v2, .int .i64 x2] 42)).cell? ⟨w.heap.size, 1, none⟩ = some (v1) := old_cell _ (new_cell2 _ _ _ _ _ _ (by simp) rfl)
  have q2 : ((w.alloc (.cells #[.bool s1, v1, .int .i64 x1] 42)).alloc (.cells #[.bool s2, v2, .int .i64 x2] 42)).cell? ⟨w.heap.size, 2, none⟩ = some (.int .i64 x1) := old_cell _ (new_cell2 _ _ _ _ _ _ (by simp) rfl)
  have p0 : ((w.alloc (.cells #[.bool s1, v1, .int .i64 x1] 42)).alloc (.cells #[.bool s2, v2, .int .i64 x2] 42)).cell? ⟨w.heap.size + 1, 0, none⟩ = some (.bool s2) := new_cell2 _ _ _ _ _ _ (by simp) rfl
  have p1 : ((w.alloc (.cells #[.bool s1, v1, .int .i64 x1] 42)).alloc (.cells #[.bool s2, v2, .int .i64 x2] 42)).cell? ⟨w.heap.size + 1, 1, none⟩ = some (v2) := new_cell2 _ _ _ _ _ _ (by simp) rfl
  have p2 : ((w.alloc (.cells #[.bool s1, v1, .int .i64 x1] 42)).alloc (.cells #[.bool s2, v2, .int .i64 x2] 42)).cell? ⟨w.heap.size + 1, 2, none⟩ = some (.int .i64 x2) := new_cell2 _ _ _ _ _ _ (by simp) rfl
  replace r1 := r1.kept k0 (by omega)
  replace r2 := r2.kept k0 (by omega)
  have s0 : ((w.alloc (.cells #[.bool s1, v1, .int .i64 x1] 42)).alloc (.cells #[.bool s2, v2, .int .i64 x2] 42)).heap.size = w.heap.size + 2 := by simp
  obtain ⟨a1, c1, hv⟩ := Row.form' r1
  subst hv
  obtain ⟨a2, c2, hv⟩ := Row.form' r2
  subst hv
  have K := hide (k0)
  clear k0
  have S0 := hide s0
  clear s0
  unfold sameDB
  obtain ⟨g, hg⟩ : ∃ g, ((s1 == s2) && sameL xs ys) = g := ⟨_, rfl⟩
  rw [hg]
  have HG := hide hg
  clear hg
  go_enter Tryz.func27, Tryz.ntmps27
  by_cases hx : x1 = x2
  · subst hx
    go_wp2_with fail
    generalize ((w.alloc (.cells #[.bool s1, .slice a1 xs.length c1, .int .i64 x1] 42)).alloc (.cells #[.bool s2, .slice a2 ys.length c2, .int .i64 x1] 42)) = W at *
    have mk := sameWhole_any s1 s2 W r1 r2
    rw [unhide HG] at mk
    refine (mk).mono ?_
    rintro e w1 ⟨rfl, k1⟩
    replace r1 := r1.kept k1 (by omega)
    replace r2 := r2.kept k1 (by omega)
    replace q0 := k1.cell0 q0
    replace q1 := k1.cell0 q1
    replace q2 := k1.cell0 q2
    replace p0 := k1.cell0 p0
    replace p1 := k1.cell0 p1
    replace p2 := k1.cell0 p2
    replace K := hide ((unhide K).trans k1)
    have z2 := k1.size
    clear k1
    clear mk
    go_wp2_with fail
    try go_ret
    exact ⟨by cases g <;> simp, unhide K⟩
  · have hb : (x1 == x2) = false := beq_eq_false_iff_ne.2 hx
    rw [decide_eq_false hx]
    go_wp2_with fail
    try go_ret
    exact ⟨rfl, unhide K⟩

end Go.Proofs.YtckaecmkidplhaaGreatDoor

