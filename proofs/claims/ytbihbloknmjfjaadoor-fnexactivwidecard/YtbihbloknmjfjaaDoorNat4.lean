/-
  The contract of the model's l2cmp.
-/
import Derived.Test.YtbihbloknmjfjaaDoorBA
import Derived.Deep.QuietTactic
import Derived.BigQuiet
namespace Go.Proofs.YtbihbloknmjfjaaDoor
open Go.RowKit
set_option linter.unusedVariables false
set_option maxRecDepth 8000

theorem cmpI_lt {a b : Int} (h : a < b) : cmpI a b = -1 := by unfold cmpI; rw [if_pos h]
theorem cmpI_gt {a b : Int} (h : b < a) : cmpI a b = 1 := by unfold cmpI; rw [if_neg (by omega), if_pos h]
theorem cmpI_eq {a b : Int} (h : a = b) : cmpI a b = 0 := by unfold cmpI; rw [if_neg (by omega), if_neg (by omega)]

set_option maxHeartbeats 2000000 in
theorem cmp_spec {b1 b2 : Bool} {l1 h1 l2 h2 : Nat} {v1 v2 : Value} {xs ys : List Int} (w : World) (r1 : Row .i64 b1 l1 h1 w v1 xs) (r2 : Row .i64 b2 l2 h2 w v2 ys) (hx : Nrm xs) (hy : Nrm ys) :
    Calls Tryd.prog 88 #[.agg #[v1], .agg #[v2]] w fun e w' => e = .returned (.int .i64 (cmpI (val xs) (val ys))) ∧ Kept 0 0 w w' := by
  have rr1 := r1
  have rr2 := r2
  obtain ⟨M, hM⟩ : ∃ M, M = xs.length := ⟨_, rfl⟩
  obtain ⟨N, hN⟩ : ∃ N, N = ys.length := ⟨_, rfl⟩
  obtain ⟨a1, c1, e1, q1, m1, q3⟩ := r1
  obtain ⟨a2, c2, e2, q2, m2, q4⟩ := r2
  rw [← hM] at e1 q1
  rw [← hN] at e2 q2
  subst e1 e2
  unfold maxLen at m1 m2
  clear q3 q4
  have HM := hide hM
  have HN := hide hN
  have k1 := (((Kept.refl 0 0 w).alloc (.cells #[.slice a1 M c1] 30)).alloc (.cells #[.slice a2 N c2] 30))
  have KK := hide k1
  by_cases hlen : M = N
  · subst hlen
    generalize hR : cmpI (val xs) (val ys) = R
    have HR := hide hR
    clear hR
    have hat1 := (row_cell (rr1.kept k1 (by omega))).2.2.2
    have hat2 := (row_cell (rr2.kept k1 (by omega))).2.2.2
    rw [← hM] at hat1
    rw [← hN] at hat2
    clear rr1 rr2 k1 hM hN
    go_enter Tryd.func88, Tryd.ntmps88
    go_wp2
    generalize hW : (w.alloc (.cells #[.slice a1 M c1] 30)).alloc (.cells #[.slice a2 M c2] 30) = W at *
    have hb1 : W.cell? ⟨w.heap.size, 0, none⟩ = some (.slice a1 M c1) := by
      rw [← hW]; exact old_cell _ (new_cell_at _ _ _ _ rfl)
    have hb2 : W.cell? ⟨w.heap.size + 1, 0, none⟩ = some (.slice a2 M c2) := by
      rw [← hW]; exact new_cell_at _ _ _ _ (by simp)
    clear hW
    go_loopw [5] (fun i wr => ∃ k n : Nat, k ≤ M ∧ i = .int .i64 ((k : Int) - 1) ∧ Hid (val (xs.drop k) = val (ys.drop k)) ∧ wr = W.drewN n) (fun i _ => (intOf i + 1).toNat)
    case atStart => exact ⟨M, 0, Nat.le_refl _, rfl, by
      have h1 := unhide HM
      have h2 := unhide HN
      show _ = _
      rw [List.drop_of_length_le (by omega), List.drop_of_length_le (by omega)], rfl⟩
    case round =>
      obtain ⟨k, n, hk, rfl, heq, rfl⟩ := hrel
      by_cases h0 : k = 0
      · subst h0
        have hR := unhide HR
        rw [cmpI_eq (by simpa using unhide heq)] at hR
        subst hR
        go_wp2
        go_ret
        exact ⟨rfl, (unhide KK).drewN n⟩
      · obtain ⟨j, rfl⟩ : ∃ j, k = j + 1 := ⟨k - 1, by omega⟩
        obtain ⟨g1, o1, rfl, x1⟩ := hat1 j (by omega)
        obtain ⟨g2, o2, rfl, x2⟩ := hat2 j (by omega)
        have e1 : ((j + 1 : Nat) : Int) - 1 = j := by omega
        rw [e1]
        have hd1 := val_drop xs j
        have hd2 := val_drop ys j
        have heq' := unhide heq
        have hlen : xs.length = ys.length := by rw [← unhide HM, ← unhide HN]
        have hlt := val_lt_of_drop hx.1 hy.1 hlen j (by have := unhide HM; omega)
        have hgt := val_lt_of_drop hy.1 hx.1 hlen.symm j (by have := unhide HN; omega)
        generalize hz1 : xs.getD j 0 = z1 at *
        generalize hz2 : ys.getD j 0 = z2 at *
        have hj1 : (j : Int) < (M : Int) := by omega
        clear hlen hat1 hat2 heq hz1 hz2
        by_cases c1 : z1 < z2
        · have hR := unhide HR
          rw [cmpI_lt (hlt (by omega))] at hR
          subst hR
          clear hd1 hd2 hlt hgt heq'
          go_wp2
          go_quiet (fail)
          go_wp2
          go_ret
          exact ⟨rfl, ((unhide KK).drewN _).drewN _⟩
        by_cases c2 : z2 < z1
        · have hR := unhide HR
          rw [cmpI_gt (hgt (by omega))] at hR
          subst hR
          clear hd1 hd2 hlt hgt heq'
          go_wp2
          go_quiet (fail)
          go_wp2
          go_quiet (fail)
          go_wp2
          go_ret
          exact ⟨rfl, (((unhide KK).drewN _).drewN _).drewN _⟩
        · have HE : Hid (val (xs.drop j) = val (ys.drop j)) := by show _ = _; omega
          clear hd1 hd2 hlt hgt heq'
          go_wp2
          go_quiet (fail)
          go_wp2
          go_quiet (fail)
          go_wp2
          go_roundw
          case rel => exact ⟨j, _, by omega, by go_num, HE, rfl⟩
          case measure => simp [intOf]
  · have hne : ((M : Int) != (N : Int)) = true := by simp; omega
    by_cases hlt : M < N
    · rw [cmpI_lt (val_lt_of_len hx.1 hy (by omega))]
      have hlt' : (M : Int) < (N : Int) := by omega
      clear rr1 rr2 k1 hM hN hlen
      go_enter Tryd.func88, Tryd.ntmps88
      go_wp2
      go_ret
      exact ⟨rfl, unhide KK⟩
    · rw [cmpI_gt (val_lt_of_len hy.1 hx (by omega))]
      have hlt' : ¬ (M : Int) < (N : Int) := by omega
      clear rr1 rr2 k1 hM hN hlen
      go_enter Tryd.func88, Tryd.ntmps88
      go_wp2
      go_ret
      exact ⟨rfl, unhide KK⟩

end Go.Proofs.YtbihbloknmjfjaaDoor
