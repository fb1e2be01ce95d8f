/-
  Contracts of cmp.Compare at ints and of the program's compare.
-/
import Derived.Test.YtbihbloknmjfjaaDoorINat6
import Derived.Test.YtbihbloknmjfjaaDoorNat4
import Derived.Deep.QuietTactic
import Derived.BigQuiet
namespace Go.Proofs.YtbihbloknmjfjaaDoor
open Go.RowKit
set_option linter.unusedVariables false
set_option maxRecDepth 8000

set_option maxHeartbeats 1000000 in
theorem cmp_impl (a b : Int) (w : World) :
    Calls Tryd.prog 110 #[.int .i64 a, .int .i64 b] w fun e w' => e = .returned (.int .i64 (cmpI a b)) ∧ w' = w := by
  have ha : (a != a) = false := by simp
  have hb : (b != b) = false := by simp
  by_cases h1 : a < b
  · rw [cmpI_lt h1]
    go_enter Tryd.func110, Tryd.ntmps110
    go_wp2
    go_ret
    exact ⟨rfl, rfl⟩
  by_cases h2 : b < a
  · rw [cmpI_gt h2]
    go_enter Tryd.func110, Tryd.ntmps110
    go_wp2
    go_ret
    exact ⟨rfl, rfl⟩
  · rw [cmpI_eq (by omega)]
    go_enter Tryd.func110, Tryd.ntmps110
    go_wp2
    go_ret
    exact ⟨rfl, rfl⟩

set_option maxHeartbeats 2000000 in
theorem compare_impl {b1 b2 g1 g2 : Nat} {v1 v2 : Value} {xs ys : List Int} (w : World) (n1 : Num b1 w g1 v1 xs) (n2 : Num b2 w g2 v2 ys) (hx : Nrm xs) (hy : Nrm ys) :
    Calls Tryd.prog 101 #[.pointer (some ⟨g1, 0, none⟩), .pointer (some ⟨g2, 0, none⟩)] w fun e w' => e = .returned (.int .i64 (cmpI (val xs) (val ys))) ∧ Kept 0 0 w w' := by
  obtain ⟨M, hM⟩ : ∃ M, M = xs.length := ⟨_, rfl⟩
  obtain ⟨N, hN⟩ : ∃ N, N = ys.length := ⟨_, rfl⟩
  have hc1 := n1.cell
  have hc2 := n2.cell
  have m1 := n1.row.len
  have m2 := n2.row.len
  unfold maxLen at m1 m2
  rw [← hM] at m1
  rw [← hN] at m2
  by_cases hlen : M = N
  · subst hlen
    generalize hR : cmpI (val xs) (val ys) = R
    have HR := hide hR
    clear hR
    have hat1 := n1.at
    have hat2 := n2.at
    obtain ⟨a1, c1, rfl⟩ := n1.form
    obtain ⟨a2, c2, rfl⟩ := n2.form
    rw [← hM] at hc1 hat1
    rw [← hN] at hc2 hat2
    have hbe : ((M : Int) != (M : Int)) = false := by simp
    have HM := hide hM
    have HN := hide hN
    clear n1 n2 hM hN
    go_enter Tryd.func101, Tryd.ntmps101
    go_wp2
    go_quiet (fail)
    go_wp2
    go_loopw [5] (fun i wr => ∃ k n : Nat, k ≤ M ∧ i = .int .i64 ((k : Int) - 1) ∧ Hid (val (xs.drop k) = val (ys.drop k)) ∧ wr = w.drewN n) (fun i _ => (intOf i + 1).toNat)
    case atStart => exact ⟨M, _, Nat.le_refl _, rfl, by
      have h1 := unhide HM
      have h2 := unhide HN
      show _ = _
      rw [List.drop_of_length_le (by omega), List.drop_of_length_le (by omega)], rfl⟩
    case round =>
      obtain ⟨k, n, hk, rfl, heq, rfl⟩ := hrel
      by_cases h0 : k = 0
      · subst h0
        have hR := unhide HR
        rw [cmpI_eq (by simpa using unhide heq)] at hR
        subst hR
        clear hat1 hat2
        go_wp2
        go_ret
        exact ⟨rfl, (Kept.refl 0 0 w).drewN n⟩
      · obtain ⟨j, rfl⟩ : ∃ j, k = j + 1 := ⟨k - 1, by omega⟩
        obtain ⟨y1, d1, e1, x1, -, -⟩ := hat1 j (by omega)
        obtain ⟨y2, d2, e2, x2, -, -⟩ := hat2 j (by omega)
        cases e1
        cases e2
        have e1 : ((j + 1 : Nat) : Int) - 1 = j := by omega
        rw [e1]
        have hd1 := val_drop xs j
        have hd2 := val_drop ys j
        have heq' := unhide heq
        have hlen : xs.length = ys.length := by rw [← unhide HM, ← unhide HN]
        have hlt := val_lt_of_drop hx.1 hy.1 hlen j (by have := unhide HM; omega)
        have hgt := val_lt_of_drop hy.1 hx.1 hlen.symm j (by have := unhide HN; omega)
        generalize hz1 : xs.getD j 0 = z1 at *
        generalize hz2 : ys.getD j 0 = z2 at *
        have hj1 : (j : Int) < (M : Int) := by omega
        clear hlen hat1 hat2 heq hz1 hz2
        by_cases ce : z1 = z2
        · have HE : Hid (val (xs.drop j) = val (ys.drop j)) := by show _ = _; omega
          have hne : (z1 != z2) = false := by simp [ce]
          clear hd1 hd2 hlt hgt heq' ce
          go_wp2
          go_quiet (fail)
          go_wp2
          go_roundw
          case rel => exact ⟨j, _, by omega, by go_num, HE, rfl⟩
          case measure => simp [intOf]
        · have hne : (z1 != z2) = true := by simp [ce]
          have hRz : cmpI z1 z2 = R := by
            rw [← unhide HR]
            by_cases hc : z1 < z2
            · rw [cmpI_lt hc, cmpI_lt (hlt (by omega))]
            · rw [cmpI_gt (by omega), cmpI_gt (hgt (by omega))]
          have HRZ := hide hRz
          have hcl := fun w => cmp_impl z1 z2 w
          have HC := hide hcl
          clear hd1 hd2 hlt hgt heq' ce hRz hcl
          go_wp2
          go_quiet (fail)
          go_wp2
          go_quiet ((go_at_call 110; exact (unhide HC _).mono (fun e w' h => ⟨h.1, _, h.2⟩)))
          go_wp2
          go_ret
          exact ⟨by rw [← unhide HRZ]; rfl, (((Kept.refl 0 0 w).drewN _).drewN _).drewN _⟩
  · have hne : ((M : Int) != (N : Int)) = true := by simp; omega
    have hR : cmpI (M : Int) (N : Int) = cmpI (val xs) (val ys) := by
      by_cases hlt : M < N
      · rw [cmpI_lt (val_lt_of_len hx.1 hy (by omega)), cmpI_lt (by omega)]
      · rw [cmpI_gt (val_lt_of_len hy.1 hx (by omega)), cmpI_gt (by omega)]
    obtain ⟨a1, c1, rfl⟩ := n1.form
    obtain ⟨a2, c2, rfl⟩ := n2.form
    rw [← hM] at hc1
    rw [← hN] at hc2
    rw [← hR]
    have hcl := fun w => cmp_impl (M : Int) (N : Int) w
    have HC := hide hcl
    clear n1 n2 hM hN hcl hR hlen
    go_enter Tryd.func101, Tryd.ntmps101
    go_wp2
    go_quiet (fail)
    go_wp2
    go_quiet ((go_at_call 110; exact (unhide HC _).mono (fun e w' h => ⟨h.1, _, h.2⟩)))
    go_wp2
    go_ret
    exact ⟨rfl, ((Kept.refl 0 0 w).drewN _).drewN _⟩

end Go.Proofs.YtbihbloknmjfjaaDoor
