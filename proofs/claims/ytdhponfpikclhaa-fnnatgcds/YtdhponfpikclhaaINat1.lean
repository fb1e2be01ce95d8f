/-
  The contract of the program's NatOk.
-/
import Derived.Test.YtdhponfpikclhaaNat1
namespace Go.Proofs.Ytdhponfpikclhaa
open Go.RowKit
set_option linter.unusedVariables false
set_option maxRecDepth 8000

set_option maxHeartbeats 1000000 in
theorem ok_impl {bw : Bool} {lo hi : Nat} {v : Value} {zs : List Int} (w : World) (r : Row .i64 bw lo hi w v zs) :
    Calls Try.prog 31 #[.agg #[v]] w fun e w' => e = .returned (.bool (okB zs)) ∧ Kept 0 0 w w' := by
  have rr := r
  obtain ⟨a, c, rfl, q1, m1, q3⟩ := r
  unfold maxLen at m1
  by_cases hbig : 100 < (zs.length : Int)
  · have e0 : okB zs = false := by unfold okB; rw [decide_eq_false (by omega)]; rfl
    rw [e0]
    go_enter Try.func31, Try.ntmps31
    go_wp2
    go_ret
    exact ⟨rfl, (Kept.refl _ _ _).alloc _⟩
  · have h100 : zs.length ≤ 100 := by omega
    have hat := (row_cell (rr.kept ((Kept.refl 0 0 w).alloc (.cells #[.slice a zs.length c] 26)) (by omega))).2.2.2
    have e1 : okB zs = (limB zs && (decide (zs.length = 0) || decide (0 < zs.getD (zs.length - 1) 0))) := by unfold okB; rw [decide_eq_true h100]; simp
    generalize okB zs = K at *
    have HE := hide e1
    clear e1 q3 rr
    go_enter Try.func31, Try.ntmps31
    go_wp2
    go_loop [12] (fun i => ∃ k : Nat, k ≤ zs.length ∧ i = .int .i64 k ∧ Hid (∀ m, m < k → 0 ≤ zs.getD m 0 ∧ zs.getD m 0 ≤ 65535)) (fun i => zs.length - (intOf i).toNat)
    case atStart => exact ⟨0, Nat.zero_le _, rfl, fun m hm => absurd hm (Nat.not_lt_zero _)⟩
    case round =>
      obtain ⟨k, hk, rfl, hall⟩ := hrel
      by_cases hlt : k < zs.length
      · have hlt' : (k : Int) < (zs.length : Int) := by omega
        obtain ⟨g, off, rfl, hc⟩ := hat k hlt
        have hbad := limB_bad (zs := zs) hlt
        generalize hz : zs.getD k 0 = z at *
        have HZ := hide hz
        have HB := hide hbad
        clear hat hz hbad
        by_cases z0 : z < 0
        · have e2 := unhide HE
          rw [unhide HB (.inl z0)] at e2
          simp at e2
          subst e2
          go_wp2
          go_ret
          exact ⟨rfl, (Kept.refl _ _ _).alloc _⟩
        by_cases z1 : 65536 ≤ z
        · have e2 := unhide HE
          rw [unhide HB (.inr (by omega))] at e2
          simp at e2
          subst e2
          go_wp2
          go_ret
          exact ⟨rfl, (Kept.refl _ _ _).alloc _⟩
        · go_wp2
          go_round
          case rel => exact ⟨k + 1, by omega, by go_num, fun m hm => by
            rcases Nat.lt_succ_iff_lt_or_eq.1 hm with h | h
            · exact hall.out m h
            · subst h; rw [unhide HZ]; omega⟩
          case measure => simp [intOf]; omega
      · have hlt' : ¬ (k : Int) < (zs.length : Int) := by omega
        have hlm : Lim zs := fun z hz => by
          obtain ⟨i, hi, rfl⟩ := List.getElem_of_mem hz
          have := hall.out i (by omega)
          simpa [List.getD, hi] using this
        have hlim : limB zs = true := (limB_iff zs).2 hlm
        have e2 := unhide HE
        rw [hlim, Bool.true_and] at e2
        by_cases h0 : zs.length = 0
        · rw [decide_eq_true h0] at e2
          simp at e2
          subst e2
          have h0' : ((zs.length : Int) == 0) = true := by simp [h0]
          have H0 := hide h0
          clear hat h0 hlim hlm
          go_wp2
          go_ret
          exact ⟨rfl, (Kept.refl _ _ _).alloc _⟩
        · rw [decide_eq_false h0, Bool.false_or] at e2
          have h0' : ((zs.length : Int) == 0) = false := beq_eq_false_iff_ne.2 (by omega)
          obtain ⟨g, off, rfl, hc⟩ := hat (zs.length - 1) (by omega)
          have hl1 : 1 ≤ zs.length := by omega
          have hz0 := (hlm.at (zs.length - 1)).1
          generalize zs.getD (zs.length - 1) 0 = z at *
          have e3 : decide (0 < z) = (z != 0) := by
            by_cases h : z = 0
            · subst h; rfl
            · rw [decide_eq_true (by omega)]; simp [h]
          rw [e3] at e2
          subst e2
          clear hat hlim h0 hall HE hlm e3
          go_wp2
          go_ret
          exact ⟨by first | rfl | simp, (Kept.refl _ _ _).alloc _⟩

end Go.Proofs.Ytdhponfpikclhaa
