/-
  Contracts of the model's NatOk and of what takes needless noughts away.
-/
import Derived.Test.YtdhponfpikclhaaRows
import Derived.Test.YtdhponfpikclhaaBase
import Derived.Test.YtdhponfpikclhaaNum2
import Derived.WalkKit
namespace Go.Proofs.Ytdhponfpikclhaa
open Go.RowKit
set_option linter.unusedVariables false
set_option maxRecDepth 8000

def limB (zs : List Int) : Bool := zs.all fun z => decide (0 ≤ z) && decide (z ≤ 65535)
/-- Is it a number as chapter 2 wants it? -/
def okB (zs : List Int) : Bool := decide (zs.length ≤ 100) && limB zs && (decide (zs.length = 0) || decide (0 < zs.getD (zs.length - 1) 0))
theorem limB_iff (zs : List Int) : limB zs = true ↔ Lim zs := by
  unfold limB Lim; simp
theorem limB_bad {zs : List Int} {k : Nat} (hk : k < zs.length) (h : zs.getD k 0 < 0 ∨ 65535 < zs.getD k 0) : limB zs = false := by
  cases hb : limB zs
  · rfl
  · have := ((limB_iff zs).1 hb).at k; omega
theorem okB_iff (zs : List Int) : okB zs = true ↔ zs.length ≤ 100 ∧ Nrm zs := by
  unfold okB Nrm
  simp only [Bool.and_eq_true, decide_eq_true_eq, limB_iff, Bool.or_eq_true]
  constructor
  · rintro ⟨⟨h1, h2⟩, h3⟩
    refine ⟨h1, h2, fun z hz e => ?_⟩
    rw [List.getLast?_eq_getElem?] at hz
    rcases h3 with h3 | h3
    · simp [List.length_eq_zero_iff.1 h3] at hz
    · simp [List.getD, hz] at h3; omega
  · rintro ⟨h1, h2, h3⟩
    refine ⟨⟨h1, h2⟩, ?_⟩
    by_cases h0 : zs.length = 0
    · exact .inl h0
    · refine .inr ?_
      have hl : zs.length - 1 < zs.length := by omega
      have := h3 (zs.getD (zs.length - 1) 0) (by rw [List.getLast?_eq_getElem?]; simp [List.getD, hl])
      have := h2.at (zs.length - 1)
      omega
theorem okB_limbs {zs : List Int} (h : okB zs = true) : zs = limbs (val zs).toNat ∧ zs.length ≤ 100 := ⟨nrm_limbs ((okB_iff zs).1 h).2, ((okB_iff zs).1 h).1⟩

set_option maxHeartbeats 1000000 in
theorem ok_spec {bw : Bool} {lo hi : Nat} {v : Value} {zs : List Int} (w : World) (r : Row .i64 bw lo hi w v zs) :
    Calls Try.prog 30 #[.agg #[v]] w fun e w' => e = .returned (.bool (okB zs)) ∧ Kept 0 0 w w' := by
  have rr := r
  obtain ⟨a, c, rfl, q1, m1, q3⟩ := r
  unfold maxLen at m1
  by_cases hbig : 100 < (zs.length : Int)
  · have e0 : okB zs = false := by unfold okB; rw [decide_eq_false (by omega)]; rfl
    rw [e0]
    go_enter Try.func30, Try.ntmps30
    go_wp2
    go_ret
    exact ⟨rfl, (Kept.refl _ _ _).alloc _⟩
  · have h100 : zs.length ≤ 100 := by omega
    have hat := (row_cell (rr.kept ((Kept.refl 0 0 w).alloc (.cells #[.slice a zs.length c] 26)) (by omega))).2.2.2
    have e1 : okB zs = (limB zs && (decide (zs.length = 0) || decide (0 < zs.getD (zs.length - 1) 0))) := by unfold okB; rw [decide_eq_true h100]; simp
    generalize okB zs = K at *
    have HE := hide e1
    clear e1 q3 rr
    go_enter Try.func30, Try.ntmps30
    go_wp2
    go_loop [3] (fun i => ∃ k : Nat, k ≤ zs.length ∧ i = .int .i64 k ∧ Hid (∀ m, m < k → 0 ≤ zs.getD m 0 ∧ zs.getD m 0 ≤ 65535)) (fun i => zs.length - (intOf i).toNat)
    case atStart => exact ⟨0, Nat.zero_le _, rfl, fun m hm => absurd hm (Nat.not_lt_zero _)⟩
    case round =>
      obtain ⟨k, hk, rfl, hall⟩ := hrel
      by_cases hlt : k < zs.length
      · have hlt' : (k : Int) < (zs.length : Int) := by omega
        obtain ⟨g, off, rfl, hc⟩ := hat k hlt
        have hbad := limB_bad (zs := zs) hlt
        generalize hz : zs.getD k 0 = z at *
        have HZ := hide hz
        have HB := hide hbad
        clear hat hz hbad
        by_cases z0 : z < 0
        · have e2 := unhide HE
          rw [unhide HB (.inl z0)] at e2
          simp at e2
          subst e2
          go_wp2
          go_ret
          exact ⟨rfl, (Kept.refl _ _ _).alloc _⟩
        by_cases z1 : 65536 ≤ z
        · have e2 := unhide HE
          rw [unhide HB (.inr (by omega))] at e2
          simp at e2
          subst e2
          go_wp2
          go_ret
          exact ⟨rfl, (Kept.refl _ _ _).alloc _⟩
        · go_wp2
          go_round
          case rel => exact ⟨k + 1, by omega, by go_num, fun m hm => by
            rcases Nat.lt_succ_iff_lt_or_eq.1 hm with h | h
            · exact hall.out m h
            · subst h; rw [unhide HZ]; omega⟩
          case measure => simp [intOf]; omega
      · have hlt' : ¬ (k : Int) < (zs.length : Int) := by omega
        have hlim : limB zs = true := (limB_iff zs).2 (fun z hz => by
          obtain ⟨i, hi, rfl⟩ := List.getElem_of_mem hz
          have := hall.out i (by omega)
          simpa [List.getD, hi] using this)
        have e2 := unhide HE
        rw [hlim, Bool.true_and] at e2
        by_cases h0 : zs.length = 0
        · rw [decide_eq_true h0] at e2
          simp at e2
          subst e2
          have h0' : ((zs.length : Int) == 0) = true := by simp [h0]
          have H0 := hide h0
          clear hat h0 hlim
          go_wp2
          go_ret
          exact ⟨rfl, (Kept.refl _ _ _).alloc _⟩
        · rw [decide_eq_false h0, Bool.false_or] at e2
          have h0' : ((zs.length : Int) == 0) = false := beq_eq_false_iff_ne.2 (by omega)
          obtain ⟨g, off, rfl, hc⟩ := hat (zs.length - 1) (by omega)
          have hl1 : 1 ≤ zs.length := by omega
          generalize zs.getD (zs.length - 1) 0 = z at *
          subst e2
          clear hat hlim h0 hall HE
          go_wp2
          go_ret
          exact ⟨by first | rfl | simp, (Kept.refl _ _ _).alloc _⟩

end Go.Proofs.Ytdhponfpikclhaa
