/-
  Whole numbers as integers; contracts of the model's l3make, l3neg, l3fits, l3cmp, l3mul, l3add, l3of.
-/
import Derived.Test.YtondlefojekjeaaWh1
import Derived.Test.YtondlefojekjeaaBB
import Derived.Test.YtondlefojekjeaaBC
import Derived.Test.YtondlefojekjeaaNat4
namespace Go.Proofs.Ytondlefojekjeaa
open Go.RowKit
set_option linter.unusedVariables false
set_option maxRecDepth 8000
set_option linter.unusedSimpArgs false

/-- A whole number's sign, and the limbs of its size. -/
def wsg (x : Int) : Bool := decide (x < 0)
def wlm (x : Int) : List Int := limbs x.natAbs
theorem limbs_pos (n : Nat) : decide (0 < (limbs n).length) = decide (0 < n) := by
  by_cases h : n = 0
  · subst h; rfl
  · have : limbs n ≠ [] := fun e => h (limbs_eq_nil.1 e)
    rw [decide_eq_true (List.length_pos_iff.2 this), decide_eq_true (by omega)]
theorem wlm_lim (x : Int) : Lim (wlm x) := limbs_lim _
theorem wlm_nrm (x : Int) : Nrm (wlm x) := limbs_nrm _
theorem wlm_val (x : Int) : val (wlm x) = x.natAbs := limbs_val _
theorem wval_int (x : Int) : wval (wsg x) (wlm x) = x := by
  unfold wval; rw [wlm_val]; unfold wsg
  by_cases h : x < 0 <;> simp [h] <;> omega
theorem wlm_wval (b : Bool) {zs : List Int} (hl : Lim zs) : wlm (wval b zs) = limbs (val zs).toNat := by
  have := val_nonneg hl
  unfold wlm wval
  cases b <;> simp <;> congr 1 <;> omega
theorem wsg_wval (b : Bool) (n : Nat) : wsg (wval b (limbs n)) = (b && decide (0 < (limbs n).length)) := by
  rw [limbs_pos]
  unfold wsg wval
  rw [limbs_val]
  cases b <;> simp
theorem wok_of {b : Bool} {zs : List Int} (h : wokB b zs = true) : ∃ x : Int, wval b zs = x ∧ b = wsg x ∧ zs = wlm x ∧ (wlm x).length ≤ 100 := by
  obtain ⟨h1, h2, h3, -⟩ := wok_int h
  exact ⟨_, rfl, h1, h2, by unfold wlm; rw [← h2]; exact h3⟩

theorem mul_len {xs ys : List Int} (hx : Lim xs) (hy : Lim ys) (nx : xs.length ≤ 100000) (ny : ys.length ≤ 100000) : (limbs (val xs * val ys).toNat).length ≤ 1000000 := by
  have h := (limbs_length_le (val xs * val ys).toNat (xs.length + ys.length)).2 (by
    rw [Int.toNat_of_nonneg (Int.mul_nonneg (val_nonneg hx) (val_nonneg hy))]
    exact mul_lt_pow hx hy)
  omega
theorem mul_sgn (s1 s2 : Bool) {xs ys : List Int} (hx : Lim xs) (hy : Lim ys) : wval (!(s1 == s2)) (limbs (val xs * val ys).toNat) = wval s1 xs * wval s2 ys := by
  have h3 := val_nonneg hx
  have h4 := val_nonneg hy
  unfold wval
  rw [limbs_val, Int.toNat_of_nonneg (Int.mul_nonneg h3 h4)]
  cases s1 <;> cases s2 <;> simp [Int.neg_mul, Int.mul_neg]

theorem add_len {xs ys : List Int} (hx : Lim xs) (hy : Lim ys) (nx : xs.length ≤ 100000) (ny : ys.length ≤ 100000) (n : Nat) (hn : (n : Int) ≤ val xs + val ys) : (limbs n).length ≤ 1000000 := by
  have h := (limbs_length_le n (xs.length + ys.length + 1)).2 (by
    have h1 := val_lt hx
    have h2 := val_lt hy
    have e1 := pow_mono (a := xs.length) (b := xs.length + ys.length) (by omega)
    have e2 := pow_mono (a := ys.length) (b := xs.length + ys.length) (by omega)
    rw [Int.pow_succ]
    generalize (65536 : Int) ^ (xs.length + ys.length) = P at *
    omega)
  omega
theorem len_le_of_val {xs ys : List Int} (hx : Lim xs) (hy : Nrm ys) (h : val ys ≤ val xs) : ys.length ≤ xs.length := by
  rcases Nat.lt_or_ge xs.length ys.length with h1 | h1
  · have := val_lt_of_len hx hy h1; omega
  · exact h1

/-- The model's l3make at a number that has its limbs in their one form. -/
theorem make_any {bw : Bool} {lo hi : Nat} {v : Value} {zs : List Int} (b : Bool) (w : World) (r : Row .i64 bw lo hi w v zs) (hn : Nrm zs) (hlen : zs.length ≤ 1000000) :
    Calls Try.prog 42 #[.bool b, .agg #[v]] w fun e w' => ∃ v', e = .returned (.agg #[.bool (wsg (wval b zs)), v']) ∧ Row .i64 true w.heap.size w'.heap.size w' v' (wlm (wval b zs)) ∧ Kept 0 0 w w' := by
  refine (make_spec b w r hn.1 hlen).mono ?_
  rintro e w' ⟨v', rfl, r', k'⟩
  refine ⟨v', ?_, by rw [wlm_wval b hn.1]; exact r', k'⟩
  have e := nrm_limbs hn
  rw [e, wsg_wval]

theorem add_sgn (s : Bool) {xs ys : List Int} (hx : Lim xs) (hy : Lim ys) : wval s (limbs (val xs + val ys).toNat) = wval s xs + wval s ys := by
  have h3 := val_nonneg hx
  have h4 := val_nonneg hy
  unfold wval
  rw [limbs_val, Int.toNat_of_nonneg (by omega)]
  cases s <;> simp <;> omega
theorem sub_sgn {s1 s2 : Bool} (h : s1 ≠ s2) {xs ys : List Int} (hle : val ys ≤ val xs) : wval s1 (limbs (val xs - val ys).toNat) = wval s1 xs + wval s2 ys := by
  unfold wval
  rw [limbs_val, Int.toNat_of_nonneg (by omega)]
  cases s1 <;> cases s2 <;> simp at h ⊢ <;> omega
theorem sub_sgn' {s1 s2 : Bool} (h : s1 ≠ s2) {xs ys : List Int} (hle : val xs ≤ val ys) : wval s2 (limbs (val ys - val xs).toNat) = wval s1 xs + wval s2 ys := by
  rw [Int.add_comm]; exact sub_sgn (fun e => h e.symm) hle

/-- A sign and limbs, of any length, that are told in their one way. -/
def WN (b : Bool) (zs : List Int) : Prop := Nrm zs ∧ (b = true → 0 < zs.length)
theorem wok_wn {b : Bool} {zs : List Int} (h : wokB b zs = true) : WN b zs := by
  refine ⟨(wok_int h).2.2.2, fun e => ?_⟩
  unfold wokB at h
  subst e
  simp at h
  exact List.length_pos_iff.2 (fun e => by subst e; simp at h)
theorem WN.int {b : Bool} {zs : List Int} (h : WN b zs) : b = decide (wval b zs < 0) ∧ zs = limbs (wval b zs).natAbs ∧ Nrm zs := by
  obtain ⟨h4, h2⟩ := h
  have h0 := val_nonneg h4.1
  have hl := nrm_limbs h4
  unfold wval
  cases b
  · refine ⟨?_, ?_, h4⟩
    · simp; omega
    · simp
      rw [show (val zs).natAbs = (val zs).toNat by omega]; exact hl
  · have hne : zs ≠ [] := List.length_pos_iff.1 (h2 rfl)
    have hp := nrm_pow h4 hne
    have hp0 : (0 : Int) < 65536 ^ (zs.length - 1) := Int.pow_pos (by decide)
    refine ⟨?_, ?_, h4⟩
    · simp; omega
    · simp
      rw [show (val zs).natAbs = (val zs).toNat by omega]; exact hl

set_option maxHeartbeats 1000000 in
theorem cmp3_wn {b1 b2 : Bool} {l1 h1 l2 h2 : Nat} {v1 v2 : Value} {xs ys : List Int} (s1 s2 : Bool) (w : World) (r1 : Row .i64 b1 l1 h1 w v1 xs) (r2 : Row .i64 b2 l2 h2 w v2 ys) (o1 : WN s1 xs) (o2 : WN s2 ys) :
    Calls Try.prog 33 #[.agg #[.bool s1, v1], .agg #[.bool s2, v2]] w fun e w' => e = .returned (.int .i64 (cmpI (wval s1 xs) (wval s2 ys))) ∧ Kept 0 0 w w' := by
  have k0 := ((Kept.refl 0 0 w).alloc (.cells #[.bool s1, v1] 33)).alloc (.cells #[.bool s2, v2] 33)
  have q1 := r1.kept k0 (by omega)
  have q2 := r2.kept k0 (by omega)
  obtain ⟨a1, c1, rfl⟩ := Row.form' r1
  obtain ⟨a2, c2, rfl⟩ := Row.form' r2
  obtain ⟨x1, x2, hx⟩ := o1.int
  obtain ⟨y1, y2, hy⟩ := o2.int
  have nx := val_nonneg hx.1
  have ny := val_nonneg hy.1
  have HK := hide k0
  clear r1 r2 k0 o1 o2 x2 y2
  cases s1 <;> cases s2
  · have e : cmpI (wval false xs) (wval false ys) = cmpI (val xs) (val ys) := by simp [wval]
    rw [e]
    clear x1 y1 e
    go_enter Try.func33, Try.ntmps33
    go_wp2_with fail
    refine (cmp_spec _ q1 q2 hx hy).mono ?_
    rintro e w6 ⟨rfl, k6⟩
    have K := hide ((unhide HK).trans k6)
    clear q1 q2 k6
    go_wp2
    go_ret
    exact ⟨rfl, unhide K⟩
  · have e : cmpI (wval false xs) (wval true ys) = 1 := by simp [wval] at y1 ⊢; unfold cmpI; rw [if_neg (by omega), if_pos (by omega)]
    rw [e]
    clear x1 y1 e q1 q2
    go_enter Try.func33, Try.ntmps33
    go_wp2
    go_ret
    exact ⟨rfl, unhide HK⟩
  · have e : cmpI (wval true xs) (wval false ys) = -1 := by simp [wval] at x1 ⊢; unfold cmpI; rw [if_pos (by omega)]
    rw [e]
    clear x1 y1 e q1 q2
    go_enter Try.func33, Try.ntmps33
    go_wp2
    go_ret
    exact ⟨rfl, unhide HK⟩
  · have e : cmpI (wval true xs) (wval true ys) = cmpI (val ys) (val xs) := by simp [wval]; unfold cmpI; split <;> split <;> (try split) <;> (try split) <;> omega
    rw [e]
    clear x1 y1 e
    go_enter Try.func33, Try.ntmps33
    go_wp2_with fail
    refine (cmp_spec _ q2 q1 hy hx).mono ?_
    rintro e w6 ⟨rfl, k6⟩
    have K := hide ((unhide HK).trans k6)
    clear q1 q2 k6
    go_wp2
    go_ret
    exact ⟨rfl, unhide K⟩

theorem cmp3_spec {b1 b2 : Bool} {l1 h1 l2 h2 : Nat} {v1 v2 : Value} {xs ys : List Int} (s1 s2 : Bool) (w : World) (r1 : Row .i64 b1 l1 h1 w v1 xs) (r2 : Row .i64 b2 l2 h2 w v2 ys) (o1 : wokB s1 xs = true) (o2 : wokB s2 ys = true) :
    Calls Try.prog 33 #[.agg #[.bool s1, v1], .agg #[.bool s2, v2]] w fun e w' => e = .returned (.int .i64 (cmpI (wval s1 xs) (wval s2 ys))) ∧ Kept 0 0 w w' := cmp3_wn s1 s2 w r1 r2 (wok_wn o1) (wok_wn o2)

theorem of_wlm (n : Int) (h : n < 0) : wval true (limbs (val (limbs (-(n + 1)).toNat) + val (limbs (1 : Int).toNat)).toNat) = n := by
  unfold wval; rw [limbs_val, limbs_val, limbs_val]; simp; omega
theorem of_wlm' (n : Int) (h : ¬ n < 0) : wval false (limbs n.toNat) = n := by
  unfold wval; rw [limbs_val]; simp; omega

end Go.Proofs.Ytondlefojekjeaa
