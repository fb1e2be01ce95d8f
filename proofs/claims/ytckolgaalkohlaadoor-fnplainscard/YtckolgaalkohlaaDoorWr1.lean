/-
  Contracts of WholeRead, the model's and the program's.
-/
import Derived.Test.YtckolgaalkohlaaDoorPlain
import Derived.Test.YtckolgaalkohlaaDoorRdS
import Derived.Test.YtckolgaalkohlaaDoorBE
import Derived.Test.YtckolgaalkohlaaDoorBH
import Derived.Test.YtckolgaalkohlaaDoorNat11
namespace Go.Proofs.YtckolgaalkohlaaDoor
open Go.RowKit
set_option linter.unusedVariables false
set_option maxRecDepth 8000
set_option linter.unusedSimpArgs false

/-- A text in its plain form; its sign; what is behind the sign; is it a number; which. -/
def pln (bs : List Int) : List Int := plainL (runes bs)
def wrN (p : List Int) : Bool := decide (p.getD 0 0 = 45)
def wrD (p : List Int) : List Int := if p.getD 0 0 = 45 ∨ p.getD 0 0 = 43 then p.drop 1 else p
def wrC (bs : List Int) : Bool := isDig (wrD (pln bs))
def wrX (bs : List Int) : Int := wval (wrN (pln bs)) (limbs (digN (wrD (pln bs))))
theorem wrD_yes {p : List Int} (h : p.getD 0 0 = 45 ∨ p.getD 0 0 = 43) : wrD p = p.drop 1 := by unfold wrD; rw [if_pos h]
theorem wrD_no {p : List Int} (h : ¬ (p.getD 0 0 = 45 ∨ p.getD 0 0 = 43)) : wrD p = p := by unfold wrD; rw [if_neg h]
theorem isDig_mem {ds : List Int} (h : isDig ds = true) : ∀ z ∈ ds, 48 ≤ z ∧ z ≤ 57 := by
  unfold isDig at h
  simp only [Bool.and_eq_true, List.all_eq_true, decide_eq_true_eq] at h
  exact h.2
theorem rb_low {x : Int} (h : ∀ z ∈ rb x, z < 128) : (rb x).length ≤ 1 := by
  unfold rb at *
  by_cases hm : mayB x = false
  · rw [if_pos hm]; simp
  · rw [if_neg hm] at *
    by_cases h1 : x < 128
    · rw [if_pos h1]; simp
    · rw [if_neg h1] at *
      exfalso
      split at h
      · have := h _ (List.mem_cons_self ..); omega
      · split at h
        · have := h _ (List.mem_cons_self ..); omega
        · have := h _ (List.mem_cons_self ..); omega
theorem plainL_low {rs : List Int} (h : ∀ z ∈ plainL rs, z < 128) : (plainL rs).length ≤ rs.length := by
  induction rs with
  | nil => simp [plainL]
  | cons r t ih =>
    simp only [plainL, List.mem_append] at h
    have h1 := rb_low (x := pr r) (fun z hz => h z (.inl hz))
    have h2 := ih (fun z hz => h z (.inr hz))
    simp [plainL]
    omega
theorem wr_len {bs : List Int} (h : wrC bs = true) : (pln bs).length ≤ 400 := by
  unfold wrC at h
  have hm := isDig_mem h
  have hl : ∀ z ∈ pln bs, z < 128 := by
    intro z hz
    by_cases hs : (pln bs).getD 0 0 = 45 ∨ (pln bs).getD 0 0 = 43
    · rw [wrD_yes hs] at hm
      cases hp : pln bs with
      | nil => rw [hp] at hz; cases hz
      | cons a t =>
        rw [hp] at hz hs hm
        simp at hs hm
        rcases List.mem_cons.1 hz with e | e
        · omega
        · have := hm z e; omega
    · rw [wrD_no hs] at hm
      have := hm z hz; omega
  have h1 := plainL_low (rs := runes bs) hl
  have h2 := runes_length bs
  unfold pln
  omega
theorem pln_long {bs : List Int} (h : 400 < bs.length) : pln bs = [] := by unfold pln runes; rw [if_pos h]; rfl
theorem pln_bytes {bs : List Int} : ∀ i, i < (pln bs).length → True := fun _ _ => trivial
theorem wr_ans (b : Bool) (n : Nat) : ansWB true (wval b (limbs n)) = decide ((limbs n).length ≤ 100) ∧ ansWS true (wval b (limbs n)) = (decide ((limbs n).length ≤ 100) && (b && decide (0 < (limbs n).length))) ∧ ansWL true (wval b (limbs n)) = tell (limbs n) := by
  have e : wlm (wval b (limbs n)) = limbs n := by rw [wlm_wval b (limbs_lim n), limbs_val, Int.toNat_natCast]
  have e1 : ansWB true (wval b (limbs n)) = decide ((limbs n).length ≤ 100) := by rw [ansWB_yes rfl, e]
  refine ⟨e1, by unfold ansWS; rw [e1, wsg_wval], ?_⟩
  unfold ansWL
  rw [e1, e]
  unfold tell
  by_cases h : (limbs n).length ≤ 100
  · rw [decide_eq_true h, if_pos rfl, if_pos h]
  · rw [decide_eq_false h, if_neg (by decide), if_neg h]
theorem dig_short {ds : List Int} (h : isDig ds = true) : (limbs (digN ds)).length ≤ ds.length := by
  have := digN_len ds (fun i hi => isDig_at h i hi) ds.length (Nat.le_refl _)
  rwa [List.take_of_length_le (Nat.le_refl _)] at this
theorem wrD_len (p : List Int) : (wrD p).length ≤ p.length := by
  unfold wrD
  split
  · simp
  · exact Nat.le_refl _
theorem sgn_byte {z : Int} (h1 : z < 256) : sgn z = if z = 43 then 1 else if z = 45 then -1 else 0 := by
  unfold sgn
  repeat' split
  all_goals first | rfl | omega

end Go.Proofs.YtckolgaalkohlaaDoor
