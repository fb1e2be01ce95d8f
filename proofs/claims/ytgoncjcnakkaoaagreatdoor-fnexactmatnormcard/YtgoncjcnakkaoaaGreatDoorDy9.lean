/-
  Dyadic numbers: DyShift and DyOf, the model's and the program's.
-/
import Derived.Test.YtgoncjcnakkaoaaGreatDoorDy8
namespace Go.Proofs.YtgoncjcnakkaoaaGreatDoor
open Go.RowKit
set_option linter.unusedVariables false
set_option maxRecDepth 8000
set_option linter.unusedSimpArgs false

theorem in_l4fits : ∀ (w : World) (args : Array Value), (callFunc 15 args).run Tryz.prog w = .ok (.enter 15 args) w := enters Tryz.func15 (by decide) (fun h => by cases h)

theorem fits_ans {c : Bool} (hc : c = true) (m x : Int) : (dokB (wsg m) (dlm m) (dex m x) && wsg m) = ansDS c m x ∧ (if dokB (wsg m) (dlm m) (dex m x) = true then dex m x else 0) = ansDE c m x ∧ dokB (wsg m) (dlm m) (dex m x) = ansDB c m x ∧ (if dokB (wsg m) (dlm m) (dex m x) = true then dlm m else []) = ansDL c m x := by
  subst hc; exact ⟨rfl, rfl, rfl, rfl⟩
theorem dex_range (m x : Int) (h1 : x ≤ 1000000) (h0 : -1000000 ≤ x) {K : Nat} (hm : m.natAbs < 2 ^ K) (hK : K ≤ 800000) : dex m x ≤ 9223372036854775807 ∧ -9223372036854775808 ≤ dex m x := by
  unfold dex
  split
  · omega
  · rename_i h
    have := tz_lt (n := m.natAbs) (by omega) hm
    omega
theorem wval_lt {s : Bool} {zs : List Int} (h : Lim zs) : (wval s zs).natAbs < 2 ^ (16 * zs.length) := by
  rw [wval_abs h]
  have h1 := val_lt h
  have h2 := val_nonneg h
  rw [pow_limb] at h1
  omega
/-- A number that is odd, or nought, elsewhere. -/
theorem shift_form {s : Bool} {zs : List Int} {x : Int} (h : dokB s zs x = true) (h0 : 0 < zs.length) (k : Int) : dlm (wval s zs) = zs ∧ dex (wval s zs) (x + k) = x + k ∧ wsg (wval s zs) = s := by
  have hw := wok_wn (dok_parts h).1
  obtain ⟨e1, e2⟩ := d_form h (wval s zs) (wval_abs hw.1.1)
  refine ⟨e1, ?_, wn_sign hw⟩
  have hne := (shr_wn hw h0).2.2
  unfold dex at e2 ⊢
  rw [if_neg hne] at e2 ⊢
  omega
theorem shift_zero (x : Int) : ansDB true 0 x = true ∧ ansDS true 0 x = false ∧ ansDL true 0 x = [] ∧ ansDE true 0 x = 0 := by
  have hb : ansDB true 0 x = true := by unfold ansDB; rw [dlm_zero]; simp [dex]; rfl
  obtain ⟨b1, b2, b3⟩ := ansD_yes hb
  exact ⟨hb, by rw [b1]; rfl, by rw [b2, dlm_zero], by rw [b3]; simp [dex]⟩

end Go.Proofs.YtgoncjcnakkaoaaGreatDoor
