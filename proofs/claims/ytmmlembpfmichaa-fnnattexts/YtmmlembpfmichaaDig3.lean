/-
  NatText of the model and of the program: the decimal text of a number, and nothing of what is none.
-/
import Derived.Test.YtmmlembpfmichaaDig2
import Derived.Test.YtmmlembpfmichaaBC
namespace Go.Proofs.Ytmmlembpfmichaa
open Go.RowKit
set_option linter.unusedVariables false
set_option maxRecDepth 8000

/-- The text of what is a number; nothing of what is none. -/
def ntx (zs : List Int) : List Int := if okB zs then decText (val zs).toNat else []
theorem decText_len {zs : List Int} (h : okB zs = true) : (decText (val zs).toNat).length ≤ 1600 := by
  have hN := (okB_iff zs).1 h
  have h1 := val_lt hN.2.1
  have h2 := val_nonneg hN.2.1
  rw [pow_limb] at h1
  have h3 := tdig_len (16 * zs.length) (val zs).toNat (by omega)
  unfold decText
  split
  · simp
  · rw [List.length_reverse]; omega
theorem ntx_len (zs : List Int) : (ntx zs).length ≤ 1600 := by
  unfold ntx
  cases h : okB zs
  · simp
  · rw [if_pos rfl]; exact decText_len h

set_option maxHeartbeats 1000000 in
theorem natText_impl {bw : Bool} {lo hi : Nat} {v : Value} {zs : List Int} (w : World) (r : Row .i64 bw lo hi w v zs) :
    Calls Try.prog 5 #[.agg #[v]] w fun e w' => ∃ v', e = .returned v' ∧ Row .u8 true w.heap.size w'.heap.size w' v' (ntx zs) ∧ Kept 0 0 w w' := by
  have k0 := (Kept.refl 0 0 w).alloc (.cells #[v] 25)
  have r0 := r.kept k0 (by omega)
  have c0 : (w.alloc (.cells #[v] 25)).cell? ⟨w.heap.size, 0, none⟩ = some v := new_cell_at _ _ _ _ rfl
  obtain ⟨a, c, rfl⟩ := Row.form' r
  clear r
  go_enter Try.func5, Try.ntmps5
  go_wp2_with fail
  generalize w.alloc (.cells #[.slice a zs.length c] 25) = W at *
  refine (ok_impl _ r0).mono ?_
  rintro e w1 ⟨rfl, k1⟩
  replace c0 := k1.cell0 c0
  replace r0 := r0.kept k1 (by omega)
  have K1 := hide (k0.trans k1)
  clear k0 k1
  cases hok : okB zs
  · have HK := hide hok
    clear r0 hok
    go_wp2_with fail
    go_ret
    exact ⟨_, rfl, by unfold ntx; rw [unhide HK]; exact Row.nil _ _ _ _ _, unhide K1⟩
  · have HK := hide hok
    have hN := (okB_iff zs).1 hok
    have HO := hide hN
    clear hN hok
    go_wp2_with fail
    refine (limbsOf_impl _ r0 (by have := (unhide HO).1; omega)).mono ?_
    rintro e w2 ⟨v2, rfl, o2, k2⟩
    have n2 := Num.new 40 o2
    have K2 := hide (((unhide K1).trans k2).alloc (.cells #[v2] 40))
    obtain ⟨a2, c2, rfl⟩ := own_slice o2
    clear r0 k2 o2
    go_wp2_with fail
    generalize w2.alloc (.cells #[.slice a2 zs.length c2] 40) = w3 at *
    have hzl := nrm_limbs (unhide HO).2
    have hl := (unhide HO).1
    rw [hzl] at n2 hl
    refine (text_impl _ n2 (by omega)).mono ?_
    rintro e w4 ⟨v4, rfl, r4, k4⟩
    have K4 := hide ((unhide K2).trans k4)
    have s1 := (unhide K2).size
    clear n2 k4 HO hzl hl
    obtain ⟨a4, c4, hv4⟩ := Row.form' r4
    subst hv4
    have R4 := hide r4
    clear r4
    go_wp2_with fail
    go_ret
    exact ⟨_, rfl, by unfold ntx; rw [if_pos (unhide HK)]; exact (unhide R4).wider s1 (Nat.le_refl _), unhide K4⟩

end Go.Proofs.Ytmmlembpfmichaa
