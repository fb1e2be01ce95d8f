/-
  The walk of the law FnExactListText: it returns true at every argument.
-/
import Derived.Test.YtfikfmkhmojpfaaLst2
import Derived.Test.YtfikfmkhmojpfaaBJ
import Derived.Test.YtfikfmkhmojpfaaDys4
import Derived.Test.YtfikfmkhmojpfaaMat1
import Derived.Deep.DeepCutAuto
namespace Go.Proofs.Ytfikfmkhmojpfaa
open Go.RowKit
set_option linter.unusedVariables false
set_option maxRecDepth 8000
set_option linter.unusedSimpArgs false

theorem limT_at (ds : List DE) : ∀ {n i : Nat}, i < n → (ds.getD i de0).2.1.length ≤ limT ds n
  | 0, i, h => absurd h (Nat.not_lt_zero _)
  | n + 1, i, h => by
    unfold limT
    rcases Nat.lt_succ_iff_lt_or_eq.1 h with h | h
    · have := limT_at ds h; omega
    · subst h; omega
theorem lim_at (ds : List DE) {i : Nat} (h : i < ds.length) : ((ds.getD i de0).2.1.length : Int) ≤ szT ds := by
  have := limT_at ds h
  unfold szT
  omega

set_option maxHeartbeats 16000000 in
theorem law_ListText {u0 : Value} {z0 : List DE} {w : World} (r0 : Dys 0 w.heap.size w u0 z0) (q0 : WfD z0) :
    Calls Try.prog 4 #[u0] w fun e w' => e = .returned (.bool true) ∧ Below w.heap.size w w' := by
  obtain ⟨B, hB⟩ : ∃ B, ltB z0 = B := ⟨_, rfl⟩
  obtain ⟨L, hL⟩ : ∃ L, ltT z0 = L := ⟨_, rfl⟩
  have hq0 : L.length ≤ 1099511627776 := by rw [← hL]; have := ltT_len z0; omega
  have EB := hide hB
  have EL := hide hL
  clear hB hL
  have K := hide (Kept.refl 0 0 w)
  obtain ⟨a0, c0, hv⟩ := r0.form'
  subst hv
  go_enter Try.func4, Try.ntmps4
  go_wp2_with fail
  refine (szDyS_any _ 1048576 (by omega) (by omega) r0).mono ?_
  rintro e w1 ⟨rfl, k1⟩
  replace r0 := r0.kept k1 (by omega)
  replace K := hide ((unhide K).trans k1)
  have z1 := k1.size
  clear k1
  by_cases big : szT z0 ≤ 1048576
  rotate_left
  · rw [if_neg big]
    go_wp2
    go_ret
    exact ⟨rfl, (unhide K).toBelow⟩
  rw [if_pos big]
  have nb : ¬ (1048576 - szT z0) < 0 := by omega
  obtain ⟨hsl, hs00⟩ := szT_len z0
  have hn : z0.length ≤ 1048576 := by omega
  have hl : ∀ i, i < z0.length → (z0.getD i de0).2.1.length ≤ 1099511627776 := fun i hi => by have := lim_at z0 hi; omega
  have HY : ∀ i, i < z0.length → I64 (z0.getD i de0).2.2 := q0
  go_wp2_with fail
  refine (toDyS_any _ hn hl r0).mono ?_
  rintro e w2 ⟨va, rfl, da, k2⟩
  replace r0 := r0.kept k2 (by omega)
  replace K := hide ((unhide K).trans k2)
  have z2 := k2.size
  clear k2
  obtain ⟨aa, ca, hv⟩ := da.form'
  subst hv
  have mk := listText_spec _ da.read HY
  rw [unhide EB, unhide EL] at mk
  go_wp2_with fail
  refine (mk).mono ?_
  rintro e w3 ⟨vw, rfl, rw, k3⟩
  replace r0 := r0.kept k3 (by omega)
  replace da := da.kept k3 (by omega)
  replace K := hide ((unhide K).trans k3)
  have z3 := k3.size
  clear k3
  clear mk
  obtain ⟨aw, cw, hv⟩ := Row.form' rw
  subst hv
  clear da
  go_wp2_with fail
  refine (toDyS_any _ hn hl r0).mono ?_
  rintro e w4 ⟨vx, rfl, dx, k4⟩
  replace r0 := r0.kept k4 (by omega)
  replace rw := rw.kept k4 (by omega)
  replace K := hide ((unhide K).trans k4)
  have z4 := k4.size
  clear k4
  obtain ⟨ax, cx, hv⟩ := dx.form'
  subst hv
  have mk := listText_impl _ dx.read HY
  rw [unhide EB, unhide EL] at mk
  go_wp2_with fail
  refine (mk).mono ?_
  rintro e w5 ⟨vg, rfl, rg, k5⟩
  replace r0 := r0.kept k5 (by omega)
  replace rw := rw.kept k5 (by omega)
  replace dx := dx.kept k5 (by omega)
  replace K := hide ((unhide K).trans k5)
  have z5 := k5.size
  clear k5
  clear mk
  obtain ⟨ag, cg, hv⟩ := Row.form' rg
  subst hv
  go_wp2_with fail
  refine (eqT_same _ rg rw).mono ?_
  rintro e w6 ⟨rfl, k6⟩
  replace r0 := r0.kept k6 (by omega)
  replace rw := rw.kept k6 (by omega)
  replace rg := rg.kept k6 (by omega)
  replace dx := dx.kept k6 (by omega)
  replace K := hide ((unhide K).trans k6)
  have z6 := k6.size
  clear k6
  go_wp2_with fail
  refine (toDyS_any _ hn hl r0).mono ?_
  rintro e w7 ⟨vb, rfl, db, k7⟩
  replace r0 := r0.kept k7 (by omega)
  replace rw := rw.kept k7 (by omega)
  replace rg := rg.kept k7 (by omega)
  replace dx := dx.kept k7 (by omega)
  replace K := hide ((unhide K).trans k7)
  have z7 := k7.size
  clear k7
  obtain ⟨ab, cb, hv⟩ := db.form'
  subst hv
  go_wp2_with fail
  refine (eqDyS_same _ dx.read db.read).mono ?_
  rintro e w8 ⟨rfl, k8⟩
  replace r0 := r0.kept k8 (by omega)
  replace rw := rw.kept k8 (by omega)
  replace rg := rg.kept k8 (by omega)
  replace dx := dx.kept k8 (by omega)
  replace db := db.kept k8 (by omega)
  replace K := hide ((unhide K).trans k8)
  have z8 := k8.size
  clear k8
  clear db
  go_wp2_with fail
  refine (markDyS_any _ 1 (by omega) (by omega) big dx).mono ?_
  rintro e w9 ⟨rfl, -, k9⟩
  replace r0 := r0.kept k9 (by omega)
  replace rw := rw.kept k9 (by omega)
  replace rg := rg.kept k9 (by omega)
  replace K := hide ((unhide K).wide k9 (by omega))
  have z9 := k9.size
  clear k9
  have nk : ¬ kAt z0 1 z0.length < 0 := by unfold kAt; omega
  go_wp2_with fail
  refine (eqT_same _ rg rw).mono ?_
  rintro e w10 ⟨rfl, k10⟩
  replace r0 := r0.kept k10 (by omega)
  replace rw := rw.kept k10 (by omega)
  replace rg := rg.kept k10 (by omega)
  replace K := hide ((unhide K).trans k10)
  have z10 := k10.size
  clear k10
  go_wp2_with fail
  refine (markT_wide _ 1 (by omega) (by omega) hq0 rg).mono ?_
  rintro e w11 ⟨rfl, rm, k11⟩
  replace r0 := r0.kept k11 (by omega)
  replace rw := rw.kept k11 (by omega)
  replace K := hide ((unhide K).wide k11 (by omega))
  have z11 := k11.size
  clear k11
  clear rg
  go_wp2_with fail
  refine (heldT_any _ 1 (by omega) (by omega) hq0 rm).mono ?_
  rintro e w12 ⟨rfl, k12⟩
  replace r0 := r0.kept k12 (by omega)
  replace rw := rw.kept k12 (by omega)
  replace rm := rm.kept k12 (by omega)
  replace K := hide ((unhide K).trans k12)
  have z12 := k12.size
  clear k12
  have nq : ¬ (1 + (L.length : Int)) < 0 := by omega
  go_wp2_with fail
  refine (toDyS_any _ hn hl r0).mono ?_
  rintro e w13 ⟨vh, rfl, dh, k13⟩
  replace r0 := r0.kept k13 (by omega)
  replace rw := rw.kept k13 (by omega)
  replace rm := rm.kept k13 (by omega)
  replace K := hide ((unhide K).trans k13)
  have z13 := k13.size
  clear k13
  obtain ⟨ah, ch, hv⟩ := dh.form'
  subst hv
  have mk := listText_impl _ dh.read HY
  rw [unhide EB, unhide EL] at mk
  go_wp2_with fail
  refine (mk).mono ?_
  rintro e w14 ⟨vh, rfl, rh, k14⟩
  replace r0 := r0.kept k14 (by omega)
  replace rw := rw.kept k14 (by omega)
  replace rm := rm.kept k14 (by omega)
  replace dh := dh.kept k14 (by omega)
  replace K := hide ((unhide K).trans k14)
  have z14 := k14.size
  clear k14
  clear mk
  obtain ⟨ah, ch, hv⟩ := Row.form' rh
  subst hv
  go_wp2_with fail
  refine (eqT_same _ rh rw).mono ?_
  rintro e w15 ⟨rfl, k15⟩
  replace r0 := r0.kept k15 (by omega)
  replace rw := rw.kept k15 (by omega)
  replace rm := rm.kept k15 (by omega)
  replace rh := rh.kept k15 (by omega)
  replace dh := dh.kept k15 (by omega)
  replace K := hide ((unhide K).trans k15)
  have z15 := k15.size
  clear k15
  go_wp2_with fail
  refine (heldT_any _ 1 (by omega) (by omega) hq0 rm).mono ?_
  rintro e w16 ⟨rfl, k16⟩
  replace r0 := r0.kept k16 (by omega)
  replace rw := rw.kept k16 (by omega)
  replace rm := rm.kept k16 (by omega)
  replace rh := rh.kept k16 (by omega)
  replace dh := dh.kept k16 (by omega)
  replace K := hide ((unhide K).trans k16)
  have z16 := k16.size
  clear k16
  go_wp2
  go_ret
  exact ⟨rfl, (unhide K).toBelow⟩

end Go.Proofs.Ytfikfmkhmojpfaa
