/-
  The model's l3div: a quotient whose rest is not below nought.
-/
import Derived.Test.YtmoeeoninbphiaaNat16
import Derived.Test.YtmoeeoninbphiaaBE
import Derived.Test.YtmoeeoninbphiaaBB
import Derived.Test.YtmoeeoninbphiaaBC
import Derived.Test.YtmoeeoninbphiaaBJ
import Derived.Deep.DeepCutAuto
import Derived.Deep.RegionHeld3
namespace Go.Proofs.Ytmoeeoninbphiaa
open Go.RowKit
set_option linter.unusedVariables false
set_option maxRecDepth 8000
set_option linter.unusedSimpArgs false

/-- Does the divisor go in once more? -/
def wdO (s : Bool) (xs ys : List Int) : Bool := s && decide (val xs % val ys ≠ 0)
def wdQ (s : Bool) (xs ys : List Int) : List Int := if wdO s xs ys = true then limbs (val xs / val ys + 1).toNat else limbs (val xs / val ys).toNat
def wdR (s : Bool) (xs ys : List Int) : List Int := if wdO s xs ys = true then limbs (val ys - val xs % val ys).toNat else limbs (val xs % val ys).toNat

theorem in_l3makeD : ∀ (w : World) (args : Array Value), (callFunc 26 args).run Try.prog w = .ok (.enter 26 args) w := enters Try.func26 (by decide) (fun h => by cases h)

theorem in_l2ofD : ∀ (w : World) (args : Array Value), (callFunc 28 args).run Try.prog w = .ok (.enter 28 args) w := enters Try.func28 (by decide) (fun h => by cases h)

theorem in_l2addD : ∀ (w : World) (args : Array Value), (callFunc 27 args).run Try.prog w = .ok (.enter 27 args) w := enters Try.func27 (by decide) (fun h => by cases h)

theorem in_l2subD : ∀ (w : World) (args : Array Value), (callFunc 29 args).run Try.prog w = .ok (.enter 29 args) w := enters Try.func29 (by decide) (fun h => by cases h)

set_option maxHeartbeats 16000000 in
theorem div3_spec {b1 b2 : Bool} {l1 h1 l2 h2 : Nat} {v1 v2 : Value} {xs ys : List Int} (s1 s2 : Bool) (w : World) (r1 : Row .i64 b1 l1 h1 w v1 xs) (r2 : Row .i64 b2 l2 h2 w v2 ys) (hx : Nrm xs) (hy : Nrm ys) (nx : xs.length ≤ 100) (ny : ys.length ≤ 100) (h0 : 0 < val ys) :
    Calls Try.prog 13 #[.agg #[.bool s1, v1], .agg #[.bool s2, v2]] w fun e w' => ∃ vq vr, e = .returned (.tuple #[.agg #[.bool ((s1 != s2) && decide (0 < (wdQ s1 xs ys).length)), vq], .agg #[.bool false, vr]]) ∧ Row .i64 true w.heap.size w'.heap.size w' vq (wdQ s1 xs ys) ∧ Row .i64 true w.heap.size w'.heap.size w' vr (wdR s1 xs ys) ∧ Kept 0 0 w w' := by
  obtain ⟨W, hW⟩ : ∃ W, W = (((w.alloc (.cells #[.bool s1, v1] 30)).alloc (.cells #[.bool s2, v2] 30)).alloc (.cells #[.bool false, .slice none 0 0] 30)).alloc (.cells #[.bool false, .slice none 0 0] 30) := ⟨_, rfl⟩
  have k0 : Kept 0 0 w W := by rw [hW]; exact ((((Kept.refl 0 0 w).alloc _).alloc _).alloc _).alloc _
  have c0 : W.cell? ⟨w.heap.size, 0, none⟩ = some (.bool s1) := by rw [hW]; exact old_cell _ (old_cell _ (old_cell _ (new_cell2 _ _ _ _ _ _ (by simp) rfl)))
  have c1 : W.cell? ⟨w.heap.size, 1, none⟩ = some v1 := by rw [hW]; exact old_cell _ (old_cell _ (old_cell _ (new_cell2 _ _ _ _ _ _ (by simp) rfl)))
  have d0 : W.cell? ⟨w.heap.size + 1, 0, none⟩ = some (.bool s2) := by rw [hW]; exact old_cell _ (old_cell _ (new_cell2 _ _ _ _ _ _ (by simp) rfl))
  have d1 : W.cell? ⟨w.heap.size + 1, 1, none⟩ = some v2 := by rw [hW]; exact old_cell _ (old_cell _ (new_cell2 _ _ _ _ _ _ (by simp) rfl))
  have q0 : W.cell? ⟨w.heap.size + 2, 0, none⟩ = some (.bool false) := by rw [hW]; exact old_cell _ (new_cell2 _ _ _ _ _ _ (by simp) rfl)
  have q1 : W.cell? ⟨w.heap.size + 2, 1, none⟩ = some (.slice none 0 0) := by rw [hW]; exact old_cell _ (new_cell2 _ _ _ _ _ _ (by simp) rfl)
  have t0 : W.cell? ⟨w.heap.size + 3, 0, none⟩ = some (.bool false) := by rw [hW]; exact new_cell2 _ _ _ _ _ _ (by simp) rfl
  have t1 : W.cell? ⟨w.heap.size + 3, 1, none⟩ = some (.slice none 0 0) := by rw [hW]; exact new_cell2 _ _ _ _ _ _ (by simp) rfl
  have kl : ∀ {w0 : World} {a : Addr} (ob : Obj), a.block < w0.heap.size → w0.frozen? a = false → (w0.alloc ob).frozen? a = false := fun ob hb h => ((Kept.refl 0 0 _).alloc ob).loose0 hb h
  have f0 : W.frozen? ⟨w.heap.size + 2, 0, none⟩ = false := by rw [hW]; exact kl _ (by simp) (new_loose2 _ _ _ _ _ (by simp))
  have f1 : W.frozen? ⟨w.heap.size + 2, 1, none⟩ = false := by rw [hW]; exact kl _ (by simp) (new_loose2 _ _ _ _ _ (by simp))
  have g0 : W.frozen? ⟨w.heap.size + 3, 0, none⟩ = false := by rw [hW]; exact new_loose2 _ _ _ _ _ (by simp)
  have g1 : W.frozen? ⟨w.heap.size + 3, 1, none⟩ = false := by rw [hW]; exact new_loose2 _ _ _ _ _ (by simp)
  have sW : W.heap.size = w.heap.size + 4 := by rw [hW]; simp
  have hdv := div_spec W (r1.kept k0 (by omega)) (r2.kept k0 (by omega)) hx.1 hy (by omega) (by omega) h0
  have R2 := hide (r2.kept k0 (by omega))
  obtain ⟨a1, e1, rfl⟩ := Row.form' r1
  obtain ⟨a2, e2, rfl⟩ := Row.form' r2
  obtain ⟨LQ, hLQ⟩ : ∃ q, q = limbs (val xs / val ys).toNat := ⟨_, rfl⟩
  obtain ⟨LR, hLR⟩ : ∃ q, q = limbs (val xs % val ys).toNat := ⟨_, rfl⟩
  rw [← hLQ, ← hLR] at hdv
  rw [hW] at hdv
  have HLQ := hide hLQ
  have HLR := hide hLR
  have SW := hide sW
  clear r1 r2 kl hLQ hLR sW
  go_enter Try.func13, Try.ntmps13
  go_wp2_with fail
  rw [← hW] at hdv ⊢
  clear hW
  refine hdv.mono ?_
  rintro e w1 ⟨vq, vr, rfl, rq, rr, k1⟩
  obtain ⟨aq, cq, hvq⟩ := Row.form' rq
  subst hvq
  obtain ⟨ar, cr, hvr⟩ := Row.form' rr
  subst hvr
  have kA := ((Kept.refl 0 0 w1).alloc (.cells #[.slice aq LQ.length cq] 28)).alloc (.cells #[.slice ar LR.length cr] 28)
  have m0 : ((w1.alloc (.cells #[.slice aq LQ.length cq] 28)).alloc (.cells #[.slice ar LR.length cr] 28)).cell? ⟨w1.heap.size, 0, none⟩ = some (.slice aq LQ.length cq) := old_cell _ (new_cell2 _ _ _ _ _ _ (by simp) rfl)
  have n0 : ((w1.alloc (.cells #[.slice aq LQ.length cq] 28)).alloc (.cells #[.slice ar LR.length cr] 28)).cell? ⟨w1.heap.size + 1, 0, none⟩ = some (.slice ar LR.length cr) := new_cell2 _ _ _ _ _ _ (by simp) rfl
  have kk := k1.trans kA
  replace f0 := kk.loose0 (World.block_lt_of_cell? _ _ q0) f0
  replace f1 := kk.loose0 (World.block_lt_of_cell? _ _ q1) f1
  replace g0 := kk.loose0 (World.block_lt_of_cell? _ _ t0) g0
  replace g1 := kk.loose0 (World.block_lt_of_cell? _ _ t1) g1
  replace c0 := kk.cell0 c0
  replace c1 := kk.cell0 c1
  replace d0 := kk.cell0 d0
  replace d1 := kk.cell0 d1
  replace q0 := kk.cell0 q0
  replace q1 := kk.cell0 q1
  replace t0 := kk.cell0 t0
  replace t1 := kk.cell0 t1
  have rq2 := rq.kept kA (by omega)
  have rr2 := rr.kept kA (by omega)
  have R2' := hide ((unhide R2).kept kk (by omega))
  have hz1 := k1.size
  have sW := unhide SW
  have K1 := hide (k0.trans kk)
  have hZZ : ((w1.alloc (.cells #[.slice aq LQ.length cq] 28)).alloc (.cells #[.slice ar LR.length cr] 28)).heap.size = w1.heap.size + 2 := by simp
  have HZZ := hide hZZ
  obtain ⟨Y, hY⟩ : ∃ Y, Y = w1.heap.size := ⟨_, rfl⟩
  have hYw : w.heap.size + 4 ≤ Y := by omega
  rw [← hY] at m0 n0 HZZ
  have RQ := hide rq2
  have RR := hide rr2
  have HYL := hide (show W.heap.size ≤ Y by omega)
  clear hdv k0 k1 kA kk rq rr rq2 rr2 R2 hz1 sW hZZ SW
  have hr0 : 0 ≤ val xs % val ys := Int.emod_nonneg _ (by omega)
  have hr1 : val xs % val ys < val ys := Int.emod_lt_of_pos _ h0
  have hvx := val_nonneg hx.1
  have hq0 : 0 ≤ val xs / val ys := Int.ediv_nonneg hvx (by omega)
  have hqx : val xs / val ys ≤ val xs := Int.ediv_le_self _ hvx
  have hvq : val LQ = val xs / val ys := by rw [unhide HLQ, limbs_val]; omega
  have hvr : val LR = val xs % val ys := by rw [unhide HLR, limbs_val]; omega
  have hlx := val_lt hx.1
  have hly := val_lt hy.1
  have nq : LQ.length ≤ xs.length := by
    rw [unhide HLQ]
    refine (limbs_length_le _ _).2 ?_
    omega
  have nr : LR.length ≤ ys.length := by
    rw [unhide HLR]
    refine (limbs_length_le _ _).2 ?_
    omega
  have hnQ : Nrm LQ := by rw [unhide HLQ]; exact limbs_nrm _
  have hnR : Nrm LR := by rw [unhide HLR]; exact limbs_nrm _
  have HLIM := hide (show Lim LQ ∧ LQ.length ≤ 100000 ∧ limbs (val LQ).toNat = LQ ∧ Lim LR ∧ LR.length ≤ 1000000 ∧ limbs (val LR).toNat = LR from ⟨hnQ.1, by omega, (nrm_limbs hnQ).symm, hnR.1, by omega, (nrm_limbs hnR).symm⟩)
  have key : Hid (wdO s1 xs ys = (s1 && decide (LR.length ≠ 0))) := by
    show _ = _
    unfold wdO
    congr 1
    apply decide_eq_decide.2
    rw [← hvr]
    constructor
    · intro h e
      exact h (by rw [List.length_eq_zero_iff.1 e]; rfl)
    · intro h e
      have := unhide HLR
      rw [← hvr, e] at this
      exact h (by rw [this]; rfl)
  cases s1
  · have HWD : Hid (wdQ false xs ys = LQ ∧ wdR false xs ys = LR) := by
      unfold wdQ wdR
      rw [unhide key]
      simp only [Bool.false_and, Bool.true_and]
      rw [if_neg (by decide), if_neg (by decide)]
      exact ⟨(unhide HLQ).symm, (unhide HLR).symm⟩
    clear hr0 hr1 hvx hq0 hqx hvq hvr hlx hly nq nr hnQ hnR key
    cases s2
    · go_wp2_with fail
      rw [← hY]
      generalize ((w1.alloc (.cells #[.slice aq LQ.length cq] 28)).alloc (.cells #[.slice ar LR.length cr] 28)) = w2 at *
      have kd := (Kept.refl 0 0 w2).drew
      replace f0 := kd.loose0 (World.block_lt_of_cell? _ _ q0) f0
      replace f1 := kd.loose0 (World.block_lt_of_cell? _ _ q1) f1
      replace g0 := kd.loose0 (World.block_lt_of_cell? _ _ t0) g0
      replace g1 := kd.loose0 (World.block_lt_of_cell? _ _ t1) g1
      replace c0 := kd.cell0 c0
      replace c1 := kd.cell0 c1
      replace d0 := kd.cell0 d0
      replace d1 := kd.cell0 d1
      replace m0 := kd.cell0 m0
      replace n0 := kd.cell0 n0
      replace q0 := kd.cell0 q0
      replace q1 := kd.cell0 q1
      replace t0 := kd.cell0 t0
      replace t1 := kd.cell0 t1
      replace K1 := hide ((unhide K1).trans kd)
      replace RQ := hide ((unhide RQ).kept kd (by omega))
      replace RR := hide ((unhide RR).kept kd (by omega))
      replace R2' := hide ((unhide R2').kept kd (by omega))
      have hs2 : w2.drew.heap.size = Y + 2 := unhide HZZ
      clear kd hY
      refine wp_region_held_drew (S := (fun w' => w'.cell? ⟨w.heap.size, 0, none⟩ = some (.bool false) ∧ w'.cell? ⟨w.heap.size + 1, 0, none⟩ = some (.bool false) ∧ w'.cell? ⟨w.heap.size + 1, 1, none⟩ = some (.slice a2 ys.length e2) ∧ w'.cell? ⟨Y, 0, none⟩ = some (.slice aq LQ.length cq) ∧ w'.cell? ⟨Y + 1, 0, none⟩ = some (.slice ar LR.length cr))) (by kernel_rfl) ?_ (fun hHeld => ?_)
      · exact ⟨c0, d0, d1, m0, n0⟩
      refine wpAnyH_take (i := 0) (oi := _) (v := .pointer (some ⟨w.heap.size, 0, none⟩)) rfl (by kernel_rfl) (by kernel_rfl) (by kernel_rfl) (fun _ _ _ h => h) (Or.inl ⟨by rfl, ?_⟩) hHeld ?_
      · intro wq hSw
        try dsimp only at hSw
        go_simp
      try simp only [Act.put, List.getElem_toArray, List.getElem_cons_succ, List.getElem_cons_zero, List.setIfInBounds_toArray, List.set_cons_zero, List.set_cons_succ]
      refine wpAnyH_take (i := 1) (oi := _) (v := .bool false) rfl (by kernel_rfl) (by kernel_rfl) (by kernel_rfl) (fun _ _ _ h => h) (Or.inl ⟨by rfl, ?_⟩) hHeld ?_
      · intro wq hSw
        try dsimp only at hSw
        go_simp
      try simp only [Act.put, List.getElem_toArray, List.getElem_cons_succ, List.getElem_cons_zero, List.setIfInBounds_toArray, List.set_cons_zero, List.set_cons_succ]
      refine wpAnyH_take (i := 2) (oi := _) (v := .pointer (some ⟨w.heap.size + 1, 0, none⟩)) rfl (by kernel_rfl) (by kernel_rfl) (by kernel_rfl) (fun _ _ _ h => h) (Or.inl ⟨by rfl, ?_⟩) hHeld ?_
      · intro wq hSw
        try dsimp only at hSw
        go_simp
      try simp only [Act.put, List.getElem_toArray, List.getElem_cons_succ, List.getElem_cons_zero, List.setIfInBounds_toArray, List.set_cons_zero, List.set_cons_succ]
      refine wpAnyH_take (i := 3) (oi := _) (v := .bool false) rfl (by kernel_rfl) (by kernel_rfl) (by kernel_rfl) (fun _ _ _ h => h) (Or.inl ⟨by rfl, ?_⟩) hHeld ?_
      · intro wq hSw
        try dsimp only at hSw
        go_simp
      try simp only [Act.put, List.getElem_toArray, List.getElem_cons_succ, List.getElem_cons_zero, List.setIfInBounds_toArray, List.set_cons_zero, List.set_cons_succ]
      refine wpAnyH_take (i := 4) (oi := _) (v := .bool false) rfl (by kernel_rfl) (by kernel_rfl) (by kernel_rfl) (fun _ _ _ h => h) (Or.inl ⟨by rfl, ?_⟩) hHeld ?_
      · intro wq hSw
        try dsimp only at hSw
        go_simp
      try simp only [Act.put, List.getElem_toArray, List.getElem_cons_succ, List.getElem_cons_zero, List.setIfInBounds_toArray, List.set_cons_zero, List.set_cons_succ]
      refine wpAnyH_take (i := 5) (oi := _) (v := .agg #[.slice aq LQ.length cq]) rfl (by kernel_rfl) (by kernel_rfl) (by kernel_rfl) (fun _ _ _ h => h) (Or.inl ⟨by rfl, ?_⟩) hHeld ?_
      · intro wq hSw
        try dsimp only at hSw
        go_simp
      try simp only [Act.put, List.getElem_toArray, List.getElem_cons_succ, List.getElem_cons_zero, List.setIfInBounds_toArray, List.set_cons_zero, List.set_cons_succ]
      refine wpAnyH_take (i := 7) (oi := _) (v := .agg #[.slice ar LR.length cr]) rfl (by kernel_rfl) (by kernel_rfl) (by kernel_rfl) (fun _ _ _ h => h) (Or.inl ⟨by rfl, ?_⟩) hHeld ?_
      · intro wq hSw
        try dsimp only at hSw
        go_simp
      try simp only [Act.put, List.getElem_toArray, List.getElem_cons_succ, List.getElem_cons_zero, List.setIfInBounds_toArray, List.set_cons_zero, List.set_cons_succ]
      refine wpAnyH_ready (rs := [6]) (by kernel_rfl) (by simp) ?_
      refine AllReadyH.cons rfl (fun KK hK => ?_) AllReadyH.nil
      simp only [List.getElem_toArray, List.getElem_cons_succ, List.getElem_cons_zero]
      rw [if_pos (by rfl)]
      have hmq := make_spec false w2.drew (unhide RQ) (unhide HLIM).1 (by have := (unhide HLIM).2.1; omega)
      rw [(unhide HLIM).2.2.1] at hmq
      refine wps2 26 (.tmp 29) (.tmp 30) _ rfl in_l3makeD (.bool false) (.agg #[.slice aq LQ.length cq]) rfl rfl hmq ?_
      rintro e w3 ⟨v3, rfl, r3, k3⟩
      refine ⟨_, rfl, ?_⟩
      replace f0 := k3.loose0 (World.block_lt_of_cell? _ _ q0) f0
      replace f1 := k3.loose0 (World.block_lt_of_cell? _ _ q1) f1
      replace g0 := k3.loose0 (World.block_lt_of_cell? _ _ t0) g0
      replace g1 := k3.loose0 (World.block_lt_of_cell? _ _ t1) g1
      replace c0 := k3.cell0 c0
      replace c1 := k3.cell0 c1
      replace d0 := k3.cell0 d0
      replace d1 := k3.cell0 d1
      replace m0 := k3.cell0 m0
      replace n0 := k3.cell0 n0
      replace q0 := k3.cell0 q0
      replace q1 := k3.cell0 q1
      replace t0 := k3.cell0 t0
      replace t1 := k3.cell0 t1
      replace K1 := hide ((unhide K1).trans k3)
      replace RR := hide ((unhide RR).kept k3 (by omega))
      have R3 := hide r3
      have z3 : w2.drew.heap.size ≤ w3.heap.size := k3.size
      obtain ⟨a3, d3, hv3⟩ := Row.form' r3
      subst hv3
      clear hmq r3 k3
      clear hHeld
      refine hK.out _ _ ?_ (fun hHeld => ?_)
      · exact ⟨c0, d0, d1, m0, n0⟩
      clear hK KK
      try simp only [Act.put, List.getElem_toArray, List.getElem_cons_succ, List.getElem_cons_zero, List.setIfInBounds_toArray, List.set_cons_zero, List.set_cons_succ]
      refine wpAnyH_ready (rs := [8]) (by kernel_rfl) (by simp) ?_
      refine AllReadyH.cons rfl (fun KK hK => ?_) AllReadyH.nil
      simp only [List.getElem_toArray, List.getElem_cons_succ, List.getElem_cons_zero]
      rw [if_pos (by rfl)]
      have hmr := make_spec false w3 (unhide RR) (unhide HLIM).2.2.2.1 (unhide HLIM).2.2.2.2.1
      rw [(unhide HLIM).2.2.2.2.2, Bool.false_and] at hmr
      refine wps2 26 (.const (.bool false)) (.tmp 32) _ rfl in_l3makeD (.bool false) (.agg #[.slice ar LR.length cr]) rfl rfl hmr ?_
      rintro e w4 ⟨v4, rfl, r4, k4⟩
      refine ⟨_, rfl, ?_⟩
      replace f0 := k4.loose0 (World.block_lt_of_cell? _ _ q0) f0
      replace f1 := k4.loose0 (World.block_lt_of_cell? _ _ q1) f1
      replace g0 := k4.loose0 (World.block_lt_of_cell? _ _ t0) g0
      replace g1 := k4.loose0 (World.block_lt_of_cell? _ _ t1) g1
      replace c0 := k4.cell0 c0
      replace c1 := k4.cell0 c1
      replace d0 := k4.cell0 d0
      replace d1 := k4.cell0 d1
      replace m0 := k4.cell0 m0
      replace n0 := k4.cell0 n0
      replace q0 := k4.cell0 q0
      replace q1 := k4.cell0 q1
      replace t0 := k4.cell0 t0
      replace t1 := k4.cell0 t1
      replace K1 := hide ((unhide K1).trans k4)
      replace R3 := hide (((unhide R3).kept k4 (by omega)).wider (lo' := w2.drew.heap.size) (hi' := w4.heap.size) (Nat.le_refl _) k4.size)
      have R4 := hide (r4.wider (lo' := w2.drew.heap.size) (hi' := w4.heap.size) z3 (Nat.le_refl _))
      obtain ⟨a4, d4, hv4⟩ := Row.form' r4
      subst hv4
      have z4 : w3.heap.size ≤ w4.heap.size := k4.size
      clear hmr r4 k4 RR
      obtain ⟨SQ, hSQ⟩ : ∃ q, q = (false && decide (0 < LQ.length)) := ⟨_, rfl⟩
      rw [← hSQ]
      have HSQ := hide hSQ
      clear hSQ
      clear hHeld
      refine hK.out _ _ ?_ (fun hHeld => ?_)
      · exact ⟨c0, d0, d1, m0, n0⟩
      clear hK KK
      try simp only [Act.put, List.getElem_toArray, List.getElem_cons_succ, List.getElem_cons_zero, List.setIfInBounds_toArray, List.set_cons_zero, List.set_cons_succ]
      refine wpAnyH_ready (rs := [9]) (by kernel_rfl) (by simp) ?_
      refine AllReadyH.cons rfl (fun KK hK => ?_) AllReadyH.nil
      simp only [List.getElem_toArray, List.getElem_cons_succ, List.getElem_cons_zero]
      rw [if_pos (by rfl)]
      go_simp
      have ks1 : Kept (w.heap.size + 2) (w.heap.size + 4) w4 ((w4.setCell ⟨w.heap.size + 2, 0, none⟩ (.bool SQ)).setCell ⟨w.heap.size + 2, 1, none⟩ (.slice a3 LQ.length d3)) := ((Kept.refl _ _ _).setCell (p := ⟨w.heap.size + 2, 0, none⟩) (Nat.le_refl _) (by dsimp only; omega) _).setCell (p := ⟨w.heap.size + 2, 1, none⟩) (Nat.le_refl _) (by dsimp only; omega) _
      have Q0 := cell_off _ _ _ 1 (.slice a3 LQ.length d3) _ (cell_on _ _ _ (.bool SQ) _ q0) (show (0 : Nat) ≠ 1 by omega)
      have Q1 := cell_on _ _ _ (.slice a3 LQ.length d3) _ (cell_off _ _ _ 0 (.bool SQ) _ q1 (show (1 : Nat) ≠ 0 by omega))
      have T0 : ((w4.setCell ⟨w.heap.size + 2, 0, none⟩ (.bool SQ)).setCell ⟨w.heap.size + 2, 1, none⟩ (.slice a3 LQ.length d3)).cell? ⟨w.heap.size + 3, 0, none⟩ = some (.bool false) := (cell_aside _ (by dsimp only; omega) (cell_aside _ (by dsimp only; omega) t0))
      have T1 : ((w4.setCell ⟨w.heap.size + 2, 0, none⟩ (.bool SQ)).setCell ⟨w.heap.size + 2, 1, none⟩ (.slice a3 LQ.length d3)).cell? ⟨w.heap.size + 3, 1, none⟩ = some (.slice none 0 0) := (cell_aside _ (by dsimp only; omega) (cell_aside _ (by dsimp only; omega) t1))
      have G0' : ((w4.setCell ⟨w.heap.size + 2, 0, none⟩ (.bool SQ)).setCell ⟨w.heap.size + 2, 1, none⟩ (.slice a3 LQ.length d3)).frozen? ⟨w.heap.size + 3, 0, none⟩ = false := by rw [frozen_set, frozen_set]; exact g0
      have G1' : ((w4.setCell ⟨w.heap.size + 2, 0, none⟩ (.bool SQ)).setCell ⟨w.heap.size + 2, 1, none⟩ (.slice a3 LQ.length d3)).frozen? ⟨w.heap.size + 3, 1, none⟩ = false := by rw [frozen_set, frozen_set]; exact g1
      have c0' : ((w4.setCell ⟨w.heap.size + 2, 0, none⟩ (.bool SQ)).setCell ⟨w.heap.size + 2, 1, none⟩ (.slice a3 LQ.length d3)).cell? ⟨w.heap.size, 0, none⟩ = some (.bool false) := (cell_aside _ (by dsimp only; omega) (cell_aside _ (by dsimp only; omega) c0))
      have d0' : ((w4.setCell ⟨w.heap.size + 2, 0, none⟩ (.bool SQ)).setCell ⟨w.heap.size + 2, 1, none⟩ (.slice a3 LQ.length d3)).cell? ⟨w.heap.size + 1, 0, none⟩ = some (.bool false) := (cell_aside _ (by dsimp only; omega) (cell_aside _ (by dsimp only; omega) d0))
      have d1' : ((w4.setCell ⟨w.heap.size + 2, 0, none⟩ (.bool SQ)).setCell ⟨w.heap.size + 2, 1, none⟩ (.slice a3 LQ.length d3)).cell? ⟨w.heap.size + 1, 1, none⟩ = some (.slice a2 ys.length e2) := (cell_aside _ (by dsimp only; omega) (cell_aside _ (by dsimp only; omega) d1))
      have m0' : ((w4.setCell ⟨w.heap.size + 2, 0, none⟩ (.bool SQ)).setCell ⟨w.heap.size + 2, 1, none⟩ (.slice a3 LQ.length d3)).cell? ⟨Y, 0, none⟩ = some (.slice aq LQ.length cq) := (cell_aside _ (by dsimp only; omega) (cell_aside _ (by dsimp only; omega) m0))
      have n0' : ((w4.setCell ⟨w.heap.size + 2, 0, none⟩ (.bool SQ)).setCell ⟨w.heap.size + 2, 1, none⟩ (.slice a3 LQ.length d3)).cell? ⟨Y + 1, 0, none⟩ = some (.slice ar LR.length cr) := (cell_aside _ (by dsimp only; omega) (cell_aside _ (by dsimp only; omega) n0))
      clear q0 q1 t0 t1 g0 g1 f0 f1 c1
      clear hHeld
      refine hK.out _ _ ?_ (fun hHeld => ?_)
      · exact ⟨c0', d0', d1', m0', n0'⟩
      clear hK KK
      try simp only [Act.put, List.getElem_toArray, List.getElem_cons_succ, List.getElem_cons_zero, List.setIfInBounds_toArray, List.set_cons_zero, List.set_cons_succ]
      refine wpAnyH_ready (rs := [10]) (by kernel_rfl) (by simp) ?_
      refine AllReadyH.cons rfl (fun KK hK => ?_) AllReadyH.nil
      simp only [List.getElem_toArray, List.getElem_cons_succ, List.getElem_cons_zero]
      rw [if_pos (by rfl)]
      go_simp
      clear hHeld
      refine hK.out _ _ ?_ (fun hHeld => ?_)
      · exact ⟨(cell_aside _ (by dsimp only; omega) (cell_aside _ (by dsimp only; omega) c0')), (cell_aside _ (by dsimp only; omega) (cell_aside _ (by dsimp only; omega) d0')), (cell_aside _ (by dsimp only; omega) (cell_aside _ (by dsimp only; omega) d1')), (cell_aside _ (by dsimp only; omega) (cell_aside _ (by dsimp only; omega) m0')), (cell_aside _ (by dsimp only; omega) (cell_aside _ (by dsimp only; omega) n0'))⟩
      clear hK KK
      try simp only [Act.put, List.getElem_toArray, List.getElem_cons_succ, List.getElem_cons_zero, List.setIfInBounds_toArray, List.set_cons_zero, List.set_cons_succ]
      refine wpAnyH_done (by kernel_rfl) ?_ _
      clear hHeld
      have ks2 : Kept (w.heap.size + 2) (w.heap.size + 4) w4 ((((w4.setCell ⟨w.heap.size + 2, 0, none⟩ (.bool SQ)).setCell ⟨w.heap.size + 2, 1, none⟩ (.slice a3 LQ.length d3)).setCell ⟨w.heap.size + 3, 0, none⟩ (.bool false)).setCell ⟨w.heap.size + 3, 1, none⟩ (.slice a4 LR.length d4)) := (ks1.setCell (p := ⟨w.heap.size + 3, 0, none⟩) (by dsimp only; omega) (by dsimp only; omega) _).setCell (p := ⟨w.heap.size + 3, 1, none⟩) (by dsimp only; omega) (by dsimp only; omega) _
      have A0 : ((((w4.setCell ⟨w.heap.size + 2, 0, none⟩ (.bool SQ)).setCell ⟨w.heap.size + 2, 1, none⟩ (.slice a3 LQ.length d3)).setCell ⟨w.heap.size + 3, 0, none⟩ (.bool false)).setCell ⟨w.heap.size + 3, 1, none⟩ (.slice a4 LR.length d4)).cell? ⟨w.heap.size + 2, 0, none⟩ = some (.bool SQ) := (cell_aside _ (by dsimp only; omega) (cell_aside _ (by dsimp only; omega) Q0))
      have A1 : ((((w4.setCell ⟨w.heap.size + 2, 0, none⟩ (.bool SQ)).setCell ⟨w.heap.size + 2, 1, none⟩ (.slice a3 LQ.length d3)).setCell ⟨w.heap.size + 3, 0, none⟩ (.bool false)).setCell ⟨w.heap.size + 3, 1, none⟩ (.slice a4 LR.length d4)).cell? ⟨w.heap.size + 2, 1, none⟩ = some (.slice a3 LQ.length d3) := (cell_aside _ (by dsimp only; omega) (cell_aside _ (by dsimp only; omega) Q1))
      have B0 := cell_off _ _ _ 1 (.slice a4 LR.length d4) _ (cell_on _ _ _ (.bool false) _ T0) (show (0 : Nat) ≠ 1 by omega)
      have B1 := cell_on _ _ _ (.slice a4 LR.length d4) _ (cell_off _ _ _ 0 (.bool false) _ T1 (show (1 : Nat) ≠ 0 by omega))
      have hsz : ((((w4.setCell ⟨w.heap.size + 2, 0, none⟩ (.bool SQ)).setCell ⟨w.heap.size + 2, 1, none⟩ (.slice a3 LQ.length d3)).setCell ⟨w.heap.size + 3, 0, none⟩ (.bool false)).setCell ⟨w.heap.size + 3, 1, none⟩ (.slice a4 LR.length d4)).heap.size = w4.heap.size := by rw [size_set, size_set, size_set, size_set]
      have E3 := hide (((unhide R3).kept ks2 (by omega)).wider (lo' := w.heap.size) (hi' := ((((w4.setCell ⟨w.heap.size + 2, 0, none⟩ (.bool SQ)).setCell ⟨w.heap.size + 2, 1, none⟩ (.slice a3 LQ.length d3)).setCell ⟨w.heap.size + 3, 0, none⟩ (.bool false)).setCell ⟨w.heap.size + 3, 1, none⟩ (.slice a4 LR.length d4)).heap.size) (by omega) (by omega))
      have E4 := hide (((unhide R4).kept ks2 (by omega)).wider (lo' := w.heap.size) (hi' := ((((w4.setCell ⟨w.heap.size + 2, 0, none⟩ (.bool SQ)).setCell ⟨w.heap.size + 2, 1, none⟩ (.slice a3 LQ.length d3)).setCell ⟨w.heap.size + 3, 0, none⟩ (.bool false)).setCell ⟨w.heap.size + 3, 1, none⟩ (.slice a4 LR.length d4)).heap.size) (by omega) (by omega))
      have K7 := hide ((unhide K1).wide ks2 (by omega))
      clear ks1 ks2 hsz R3 R4 K1 c0 d0 d1 m0 n0 c0' d0' d1' m0' n0' Q0 Q1 T0 T1 G0' G1'
      go_wp2_with fail
      exact bodyPost_ret (v := .tuple #[.agg #[.bool SQ, .slice a3 LQ.length d3], .agg #[.bool false, .slice a4 LR.length d4]]) (by simp [results, Try.results13, go_sem, A0, A1, B0, B1]) rfl ⟨_, _, by rw [(unhide HWD).1, unhide HSQ]; rfl, by rw [(unhide HWD).1]; exact unhide E3, by rw [(unhide HWD).2]; exact unhide E4, unhide K7⟩
    · go_wp2_with fail
      rw [← hY]
      generalize ((w1.alloc (.cells #[.slice aq LQ.length cq] 28)).alloc (.cells #[.slice ar LR.length cr] 28)) = w2 at *
      have kd := (Kept.refl 0 0 w2).drew
      replace f0 := kd.loose0 (World.block_lt_of_cell? _ _ q0) f0
      replace f1 := kd.loose0 (World.block_lt_of_cell? _ _ q1) f1
      replace g0 := kd.loose0 (World.block_lt_of_cell? _ _ t0) g0
      replace g1 := kd.loose0 (World.block_lt_of_cell? _ _ t1) g1
      replace c0 := kd.cell0 c0
      replace c1 := kd.cell0 c1
      replace d0 := kd.cell0 d0
      replace d1 := kd.cell0 d1
      replace m0 := kd.cell0 m0
      replace n0 := kd.cell0 n0
      replace q0 := kd.cell0 q0
      replace q1 := kd.cell0 q1
      replace t0 := kd.cell0 t0
      replace t1 := kd.cell0 t1
      replace K1 := hide ((unhide K1).trans kd)
      replace RQ := hide ((unhide RQ).kept kd (by omega))
      replace RR := hide ((unhide RR).kept kd (by omega))
      replace R2' := hide ((unhide R2').kept kd (by omega))
      have hs2 : w2.drew.heap.size = Y + 2 := unhide HZZ
      clear kd hY
      refine wp_region_held_drew (S := (fun w' => w'.cell? ⟨w.heap.size, 0, none⟩ = some (.bool false) ∧ w'.cell? ⟨w.heap.size + 1, 0, none⟩ = some (.bool true) ∧ w'.cell? ⟨w.heap.size + 1, 1, none⟩ = some (.slice a2 ys.length e2) ∧ w'.cell? ⟨Y, 0, none⟩ = some (.slice aq LQ.length cq) ∧ w'.cell? ⟨Y + 1, 0, none⟩ = some (.slice ar LR.length cr))) (by kernel_rfl) ?_ (fun hHeld => ?_)
      · exact ⟨c0, d0, d1, m0, n0⟩
      refine wpAnyH_take (i := 0) (oi := _) (v := .pointer (some ⟨w.heap.size, 0, none⟩)) rfl (by kernel_rfl) (by kernel_rfl) (by kernel_rfl) (fun _ _ _ h => h) (Or.inl ⟨by rfl, ?_⟩) hHeld ?_
      · intro wq hSw
        try dsimp only at hSw
        go_simp
      try simp only [Act.put, List.getElem_toArray, List.getElem_cons_succ, List.getElem_cons_zero, List.setIfInBounds_toArray, List.set_cons_zero, List.set_cons_succ]
      refine wpAnyH_take (i := 1) (oi := _) (v := .bool false) rfl (by kernel_rfl) (by kernel_rfl) (by kernel_rfl) (fun _ _ _ h => h) (Or.inl ⟨by rfl, ?_⟩) hHeld ?_
      · intro wq hSw
        try dsimp only at hSw
        go_simp
      try simp only [Act.put, List.getElem_toArray, List.getElem_cons_succ, List.getElem_cons_zero, List.setIfInBounds_toArray, List.set_cons_zero, List.set_cons_succ]
      refine wpAnyH_take (i := 2) (oi := _) (v := .pointer (some ⟨w.heap.size + 1, 0, none⟩)) rfl (by kernel_rfl) (by kernel_rfl) (by kernel_rfl) (fun _ _ _ h => h) (Or.inl ⟨by rfl, ?_⟩) hHeld ?_
      · intro wq hSw
        try dsimp only at hSw
        go_simp
      try simp only [Act.put, List.getElem_toArray, List.getElem_cons_succ, List.getElem_cons_zero, List.setIfInBounds_toArray, List.set_cons_zero, List.set_cons_succ]
      refine wpAnyH_take (i := 3) (oi := _) (v := .bool true) rfl (by kernel_rfl) (by kernel_rfl) (by kernel_rfl) (fun _ _ _ h => h) (Or.inl ⟨by rfl, ?_⟩) hHeld ?_
      · intro wq hSw
        try dsimp only at hSw
        go_simp
      try simp only [Act.put, List.getElem_toArray, List.getElem_cons_succ, List.getElem_cons_zero, List.setIfInBounds_toArray, List.set_cons_zero, List.set_cons_succ]
      refine wpAnyH_take (i := 4) (oi := _) (v := .bool true) rfl (by kernel_rfl) (by kernel_rfl) (by kernel_rfl) (fun _ _ _ h => h) (Or.inl ⟨by rfl, ?_⟩) hHeld ?_
      · intro wq hSw
        try dsimp only at hSw
        go_simp
      try simp only [Act.put, List.getElem_toArray, List.getElem_cons_succ, List.getElem_cons_zero, List.setIfInBounds_toArray, List.set_cons_zero, List.set_cons_succ]
      refine wpAnyH_take (i := 5) (oi := _) (v := .agg #[.slice aq LQ.length cq]) rfl (by kernel_rfl) (by kernel_rfl) (by kernel_rfl) (fun _ _ _ h => h) (Or.inl ⟨by rfl, ?_⟩) hHeld ?_
      · intro wq hSw
        try dsimp only at hSw
        go_simp
      try simp only [Act.put, List.getElem_toArray, List.getElem_cons_succ, List.getElem_cons_zero, List.setIfInBounds_toArray, List.set_cons_zero, List.set_cons_succ]
      refine wpAnyH_take (i := 7) (oi := _) (v := .agg #[.slice ar LR.length cr]) rfl (by kernel_rfl) (by kernel_rfl) (by kernel_rfl) (fun _ _ _ h => h) (Or.inl ⟨by rfl, ?_⟩) hHeld ?_
      · intro wq hSw
        try dsimp only at hSw
        go_simp
      try simp only [Act.put, List.getElem_toArray, List.getElem_cons_succ, List.getElem_cons_zero, List.setIfInBounds_toArray, List.set_cons_zero, List.set_cons_succ]
      refine wpAnyH_ready (rs := [6]) (by kernel_rfl) (by simp) ?_
      refine AllReadyH.cons rfl (fun KK hK => ?_) AllReadyH.nil
      simp only [List.getElem_toArray, List.getElem_cons_succ, List.getElem_cons_zero]
      rw [if_pos (by rfl)]
      have hmq := make_spec true w2.drew (unhide RQ) (unhide HLIM).1 (by have := (unhide HLIM).2.1; omega)
      rw [(unhide HLIM).2.2.1] at hmq
      refine wps2 26 (.tmp 29) (.tmp 30) _ rfl in_l3makeD (.bool true) (.agg #[.slice aq LQ.length cq]) rfl rfl hmq ?_
      rintro e w3 ⟨v3, rfl, r3, k3⟩
      refine ⟨_, rfl, ?_⟩
      replace f0 := k3.loose0 (World.block_lt_of_cell? _ _ q0) f0
      replace f1 := k3.loose0 (World.block_lt_of_cell? _ _ q1) f1
      replace g0 := k3.loose0 (World.block_lt_of_cell? _ _ t0) g0
      replace g1 := k3.loose0 (World.block_lt_of_cell? _ _ t1) g1
      replace c0 := k3.cell0 c0
      replace c1 := k3.cell0 c1
      replace d0 := k3.cell0 d0
      replace d1 := k3.cell0 d1
      replace m0 := k3.cell0 m0
      replace n0 := k3.cell0 n0
      replace q0 := k3.cell0 q0
      replace q1 := k3.cell0 q1
      replace t0 := k3.cell0 t0
      replace t1 := k3.cell0 t1
      replace K1 := hide ((unhide K1).trans k3)
      replace RR := hide ((unhide RR).kept k3 (by omega))
      have R3 := hide r3
      have z3 : w2.drew.heap.size ≤ w3.heap.size := k3.size
      obtain ⟨a3, d3, hv3⟩ := Row.form' r3
      subst hv3
      clear hmq r3 k3
      clear hHeld
      refine hK.out _ _ ?_ (fun hHeld => ?_)
      · exact ⟨c0, d0, d1, m0, n0⟩
      clear hK KK
      try simp only [Act.put, List.getElem_toArray, List.getElem_cons_succ, List.getElem_cons_zero, List.setIfInBounds_toArray, List.set_cons_zero, List.set_cons_succ]
      refine wpAnyH_ready (rs := [8]) (by kernel_rfl) (by simp) ?_
      refine AllReadyH.cons rfl (fun KK hK => ?_) AllReadyH.nil
      simp only [List.getElem_toArray, List.getElem_cons_succ, List.getElem_cons_zero]
      rw [if_pos (by rfl)]
      have hmr := make_spec false w3 (unhide RR) (unhide HLIM).2.2.2.1 (unhide HLIM).2.2.2.2.1
      rw [(unhide HLIM).2.2.2.2.2, Bool.false_and] at hmr
      refine wps2 26 (.const (.bool false)) (.tmp 32) _ rfl in_l3makeD (.bool false) (.agg #[.slice ar LR.length cr]) rfl rfl hmr ?_
      rintro e w4 ⟨v4, rfl, r4, k4⟩
      refine ⟨_, rfl, ?_⟩
      replace f0 := k4.loose0 (World.block_lt_of_cell? _ _ q0) f0
      replace f1 := k4.loose0 (World.block_lt_of_cell? _ _ q1) f1
      replace g0 := k4.loose0 (World.block_lt_of_cell? _ _ t0) g0
      replace g1 := k4.loose0 (World.block_lt_of_cell? _ _ t1) g1
      replace c0 := k4.cell0 c0
      replace c1 := k4.cell0 c1
      replace d0 := k4.cell0 d0
      replace d1 := k4.cell0 d1
      replace m0 := k4.cell0 m0
      replace n0 := k4.cell0 n0
      replace q0 := k4.cell0 q0
      replace q1 := k4.cell0 q1
      replace t0 := k4.cell0 t0
      replace t1 := k4.cell0 t1
      replace K1 := hide ((unhide K1).trans k4)
      replace R3 := hide (((unhide R3).kept k4 (by omega)).wider (lo' := w2.drew.heap.size) (hi' := w4.heap.size) (Nat.le_refl _) k4.size)
      have R4 := hide (r4.wider (lo' := w2.drew.heap.size) (hi' := w4.heap.size) z3 (Nat.le_refl _))
      obtain ⟨a4, d4, hv4⟩ := Row.form' r4
      subst hv4
      have z4 : w3.heap.size ≤ w4.heap.size := k4.size
      clear hmr r4 k4 RR
      obtain ⟨SQ, hSQ⟩ : ∃ q, q = (true && decide (0 < LQ.length)) := ⟨_, rfl⟩
      rw [← hSQ]
      have HSQ := hide hSQ
      clear hSQ
      clear hHeld
      refine hK.out _ _ ?_ (fun hHeld => ?_)
      · exact ⟨c0, d0, d1, m0, n0⟩
      clear hK KK
      try simp only [Act.put, List.getElem_toArray, List.getElem_cons_succ, List.getElem_cons_zero, List.setIfInBounds_toArray, List.set_cons_zero, List.set_cons_succ]
      refine wpAnyH_ready (rs := [9]) (by kernel_rfl) (by simp) ?_
      refine AllReadyH.cons rfl (fun KK hK => ?_) AllReadyH.nil
      simp only [List.getElem_toArray, List.getElem_cons_succ, List.getElem_cons_zero]
      rw [if_pos (by rfl)]
      go_simp
      have ks1 : Kept (w.heap.size + 2) (w.heap.size + 4) w4 ((w4.setCell ⟨w.heap.size + 2, 0, none⟩ (.bool SQ)).setCell ⟨w.heap.size + 2, 1, none⟩ (.slice a3 LQ.length d3)) := ((Kept.refl _ _ _).setCell (p := ⟨w.heap.size + 2, 0, none⟩) (Nat.le_refl _) (by dsimp only; omega) _).setCell (p := ⟨w.heap.size + 2, 1, none⟩) (Nat.le_refl _) (by dsimp only; omega) _
      have Q0 := cell_off _ _ _ 1 (.slice a3 LQ.length d3) _ (cell_on _ _ _ (.bool SQ) _ q0) (show (0 : Nat) ≠ 1 by omega)
      have Q1 := cell_on _ _ _ (.slice a3 LQ.length d3) _ (cell_off _ _ _ 0 (.bool SQ) _ q1 (show (1 : Nat) ≠ 0 by omega))
      have T0 : ((w4.setCell ⟨w.heap.size + 2, 0, none⟩ (.bool SQ)).setCell ⟨w.heap.size + 2, 1, none⟩ (.slice a3 LQ.length d3)).cell? ⟨w.heap.size + 3, 0, none⟩ = some (.bool false) := (cell_aside _ (by dsimp only; omega) (cell_aside _ (by dsimp only; omega) t0))
      have T1 : ((w4.setCell ⟨w.heap.size + 2, 0, none⟩ (.bool SQ)).setCell ⟨w.heap.size + 2, 1, none⟩ (.slice a3 LQ.length d3)).cell? ⟨w.heap.size + 3, 1, none⟩ = some (.slice none 0 0) := (cell_aside _ (by dsimp only; omega) (cell_aside _ (by dsimp only; omega) t1))
      have G0' : ((w4.setCell ⟨w.heap.size + 2, 0, none⟩ (.bool SQ)).setCell ⟨w.heap.size + 2, 1, none⟩ (.slice a3 LQ.length d3)).frozen? ⟨w.heap.size + 3, 0, none⟩ = false := by rw [frozen_set, frozen_set]; exact g0
      have G1' : ((w4.setCell ⟨w.heap.size + 2, 0, none⟩ (.bool SQ)).setCell ⟨w.heap.size + 2, 1, none⟩ (.slice a3 LQ.length d3)).frozen? ⟨w.heap.size + 3, 1, none⟩ = false := by rw [frozen_set, frozen_set]; exact g1
      have c0' : ((w4.setCell ⟨w.heap.size + 2, 0, none⟩ (.bool SQ)).setCell ⟨w.heap.size + 2, 1, none⟩ (.slice a3 LQ.length d3)).cell? ⟨w.heap.size, 0, none⟩ = some (.bool false) := (cell_aside _ (by dsimp only; omega) (cell_aside _ (by dsimp only; omega) c0))
      have d0' : ((w4.setCell ⟨w.heap.size + 2, 0, none⟩ (.bool SQ)).setCell ⟨w.heap.size + 2, 1, none⟩ (.slice a3 LQ.length d3)).cell? ⟨w.heap.size + 1, 0, none⟩ = some (.bool true) := (cell_aside _ (by dsimp only; omega) (cell_aside _ (by dsimp only; omega) d0))
      have d1' : ((w4.setCell ⟨w.heap.size + 2, 0, none⟩ (.bool SQ)).setCell ⟨w.heap.size + 2, 1, none⟩ (.slice a3 LQ.length d3)).cell? ⟨w.heap.size + 1, 1, none⟩ = some (.slice a2 ys.length e2) := (cell_aside _ (by dsimp only; omega) (cell_aside _ (by dsimp only; omega) d1))
      have m0' : ((w4.setCell ⟨w.heap.size + 2, 0, none⟩ (.bool SQ)).setCell ⟨w.heap.size + 2, 1, none⟩ (.slice a3 LQ.length d3)).cell? ⟨Y, 0, none⟩ = some (.slice aq LQ.length cq) := (cell_aside _ (by dsimp only; omega) (cell_aside _ (by dsimp only; omega) m0))
      have n0' : ((w4.setCell ⟨w.heap.size + 2, 0, none⟩ (.bool SQ)).setCell ⟨w.heap.size + 2, 1, none⟩ (.slice a3 LQ.length d3)).cell? ⟨Y + 1, 0, none⟩ = some (.slice ar LR.length cr) := (cell_aside _ (by dsimp only; omega) (cell_aside _ (by dsimp only; omega) n0))
      clear q0 q1 t0 t1 g0 g1 f0 f1 c1
      clear hHeld
      refine hK.out _ _ ?_ (fun hHeld => ?_)
      · exact ⟨c0', d0', d1', m0', n0'⟩
      clear hK KK
      try simp only [Act.put, List.getElem_toArray, List.getElem_cons_succ, List.getElem_cons_zero, List.setIfInBounds_toArray, List.set_cons_zero, List.set_cons_succ]
      refine wpAnyH_ready (rs := [10]) (by kernel_rfl) (by simp) ?_
      refine AllReadyH.cons rfl (fun KK hK => ?_) AllReadyH.nil
      simp only [List.getElem_toArray, List.getElem_cons_succ, List.getElem_cons_zero]
      rw [if_pos (by rfl)]
      go_simp
      clear hHeld
      refine hK.out _ _ ?_ (fun hHeld => ?_)
      · exact ⟨(cell_aside _ (by dsimp only; omega) (cell_aside _ (by dsimp only; omega) c0')), (cell_aside _ (by dsimp only; omega) (cell_aside _ (by dsimp only; omega) d0')), (cell_aside _ (by dsimp only; omega) (cell_aside _ (by dsimp only; omega) d1')), (cell_aside _ (by dsimp only; omega) (cell_aside _ (by dsimp only; omega) m0')), (cell_aside _ (by dsimp only; omega) (cell_aside _ (by dsimp only; omega) n0'))⟩
      clear hK KK
      try simp only [Act.put, List.getElem_toArray, List.getElem_cons_succ, List.getElem_cons_zero, List.setIfInBounds_toArray, List.set_cons_zero, List.set_cons_succ]
      refine wpAnyH_done (by kernel_rfl) ?_ _
      clear hHeld
      have ks2 : Kept (w.heap.size + 2) (w.heap.size + 4) w4 ((((w4.setCell ⟨w.heap.size + 2, 0, none⟩ (.bool SQ)).setCell ⟨w.heap.size + 2, 1, none⟩ (.slice a3 LQ.length d3)).setCell ⟨w.heap.size + 3, 0, none⟩ (.bool false)).setCell ⟨w.heap.size + 3, 1, none⟩ (.slice a4 LR.length d4)) := (ks1.setCell (p := ⟨w.heap.size + 3, 0, none⟩) (by dsimp only; omega) (by dsimp only; omega) _).setCell (p := ⟨w.heap.size + 3, 1, none⟩) (by dsimp only; omega) (by dsimp only; omega) _
      have A0 : ((((w4.setCell ⟨w.heap.size + 2, 0, none⟩ (.bool SQ)).setCell ⟨w.heap.size + 2, 1, none⟩ (.slice a3 LQ.length d3)).setCell ⟨w.heap.size + 3, 0, none⟩ (.bool false)).setCell ⟨w.heap.size + 3, 1, none⟩ (.slice a4 LR.length d4)).cell? ⟨w.heap.size + 2, 0, none⟩ = some (.bool SQ) := (cell_aside _ (by dsimp only; omega) (cell_aside _ (by dsimp only; omega) Q0))
      have A1 : ((((w4.setCell ⟨w.heap.size + 2, 0, none⟩ (.bool SQ)).setCell ⟨w.heap.size + 2, 1, none⟩ (.slice a3 LQ.length d3)).setCell ⟨w.heap.size + 3, 0, none⟩ (.bool false)).setCell ⟨w.heap.size + 3, 1, none⟩ (.slice a4 LR.length d4)).cell? ⟨w.heap.size + 2, 1, none⟩ = some (.slice a3 LQ.length d3) := (cell_aside _ (by dsimp only; omega) (cell_aside _ (by dsimp only; omega) Q1))
      have B0 := cell_off _ _ _ 1 (.slice a4 LR.length d4) _ (cell_on _ _ _ (.bool false) _ T0) (show (0 : Nat) ≠ 1 by omega)
      have B1 := cell_on _ _ _ (.slice a4 LR.length d4) _ (cell_off _ _ _ 0 (.bool false) _ T1 (show (1 : Nat) ≠ 0 by omega))
      have hsz : ((((w4.setCell ⟨w.heap.size + 2, 0, none⟩ (.bool SQ)).setCell ⟨w.heap.size + 2, 1, none⟩ (.slice a3 LQ.length d3)).setCell ⟨w.heap.size + 3, 0, none⟩ (.bool false)).setCell ⟨w.heap.size + 3, 1, none⟩ (.slice a4 LR.length d4)).heap.size = w4.heap.size := by rw [size_set, size_set, size_set, size_set]
      have E3 := hide (((unhide R3).kept ks2 (by omega)).wider (lo' := w.heap.size) (hi' := ((((w4.setCell ⟨w.heap.size + 2, 0, none⟩ (.bool SQ)).setCell ⟨w.heap.size + 2, 1, none⟩ (.slice a3 LQ.length d3)).setCell ⟨w.heap.size + 3, 0, none⟩ (.bool false)).setCell ⟨w.heap.size + 3, 1, none⟩ (.slice a4 LR.length d4)).heap.size) (by omega) (by omega))
      have E4 := hide (((unhide R4).kept ks2 (by omega)).wider (lo' := w.heap.size) (hi' := ((((w4.setCell ⟨w.heap.size + 2, 0, none⟩ (.bool SQ)).setCell ⟨w.heap.size + 2, 1, none⟩ (.slice a3 LQ.length d3)).setCell ⟨w.heap.size + 3, 0, none⟩ (.bool false)).setCell ⟨w.heap.size + 3, 1, none⟩ (.slice a4 LR.length d4)).heap.size) (by omega) (by omega))
      have K7 := hide ((unhide K1).wide ks2 (by omega))
      clear ks1 ks2 hsz R3 R4 K1 c0 d0 d1 m0 n0 c0' d0' d1' m0' n0' Q0 Q1 T0 T1 G0' G1'
      go_wp2_with fail
      exact bodyPost_ret (v := .tuple #[.agg #[.bool SQ, .slice a3 LQ.length d3], .agg #[.bool false, .slice a4 LR.length d4]]) (by simp [results, Try.results13, go_sem, A0, A1, B0, B1]) rfl ⟨_, _, by rw [(unhide HWD).1, unhide HSQ]; rfl, by rw [(unhide HWD).1]; exact unhide E3, by rw [(unhide HWD).2]; exact unhide E4, unhide K7⟩
  · by_cases hz : LR.length = 0
    · have HWD : Hid (wdQ true xs ys = LQ ∧ wdR true xs ys = LR) := by
        unfold wdQ wdR
        rw [unhide key]
        simp only [Bool.false_and, Bool.true_and]
        rw [decide_eq_false (by omega), if_neg (by decide), if_neg (by decide)]
        exact ⟨(unhide HLQ).symm, (unhide HLR).symm⟩
      clear hr0 hr1 hvx hq0 hqx hvq hvr hlx hly nq nr hnQ hnR key
      cases s2
      · simp only [hz] at c0 c1 d0 d1 m0 n0 q0 q1 t0 t1 f0 f1 g0 g1 K1 RQ RR R2' HZZ
        go_wp2_with fail
        clear hz
        rw [← hY]
        generalize ((w1.alloc (.cells #[.slice aq LQ.length cq] 28)).alloc (.cells #[.slice ar 0 cr] 28)) = w2 at *
        have kd := (Kept.refl 0 0 w2).drew
        replace f0 := kd.loose0 (World.block_lt_of_cell? _ _ q0) f0
        replace f1 := kd.loose0 (World.block_lt_of_cell? _ _ q1) f1
        replace g0 := kd.loose0 (World.block_lt_of_cell? _ _ t0) g0
        replace g1 := kd.loose0 (World.block_lt_of_cell? _ _ t1) g1
        replace c0 := kd.cell0 c0
        replace c1 := kd.cell0 c1
        replace d0 := kd.cell0 d0
        replace d1 := kd.cell0 d1
        replace m0 := kd.cell0 m0
        replace n0 := kd.cell0 n0
        replace q0 := kd.cell0 q0
        replace q1 := kd.cell0 q1
        replace t0 := kd.cell0 t0
        replace t1 := kd.cell0 t1
        replace K1 := hide ((unhide K1).trans kd)
        replace RQ := hide ((unhide RQ).kept kd (by omega))
        replace RR := hide ((unhide RR).kept kd (by omega))
        replace R2' := hide ((unhide R2').kept kd (by omega))
        have hs2 : w2.drew.heap.size = Y + 2 := unhide HZZ
        clear kd hY
        refine wp_region_held_drew (S := (fun w' => w'.cell? ⟨w.heap.size, 0, none⟩ = some (.bool true) ∧ w'.cell? ⟨w.heap.size + 1, 0, none⟩ = some (.bool false) ∧ w'.cell? ⟨w.heap.size + 1, 1, none⟩ = some (.slice a2 ys.length e2) ∧ w'.cell? ⟨Y, 0, none⟩ = some (.slice aq LQ.length cq) ∧ w'.cell? ⟨Y + 1, 0, none⟩ = some (.slice ar 0 cr))) (by kernel_rfl) ?_ (fun hHeld => ?_)
        · exact ⟨c0, d0, d1, m0, n0⟩
        refine wpAnyH_take (i := 0) (oi := _) (v := .pointer (some ⟨w.heap.size, 0, none⟩)) rfl (by kernel_rfl) (by kernel_rfl) (by kernel_rfl) (fun _ _ _ h => h) (Or.inl ⟨by rfl, ?_⟩) hHeld ?_
        · intro wq hSw
          try dsimp only at hSw
          go_simp
        try simp only [Act.put, List.getElem_toArray, List.getElem_cons_succ, List.getElem_cons_zero, List.setIfInBounds_toArray, List.set_cons_zero, List.set_cons_succ]
        refine wpAnyH_take (i := 1) (oi := _) (v := .bool true) rfl (by kernel_rfl) (by kernel_rfl) (by kernel_rfl) (fun _ _ _ h => h) (Or.inl ⟨by rfl, ?_⟩) hHeld ?_
        · intro wq hSw
          try dsimp only at hSw
          go_simp
        try simp only [Act.put, List.getElem_toArray, List.getElem_cons_succ, List.getElem_cons_zero, List.setIfInBounds_toArray, List.set_cons_zero, List.set_cons_succ]
        refine wpAnyH_take (i := 2) (oi := _) (v := .pointer (some ⟨w.heap.size + 1, 0, none⟩)) rfl (by kernel_rfl) (by kernel_rfl) (by kernel_rfl) (fun _ _ _ h => h) (Or.inl ⟨by rfl, ?_⟩) hHeld ?_
        · intro wq hSw
          try dsimp only at hSw
          go_simp
        try simp only [Act.put, List.getElem_toArray, List.getElem_cons_succ, List.getElem_cons_zero, List.setIfInBounds_toArray, List.set_cons_zero, List.set_cons_succ]
        refine wpAnyH_take (i := 3) (oi := _) (v := .bool false) rfl (by kernel_rfl) (by kernel_rfl) (by kernel_rfl) (fun _ _ _ h => h) (Or.inl ⟨by rfl, ?_⟩) hHeld ?_
        · intro wq hSw
          try dsimp only at hSw
          go_simp
        try simp only [Act.put, List.getElem_toArray, List.getElem_cons_succ, List.getElem_cons_zero, List.setIfInBounds_toArray, List.set_cons_zero, List.set_cons_succ]
        refine wpAnyH_take (i := 4) (oi := _) (v := .bool true) rfl (by kernel_rfl) (by kernel_rfl) (by kernel_rfl) (fun _ _ _ h => h) (Or.inl ⟨by rfl, ?_⟩) hHeld ?_
        · intro wq hSw
          try dsimp only at hSw
          go_simp
        try simp only [Act.put, List.getElem_toArray, List.getElem_cons_succ, List.getElem_cons_zero, List.setIfInBounds_toArray, List.set_cons_zero, List.set_cons_succ]
        refine wpAnyH_take (i := 5) (oi := _) (v := .agg #[.slice aq LQ.length cq]) rfl (by kernel_rfl) (by kernel_rfl) (by kernel_rfl) (fun _ _ _ h => h) (Or.inl ⟨by rfl, ?_⟩) hHeld ?_
        · intro wq hSw
          try dsimp only at hSw
          go_simp
        try simp only [Act.put, List.getElem_toArray, List.getElem_cons_succ, List.getElem_cons_zero, List.setIfInBounds_toArray, List.set_cons_zero, List.set_cons_succ]
        refine wpAnyH_take (i := 7) (oi := _) (v := .agg #[.slice ar 0 cr]) rfl (by kernel_rfl) (by kernel_rfl) (by kernel_rfl) (fun _ _ _ h => h) (Or.inl ⟨by rfl, ?_⟩) hHeld ?_
        · intro wq hSw
          try dsimp only at hSw
          go_simp
        try simp only [Act.put, List.getElem_toArray, List.getElem_cons_succ, List.getElem_cons_zero, List.setIfInBounds_toArray, List.set_cons_zero, List.set_cons_succ]
        refine wpAnyH_ready (rs := [6]) (by kernel_rfl) (by simp) ?_
        refine AllReadyH.cons rfl (fun KK hK => ?_) AllReadyH.nil
        simp only [List.getElem_toArray, List.getElem_cons_succ, List.getElem_cons_zero]
        rw [if_pos (by rfl)]
        have hmq := make_spec true w2.drew (unhide RQ) (unhide HLIM).1 (by have := (unhide HLIM).2.1; omega)
        rw [(unhide HLIM).2.2.1] at hmq
        refine wps2 26 (.tmp 29) (.tmp 30) _ rfl in_l3makeD (.bool true) (.agg #[.slice aq LQ.length cq]) rfl rfl hmq ?_
        rintro e w3 ⟨v3, rfl, r3, k3⟩
        refine ⟨_, rfl, ?_⟩
        replace f0 := k3.loose0 (World.block_lt_of_cell? _ _ q0) f0
        replace f1 := k3.loose0 (World.block_lt_of_cell? _ _ q1) f1
        replace g0 := k3.loose0 (World.block_lt_of_cell? _ _ t0) g0
        replace g1 := k3.loose0 (World.block_lt_of_cell? _ _ t1) g1
        replace c0 := k3.cell0 c0
        replace c1 := k3.cell0 c1
        replace d0 := k3.cell0 d0
        replace d1 := k3.cell0 d1
        replace m0 := k3.cell0 m0
        replace n0 := k3.cell0 n0
        replace q0 := k3.cell0 q0
        replace q1 := k3.cell0 q1
        replace t0 := k3.cell0 t0
        replace t1 := k3.cell0 t1
        replace K1 := hide ((unhide K1).trans k3)
        replace RR := hide ((unhide RR).kept k3 (by omega))
        have R3 := hide r3
        have z3 : w2.drew.heap.size ≤ w3.heap.size := k3.size
        obtain ⟨a3, d3, hv3⟩ := Row.form' r3
        subst hv3
        clear hmq r3 k3
        clear hHeld
        refine hK.out _ _ ?_ (fun hHeld => ?_)
        · exact ⟨c0, d0, d1, m0, n0⟩
        clear hK KK
        try simp only [Act.put, List.getElem_toArray, List.getElem_cons_succ, List.getElem_cons_zero, List.setIfInBounds_toArray, List.set_cons_zero, List.set_cons_succ]
        refine wpAnyH_ready (rs := [8]) (by kernel_rfl) (by simp) ?_
        refine AllReadyH.cons rfl (fun KK hK => ?_) AllReadyH.nil
        simp only [List.getElem_toArray, List.getElem_cons_succ, List.getElem_cons_zero]
        rw [if_pos (by rfl)]
        have hmr := make_spec false w3 (unhide RR) (unhide HLIM).2.2.2.1 (unhide HLIM).2.2.2.2.1
        rw [(unhide HLIM).2.2.2.2.2, Bool.false_and] at hmr
        refine wps2 26 (.const (.bool false)) (.tmp 32) _ rfl in_l3makeD (.bool false) (.agg #[.slice ar 0 cr]) rfl rfl hmr ?_
        rintro e w4 ⟨v4, rfl, r4, k4⟩
        refine ⟨_, rfl, ?_⟩
        replace f0 := k4.loose0 (World.block_lt_of_cell? _ _ q0) f0
        replace f1 := k4.loose0 (World.block_lt_of_cell? _ _ q1) f1
        replace g0 := k4.loose0 (World.block_lt_of_cell? _ _ t0) g0
        replace g1 := k4.loose0 (World.block_lt_of_cell? _ _ t1) g1
        replace c0 := k4.cell0 c0
        replace c1 := k4.cell0 c1
        replace d0 := k4.cell0 d0
        replace d1 := k4.cell0 d1
        replace m0 := k4.cell0 m0
        replace n0 := k4.cell0 n0
        replace q0 := k4.cell0 q0
        replace q1 := k4.cell0 q1
        replace t0 := k4.cell0 t0
        replace t1 := k4.cell0 t1
        replace K1 := hide ((unhide K1).trans k4)
        replace R3 := hide (((unhide R3).kept k4 (by omega)).wider (lo' := w2.drew.heap.size) (hi' := w4.heap.size) (Nat.le_refl _) k4.size)
        have R4 := hide (r4.wider (lo' := w2.drew.heap.size) (hi' := w4.heap.size) z3 (Nat.le_refl _))
        obtain ⟨a4, d4, hv4⟩ := Row.form' r4
        subst hv4
        have z4 : w3.heap.size ≤ w4.heap.size := k4.size
        clear hmr r4 k4 RR
        obtain ⟨SQ, hSQ⟩ : ∃ q, q = (true && decide (0 < LQ.length)) := ⟨_, rfl⟩
        rw [← hSQ]
        have HSQ := hide hSQ
        clear hSQ
        clear hHeld
        refine hK.out _ _ ?_ (fun hHeld => ?_)
        · exact ⟨c0, d0, d1, m0, n0⟩
        clear hK KK
        try simp only [Act.put, List.getElem_toArray, List.getElem_cons_succ, List.getElem_cons_zero, List.setIfInBounds_toArray, List.set_cons_zero, List.set_cons_succ]
        refine wpAnyH_ready (rs := [9]) (by kernel_rfl) (by simp) ?_
        refine AllReadyH.cons rfl (fun KK hK => ?_) AllReadyH.nil
        simp only [List.getElem_toArray, List.getElem_cons_succ, List.getElem_cons_zero]
        rw [if_pos (by rfl)]
        go_simp
        have ks1 : Kept (w.heap.size + 2) (w.heap.size + 4) w4 ((w4.setCell ⟨w.heap.size + 2, 0, none⟩ (.bool SQ)).setCell ⟨w.heap.size + 2, 1, none⟩ (.slice a3 LQ.length d3)) := ((Kept.refl _ _ _).setCell (p := ⟨w.heap.size + 2, 0, none⟩) (Nat.le_refl _) (by dsimp only; omega) _).setCell (p := ⟨w.heap.size + 2, 1, none⟩) (Nat.le_refl _) (by dsimp only; omega) _
        have Q0 := cell_off _ _ _ 1 (.slice a3 LQ.length d3) _ (cell_on _ _ _ (.bool SQ) _ q0) (show (0 : Nat) ≠ 1 by omega)
        have Q1 := cell_on _ _ _ (.slice a3 LQ.length d3) _ (cell_off _ _ _ 0 (.bool SQ) _ q1 (show (1 : Nat) ≠ 0 by omega))
        have T0 : ((w4.setCell ⟨w.heap.size + 2, 0, none⟩ (.bool SQ)).setCell ⟨w.heap.size + 2, 1, none⟩ (.slice a3 LQ.length d3)).cell? ⟨w.heap.size + 3, 0, none⟩ = some (.bool false) := (cell_aside _ (by dsimp only; omega) (cell_aside _ (by dsimp only; omega) t0))
        have T1 : ((w4.setCell ⟨w.heap.size + 2, 0, none⟩ (.bool SQ)).setCell ⟨w.heap.size + 2, 1, none⟩ (.slice a3 LQ.length d3)).cell? ⟨w.heap.size + 3, 1, none⟩ = some (.slice none 0 0) := (cell_aside _ (by dsimp only; omega) (cell_aside _ (by dsimp only; omega) t1))
        have G0' : ((w4.setCell ⟨w.heap.size + 2, 0, none⟩ (.bool SQ)).setCell ⟨w.heap.size + 2, 1, none⟩ (.slice a3 LQ.length d3)).frozen? ⟨w.heap.size + 3, 0, none⟩ = false := by rw [frozen_set, frozen_set]; exact g0
        have G1' : ((w4.setCell ⟨w.heap.size + 2, 0, none⟩ (.bool SQ)).setCell ⟨w.heap.size + 2, 1, none⟩ (.slice a3 LQ.length d3)).frozen? ⟨w.heap.size + 3, 1, none⟩ = false := by rw [frozen_set, frozen_set]; exact g1
        have c0' : ((w4.setCell ⟨w.heap.size + 2, 0, none⟩ (.bool SQ)).setCell ⟨w.heap.size + 2, 1, none⟩ (.slice a3 LQ.length d3)).cell? ⟨w.heap.size, 0, none⟩ = some (.bool true) := (cell_aside _ (by dsimp only; omega) (cell_aside _ (by dsimp only; omega) c0))
        have d0' : ((w4.setCell ⟨w.heap.size + 2, 0, none⟩ (.bool SQ)).setCell ⟨w.heap.size + 2, 1, none⟩ (.slice a3 LQ.length d3)).cell? ⟨w.heap.size + 1, 0, none⟩ = some (.bool false) := (cell_aside _ (by dsimp only; omega) (cell_aside _ (by dsimp only; omega) d0))
        have d1' : ((w4.setCell ⟨w.heap.size + 2, 0, none⟩ (.bool SQ)).setCell ⟨w.heap.size + 2, 1, none⟩ (.slice a3 LQ.length d3)).cell? ⟨w.heap.size + 1, 1, none⟩ = some (.slice a2 ys.length e2) := (cell_aside _ (by dsimp only; omega) (cell_aside _ (by dsimp only; omega) d1))
        have m0' : ((w4.setCell ⟨w.heap.size + 2, 0, none⟩ (.bool SQ)).setCell ⟨w.heap.size + 2, 1, none⟩ (.slice a3 LQ.length d3)).cell? ⟨Y, 0, none⟩ = some (.slice aq LQ.length cq) := (cell_aside _ (by dsimp only; omega) (cell_aside _ (by dsimp only; omega) m0))
        have n0' : ((w4.setCell ⟨w.heap.size + 2, 0, none⟩ (.bool SQ)).setCell ⟨w.heap.size + 2, 1, none⟩ (.slice a3 LQ.length d3)).cell? ⟨Y + 1, 0, none⟩ = some (.slice ar 0 cr) := (cell_aside _ (by dsimp only; omega) (cell_aside _ (by dsimp only; omega) n0))
        clear q0 q1 t0 t1 g0 g1 f0 f1 c1
        clear hHeld
        refine hK.out _ _ ?_ (fun hHeld => ?_)
        · exact ⟨c0', d0', d1', m0', n0'⟩
        clear hK KK
        try simp only [Act.put, List.getElem_toArray, List.getElem_cons_succ, List.getElem_cons_zero, List.setIfInBounds_toArray, List.set_cons_zero, List.set_cons_succ]
        refine wpAnyH_ready (rs := [10]) (by kernel_rfl) (by simp) ?_
        refine AllReadyH.cons rfl (fun KK hK => ?_) AllReadyH.nil
        simp only [List.getElem_toArray, List.getElem_cons_succ, List.getElem_cons_zero]
        rw [if_pos (by rfl)]
        go_simp
        clear hHeld
        refine hK.out _ _ ?_ (fun hHeld => ?_)
        · exact ⟨(cell_aside _ (by dsimp only; omega) (cell_aside _ (by dsimp only; omega) c0')), (cell_aside _ (by dsimp only; omega) (cell_aside _ (by dsimp only; omega) d0')), (cell_aside _ (by dsimp only; omega) (cell_aside _ (by dsimp only; omega) d1')), (cell_aside _ (by dsimp only; omega) (cell_aside _ (by dsimp only; omega) m0')), (cell_aside _ (by dsimp only; omega) (cell_aside _ (by dsimp only; omega) n0'))⟩
        clear hK KK
        try simp only [Act.put, List.getElem_toArray, List.getElem_cons_succ, List.getElem_cons_zero, List.setIfInBounds_toArray, List.set_cons_zero, List.set_cons_succ]
        refine wpAnyH_done (by kernel_rfl) ?_ _
        clear hHeld
        have ks2 : Kept (w.heap.size + 2) (w.heap.size + 4) w4 ((((w4.setCell ⟨w.heap.size + 2, 0, none⟩ (.bool SQ)).setCell ⟨w.heap.size + 2, 1, none⟩ (.slice a3 LQ.length d3)).setCell ⟨w.heap.size + 3, 0, none⟩ (.bool false)).setCell ⟨w.heap.size + 3, 1, none⟩ (.slice a4 LR.length d4)) := (ks1.setCell (p := ⟨w.heap.size + 3, 0, none⟩) (by dsimp only; omega) (by dsimp only; omega) _).setCell (p := ⟨w.heap.size + 3, 1, none⟩) (by dsimp only; omega) (by dsimp only; omega) _
        have A0 : ((((w4.setCell ⟨w.heap.size + 2, 0, none⟩ (.bool SQ)).setCell ⟨w.heap.size + 2, 1, none⟩ (.slice a3 LQ.length d3)).setCell ⟨w.heap.size + 3, 0, none⟩ (.bool false)).setCell ⟨w.heap.size + 3, 1, none⟩ (.slice a4 LR.length d4)).cell? ⟨w.heap.size + 2, 0, none⟩ = some (.bool SQ) := (cell_aside _ (by dsimp only; omega) (cell_aside _ (by dsimp only; omega) Q0))
        have A1 : ((((w4.setCell ⟨w.heap.size + 2, 0, none⟩ (.bool SQ)).setCell ⟨w.heap.size + 2, 1, none⟩ (.slice a3 LQ.length d3)).setCell ⟨w.heap.size + 3, 0, none⟩ (.bool false)).setCell ⟨w.heap.size + 3, 1, none⟩ (.slice a4 LR.length d4)).cell? ⟨w.heap.size + 2, 1, none⟩ = some (.slice a3 LQ.length d3) := (cell_aside _ (by dsimp only; omega) (cell_aside _ (by dsimp only; omega) Q1))
        have B0 := cell_off _ _ _ 1 (.slice a4 LR.length d4) _ (cell_on _ _ _ (.bool false) _ T0) (show (0 : Nat) ≠ 1 by omega)
        have B1 := cell_on _ _ _ (.slice a4 LR.length d4) _ (cell_off _ _ _ 0 (.bool false) _ T1 (show (1 : Nat) ≠ 0 by omega))
        have hsz : ((((w4.setCell ⟨w.heap.size + 2, 0, none⟩ (.bool SQ)).setCell ⟨w.heap.size + 2, 1, none⟩ (.slice a3 LQ.length d3)).setCell ⟨w.heap.size + 3, 0, none⟩ (.bool false)).setCell ⟨w.heap.size + 3, 1, none⟩ (.slice a4 LR.length d4)).heap.size = w4.heap.size := by rw [size_set, size_set, size_set, size_set]
        have E3 := hide (((unhide R3).kept ks2 (by omega)).wider (lo' := w.heap.size) (hi' := ((((w4.setCell ⟨w.heap.size + 2, 0, none⟩ (.bool SQ)).setCell ⟨w.heap.size + 2, 1, none⟩ (.slice a3 LQ.length d3)).setCell ⟨w.heap.size + 3, 0, none⟩ (.bool false)).setCell ⟨w.heap.size + 3, 1, none⟩ (.slice a4 LR.length d4)).heap.size) (by omega) (by omega))
        have E4 := hide (((unhide R4).kept ks2 (by omega)).wider (lo' := w.heap.size) (hi' := ((((w4.setCell ⟨w.heap.size + 2, 0, none⟩ (.bool SQ)).setCell ⟨w.heap.size + 2, 1, none⟩ (.slice a3 LQ.length d3)).setCell ⟨w.heap.size + 3, 0, none⟩ (.bool false)).setCell ⟨w.heap.size + 3, 1, none⟩ (.slice a4 LR.length d4)).heap.size) (by omega) (by omega))
        have K7 := hide ((unhide K1).wide ks2 (by omega))
        clear ks1 ks2 hsz R3 R4 K1 c0 d0 d1 m0 n0 c0' d0' d1' m0' n0' Q0 Q1 T0 T1 G0' G1'
        go_wp2_with fail
        exact bodyPost_ret (v := .tuple #[.agg #[.bool SQ, .slice a3 LQ.length d3], .agg #[.bool false, .slice a4 LR.length d4]]) (by simp [results, Try.results13, go_sem, A0, A1, B0, B1]) rfl ⟨_, _, by rw [(unhide HWD).1, unhide HSQ]; rfl, by rw [(unhide HWD).1]; exact unhide E3, by rw [(unhide HWD).2]; exact unhide E4, unhide K7⟩
      · simp only [hz] at c0 c1 d0 d1 m0 n0 q0 q1 t0 t1 f0 f1 g0 g1 K1 RQ RR R2' HZZ
        go_wp2_with fail
        clear hz
        rw [← hY]
        generalize ((w1.alloc (.cells #[.slice aq LQ.length cq] 28)).alloc (.cells #[.slice ar 0 cr] 28)) = w2 at *
        have kd := (Kept.refl 0 0 w2).drew
        replace f0 := kd.loose0 (World.block_lt_of_cell? _ _ q0) f0
        replace f1 := kd.loose0 (World.block_lt_of_cell? _ _ q1) f1
        replace g0 := kd.loose0 (World.block_lt_of_cell? _ _ t0) g0
        replace g1 := kd.loose0 (World.block_lt_of_cell? _ _ t1) g1
        replace c0 := kd.cell0 c0
        replace c1 := kd.cell0 c1
        replace d0 := kd.cell0 d0
        replace d1 := kd.cell0 d1
        replace m0 := kd.cell0 m0
        replace n0 := kd.cell0 n0
        replace q0 := kd.cell0 q0
        replace q1 := kd.cell0 q1
        replace t0 := kd.cell0 t0
        replace t1 := kd.cell0 t1
        replace K1 := hide ((unhide K1).trans kd)
        replace RQ := hide ((unhide RQ).kept kd (by omega))
        replace RR := hide ((unhide RR).kept kd (by omega))
        replace R2' := hide ((unhide R2').kept kd (by omega))
        have hs2 : w2.drew.heap.size = Y + 2 := unhide HZZ
        clear kd hY
        refine wp_region_held_drew (S := (fun w' => w'.cell? ⟨w.heap.size, 0, none⟩ = some (.bool true) ∧ w'.cell? ⟨w.heap.size + 1, 0, none⟩ = some (.bool true) ∧ w'.cell? ⟨w.heap.size + 1, 1, none⟩ = some (.slice a2 ys.length e2) ∧ w'.cell? ⟨Y, 0, none⟩ = some (.slice aq LQ.length cq) ∧ w'.cell? ⟨Y + 1, 0, none⟩ = some (.slice ar 0 cr))) (by kernel_rfl) ?_ (fun hHeld => ?_)
        · exact ⟨c0, d0, d1, m0, n0⟩
        refine wpAnyH_take (i := 0) (oi := _) (v := .pointer (some ⟨w.heap.size, 0, none⟩)) rfl (by kernel_rfl) (by kernel_rfl) (by kernel_rfl) (fun _ _ _ h => h) (Or.inl ⟨by rfl, ?_⟩) hHeld ?_
        · intro wq hSw
          try dsimp only at hSw
          go_simp
        try simp only [Act.put, List.getElem_toArray, List.getElem_cons_succ, List.getElem_cons_zero, List.setIfInBounds_toArray, List.set_cons_zero, List.set_cons_succ]
        refine wpAnyH_take (i := 1) (oi := _) (v := .bool true) rfl (by kernel_rfl) (by kernel_rfl) (by kernel_rfl) (fun _ _ _ h => h) (Or.inl ⟨by rfl, ?_⟩) hHeld ?_
        · intro wq hSw
          try dsimp only at hSw
          go_simp
        try simp only [Act.put, List.getElem_toArray, List.getElem_cons_succ, List.getElem_cons_zero, List.setIfInBounds_toArray, List.set_cons_zero, List.set_cons_succ]
        refine wpAnyH_take (i := 2) (oi := _) (v := .pointer (some ⟨w.heap.size + 1, 0, none⟩)) rfl (by kernel_rfl) (by kernel_rfl) (by kernel_rfl) (fun _ _ _ h => h) (Or.inl ⟨by rfl, ?_⟩) hHeld ?_
        · intro wq hSw
          try dsimp only at hSw
          go_simp
        try simp only [Act.put, List.getElem_toArray, List.getElem_cons_succ, List.getElem_cons_zero, List.setIfInBounds_toArray, List.set_cons_zero, List.set_cons_succ]
        refine wpAnyH_take (i := 3) (oi := _) (v := .bool true) rfl (by kernel_rfl) (by kernel_rfl) (by kernel_rfl) (fun _ _ _ h => h) (Or.inl ⟨by rfl, ?_⟩) hHeld ?_
        · intro wq hSw
          try dsimp only at hSw
          go_simp
        try simp only [Act.put, List.getElem_toArray, List.getElem_cons_succ, List.getElem_cons_zero, List.setIfInBounds_toArray, List.set_cons_zero, List.set_cons_succ]
        refine wpAnyH_take (i := 4) (oi := _) (v := .bool false) rfl (by kernel_rfl) (by kernel_rfl) (by kernel_rfl) (fun _ _ _ h => h) (Or.inl ⟨by rfl, ?_⟩) hHeld ?_
        · intro wq hSw
          try dsimp only at hSw
          go_simp
        try simp only [Act.put, List.getElem_toArray, List.getElem_cons_succ, List.getElem_cons_zero, List.setIfInBounds_toArray, List.set_cons_zero, List.set_cons_succ]
        refine wpAnyH_take (i := 5) (oi := _) (v := .agg #[.slice aq LQ.length cq]) rfl (by kernel_rfl) (by kernel_rfl) (by kernel_rfl) (fun _ _ _ h => h) (Or.inl ⟨by rfl, ?_⟩) hHeld ?_
        · intro wq hSw
          try dsimp only at hSw
          go_simp
        try simp only [Act.put, List.getElem_toArray, List.getElem_cons_succ, List.getElem_cons_zero, List.setIfInBounds_toArray, List.set_cons_zero, List.set_cons_succ]
        refine wpAnyH_take (i := 7) (oi := _) (v := .agg #[.slice ar 0 cr]) rfl (by kernel_rfl) (by kernel_rfl) (by kernel_rfl) (fun _ _ _ h => h) (Or.inl ⟨by rfl, ?_⟩) hHeld ?_
        · intro wq hSw
          try dsimp only at hSw
          go_simp
        try simp only [Act.put, List.getElem_toArray, List.getElem_cons_succ, List.getElem_cons_zero, List.setIfInBounds_toArray, List.set_cons_zero, List.set_cons_succ]
        refine wpAnyH_ready (rs := [6]) (by kernel_rfl) (by simp) ?_
        refine AllReadyH.cons rfl (fun KK hK => ?_) AllReadyH.nil
        simp only [List.getElem_toArray, List.getElem_cons_succ, List.getElem_cons_zero]
        rw [if_pos (by rfl)]
        have hmq := make_spec false w2.drew (unhide RQ) (unhide HLIM).1 (by have := (unhide HLIM).2.1; omega)
        rw [(unhide HLIM).2.2.1] at hmq
        refine wps2 26 (.tmp 29) (.tmp 30) _ rfl in_l3makeD (.bool false) (.agg #[.slice aq LQ.length cq]) rfl rfl hmq ?_
        rintro e w3 ⟨v3, rfl, r3, k3⟩
        refine ⟨_, rfl, ?_⟩
        replace f0 := k3.loose0 (World.block_lt_of_cell? _ _ q0) f0
        replace f1 := k3.loose0 (World.block_lt_of_cell? _ _ q1) f1
        replace g0 := k3.loose0 (World.block_lt_of_cell? _ _ t0) g0
        replace g1 := k3.loose0 (World.block_lt_of_cell? _ _ t1) g1
        replace c0 := k3.cell0 c0
        replace c1 := k3.cell0 c1
        replace d0 := k3.cell0 d0
        replace d1 := k3.cell0 d1
        replace m0 := k3.cell0 m0
        replace n0 := k3.cell0 n0
        replace q0 := k3.cell0 q0
        replace q1 := k3.cell0 q1
        replace t0 := k3.cell0 t0
        replace t1 := k3.cell0 t1
        replace K1 := hide ((unhide K1).trans k3)
        replace RR := hide ((unhide RR).kept k3 (by omega))
        have R3 := hide r3
        have z3 : w2.drew.heap.size ≤ w3.heap.size := k3.size
        obtain ⟨a3, d3, hv3⟩ := Row.form' r3
        subst hv3
        clear hmq r3 k3
        clear hHeld
        refine hK.out _ _ ?_ (fun hHeld => ?_)
        · exact ⟨c0, d0, d1, m0, n0⟩
        clear hK KK
        try simp only [Act.put, List.getElem_toArray, List.getElem_cons_succ, List.getElem_cons_zero, List.setIfInBounds_toArray, List.set_cons_zero, List.set_cons_succ]
        refine wpAnyH_ready (rs := [8]) (by kernel_rfl) (by simp) ?_
        refine AllReadyH.cons rfl (fun KK hK => ?_) AllReadyH.nil
        simp only [List.getElem_toArray, List.getElem_cons_succ, List.getElem_cons_zero]
        rw [if_pos (by rfl)]
        have hmr := make_spec false w3 (unhide RR) (unhide HLIM).2.2.2.1 (unhide HLIM).2.2.2.2.1
        rw [(unhide HLIM).2.2.2.2.2, Bool.false_and] at hmr
        refine wps2 26 (.const (.bool false)) (.tmp 32) _ rfl in_l3makeD (.bool false) (.agg #[.slice ar 0 cr]) rfl rfl hmr ?_
        rintro e w4 ⟨v4, rfl, r4, k4⟩
        refine ⟨_, rfl, ?_⟩
        replace f0 := k4.loose0 (World.block_lt_of_cell? _ _ q0) f0
        replace f1 := k4.loose0 (World.block_lt_of_cell? _ _ q1) f1
        replace g0 := k4.loose0 (World.block_lt_of_cell? _ _ t0) g0
        replace g1 := k4.loose0 (World.block_lt_of_cell? _ _ t1) g1
        replace c0 := k4.cell0 c0
        replace c1 := k4.cell0 c1
        replace d0 := k4.cell0 d0
        replace d1 := k4.cell0 d1
        replace m0 := k4.cell0 m0
        replace n0 := k4.cell0 n0
        replace q0 := k4.cell0 q0
        replace q1 := k4.cell0 q1
        replace t0 := k4.cell0 t0
        replace t1 := k4.cell0 t1
        replace K1 := hide ((unhide K1).trans k4)
        replace R3 := hide (((unhide R3).kept k4 (by omega)).wider (lo' := w2.drew.heap.size) (hi' := w4.heap.size) (Nat.le_refl _) k4.size)
        have R4 := hide (r4.wider (lo' := w2.drew.heap.size) (hi' := w4.heap.size) z3 (Nat.le_refl _))
        obtain ⟨a4, d4, hv4⟩ := Row.form' r4
        subst hv4
        have z4 : w3.heap.size ≤ w4.heap.size := k4.size
        clear hmr r4 k4 RR
        obtain ⟨SQ, hSQ⟩ : ∃ q, q = (false && decide (0 < LQ.length)) := ⟨_, rfl⟩
        rw [← hSQ]
        have HSQ := hide hSQ
        clear hSQ
        clear hHeld
        refine hK.out _ _ ?_ (fun hHeld => ?_)
        · exact ⟨c0, d0, d1, m0, n0⟩
        clear hK KK
        try simp only [Act.put, List.getElem_toArray, List.getElem_cons_succ, List.getElem_cons_zero, List.setIfInBounds_toArray, List.set_cons_zero, List.set_cons_succ]
        refine wpAnyH_ready (rs := [9]) (by kernel_rfl) (by simp) ?_
        refine AllReadyH.cons rfl (fun KK hK => ?_) AllReadyH.nil
        simp only [List.getElem_toArray, List.getElem_cons_succ, List.getElem_cons_zero]
        rw [if_pos (by rfl)]
        go_simp
        have ks1 : Kept (w.heap.size + 2) (w.heap.size + 4) w4 ((w4.setCell ⟨w.heap.size + 2, 0, none⟩ (.bool SQ)).setCell ⟨w.heap.size + 2, 1, none⟩ (.slice a3 LQ.length d3)) := ((Kept.refl _ _ _).setCell (p := ⟨w.heap.size + 2, 0, none⟩) (Nat.le_refl _) (by dsimp only; omega) _).setCell (p := ⟨w.heap.size + 2, 1, none⟩) (Nat.le_refl _) (by dsimp only; omega) _
        have Q0 := cell_off _ _ _ 1 (.slice a3 LQ.length d3) _ (cell_on _ _ _ (.bool SQ) _ q0) (show (0 : Nat) ≠ 1 by omega)
        have Q1 := cell_on _ _ _ (.slice a3 LQ.length d3) _ (cell_off _ _ _ 0 (.bool SQ) _ q1 (show (1 : Nat) ≠ 0 by omega))
        have T0 : ((w4.setCell ⟨w.heap.size + 2, 0, none⟩ (.bool SQ)).setCell ⟨w.heap.size + 2, 1, none⟩ (.slice a3 LQ.length d3)).cell? ⟨w.heap.size + 3, 0, none⟩ = some (.bool false) := (cell_aside _ (by dsimp only; omega) (cell_aside _ (by dsimp only; omega) t0))
        have T1 : ((w4.setCell ⟨w.heap.size + 2, 0, none⟩ (.bool SQ)).setCell ⟨w.heap.size + 2, 1, none⟩ (.slice a3 LQ.length d3)).cell? ⟨w.heap.size + 3, 1, none⟩ = some (.slice none 0 0) := (cell_aside _ (by dsimp only; omega) (cell_aside _ (by dsimp only; omega) t1))
        have G0' : ((w4.setCell ⟨w.heap.size + 2, 0, none⟩ (.bool SQ)).setCell ⟨w.heap.size + 2, 1, none⟩ (.slice a3 LQ.length d3)).frozen? ⟨w.heap.size + 3, 0, none⟩ = false := by rw [frozen_set, frozen_set]; exact g0
        have G1' : ((w4.setCell ⟨w.heap.size + 2, 0, none⟩ (.bool SQ)).setCell ⟨w.heap.size + 2, 1, none⟩ (.slice a3 LQ.length d3)).frozen? ⟨w.heap.size + 3, 1, none⟩ = false := by rw [frozen_set, frozen_set]; exact g1
        have c0' : ((w4.setCell ⟨w.heap.size + 2, 0, none⟩ (.bool SQ)).setCell ⟨w.heap.size + 2, 1, none⟩ (.slice a3 LQ.length d3)).cell? ⟨w.heap.size, 0, none⟩ = some (.bool true) := (cell_aside _ (by dsimp only; omega) (cell_aside _ (by dsimp only; omega) c0))
        have d0' : ((w4.setCell ⟨w.heap.size + 2, 0, none⟩ (.bool SQ)).setCell ⟨w.heap.size + 2, 1, none⟩ (.slice a3 LQ.length d3)).cell? ⟨w.heap.size + 1, 0, none⟩ = some (.bool true) := (cell_aside _ (by dsimp only; omega) (cell_aside _ (by dsimp only; omega) d0))
        have d1' : ((w4.setCell ⟨w.heap.size + 2, 0, none⟩ (.bool SQ)).setCell ⟨w.heap.size + 2, 1, none⟩ (.slice a3 LQ.length d3)).cell? ⟨w.heap.size + 1, 1, none⟩ = some (.slice a2 ys.length e2) := (cell_aside _ (by dsimp only; omega) (cell_aside _ (by dsimp only; omega) d1))
        have m0' : ((w4.setCell ⟨w.heap.size + 2, 0, none⟩ (.bool SQ)).setCell ⟨w.heap.size + 2, 1, none⟩ (.slice a3 LQ.length d3)).cell? ⟨Y, 0, none⟩ = some (.slice aq LQ.length cq) := (cell_aside _ (by dsimp only; omega) (cell_aside _ (by dsimp only; omega) m0))
        have n0' : ((w4.setCell ⟨w.heap.size + 2, 0, none⟩ (.bool SQ)).setCell ⟨w.heap.size + 2, 1, none⟩ (.slice a3 LQ.length d3)).cell? ⟨Y + 1, 0, none⟩ = some (.slice ar 0 cr) := (cell_aside _ (by dsimp only; omega) (cell_aside _ (by dsimp only; omega) n0))
        clear q0 q1 t0 t1 g0 g1 f0 f1 c1
        clear hHeld
        refine hK.out _ _ ?_ (fun hHeld => ?_)
        · exact ⟨c0', d0', d1', m0', n0'⟩
        clear hK KK
        try simp only [Act.put, List.getElem_toArray, List.getElem_cons_succ, List.getElem_cons_zero, List.setIfInBounds_toArray, List.set_cons_zero, List.set_cons_succ]
        refine wpAnyH_ready (rs := [10]) (by kernel_rfl) (by simp) ?_
        refine AllReadyH.cons rfl (fun KK hK => ?_) AllReadyH.nil
        simp only [List.getElem_toArray, List.getElem_cons_succ, List.getElem_cons_zero]
        rw [if_pos (by rfl)]
        go_simp
        clear hHeld
        refine hK.out _ _ ?_ (fun hHeld => ?_)
        · exact ⟨(cell_aside _ (by dsimp only; omega) (cell_aside _ (by dsimp only; omega) c0')), (cell_aside _ (by dsimp only; omega) (cell_aside _ (by dsimp only; omega) d0')), (cell_aside _ (by dsimp only; omega) (cell_aside _ (by dsimp only; omega) d1')), (cell_aside _ (by dsimp only; omega) (cell_aside _ (by dsimp only; omega) m0')), (cell_aside _ (by dsimp only; omega) (cell_aside _ (by dsimp only; omega) n0'))⟩
        clear hK KK
        try simp only [Act.put, List.getElem_toArray, List.getElem_cons_succ, List.getElem_cons_zero, List.setIfInBounds_toArray, List.set_cons_zero, List.set_cons_succ]
        refine wpAnyH_done (by kernel_rfl) ?_ _
        clear hHeld
        have ks2 : Kept (w.heap.size + 2) (w.heap.size + 4) w4 ((((w4.setCell ⟨w.heap.size + 2, 0, none⟩ (.bool SQ)).setCell ⟨w.heap.size + 2, 1, none⟩ (.slice a3 LQ.length d3)).setCell ⟨w.heap.size + 3, 0, none⟩ (.bool false)).setCell ⟨w.heap.size + 3, 1, none⟩ (.slice a4 LR.length d4)) := (ks1.setCell (p := ⟨w.heap.size + 3, 0, none⟩) (by dsimp only; omega) (by dsimp only; omega) _).setCell (p := ⟨w.heap.size + 3, 1, none⟩) (by dsimp only; omega) (by dsimp only; omega) _
        have A0 : ((((w4.setCell ⟨w.heap.size + 2, 0, none⟩ (.bool SQ)).setCell ⟨w.heap.size + 2, 1, none⟩ (.slice a3 LQ.length d3)).setCell ⟨w.heap.size + 3, 0, none⟩ (.bool false)).setCell ⟨w.heap.size + 3, 1, none⟩ (.slice a4 LR.length d4)).cell? ⟨w.heap.size + 2, 0, none⟩ = some (.bool SQ) := (cell_aside _ (by dsimp only; omega) (cell_aside _ (by dsimp only; omega) Q0))
        have A1 : ((((w4.setCell ⟨w.heap.size + 2, 0, none⟩ (.bool SQ)).setCell ⟨w.heap.size + 2, 1, none⟩ (.slice a3 LQ.length d3)).setCell ⟨w.heap.size + 3, 0, none⟩ (.bool false)).setCell ⟨w.heap.size + 3, 1, none⟩ (.slice a4 LR.length d4)).cell? ⟨w.heap.size + 2, 1, none⟩ = some (.slice a3 LQ.length d3) := (cell_aside _ (by dsimp only; omega) (cell_aside _ (by dsimp only; omega) Q1))
        have B0 := cell_off _ _ _ 1 (.slice a4 LR.length d4) _ (cell_on _ _ _ (.bool false) _ T0) (show (0 : Nat) ≠ 1 by omega)
        have B1 := cell_on _ _ _ (.slice a4 LR.length d4) _ (cell_off _ _ _ 0 (.bool false) _ T1 (show (1 : Nat) ≠ 0 by omega))
        have hsz : ((((w4.setCell ⟨w.heap.size + 2, 0, none⟩ (.bool SQ)).setCell ⟨w.heap.size + 2, 1, none⟩ (.slice a3 LQ.length d3)).setCell ⟨w.heap.size + 3, 0, none⟩ (.bool false)).setCell ⟨w.heap.size + 3, 1, none⟩ (.slice a4 LR.length d4)).heap.size = w4.heap.size := by rw [size_set, size_set, size_set, size_set]
        have E3 := hide (((unhide R3).kept ks2 (by omega)).wider (lo' := w.heap.size) (hi' := ((((w4.setCell ⟨w.heap.size + 2, 0, none⟩ (.bool SQ)).setCell ⟨w.heap.size + 2, 1, none⟩ (.slice a3 LQ.length d3)).setCell ⟨w.heap.size + 3, 0, none⟩ (.bool false)).setCell ⟨w.heap.size + 3, 1, none⟩ (.slice a4 LR.length d4)).heap.size) (by omega) (by omega))
        have E4 := hide (((unhide R4).kept ks2 (by omega)).wider (lo' := w.heap.size) (hi' := ((((w4.setCell ⟨w.heap.size + 2, 0, none⟩ (.bool SQ)).setCell ⟨w.heap.size + 2, 1, none⟩ (.slice a3 LQ.length d3)).setCell ⟨w.heap.size + 3, 0, none⟩ (.bool false)).setCell ⟨w.heap.size + 3, 1, none⟩ (.slice a4 LR.length d4)).heap.size) (by omega) (by omega))
        have K7 := hide ((unhide K1).wide ks2 (by omega))
        clear ks1 ks2 hsz R3 R4 K1 c0 d0 d1 m0 n0 c0' d0' d1' m0' n0' Q0 Q1 T0 T1 G0' G1'
        go_wp2_with fail
        exact bodyPost_ret (v := .tuple #[.agg #[.bool SQ, .slice a3 LQ.length d3], .agg #[.bool false, .slice a4 LR.length d4]]) (by simp [results, Try.results13, go_sem, A0, A1, B0, B1]) rfl ⟨_, _, by rw [(unhide HWD).1, unhide HSQ]; rfl, by rw [(unhide HWD).1]; exact unhide E3, by rw [(unhide HWD).2]; exact unhide E4, unhide K7⟩
    · obtain ⟨LQ1, hLQ1⟩ : ∃ q, q = limbs (val xs / val ys + 1).toNat := ⟨_, rfl⟩
      obtain ⟨LR1, hLR1⟩ : ∃ q, q = limbs (val ys - val xs % val ys).toNat := ⟨_, rfl⟩
      have HWD : Hid (wdQ true xs ys = LQ1 ∧ wdR true xs ys = LR1) := by
        unfold wdQ wdR
        rw [unhide key]
        simp only [Bool.true_and]
        rw [decide_eq_true (by omega), if_pos rfl, if_pos rfl]
        exact ⟨hLQ1.symm, hLR1.symm⟩
      have hv1 : val (limbs (1 : Int).toNat) = 1 := by rw [limbs_val]; rfl
      have HONE : Hid (Lim (limbs (1 : Int).toNat) ∧ (limbs (1 : Int).toNat).length ≤ 100000 ∧ limbs (val LQ + val (limbs (1 : Int).toNat)).toNat = LQ1) := ⟨(limbs_nrm _).1, by decide, by rw [hv1, hvq, hLQ1]⟩
      have HQ1 : Hid (Lim LQ1 ∧ LQ1.length ≤ 1000000 ∧ limbs (val LQ1).toNat = LQ1) := by
        have hn : Nrm LQ1 := by rw [hLQ1]; exact limbs_nrm _
        have hl : LQ1.length ≤ xs.length + 1 := by
          rw [hLQ1]
          refine (limbs_length_le _ _).2 ?_
          have h3 : (65536 : Int) ^ (xs.length + 1) = 65536 ^ xs.length * 65536 := Int.pow_succ _ _
          have h4 : (0 : Int) < 65536 ^ xs.length := Int.pow_pos (by decide)
          omega
        exact ⟨hn.1, by omega, (nrm_limbs hn).symm⟩
      have HR1 : Hid (Lim LR1 ∧ LR1.length ≤ 1000000 ∧ limbs (val LR1).toNat = LR1) := by
        have hn : Nrm LR1 := by rw [hLR1]; exact limbs_nrm _
        have hl : LR1.length ≤ ys.length := by
          rw [hLR1]
          refine (limbs_length_le _ _).2 ?_
          omega
        exact ⟨hn.1, by omega, (nrm_limbs hn).symm⟩
      have HSB : Hid (Lim ys ∧ ys.length ≤ 100000 ∧ LR.length ≤ ys.length ∧ val LR ≤ val ys ∧ limbs (val ys - val LR).toNat = LR1) := ⟨hy.1, by omega, nr, by omega, by rw [hvr, hLR1]⟩
      clear hLQ1 hLR1 hv1
      clear hr0 hr1 hvx hq0 hqx hvq hvr hlx hly nq nr hnQ hnR key
      cases s2
      · go_wp2_with fail
        rw [← hY]
        generalize ((w1.alloc (.cells #[.slice aq LQ.length cq] 28)).alloc (.cells #[.slice ar LR.length cr] 28)) = w2 at *
        have kd := (Kept.refl 0 0 w2).drew
        replace f0 := kd.loose0 (World.block_lt_of_cell? _ _ q0) f0
        replace f1 := kd.loose0 (World.block_lt_of_cell? _ _ q1) f1
        replace g0 := kd.loose0 (World.block_lt_of_cell? _ _ t0) g0
        replace g1 := kd.loose0 (World.block_lt_of_cell? _ _ t1) g1
        replace c0 := kd.cell0 c0
        replace c1 := kd.cell0 c1
        replace d0 := kd.cell0 d0
        replace d1 := kd.cell0 d1
        replace m0 := kd.cell0 m0
        replace n0 := kd.cell0 n0
        replace q0 := kd.cell0 q0
        replace q1 := kd.cell0 q1
        replace t0 := kd.cell0 t0
        replace t1 := kd.cell0 t1
        replace K1 := hide ((unhide K1).trans kd)
        replace RQ := hide ((unhide RQ).kept kd (by omega))
        replace RR := hide ((unhide RR).kept kd (by omega))
        replace R2' := hide ((unhide R2').kept kd (by omega))
        have hs2 : w2.drew.heap.size = Y + 2 := unhide HZZ
        clear kd hY
        refine wp_region_held_drew (S := (fun w' => w'.cell? ⟨w.heap.size, 0, none⟩ = some (.bool true) ∧ w'.cell? ⟨w.heap.size + 1, 0, none⟩ = some (.bool false) ∧ w'.cell? ⟨w.heap.size + 1, 1, none⟩ = some (.slice a2 ys.length e2) ∧ w'.cell? ⟨Y, 0, none⟩ = some (.slice aq LQ.length cq) ∧ w'.cell? ⟨Y + 1, 0, none⟩ = some (.slice ar LR.length cr))) (by kernel_rfl) ?_ (fun hHeld => ?_)
        · exact ⟨c0, d0, d1, m0, n0⟩
        refine wpAnyH_take (i := 0) (oi := _) (v := .pointer (some ⟨w.heap.size, 0, none⟩)) rfl (by kernel_rfl) (by kernel_rfl) (by kernel_rfl) (fun _ _ _ h => h) (Or.inl ⟨by rfl, ?_⟩) hHeld ?_
        · intro wq hSw
          try dsimp only at hSw
          go_simp
        try simp only [Act.put, List.getElem_toArray, List.getElem_cons_succ, List.getElem_cons_zero, List.setIfInBounds_toArray, List.set_cons_zero, List.set_cons_succ]
        refine wpAnyH_take (i := 1) (oi := _) (v := .bool true) rfl (by kernel_rfl) (by kernel_rfl) (by kernel_rfl) (fun _ _ _ h => h) (Or.inl ⟨by rfl, ?_⟩) hHeld ?_
        · intro wq hSw
          try dsimp only at hSw
          go_simp
        try simp only [Act.put, List.getElem_toArray, List.getElem_cons_succ, List.getElem_cons_zero, List.setIfInBounds_toArray, List.set_cons_zero, List.set_cons_succ]
        refine wpAnyH_take (i := 2) (oi := _) (v := .pointer (some ⟨w.heap.size + 1, 0, none⟩)) rfl (by kernel_rfl) (by kernel_rfl) (by kernel_rfl) (fun _ _ _ h => h) (Or.inl ⟨by rfl, ?_⟩) hHeld ?_
        · intro wq hSw
          try dsimp only at hSw
          go_simp
        try simp only [Act.put, List.getElem_toArray, List.getElem_cons_succ, List.getElem_cons_zero, List.setIfInBounds_toArray, List.set_cons_zero, List.set_cons_succ]
        refine wpAnyH_take (i := 3) (oi := _) (v := .bool false) rfl (by kernel_rfl) (by kernel_rfl) (by kernel_rfl) (fun _ _ _ h => h) (Or.inl ⟨by rfl, ?_⟩) hHeld ?_
        · intro wq hSw
          try dsimp only at hSw
          go_simp
        try simp only [Act.put, List.getElem_toArray, List.getElem_cons_succ, List.getElem_cons_zero, List.setIfInBounds_toArray, List.set_cons_zero, List.set_cons_succ]
        refine wpAnyH_take (i := 4) (oi := _) (v := .bool true) rfl (by kernel_rfl) (by kernel_rfl) (by kernel_rfl) (fun _ _ _ h => h) (Or.inl ⟨by rfl, ?_⟩) hHeld ?_
        · intro wq hSw
          try dsimp only at hSw
          go_simp
        try simp only [Act.put, List.getElem_toArray, List.getElem_cons_succ, List.getElem_cons_zero, List.setIfInBounds_toArray, List.set_cons_zero, List.set_cons_succ]
        refine wpAnyH_take (i := 5) (oi := _) (v := .agg #[.slice aq LQ.length cq]) rfl (by kernel_rfl) (by kernel_rfl) (by kernel_rfl) (fun _ _ _ h => h) (Or.inl ⟨by rfl, ?_⟩) hHeld ?_
        · intro wq hSw
          try dsimp only at hSw
          go_simp
        try simp only [Act.put, List.getElem_toArray, List.getElem_cons_succ, List.getElem_cons_zero, List.setIfInBounds_toArray, List.set_cons_zero, List.set_cons_succ]
        refine wpAnyH_take (i := 9) (oi := _) (v := .pointer (some ⟨w.heap.size + 1, 1, none⟩)) rfl (by kernel_rfl) (by kernel_rfl) (by kernel_rfl) (fun _ _ _ h => h) (Or.inl ⟨by rfl, ?_⟩) hHeld ?_
        · intro wq hSw
          try dsimp only at hSw
          go_simp
        try simp only [Act.put, List.getElem_toArray, List.getElem_cons_succ, List.getElem_cons_zero, List.setIfInBounds_toArray, List.set_cons_zero, List.set_cons_succ]
        refine wpAnyH_take (i := 10) (oi := _) (v := .agg #[.slice a2 ys.length e2]) rfl (by kernel_rfl) (by kernel_rfl) (by kernel_rfl) (fun _ _ _ h => h) (Or.inl ⟨by rfl, ?_⟩) hHeld ?_
        · intro wq hSw
          try dsimp only at hSw
          go_simp
        try simp only [Act.put, List.getElem_toArray, List.getElem_cons_succ, List.getElem_cons_zero, List.setIfInBounds_toArray, List.set_cons_zero, List.set_cons_succ]
        refine wpAnyH_take (i := 11) (oi := _) (v := .agg #[.slice ar LR.length cr]) rfl (by kernel_rfl) (by kernel_rfl) (by kernel_rfl) (fun _ _ _ h => h) (Or.inl ⟨by rfl, ?_⟩) hHeld ?_
        · intro wq hSw
          try dsimp only at hSw
          go_simp
        try simp only [Act.put, List.getElem_toArray, List.getElem_cons_succ, List.getElem_cons_zero, List.setIfInBounds_toArray, List.set_cons_zero, List.set_cons_succ]
        refine wpAnyH_ready (rs := [6]) (by kernel_rfl) (by simp) ?_
        refine AllReadyH.cons rfl (fun KK hK => ?_) AllReadyH.nil
        simp only [List.getElem_toArray, List.getElem_cons_succ, List.getElem_cons_zero]
        rw [if_pos (by rfl)]
        refine wps1 28 (.const (.int .i64 1)) _ rfl in_l2ofD (.int .i64 1) rfl (of_spec w2.drew 1 (by decide)) ?_
        rintro e wa ⟨v_wa, rfl, r_wa, k_wa⟩
        refine ⟨_, rfl, ?_⟩
        replace f0 := k_wa.loose0 (World.block_lt_of_cell? _ _ q0) f0
        replace f1 := k_wa.loose0 (World.block_lt_of_cell? _ _ q1) f1
        replace g0 := k_wa.loose0 (World.block_lt_of_cell? _ _ t0) g0
        replace g1 := k_wa.loose0 (World.block_lt_of_cell? _ _ t1) g1
        replace c0 := k_wa.cell0 c0
        replace c1 := k_wa.cell0 c1
        replace d0 := k_wa.cell0 d0
        replace d1 := k_wa.cell0 d1
        replace m0 := k_wa.cell0 m0
        replace n0 := k_wa.cell0 n0
        replace q0 := k_wa.cell0 q0
        replace q1 := k_wa.cell0 q1
        replace t0 := k_wa.cell0 t0
        replace t1 := k_wa.cell0 t1
        replace K1 := hide ((unhide K1).trans k_wa)
        replace RQ := hide ((unhide RQ).kept k_wa (by omega))
        replace RR := hide ((unhide RR).kept k_wa (by omega))
        replace R2' := hide ((unhide R2').kept k_wa (by omega))
        have z_wa : w2.drew.heap.size ≤ wa.heap.size := k_wa.size
        obtain ⟨a_wa, d_wa, hv_wa⟩ := Row.form' r_wa
        subst hv_wa
        have RA := hide r_wa
        clear r_wa k_wa
        clear hHeld
        refine hK.out _ _ ?_ (fun hHeld => ?_)
        · exact ⟨c0, d0, d1, m0, n0⟩
        clear hK KK
        try simp only [Act.put, List.getElem_toArray, List.getElem_cons_succ, List.getElem_cons_zero, List.setIfInBounds_toArray, List.set_cons_zero, List.set_cons_succ]
        have hq1 := add_spec wa (unhide RQ) (unhide RA) (unhide HLIM).1 (unhide HONE).1 (by have := (unhide HLIM).2.1; omega) (unhide HONE).2.1
        rw [(unhide HONE).2.2] at hq1
        refine wpAnyH_ready (rs := [7]) (by kernel_rfl) (by simp) ?_
        refine AllReadyH.cons rfl (fun KK hK => ?_) AllReadyH.nil
        simp only [List.getElem_toArray, List.getElem_cons_succ, List.getElem_cons_zero]
        rw [if_pos (by rfl)]
        refine wps2 27 (.tmp 39) (.tmp 40) _ rfl in_l2addD (.agg #[.slice aq LQ.length cq]) (.agg #[.slice a_wa (limbs (1 : Int).toNat).length d_wa]) rfl rfl hq1 ?_
        rintro e wb ⟨v_wb, rfl, r_wb, k_wb⟩
        refine ⟨_, rfl, ?_⟩
        replace f0 := k_wb.loose0 (World.block_lt_of_cell? _ _ q0) f0
        replace f1 := k_wb.loose0 (World.block_lt_of_cell? _ _ q1) f1
        replace g0 := k_wb.loose0 (World.block_lt_of_cell? _ _ t0) g0
        replace g1 := k_wb.loose0 (World.block_lt_of_cell? _ _ t1) g1
        replace c0 := k_wb.cell0 c0
        replace c1 := k_wb.cell0 c1
        replace d0 := k_wb.cell0 d0
        replace d1 := k_wb.cell0 d1
        replace m0 := k_wb.cell0 m0
        replace n0 := k_wb.cell0 n0
        replace q0 := k_wb.cell0 q0
        replace q1 := k_wb.cell0 q1
        replace t0 := k_wb.cell0 t0
        replace t1 := k_wb.cell0 t1
        replace K1 := hide ((unhide K1).trans k_wb)
        replace RR := hide ((unhide RR).kept k_wb (by omega))
        replace R2' := hide ((unhide R2').kept k_wb (by omega))
        have z_wb : wa.heap.size ≤ wb.heap.size := k_wb.size
        obtain ⟨a_wb, d_wb, hv_wb⟩ := Row.form' r_wb
        subst hv_wb
        have RB := hide r_wb
        clear r_wb k_wb hq1 RA RQ
        clear hHeld
        refine hK.out _ _ ?_ (fun hHeld => ?_)
        · exact ⟨c0, d0, d1, m0, n0⟩
        clear hK KK
        try simp only [Act.put, List.getElem_toArray, List.getElem_cons_succ, List.getElem_cons_zero, List.setIfInBounds_toArray, List.set_cons_zero, List.set_cons_succ]
        have hmq := make_spec true wb (unhide RB) (unhide HQ1).1 (unhide HQ1).2.1
        rw [(unhide HQ1).2.2] at hmq
        refine wpAnyH_ready (rs := [8]) (by kernel_rfl) (by simp) ?_
        refine AllReadyH.cons rfl (fun KK hK => ?_) AllReadyH.nil
        simp only [List.getElem_toArray, List.getElem_cons_succ, List.getElem_cons_zero]
        rw [if_pos (by rfl)]
        refine wps2 26 (.tmp 38) (.tmp 41) _ rfl in_l3makeD (.bool true) (.agg #[.slice a_wb LQ1.length d_wb]) rfl rfl hmq ?_
        rintro e w3 ⟨v_w3, rfl, r_w3, k_w3⟩
        refine ⟨_, rfl, ?_⟩
        replace f0 := k_w3.loose0 (World.block_lt_of_cell? _ _ q0) f0
        replace f1 := k_w3.loose0 (World.block_lt_of_cell? _ _ q1) f1
        replace g0 := k_w3.loose0 (World.block_lt_of_cell? _ _ t0) g0
        replace g1 := k_w3.loose0 (World.block_lt_of_cell? _ _ t1) g1
        replace c0 := k_w3.cell0 c0
        replace c1 := k_w3.cell0 c1
        replace d0 := k_w3.cell0 d0
        replace d1 := k_w3.cell0 d1
        replace m0 := k_w3.cell0 m0
        replace n0 := k_w3.cell0 n0
        replace q0 := k_w3.cell0 q0
        replace q1 := k_w3.cell0 q1
        replace t0 := k_w3.cell0 t0
        replace t1 := k_w3.cell0 t1
        replace K1 := hide ((unhide K1).trans k_w3)
        replace RR := hide ((unhide RR).kept k_w3 (by omega))
        replace R2' := hide ((unhide R2').kept k_w3 (by omega))
        have z_w3 : wb.heap.size ≤ w3.heap.size := k_w3.size
        obtain ⟨a3, d3, hv_w3⟩ := Row.form' r_w3
        subst hv_w3
        have R3 := hide (r_w3.wider (lo' := w2.drew.heap.size) (hi' := w3.heap.size) (by omega) (Nat.le_refl _))
        clear r_w3 k_w3 hmq RB
        clear hHeld
        refine hK.out _ _ ?_ (fun hHeld => ?_)
        · exact ⟨c0, d0, d1, m0, n0⟩
        clear hK KK
        try simp only [Act.put, List.getElem_toArray, List.getElem_cons_succ, List.getElem_cons_zero, List.setIfInBounds_toArray, List.set_cons_zero, List.set_cons_succ]
        have hsb := sub_spec w3 (unhide R2') (unhide RR) (unhide HSB).1 (unhide HLIM).2.2.2.1 (unhide HSB).2.1 (unhide HSB).2.2.1 (unhide HSB).2.2.2.1
        rw [(unhide HSB).2.2.2.2] at hsb
        refine wpAnyH_ready (rs := [12]) (by kernel_rfl) (by simp) ?_
        refine AllReadyH.cons rfl (fun KK hK => ?_) AllReadyH.nil
        simp only [List.getElem_toArray, List.getElem_cons_succ, List.getElem_cons_zero]
        rw [if_pos (by rfl)]
        refine wps2 29 (.tmp 44) (.tmp 45) _ rfl in_l2subD (.agg #[.slice a2 ys.length e2]) (.agg #[.slice ar LR.length cr]) rfl rfl hsb ?_
        rintro e wd ⟨v_wd, rfl, r_wd, k_wd⟩
        refine ⟨_, rfl, ?_⟩
        replace f0 := k_wd.loose0 (World.block_lt_of_cell? _ _ q0) f0
        replace f1 := k_wd.loose0 (World.block_lt_of_cell? _ _ q1) f1
        replace g0 := k_wd.loose0 (World.block_lt_of_cell? _ _ t0) g0
        replace g1 := k_wd.loose0 (World.block_lt_of_cell? _ _ t1) g1
        replace c0 := k_wd.cell0 c0
        replace c1 := k_wd.cell0 c1
        replace d0 := k_wd.cell0 d0
        replace d1 := k_wd.cell0 d1
        replace m0 := k_wd.cell0 m0
        replace n0 := k_wd.cell0 n0
        replace q0 := k_wd.cell0 q0
        replace q1 := k_wd.cell0 q1
        replace t0 := k_wd.cell0 t0
        replace t1 := k_wd.cell0 t1
        replace K1 := hide ((unhide K1).trans k_wd)
        have z_wd : w3.heap.size ≤ wd.heap.size := k_wd.size
        obtain ⟨a_wd, d_wd, hv_wd⟩ := Row.form' r_wd
        subst hv_wd
        replace R3 := hide (((unhide R3).kept k_wd (by omega)).wider (lo' := w2.drew.heap.size) (hi' := wd.heap.size) (Nat.le_refl _) k_wd.size)
        have RD := hide r_wd
        clear r_wd k_wd hsb RR R2'
        clear hHeld
        refine hK.out _ _ ?_ (fun hHeld => ?_)
        · exact ⟨c0, d0, d1, m0, n0⟩
        clear hK KK
        try simp only [Act.put, List.getElem_toArray, List.getElem_cons_succ, List.getElem_cons_zero, List.setIfInBounds_toArray, List.set_cons_zero, List.set_cons_succ]
        have hmr := make_spec false wd (unhide RD) (unhide HR1).1 (unhide HR1).2.1
        rw [(unhide HR1).2.2, Bool.false_and] at hmr
        refine wpAnyH_ready (rs := [13]) (by kernel_rfl) (by simp) ?_
        refine AllReadyH.cons rfl (fun KK hK => ?_) AllReadyH.nil
        simp only [List.getElem_toArray, List.getElem_cons_succ, List.getElem_cons_zero]
        rw [if_pos (by rfl)]
        refine wps2 26 (.const (.bool false)) (.tmp 46) _ rfl in_l3makeD (.bool false) (.agg #[.slice a_wd LR1.length d_wd]) rfl rfl hmr ?_
        rintro e w4 ⟨v_w4, rfl, r_w4, k_w4⟩
        refine ⟨_, rfl, ?_⟩
        replace f0 := k_w4.loose0 (World.block_lt_of_cell? _ _ q0) f0
        replace f1 := k_w4.loose0 (World.block_lt_of_cell? _ _ q1) f1
        replace g0 := k_w4.loose0 (World.block_lt_of_cell? _ _ t0) g0
        replace g1 := k_w4.loose0 (World.block_lt_of_cell? _ _ t1) g1
        replace c0 := k_w4.cell0 c0
        replace c1 := k_w4.cell0 c1
        replace d0 := k_w4.cell0 d0
        replace d1 := k_w4.cell0 d1
        replace m0 := k_w4.cell0 m0
        replace n0 := k_w4.cell0 n0
        replace q0 := k_w4.cell0 q0
        replace q1 := k_w4.cell0 q1
        replace t0 := k_w4.cell0 t0
        replace t1 := k_w4.cell0 t1
        replace K1 := hide ((unhide K1).trans k_w4)
        have z_w4 : wd.heap.size ≤ w4.heap.size := k_w4.size
        obtain ⟨a4, d4, hv_w4⟩ := Row.form' r_w4
        subst hv_w4
        replace R3 := hide (((unhide R3).kept k_w4 (by omega)).wider (lo' := w2.drew.heap.size) (hi' := w4.heap.size) (Nat.le_refl _) k_w4.size)
        have R4 := hide (r_w4.wider (lo' := w2.drew.heap.size) (hi' := w4.heap.size) (by omega) (Nat.le_refl _))
        clear r_w4 k_w4 hmr RD
        obtain ⟨SQ, hSQ⟩ : ∃ q, q = (true && decide (0 < LQ1.length)) := ⟨_, rfl⟩
        rw [← hSQ]
        have HSQ := hide hSQ
        clear hSQ
        clear hHeld
        refine hK.out _ _ ?_ (fun hHeld => ?_)
        · exact ⟨c0, d0, d1, m0, n0⟩
        clear hK KK
        try simp only [Act.put, List.getElem_toArray, List.getElem_cons_succ, List.getElem_cons_zero, List.setIfInBounds_toArray, List.set_cons_zero, List.set_cons_succ]
        refine wpAnyH_ready (rs := [14]) (by kernel_rfl) (by simp) ?_
        refine AllReadyH.cons rfl (fun KK hK => ?_) AllReadyH.nil
        simp only [List.getElem_toArray, List.getElem_cons_succ, List.getElem_cons_zero]
        rw [if_pos (by rfl)]
        go_simp
        have ks1 : Kept (w.heap.size + 2) (w.heap.size + 4) w4 ((w4.setCell ⟨w.heap.size + 2, 0, none⟩ (.bool SQ)).setCell ⟨w.heap.size + 2, 1, none⟩ (.slice a3 LQ1.length d3)) := ((Kept.refl _ _ _).setCell (p := ⟨w.heap.size + 2, 0, none⟩) (Nat.le_refl _) (by dsimp only; omega) _).setCell (p := ⟨w.heap.size + 2, 1, none⟩) (Nat.le_refl _) (by dsimp only; omega) _
        have Q0 := cell_off _ _ _ 1 (.slice a3 LQ1.length d3) _ (cell_on _ _ _ (.bool SQ) _ q0) (show (0 : Nat) ≠ 1 by omega)
        have Q1 := cell_on _ _ _ (.slice a3 LQ1.length d3) _ (cell_off _ _ _ 0 (.bool SQ) _ q1 (show (1 : Nat) ≠ 0 by omega))
        have T0 : ((w4.setCell ⟨w.heap.size + 2, 0, none⟩ (.bool SQ)).setCell ⟨w.heap.size + 2, 1, none⟩ (.slice a3 LQ1.length d3)).cell? ⟨w.heap.size + 3, 0, none⟩ = some (.bool false) := (cell_aside _ (by dsimp only; omega) (cell_aside _ (by dsimp only; omega) t0))
        have T1 : ((w4.setCell ⟨w.heap.size + 2, 0, none⟩ (.bool SQ)).setCell ⟨w.heap.size + 2, 1, none⟩ (.slice a3 LQ1.length d3)).cell? ⟨w.heap.size + 3, 1, none⟩ = some (.slice none 0 0) := (cell_aside _ (by dsimp only; omega) (cell_aside _ (by dsimp only; omega) t1))
        have G0' : ((w4.setCell ⟨w.heap.size + 2, 0, none⟩ (.bool SQ)).setCell ⟨w.heap.size + 2, 1, none⟩ (.slice a3 LQ1.length d3)).frozen? ⟨w.heap.size + 3, 0, none⟩ = false := by rw [frozen_set, frozen_set]; exact g0
        have G1' : ((w4.setCell ⟨w.heap.size + 2, 0, none⟩ (.bool SQ)).setCell ⟨w.heap.size + 2, 1, none⟩ (.slice a3 LQ1.length d3)).frozen? ⟨w.heap.size + 3, 1, none⟩ = false := by rw [frozen_set, frozen_set]; exact g1
        have c0' : ((w4.setCell ⟨w.heap.size + 2, 0, none⟩ (.bool SQ)).setCell ⟨w.heap.size + 2, 1, none⟩ (.slice a3 LQ1.length d3)).cell? ⟨w.heap.size, 0, none⟩ = some (.bool true) := (cell_aside _ (by dsimp only; omega) (cell_aside _ (by dsimp only; omega) c0))
        have d0' : ((w4.setCell ⟨w.heap.size + 2, 0, none⟩ (.bool SQ)).setCell ⟨w.heap.size + 2, 1, none⟩ (.slice a3 LQ1.length d3)).cell? ⟨w.heap.size + 1, 0, none⟩ = some (.bool false) := (cell_aside _ (by dsimp only; omega) (cell_aside _ (by dsimp only; omega) d0))
        have d1' : ((w4.setCell ⟨w.heap.size + 2, 0, none⟩ (.bool SQ)).setCell ⟨w.heap.size + 2, 1, none⟩ (.slice a3 LQ1.length d3)).cell? ⟨w.heap.size + 1, 1, none⟩ = some (.slice a2 ys.length e2) := (cell_aside _ (by dsimp only; omega) (cell_aside _ (by dsimp only; omega) d1))
        have m0' : ((w4.setCell ⟨w.heap.size + 2, 0, none⟩ (.bool SQ)).setCell ⟨w.heap.size + 2, 1, none⟩ (.slice a3 LQ1.length d3)).cell? ⟨Y, 0, none⟩ = some (.slice aq LQ.length cq) := (cell_aside _ (by dsimp only; omega) (cell_aside _ (by dsimp only; omega) m0))
        have n0' : ((w4.setCell ⟨w.heap.size + 2, 0, none⟩ (.bool SQ)).setCell ⟨w.heap.size + 2, 1, none⟩ (.slice a3 LQ1.length d3)).cell? ⟨Y + 1, 0, none⟩ = some (.slice ar LR.length cr) := (cell_aside _ (by dsimp only; omega) (cell_aside _ (by dsimp only; omega) n0))
        clear q0 q1 t0 t1 g0 g1 f0 f1 c1
        clear hHeld
        refine hK.out _ _ ?_ (fun hHeld => ?_)
        · exact ⟨c0', d0', d1', m0', n0'⟩
        clear hK KK
        try simp only [Act.put, List.getElem_toArray, List.getElem_cons_succ, List.getElem_cons_zero, List.setIfInBounds_toArray, List.set_cons_zero, List.set_cons_succ]
        refine wpAnyH_ready (rs := [15]) (by kernel_rfl) (by simp) ?_
        refine AllReadyH.cons rfl (fun KK hK => ?_) AllReadyH.nil
        simp only [List.getElem_toArray, List.getElem_cons_succ, List.getElem_cons_zero]
        rw [if_pos (by rfl)]
        go_simp
        clear hHeld
        refine hK.out _ _ ?_ (fun hHeld => ?_)
        · exact ⟨(cell_aside _ (by dsimp only; omega) (cell_aside _ (by dsimp only; omega) c0')), (cell_aside _ (by dsimp only; omega) (cell_aside _ (by dsimp only; omega) d0')), (cell_aside _ (by dsimp only; omega) (cell_aside _ (by dsimp only; omega) d1')), (cell_aside _ (by dsimp only; omega) (cell_aside _ (by dsimp only; omega) m0')), (cell_aside _ (by dsimp only; omega) (cell_aside _ (by dsimp only; omega) n0'))⟩
        clear hK KK
        try simp only [Act.put, List.getElem_toArray, List.getElem_cons_succ, List.getElem_cons_zero, List.setIfInBounds_toArray, List.set_cons_zero, List.set_cons_succ]
        refine wpAnyH_done (by kernel_rfl) ?_ _
        clear hHeld
        have ks2 : Kept (w.heap.size + 2) (w.heap.size + 4) w4 ((((w4.setCell ⟨w.heap.size + 2, 0, none⟩ (.bool SQ)).setCell ⟨w.heap.size + 2, 1, none⟩ (.slice a3 LQ1.length d3)).setCell ⟨w.heap.size + 3, 0, none⟩ (.bool false)).setCell ⟨w.heap.size + 3, 1, none⟩ (.slice a4 LR1.length d4)) := (ks1.setCell (p := ⟨w.heap.size + 3, 0, none⟩) (by dsimp only; omega) (by dsimp only; omega) _).setCell (p := ⟨w.heap.size + 3, 1, none⟩) (by dsimp only; omega) (by dsimp only; omega) _
        have A0 : ((((w4.setCell ⟨w.heap.size + 2, 0, none⟩ (.bool SQ)).setCell ⟨w.heap.size + 2, 1, none⟩ (.slice a3 LQ1.length d3)).setCell ⟨w.heap.size + 3, 0, none⟩ (.bool false)).setCell ⟨w.heap.size + 3, 1, none⟩ (.slice a4 LR1.length d4)).cell? ⟨w.heap.size + 2, 0, none⟩ = some (.bool SQ) := (cell_aside _ (by dsimp only; omega) (cell_aside _ (by dsimp only; omega) Q0))
        have A1 : ((((w4.setCell ⟨w.heap.size + 2, 0, none⟩ (.bool SQ)).setCell ⟨w.heap.size + 2, 1, none⟩ (.slice a3 LQ1.length d3)).setCell ⟨w.heap.size + 3, 0, none⟩ (.bool false)).setCell ⟨w.heap.size + 3, 1, none⟩ (.slice a4 LR1.length d4)).cell? ⟨w.heap.size + 2, 1, none⟩ = some (.slice a3 LQ1.length d3) := (cell_aside _ (by dsimp only; omega) (cell_aside _ (by dsimp only; omega) Q1))
        have B0 := cell_off _ _ _ 1 (.slice a4 LR1.length d4) _ (cell_on _ _ _ (.bool false) _ T0) (show (0 : Nat) ≠ 1 by omega)
        have B1 := cell_on _ _ _ (.slice a4 LR1.length d4) _ (cell_off _ _ _ 0 (.bool false) _ T1 (show (1 : Nat) ≠ 0 by omega))
        have hsz : ((((w4.setCell ⟨w.heap.size + 2, 0, none⟩ (.bool SQ)).setCell ⟨w.heap.size + 2, 1, none⟩ (.slice a3 LQ1.length d3)).setCell ⟨w.heap.size + 3, 0, none⟩ (.bool false)).setCell ⟨w.heap.size + 3, 1, none⟩ (.slice a4 LR1.length d4)).heap.size = w4.heap.size := by rw [size_set, size_set, size_set, size_set]
        have E3 := hide (((unhide R3).kept ks2 (by omega)).wider (lo' := w.heap.size) (hi' := ((((w4.setCell ⟨w.heap.size + 2, 0, none⟩ (.bool SQ)).setCell ⟨w.heap.size + 2, 1, none⟩ (.slice a3 LQ1.length d3)).setCell ⟨w.heap.size + 3, 0, none⟩ (.bool false)).setCell ⟨w.heap.size + 3, 1, none⟩ (.slice a4 LR1.length d4)).heap.size) (by omega) (by omega))
        have E4 := hide (((unhide R4).kept ks2 (by omega)).wider (lo' := w.heap.size) (hi' := ((((w4.setCell ⟨w.heap.size + 2, 0, none⟩ (.bool SQ)).setCell ⟨w.heap.size + 2, 1, none⟩ (.slice a3 LQ1.length d3)).setCell ⟨w.heap.size + 3, 0, none⟩ (.bool false)).setCell ⟨w.heap.size + 3, 1, none⟩ (.slice a4 LR1.length d4)).heap.size) (by omega) (by omega))
        have K7 := hide ((unhide K1).wide ks2 (by omega))
        clear ks1 ks2 hsz R3 R4 K1 c0 d0 d1 m0 n0 c0' d0' d1' m0' n0' Q0 Q1 T0 T1 G0' G1'
        go_wp2_with fail
        exact bodyPost_ret (v := .tuple #[.agg #[.bool SQ, .slice a3 LQ1.length d3], .agg #[.bool false, .slice a4 LR1.length d4]]) (by simp [results, Try.results13, go_sem, A0, A1, B0, B1]) rfl ⟨_, _, by rw [(unhide HWD).1, unhide HSQ]; rfl, by rw [(unhide HWD).1]; exact unhide E3, by rw [(unhide HWD).2]; exact unhide E4, unhide K7⟩
      · go_wp2_with fail
        rw [← hY]
        generalize ((w1.alloc (.cells #[.slice aq LQ.length cq] 28)).alloc (.cells #[.slice ar LR.length cr] 28)) = w2 at *
        have kd := (Kept.refl 0 0 w2).drew
        replace f0 := kd.loose0 (World.block_lt_of_cell? _ _ q0) f0
        replace f1 := kd.loose0 (World.block_lt_of_cell? _ _ q1) f1
        replace g0 := kd.loose0 (World.block_lt_of_cell? _ _ t0) g0
        replace g1 := kd.loose0 (World.block_lt_of_cell? _ _ t1) g1
        replace c0 := kd.cell0 c0
        replace c1 := kd.cell0 c1
        replace d0 := kd.cell0 d0
        replace d1 := kd.cell0 d1
        replace m0 := kd.cell0 m0
        replace n0 := kd.cell0 n0
        replace q0 := kd.cell0 q0
        replace q1 := kd.cell0 q1
        replace t0 := kd.cell0 t0
        replace t1 := kd.cell0 t1
        replace K1 := hide ((unhide K1).trans kd)
        replace RQ := hide ((unhide RQ).kept kd (by omega))
        replace RR := hide ((unhide RR).kept kd (by omega))
        replace R2' := hide ((unhide R2').kept kd (by omega))
        have hs2 : w2.drew.heap.size = Y + 2 := unhide HZZ
        clear kd hY
        refine wp_region_held_drew (S := (fun w' => w'.cell? ⟨w.heap.size, 0, none⟩ = some (.bool true) ∧ w'.cell? ⟨w.heap.size + 1, 0, none⟩ = some (.bool true) ∧ w'.cell? ⟨w.heap.size + 1, 1, none⟩ = some (.slice a2 ys.length e2) ∧ w'.cell? ⟨Y, 0, none⟩ = some (.slice aq LQ.length cq) ∧ w'.cell? ⟨Y + 1, 0, none⟩ = some (.slice ar LR.length cr))) (by kernel_rfl) ?_ (fun hHeld => ?_)
        · exact ⟨c0, d0, d1, m0, n0⟩
        refine wpAnyH_take (i := 0) (oi := _) (v := .pointer (some ⟨w.heap.size, 0, none⟩)) rfl (by kernel_rfl) (by kernel_rfl) (by kernel_rfl) (fun _ _ _ h => h) (Or.inl ⟨by rfl, ?_⟩) hHeld ?_
        · intro wq hSw
          try dsimp only at hSw
          go_simp
        try simp only [Act.put, List.getElem_toArray, List.getElem_cons_succ, List.getElem_cons_zero, List.setIfInBounds_toArray, List.set_cons_zero, List.set_cons_succ]
        refine wpAnyH_take (i := 1) (oi := _) (v := .bool true) rfl (by kernel_rfl) (by kernel_rfl) (by kernel_rfl) (fun _ _ _ h => h) (Or.inl ⟨by rfl, ?_⟩) hHeld ?_
        · intro wq hSw
          try dsimp only at hSw
          go_simp
        try simp only [Act.put, List.getElem_toArray, List.getElem_cons_succ, List.getElem_cons_zero, List.setIfInBounds_toArray, List.set_cons_zero, List.set_cons_succ]
        refine wpAnyH_take (i := 2) (oi := _) (v := .pointer (some ⟨w.heap.size + 1, 0, none⟩)) rfl (by kernel_rfl) (by kernel_rfl) (by kernel_rfl) (fun _ _ _ h => h) (Or.inl ⟨by rfl, ?_⟩) hHeld ?_
        · intro wq hSw
          try dsimp only at hSw
          go_simp
        try simp only [Act.put, List.getElem_toArray, List.getElem_cons_succ, List.getElem_cons_zero, List.setIfInBounds_toArray, List.set_cons_zero, List.set_cons_succ]
        refine wpAnyH_take (i := 3) (oi := _) (v := .bool true) rfl (by kernel_rfl) (by kernel_rfl) (by kernel_rfl) (fun _ _ _ h => h) (Or.inl ⟨by rfl, ?_⟩) hHeld ?_
        · intro wq hSw
          try dsimp only at hSw
          go_simp
        try simp only [Act.put, List.getElem_toArray, List.getElem_cons_succ, List.getElem_cons_zero, List.setIfInBounds_toArray, List.set_cons_zero, List.set_cons_succ]
        refine wpAnyH_take (i := 4) (oi := _) (v := .bool false) rfl (by kernel_rfl) (by kernel_rfl) (by kernel_rfl) (fun _ _ _ h => h) (Or.inl ⟨by rfl, ?_⟩) hHeld ?_
        · intro wq hSw
          try dsimp only at hSw
          go_simp
        try simp only [Act.put, List.getElem_toArray, List.getElem_cons_succ, List.getElem_cons_zero, List.setIfInBounds_toArray, List.set_cons_zero, List.set_cons_succ]
        refine wpAnyH_take (i := 5) (oi := _) (v := .agg #[.slice aq LQ.length cq]) rfl (by kernel_rfl) (by kernel_rfl) (by kernel_rfl) (fun _ _ _ h => h) (Or.inl ⟨by rfl, ?_⟩) hHeld ?_
        · intro wq hSw
          try dsimp only at hSw
          go_simp
        try simp only [Act.put, List.getElem_toArray, List.getElem_cons_succ, List.getElem_cons_zero, List.setIfInBounds_toArray, List.set_cons_zero, List.set_cons_succ]
        refine wpAnyH_take (i := 9) (oi := _) (v := .pointer (some ⟨w.heap.size + 1, 1, none⟩)) rfl (by kernel_rfl) (by kernel_rfl) (by kernel_rfl) (fun _ _ _ h => h) (Or.inl ⟨by rfl, ?_⟩) hHeld ?_
        · intro wq hSw
          try dsimp only at hSw
          go_simp
        try simp only [Act.put, List.getElem_toArray, List.getElem_cons_succ, List.getElem_cons_zero, List.setIfInBounds_toArray, List.set_cons_zero, List.set_cons_succ]
        refine wpAnyH_take (i := 10) (oi := _) (v := .agg #[.slice a2 ys.length e2]) rfl (by kernel_rfl) (by kernel_rfl) (by kernel_rfl) (fun _ _ _ h => h) (Or.inl ⟨by rfl, ?_⟩) hHeld ?_
        · intro wq hSw
          try dsimp only at hSw
          go_simp
        try simp only [Act.put, List.getElem_toArray, List.getElem_cons_succ, List.getElem_cons_zero, List.setIfInBounds_toArray, List.set_cons_zero, List.set_cons_succ]
        refine wpAnyH_take (i := 11) (oi := _) (v := .agg #[.slice ar LR.length cr]) rfl (by kernel_rfl) (by kernel_rfl) (by kernel_rfl) (fun _ _ _ h => h) (Or.inl ⟨by rfl, ?_⟩) hHeld ?_
        · intro wq hSw
          try dsimp only at hSw
          go_simp
        try simp only [Act.put, List.getElem_toArray, List.getElem_cons_succ, List.getElem_cons_zero, List.setIfInBounds_toArray, List.set_cons_zero, List.set_cons_succ]
        refine wpAnyH_ready (rs := [6]) (by kernel_rfl) (by simp) ?_
        refine AllReadyH.cons rfl (fun KK hK => ?_) AllReadyH.nil
        simp only [List.getElem_toArray, List.getElem_cons_succ, List.getElem_cons_zero]
        rw [if_pos (by rfl)]
        refine wps1 28 (.const (.int .i64 1)) _ rfl in_l2ofD (.int .i64 1) rfl (of_spec w2.drew 1 (by decide)) ?_
        rintro e wa ⟨v_wa, rfl, r_wa, k_wa⟩
        refine ⟨_, rfl, ?_⟩
        replace f0 := k_wa.loose0 (World.block_lt_of_cell? _ _ q0) f0
        replace f1 := k_wa.loose0 (World.block_lt_of_cell? _ _ q1) f1
        replace g0 := k_wa.loose0 (World.block_lt_of_cell? _ _ t0) g0
        replace g1 := k_wa.loose0 (World.block_lt_of_cell? _ _ t1) g1
        replace c0 := k_wa.cell0 c0
        replace c1 := k_wa.cell0 c1
        replace d0 := k_wa.cell0 d0
        replace d1 := k_wa.cell0 d1
        replace m0 := k_wa.cell0 m0
        replace n0 := k_wa.cell0 n0
        replace q0 := k_wa.cell0 q0
        replace q1 := k_wa.cell0 q1
        replace t0 := k_wa.cell0 t0
        replace t1 := k_wa.cell0 t1
        replace K1 := hide ((unhide K1).trans k_wa)
        replace RQ := hide ((unhide RQ).kept k_wa (by omega))
        replace RR := hide ((unhide RR).kept k_wa (by omega))
        replace R2' := hide ((unhide R2').kept k_wa (by omega))
        have z_wa : w2.drew.heap.size ≤ wa.heap.size := k_wa.size
        obtain ⟨a_wa, d_wa, hv_wa⟩ := Row.form' r_wa
        subst hv_wa
        have RA := hide r_wa
        clear r_wa k_wa
        clear hHeld
        refine hK.out _ _ ?_ (fun hHeld => ?_)
        · exact ⟨c0, d0, d1, m0, n0⟩
        clear hK KK
        try simp only [Act.put, List.getElem_toArray, List.getElem_cons_succ, List.getElem_cons_zero, List.setIfInBounds_toArray, List.set_cons_zero, List.set_cons_succ]
        have hq1 := add_spec wa (unhide RQ) (unhide RA) (unhide HLIM).1 (unhide HONE).1 (by have := (unhide HLIM).2.1; omega) (unhide HONE).2.1
        rw [(unhide HONE).2.2] at hq1
        refine wpAnyH_ready (rs := [7]) (by kernel_rfl) (by simp) ?_
        refine AllReadyH.cons rfl (fun KK hK => ?_) AllReadyH.nil
        simp only [List.getElem_toArray, List.getElem_cons_succ, List.getElem_cons_zero]
        rw [if_pos (by rfl)]
        refine wps2 27 (.tmp 39) (.tmp 40) _ rfl in_l2addD (.agg #[.slice aq LQ.length cq]) (.agg #[.slice a_wa (limbs (1 : Int).toNat).length d_wa]) rfl rfl hq1 ?_
        rintro e wb ⟨v_wb, rfl, r_wb, k_wb⟩
        refine ⟨_, rfl, ?_⟩
        replace f0 := k_wb.loose0 (World.block_lt_of_cell? _ _ q0) f0
        replace f1 := k_wb.loose0 (World.block_lt_of_cell? _ _ q1) f1
        replace g0 := k_wb.loose0 (World.block_lt_of_cell? _ _ t0) g0
        replace g1 := k_wb.loose0 (World.block_lt_of_cell? _ _ t1) g1
        replace c0 := k_wb.cell0 c0
        replace c1 := k_wb.cell0 c1
        replace d0 := k_wb.cell0 d0
        replace d1 := k_wb.cell0 d1
        replace m0 := k_wb.cell0 m0
        replace n0 := k_wb.cell0 n0
        replace q0 := k_wb.cell0 q0
        replace q1 := k_wb.cell0 q1
        replace t0 := k_wb.cell0 t0
        replace t1 := k_wb.cell0 t1
        replace K1 := hide ((unhide K1).trans k_wb)
        replace RR := hide ((unhide RR).kept k_wb (by omega))
        replace R2' := hide ((unhide R2').kept k_wb (by omega))
        have z_wb : wa.heap.size ≤ wb.heap.size := k_wb.size
        obtain ⟨a_wb, d_wb, hv_wb⟩ := Row.form' r_wb
        subst hv_wb
        have RB := hide r_wb
        clear r_wb k_wb hq1 RA RQ
        clear hHeld
        refine hK.out _ _ ?_ (fun hHeld => ?_)
        · exact ⟨c0, d0, d1, m0, n0⟩
        clear hK KK
        try simp only [Act.put, List.getElem_toArray, List.getElem_cons_succ, List.getElem_cons_zero, List.setIfInBounds_toArray, List.set_cons_zero, List.set_cons_succ]
        have hmq := make_spec false wb (unhide RB) (unhide HQ1).1 (unhide HQ1).2.1
        rw [(unhide HQ1).2.2] at hmq
        refine wpAnyH_ready (rs := [8]) (by kernel_rfl) (by simp) ?_
        refine AllReadyH.cons rfl (fun KK hK => ?_) AllReadyH.nil
        simp only [List.getElem_toArray, List.getElem_cons_succ, List.getElem_cons_zero]
        rw [if_pos (by rfl)]
        refine wps2 26 (.tmp 38) (.tmp 41) _ rfl in_l3makeD (.bool false) (.agg #[.slice a_wb LQ1.length d_wb]) rfl rfl hmq ?_
        rintro e w3 ⟨v_w3, rfl, r_w3, k_w3⟩
        refine ⟨_, rfl, ?_⟩
        replace f0 := k_w3.loose0 (World.block_lt_of_cell? _ _ q0) f0
        replace f1 := k_w3.loose0 (World.block_lt_of_cell? _ _ q1) f1
        replace g0 := k_w3.loose0 (World.block_lt_of_cell? _ _ t0) g0
        replace g1 := k_w3.loose0 (World.block_lt_of_cell? _ _ t1) g1
        replace c0 := k_w3.cell0 c0
        replace c1 := k_w3.cell0 c1
        replace d0 := k_w3.cell0 d0
        replace d1 := k_w3.cell0 d1
        replace m0 := k_w3.cell0 m0
        replace n0 := k_w3.cell0 n0
        replace q0 := k_w3.cell0 q0
        replace q1 := k_w3.cell0 q1
        replace t0 := k_w3.cell0 t0
        replace t1 := k_w3.cell0 t1
        replace K1 := hide ((unhide K1).trans k_w3)
        replace RR := hide ((unhide RR).kept k_w3 (by omega))
        replace R2' := hide ((unhide R2').kept k_w3 (by omega))
        have z_w3 : wb.heap.size ≤ w3.heap.size := k_w3.size
        obtain ⟨a3, d3, hv_w3⟩ := Row.form' r_w3
        subst hv_w3
        have R3 := hide (r_w3.wider (lo' := w2.drew.heap.size) (hi' := w3.heap.size) (by omega) (Nat.le_refl _))
        clear r_w3 k_w3 hmq RB
        clear hHeld
        refine hK.out _ _ ?_ (fun hHeld => ?_)
        · exact ⟨c0, d0, d1, m0, n0⟩
        clear hK KK
        try simp only [Act.put, List.getElem_toArray, List.getElem_cons_succ, List.getElem_cons_zero, List.setIfInBounds_toArray, List.set_cons_zero, List.set_cons_succ]
        have hsb := sub_spec w3 (unhide R2') (unhide RR) (unhide HSB).1 (unhide HLIM).2.2.2.1 (unhide HSB).2.1 (unhide HSB).2.2.1 (unhide HSB).2.2.2.1
        rw [(unhide HSB).2.2.2.2] at hsb
        refine wpAnyH_ready (rs := [12]) (by kernel_rfl) (by simp) ?_
        refine AllReadyH.cons rfl (fun KK hK => ?_) AllReadyH.nil
        simp only [List.getElem_toArray, List.getElem_cons_succ, List.getElem_cons_zero]
        rw [if_pos (by rfl)]
        refine wps2 29 (.tmp 44) (.tmp 45) _ rfl in_l2subD (.agg #[.slice a2 ys.length e2]) (.agg #[.slice ar LR.length cr]) rfl rfl hsb ?_
        rintro e wd ⟨v_wd, rfl, r_wd, k_wd⟩
        refine ⟨_, rfl, ?_⟩
        replace f0 := k_wd.loose0 (World.block_lt_of_cell? _ _ q0) f0
        replace f1 := k_wd.loose0 (World.block_lt_of_cell? _ _ q1) f1
        replace g0 := k_wd.loose0 (World.block_lt_of_cell? _ _ t0) g0
        replace g1 := k_wd.loose0 (World.block_lt_of_cell? _ _ t1) g1
        replace c0 := k_wd.cell0 c0
        replace c1 := k_wd.cell0 c1
        replace d0 := k_wd.cell0 d0
        replace d1 := k_wd.cell0 d1
        replace m0 := k_wd.cell0 m0
        replace n0 := k_wd.cell0 n0
        replace q0 := k_wd.cell0 q0
        replace q1 := k_wd.cell0 q1
        replace t0 := k_wd.cell0 t0
        replace t1 := k_wd.cell0 t1
        replace K1 := hide ((unhide K1).trans k_wd)
        have z_wd : w3.heap.size ≤ wd.heap.size := k_wd.size
        obtain ⟨a_wd, d_wd, hv_wd⟩ := Row.form' r_wd
        subst hv_wd
        replace R3 := hide (((unhide R3).kept k_wd (by omega)).wider (lo' := w2.drew.heap.size) (hi' := wd.heap.size) (Nat.le_refl _) k_wd.size)
        have RD := hide r_wd
        clear r_wd k_wd hsb RR R2'
        clear hHeld
        refine hK.out _ _ ?_ (fun hHeld => ?_)
        · exact ⟨c0, d0, d1, m0, n0⟩
        clear hK KK
        try simp only [Act.put, List.getElem_toArray, List.getElem_cons_succ, List.getElem_cons_zero, List.setIfInBounds_toArray, List.set_cons_zero, List.set_cons_succ]
        have hmr := make_spec false wd (unhide RD) (unhide HR1).1 (unhide HR1).2.1
        rw [(unhide HR1).2.2, Bool.false_and] at hmr
        refine wpAnyH_ready (rs := [13]) (by kernel_rfl) (by simp) ?_
        refine AllReadyH.cons rfl (fun KK hK => ?_) AllReadyH.nil
        simp only [List.getElem_toArray, List.getElem_cons_succ, List.getElem_cons_zero]
        rw [if_pos (by rfl)]
        refine wps2 26 (.const (.bool false)) (.tmp 46) _ rfl in_l3makeD (.bool false) (.agg #[.slice a_wd LR1.length d_wd]) rfl rfl hmr ?_
        rintro e w4 ⟨v_w4, rfl, r_w4, k_w4⟩
        refine ⟨_, rfl, ?_⟩
        replace f0 := k_w4.loose0 (World.block_lt_of_cell? _ _ q0) f0
        replace f1 := k_w4.loose0 (World.block_lt_of_cell? _ _ q1) f1
        replace g0 := k_w4.loose0 (World.block_lt_of_cell? _ _ t0) g0
        replace g1 := k_w4.loose0 (World.block_lt_of_cell? _ _ t1) g1
        replace c0 := k_w4.cell0 c0
        replace c1 := k_w4.cell0 c1
        replace d0 := k_w4.cell0 d0
        replace d1 := k_w4.cell0 d1
        replace m0 := k_w4.cell0 m0
        replace n0 := k_w4.cell0 n0
        replace q0 := k_w4.cell0 q0
        replace q1 := k_w4.cell0 q1
        replace t0 := k_w4.cell0 t0
        replace t1 := k_w4.cell0 t1
        replace K1 := hide ((unhide K1).trans k_w4)
        have z_w4 : wd.heap.size ≤ w4.heap.size := k_w4.size
        obtain ⟨a4, d4, hv_w4⟩ := Row.form' r_w4
        subst hv_w4
        replace R3 := hide (((unhide R3).kept k_w4 (by omega)).wider (lo' := w2.drew.heap.size) (hi' := w4.heap.size) (Nat.le_refl _) k_w4.size)
        have R4 := hide (r_w4.wider (lo' := w2.drew.heap.size) (hi' := w4.heap.size) (by omega) (Nat.le_refl _))
        clear r_w4 k_w4 hmr RD
        obtain ⟨SQ, hSQ⟩ : ∃ q, q = (false && decide (0 < LQ1.length)) := ⟨_, rfl⟩
        rw [← hSQ]
        have HSQ := hide hSQ
        clear hSQ
        clear hHeld
        refine hK.out _ _ ?_ (fun hHeld => ?_)
        · exact ⟨c0, d0, d1, m0, n0⟩
        clear hK KK
        try simp only [Act.put, List.getElem_toArray, List.getElem_cons_succ, List.getElem_cons_zero, List.setIfInBounds_toArray, List.set_cons_zero, List.set_cons_succ]
        refine wpAnyH_ready (rs := [14]) (by kernel_rfl) (by simp) ?_
        refine AllReadyH.cons rfl (fun KK hK => ?_) AllReadyH.nil
        simp only [List.getElem_toArray, List.getElem_cons_succ, List.getElem_cons_zero]
        rw [if_pos (by rfl)]
        go_simp
        have ks1 : Kept (w.heap.size + 2) (w.heap.size + 4) w4 ((w4.setCell ⟨w.heap.size + 2, 0, none⟩ (.bool SQ)).setCell ⟨w.heap.size + 2, 1, none⟩ (.slice a3 LQ1.length d3)) := ((Kept.refl _ _ _).setCell (p := ⟨w.heap.size + 2, 0, none⟩) (Nat.le_refl _) (by dsimp only; omega) _).setCell (p := ⟨w.heap.size + 2, 1, none⟩) (Nat.le_refl _) (by dsimp only; omega) _
        have Q0 := cell_off _ _ _ 1 (.slice a3 LQ1.length d3) _ (cell_on _ _ _ (.bool SQ) _ q0) (show (0 : Nat) ≠ 1 by omega)
        have Q1 := cell_on _ _ _ (.slice a3 LQ1.length d3) _ (cell_off _ _ _ 0 (.bool SQ) _ q1 (show (1 : Nat) ≠ 0 by omega))
        have T0 : ((w4.setCell ⟨w.heap.size + 2, 0, none⟩ (.bool SQ)).setCell ⟨w.heap.size + 2, 1, none⟩ (.slice a3 LQ1.length d3)).cell? ⟨w.heap.size + 3, 0, none⟩ = some (.bool false) := (cell_aside _ (by dsimp only; omega) (cell_aside _ (by dsimp only; omega) t0))
        have T1 : ((w4.setCell ⟨w.heap.size + 2, 0, none⟩ (.bool SQ)).setCell ⟨w.heap.size + 2, 1, none⟩ (.slice a3 LQ1.length d3)).cell? ⟨w.heap.size + 3, 1, none⟩ = some (.slice none 0 0) := (cell_aside _ (by dsimp only; omega) (cell_aside _ (by dsimp only; omega) t1))
        have G0' : ((w4.setCell ⟨w.heap.size + 2, 0, none⟩ (.bool SQ)).setCell ⟨w.heap.size + 2, 1, none⟩ (.slice a3 LQ1.length d3)).frozen? ⟨w.heap.size + 3, 0, none⟩ = false := by rw [frozen_set, frozen_set]; exact g0
        have G1' : ((w4.setCell ⟨w.heap.size + 2, 0, none⟩ (.bool SQ)).setCell ⟨w.heap.size + 2, 1, none⟩ (.slice a3 LQ1.length d3)).frozen? ⟨w.heap.size + 3, 1, none⟩ = false := by rw [frozen_set, frozen_set]; exact g1
        have c0' : ((w4.setCell ⟨w.heap.size + 2, 0, none⟩ (.bool SQ)).setCell ⟨w.heap.size + 2, 1, none⟩ (.slice a3 LQ1.length d3)).cell? ⟨w.heap.size, 0, none⟩ = some (.bool true) := (cell_aside _ (by dsimp only; omega) (cell_aside _ (by dsimp only; omega) c0))
        have d0' : ((w4.setCell ⟨w.heap.size + 2, 0, none⟩ (.bool SQ)).setCell ⟨w.heap.size + 2, 1, none⟩ (.slice a3 LQ1.length d3)).cell? ⟨w.heap.size + 1, 0, none⟩ = some (.bool true) := (cell_aside _ (by dsimp only; omega) (cell_aside _ (by dsimp only; omega) d0))
        have d1' : ((w4.setCell ⟨w.heap.size + 2, 0, none⟩ (.bool SQ)).setCell ⟨w.heap.size + 2, 1, none⟩ (.slice a3 LQ1.length d3)).cell? ⟨w.heap.size + 1, 1, none⟩ = some (.slice a2 ys.length e2) := (cell_aside _ (by dsimp only; omega) (cell_aside _ (by dsimp only; omega) d1))
        have m0' : ((w4.setCell ⟨w.heap.size + 2, 0, none⟩ (.bool SQ)).setCell ⟨w.heap.size + 2, 1, none⟩ (.slice a3 LQ1.length d3)).cell? ⟨Y, 0, none⟩ = some (.slice aq LQ.length cq) := (cell_aside _ (by dsimp only; omega) (cell_aside _ (by dsimp only; omega) m0))
        have n0' : ((w4.setCell ⟨w.heap.size + 2, 0, none⟩ (.bool SQ)).setCell ⟨w.heap.size + 2, 1, none⟩ (.slice a3 LQ1.length d3)).cell? ⟨Y + 1, 0, none⟩ = some (.slice ar LR.length cr) := (cell_aside _ (by dsimp only; omega) (cell_aside _ (by dsimp only; omega) n0))
        clear q0 q1 t0 t1 g0 g1 f0 f1 c1
        clear hHeld
        refine hK.out _ _ ?_ (fun hHeld => ?_)
        · exact ⟨c0', d0', d1', m0', n0'⟩
        clear hK KK
        try simp only [Act.put, List.getElem_toArray, List.getElem_cons_succ, List.getElem_cons_zero, List.setIfInBounds_toArray, List.set_cons_zero, List.set_cons_succ]
        refine wpAnyH_ready (rs := [15]) (by kernel_rfl) (by simp) ?_
        refine AllReadyH.cons rfl (fun KK hK => ?_) AllReadyH.nil
        simp only [List.getElem_toArray, List.getElem_cons_succ, List.getElem_cons_zero]
        rw [if_pos (by rfl)]
        go_simp
        clear hHeld
        refine hK.out _ _ ?_ (fun hHeld => ?_)
        · exact ⟨(cell_aside _ (by dsimp only; omega) (cell_aside _ (by dsimp only; omega) c0')), (cell_aside _ (by dsimp only; omega) (cell_aside _ (by dsimp only; omega) d0')), (cell_aside _ (by dsimp only; omega) (cell_aside _ (by dsimp only; omega) d1')), (cell_aside _ (by dsimp only; omega) (cell_aside _ (by dsimp only; omega) m0')), (cell_aside _ (by dsimp only; omega) (cell_aside _ (by dsimp only; omega) n0'))⟩
        clear hK KK
        try simp only [Act.put, List.getElem_toArray, List.getElem_cons_succ, List.getElem_cons_zero, List.setIfInBounds_toArray, List.set_cons_zero, List.set_cons_succ]
        refine wpAnyH_done (by kernel_rfl) ?_ _
        clear hHeld
        have ks2 : Kept (w.heap.size + 2) (w.heap.size + 4) w4 ((((w4.setCell ⟨w.heap.size + 2, 0, none⟩ (.bool SQ)).setCell ⟨w.heap.size + 2, 1, none⟩ (.slice a3 LQ1.length d3)).setCell ⟨w.heap.size + 3, 0, none⟩ (.bool false)).setCell ⟨w.heap.size + 3, 1, none⟩ (.slice a4 LR1.length d4)) := (ks1.setCell (p := ⟨w.heap.size + 3, 0, none⟩) (by dsimp only; omega) (by dsimp only; omega) _).setCell (p := ⟨w.heap.size + 3, 1, none⟩) (by dsimp only; omega) (by dsimp only; omega) _
        have A0 : ((((w4.setCell ⟨w.heap.size + 2, 0, none⟩ (.bool SQ)).setCell ⟨w.heap.size + 2, 1, none⟩ (.slice a3 LQ1.length d3)).setCell ⟨w.heap.size + 3, 0, none⟩ (.bool false)).setCell ⟨w.heap.size + 3, 1, none⟩ (.slice a4 LR1.length d4)).cell? ⟨w.heap.size + 2, 0, none⟩ = some (.bool SQ) := (cell_aside _ (by dsimp only; omega) (cell_aside _ (by dsimp only; omega) Q0))
        have A1 : ((((w4.setCell ⟨w.heap.size + 2, 0, none⟩ (.bool SQ)).setCell ⟨w.heap.size + 2, 1, none⟩ (.slice a3 LQ1.length d3)).setCell ⟨w.heap.size + 3, 0, none⟩ (.bool false)).setCell ⟨w.heap.size + 3, 1, none⟩ (.slice a4 LR1.length d4)).cell? ⟨w.heap.size + 2, 1, none⟩ = some (.slice a3 LQ1.length d3) := (cell_aside _ (by dsimp only; omega) (cell_aside _ (by dsimp only; omega) Q1))
        have B0 := cell_off _ _ _ 1 (.slice a4 LR1.length d4) _ (cell_on _ _ _ (.bool false) _ T0) (show (0 : Nat) ≠ 1 by omega)
        have B1 := cell_on _ _ _ (.slice a4 LR1.length d4) _ (cell_off _ _ _ 0 (.bool false) _ T1 (show (1 : Nat) ≠ 0 by omega))
        have hsz : ((((w4.setCell ⟨w.heap.size + 2, 0, none⟩ (.bool SQ)).setCell ⟨w.heap.size + 2, 1, none⟩ (.slice a3 LQ1.length d3)).setCell ⟨w.heap.size + 3, 0, none⟩ (.bool false)).setCell ⟨w.heap.size + 3, 1, none⟩ (.slice a4 LR1.length d4)).heap.size = w4.heap.size := by rw [size_set, size_set, size_set, size_set]
        have E3 := hide (((unhide R3).kept ks2 (by omega)).wider (lo' := w.heap.size) (hi' := ((((w4.setCell ⟨w.heap.size + 2, 0, none⟩ (.bool SQ)).setCell ⟨w.heap.size + 2, 1, none⟩ (.slice a3 LQ1.length d3)).setCell ⟨w.heap.size + 3, 0, none⟩ (.bool false)).setCell ⟨w.heap.size + 3, 1, none⟩ (.slice a4 LR1.length d4)).heap.size) (by omega) (by omega))
        have E4 := hide (((unhide R4).kept ks2 (by omega)).wider (lo' := w.heap.size) (hi' := ((((w4.setCell ⟨w.heap.size + 2, 0, none⟩ (.bool SQ)).setCell ⟨w.heap.size + 2, 1, none⟩ (.slice a3 LQ1.length d3)).setCell ⟨w.heap.size + 3, 0, none⟩ (.bool false)).setCell ⟨w.heap.size + 3, 1, none⟩ (.slice a4 LR1.length d4)).heap.size) (by omega) (by omega))
        have K7 := hide ((unhide K1).wide ks2 (by omega))
        clear ks1 ks2 hsz R3 R4 K1 c0 d0 d1 m0 n0 c0' d0' d1' m0' n0' Q0 Q1 T0 T1 G0' G1'
        go_wp2_with fail
        exact bodyPost_ret (v := .tuple #[.agg #[.bool SQ, .slice a3 LQ1.length d3], .agg #[.bool false, .slice a4 LR1.length d4]]) (by simp [results, Try.results13, go_sem, A0, A1, B0, B1]) rfl ⟨_, _, by rw [(unhide HWD).1, unhide HSQ]; rfl, by rw [(unhide HWD).1]; exact unhide E3, by rw [(unhide HWD).2]; exact unhide E4, unhide K7⟩

end Go.Proofs.Ytmoeeoninbphiaa
