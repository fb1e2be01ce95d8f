/-
  The model's WholeDiv.
-/
import Derived.Test.YtmoeeoninbphiaaWd1
import Derived.Test.YtmoeeoninbphiaaBE
namespace Go.Proofs.Ytmoeeoninbphiaa
open Go.RowKit
set_option linter.unusedVariables false
set_option maxRecDepth 8000
set_option linter.unusedSimpArgs false

/-- Is a quotient told? -/
def wvB (s1 s2 : Bool) (xs ys : List Int) : Bool := wokB s1 xs && wokB s2 ys && decide (ys.length ≠ 0) && decide ((wdQ s1 xs ys).length ≤ 100)
def wvS (s1 s2 : Bool) (xs ys : List Int) : Bool := wvB s1 s2 xs ys && ((s1 != s2) && decide (0 < (wdQ s1 xs ys).length))
def wvQ (s1 s2 : Bool) (xs ys : List Int) : List Int := if wvB s1 s2 xs ys = true then wdQ s1 xs ys else []
def wvR (s1 s2 : Bool) (xs ys : List Int) : List Int := if wvB s1 s2 xs ys = true then wdR s1 xs ys else []
theorem wv_no {s1 s2 : Bool} {xs ys : List Int} (h : wvB s1 s2 xs ys = false) : wvS s1 s2 xs ys = false ∧ wvQ s1 s2 xs ys = [] ∧ wvR s1 s2 xs ys = [] := by
  unfold wvS wvQ wvR
  rw [h]
  exact ⟨rfl, rfl, rfl⟩
theorem wv_yes {s1 s2 : Bool} {xs ys : List Int} (h : wvB s1 s2 xs ys = true) : wvS s1 s2 xs ys = ((s1 != s2) && decide (0 < (wdQ s1 xs ys).length)) ∧ wvQ s1 s2 xs ys = wdQ s1 xs ys ∧ wvR s1 s2 xs ys = wdR s1 xs ys := by
  unfold wvS wvQ wvR
  rw [h]
  exact ⟨rfl, rfl, rfl⟩
theorem nrm_pos {ys : List Int} (hn : Nrm ys) (h0 : ys.length ≠ 0) : 0 < val ys := by
  have e1 := nrm_pow hn (fun e => h0 (by rw [e]; rfl))
  have : (0 : Int) < 65536 ^ (ys.length - 1) := Int.pow_pos (by decide)
  omega

/-- Two boxes of two cells each are written. -/
theorem four_set {w4 : World} {p : Nat} {x0 x1 y0 y1 : Value} (u0 u1 z0 z1 : Value) (q0 : w4.cell? ⟨p, 0, none⟩ = some x0) (q1 : w4.cell? ⟨p, 1, none⟩ = some x1) (t0 : w4.cell? ⟨p + 1, 0, none⟩ = some y0) (t1 : w4.cell? ⟨p + 1, 1, none⟩ = some y1) :
    (((((w4.setCell ⟨p, 0, none⟩ u0).setCell ⟨p, 1, none⟩ u1).setCell ⟨p + 1, 0, none⟩ z0).setCell ⟨p + 1, 1, none⟩ z1)).cell? ⟨p, 0, none⟩ = some u0 ∧ (((((w4.setCell ⟨p, 0, none⟩ u0).setCell ⟨p, 1, none⟩ u1).setCell ⟨p + 1, 0, none⟩ z0).setCell ⟨p + 1, 1, none⟩ z1)).cell? ⟨p, 1, none⟩ = some u1 ∧ (((((w4.setCell ⟨p, 0, none⟩ u0).setCell ⟨p, 1, none⟩ u1).setCell ⟨p + 1, 0, none⟩ z0).setCell ⟨p + 1, 1, none⟩ z1)).cell? ⟨p + 1, 0, none⟩ = some z0 ∧ (((((w4.setCell ⟨p, 0, none⟩ u0).setCell ⟨p, 1, none⟩ u1).setCell ⟨p + 1, 0, none⟩ z0).setCell ⟨p + 1, 1, none⟩ z1)).cell? ⟨p + 1, 1, none⟩ = some z1 ∧ Kept p (p + 2) w4 (((((w4.setCell ⟨p, 0, none⟩ u0).setCell ⟨p, 1, none⟩ u1).setCell ⟨p + 1, 0, none⟩ z0).setCell ⟨p + 1, 1, none⟩ z1)) ∧ (((((w4.setCell ⟨p, 0, none⟩ u0).setCell ⟨p, 1, none⟩ u1).setCell ⟨p + 1, 0, none⟩ z0).setCell ⟨p + 1, 1, none⟩ z1)).heap.size = w4.heap.size := by
  have Q0 := cell_off _ _ _ 1 u1 _ (cell_on _ _ _ u0 _ q0) (show (0 : Nat) ≠ 1 by omega)
  have Q1 := cell_on _ _ _ u1 _ (cell_off _ _ _ 0 u0 _ q1 (show (1 : Nat) ≠ 0 by omega))
  have T0 : ((w4.setCell ⟨p, 0, none⟩ u0).setCell ⟨p, 1, none⟩ u1).cell? ⟨p + 1, 0, none⟩ = some y0 := cell_aside _ (by dsimp only; omega) (cell_aside _ (by dsimp only; omega) t0)
  have T1 : ((w4.setCell ⟨p, 0, none⟩ u0).setCell ⟨p, 1, none⟩ u1).cell? ⟨p + 1, 1, none⟩ = some y1 := cell_aside _ (by dsimp only; omega) (cell_aside _ (by dsimp only; omega) t1)
  refine ⟨cell_aside _ (by dsimp only; omega) (cell_aside _ (by dsimp only; omega) Q0), cell_aside _ (by dsimp only; omega) (cell_aside _ (by dsimp only; omega) Q1), cell_off _ _ _ 1 z1 _ (cell_on _ _ _ z0 _ T0) (show (0 : Nat) ≠ 1 by omega), cell_on _ _ _ z1 _ (cell_off _ _ _ 0 z0 _ T1 (show (1 : Nat) ≠ 0 by omega)), ?_, by rw [size_set, size_set, size_set, size_set]⟩
  exact ((((Kept.refl _ _ _).setCell (p := ⟨p, 0, none⟩) (by dsimp only; omega) (by dsimp only; omega) _).setCell (p := ⟨p, 1, none⟩) (by dsimp only; omega) (by dsimp only; omega) _).setCell (p := ⟨p + 1, 0, none⟩) (by dsimp only; omega) (by dsimp only; omega) _).setCell (p := ⟨p + 1, 1, none⟩) (by dsimp only; omega) (by dsimp only; omega) _

set_option maxHeartbeats 8000000 in
theorem wholeDiv_spec {b1 b2 : Bool} {l1 h1 l2 h2 : Nat} {v1 v2 : Value} {xs ys : List Int} (s1 s2 : Bool) (w : World) (r1 : Row .i64 b1 l1 h1 w v1 xs) (r2 : Row .i64 b2 l2 h2 w v2 ys) :
    Calls Try.prog 5 #[.agg #[.bool s1, v1], .agg #[.bool s2, v2]] w fun e w' => ∃ vq vr, e = .returned (.tuple #[.agg #[.bool (wvS s1 s2 xs ys), vq], .agg #[.bool false, vr], .bool (wvB s1 s2 xs ys)]) ∧ Row .i64 true w.heap.size w'.heap.size w' vq (wvQ s1 s2 xs ys) ∧ Row .i64 true w.heap.size w'.heap.size w' vr (wvR s1 s2 xs ys) ∧ Kept 0 0 w w' := by
  obtain ⟨W, hW⟩ : ∃ W, W = (((w.alloc (.cells #[.bool s1, v1] 30)).alloc (.cells #[.bool s2, v2] 30)).alloc (.cells #[.bool false, .slice none 0 0] 30)).alloc (.cells #[.bool false, .slice none 0 0] 30) := ⟨_, rfl⟩
  have k0 : Kept 0 0 w W := by rw [hW]; exact ((((Kept.refl 0 0 w).alloc _).alloc _).alloc _).alloc _
  have c0 : W.cell? ⟨w.heap.size, 0, none⟩ = some (.bool s1) := by rw [hW]; exact old_cell _ (old_cell _ (old_cell _ (new_cell2 _ _ _ _ _ _ (by simp) rfl)))
  have c1 : W.cell? ⟨w.heap.size, 1, none⟩ = some v1 := by rw [hW]; exact old_cell _ (old_cell _ (old_cell _ (new_cell2 _ _ _ _ _ _ (by simp) rfl)))
  have d0 : W.cell? ⟨w.heap.size + 1, 0, none⟩ = some (.bool s2) := by rw [hW]; exact old_cell _ (old_cell _ (new_cell2 _ _ _ _ _ _ (by simp) rfl))
  have d1 : W.cell? ⟨w.heap.size + 1, 1, none⟩ = some v2 := by rw [hW]; exact old_cell _ (old_cell _ (new_cell2 _ _ _ _ _ _ (by simp) rfl))
  have q0 : W.cell? ⟨w.heap.size + 2, 0, none⟩ = some (.bool false) := by rw [hW]; exact old_cell _ (new_cell2 _ _ _ _ _ _ (by simp) rfl)
  have q1 : W.cell? ⟨w.heap.size + 2, 1, none⟩ = some (.slice none 0 0) := by rw [hW]; exact old_cell _ (new_cell2 _ _ _ _ _ _ (by simp) rfl)
  have t0 : W.cell? ⟨w.heap.size + 3, 0, none⟩ = some (.bool false) := by rw [hW]; exact new_cell2 _ _ _ _ _ _ (by simp) rfl
  have t1 : W.cell? ⟨w.heap.size + 3, 1, none⟩ = some (.slice none 0 0) := by rw [hW]; exact new_cell2 _ _ _ _ _ _ (by simp) rfl
  have kl : ∀ {w0 : World} {a : Addr} (ob : Obj), a.block < w0.heap.size → w0.frozen? a = false → (w0.alloc ob).frozen? a = false := fun ob hb h => ((Kept.refl 0 0 _).alloc ob).loose0 hb h
  have f0 : W.frozen? ⟨w.heap.size + 2, 0, none⟩ = false := by rw [hW]; exact kl _ (by simp) (new_loose2 _ _ _ _ _ (by simp))
  have f1 : W.frozen? ⟨w.heap.size + 2, 1, none⟩ = false := by rw [hW]; exact kl _ (by simp) (new_loose2 _ _ _ _ _ (by simp))
  have g0 : W.frozen? ⟨w.heap.size + 3, 0, none⟩ = false := by rw [hW]; exact new_loose2 _ _ _ _ _ (by simp)
  have g1 : W.frozen? ⟨w.heap.size + 3, 1, none⟩ = false := by rw [hW]; exact new_loose2 _ _ _ _ _ (by simp)
  have sW : W.heap.size = w.heap.size + 4 := by rw [hW]; simp
  replace r1 := r1.kept k0 (by omega)
  replace r2 := r2.kept k0 (by omega)
  obtain ⟨a1, e1, rfl⟩ := Row.form' r1
  obtain ⟨a2, e2, rfl⟩ := Row.form' r2
  have K := hide k0
  have SW := hide sW
  clear k0 kl sW
  go_enter Try.func5, Try.ntmps5
  go_wp2_with fail
  rw [← hW]
  clear hW
  refine (wok_spec s1 _ r1).mono ?_
  rintro e w1 ⟨rfl, k1⟩
  replace f0 := k1.loose0 (World.block_lt_of_cell? _ _ q0) f0
  replace f1 := k1.loose0 (World.block_lt_of_cell? _ _ q1) f1
  replace g0 := k1.loose0 (World.block_lt_of_cell? _ _ t0) g0
  replace g1 := k1.loose0 (World.block_lt_of_cell? _ _ t1) g1
  replace c0 := k1.cell0 c0
  replace c1 := k1.cell0 c1
  replace d0 := k1.cell0 d0
  replace d1 := k1.cell0 d1
  replace q0 := k1.cell0 q0
  replace q1 := k1.cell0 q1
  replace t0 := k1.cell0 t0
  replace t1 := k1.cell0 t1
  replace r1 := r1.kept k1 (by omega)
  replace r2 := r2.kept k1 (by omega)
  replace K := hide ((unhide K).trans k1)
  have z1 := k1.size
  clear k1
  cases ho1 : wokB s1 xs
  · have e0 : Hid (wvB s1 s2 xs ys = false) := by show _ = _; unfold wvB; rw [ho1]; rfl
    clear ho1
    obtain ⟨A0, A1, B0, B1, ks, hs⟩ := four_set (.bool false) (.slice none 0 0) (.bool false) (.slice none 0 0) q0 q1 t0 t1
    have K7 := hide ((unhide K).wide ks (by omega))
    clear ks hs K r1 r2
    go_wp2_with fail
    exact bodyPost_ret (v := .tuple #[.agg #[.bool false, .slice none 0 0], .agg #[.bool false, .slice none 0 0], .bool false]) (by simp [results, Try.results5, go_sem, A0, A1, B0, B1]) rfl ⟨_, _, by rw [(wv_no (unhide e0)).1, unhide e0], by rw [(wv_no (unhide e0)).2.1]; exact Row.nil _ _ _ _ _, by rw [(wv_no (unhide e0)).2.2]; exact Row.nil _ _ _ _ _, unhide K7⟩
  have HO1 := hide ho1
  clear ho1
  go_wp2_with fail
  refine (wok_spec s2 _ r2).mono ?_
  rintro e w3 ⟨rfl, k3⟩
  replace f0 := k3.loose0 (World.block_lt_of_cell? _ _ q0) f0
  replace f1 := k3.loose0 (World.block_lt_of_cell? _ _ q1) f1
  replace g0 := k3.loose0 (World.block_lt_of_cell? _ _ t0) g0
  replace g1 := k3.loose0 (World.block_lt_of_cell? _ _ t1) g1
  replace c0 := k3.cell0 c0
  replace c1 := k3.cell0 c1
  replace d0 := k3.cell0 d0
  replace d1 := k3.cell0 d1
  replace q0 := k3.cell0 q0
  replace q1 := k3.cell0 q1
  replace t0 := k3.cell0 t0
  replace t1 := k3.cell0 t1
  replace r1 := r1.kept k3 (by omega)
  replace r2 := r2.kept k3 (by omega)
  replace K := hide ((unhide K).trans k3)
  have z3 := k3.size
  clear k3
  cases ho2 : wokB s2 ys
  · have e0 : Hid (wvB s1 s2 xs ys = false) := by show _ = _; unfold wvB; rw [unhide HO1, ho2]; rfl
    clear ho2
    obtain ⟨A0, A1, B0, B1, ks, hs⟩ := four_set (.bool false) (.slice none 0 0) (.bool false) (.slice none 0 0) q0 q1 t0 t1
    have K7 := hide ((unhide K).wide ks (by omega))
    clear ks hs K r1 r2
    go_wp2_with fail
    exact bodyPost_ret (v := .tuple #[.agg #[.bool false, .slice none 0 0], .agg #[.bool false, .slice none 0 0], .bool false]) (by simp [results, Try.results5, go_sem, A0, A1, B0, B1]) rfl ⟨_, _, by rw [(wv_no (unhide e0)).1, unhide e0], by rw [(wv_no (unhide e0)).2.1]; exact Row.nil _ _ _ _ _, by rw [(wv_no (unhide e0)).2.2]; exact Row.nil _ _ _ _ _, unhide K7⟩
  have HO2 := hide ho2
  clear ho2
  by_cases hz : ys.length = 0
  · have e0 : Hid (wvB s1 s2 xs ys = false) := by show _ = _; unfold wvB; rw [unhide HO1, unhide HO2, decide_eq_false (by omega)]; rfl
    obtain ⟨A0, A1, B0, B1, ks, hs⟩ := four_set (.bool false) (.slice none 0 0) (.bool false) (.slice none 0 0) q0 q1 t0 t1
    have K7 := hide ((unhide K).wide ks (by omega))
    clear ks hs K r1 r2
    go_wp2_with fail
    exact bodyPost_ret (v := .tuple #[.agg #[.bool false, .slice none 0 0], .agg #[.bool false, .slice none 0 0], .bool false]) (by simp [results, Try.results5, go_sem, A0, A1, B0, B1]) rfl ⟨_, _, by rw [(wv_no (unhide e0)).1, unhide e0], by rw [(wv_no (unhide e0)).2.1]; exact Row.nil _ _ _ _ _, by rw [(wv_no (unhide e0)).2.2]; exact Row.nil _ _ _ _ _, unhide K7⟩
  obtain ⟨-, -, lx, hx⟩ := wok_int (unhide HO1)
  obtain ⟨-, -, ly, hy⟩ := wok_int (unhide HO2)
  have mk := div3_spec s1 s2 w3 r1 r2 hx hy lx ly (nrm_pos hy hz)
  obtain ⟨LQ, hLQ⟩ : ∃ q, q = wdQ s1 xs ys := ⟨_, rfl⟩
  obtain ⟨LR, hLR⟩ : ∃ q, q = wdR s1 xs ys := ⟨_, rfl⟩
  obtain ⟨SQ, hSQ⟩ : ∃ q, q = ((s1 != s2) && decide (0 < (wdQ s1 xs ys).length)) := ⟨_, rfl⟩
  rw [← hSQ, ← hLQ, ← hLR] at mk
  have HLQ := hide hLQ
  have HLR := hide hLR
  have HSQ := hide hSQ
  have HB : Hid (wvB s1 s2 xs ys = decide (LQ.length ≤ 100)) := by show _ = _; unfold wvB; rw [unhide HO1, unhide HO2, decide_eq_true hz, ← hLQ]; rfl
  clear hLQ hLR hSQ hx hy lx ly
  go_wp2_with fail
  refine mk.mono ?_
  rintro e w5 ⟨vq, vr, rfl, rq, rr, k5⟩
  clear mk r1 r2 hz
  replace f0 := k5.loose0 (World.block_lt_of_cell? _ _ q0) f0
  replace f1 := k5.loose0 (World.block_lt_of_cell? _ _ q1) f1
  replace g0 := k5.loose0 (World.block_lt_of_cell? _ _ t0) g0
  replace g1 := k5.loose0 (World.block_lt_of_cell? _ _ t1) g1
  replace c0 := k5.cell0 c0
  replace c1 := k5.cell0 c1
  replace d0 := k5.cell0 d0
  replace d1 := k5.cell0 d1
  replace q0 := k5.cell0 q0
  replace q1 := k5.cell0 q1
  replace t0 := k5.cell0 t0
  replace t1 := k5.cell0 t1
  replace K := hide ((unhide K).trans k5)
  have z5 := k5.size
  clear k5
  obtain ⟨aq, cq, hvq⟩ := Row.form' rq
  subst hvq
  obtain ⟨ar, cr, hvr⟩ := Row.form' rr
  subst hvr
  have kA := ((Kept.refl 0 0 w5).alloc (.cells #[.bool SQ, .slice aq LQ.length cq] 30)).alloc (.cells #[.bool false, .slice ar LR.length cr] 30)
  have n0 : ((w5.alloc (.cells #[.bool SQ, .slice aq LQ.length cq] 30)).alloc (.cells #[.bool false, .slice ar LR.length cr] 30)).cell? ⟨w5.heap.size + 1, 0, none⟩ = some (.bool false) := new_cell2 _ _ _ _ _ _ (by simp) rfl
  have n1 : ((w5.alloc (.cells #[.bool SQ, .slice aq LQ.length cq] 30)).alloc (.cells #[.bool false, .slice ar LR.length cr] 30)).cell? ⟨w5.heap.size + 1, 1, none⟩ = some (.slice ar LR.length cr) := new_cell2 _ _ _ _ _ _ (by simp) rfl
  replace f0 := kA.loose0 (World.block_lt_of_cell? _ _ q0) f0
  replace f1 := kA.loose0 (World.block_lt_of_cell? _ _ q1) f1
  replace g0 := kA.loose0 (World.block_lt_of_cell? _ _ t0) g0
  replace g1 := kA.loose0 (World.block_lt_of_cell? _ _ t1) g1
  replace c0 := kA.cell0 c0
  replace c1 := kA.cell0 c1
  replace d0 := kA.cell0 d0
  replace d1 := kA.cell0 d1
  replace q0 := kA.cell0 q0
  replace q1 := kA.cell0 q1
  replace t0 := kA.cell0 t0
  replace t1 := kA.cell0 t1
  replace rq := rq.kept kA (by omega)
  replace rr := rr.kept kA (by omega)
  replace K := hide ((unhide K).trans kA)
  have hY6 : ((w5.alloc (.cells #[.bool SQ, .slice aq LQ.length cq] 30)).alloc (.cells #[.bool false, .slice ar LR.length cr] 30)).heap.size = w5.heap.size + 2 := by simp
  have hb3 : w.heap.size + 4 ≤ w3.heap.size := by have := unhide SW; omega
  have hb5 : w.heap.size + 4 ≤ w5.heap.size := by have := unhide SW; omega
  go_wp2_with fail
  refine (fits3_spec SQ _ rq).mono ?_
  rintro e w7 ⟨rfl, k7⟩
  replace f0 := k7.loose0 (World.block_lt_of_cell? _ _ q0) f0
  replace f1 := k7.loose0 (World.block_lt_of_cell? _ _ q1) f1
  replace g0 := k7.loose0 (World.block_lt_of_cell? _ _ t0) g0
  replace g1 := k7.loose0 (World.block_lt_of_cell? _ _ t1) g1
  replace c0 := k7.cell0 c0
  replace c1 := k7.cell0 c1
  replace d0 := k7.cell0 d0
  replace d1 := k7.cell0 d1
  replace q0 := k7.cell0 q0
  replace q1 := k7.cell0 q1
  replace t0 := k7.cell0 t0
  replace t1 := k7.cell0 t1
  replace n0 := k7.cell0 n0
  replace n1 := k7.cell0 n1
  replace rq := rq.kept k7 (by omega)
  replace rr := rr.kept k7 (by omega)
  replace K := hide ((unhide K).trans k7)
  have hb7 : w5.heap.size + 2 ≤ w7.heap.size := by have := k7.size; omega
  clear k7 kA
  by_cases hl : LQ.length ≤ 100
  · rw [decide_eq_true hl, if_pos hl, Bool.true_and]
    have ey : Hid (wvB s1 s2 xs ys = true) := by show _ = _; rw [unhide HB]; exact decide_eq_true hl
    have m0 : (w7.alloc (.cells #[.bool SQ, .slice aq LQ.length cq] 30)).cell? ⟨w7.heap.size, 0, none⟩ = some (.bool SQ) := new_cell2 _ _ _ _ _ _ (by simp) rfl
    have m1 : (w7.alloc (.cells #[.bool SQ, .slice aq LQ.length cq] 30)).cell? ⟨w7.heap.size, 1, none⟩ = some (.slice aq LQ.length cq) := new_cell2 _ _ _ _ _ _ (by simp) rfl
    have kB := (Kept.refl 0 0 w7).alloc (.cells #[.bool SQ, .slice aq LQ.length cq] 30)
    replace f0 := kB.loose0 (World.block_lt_of_cell? _ _ q0) f0
    replace f1 := kB.loose0 (World.block_lt_of_cell? _ _ q1) f1
    replace g0 := kB.loose0 (World.block_lt_of_cell? _ _ t0) g0
    replace g1 := kB.loose0 (World.block_lt_of_cell? _ _ t1) g1
    replace c0 := kB.cell0 c0
    replace c1 := kB.cell0 c1
    replace d0 := kB.cell0 d0
    replace d1 := kB.cell0 d1
    replace q0 := kB.cell0 q0
    replace q1 := kB.cell0 q1
    replace t0 := kB.cell0 t0
    replace t1 := kB.cell0 t1
    replace n0 := kB.cell0 n0
    replace n1 := kB.cell0 n1
    replace rq := rq.kept kB (by omega)
    replace rr := rr.kept kB (by omega)
    replace K := hide ((unhide K).trans kB)
    have H8 : Hid (w5.heap.size ≤ ((w7.alloc (.cells #[.bool SQ, .slice aq LQ.length cq] 30))).drew.heap.size) := by have := kB.size; show _ ≤ _; exact Nat.le_trans (by omega) this
    clear kB hl
    go_wp2_with fail
    generalize (w7.alloc (.cells #[.bool SQ, .slice aq LQ.length cq] 30)) = w8 at *
    have kd := (Kept.refl 0 0 w8).drew
    replace f0 := kd.loose0 (World.block_lt_of_cell? _ _ q0) f0
    replace f1 := kd.loose0 (World.block_lt_of_cell? _ _ q1) f1
    replace g0 := kd.loose0 (World.block_lt_of_cell? _ _ t0) g0
    replace g1 := kd.loose0 (World.block_lt_of_cell? _ _ t1) g1
    replace c0 := kd.cell0 c0
    replace c1 := kd.cell0 c1
    replace d0 := kd.cell0 d0
    replace d1 := kd.cell0 d1
    replace q0 := kd.cell0 q0
    replace q1 := kd.cell0 q1
    replace t0 := kd.cell0 t0
    replace t1 := kd.cell0 t1
    replace m0 := kd.cell0 m0
    replace m1 := kd.cell0 m1
    replace n0 := kd.cell0 n0
    replace n1 := kd.cell0 n1
    replace rq := rq.kept kd (by omega)
    replace rr := rr.kept kd (by omega)
    replace K := hide ((unhide K).trans kd)
    clear kd c0 c1 d0 d1
    refine wp_region_held_drew (S := (fun w' => w'.cell? ⟨w7.heap.size, 0, none⟩ = some (.bool SQ) ∧ w'.cell? ⟨w7.heap.size, 1, none⟩ = some (.slice aq LQ.length cq) ∧ w'.cell? ⟨w5.heap.size + 1, 0, none⟩ = some (.bool false) ∧ w'.cell? ⟨w5.heap.size + 1, 1, none⟩ = some (.slice ar LR.length cr))) (by kernel_rfl) ?_ (fun hHeld => ?_)
    · exact ⟨m0, m1, n0, n1⟩
    generalize w8.drew = w9 at *
    refine wpAnyH_take (i := 0) (oi := _) (v := .agg #[.bool SQ, .slice aq LQ.length cq]) rfl (by kernel_rfl) (by kernel_rfl) (by kernel_rfl) (fun _ _ _ h => h) (Or.inl ⟨by rfl, ?_⟩) hHeld ?_
    · intro wq hSw
      try dsimp only at hSw
      go_simp
    try simp only [Act.put, List.getElem_toArray, List.getElem_cons_succ, List.getElem_cons_zero, List.setIfInBounds_toArray, List.set_cons_zero, List.set_cons_succ]
    refine wpAnyH_take (i := 1) (oi := _) (v := .agg #[.bool false, .slice ar LR.length cr]) rfl (by kernel_rfl) (by kernel_rfl) (by kernel_rfl) (fun _ _ _ h => h) (Or.inl ⟨by rfl, ?_⟩) hHeld ?_
    · intro wq hSw
      try dsimp only at hSw
      go_simp
    try simp only [Act.put, List.getElem_toArray, List.getElem_cons_succ, List.getElem_cons_zero, List.setIfInBounds_toArray, List.set_cons_zero, List.set_cons_succ]
    refine wpAnyH_ready (rs := [2]) (by kernel_rfl) (by simp) ?_
    refine AllReadyH.cons rfl (fun KK hK => ?_) AllReadyH.nil
    simp only [List.getElem_toArray, List.getElem_cons_succ, List.getElem_cons_zero]
    rw [if_pos (by rfl)]
    go_simp
    have T0 : ((w9.setCell ⟨w.heap.size + 2, 0, none⟩ (.bool SQ)).setCell ⟨w.heap.size + 2, 1, none⟩ (.slice aq LQ.length cq)).cell? ⟨w.heap.size + 3, 0, none⟩ = some (.bool false) := (cell_aside _ (by dsimp only; omega) (cell_aside _ (by dsimp only; omega) t0))
    have T1 : ((w9.setCell ⟨w.heap.size + 2, 0, none⟩ (.bool SQ)).setCell ⟨w.heap.size + 2, 1, none⟩ (.slice aq LQ.length cq)).cell? ⟨w.heap.size + 3, 1, none⟩ = some (.slice none 0 0) := (cell_aside _ (by dsimp only; omega) (cell_aside _ (by dsimp only; omega) t1))
    have G0' : ((w9.setCell ⟨w.heap.size + 2, 0, none⟩ (.bool SQ)).setCell ⟨w.heap.size + 2, 1, none⟩ (.slice aq LQ.length cq)).frozen? ⟨w.heap.size + 3, 0, none⟩ = false := by rw [frozen_set, frozen_set]; exact g0
    have G1' : ((w9.setCell ⟨w.heap.size + 2, 0, none⟩ (.bool SQ)).setCell ⟨w.heap.size + 2, 1, none⟩ (.slice aq LQ.length cq)).frozen? ⟨w.heap.size + 3, 1, none⟩ = false := by rw [frozen_set, frozen_set]; exact g1
    have m0' : ((w9.setCell ⟨w.heap.size + 2, 0, none⟩ (.bool SQ)).setCell ⟨w.heap.size + 2, 1, none⟩ (.slice aq LQ.length cq)).cell? ⟨w7.heap.size, 0, none⟩ = some (.bool SQ) := (cell_aside _ (by dsimp only; omega) (cell_aside _ (by dsimp only; omega) m0))
    have m1' : ((w9.setCell ⟨w.heap.size + 2, 0, none⟩ (.bool SQ)).setCell ⟨w.heap.size + 2, 1, none⟩ (.slice aq LQ.length cq)).cell? ⟨w7.heap.size, 1, none⟩ = some (.slice aq LQ.length cq) := (cell_aside _ (by dsimp only; omega) (cell_aside _ (by dsimp only; omega) m1))
    have n0' : ((w9.setCell ⟨w.heap.size + 2, 0, none⟩ (.bool SQ)).setCell ⟨w.heap.size + 2, 1, none⟩ (.slice aq LQ.length cq)).cell? ⟨w5.heap.size + 1, 0, none⟩ = some (.bool false) := (cell_aside _ (by dsimp only; omega) (cell_aside _ (by dsimp only; omega) n0))
    have n1' : ((w9.setCell ⟨w.heap.size + 2, 0, none⟩ (.bool SQ)).setCell ⟨w.heap.size + 2, 1, none⟩ (.slice aq LQ.length cq)).cell? ⟨w5.heap.size + 1, 1, none⟩ = some (.slice ar LR.length cr) := (cell_aside _ (by dsimp only; omega) (cell_aside _ (by dsimp only; omega) n1))
    obtain ⟨A0, A1, B0, B1, ks, hs⟩ := four_set (.bool SQ) (.slice aq LQ.length cq) (.bool false) (.slice ar LR.length cr) q0 q1 t0 t1
    have A0 := hide A0
    have A1 := hide A1
    have B0 := hide B0
    have B1 := hide B1
    clear q0 q1 t0 t1 f0 f1 g0 g1
    clear hHeld
    refine hK.out _ _ ?_ (fun hHeld => ?_)
    · exact ⟨m0', m1', n0', n1'⟩
    clear hK KK
    try simp only [Act.put, List.getElem_toArray, List.getElem_cons_succ, List.getElem_cons_zero, List.setIfInBounds_toArray, List.set_cons_zero, List.set_cons_succ]
    refine wpAnyH_ready (rs := [3]) (by kernel_rfl) (by simp) ?_
    refine AllReadyH.cons rfl (fun KK hK => ?_) AllReadyH.nil
    simp only [List.getElem_toArray, List.getElem_cons_succ, List.getElem_cons_zero]
    rw [if_pos (by rfl)]
    go_simp
    clear hHeld
    refine hK.out _ _ ?_ (fun hHeld => ?_)
    · exact ⟨(cell_aside _ (by dsimp only; omega) (cell_aside _ (by dsimp only; omega) m0')), (cell_aside _ (by dsimp only; omega) (cell_aside _ (by dsimp only; omega) m1')), (cell_aside _ (by dsimp only; omega) (cell_aside _ (by dsimp only; omega) n0')), (cell_aside _ (by dsimp only; omega) (cell_aside _ (by dsimp only; omega) n1'))⟩
    clear hK KK
    try simp only [Act.put, List.getElem_toArray, List.getElem_cons_succ, List.getElem_cons_zero, List.setIfInBounds_toArray, List.set_cons_zero, List.set_cons_succ]
    refine wpAnyH_take (i := 4) (oi := _) (v := .bool true) rfl (by kernel_rfl) (by kernel_rfl) (by kernel_rfl) (fun _ _ _ h => h) (Or.inl ⟨by rfl, ?_⟩) hHeld ?_
    · intro wq hSw
      try dsimp only at hSw
      go_simp
    try simp only [Act.put, List.getElem_toArray, List.getElem_cons_succ, List.getElem_cons_zero, List.setIfInBounds_toArray, List.set_cons_zero, List.set_cons_succ]
    refine wpAnyH_done (by kernel_rfl) ?_ _
    clear hHeld
    have E3 := hide ((rq.kept ks (by omega)).wider (lo' := w.heap.size) (hi' := ((((w9.setCell ⟨w.heap.size + 2, 0, none⟩ (.bool SQ)).setCell ⟨w.heap.size + 2, 1, none⟩ (.slice aq LQ.length cq)).setCell ⟨w.heap.size + 3, 0, none⟩ (.bool false)).setCell ⟨w.heap.size + 3, 1, none⟩ (.slice ar LR.length cr)).heap.size) (by omega) (by rw [size_set, size_set, size_set, size_set]; have := unhide H8; omega))
    have E4 := hide ((rr.kept ks (by omega)).wider (lo' := w.heap.size) (hi' := ((((w9.setCell ⟨w.heap.size + 2, 0, none⟩ (.bool SQ)).setCell ⟨w.heap.size + 2, 1, none⟩ (.slice aq LQ.length cq)).setCell ⟨w.heap.size + 3, 0, none⟩ (.bool false)).setCell ⟨w.heap.size + 3, 1, none⟩ (.slice ar LR.length cr)).heap.size) (by omega) (by rw [size_set, size_set, size_set, size_set]; have := unhide H8; omega))
    have K7 := hide ((unhide K).wide ks (by omega))
    clear ks hs rq rr K T0 T1 G0' G1' m0 m1 n0 n1 m0' m1' n0' n1'
    replace A0 := unhide A0
    replace A1 := unhide A1
    replace B0 := unhide B0
    replace B1 := unhide B1
    go_wp2_with fail
    exact bodyPost_ret (v := .tuple #[.agg #[.bool SQ, .slice aq LQ.length cq], .agg #[.bool false, .slice ar LR.length cr], .bool true]) (by simp [results, Try.results5, go_sem, A0, A1, B0, B1]) rfl ⟨_, _, by rw [(wv_yes (unhide ey)).1, unhide ey, ← unhide HSQ], by rw [(wv_yes (unhide ey)).2.1, ← unhide HLQ]; exact unhide E3, by rw [(wv_yes (unhide ey)).2.2, ← unhide HLR]; exact unhide E4, unhide K7⟩
  · rw [decide_eq_false hl, if_neg hl, Bool.false_and]
    have e0 : Hid (wvB s1 s2 xs ys = false) := by show _ = _; rw [unhide HB]; exact decide_eq_false hl
    have kB := (Kept.refl 0 0 w7).alloc (.cells #[.bool false, .slice none 0 0] 30)
    replace f0 := kB.loose0 (World.block_lt_of_cell? _ _ q0) f0
    replace f1 := kB.loose0 (World.block_lt_of_cell? _ _ q1) f1
    replace g0 := kB.loose0 (World.block_lt_of_cell? _ _ t0) g0
    replace g1 := kB.loose0 (World.block_lt_of_cell? _ _ t1) g1
    replace c0 := kB.cell0 c0
    replace c1 := kB.cell0 c1
    replace d0 := kB.cell0 d0
    replace d1 := kB.cell0 d1
    replace q0 := kB.cell0 q0
    replace q1 := kB.cell0 q1
    replace t0 := kB.cell0 t0
    replace t1 := kB.cell0 t1
    replace n0 := kB.cell0 n0
    replace n1 := kB.cell0 n1
    replace rq := rq.kept kB (by omega)
    replace rr := rr.kept kB (by omega)
    replace K := hide ((unhide K).trans kB)
    clear kB hl n0 n1
    obtain ⟨A0, A1, B0, B1, ks, hs⟩ := four_set (.bool false) (.slice none 0 0) (.bool false) (.slice none 0 0) q0 q1 t0 t1
    have K7 := hide ((unhide K).wide ks (by omega))
    clear ks hs K rq rr
    go_wp2_with fail
    exact bodyPost_ret (v := .tuple #[.agg #[.bool false, .slice none 0 0], .agg #[.bool false, .slice none 0 0], .bool false]) (by simp [results, Try.results5, go_sem, A0, A1, B0, B1]) rfl ⟨_, _, by rw [(wv_no (unhide e0)).1, unhide e0], by rw [(wv_no (unhide e0)).2.1]; exact Row.nil _ _ _ _ _, by rw [(wv_no (unhide e0)).2.2]; exact Row.nil _ _ _ _ _, unhide K7⟩

end Go.Proofs.Ytmoeeoninbphiaa
