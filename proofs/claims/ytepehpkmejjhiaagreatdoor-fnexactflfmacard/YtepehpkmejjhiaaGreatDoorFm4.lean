/-
  A product and a sum of floats, rounded once: the numbers of the model, what its parts tell.
-/
import Derived.Test.YtepehpkmejjhiaaGreatDoorFm3
import Derived.Test.YtepehpkmejjhiaaGreatDoorFlMs
import Derived.Test.YtepehpkmejjhiaaGreatDoorFlA5
import Derived.Deep.RegionHeld3
import Derived.Deep.DeepCutAuto
namespace Go.Proofs.YtepehpkmejjhiaaGreatDoor
open Go.RowKit
set_option linter.unusedVariables false
set_option maxRecDepth 8000
set_option linter.unusedSimpArgs false

def okM (k1 : Int) (n1 : Bool) (m1 e1 k2 : Int) (n2 : Bool) (m2 e2 mode : Int) : Bool := flok k1 n1 m1 e1 && flok k2 n2 m2 e2 && modeB mode

theorem okM_iff {k1 : Int} {n1 : Bool} {m1 e1 k2 : Int} {n2 : Bool} {m2 e2 mode : Int} (h : okM k1 n1 m1 e1 k2 n2 m2 e2 mode = true) : flok k1 n1 m1 e1 = true ∧ flok k2 n2 m2 e2 = true ∧ 0 ≤ mode ∧ mode ≤ 4 := by
  unfold okM modeB at h
  simp only [Bool.and_eq_true, decide_eq_true_eq] at h
  exact ⟨h.1.1, h.1.2, h.2.1, h.2.2⟩

set_option maxHeartbeats 1000000 in
theorem l5ok_spec (k1 : Int) (n1 : Bool) (m1 e1 k2 : Int) (n2 : Bool) (m2 e2 mode : Int) (w : World) :
    Calls Tryz.prog 58 #[flv k1 n1 m1 e1, flv k2 n2 m2 e2, .int .i64 mode] w fun e' w' => e' = .returned (.bool (okM k1 n1 m1 e1 k2 n2 m2 e2 mode)) ∧ Kept 0 0 w w' := by
  obtain ⟨C, hC⟩ : ∃ y, okM k1 n1 m1 e1 k2 n2 m2 e2 mode = y := ⟨_, rfl⟩
  rw [hC]
  have HC := hide hC
  clear hC
  obtain ⟨Wn, hn0⟩ : ∃ wz, wz = ((w.alloc (.cells #[.int .i64 k1, .bool n1, .int .i64 m1, .int .i64 e1] 24)).alloc (.cells #[.int .i64 k2, .bool n2, .int .i64 m2, .int .i64 e2] 24)) := ⟨_, rfl⟩
  have k0 : Kept 0 0 w Wn := by rw [hn0]; exact (((Kept.refl 0 0 w).alloc _).alloc _)
  have p0 : Wn.cell? ⟨w.heap.size, 0, none⟩ = some (.int .i64 k1) := by rw [hn0]; exact old_cell _ (new_cell2 _ _ _ _ _ _ (by simp) rfl)
  have p1 : Wn.cell? ⟨w.heap.size, 1, none⟩ = some (.bool n1) := by rw [hn0]; exact old_cell _ (new_cell2 _ _ _ _ _ _ (by simp) rfl)
  have p2 : Wn.cell? ⟨w.heap.size, 2, none⟩ = some (.int .i64 m1) := by rw [hn0]; exact old_cell _ (new_cell2 _ _ _ _ _ _ (by simp) rfl)
  have p3 : Wn.cell? ⟨w.heap.size, 3, none⟩ = some (.int .i64 e1) := by rw [hn0]; exact old_cell _ (new_cell2 _ _ _ _ _ _ (by simp) rfl)
  have t0 : Wn.cell? ⟨w.heap.size + 1, 0, none⟩ = some (.int .i64 k2) := by rw [hn0]; exact new_cell2 _ _ _ _ _ _ (by simp) rfl
  have t1 : Wn.cell? ⟨w.heap.size + 1, 1, none⟩ = some (.bool n2) := by rw [hn0]; exact new_cell2 _ _ _ _ _ _ (by simp) rfl
  have t2 : Wn.cell? ⟨w.heap.size + 1, 2, none⟩ = some (.int .i64 m2) := by rw [hn0]; exact new_cell2 _ _ _ _ _ _ (by simp) rfl
  have t3 : Wn.cell? ⟨w.heap.size + 1, 3, none⟩ = some (.int .i64 e2) := by rw [hn0]; exact new_cell2 _ _ _ _ _ _ (by simp) rfl
  have s0 : Wn.heap.size = w.heap.size + 2 := by rw [hn0]; exact by simp
  subst hn0
  have K := hide (k0)
  clear k0
  have S0 := hide s0
  clear s0
  go_enter Tryz.func58, Tryz.ntmps58
  go_wp2_with fail
  generalize ((w.alloc (.cells #[.int .i64 k1, .bool n1, .int .i64 m1, .int .i64 e1] 24)).alloc (.cells #[.int .i64 k2, .bool n2, .int .i64 m2, .int .i64 e2] 24)) = W at *
  cases h1 : flok k1 n1 m1 e1
  ·have FC : Hid (C = false) := by show _ = _; rw [← unhide HC]; unfold okM; rw [h1]; rfl
   refine (flok_spec_k h1 _).mono ?_
   rintro e w1 ⟨rfl, k1⟩
   replace p0 := k1.cell0 p0
   replace p1 := k1.cell0 p1
   replace p2 := k1.cell0 p2
   replace p3 := k1.cell0 p3
   replace t0 := k1.cell0 t0
   replace t1 := k1.cell0 t1
   replace t2 := k1.cell0 t2
   replace t3 := k1.cell0 t3
   replace K := hide ((unhide K).trans k1)
   have z2 := k1.size
   clear k1
   go_wp2_with fail
   go_ret
   exact ⟨by rw [unhide FC]; rfl, unhide K⟩
  refine (flok_spec_k h1 _).mono ?_
  rintro e w1 ⟨rfl, k1⟩
  replace p0 := k1.cell0 p0
  replace p1 := k1.cell0 p1
  replace p2 := k1.cell0 p2
  replace p3 := k1.cell0 p3
  replace t0 := k1.cell0 t0
  replace t1 := k1.cell0 t1
  replace t2 := k1.cell0 t2
  replace t3 := k1.cell0 t3
  replace K := hide ((unhide K).trans k1)
  have z2 := k1.size
  clear k1
  go_wp2_with fail
  cases h2 : flok k2 n2 m2 e2
  ·have FC : Hid (C = false) := by show _ = _; rw [← unhide HC]; unfold okM; rw [h2]; simp
   refine (flok_spec_k h2 _).mono ?_
   rintro e w3 ⟨rfl, k3⟩
   replace p0 := k3.cell0 p0
   replace p1 := k3.cell0 p1
   replace p2 := k3.cell0 p2
   replace p3 := k3.cell0 p3
   replace t0 := k3.cell0 t0
   replace t1 := k3.cell0 t1
   replace t2 := k3.cell0 t2
   replace t3 := k3.cell0 t3
   replace K := hide ((unhide K).trans k3)
   have z4 := k3.size
   clear k3
   go_wp2_with fail
   go_ret
   exact ⟨by rw [unhide FC]; rfl, unhide K⟩
  refine (flok_spec_k h2 _).mono ?_
  rintro e w3 ⟨rfl, k3⟩
  replace p0 := k3.cell0 p0
  replace p1 := k3.cell0 p1
  replace p2 := k3.cell0 p2
  replace p3 := k3.cell0 p3
  replace t0 := k3.cell0 t0
  replace t1 := k3.cell0 t1
  replace t2 := k3.cell0 t2
  replace t3 := k3.cell0 t3
  replace K := hide ((unhide K).trans k3)
  have z4 := k3.size
  clear k3
  have FC : Hid (C = modeB mode) := by show _ = _; rw [← unhide HC]; unfold okM; rw [h1, h2]; rfl
  clear h1 h2
  go_wp2_with fail
  refine (mode_spec mode _).mono ?_
  rintro e w5 ⟨rfl, rfl⟩
  go_wp2_with fail
  go_ret
  exact ⟨by rw [unhide FC]; rfl, unhide K⟩

theorem FB.set4 {w : World} {X : Nat} {p q r t : Value} (k : Int) (n : Bool) (m e : Int) (h0 : w.cell? ⟨X, 0, none⟩ = some p) (h1 : w.cell? ⟨X, 1, none⟩ = some q) (h2 : w.cell? ⟨X, 2, none⟩ = some r) (h3 : w.cell? ⟨X, 3, none⟩ = some t) :
    FB ((((w.setCell ⟨X, 0, none⟩ (.int .i64 k)).setCell ⟨X, 1, none⟩ (.bool n)).setCell ⟨X, 2, none⟩ (.int .i64 m)).setCell ⟨X, 3, none⟩ (.int .i64 e)) X k n m e :=
  ⟨by have := zbl h0; simpa [World.setCell] using this,
   cell_off _ _ _ _ _ _ (cell_off _ _ _ _ _ _ (cell_off _ _ _ _ _ _ (cell_on _ _ _ _ _ h0) (by decide)) (by decide)) (by decide),
   cell_off _ _ _ _ _ _ (cell_off _ _ _ _ _ _ (cell_on _ _ _ _ _ (cell_off _ _ _ _ _ _ h1 (by decide))) (by decide)) (by decide),
   cell_off _ _ _ _ _ _ (cell_on _ _ _ _ _ (cell_off _ _ _ _ _ _ (cell_off _ _ _ _ _ _ h2 (by decide)) (by decide))) (by decide),
   cell_on _ _ _ _ _ (cell_off _ _ _ _ _ _ (cell_off _ _ _ _ _ _ (cell_off _ _ _ _ _ _ h3 (by decide)) (by decide)) (by decide))⟩

theorem mulS_sp {k1 : Int} {n1 : Bool} {m1 e1 k2 : Int} {n2 : Bool} {m2 e2 : Int} (h1 : flok k1 n1 m1 e1 = true) (h2 : flok k2 n2 m2 e2 = true) (hs : 2 ≤ k1 ∨ 2 ≤ k2) (mode : Int) (hm0 : 0 ≤ mode) (hm4 : mode ≤ 4) (w : World) :
    Calls Tryz.prog 60 #[flv k1 n1 m1 e1, flv k2 n2 m2 e2, .int .i64 mode] w fun e' w' => e' = .returned (.tuple #[flq (mulQ k1 n1 m1 e1 k2 n2 m2 e2 mode).1, .int .i64 (mulQ k1 n1 m1 e1 k2 n2 m2 e2 mode).2]) ∧ Kept 0 0 w w' := by
  rcases flok_ways h1 with ⟨rfl, a11, a21, a31, a41, -⟩ | ⟨rfl, rfl, rfl⟩ | ⟨rfl, rfl, rfl⟩ | ⟨rfl, rfl, rfl, rfl⟩
  ·rcases flok_ways h2 with ⟨rfl, a12, a22, a32, a42, -⟩ | ⟨rfl, rfl, rfl⟩ | ⟨rfl, rfl, rfl⟩ | ⟨rfl, rfl, rfl, rfl⟩
   ·omega
   ·omega
   ·exact mulS_num_inf n1 m1 e1 n2 a11 a21 a31 a41 mode hm0 hm4 w
   ·exact mulS_num_nan n1 m1 e1 a11 a21 a31 a41 mode hm0 hm4 w
  ·rcases flok_ways h2 with ⟨rfl, a12, a22, a32, a42, -⟩ | ⟨rfl, rfl, rfl⟩ | ⟨rfl, rfl, rfl⟩ | ⟨rfl, rfl, rfl, rfl⟩
   ·omega
   ·omega
   ·exact mulS_nought_inf n1 n2 mode hm0 hm4 w
   ·exact mulS_nought_nan n1 mode hm0 hm4 w
  ·rcases flok_ways h2 with ⟨rfl, a12, a22, a32, a42, -⟩ | ⟨rfl, rfl, rfl⟩ | ⟨rfl, rfl, rfl⟩ | ⟨rfl, rfl, rfl, rfl⟩
   ·exact mulS_inf_num n1 n2 m2 e2 a12 a22 a32 a42 mode hm0 hm4 w
   ·exact mulS_inf_nought n1 n2 mode hm0 hm4 w
   ·exact mulS_inf_inf n1 n2 mode hm0 hm4 w
   ·exact mulS_inf_nan n1 mode hm0 hm4 w
  ·rcases flok_ways h2 with ⟨rfl, a12, a22, a32, a42, -⟩ | ⟨rfl, rfl, rfl⟩ | ⟨rfl, rfl, rfl⟩ | ⟨rfl, rfl, rfl, rfl⟩
   ·exact mulS_nan_num n2 m2 e2 a12 a22 a32 a42 mode hm0 hm4 w
   ·exact mulS_nan_nought n2 mode hm0 hm4 w
   ·exact mulS_nan_inf n2 mode hm0 hm4 w
   ·exact mulS_nan_nan mode hm0 hm4 w

theorem addS_nan_any {k3 : Int} {n3 : Bool} {m3 e3 : Int} (h3 : flok k3 n3 m3 e3 = true) (mode : Int) (hm0 : 0 ≤ mode) (hm4 : mode ≤ 4) (w : World) :
    Calls Tryz.prog 61 #[flv 3 false 0 0, flv k3 n3 m3 e3, .int .i64 mode] w fun e' w' => e' = .returned (.tuple #[flq (addQ 3 false 0 0 k3 n3 m3 e3 mode).1, .int .i64 (addQ 3 false 0 0 k3 n3 m3 e3 mode).2]) ∧ Kept 0 0 w w' := by
  rcases flok_ways h3 with ⟨rfl, a12, a22, a32, a42, -⟩ | ⟨rfl, rfl, rfl⟩ | ⟨rfl, rfl, rfl⟩ | ⟨rfl, rfl, rfl, rfl⟩
  ·exact addS_nan_num n3 m3 e3 a12 a22 a32 a42 mode hm0 hm4 w
  ·exact addS_nan_nought n3 mode hm0 hm4 w
  ·exact addS_nan_inf n3 mode hm0 hm4 w
  ·exact addS_nan_nan mode hm0 hm4 w

theorem addS_inf_any (s : Bool) {k3 : Int} {n3 : Bool} {m3 e3 : Int} (h3 : flok k3 n3 m3 e3 = true) (mode : Int) (hm0 : 0 ≤ mode) (hm4 : mode ≤ 4) (w : World) :
    Calls Tryz.prog 61 #[flv 2 s 0 0, flv k3 n3 m3 e3, .int .i64 mode] w fun e' w' => e' = .returned (.tuple #[flq (addQ 2 s 0 0 k3 n3 m3 e3 mode).1, .int .i64 (addQ 2 s 0 0 k3 n3 m3 e3 mode).2]) ∧ Kept 0 0 w w' := by
  rcases flok_ways h3 with ⟨rfl, a12, a22, a32, a42, -⟩ | ⟨rfl, rfl, rfl⟩ | ⟨rfl, rfl, rfl⟩ | ⟨rfl, rfl, rfl, rfl⟩
  ·exact addS_inf_num s n3 m3 e3 a12 a22 a32 a42 mode hm0 hm4 w
  ·exact addS_inf_nought s n3 mode hm0 hm4 w
  ·cases s <;> cases n3
   ·exact addS_inf_inf_false_false mode hm0 hm4 w
   ·exact addS_inf_inf_false_true mode hm0 hm4 w
   ·exact addS_inf_inf_true_false mode hm0 hm4 w
   ·exact addS_inf_inf_true_true mode hm0 hm4 w
  ·exact addS_inf_nan s mode hm0 hm4 w

theorem addS_nought_sp {k3 : Int} {n3 : Bool} {m3 e3 : Int} (h3 : flok k3 n3 m3 e3 = true) (j3 : 2 ≤ k3) (mode : Int) (hm0 : 0 ≤ mode) (hm4 : mode ≤ 4) (w : World) :
    Calls Tryz.prog 61 #[flv 0 false 0 0, flv k3 n3 m3 e3, .int .i64 mode] w fun e' w' => e' = .returned (.tuple #[flv k3 n3 m3 e3, .int .i64 0]) ∧ Kept 0 0 w w' := by
  rcases flok_ways h3 with ⟨rfl, -⟩ | ⟨rfl, -⟩ | ⟨rfl, rfl, rfl⟩ | ⟨rfl, rfl, rfl, rfl⟩
  ·omega
  ·omega
  ·have := addS_nought_inf false n3 mode hm0 hm4 w
   rw [show addQ 0 false 0 0 2 n3 0 0 mode = ((2, n3, 0, 0), 0) by unfold addQ; simp] at this
   exact this
  ·have := addS_nought_nan false mode hm0 hm4 w
   rw [show addQ 0 false 0 0 3 false 0 0 mode = ((3, false, 0, 0), 0) by unfold addQ; simp] at this
   exact this
theorem fl_over (mode : Int) (s : Bool) (V : Nat) (x : Int) : ((flA mode s V x).1 < 2 ∧ flG mode s V x ≠ 16) ∨ ((flA mode s V x).1 = 2 ∧ flG mode s V x = 3) := by
  unfold flA flG
  by_cases h : V = 0
  ·rw [if_pos h, if_pos h]
   exact .inl ⟨by decide, by decide⟩
  ·rw [if_neg h, if_neg h]
   split
   ·unfold flO
    split
    ·exact .inl ⟨by decide, by decide⟩
    ·exact .inr ⟨rfl, rfl⟩
   ·refine .inl ⟨?_, ?_⟩
    ·unfold flI
     split
     ·decide
     ·split
      ·show (1 : Int) < 2; decide
      ·show (1 : Int) < 2; decide
    ·unfold flF
     split
     ·decide
     ·split
      ·decide
      ·decide
theorem mul_fin_ways {k1 : Int} {n1 : Bool} {m1 e1 k2 : Int} {n2 : Bool} {m2 e2 : Int} (j1 : k1 ≤ 1) (j2 : k2 ≤ 1) (mode : Int) : ((mulQ k1 n1 m1 e1 k2 n2 m2 e2 mode).1.1 < 2 ∧ (mulQ k1 n1 m1 e1 k2 n2 m2 e2 mode).2 ≠ 16) ∨ ((mulQ k1 n1 m1 e1 k2 n2 m2 e2 mode).1.1 = 2 ∧ (mulQ k1 n1 m1 e1 k2 n2 m2 e2 mode).2 = 3) := by
  unfold mulQ
  rw [if_neg (show ¬ (k1 = 3 ∨ k2 = 3) by omega), if_neg (show ¬ ((k1 = 2 ∧ k2 = 0) ∨ (k1 = 0 ∧ k2 = 2)) by omega), if_neg (show ¬ (k1 = 2 ∨ k2 = 2) by omega)]
  exact fl_over _ _ _ _
theorem dy5_fin {k : Int} {n : Bool} {m e : Int} (h : flok k n m e = true) (hk : k ≤ 1) (w : World) :
    Calls Tryz.prog 65 #[flv k n m e] w fun e' w' => ∃ v', e' = .returned (.agg #[.bool (wsg (fM k n m)), v', .int .i64 (dex (fM k n m) e)]) ∧ Row .i64 true w.heap.size w'.heap.size w' v' (dlm (fM k n m)) ∧ Kept 0 0 w w' := by
  rcases flok_ways h with ⟨rfl, a1, a2, a3, a4, -⟩ | ⟨rfl, rfl, rfl⟩ | ⟨rfl, -⟩ | ⟨rfl, -⟩
  ·exact dy5_num n m e a1 a2 a3 a4 w
  ·exact dy5_nought n w
  ·omega
  ·omega
theorem dex_lo {m x L : Int} (h : L ≤ x) (h0 : L ≤ 0) : L ≤ dex m x := by
  unfold dex
  split <;> omega
theorem dex_hi {m x : Int} {A : Nat} (h : m.natAbs < 2 ^ A) : dex m x ≤ max x 0 + A := by
  unfold dex
  split
  ·omega
  ·have := tz_lt (n := m.natAbs) (by omega) h
   omega
theorem dok_w (F e : Int) (h1 : F.natAbs < 2 ^ 128) (h2 : -2800 ≤ e) (h3 : e ≤ 2800) : dokB (wsg F) (dlm F) (dex F e) = true := by
  have hl : (dlm F).length ≤ 8 := Nat.le_trans (dlm_len (M := F) rfl) (wlm_len h1 (by omega))
  have hd1 := dex_lo (m := F) (x := e) (L := -2800) h2 (by omega)
  have hd2 := dex_hi (x := e) h1
  have hx : -3000 ≤ dex F e ∧ dex F e ≤ 3000 := by omega
  have hk : ansDB true F e = true := by
   unfold ansDB
   rw [dok_told, decide_eq_true (show (dlm F).length ≤ 100 by omega), decide_eq_true hx.1, decide_eq_true hx.2]
   rfl
  unfold ansDB at hk
  simpa using hk
theorem fma_val (mode : Int) (Z : Bool) (F1 F2 F3 e1 e2 e3 M12 X12 xp x3 M X : Int) (a1 : -1100 ≤ e1) (a2 : -1100 ≤ e2) (a3 : -1100 ≤ e3)
    (h12 : wval (wsg F1) (dlm F1) * wval (wsg F2) (dlm F2) = M12) (hx12 : dex F1 e1 + dex F2 e2 = X12) (hxp : dex M12 X12 = xp) (hx3 : dex F3 e3 = x3)
    (hM : wval (wsg M12) (dlm M12) * 2 ^ (xp - min xp x3).toNat + wval (wsg F3) (dlm F3) * 2 ^ (x3 - min xp x3).toNat = M) (hX : min xp x3 = X) :
    rndQ mode M X Z = rndQ mode (F1 * F2 * 2 ^ (e1 + e2 - min (e1 + e2) e3).toNat + F3 * 2 ^ (e3 - min (e1 + e2) e3).toNat) (min (e1 + e2) e3) Z := by
  obtain ⟨L, hL⟩ : ∃ L : Int, L = -1100 := ⟨_, rfl⟩
  have d1 := dex_lo (m := F1) (x := e1) (L := L) (by omega) (by omega)
  have d2 := dex_lo (m := F2) (x := e2) (L := L) (by omega) (by omega)
  have d3 := dex_lo (m := F3) (x := e3) (L := L + L) (by omega) (by omega)
  have dp := dex_lo (m := M12) (x := X12) (L := L + L) (by omega) (by omega)
  have v1 := val_at F1 e1 L (by omega)
  have v2 := val_at F2 e2 L (by omega)
  have v3 := val_at F3 e3 (L + L) (by omega)
  have vp := val_at M12 X12 (L + L) (by omega)
  rw [hx3] at v3 d3
  rw [hxp] at vp dp
  have s1 : M * 2 ^ (X - (L + L)).toNat = wval (wsg M12) (dlm M12) * 2 ^ (xp - (L + L)).toNat + wval (wsg F3) (dlm F3) * 2 ^ (x3 - (L + L)).toNat := by
   rw [← hM, hX, Int.add_mul, Int.mul_assoc, Int.mul_assoc, ← Int.pow_add, ← Int.pow_add, show (xp - X).toNat + (X - (L + L)).toNat = (xp - (L + L)).toNat by omega, show (x3 - X).toNat + (X - (L + L)).toNat = (x3 - (L + L)).toNat by omega]
  obtain ⟨lo, hlo⟩ : ∃ y, min (e1 + e2) e3 = y := ⟨_, rfl⟩
  rw [hlo]
  have s2 : (F1 * F2 * 2 ^ (e1 + e2 - lo).toNat + F3 * 2 ^ (e3 - lo).toNat) * 2 ^ (lo - (L + L)).toNat = F1 * F2 * 2 ^ (e1 + e2 - (L + L)).toNat + F3 * 2 ^ (e3 - (L + L)).toNat := by
   rw [Int.add_mul, Int.mul_assoc (F1 * F2), Int.mul_assoc F3, ← Int.pow_add, ← Int.pow_add, show (e1 + e2 - lo).toNat + (lo - (L + L)).toNat = (e1 + e2 - (L + L)).toNat by omega, show (e3 - lo).toNat + (lo - (L + L)).toNat = (e3 - (L + L)).toNat by omega]
  have s3 : M12 * 2 ^ (X12 - (L + L)).toNat = F1 * F2 * 2 ^ (e1 + e2 - (L + L)).toNat := by
   rw [← h12, ← hx12, show (dex F1 e1 + dex F2 e2 - (L + L)).toNat = (dex F1 e1 - L).toNat + (dex F2 e2 - L).toNat by omega, show (e1 + e2 - (L + L)).toNat = (e1 - L).toNat + (e2 - L).toNat by omega, Int.pow_add, Int.pow_add]
   calc wval (wsg F1) (dlm F1) * wval (wsg F2) (dlm F2) * (2 ^ (dex F1 e1 - L).toNat * 2 ^ (dex F2 e2 - L).toNat) = (wval (wsg F1) (dlm F1) * 2 ^ (dex F1 e1 - L).toNat) * (wval (wsg F2) (dlm F2) * 2 ^ (dex F2 e2 - L).toNat) := by ac_rfl
    _ = F1 * 2 ^ (e1 - L).toNat * (F2 * 2 ^ (e2 - L).toNat) := by rw [v1, v2]
    _ = F1 * F2 * (2 ^ (e1 - L).toNat * 2 ^ (e2 - L).toNat) := by ac_rfl
  exact rndQ_same (L := L + L) (by omega) (by omega) (by rw [s1, s2, vp, v3, s3])

end Go.Proofs.YtepehpkmejjhiaaGreatDoor

