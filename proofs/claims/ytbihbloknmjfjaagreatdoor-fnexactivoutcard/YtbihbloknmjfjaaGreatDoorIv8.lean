/-
  Intervals of the model: l7out, IvOut.
-/
import Derived.Test.YtbihbloknmjfjaaGreatDoorIv4a
import Derived.Test.YtbihbloknmjfjaaGreatDoorIv7
import Derived.Deep.DeepCutAuto
import Derived.Deep.RegionHeld3
namespace Go.Proofs.YtbihbloknmjfjaaGreatDoor
open Go.RowKit
set_option linter.unusedVariables false
set_option maxRecDepth 8000
set_option linter.unusedSimpArgs false

theorem in_l7out : ∀ (w : World) (args : Array Value), (callFunc 15 args).run Tryz.prog w = .ok (.enter 15 args) w := enters Tryz.func15 (by decide) (fun h => by cases h)

/-- A list that lies below H, or from L on. -/
def Either (H L : Nat) (w : World) (v : Value) (zs : List Int) : Prop := Row .i64 false 0 H w v zs ∨ ∃ T, Row .i64 false L T w v zs
theorem Either.kept {H L : Nat} {w w' : World} {v : Value} {zs : List Int} (h : Either H L w v zs) (k : Kept 0 0 w w') : Either H L w' v zs := by
  rcases h with h | ⟨T, h⟩
  ·exact .inl (h.kp k)
  ·exact .inr ⟨T, h.kp k⟩
theorem Either.set {H L : Nat} {w : World} {v : Value} {zs : List Int} (h : Either H L w v zs) {X : Nat} (i : Nat) (h1 : H ≤ X) (h2 : X < L) (u : Value) : Either H L (w.setCell ⟨X, i, none⟩ u) v zs := by
  rcases h with h | ⟨T, h⟩
  ·exact .inl (h.set_other (p := ⟨X, i, none⟩) (.inr h1) u)
  ·exact .inr ⟨T, h.set_other (p := ⟨X, i, none⟩) (.inl h2) u⟩
theorem Either.row {H L : Nat} {w : World} {v : Value} {zs : List Int} (h : Either H L w v zs) : Row .i64 false 0 w.heap.size w v zs := by
  rcases h with h | ⟨T, h⟩
  ·exact h.tight
  ·exact h.tight.wider (Nat.zero_le _) (Nat.le_refl _)

theorem rnd_rg {s : Bool} {zs : List Int} {x : Int} (h : dokB s zs x = true) (low mode : Int) (h0 : -3000 ≤ low) (h1 : low ≤ 3000) : dex (rndM mode.toNat s (val zs).toNat (x - (low - 1))) low ≤ 9223372036854775807 ∧ -9223372036854775808 ≤ dex (rndM mode.toNat s (val zs).toNat (x - (low - 1))) low := by
  obtain ⟨g1, g2, g3, -, -⟩ := dok_parts h
  obtain ⟨-, -, hl, hn⟩ := wok_int g1
  have hMa : (rndM mode.toNat s (val zs).toNat (x - (low - 1))).natAbs < 2 ^ (16 * 2000) := by
   unfold rndM
   rw [wval_abs (limbs_lim _), limbs_val, Int.toNat_natCast]
   have e1 := scN_len hn.1 (x - (low - 1)) 1000 (by omega)
   have e2 := rndN_len mode.toNat s (scN (val zs).toNat (x - (low - 1))) (scL (val zs).toNat (x - (low - 1)))
   have e3 : (limbs (rndN mode.toNat s (scN (val zs).toNat (x - (low - 1))) (scL (val zs).toNat (x - (low - 1))))).length ≤ 2000 := by omega
   have e4 := (limbs_length_le _ _).1 e3
   rw [pow_limb] at e4
   exact_mod_cast e4
  exact dex_range _ low (by omega) (by omega) hMa (by omega)

set_option maxHeartbeats 4000000 in
theorem out7_spec {b1 b2 : Bool} {w1l w1h w2l w2h : Nat} {v1 v2 : Value} {l1 l2 : List Int} (s1 : Bool) (e1 : Int) (s2 : Bool) (e2 : Int) (w : World) (r1 : Row .i64 b1 w1l w1h w v1 l1) (r2 : Row .i64 b2 w2l w2h w v2 l2) (o1 : dokB s1 l1 e1 = true) (o2 : dokB s2 l2 e2 = true) (low : Int) (hl0 : -3000 ≤ low) (hl1 : low ≤ 3000) :
    Calls Tryz.prog 15 #[.agg #[.bool s1, v1, .int .i64 e1, .bool s2, v2, .int .i64 e2], .int .i64 low] w fun e w' => ∃ v v', e = .returned (.agg #[.bool (wsg (rndM (3 : Int).toNat s1 (val l1).toNat (e1 - (low - 1)))), v, .int .i64 (dex (rndM (3 : Int).toNat s1 (val l1).toNat (e1 - (low - 1))) low), .bool (wsg (rndM (2 : Int).toNat s2 (val l2).toNat (e2 - (low - 1)))), v', .int .i64 (dex (rndM (2 : Int).toNat s2 (val l2).toNat (e2 - (low - 1))) low)]) ∧ Row .i64 false 0 w'.heap.size w' v (dlm (rndM (3 : Int).toNat s1 (val l1).toNat (e1 - (low - 1)))) ∧ Row .i64 false 0 w'.heap.size w' v' (dlm (rndM (2 : Int).toNat s2 (val l2).toNat (e2 - (low - 1)))) ∧ Kept 0 0 w w' := by
  replace r1 := r1.tight
  replace r2 := r2.tight
  obtain ⟨W1, hW1⟩ : ∃ c, wsg (rndM (3 : Int).toNat s1 (val l1).toNat (e1 - (low - 1))) = c := ⟨_, rfl⟩
  obtain ⟨D1, hD1⟩ : ∃ c, dex (rndM (3 : Int).toNat s1 (val l1).toNat (e1 - (low - 1))) (low) = c := ⟨_, rfl⟩
  obtain ⟨Q1, hQ1⟩ : ∃ c, dlm (rndM (3 : Int).toNat s1 (val l1).toNat (e1 - (low - 1))) = c := ⟨_, rfl⟩
  obtain ⟨W2, hW2⟩ : ∃ c, wsg (rndM (2 : Int).toNat s2 (val l2).toNat (e2 - (low - 1))) = c := ⟨_, rfl⟩
  obtain ⟨D2, hD2⟩ : ∃ c, dex (rndM (2 : Int).toNat s2 (val l2).toNat (e2 - (low - 1))) (low) = c := ⟨_, rfl⟩
  obtain ⟨Q2, hQ2⟩ : ∃ c, dlm (rndM (2 : Int).toNat s2 (val l2).toNat (e2 - (low - 1))) = c := ⟨_, rfl⟩
  rw [hW1, hD1, hQ1, hW2, hD2, hQ2]
  have HW1 := hide hW1
  clear hW1
  have HD1 := hide hD1
  clear hD1
  have HQ1 := hide hQ1
  clear hQ1
  have HW2 := hide hW2
  clear hW2
  have HD2 := hide hD2
  clear hD2
  have HQ2 := hide hQ2
  clear hQ2
  obtain ⟨X1, hX1⟩ : ∃ y, rndX (scN (val l1).toNat (e1 - (low - 1))) (scL (val l1).toNat (e1 - (low - 1))) = y := ⟨_, rfl⟩
  obtain ⟨X2, hX2⟩ : ∃ y, rndX (scN (val l2).toNat (e2 - (low - 1))) (scL (val l2).toNat (e2 - (low - 1))) = y := ⟨_, rfl⟩
  have mk1 : ∀ w' lo' v' b', Row .i64 b' lo' w.heap.size w' v' l1 → Calls Tryz.prog 29 #[.agg #[.bool s1, v', .int .i64 e1], .int .i64 low, .int .i64 3] w' fun e w'' => ∃ v'', e = .returned (.tuple #[.agg #[.bool W1, v'', .int .i64 D1], .bool X1]) ∧ Either w.heap.size w'.heap.size w'' v'' Q1 ∧ Kept 0 0 w' w'' := fun w' lo' v' b' r' => by
   obtain ⟨g1, g2, g3, g4, g5⟩ := dok_parts o1
   have gn := (wok_int g1).2.2.1
   have mk := round4_two s1 e1 low (by omega) (by omega) (by omega) (by omega) w' r' (wok_wn g1) g5 g4 (by omega) 3 (by decide) (by decide)
   rw [unhide HW1, unhide HD1, unhide HQ1, hX1] at mk
   refine mk.mono ?_
   rintro e w'' ⟨v'', j1, j2, j3⟩
   exact ⟨v'', j1, j2.elim .inl (fun j => .inr ⟨_, j⟩), j3⟩
  have mk2 : ∀ w' lo' v' b', Row .i64 b' lo' w.heap.size w' v' l2 → Calls Tryz.prog 29 #[.agg #[.bool s2, v', .int .i64 e2], .int .i64 low, .int .i64 2] w' fun e w'' => ∃ v'', e = .returned (.tuple #[.agg #[.bool W2, v'', .int .i64 D2], .bool X2]) ∧ Either w.heap.size w'.heap.size w'' v'' Q2 ∧ Kept 0 0 w' w'' := fun w' lo' v' b' r' => by
   obtain ⟨g1, g2, g3, g4, g5⟩ := dok_parts o2
   have gn := (wok_int g1).2.2.1
   have mk := round4_two s2 e2 low (by omega) (by omega) (by omega) (by omega) w' r' (wok_wn g1) g5 g4 (by omega) 2 (by decide) (by decide)
   rw [unhide HW2, unhide HD2, unhide HQ2, hX2] at mk
   refine mk.mono ?_
   rintro e w'' ⟨v'', j1, j2, j3⟩
   exact ⟨v'', j1, j2.elim .inl (fun j => .inr ⟨_, j⟩), j3⟩
  clear hX1 hX2
  replace mk1 := hide mk1
  replace mk2 := hide mk2
  obtain ⟨Wn, hn0⟩ : ∃ wz, wz = ((w.alloc (.cells #[.bool s1, v1, .int .i64 e1, .bool s2, v2, .int .i64 e2] 38)).alloc (.cells #[.bool false, .slice none 0 0, .int .i64 0, .bool false, .slice none 0 0, .int .i64 0] 38)) := ⟨_, rfl⟩
  have k0 : Kept 0 0 w Wn := by rw [hn0]; exact (((Kept.refl 0 0 w).alloc _).alloc _)
  have bp0 : Wn.cell? ⟨w.heap.size, 0, none⟩ = some (.bool s1) := by rw [hn0]; exact old_cell _ (new_cell2 _ _ _ _ _ _ (by simp) rfl)
  have bp1 : Wn.cell? ⟨w.heap.size, 1, none⟩ = some (v1) := by rw [hn0]; exact old_cell _ (new_cell2 _ _ _ _ _ _ (by simp) rfl)
  have bp2 : Wn.cell? ⟨w.heap.size, 2, none⟩ = some (.int .i64 e1) := by rw [hn0]; exact old_cell _ (new_cell2 _ _ _ _ _ _ (by simp) rfl)
  have bp3 : Wn.cell? ⟨w.heap.size, 3, none⟩ = some (.bool s2) := by rw [hn0]; exact old_cell _ (new_cell2 _ _ _ _ _ _ (by simp) rfl)
  have bp4 : Wn.cell? ⟨w.heap.size, 4, none⟩ = some (v2) := by rw [hn0]; exact old_cell _ (new_cell2 _ _ _ _ _ _ (by simp) rfl)
  have bp5 : Wn.cell? ⟨w.heap.size, 5, none⟩ = some (.int .i64 e2) := by rw [hn0]; exact old_cell _ (new_cell2 _ _ _ _ _ _ (by simp) rfl)
  have R0 : Wn.cell? ⟨w.heap.size + 1, 0, none⟩ = some (.bool false) := by rw [hn0]; exact new_cell2 _ _ _ _ _ _ (by simp) rfl
  have Rf0 : Wn.frozen? ⟨w.heap.size + 1, 0, none⟩ = false := by rw [hn0]; exact new_loose2 _ _ _ _ _ (by simp)
  have R1 : Wn.cell? ⟨w.heap.size + 1, 1, none⟩ = some (.slice none 0 0) := by rw [hn0]; exact new_cell2 _ _ _ _ _ _ (by simp) rfl
  have Rf1 : Wn.frozen? ⟨w.heap.size + 1, 1, none⟩ = false := by rw [hn0]; exact new_loose2 _ _ _ _ _ (by simp)
  have R2 : Wn.cell? ⟨w.heap.size + 1, 2, none⟩ = some (.int .i64 0) := by rw [hn0]; exact new_cell2 _ _ _ _ _ _ (by simp) rfl
  have Rf2 : Wn.frozen? ⟨w.heap.size + 1, 2, none⟩ = false := by rw [hn0]; exact new_loose2 _ _ _ _ _ (by simp)
  have R3 : Wn.cell? ⟨w.heap.size + 1, 3, none⟩ = some (.bool false) := by rw [hn0]; exact new_cell2 _ _ _ _ _ _ (by simp) rfl
  have Rf3 : Wn.frozen? ⟨w.heap.size + 1, 3, none⟩ = false := by rw [hn0]; exact new_loose2 _ _ _ _ _ (by simp)
  have R4 : Wn.cell? ⟨w.heap.size + 1, 4, none⟩ = some (.slice none 0 0) := by rw [hn0]; exact new_cell2 _ _ _ _ _ _ (by simp) rfl
  have Rf4 : Wn.frozen? ⟨w.heap.size + 1, 4, none⟩ = false := by rw [hn0]; exact new_loose2 _ _ _ _ _ (by simp)
  have R5 : Wn.cell? ⟨w.heap.size + 1, 5, none⟩ = some (.int .i64 0) := by rw [hn0]; exact new_cell2 _ _ _ _ _ _ (by simp) rfl
  have Rf5 : Wn.frozen? ⟨w.heap.size + 1, 5, none⟩ = false := by rw [hn0]; exact new_loose2 _ _ _ _ _ (by simp)
  subst hn0
  replace r1 := r1.kept k0 (by omega)
  replace r2 := r2.kept k0 (by omega)
  have s0 : ((w.alloc (.cells #[.bool s1, v1, .int .i64 e1, .bool s2, v2, .int .i64 e2] 38)).alloc (.cells #[.bool false, .slice none 0 0, .int .i64 0, .bool false, .slice none 0 0, .int .i64 0] 38)).heap.size = w.heap.size + 2 := by simp
  obtain ⟨a1, c1, hv⟩ := Row.form' r1
  subst hv
  obtain ⟨a2, c2, hv⟩ := Row.form' r2
  subst hv
  have K := hide (k0)
  clear k0
  have S0 := hide s0
  clear s0
  go_enter Tryz.func15, Tryz.ntmps15
  go_wp2_with fail
  generalize ((w.alloc (.cells #[.bool s1, .slice a1 l1.length c1, .int .i64 e1, .bool s2, .slice a2 l2.length c2, .int .i64 e2] 38)).alloc (.cells #[.bool false, .slice none 0 0, .int .i64 0, .bool false, .slice none 0 0, .int .i64 0] 38)) = W at *
  refine (unhide mk1 _ _ _ _ r1).mono ?_
  rintro e w1 ⟨vA, rfl, rA, k1⟩
  replace r1 := r1.kp k1
  replace r2 := r2.kp k1
  replace Rf0 := k1.loose0 (zbl R0) Rf0
  replace Rf1 := k1.loose0 (zbl R1) Rf1
  replace Rf2 := k1.loose0 (zbl R2) Rf2
  replace Rf3 := k1.loose0 (zbl R3) Rf3
  replace Rf4 := k1.loose0 (zbl R4) Rf4
  replace Rf5 := k1.loose0 (zbl R5) Rf5
  replace bp0 := k1.cell0 bp0
  replace bp1 := k1.cell0 bp1
  replace bp2 := k1.cell0 bp2
  replace bp3 := k1.cell0 bp3
  replace bp4 := k1.cell0 bp4
  replace bp5 := k1.cell0 bp5
  replace R0 := k1.cell0 R0
  replace R1 := k1.cell0 R1
  replace R2 := k1.cell0 R2
  replace R3 := k1.cell0 R3
  replace R4 := k1.cell0 R4
  replace R5 := k1.cell0 R5
  replace K := hide ((unhide K).trans k1)
  have z2 := k1.size
  clear k1
  obtain ⟨aA, cA, hv⟩ := Row.form' rA.row
  subst hv
  have kn := (Kept.refl 0 0 w1).alloc (.cells #[.bool W1, .slice aA Q1.length cA, .int .i64 D1] 36)
  have LA0 : (w1.alloc (.cells #[.bool W1, .slice aA Q1.length cA, .int .i64 D1] 36)).cell? ⟨w1.heap.size, 0, none⟩ = some (.bool W1) := new_cell2 _ _ _ _ _ _ rfl rfl
  have LA1 : (w1.alloc (.cells #[.bool W1, .slice aA Q1.length cA, .int .i64 D1] 36)).cell? ⟨w1.heap.size, 1, none⟩ = some (.slice aA Q1.length cA) := new_cell2 _ _ _ _ _ _ rfl rfl
  have LA2 : (w1.alloc (.cells #[.bool W1, .slice aA Q1.length cA, .int .i64 D1] 36)).cell? ⟨w1.heap.size, 2, none⟩ = some (.int .i64 D1) := new_cell2 _ _ _ _ _ _ rfl rfl
  have t3 : w1.heap.size + 1 ≤ (w1.alloc (.cells #[.bool W1, .slice aA Q1.length cA, .int .i64 D1] 36)).heap.size := by simp
  replace r1 := r1.kp kn
  replace r2 := r2.kp kn
  replace rA := rA.kept kn
  replace Rf0 := kn.loose0 (zbl R0) Rf0
  replace Rf1 := kn.loose0 (zbl R1) Rf1
  replace Rf2 := kn.loose0 (zbl R2) Rf2
  replace Rf3 := kn.loose0 (zbl R3) Rf3
  replace Rf4 := kn.loose0 (zbl R4) Rf4
  replace Rf5 := kn.loose0 (zbl R5) Rf5
  replace bp0 := kn.cell0 bp0
  replace bp1 := kn.cell0 bp1
  replace bp2 := kn.cell0 bp2
  replace bp3 := kn.cell0 bp3
  replace bp4 := kn.cell0 bp4
  replace bp5 := kn.cell0 bp5
  replace R0 := kn.cell0 R0
  replace R1 := kn.cell0 R1
  replace R2 := kn.cell0 R2
  replace R3 := kn.cell0 R3
  replace R4 := kn.cell0 R4
  replace R5 := kn.cell0 R5
  replace K := hide ((unhide K).trans kn)
  have z4 := kn.size
  clear kn
  go_upto_region 2 with fail
  generalize w1.alloc (.cells #[.bool W1, .slice aA Q1.length cA, .int .i64 D1] 36) = wm3 at *
  go_wp2_with fail
  refine (unhide mk2 _ _ _ _ r2).mono ?_
  rintro e w5 ⟨vB, rfl, rB, k5⟩
  replace r1 := r1.kp k5
  replace r2 := r2.kp k5
  replace rA := rA.kept k5
  replace Rf0 := k5.loose0 (zbl R0) Rf0
  replace Rf1 := k5.loose0 (zbl R1) Rf1
  replace Rf2 := k5.loose0 (zbl R2) Rf2
  replace Rf3 := k5.loose0 (zbl R3) Rf3
  replace Rf4 := k5.loose0 (zbl R4) Rf4
  replace Rf5 := k5.loose0 (zbl R5) Rf5
  replace bp0 := k5.cell0 bp0
  replace bp1 := k5.cell0 bp1
  replace bp2 := k5.cell0 bp2
  replace bp3 := k5.cell0 bp3
  replace bp4 := k5.cell0 bp4
  replace bp5 := k5.cell0 bp5
  replace R0 := k5.cell0 R0
  replace R1 := k5.cell0 R1
  replace R2 := k5.cell0 R2
  replace R3 := k5.cell0 R3
  replace R4 := k5.cell0 R4
  replace R5 := k5.cell0 R5
  replace LA0 := k5.cell0 LA0
  replace LA1 := k5.cell0 LA1
  replace LA2 := k5.cell0 LA2
  replace K := hide ((unhide K).trans k5)
  have z6 := k5.size
  clear k5
  obtain ⟨aB, cB, hv⟩ := Row.form' rB.row
  subst hv
  have kn := (Kept.refl 0 0 w5).alloc (.cells #[.bool W2, .slice aB Q2.length cB, .int .i64 D2] 36)
  have LB0 : (w5.alloc (.cells #[.bool W2, .slice aB Q2.length cB, .int .i64 D2] 36)).cell? ⟨w5.heap.size, 0, none⟩ = some (.bool W2) := new_cell2 _ _ _ _ _ _ rfl rfl
  have LB1 : (w5.alloc (.cells #[.bool W2, .slice aB Q2.length cB, .int .i64 D2] 36)).cell? ⟨w5.heap.size, 1, none⟩ = some (.slice aB Q2.length cB) := new_cell2 _ _ _ _ _ _ rfl rfl
  have LB2 : (w5.alloc (.cells #[.bool W2, .slice aB Q2.length cB, .int .i64 D2] 36)).cell? ⟨w5.heap.size, 2, none⟩ = some (.int .i64 D2) := new_cell2 _ _ _ _ _ _ rfl rfl
  have t7 : w5.heap.size + 1 ≤ (w5.alloc (.cells #[.bool W2, .slice aB Q2.length cB, .int .i64 D2] 36)).heap.size := by simp
  replace r1 := r1.kp kn
  replace r2 := r2.kp kn
  replace rA := rA.kept kn
  replace rB := rB.kept kn
  replace Rf0 := kn.loose0 (zbl R0) Rf0
  replace Rf1 := kn.loose0 (zbl R1) Rf1
  replace Rf2 := kn.loose0 (zbl R2) Rf2
  replace Rf3 := kn.loose0 (zbl R3) Rf3
  replace Rf4 := kn.loose0 (zbl R4) Rf4
  replace Rf5 := kn.loose0 (zbl R5) Rf5
  replace bp0 := kn.cell0 bp0
  replace bp1 := kn.cell0 bp1
  replace bp2 := kn.cell0 bp2
  replace bp3 := kn.cell0 bp3
  replace bp4 := kn.cell0 bp4
  replace bp5 := kn.cell0 bp5
  replace R0 := kn.cell0 R0
  replace R1 := kn.cell0 R1
  replace R2 := kn.cell0 R2
  replace R3 := kn.cell0 R3
  replace R4 := kn.cell0 R4
  replace R5 := kn.cell0 R5
  replace LA0 := kn.cell0 LA0
  replace LA1 := kn.cell0 LA1
  replace LA2 := kn.cell0 LA2
  replace K := hide ((unhide K).trans kn)
  have z8 := kn.size
  clear kn
  go_upto_region 3 with fail
  generalize w5.alloc (.cells #[.bool W2, .slice aB Q2.length cB, .int .i64 D2] 36) = wm7 at *
  have RA := hide (((((((rA.set (X := w.heap.size + 1) 0 (by have := unhide S0; omega) (by have := unhide S0; omega) (.bool W1)).set (X := w.heap.size + 1) 1 (by have := unhide S0; omega) (by have := unhide S0; omega) (.slice aA Q1.length cA)).set (X := w.heap.size + 1) 2 (by have := unhide S0; omega) (by have := unhide S0; omega) (.int .i64 D1)).set (X := w.heap.size + 1) 3 (by have := unhide S0; omega) (by have := unhide S0; omega) (.bool W2)).set (X := w.heap.size + 1) 4 (by have := unhide S0; omega) (by have := unhide S0; omega) (.slice aB Q2.length cB)).set (X := w.heap.size + 1) 5 (by have := unhide S0; omega) (by have := unhide S0; omega) (.int .i64 D2)))
  have RB := hide (((((((rB.set (X := w.heap.size + 1) 0 (by have := unhide S0; omega) (by have := unhide S0; omega) (.bool W1)).set (X := w.heap.size + 1) 1 (by have := unhide S0; omega) (by have := unhide S0; omega) (.slice aA Q1.length cA)).set (X := w.heap.size + 1) 2 (by have := unhide S0; omega) (by have := unhide S0; omega) (.int .i64 D1)).set (X := w.heap.size + 1) 3 (by have := unhide S0; omega) (by have := unhide S0; omega) (.bool W2)).set (X := w.heap.size + 1) 4 (by have := unhide S0; omega) (by have := unhide S0; omega) (.slice aB Q2.length cB)).set (X := w.heap.size + 1) 5 (by have := unhide S0; omega) (by have := unhide S0; omega) (.int .i64 D2)))
  have K7 := hide (((((((unhide K).setNew (p := ⟨w.heap.size + 1, 0, none⟩) (by simp) (.bool W1)).setNew (p := ⟨w.heap.size + 1, 1, none⟩) (by simp) (.slice aA Q1.length cA)).setNew (p := ⟨w.heap.size + 1, 2, none⟩) (by simp) (.int .i64 D1)).setNew (p := ⟨w.heap.size + 1, 3, none⟩) (by simp) (.bool W2)).setNew (p := ⟨w.heap.size + 1, 4, none⟩) (by simp) (.slice aB Q2.length cB)).setNew (p := ⟨w.heap.size + 1, 5, none⟩) (by simp) (.int .i64 D2))
  clear mk1 mk2 rA rB r1 r2 K
  go_wp2_with fail
  exact bodyPost_ret (v := .agg #[.bool W1, .slice aA Q1.length cA, .int .i64 D1, .bool W2, .slice aB Q2.length cB, .int .i64 D2]) (by simp [results, Tryz.results15, go_sem, R0, R1, R2, R3, R4, R5]) rfl ⟨_, _, rfl, (unhide RA).row, (unhide RB).row, unhide K7⟩

set_option maxHeartbeats 4000000 in
theorem ivout_spec {b1 b2 : Bool} {w1l w1h w2l w2h : Nat} {v1 v2 : Value} {l1 l2 : List Int} (s1 : Bool) (e1 : Int) (hu1 : e1 ≤ 9223372036854775807) (hd1 : -9223372036854775808 ≤ e1) (s2 : Bool) (e2 : Int) (hu2 : e2 ≤ 9223372036854775807) (hd2 : -9223372036854775808 ≤ e2) (w : World) (r1 : Row .i64 b1 w1l w1h w v1 l1) (r2 : Row .i64 b2 w2l w2h w v2 l2) (low : Int) :
    Calls Tryz.prog 5 #[.agg #[.bool s1, v1, .int .i64 e1, .bool s2, v2, .int .i64 e2], .int .i64 low] w fun e w' => IvAnsS (ivC (iokB s1 l1 e1 s2 l2 e2 && fineB low) (rndM (3 : Int).toNat s1 (val l1).toNat (e1 - (low - 1))) (low) (rndM (2 : Int).toNat s2 (val l2).toNat (e2 - (low - 1))) (low)) (wsg (rndM (3 : Int).toNat s1 (val l1).toNat (e1 - (low - 1)))) (dex (rndM (3 : Int).toNat s1 (val l1).toNat (e1 - (low - 1))) (low)) (dlm (rndM (3 : Int).toNat s1 (val l1).toNat (e1 - (low - 1)))) (wsg (rndM (2 : Int).toNat s2 (val l2).toNat (e2 - (low - 1)))) (dex (rndM (2 : Int).toNat s2 (val l2).toNat (e2 - (low - 1))) (low)) (dlm (rndM (2 : Int).toNat s2 (val l2).toNat (e2 - (low - 1)))) w e w' := by
  replace r1 := r1.tight
  replace r2 := r2.tight
  obtain ⟨CC, hCC⟩ : ∃ c, ivC (iokB s1 l1 e1 s2 l2 e2 && fineB low) (rndM (3 : Int).toNat s1 (val l1).toNat (e1 - (low - 1))) (low) (rndM (2 : Int).toNat s2 (val l2).toNat (e2 - (low - 1))) (low) = c := ⟨_, rfl⟩
  rw [hCC]
  have HCC := hide hCC
  clear hCC
  obtain ⟨W1, hW1⟩ : ∃ c, wsg (rndM (3 : Int).toNat s1 (val l1).toNat (e1 - (low - 1))) = c := ⟨_, rfl⟩
  obtain ⟨D1, hD1⟩ : ∃ c, dex (rndM (3 : Int).toNat s1 (val l1).toNat (e1 - (low - 1))) (low) = c := ⟨_, rfl⟩
  obtain ⟨Q1, hQ1⟩ : ∃ c, dlm (rndM (3 : Int).toNat s1 (val l1).toNat (e1 - (low - 1))) = c := ⟨_, rfl⟩
  obtain ⟨W2, hW2⟩ : ∃ c, wsg (rndM (2 : Int).toNat s2 (val l2).toNat (e2 - (low - 1))) = c := ⟨_, rfl⟩
  obtain ⟨D2, hD2⟩ : ∃ c, dex (rndM (2 : Int).toNat s2 (val l2).toNat (e2 - (low - 1))) (low) = c := ⟨_, rfl⟩
  obtain ⟨Q2, hQ2⟩ : ∃ c, dlm (rndM (2 : Int).toNat s2 (val l2).toNat (e2 - (low - 1))) = c := ⟨_, rfl⟩
  try rw [hW1]
  try rw [hD1]
  try rw [hQ1]
  try rw [hW2]
  try rw [hD2]
  try rw [hQ2]
  have HW1 := hide hW1
  clear hW1
  have HD1 := hide hD1
  clear hD1
  have HQ1 := hide hQ1
  clear hQ1
  have HW2 := hide hW2
  clear hW2
  have HD2 := hide hD2
  clear hD2
  have HQ2 := hide hQ2
  clear hQ2
  obtain ⟨Wn, hn0⟩ : ∃ wz, wz = ((w.alloc (.cells #[.bool s1, v1, .int .i64 e1, .bool s2, v2, .int .i64 e2] 38)).alloc (.cells #[.bool false, .slice none 0 0, .int .i64 0, .bool false, .slice none 0 0, .int .i64 0] 38)) := ⟨_, rfl⟩
  have k0 : Kept 0 0 w Wn := by rw [hn0]; exact (((Kept.refl 0 0 w).alloc _).alloc _)
  have bp0 : Wn.cell? ⟨w.heap.size, 0, none⟩ = some (.bool s1) := by rw [hn0]; exact old_cell _ (new_cell2 _ _ _ _ _ _ (by simp) rfl)
  have bp1 : Wn.cell? ⟨w.heap.size, 1, none⟩ = some (v1) := by rw [hn0]; exact old_cell _ (new_cell2 _ _ _ _ _ _ (by simp) rfl)
  have bp2 : Wn.cell? ⟨w.heap.size, 2, none⟩ = some (.int .i64 e1) := by rw [hn0]; exact old_cell _ (new_cell2 _ _ _ _ _ _ (by simp) rfl)
  have bp3 : Wn.cell? ⟨w.heap.size, 3, none⟩ = some (.bool s2) := by rw [hn0]; exact old_cell _ (new_cell2 _ _ _ _ _ _ (by simp) rfl)
  have bp4 : Wn.cell? ⟨w.heap.size, 4, none⟩ = some (v2) := by rw [hn0]; exact old_cell _ (new_cell2 _ _ _ _ _ _ (by simp) rfl)
  have bp5 : Wn.cell? ⟨w.heap.size, 5, none⟩ = some (.int .i64 e2) := by rw [hn0]; exact old_cell _ (new_cell2 _ _ _ _ _ _ (by simp) rfl)
  have R0 : Wn.cell? ⟨w.heap.size + 1, 0, none⟩ = some (.bool false) := by rw [hn0]; exact new_cell2 _ _ _ _ _ _ (by simp) rfl
  have Rf0 : Wn.frozen? ⟨w.heap.size + 1, 0, none⟩ = false := by rw [hn0]; exact new_loose2 _ _ _ _ _ (by simp)
  have R1 : Wn.cell? ⟨w.heap.size + 1, 1, none⟩ = some (.slice none 0 0) := by rw [hn0]; exact new_cell2 _ _ _ _ _ _ (by simp) rfl
  have Rf1 : Wn.frozen? ⟨w.heap.size + 1, 1, none⟩ = false := by rw [hn0]; exact new_loose2 _ _ _ _ _ (by simp)
  have R2 : Wn.cell? ⟨w.heap.size + 1, 2, none⟩ = some (.int .i64 0) := by rw [hn0]; exact new_cell2 _ _ _ _ _ _ (by simp) rfl
  have Rf2 : Wn.frozen? ⟨w.heap.size + 1, 2, none⟩ = false := by rw [hn0]; exact new_loose2 _ _ _ _ _ (by simp)
  have R3 : Wn.cell? ⟨w.heap.size + 1, 3, none⟩ = some (.bool false) := by rw [hn0]; exact new_cell2 _ _ _ _ _ _ (by simp) rfl
  have Rf3 : Wn.frozen? ⟨w.heap.size + 1, 3, none⟩ = false := by rw [hn0]; exact new_loose2 _ _ _ _ _ (by simp)
  have R4 : Wn.cell? ⟨w.heap.size + 1, 4, none⟩ = some (.slice none 0 0) := by rw [hn0]; exact new_cell2 _ _ _ _ _ _ (by simp) rfl
  have Rf4 : Wn.frozen? ⟨w.heap.size + 1, 4, none⟩ = false := by rw [hn0]; exact new_loose2 _ _ _ _ _ (by simp)
  have R5 : Wn.cell? ⟨w.heap.size + 1, 5, none⟩ = some (.int .i64 0) := by rw [hn0]; exact new_cell2 _ _ _ _ _ _ (by simp) rfl
  have Rf5 : Wn.frozen? ⟨w.heap.size + 1, 5, none⟩ = false := by rw [hn0]; exact new_loose2 _ _ _ _ _ (by simp)
  subst hn0
  replace r1 := r1.kept k0 (by omega)
  replace r2 := r2.kept k0 (by omega)
  have s0 : ((w.alloc (.cells #[.bool s1, v1, .int .i64 e1, .bool s2, v2, .int .i64 e2] 38)).alloc (.cells #[.bool false, .slice none 0 0, .int .i64 0, .bool false, .slice none 0 0, .int .i64 0] 38)).heap.size = w.heap.size + 2 := by simp
  obtain ⟨a1, c1, hv⟩ := Row.form' r1
  subst hv
  obtain ⟨a2, c2, hv⟩ := Row.form' r2
  subst hv
  have K := hide (k0)
  clear k0
  have S0 := hide s0
  clear s0
  go_enter Tryz.func5, Tryz.ntmps5
  go_wp2_with fail
  generalize ((w.alloc (.cells #[.bool s1, .slice a1 l1.length c1, .int .i64 e1, .bool s2, .slice a2 l2.length c2, .int .i64 e2] 38)).alloc (.cells #[.bool false, .slice none 0 0, .int .i64 0, .bool false, .slice none 0 0, .int .i64 0] 38)) = W at *
  refine (ivok_spec s1 e1 hu1 hd1 s2 e2 hu2 hd2 _ r1 r2).mono ?_
  rintro e w1 ⟨rfl, k1⟩
  replace r1 := r1.kp k1
  replace r2 := r2.kp k1
  replace Rf0 := k1.loose0 (zbl R0) Rf0
  replace Rf1 := k1.loose0 (zbl R1) Rf1
  replace Rf2 := k1.loose0 (zbl R2) Rf2
  replace Rf3 := k1.loose0 (zbl R3) Rf3
  replace Rf4 := k1.loose0 (zbl R4) Rf4
  replace Rf5 := k1.loose0 (zbl R5) Rf5
  replace bp0 := k1.cell0 bp0
  replace bp1 := k1.cell0 bp1
  replace bp2 := k1.cell0 bp2
  replace bp3 := k1.cell0 bp3
  replace bp4 := k1.cell0 bp4
  replace bp5 := k1.cell0 bp5
  replace R0 := k1.cell0 R0
  replace R1 := k1.cell0 R1
  replace R2 := k1.cell0 R2
  replace R3 := k1.cell0 R3
  replace R4 := k1.cell0 R4
  replace R5 := k1.cell0 R5
  replace K := hide ((unhide K).trans k1)
  have z2 := k1.size
  clear k1
  cases ho : iokB s1 l1 e1 s2 l2 e2
  ·have EC : Hid (CC = false) := by show _ = _; rw [← unhide HCC]; exact ivC_no (by rw [ho]; rfl)
   have K7 := hide (((((((unhide K).setNew (p := ⟨w.heap.size + 1, 0, none⟩) (by simp) (.bool false)).setNew (p := ⟨w.heap.size + 1, 1, none⟩) (by simp) (.slice none 0 0)).setNew (p := ⟨w.heap.size + 1, 2, none⟩) (by simp) (.int .i64 0)).setNew (p := ⟨w.heap.size + 1, 3, none⟩) (by simp) (.bool false)).setNew (p := ⟨w.heap.size + 1, 4, none⟩) (by simp) (.slice none 0 0)).setNew (p := ⟨w.heap.size + 1, 5, none⟩) (by simp) (.int .i64 0))
   clear r1 r2 K
   go_wp2_with fail
   exact bodyPost_ret (v := .tuple #[.agg #[.bool false, .slice none 0 0, .int .i64 0, .bool false, .slice none 0 0, .int .i64 0], .bool false]) (by simp [results, Tryz.results5, go_sem, R0, R1, R2, R3, R4, R5]) rfl (by rw [unhide EC]; exact ivS_no (unhide K7))
  obtain ⟨i1, i2, -⟩ := iok_parts ho
  have I1 := hide i1
  have I2 := hide i2
  have HO := hide ho
  clear ho i1 i2
  go_wp2_with fail
  refine (l7low_spec low _).mono ?_
  rintro e w5 ⟨rfl, rfl⟩
  cases hf : fineB low
  ·have EC : Hid (CC = false) := by show _ = _; rw [← unhide HCC]; exact ivC_no (by rw [hf, Bool.and_false])
   have K7 := hide (((((((unhide K).setNew (p := ⟨w.heap.size + 1, 0, none⟩) (by simp) (.bool false)).setNew (p := ⟨w.heap.size + 1, 1, none⟩) (by simp) (.slice none 0 0)).setNew (p := ⟨w.heap.size + 1, 2, none⟩) (by simp) (.int .i64 0)).setNew (p := ⟨w.heap.size + 1, 3, none⟩) (by simp) (.bool false)).setNew (p := ⟨w.heap.size + 1, 4, none⟩) (by simp) (.slice none 0 0)).setNew (p := ⟨w.heap.size + 1, 5, none⟩) (by simp) (.int .i64 0))
   clear r1 r2 K
   go_wp2_with fail
   exact bodyPost_ret (v := .tuple #[.agg #[.bool false, .slice none 0 0, .int .i64 0, .bool false, .slice none 0 0, .int .i64 0], .bool false]) (by simp [results, Tryz.results5, go_sem, R0, R1, R2, R3, R4, R5]) rfl (by rw [unhide EC]; exact ivS_no (unhide K7))
  obtain ⟨f1, f2⟩ := fine_iff hf
  have HC : Hid ((iokB s1 l1 e1 s2 l2 e2 && fineB low) = true) := by show _ = _; rw [hf, unhide HO]; rfl
  clear hf
  have mkf : ∀ w' vA vB lo' hi', Row .i64 false lo' hi' w' vA Q1 → Row .i64 false lo' hi' w' vB Q2 → Calls Tryz.prog 14 #[.agg #[.bool W1, vA, .int .i64 D1, .bool W2, vB, .int .i64 D2]] w' fun e w'' => IvAnsS CC W1 D1 Q1 W2 D2 Q2 w' e w'' := fun w' vA vB lo' hi' rA' rB' => by
   have rg1 := rnd_rg (unhide I1) low 3 (by omega) (by omega)
   have rg2 := rnd_rg (unhide I2) low 2 (by omega) (by omega)
   rw [unhide HD1] at rg1
   rw [unhide HD2] at rg2
   have mk := fits7_spec W1 D1 rg1.1 rg1.2 W2 D2 rg2.1 rg2.2 w' rA' rB'
   have hcc := unhide HCC
   unfold ivC at hcc
   rw [unhide HC, unhide HW1, unhide HD1, unhide HQ1, unhide HW2, unhide HD2, unhide HQ2, Bool.true_and] at hcc
   rw [hcc] at mk
   exact mk
  go_wp2_with fail
  have mk := out7_spec s1 e1 s2 e2 w5 r1 r2 (unhide I1) (unhide I2) low (by omega) (by omega)
  rw [unhide HW1, unhide HD1, unhide HQ1, unhide HW2, unhide HD2, unhide HQ2] at mk
  refine (mk).mono ?_
  rintro e w3 ⟨vA, vB, rfl, rA, rB, k3⟩
  replace r1 := r1.kp k3
  replace r2 := r2.kp k3
  replace Rf0 := k3.loose0 (zbl R0) Rf0
  replace Rf1 := k3.loose0 (zbl R1) Rf1
  replace Rf2 := k3.loose0 (zbl R2) Rf2
  replace Rf3 := k3.loose0 (zbl R3) Rf3
  replace Rf4 := k3.loose0 (zbl R4) Rf4
  replace Rf5 := k3.loose0 (zbl R5) Rf5
  replace bp0 := k3.cell0 bp0
  replace bp1 := k3.cell0 bp1
  replace bp2 := k3.cell0 bp2
  replace bp3 := k3.cell0 bp3
  replace bp4 := k3.cell0 bp4
  replace bp5 := k3.cell0 bp5
  replace R0 := k3.cell0 R0
  replace R1 := k3.cell0 R1
  replace R2 := k3.cell0 R2
  replace R3 := k3.cell0 R3
  replace R4 := k3.cell0 R4
  replace R5 := k3.cell0 R5
  replace K := hide ((unhide K).trans k3)
  have z4 := k3.size
  clear k3
  clear mk
  go_wp2_with fail
  refine (mkf _ _ _ _ _ rA rB).mono ?_
  rintro e w5 h5
  obtain ⟨q1, y1, M1, q2, y2, M2, vL, vM, rfl, rL, rM, k5, hq⟩ := ivS_open h5
  have HQ := hide hq
  clear hq h5
  replace r1 := r1.kp k5
  replace r2 := r2.kp k5
  replace rA := rA.kp k5
  replace rB := rB.kp k5
  replace Rf0 := k5.loose0 (zbl R0) Rf0
  replace Rf1 := k5.loose0 (zbl R1) Rf1
  replace Rf2 := k5.loose0 (zbl R2) Rf2
  replace Rf3 := k5.loose0 (zbl R3) Rf3
  replace Rf4 := k5.loose0 (zbl R4) Rf4
  replace Rf5 := k5.loose0 (zbl R5) Rf5
  replace bp0 := k5.cell0 bp0
  replace bp1 := k5.cell0 bp1
  replace bp2 := k5.cell0 bp2
  replace bp3 := k5.cell0 bp3
  replace bp4 := k5.cell0 bp4
  replace bp5 := k5.cell0 bp5
  replace R0 := k5.cell0 R0
  replace R1 := k5.cell0 R1
  replace R2 := k5.cell0 R2
  replace R3 := k5.cell0 R3
  replace R4 := k5.cell0 R4
  replace R5 := k5.cell0 R5
  replace K := hide ((unhide K).trans k5)
  have z6 := k5.size
  clear k5
  obtain ⟨aL, dL, hv⟩ := Row.form' rL
  subst hv
  obtain ⟨aM, dM, hv⟩ := Row.form' rM
  subst hv
  have RA := hide (((((((rL.set_other (p := ⟨w.heap.size + 1, 0, none⟩) (.inl (by have := unhide S0; dsimp only; omega)) (.bool q1)).set_other (p := ⟨w.heap.size + 1, 1, none⟩) (.inl (by have := unhide S0; dsimp only; omega)) (.slice aL M1.length dL)).set_other (p := ⟨w.heap.size + 1, 2, none⟩) (.inl (by have := unhide S0; dsimp only; omega)) (.int .i64 y1)).set_other (p := ⟨w.heap.size + 1, 3, none⟩) (.inl (by have := unhide S0; dsimp only; omega)) (.bool q2)).set_other (p := ⟨w.heap.size + 1, 4, none⟩) (.inl (by have := unhide S0; dsimp only; omega)) (.slice aM M2.length dM)).set_other (p := ⟨w.heap.size + 1, 5, none⟩) (.inl (by have := unhide S0; dsimp only; omega)) (.int .i64 y2)).tight.wider (lo' := w.heap.size) (by have := unhide S0; omega) (Nat.le_refl _))
  have RB := hide (((((((rM.set_other (p := ⟨w.heap.size + 1, 0, none⟩) (.inl (by have := unhide S0; dsimp only; omega)) (.bool q1)).set_other (p := ⟨w.heap.size + 1, 1, none⟩) (.inl (by have := unhide S0; dsimp only; omega)) (.slice aL M1.length dL)).set_other (p := ⟨w.heap.size + 1, 2, none⟩) (.inl (by have := unhide S0; dsimp only; omega)) (.int .i64 y1)).set_other (p := ⟨w.heap.size + 1, 3, none⟩) (.inl (by have := unhide S0; dsimp only; omega)) (.bool q2)).set_other (p := ⟨w.heap.size + 1, 4, none⟩) (.inl (by have := unhide S0; dsimp only; omega)) (.slice aM M2.length dM)).set_other (p := ⟨w.heap.size + 1, 5, none⟩) (.inl (by have := unhide S0; dsimp only; omega)) (.int .i64 y2)).tight.wider (lo' := w.heap.size) (by have := unhide S0; omega) (Nat.le_refl _))
  have K7 := hide (((((((unhide K).setNew (p := ⟨w.heap.size + 1, 0, none⟩) (by simp) (.bool q1)).setNew (p := ⟨w.heap.size + 1, 1, none⟩) (by simp) (.slice aL M1.length dL)).setNew (p := ⟨w.heap.size + 1, 2, none⟩) (by simp) (.int .i64 y1)).setNew (p := ⟨w.heap.size + 1, 3, none⟩) (by simp) (.bool q2)).setNew (p := ⟨w.heap.size + 1, 4, none⟩) (by simp) (.slice aM M2.length dM)).setNew (p := ⟨w.heap.size + 1, 5, none⟩) (by simp) (.int .i64 y2))
  clear r1 r2 rA rB rL rM K
  go_wp2_with fail
  exact bodyPost_ret (v := .tuple #[.agg #[.bool q1, .slice aL M1.length dL, .int .i64 y1, .bool q2, .slice aM M2.length dM, .int .i64 y2], .bool CC]) (by simp [results, Tryz.results5, go_sem, R0, R1, R2, R3, R4, R5]) rfl (ivS_shut (unhide HQ) (unhide RA) (unhide RB) (unhide K7))

end Go.Proofs.YtbihbloknmjfjaaGreatDoor
