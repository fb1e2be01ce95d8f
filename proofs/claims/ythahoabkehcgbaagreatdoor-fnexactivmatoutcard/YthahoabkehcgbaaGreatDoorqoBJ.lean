/-
  Contracts that the proofs of this seat share: LawW, HelpD, HelpI, LawD.
-/
import Derived.Test.YthahoabkehcgbaaGreatDoorqoBC
namespace Go.Proofs.YthahoabkehcgbaaGreatDoor
open Go.RowKit
set_option linter.unusedVariables false
set_option maxRecDepth 8000

theorem Kept.wide {lo hi : Nat} {a b c : World} (k : Kept 0 0 a b) (m : Kept lo hi b c) (h : a.heap.size ≤ lo) : Kept 0 0 a c :=
  ⟨m.os.trans k.os, m.tape.trans k.tape, m.output.trans k.output, Nat.le_trans k.size m.size, fun i hi' ho => (m.block i (Nat.lt_of_lt_of_le hi' k.size) (.inl (by omega))).trans (k.block i hi' ho)⟩
end Go.Proofs.YthahoabkehcgbaaGreatDoor

namespace Go.Proofs.YthahoabkehcgbaaGreatDoor
open Go.RowKit
set_option linter.unusedVariables false
set_option maxRecDepth 8000

set_option maxHeartbeats 1000000 in
theorem szDy_any {bw : Bool} {lo hi : Nat} {v : Value} {zs : List Int} (b : Bool) (x : Int) (w : World) (s : Int) (hs0 : 0 ≤ s) (hs1 : s ≤ 1048576) (r : Row .i64 bw lo hi w v zs) :
    Calls Tryz.prog 23 #[.agg #[.bool b, v, .int .i64 x], .int .i64 s] w fun e w' => e = .returned (.int .i64 (if (zs.length : Int) ≤ s then s - zs.length else -1)) ∧ Kept 0 0 w w' := by
  have k0 := (Kept.refl 0 0 w).alloc (.cells #[.bool b, v, .int .i64 x] 45)
  have s1 := r.kept k0 (by omega)
  have hm := r.len
  unfold maxLen at hm
  obtain ⟨a1, c1, rfl, -⟩ := r
  go_enter Tryz.func23, Tryz.ntmps23
  go_wp2_with fail
  refine (szWhole_any _ _ s hs0 hs1 s1).mono ?_
  rintro e w6 ⟨rfl, k6⟩
  have K := hide (k0.trans k6)
  clear s1 k0 k6
  by_cases h : (zs.length : Int) ≤ s
  · rw [if_pos h]
    have h' : ¬ (s - (zs.length : Int)) < 0 := by omega
    go_wp2
    go_ret
    exact ⟨rfl, unhide K⟩
  · rw [if_neg h]
    go_wp2
    go_ret
    exact ⟨rfl, unhide K⟩

set_option maxHeartbeats 1000000 in
theorem eqDy_same {b1 b2 : Bool} {l1 h1 l2 h2 : Nat} {v1 v2 : Value} {zs : List Int} (b : Bool) (x : Int) (w : World) (r1 : Row .i64 b1 l1 h1 w v1 zs) (r2 : Row .i64 b2 l2 h2 w v2 zs) :
    Calls Tryz.prog 27 #[.agg #[.bool b, v1, .int .i64 x], .agg #[.bool b, v2, .int .i64 x]] w fun e w' => e = .returned (.bool true) ∧ Kept 0 0 w w' := by
  have kk := ((Kept.refl 0 0 w).alloc (.cells #[.bool b, v1, .int .i64 x] 52)).alloc (.cells #[.bool b, v2, .int .i64 x] 52)
  have c1 : ((w.alloc (.cells #[.bool b, v1, .int .i64 x] 52)).alloc (.cells #[.bool b, v2, .int .i64 x] 52)).cell? ⟨w.heap.size, 2, none⟩ = some (.int .i64 x) := old_cell _ (new_cell2 _ _ _ _ _ _ (by simp) rfl)
  have c2 : ((w.alloc (.cells #[.bool b, v1, .int .i64 x] 52)).alloc (.cells #[.bool b, v2, .int .i64 x] 52)).cell? ⟨w.heap.size + 1, 2, none⟩ = some (.int .i64 x) := new_cell2 _ _ _ _ _ _ (by simp) rfl
  have s1 := r1.kept kk (by omega)
  have s2 := r2.kept kk (by omega)
  have KK := hide kk
  obtain ⟨a1, d1, rfl, -⟩ := r1
  obtain ⟨a2, d2, rfl, -⟩ := r2
  have hbb : (x != x) = false := by simp
  clear kk
  go_enter Tryz.func27, Tryz.ntmps27
  go_wp2_with fail
  refine (eqWhole_same _ _ s1 s2).mono ?_
  rintro e w6 ⟨rfl, k6⟩
  replace c1 := k6.cell0 c1
  replace c2 := k6.cell0 c2
  have K := hide ((unhide KK).trans k6)
  clear s1 s2 k6 KK
  go_wp2
  go_ret
  exact ⟨rfl, unhide K⟩

set_option maxHeartbeats 1000000 in
theorem toDy_any {bw : Bool} {lo hi : Nat} {v : Value} {zs : List Int} (b : Bool) (x : Int) (w : World) (hn : zs.length ≤ 1099511627776) (r : Row .i64 bw lo hi w v zs) :
    Calls Tryz.prog 25 #[.agg #[.bool b, v, .int .i64 x]] w fun e w' => ∃ v', e = .returned (.agg #[.bool b, v', .int .i64 x]) ∧ Row .i64 true w.heap.size w'.heap.size w' v' zs ∧ Kept 0 0 w w' := by
  have k0 : Kept 0 0 w (((w.alloc (.cells #[.bool b, v, .int .i64 x] 45)).alloc (.cells #[.bool false, .slice none 0 0, .int .i64 0] 52)).alloc (.cells #[.bool false, .slice none 0 0, .int .i64 0] 52)) := ((((Kept.refl 0 0 w).alloc (.cells #[.bool b, v, .int .i64 x] 45)).alloc (.cells #[.bool false, .slice none 0 0, .int .i64 0] 52)).alloc (.cells #[.bool false, .slice none 0 0, .int .i64 0] 52))
  have A0 : (((w.alloc (.cells #[.bool b, v, .int .i64 x] 45)).alloc (.cells #[.bool false, .slice none 0 0, .int .i64 0] 52)).alloc (.cells #[.bool false, .slice none 0 0, .int .i64 0] 52)).cell? ⟨w.heap.size, 0, none⟩ = some (.bool b) := old_cell _ (old_cell _ (new_cell2 _ _ _ _ _ _ (by simp) rfl))
  have A1 : (((w.alloc (.cells #[.bool b, v, .int .i64 x] 45)).alloc (.cells #[.bool false, .slice none 0 0, .int .i64 0] 52)).alloc (.cells #[.bool false, .slice none 0 0, .int .i64 0] 52)).cell? ⟨w.heap.size, 1, none⟩ = some (v) := old_cell _ (old_cell _ (new_cell2 _ _ _ _ _ _ (by simp) rfl))
  have A2 : (((w.alloc (.cells #[.bool b, v, .int .i64 x] 45)).alloc (.cells #[.bool false, .slice none 0 0, .int .i64 0] 52)).alloc (.cells #[.bool false, .slice none 0 0, .int .i64 0] 52)).cell? ⟨w.heap.size, 2, none⟩ = some (.int .i64 x) := old_cell _ (old_cell _ (new_cell2 _ _ _ _ _ _ (by simp) rfl))
  have R0 : (((w.alloc (.cells #[.bool b, v, .int .i64 x] 45)).alloc (.cells #[.bool false, .slice none 0 0, .int .i64 0] 52)).alloc (.cells #[.bool false, .slice none 0 0, .int .i64 0] 52)).cell? ⟨w.heap.size + 1, 0, none⟩ = some (.bool false) := old_cell _ (new_cell2 _ _ _ _ _ _ (by simp) rfl)
  have Rf0 : (((w.alloc (.cells #[.bool b, v, .int .i64 x] 45)).alloc (.cells #[.bool false, .slice none 0 0, .int .i64 0] 52)).alloc (.cells #[.bool false, .slice none 0 0, .int .i64 0] 52)).frozen? ⟨w.heap.size + 1, 0, none⟩ = false := loose_old (by simp <;> omega) (new_loose2 _ _ _ _ _ (by simp))
  have R1 : (((w.alloc (.cells #[.bool b, v, .int .i64 x] 45)).alloc (.cells #[.bool false, .slice none 0 0, .int .i64 0] 52)).alloc (.cells #[.bool false, .slice none 0 0, .int .i64 0] 52)).cell? ⟨w.heap.size + 1, 1, none⟩ = some (.slice none 0 0) := old_cell _ (new_cell2 _ _ _ _ _ _ (by simp) rfl)
  have Rf1 : (((w.alloc (.cells #[.bool b, v, .int .i64 x] 45)).alloc (.cells #[.bool false, .slice none 0 0, .int .i64 0] 52)).alloc (.cells #[.bool false, .slice none 0 0, .int .i64 0] 52)).frozen? ⟨w.heap.size + 1, 1, none⟩ = false := loose_old (by simp <;> omega) (new_loose2 _ _ _ _ _ (by simp))
  have R2 : (((w.alloc (.cells #[.bool b, v, .int .i64 x] 45)).alloc (.cells #[.bool false, .slice none 0 0, .int .i64 0] 52)).alloc (.cells #[.bool false, .slice none 0 0, .int .i64 0] 52)).cell? ⟨w.heap.size + 1, 2, none⟩ = some (.int .i64 0) := old_cell _ (new_cell2 _ _ _ _ _ _ (by simp) rfl)
  have Rf2 : (((w.alloc (.cells #[.bool b, v, .int .i64 x] 45)).alloc (.cells #[.bool false, .slice none 0 0, .int .i64 0] 52)).alloc (.cells #[.bool false, .slice none 0 0, .int .i64 0] 52)).frozen? ⟨w.heap.size + 1, 2, none⟩ = false := loose_old (by simp <;> omega) (new_loose2 _ _ _ _ _ (by simp))
  have O0 : (((w.alloc (.cells #[.bool b, v, .int .i64 x] 45)).alloc (.cells #[.bool false, .slice none 0 0, .int .i64 0] 52)).alloc (.cells #[.bool false, .slice none 0 0, .int .i64 0] 52)).cell? ⟨w.heap.size + 2, 0, none⟩ = some (.bool false) := new_cell2 _ _ _ _ _ _ (by simp) rfl
  have Of0 : (((w.alloc (.cells #[.bool b, v, .int .i64 x] 45)).alloc (.cells #[.bool false, .slice none 0 0, .int .i64 0] 52)).alloc (.cells #[.bool false, .slice none 0 0, .int .i64 0] 52)).frozen? ⟨w.heap.size + 2, 0, none⟩ = false := new_loose2 _ _ _ _ _ (by simp)
  have O1 : (((w.alloc (.cells #[.bool b, v, .int .i64 x] 45)).alloc (.cells #[.bool false, .slice none 0 0, .int .i64 0] 52)).alloc (.cells #[.bool false, .slice none 0 0, .int .i64 0] 52)).cell? ⟨w.heap.size + 2, 1, none⟩ = some (.slice none 0 0) := new_cell2 _ _ _ _ _ _ (by simp) rfl
  have Of1 : (((w.alloc (.cells #[.bool b, v, .int .i64 x] 45)).alloc (.cells #[.bool false, .slice none 0 0, .int .i64 0] 52)).alloc (.cells #[.bool false, .slice none 0 0, .int .i64 0] 52)).frozen? ⟨w.heap.size + 2, 1, none⟩ = false := new_loose2 _ _ _ _ _ (by simp)
  have O2 : (((w.alloc (.cells #[.bool b, v, .int .i64 x] 45)).alloc (.cells #[.bool false, .slice none 0 0, .int .i64 0] 52)).alloc (.cells #[.bool false, .slice none 0 0, .int .i64 0] 52)).cell? ⟨w.heap.size + 2, 2, none⟩ = some (.int .i64 0) := new_cell2 _ _ _ _ _ _ (by simp) rfl
  have Of2 : (((w.alloc (.cells #[.bool b, v, .int .i64 x] 45)).alloc (.cells #[.bool false, .slice none 0 0, .int .i64 0] 52)).alloc (.cells #[.bool false, .slice none 0 0, .int .i64 0] 52)).frozen? ⟨w.heap.size + 2, 2, none⟩ = false := new_loose2 _ _ _ _ _ (by simp)
  replace r := r.kept k0 (by omega)
  have s0 : (((w.alloc (.cells #[.bool b, v, .int .i64 x] 45)).alloc (.cells #[.bool false, .slice none 0 0, .int .i64 0] 52)).alloc (.cells #[.bool false, .slice none 0 0, .int .i64 0] 52)).heap.size = w.heap.size + 3 := by simp
  obtain ⟨a1, c1, hv⟩ := Row.form' r
  subst hv
  have K := hide (k0)
  clear k0
  have S0 := hide s0
  clear s0
  go_enter Tryz.func25, Tryz.ntmps25
  go_wp2_with fail
  generalize (((w.alloc (.cells #[.bool b, .slice a1 zs.length c1, .int .i64 x] 45)).alloc (.cells #[.bool false, .slice none 0 0, .int .i64 0] 52)).alloc (.cells #[.bool false, .slice none 0 0, .int .i64 0] 52)) = W at *
  refine (toWhole_any _ _ hn r).mono ?_
  rintro e w1 ⟨v6, rfl, r6, k1⟩
  replace r := r.kept k1 (by omega)
  replace Rf0 := k1.loose0 (World.block_lt_of_cell? _ _ R0) Rf0
  replace Rf1 := k1.loose0 (World.block_lt_of_cell? _ _ R1) Rf1
  replace Rf2 := k1.loose0 (World.block_lt_of_cell? _ _ R2) Rf2
  replace Of0 := k1.loose0 (World.block_lt_of_cell? _ _ O0) Of0
  replace Of1 := k1.loose0 (World.block_lt_of_cell? _ _ O1) Of1
  replace Of2 := k1.loose0 (World.block_lt_of_cell? _ _ O2) Of2
  replace A0 := k1.cell0 A0
  replace A1 := k1.cell0 A1
  replace A2 := k1.cell0 A2
  replace R0 := k1.cell0 R0
  replace R1 := k1.cell0 R1
  replace R2 := k1.cell0 R2
  replace O0 := k1.cell0 O0
  replace O1 := k1.cell0 O1
  replace O2 := k1.cell0 O2
  replace K := hide ((unhide K).trans k1)
  have z2 := k1.size
  clear k1
  obtain ⟨a6, c6, hv⟩ := Row.form' r6
  subst hv
  have bX : w.heap.size + 2 < w1.heap.size := World.block_lt_of_cell? _ _ O0
  have R := hide (((((((r6.set_other (p := ⟨w.heap.size + 2, 0, none⟩) (.inl (by have := unhide S0; dsimp only; omega)) (.bool b)).set_other (p := ⟨w.heap.size + 2, 1, none⟩) (.inl (by have := unhide S0; dsimp only; omega)) (.slice a6 zs.length c6)).set_other (p := ⟨w.heap.size + 2, 2, none⟩) (.inl (by have := unhide S0; dsimp only; omega)) (.int .i64 x)).set_other (p := ⟨w.heap.size + 1, 0, none⟩) (.inl (by have := unhide S0; dsimp only; omega)) (.bool b)).set_other (p := ⟨w.heap.size + 1, 1, none⟩) (.inl (by have := unhide S0; dsimp only; omega)) (.slice a6 zs.length c6)).set_other (p := ⟨w.heap.size + 1, 2, none⟩) (.inl (by have := unhide S0; dsimp only; omega)) (.int .i64 x)).tight.wider (lo' := w.heap.size) (by have := unhide S0; omega) (Nat.le_refl _))
  have K7 := hide (((((((unhide K).setNew (p := ⟨w.heap.size + 2, 0, none⟩) (by simp) (.bool b)).setNew (p := ⟨w.heap.size + 2, 1, none⟩) (by simp) (.slice a6 zs.length c6)).setNew (p := ⟨w.heap.size + 2, 2, none⟩) (by simp) (.int .i64 x)).setNew (p := ⟨w.heap.size + 1, 0, none⟩) (by simp) (.bool b)).setNew (p := ⟨w.heap.size + 1, 1, none⟩) (by simp) (.slice a6 zs.length c6)).setNew (p := ⟨w.heap.size + 1, 2, none⟩) (by simp) (.int .i64 x))
  clear r r6 K
  go_wp2
  exact bodyPost_ret (v := .agg #[.bool b, .slice a6 zs.length c6, .int .i64 x]) (by simp [results, Tryz.results25, go_sem, R0, R1, R2]) rfl ⟨_, rfl, unhide R, unhide K7⟩

end Go.Proofs.YthahoabkehcgbaaGreatDoor

namespace Go.Proofs.YthahoabkehcgbaaGreatDoor
open Go.RowKit
set_option linter.unusedVariables false
set_option maxRecDepth 8000
set_option linter.unusedSimpArgs false

theorem cell_else {W : World} {p r : Addr} {u : Value} (x : Value) (hne : r.block ≠ p.block ∨ r.off ≠ p.off) (e1 : p.spot = none) (e2 : r.spot = none) (h : W.cell? p = some u) : (W.setCell r x).cell? p = some u := by
  obtain ⟨pb, po, pe⟩ := p
  obtain ⟨rb, ro, re⟩ := r
  dsimp only at hne e1 e2
  subst e1 e2
  by_cases hb : rb = pb
  · subst hb
    exact cell_off _ _ _ _ _ _ h (by omega)
  · exact cell_aside x hb h

set_option maxHeartbeats 2000000 in
theorem szIv_any {bw bw' : Bool} {lo hi lo' hi' : Nat} {v u : Value} {zs ys : List Int} (b : Bool) (x : Int) (c : Bool) (y : Int) (w : World) (s : Int) (hs0 : 0 ≤ s) (hs1 : s ≤ 1048576) (r : Row .i64 bw lo hi w v zs) (r' : Row .i64 bw' lo' hi' w u ys) :
    Calls Tryz.prog 86 #[(.agg #[.bool b, v, .int .i64 x, .bool c, u, .int .i64 y]), .int .i64 s] w fun e w' => e = .returned (.int .i64 (if (zs.length : Int) + (ys.length : Int) ≤ s then s - ((zs.length : Int) + (ys.length : Int)) else -1)) ∧ Kept 0 0 w w' := by
  obtain ⟨B, hB⟩ : ∃ B, (if (zs.length : Int) + (ys.length : Int) ≤ s then s - ((zs.length : Int) + (ys.length : Int)) else -1) = B := ⟨_, rfl⟩
  rw [hB]
  have HB := hide hB
  clear hB
  have hm := r.len
  unfold maxLen at hm
  have hm' := r'.len
  unfold maxLen at hm'
  have k0 : Kept 0 0 w (w.alloc (.cells #[.bool b, v, .int .i64 x, .bool c, u, .int .i64 y] 120)) := ((Kept.refl 0 0 w).alloc (.cells #[.bool b, v, .int .i64 x, .bool c, u, .int .i64 y] 120))
  have A0 : (w.alloc (.cells #[.bool b, v, .int .i64 x, .bool c, u, .int .i64 y] 120)).cell? ⟨w.heap.size, 0, none⟩ = some (.bool b) := new_cell2 _ _ _ _ _ _ (by simp) rfl
  have A1 : (w.alloc (.cells #[.bool b, v, .int .i64 x, .bool c, u, .int .i64 y] 120)).cell? ⟨w.heap.size, 1, none⟩ = some (v) := new_cell2 _ _ _ _ _ _ (by simp) rfl
  have A2 : (w.alloc (.cells #[.bool b, v, .int .i64 x, .bool c, u, .int .i64 y] 120)).cell? ⟨w.heap.size, 2, none⟩ = some (.int .i64 x) := new_cell2 _ _ _ _ _ _ (by simp) rfl
  have A3 : (w.alloc (.cells #[.bool b, v, .int .i64 x, .bool c, u, .int .i64 y] 120)).cell? ⟨w.heap.size, 3, none⟩ = some (.bool c) := new_cell2 _ _ _ _ _ _ (by simp) rfl
  have A4 : (w.alloc (.cells #[.bool b, v, .int .i64 x, .bool c, u, .int .i64 y] 120)).cell? ⟨w.heap.size, 4, none⟩ = some (u) := new_cell2 _ _ _ _ _ _ (by simp) rfl
  have A5 : (w.alloc (.cells #[.bool b, v, .int .i64 x, .bool c, u, .int .i64 y] 120)).cell? ⟨w.heap.size, 5, none⟩ = some (.int .i64 y) := new_cell2 _ _ _ _ _ _ (by simp) rfl
  replace r := r.kept k0 (by omega)
  replace r' := r'.kept k0 (by omega)
  have s0 : (w.alloc (.cells #[.bool b, v, .int .i64 x, .bool c, u, .int .i64 y] 120)).heap.size = w.heap.size + 1 := by simp
  obtain ⟨a1, c1, hv⟩ := Row.form' r
  subst hv
  obtain ⟨a2, c2, hv⟩ := Row.form' r'
  subst hv
  have K := hide (k0)
  clear k0
  have S0 := hide s0
  clear s0
  go_enter Tryz.func86, Tryz.ntmps86
  go_wp2_with fail
  generalize (w.alloc (.cells #[.bool b, .slice a1 zs.length c1, .int .i64 x, .bool c, .slice a2 ys.length c2, .int .i64 y] 120)) = W at *
  refine (szDy_any _ _ _ s hs0 hs1 r).mono ?_
  rintro e w1 ⟨rfl, k1⟩
  replace r := r.kept k1 (.inr (.inr (Nat.le_refl 0)))
  replace r' := r'.kept k1 (.inr (.inr (Nat.le_refl 0)))
  replace A0 := k1.cell0 A0
  replace A1 := k1.cell0 A1
  replace A2 := k1.cell0 A2
  replace A3 := k1.cell0 A3
  replace A4 := k1.cell0 A4
  replace A5 := k1.cell0 A5
  replace K := hide ((unhide K).trans k1)
  have z2 := k1.size
  clear k1
  by_cases h1 : (zs.length : Int) ≤ s
  rotate_left
  · have EB : Hid (B = -1) := by show _ = _; rw [← unhide HB, if_neg (by omega)]
    rw [if_neg h1]
    go_wp2_with fail
    go_ret
    exact ⟨by rw [unhide EB]; rfl, unhide K⟩
  rw [if_pos h1]
  have n1 : ¬ (s - (zs.length : Int)) < 0 := by omega
  go_wp2_with fail
  refine (szDy_any _ _ _ (s - (zs.length : Int)) (by omega) (by omega) r').mono ?_
  rintro e w3 ⟨rfl, k3⟩
  replace r := r.kept k3 (.inr (.inr (Nat.le_refl 0)))
  replace r' := r'.kept k3 (.inr (.inr (Nat.le_refl 0)))
  replace A0 := k3.cell0 A0
  replace A1 := k3.cell0 A1
  replace A2 := k3.cell0 A2
  replace A3 := k3.cell0 A3
  replace A4 := k3.cell0 A4
  replace A5 := k3.cell0 A5
  replace K := hide ((unhide K).trans k3)
  have z4 := k3.size
  clear k3
  by_cases h2 : (ys.length : Int) ≤ s - (zs.length : Int)
  rotate_left
  · have EB : Hid (B = -1) := by show _ = _; rw [← unhide HB, if_neg (by omega)]
    rw [if_neg h2]
    go_wp2_with fail
    go_ret
    exact ⟨by rw [unhide EB]; rfl, unhide K⟩
  rw [if_pos h2]
  have n2 : ¬ (s - (zs.length : Int) - (ys.length : Int)) < 0 := by omega
  have E : Hid (s - (zs.length : Int) - (ys.length : Int) = B) := by show _ = _; rw [← unhide HB, if_pos (by omega)]; omega
  go_wp2_with fail
  go_ret
  exact ⟨by rw [← unhide E]; rfl, unhide K⟩

set_option maxHeartbeats 2000000 in
theorem eqIv_same {d1 d2 d3 d4 : Bool} {l1 h1 l2 h2 l3 h3 l4 h4 : Nat} {v1 u1 v2 u2 : Value} {zs ys : List Int} (b : Bool) (x : Int) (c : Bool) (y : Int) (w : World) (r1 : Row .i64 d1 l1 h1 w v1 zs) (r1' : Row .i64 d2 l2 h2 w u1 ys) (r2 : Row .i64 d3 l3 h3 w v2 zs) (r2' : Row .i64 d4 l4 h4 w u2 ys) :
    Calls Tryz.prog 93 #[.agg #[.bool b, v1, .int .i64 x, .bool c, u1, .int .i64 y], .agg #[.bool b, v2, .int .i64 x, .bool c, u2, .int .i64 y]] w fun e w' => e = .returned (.bool true) ∧ Kept 0 0 w w' := by
  have k0 : Kept 0 0 w ((w.alloc (.cells #[.bool b, v1, .int .i64 x, .bool c, u1, .int .i64 y] 102)).alloc (.cells #[.bool b, v2, .int .i64 x, .bool c, u2, .int .i64 y] 102)) := (((Kept.refl 0 0 w).alloc (.cells #[.bool b, v1, .int .i64 x, .bool c, u1, .int .i64 y] 102)).alloc (.cells #[.bool b, v2, .int .i64 x, .bool c, u2, .int .i64 y] 102))
  have A0 : ((w.alloc (.cells #[.bool b, v1, .int .i64 x, .bool c, u1, .int .i64 y] 102)).alloc (.cells #[.bool b, v2, .int .i64 x, .bool c, u2, .int .i64 y] 102)).cell? ⟨w.heap.size, 0, none⟩ = some (.bool b) := old_cell _ (new_cell2 _ _ _ _ _ _ (by simp) rfl)
  have A1 : ((w.alloc (.cells #[.bool b, v1, .int .i64 x, .bool c, u1, .int .i64 y] 102)).alloc (.cells #[.bool b, v2, .int .i64 x, .bool c, u2, .int .i64 y] 102)).cell? ⟨w.heap.size, 1, none⟩ = some (v1) := old_cell _ (new_cell2 _ _ _ _ _ _ (by simp) rfl)
  have A2 : ((w.alloc (.cells #[.bool b, v1, .int .i64 x, .bool c, u1, .int .i64 y] 102)).alloc (.cells #[.bool b, v2, .int .i64 x, .bool c, u2, .int .i64 y] 102)).cell? ⟨w.heap.size, 2, none⟩ = some (.int .i64 x) := old_cell _ (new_cell2 _ _ _ _ _ _ (by simp) rfl)
  have A3 : ((w.alloc (.cells #[.bool b, v1, .int .i64 x, .bool c, u1, .int .i64 y] 102)).alloc (.cells #[.bool b, v2, .int .i64 x, .bool c, u2, .int .i64 y] 102)).cell? ⟨w.heap.size, 3, none⟩ = some (.bool c) := old_cell _ (new_cell2 _ _ _ _ _ _ (by simp) rfl)
  have A4 : ((w.alloc (.cells #[.bool b, v1, .int .i64 x, .bool c, u1, .int .i64 y] 102)).alloc (.cells #[.bool b, v2, .int .i64 x, .bool c, u2, .int .i64 y] 102)).cell? ⟨w.heap.size, 4, none⟩ = some (u1) := old_cell _ (new_cell2 _ _ _ _ _ _ (by simp) rfl)
  have A5 : ((w.alloc (.cells #[.bool b, v1, .int .i64 x, .bool c, u1, .int .i64 y] 102)).alloc (.cells #[.bool b, v2, .int .i64 x, .bool c, u2, .int .i64 y] 102)).cell? ⟨w.heap.size, 5, none⟩ = some (.int .i64 y) := old_cell _ (new_cell2 _ _ _ _ _ _ (by simp) rfl)
  have B0 : ((w.alloc (.cells #[.bool b, v1, .int .i64 x, .bool c, u1, .int .i64 y] 102)).alloc (.cells #[.bool b, v2, .int .i64 x, .bool c, u2, .int .i64 y] 102)).cell? ⟨w.heap.size + 1, 0, none⟩ = some (.bool b) := new_cell2 _ _ _ _ _ _ (by simp) rfl
  have B1 : ((w.alloc (.cells #[.bool b, v1, .int .i64 x, .bool c, u1, .int .i64 y] 102)).alloc (.cells #[.bool b, v2, .int .i64 x, .bool c, u2, .int .i64 y] 102)).cell? ⟨w.heap.size + 1, 1, none⟩ = some (v2) := new_cell2 _ _ _ _ _ _ (by simp) rfl
  have B2 : ((w.alloc (.cells #[.bool b, v1, .int .i64 x, .bool c, u1, .int .i64 y] 102)).alloc (.cells #[.bool b, v2, .int .i64 x, .bool c, u2, .int .i64 y] 102)).cell? ⟨w.heap.size + 1, 2, none⟩ = some (.int .i64 x) := new_cell2 _ _ _ _ _ _ (by simp) rfl
  have B3 : ((w.alloc (.cells #[.bool b, v1, .int .i64 x, .bool c, u1, .int .i64 y] 102)).alloc (.cells #[.bool b, v2, .int .i64 x, .bool c, u2, .int .i64 y] 102)).cell? ⟨w.heap.size + 1, 3, none⟩ = some (.bool c) := new_cell2 _ _ _ _ _ _ (by simp) rfl
  have B4 : ((w.alloc (.cells #[.bool b, v1, .int .i64 x, .bool c, u1, .int .i64 y] 102)).alloc (.cells #[.bool b, v2, .int .i64 x, .bool c, u2, .int .i64 y] 102)).cell? ⟨w.heap.size + 1, 4, none⟩ = some (u2) := new_cell2 _ _ _ _ _ _ (by simp) rfl
  have B5 : ((w.alloc (.cells #[.bool b, v1, .int .i64 x, .bool c, u1, .int .i64 y] 102)).alloc (.cells #[.bool b, v2, .int .i64 x, .bool c, u2, .int .i64 y] 102)).cell? ⟨w.heap.size + 1, 5, none⟩ = some (.int .i64 y) := new_cell2 _ _ _ _ _ _ (by simp) rfl
  replace r1 := r1.kept k0 (by omega)
  replace r1' := r1'.kept k0 (by omega)
  replace r2 := r2.kept k0 (by omega)
  replace r2' := r2'.kept k0 (by omega)
  have s0 : ((w.alloc (.cells #[.bool b, v1, .int .i64 x, .bool c, u1, .int .i64 y] 102)).alloc (.cells #[.bool b, v2, .int .i64 x, .bool c, u2, .int .i64 y] 102)).heap.size = w.heap.size + 2 := by simp
  obtain ⟨a1, c1, hv⟩ := Row.form' r1
  subst hv
  obtain ⟨a2, c2, hv⟩ := Row.form' r1'
  subst hv
  obtain ⟨a3, c3, hv⟩ := Row.form' r2
  subst hv
  obtain ⟨a4, c4, hv⟩ := Row.form' r2'
  subst hv
  have K := hide (k0)
  clear k0
  have S0 := hide s0
  clear s0
  go_enter Tryz.func93, Tryz.ntmps93
  go_wp2_with fail
  generalize ((w.alloc (.cells #[.bool b, .slice a1 zs.length c1, .int .i64 x, .bool c, .slice a2 ys.length c2, .int .i64 y] 102)).alloc (.cells #[.bool b, .slice a3 zs.length c3, .int .i64 x, .bool c, .slice a4 ys.length c4, .int .i64 y] 102)) = W at *
  refine (eqDy_same _ _ _ r1 r2).mono ?_
  rintro e w1 ⟨rfl, k1⟩
  replace r1 := r1.kept k1 (.inr (.inr (Nat.le_refl 0)))
  replace r1' := r1'.kept k1 (.inr (.inr (Nat.le_refl 0)))
  replace r2 := r2.kept k1 (.inr (.inr (Nat.le_refl 0)))
  replace r2' := r2'.kept k1 (.inr (.inr (Nat.le_refl 0)))
  replace A0 := k1.cell0 A0
  replace A1 := k1.cell0 A1
  replace A2 := k1.cell0 A2
  replace A3 := k1.cell0 A3
  replace A4 := k1.cell0 A4
  replace A5 := k1.cell0 A5
  replace B0 := k1.cell0 B0
  replace B1 := k1.cell0 B1
  replace B2 := k1.cell0 B2
  replace B3 := k1.cell0 B3
  replace B4 := k1.cell0 B4
  replace B5 := k1.cell0 B5
  replace K := hide ((unhide K).trans k1)
  have z2 := k1.size
  clear k1
  go_wp2_with fail
  refine (eqDy_same _ _ _ r1' r2').mono ?_
  rintro e w3 ⟨rfl, k3⟩
  replace r1 := r1.kept k3 (.inr (.inr (Nat.le_refl 0)))
  replace r1' := r1'.kept k3 (.inr (.inr (Nat.le_refl 0)))
  replace r2 := r2.kept k3 (.inr (.inr (Nat.le_refl 0)))
  replace r2' := r2'.kept k3 (.inr (.inr (Nat.le_refl 0)))
  replace A0 := k3.cell0 A0
  replace A1 := k3.cell0 A1
  replace A2 := k3.cell0 A2
  replace A3 := k3.cell0 A3
  replace A4 := k3.cell0 A4
  replace A5 := k3.cell0 A5
  replace B0 := k3.cell0 B0
  replace B1 := k3.cell0 B1
  replace B2 := k3.cell0 B2
  replace B3 := k3.cell0 B3
  replace B4 := k3.cell0 B4
  replace B5 := k3.cell0 B5
  replace K := hide ((unhide K).trans k3)
  have z4 := k3.size
  clear k3
  clear r1 r1' r2 r2'
  go_wp2_with fail
  go_ret
  exact ⟨rfl, unhide K⟩

set_option maxHeartbeats 4000000 in
theorem toIv_any {bw bw' : Bool} {lo hi lo' hi' : Nat} {v u : Value} {zs ys : List Int} (b : Bool) (x : Int) (c : Bool) (y : Int) (w : World) (hn : zs.length ≤ 1099511627776) (hn' : ys.length ≤ 1099511627776) (r : Row .i64 bw lo hi w v zs) (r' : Row .i64 bw' lo' hi' w u ys) :
    Calls Tryz.prog 90 #[(.agg #[.bool b, v, .int .i64 x, .bool c, u, .int .i64 y])] w fun e w' => ∃ v1 u1 mid, e = .returned (.agg #[.bool b, v1, .int .i64 x, .bool c, u1, .int .i64 y]) ∧ Row .i64 true w.heap.size mid w' v1 zs ∧ Row .i64 true mid w'.heap.size w' u1 ys ∧ w.heap.size ≤ mid ∧ mid ≤ w'.heap.size ∧ Kept 0 0 w w' := by
  replace r := r.tight
  replace r' := r'.tight
  have k0 : Kept 0 0 w (((w.alloc (.cells #[.bool b, v, .int .i64 x, .bool c, u, .int .i64 y] 120)).alloc (.cells #[.bool false, .slice none 0 0, .int .i64 0, .bool false, .slice none 0 0, .int .i64 0] 102)).alloc (.cells #[.bool false, .slice none 0 0, .int .i64 0, .bool false, .slice none 0 0, .int .i64 0] 102)) := ((((Kept.refl 0 0 w).alloc (.cells #[.bool b, v, .int .i64 x, .bool c, u, .int .i64 y] 120)).alloc (.cells #[.bool false, .slice none 0 0, .int .i64 0, .bool false, .slice none 0 0, .int .i64 0] 102)).alloc (.cells #[.bool false, .slice none 0 0, .int .i64 0, .bool false, .slice none 0 0, .int .i64 0] 102))
  have A0 : (((w.alloc (.cells #[.bool b, v, .int .i64 x, .bool c, u, .int .i64 y] 120)).alloc (.cells #[.bool false, .slice none 0 0, .int .i64 0, .bool false, .slice none 0 0, .int .i64 0] 102)).alloc (.cells #[.bool false, .slice none 0 0, .int .i64 0, .bool false, .slice none 0 0, .int .i64 0] 102)).cell? ⟨w.heap.size, 0, none⟩ = some (.bool b) := old_cell _ (old_cell _ (new_cell2 _ _ _ _ _ _ (by simp) rfl))
  have A1 : (((w.alloc (.cells #[.bool b, v, .int .i64 x, .bool c, u, .int .i64 y] 120)).alloc (.cells #[.bool false, .slice none 0 0, .int .i64 0, .bool false, .slice none 0 0, .int .i64 0] 102)).alloc (.cells #[.bool false, .slice none 0 0, .int .i64 0, .bool false, .slice none 0 0, .int .i64 0] 102)).cell? ⟨w.heap.size, 1, none⟩ = some (v) := old_cell _ (old_cell _ (new_cell2 _ _ _ _ _ _ (by simp) rfl))
  have A2 : (((w.alloc (.cells #[.bool b, v, .int .i64 x, .bool c, u, .int .i64 y] 120)).alloc (.cells #[.bool false, .slice none 0 0, .int .i64 0, .bool false, .slice none 0 0, .int .i64 0] 102)).alloc (.cells #[.bool false, .slice none 0 0, .int .i64 0, .bool false, .slice none 0 0, .int .i64 0] 102)).cell? ⟨w.heap.size, 2, none⟩ = some (.int .i64 x) := old_cell _ (old_cell _ (new_cell2 _ _ _ _ _ _ (by simp) rfl))
  have A3 : (((w.alloc (.cells #[.bool b, v, .int .i64 x, .bool c, u, .int .i64 y] 120)).alloc (.cells #[.bool false, .slice none 0 0, .int .i64 0, .bool false, .slice none 0 0, .int .i64 0] 102)).alloc (.cells #[.bool false, .slice none 0 0, .int .i64 0, .bool false, .slice none 0 0, .int .i64 0] 102)).cell? ⟨w.heap.size, 3, none⟩ = some (.bool c) := old_cell _ (old_cell _ (new_cell2 _ _ _ _ _ _ (by simp) rfl))
  have A4 : (((w.alloc (.cells #[.bool b, v, .int .i64 x, .bool c, u, .int .i64 y] 120)).alloc (.cells #[.bool false, .slice none 0 0, .int .i64 0, .bool false, .slice none 0 0, .int .i64 0] 102)).alloc (.cells #[.bool false, .slice none 0 0, .int .i64 0, .bool false, .slice none 0 0, .int .i64 0] 102)).cell? ⟨w.heap.size, 4, none⟩ = some (u) := old_cell _ (old_cell _ (new_cell2 _ _ _ _ _ _ (by simp) rfl))
  have A5 : (((w.alloc (.cells #[.bool b, v, .int .i64 x, .bool c, u, .int .i64 y] 120)).alloc (.cells #[.bool false, .slice none 0 0, .int .i64 0, .bool false, .slice none 0 0, .int .i64 0] 102)).alloc (.cells #[.bool false, .slice none 0 0, .int .i64 0, .bool false, .slice none 0 0, .int .i64 0] 102)).cell? ⟨w.heap.size, 5, none⟩ = some (.int .i64 y) := old_cell _ (old_cell _ (new_cell2 _ _ _ _ _ _ (by simp) rfl))
  have R0 : (((w.alloc (.cells #[.bool b, v, .int .i64 x, .bool c, u, .int .i64 y] 120)).alloc (.cells #[.bool false, .slice none 0 0, .int .i64 0, .bool false, .slice none 0 0, .int .i64 0] 102)).alloc (.cells #[.bool false, .slice none 0 0, .int .i64 0, .bool false, .slice none 0 0, .int .i64 0] 102)).cell? ⟨w.heap.size + 1, 0, none⟩ = some (.bool false) := old_cell _ (new_cell2 _ _ _ _ _ _ (by simp) rfl)
  have Rf0 : (((w.alloc (.cells #[.bool b, v, .int .i64 x, .bool c, u, .int .i64 y] 120)).alloc (.cells #[.bool false, .slice none 0 0, .int .i64 0, .bool false, .slice none 0 0, .int .i64 0] 102)).alloc (.cells #[.bool false, .slice none 0 0, .int .i64 0, .bool false, .slice none 0 0, .int .i64 0] 102)).frozen? ⟨w.heap.size + 1, 0, none⟩ = false := loose_old (by simp <;> omega) (new_loose2 _ _ _ _ _ (by simp))
  have R1 : (((w.alloc (.cells #[.bool b, v, .int .i64 x, .bool c, u, .int .i64 y] 120)).alloc (.cells #[.bool false, .slice none 0 0, .int .i64 0, .bool false, .slice none 0 0, .int .i64 0] 102)).alloc (.cells #[.bool false, .slice none 0 0, .int .i64 0, .bool false, .slice none 0 0, .int .i64 0] 102)).cell? ⟨w.heap.size + 1, 1, none⟩ = some (.slice none 0 0) := old_cell _ (new_cell2 _ _ _ _ _ _ (by simp) rfl)
  have Rf1 : (((w.alloc (.cells #[.bool b, v, .int .i64 x, .bool c, u, .int .i64 y] 120)).alloc (.cells #[.bool false, .slice none 0 0, .int .i64 0, .bool false, .slice none 0 0, .int .i64 0] 102)).alloc (.cells #[.bool false, .slice none 0 0, .int .i64 0, .bool false, .slice none 0 0, .int .i64 0] 102)).frozen? ⟨w.heap.size + 1, 1, none⟩ = false := loose_old (by simp <;> omega) (new_loose2 _ _ _ _ _ (by simp))
  have R2 : (((w.alloc (.cells #[.bool b, v, .int .i64 x, .bool c, u, .int .i64 y] 120)).alloc (.cells #[.bool false, .slice none 0 0, .int .i64 0, .bool false, .slice none 0 0, .int .i64 0] 102)).alloc (.cells #[.bool false, .slice none 0 0, .int .i64 0, .bool false, .slice none 0 0, .int .i64 0] 102)).cell? ⟨w.heap.size + 1, 2, none⟩ = some (.int .i64 0) := old_cell _ (new_cell2 _ _ _ _ _ _ (by simp) rfl)
  have Rf2 : (((w.alloc (.cells #[.bool b, v, .int .i64 x, .bool c, u, .int .i64 y] 120)).alloc (.cells #[.bool false, .slice none 0 0, .int .i64 0, .bool false, .slice none 0 0, .int .i64 0] 102)).alloc (.cells #[.bool false, .slice none 0 0, .int .i64 0, .bool false, .slice none 0 0, .int .i64 0] 102)).frozen? ⟨w.heap.size + 1, 2, none⟩ = false := loose_old (by simp <;> omega) (new_loose2 _ _ _ _ _ (by simp))
  have R3 : (((w.alloc (.cells #[.bool b, v, .int .i64 x, .bool c, u, .int .i64 y] 120)).alloc (.cells #[.bool false, .slice none 0 0, .int .i64 0, .bool false, .slice none 0 0, .int .i64 0] 102)).alloc (.cells #[.bool false, .slice none 0 0, .int .i64 0, .bool false, .slice none 0 0, .int .i64 0] 102)).cell? ⟨w.heap.size + 1, 3, none⟩ = some (.bool false) := old_cell _ (new_cell2 _ _ _ _ _ _ (by simp) rfl)
  have Rf3 : (((w.alloc (.cells #[.bool b, v, .int .i64 x, .bool c, u, .int .i64 y] 120)).alloc (.cells #[.bool false, .slice none 0 0, .int .i64 0, .bool false, .slice none 0 0, .int .i64 0] 102)).alloc (.cells #[.bool false, .slice none 0 0, .int .i64 0, .bool false, .slice none 0 0, .int .i64 0] 102)).frozen? ⟨w.heap.size + 1, 3, none⟩ = false := loose_old (by simp <;> omega) (new_loose2 _ _ _ _ _ (by simp))
  have R4 : (((w.alloc (.cells #[.bool b, v, .int .i64 x, .bool c, u, .int .i64 y] 120)).alloc (.cells #[.bool false, .slice none 0 0, .int .i64 0, .bool false, .slice none 0 0, .int .i64 0] 102)).alloc (.cells #[.bool false, .slice none 0 0, .int .i64 0, .bool false, .slice none 0 0, .int .i64 0] 102)).cell? ⟨w.heap.size + 1, 4, none⟩ = some (.slice none 0 0) := old_cell _ (new_cell2 _ _ _ _ _ _ (by simp) rfl)
  have Rf4 : (((w.alloc (.cells #[.bool b, v, .int .i64 x, .bool c, u, .int .i64 y] 120)).alloc (.cells #[.bool false, .slice none 0 0, .int .i64 0, .bool false, .slice none 0 0, .int .i64 0] 102)).alloc (.cells #[.bool false, .slice none 0 0, .int .i64 0, .bool false, .slice none 0 0, .int .i64 0] 102)).frozen? ⟨w.heap.size + 1, 4, none⟩ = false := loose_old (by simp <;> omega) (new_loose2 _ _ _ _ _ (by simp))
  have R5 : (((w.alloc (.cells #[.bool b, v, .int .i64 x, .bool c, u, .int .i64 y] 120)).alloc (.cells #[.bool false, .slice none 0 0, .int .i64 0, .bool false, .slice none 0 0, .int .i64 0] 102)).alloc (.cells #[.bool false, .slice none 0 0, .int .i64 0, .bool false, .slice none 0 0, .int .i64 0] 102)).cell? ⟨w.heap.size + 1, 5, none⟩ = some (.int .i64 0) := old_cell _ (new_cell2 _ _ _ _ _ _ (by simp) rfl)
  have Rf5 : (((w.alloc (.cells #[.bool b, v, .int .i64 x, .bool c, u, .int .i64 y] 120)).alloc (.cells #[.bool false, .slice none 0 0, .int .i64 0, .bool false, .slice none 0 0, .int .i64 0] 102)).alloc (.cells #[.bool false, .slice none 0 0, .int .i64 0, .bool false, .slice none 0 0, .int .i64 0] 102)).frozen? ⟨w.heap.size + 1, 5, none⟩ = false := loose_old (by simp <;> omega) (new_loose2 _ _ _ _ _ (by simp))
  have O0 : (((w.alloc (.cells #[.bool b, v, .int .i64 x, .bool c, u, .int .i64 y] 120)).alloc (.cells #[.bool false, .slice none 0 0, .int .i64 0, .bool false, .slice none 0 0, .int .i64 0] 102)).alloc (.cells #[.bool false, .slice none 0 0, .int .i64 0, .bool false, .slice none 0 0, .int .i64 0] 102)).cell? ⟨w.heap.size + 2, 0, none⟩ = some (.bool false) := new_cell2 _ _ _ _ _ _ (by simp) rfl
  have Of0 : (((w.alloc (.cells #[.bool b, v, .int .i64 x, .bool c, u, .int .i64 y] 120)).alloc (.cells #[.bool false, .slice none 0 0, .int .i64 0, .bool false, .slice none 0 0, .int .i64 0] 102)).alloc (.cells #[.bool false, .slice none 0 0, .int .i64 0, .bool false, .slice none 0 0, .int .i64 0] 102)).frozen? ⟨w.heap.size + 2, 0, none⟩ = false := new_loose2 _ _ _ _ _ (by simp)
  have O1 : (((w.alloc (.cells #[.bool b, v, .int .i64 x, .bool c, u, .int .i64 y] 120)).alloc (.cells #[.bool false, .slice none 0 0, .int .i64 0, .bool false, .slice none 0 0, .int .i64 0] 102)).alloc (.cells #[.bool false, .slice none 0 0, .int .i64 0, .bool false, .slice none 0 0, .int .i64 0] 102)).cell? ⟨w.heap.size + 2, 1, none⟩ = some (.slice none 0 0) := new_cell2 _ _ _ _ _ _ (by simp) rfl
  have Of1 : (((w.alloc (.cells #[.bool b, v, .int .i64 x, .bool c, u, .int .i64 y] 120)).alloc (.cells #[.bool false, .slice none 0 0, .int .i64 0, .bool false, .slice none 0 0, .int .i64 0] 102)).alloc (.cells #[.bool false, .slice none 0 0, .int .i64 0, .bool false, .slice none 0 0, .int .i64 0] 102)).frozen? ⟨w.heap.size + 2, 1, none⟩ = false := new_loose2 _ _ _ _ _ (by simp)
  have O2 : (((w.alloc (.cells #[.bool b, v, .int .i64 x, .bool c, u, .int .i64 y] 120)).alloc (.cells #[.bool false, .slice none 0 0, .int .i64 0, .bool false, .slice none 0 0, .int .i64 0] 102)).alloc (.cells #[.bool false, .slice none 0 0, .int .i64 0, .bool false, .slice none 0 0, .int .i64 0] 102)).cell? ⟨w.heap.size + 2, 2, none⟩ = some (.int .i64 0) := new_cell2 _ _ _ _ _ _ (by simp) rfl
  have Of2 : (((w.alloc (.cells #[.bool b, v, .int .i64 x, .bool c, u, .int .i64 y] 120)).alloc (.cells #[.bool false, .slice none 0 0, .int .i64 0, .bool false, .slice none 0 0, .int .i64 0] 102)).alloc (.cells #[.bool false, .slice none 0 0, .int .i64 0, .bool false, .slice none 0 0, .int .i64 0] 102)).frozen? ⟨w.heap.size + 2, 2, none⟩ = false := new_loose2 _ _ _ _ _ (by simp)
  have O3 : (((w.alloc (.cells #[.bool b, v, .int .i64 x, .bool c, u, .int .i64 y] 120)).alloc (.cells #[.bool false, .slice none 0 0, .int .i64 0, .bool false, .slice none 0 0, .int .i64 0] 102)).alloc (.cells #[.bool false, .slice none 0 0, .int .i64 0, .bool false, .slice none 0 0, .int .i64 0] 102)).cell? ⟨w.heap.size + 2, 3, none⟩ = some (.bool false) := new_cell2 _ _ _ _ _ _ (by simp) rfl
  have Of3 : (((w.alloc (.cells #[.bool b, v, .int .i64 x, .bool c, u, .int .i64 y] 120)).alloc (.cells #[.bool false, .slice none 0 0, .int .i64 0, .bool false, .slice none 0 0, .int .i64 0] 102)).alloc (.cells #[.bool false, .slice none 0 0, .int .i64 0, .bool false, .slice none 0 0, .int .i64 0] 102)).frozen? ⟨w.heap.size + 2, 3, none⟩ = false := new_loose2 _ _ _ _ _ (by simp)
  have O4 : (((w.alloc (.cells #[.bool b, v, .int .i64 x, .bool c, u, .int .i64 y] 120)).alloc (.cells #[.bool false, .slice none 0 0, .int .i64 0, .bool false, .slice none 0 0, .int .i64 0] 102)).alloc (.cells #[.bool false, .slice none 0 0, .int .i64 0, .bool false, .slice none 0 0, .int .i64 0] 102)).cell? ⟨w.heap.size + 2, 4, none⟩ = some (.slice none 0 0) := new_cell2 _ _ _ _ _ _ (by simp) rfl
  have Of4 : (((w.alloc (.cells #[.bool b, v, .int .i64 x, .bool c, u, .int .i64 y] 120)).alloc (.cells #[.bool false, .slice none 0 0, .int .i64 0, .bool false, .slice none 0 0, .int .i64 0] 102)).alloc (.cells #[.bool false, .slice none 0 0, .int .i64 0, .bool false, .slice none 0 0, .int .i64 0] 102)).frozen? ⟨w.heap.size + 2, 4, none⟩ = false := new_loose2 _ _ _ _ _ (by simp)
  have O5 : (((w.alloc (.cells #[.bool b, v, .int .i64 x, .bool c, u, .int .i64 y] 120)).alloc (.cells #[.bool false, .slice none 0 0, .int .i64 0, .bool false, .slice none 0 0, .int .i64 0] 102)).alloc (.cells #[.bool false, .slice none 0 0, .int .i64 0, .bool false, .slice none 0 0, .int .i64 0] 102)).cell? ⟨w.heap.size + 2, 5, none⟩ = some (.int .i64 0) := new_cell2 _ _ _ _ _ _ (by simp) rfl
  have Of5 : (((w.alloc (.cells #[.bool b, v, .int .i64 x, .bool c, u, .int .i64 y] 120)).alloc (.cells #[.bool false, .slice none 0 0, .int .i64 0, .bool false, .slice none 0 0, .int .i64 0] 102)).alloc (.cells #[.bool false, .slice none 0 0, .int .i64 0, .bool false, .slice none 0 0, .int .i64 0] 102)).frozen? ⟨w.heap.size + 2, 5, none⟩ = false := new_loose2 _ _ _ _ _ (by simp)
  replace r := r.kept k0 (by omega)
  replace r' := r'.kept k0 (by omega)
  have s0 : (((w.alloc (.cells #[.bool b, v, .int .i64 x, .bool c, u, .int .i64 y] 120)).alloc (.cells #[.bool false, .slice none 0 0, .int .i64 0, .bool false, .slice none 0 0, .int .i64 0] 102)).alloc (.cells #[.bool false, .slice none 0 0, .int .i64 0, .bool false, .slice none 0 0, .int .i64 0] 102)).heap.size = w.heap.size + 3 := by simp
  obtain ⟨a1, c1, hv⟩ := Row.form' r
  subst hv
  obtain ⟨a2, c2, hv⟩ := Row.form' r'
  subst hv
  have K := hide (k0)
  clear k0
  have S0 := hide s0
  clear s0
  go_enter Tryz.func90, Tryz.ntmps90
  go_wp2_with fail
  generalize (((w.alloc (.cells #[.bool b, .slice a1 zs.length c1, .int .i64 x, .bool c, .slice a2 ys.length c2, .int .i64 y] 120)).alloc (.cells #[.bool false, .slice none 0 0, .int .i64 0, .bool false, .slice none 0 0, .int .i64 0] 102)).alloc (.cells #[.bool false, .slice none 0 0, .int .i64 0, .bool false, .slice none 0 0, .int .i64 0] 102)) = W at *
  refine (toDy_any _ _ _ hn r).mono ?_
  rintro e w1 ⟨v6, rfl, r6, k1⟩
  replace r := r.kept k1 (.inr (.inr (Nat.le_refl 0)))
  replace r' := r'.kept k1 (.inr (.inr (Nat.le_refl 0)))
  replace Rf0 := k1.loose0 (World.block_lt_of_cell? _ _ R0) Rf0
  replace Rf1 := k1.loose0 (World.block_lt_of_cell? _ _ R1) Rf1
  replace Rf2 := k1.loose0 (World.block_lt_of_cell? _ _ R2) Rf2
  replace Rf3 := k1.loose0 (World.block_lt_of_cell? _ _ R3) Rf3
  replace Rf4 := k1.loose0 (World.block_lt_of_cell? _ _ R4) Rf4
  replace Rf5 := k1.loose0 (World.block_lt_of_cell? _ _ R5) Rf5
  replace Of0 := k1.loose0 (World.block_lt_of_cell? _ _ O0) Of0
  replace Of1 := k1.loose0 (World.block_lt_of_cell? _ _ O1) Of1
  replace Of2 := k1.loose0 (World.block_lt_of_cell? _ _ O2) Of2
  replace Of3 := k1.loose0 (World.block_lt_of_cell? _ _ O3) Of3
  replace Of4 := k1.loose0 (World.block_lt_of_cell? _ _ O4) Of4
  replace Of5 := k1.loose0 (World.block_lt_of_cell? _ _ O5) Of5
  replace A0 := k1.cell0 A0
  replace A1 := k1.cell0 A1
  replace A2 := k1.cell0 A2
  replace A3 := k1.cell0 A3
  replace A4 := k1.cell0 A4
  replace A5 := k1.cell0 A5
  replace R0 := k1.cell0 R0
  replace R1 := k1.cell0 R1
  replace R2 := k1.cell0 R2
  replace R3 := k1.cell0 R3
  replace R4 := k1.cell0 R4
  replace R5 := k1.cell0 R5
  replace O0 := k1.cell0 O0
  replace O1 := k1.cell0 O1
  replace O2 := k1.cell0 O2
  replace O3 := k1.cell0 O3
  replace O4 := k1.cell0 O4
  replace O5 := k1.cell0 O5
  replace K := hide ((unhide K).trans k1)
  have z2 := k1.size
  clear k1
  obtain ⟨a6, c6, hv⟩ := Row.form' r6
  subst hv
  have bX : w.heap.size + 2 < w1.heap.size := World.block_lt_of_cell? _ _ O0
  go_wp2_with fail
  have sS0 := unhide S0
  replace r := r.set_other (p := ⟨w.heap.size + 2, 0, none⟩) (by dsimp only; omega) (.bool b)
  replace r' := r'.set_other (p := ⟨w.heap.size + 2, 0, none⟩) (by dsimp only; omega) (.bool b)
  replace r6 := r6.set_other (p := ⟨w.heap.size + 2, 0, none⟩) (by dsimp only; omega) (.bool b)
  replace A0 := cell_else (.bool b) (r := ⟨w.heap.size + 2, 0, none⟩) (by dsimp only; omega) rfl rfl A0
  replace A1 := cell_else (.bool b) (r := ⟨w.heap.size + 2, 0, none⟩) (by dsimp only; omega) rfl rfl A1
  replace A2 := cell_else (.bool b) (r := ⟨w.heap.size + 2, 0, none⟩) (by dsimp only; omega) rfl rfl A2
  replace A3 := cell_else (.bool b) (r := ⟨w.heap.size + 2, 0, none⟩) (by dsimp only; omega) rfl rfl A3
  replace A4 := cell_else (.bool b) (r := ⟨w.heap.size + 2, 0, none⟩) (by dsimp only; omega) rfl rfl A4
  replace A5 := cell_else (.bool b) (r := ⟨w.heap.size + 2, 0, none⟩) (by dsimp only; omega) rfl rfl A5
  replace R0 := cell_else (.bool b) (r := ⟨w.heap.size + 2, 0, none⟩) (by dsimp only; omega) rfl rfl R0
  replace R1 := cell_else (.bool b) (r := ⟨w.heap.size + 2, 0, none⟩) (by dsimp only; omega) rfl rfl R1
  replace R2 := cell_else (.bool b) (r := ⟨w.heap.size + 2, 0, none⟩) (by dsimp only; omega) rfl rfl R2
  replace R3 := cell_else (.bool b) (r := ⟨w.heap.size + 2, 0, none⟩) (by dsimp only; omega) rfl rfl R3
  replace R4 := cell_else (.bool b) (r := ⟨w.heap.size + 2, 0, none⟩) (by dsimp only; omega) rfl rfl R4
  replace R5 := cell_else (.bool b) (r := ⟨w.heap.size + 2, 0, none⟩) (by dsimp only; omega) rfl rfl R5
  replace O1 := cell_else (.bool b) (r := ⟨w.heap.size + 2, 0, none⟩) (by dsimp only; omega) rfl rfl O1
  replace O2 := cell_else (.bool b) (r := ⟨w.heap.size + 2, 0, none⟩) (by dsimp only; omega) rfl rfl O2
  replace O3 := cell_else (.bool b) (r := ⟨w.heap.size + 2, 0, none⟩) (by dsimp only; omega) rfl rfl O3
  replace O4 := cell_else (.bool b) (r := ⟨w.heap.size + 2, 0, none⟩) (by dsimp only; omega) rfl rfl O4
  replace O5 := cell_else (.bool b) (r := ⟨w.heap.size + 2, 0, none⟩) (by dsimp only; omega) rfl rfl O5
  replace Rf0 : (w1.setCell ⟨w.heap.size + 2, 0, none⟩ (.bool b)).frozen? _ = false := (frozen_set _ _ _ _ _).trans Rf0
  replace Rf1 : (w1.setCell ⟨w.heap.size + 2, 0, none⟩ (.bool b)).frozen? _ = false := (frozen_set _ _ _ _ _).trans Rf1
  replace Rf2 : (w1.setCell ⟨w.heap.size + 2, 0, none⟩ (.bool b)).frozen? _ = false := (frozen_set _ _ _ _ _).trans Rf2
  replace Rf3 : (w1.setCell ⟨w.heap.size + 2, 0, none⟩ (.bool b)).frozen? _ = false := (frozen_set _ _ _ _ _).trans Rf3
  replace Rf4 : (w1.setCell ⟨w.heap.size + 2, 0, none⟩ (.bool b)).frozen? _ = false := (frozen_set _ _ _ _ _).trans Rf4
  replace Rf5 : (w1.setCell ⟨w.heap.size + 2, 0, none⟩ (.bool b)).frozen? _ = false := (frozen_set _ _ _ _ _).trans Rf5
  replace Of0 : (w1.setCell ⟨w.heap.size + 2, 0, none⟩ (.bool b)).frozen? _ = false := (frozen_set _ _ _ _ _).trans Of0
  replace Of1 : (w1.setCell ⟨w.heap.size + 2, 0, none⟩ (.bool b)).frozen? _ = false := (frozen_set _ _ _ _ _).trans Of1
  replace Of2 : (w1.setCell ⟨w.heap.size + 2, 0, none⟩ (.bool b)).frozen? _ = false := (frozen_set _ _ _ _ _).trans Of2
  replace Of3 : (w1.setCell ⟨w.heap.size + 2, 0, none⟩ (.bool b)).frozen? _ = false := (frozen_set _ _ _ _ _).trans Of3
  replace Of4 : (w1.setCell ⟨w.heap.size + 2, 0, none⟩ (.bool b)).frozen? _ = false := (frozen_set _ _ _ _ _).trans Of4
  replace Of5 : (w1.setCell ⟨w.heap.size + 2, 0, none⟩ (.bool b)).frozen? _ = false := (frozen_set _ _ _ _ _).trans Of5
  replace O0 : (w1.setCell ⟨w.heap.size + 2, 0, none⟩ (.bool b)).cell? ⟨w.heap.size + 2, 0, none⟩ = some (.bool b) := cell_on _ _ _ _ _ O0
  replace K := hide ((unhide K).setNew (p := ⟨w.heap.size + 2, 0, none⟩) (by dsimp only; omega) (.bool b))
  have zs3 : (w1.setCell ⟨w.heap.size + 2, 0, none⟩ (.bool b)).heap.size = w1.heap.size := by simp [World.setCell]
  clear sS0
  generalize w1.setCell ⟨w.heap.size + 2, 0, none⟩ (.bool b) = ws3 at *
  have sS0 := unhide S0
  replace r := r.set_other (p := ⟨w.heap.size + 2, 1, none⟩) (by dsimp only; omega) (.slice a6 zs.length c6)
  replace r' := r'.set_other (p := ⟨w.heap.size + 2, 1, none⟩) (by dsimp only; omega) (.slice a6 zs.length c6)
  replace r6 := r6.set_other (p := ⟨w.heap.size + 2, 1, none⟩) (by dsimp only; omega) (.slice a6 zs.length c6)
  replace A0 := cell_else (.slice a6 zs.length c6) (r := ⟨w.heap.size + 2, 1, none⟩) (by dsimp only; omega) rfl rfl A0
  replace A1 := cell_else (.slice a6 zs.length c6) (r := ⟨w.heap.size + 2, 1, none⟩) (by dsimp only; omega) rfl rfl A1
  replace A2 := cell_else (.slice a6 zs.length c6) (r := ⟨w.heap.size + 2, 1, none⟩) (by dsimp only; omega) rfl rfl A2
  replace A3 := cell_else (.slice a6 zs.length c6) (r := ⟨w.heap.size + 2, 1, none⟩) (by dsimp only; omega) rfl rfl A3
  replace A4 := cell_else (.slice a6 zs.length c6) (r := ⟨w.heap.size + 2, 1, none⟩) (by dsimp only; omega) rfl rfl A4
  replace A5 := cell_else (.slice a6 zs.length c6) (r := ⟨w.heap.size + 2, 1, none⟩) (by dsimp only; omega) rfl rfl A5
  replace R0 := cell_else (.slice a6 zs.length c6) (r := ⟨w.heap.size + 2, 1, none⟩) (by dsimp only; omega) rfl rfl R0
  replace R1 := cell_else (.slice a6 zs.length c6) (r := ⟨w.heap.size + 2, 1, none⟩) (by dsimp only; omega) rfl rfl R1
  replace R2 := cell_else (.slice a6 zs.length c6) (r := ⟨w.heap.size + 2, 1, none⟩) (by dsimp only; omega) rfl rfl R2
  replace R3 := cell_else (.slice a6 zs.length c6) (r := ⟨w.heap.size + 2, 1, none⟩) (by dsimp only; omega) rfl rfl R3
  replace R4 := cell_else (.slice a6 zs.length c6) (r := ⟨w.heap.size + 2, 1, none⟩) (by dsimp only; omega) rfl rfl R4
  replace R5 := cell_else (.slice a6 zs.length c6) (r := ⟨w.heap.size + 2, 1, none⟩) (by dsimp only; omega) rfl rfl R5
  replace O0 := cell_else (.slice a6 zs.length c6) (r := ⟨w.heap.size + 2, 1, none⟩) (by dsimp only; omega) rfl rfl O0
  replace O2 := cell_else (.slice a6 zs.length c6) (r := ⟨w.heap.size + 2, 1, none⟩) (by dsimp only; omega) rfl rfl O2
  replace O3 := cell_else (.slice a6 zs.length c6) (r := ⟨w.heap.size + 2, 1, none⟩) (by dsimp only; omega) rfl rfl O3
  replace O4 := cell_else (.slice a6 zs.length c6) (r := ⟨w.heap.size + 2, 1, none⟩) (by dsimp only; omega) rfl rfl O4
  replace O5 := cell_else (.slice a6 zs.length c6) (r := ⟨w.heap.size + 2, 1, none⟩) (by dsimp only; omega) rfl rfl O5
  replace Rf0 : (ws3.setCell ⟨w.heap.size + 2, 1, none⟩ (.slice a6 zs.length c6)).frozen? _ = false := (frozen_set _ _ _ _ _).trans Rf0
  replace Rf1 : (ws3.setCell ⟨w.heap.size + 2, 1, none⟩ (.slice a6 zs.length c6)).frozen? _ = false := (frozen_set _ _ _ _ _).trans Rf1
  replace Rf2 : (ws3.setCell ⟨w.heap.size + 2, 1, none⟩ (.slice a6 zs.length c6)).frozen? _ = false := (frozen_set _ _ _ _ _).trans Rf2
  replace Rf3 : (ws3.setCell ⟨w.heap.size + 2, 1, none⟩ (.slice a6 zs.length c6)).frozen? _ = false := (frozen_set _ _ _ _ _).trans Rf3
  replace Rf4 : (ws3.setCell ⟨w.heap.size + 2, 1, none⟩ (.slice a6 zs.length c6)).frozen? _ = false := (frozen_set _ _ _ _ _).trans Rf4
  replace Rf5 : (ws3.setCell ⟨w.heap.size + 2, 1, none⟩ (.slice a6 zs.length c6)).frozen? _ = false := (frozen_set _ _ _ _ _).trans Rf5
  replace Of0 : (ws3.setCell ⟨w.heap.size + 2, 1, none⟩ (.slice a6 zs.length c6)).frozen? _ = false := (frozen_set _ _ _ _ _).trans Of0
  replace Of1 : (ws3.setCell ⟨w.heap.size + 2, 1, none⟩ (.slice a6 zs.length c6)).frozen? _ = false := (frozen_set _ _ _ _ _).trans Of1
  replace Of2 : (ws3.setCell ⟨w.heap.size + 2, 1, none⟩ (.slice a6 zs.length c6)).frozen? _ = false := (frozen_set _ _ _ _ _).trans Of2
  replace Of3 : (ws3.setCell ⟨w.heap.size + 2, 1, none⟩ (.slice a6 zs.length c6)).frozen? _ = false := (frozen_set _ _ _ _ _).trans Of3
  replace Of4 : (ws3.setCell ⟨w.heap.size + 2, 1, none⟩ (.slice a6 zs.length c6)).frozen? _ = false := (frozen_set _ _ _ _ _).trans Of4
  replace Of5 : (ws3.setCell ⟨w.heap.size + 2, 1, none⟩ (.slice a6 zs.length c6)).frozen? _ = false := (frozen_set _ _ _ _ _).trans Of5
  replace O1 : (ws3.setCell ⟨w.heap.size + 2, 1, none⟩ (.slice a6 zs.length c6)).cell? ⟨w.heap.size + 2, 1, none⟩ = some (.slice a6 zs.length c6) := cell_on _ _ _ _ _ O1
  replace K := hide ((unhide K).setNew (p := ⟨w.heap.size + 2, 1, none⟩) (by dsimp only; omega) (.slice a6 zs.length c6))
  have zs4 : (ws3.setCell ⟨w.heap.size + 2, 1, none⟩ (.slice a6 zs.length c6)).heap.size = ws3.heap.size := by simp [World.setCell]
  clear sS0
  generalize ws3.setCell ⟨w.heap.size + 2, 1, none⟩ (.slice a6 zs.length c6) = ws4 at *
  have sS0 := unhide S0
  replace r := r.set_other (p := ⟨w.heap.size + 2, 2, none⟩) (by dsimp only; omega) (.int .i64 x)
  replace r' := r'.set_other (p := ⟨w.heap.size + 2, 2, none⟩) (by dsimp only; omega) (.int .i64 x)
  replace r6 := r6.set_other (p := ⟨w.heap.size + 2, 2, none⟩) (by dsimp only; omega) (.int .i64 x)
  replace A0 := cell_else (.int .i64 x) (r := ⟨w.heap.size + 2, 2, none⟩) (by dsimp only; omega) rfl rfl A0
  replace A1 := cell_else (.int .i64 x) (r := ⟨w.heap.size + 2, 2, none⟩) (by dsimp only; omega) rfl rfl A1
  replace A2 := cell_else (.int .i64 x) (r := ⟨w.heap.size + 2, 2, none⟩) (by dsimp only; omega) rfl rfl A2
  replace A3 := cell_else (.int .i64 x) (r := ⟨w.heap.size + 2, 2, none⟩) (by dsimp only; omega) rfl rfl A3
  replace A4 := cell_else (.int .i64 x) (r := ⟨w.heap.size + 2, 2, none⟩) (by dsimp only; omega) rfl rfl A4
  replace A5 := cell_else (.int .i64 x) (r := ⟨w.heap.size + 2, 2, none⟩) (by dsimp only; omega) rfl rfl A5
  replace R0 := cell_else (.int .i64 x) (r := ⟨w.heap.size + 2, 2, none⟩) (by dsimp only; omega) rfl rfl R0
  replace R1 := cell_else (.int .i64 x) (r := ⟨w.heap.size + 2, 2, none⟩) (by dsimp only; omega) rfl rfl R1
  replace R2 := cell_else (.int .i64 x) (r := ⟨w.heap.size + 2, 2, none⟩) (by dsimp only; omega) rfl rfl R2
  replace R3 := cell_else (.int .i64 x) (r := ⟨w.heap.size + 2, 2, none⟩) (by dsimp only; omega) rfl rfl R3
  replace R4 := cell_else (.int .i64 x) (r := ⟨w.heap.size + 2, 2, none⟩) (by dsimp only; omega) rfl rfl R4
  replace R5 := cell_else (.int .i64 x) (r := ⟨w.heap.size + 2, 2, none⟩) (by dsimp only; omega) rfl rfl R5
  replace O0 := cell_else (.int .i64 x) (r := ⟨w.heap.size + 2, 2, none⟩) (by dsimp only; omega) rfl rfl O0
  replace O1 := cell_else (.int .i64 x) (r := ⟨w.heap.size + 2, 2, none⟩) (by dsimp only; omega) rfl rfl O1
  replace O3 := cell_else (.int .i64 x) (r := ⟨w.heap.size + 2, 2, none⟩) (by dsimp only; omega) rfl rfl O3
  replace O4 := cell_else (.int .i64 x) (r := ⟨w.heap.size + 2, 2, none⟩) (by dsimp only; omega) rfl rfl O4
  replace O5 := cell_else (.int .i64 x) (r := ⟨w.heap.size + 2, 2, none⟩) (by dsimp only; omega) rfl rfl O5
  replace Rf0 : (ws4.setCell ⟨w.heap.size + 2, 2, none⟩ (.int .i64 x)).frozen? _ = false := (frozen_set _ _ _ _ _).trans Rf0
  replace Rf1 : (ws4.setCell ⟨w.heap.size + 2, 2, none⟩ (.int .i64 x)).frozen? _ = false := (frozen_set _ _ _ _ _).trans Rf1
  replace Rf2 : (ws4.setCell ⟨w.heap.size + 2, 2, none⟩ (.int .i64 x)).frozen? _ = false := (frozen_set _ _ _ _ _).trans Rf2
  replace Rf3 : (ws4.setCell ⟨w.heap.size + 2, 2, none⟩ (.int .i64 x)).frozen? _ = false := (frozen_set _ _ _ _ _).trans Rf3
  replace Rf4 : (ws4.setCell ⟨w.heap.size + 2, 2, none⟩ (.int .i64 x)).frozen? _ = false := (frozen_set _ _ _ _ _).trans Rf4
  replace Rf5 : (ws4.setCell ⟨w.heap.size + 2, 2, none⟩ (.int .i64 x)).frozen? _ = false := (frozen_set _ _ _ _ _).trans Rf5
  replace Of0 : (ws4.setCell ⟨w.heap.size + 2, 2, none⟩ (.int .i64 x)).frozen? _ = false := (frozen_set _ _ _ _ _).trans Of0
  replace Of1 : (ws4.setCell ⟨w.heap.size + 2, 2, none⟩ (.int .i64 x)).frozen? _ = false := (frozen_set _ _ _ _ _).trans Of1
  replace Of2 : (ws4.setCell ⟨w.heap.size + 2, 2, none⟩ (.int .i64 x)).frozen? _ = false := (frozen_set _ _ _ _ _).trans Of2
  replace Of3 : (ws4.setCell ⟨w.heap.size + 2, 2, none⟩ (.int .i64 x)).frozen? _ = false := (frozen_set _ _ _ _ _).trans Of3
  replace Of4 : (ws4.setCell ⟨w.heap.size + 2, 2, none⟩ (.int .i64 x)).frozen? _ = false := (frozen_set _ _ _ _ _).trans Of4
  replace Of5 : (ws4.setCell ⟨w.heap.size + 2, 2, none⟩ (.int .i64 x)).frozen? _ = false := (frozen_set _ _ _ _ _).trans Of5
  replace O2 : (ws4.setCell ⟨w.heap.size + 2, 2, none⟩ (.int .i64 x)).cell? ⟨w.heap.size + 2, 2, none⟩ = some (.int .i64 x) := cell_on _ _ _ _ _ O2
  replace K := hide ((unhide K).setNew (p := ⟨w.heap.size + 2, 2, none⟩) (by dsimp only; omega) (.int .i64 x))
  have zs5 : (ws4.setCell ⟨w.heap.size + 2, 2, none⟩ (.int .i64 x)).heap.size = ws4.heap.size := by simp [World.setCell]
  clear sS0
  generalize ws4.setCell ⟨w.heap.size + 2, 2, none⟩ (.int .i64 x) = ws5 at *
  refine (toDy_any _ _ _ hn' r').mono ?_
  rintro e w6 ⟨v7, rfl, r7, k6⟩
  replace r := r.kept k6 (.inr (.inr (Nat.le_refl 0)))
  replace r' := r'.kept k6 (.inr (.inr (Nat.le_refl 0)))
  replace r6 := r6.kept k6 (.inr (.inr (Nat.le_refl 0)))
  replace Rf0 := k6.loose0 (World.block_lt_of_cell? _ _ R0) Rf0
  replace Rf1 := k6.loose0 (World.block_lt_of_cell? _ _ R1) Rf1
  replace Rf2 := k6.loose0 (World.block_lt_of_cell? _ _ R2) Rf2
  replace Rf3 := k6.loose0 (World.block_lt_of_cell? _ _ R3) Rf3
  replace Rf4 := k6.loose0 (World.block_lt_of_cell? _ _ R4) Rf4
  replace Rf5 := k6.loose0 (World.block_lt_of_cell? _ _ R5) Rf5
  replace Of0 := k6.loose0 (World.block_lt_of_cell? _ _ O0) Of0
  replace Of1 := k6.loose0 (World.block_lt_of_cell? _ _ O1) Of1
  replace Of2 := k6.loose0 (World.block_lt_of_cell? _ _ O2) Of2
  replace Of3 := k6.loose0 (World.block_lt_of_cell? _ _ O3) Of3
  replace Of4 := k6.loose0 (World.block_lt_of_cell? _ _ O4) Of4
  replace Of5 := k6.loose0 (World.block_lt_of_cell? _ _ O5) Of5
  replace A0 := k6.cell0 A0
  replace A1 := k6.cell0 A1
  replace A2 := k6.cell0 A2
  replace A3 := k6.cell0 A3
  replace A4 := k6.cell0 A4
  replace A5 := k6.cell0 A5
  replace R0 := k6.cell0 R0
  replace R1 := k6.cell0 R1
  replace R2 := k6.cell0 R2
  replace R3 := k6.cell0 R3
  replace R4 := k6.cell0 R4
  replace R5 := k6.cell0 R5
  replace O0 := k6.cell0 O0
  replace O1 := k6.cell0 O1
  replace O2 := k6.cell0 O2
  replace O3 := k6.cell0 O3
  replace O4 := k6.cell0 O4
  replace O5 := k6.cell0 O5
  replace K := hide ((unhide K).trans k6)
  have z7 := k6.size
  clear k6
  obtain ⟨a7, c7, hv⟩ := Row.form' r7
  subst hv
  have bY : w.heap.size + 2 < w6.heap.size := World.block_lt_of_cell? _ _ O0
  have R := hide ((((((((((r6.set_other (p := ⟨w.heap.size + 2, 3, none⟩) (.inl (by have := unhide S0; dsimp only; omega)) (.bool c)).set_other (p := ⟨w.heap.size + 2, 4, none⟩) (.inl (by have := unhide S0; dsimp only; omega)) (.slice a7 ys.length c7)).set_other (p := ⟨w.heap.size + 2, 5, none⟩) (.inl (by have := unhide S0; dsimp only; omega)) (.int .i64 y)).set_other (p := ⟨w.heap.size + 1, 0, none⟩) (.inl (by have := unhide S0; dsimp only; omega)) (.bool b)).set_other (p := ⟨w.heap.size + 1, 1, none⟩) (.inl (by have := unhide S0; dsimp only; omega)) (.slice a6 zs.length c6)).set_other (p := ⟨w.heap.size + 1, 2, none⟩) (.inl (by have := unhide S0; dsimp only; omega)) (.int .i64 x)).set_other (p := ⟨w.heap.size + 1, 3, none⟩) (.inl (by have := unhide S0; dsimp only; omega)) (.bool c)).set_other (p := ⟨w.heap.size + 1, 4, none⟩) (.inl (by have := unhide S0; dsimp only; omega)) (.slice a7 ys.length c7)).set_other (p := ⟨w.heap.size + 1, 5, none⟩) (.inl (by have := unhide S0; dsimp only; omega)) (.int .i64 y)).wider (lo' := w.heap.size) (by have := unhide S0; omega) (Nat.le_refl _))
  have R' := hide ((((((((((r7.set_other (p := ⟨w.heap.size + 2, 3, none⟩) (.inl (by have := unhide S0; dsimp only; omega)) (.bool c)).set_other (p := ⟨w.heap.size + 2, 4, none⟩) (.inl (by have := unhide S0; dsimp only; omega)) (.slice a7 ys.length c7)).set_other (p := ⟨w.heap.size + 2, 5, none⟩) (.inl (by have := unhide S0; dsimp only; omega)) (.int .i64 y)).set_other (p := ⟨w.heap.size + 1, 0, none⟩) (.inl (by have := unhide S0; dsimp only; omega)) (.bool b)).set_other (p := ⟨w.heap.size + 1, 1, none⟩) (.inl (by have := unhide S0; dsimp only; omega)) (.slice a6 zs.length c6)).set_other (p := ⟨w.heap.size + 1, 2, none⟩) (.inl (by have := unhide S0; dsimp only; omega)) (.int .i64 x)).set_other (p := ⟨w.heap.size + 1, 3, none⟩) (.inl (by have := unhide S0; dsimp only; omega)) (.bool c)).set_other (p := ⟨w.heap.size + 1, 4, none⟩) (.inl (by have := unhide S0; dsimp only; omega)) (.slice a7 ys.length c7)).set_other (p := ⟨w.heap.size + 1, 5, none⟩) (.inl (by have := unhide S0; dsimp only; omega)) (.int .i64 y)).tight.wider (lo' := w1.heap.size) (by omega) (Nat.le_refl _))
  have K7 := hide ((((((((((unhide K).setNew (p := ⟨w.heap.size + 2, 3, none⟩) (by simp) (.bool c)).setNew (p := ⟨w.heap.size + 2, 4, none⟩) (by simp) (.slice a7 ys.length c7)).setNew (p := ⟨w.heap.size + 2, 5, none⟩) (by simp) (.int .i64 y)).setNew (p := ⟨w.heap.size + 1, 0, none⟩) (by simp) (.bool b)).setNew (p := ⟨w.heap.size + 1, 1, none⟩) (by simp) (.slice a6 zs.length c6)).setNew (p := ⟨w.heap.size + 1, 2, none⟩) (by simp) (.int .i64 x)).setNew (p := ⟨w.heap.size + 1, 3, none⟩) (by simp) (.bool c)).setNew (p := ⟨w.heap.size + 1, 4, none⟩) (by simp) (.slice a7 ys.length c7)).setNew (p := ⟨w.heap.size + 1, 5, none⟩) (by simp) (.int .i64 y))
  have hm1 : w.heap.size ≤ w1.heap.size := by have := unhide S0; omega
  clear r r' r6 r7 K
  go_wp2_with fail
  exact bodyPost_ret (v := .agg #[.bool b, .slice a6 zs.length c6, .int .i64 x, .bool c, .slice a7 ys.length c7, .int .i64 y]) (by simp [results, Tryz.results90, go_sem, R0, R1, R2, R3, R4, R5]) rfl ⟨_, _, _, rfl, unhide R, unhide R', by have := unhide S0; omega, by simp only [size_set]; omega, unhide K7⟩

theorem in_eqV : ∀ (w : World) (args : Array Value), (callFunc 93 args).run Tryz.prog w = .ok (.enter 93 args) w := enters Tryz.func93 (by decide) (fun h => by cases h)

end Go.Proofs.YthahoabkehcgbaaGreatDoor

namespace Go.Proofs.YthahoabkehcgbaaGreatDoor
open Go.RowKit
set_option linter.unusedVariables false
set_option maxRecDepth 8000

end Go.Proofs.YthahoabkehcgbaaGreatDoor

