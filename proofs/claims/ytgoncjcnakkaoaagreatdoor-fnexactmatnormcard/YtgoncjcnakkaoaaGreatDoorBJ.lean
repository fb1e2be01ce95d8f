/-
  Contracts that the proofs of this seat share: LawW, HelpD, LawD.
-/
import Derived.Test.YtgoncjcnakkaoaaGreatDoorBC
namespace Go.Proofs.YtgoncjcnakkaoaaGreatDoor
open Go.RowKit
set_option linter.unusedVariables false
set_option maxRecDepth 8000

theorem Kept.wide {lo hi : Nat} {a b c : World} (k : Kept 0 0 a b) (m : Kept lo hi b c) (h : a.heap.size ≤ lo) : Kept 0 0 a c :=
  ⟨m.os.trans k.os, m.tape.trans k.tape, m.output.trans k.output, Nat.le_trans k.size m.size, fun i hi' ho => (m.block i (Nat.lt_of_lt_of_le hi' k.size) (.inl (by omega))).trans (k.block i hi' ho)⟩
theorem law_setN {cur w9 : World} {X : Nat} {v z : Value} {zs : List Int} {b hi : Nat} (k : Kept 0 0 cur w9) (c : w9.cell? ⟨X, 0, none⟩ = some z) (r : Row .i64 true b hi w9 v zs) (hX : cur.heap.size ≤ X) (hb : X < b ∨ hi ≤ X) (hc : cur.heap.size ≤ b) :
    (w9.setCell ⟨X, 0, none⟩ v).cell? ⟨X, 0, none⟩ = some v ∧ Row .i64 true cur.heap.size (w9.setCell ⟨X, 0, none⟩ v).heap.size (w9.setCell ⟨X, 0, none⟩ v) v zs ∧ cur.heap.size ≤ X ∧ X < (w9.setCell ⟨X, 0, none⟩ v).heap.size ∧ Kept 0 0 cur (w9.setCell ⟨X, 0, none⟩ v) :=
  ⟨cell_on _ _ _ _ _ c, ((r.set_other (p := ⟨X, 0, none⟩) hb v).tight.wider hc (Nat.le_refl _)), hX, by have := World.block_lt_of_cell? _ _ c; simpa [World.setCell] using this, k.setNew (p := ⟨X, 0, none⟩) hX v⟩
theorem law_setW {cur w9 : World} {X : Nat} {v z z' : Value} {zs : List Int} {b hi : Nat} (s : Bool) (k : Kept 0 0 cur w9) (c : w9.cell? ⟨X, 0, none⟩ = some z) (c' : w9.cell? ⟨X, 1, none⟩ = some z') (r : Row .i64 true b hi w9 v zs) (hX : cur.heap.size ≤ X) (hb : X < b ∨ hi ≤ X) (hc : cur.heap.size ≤ b) :
    ((w9.setCell ⟨X, 0, none⟩ (.bool s)).setCell ⟨X, 1, none⟩ v).cell? ⟨X, 0, none⟩ = some (.bool s) ∧ ((w9.setCell ⟨X, 0, none⟩ (.bool s)).setCell ⟨X, 1, none⟩ v).cell? ⟨X, 1, none⟩ = some v ∧ Row .i64 true cur.heap.size ((w9.setCell ⟨X, 0, none⟩ (.bool s)).setCell ⟨X, 1, none⟩ v).heap.size ((w9.setCell ⟨X, 0, none⟩ (.bool s)).setCell ⟨X, 1, none⟩ v) v zs ∧ cur.heap.size ≤ X ∧ X < ((w9.setCell ⟨X, 0, none⟩ (.bool s)).setCell ⟨X, 1, none⟩ v).heap.size ∧ Kept 0 0 cur ((w9.setCell ⟨X, 0, none⟩ (.bool s)).setCell ⟨X, 1, none⟩ v) := by
  have e1 : (w9.setCell ⟨X, 0, none⟩ (.bool s)).cell? ⟨X, 0, none⟩ = some (.bool s) := cell_on _ _ _ _ _ c
  have e2 := cell_set w9 X 1 0 (.bool s) z' c'
  rw [if_neg (by decide)] at e2
  have e3 := cell_set _ X 0 1 v _ e1
  rw [if_neg (by decide)] at e3
  have e4 := cell_set _ X 1 1 v _ e2
  rw [if_pos rfl] at e4
  exact ⟨e3, e4, (((r.set_other (p := ⟨X, 0, none⟩) hb (.bool s)).set_other (p := ⟨X, 1, none⟩) hb v).tight.wider hc (Nat.le_refl _)), hX, by have := World.block_lt_of_cell? _ _ c; simpa [World.setCell] using this, (k.setNew (p := ⟨X, 0, none⟩) hX _).setNew (p := ⟨X, 1, none⟩) hX v⟩

theorem in_toN : ∀ (w : World) (args : Array Value), (callFunc 86 args).run Tryz.prog w = .ok (.enter 86 args) w := enters Tryz.func86 (by decide) (fun h => by cases h)

theorem in_eqN : ∀ (w : World) (args : Array Value), (callFunc 45 args).run Tryz.prog w = .ok (.enter 45 args) w := enters Tryz.func45 (by decide) (fun h => by cases h)

theorem in_toW : ∀ (w : World) (args : Array Value), (callFunc 57 args).run Tryz.prog w = .ok (.enter 57 args) w := enters Tryz.func57 (by decide) (fun h => by cases h)

theorem in_eqW : ∀ (w : World) (args : Array Value), (callFunc 22 args).run Tryz.prog w = .ok (.enter 22 args) w := enters Tryz.func22 (by decide) (fun h => by cases h)

end Go.Proofs.YtgoncjcnakkaoaaGreatDoor

namespace Go.Proofs.YtgoncjcnakkaoaaGreatDoor
open Go.RowKit
set_option linter.unusedVariables false
set_option maxRecDepth 8000

set_option maxHeartbeats 1000000 in
theorem szDy_any {bw : Bool} {lo hi : Nat} {v : Value} {zs : List Int} (b : Bool) (x : Int) (w : World) (s : Int) (hs0 : 0 ≤ s) (hs1 : s ≤ 1048576) (r : Row .i64 bw lo hi w v zs) :
    Calls Tryz.prog 27 #[.agg #[.bool b, v, .int .i64 x], .int .i64 s] w fun e w' => e = .returned (.int .i64 (if (zs.length : Int) ≤ s then s - zs.length else -1)) ∧ Kept 0 0 w w' := by
  have k0 := (Kept.refl 0 0 w).alloc (.cells #[.bool b, v, .int .i64 x] 65)
  have s1 := r.kept k0 (by omega)
  have hm := r.len
  unfold maxLen at hm
  obtain ⟨a1, c1, rfl, -⟩ := r
  go_enter Tryz.func27, Tryz.ntmps27
  go_wp2_with fail
  refine (szWhole_any _ _ s hs0 hs1 s1).mono ?_
  rintro e w6 ⟨rfl, k6⟩
  have K := hide (k0.trans k6)
  clear s1 k0 k6
  by_cases h : (zs.length : Int) ≤ s
  · rw [if_pos h]
    have h' : ¬ (s - (zs.length : Int)) < 0 := by omega
    go_wp2
    go_ret
    exact ⟨rfl, unhide K⟩
  · rw [if_neg h]
    go_wp2
    go_ret
    exact ⟨rfl, unhide K⟩

set_option maxHeartbeats 1000000 in
theorem eqDy_same {b1 b2 : Bool} {l1 h1 l2 h2 : Nat} {v1 v2 : Value} {zs : List Int} (b : Bool) (x : Int) (w : World) (r1 : Row .i64 b1 l1 h1 w v1 zs) (r2 : Row .i64 b2 l2 h2 w v2 zs) :
    Calls Tryz.prog 8 #[.agg #[.bool b, v1, .int .i64 x], .agg #[.bool b, v2, .int .i64 x]] w fun e w' => e = .returned (.bool true) ∧ Kept 0 0 w w' := by
  have kk := ((Kept.refl 0 0 w).alloc (.cells #[.bool b, v1, .int .i64 x] 32)).alloc (.cells #[.bool b, v2, .int .i64 x] 32)
  have c1 : ((w.alloc (.cells #[.bool b, v1, .int .i64 x] 32)).alloc (.cells #[.bool b, v2, .int .i64 x] 32)).cell? ⟨w.heap.size, 2, none⟩ = some (.int .i64 x) := old_cell _ (new_cell2 _ _ _ _ _ _ (by simp) rfl)
  have c2 : ((w.alloc (.cells #[.bool b, v1, .int .i64 x] 32)).alloc (.cells #[.bool b, v2, .int .i64 x] 32)).cell? ⟨w.heap.size + 1, 2, none⟩ = some (.int .i64 x) := new_cell2 _ _ _ _ _ _ (by simp) rfl
  have s1 := r1.kept kk (by omega)
  have s2 := r2.kept kk (by omega)
  have KK := hide kk
  obtain ⟨a1, d1, rfl, -⟩ := r1
  obtain ⟨a2, d2, rfl, -⟩ := r2
  have hbb : (x != x) = false := by simp
  clear kk
  go_enter Tryz.func8, Tryz.ntmps8
  go_wp2_with fail
  refine (eqWhole_same _ _ s1 s2).mono ?_
  rintro e w6 ⟨rfl, k6⟩
  replace c1 := k6.cell0 c1
  replace c2 := k6.cell0 c2
  have K := hide ((unhide KK).trans k6)
  clear s1 s2 k6 KK
  go_wp2
  go_ret
  exact ⟨rfl, unhide K⟩

set_option maxHeartbeats 1000000 in
theorem markDy_wide {lo hi : Nat} {v : Value} {zs : List Int} (b : Bool) (x : Int) (w : World) (s : Int) (hs0 : 0 ≤ s) (hs1 : s ≤ 1000000000) (hn : zs.length ≤ 1099511627776) (r : Row .i64 true lo hi w v zs) :
    Calls Tryz.prog 11 #[.agg #[.bool b, v, .int .i64 x], .int .i64 s] w fun e w' => e = .returned (.int .i64 (s + zs.length)) ∧ Row .i64 true lo hi w' v (marks .i64 s zs.length) ∧ Kept lo hi w w' := by
  have s1 := r.kept ((Kept.refl 0 0 w).alloc (.cells #[.bool b, v, .int .i64 x] 32)) (by omega)
  obtain ⟨a1, c1, rfl, -⟩ := r
  go_enter Tryz.func11, Tryz.ntmps11
  go_wp2_with fail
  refine (markWhole_wide _ _ s hs0 hs1 hn s1).mono ?_
  rintro e w6 ⟨rfl, r6, k6⟩
  have R6 := hide r6
  have K6 := hide (((Kept.refl lo hi w).alloc _).trans k6)
  clear s1 r6 k6
  go_wp2
  go_ret
  exact ⟨rfl, unhide R6, unhide K6⟩

set_option maxHeartbeats 1000000 in
theorem heldDy_any {bw : Bool} {lo hi : Nat} {v : Value} {n : Nat} (b : Bool) (x : Int) (w : World) (s : Int) (hs0 : 0 ≤ s) (hs1 : s ≤ 1000000) (hn : n ≤ 1099511627776) (r : Row .i64 bw lo hi w v (marks .i64 s n)) :
    Calls Tryz.prog 12 #[.agg #[.bool b, v, .int .i64 x], .int .i64 s] w fun e w' => e = .returned (.int .i64 (s + n)) ∧ Kept 0 0 w w' := by
  have k0 := (Kept.refl 0 0 w).alloc (.cells #[.bool b, v, .int .i64 x] 32)
  have s1 := r.kept k0 (by omega)
  obtain ⟨a1, c1, rfl, -⟩ := r
  have h0 : ¬ (s + (n : Int)) < 0 := by omega
  go_enter Tryz.func12, Tryz.ntmps12
  go_wp2_with fail
  refine (heldWhole_any _ _ s hs0 hs1 hn s1).mono ?_
  rintro e w6 ⟨rfl, k6⟩
  have K := hide (k0.trans k6)
  clear s1 k0 k6
  go_wp2
  go_ret
  exact ⟨rfl, unhide K⟩

set_option maxHeartbeats 1000000 in
theorem toDy_any {bw : Bool} {lo hi : Nat} {v : Value} {zs : List Int} (b : Bool) (x : Int) (w : World) (hn : zs.length ≤ 1099511627776) (r : Row .i64 bw lo hi w v zs) :
    Calls Tryz.prog 32 #[.agg #[.bool b, v, .int .i64 x]] w fun e w' => ∃ v', e = .returned (.agg #[.bool b, v', .int .i64 x]) ∧ Row .i64 true w.heap.size w'.heap.size w' v' zs ∧ Kept 0 0 w w' := by
  have k0 : Kept 0 0 w (((w.alloc (.cells #[.bool b, v, .int .i64 x] 65)).alloc (.cells #[.bool false, .slice none 0 0, .int .i64 0] 32)).alloc (.cells #[.bool false, .slice none 0 0, .int .i64 0] 32)) := ((((Kept.refl 0 0 w).alloc (.cells #[.bool b, v, .int .i64 x] 65)).alloc (.cells #[.bool false, .slice none 0 0, .int .i64 0] 32)).alloc (.cells #[.bool false, .slice none 0 0, .int .i64 0] 32))
  have A0 : (((w.alloc (.cells #[.bool b, v, .int .i64 x] 65)).alloc (.cells #[.bool false, .slice none 0 0, .int .i64 0] 32)).alloc (.cells #[.bool false, .slice none 0 0, .int .i64 0] 32)).cell? ⟨w.heap.size, 0, none⟩ = some (.bool b) := old_cell _ (old_cell _ (new_cell2 _ _ _ _ _ _ (by simp) rfl))
  have A1 : (((w.alloc (.cells #[.bool b, v, .int .i64 x] 65)).alloc (.cells #[.bool false, .slice none 0 0, .int .i64 0] 32)).alloc (.cells #[.bool false, .slice none 0 0, .int .i64 0] 32)).cell? ⟨w.heap.size, 1, none⟩ = some (v) := old_cell _ (old_cell _ (new_cell2 _ _ _ _ _ _ (by simp) rfl))
  have A2 : (((w.alloc (.cells #[.bool b, v, .int .i64 x] 65)).alloc (.cells #[.bool false, .slice none 0 0, .int .i64 0] 32)).alloc (.cells #[.bool false, .slice none 0 0, .int .i64 0] 32)).cell? ⟨w.heap.size, 2, none⟩ = some (.int .i64 x) := old_cell _ (old_cell _ (new_cell2 _ _ _ _ _ _ (by simp) rfl))
  have R0 : (((w.alloc (.cells #[.bool b, v, .int .i64 x] 65)).alloc (.cells #[.bool false, .slice none 0 0, .int .i64 0] 32)).alloc (.cells #[.bool false, .slice none 0 0, .int .i64 0] 32)).cell? ⟨w.heap.size + 1, 0, none⟩ = some (.bool false) := old_cell _ (new_cell2 _ _ _ _ _ _ (by simp) rfl)
  have Rf0 : (((w.alloc (.cells #[.bool b, v, .int .i64 x] 65)).alloc (.cells #[.bool false, .slice none 0 0, .int .i64 0] 32)).alloc (.cells #[.bool false, .slice none 0 0, .int .i64 0] 32)).frozen? ⟨w.heap.size + 1, 0, none⟩ = false := loose_old (by simp <;> omega) (new_loose2 _ _ _ _ _ (by simp))
  have R1 : (((w.alloc (.cells #[.bool b, v, .int .i64 x] 65)).alloc (.cells #[.bool false, .slice none 0 0, .int .i64 0] 32)).alloc (.cells #[.bool false, .slice none 0 0, .int .i64 0] 32)).cell? ⟨w.heap.size + 1, 1, none⟩ = some (.slice none 0 0) := old_cell _ (new_cell2 _ _ _ _ _ _ (by simp) rfl)
  have Rf1 : (((w.alloc (.cells #[.bool b, v, .int .i64 x] 65)).alloc (.cells #[.bool false, .slice none 0 0, .int .i64 0] 32)).alloc (.cells #[.bool false, .slice none 0 0, .int .i64 0] 32)).frozen? ⟨w.heap.size + 1, 1, none⟩ = false := loose_old (by simp <;> omega) (new_loose2 _ _ _ _ _ (by simp))
  have R2 : (((w.alloc (.cells #[.bool b, v, .int .i64 x] 65)).alloc (.cells #[.bool false, .slice none 0 0, .int .i64 0] 32)).alloc (.cells #[.bool false, .slice none 0 0, .int .i64 0] 32)).cell? ⟨w.heap.size + 1, 2, none⟩ = some (.int .i64 0) := old_cell _ (new_cell2 _ _ _ _ _ _ (by simp) rfl)
  have Rf2 : (((w.alloc (.cells #[.bool b, v, .int .i64 x] 65)).alloc (.cells #[.bool false, .slice none 0 0, .int .i64 0] 32)).alloc (.cells #[.bool false, .slice none 0 0, .int .i64 0] 32)).frozen? ⟨w.heap.size + 1, 2, none⟩ = false := loose_old (by simp <;> omega) (new_loose2 _ _ _ _ _ (by simp))
  have O0 : (((w.alloc (.cells #[.bool b, v, .int .i64 x] 65)).alloc (.cells #[.bool false, .slice none 0 0, .int .i64 0] 32)).alloc (.cells #[.bool false, .slice none 0 0, .int .i64 0] 32)).cell? ⟨w.heap.size + 2, 0, none⟩ = some (.bool false) := new_cell2 _ _ _ _ _ _ (by simp) rfl
  have Of0 : (((w.alloc (.cells #[.bool b, v, .int .i64 x] 65)).alloc (.cells #[.bool false, .slice none 0 0, .int .i64 0] 32)).alloc (.cells #[.bool false, .slice none 0 0, .int .i64 0] 32)).frozen? ⟨w.heap.size + 2, 0, none⟩ = false := new_loose2 _ _ _ _ _ (by simp)
  have O1 : (((w.alloc (.cells #[.bool b, v, .int .i64 x] 65)).alloc (.cells #[.bool false, .slice none 0 0, .int .i64 0] 32)).alloc (.cells #[.bool false, .slice none 0 0, .int .i64 0] 32)).cell? ⟨w.heap.size + 2, 1, none⟩ = some (.slice none 0 0) := new_cell2 _ _ _ _ _ _ (by simp) rfl
  have Of1 : (((w.alloc (.cells #[.bool b, v, .int .i64 x] 65)).alloc (.cells #[.bool false, .slice none 0 0, .int .i64 0] 32)).alloc (.cells #[.bool false, .slice none 0 0, .int .i64 0] 32)).frozen? ⟨w.heap.size + 2, 1, none⟩ = false := new_loose2 _ _ _ _ _ (by simp)
  have O2 : (((w.alloc (.cells #[.bool b, v, .int .i64 x] 65)).alloc (.cells #[.bool false, .slice none 0 0, .int .i64 0] 32)).alloc (.cells #[.bool false, .slice none 0 0, .int .i64 0] 32)).cell? ⟨w.heap.size + 2, 2, none⟩ = some (.int .i64 0) := new_cell2 _ _ _ _ _ _ (by simp) rfl
  have Of2 : (((w.alloc (.cells #[.bool b, v, .int .i64 x] 65)).alloc (.cells #[.bool false, .slice none 0 0, .int .i64 0] 32)).alloc (.cells #[.bool false, .slice none 0 0, .int .i64 0] 32)).frozen? ⟨w.heap.size + 2, 2, none⟩ = false := new_loose2 _ _ _ _ _ (by simp)
  replace r := r.kept k0 (by omega)
  have s0 : (((w.alloc (.cells #[.bool b, v, .int .i64 x] 65)).alloc (.cells #[.bool false, .slice none 0 0, .int .i64 0] 32)).alloc (.cells #[.bool false, .slice none 0 0, .int .i64 0] 32)).heap.size = w.heap.size + 3 := by simp
  obtain ⟨a1, c1, hv⟩ := Row.form' r
  subst hv
  have K := hide (k0)
  clear k0
  have S0 := hide s0
  clear s0
  go_enter Tryz.func32, Tryz.ntmps32
  go_wp2_with fail
  generalize (((w.alloc (.cells #[.bool b, .slice a1 zs.length c1, .int .i64 x] 65)).alloc (.cells #[.bool false, .slice none 0 0, .int .i64 0] 32)).alloc (.cells #[.bool false, .slice none 0 0, .int .i64 0] 32)) = W at *
  refine (toWhole_any _ _ hn r).mono ?_
  rintro e w1 ⟨v6, rfl, r6, k1⟩
  replace r := r.kept k1 (by omega)
  replace Rf0 := k1.loose0 (World.block_lt_of_cell? _ _ R0) Rf0
  replace Rf1 := k1.loose0 (World.block_lt_of_cell? _ _ R1) Rf1
  replace Rf2 := k1.loose0 (World.block_lt_of_cell? _ _ R2) Rf2
  replace Of0 := k1.loose0 (World.block_lt_of_cell? _ _ O0) Of0
  replace Of1 := k1.loose0 (World.block_lt_of_cell? _ _ O1) Of1
  replace Of2 := k1.loose0 (World.block_lt_of_cell? _ _ O2) Of2
  replace A0 := k1.cell0 A0
  replace A1 := k1.cell0 A1
  replace A2 := k1.cell0 A2
  replace R0 := k1.cell0 R0
  replace R1 := k1.cell0 R1
  replace R2 := k1.cell0 R2
  replace O0 := k1.cell0 O0
  replace O1 := k1.cell0 O1
  replace O2 := k1.cell0 O2
  replace K := hide ((unhide K).trans k1)
  have z2 := k1.size
  clear k1
  obtain ⟨a6, c6, hv⟩ := Row.form' r6
  subst hv
  have bX : w.heap.size + 2 < w1.heap.size := World.block_lt_of_cell? _ _ O0
  have R := hide (((((((r6.set_other (p := ⟨w.heap.size + 2, 0, none⟩) (.inl (by have := unhide S0; dsimp only; omega)) (.bool b)).set_other (p := ⟨w.heap.size + 2, 1, none⟩) (.inl (by have := unhide S0; dsimp only; omega)) (.slice a6 zs.length c6)).set_other (p := ⟨w.heap.size + 2, 2, none⟩) (.inl (by have := unhide S0; dsimp only; omega)) (.int .i64 x)).set_other (p := ⟨w.heap.size + 1, 0, none⟩) (.inl (by have := unhide S0; dsimp only; omega)) (.bool b)).set_other (p := ⟨w.heap.size + 1, 1, none⟩) (.inl (by have := unhide S0; dsimp only; omega)) (.slice a6 zs.length c6)).set_other (p := ⟨w.heap.size + 1, 2, none⟩) (.inl (by have := unhide S0; dsimp only; omega)) (.int .i64 x)).tight.wider (lo' := w.heap.size) (by have := unhide S0; omega) (Nat.le_refl _))
  have K7 := hide (((((((unhide K).setNew (p := ⟨w.heap.size + 2, 0, none⟩) (by simp) (.bool b)).setNew (p := ⟨w.heap.size + 2, 1, none⟩) (by simp) (.slice a6 zs.length c6)).setNew (p := ⟨w.heap.size + 2, 2, none⟩) (by simp) (.int .i64 x)).setNew (p := ⟨w.heap.size + 1, 0, none⟩) (by simp) (.bool b)).setNew (p := ⟨w.heap.size + 1, 1, none⟩) (by simp) (.slice a6 zs.length c6)).setNew (p := ⟨w.heap.size + 1, 2, none⟩) (by simp) (.int .i64 x))
  clear r r6 K
  go_wp2
  exact bodyPost_ret (v := .agg #[.bool b, .slice a6 zs.length c6, .int .i64 x]) (by simp [results, Tryz.results32, go_sem, R0, R1, R2]) rfl ⟨_, rfl, unhide R, unhide K7⟩

end Go.Proofs.YtgoncjcnakkaoaaGreatDoor

namespace Go.Proofs.YtgoncjcnakkaoaaGreatDoor
open Go.RowKit
set_option linter.unusedVariables false
set_option maxRecDepth 8000

theorem law_setD {cur w9 : World} {X : Nat} {v z z' z2 : Value} {zs : List Int} {b hi : Nat} (s : Bool) (x : Int) (k : Kept 0 0 cur w9) (c : w9.cell? ⟨X, 0, none⟩ = some z) (c' : w9.cell? ⟨X, 1, none⟩ = some z') (c2 : w9.cell? ⟨X, 2, none⟩ = some z2) (r : Row .i64 true b hi w9 v zs) (hX : cur.heap.size ≤ X) (hb : X < b ∨ hi ≤ X) (hc : cur.heap.size ≤ b) :
    (((w9.setCell ⟨X, 0, none⟩ (.bool s)).setCell ⟨X, 1, none⟩ v).setCell ⟨X, 2, none⟩ (.int .i64 x)).cell? ⟨X, 0, none⟩ = some (.bool s) ∧ (((w9.setCell ⟨X, 0, none⟩ (.bool s)).setCell ⟨X, 1, none⟩ v).setCell ⟨X, 2, none⟩ (.int .i64 x)).cell? ⟨X, 1, none⟩ = some v ∧ (((w9.setCell ⟨X, 0, none⟩ (.bool s)).setCell ⟨X, 1, none⟩ v).setCell ⟨X, 2, none⟩ (.int .i64 x)).cell? ⟨X, 2, none⟩ = some (.int .i64 x) ∧ Row .i64 true cur.heap.size (((w9.setCell ⟨X, 0, none⟩ (.bool s)).setCell ⟨X, 1, none⟩ v).setCell ⟨X, 2, none⟩ (.int .i64 x)).heap.size (((w9.setCell ⟨X, 0, none⟩ (.bool s)).setCell ⟨X, 1, none⟩ v).setCell ⟨X, 2, none⟩ (.int .i64 x)) v zs ∧ cur.heap.size ≤ X ∧ X < (((w9.setCell ⟨X, 0, none⟩ (.bool s)).setCell ⟨X, 1, none⟩ v).setCell ⟨X, 2, none⟩ (.int .i64 x)).heap.size ∧ Kept 0 0 cur (((w9.setCell ⟨X, 0, none⟩ (.bool s)).setCell ⟨X, 1, none⟩ v).setCell ⟨X, 2, none⟩ (.int .i64 x)) := by
  obtain ⟨e3, e4, r', hX', hl, k'⟩ := law_setW s k c c' r hX hb hc
  have e2 := cell_set w9 X 2 0 (.bool s) z2 c2
  rw [if_neg (by decide)] at e2
  have e5 := cell_set _ X 2 1 v _ e2
  rw [if_neg (by decide)] at e5
  have f3 := cell_set _ X 0 2 (.int .i64 x) _ e3
  rw [if_neg (by decide)] at f3
  have f4 := cell_set _ X 1 2 (.int .i64 x) _ e4
  rw [if_neg (by decide)] at f4
  have f5 := cell_set _ X 2 2 (.int .i64 x) _ e5
  rw [if_pos rfl] at f5
  exact ⟨f3, f4, f5, ((((r.set_other (p := ⟨X, 0, none⟩) hb (.bool s)).set_other (p := ⟨X, 1, none⟩) hb v).set_other (p := ⟨X, 2, none⟩) hb (.int .i64 x)).tight.wider hc (Nat.le_refl _)), hX, by simpa [World.setCell] using hl, k'.setNew (p := ⟨X, 2, none⟩) hX _⟩

theorem in_toD : ∀ (w : World) (args : Array Value), (callFunc 32 args).run Tryz.prog w = .ok (.enter 32 args) w := enters Tryz.func32 (by decide) (fun h => by cases h)

theorem in_eqD : ∀ (w : World) (args : Array Value), (callFunc 8 args).run Tryz.prog w = .ok (.enter 8 args) w := enters Tryz.func8 (by decide) (fun h => by cases h)

theorem in_spec_DyOk : ∀ (w : World) (args : Array Value), (callFunc 28 args).run Tryz.prog w = .ok (.enter 28 args) w := enters Tryz.func28 (by decide) (fun h => by cases h)

theorem in_impl_DyOk : ∀ (w : World) (args : Array Value), (callFunc 60 args).run Tryz.prog w = .ok (.enter 60 args) w := enters Tryz.func60 (by decide) (fun h => by cases h)

end Go.Proofs.YtgoncjcnakkaoaaGreatDoor
