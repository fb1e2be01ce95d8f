/-
  Contracts that the proofs of this seat share: LawW, HelpD, HelpI, LawD.
-/
import Derived.Test.YthahoabkehcgbaaDoorBC
namespace Go.Proofs.YthahoabkehcgbaaDoor
open Go.RowKit
set_option linter.unusedVariables false
set_option maxRecDepth 8000

theorem Kept.wide {lo hi : Nat} {a b c : World} (k : Kept 0 0 a b) (m : Kept lo hi b c) (h : a.heap.size ≤ lo) : Kept 0 0 a c :=
  ⟨m.os.trans k.os, m.tape.trans k.tape, m.output.trans k.output, Nat.le_trans k.size m.size, fun i hi' ho => (m.block i (Nat.lt_of_lt_of_le hi' k.size) (.inl (by omega))).trans (k.block i hi' ho)⟩
theorem law_setN {cur w9 : World} {X : Nat} {v z : Value} {zs : List Int} {b hi : Nat} (k : Kept 0 0 cur w9) (c : w9.cell? ⟨X, 0, none⟩ = some z) (r : Row .i64 true b hi w9 v zs) (hX : cur.heap.size ≤ X) (hb : X < b ∨ hi ≤ X) (hc : cur.heap.size ≤ b) :
    (w9.setCell ⟨X, 0, none⟩ v).cell? ⟨X, 0, none⟩ = some v ∧ Row .i64 true cur.heap.size (w9.setCell ⟨X, 0, none⟩ v).heap.size (w9.setCell ⟨X, 0, none⟩ v) v zs ∧ cur.heap.size ≤ X ∧ X < (w9.setCell ⟨X, 0, none⟩ v).heap.size ∧ Kept 0 0 cur (w9.setCell ⟨X, 0, none⟩ v) :=
  ⟨cell_on _ _ _ _ _ c, ((r.set_other (p := ⟨X, 0, none⟩) hb v).tight.wider hc (Nat.le_refl _)), hX, by have := World.block_lt_of_cell? _ _ c; simpa [World.setCell] using this, k.setNew (p := ⟨X, 0, none⟩) hX v⟩
theorem law_setW {cur w9 : World} {X : Nat} {v z z' : Value} {zs : List Int} {b hi : Nat} (s : Bool) (k : Kept 0 0 cur w9) (c : w9.cell? ⟨X, 0, none⟩ = some z) (c' : w9.cell? ⟨X, 1, none⟩ = some z') (r : Row .i64 true b hi w9 v zs) (hX : cur.heap.size ≤ X) (hb : X < b ∨ hi ≤ X) (hc : cur.heap.size ≤ b) :
    ((w9.setCell ⟨X, 0, none⟩ (.bool s)).setCell ⟨X, 1, none⟩ v).cell? ⟨X, 0, none⟩ = some (.bool s) ∧ ((w9.setCell ⟨X, 0, none⟩ (.bool s)).setCell ⟨X, 1, none⟩ v).cell? ⟨X, 1, none⟩ = some v ∧ Row .i64 true cur.heap.size ((w9.setCell ⟨X, 0, none⟩ (.bool s)).setCell ⟨X, 1, none⟩ v).heap.size ((w9.setCell ⟨X, 0, none⟩ (.bool s)).setCell ⟨X, 1, none⟩ v) v zs ∧ cur.heap.size ≤ X ∧ X < ((w9.setCell ⟨X, 0, none⟩ (.bool s)).setCell ⟨X, 1, none⟩ v).heap.size ∧ Kept 0 0 cur ((w9.setCell ⟨X, 0, none⟩ (.bool s)).setCell ⟨X, 1, none⟩ v) := by
  have e1 : (w9.setCell ⟨X, 0, none⟩ (.bool s)).cell? ⟨X, 0, none⟩ = some (.bool s) := cell_on _ _ _ _ _ c
  have e2 := cell_set w9 X 1 0 (.bool s) z' c'
  rw [if_neg (by decide)] at e2
  have e3 := cell_set _ X 0 1 v _ e1
  rw [if_neg (by decide)] at e3
  have e4 := cell_set _ X 1 1 v _ e2
  rw [if_pos rfl] at e4
  exact ⟨e3, e4, (((r.set_other (p := ⟨X, 0, none⟩) hb (.bool s)).set_other (p := ⟨X, 1, none⟩) hb v).tight.wider hc (Nat.le_refl _)), hX, by have := World.block_lt_of_cell? _ _ c; simpa [World.setCell] using this, (k.setNew (p := ⟨X, 0, none⟩) hX _).setNew (p := ⟨X, 1, none⟩) hX v⟩

theorem in_toN : ∀ (w : World) (args : Array Value), (callFunc 63 args).run Tryd.prog w = .ok (.enter 63 args) w := enters Tryd.func63 (by decide) (fun h => by cases h)

theorem in_eqN : ∀ (w : World) (args : Array Value), (callFunc 73 args).run Tryd.prog w = .ok (.enter 73 args) w := enters Tryd.func73 (by decide) (fun h => by cases h)

theorem in_toW : ∀ (w : World) (args : Array Value), (callFunc 50 args).run Tryd.prog w = .ok (.enter 50 args) w := enters Tryd.func50 (by decide) (fun h => by cases h)

theorem in_eqW : ∀ (w : World) (args : Array Value), (callFunc 58 args).run Tryd.prog w = .ok (.enter 58 args) w := enters Tryd.func58 (by decide) (fun h => by cases h)

end Go.Proofs.YthahoabkehcgbaaDoor

namespace Go.Proofs.YthahoabkehcgbaaDoor
open Go.RowKit
set_option linter.unusedVariables false
set_option maxRecDepth 8000

set_option maxHeartbeats 1000000 in
theorem szDy_any {bw : Bool} {lo hi : Nat} {v : Value} {zs : List Int} (b : Bool) (x : Int) (w : World) (s : Int) (hs0 : 0 ≤ s) (hs1 : s ≤ 1048576) (r : Row .i64 bw lo hi w v zs) :
    Calls Tryd.prog 27 #[.agg #[.bool b, v, .int .i64 x], .int .i64 s] w fun e w' => e = .returned (.int .i64 (if (zs.length : Int) ≤ s then s - zs.length else -1)) ∧ Kept 0 0 w w' := by
  have k0 := (Kept.refl 0 0 w).alloc (.cells #[.bool b, v, .int .i64 x] 67)
  have s1 := r.kept k0 (by omega)
  have hm := r.len
  unfold maxLen at hm
  obtain ⟨a1, c1, rfl, -⟩ := r
  go_enter Tryd.func27, Tryd.ntmps27
  go_wp2_with fail
  refine (szWhole_any _ _ s hs0 hs1 s1).mono ?_
  rintro e w6 ⟨rfl, k6⟩
  have K := hide (k0.trans k6)
  clear s1 k0 k6
  by_cases h : (zs.length : Int) ≤ s
  · rw [if_pos h]
    have h' : ¬ (s - (zs.length : Int)) < 0 := by omega
    go_wp2
    go_ret
    exact ⟨rfl, unhide K⟩
  · rw [if_neg h]
    go_wp2
    go_ret
    exact ⟨rfl, unhide K⟩

set_option maxHeartbeats 1000000 in
theorem eqDy_same {b1 b2 : Bool} {l1 h1 l2 h2 : Nat} {v1 v2 : Value} {zs : List Int} (b : Bool) (x : Int) (w : World) (r1 : Row .i64 b1 l1 h1 w v1 zs) (r2 : Row .i64 b2 l2 h2 w v2 zs) :
    Calls Tryd.prog 42 #[.agg #[.bool b, v1, .int .i64 x], .agg #[.bool b, v2, .int .i64 x]] w fun e w' => e = .returned (.bool true) ∧ Kept 0 0 w w' := by
  have kk := ((Kept.refl 0 0 w).alloc (.cells #[.bool b, v1, .int .i64 x] 52)).alloc (.cells #[.bool b, v2, .int .i64 x] 52)
  have c1 : ((w.alloc (.cells #[.bool b, v1, .int .i64 x] 52)).alloc (.cells #[.bool b, v2, .int .i64 x] 52)).cell? ⟨w.heap.size, 2, none⟩ = some (.int .i64 x) := old_cell _ (new_cell2 _ _ _ _ _ _ (by simp) rfl)
  have c2 : ((w.alloc (.cells #[.bool b, v1, .int .i64 x] 52)).alloc (.cells #[.bool b, v2, .int .i64 x] 52)).cell? ⟨w.heap.size + 1, 2, none⟩ = some (.int .i64 x) := new_cell2 _ _ _ _ _ _ (by simp) rfl
  have s1 := r1.kept kk (by omega)
  have s2 := r2.kept kk (by omega)
  have KK := hide kk
  obtain ⟨a1, d1, rfl, -⟩ := r1
  obtain ⟨a2, d2, rfl, -⟩ := r2
  have hbb : (x != x) = false := by simp
  clear kk
  go_enter Tryd.func42, Tryd.ntmps42
  go_wp2_with fail
  refine (eqWhole_same _ _ s1 s2).mono ?_
  rintro e w6 ⟨rfl, k6⟩
  replace c1 := k6.cell0 c1
  replace c2 := k6.cell0 c2
  have K := hide ((unhide KK).trans k6)
  clear s1 s2 k6 KK
  go_wp2
  go_ret
  exact ⟨rfl, unhide K⟩

set_option maxHeartbeats 1000000 in
theorem toDy_any {bw : Bool} {lo hi : Nat} {v : Value} {zs : List Int} (b : Bool) (x : Int) (w : World) (hn : zs.length ≤ 1099511627776) (r : Row .i64 bw lo hi w v zs) :
    Calls Tryd.prog 32 #[.agg #[.bool b, v, .int .i64 x]] w fun e w' => ∃ v', e = .returned (.agg #[.bool b, v', .int .i64 x]) ∧ Row .i64 true w.heap.size w'.heap.size w' v' zs ∧ Kept 0 0 w w' := by
  have k0 : Kept 0 0 w (((w.alloc (.cells #[.bool b, v, .int .i64 x] 67)).alloc (.cells #[.bool false, .slice none 0 0, .int .i64 0] 52)).alloc (.cells #[.bool false, .slice none 0 0, .int .i64 0] 52)) := ((((Kept.refl 0 0 w).alloc (.cells #[.bool b, v, .int .i64 x] 67)).alloc (.cells #[.bool false, .slice none 0 0, .int .i64 0] 52)).alloc (.cells #[.bool false, .slice none 0 0, .int .i64 0] 52))
  have A0 : (((w.alloc (.cells #[.bool b, v, .int .i64 x] 67)).alloc (.cells #[.bool false, .slice none 0 0, .int .i64 0] 52)).alloc (.cells #[.bool false, .slice none 0 0, .int .i64 0] 52)).cell? ⟨w.heap.size, 0, none⟩ = some (.bool b) := old_cell _ (old_cell _ (new_cell2 _ _ _ _ _ _ (by simp) rfl))
  have A1 : (((w.alloc (.cells #[.bool b, v, .int .i64 x] 67)).alloc (.cells #[.bool false, .slice none 0 0, .int .i64 0] 52)).alloc (.cells #[.bool false, .slice none 0 0, .int .i64 0] 52)).cell? ⟨w.heap.size, 1, none⟩ = some (v) := old_cell _ (old_cell _ (new_cell2 _ _ _ _ _ _ (by simp) rfl))
  have A2 : (((w.alloc (.cells #[.bool b, v, .int .i64 x] 67)).alloc (.cells #[.bool false, .slice none 0 0, .int .i64 0] 52)).alloc (.cells #[.bool false, .slice none 0 0, .int .i64 0] 52)).cell? ⟨w.heap.size, 2, none⟩ = some (.int .i64 x) := old_cell _ (old_cell _ (new_cell2 _ _ _ _ _ _ (by simp) rfl))
  have R0 : (((w.alloc (.cells #[.bool b, v, .int .i64 x] 67)).alloc (.cells #[.bool false, .slice none 0 0, .int .i64 0] 52)).alloc (.cells #[.bool false, .slice none 0 0, .int .i64 0] 52)).cell? ⟨w.heap.size + 1, 0, none⟩ = some (.bool false) := old_cell _ (new_cell2 _ _ _ _ _ _ (by simp) rfl)
  have Rf0 : (((w.alloc (.cells #[.bool b, v, .int .i64 x] 67)).alloc (.cells #[.bool false, .slice none 0 0, .int .i64 0] 52)).alloc (.cells #[.bool false, .slice none 0 0, .int .i64 0] 52)).frozen? ⟨w.heap.size + 1, 0, none⟩ = false := loose_old (by simp <;> omega) (new_loose2 _ _ _ _ _ (by simp))
  have R1 : (((w.alloc (.cells #[.bool b, v, .int .i64 x] 67)).alloc (.cells #[.bool false, .slice none 0 0, .int .i64 0] 52)).alloc (.cells #[.bool false, .slice none 0 0, .int .i64 0] 52)).cell? ⟨w.heap.size + 1, 1, none⟩ = some (.slice none 0 0) := old_cell _ (new_cell2 _ _ _ _ _ _ (by simp) rfl)
  have Rf1 : (((w.alloc (.cells #[.bool b, v, .int .i64 x] 67)).alloc (.cells #[.bool false, .slice none 0 0, .int .i64 0] 52)).alloc (.cells #[.bool false, .slice none 0 0, .int .i64 0] 52)).frozen? ⟨w.heap.size + 1, 1, none⟩ = false := loose_old (by simp <;> omega) (new_loose2 _ _ _ _ _ (by simp))
  have R2 : (((w.alloc (.cells #[.bool b, v, .int .i64 x] 67)).alloc (.cells #[.bool false, .slice none 0 0, .int .i64 0] 52)).alloc (.cells #[.bool false, .slice none 0 0, .int .i64 0] 52)).cell? ⟨w.heap.size + 1, 2, none⟩ = some (.int .i64 0) := old_cell _ (new_cell2 _ _ _ _ _ _ (by simp) rfl)
  have Rf2 : (((w.alloc (.cells #[.bool b, v, .int .i64 x] 67)).alloc (.cells #[.bool false, .slice none 0 0, .int .i64 0] 52)).alloc (.cells #[.bool false, .slice none 0 0, .int .i64 0] 52)).frozen? ⟨w.heap.size + 1, 2, none⟩ = false := loose_old (by simp <;> omega) (new_loose2 _ _ _ _ _ (by simp))
  have O0 : (((w.alloc (.cells #[.bool b, v, .int .i64 x] 67)).alloc (.cells #[.bool false, .slice none 0 0, .int .i64 0] 52)).alloc (.cells #[.bool false, .slice none 0 0, .int .i64 0] 52)).cell? ⟨w.heap.size + 2, 0, none⟩ = some (.bool false) := new_cell2 _ _ _ _ _ _ (by simp) rfl
  have Of0 : (((w.alloc (.cells #[.bool b, v, .int .i64 x] 67)).alloc (.cells #[.bool false, .slice none 0 0, .int .i64 0] 52)).alloc (.cells #[.bool false, .slice none 0 0, .int .i64 0] 52)).frozen? ⟨w.heap.size + 2, 0, none⟩ = false := new_loose2 _ _ _ _ _ (by simp)
  have O1 : (((w.alloc (.cells #[.bool b, v, .int .i64 x] 67)).alloc (.cells #[.bool false, .slice none 0 0, .int .i64 0] 52)).alloc (.cells #[.bool false, .slice none 0 0, .int .i64 0] 52)).cell? ⟨w.heap.size + 2, 1, none⟩ = some (.slice none 0 0) := new_cell2 _ _ _ _ _ _ (by simp) rfl
  have Of1 : (((w.alloc (.cells #[.bool b, v, .int .i64 x] 67)).alloc (.cells #[.bool false, .slice none 0 0, .int .i64 0] 52)).alloc (.cells #[.bool false, .slice none 0 0, .int .i64 0] 52)).frozen? ⟨w.heap.size + 2, 1, none⟩ = false := new_loose2 _ _ _ _ _ (by simp)
  have O2 : (((w.alloc (.cells #[.bool b, v, .int .i64 x] 67)).alloc (.cells #[.bool false, .slice none 0 0, .int .i64 0] 52)).alloc (.cells #[.bool false, .slice none 0 0, .int .i64 0] 52)).cell? ⟨w.heap.size + 2, 2, none⟩ = some (.int .i64 0) := new_cell2 _ _ _ _ _ _ (by simp) rfl
  have Of2 : (((w.alloc (.cells #[.bool b, v, .int .i64 x] 67)).alloc (.cells #[.bool false, .slice none 0 0, .int .i64 0] 52)).alloc (.cells #[.bool false, .slice none 0 0, .int .i64 0] 52)).frozen? ⟨w.heap.size + 2, 2, none⟩ = false := new_loose2 _ _ _ _ _ (by simp)
  replace r := r.kept k0 (by omega)
  have s0 : (((w.alloc (.cells #[.bool b, v, .int .i64 x] 67)).alloc (.cells #[.bool false, .slice none 0 0, .int .i64 0] 52)).alloc (.cells #[.bool false, .slice none 0 0, .int .i64 0] 52)).heap.size = w.heap.size + 3 := by simp
  obtain ⟨a1, c1, hv⟩ := Row.form' r
  subst hv
  have K := hide (k0)
  clear k0
  have S0 := hide s0
  clear s0
  go_enter Tryd.func32, Tryd.ntmps32
  go_wp2_with fail
  generalize (((w.alloc (.cells #[.bool b, .slice a1 zs.length c1, .int .i64 x] 67)).alloc (.cells #[.bool false, .slice none 0 0, .int .i64 0] 52)).alloc (.cells #[.bool false, .slice none 0 0, .int .i64 0] 52)) = W at *
  refine (toWhole_any _ _ hn r).mono ?_
  rintro e w1 ⟨v6, rfl, r6, k1⟩
  replace r := r.kept k1 (by omega)
  replace Rf0 := k1.loose0 (World.block_lt_of_cell? _ _ R0) Rf0
  replace Rf1 := k1.loose0 (World.block_lt_of_cell? _ _ R1) Rf1
  replace Rf2 := k1.loose0 (World.block_lt_of_cell? _ _ R2) Rf2
  replace Of0 := k1.loose0 (World.block_lt_of_cell? _ _ O0) Of0
  replace Of1 := k1.loose0 (World.block_lt_of_cell? _ _ O1) Of1
  replace Of2 := k1.loose0 (World.block_lt_of_cell? _ _ O2) Of2
  replace A0 := k1.cell0 A0
  replace A1 := k1.cell0 A1
  replace A2 := k1.cell0 A2
  replace R0 := k1.cell0 R0
  replace R1 := k1.cell0 R1
  replace R2 := k1.cell0 R2
  replace O0 := k1.cell0 O0
  replace O1 := k1.cell0 O1
  replace O2 := k1.cell0 O2
  replace K := hide ((unhide K).trans k1)
  have z2 := k1.size
  clear k1
  obtain ⟨a6, c6, hv⟩ := Row.form' r6
  subst hv
  have bX : w.heap.size + 2 < w1.heap.size := World.block_lt_of_cell? _ _ O0
  have R := hide (((((((r6.set_other (p := ⟨w.heap.size + 2, 0, none⟩) (.inl (by have := unhide S0; dsimp only; omega)) (.bool b)).set_other (p := ⟨w.heap.size + 2, 1, none⟩) (.inl (by have := unhide S0; dsimp only; omega)) (.slice a6 zs.length c6)).set_other (p := ⟨w.heap.size + 2, 2, none⟩) (.inl (by have := unhide S0; dsimp only; omega)) (.int .i64 x)).set_other (p := ⟨w.heap.size + 1, 0, none⟩) (.inl (by have := unhide S0; dsimp only; omega)) (.bool b)).set_other (p := ⟨w.heap.size + 1, 1, none⟩) (.inl (by have := unhide S0; dsimp only; omega)) (.slice a6 zs.length c6)).set_other (p := ⟨w.heap.size + 1, 2, none⟩) (.inl (by have := unhide S0; dsimp only; omega)) (.int .i64 x)).tight.wider (lo' := w.heap.size) (by have := unhide S0; omega) (Nat.le_refl _))
  have K7 := hide (((((((unhide K).setNew (p := ⟨w.heap.size + 2, 0, none⟩) (by simp) (.bool b)).setNew (p := ⟨w.heap.size + 2, 1, none⟩) (by simp) (.slice a6 zs.length c6)).setNew (p := ⟨w.heap.size + 2, 2, none⟩) (by simp) (.int .i64 x)).setNew (p := ⟨w.heap.size + 1, 0, none⟩) (by simp) (.bool b)).setNew (p := ⟨w.heap.size + 1, 1, none⟩) (by simp) (.slice a6 zs.length c6)).setNew (p := ⟨w.heap.size + 1, 2, none⟩) (by simp) (.int .i64 x))
  clear r r6 K
  go_wp2
  exact bodyPost_ret (v := .agg #[.bool b, .slice a6 zs.length c6, .int .i64 x]) (by simp [results, Tryd.results32, go_sem, R0, R1, R2]) rfl ⟨_, rfl, unhide R, unhide K7⟩

end Go.Proofs.YthahoabkehcgbaaDoor

namespace Go.Proofs.YthahoabkehcgbaaDoor
open Go.RowKit
set_option linter.unusedVariables false
set_option maxRecDepth 8000
set_option linter.unusedSimpArgs false

theorem cell_else {W : World} {p r : Addr} {u : Value} (x : Value) (hne : r.block ≠ p.block ∨ r.off ≠ p.off) (e1 : p.spot = none) (e2 : r.spot = none) (h : W.cell? p = some u) : (W.setCell r x).cell? p = some u := by
  obtain ⟨pb, po, pe⟩ := p
  obtain ⟨rb, ro, re⟩ := r
  dsimp only at hne e1 e2
  subst e1 e2
  by_cases hb : rb = pb
  · subst hb
    exact cell_off _ _ _ _ _ _ h (by omega)
  · exact cell_aside x hb h

set_option maxHeartbeats 2000000 in
theorem eqIv_same {d1 d2 d3 d4 : Bool} {l1 h1 l2 h2 l3 h3 l4 h4 : Nat} {v1 u1 v2 u2 : Value} {zs ys : List Int} (b : Bool) (x : Int) (c : Bool) (y : Int) (w : World) (r1 : Row .i64 d1 l1 h1 w v1 zs) (r1' : Row .i64 d2 l2 h2 w u1 ys) (r2 : Row .i64 d3 l3 h3 w v2 zs) (r2' : Row .i64 d4 l4 h4 w u2 ys) :
    Calls Tryd.prog 41 #[.agg #[.bool b, v1, .int .i64 x, .bool c, u1, .int .i64 y], .agg #[.bool b, v2, .int .i64 x, .bool c, u2, .int .i64 y]] w fun e w' => e = .returned (.bool true) ∧ Kept 0 0 w w' := by
  have k0 : Kept 0 0 w ((w.alloc (.cells #[.bool b, v1, .int .i64 x, .bool c, u1, .int .i64 y] 54)).alloc (.cells #[.bool b, v2, .int .i64 x, .bool c, u2, .int .i64 y] 54)) := (((Kept.refl 0 0 w).alloc (.cells #[.bool b, v1, .int .i64 x, .bool c, u1, .int .i64 y] 54)).alloc (.cells #[.bool b, v2, .int .i64 x, .bool c, u2, .int .i64 y] 54))
  have A0 : ((w.alloc (.cells #[.bool b, v1, .int .i64 x, .bool c, u1, .int .i64 y] 54)).alloc (.cells #[.bool b, v2, .int .i64 x, .bool c, u2, .int .i64 y] 54)).cell? ⟨w.heap.size, 0, none⟩ = some (.bool b) := old_cell _ (new_cell2 _ _ _ _ _ _ (by simp) rfl)
  have A1 : ((w.alloc (.cells #[.bool b, v1, .int .i64 x, .bool c, u1, .int .i64 y] 54)).alloc (.cells #[.bool b, v2, .int .i64 x, .bool c, u2, .int .i64 y] 54)).cell? ⟨w.heap.size, 1, none⟩ = some (v1) := old_cell _ (new_cell2 _ _ _ _ _ _ (by simp) rfl)
  have A2 : ((w.alloc (.cells #[.bool b, v1, .int .i64 x, .bool c, u1, .int .i64 y] 54)).alloc (.cells #[.bool b, v2, .int .i64 x, .bool c, u2, .int .i64 y] 54)).cell? ⟨w.heap.size, 2, none⟩ = some (.int .i64 x) := old_cell _ (new_cell2 _ _ _ _ _ _ (by simp) rfl)
  have A3 : ((w.alloc (.cells #[.bool b, v1, .int .i64 x, .bool c, u1, .int .i64 y] 54)).alloc (.cells #[.bool b, v2, .int .i64 x, .bool c, u2, .int .i64 y] 54)).cell? ⟨w.heap.size, 3, none⟩ = some (.bool c) := old_cell _ (new_cell2 _ _ _ _ _ _ (by simp) rfl)
  have A4 : ((w.alloc (.cells #[.bool b, v1, .int .i64 x, .bool c, u1, .int .i64 y] 54)).alloc (.cells #[.bool b, v2, .int .i64 x, .bool c, u2, .int .i64 y] 54)).cell? ⟨w.heap.size, 4, none⟩ = some (u1) := old_cell _ (new_cell2 _ _ _ _ _ _ (by simp) rfl)
  have A5 : ((w.alloc (.cells #[.bool b, v1, .int .i64 x, .bool c, u1, .int .i64 y] 54)).alloc (.cells #[.bool b, v2, .int .i64 x, .bool c, u2, .int .i64 y] 54)).cell? ⟨w.heap.size, 5, none⟩ = some (.int .i64 y) := old_cell _ (new_cell2 _ _ _ _ _ _ (by simp) rfl)
  have B0 : ((w.alloc (.cells #[.bool b, v1, .int .i64 x, .bool c, u1, .int .i64 y] 54)).alloc (.cells #[.bool b, v2, .int .i64 x, .bool c, u2, .int .i64 y] 54)).cell? ⟨w.heap.size + 1, 0, none⟩ = some (.bool b) := new_cell2 _ _ _ _ _ _ (by simp) rfl
  have B1 : ((w.alloc (.cells #[.bool b, v1, .int .i64 x, .bool c, u1, .int .i64 y] 54)).alloc (.cells #[.bool b, v2, .int .i64 x, .bool c, u2, .int .i64 y] 54)).cell? ⟨w.heap.size + 1, 1, none⟩ = some (v2) := new_cell2 _ _ _ _ _ _ (by simp) rfl
  have B2 : ((w.alloc (.cells #[.bool b, v1, .int .i64 x, .bool c, u1, .int .i64 y] 54)).alloc (.cells #[.bool b, v2, .int .i64 x, .bool c, u2, .int .i64 y] 54)).cell? ⟨w.heap.size + 1, 2, none⟩ = some (.int .i64 x) := new_cell2 _ _ _ _ _ _ (by simp) rfl
  have B3 : ((w.alloc (.cells #[.bool b, v1, .int .i64 x, .bool c, u1, .int .i64 y] 54)).alloc (.cells #[.bool b, v2, .int .i64 x, .bool c, u2, .int .i64 y] 54)).cell? ⟨w.heap.size + 1, 3, none⟩ = some (.bool c) := new_cell2 _ _ _ _ _ _ (by simp) rfl
  have B4 : ((w.alloc (.cells #[.bool b, v1, .int .i64 x, .bool c, u1, .int .i64 y] 54)).alloc (.cells #[.bool b, v2, .int .i64 x, .bool c, u2, .int .i64 y] 54)).cell? ⟨w.heap.size + 1, 4, none⟩ = some (u2) := new_cell2 _ _ _ _ _ _ (by simp) rfl
  have B5 : ((w.alloc (.cells #[.bool b, v1, .int .i64 x, .bool c, u1, .int .i64 y] 54)).alloc (.cells #[.bool b, v2, .int .i64 x, .bool c, u2, .int .i64 y] 54)).cell? ⟨w.heap.size + 1, 5, none⟩ = some (.int .i64 y) := new_cell2 _ _ _ _ _ _ (by simp) rfl
  replace r1 := r1.kept k0 (by omega)
  replace r1' := r1'.kept k0 (by omega)
  replace r2 := r2.kept k0 (by omega)
  replace r2' := r2'.kept k0 (by omega)
  have s0 : ((w.alloc (.cells #[.bool b, v1, .int .i64 x, .bool c, u1, .int .i64 y] 54)).alloc (.cells #[.bool b, v2, .int .i64 x, .bool c, u2, .int .i64 y] 54)).heap.size = w.heap.size + 2 := by simp
  obtain ⟨a1, c1, hv⟩ := Row.form' r1
  subst hv
  obtain ⟨a2, c2, hv⟩ := Row.form' r1'
  subst hv
  obtain ⟨a3, c3, hv⟩ := Row.form' r2
  subst hv
  obtain ⟨a4, c4, hv⟩ := Row.form' r2'
  subst hv
  have K := hide (k0)
  clear k0
  have S0 := hide s0
  clear s0
  go_enter Tryd.func41, Tryd.ntmps41
  go_wp2_with fail
  generalize ((w.alloc (.cells #[.bool b, .slice a1 zs.length c1, .int .i64 x, .bool c, .slice a2 ys.length c2, .int .i64 y] 54)).alloc (.cells #[.bool b, .slice a3 zs.length c3, .int .i64 x, .bool c, .slice a4 ys.length c4, .int .i64 y] 54)) = W at *
  refine (eqDy_same _ _ _ r1 r2).mono ?_
  rintro e w1 ⟨rfl, k1⟩
  replace r1 := r1.kept k1 (.inr (.inr (Nat.le_refl 0)))
  replace r1' := r1'.kept k1 (.inr (.inr (Nat.le_refl 0)))
  replace r2 := r2.kept k1 (.inr (.inr (Nat.le_refl 0)))
  replace r2' := r2'.kept k1 (.inr (.inr (Nat.le_refl 0)))
  replace A0 := k1.cell0 A0
  replace A1 := k1.cell0 A1
  replace A2 := k1.cell0 A2
  replace A3 := k1.cell0 A3
  replace A4 := k1.cell0 A4
  replace A5 := k1.cell0 A5
  replace B0 := k1.cell0 B0
  replace B1 := k1.cell0 B1
  replace B2 := k1.cell0 B2
  replace B3 := k1.cell0 B3
  replace B4 := k1.cell0 B4
  replace B5 := k1.cell0 B5
  replace K := hide ((unhide K).trans k1)
  have z2 := k1.size
  clear k1
  go_wp2_with fail
  refine (eqDy_same _ _ _ r1' r2').mono ?_
  rintro e w3 ⟨rfl, k3⟩
  replace r1 := r1.kept k3 (.inr (.inr (Nat.le_refl 0)))
  replace r1' := r1'.kept k3 (.inr (.inr (Nat.le_refl 0)))
  replace r2 := r2.kept k3 (.inr (.inr (Nat.le_refl 0)))
  replace r2' := r2'.kept k3 (.inr (.inr (Nat.le_refl 0)))
  replace A0 := k3.cell0 A0
  replace A1 := k3.cell0 A1
  replace A2 := k3.cell0 A2
  replace A3 := k3.cell0 A3
  replace A4 := k3.cell0 A4
  replace A5 := k3.cell0 A5
  replace B0 := k3.cell0 B0
  replace B1 := k3.cell0 B1
  replace B2 := k3.cell0 B2
  replace B3 := k3.cell0 B3
  replace B4 := k3.cell0 B4
  replace B5 := k3.cell0 B5
  replace K := hide ((unhide K).trans k3)
  have z4 := k3.size
  clear k3
  clear r1 r1' r2 r2'
  go_wp2_with fail
  go_ret
  exact ⟨rfl, unhide K⟩

theorem in_eqV : ∀ (w : World) (args : Array Value), (callFunc 41 args).run Tryd.prog w = .ok (.enter 41 args) w := enters Tryd.func41 (by decide) (fun h => by cases h)

theorem in_spec_IvOk : ∀ (w : World) (args : Array Value), (callFunc 48 args).run Tryd.prog w = .ok (.enter 48 args) w := enters Tryd.func48 (by decide) (fun h => by cases h)

theorem in_impl_IvOk : ∀ (w : World) (args : Array Value), (callFunc 36 args).run Tryd.prog w = .ok (.enter 36 args) w := enters Tryd.func36 (by decide) (fun h => by cases h)

theorem in_impl_IvOf : ∀ (w : World) (args : Array Value), (callFunc 21 args).run Tryd.prog w = .ok (.enter 21 args) w := enters Tryd.func21 (by decide) (fun h => by cases h)

end Go.Proofs.YthahoabkehcgbaaDoor

namespace Go.Proofs.YthahoabkehcgbaaDoor
open Go.RowKit
set_option linter.unusedVariables false
set_option maxRecDepth 8000

theorem law_setD {cur w9 : World} {X : Nat} {v z z' z2 : Value} {zs : List Int} {b hi : Nat} (s : Bool) (x : Int) (k : Kept 0 0 cur w9) (c : w9.cell? ⟨X, 0, none⟩ = some z) (c' : w9.cell? ⟨X, 1, none⟩ = some z') (c2 : w9.cell? ⟨X, 2, none⟩ = some z2) (r : Row .i64 true b hi w9 v zs) (hX : cur.heap.size ≤ X) (hb : X < b ∨ hi ≤ X) (hc : cur.heap.size ≤ b) :
    (((w9.setCell ⟨X, 0, none⟩ (.bool s)).setCell ⟨X, 1, none⟩ v).setCell ⟨X, 2, none⟩ (.int .i64 x)).cell? ⟨X, 0, none⟩ = some (.bool s) ∧ (((w9.setCell ⟨X, 0, none⟩ (.bool s)).setCell ⟨X, 1, none⟩ v).setCell ⟨X, 2, none⟩ (.int .i64 x)).cell? ⟨X, 1, none⟩ = some v ∧ (((w9.setCell ⟨X, 0, none⟩ (.bool s)).setCell ⟨X, 1, none⟩ v).setCell ⟨X, 2, none⟩ (.int .i64 x)).cell? ⟨X, 2, none⟩ = some (.int .i64 x) ∧ Row .i64 true cur.heap.size (((w9.setCell ⟨X, 0, none⟩ (.bool s)).setCell ⟨X, 1, none⟩ v).setCell ⟨X, 2, none⟩ (.int .i64 x)).heap.size (((w9.setCell ⟨X, 0, none⟩ (.bool s)).setCell ⟨X, 1, none⟩ v).setCell ⟨X, 2, none⟩ (.int .i64 x)) v zs ∧ cur.heap.size ≤ X ∧ X < (((w9.setCell ⟨X, 0, none⟩ (.bool s)).setCell ⟨X, 1, none⟩ v).setCell ⟨X, 2, none⟩ (.int .i64 x)).heap.size ∧ Kept 0 0 cur (((w9.setCell ⟨X, 0, none⟩ (.bool s)).setCell ⟨X, 1, none⟩ v).setCell ⟨X, 2, none⟩ (.int .i64 x)) := by
  obtain ⟨e3, e4, r', hX', hl, k'⟩ := law_setW s k c c' r hX hb hc
  have e2 := cell_set w9 X 2 0 (.bool s) z2 c2
  rw [if_neg (by decide)] at e2
  have e5 := cell_set _ X 2 1 v _ e2
  rw [if_neg (by decide)] at e5
  have f3 := cell_set _ X 0 2 (.int .i64 x) _ e3
  rw [if_neg (by decide)] at f3
  have f4 := cell_set _ X 1 2 (.int .i64 x) _ e4
  rw [if_neg (by decide)] at f4
  have f5 := cell_set _ X 2 2 (.int .i64 x) _ e5
  rw [if_pos rfl] at f5
  exact ⟨f3, f4, f5, ((((r.set_other (p := ⟨X, 0, none⟩) hb (.bool s)).set_other (p := ⟨X, 1, none⟩) hb v).set_other (p := ⟨X, 2, none⟩) hb (.int .i64 x)).tight.wider hc (Nat.le_refl _)), hX, by simpa [World.setCell] using hl, k'.setNew (p := ⟨X, 2, none⟩) hX _⟩

theorem in_toD : ∀ (w : World) (args : Array Value), (callFunc 32 args).run Tryd.prog w = .ok (.enter 32 args) w := enters Tryd.func32 (by decide) (fun h => by cases h)

theorem in_eqD : ∀ (w : World) (args : Array Value), (callFunc 42 args).run Tryd.prog w = .ok (.enter 42 args) w := enters Tryd.func42 (by decide) (fun h => by cases h)

theorem in_spec_DyOk : ∀ (w : World) (args : Array Value), (callFunc 28 args).run Tryd.prog w = .ok (.enter 28 args) w := enters Tryd.func28 (by decide) (fun h => by cases h)

theorem in_impl_DyOk : ∀ (w : World) (args : Array Value), (callFunc 53 args).run Tryd.prog w = .ok (.enter 53 args) w := enters Tryd.func53 (by decide) (fun h => by cases h)

theorem in_impl_DyCmp : ∀ (w : World) (args : Array Value), (callFunc 54 args).run Tryd.prog w = .ok (.enter 54 args) w := enters Tryd.func54 (by decide) (fun h => by cases h)

end Go.Proofs.YthahoabkehcgbaaDoor
