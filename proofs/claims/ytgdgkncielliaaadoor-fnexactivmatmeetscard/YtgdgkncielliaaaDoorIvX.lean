/-
  The greatest and the least of two numbers in a list: slices.MaxFunc and slices.MinFunc.
-/
import Derived.Test.YtgdgkncielliaaaDoorIvP
import Derived.Test.YtgdgkncielliaaaDoorStep2
import Derived.Deep.DeepCutAuto
import Derived.Deep.RegionHeld3
import Derived.LoopN
namespace Go.Proofs.YtgdgkncielliaaaDoor
open Go.RowKit
set_option linter.unusedVariables false
set_option maxRecDepth 8000
set_option linter.unusedSimpArgs false

/-- A call, of two arguments, of the function that an operand holds. -/
theorem wpv2 {P : Program} {o : Oper} {a : Act} {w : World} {K : Act → World → Prop} {Q : Exit → Act → World → Prop} {R : Ending → World → Prop}
    (n : FuncId) (f x y : Operand) (ts : Array TypeId) (hop : o.op = Op.call { callee := Callee.value f, args := #[x, y], argTypes := ts }) (hf : a.eval f = .func (.func n) #[] #[])
    (hcf : ∀ (w : World) (args : Array Value), (callFunc n args).run P w = .ok (.enter n args) w) (vx vy : Value) (hx : a.eval x = vx) (hy : a.eval y = vy) (hc : Calls P n #[vx, vy] w R) (hK : ∀ e w', R e w' → ∃ v, e = .returned v ∧ K (a.put o.dst v) w') :
    Oper.wp P o a w K Q := by
  unfold Oper.wp
  have hrun : (execOp a.eval o).run P w = .ok (.enter n #[vx, vy]) w := by
    simp [execOp, hop, resolve, invoke, hx, hy, hf, Deferred.ofValue, Result.andThen, hcf]
  rw [hrun, Oper.upon_enter]
  refine hc.mono ?_
  intro e w' h
  obtain ⟨v, rfl, h2⟩ := hK e w' h
  exact h2

set_option maxHeartbeats 2000000 in
theorem maxF_impl {a1 a2 : Option Addr} {n1 c1 n2 c2 g cc : Nat} {C : Int} {c : Bool} (s1 s2 : Bool) (e1 e2 : Int) (f : FuncId) (hcf : ∀ (w : World) (args : Array Value), (callFunc f args).run Tryd.prog w = .ok (.enter f args) w) (w : World) (g0 : w.cell? ⟨g, 0, none⟩ = some (.bool s1)) (g1 : w.cell? ⟨g, 1, none⟩ = some (.slice a1 n1 c1)) (g2 : w.cell? ⟨g, 2, none⟩ = some (.int .i64 e1)) (g3 : w.cell? ⟨g, 3, none⟩ = some (.bool s2)) (g4 : w.cell? ⟨g, 4, none⟩ = some (.slice a2 n2 c2)) (g5 : w.cell? ⟨g, 5, none⟩ = some (.int .i64 e2)) (hc : decide (0 < C) = c)
    (h1 : ∀ w1, Kept 0 0 w w1 → Calls Tryd.prog f #[.agg #[.bool s2, .slice a2 n2 c2, .int .i64 e2], .agg #[.bool s1, .slice a1 n1 c1, .int .i64 e1]] w1 (fun e w' => e = .returned (.int .i64 C) ∧ Kept 0 0 w1 w')) :
    Calls Tryd.prog 27 #[.slice (some ⟨g, 0, none⟩) 2 cc, .func (.func f) #[] #[]] w fun e w' => e = .returned (.agg #[.bool (pk c s1 s2), pk c (.slice a1 n1 c1) (.slice a2 n2 c2), .int .i64 (pk c e1 e2)]) ∧ Kept 0 0 w w' := by
  have H1 := hide h1
  clear h1
  have hgl := World.block_lt_of_cell? _ _ g0
  have k0 : Kept 0 0 w ((w.alloc (.cells #[.bool false, .slice none 0 0, .int .i64 0] 40)).alloc (.cells #[.bool s1, .slice a1 n1 c1, .int .i64 e1] 40)) := (((Kept.refl 0 0 w).alloc (.cells #[.bool false, .slice none 0 0, .int .i64 0] 40)).alloc (.cells #[.bool s1, .slice a1 n1 c1, .int .i64 e1] 40))
  have R0 : ((w.alloc (.cells #[.bool false, .slice none 0 0, .int .i64 0] 40)).alloc (.cells #[.bool s1, .slice a1 n1 c1, .int .i64 e1] 40)).cell? ⟨w.heap.size, 0, none⟩ = some (.bool false) := old_cell _ (new_cell2 _ _ _ _ _ _ (by simp) rfl)
  have Rf0 : ((w.alloc (.cells #[.bool false, .slice none 0 0, .int .i64 0] 40)).alloc (.cells #[.bool s1, .slice a1 n1 c1, .int .i64 e1] 40)).frozen? ⟨w.heap.size, 0, none⟩ = false := loose_old (by simp <;> omega) (new_loose2 _ _ _ _ _ (by simp))
  have R1 : ((w.alloc (.cells #[.bool false, .slice none 0 0, .int .i64 0] 40)).alloc (.cells #[.bool s1, .slice a1 n1 c1, .int .i64 e1] 40)).cell? ⟨w.heap.size, 1, none⟩ = some (.slice none 0 0) := old_cell _ (new_cell2 _ _ _ _ _ _ (by simp) rfl)
  have Rf1 : ((w.alloc (.cells #[.bool false, .slice none 0 0, .int .i64 0] 40)).alloc (.cells #[.bool s1, .slice a1 n1 c1, .int .i64 e1] 40)).frozen? ⟨w.heap.size, 1, none⟩ = false := loose_old (by simp <;> omega) (new_loose2 _ _ _ _ _ (by simp))
  have R2 : ((w.alloc (.cells #[.bool false, .slice none 0 0, .int .i64 0] 40)).alloc (.cells #[.bool s1, .slice a1 n1 c1, .int .i64 e1] 40)).cell? ⟨w.heap.size, 2, none⟩ = some (.int .i64 0) := old_cell _ (new_cell2 _ _ _ _ _ _ (by simp) rfl)
  have Rf2 : ((w.alloc (.cells #[.bool false, .slice none 0 0, .int .i64 0] 40)).alloc (.cells #[.bool s1, .slice a1 n1 c1, .int .i64 e1] 40)).frozen? ⟨w.heap.size, 2, none⟩ = false := loose_old (by simp <;> omega) (new_loose2 _ _ _ _ _ (by simp))
  have Mm0 : ((w.alloc (.cells #[.bool false, .slice none 0 0, .int .i64 0] 40)).alloc (.cells #[.bool s1, .slice a1 n1 c1, .int .i64 e1] 40)).cell? ⟨w.heap.size + 1, 0, none⟩ = some (.bool s1) := new_cell2 _ _ _ _ _ _ (by simp) rfl
  have Mmf0 : ((w.alloc (.cells #[.bool false, .slice none 0 0, .int .i64 0] 40)).alloc (.cells #[.bool s1, .slice a1 n1 c1, .int .i64 e1] 40)).frozen? ⟨w.heap.size + 1, 0, none⟩ = false := new_loose2 _ _ _ _ _ (by simp)
  have Mm1 : ((w.alloc (.cells #[.bool false, .slice none 0 0, .int .i64 0] 40)).alloc (.cells #[.bool s1, .slice a1 n1 c1, .int .i64 e1] 40)).cell? ⟨w.heap.size + 1, 1, none⟩ = some (.slice a1 n1 c1) := new_cell2 _ _ _ _ _ _ (by simp) rfl
  have Mmf1 : ((w.alloc (.cells #[.bool false, .slice none 0 0, .int .i64 0] 40)).alloc (.cells #[.bool s1, .slice a1 n1 c1, .int .i64 e1] 40)).frozen? ⟨w.heap.size + 1, 1, none⟩ = false := new_loose2 _ _ _ _ _ (by simp)
  have Mm2 : ((w.alloc (.cells #[.bool false, .slice none 0 0, .int .i64 0] 40)).alloc (.cells #[.bool s1, .slice a1 n1 c1, .int .i64 e1] 40)).cell? ⟨w.heap.size + 1, 2, none⟩ = some (.int .i64 e1) := new_cell2 _ _ _ _ _ _ (by simp) rfl
  have Mmf2 : ((w.alloc (.cells #[.bool false, .slice none 0 0, .int .i64 0] 40)).alloc (.cells #[.bool s1, .slice a1 n1 c1, .int .i64 e1] 40)).frozen? ⟨w.heap.size + 1, 2, none⟩ = false := new_loose2 _ _ _ _ _ (by simp)
  have kR := (Kept.refl 0 0 w).alloc (.cells #[.bool false, .slice none 0 0, .int .i64 0] 40)
  have G0 := kR.cell0 g0
  have G1 := kR.cell0 g1
  have G2 := kR.cell0 g2
  have G3 := kR.cell0 g3
  have G4 := kR.cell0 g4
  have G5 := kR.cell0 g5
  replace g0 := k0.cell0 g0
  replace g1 := k0.cell0 g1
  replace g2 := k0.cell0 g2
  replace g3 := k0.cell0 g3
  replace g4 := k0.cell0 g4
  replace g5 := k0.cell0 g5
  have s0 : ((w.alloc (.cells #[.bool false, .slice none 0 0, .int .i64 0] 40)).alloc (.cells #[.bool s1, .slice a1 n1 c1, .int .i64 e1] 40)).heap.size = w.heap.size + 2 := by simp
  have K := hide (k0)
  clear k0
  have S0 := hide s0
  clear s0
  go_enter Tryd.func27, Tryd.ntmps27
  clear kR
  go_wp2_with fail
  clear G0 G1 G2 G3 G4 G5
  generalize ((w.alloc (.cells #[.bool false, .slice none 0 0, .int .i64 0] 40)).alloc (.cells #[.bool s1, .slice a1 n1 c1, .int .i64 e1] 40)) = W at *
  refine wp_loop_rounds 2 ?_
  rw [rounds_succ]
  go_wp2_with fail
  have kd := (Kept.refl 0 0 W).drew
  replace Rf0 := kd.loose0 (World.block_lt_of_cell? _ _ R0) Rf0
  replace Rf1 := kd.loose0 (World.block_lt_of_cell? _ _ R1) Rf1
  replace Rf2 := kd.loose0 (World.block_lt_of_cell? _ _ R2) Rf2
  replace Mmf0 := kd.loose0 (World.block_lt_of_cell? _ _ Mm0) Mmf0
  replace Mmf1 := kd.loose0 (World.block_lt_of_cell? _ _ Mm1) Mmf1
  replace Mmf2 := kd.loose0 (World.block_lt_of_cell? _ _ Mm2) Mmf2
  replace g0 := kd.cell0 g0
  replace g1 := kd.cell0 g1
  replace g2 := kd.cell0 g2
  replace g3 := kd.cell0 g3
  replace g4 := kd.cell0 g4
  replace g5 := kd.cell0 g5
  replace R0 := kd.cell0 R0
  replace R1 := kd.cell0 R1
  replace R2 := kd.cell0 R2
  replace Mm0 := kd.cell0 Mm0
  replace Mm1 := kd.cell0 Mm1
  replace Mm2 := kd.cell0 Mm2
  replace K := hide ((unhide K).trans kd)
  have z1 := kd.size
  clear kd
  refine wp_region_held_drew (S := (fun w' => w'.cell? ⟨g, 3, none⟩ = some (.bool s2) ∧ w'.cell? ⟨g, 4, none⟩ = some (.slice a2 n2 c2) ∧ w'.cell? ⟨g, 5, none⟩ = some (.int .i64 e2) ∧ w'.cell? ⟨w.heap.size + 1, 0, none⟩ = some (.bool s1) ∧ w'.cell? ⟨w.heap.size + 1, 1, none⟩ = some (.slice a1 n1 c1) ∧ w'.cell? ⟨w.heap.size + 1, 2, none⟩ = some (.int .i64 e1))) (by kernel_rfl) ?_ (fun hHeld => ?_)
  · exact ⟨g3, g4, g5, Mm0, Mm1, Mm2⟩
  refine wpAnyH_take (i := 0) (oi := _) (v := .func (.func f) #[] #[]) rfl (by kernel_rfl) (by kernel_rfl) (by kernel_rfl) (fun _ _ _ h => h) (Or.inl ⟨by rfl, ?_⟩) hHeld ?_
  · intro wq hSw
    try dsimp only at hSw
    go_simp
  try simp only [Act.put, List.getElem_toArray, List.getElem_cons_succ, List.getElem_cons_zero, List.setIfInBounds_toArray, List.set_cons_zero, List.set_cons_succ]
  refine wpAnyH_take (i := 1) (oi := _) (v := .slice (some ⟨g, 0, none⟩) 2 cc) rfl (by kernel_rfl) (by kernel_rfl) (by kernel_rfl) (fun _ _ _ h => h) (Or.inl ⟨by rfl, ?_⟩) hHeld ?_
  · intro wq hSw
    try dsimp only at hSw
    go_simp
  try simp only [Act.put, List.getElem_toArray, List.getElem_cons_succ, List.getElem_cons_zero, List.setIfInBounds_toArray, List.set_cons_zero, List.set_cons_succ]
  refine wpAnyH_take (i := 2) (oi := _) (v := .int .i64 1) rfl (by kernel_rfl) (by kernel_rfl) (by kernel_rfl) (fun _ _ _ h => h) (Or.inl ⟨by rfl, ?_⟩) hHeld ?_
  · intro wq hSw
    try dsimp only at hSw
    go_simp
  try simp only [Act.put, List.getElem_toArray, List.getElem_cons_succ, List.getElem_cons_zero, List.setIfInBounds_toArray, List.set_cons_zero, List.set_cons_succ]
  refine wpAnyH_take (i := 3) (oi := _) (v := .pointer (some ⟨g, 3, none⟩)) rfl (by kernel_rfl) (by kernel_rfl) (by kernel_rfl) (fun _ _ _ h => h) (Or.inl ⟨by rfl, ?_⟩) hHeld ?_
  · intro wq hSw
    try dsimp only at hSw
    go_simp
  try simp only [Act.put, List.getElem_toArray, List.getElem_cons_succ, List.getElem_cons_zero, List.setIfInBounds_toArray, List.set_cons_zero, List.set_cons_succ]
  refine wpAnyH_take (i := 4) (oi := _) (v := .agg #[.bool s2, .slice a2 n2 c2, .int .i64 e2]) rfl (by kernel_rfl) (by kernel_rfl) (by kernel_rfl) (fun _ _ _ h => h) (Or.inl ⟨by rfl, ?_⟩) hHeld ?_
  · intro wq hSw
    try dsimp only at hSw
    go_simp
  try simp only [Act.put, List.getElem_toArray, List.getElem_cons_succ, List.getElem_cons_zero, List.setIfInBounds_toArray, List.set_cons_zero, List.set_cons_succ]
  refine wpAnyH_take (i := 5) (oi := _) (v := .agg #[.bool s1, .slice a1 n1 c1, .int .i64 e1]) rfl (by kernel_rfl) (by kernel_rfl) (by kernel_rfl) (fun _ _ _ h => h) (Or.inl ⟨by rfl, ?_⟩) hHeld ?_
  · intro wq hSw
    try dsimp only at hSw
    go_simp
  try simp only [Act.put, List.getElem_toArray, List.getElem_cons_succ, List.getElem_cons_zero, List.setIfInBounds_toArray, List.set_cons_zero, List.set_cons_succ]
  refine wpAnyH_ready (rs := [6]) (by kernel_rfl) (by simp) ?_
  refine AllReadyH.cons rfl (fun KK hK => ?_) AllReadyH.nil
  simp only [List.getElem_toArray, List.getElem_cons_succ, List.getElem_cons_zero]
  rw [if_pos (by rfl)]
  refine wpv2 f (.tmp 20) (.tmp 24) (.tmp 25) _ rfl rfl hcf (.agg #[.bool s2, .slice a2 n2 c2, .int .i64 e2]) (.agg #[.bool s1, .slice a1 n1 c1, .int .i64 e1]) rfl rfl (unhide H1 _ (unhide K)) ?_
  rintro e w2 ⟨rfl, k2⟩
  refine ⟨_, rfl, ?_⟩
  replace Rf0 := k2.loose0 (World.block_lt_of_cell? _ _ R0) Rf0
  replace Rf1 := k2.loose0 (World.block_lt_of_cell? _ _ R1) Rf1
  replace Rf2 := k2.loose0 (World.block_lt_of_cell? _ _ R2) Rf2
  replace Mmf0 := k2.loose0 (World.block_lt_of_cell? _ _ Mm0) Mmf0
  replace Mmf1 := k2.loose0 (World.block_lt_of_cell? _ _ Mm1) Mmf1
  replace Mmf2 := k2.loose0 (World.block_lt_of_cell? _ _ Mm2) Mmf2
  replace g0 := k2.cell0 g0
  replace g1 := k2.cell0 g1
  replace g2 := k2.cell0 g2
  replace g3 := k2.cell0 g3
  replace g4 := k2.cell0 g4
  replace g5 := k2.cell0 g5
  replace R0 := k2.cell0 R0
  replace R1 := k2.cell0 R1
  replace R2 := k2.cell0 R2
  replace Mm0 := k2.cell0 Mm0
  replace Mm1 := k2.cell0 Mm1
  replace Mm2 := k2.cell0 Mm2
  replace K := hide ((unhide K).trans k2)
  have z3 := k2.size
  clear k2
  clear hHeld
  refine hK.out _ _ ?_ (fun hHeld => ?_)
  · exact ⟨g3, g4, g5, Mm0, Mm1, Mm2⟩
  clear hK KK
  try simp only [Act.put, List.getElem_toArray, List.getElem_cons_succ, List.getElem_cons_zero, List.setIfInBounds_toArray, List.set_cons_zero, List.set_cons_succ]
  refine wpAnyH_take (i := 7) (oi := _) (v := .bool c) rfl (by kernel_rfl) (by kernel_rfl) (by kernel_rfl) (fun _ _ _ h => h) (Or.inl ⟨by rfl, ?_⟩) hHeld ?_
  · intro wq hSw
    try dsimp only at hSw
    go_simp
  try simp only [Act.put, List.getElem_toArray, List.getElem_cons_succ, List.getElem_cons_zero, List.setIfInBounds_toArray, List.set_cons_zero, List.set_cons_succ]
  refine wpAnyH_done (by kernel_rfl) ?_ _
  clear hHeld
  clear hc
  cases c
  · have K7 := hide ((((unhide K).setNew (p := ⟨w.heap.size, 0, none⟩) (by simp) (.bool s1)).setNew (p := ⟨w.heap.size, 1, none⟩) (by simp) (.slice a1 n1 c1)).setNew (p := ⟨w.heap.size, 2, none⟩) (by simp) (.int .i64 e1))
    clear K
    go_wp2_with fail
    rw [rounds_succ]
    go_wp2_with fail
    exact bodyPost_ret (v := .agg #[.bool s1, .slice a1 n1 c1, .int .i64 e1]) (by simp [results, Tryd.results27, go_sem, R0, R1, R2]) rfl ⟨rfl, unhide K7⟩
  · have K7 := hide (((((((unhide K).setNew (p := ⟨w.heap.size + 1, 0, none⟩) (by simp) (.bool s2)).setNew (p := ⟨w.heap.size + 1, 1, none⟩) (by simp) (.slice a2 n2 c2)).setNew (p := ⟨w.heap.size + 1, 2, none⟩) (by simp) (.int .i64 e2)).setNew (p := ⟨w.heap.size, 0, none⟩) (by simp) (.bool s2)).setNew (p := ⟨w.heap.size, 1, none⟩) (by simp) (.slice a2 n2 c2)).setNew (p := ⟨w.heap.size, 2, none⟩) (by simp) (.int .i64 e2))
    clear K
    go_wp2_with fail
    rw [rounds_succ]
    go_wp2_with fail
    exact bodyPost_ret (v := .agg #[.bool s2, .slice a2 n2 c2, .int .i64 e2]) (by simp [results, Tryd.results27, go_sem, R0, R1, R2]) rfl ⟨rfl, unhide K7⟩

set_option maxHeartbeats 2000000 in
theorem minF_impl {a1 a2 : Option Addr} {n1 c1 n2 c2 g cc : Nat} {C : Int} {c : Bool} (s1 s2 : Bool) (e1 e2 : Int) (f : FuncId) (hcf : ∀ (w : World) (args : Array Value), (callFunc f args).run Tryd.prog w = .ok (.enter f args) w) (w : World) (g0 : w.cell? ⟨g, 0, none⟩ = some (.bool s1)) (g1 : w.cell? ⟨g, 1, none⟩ = some (.slice a1 n1 c1)) (g2 : w.cell? ⟨g, 2, none⟩ = some (.int .i64 e1)) (g3 : w.cell? ⟨g, 3, none⟩ = some (.bool s2)) (g4 : w.cell? ⟨g, 4, none⟩ = some (.slice a2 n2 c2)) (g5 : w.cell? ⟨g, 5, none⟩ = some (.int .i64 e2)) (hc : decide (C < 0) = c)
    (h1 : ∀ w1, Kept 0 0 w w1 → Calls Tryd.prog f #[.agg #[.bool s2, .slice a2 n2 c2, .int .i64 e2], .agg #[.bool s1, .slice a1 n1 c1, .int .i64 e1]] w1 (fun e w' => e = .returned (.int .i64 C) ∧ Kept 0 0 w1 w')) :
    Calls Tryd.prog 29 #[.slice (some ⟨g, 0, none⟩) 2 cc, .func (.func f) #[] #[]] w fun e w' => e = .returned (.agg #[.bool (pk c s1 s2), pk c (.slice a1 n1 c1) (.slice a2 n2 c2), .int .i64 (pk c e1 e2)]) ∧ Kept 0 0 w w' := by
  have H1 := hide h1
  clear h1
  have hgl := World.block_lt_of_cell? _ _ g0
  have k0 : Kept 0 0 w ((w.alloc (.cells #[.bool false, .slice none 0 0, .int .i64 0] 40)).alloc (.cells #[.bool s1, .slice a1 n1 c1, .int .i64 e1] 40)) := (((Kept.refl 0 0 w).alloc (.cells #[.bool false, .slice none 0 0, .int .i64 0] 40)).alloc (.cells #[.bool s1, .slice a1 n1 c1, .int .i64 e1] 40))
  have R0 : ((w.alloc (.cells #[.bool false, .slice none 0 0, .int .i64 0] 40)).alloc (.cells #[.bool s1, .slice a1 n1 c1, .int .i64 e1] 40)).cell? ⟨w.heap.size, 0, none⟩ = some (.bool false) := old_cell _ (new_cell2 _ _ _ _ _ _ (by simp) rfl)
  have Rf0 : ((w.alloc (.cells #[.bool false, .slice none 0 0, .int .i64 0] 40)).alloc (.cells #[.bool s1, .slice a1 n1 c1, .int .i64 e1] 40)).frozen? ⟨w.heap.size, 0, none⟩ = false := loose_old (by simp <;> omega) (new_loose2 _ _ _ _ _ (by simp))
  have R1 : ((w.alloc (.cells #[.bool false, .slice none 0 0, .int .i64 0] 40)).alloc (.cells #[.bool s1, .slice a1 n1 c1, .int .i64 e1] 40)).cell? ⟨w.heap.size, 1, none⟩ = some (.slice none 0 0) := old_cell _ (new_cell2 _ _ _ _ _ _ (by simp) rfl)
  have Rf1 : ((w.alloc (.cells #[.bool false, .slice none 0 0, .int .i64 0] 40)).alloc (.cells #[.bool s1, .slice a1 n1 c1, .int .i64 e1] 40)).frozen? ⟨w.heap.size, 1, none⟩ = false := loose_old (by simp <;> omega) (new_loose2 _ _ _ _ _ (by simp))
  have R2 : ((w.alloc (.cells #[.bool false, .slice none 0 0, .int .i64 0] 40)).alloc (.cells #[.bool s1, .slice a1 n1 c1, .int .i64 e1] 40)).cell? ⟨w.heap.size, 2, none⟩ = some (.int .i64 0) := old_cell _ (new_cell2 _ _ _ _ _ _ (by simp) rfl)
  have Rf2 : ((w.alloc (.cells #[.bool false, .slice none 0 0, .int .i64 0] 40)).alloc (.cells #[.bool s1, .slice a1 n1 c1, .int .i64 e1] 40)).frozen? ⟨w.heap.size, 2, none⟩ = false := loose_old (by simp <;> omega) (new_loose2 _ _ _ _ _ (by simp))
  have Mm0 : ((w.alloc (.cells #[.bool false, .slice none 0 0, .int .i64 0] 40)).alloc (.cells #[.bool s1, .slice a1 n1 c1, .int .i64 e1] 40)).cell? ⟨w.heap.size + 1, 0, none⟩ = some (.bool s1) := new_cell2 _ _ _ _ _ _ (by simp) rfl
  have Mmf0 : ((w.alloc (.cells #[.bool false, .slice none 0 0, .int .i64 0] 40)).alloc (.cells #[.bool s1, .slice a1 n1 c1, .int .i64 e1] 40)).frozen? ⟨w.heap.size + 1, 0, none⟩ = false := new_loose2 _ _ _ _ _ (by simp)
  have Mm1 : ((w.alloc (.cells #[.bool false, .slice none 0 0, .int .i64 0] 40)).alloc (.cells #[.bool s1, .slice a1 n1 c1, .int .i64 e1] 40)).cell? ⟨w.heap.size + 1, 1, none⟩ = some (.slice a1 n1 c1) := new_cell2 _ _ _ _ _ _ (by simp) rfl
  have Mmf1 : ((w.alloc (.cells #[.bool false, .slice none 0 0, .int .i64 0] 40)).alloc (.cells #[.bool s1, .slice a1 n1 c1, .int .i64 e1] 40)).frozen? ⟨w.heap.size + 1, 1, none⟩ = false := new_loose2 _ _ _ _ _ (by simp)
  have Mm2 : ((w.alloc (.cells #[.bool false, .slice none 0 0, .int .i64 0] 40)).alloc (.cells #[.bool s1, .slice a1 n1 c1, .int .i64 e1] 40)).cell? ⟨w.heap.size + 1, 2, none⟩ = some (.int .i64 e1) := new_cell2 _ _ _ _ _ _ (by simp) rfl
  have Mmf2 : ((w.alloc (.cells #[.bool false, .slice none 0 0, .int .i64 0] 40)).alloc (.cells #[.bool s1, .slice a1 n1 c1, .int .i64 e1] 40)).frozen? ⟨w.heap.size + 1, 2, none⟩ = false := new_loose2 _ _ _ _ _ (by simp)
  have kR := (Kept.refl 0 0 w).alloc (.cells #[.bool false, .slice none 0 0, .int .i64 0] 40)
  have G0 := kR.cell0 g0
  have G1 := kR.cell0 g1
  have G2 := kR.cell0 g2
  have G3 := kR.cell0 g3
  have G4 := kR.cell0 g4
  have G5 := kR.cell0 g5
  replace g0 := k0.cell0 g0
  replace g1 := k0.cell0 g1
  replace g2 := k0.cell0 g2
  replace g3 := k0.cell0 g3
  replace g4 := k0.cell0 g4
  replace g5 := k0.cell0 g5
  have s0 : ((w.alloc (.cells #[.bool false, .slice none 0 0, .int .i64 0] 40)).alloc (.cells #[.bool s1, .slice a1 n1 c1, .int .i64 e1] 40)).heap.size = w.heap.size + 2 := by simp
  have K := hide (k0)
  clear k0
  have S0 := hide s0
  clear s0
  go_enter Tryd.func29, Tryd.ntmps29
  clear kR
  go_wp2_with fail
  clear G0 G1 G2 G3 G4 G5
  generalize ((w.alloc (.cells #[.bool false, .slice none 0 0, .int .i64 0] 40)).alloc (.cells #[.bool s1, .slice a1 n1 c1, .int .i64 e1] 40)) = W at *
  refine wp_loop_rounds 2 ?_
  rw [rounds_succ]
  go_wp2_with fail
  have kd := (Kept.refl 0 0 W).drew
  replace Rf0 := kd.loose0 (World.block_lt_of_cell? _ _ R0) Rf0
  replace Rf1 := kd.loose0 (World.block_lt_of_cell? _ _ R1) Rf1
  replace Rf2 := kd.loose0 (World.block_lt_of_cell? _ _ R2) Rf2
  replace Mmf0 := kd.loose0 (World.block_lt_of_cell? _ _ Mm0) Mmf0
  replace Mmf1 := kd.loose0 (World.block_lt_of_cell? _ _ Mm1) Mmf1
  replace Mmf2 := kd.loose0 (World.block_lt_of_cell? _ _ Mm2) Mmf2
  replace g0 := kd.cell0 g0
  replace g1 := kd.cell0 g1
  replace g2 := kd.cell0 g2
  replace g3 := kd.cell0 g3
  replace g4 := kd.cell0 g4
  replace g5 := kd.cell0 g5
  replace R0 := kd.cell0 R0
  replace R1 := kd.cell0 R1
  replace R2 := kd.cell0 R2
  replace Mm0 := kd.cell0 Mm0
  replace Mm1 := kd.cell0 Mm1
  replace Mm2 := kd.cell0 Mm2
  replace K := hide ((unhide K).trans kd)
  have z1 := kd.size
  clear kd
  refine wp_region_held_drew (S := (fun w' => w'.cell? ⟨g, 3, none⟩ = some (.bool s2) ∧ w'.cell? ⟨g, 4, none⟩ = some (.slice a2 n2 c2) ∧ w'.cell? ⟨g, 5, none⟩ = some (.int .i64 e2) ∧ w'.cell? ⟨w.heap.size + 1, 0, none⟩ = some (.bool s1) ∧ w'.cell? ⟨w.heap.size + 1, 1, none⟩ = some (.slice a1 n1 c1) ∧ w'.cell? ⟨w.heap.size + 1, 2, none⟩ = some (.int .i64 e1))) (by kernel_rfl) ?_ (fun hHeld => ?_)
  · exact ⟨g3, g4, g5, Mm0, Mm1, Mm2⟩
  refine wpAnyH_take (i := 0) (oi := _) (v := .func (.func f) #[] #[]) rfl (by kernel_rfl) (by kernel_rfl) (by kernel_rfl) (fun _ _ _ h => h) (Or.inl ⟨by rfl, ?_⟩) hHeld ?_
  · intro wq hSw
    try dsimp only at hSw
    go_simp
  try simp only [Act.put, List.getElem_toArray, List.getElem_cons_succ, List.getElem_cons_zero, List.setIfInBounds_toArray, List.set_cons_zero, List.set_cons_succ]
  refine wpAnyH_take (i := 1) (oi := _) (v := .slice (some ⟨g, 0, none⟩) 2 cc) rfl (by kernel_rfl) (by kernel_rfl) (by kernel_rfl) (fun _ _ _ h => h) (Or.inl ⟨by rfl, ?_⟩) hHeld ?_
  · intro wq hSw
    try dsimp only at hSw
    go_simp
  try simp only [Act.put, List.getElem_toArray, List.getElem_cons_succ, List.getElem_cons_zero, List.setIfInBounds_toArray, List.set_cons_zero, List.set_cons_succ]
  refine wpAnyH_take (i := 2) (oi := _) (v := .int .i64 1) rfl (by kernel_rfl) (by kernel_rfl) (by kernel_rfl) (fun _ _ _ h => h) (Or.inl ⟨by rfl, ?_⟩) hHeld ?_
  · intro wq hSw
    try dsimp only at hSw
    go_simp
  try simp only [Act.put, List.getElem_toArray, List.getElem_cons_succ, List.getElem_cons_zero, List.setIfInBounds_toArray, List.set_cons_zero, List.set_cons_succ]
  refine wpAnyH_take (i := 3) (oi := _) (v := .pointer (some ⟨g, 3, none⟩)) rfl (by kernel_rfl) (by kernel_rfl) (by kernel_rfl) (fun _ _ _ h => h) (Or.inl ⟨by rfl, ?_⟩) hHeld ?_
  · intro wq hSw
    try dsimp only at hSw
    go_simp
  try simp only [Act.put, List.getElem_toArray, List.getElem_cons_succ, List.getElem_cons_zero, List.setIfInBounds_toArray, List.set_cons_zero, List.set_cons_succ]
  refine wpAnyH_take (i := 4) (oi := _) (v := .agg #[.bool s2, .slice a2 n2 c2, .int .i64 e2]) rfl (by kernel_rfl) (by kernel_rfl) (by kernel_rfl) (fun _ _ _ h => h) (Or.inl ⟨by rfl, ?_⟩) hHeld ?_
  · intro wq hSw
    try dsimp only at hSw
    go_simp
  try simp only [Act.put, List.getElem_toArray, List.getElem_cons_succ, List.getElem_cons_zero, List.setIfInBounds_toArray, List.set_cons_zero, List.set_cons_succ]
  refine wpAnyH_take (i := 5) (oi := _) (v := .agg #[.bool s1, .slice a1 n1 c1, .int .i64 e1]) rfl (by kernel_rfl) (by kernel_rfl) (by kernel_rfl) (fun _ _ _ h => h) (Or.inl ⟨by rfl, ?_⟩) hHeld ?_
  · intro wq hSw
    try dsimp only at hSw
    go_simp
  try simp only [Act.put, List.getElem_toArray, List.getElem_cons_succ, List.getElem_cons_zero, List.setIfInBounds_toArray, List.set_cons_zero, List.set_cons_succ]
  refine wpAnyH_ready (rs := [6]) (by kernel_rfl) (by simp) ?_
  refine AllReadyH.cons rfl (fun KK hK => ?_) AllReadyH.nil
  simp only [List.getElem_toArray, List.getElem_cons_succ, List.getElem_cons_zero]
  rw [if_pos (by rfl)]
  refine wpv2 f (.tmp 20) (.tmp 24) (.tmp 25) _ rfl rfl hcf (.agg #[.bool s2, .slice a2 n2 c2, .int .i64 e2]) (.agg #[.bool s1, .slice a1 n1 c1, .int .i64 e1]) rfl rfl (unhide H1 _ (unhide K)) ?_
  rintro e w2 ⟨rfl, k2⟩
  refine ⟨_, rfl, ?_⟩
  replace Rf0 := k2.loose0 (World.block_lt_of_cell? _ _ R0) Rf0
  replace Rf1 := k2.loose0 (World.block_lt_of_cell? _ _ R1) Rf1
  replace Rf2 := k2.loose0 (World.block_lt_of_cell? _ _ R2) Rf2
  replace Mmf0 := k2.loose0 (World.block_lt_of_cell? _ _ Mm0) Mmf0
  replace Mmf1 := k2.loose0 (World.block_lt_of_cell? _ _ Mm1) Mmf1
  replace Mmf2 := k2.loose0 (World.block_lt_of_cell? _ _ Mm2) Mmf2
  replace g0 := k2.cell0 g0
  replace g1 := k2.cell0 g1
  replace g2 := k2.cell0 g2
  replace g3 := k2.cell0 g3
  replace g4 := k2.cell0 g4
  replace g5 := k2.cell0 g5
  replace R0 := k2.cell0 R0
  replace R1 := k2.cell0 R1
  replace R2 := k2.cell0 R2
  replace Mm0 := k2.cell0 Mm0
  replace Mm1 := k2.cell0 Mm1
  replace Mm2 := k2.cell0 Mm2
  replace K := hide ((unhide K).trans k2)
  have z3 := k2.size
  clear k2
  clear hHeld
  refine hK.out _ _ ?_ (fun hHeld => ?_)
  · exact ⟨g3, g4, g5, Mm0, Mm1, Mm2⟩
  clear hK KK
  try simp only [Act.put, List.getElem_toArray, List.getElem_cons_succ, List.getElem_cons_zero, List.setIfInBounds_toArray, List.set_cons_zero, List.set_cons_succ]
  refine wpAnyH_take (i := 7) (oi := _) (v := .bool c) rfl (by kernel_rfl) (by kernel_rfl) (by kernel_rfl) (fun _ _ _ h => h) (Or.inl ⟨by rfl, ?_⟩) hHeld ?_
  · intro wq hSw
    try dsimp only at hSw
    go_simp
  try simp only [Act.put, List.getElem_toArray, List.getElem_cons_succ, List.getElem_cons_zero, List.setIfInBounds_toArray, List.set_cons_zero, List.set_cons_succ]
  refine wpAnyH_done (by kernel_rfl) ?_ _
  clear hHeld
  clear hc
  cases c
  · have K7 := hide ((((unhide K).setNew (p := ⟨w.heap.size, 0, none⟩) (by simp) (.bool s1)).setNew (p := ⟨w.heap.size, 1, none⟩) (by simp) (.slice a1 n1 c1)).setNew (p := ⟨w.heap.size, 2, none⟩) (by simp) (.int .i64 e1))
    clear K
    go_wp2_with fail
    rw [rounds_succ]
    go_wp2_with fail
    exact bodyPost_ret (v := .agg #[.bool s1, .slice a1 n1 c1, .int .i64 e1]) (by simp [results, Tryd.results29, go_sem, R0, R1, R2]) rfl ⟨rfl, unhide K7⟩
  · have K7 := hide (((((((unhide K).setNew (p := ⟨w.heap.size + 1, 0, none⟩) (by simp) (.bool s2)).setNew (p := ⟨w.heap.size + 1, 1, none⟩) (by simp) (.slice a2 n2 c2)).setNew (p := ⟨w.heap.size + 1, 2, none⟩) (by simp) (.int .i64 e2)).setNew (p := ⟨w.heap.size, 0, none⟩) (by simp) (.bool s2)).setNew (p := ⟨w.heap.size, 1, none⟩) (by simp) (.slice a2 n2 c2)).setNew (p := ⟨w.heap.size, 2, none⟩) (by simp) (.int .i64 e2))
    clear K
    go_wp2_with fail
    rw [rounds_succ]
    go_wp2_with fail
    exact bodyPost_ret (v := .agg #[.bool s2, .slice a2 n2 c2, .int .i64 e2]) (by simp [results, Tryd.results29, go_sem, R0, R1, R2]) rfl ⟨rfl, unhide K7⟩

end Go.Proofs.YtgdgkncielliaaaDoor
