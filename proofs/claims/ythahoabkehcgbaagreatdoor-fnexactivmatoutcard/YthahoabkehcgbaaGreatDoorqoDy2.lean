/-
  Dyadic numbers: the model's l4top and DyTop; the program's dyadicOf, top and DyTop.
-/
import Derived.Test.YthahoabkehcgbaaGreatDoorqoBG
import Derived.Test.YthahoabkehcgbaaGreatDoorqoBI
namespace Go.Proofs.YthahoabkehcgbaaGreatDoor
open Go.RowKit
set_option linter.unusedVariables false
set_option maxRecDepth 8000
set_option linter.unusedSimpArgs false

theorem w64 (n : Int) (h0 : -9223372036854775808 ≤ n) (h1 : n ≤ 9223372036854775807) : IntKind.i64.wrap n = n := by rw [IntKind.wrap_i64]; omega
set_option maxHeartbeats 1000000 in
theorem dyadicOf_impl {bw : Bool} {lo hi : Nat} {v : Value} {zs : List Int} (b : Bool) (x : Int) (w : World) (r : Row .i64 bw lo hi w v zs) (hl : zs.length ≤ 1000000) :
    Calls Tryz.prog 129 #[.agg #[.bool b, v, .int .i64 x]] w fun e w' => ∃ v', e = .returned (.agg #[v', .bool b, .int .i64 x]) ∧ w'.ownsRow w.heap.size 3 1 v' zs.length (zs.map (Value.int .i64)) ∧ Kept 0 0 w w' := by
  have k0 : Kept 0 0 w ((w.alloc (.cells #[.bool b, v, .int .i64 x] 52)).alloc (.cells #[.slice none 0 0, .bool false, .int .i64 0] 150)) := (((Kept.refl 0 0 w).alloc (.cells #[.bool b, v, .int .i64 x] 52)).alloc (.cells #[.slice none 0 0, .bool false, .int .i64 0] 150))
  have p0 : ((w.alloc (.cells #[.bool b, v, .int .i64 x] 52)).alloc (.cells #[.slice none 0 0, .bool false, .int .i64 0] 150)).cell? ⟨w.heap.size, 0, none⟩ = some (.bool b) := old_cell _ (new_cell2 _ _ _ _ _ _ (by simp) rfl)
  have p1 : ((w.alloc (.cells #[.bool b, v, .int .i64 x] 52)).alloc (.cells #[.slice none 0 0, .bool false, .int .i64 0] 150)).cell? ⟨w.heap.size, 1, none⟩ = some (v) := old_cell _ (new_cell2 _ _ _ _ _ _ (by simp) rfl)
  have p2 : ((w.alloc (.cells #[.bool b, v, .int .i64 x] 52)).alloc (.cells #[.slice none 0 0, .bool false, .int .i64 0] 150)).cell? ⟨w.heap.size, 2, none⟩ = some (.int .i64 x) := old_cell _ (new_cell2 _ _ _ _ _ _ (by simp) rfl)
  have q0 : ((w.alloc (.cells #[.bool b, v, .int .i64 x] 52)).alloc (.cells #[.slice none 0 0, .bool false, .int .i64 0] 150)).cell? ⟨w.heap.size + 1, 0, none⟩ = some (.slice none 0 0) := new_cell2 _ _ _ _ _ _ (by simp) rfl
  have qf0 : ((w.alloc (.cells #[.bool b, v, .int .i64 x] 52)).alloc (.cells #[.slice none 0 0, .bool false, .int .i64 0] 150)).frozen? ⟨w.heap.size + 1, 0, none⟩ = false := new_loose2 _ _ _ _ _ (by simp)
  have q1 : ((w.alloc (.cells #[.bool b, v, .int .i64 x] 52)).alloc (.cells #[.slice none 0 0, .bool false, .int .i64 0] 150)).cell? ⟨w.heap.size + 1, 1, none⟩ = some (.bool false) := new_cell2 _ _ _ _ _ _ (by simp) rfl
  have qf1 : ((w.alloc (.cells #[.bool b, v, .int .i64 x] 52)).alloc (.cells #[.slice none 0 0, .bool false, .int .i64 0] 150)).frozen? ⟨w.heap.size + 1, 1, none⟩ = false := new_loose2 _ _ _ _ _ (by simp)
  have q2 : ((w.alloc (.cells #[.bool b, v, .int .i64 x] 52)).alloc (.cells #[.slice none 0 0, .bool false, .int .i64 0] 150)).cell? ⟨w.heap.size + 1, 2, none⟩ = some (.int .i64 0) := new_cell2 _ _ _ _ _ _ (by simp) rfl
  have qf2 : ((w.alloc (.cells #[.bool b, v, .int .i64 x] 52)).alloc (.cells #[.slice none 0 0, .bool false, .int .i64 0] 150)).frozen? ⟨w.heap.size + 1, 2, none⟩ = false := new_loose2 _ _ _ _ _ (by simp)
  replace r := r.kept k0 (by omega)
  have s0 : ((w.alloc (.cells #[.bool b, v, .int .i64 x] 52)).alloc (.cells #[.slice none 0 0, .bool false, .int .i64 0] 150)).heap.size = w.heap.size + 2 := by simp
  obtain ⟨a, c, hv⟩ := Row.form' r
  subst hv
  have K := hide (k0)
  clear k0
  have S0 := hide s0
  clear s0
  go_enter Tryz.func129, Tryz.ntmps129
  go_wp2_with fail
  generalize ((w.alloc (.cells #[.bool b, .slice a zs.length c, .int .i64 x] 52)).alloc (.cells #[.slice none 0 0, .bool false, .int .i64 0] 150)) = W at *
  have kd := (Kept.refl 0 0 W).drew
  replace r := r.kept kd (by omega)
  replace qf0 := kd.loose0 (World.block_lt_of_cell? _ _ q0) qf0
  replace qf1 := kd.loose0 (World.block_lt_of_cell? _ _ q1) qf1
  replace qf2 := kd.loose0 (World.block_lt_of_cell? _ _ q2) qf2
  replace p0 := kd.cell0 p0
  replace p1 := kd.cell0 p1
  replace p2 := kd.cell0 p2
  replace q0 := kd.cell0 q0
  replace q1 := kd.cell0 q1
  replace q2 := kd.cell0 q2
  replace K := hide ((unhide K).trans kd)
  have z1 := kd.size
  clear kd
  refine wp_region_held_drew (S := (fun w' => w'.cell? ⟨w.heap.size, 0, none⟩ = some (.bool b) ∧ w'.cell? ⟨w.heap.size, 1, none⟩ = some (.slice a zs.length c) ∧ w'.cell? ⟨w.heap.size, 2, none⟩ = some (.int .i64 x))) (by kernel_rfl) ?_ (fun hHeld => ?_)
  · exact ⟨p0, p1, p2⟩
  refine wpAnyH_take (i := 0) (oi := _) (v := .pointer (some ⟨w.heap.size, 0, none⟩)) rfl (by kernel_rfl) (by kernel_rfl) (by kernel_rfl) (fun _ _ _ h => h) (Or.inl ⟨by rfl, ?_⟩) hHeld ?_
  · intro wq hSw
    try dsimp only at hSw
    go_simp
  try simp only [Act.put, List.getElem_toArray, List.getElem_cons_succ, List.getElem_cons_zero, List.setIfInBounds_toArray, List.set_cons_zero, List.set_cons_succ]
  refine wpAnyH_take (i := 1) (oi := _) (v := .agg #[.bool b, .slice a zs.length c]) rfl (by kernel_rfl) (by kernel_rfl) (by kernel_rfl) (fun _ _ _ h => h) (Or.inl ⟨by rfl, ?_⟩) hHeld ?_
  · intro wq hSw
    try dsimp only at hSw
    go_simp
  try simp only [Act.put, List.getElem_toArray, List.getElem_cons_succ, List.getElem_cons_zero, List.setIfInBounds_toArray, List.set_cons_zero, List.set_cons_succ]
  refine wpAnyH_take (i := 3) (oi := _) (v := .pointer (some ⟨w.heap.size, 2, none⟩)) rfl (by kernel_rfl) (by kernel_rfl) (by kernel_rfl) (fun _ _ _ h => h) (Or.inl ⟨by rfl, ?_⟩) hHeld ?_
  · intro wq hSw
    try dsimp only at hSw
    go_simp
  try simp only [Act.put, List.getElem_toArray, List.getElem_cons_succ, List.getElem_cons_zero, List.setIfInBounds_toArray, List.set_cons_zero, List.set_cons_succ]
  refine wpAnyH_take (i := 4) (oi := _) (v := .int .i64 x) rfl (by kernel_rfl) (by kernel_rfl) (by kernel_rfl) (fun _ _ _ h => h) (Or.inl ⟨by rfl, ?_⟩) hHeld ?_
  · intro wq hSw
    try dsimp only at hSw
    go_simp
  try simp only [Act.put, List.getElem_toArray, List.getElem_cons_succ, List.getElem_cons_zero, List.setIfInBounds_toArray, List.set_cons_zero, List.set_cons_succ]
  refine wpAnyH_ready (rs := [2]) (by kernel_rfl) (by simp) ?_
  refine AllReadyH.cons rfl (fun KK hK => ?_) AllReadyH.nil
  simp only [List.getElem_toArray, List.getElem_cons_succ, List.getElem_cons_zero]
  rw [if_pos (by rfl)]
  refine wps1 183 (.tmp 4) _ rfl in_signedOf (.agg #[.bool b, .slice a zs.length c]) rfl (signedOf_impl b _ r hl) ?_
  rintro e w2 ⟨v3, rfl, o3, k2⟩
  refine ⟨_, rfl, ?_⟩
  replace r := r.kept k2 (by omega)
  replace qf0 := k2.loose0 (World.block_lt_of_cell? _ _ q0) qf0
  replace qf1 := k2.loose0 (World.block_lt_of_cell? _ _ q1) qf1
  replace qf2 := k2.loose0 (World.block_lt_of_cell? _ _ q2) qf2
  replace p0 := k2.cell0 p0
  replace p1 := k2.cell0 p1
  replace p2 := k2.cell0 p2
  replace q0 := k2.cell0 q0
  replace q1 := k2.cell0 q1
  replace q2 := k2.cell0 q2
  replace K := hide ((unhide K).trans k2)
  have z3 := k2.size
  clear k2
  clear hHeld
  refine hK.out _ _ ?_ (fun hHeld => ?_)
  · exact ⟨p0, p1, p2⟩
  clear hK KK
  try simp only [Act.put, List.getElem_toArray, List.getElem_cons_succ, List.getElem_cons_zero, List.setIfInBounds_toArray, List.set_cons_zero, List.set_cons_succ]
  obtain ⟨a3, c3, hv⟩ := own_slice o3
  subst hv
  refine wpAnyH_take (i := 5) (oi := _) (v := .agg #[.slice a3 zs.length c3, .bool b, .int .i64 x]) rfl (by kernel_rfl) (by kernel_rfl) (by kernel_rfl) (fun _ _ _ h => h) (Or.inl ⟨by rfl, ?_⟩) hHeld ?_
  · intro wq hSw
    try dsimp only at hSw
    go_simp
  try simp only [Act.put, List.getElem_toArray, List.getElem_cons_succ, List.getElem_cons_zero, List.setIfInBounds_toArray, List.set_cons_zero, List.set_cons_succ]
  refine wpAnyH_ready (rs := [6]) (by kernel_rfl) (by simp) ?_
  refine AllReadyH.cons rfl (fun KK hK => ?_) AllReadyH.nil
  simp only [List.getElem_toArray, List.getElem_cons_succ, List.getElem_cons_zero]
  rw [if_pos (by rfl)]
  go_simp
  clear hHeld
  refine hK.out _ _ ?_ (fun hHeld => ?_)
  · exact ⟨(cell_aside _ (by have := unhide S0; dsimp only; omega) (cell_aside _ (by have := unhide S0; dsimp only; omega) (cell_aside _ (by have := unhide S0; dsimp only; omega) p0))), (cell_aside _ (by have := unhide S0; dsimp only; omega) (cell_aside _ (by have := unhide S0; dsimp only; omega) (cell_aside _ (by have := unhide S0; dsimp only; omega) p1))), (cell_aside _ (by have := unhide S0; dsimp only; omega) (cell_aside _ (by have := unhide S0; dsimp only; omega) (cell_aside _ (by have := unhide S0; dsimp only; omega) p2)))⟩
  clear hK KK
  try simp only [Act.put, List.getElem_toArray, List.getElem_cons_succ, List.getElem_cons_zero, List.setIfInBounds_toArray, List.set_cons_zero, List.set_cons_succ]
  refine wpAnyH_done (by kernel_rfl) ?_ _
  clear hHeld
  have o3l := o3.lt
  have O := hide (own_less (own_apart (own_apart (own_apart o3 (p := ⟨w.heap.size + 1, 0, none⟩) (fun e => by have := (o3l _ e).1; have := unhide S0; dsimp only at *; omega) (.slice a3 zs.length c3)) (p := ⟨w.heap.size + 1, 1, none⟩) (fun e => by have := (o3l _ e).1; have := unhide S0; dsimp only at *; omega) (.bool b)) (p := ⟨w.heap.size + 1, 2, none⟩) (fun e => by have := (o3l _ e).1; have := unhide S0; dsimp only at *; omega) (.int .i64 x)) (base' := w.heap.size) (by have := unhide S0; omega))
  have K7 := hide ((((unhide K).setNew (p := ⟨w.heap.size + 1, 0, none⟩) (by simp) (.slice a3 zs.length c3)).setNew (p := ⟨w.heap.size + 1, 1, none⟩) (by simp) (.bool b)).setNew (p := ⟨w.heap.size + 1, 2, none⟩) (by simp) (.int .i64 x))
  clear o3 o3l r K
  go_wp2_with fail
  exact bodyPost_ret (v := .agg #[.slice a3 zs.length c3, .bool b, .int .i64 x]) (by simp [results, Tryz.results129, go_sem, q0, q1, q2]) rfl ⟨_, rfl, unhide O, unhide K7⟩

theorem in_dyadicOf : ∀ (w : World) (args : Array Value), (callFunc 129 args).run Tryz.prog w = .ok (.enter 129 args) w := enters Tryz.func129 (by decide) (fun h => by cases h)

/-- A dyadic number's power of two, in the third cell of its block. -/
def Ex (w : World) (g : Nat) (x : Int) : Prop := w.cell? ⟨g, 2, none⟩ = some (.int .i64 x) ∧ w.frozen? ⟨g, 2, none⟩ = false
theorem Ex.tail {w w' : World} {g : Nat} {x : Int} (h : Ex w g x) (k : SameTail g w w') : Ex w' g x := ⟨(k 2 (Nat.le_refl 2)).1.trans h.1, (k 2 (Nat.le_refl 2)).2.trans h.2⟩
theorem Ex.lt {w : World} {g : Nat} {x : Int} (h : Ex w g x) : g < w.heap.size := World.block_lt_of_cell? _ ⟨g, 2, none⟩ h.1
theorem Ex.kept {w w' : World} {g : Nat} {x : Int} (h : Ex w g x) (k : Kept 0 0 w w') : Ex w' g x := h.tail (k.side h.lt).tail
theorem new_dya {w : World} {b : Nat} {u : Value} {xs : List Int} (s : Bool) (x : Int) (t : TypeId) (O : w.ownsRow b 3 1 u xs.length (xs.map (Value.int .i64))) :
    Num b (w.alloc (.cells #[u, .bool s, .int .i64 x] t)) w.heap.size u xs ∧ Sd (w.alloc (.cells #[u, .bool s, .int .i64 x] t)) w.heap.size s ∧ Ex (w.alloc (.cells #[u, .bool s, .int .i64 x] t)) w.heap.size x :=
  ⟨⟨new_cell2 _ _ _ _ _ _ rfl rfl, new_loose2 _ _ _ _ _ rfl, own_kept O ((Kept.refl 0 0 w).alloc _), fun e => by have := (O.lt _ e).2; omega⟩, ⟨new_cell2 _ _ _ _ _ _ rfl rfl, new_loose2 _ _ _ _ _ rfl⟩, ⟨new_cell2 _ _ _ _ _ _ rfl rfl, new_loose2 _ _ _ _ _ rfl⟩⟩

end Go.Proofs.YthahoabkehcgbaaGreatDoor

