/-
  The program's opposite of a number, each of a square.
-/
import Derived.Test.YtgoncjcnakkaoaaGreatDoorPl2
import Derived.Test.YtgoncjcnakkaoaaGreatDoorBI
import Derived.Deep.DeepCutAuto
import Derived.Deep.RegionHeld3
namespace Go.Proofs.YtgoncjcnakkaoaaGreatDoor
open Go.RowKit
set_option linter.unusedVariables false
set_option maxRecDepth 8000
set_option linter.unusedSimpArgs false

/-- A call of a function value of one argument, as one step of an open statement. -/
theorem wpv1c {P : Program} {o : Oper} {a : Act} {w : World} {K : Act → World → Prop} {Q : Exit → Act → World → Prop} {R : Ending → World → Prop}
    (n : FuncId) (f x : Operand) (ts : Array TypeId) (hop : o.op = Op.call { callee := Callee.value f, args := #[x], argTypes := ts }) (hf : a.eval f = .func (.func n) #[] #[])
    (hcf : ∀ (w : World) (args : Array Value), (callFunc n args).run P w = .ok (.enter n args) w) (vx : Value) (hx : a.eval x = vx) (hc : Calls P n #[vx] w R) (hK : ∀ e w', R e w' → ∃ v, e = .returned v ∧ K (a.put o.dst v) w') :
    Oper.wp P o a w K Q := by
  unfold Oper.wp
  have hrun : (execOp a.eval o).run P w = .ok (.enter n #[vx]) w := by
    simp [execOp, hop, resolve, invoke, hx, hf, Deferred.ofValue, Result.andThen, hcf]
  rw [hrun, Oper.upon_enter]
  refine hc.mono ?_
  intro e w' h
  obtain ⟨v, rfl, h2⟩ := hK e w' h
  exact h2
theorem wval_turn (s : Bool) (zs : List Int) : wval (!s) zs = -wval s zs := by
  unfold wval
  cases s <;> simp

theorem in_each1 : ∀ (w : World) (args : Array Value), (callFunc 62 args).run Tryz.prog w = .ok (.enter 62 args) w := enters Tryz.func62 (by decide) (fun h => by cases h)

set_option maxHeartbeats 8000000 in
theorem each1_impl {PP : World → Nat → DE → Prop} {BD B1 R1 r1 g1 n i j : Nat} (FN : FuncId) (hcf : ∀ (w : World) (args : Array Value), (callFunc FN args).run Tryz.prog w = .ok (.enter FN args) w) (w : World) (hi : i < n) (hj : j < n) (f0 : w.cell? ⟨BD, 0, none⟩ = some (.func (.func FN) #[] #[])) (c0 : w.cell? ⟨B1, 0, none⟩ = some (.slice (some ⟨R1, 0, none⟩) n n)) (c1 : w.cell? ⟨R1, i, none⟩ = some (.slice (some ⟨r1, 0, none⟩) n n)) (c2 : w.cell? ⟨r1, j, none⟩ = some (.pointer (some ⟨g1, 0, none⟩)))
    (hc : Calls Tryz.prog FN #[.pointer (some ⟨g1, 0, none⟩)] w.drew fun e w' => ∃ g d, e = .returned (.pointer (some ⟨g, 0, none⟩)) ∧ PP w' g d ∧ Kept 0 0 w.drew w') :
    Calls Tryz.prog 62 #[.int .i64 (i : Int), .int .i64 (j : Int), .pointer (some ⟨BD, 0, none⟩), .pointer (some ⟨B1, 0, none⟩)] w fun e w' => ∃ g d, e = .returned (.pointer (some ⟨g, 0, none⟩)) ∧ PP w' g d ∧ Kept 0 0 w w' := by
  go_enter Tryz.func62, Tryz.ntmps62
  go_wp2_with fail
  have kd := (Kept.refl 0 0 w).drew
  replace f0 := kd.cell0 f0
  replace c0 := kd.cell0 c0
  replace c1 := kd.cell0 c1
  replace c2 := kd.cell0 c2
  have KD := hide kd
  clear kd
  refine wp_region_held_drew (S := (fun w' => w'.cell? ⟨BD, 0, none⟩ = some (.func (.func FN) #[] #[]) ∧ w'.cell? ⟨B1, 0, none⟩ = some (.slice (some ⟨R1, 0, none⟩) n n) ∧ w'.cell? ⟨R1, i, none⟩ = some (.slice (some ⟨r1, 0, none⟩) n n) ∧ w'.cell? ⟨r1, j, none⟩ = some (.pointer (some ⟨g1, 0, none⟩)))) (by kernel_rfl) ?_ (fun hHeld => ?_)
  · exact ⟨f0, c0, c1, c2⟩
  refine wpAnyH_take (i := 0) (oi := _) (v := .func (.func FN) #[] #[]) rfl (by kernel_rfl) (by kernel_rfl) (by kernel_rfl) (fun _ _ _ h => h) (Or.inl ⟨by rfl, ?_⟩) hHeld ?_
  · intro wq hSw
    try dsimp only at hSw
    go_simp
  try simp only [Act.put, List.getElem_toArray, List.getElem_cons_succ, List.getElem_cons_zero, List.setIfInBounds_toArray, List.set_cons_zero, List.set_cons_succ]
  refine wpAnyH_take (i := 1) (oi := _) (v := .pointer (some ⟨B1, 0, none⟩)) rfl (by kernel_rfl) (by kernel_rfl) (by kernel_rfl) (fun _ _ _ h => h) (Or.inl ⟨by rfl, ?_⟩) hHeld ?_
  · intro wq hSw
    try dsimp only at hSw
    go_simp
  try simp only [Act.put, List.getElem_toArray, List.getElem_cons_succ, List.getElem_cons_zero, List.setIfInBounds_toArray, List.set_cons_zero, List.set_cons_succ]
  refine wpAnyH_take (i := 2) (oi := _) (v := .slice (some ⟨R1, 0, none⟩) n n) rfl (by kernel_rfl) (by kernel_rfl) (by kernel_rfl) (fun _ _ _ h => h) (Or.inl ⟨by rfl, ?_⟩) hHeld ?_
  · intro wq hSw
    try dsimp only at hSw
    go_simp
  try simp only [Act.put, List.getElem_toArray, List.getElem_cons_succ, List.getElem_cons_zero, List.setIfInBounds_toArray, List.set_cons_zero, List.set_cons_succ]
  refine wpAnyH_take (i := 3) (oi := _) (v := .int .i64 (i : Int)) rfl (by kernel_rfl) (by kernel_rfl) (by kernel_rfl) (fun _ _ _ h => h) (Or.inl ⟨by rfl, ?_⟩) hHeld ?_
  · intro wq hSw
    try dsimp only at hSw
    go_simp
  try simp only [Act.put, List.getElem_toArray, List.getElem_cons_succ, List.getElem_cons_zero, List.setIfInBounds_toArray, List.set_cons_zero, List.set_cons_succ]
  refine wpAnyH_take (i := 4) (oi := _) (v := .pointer (some ⟨R1, i, none⟩)) rfl (by kernel_rfl) (by kernel_rfl) (by kernel_rfl) (fun _ _ _ h => h) (Or.inl ⟨by rfl, ?_⟩) hHeld ?_
  · intro wq hSw
    try dsimp only at hSw
    go_simp
  try simp only [Act.put, List.getElem_toArray, List.getElem_cons_succ, List.getElem_cons_zero, List.setIfInBounds_toArray, List.set_cons_zero, List.set_cons_succ]
  refine wpAnyH_take (i := 5) (oi := _) (v := .slice (some ⟨r1, 0, none⟩) n n) rfl (by kernel_rfl) (by kernel_rfl) (by kernel_rfl) (fun _ _ _ h => h) (Or.inl ⟨by rfl, ?_⟩) hHeld ?_
  · intro wq hSw
    try dsimp only at hSw
    go_simp
  try simp only [Act.put, List.getElem_toArray, List.getElem_cons_succ, List.getElem_cons_zero, List.setIfInBounds_toArray, List.set_cons_zero, List.set_cons_succ]
  refine wpAnyH_take (i := 6) (oi := _) (v := .int .i64 (j : Int)) rfl (by kernel_rfl) (by kernel_rfl) (by kernel_rfl) (fun _ _ _ h => h) (Or.inl ⟨by rfl, ?_⟩) hHeld ?_
  · intro wq hSw
    try dsimp only at hSw
    go_simp
  try simp only [Act.put, List.getElem_toArray, List.getElem_cons_succ, List.getElem_cons_zero, List.setIfInBounds_toArray, List.set_cons_zero, List.set_cons_succ]
  refine wpAnyH_take (i := 7) (oi := _) (v := .pointer (some ⟨r1, j, none⟩)) rfl (by kernel_rfl) (by kernel_rfl) (by kernel_rfl) (fun _ _ _ h => h) (Or.inl ⟨by rfl, ?_⟩) hHeld ?_
  · intro wq hSw
    try dsimp only at hSw
    go_simp
  try simp only [Act.put, List.getElem_toArray, List.getElem_cons_succ, List.getElem_cons_zero, List.setIfInBounds_toArray, List.set_cons_zero, List.set_cons_succ]
  refine wpAnyH_take (i := 8) (oi := _) (v := .pointer (some ⟨g1, 0, none⟩)) rfl (by kernel_rfl) (by kernel_rfl) (by kernel_rfl) (fun _ _ _ h => h) (Or.inl ⟨by rfl, ?_⟩) hHeld ?_
  · intro wq hSw
    try dsimp only at hSw
    go_simp
  try simp only [Act.put, List.getElem_toArray, List.getElem_cons_succ, List.getElem_cons_zero, List.setIfInBounds_toArray, List.set_cons_zero, List.set_cons_succ]
  refine wpAnyH_ready (rs := [9]) (by kernel_rfl) (by simp) ?_
  refine AllReadyH.cons rfl (fun KK hK => ?_) AllReadyH.nil
  simp only [List.getElem_toArray, List.getElem_cons_succ, List.getElem_cons_zero]
  rw [if_pos (by rfl)]
  refine wpv1c FN (.tmp 7) (.tmp 15) _ rfl rfl hcf (.pointer (some ⟨g1, 0, none⟩)) rfl hc ?_
  rintro e w1 ⟨g, d, rfl, pp, k1⟩
  refine ⟨_, rfl, ?_⟩
  replace f0 := k1.cell0 f0
  replace c0 := k1.cell0 c0
  replace c1 := k1.cell0 c1
  replace c2 := k1.cell0 c2
  have K1 := hide ((unhide KD).trans k1)
  have PQ := hide pp
  clear hc k1 pp
  clear hHeld
  refine hK.out _ _ ?_ (fun hHeld => ?_)
  · exact ⟨f0, c0, c1, c2⟩
  clear hK KK
  try simp only [Act.put, List.getElem_toArray, List.getElem_cons_succ, List.getElem_cons_zero, List.setIfInBounds_toArray, List.set_cons_zero, List.set_cons_succ]
  refine wpAnyH_take (i := 10) (oi := _) (v := .pointer (some ⟨g, 0, none⟩)) rfl (by kernel_rfl) (by kernel_rfl) (by kernel_rfl) (fun _ _ _ h => h) (Or.inl ⟨by rfl, ?_⟩) hHeld ?_
  · intro wq hSw
    try dsimp only at hSw
    go_simp
  try simp only [Act.put, List.getElem_toArray, List.getElem_cons_succ, List.getElem_cons_zero, List.setIfInBounds_toArray, List.set_cons_zero, List.set_cons_succ]
  refine wpAnyH_done (by kernel_rfl) ?_ _
  clear hHeld f0 c0 c1 c2
  go_wp2_with fail
  go_ret
  exact ⟨g, d, rfl, unhide PQ, unhide K1⟩

set_option maxHeartbeats 8000000 in
theorem eachS_impl {S1 : Nat → Prop} {R1 n b1 : Nat} {G1 : Nat → Nat} {F1 : Nat → DE} {L : Int} {V : Nat → Int} (FN : FuncId) (hcf : ∀ (w : World) (args : Array Value), (callFunc FN args).run Tryz.prog w = .ok (.enter FN args) w) (w : World) (hn : n ≤ 1000) (s1 : SqG S1 w R1 n n G1) (m1 : Nums b1 S1 w (n * n) G1 F1)
    (H : ∀ p u w', p < n * n → Num 0 w' (G1 p) u (F1 p).2.1 → Sd w' (G1 p) (F1 p).1 → Ex w' (G1 p) (F1 p).2.2 → Calls Tryz.prog FN #[.pointer (some ⟨G1 p, 0, none⟩)] w' fun e w'' => ∃ g d, e = .returned (.pointer (some ⟨g, 0, none⟩)) ∧ DyP (fun y => y < w'.heap.size) w'' g d ∧ NV L (V p) d ∧ Kept 0 0 w' w'') :
    Calls Tryz.prog 35 #[.agg #[.slice (some ⟨R1, 0, none⟩) n n], .func (.func FN) #[] #[]] w fun e w' => ∃ R G S F, e = .returned (.agg #[.slice (some ⟨R, 0, none⟩) n n]) ∧ SqG S w' R n n G ∧ Nums w.heap.size S w' (n * n) G F ∧ (∀ p, p < n * n → NV L (V p) (F p)) ∧ (∀ x, S x → w.heap.size ≤ x ∧ x < w'.heap.size) ∧ Kept 0 0 w w' := by
  obtain ⟨W, hW⟩ : ∃ W, W = ((w.alloc (.cells #[.slice (some ⟨R1, 0, none⟩) n n] 53)).alloc (.cells #[.func (.func FN) #[] #[]] 73)).alloc (.cells #[.slice none 0 0] 53) := ⟨_, rfl⟩
  have k0 : Kept 0 0 w W := by rw [hW]; exact (((Kept.refl 0 0 w).alloc _).alloc _).alloc _
  have c0 : W.cell? ⟨w.heap.size, 0, none⟩ = some (.slice (some ⟨R1, 0, none⟩) n n) := by rw [hW]; exact old_cell _ (old_cell _ (new_cell2 _ _ _ _ _ _ (by simp) rfl))
  have d0 : W.cell? ⟨w.heap.size + 1, 0, none⟩ = some (.func (.func FN) #[] #[]) := by rw [hW]; exact old_cell _ (new_cell2 _ _ _ _ _ _ (by simp) rfl)
  have q0 : W.cell? ⟨w.heap.size + 2, 0, none⟩ = some (.slice none 0 0) := by rw [hW]; exact new_cell2 _ _ _ _ _ _ (by simp) rfl
  have qf : W.frozen? ⟨w.heap.size + 2, 0, none⟩ = false := by rw [hW]; exact new_loose2 _ _ _ _ _ (by simp)
  have sW : W.heap.size = w.heap.size + 3 := by rw [hW]; simp
  have hm := makeSquare_newQ (n := n) hn 62 in_each1 #[.pointer (some ⟨w.heap.size + 1, 0, none⟩), .pointer (some ⟨w.heap.size, 0, none⟩)] (fun p d => NV L (V p) d) W (fun i j w' hi hj k => by
    have kk := k0.trans k
    have hp := place_lt hi hj
    obtain ⟨r1, cr1, -, -, -, q1⟩ := s1.2.2 i hi
    obtain ⟨u1, n1, dd1, ee1⟩ := m1.at hp
    have kd : Kept 0 0 w w'.drew := kk.drew
    have hc := H (i * n + j) u1 w'.drew hp (n1.kept kd) ⟨kd.cell0 dd1.1, kd.loose0 (a := ⟨G1 (i * n + j), 1, none⟩) n1.lt dd1.2⟩ ⟨kd.cell0 ee1.1, kd.loose0 (a := ⟨G1 (i * n + j), 2, none⟩) n1.lt ee1.2⟩
    refine (each1_impl (PP := fun w'' g d => DyP (fun y => y < w'.heap.size) w'' g d ∧ NV L (V (i * n + j)) d) (BD := w.heap.size + 1) (B1 := w.heap.size) FN hcf w' hi hj (k.cell0 d0) (k.cell0 c0) (kk.cell0 cr1) (kk.cell0 (q1 j hj)) (hc.mono ?_)).mono ?_
    · rintro e w'' ⟨g, d, rfl, dp, nv, k'⟩
      exact ⟨g, d, rfl, ⟨dp, nv⟩, k'⟩
    · rintro e w'' ⟨g, d, rfl, ⟨dp, nv⟩, k'⟩
      exact ⟨g, d, rfl, dp, nv, k'⟩)
  rw [hW] at hm c0
  have SW := hide sW
  clear s1 m1 H sW
  go_enter Tryz.func35, Tryz.ntmps35
  go_wp2_with fail
  refine hm.mono ?_
  rw [← hW]
  rintro e w1 ⟨R, G, S, F, rfl, sq, nm, hq, hS, hR, k1⟩
  have q1 := k1.cell0 q0
  have qf1 := k1.loose0 (World.block_lt_of_cell? _ _ q0) qf
  have sW := unhide SW
  have E1 := cell_on w1 (w.heap.size + 2) 0 (.slice (some ⟨R, 0, none⟩) n n) _ q1
  have ks : Kept (w.heap.size + 2) (w.heap.size + 3) w1 (w1.setCell ⟨w.heap.size + 2, 0, none⟩ (.slice (some ⟨R, 0, none⟩) n n)) := (Kept.refl _ _ _).setCell (p := ⟨w.heap.size + 2, 0, none⟩) (Nat.le_refl _) (Nat.lt_succ_self _) _
  have S2 : Hid (SqG S (w1.setCell ⟨w.heap.size + 2, 0, none⟩ (.slice (some ⟨R, 0, none⟩) n n)) R n n G ∧ Nums w.heap.size S (w1.setCell ⟨w.heap.size + 2, 0, none⟩ (.slice (some ⟨R, 0, none⟩) n n)) (n * n) G F ∧ (∀ p, p < n * n → NV L (V p) (F p)) ∧ (∀ x, S x → w.heap.size ≤ x ∧ x < (w1.setCell ⟨w.heap.size + 2, 0, none⟩ (.slice (some ⟨R, 0, none⟩) n n)).heap.size)) :=
    ⟨sq.keptY ks (by omega), (nm.win ks (by omega)).less (by omega), hq, fun x hx => by (have := hS x hx; rw [size_set]; omega)⟩
  have K2 := hide ((k0.trans k1).wide ks (by omega))
  clear hm sq nm hq hS hR k1 ks sW q0 qf c0 d0
  go_wp2
  exact bodyPost_ret (v := .agg #[.slice (some ⟨R, 0, none⟩) n n]) (by simp [results, Tryz.results35, go_sem, E1]) rfl ⟨R, G, S, F, rfl, (unhide S2).1, (unhide S2).2.1, (unhide S2).2.2.1, (unhide S2).2.2.2, unhide K2⟩

end Go.Proofs.YtgoncjcnakkaoaaGreatDoor
