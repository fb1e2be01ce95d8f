/-
  The program's opposite of a number, each of a square.
-/
import Derived.Test.YthahoabkehcgbaaGreatDoorBW
import Derived.Test.YthahoabkehcgbaaGreatDoorBI
import Derived.Deep.DeepCutAuto
import Derived.Deep.RegionHeld3
namespace Go.Proofs.YthahoabkehcgbaaGreatDoor
open Go.RowKit
set_option linter.unusedVariables false
set_option maxRecDepth 8000
set_option linter.unusedSimpArgs false

/-- A call of a function value of one argument, as one step of an open statement. -/
theorem wpv1c {P : Program} {o : Oper} {a : Act} {w : World} {K : Act → World → Prop} {Q : Exit → Act → World → Prop} {R : Ending → World → Prop}
    (n : FuncId) (f x : Operand) (ts : Array TypeId) (hop : o.op = Op.call { callee := Callee.value f, args := #[x], argTypes := ts }) (hf : a.eval f = .func (.func n) #[] #[])
    (hcf : ∀ (w : World) (args : Array Value), (callFunc n args).run P w = .ok (.enter n args) w) (vx : Value) (hx : a.eval x = vx) (hc : Calls P n #[vx] w R) (hK : ∀ e w', R e w' → ∃ v, e = .returned v ∧ K (a.put o.dst v) w') :
    Oper.wp P o a w K Q := by
  unfold Oper.wp
  have hrun : (execOp a.eval o).run P w = .ok (.enter n #[vx]) w := by
    simp [execOp, hop, resolve, invoke, hx, hf, Deferred.ofValue, Result.andThen, hcf]
  rw [hrun, Oper.upon_enter]
  refine hc.mono ?_
  intro e w' h
  obtain ⟨v, rfl, h2⟩ := hK e w' h
  exact h2
theorem wval_turn (s : Bool) (zs : List Int) : wval (!s) zs = -wval s zs := by
  unfold wval
  cases s <;> simp

set_option maxHeartbeats 4000000 in
theorem oppD_impl {L V : Int} {g1 : Nat} {u1 : Value} {a : DE} (w : World) (n1 : Num 0 w g1 u1 a.2.1) (d1 : Sd w g1 a.1) (e1 : Ex w g1 a.2.2) (i1 : NV L V a) :
    Calls Tryz.prog 83 #[.pointer (some ⟨g1, 0, none⟩)] w fun e w' => ∃ g d, e = .returned (.pointer (some ⟨g, 0, none⟩)) ∧ DyP (fun y => y < w.heap.size) w' g d ∧ NV L (-V) d ∧ Kept 0 0 w w' := by
  have IS : Hid (NV L (-V) (!a.1, a.2.1, a.2.2)) := ⟨neg_isV i1.1 i1.1.2.1 (wval_turn _ _) rfl, i1.2.1, i1.2.2⟩
  have la := i1.2.1
  clear i1
  obtain ⟨s1, xs, x1⟩ := a
  dsimp only at *
  have h1 := again_impl w n1 d1 e1 (by omega)
  clear n1 d1 e1
  go_enter Tryz.func83, Tryz.ntmps83
  go_wp2_with fail
  refine h1.mono ?_
  rintro e w1 ⟨v1, rfl, o1, k1⟩
  obtain ⟨a1, c1, hv1⟩ := own_slice o1
  subst hv1
  obtain ⟨n2, d2, e2⟩ := new_dya s1 x1 150 o1
  have ht := turnSign_tail _ n2 d2
  have B0 := hide k1.size
  have kA := k1.alloc (.cells #[.slice a1 xs.length c1, .bool s1, .int .i64 x1] 150)
  have OB := hide (show ∀ i, (Value.slice a1 xs.length c1).ownBlock = some i → w.heap.size ≤ i from fun i hi => (o1.lt i hi).1)
  have E2 := hide e2
  have KA := hide kA
  clear h1 n2 d2 o1 k1 kA e2
  go_wp2_with fail
  refine ht.mono ?_
  rintro e w2 ⟨⟨r2, rfl⟩, n3, d3, m3, tl⟩
  have e3 := (unhide E2).tail tl
  have DP : Hid (DyP (fun y => y < w.heap.size) w2 w1.heap.size (!s1, xs, x1)) := ⟨_, n3.less (Nat.zero_le _), d3, e3, by have := unhide B0; omega, fun i hi => by have := unhide OB i hi; omega⟩
  have K3 := hide ((unhide KA).mod m3 (fun i hi => by have := unhide B0; subst hi; exact this))
  clear ht n3 d3 e3 m3 tl
  go_wp2
  go_ret
  exact ⟨_, _, rfl, unhide DP, unhide IS, unhide K3⟩

theorem in_oppD : ∀ (w : World) (args : Array Value), (callFunc 83 args).run Tryz.prog w = .ok (.enter 83 args) w := enters Tryz.func83 (by decide) (fun h => by cases h)

theorem in_each1 : ∀ (w : World) (args : Array Value), (callFunc 194 args).run Tryz.prog w = .ok (.enter 194 args) w := enters Tryz.func194 (by decide) (fun h => by cases h)

set_option maxHeartbeats 8000000 in
theorem each1_impl {PP : World → Nat → DE → Prop} {BD B1 R1 r1 g1 n i j : Nat} (FN : FuncId) (hcf : ∀ (w : World) (args : Array Value), (callFunc FN args).run Tryz.prog w = .ok (.enter FN args) w) (w : World) (hi : i < n) (hj : j < n) (f0 : w.cell? ⟨BD, 0, none⟩ = some (.func (.func FN) #[] #[])) (c0 : w.cell? ⟨B1, 0, none⟩ = some (.slice (some ⟨R1, 0, none⟩) n n)) (c1 : w.cell? ⟨R1, i, none⟩ = some (.slice (some ⟨r1, 0, none⟩) n n)) (c2 : w.cell? ⟨r1, j, none⟩ = some (.pointer (some ⟨g1, 0, none⟩)))
    (hc : Calls Tryz.prog FN #[.pointer (some ⟨g1, 0, none⟩)] w.drew fun e w' => ∃ g d, e = .returned (.pointer (some ⟨g, 0, none⟩)) ∧ PP w' g d ∧ Kept 0 0 w.drew w') :
    Calls Tryz.prog 194 #[.int .i64 (i : Int), .int .i64 (j : Int), .pointer (some ⟨BD, 0, none⟩), .pointer (some ⟨B1, 0, none⟩)] w fun e w' => ∃ g d, e = .returned (.pointer (some ⟨g, 0, none⟩)) ∧ PP w' g d ∧ Kept 0 0 w w' := by
  go_enter Tryz.func194, Tryz.ntmps194
  go_wp2_with fail
  have kd := (Kept.refl 0 0 w).drew
  replace f0 := kd.cell0 f0
  replace c0 := kd.cell0 c0
  replace c1 := kd.cell0 c1
  replace c2 := kd.cell0 c2
  have KD := hide kd
  clear kd
  refine wp_region_held_drew (S := (fun w' => w'.cell? ⟨BD, 0, none⟩ = some (.func (.func FN) #[] #[]) ∧ w'.cell? ⟨B1, 0, none⟩ = some (.slice (some ⟨R1, 0, none⟩) n n) ∧ w'.cell? ⟨R1, i, none⟩ = some (.slice (some ⟨r1, 0, none⟩) n n) ∧ w'.cell? ⟨r1, j, none⟩ = some (.pointer (some ⟨g1, 0, none⟩)))) (by kernel_rfl) ?_ (fun hHeld => ?_)
  · exact ⟨f0, c0, c1, c2⟩
  refine wpAnyH_take (i := 0) (oi := _) (v := .func (.func FN) #[] #[]) rfl (by kernel_rfl) (by kernel_rfl) (by kernel_rfl) (fun _ _ _ h => h) (Or.inl ⟨by rfl, ?_⟩) hHeld ?_
  · intro wq hSw
    try dsimp only at hSw
    go_simp
  try simp only [Act.put, List.getElem_toArray, List.getElem_cons_succ, List.getElem_cons_zero, List.setIfInBounds_toArray, List.set_cons_zero, List.set_cons_succ]
  refine wpAnyH_take (i := 1) (oi := _) (v := .pointer (some ⟨B1, 0, none⟩)) rfl (by kernel_rfl) (by kernel_rfl) (by kernel_rfl) (fun _ _ _ h => h) (Or.inl ⟨by rfl, ?_⟩) hHeld ?_
  · intro wq hSw
    try dsimp only at hSw
    go_simp
  try simp only [Act.put, List.getElem_toArray, List.getElem_cons_succ, List.getElem_cons_zero, List.setIfInBounds_toArray, List.set_cons_zero, List.set_cons_succ]
  refine wpAnyH_take (i := 2) (oi := _) (v := .slice (some ⟨R1, 0, none⟩) n n) rfl (by kernel_rfl) (by kernel_rfl) (by kernel_rfl) (fun _ _ _ h => h) (Or.inl ⟨by rfl, ?_⟩) hHeld ?_
  · intro wq hSw
    try dsimp only at hSw
    go_simp
  try simp only [Act.put, List.getElem_toArray, List.getElem_cons_succ, List.getElem_cons_zero, List.setIfInBounds_toArray, List.set_cons_zero, List.set_cons_succ]
  refine wpAnyH_take (i := 3) (oi := _) (v := .int .i64 (i : Int)) rfl (by kernel_rfl) (by kernel_rfl) (by kernel_rfl) (fun _ _ _ h => h) (Or.inl ⟨by rfl, ?_⟩) hHeld ?_
  · intro wq hSw
    try dsimp only at hSw
    go_simp
  try simp only [Act.put, List.getElem_toArray, List.getElem_cons_succ, List.getElem_cons_zero, List.setIfInBounds_toArray, List.set_cons_zero, List.set_cons_succ]
  refine wpAnyH_take (i := 4) (oi := _) (v := .pointer (some ⟨R1, i, none⟩)) rfl (by kernel_rfl) (by kernel_rfl) (by kernel_rfl) (fun _ _ _ h => h) (Or.inl ⟨by rfl, ?_⟩) hHeld ?_
  · intro wq hSw
    try dsimp only at hSw
    go_simp
  try simp only [Act.put, List.getElem_toArray, List.getElem_cons_succ, List.getElem_cons_zero, List.setIfInBounds_toArray, List.set_cons_zero, List.set_cons_succ]
  refine wpAnyH_take (i := 5) (oi := _) (v := .slice (some ⟨r1, 0, none⟩) n n) rfl (by kernel_rfl) (by kernel_rfl) (by kernel_rfl) (fun _ _ _ h => h) (Or.inl ⟨by rfl, ?_⟩) hHeld ?_
  · intro wq hSw
    try dsimp only at hSw
    go_simp
  try simp only [Act.put, List.getElem_toArray, List.getElem_cons_succ, List.getElem_cons_zero, List.setIfInBounds_toArray, List.set_cons_zero, List.set_cons_succ]
  refine wpAnyH_take (i := 6) (oi := _) (v := .int .i64 (j : Int)) rfl (by kernel_rfl) (by kernel_rfl) (by kernel_rfl) (fun _ _ _ h => h) (Or.inl ⟨by rfl, ?_⟩) hHeld ?_
  · intro wq hSw
    try dsimp only at hSw
    go_simp
  try simp only [Act.put, List.getElem_toArray, List.getElem_cons_succ, List.getElem_cons_zero, List.setIfInBounds_toArray, List.set_cons_zero, List.set_cons_succ]
  refine wpAnyH_take (i := 7) (oi := _) (v := .pointer (some ⟨r1, j, none⟩)) rfl (by kernel_rfl) (by kernel_rfl) (by kernel_rfl) (fun _ _ _ h => h) (Or.inl ⟨by rfl, ?_⟩) hHeld ?_
  · intro wq hSw
    try dsimp only at hSw
    go_simp
  try simp only [Act.put, List.getElem_toArray, List.getElem_cons_succ, List.getElem_cons_zero, List.setIfInBounds_toArray, List.set_cons_zero, List.set_cons_succ]
  refine wpAnyH_take (i := 8) (oi := _) (v := .pointer (some ⟨g1, 0, none⟩)) rfl (by kernel_rfl) (by kernel_rfl) (by kernel_rfl) (fun _ _ _ h => h) (Or.inl ⟨by rfl, ?_⟩) hHeld ?_
  · intro wq hSw
    try dsimp only at hSw
    go_simp
  try simp only [Act.put, List.getElem_toArray, List.getElem_cons_succ, List.getElem_cons_zero, List.setIfInBounds_toArray, List.set_cons_zero, List.set_cons_succ]
  refine wpAnyH_ready (rs := [9]) (by kernel_rfl) (by simp) ?_
  refine AllReadyH.cons rfl (fun KK hK => ?_) AllReadyH.nil
  simp only [List.getElem_toArray, List.getElem_cons_succ, List.getElem_cons_zero]
  rw [if_pos (by rfl)]
  refine wpv1c FN (.tmp 7) (.tmp 15) _ rfl rfl hcf (.pointer (some ⟨g1, 0, none⟩)) rfl hc ?_
  rintro e w1 ⟨g, d, rfl, pp, k1⟩
  refine ⟨_, rfl, ?_⟩
  replace f0 := k1.cell0 f0
  replace c0 := k1.cell0 c0
  replace c1 := k1.cell0 c1
  replace c2 := k1.cell0 c2
  have K1 := hide ((unhide KD).trans k1)
  have PQ := hide pp
  clear hc k1 pp
  clear hHeld
  refine hK.out _ _ ?_ (fun hHeld => ?_)
  · exact ⟨f0, c0, c1, c2⟩
  clear hK KK
  try simp only [Act.put, List.getElem_toArray, List.getElem_cons_succ, List.getElem_cons_zero, List.setIfInBounds_toArray, List.set_cons_zero, List.set_cons_succ]
  refine wpAnyH_take (i := 10) (oi := _) (v := .pointer (some ⟨g, 0, none⟩)) rfl (by kernel_rfl) (by kernel_rfl) (by kernel_rfl) (fun _ _ _ h => h) (Or.inl ⟨by rfl, ?_⟩) hHeld ?_
  · intro wq hSw
    try dsimp only at hSw
    go_simp
  try simp only [Act.put, List.getElem_toArray, List.getElem_cons_succ, List.getElem_cons_zero, List.setIfInBounds_toArray, List.set_cons_zero, List.set_cons_succ]
  refine wpAnyH_done (by kernel_rfl) ?_ _
  clear hHeld f0 c0 c1 c2
  go_wp2_with fail
  go_ret
  exact ⟨g, d, rfl, unhide PQ, unhide K1⟩

set_option maxHeartbeats 8000000 in
theorem eachS_impl {S1 : Nat → Prop} {R1 n b1 : Nat} {G1 : Nat → Nat} {F1 : Nat → DE} {L : Int} {V : Nat → Int} (FN : FuncId) (hcf : ∀ (w : World) (args : Array Value), (callFunc FN args).run Tryz.prog w = .ok (.enter FN args) w) (w : World) (hn : n ≤ 1000) (s1 : SqG S1 w R1 n n G1) (m1 : Nums b1 S1 w (n * n) G1 F1)
    (H : ∀ p u w', p < n * n → Num 0 w' (G1 p) u (F1 p).2.1 → Sd w' (G1 p) (F1 p).1 → Ex w' (G1 p) (F1 p).2.2 → Calls Tryz.prog FN #[.pointer (some ⟨G1 p, 0, none⟩)] w' fun e w'' => ∃ g d, e = .returned (.pointer (some ⟨g, 0, none⟩)) ∧ DyP (fun y => y < w'.heap.size) w'' g d ∧ NV L (V p) d ∧ Kept 0 0 w' w'') :
    Calls Tryz.prog 145 #[.agg #[.slice (some ⟨R1, 0, none⟩) n n], .func (.func FN) #[] #[]] w fun e w' => ∃ R G S F, e = .returned (.agg #[.slice (some ⟨R, 0, none⟩) n n]) ∧ SqG S w' R n n G ∧ Nums w.heap.size S w' (n * n) G F ∧ (∀ p, p < n * n → NV L (V p) (F p)) ∧ (∀ x, S x → w.heap.size ≤ x ∧ x < w'.heap.size) ∧ Kept 0 0 w w' := by
  obtain ⟨W, hW⟩ : ∃ W, W = ((w.alloc (.cells #[.slice (some ⟨R1, 0, none⟩) n n] 113)).alloc (.cells #[.func (.func FN) #[] #[]] 115)).alloc (.cells #[.slice none 0 0] 113) := ⟨_, rfl⟩
  have k0 : Kept 0 0 w W := by rw [hW]; exact (((Kept.refl 0 0 w).alloc _).alloc _).alloc _
  have c0 : W.cell? ⟨w.heap.size, 0, none⟩ = some (.slice (some ⟨R1, 0, none⟩) n n) := by rw [hW]; exact old_cell _ (old_cell _ (new_cell2 _ _ _ _ _ _ (by simp) rfl))
  have d0 : W.cell? ⟨w.heap.size + 1, 0, none⟩ = some (.func (.func FN) #[] #[]) := by rw [hW]; exact old_cell _ (new_cell2 _ _ _ _ _ _ (by simp) rfl)
  have q0 : W.cell? ⟨w.heap.size + 2, 0, none⟩ = some (.slice none 0 0) := by rw [hW]; exact new_cell2 _ _ _ _ _ _ (by simp) rfl
  have qf : W.frozen? ⟨w.heap.size + 2, 0, none⟩ = false := by rw [hW]; exact new_loose2 _ _ _ _ _ (by simp)
  have sW : W.heap.size = w.heap.size + 3 := by rw [hW]; simp
  have hm := makeSquare_newQ (n := n) hn 194 in_each1 #[.pointer (some ⟨w.heap.size + 1, 0, none⟩), .pointer (some ⟨w.heap.size, 0, none⟩)] (fun p d => NV L (V p) d) W (fun i j w' hi hj k => by
    have kk := k0.trans k
    have hp := place_lt hi hj
    obtain ⟨r1, cr1, -, -, -, q1⟩ := s1.2.2 i hi
    obtain ⟨u1, n1, dd1, ee1⟩ := m1.at hp
    have kd : Kept 0 0 w w'.drew := kk.drew
    have hc := H (i * n + j) u1 w'.drew hp (n1.kept kd) ⟨kd.cell0 dd1.1, kd.loose0 (a := ⟨G1 (i * n + j), 1, none⟩) n1.lt dd1.2⟩ ⟨kd.cell0 ee1.1, kd.loose0 (a := ⟨G1 (i * n + j), 2, none⟩) n1.lt ee1.2⟩
    refine (each1_impl (PP := fun w'' g d => DyP (fun y => y < w'.heap.size) w'' g d ∧ NV L (V (i * n + j)) d) (BD := w.heap.size + 1) (B1 := w.heap.size) FN hcf w' hi hj (k.cell0 d0) (k.cell0 c0) (kk.cell0 cr1) (kk.cell0 (q1 j hj)) (hc.mono ?_)).mono ?_
    · rintro e w'' ⟨g, d, rfl, dp, nv, k'⟩
      exact ⟨g, d, rfl, ⟨dp, nv⟩, k'⟩
    · rintro e w'' ⟨g, d, rfl, ⟨dp, nv⟩, k'⟩
      exact ⟨g, d, rfl, dp, nv, k'⟩)
  rw [hW] at hm c0
  have SW := hide sW
  clear s1 m1 H sW
  go_enter Tryz.func145, Tryz.ntmps145
  go_wp2_with fail
  refine hm.mono ?_
  rw [← hW]
  rintro e w1 ⟨R, G, S, F, rfl, sq, nm, hq, hS, hR, k1⟩
  have q1 := k1.cell0 q0
  have qf1 := k1.loose0 (World.block_lt_of_cell? _ _ q0) qf
  have sW := unhide SW
  have E1 := cell_on w1 (w.heap.size + 2) 0 (.slice (some ⟨R, 0, none⟩) n n) _ q1
  have ks : Kept (w.heap.size + 2) (w.heap.size + 3) w1 (w1.setCell ⟨w.heap.size + 2, 0, none⟩ (.slice (some ⟨R, 0, none⟩) n n)) := (Kept.refl _ _ _).setCell (p := ⟨w.heap.size + 2, 0, none⟩) (Nat.le_refl _) (Nat.lt_succ_self _) _
  have S2 : Hid (SqG S (w1.setCell ⟨w.heap.size + 2, 0, none⟩ (.slice (some ⟨R, 0, none⟩) n n)) R n n G ∧ Nums w.heap.size S (w1.setCell ⟨w.heap.size + 2, 0, none⟩ (.slice (some ⟨R, 0, none⟩) n n)) (n * n) G F ∧ (∀ p, p < n * n → NV L (V p) (F p)) ∧ (∀ x, S x → w.heap.size ≤ x ∧ x < (w1.setCell ⟨w.heap.size + 2, 0, none⟩ (.slice (some ⟨R, 0, none⟩) n n)).heap.size)) :=
    ⟨sq.keptY ks (by omega), (nm.win ks (by omega)).less (by omega), hq, fun x hx => by (have := hS x hx; rw [size_set]; omega)⟩
  have K2 := hide ((k0.trans k1).wide ks (by omega))
  clear hm sq nm hq hS hR k1 ks sW q0 qf c0 d0
  go_wp2
  exact bodyPost_ret (v := .agg #[.slice (some ⟨R, 0, none⟩) n n]) (by simp [results, Tryz.results145, go_sem, E1]) rfl ⟨R, G, S, F, rfl, (unhide S2).1, (unhide S2).2.1, (unhide S2).2.2.1, (unhide S2).2.2.2, unhide K2⟩

end Go.Proofs.YthahoabkehcgbaaGreatDoor
