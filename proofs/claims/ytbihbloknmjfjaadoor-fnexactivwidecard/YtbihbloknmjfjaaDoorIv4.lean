/-
  Intervals of the model: l7own, l7fits, l7add, l7neg, IvOf, IvAdd, IvSub, IvWide.
-/
import Derived.Test.YtbihbloknmjfjaaDoorIv3
import Derived.Deep.DeepCutAuto
import Derived.Deep.RegionHeld3
namespace Go.Proofs.YtbihbloknmjfjaaDoor
open Go.RowKit
set_option linter.unusedVariables false
set_option maxRecDepth 8000
set_option linter.unusedSimpArgs false

/-- As IvAns; nothing is said of where the one list ends and the other begins. -/
def IvAnsS (o g1 : Bool) (p1 : Int) (L1 : List Int) (g2 : Bool) (p2 : Int) (L2 : List Int) (w : World) (e : Ending) (w' : World) : Prop := ∃ v v', e = .returned (.tuple #[.agg #[.bool (o && g1), v, .int .i64 (if o = true then p1 else 0), .bool (o && g2), v', .int .i64 (if o = true then p2 else 0)], .bool o]) ∧ Row .i64 true w.heap.size w'.heap.size w' v (if o = true then L1 else []) ∧ Row .i64 true w.heap.size w'.heap.size w' v' (if o = true then L2 else []) ∧ Kept 0 0 w w'
theorem IvAns.weak {o g1 : Bool} {p1 : Int} {L1 : List Int} {g2 : Bool} {p2 : Int} {L2 : List Int} {w w' : World} {e : Ending} (h : IvAns o g1 p1 L1 g2 p2 L2 w e w') : IvAnsS o g1 p1 L1 g2 p2 L2 w e w' := by
  obtain ⟨v, v', mid, h1, h2, h3, h4, h5, h6⟩ := h
  exact ⟨v, v', h1, h2.wider (Nat.le_refl _) h5, h3.wider h4 (Nat.le_refl _), h6⟩
theorem ivS_no {g1 g2 : Bool} {p1 p2 : Int} {L1 L2 : List Int} {w w' : World} (k : Kept 0 0 w w') : IvAnsS false g1 p1 L1 g2 p2 L2 w (.returned (.tuple #[.agg #[.bool false, .slice none 0 0, .int .i64 0, .bool false, .slice none 0 0, .int .i64 0], .bool false])) w' :=
  ⟨.slice none 0 0, .slice none 0 0, rfl, Row.nil _ _ _ _ _, Row.nil _ _ _ _ _, k⟩
theorem ivS_yes {g1 g2 : Bool} {p1 p2 : Int} {L1 L2 : List Int} {w w' : World} {v v' : Value} (r : Row .i64 true w.heap.size w'.heap.size w' v L1) (r' : Row .i64 true w.heap.size w'.heap.size w' v' L2) (k : Kept 0 0 w w') : IvAnsS true g1 p1 L1 g2 p2 L2 w (.returned (.tuple #[.agg #[.bool g1, v, .int .i64 p1, .bool g2, v', .int .i64 p2], .bool true])) w' :=
  ⟨v, v', rfl, r, r', k⟩
theorem ivS_open {o g1 : Bool} {p1 : Int} {L1 : List Int} {g2 : Bool} {p2 : Int} {L2 : List Int} {w w' : World} {e : Ending} (h : IvAnsS o g1 p1 L1 g2 p2 L2 w e w') :
    ∃ q1 y1 M1 q2 y2 M2 v v', e = .returned (.tuple #[.agg #[.bool q1, v, .int .i64 y1, .bool q2, v', .int .i64 y2], .bool o]) ∧ Row .i64 true w.heap.size w'.heap.size w' v M1 ∧ Row .i64 true w.heap.size w'.heap.size w' v' M2 ∧ Kept 0 0 w w' ∧ IvEq o g1 p1 L1 g2 p2 L2 q1 y1 M1 q2 y2 M2 := by
  obtain ⟨v, v', h1, h2, h3, h6⟩ := h
  exact ⟨_, _, _, _, _, _, v, v', h1, h2, h3, h6, rfl, rfl, rfl, rfl, rfl, rfl⟩
theorem ivS_shut {o g1 : Bool} {p1 : Int} {L1 : List Int} {g2 : Bool} {p2 : Int} {L2 : List Int} {q1 : Bool} {y1 : Int} {M1 : List Int} {q2 : Bool} {y2 : Int} {M2 : List Int} {w w' : World} {v v' : Value} (h : IvEq o g1 p1 L1 g2 p2 L2 q1 y1 M1 q2 y2 M2)
    (r : Row .i64 true w.heap.size w'.heap.size w' v M1) (r' : Row .i64 true w.heap.size w'.heap.size w' v' M2) (k : Kept 0 0 w w') : IvAnsS o g1 p1 L1 g2 p2 L2 w (.returned (.tuple #[.agg #[.bool q1, v, .int .i64 y1, .bool q2, v', .int .i64 y2], .bool o])) w' := by
  obtain ⟨e1, e2, e3, e4, e5, e6⟩ := h
  subst e1 e2 e3 e4 e5 e6
  exact ⟨v, v', rfl, r, r', k⟩
theorem d_back {s : Bool} {zs : List Int} {x : Int} (h : dokB s zs x = true) : wsg (wval s zs) = s ∧ dlm (wval s zs) = zs ∧ dex (wval s zs) x = x := by
  have h1 := (dok_parts h).1
  obtain ⟨f1, f2⟩ := d_form h (wval s zs) (wval_abs (wok_int h1).2.2.2.1)
  exact ⟨wn_sign (wok_wn h1), f1, f2⟩

theorem sum_rg {s1 s2 : Bool} {l1 l2 : List Int} {e1 e2 : Int} (o1 : dokB s1 l1 e1 = true) (o2 : dokB s2 l2 e2 = true) : dex (wval s1 l1 * 2 ^ (e1 - min e1 e2).toNat + wval s2 l2 * 2 ^ (e2 - min e1 e2).toNat) (min e1 e2) ≤ 9223372036854775807 ∧ -9223372036854775808 ≤ dex (wval s1 l1 * 2 ^ (e1 - min e1 e2).toNat + wval s2 l2 * 2 ^ (e2 - min e1 e2).toNat) (min e1 e2) := by
  obtain ⟨A, hA⟩ : ∃ A : Nat, A = 7600 := ⟨_, rfl⟩
  obtain ⟨w1', f1, f2, -, -⟩ := dok_parts o1
  obtain ⟨w2', f3, f4, -, -⟩ := dok_parts o2
  obtain ⟨-, -, lx, hx⟩ := wok_int w1'
  obtain ⟨-, -, ly, hy⟩ := wok_int w2'
  exact dex_range (wval s1 l1 * 2 ^ (e1 - min e1 e2).toNat + wval s2 l2 * 2 ^ (e2 - min e1 e2).toNat) (min e1 e2) (by omega) (by omega) (add_lt (al_lt hx.1 lx _ (by omega) hA) (al_lt hy.1 ly _ (by omega) hA)) (by omega)

set_option maxHeartbeats 2000000 in
theorem own7_spec {bw : Bool} {lo hi : Nat} {v : Value} {zs : List Int} (s : Bool) (x : Int) (wn : WN s zs) (hl : zs.length ≤ 1000000) (w : World) (r : Row .i64 bw lo hi w v zs) :
    Calls Tryd.prog 50 #[.agg #[.bool s, v, .int .i64 x]] w fun e w' => ∃ v', e = .returned (.agg #[.bool s, v', .int .i64 x]) ∧ Row .i64 true w.heap.size w'.heap.size w' v' zs ∧ Kept 0 0 w w' := by
  have g1 : (s && decide (0 < zs.length)) = s := by
    cases s
    · rfl
    · rw [decide_eq_true (wn.2 rfl)]; rfl
  have g2 : limbs (val zs).toNat = zs := (nrm_limbs wn.1).symm
  have k0 : Kept 0 0 w ((w.alloc (.cells #[.bool s, v, .int .i64 x] 34)).alloc (.cells #[.bool false, .slice none 0 0, .int .i64 0] 34)) := (((Kept.refl 0 0 w).alloc (.cells #[.bool s, v, .int .i64 x] 34)).alloc (.cells #[.bool false, .slice none 0 0, .int .i64 0] 34))
  have p0 : ((w.alloc (.cells #[.bool s, v, .int .i64 x] 34)).alloc (.cells #[.bool false, .slice none 0 0, .int .i64 0] 34)).cell? ⟨w.heap.size, 0, none⟩ = some (.bool s) := old_cell _ (new_cell2 _ _ _ _ _ _ (by simp) rfl)
  have p1 : ((w.alloc (.cells #[.bool s, v, .int .i64 x] 34)).alloc (.cells #[.bool false, .slice none 0 0, .int .i64 0] 34)).cell? ⟨w.heap.size, 1, none⟩ = some (v) := old_cell _ (new_cell2 _ _ _ _ _ _ (by simp) rfl)
  have p2 : ((w.alloc (.cells #[.bool s, v, .int .i64 x] 34)).alloc (.cells #[.bool false, .slice none 0 0, .int .i64 0] 34)).cell? ⟨w.heap.size, 2, none⟩ = some (.int .i64 x) := old_cell _ (new_cell2 _ _ _ _ _ _ (by simp) rfl)
  have q0 : ((w.alloc (.cells #[.bool s, v, .int .i64 x] 34)).alloc (.cells #[.bool false, .slice none 0 0, .int .i64 0] 34)).cell? ⟨w.heap.size + 1, 0, none⟩ = some (.bool false) := new_cell2 _ _ _ _ _ _ (by simp) rfl
  have qf0 : ((w.alloc (.cells #[.bool s, v, .int .i64 x] 34)).alloc (.cells #[.bool false, .slice none 0 0, .int .i64 0] 34)).frozen? ⟨w.heap.size + 1, 0, none⟩ = false := new_loose2 _ _ _ _ _ (by simp)
  have q1 : ((w.alloc (.cells #[.bool s, v, .int .i64 x] 34)).alloc (.cells #[.bool false, .slice none 0 0, .int .i64 0] 34)).cell? ⟨w.heap.size + 1, 1, none⟩ = some (.slice none 0 0) := new_cell2 _ _ _ _ _ _ (by simp) rfl
  have qf1 : ((w.alloc (.cells #[.bool s, v, .int .i64 x] 34)).alloc (.cells #[.bool false, .slice none 0 0, .int .i64 0] 34)).frozen? ⟨w.heap.size + 1, 1, none⟩ = false := new_loose2 _ _ _ _ _ (by simp)
  have q2 : ((w.alloc (.cells #[.bool s, v, .int .i64 x] 34)).alloc (.cells #[.bool false, .slice none 0 0, .int .i64 0] 34)).cell? ⟨w.heap.size + 1, 2, none⟩ = some (.int .i64 0) := new_cell2 _ _ _ _ _ _ (by simp) rfl
  have qf2 : ((w.alloc (.cells #[.bool s, v, .int .i64 x] 34)).alloc (.cells #[.bool false, .slice none 0 0, .int .i64 0] 34)).frozen? ⟨w.heap.size + 1, 2, none⟩ = false := new_loose2 _ _ _ _ _ (by simp)
  replace r := r.kept k0 (by omega)
  have s0 : ((w.alloc (.cells #[.bool s, v, .int .i64 x] 34)).alloc (.cells #[.bool false, .slice none 0 0, .int .i64 0] 34)).heap.size = w.heap.size + 2 := by simp
  obtain ⟨a, c, hv⟩ := Row.form' r
  subst hv
  have K := hide (k0)
  clear k0
  have S0 := hide s0
  clear s0
  go_enter Tryd.func50, Tryd.ntmps50
  go_wp2_with fail
  generalize ((w.alloc (.cells #[.bool s, .slice a zs.length c, .int .i64 x] 34)).alloc (.cells #[.bool false, .slice none 0 0, .int .i64 0] 34)) = W at *
  have mk := fun w' r' => make_spec (bw := bw) (lo := lo) (hi := hi) (v := .slice a zs.length c) (zs := zs) s w' r' wn.1.1 hl
  rw [g1, g2] at mk
  clear g1 g2
  have kd := (Kept.refl 0 0 W).drew
  replace r := r.kept kd (.inr (.inr (Nat.le_refl 0)))
  replace qf0 := kd.loose0 (World.block_lt_of_cell? _ _ q0) qf0
  replace qf1 := kd.loose0 (World.block_lt_of_cell? _ _ q1) qf1
  replace qf2 := kd.loose0 (World.block_lt_of_cell? _ _ q2) qf2
  replace p0 := kd.cell0 p0
  replace p1 := kd.cell0 p1
  replace p2 := kd.cell0 p2
  replace q0 := kd.cell0 q0
  replace q1 := kd.cell0 q1
  replace q2 := kd.cell0 q2
  replace K := hide ((unhide K).trans kd)
  have z1 := kd.size
  clear kd
  refine wp_region_held_drew (S := (fun w' => w'.cell? ⟨w.heap.size, 0, none⟩ = some (.bool s) ∧ w'.cell? ⟨w.heap.size, 1, none⟩ = some (.slice a zs.length c) ∧ w'.cell? ⟨w.heap.size, 2, none⟩ = some (.int .i64 x))) (by kernel_rfl) ?_ (fun hHeld => ?_)
  · exact ⟨p0, p1, p2⟩
  refine wpAnyH_take (i := 0) (oi := _) (v := .pointer (some ⟨w.heap.size, 0, none⟩)) rfl (by kernel_rfl) (by kernel_rfl) (by kernel_rfl) (fun _ _ _ h => h) (Or.inl ⟨by rfl, ?_⟩) hHeld ?_
  · intro wq hSw
    try dsimp only at hSw
    go_simp
  try simp only [Act.put, List.getElem_toArray, List.getElem_cons_succ, List.getElem_cons_zero, List.setIfInBounds_toArray, List.set_cons_zero, List.set_cons_succ]
  refine wpAnyH_take (i := 1) (oi := _) (v := .pointer (some ⟨w.heap.size, 0, none⟩)) rfl (by kernel_rfl) (by kernel_rfl) (by kernel_rfl) (fun _ _ _ h => h) (Or.inl ⟨by rfl, ?_⟩) hHeld ?_
  · intro wq hSw
    try dsimp only at hSw
    go_simp
  try simp only [Act.put, List.getElem_toArray, List.getElem_cons_succ, List.getElem_cons_zero, List.setIfInBounds_toArray, List.set_cons_zero, List.set_cons_succ]
  refine wpAnyH_take (i := 2) (oi := _) (v := .bool s) rfl (by kernel_rfl) (by kernel_rfl) (by kernel_rfl) (fun _ _ _ h => h) (Or.inl ⟨by rfl, ?_⟩) hHeld ?_
  · intro wq hSw
    try dsimp only at hSw
    go_simp
  try simp only [Act.put, List.getElem_toArray, List.getElem_cons_succ, List.getElem_cons_zero, List.setIfInBounds_toArray, List.set_cons_zero, List.set_cons_succ]
  refine wpAnyH_take (i := 3) (oi := _) (v := .pointer (some ⟨w.heap.size, 0, none⟩)) rfl (by kernel_rfl) (by kernel_rfl) (by kernel_rfl) (fun _ _ _ h => h) (Or.inl ⟨by rfl, ?_⟩) hHeld ?_
  · intro wq hSw
    try dsimp only at hSw
    go_simp
  try simp only [Act.put, List.getElem_toArray, List.getElem_cons_succ, List.getElem_cons_zero, List.setIfInBounds_toArray, List.set_cons_zero, List.set_cons_succ]
  refine wpAnyH_take (i := 4) (oi := _) (v := .pointer (some ⟨w.heap.size, 1, none⟩)) rfl (by kernel_rfl) (by kernel_rfl) (by kernel_rfl) (fun _ _ _ h => h) (Or.inl ⟨by rfl, ?_⟩) hHeld ?_
  · intro wq hSw
    try dsimp only at hSw
    go_simp
  try simp only [Act.put, List.getElem_toArray, List.getElem_cons_succ, List.getElem_cons_zero, List.setIfInBounds_toArray, List.set_cons_zero, List.set_cons_succ]
  refine wpAnyH_take (i := 5) (oi := _) (v := .agg #[.slice a zs.length c]) rfl (by kernel_rfl) (by kernel_rfl) (by kernel_rfl) (fun _ _ _ h => h) (Or.inl ⟨by rfl, ?_⟩) hHeld ?_
  · intro wq hSw
    try dsimp only at hSw
    go_simp
  try simp only [Act.put, List.getElem_toArray, List.getElem_cons_succ, List.getElem_cons_zero, List.setIfInBounds_toArray, List.set_cons_zero, List.set_cons_succ]
  refine wpAnyH_take (i := 7) (oi := _) (v := .pointer (some ⟨w.heap.size, 2, none⟩)) rfl (by kernel_rfl) (by kernel_rfl) (by kernel_rfl) (fun _ _ _ h => h) (Or.inl ⟨by rfl, ?_⟩) hHeld ?_
  · intro wq hSw
    try dsimp only at hSw
    go_simp
  try simp only [Act.put, List.getElem_toArray, List.getElem_cons_succ, List.getElem_cons_zero, List.setIfInBounds_toArray, List.set_cons_zero, List.set_cons_succ]
  refine wpAnyH_take (i := 8) (oi := _) (v := .int .i64 x) rfl (by kernel_rfl) (by kernel_rfl) (by kernel_rfl) (fun _ _ _ h => h) (Or.inl ⟨by rfl, ?_⟩) hHeld ?_
  · intro wq hSw
    try dsimp only at hSw
    go_simp
  try simp only [Act.put, List.getElem_toArray, List.getElem_cons_succ, List.getElem_cons_zero, List.setIfInBounds_toArray, List.set_cons_zero, List.set_cons_succ]
  refine wpAnyH_ready (rs := [6]) (by kernel_rfl) (by simp) ?_
  refine AllReadyH.cons rfl (fun KK hK => ?_) AllReadyH.nil
  simp only [List.getElem_toArray, List.getElem_cons_succ, List.getElem_cons_zero]
  rw [if_pos (by rfl)]
  refine wps2 70 (.tmp 5) (.tmp 8) _ rfl in_l3make (.bool s) (.agg #[.slice a zs.length c]) rfl rfl (mk _ r) ?_
  rintro e w2 ⟨v6, rfl, r6, k2⟩
  refine ⟨_, rfl, ?_⟩
  replace r := r.kept k2 (.inr (.inr (Nat.le_refl 0)))
  replace qf0 := k2.loose0 (World.block_lt_of_cell? _ _ q0) qf0
  replace qf1 := k2.loose0 (World.block_lt_of_cell? _ _ q1) qf1
  replace qf2 := k2.loose0 (World.block_lt_of_cell? _ _ q2) qf2
  replace p0 := k2.cell0 p0
  replace p1 := k2.cell0 p1
  replace p2 := k2.cell0 p2
  replace q0 := k2.cell0 q0
  replace q1 := k2.cell0 q1
  replace q2 := k2.cell0 q2
  replace K := hide ((unhide K).trans k2)
  have z3 := k2.size
  clear k2
  clear hHeld
  refine hK.out _ _ ?_ (fun hHeld => ?_)
  · exact ⟨p0, p1, p2⟩
  clear hK KK
  try simp only [Act.put, List.getElem_toArray, List.getElem_cons_succ, List.getElem_cons_zero, List.setIfInBounds_toArray, List.set_cons_zero, List.set_cons_succ]
  obtain ⟨a6, c6, hv⟩ := Row.form' r6
  subst hv
  refine wpAnyH_take (i := 9) (oi := _) (v := .agg #[.bool s, .slice a6 zs.length c6, .int .i64 x]) rfl (by kernel_rfl) (by kernel_rfl) (by kernel_rfl) (fun _ _ _ h => h) (Or.inl ⟨by rfl, ?_⟩) hHeld ?_
  · intro wq hSw
    try dsimp only at hSw
    go_simp
  try simp only [Act.put, List.getElem_toArray, List.getElem_cons_succ, List.getElem_cons_zero, List.setIfInBounds_toArray, List.set_cons_zero, List.set_cons_succ]
  refine wpAnyH_ready (rs := [10]) (by kernel_rfl) (by simp) ?_
  refine AllReadyH.cons rfl (fun KK hK => ?_) AllReadyH.nil
  simp only [List.getElem_toArray, List.getElem_cons_succ, List.getElem_cons_zero]
  rw [if_pos (by rfl)]
  go_simp
  clear hHeld
  refine hK.out _ _ ?_ (fun hHeld => ?_)
  · exact ⟨(cell_aside _ (by have := unhide S0; dsimp only; omega) (cell_aside _ (by have := unhide S0; dsimp only; omega) (cell_aside _ (by have := unhide S0; dsimp only; omega) p0))), (cell_aside _ (by have := unhide S0; dsimp only; omega) (cell_aside _ (by have := unhide S0; dsimp only; omega) (cell_aside _ (by have := unhide S0; dsimp only; omega) p1))), (cell_aside _ (by have := unhide S0; dsimp only; omega) (cell_aside _ (by have := unhide S0; dsimp only; omega) (cell_aside _ (by have := unhide S0; dsimp only; omega) p2)))⟩
  clear hK KK
  try simp only [Act.put, List.getElem_toArray, List.getElem_cons_succ, List.getElem_cons_zero, List.setIfInBounds_toArray, List.set_cons_zero, List.set_cons_succ]
  refine wpAnyH_done (by kernel_rfl) ?_ _
  clear hHeld
  clear mk
  have R := hide ((((r6.set_other (p := ⟨w.heap.size + 1, 0, none⟩) (.inl (by have := unhide S0; dsimp only; omega)) (.bool s)).set_other (p := ⟨w.heap.size + 1, 1, none⟩) (.inl (by have := unhide S0; dsimp only; omega)) (.slice a6 zs.length c6)).set_other (p := ⟨w.heap.size + 1, 2, none⟩) (.inl (by have := unhide S0; dsimp only; omega)) (.int .i64 x)).tight.wider (lo' := w.heap.size) (by have := unhide S0; omega) (Nat.le_refl _))
  have K7 := hide ((((unhide K).setNew (p := ⟨w.heap.size + 1, 0, none⟩) (by simp) (.bool s)).setNew (p := ⟨w.heap.size + 1, 1, none⟩) (by simp) (.slice a6 zs.length c6)).setNew (p := ⟨w.heap.size + 1, 2, none⟩) (by simp) (.int .i64 x))
  clear r r6 K 
  go_wp2_with fail
  exact bodyPost_ret (v := .agg #[.bool s, .slice a6 zs.length c6, .int .i64 x]) (by simp [results, Tryd.results50, go_sem, q0, q1, q2]) rfl ⟨_, rfl, unhide R, unhide K7⟩

theorem in_l7own : ∀ (w : World) (args : Array Value), (callFunc 50 args).run Tryd.prog w = .ok (.enter 50 args) w := enters Tryd.func50 (by decide) (fun h => by cases h)

theorem in_l7fits : ∀ (w : World) (args : Array Value), (callFunc 27 args).run Tryd.prog w = .ok (.enter 27 args) w := enters Tryd.func27 (by decide) (fun h => by cases h)

theorem in_l7add : ∀ (w : World) (args : Array Value), (callFunc 36 args).run Tryd.prog w = .ok (.enter 36 args) w := enters Tryd.func36 (by decide) (fun h => by cases h)

theorem in_l7neg : ∀ (w : World) (args : Array Value), (callFunc 40 args).run Tryd.prog w = .ok (.enter 40 args) w := enters Tryd.func40 (by decide) (fun h => by cases h)

set_option maxHeartbeats 4000000 in
theorem fits7_spec {b1 b2 : Bool} {w1l w1h w2l w2h : Nat} {v1 v2 : Value} {l1 l2 : List Int} (s1 : Bool) (e1 : Int) (hu1 : e1 ≤ 9223372036854775807) (hd1 : -9223372036854775808 ≤ e1) (s2 : Bool) (e2 : Int) (hu2 : e2 ≤ 9223372036854775807) (hd2 : -9223372036854775808 ≤ e2) (w : World) (r1 : Row .i64 b1 w1l w1h w v1 l1) (r2 : Row .i64 b2 w2l w2h w v2 l2) :
    Calls Tryd.prog 27 #[.agg #[.bool s1, v1, .int .i64 e1, .bool s2, v2, .int .i64 e2]] w fun e w' => IvAnsS (dokB s1 l1 e1 && dokB s2 l2 e2) s1 e1 l1 s2 e2 l2 w e w' := by
  obtain ⟨O, hO⟩ : ∃ O, (dokB s1 l1 e1 && dokB s2 l2 e2) = O := ⟨_, rfl⟩
  rw [hO]
  have HO := hide hO
  clear hO
  replace r1 := r1.tight
  replace r2 := r2.tight
  have k0 : Kept 0 0 w ((w.alloc (.cells #[.bool s1, v1, .int .i64 e1, .bool s2, v2, .int .i64 e2] 36)).alloc (.cells #[.bool false, .slice none 0 0, .int .i64 0, .bool false, .slice none 0 0, .int .i64 0] 36)) := (((Kept.refl 0 0 w).alloc (.cells #[.bool s1, v1, .int .i64 e1, .bool s2, v2, .int .i64 e2] 36)).alloc (.cells #[.bool false, .slice none 0 0, .int .i64 0, .bool false, .slice none 0 0, .int .i64 0] 36))
  have bp0 : ((w.alloc (.cells #[.bool s1, v1, .int .i64 e1, .bool s2, v2, .int .i64 e2] 36)).alloc (.cells #[.bool false, .slice none 0 0, .int .i64 0, .bool false, .slice none 0 0, .int .i64 0] 36)).cell? ⟨w.heap.size, 0, none⟩ = some (.bool s1) := old_cell _ (new_cell2 _ _ _ _ _ _ (by simp) rfl)
  have bp1 : ((w.alloc (.cells #[.bool s1, v1, .int .i64 e1, .bool s2, v2, .int .i64 e2] 36)).alloc (.cells #[.bool false, .slice none 0 0, .int .i64 0, .bool false, .slice none 0 0, .int .i64 0] 36)).cell? ⟨w.heap.size, 1, none⟩ = some (v1) := old_cell _ (new_cell2 _ _ _ _ _ _ (by simp) rfl)
  have bp2 : ((w.alloc (.cells #[.bool s1, v1, .int .i64 e1, .bool s2, v2, .int .i64 e2] 36)).alloc (.cells #[.bool false, .slice none 0 0, .int .i64 0, .bool false, .slice none 0 0, .int .i64 0] 36)).cell? ⟨w.heap.size, 2, none⟩ = some (.int .i64 e1) := old_cell _ (new_cell2 _ _ _ _ _ _ (by simp) rfl)
  have bp3 : ((w.alloc (.cells #[.bool s1, v1, .int .i64 e1, .bool s2, v2, .int .i64 e2] 36)).alloc (.cells #[.bool false, .slice none 0 0, .int .i64 0, .bool false, .slice none 0 0, .int .i64 0] 36)).cell? ⟨w.heap.size, 3, none⟩ = some (.bool s2) := old_cell _ (new_cell2 _ _ _ _ _ _ (by simp) rfl)
  have bp4 : ((w.alloc (.cells #[.bool s1, v1, .int .i64 e1, .bool s2, v2, .int .i64 e2] 36)).alloc (.cells #[.bool false, .slice none 0 0, .int .i64 0, .bool false, .slice none 0 0, .int .i64 0] 36)).cell? ⟨w.heap.size, 4, none⟩ = some (v2) := old_cell _ (new_cell2 _ _ _ _ _ _ (by simp) rfl)
  have bp5 : ((w.alloc (.cells #[.bool s1, v1, .int .i64 e1, .bool s2, v2, .int .i64 e2] 36)).alloc (.cells #[.bool false, .slice none 0 0, .int .i64 0, .bool false, .slice none 0 0, .int .i64 0] 36)).cell? ⟨w.heap.size, 5, none⟩ = some (.int .i64 e2) := old_cell _ (new_cell2 _ _ _ _ _ _ (by simp) rfl)
  have R0 : ((w.alloc (.cells #[.bool s1, v1, .int .i64 e1, .bool s2, v2, .int .i64 e2] 36)).alloc (.cells #[.bool false, .slice none 0 0, .int .i64 0, .bool false, .slice none 0 0, .int .i64 0] 36)).cell? ⟨w.heap.size + 1, 0, none⟩ = some (.bool false) := new_cell2 _ _ _ _ _ _ (by simp) rfl
  have Rf0 : ((w.alloc (.cells #[.bool s1, v1, .int .i64 e1, .bool s2, v2, .int .i64 e2] 36)).alloc (.cells #[.bool false, .slice none 0 0, .int .i64 0, .bool false, .slice none 0 0, .int .i64 0] 36)).frozen? ⟨w.heap.size + 1, 0, none⟩ = false := new_loose2 _ _ _ _ _ (by simp)
  have R1 : ((w.alloc (.cells #[.bool s1, v1, .int .i64 e1, .bool s2, v2, .int .i64 e2] 36)).alloc (.cells #[.bool false, .slice none 0 0, .int .i64 0, .bool false, .slice none 0 0, .int .i64 0] 36)).cell? ⟨w.heap.size + 1, 1, none⟩ = some (.slice none 0 0) := new_cell2 _ _ _ _ _ _ (by simp) rfl
  have Rf1 : ((w.alloc (.cells #[.bool s1, v1, .int .i64 e1, .bool s2, v2, .int .i64 e2] 36)).alloc (.cells #[.bool false, .slice none 0 0, .int .i64 0, .bool false, .slice none 0 0, .int .i64 0] 36)).frozen? ⟨w.heap.size + 1, 1, none⟩ = false := new_loose2 _ _ _ _ _ (by simp)
  have R2 : ((w.alloc (.cells #[.bool s1, v1, .int .i64 e1, .bool s2, v2, .int .i64 e2] 36)).alloc (.cells #[.bool false, .slice none 0 0, .int .i64 0, .bool false, .slice none 0 0, .int .i64 0] 36)).cell? ⟨w.heap.size + 1, 2, none⟩ = some (.int .i64 0) := new_cell2 _ _ _ _ _ _ (by simp) rfl
  have Rf2 : ((w.alloc (.cells #[.bool s1, v1, .int .i64 e1, .bool s2, v2, .int .i64 e2] 36)).alloc (.cells #[.bool false, .slice none 0 0, .int .i64 0, .bool false, .slice none 0 0, .int .i64 0] 36)).frozen? ⟨w.heap.size + 1, 2, none⟩ = false := new_loose2 _ _ _ _ _ (by simp)
  have R3 : ((w.alloc (.cells #[.bool s1, v1, .int .i64 e1, .bool s2, v2, .int .i64 e2] 36)).alloc (.cells #[.bool false, .slice none 0 0, .int .i64 0, .bool false, .slice none 0 0, .int .i64 0] 36)).cell? ⟨w.heap.size + 1, 3, none⟩ = some (.bool false) := new_cell2 _ _ _ _ _ _ (by simp) rfl
  have Rf3 : ((w.alloc (.cells #[.bool s1, v1, .int .i64 e1, .bool s2, v2, .int .i64 e2] 36)).alloc (.cells #[.bool false, .slice none 0 0, .int .i64 0, .bool false, .slice none 0 0, .int .i64 0] 36)).frozen? ⟨w.heap.size + 1, 3, none⟩ = false := new_loose2 _ _ _ _ _ (by simp)
  have R4 : ((w.alloc (.cells #[.bool s1, v1, .int .i64 e1, .bool s2, v2, .int .i64 e2] 36)).alloc (.cells #[.bool false, .slice none 0 0, .int .i64 0, .bool false, .slice none 0 0, .int .i64 0] 36)).cell? ⟨w.heap.size + 1, 4, none⟩ = some (.slice none 0 0) := new_cell2 _ _ _ _ _ _ (by simp) rfl
  have Rf4 : ((w.alloc (.cells #[.bool s1, v1, .int .i64 e1, .bool s2, v2, .int .i64 e2] 36)).alloc (.cells #[.bool false, .slice none 0 0, .int .i64 0, .bool false, .slice none 0 0, .int .i64 0] 36)).frozen? ⟨w.heap.size + 1, 4, none⟩ = false := new_loose2 _ _ _ _ _ (by simp)
  have R5 : ((w.alloc (.cells #[.bool s1, v1, .int .i64 e1, .bool s2, v2, .int .i64 e2] 36)).alloc (.cells #[.bool false, .slice none 0 0, .int .i64 0, .bool false, .slice none 0 0, .int .i64 0] 36)).cell? ⟨w.heap.size + 1, 5, none⟩ = some (.int .i64 0) := new_cell2 _ _ _ _ _ _ (by simp) rfl
  have Rf5 : ((w.alloc (.cells #[.bool s1, v1, .int .i64 e1, .bool s2, v2, .int .i64 e2] 36)).alloc (.cells #[.bool false, .slice none 0 0, .int .i64 0, .bool false, .slice none 0 0, .int .i64 0] 36)).frozen? ⟨w.heap.size + 1, 5, none⟩ = false := new_loose2 _ _ _ _ _ (by simp)
  replace r1 := r1.kept k0 (by omega)
  replace r2 := r2.kept k0 (by omega)
  have s0 : ((w.alloc (.cells #[.bool s1, v1, .int .i64 e1, .bool s2, v2, .int .i64 e2] 36)).alloc (.cells #[.bool false, .slice none 0 0, .int .i64 0, .bool false, .slice none 0 0, .int .i64 0] 36)).heap.size = w.heap.size + 2 := by simp
  obtain ⟨a1, c1, hv⟩ := Row.form' r1
  subst hv
  obtain ⟨a2, c2, hv⟩ := Row.form' r2
  subst hv
  have K := hide (k0)
  clear k0
  have S0 := hide s0
  clear s0
  go_enter Tryd.func27, Tryd.ntmps27
  go_wp2_with fail
  generalize ((w.alloc (.cells #[.bool s1, .slice a1 l1.length c1, .int .i64 e1, .bool s2, .slice a2 l2.length c2, .int .i64 e2] 36)).alloc (.cells #[.bool false, .slice none 0 0, .int .i64 0, .bool false, .slice none 0 0, .int .i64 0] 36)) = W at *
  refine (dok_spec s1 e1 hu1 hd1 _ r1).mono ?_
  rintro e w1 ⟨rfl, k1⟩
  replace r1 := r1.kept k1 (.inr (.inr (Nat.le_refl 0)))
  replace r2 := r2.kept k1 (.inr (.inr (Nat.le_refl 0)))
  replace Rf0 := k1.loose0 (World.block_lt_of_cell? _ _ R0) Rf0
  replace Rf1 := k1.loose0 (World.block_lt_of_cell? _ _ R1) Rf1
  replace Rf2 := k1.loose0 (World.block_lt_of_cell? _ _ R2) Rf2
  replace Rf3 := k1.loose0 (World.block_lt_of_cell? _ _ R3) Rf3
  replace Rf4 := k1.loose0 (World.block_lt_of_cell? _ _ R4) Rf4
  replace Rf5 := k1.loose0 (World.block_lt_of_cell? _ _ R5) Rf5
  replace bp0 := k1.cell0 bp0
  replace bp1 := k1.cell0 bp1
  replace bp2 := k1.cell0 bp2
  replace bp3 := k1.cell0 bp3
  replace bp4 := k1.cell0 bp4
  replace bp5 := k1.cell0 bp5
  replace R0 := k1.cell0 R0
  replace R1 := k1.cell0 R1
  replace R2 := k1.cell0 R2
  replace R3 := k1.cell0 R3
  replace R4 := k1.cell0 R4
  replace R5 := k1.cell0 R5
  replace K := hide ((unhide K).trans k1)
  have z2 := k1.size
  clear k1
  cases o1 : dokB s1 l1 e1
  · have EO : Hid (O = false) := by show _ = _; rw [← unhide HO]; rw [o1]; rfl
    have K7 := hide (((((((unhide K).setNew (p := ⟨w.heap.size + 1, 0, none⟩) (by simp) (.bool false)).setNew (p := ⟨w.heap.size + 1, 1, none⟩) (by simp) (.slice none 0 0)).setNew (p := ⟨w.heap.size + 1, 2, none⟩) (by simp) (.int .i64 0)).setNew (p := ⟨w.heap.size + 1, 3, none⟩) (by simp) (.bool false)).setNew (p := ⟨w.heap.size + 1, 4, none⟩) (by simp) (.slice none 0 0)).setNew (p := ⟨w.heap.size + 1, 5, none⟩) (by simp) (.int .i64 0))
    clear r1 r2 K
    go_wp2_with fail
    exact bodyPost_ret (v := .tuple #[.agg #[.bool false, .slice none 0 0, .int .i64 0, .bool false, .slice none 0 0, .int .i64 0], .bool false]) (by simp [results, Tryd.results27, go_sem, R0, R1, R2, R3, R4, R5]) rfl (by rw [unhide EO]; exact ivS_no (unhide K7))
  have O1 := hide o1
  clear o1
  go_wp2_with fail
  refine (dok_spec s2 e2 hu2 hd2 _ r2).mono ?_
  rintro e w3 ⟨rfl, k3⟩
  replace r1 := r1.kept k3 (.inr (.inr (Nat.le_refl 0)))
  replace r2 := r2.kept k3 (.inr (.inr (Nat.le_refl 0)))
  replace Rf0 := k3.loose0 (World.block_lt_of_cell? _ _ R0) Rf0
  replace Rf1 := k3.loose0 (World.block_lt_of_cell? _ _ R1) Rf1
  replace Rf2 := k3.loose0 (World.block_lt_of_cell? _ _ R2) Rf2
  replace Rf3 := k3.loose0 (World.block_lt_of_cell? _ _ R3) Rf3
  replace Rf4 := k3.loose0 (World.block_lt_of_cell? _ _ R4) Rf4
  replace Rf5 := k3.loose0 (World.block_lt_of_cell? _ _ R5) Rf5
  replace bp0 := k3.cell0 bp0
  replace bp1 := k3.cell0 bp1
  replace bp2 := k3.cell0 bp2
  replace bp3 := k3.cell0 bp3
  replace bp4 := k3.cell0 bp4
  replace bp5 := k3.cell0 bp5
  replace R0 := k3.cell0 R0
  replace R1 := k3.cell0 R1
  replace R2 := k3.cell0 R2
  replace R3 := k3.cell0 R3
  replace R4 := k3.cell0 R4
  replace R5 := k3.cell0 R5
  replace K := hide ((unhide K).trans k3)
  have z4 := k3.size
  clear k3
  cases o2 : dokB s2 l2 e2
  · have EO : Hid (O = false) := by show _ = _; rw [← unhide HO]; rw [o2, unhide O1]; rfl
    have K7 := hide (((((((unhide K).setNew (p := ⟨w.heap.size + 1, 0, none⟩) (by simp) (.bool false)).setNew (p := ⟨w.heap.size + 1, 1, none⟩) (by simp) (.slice none 0 0)).setNew (p := ⟨w.heap.size + 1, 2, none⟩) (by simp) (.int .i64 0)).setNew (p := ⟨w.heap.size + 1, 3, none⟩) (by simp) (.bool false)).setNew (p := ⟨w.heap.size + 1, 4, none⟩) (by simp) (.slice none 0 0)).setNew (p := ⟨w.heap.size + 1, 5, none⟩) (by simp) (.int .i64 0))
    clear r1 r2 K
    go_wp2_with fail
    exact bodyPost_ret (v := .tuple #[.agg #[.bool false, .slice none 0 0, .int .i64 0, .bool false, .slice none 0 0, .int .i64 0], .bool false]) (by simp [results, Tryd.results27, go_sem, R0, R1, R2, R3, R4, R5]) rfl (by rw [unhide EO]; exact ivS_no (unhide K7))
  have O2 := hide o2
  have EO : Hid (O = true) := by show _ = _; rw [← unhide HO, unhide O1, o2]; rfl
  have w1 := wok_wn (dok_parts (unhide O1)).1
  have w2 := wok_wn (dok_parts o2).1
  have n1 := (wok_int (dok_parts (unhide O1)).1).2.2.1
  have n2 := (wok_int (dok_parts o2).1).2.2.1
  clear o2
  go_wp2_with fail
  have kd := (Kept.refl 0 0 w3).drew
  replace r1 := r1.kept kd (.inr (.inr (Nat.le_refl 0)))
  replace r2 := r2.kept kd (.inr (.inr (Nat.le_refl 0)))
  replace Rf0 := kd.loose0 (World.block_lt_of_cell? _ _ R0) Rf0
  replace Rf1 := kd.loose0 (World.block_lt_of_cell? _ _ R1) Rf1
  replace Rf2 := kd.loose0 (World.block_lt_of_cell? _ _ R2) Rf2
  replace Rf3 := kd.loose0 (World.block_lt_of_cell? _ _ R3) Rf3
  replace Rf4 := kd.loose0 (World.block_lt_of_cell? _ _ R4) Rf4
  replace Rf5 := kd.loose0 (World.block_lt_of_cell? _ _ R5) Rf5
  replace bp0 := kd.cell0 bp0
  replace bp1 := kd.cell0 bp1
  replace bp2 := kd.cell0 bp2
  replace bp3 := kd.cell0 bp3
  replace bp4 := kd.cell0 bp4
  replace bp5 := kd.cell0 bp5
  replace R0 := kd.cell0 R0
  replace R1 := kd.cell0 R1
  replace R2 := kd.cell0 R2
  replace R3 := kd.cell0 R3
  replace R4 := kd.cell0 R4
  replace R5 := kd.cell0 R5
  replace K := hide ((unhide K).trans kd)
  have z5 := kd.size
  clear kd
  refine wp_region_held_drew (S := (fun w' => w'.cell? ⟨w.heap.size, 0, none⟩ = some (.bool s1) ∧ w'.cell? ⟨w.heap.size, 1, none⟩ = some (.slice a1 l1.length c1) ∧ w'.cell? ⟨w.heap.size, 2, none⟩ = some (.int .i64 e1) ∧ w'.cell? ⟨w.heap.size, 3, none⟩ = some (.bool s2) ∧ w'.cell? ⟨w.heap.size, 4, none⟩ = some (.slice a2 l2.length c2) ∧ w'.cell? ⟨w.heap.size, 5, none⟩ = some (.int .i64 e2))) (by kernel_rfl) ?_ (fun hHeld => ?_)
  · exact ⟨bp0, bp1, bp2, bp3, bp4, bp5⟩
  refine wpAnyH_take (i := 0) (oi := _) (v := .pointer (some ⟨w.heap.size, 0, none⟩)) rfl (by kernel_rfl) (by kernel_rfl) (by kernel_rfl) (fun _ _ _ h => h) (Or.inl ⟨by rfl, ?_⟩) hHeld ?_
  · intro wq hSw
    try dsimp only at hSw
    go_simp
  try simp only [Act.put, List.getElem_toArray, List.getElem_cons_succ, List.getElem_cons_zero, List.setIfInBounds_toArray, List.set_cons_zero, List.set_cons_succ]
  refine wpAnyH_take (i := 1) (oi := _) (v := .agg #[.bool s1, .slice a1 l1.length c1, .int .i64 e1]) rfl (by kernel_rfl) (by kernel_rfl) (by kernel_rfl) (fun _ _ _ h => h) (Or.inl ⟨by rfl, ?_⟩) hHeld ?_
  · intro wq hSw
    try dsimp only at hSw
    go_simp
  try simp only [Act.put, List.getElem_toArray, List.getElem_cons_succ, List.getElem_cons_zero, List.setIfInBounds_toArray, List.set_cons_zero, List.set_cons_succ]
  refine wpAnyH_take (i := 3) (oi := _) (v := .pointer (some ⟨w.heap.size, 3, none⟩)) rfl (by kernel_rfl) (by kernel_rfl) (by kernel_rfl) (fun _ _ _ h => h) (Or.inl ⟨by rfl, ?_⟩) hHeld ?_
  · intro wq hSw
    try dsimp only at hSw
    go_simp
  try simp only [Act.put, List.getElem_toArray, List.getElem_cons_succ, List.getElem_cons_zero, List.setIfInBounds_toArray, List.set_cons_zero, List.set_cons_succ]
  refine wpAnyH_take (i := 4) (oi := _) (v := .agg #[.bool s2, .slice a2 l2.length c2, .int .i64 e2]) rfl (by kernel_rfl) (by kernel_rfl) (by kernel_rfl) (fun _ _ _ h => h) (Or.inl ⟨by rfl, ?_⟩) hHeld ?_
  · intro wq hSw
    try dsimp only at hSw
    go_simp
  try simp only [Act.put, List.getElem_toArray, List.getElem_cons_succ, List.getElem_cons_zero, List.setIfInBounds_toArray, List.set_cons_zero, List.set_cons_succ]
  refine wpAnyH_ready (rs := [2]) (by kernel_rfl) (by simp) ?_
  refine AllReadyH.cons rfl (fun KK hK => ?_) AllReadyH.nil
  simp only [List.getElem_toArray, List.getElem_cons_succ, List.getElem_cons_zero]
  rw [if_pos (by rfl)]
  refine wps1 50 (.tmp 16) _ rfl in_l7own (.agg #[.bool s1, .slice a1 l1.length c1, .int .i64 e1]) rfl (own7_spec s1 e1 w1 (by omega) _ r1) ?_
  rintro e w6 ⟨vA, rfl, rA, k6⟩
  refine ⟨_, rfl, ?_⟩
  replace r1 := r1.kept k6 (.inr (.inr (Nat.le_refl 0)))
  replace r2 := r2.kept k6 (.inr (.inr (Nat.le_refl 0)))
  replace Rf0 := k6.loose0 (World.block_lt_of_cell? _ _ R0) Rf0
  replace Rf1 := k6.loose0 (World.block_lt_of_cell? _ _ R1) Rf1
  replace Rf2 := k6.loose0 (World.block_lt_of_cell? _ _ R2) Rf2
  replace Rf3 := k6.loose0 (World.block_lt_of_cell? _ _ R3) Rf3
  replace Rf4 := k6.loose0 (World.block_lt_of_cell? _ _ R4) Rf4
  replace Rf5 := k6.loose0 (World.block_lt_of_cell? _ _ R5) Rf5
  replace bp0 := k6.cell0 bp0
  replace bp1 := k6.cell0 bp1
  replace bp2 := k6.cell0 bp2
  replace bp3 := k6.cell0 bp3
  replace bp4 := k6.cell0 bp4
  replace bp5 := k6.cell0 bp5
  replace R0 := k6.cell0 R0
  replace R1 := k6.cell0 R1
  replace R2 := k6.cell0 R2
  replace R3 := k6.cell0 R3
  replace R4 := k6.cell0 R4
  replace R5 := k6.cell0 R5
  replace K := hide ((unhide K).trans k6)
  have z7 := k6.size
  clear k6
  clear hHeld
  refine hK.out _ _ ?_ (fun hHeld => ?_)
  · exact ⟨bp0, bp1, bp2, bp3, bp4, bp5⟩
  clear hK KK
  try simp only [Act.put, List.getElem_toArray, List.getElem_cons_succ, List.getElem_cons_zero, List.setIfInBounds_toArray, List.set_cons_zero, List.set_cons_succ]
  obtain ⟨aA, cA, hv⟩ := Row.form' rA
  subst hv
  refine wpAnyH_ready (rs := [5]) (by kernel_rfl) (by simp) ?_
  refine AllReadyH.cons rfl (fun KK hK => ?_) AllReadyH.nil
  simp only [List.getElem_toArray, List.getElem_cons_succ, List.getElem_cons_zero]
  rw [if_pos (by rfl)]
  refine wps1 50 (.tmp 19) _ rfl in_l7own (.agg #[.bool s2, .slice a2 l2.length c2, .int .i64 e2]) rfl (own7_spec s2 e2 w2 (by omega) _ r2) ?_
  rintro e w8 ⟨vB, rfl, rB, k8⟩
  refine ⟨_, rfl, ?_⟩
  replace r1 := r1.kept k8 (.inr (.inr (Nat.le_refl 0)))
  replace r2 := r2.kept k8 (.inr (.inr (Nat.le_refl 0)))
  replace rA := rA.kept k8 (.inr (.inr (Nat.le_refl 0)))
  replace Rf0 := k8.loose0 (World.block_lt_of_cell? _ _ R0) Rf0
  replace Rf1 := k8.loose0 (World.block_lt_of_cell? _ _ R1) Rf1
  replace Rf2 := k8.loose0 (World.block_lt_of_cell? _ _ R2) Rf2
  replace Rf3 := k8.loose0 (World.block_lt_of_cell? _ _ R3) Rf3
  replace Rf4 := k8.loose0 (World.block_lt_of_cell? _ _ R4) Rf4
  replace Rf5 := k8.loose0 (World.block_lt_of_cell? _ _ R5) Rf5
  replace bp0 := k8.cell0 bp0
  replace bp1 := k8.cell0 bp1
  replace bp2 := k8.cell0 bp2
  replace bp3 := k8.cell0 bp3
  replace bp4 := k8.cell0 bp4
  replace bp5 := k8.cell0 bp5
  replace R0 := k8.cell0 R0
  replace R1 := k8.cell0 R1
  replace R2 := k8.cell0 R2
  replace R3 := k8.cell0 R3
  replace R4 := k8.cell0 R4
  replace R5 := k8.cell0 R5
  replace K := hide ((unhide K).trans k8)
  have z9 := k8.size
  clear k8
  clear hHeld
  refine hK.out _ _ ?_ (fun hHeld => ?_)
  · exact ⟨bp0, bp1, bp2, bp3, bp4, bp5⟩
  clear hK KK
  try simp only [Act.put, List.getElem_toArray, List.getElem_cons_succ, List.getElem_cons_zero, List.setIfInBounds_toArray, List.set_cons_zero, List.set_cons_succ]
  obtain ⟨aB, cB, hv⟩ := Row.form' rB
  subst hv
  refine wpAnyH_take (i := 6) (oi := _) (v := .agg #[.bool s1, .slice aA l1.length cA, .int .i64 e1, .bool s2, .slice aB l2.length cB, .int .i64 e2]) rfl (by kernel_rfl) (by kernel_rfl) (by kernel_rfl) (fun _ _ _ h => h) (Or.inl ⟨by rfl, ?_⟩) hHeld ?_
  · intro wq hSw
    try dsimp only at hSw
    go_simp
  try simp only [Act.put, List.getElem_toArray, List.getElem_cons_succ, List.getElem_cons_zero, List.setIfInBounds_toArray, List.set_cons_zero, List.set_cons_succ]
  refine wpAnyH_ready (rs := [7]) (by kernel_rfl) (by simp) ?_
  refine AllReadyH.cons rfl (fun KK hK => ?_) AllReadyH.nil
  simp only [List.getElem_toArray, List.getElem_cons_succ, List.getElem_cons_zero]
  rw [if_pos (by rfl)]
  go_simp
  clear hHeld
  refine hK.out _ _ ?_ (fun hHeld => ?_)
  · exact ⟨(cell_aside _ (by have := unhide S0; dsimp only; omega) (cell_aside _ (by have := unhide S0; dsimp only; omega) (cell_aside _ (by have := unhide S0; dsimp only; omega) (cell_aside _ (by have := unhide S0; dsimp only; omega) (cell_aside _ (by have := unhide S0; dsimp only; omega) (cell_aside _ (by have := unhide S0; dsimp only; omega) bp0)))))), (cell_aside _ (by have := unhide S0; dsimp only; omega) (cell_aside _ (by have := unhide S0; dsimp only; omega) (cell_aside _ (by have := unhide S0; dsimp only; omega) (cell_aside _ (by have := unhide S0; dsimp only; omega) (cell_aside _ (by have := unhide S0; dsimp only; omega) (cell_aside _ (by have := unhide S0; dsimp only; omega) bp1)))))), (cell_aside _ (by have := unhide S0; dsimp only; omega) (cell_aside _ (by have := unhide S0; dsimp only; omega) (cell_aside _ (by have := unhide S0; dsimp only; omega) (cell_aside _ (by have := unhide S0; dsimp only; omega) (cell_aside _ (by have := unhide S0; dsimp only; omega) (cell_aside _ (by have := unhide S0; dsimp only; omega) bp2)))))), (cell_aside _ (by have := unhide S0; dsimp only; omega) (cell_aside _ (by have := unhide S0; dsimp only; omega) (cell_aside _ (by have := unhide S0; dsimp only; omega) (cell_aside _ (by have := unhide S0; dsimp only; omega) (cell_aside _ (by have := unhide S0; dsimp only; omega) (cell_aside _ (by have := unhide S0; dsimp only; omega) bp3)))))), (cell_aside _ (by have := unhide S0; dsimp only; omega) (cell_aside _ (by have := unhide S0; dsimp only; omega) (cell_aside _ (by have := unhide S0; dsimp only; omega) (cell_aside _ (by have := unhide S0; dsimp only; omega) (cell_aside _ (by have := unhide S0; dsimp only; omega) (cell_aside _ (by have := unhide S0; dsimp only; omega) bp4)))))), (cell_aside _ (by have := unhide S0; dsimp only; omega) (cell_aside _ (by have := unhide S0; dsimp only; omega) (cell_aside _ (by have := unhide S0; dsimp only; omega) (cell_aside _ (by have := unhide S0; dsimp only; omega) (cell_aside _ (by have := unhide S0; dsimp only; omega) (cell_aside _ (by have := unhide S0; dsimp only; omega) bp5))))))⟩
  clear hK KK
  try simp only [Act.put, List.getElem_toArray, List.getElem_cons_succ, List.getElem_cons_zero, List.setIfInBounds_toArray, List.set_cons_zero, List.set_cons_succ]
  refine wpAnyH_take (i := 8) (oi := _) (v := .bool true) rfl (by kernel_rfl) (by kernel_rfl) (by kernel_rfl) (fun _ _ _ h => h) (Or.inl ⟨by rfl, ?_⟩) hHeld ?_
  · intro wq hSw
    try dsimp only at hSw
    go_simp
  try simp only [Act.put, List.getElem_toArray, List.getElem_cons_succ, List.getElem_cons_zero, List.setIfInBounds_toArray, List.set_cons_zero, List.set_cons_succ]
  refine wpAnyH_done (by kernel_rfl) ?_ _
  clear hHeld
  have RA := hide (((((((rA.set_other (p := ⟨w.heap.size + 1, 0, none⟩) (.inl (by have := unhide S0; dsimp only; omega)) (.bool s1)).set_other (p := ⟨w.heap.size + 1, 1, none⟩) (.inl (by have := unhide S0; dsimp only; omega)) (.slice aA l1.length cA)).set_other (p := ⟨w.heap.size + 1, 2, none⟩) (.inl (by have := unhide S0; dsimp only; omega)) (.int .i64 e1)).set_other (p := ⟨w.heap.size + 1, 3, none⟩) (.inl (by have := unhide S0; dsimp only; omega)) (.bool s2)).set_other (p := ⟨w.heap.size + 1, 4, none⟩) (.inl (by have := unhide S0; dsimp only; omega)) (.slice aB l2.length cB)).set_other (p := ⟨w.heap.size + 1, 5, none⟩) (.inl (by have := unhide S0; dsimp only; omega)) (.int .i64 e2)).tight.wider (lo' := w.heap.size) (by have := unhide S0; omega) (Nat.le_refl _))
  have RB := hide (((((((rB.set_other (p := ⟨w.heap.size + 1, 0, none⟩) (.inl (by have := unhide S0; dsimp only; omega)) (.bool s1)).set_other (p := ⟨w.heap.size + 1, 1, none⟩) (.inl (by have := unhide S0; dsimp only; omega)) (.slice aA l1.length cA)).set_other (p := ⟨w.heap.size + 1, 2, none⟩) (.inl (by have := unhide S0; dsimp only; omega)) (.int .i64 e1)).set_other (p := ⟨w.heap.size + 1, 3, none⟩) (.inl (by have := unhide S0; dsimp only; omega)) (.bool s2)).set_other (p := ⟨w.heap.size + 1, 4, none⟩) (.inl (by have := unhide S0; dsimp only; omega)) (.slice aB l2.length cB)).set_other (p := ⟨w.heap.size + 1, 5, none⟩) (.inl (by have := unhide S0; dsimp only; omega)) (.int .i64 e2)).tight.wider (lo' := w.heap.size) (by have := unhide S0; omega) (Nat.le_refl _))
  have K7 := hide (((((((unhide K).setNew (p := ⟨w.heap.size + 1, 0, none⟩) (by simp) (.bool s1)).setNew (p := ⟨w.heap.size + 1, 1, none⟩) (by simp) (.slice aA l1.length cA)).setNew (p := ⟨w.heap.size + 1, 2, none⟩) (by simp) (.int .i64 e1)).setNew (p := ⟨w.heap.size + 1, 3, none⟩) (by simp) (.bool s2)).setNew (p := ⟨w.heap.size + 1, 4, none⟩) (by simp) (.slice aB l2.length cB)).setNew (p := ⟨w.heap.size + 1, 5, none⟩) (by simp) (.int .i64 e2))
  clear r1 r2 rA rB K
  go_wp2_with fail
  exact bodyPost_ret (v := .tuple #[.agg #[.bool s1, .slice aA l1.length cA, .int .i64 e1, .bool s2, .slice aB l2.length cB, .int .i64 e2], .bool true]) (by simp [results, Tryd.results27, go_sem, R0, R1, R2, R3, R4, R5]) rfl (by rw [unhide EO]; exact ivS_yes (unhide RA) (unhide RB) (unhide K7))

set_option maxHeartbeats 4000000 in
theorem ivof_spec {b1 b2 : Bool} {w1l w1h w2l w2h : Nat} {v1 v2 : Value} {l1 l2 : List Int} (s1 : Bool) (e1 : Int) (hu1 : e1 ≤ 9223372036854775807) (hd1 : -9223372036854775808 ≤ e1) (s2 : Bool) (e2 : Int) (hu2 : e2 ≤ 9223372036854775807) (hd2 : -9223372036854775808 ≤ e2) (w : World) (r1 : Row .i64 b1 w1l w1h w v1 l1) (r2 : Row .i64 b2 w2l w2h w v2 l2) :
    Calls Tryd.prog 8 #[.agg #[.bool s1, v1, .int .i64 e1], .agg #[.bool s2, v2, .int .i64 e2]] w fun e w' => IvAnsS (ivC (iokB s1 l1 e1 s2 l2 e2) (wval s1 l1) (e1) (wval s2 l2) (e2)) (wsg (wval s1 l1)) (dex (wval s1 l1) (e1)) (dlm (wval s1 l1)) (wsg (wval s2 l2)) (dex (wval s2 l2) (e2)) (dlm (wval s2 l2)) w e w' := by
  replace r1 := r1.tight
  replace r2 := r2.tight
  obtain ⟨CC, hCC⟩ : ∃ c, ivC (iokB s1 l1 e1 s2 l2 e2) (wval s1 l1) (e1) (wval s2 l2) (e2) = c := ⟨_, rfl⟩
  rw [hCC]
  have HCC := hide hCC
  clear hCC
  obtain ⟨W1, hW1⟩ : ∃ c, wsg (wval s1 l1) = c := ⟨_, rfl⟩
  obtain ⟨D1, hD1⟩ : ∃ c, dex (wval s1 l1) (e1) = c := ⟨_, rfl⟩
  obtain ⟨Q1, hQ1⟩ : ∃ c, dlm (wval s1 l1) = c := ⟨_, rfl⟩
  obtain ⟨W2, hW2⟩ : ∃ c, wsg (wval s2 l2) = c := ⟨_, rfl⟩
  obtain ⟨D2, hD2⟩ : ∃ c, dex (wval s2 l2) (e2) = c := ⟨_, rfl⟩
  obtain ⟨Q2, hQ2⟩ : ∃ c, dlm (wval s2 l2) = c := ⟨_, rfl⟩
  try rw [hW1]
  try rw [hD1]
  try rw [hQ1]
  try rw [hW2]
  try rw [hD2]
  try rw [hQ2]
  have HW1 := hide hW1
  clear hW1
  have HD1 := hide hD1
  clear hD1
  have HQ1 := hide hQ1
  clear hQ1
  have HW2 := hide hW2
  clear hW2
  have HD2 := hide hD2
  clear hD2
  have HQ2 := hide hQ2
  clear hQ2
  have k0 : Kept 0 0 w ((((w.alloc (.cells #[.bool s1, v1, .int .i64 e1] 34)).alloc (.cells #[.bool s2, v2, .int .i64 e2] 34)).alloc (.cells #[.bool false, .slice none 0 0, .int .i64 0, .bool false, .slice none 0 0, .int .i64 0] 36)).alloc (.cells #[.bool s1, v1, .int .i64 e1, .bool s2, v2, .int .i64 e2] 36)) := (((((Kept.refl 0 0 w).alloc (.cells #[.bool s1, v1, .int .i64 e1] 34)).alloc (.cells #[.bool s2, v2, .int .i64 e2] 34)).alloc (.cells #[.bool false, .slice none 0 0, .int .i64 0, .bool false, .slice none 0 0, .int .i64 0] 36)).alloc (.cells #[.bool s1, v1, .int .i64 e1, .bool s2, v2, .int .i64 e2] 36))
  have bp0 : ((((w.alloc (.cells #[.bool s1, v1, .int .i64 e1] 34)).alloc (.cells #[.bool s2, v2, .int .i64 e2] 34)).alloc (.cells #[.bool false, .slice none 0 0, .int .i64 0, .bool false, .slice none 0 0, .int .i64 0] 36)).alloc (.cells #[.bool s1, v1, .int .i64 e1, .bool s2, v2, .int .i64 e2] 36)).cell? ⟨w.heap.size, 0, none⟩ = some (.bool s1) := old_cell _ (old_cell _ (old_cell _ (new_cell2 _ _ _ _ _ _ (by simp) rfl)))
  have bp1 : ((((w.alloc (.cells #[.bool s1, v1, .int .i64 e1] 34)).alloc (.cells #[.bool s2, v2, .int .i64 e2] 34)).alloc (.cells #[.bool false, .slice none 0 0, .int .i64 0, .bool false, .slice none 0 0, .int .i64 0] 36)).alloc (.cells #[.bool s1, v1, .int .i64 e1, .bool s2, v2, .int .i64 e2] 36)).cell? ⟨w.heap.size, 1, none⟩ = some (v1) := old_cell _ (old_cell _ (old_cell _ (new_cell2 _ _ _ _ _ _ (by simp) rfl)))
  have bp2 : ((((w.alloc (.cells #[.bool s1, v1, .int .i64 e1] 34)).alloc (.cells #[.bool s2, v2, .int .i64 e2] 34)).alloc (.cells #[.bool false, .slice none 0 0, .int .i64 0, .bool false, .slice none 0 0, .int .i64 0] 36)).alloc (.cells #[.bool s1, v1, .int .i64 e1, .bool s2, v2, .int .i64 e2] 36)).cell? ⟨w.heap.size, 2, none⟩ = some (.int .i64 e1) := old_cell _ (old_cell _ (old_cell _ (new_cell2 _ _ _ _ _ _ (by simp) rfl)))
  have bq0 : ((((w.alloc (.cells #[.bool s1, v1, .int .i64 e1] 34)).alloc (.cells #[.bool s2, v2, .int .i64 e2] 34)).alloc (.cells #[.bool false, .slice none 0 0, .int .i64 0, .bool false, .slice none 0 0, .int .i64 0] 36)).alloc (.cells #[.bool s1, v1, .int .i64 e1, .bool s2, v2, .int .i64 e2] 36)).cell? ⟨w.heap.size + 1, 0, none⟩ = some (.bool s2) := old_cell _ (old_cell _ (new_cell2 _ _ _ _ _ _ (by simp) rfl))
  have bq1 : ((((w.alloc (.cells #[.bool s1, v1, .int .i64 e1] 34)).alloc (.cells #[.bool s2, v2, .int .i64 e2] 34)).alloc (.cells #[.bool false, .slice none 0 0, .int .i64 0, .bool false, .slice none 0 0, .int .i64 0] 36)).alloc (.cells #[.bool s1, v1, .int .i64 e1, .bool s2, v2, .int .i64 e2] 36)).cell? ⟨w.heap.size + 1, 1, none⟩ = some (v2) := old_cell _ (old_cell _ (new_cell2 _ _ _ _ _ _ (by simp) rfl))
  have bq2 : ((((w.alloc (.cells #[.bool s1, v1, .int .i64 e1] 34)).alloc (.cells #[.bool s2, v2, .int .i64 e2] 34)).alloc (.cells #[.bool false, .slice none 0 0, .int .i64 0, .bool false, .slice none 0 0, .int .i64 0] 36)).alloc (.cells #[.bool s1, v1, .int .i64 e1, .bool s2, v2, .int .i64 e2] 36)).cell? ⟨w.heap.size + 1, 2, none⟩ = some (.int .i64 e2) := old_cell _ (old_cell _ (new_cell2 _ _ _ _ _ _ (by simp) rfl))
  have R0 : ((((w.alloc (.cells #[.bool s1, v1, .int .i64 e1] 34)).alloc (.cells #[.bool s2, v2, .int .i64 e2] 34)).alloc (.cells #[.bool false, .slice none 0 0, .int .i64 0, .bool false, .slice none 0 0, .int .i64 0] 36)).alloc (.cells #[.bool s1, v1, .int .i64 e1, .bool s2, v2, .int .i64 e2] 36)).cell? ⟨w.heap.size + 2, 0, none⟩ = some (.bool false) := old_cell _ (new_cell2 _ _ _ _ _ _ (by simp) rfl)
  have Rf0 : ((((w.alloc (.cells #[.bool s1, v1, .int .i64 e1] 34)).alloc (.cells #[.bool s2, v2, .int .i64 e2] 34)).alloc (.cells #[.bool false, .slice none 0 0, .int .i64 0, .bool false, .slice none 0 0, .int .i64 0] 36)).alloc (.cells #[.bool s1, v1, .int .i64 e1, .bool s2, v2, .int .i64 e2] 36)).frozen? ⟨w.heap.size + 2, 0, none⟩ = false := loose_old (by simp <;> omega) (new_loose2 _ _ _ _ _ (by simp))
  have R1 : ((((w.alloc (.cells #[.bool s1, v1, .int .i64 e1] 34)).alloc (.cells #[.bool s2, v2, .int .i64 e2] 34)).alloc (.cells #[.bool false, .slice none 0 0, .int .i64 0, .bool false, .slice none 0 0, .int .i64 0] 36)).alloc (.cells #[.bool s1, v1, .int .i64 e1, .bool s2, v2, .int .i64 e2] 36)).cell? ⟨w.heap.size + 2, 1, none⟩ = some (.slice none 0 0) := old_cell _ (new_cell2 _ _ _ _ _ _ (by simp) rfl)
  have Rf1 : ((((w.alloc (.cells #[.bool s1, v1, .int .i64 e1] 34)).alloc (.cells #[.bool s2, v2, .int .i64 e2] 34)).alloc (.cells #[.bool false, .slice none 0 0, .int .i64 0, .bool false, .slice none 0 0, .int .i64 0] 36)).alloc (.cells #[.bool s1, v1, .int .i64 e1, .bool s2, v2, .int .i64 e2] 36)).frozen? ⟨w.heap.size + 2, 1, none⟩ = false := loose_old (by simp <;> omega) (new_loose2 _ _ _ _ _ (by simp))
  have R2 : ((((w.alloc (.cells #[.bool s1, v1, .int .i64 e1] 34)).alloc (.cells #[.bool s2, v2, .int .i64 e2] 34)).alloc (.cells #[.bool false, .slice none 0 0, .int .i64 0, .bool false, .slice none 0 0, .int .i64 0] 36)).alloc (.cells #[.bool s1, v1, .int .i64 e1, .bool s2, v2, .int .i64 e2] 36)).cell? ⟨w.heap.size + 2, 2, none⟩ = some (.int .i64 0) := old_cell _ (new_cell2 _ _ _ _ _ _ (by simp) rfl)
  have Rf2 : ((((w.alloc (.cells #[.bool s1, v1, .int .i64 e1] 34)).alloc (.cells #[.bool s2, v2, .int .i64 e2] 34)).alloc (.cells #[.bool false, .slice none 0 0, .int .i64 0, .bool false, .slice none 0 0, .int .i64 0] 36)).alloc (.cells #[.bool s1, v1, .int .i64 e1, .bool s2, v2, .int .i64 e2] 36)).frozen? ⟨w.heap.size + 2, 2, none⟩ = false := loose_old (by simp <;> omega) (new_loose2 _ _ _ _ _ (by simp))
  have R3 : ((((w.alloc (.cells #[.bool s1, v1, .int .i64 e1] 34)).alloc (.cells #[.bool s2, v2, .int .i64 e2] 34)).alloc (.cells #[.bool false, .slice none 0 0, .int .i64 0, .bool false, .slice none 0 0, .int .i64 0] 36)).alloc (.cells #[.bool s1, v1, .int .i64 e1, .bool s2, v2, .int .i64 e2] 36)).cell? ⟨w.heap.size + 2, 3, none⟩ = some (.bool false) := old_cell _ (new_cell2 _ _ _ _ _ _ (by simp) rfl)
  have Rf3 : ((((w.alloc (.cells #[.bool s1, v1, .int .i64 e1] 34)).alloc (.cells #[.bool s2, v2, .int .i64 e2] 34)).alloc (.cells #[.bool false, .slice none 0 0, .int .i64 0, .bool false, .slice none 0 0, .int .i64 0] 36)).alloc (.cells #[.bool s1, v1, .int .i64 e1, .bool s2, v2, .int .i64 e2] 36)).frozen? ⟨w.heap.size + 2, 3, none⟩ = false := loose_old (by simp <;> omega) (new_loose2 _ _ _ _ _ (by simp))
  have R4 : ((((w.alloc (.cells #[.bool s1, v1, .int .i64 e1] 34)).alloc (.cells #[.bool s2, v2, .int .i64 e2] 34)).alloc (.cells #[.bool false, .slice none 0 0, .int .i64 0, .bool false, .slice none 0 0, .int .i64 0] 36)).alloc (.cells #[.bool s1, v1, .int .i64 e1, .bool s2, v2, .int .i64 e2] 36)).cell? ⟨w.heap.size + 2, 4, none⟩ = some (.slice none 0 0) := old_cell _ (new_cell2 _ _ _ _ _ _ (by simp) rfl)
  have Rf4 : ((((w.alloc (.cells #[.bool s1, v1, .int .i64 e1] 34)).alloc (.cells #[.bool s2, v2, .int .i64 e2] 34)).alloc (.cells #[.bool false, .slice none 0 0, .int .i64 0, .bool false, .slice none 0 0, .int .i64 0] 36)).alloc (.cells #[.bool s1, v1, .int .i64 e1, .bool s2, v2, .int .i64 e2] 36)).frozen? ⟨w.heap.size + 2, 4, none⟩ = false := loose_old (by simp <;> omega) (new_loose2 _ _ _ _ _ (by simp))
  have R5 : ((((w.alloc (.cells #[.bool s1, v1, .int .i64 e1] 34)).alloc (.cells #[.bool s2, v2, .int .i64 e2] 34)).alloc (.cells #[.bool false, .slice none 0 0, .int .i64 0, .bool false, .slice none 0 0, .int .i64 0] 36)).alloc (.cells #[.bool s1, v1, .int .i64 e1, .bool s2, v2, .int .i64 e2] 36)).cell? ⟨w.heap.size + 2, 5, none⟩ = some (.int .i64 0) := old_cell _ (new_cell2 _ _ _ _ _ _ (by simp) rfl)
  have Rf5 : ((((w.alloc (.cells #[.bool s1, v1, .int .i64 e1] 34)).alloc (.cells #[.bool s2, v2, .int .i64 e2] 34)).alloc (.cells #[.bool false, .slice none 0 0, .int .i64 0, .bool false, .slice none 0 0, .int .i64 0] 36)).alloc (.cells #[.bool s1, v1, .int .i64 e1, .bool s2, v2, .int .i64 e2] 36)).frozen? ⟨w.heap.size + 2, 5, none⟩ = false := loose_old (by simp <;> omega) (new_loose2 _ _ _ _ _ (by simp))
  have V0 : ((((w.alloc (.cells #[.bool s1, v1, .int .i64 e1] 34)).alloc (.cells #[.bool s2, v2, .int .i64 e2] 34)).alloc (.cells #[.bool false, .slice none 0 0, .int .i64 0, .bool false, .slice none 0 0, .int .i64 0] 36)).alloc (.cells #[.bool s1, v1, .int .i64 e1, .bool s2, v2, .int .i64 e2] 36)).cell? ⟨w.heap.size + 3, 0, none⟩ = some (.bool s1) := new_cell2 _ _ _ _ _ _ (by simp) rfl
  have V1 : ((((w.alloc (.cells #[.bool s1, v1, .int .i64 e1] 34)).alloc (.cells #[.bool s2, v2, .int .i64 e2] 34)).alloc (.cells #[.bool false, .slice none 0 0, .int .i64 0, .bool false, .slice none 0 0, .int .i64 0] 36)).alloc (.cells #[.bool s1, v1, .int .i64 e1, .bool s2, v2, .int .i64 e2] 36)).cell? ⟨w.heap.size + 3, 1, none⟩ = some (v1) := new_cell2 _ _ _ _ _ _ (by simp) rfl
  have V2 : ((((w.alloc (.cells #[.bool s1, v1, .int .i64 e1] 34)).alloc (.cells #[.bool s2, v2, .int .i64 e2] 34)).alloc (.cells #[.bool false, .slice none 0 0, .int .i64 0, .bool false, .slice none 0 0, .int .i64 0] 36)).alloc (.cells #[.bool s1, v1, .int .i64 e1, .bool s2, v2, .int .i64 e2] 36)).cell? ⟨w.heap.size + 3, 2, none⟩ = some (.int .i64 e1) := new_cell2 _ _ _ _ _ _ (by simp) rfl
  have V3 : ((((w.alloc (.cells #[.bool s1, v1, .int .i64 e1] 34)).alloc (.cells #[.bool s2, v2, .int .i64 e2] 34)).alloc (.cells #[.bool false, .slice none 0 0, .int .i64 0, .bool false, .slice none 0 0, .int .i64 0] 36)).alloc (.cells #[.bool s1, v1, .int .i64 e1, .bool s2, v2, .int .i64 e2] 36)).cell? ⟨w.heap.size + 3, 3, none⟩ = some (.bool s2) := new_cell2 _ _ _ _ _ _ (by simp) rfl
  have V4 : ((((w.alloc (.cells #[.bool s1, v1, .int .i64 e1] 34)).alloc (.cells #[.bool s2, v2, .int .i64 e2] 34)).alloc (.cells #[.bool false, .slice none 0 0, .int .i64 0, .bool false, .slice none 0 0, .int .i64 0] 36)).alloc (.cells #[.bool s1, v1, .int .i64 e1, .bool s2, v2, .int .i64 e2] 36)).cell? ⟨w.heap.size + 3, 4, none⟩ = some (v2) := new_cell2 _ _ _ _ _ _ (by simp) rfl
  have V5 : ((((w.alloc (.cells #[.bool s1, v1, .int .i64 e1] 34)).alloc (.cells #[.bool s2, v2, .int .i64 e2] 34)).alloc (.cells #[.bool false, .slice none 0 0, .int .i64 0, .bool false, .slice none 0 0, .int .i64 0] 36)).alloc (.cells #[.bool s1, v1, .int .i64 e1, .bool s2, v2, .int .i64 e2] 36)).cell? ⟨w.heap.size + 3, 5, none⟩ = some (.int .i64 e2) := new_cell2 _ _ _ _ _ _ (by simp) rfl
  replace r1 := r1.kept k0 (by omega)
  replace r2 := r2.kept k0 (by omega)
  have s0 : ((((w.alloc (.cells #[.bool s1, v1, .int .i64 e1] 34)).alloc (.cells #[.bool s2, v2, .int .i64 e2] 34)).alloc (.cells #[.bool false, .slice none 0 0, .int .i64 0, .bool false, .slice none 0 0, .int .i64 0] 36)).alloc (.cells #[.bool s1, v1, .int .i64 e1, .bool s2, v2, .int .i64 e2] 36)).heap.size = w.heap.size + 4 := by simp
  obtain ⟨a1, c1, hv⟩ := Row.form' r1
  subst hv
  obtain ⟨a2, c2, hv⟩ := Row.form' r2
  subst hv
  have K := hide (k0)
  clear k0
  have S0 := hide s0
  clear s0
  go_enter Tryd.func8, Tryd.ntmps8
  go_wp2_with fail
  generalize ((((w.alloc (.cells #[.bool s1, .slice a1 l1.length c1, .int .i64 e1] 34)).alloc (.cells #[.bool s2, .slice a2 l2.length c2, .int .i64 e2] 34)).alloc (.cells #[.bool false, .slice none 0 0, .int .i64 0, .bool false, .slice none 0 0, .int .i64 0] 36)).alloc (.cells #[.bool s1, .slice a1 l1.length c1, .int .i64 e1, .bool s2, .slice a2 l2.length c2, .int .i64 e2] 36)) = W at *
  refine (ivok_spec s1 e1 hu1 hd1 s2 e2 hu2 hd2 _ r1 r2).mono ?_
  rintro e w1 ⟨rfl, k1⟩
  replace r1 := r1.kept k1 (.inr (.inr (Nat.le_refl 0)))
  replace r2 := r2.kept k1 (.inr (.inr (Nat.le_refl 0)))
  replace Rf0 := k1.loose0 (World.block_lt_of_cell? _ _ R0) Rf0
  replace Rf1 := k1.loose0 (World.block_lt_of_cell? _ _ R1) Rf1
  replace Rf2 := k1.loose0 (World.block_lt_of_cell? _ _ R2) Rf2
  replace Rf3 := k1.loose0 (World.block_lt_of_cell? _ _ R3) Rf3
  replace Rf4 := k1.loose0 (World.block_lt_of_cell? _ _ R4) Rf4
  replace Rf5 := k1.loose0 (World.block_lt_of_cell? _ _ R5) Rf5
  replace bp0 := k1.cell0 bp0
  replace bp1 := k1.cell0 bp1
  replace bp2 := k1.cell0 bp2
  replace bq0 := k1.cell0 bq0
  replace bq1 := k1.cell0 bq1
  replace bq2 := k1.cell0 bq2
  replace R0 := k1.cell0 R0
  replace R1 := k1.cell0 R1
  replace R2 := k1.cell0 R2
  replace R3 := k1.cell0 R3
  replace R4 := k1.cell0 R4
  replace R5 := k1.cell0 R5
  replace V0 := k1.cell0 V0
  replace V1 := k1.cell0 V1
  replace V2 := k1.cell0 V2
  replace V3 := k1.cell0 V3
  replace V4 := k1.cell0 V4
  replace V5 := k1.cell0 V5
  replace K := hide ((unhide K).trans k1)
  have z2 := k1.size
  clear k1
  cases ho : iokB s1 l1 e1 s2 l2 e2
  · have EC : Hid (CC = false) := by show _ = _; rw [← unhide HCC]; exact ivC_no (ho)
    have K7 := hide (((((((unhide K).setNew (p := ⟨w.heap.size + 2, 0, none⟩) (by simp) (.bool false)).setNew (p := ⟨w.heap.size + 2, 1, none⟩) (by simp) (.slice none 0 0)).setNew (p := ⟨w.heap.size + 2, 2, none⟩) (by simp) (.int .i64 0)).setNew (p := ⟨w.heap.size + 2, 3, none⟩) (by simp) (.bool false)).setNew (p := ⟨w.heap.size + 2, 4, none⟩) (by simp) (.slice none 0 0)).setNew (p := ⟨w.heap.size + 2, 5, none⟩) (by simp) (.int .i64 0))
    clear r1 r2 K
    go_wp2_with fail
    exact bodyPost_ret (v := .tuple #[.agg #[.bool false, .slice none 0 0, .int .i64 0, .bool false, .slice none 0 0, .int .i64 0], .bool false]) (by simp [results, Tryd.results8, go_sem, R0, R1, R2, R3, R4, R5]) rfl (by rw [unhide EC]; exact ivS_no (unhide K7))
  obtain ⟨i1, i2, -⟩ := iok_parts ho
  obtain ⟨f1, f2, f3⟩ := d_back i1
  obtain ⟨g1, g2, g3⟩ := d_back i2
  have HC : Hid ((dokB s1 l1 e1 && dokB s2 l2 e2) = CC ∧ s1 = W1 ∧ e1 = D1 ∧ l1 = Q1 ∧ s2 = W2 ∧ e2 = D2 ∧ l2 = Q2) := ⟨by rw [← unhide HCC]; unfold ivC; rw [f1, f2, f3, g1, g2, g3, ho]; rfl, by rw [← unhide HW1, f1], by rw [← unhide HD1, f3], by rw [← unhide HQ1, f2], by rw [← unhide HW2, g1], by rw [← unhide HD2, g3], by rw [← unhide HQ2, g2]⟩
  clear ho i1 i2 f1 f2 f3 g1 g2 g3
  go_wp2_with fail
  have mk : Calls Tryd.prog 27 #[.agg #[.bool s1, .slice a1 l1.length c1, .int .i64 e1, .bool s2, .slice a2 l2.length c2, .int .i64 e2]] w1 fun e w' => IvAnsS CC W1 D1 Q1 W2 D2 Q2 w1 e w' := by
    have mk := fits7_spec s1 e1 hu1 hd1 s2 e2 hu2 hd2 w1 r1 r2
    obtain ⟨j1, j2, j3, j4, j5, j6, j7⟩ := unhide HC
    rw [j1] at mk
    refine mk.mono (fun e w' h => ?_)
    rw [← j2, ← j3, ← j4, ← j5, ← j6, ← j7]
    exact h
  refine (mk).mono ?_
  rintro e w3 h5
  obtain ⟨q1, y1, M1, q2, y2, M2, vL, vM, rfl, rL, rM, k5, hq⟩ := ivS_open h5
  have HQ := hide hq
  clear hq h5
  replace r1 := r1.kept k5 (.inr (.inr (Nat.le_refl 0)))
  replace r2 := r2.kept k5 (.inr (.inr (Nat.le_refl 0)))
  replace Rf0 := k5.loose0 (World.block_lt_of_cell? _ _ R0) Rf0
  replace Rf1 := k5.loose0 (World.block_lt_of_cell? _ _ R1) Rf1
  replace Rf2 := k5.loose0 (World.block_lt_of_cell? _ _ R2) Rf2
  replace Rf3 := k5.loose0 (World.block_lt_of_cell? _ _ R3) Rf3
  replace Rf4 := k5.loose0 (World.block_lt_of_cell? _ _ R4) Rf4
  replace Rf5 := k5.loose0 (World.block_lt_of_cell? _ _ R5) Rf5
  replace bp0 := k5.cell0 bp0
  replace bp1 := k5.cell0 bp1
  replace bp2 := k5.cell0 bp2
  replace bq0 := k5.cell0 bq0
  replace bq1 := k5.cell0 bq1
  replace bq2 := k5.cell0 bq2
  replace R0 := k5.cell0 R0
  replace R1 := k5.cell0 R1
  replace R2 := k5.cell0 R2
  replace R3 := k5.cell0 R3
  replace R4 := k5.cell0 R4
  replace R5 := k5.cell0 R5
  replace V0 := k5.cell0 V0
  replace V1 := k5.cell0 V1
  replace V2 := k5.cell0 V2
  replace V3 := k5.cell0 V3
  replace V4 := k5.cell0 V4
  replace V5 := k5.cell0 V5
  replace K := hide ((unhide K).trans k5)
  have z4 := k5.size
  clear k5
  obtain ⟨aL, dL, hv⟩ := Row.form' rL
  subst hv
  obtain ⟨aM, dM, hv⟩ := Row.form' rM
  subst hv
  have RA := hide (((((((rL.set_other (p := ⟨w.heap.size + 2, 0, none⟩) (.inl (by have := unhide S0; dsimp only; omega)) (.bool q1)).set_other (p := ⟨w.heap.size + 2, 1, none⟩) (.inl (by have := unhide S0; dsimp only; omega)) (.slice aL M1.length dL)).set_other (p := ⟨w.heap.size + 2, 2, none⟩) (.inl (by have := unhide S0; dsimp only; omega)) (.int .i64 y1)).set_other (p := ⟨w.heap.size + 2, 3, none⟩) (.inl (by have := unhide S0; dsimp only; omega)) (.bool q2)).set_other (p := ⟨w.heap.size + 2, 4, none⟩) (.inl (by have := unhide S0; dsimp only; omega)) (.slice aM M2.length dM)).set_other (p := ⟨w.heap.size + 2, 5, none⟩) (.inl (by have := unhide S0; dsimp only; omega)) (.int .i64 y2)).tight.wider (lo' := w.heap.size) (by have := unhide S0; omega) (Nat.le_refl _))
  have RB := hide (((((((rM.set_other (p := ⟨w.heap.size + 2, 0, none⟩) (.inl (by have := unhide S0; dsimp only; omega)) (.bool q1)).set_other (p := ⟨w.heap.size + 2, 1, none⟩) (.inl (by have := unhide S0; dsimp only; omega)) (.slice aL M1.length dL)).set_other (p := ⟨w.heap.size + 2, 2, none⟩) (.inl (by have := unhide S0; dsimp only; omega)) (.int .i64 y1)).set_other (p := ⟨w.heap.size + 2, 3, none⟩) (.inl (by have := unhide S0; dsimp only; omega)) (.bool q2)).set_other (p := ⟨w.heap.size + 2, 4, none⟩) (.inl (by have := unhide S0; dsimp only; omega)) (.slice aM M2.length dM)).set_other (p := ⟨w.heap.size + 2, 5, none⟩) (.inl (by have := unhide S0; dsimp only; omega)) (.int .i64 y2)).tight.wider (lo' := w.heap.size) (by have := unhide S0; omega) (Nat.le_refl _))
  have K7 := hide (((((((unhide K).setNew (p := ⟨w.heap.size + 2, 0, none⟩) (by simp) (.bool q1)).setNew (p := ⟨w.heap.size + 2, 1, none⟩) (by simp) (.slice aL M1.length dL)).setNew (p := ⟨w.heap.size + 2, 2, none⟩) (by simp) (.int .i64 y1)).setNew (p := ⟨w.heap.size + 2, 3, none⟩) (by simp) (.bool q2)).setNew (p := ⟨w.heap.size + 2, 4, none⟩) (by simp) (.slice aM M2.length dM)).setNew (p := ⟨w.heap.size + 2, 5, none⟩) (by simp) (.int .i64 y2))
  clear r1 r2 rL rM K
  go_wp2_with fail
  exact bodyPost_ret (v := .tuple #[.agg #[.bool q1, .slice aL M1.length dL, .int .i64 y1, .bool q2, .slice aM M2.length dM, .int .i64 y2], .bool CC]) (by simp [results, Tryd.results8, go_sem, R0, R1, R2, R3, R4, R5]) rfl (ivS_shut (unhide HQ) (unhide RA) (unhide RB) (unhide K7))

set_option maxHeartbeats 4000000 in
theorem add7_spec {b1 b2 b3 b4 : Bool} {w1l w1h w2l w2h w3l w3h w4l w4h : Nat} {v1 v2 v3 v4 : Value} {l1 l2 l3 l4 : List Int} (s1 : Bool) (e1 : Int) (s2 : Bool) (e2 : Int) (s3 : Bool) (e3 : Int) (s4 : Bool) (e4 : Int) (w : World) (r1 : Row .i64 b1 w1l w1h w v1 l1) (r2 : Row .i64 b2 w2l w2h w v2 l2) (r3 : Row .i64 b3 w3l w3h w v3 l3) (r4 : Row .i64 b4 w4l w4h w v4 l4) (o1 : dokB s1 l1 e1 = true) (o2 : dokB s2 l2 e2 = true) (o3 : dokB s3 l3 e3 = true) (o4 : dokB s4 l4 e4 = true) :
    Calls Tryd.prog 36 #[.agg #[.bool s1, v1, .int .i64 e1, .bool s2, v2, .int .i64 e2], .agg #[.bool s3, v3, .int .i64 e3, .bool s4, v4, .int .i64 e4]] w fun e w' => ∃ v v', e = .returned (.agg #[.bool (wsg (wval s1 l1 * 2 ^ (e1 - min e1 e3).toNat + wval s3 l3 * 2 ^ (e3 - min e1 e3).toNat)), v, .int .i64 (dex (wval s1 l1 * 2 ^ (e1 - min e1 e3).toNat + wval s3 l3 * 2 ^ (e3 - min e1 e3).toNat) (min e1 e3)), .bool (wsg (wval s2 l2 * 2 ^ (e2 - min e2 e4).toNat + wval s4 l4 * 2 ^ (e4 - min e2 e4).toNat)), v', .int .i64 (dex (wval s2 l2 * 2 ^ (e2 - min e2 e4).toNat + wval s4 l4 * 2 ^ (e4 - min e2 e4).toNat) (min e2 e4))]) ∧ Row .i64 true w.heap.size w'.heap.size w' v (dlm (wval s1 l1 * 2 ^ (e1 - min e1 e3).toNat + wval s3 l3 * 2 ^ (e3 - min e1 e3).toNat)) ∧ Row .i64 true w.heap.size w'.heap.size w' v' (dlm (wval s2 l2 * 2 ^ (e2 - min e2 e4).toNat + wval s4 l4 * 2 ^ (e4 - min e2 e4).toNat)) ∧ Kept 0 0 w w' := by
  replace r1 := r1.tight
  replace r2 := r2.tight
  replace r3 := r3.tight
  replace r4 := r4.tight
  obtain ⟨W1, hW1⟩ : ∃ c, wsg (wval s1 l1 * 2 ^ (e1 - min e1 e3).toNat + wval s3 l3 * 2 ^ (e3 - min e1 e3).toNat) = c := ⟨_, rfl⟩
  obtain ⟨D1, hD1⟩ : ∃ c, dex (wval s1 l1 * 2 ^ (e1 - min e1 e3).toNat + wval s3 l3 * 2 ^ (e3 - min e1 e3).toNat) (min e1 e3) = c := ⟨_, rfl⟩
  obtain ⟨Q1, hQ1⟩ : ∃ c, dlm (wval s1 l1 * 2 ^ (e1 - min e1 e3).toNat + wval s3 l3 * 2 ^ (e3 - min e1 e3).toNat) = c := ⟨_, rfl⟩
  obtain ⟨W2, hW2⟩ : ∃ c, wsg (wval s2 l2 * 2 ^ (e2 - min e2 e4).toNat + wval s4 l4 * 2 ^ (e4 - min e2 e4).toNat) = c := ⟨_, rfl⟩
  obtain ⟨D2, hD2⟩ : ∃ c, dex (wval s2 l2 * 2 ^ (e2 - min e2 e4).toNat + wval s4 l4 * 2 ^ (e4 - min e2 e4).toNat) (min e2 e4) = c := ⟨_, rfl⟩
  obtain ⟨Q2, hQ2⟩ : ∃ c, dlm (wval s2 l2 * 2 ^ (e2 - min e2 e4).toNat + wval s4 l4 * 2 ^ (e4 - min e2 e4).toNat) = c := ⟨_, rfl⟩
  rw [hW1, hD1, hQ1, hW2, hD2, hQ2]
  have HW1 := hide hW1
  clear hW1
  have HD1 := hide hD1
  clear hD1
  have HQ1 := hide hQ1
  clear hQ1
  have HW2 := hide hW2
  clear hW2
  have HD2 := hide hD2
  clear hD2
  have HQ2 := hide hQ2
  clear hQ2
  have k0 : Kept 0 0 w (((w.alloc (.cells #[.bool s1, v1, .int .i64 e1, .bool s2, v2, .int .i64 e2] 36)).alloc (.cells #[.bool s3, v3, .int .i64 e3, .bool s4, v4, .int .i64 e4] 36)).alloc (.cells #[.bool false, .slice none 0 0, .int .i64 0, .bool false, .slice none 0 0, .int .i64 0] 36)) := ((((Kept.refl 0 0 w).alloc (.cells #[.bool s1, v1, .int .i64 e1, .bool s2, v2, .int .i64 e2] 36)).alloc (.cells #[.bool s3, v3, .int .i64 e3, .bool s4, v4, .int .i64 e4] 36)).alloc (.cells #[.bool false, .slice none 0 0, .int .i64 0, .bool false, .slice none 0 0, .int .i64 0] 36))
  have bp0 : (((w.alloc (.cells #[.bool s1, v1, .int .i64 e1, .bool s2, v2, .int .i64 e2] 36)).alloc (.cells #[.bool s3, v3, .int .i64 e3, .bool s4, v4, .int .i64 e4] 36)).alloc (.cells #[.bool false, .slice none 0 0, .int .i64 0, .bool false, .slice none 0 0, .int .i64 0] 36)).cell? ⟨w.heap.size, 0, none⟩ = some (.bool s1) := old_cell _ (old_cell _ (new_cell2 _ _ _ _ _ _ (by simp) rfl))
  have bp1 : (((w.alloc (.cells #[.bool s1, v1, .int .i64 e1, .bool s2, v2, .int .i64 e2] 36)).alloc (.cells #[.bool s3, v3, .int .i64 e3, .bool s4, v4, .int .i64 e4] 36)).alloc (.cells #[.bool false, .slice none 0 0, .int .i64 0, .bool false, .slice none 0 0, .int .i64 0] 36)).cell? ⟨w.heap.size, 1, none⟩ = some (v1) := old_cell _ (old_cell _ (new_cell2 _ _ _ _ _ _ (by simp) rfl))
  have bp2 : (((w.alloc (.cells #[.bool s1, v1, .int .i64 e1, .bool s2, v2, .int .i64 e2] 36)).alloc (.cells #[.bool s3, v3, .int .i64 e3, .bool s4, v4, .int .i64 e4] 36)).alloc (.cells #[.bool false, .slice none 0 0, .int .i64 0, .bool false, .slice none 0 0, .int .i64 0] 36)).cell? ⟨w.heap.size, 2, none⟩ = some (.int .i64 e1) := old_cell _ (old_cell _ (new_cell2 _ _ _ _ _ _ (by simp) rfl))
  have bp3 : (((w.alloc (.cells #[.bool s1, v1, .int .i64 e1, .bool s2, v2, .int .i64 e2] 36)).alloc (.cells #[.bool s3, v3, .int .i64 e3, .bool s4, v4, .int .i64 e4] 36)).alloc (.cells #[.bool false, .slice none 0 0, .int .i64 0, .bool false, .slice none 0 0, .int .i64 0] 36)).cell? ⟨w.heap.size, 3, none⟩ = some (.bool s2) := old_cell _ (old_cell _ (new_cell2 _ _ _ _ _ _ (by simp) rfl))
  have bp4 : (((w.alloc (.cells #[.bool s1, v1, .int .i64 e1, .bool s2, v2, .int .i64 e2] 36)).alloc (.cells #[.bool s3, v3, .int .i64 e3, .bool s4, v4, .int .i64 e4] 36)).alloc (.cells #[.bool false, .slice none 0 0, .int .i64 0, .bool false, .slice none 0 0, .int .i64 0] 36)).cell? ⟨w.heap.size, 4, none⟩ = some (v2) := old_cell _ (old_cell _ (new_cell2 _ _ _ _ _ _ (by simp) rfl))
  have bp5 : (((w.alloc (.cells #[.bool s1, v1, .int .i64 e1, .bool s2, v2, .int .i64 e2] 36)).alloc (.cells #[.bool s3, v3, .int .i64 e3, .bool s4, v4, .int .i64 e4] 36)).alloc (.cells #[.bool false, .slice none 0 0, .int .i64 0, .bool false, .slice none 0 0, .int .i64 0] 36)).cell? ⟨w.heap.size, 5, none⟩ = some (.int .i64 e2) := old_cell _ (old_cell _ (new_cell2 _ _ _ _ _ _ (by simp) rfl))
  have bq0 : (((w.alloc (.cells #[.bool s1, v1, .int .i64 e1, .bool s2, v2, .int .i64 e2] 36)).alloc (.cells #[.bool s3, v3, .int .i64 e3, .bool s4, v4, .int .i64 e4] 36)).alloc (.cells #[.bool false, .slice none 0 0, .int .i64 0, .bool false, .slice none 0 0, .int .i64 0] 36)).cell? ⟨w.heap.size + 1, 0, none⟩ = some (.bool s3) := old_cell _ (new_cell2 _ _ _ _ _ _ (by simp) rfl)
  have bq1 : (((w.alloc (.cells #[.bool s1, v1, .int .i64 e1, .bool s2, v2, .int .i64 e2] 36)).alloc (.cells #[.bool s3, v3, .int .i64 e3, .bool s4, v4, .int .i64 e4] 36)).alloc (.cells #[.bool false, .slice none 0 0, .int .i64 0, .bool false, .slice none 0 0, .int .i64 0] 36)).cell? ⟨w.heap.size + 1, 1, none⟩ = some (v3) := old_cell _ (new_cell2 _ _ _ _ _ _ (by simp) rfl)
  have bq2 : (((w.alloc (.cells #[.bool s1, v1, .int .i64 e1, .bool s2, v2, .int .i64 e2] 36)).alloc (.cells #[.bool s3, v3, .int .i64 e3, .bool s4, v4, .int .i64 e4] 36)).alloc (.cells #[.bool false, .slice none 0 0, .int .i64 0, .bool false, .slice none 0 0, .int .i64 0] 36)).cell? ⟨w.heap.size + 1, 2, none⟩ = some (.int .i64 e3) := old_cell _ (new_cell2 _ _ _ _ _ _ (by simp) rfl)
  have bq3 : (((w.alloc (.cells #[.bool s1, v1, .int .i64 e1, .bool s2, v2, .int .i64 e2] 36)).alloc (.cells #[.bool s3, v3, .int .i64 e3, .bool s4, v4, .int .i64 e4] 36)).alloc (.cells #[.bool false, .slice none 0 0, .int .i64 0, .bool false, .slice none 0 0, .int .i64 0] 36)).cell? ⟨w.heap.size + 1, 3, none⟩ = some (.bool s4) := old_cell _ (new_cell2 _ _ _ _ _ _ (by simp) rfl)
  have bq4 : (((w.alloc (.cells #[.bool s1, v1, .int .i64 e1, .bool s2, v2, .int .i64 e2] 36)).alloc (.cells #[.bool s3, v3, .int .i64 e3, .bool s4, v4, .int .i64 e4] 36)).alloc (.cells #[.bool false, .slice none 0 0, .int .i64 0, .bool false, .slice none 0 0, .int .i64 0] 36)).cell? ⟨w.heap.size + 1, 4, none⟩ = some (v4) := old_cell _ (new_cell2 _ _ _ _ _ _ (by simp) rfl)
  have bq5 : (((w.alloc (.cells #[.bool s1, v1, .int .i64 e1, .bool s2, v2, .int .i64 e2] 36)).alloc (.cells #[.bool s3, v3, .int .i64 e3, .bool s4, v4, .int .i64 e4] 36)).alloc (.cells #[.bool false, .slice none 0 0, .int .i64 0, .bool false, .slice none 0 0, .int .i64 0] 36)).cell? ⟨w.heap.size + 1, 5, none⟩ = some (.int .i64 e4) := old_cell _ (new_cell2 _ _ _ _ _ _ (by simp) rfl)
  have R0 : (((w.alloc (.cells #[.bool s1, v1, .int .i64 e1, .bool s2, v2, .int .i64 e2] 36)).alloc (.cells #[.bool s3, v3, .int .i64 e3, .bool s4, v4, .int .i64 e4] 36)).alloc (.cells #[.bool false, .slice none 0 0, .int .i64 0, .bool false, .slice none 0 0, .int .i64 0] 36)).cell? ⟨w.heap.size + 2, 0, none⟩ = some (.bool false) := new_cell2 _ _ _ _ _ _ (by simp) rfl
  have Rf0 : (((w.alloc (.cells #[.bool s1, v1, .int .i64 e1, .bool s2, v2, .int .i64 e2] 36)).alloc (.cells #[.bool s3, v3, .int .i64 e3, .bool s4, v4, .int .i64 e4] 36)).alloc (.cells #[.bool false, .slice none 0 0, .int .i64 0, .bool false, .slice none 0 0, .int .i64 0] 36)).frozen? ⟨w.heap.size + 2, 0, none⟩ = false := new_loose2 _ _ _ _ _ (by simp)
  have R1 : (((w.alloc (.cells #[.bool s1, v1, .int .i64 e1, .bool s2, v2, .int .i64 e2] 36)).alloc (.cells #[.bool s3, v3, .int .i64 e3, .bool s4, v4, .int .i64 e4] 36)).alloc (.cells #[.bool false, .slice none 0 0, .int .i64 0, .bool false, .slice none 0 0, .int .i64 0] 36)).cell? ⟨w.heap.size + 2, 1, none⟩ = some (.slice none 0 0) := new_cell2 _ _ _ _ _ _ (by simp) rfl
  have Rf1 : (((w.alloc (.cells #[.bool s1, v1, .int .i64 e1, .bool s2, v2, .int .i64 e2] 36)).alloc (.cells #[.bool s3, v3, .int .i64 e3, .bool s4, v4, .int .i64 e4] 36)).alloc (.cells #[.bool false, .slice none 0 0, .int .i64 0, .bool false, .slice none 0 0, .int .i64 0] 36)).frozen? ⟨w.heap.size + 2, 1, none⟩ = false := new_loose2 _ _ _ _ _ (by simp)
  have R2 : (((w.alloc (.cells #[.bool s1, v1, .int .i64 e1, .bool s2, v2, .int .i64 e2] 36)).alloc (.cells #[.bool s3, v3, .int .i64 e3, .bool s4, v4, .int .i64 e4] 36)).alloc (.cells #[.bool false, .slice none 0 0, .int .i64 0, .bool false, .slice none 0 0, .int .i64 0] 36)).cell? ⟨w.heap.size + 2, 2, none⟩ = some (.int .i64 0) := new_cell2 _ _ _ _ _ _ (by simp) rfl
  have Rf2 : (((w.alloc (.cells #[.bool s1, v1, .int .i64 e1, .bool s2, v2, .int .i64 e2] 36)).alloc (.cells #[.bool s3, v3, .int .i64 e3, .bool s4, v4, .int .i64 e4] 36)).alloc (.cells #[.bool false, .slice none 0 0, .int .i64 0, .bool false, .slice none 0 0, .int .i64 0] 36)).frozen? ⟨w.heap.size + 2, 2, none⟩ = false := new_loose2 _ _ _ _ _ (by simp)
  have R3 : (((w.alloc (.cells #[.bool s1, v1, .int .i64 e1, .bool s2, v2, .int .i64 e2] 36)).alloc (.cells #[.bool s3, v3, .int .i64 e3, .bool s4, v4, .int .i64 e4] 36)).alloc (.cells #[.bool false, .slice none 0 0, .int .i64 0, .bool false, .slice none 0 0, .int .i64 0] 36)).cell? ⟨w.heap.size + 2, 3, none⟩ = some (.bool false) := new_cell2 _ _ _ _ _ _ (by simp) rfl
  have Rf3 : (((w.alloc (.cells #[.bool s1, v1, .int .i64 e1, .bool s2, v2, .int .i64 e2] 36)).alloc (.cells #[.bool s3, v3, .int .i64 e3, .bool s4, v4, .int .i64 e4] 36)).alloc (.cells #[.bool false, .slice none 0 0, .int .i64 0, .bool false, .slice none 0 0, .int .i64 0] 36)).frozen? ⟨w.heap.size + 2, 3, none⟩ = false := new_loose2 _ _ _ _ _ (by simp)
  have R4 : (((w.alloc (.cells #[.bool s1, v1, .int .i64 e1, .bool s2, v2, .int .i64 e2] 36)).alloc (.cells #[.bool s3, v3, .int .i64 e3, .bool s4, v4, .int .i64 e4] 36)).alloc (.cells #[.bool false, .slice none 0 0, .int .i64 0, .bool false, .slice none 0 0, .int .i64 0] 36)).cell? ⟨w.heap.size + 2, 4, none⟩ = some (.slice none 0 0) := new_cell2 _ _ _ _ _ _ (by simp) rfl
  have Rf4 : (((w.alloc (.cells #[.bool s1, v1, .int .i64 e1, .bool s2, v2, .int .i64 e2] 36)).alloc (.cells #[.bool s3, v3, .int .i64 e3, .bool s4, v4, .int .i64 e4] 36)).alloc (.cells #[.bool false, .slice none 0 0, .int .i64 0, .bool false, .slice none 0 0, .int .i64 0] 36)).frozen? ⟨w.heap.size + 2, 4, none⟩ = false := new_loose2 _ _ _ _ _ (by simp)
  have R5 : (((w.alloc (.cells #[.bool s1, v1, .int .i64 e1, .bool s2, v2, .int .i64 e2] 36)).alloc (.cells #[.bool s3, v3, .int .i64 e3, .bool s4, v4, .int .i64 e4] 36)).alloc (.cells #[.bool false, .slice none 0 0, .int .i64 0, .bool false, .slice none 0 0, .int .i64 0] 36)).cell? ⟨w.heap.size + 2, 5, none⟩ = some (.int .i64 0) := new_cell2 _ _ _ _ _ _ (by simp) rfl
  have Rf5 : (((w.alloc (.cells #[.bool s1, v1, .int .i64 e1, .bool s2, v2, .int .i64 e2] 36)).alloc (.cells #[.bool s3, v3, .int .i64 e3, .bool s4, v4, .int .i64 e4] 36)).alloc (.cells #[.bool false, .slice none 0 0, .int .i64 0, .bool false, .slice none 0 0, .int .i64 0] 36)).frozen? ⟨w.heap.size + 2, 5, none⟩ = false := new_loose2 _ _ _ _ _ (by simp)
  replace r1 := r1.kept k0 (by omega)
  replace r2 := r2.kept k0 (by omega)
  replace r3 := r3.kept k0 (by omega)
  replace r4 := r4.kept k0 (by omega)
  have s0 : (((w.alloc (.cells #[.bool s1, v1, .int .i64 e1, .bool s2, v2, .int .i64 e2] 36)).alloc (.cells #[.bool s3, v3, .int .i64 e3, .bool s4, v4, .int .i64 e4] 36)).alloc (.cells #[.bool false, .slice none 0 0, .int .i64 0, .bool false, .slice none 0 0, .int .i64 0] 36)).heap.size = w.heap.size + 3 := by simp
  obtain ⟨a1, c1, hv⟩ := Row.form' r1
  subst hv
  obtain ⟨a2, c2, hv⟩ := Row.form' r2
  subst hv
  obtain ⟨a3, c3, hv⟩ := Row.form' r3
  subst hv
  obtain ⟨a4, c4, hv⟩ := Row.form' r4
  subst hv
  have K := hide (k0)
  clear k0
  have S0 := hide s0
  clear s0
  go_enter Tryd.func36, Tryd.ntmps36
  go_wp2_with fail
  generalize (((w.alloc (.cells #[.bool s1, .slice a1 l1.length c1, .int .i64 e1, .bool s2, .slice a2 l2.length c2, .int .i64 e2] 36)).alloc (.cells #[.bool s3, .slice a3 l3.length c3, .int .i64 e3, .bool s4, .slice a4 l4.length c4, .int .i64 e4] 36)).alloc (.cells #[.bool false, .slice none 0 0, .int .i64 0, .bool false, .slice none 0 0, .int .i64 0] 36)) = W at *
  have mkA := fun w' r1' r3' => add4_spec (b1 := b1) (l1 := w1l) (h1 := w.heap.size) (b2 := b3) (l2 := w3l) (h2 := w.heap.size) (v1 := .slice a1 l1.length c1) (v2 := .slice a3 l3.length c3) (xs := l1) (ys := l3) s1 s3 e1 e3 w' r1' r3' o1 o3
  rw [unhide HW1, unhide HD1, unhide HQ1] at mkA
  have mkB := fun w' r1' r3' => add4_spec (b1 := b2) (l1 := w2l) (h1 := w.heap.size) (b2 := b4) (l2 := w4l) (h2 := w.heap.size) (v1 := .slice a2 l2.length c2) (v2 := .slice a4 l4.length c4) (xs := l2) (ys := l4) s2 s4 e2 e4 w' r1' r3' o2 o4
  rw [unhide HW2, unhide HD2, unhide HQ2] at mkB
  have kd := (Kept.refl 0 0 W).drew
  replace r1 := r1.kept kd (.inr (.inr (Nat.le_refl 0)))
  replace r2 := r2.kept kd (.inr (.inr (Nat.le_refl 0)))
  replace r3 := r3.kept kd (.inr (.inr (Nat.le_refl 0)))
  replace r4 := r4.kept kd (.inr (.inr (Nat.le_refl 0)))
  replace Rf0 := kd.loose0 (World.block_lt_of_cell? _ _ R0) Rf0
  replace Rf1 := kd.loose0 (World.block_lt_of_cell? _ _ R1) Rf1
  replace Rf2 := kd.loose0 (World.block_lt_of_cell? _ _ R2) Rf2
  replace Rf3 := kd.loose0 (World.block_lt_of_cell? _ _ R3) Rf3
  replace Rf4 := kd.loose0 (World.block_lt_of_cell? _ _ R4) Rf4
  replace Rf5 := kd.loose0 (World.block_lt_of_cell? _ _ R5) Rf5
  replace bp0 := kd.cell0 bp0
  replace bp1 := kd.cell0 bp1
  replace bp2 := kd.cell0 bp2
  replace bp3 := kd.cell0 bp3
  replace bp4 := kd.cell0 bp4
  replace bp5 := kd.cell0 bp5
  replace bq0 := kd.cell0 bq0
  replace bq1 := kd.cell0 bq1
  replace bq2 := kd.cell0 bq2
  replace bq3 := kd.cell0 bq3
  replace bq4 := kd.cell0 bq4
  replace bq5 := kd.cell0 bq5
  replace R0 := kd.cell0 R0
  replace R1 := kd.cell0 R1
  replace R2 := kd.cell0 R2
  replace R3 := kd.cell0 R3
  replace R4 := kd.cell0 R4
  replace R5 := kd.cell0 R5
  replace K := hide ((unhide K).trans kd)
  have z1 := kd.size
  clear kd
  refine wp_region_held_drew (S := (fun w' => w'.cell? ⟨w.heap.size, 0, none⟩ = some (.bool s1) ∧ w'.cell? ⟨w.heap.size, 1, none⟩ = some (.slice a1 l1.length c1) ∧ w'.cell? ⟨w.heap.size, 2, none⟩ = some (.int .i64 e1) ∧ w'.cell? ⟨w.heap.size, 3, none⟩ = some (.bool s2) ∧ w'.cell? ⟨w.heap.size, 4, none⟩ = some (.slice a2 l2.length c2) ∧ w'.cell? ⟨w.heap.size, 5, none⟩ = some (.int .i64 e2) ∧ w'.cell? ⟨w.heap.size + 1, 0, none⟩ = some (.bool s3) ∧ w'.cell? ⟨w.heap.size + 1, 1, none⟩ = some (.slice a3 l3.length c3) ∧ w'.cell? ⟨w.heap.size + 1, 2, none⟩ = some (.int .i64 e3) ∧ w'.cell? ⟨w.heap.size + 1, 3, none⟩ = some (.bool s4) ∧ w'.cell? ⟨w.heap.size + 1, 4, none⟩ = some (.slice a4 l4.length c4) ∧ w'.cell? ⟨w.heap.size + 1, 5, none⟩ = some (.int .i64 e4))) (by kernel_rfl) ?_ (fun hHeld => ?_)
  · exact ⟨bp0, bp1, bp2, bp3, bp4, bp5, bq0, bq1, bq2, bq3, bq4, bq5⟩
  refine wpAnyH_take (i := 0) (oi := _) (v := .pointer (some ⟨w.heap.size, 0, none⟩)) rfl (by kernel_rfl) (by kernel_rfl) (by kernel_rfl) (fun _ _ _ h => h) (Or.inl ⟨by rfl, ?_⟩) hHeld ?_
  · intro wq hSw
    try dsimp only at hSw
    go_simp
  try simp only [Act.put, List.getElem_toArray, List.getElem_cons_succ, List.getElem_cons_zero, List.setIfInBounds_toArray, List.set_cons_zero, List.set_cons_succ]
  refine wpAnyH_take (i := 1) (oi := _) (v := .agg #[.bool s1, .slice a1 l1.length c1, .int .i64 e1]) rfl (by kernel_rfl) (by kernel_rfl) (by kernel_rfl) (fun _ _ _ h => h) (Or.inl ⟨by rfl, ?_⟩) hHeld ?_
  · intro wq hSw
    try dsimp only at hSw
    go_simp
  try simp only [Act.put, List.getElem_toArray, List.getElem_cons_succ, List.getElem_cons_zero, List.setIfInBounds_toArray, List.set_cons_zero, List.set_cons_succ]
  refine wpAnyH_take (i := 2) (oi := _) (v := .pointer (some ⟨w.heap.size + 1, 0, none⟩)) rfl (by kernel_rfl) (by kernel_rfl) (by kernel_rfl) (fun _ _ _ h => h) (Or.inl ⟨by rfl, ?_⟩) hHeld ?_
  · intro wq hSw
    try dsimp only at hSw
    go_simp
  try simp only [Act.put, List.getElem_toArray, List.getElem_cons_succ, List.getElem_cons_zero, List.setIfInBounds_toArray, List.set_cons_zero, List.set_cons_succ]
  refine wpAnyH_take (i := 3) (oi := _) (v := .agg #[.bool s3, .slice a3 l3.length c3, .int .i64 e3]) rfl (by kernel_rfl) (by kernel_rfl) (by kernel_rfl) (fun _ _ _ h => h) (Or.inl ⟨by rfl, ?_⟩) hHeld ?_
  · intro wq hSw
    try dsimp only at hSw
    go_simp
  try simp only [Act.put, List.getElem_toArray, List.getElem_cons_succ, List.getElem_cons_zero, List.setIfInBounds_toArray, List.set_cons_zero, List.set_cons_succ]
  refine wpAnyH_take (i := 5) (oi := _) (v := .pointer (some ⟨w.heap.size, 3, none⟩)) rfl (by kernel_rfl) (by kernel_rfl) (by kernel_rfl) (fun _ _ _ h => h) (Or.inl ⟨by rfl, ?_⟩) hHeld ?_
  · intro wq hSw
    try dsimp only at hSw
    go_simp
  try simp only [Act.put, List.getElem_toArray, List.getElem_cons_succ, List.getElem_cons_zero, List.setIfInBounds_toArray, List.set_cons_zero, List.set_cons_succ]
  refine wpAnyH_take (i := 6) (oi := _) (v := .agg #[.bool s2, .slice a2 l2.length c2, .int .i64 e2]) rfl (by kernel_rfl) (by kernel_rfl) (by kernel_rfl) (fun _ _ _ h => h) (Or.inl ⟨by rfl, ?_⟩) hHeld ?_
  · intro wq hSw
    try dsimp only at hSw
    go_simp
  try simp only [Act.put, List.getElem_toArray, List.getElem_cons_succ, List.getElem_cons_zero, List.setIfInBounds_toArray, List.set_cons_zero, List.set_cons_succ]
  refine wpAnyH_take (i := 7) (oi := _) (v := .pointer (some ⟨w.heap.size + 1, 3, none⟩)) rfl (by kernel_rfl) (by kernel_rfl) (by kernel_rfl) (fun _ _ _ h => h) (Or.inl ⟨by rfl, ?_⟩) hHeld ?_
  · intro wq hSw
    try dsimp only at hSw
    go_simp
  try simp only [Act.put, List.getElem_toArray, List.getElem_cons_succ, List.getElem_cons_zero, List.setIfInBounds_toArray, List.set_cons_zero, List.set_cons_succ]
  refine wpAnyH_take (i := 8) (oi := _) (v := .agg #[.bool s4, .slice a4 l4.length c4, .int .i64 e4]) rfl (by kernel_rfl) (by kernel_rfl) (by kernel_rfl) (fun _ _ _ h => h) (Or.inl ⟨by rfl, ?_⟩) hHeld ?_
  · intro wq hSw
    try dsimp only at hSw
    go_simp
  try simp only [Act.put, List.getElem_toArray, List.getElem_cons_succ, List.getElem_cons_zero, List.setIfInBounds_toArray, List.set_cons_zero, List.set_cons_succ]
  refine wpAnyH_ready (rs := [4]) (by kernel_rfl) (by simp) ?_
  refine AllReadyH.cons rfl (fun KK hK => ?_) AllReadyH.nil
  simp only [List.getElem_toArray, List.getElem_cons_succ, List.getElem_cons_zero]
  rw [if_pos (by rfl)]
  refine wps2 44 (.tmp 6) (.tmp 8) _ rfl in_l4add (.agg #[.bool s1, .slice a1 l1.length c1, .int .i64 e1]) (.agg #[.bool s3, .slice a3 l3.length c3, .int .i64 e3]) rfl rfl (mkA _ r1 r3) ?_
  rintro e w2 ⟨vA, rfl, rA, k2⟩
  refine ⟨_, rfl, ?_⟩
  replace r1 := r1.kept k2 (.inr (.inr (Nat.le_refl 0)))
  replace r2 := r2.kept k2 (.inr (.inr (Nat.le_refl 0)))
  replace r3 := r3.kept k2 (.inr (.inr (Nat.le_refl 0)))
  replace r4 := r4.kept k2 (.inr (.inr (Nat.le_refl 0)))
  replace Rf0 := k2.loose0 (World.block_lt_of_cell? _ _ R0) Rf0
  replace Rf1 := k2.loose0 (World.block_lt_of_cell? _ _ R1) Rf1
  replace Rf2 := k2.loose0 (World.block_lt_of_cell? _ _ R2) Rf2
  replace Rf3 := k2.loose0 (World.block_lt_of_cell? _ _ R3) Rf3
  replace Rf4 := k2.loose0 (World.block_lt_of_cell? _ _ R4) Rf4
  replace Rf5 := k2.loose0 (World.block_lt_of_cell? _ _ R5) Rf5
  replace bp0 := k2.cell0 bp0
  replace bp1 := k2.cell0 bp1
  replace bp2 := k2.cell0 bp2
  replace bp3 := k2.cell0 bp3
  replace bp4 := k2.cell0 bp4
  replace bp5 := k2.cell0 bp5
  replace bq0 := k2.cell0 bq0
  replace bq1 := k2.cell0 bq1
  replace bq2 := k2.cell0 bq2
  replace bq3 := k2.cell0 bq3
  replace bq4 := k2.cell0 bq4
  replace bq5 := k2.cell0 bq5
  replace R0 := k2.cell0 R0
  replace R1 := k2.cell0 R1
  replace R2 := k2.cell0 R2
  replace R3 := k2.cell0 R3
  replace R4 := k2.cell0 R4
  replace R5 := k2.cell0 R5
  replace K := hide ((unhide K).trans k2)
  have z3 := k2.size
  clear k2
  clear hHeld
  refine hK.out _ _ ?_ (fun hHeld => ?_)
  · exact ⟨bp0, bp1, bp2, bp3, bp4, bp5, bq0, bq1, bq2, bq3, bq4, bq5⟩
  clear hK KK
  try simp only [Act.put, List.getElem_toArray, List.getElem_cons_succ, List.getElem_cons_zero, List.setIfInBounds_toArray, List.set_cons_zero, List.set_cons_succ]
  obtain ⟨aA, cA, hv⟩ := Row.form' rA
  subst hv
  refine wpAnyH_ready (rs := [9]) (by kernel_rfl) (by simp) ?_
  refine AllReadyH.cons rfl (fun KK hK => ?_) AllReadyH.nil
  simp only [List.getElem_toArray, List.getElem_cons_succ, List.getElem_cons_zero]
  rw [if_pos (by rfl)]
  refine wps2 44 (.tmp 11) (.tmp 13) _ rfl in_l4add (.agg #[.bool s2, .slice a2 l2.length c2, .int .i64 e2]) (.agg #[.bool s4, .slice a4 l4.length c4, .int .i64 e4]) rfl rfl (mkB _ r2 r4) ?_
  rintro e w4 ⟨vB, rfl, rB, k4⟩
  refine ⟨_, rfl, ?_⟩
  replace r1 := r1.kept k4 (.inr (.inr (Nat.le_refl 0)))
  replace r2 := r2.kept k4 (.inr (.inr (Nat.le_refl 0)))
  replace r3 := r3.kept k4 (.inr (.inr (Nat.le_refl 0)))
  replace r4 := r4.kept k4 (.inr (.inr (Nat.le_refl 0)))
  replace rA := rA.kept k4 (.inr (.inr (Nat.le_refl 0)))
  replace Rf0 := k4.loose0 (World.block_lt_of_cell? _ _ R0) Rf0
  replace Rf1 := k4.loose0 (World.block_lt_of_cell? _ _ R1) Rf1
  replace Rf2 := k4.loose0 (World.block_lt_of_cell? _ _ R2) Rf2
  replace Rf3 := k4.loose0 (World.block_lt_of_cell? _ _ R3) Rf3
  replace Rf4 := k4.loose0 (World.block_lt_of_cell? _ _ R4) Rf4
  replace Rf5 := k4.loose0 (World.block_lt_of_cell? _ _ R5) Rf5
  replace bp0 := k4.cell0 bp0
  replace bp1 := k4.cell0 bp1
  replace bp2 := k4.cell0 bp2
  replace bp3 := k4.cell0 bp3
  replace bp4 := k4.cell0 bp4
  replace bp5 := k4.cell0 bp5
  replace bq0 := k4.cell0 bq0
  replace bq1 := k4.cell0 bq1
  replace bq2 := k4.cell0 bq2
  replace bq3 := k4.cell0 bq3
  replace bq4 := k4.cell0 bq4
  replace bq5 := k4.cell0 bq5
  replace R0 := k4.cell0 R0
  replace R1 := k4.cell0 R1
  replace R2 := k4.cell0 R2
  replace R3 := k4.cell0 R3
  replace R4 := k4.cell0 R4
  replace R5 := k4.cell0 R5
  replace K := hide ((unhide K).trans k4)
  have z5 := k4.size
  clear k4
  clear hHeld
  refine hK.out _ _ ?_ (fun hHeld => ?_)
  · exact ⟨bp0, bp1, bp2, bp3, bp4, bp5, bq0, bq1, bq2, bq3, bq4, bq5⟩
  clear hK KK
  try simp only [Act.put, List.getElem_toArray, List.getElem_cons_succ, List.getElem_cons_zero, List.setIfInBounds_toArray, List.set_cons_zero, List.set_cons_succ]
  obtain ⟨aB, cB, hv⟩ := Row.form' rB
  subst hv
  refine wpAnyH_take (i := 10) (oi := _) (v := .agg #[.bool W1, .slice aA Q1.length cA, .int .i64 D1, .bool W2, .slice aB Q2.length cB, .int .i64 D2]) rfl (by kernel_rfl) (by kernel_rfl) (by kernel_rfl) (fun _ _ _ h => h) (Or.inl ⟨by rfl, ?_⟩) hHeld ?_
  · intro wq hSw
    try dsimp only at hSw
    go_simp
  try simp only [Act.put, List.getElem_toArray, List.getElem_cons_succ, List.getElem_cons_zero, List.setIfInBounds_toArray, List.set_cons_zero, List.set_cons_succ]
  refine wpAnyH_ready (rs := [11]) (by kernel_rfl) (by simp) ?_
  refine AllReadyH.cons rfl (fun KK hK => ?_) AllReadyH.nil
  simp only [List.getElem_toArray, List.getElem_cons_succ, List.getElem_cons_zero]
  rw [if_pos (by rfl)]
  go_simp
  clear hHeld
  refine hK.out _ _ ?_ (fun hHeld => ?_)
  · exact ⟨(cell_aside _ (by have := unhide S0; dsimp only; omega) (cell_aside _ (by have := unhide S0; dsimp only; omega) (cell_aside _ (by have := unhide S0; dsimp only; omega) (cell_aside _ (by have := unhide S0; dsimp only; omega) (cell_aside _ (by have := unhide S0; dsimp only; omega) (cell_aside _ (by have := unhide S0; dsimp only; omega) bp0)))))), (cell_aside _ (by have := unhide S0; dsimp only; omega) (cell_aside _ (by have := unhide S0; dsimp only; omega) (cell_aside _ (by have := unhide S0; dsimp only; omega) (cell_aside _ (by have := unhide S0; dsimp only; omega) (cell_aside _ (by have := unhide S0; dsimp only; omega) (cell_aside _ (by have := unhide S0; dsimp only; omega) bp1)))))), (cell_aside _ (by have := unhide S0; dsimp only; omega) (cell_aside _ (by have := unhide S0; dsimp only; omega) (cell_aside _ (by have := unhide S0; dsimp only; omega) (cell_aside _ (by have := unhide S0; dsimp only; omega) (cell_aside _ (by have := unhide S0; dsimp only; omega) (cell_aside _ (by have := unhide S0; dsimp only; omega) bp2)))))), (cell_aside _ (by have := unhide S0; dsimp only; omega) (cell_aside _ (by have := unhide S0; dsimp only; omega) (cell_aside _ (by have := unhide S0; dsimp only; omega) (cell_aside _ (by have := unhide S0; dsimp only; omega) (cell_aside _ (by have := unhide S0; dsimp only; omega) (cell_aside _ (by have := unhide S0; dsimp only; omega) bp3)))))), (cell_aside _ (by have := unhide S0; dsimp only; omega) (cell_aside _ (by have := unhide S0; dsimp only; omega) (cell_aside _ (by have := unhide S0; dsimp only; omega) (cell_aside _ (by have := unhide S0; dsimp only; omega) (cell_aside _ (by have := unhide S0; dsimp only; omega) (cell_aside _ (by have := unhide S0; dsimp only; omega) bp4)))))), (cell_aside _ (by have := unhide S0; dsimp only; omega) (cell_aside _ (by have := unhide S0; dsimp only; omega) (cell_aside _ (by have := unhide S0; dsimp only; omega) (cell_aside _ (by have := unhide S0; dsimp only; omega) (cell_aside _ (by have := unhide S0; dsimp only; omega) (cell_aside _ (by have := unhide S0; dsimp only; omega) bp5)))))), (cell_aside _ (by have := unhide S0; dsimp only; omega) (cell_aside _ (by have := unhide S0; dsimp only; omega) (cell_aside _ (by have := unhide S0; dsimp only; omega) (cell_aside _ (by have := unhide S0; dsimp only; omega) (cell_aside _ (by have := unhide S0; dsimp only; omega) (cell_aside _ (by have := unhide S0; dsimp only; omega) bq0)))))), (cell_aside _ (by have := unhide S0; dsimp only; omega) (cell_aside _ (by have := unhide S0; dsimp only; omega) (cell_aside _ (by have := unhide S0; dsimp only; omega) (cell_aside _ (by have := unhide S0; dsimp only; omega) (cell_aside _ (by have := unhide S0; dsimp only; omega) (cell_aside _ (by have := unhide S0; dsimp only; omega) bq1)))))), (cell_aside _ (by have := unhide S0; dsimp only; omega) (cell_aside _ (by have := unhide S0; dsimp only; omega) (cell_aside _ (by have := unhide S0; dsimp only; omega) (cell_aside _ (by have := unhide S0; dsimp only; omega) (cell_aside _ (by have := unhide S0; dsimp only; omega) (cell_aside _ (by have := unhide S0; dsimp only; omega) bq2)))))), (cell_aside _ (by have := unhide S0; dsimp only; omega) (cell_aside _ (by have := unhide S0; dsimp only; omega) (cell_aside _ (by have := unhide S0; dsimp only; omega) (cell_aside _ (by have := unhide S0; dsimp only; omega) (cell_aside _ (by have := unhide S0; dsimp only; omega) (cell_aside _ (by have := unhide S0; dsimp only; omega) bq3)))))), (cell_aside _ (by have := unhide S0; dsimp only; omega) (cell_aside _ (by have := unhide S0; dsimp only; omega) (cell_aside _ (by have := unhide S0; dsimp only; omega) (cell_aside _ (by have := unhide S0; dsimp only; omega) (cell_aside _ (by have := unhide S0; dsimp only; omega) (cell_aside _ (by have := unhide S0; dsimp only; omega) bq4)))))), (cell_aside _ (by have := unhide S0; dsimp only; omega) (cell_aside _ (by have := unhide S0; dsimp only; omega) (cell_aside _ (by have := unhide S0; dsimp only; omega) (cell_aside _ (by have := unhide S0; dsimp only; omega) (cell_aside _ (by have := unhide S0; dsimp only; omega) (cell_aside _ (by have := unhide S0; dsimp only; omega) bq5))))))⟩
  clear hK KK
  try simp only [Act.put, List.getElem_toArray, List.getElem_cons_succ, List.getElem_cons_zero, List.setIfInBounds_toArray, List.set_cons_zero, List.set_cons_succ]
  refine wpAnyH_done (by kernel_rfl) ?_ _
  clear hHeld
  clear mkA mkB
  have RA := hide (((((((rA.set_other (p := ⟨w.heap.size + 2, 0, none⟩) (.inl (by have := unhide S0; dsimp only; omega)) (.bool W1)).set_other (p := ⟨w.heap.size + 2, 1, none⟩) (.inl (by have := unhide S0; dsimp only; omega)) (.slice aA Q1.length cA)).set_other (p := ⟨w.heap.size + 2, 2, none⟩) (.inl (by have := unhide S0; dsimp only; omega)) (.int .i64 D1)).set_other (p := ⟨w.heap.size + 2, 3, none⟩) (.inl (by have := unhide S0; dsimp only; omega)) (.bool W2)).set_other (p := ⟨w.heap.size + 2, 4, none⟩) (.inl (by have := unhide S0; dsimp only; omega)) (.slice aB Q2.length cB)).set_other (p := ⟨w.heap.size + 2, 5, none⟩) (.inl (by have := unhide S0; dsimp only; omega)) (.int .i64 D2)).tight.wider (lo' := w.heap.size) (by have := unhide S0; omega) (Nat.le_refl _))
  have RB := hide (((((((rB.set_other (p := ⟨w.heap.size + 2, 0, none⟩) (.inl (by have := unhide S0; dsimp only; omega)) (.bool W1)).set_other (p := ⟨w.heap.size + 2, 1, none⟩) (.inl (by have := unhide S0; dsimp only; omega)) (.slice aA Q1.length cA)).set_other (p := ⟨w.heap.size + 2, 2, none⟩) (.inl (by have := unhide S0; dsimp only; omega)) (.int .i64 D1)).set_other (p := ⟨w.heap.size + 2, 3, none⟩) (.inl (by have := unhide S0; dsimp only; omega)) (.bool W2)).set_other (p := ⟨w.heap.size + 2, 4, none⟩) (.inl (by have := unhide S0; dsimp only; omega)) (.slice aB Q2.length cB)).set_other (p := ⟨w.heap.size + 2, 5, none⟩) (.inl (by have := unhide S0; dsimp only; omega)) (.int .i64 D2)).tight.wider (lo' := w.heap.size) (by have := unhide S0; omega) (Nat.le_refl _))
  have K7 := hide (((((((unhide K).setNew (p := ⟨w.heap.size + 2, 0, none⟩) (by simp) (.bool W1)).setNew (p := ⟨w.heap.size + 2, 1, none⟩) (by simp) (.slice aA Q1.length cA)).setNew (p := ⟨w.heap.size + 2, 2, none⟩) (by simp) (.int .i64 D1)).setNew (p := ⟨w.heap.size + 2, 3, none⟩) (by simp) (.bool W2)).setNew (p := ⟨w.heap.size + 2, 4, none⟩) (by simp) (.slice aB Q2.length cB)).setNew (p := ⟨w.heap.size + 2, 5, none⟩) (by simp) (.int .i64 D2))
  clear r1 r2 r3 r4 rA rB K
  go_wp2_with fail
  exact bodyPost_ret (v := .agg #[.bool W1, .slice aA Q1.length cA, .int .i64 D1, .bool W2, .slice aB Q2.length cB, .int .i64 D2]) (by simp [results, Tryd.results36, go_sem, R0, R1, R2, R3, R4, R5]) rfl ⟨_, _, rfl, unhide RA, unhide RB, unhide K7⟩

set_option maxHeartbeats 4000000 in
theorem neg7_spec {b1 b2 : Bool} {w1l w1h w2l w2h : Nat} {v1 v2 : Value} {l1 l2 : List Int} (s1 : Bool) (e1 : Int) (s2 : Bool) (e2 : Int) (w : World) (r1 : Row .i64 b1 w1l w1h w v1 l1) (r2 : Row .i64 b2 w2l w2h w v2 l2) (o1 : dokB s1 l1 e1 = true) (o2 : dokB s2 l2 e2 = true) :
    Calls Tryd.prog 40 #[.agg #[.bool s1, v1, .int .i64 e1, .bool s2, v2, .int .i64 e2]] w fun e w' => ∃ v v', e = .returned (.agg #[.bool (wsg (-wval s2 l2)), v, .int .i64 e2, .bool (wsg (-wval s1 l1)), v', .int .i64 e1]) ∧ Row .i64 true w.heap.size w'.heap.size w' v (wlm (-wval s2 l2)) ∧ Row .i64 true w.heap.size w'.heap.size w' v' (wlm (-wval s1 l1)) ∧ Kept 0 0 w w' := by
  replace r1 := r1.tight
  replace r2 := r2.tight
  obtain ⟨W1, hW1⟩ : ∃ c, wsg (-wval s2 l2) = c := ⟨_, rfl⟩
  obtain ⟨Q1, hQ1⟩ : ∃ c, wlm (-wval s2 l2) = c := ⟨_, rfl⟩
  obtain ⟨W2, hW2⟩ : ∃ c, wsg (-wval s1 l1) = c := ⟨_, rfl⟩
  obtain ⟨Q2, hQ2⟩ : ∃ c, wlm (-wval s1 l1) = c := ⟨_, rfl⟩
  rw [hW1, hQ1, hW2, hQ2]
  have HW1 := hide hW1
  clear hW1
  have HQ1 := hide hQ1
  clear hQ1
  have HW2 := hide hW2
  clear hW2
  have HQ2 := hide hQ2
  clear hQ2
  have k0 : Kept 0 0 w ((w.alloc (.cells #[.bool s1, v1, .int .i64 e1, .bool s2, v2, .int .i64 e2] 36)).alloc (.cells #[.bool false, .slice none 0 0, .int .i64 0, .bool false, .slice none 0 0, .int .i64 0] 36)) := (((Kept.refl 0 0 w).alloc (.cells #[.bool s1, v1, .int .i64 e1, .bool s2, v2, .int .i64 e2] 36)).alloc (.cells #[.bool false, .slice none 0 0, .int .i64 0, .bool false, .slice none 0 0, .int .i64 0] 36))
  have bp0 : ((w.alloc (.cells #[.bool s1, v1, .int .i64 e1, .bool s2, v2, .int .i64 e2] 36)).alloc (.cells #[.bool false, .slice none 0 0, .int .i64 0, .bool false, .slice none 0 0, .int .i64 0] 36)).cell? ⟨w.heap.size, 0, none⟩ = some (.bool s1) := old_cell _ (new_cell2 _ _ _ _ _ _ (by simp) rfl)
  have bp1 : ((w.alloc (.cells #[.bool s1, v1, .int .i64 e1, .bool s2, v2, .int .i64 e2] 36)).alloc (.cells #[.bool false, .slice none 0 0, .int .i64 0, .bool false, .slice none 0 0, .int .i64 0] 36)).cell? ⟨w.heap.size, 1, none⟩ = some (v1) := old_cell _ (new_cell2 _ _ _ _ _ _ (by simp) rfl)
  have bp2 : ((w.alloc (.cells #[.bool s1, v1, .int .i64 e1, .bool s2, v2, .int .i64 e2] 36)).alloc (.cells #[.bool false, .slice none 0 0, .int .i64 0, .bool false, .slice none 0 0, .int .i64 0] 36)).cell? ⟨w.heap.size, 2, none⟩ = some (.int .i64 e1) := old_cell _ (new_cell2 _ _ _ _ _ _ (by simp) rfl)
  have bp3 : ((w.alloc (.cells #[.bool s1, v1, .int .i64 e1, .bool s2, v2, .int .i64 e2] 36)).alloc (.cells #[.bool false, .slice none 0 0, .int .i64 0, .bool false, .slice none 0 0, .int .i64 0] 36)).cell? ⟨w.heap.size, 3, none⟩ = some (.bool s2) := old_cell _ (new_cell2 _ _ _ _ _ _ (by simp) rfl)
  have bp4 : ((w.alloc (.cells #[.bool s1, v1, .int .i64 e1, .bool s2, v2, .int .i64 e2] 36)).alloc (.cells #[.bool false, .slice none 0 0, .int .i64 0, .bool false, .slice none 0 0, .int .i64 0] 36)).cell? ⟨w.heap.size, 4, none⟩ = some (v2) := old_cell _ (new_cell2 _ _ _ _ _ _ (by simp) rfl)
  have bp5 : ((w.alloc (.cells #[.bool s1, v1, .int .i64 e1, .bool s2, v2, .int .i64 e2] 36)).alloc (.cells #[.bool false, .slice none 0 0, .int .i64 0, .bool false, .slice none 0 0, .int .i64 0] 36)).cell? ⟨w.heap.size, 5, none⟩ = some (.int .i64 e2) := old_cell _ (new_cell2 _ _ _ _ _ _ (by simp) rfl)
  have R0 : ((w.alloc (.cells #[.bool s1, v1, .int .i64 e1, .bool s2, v2, .int .i64 e2] 36)).alloc (.cells #[.bool false, .slice none 0 0, .int .i64 0, .bool false, .slice none 0 0, .int .i64 0] 36)).cell? ⟨w.heap.size + 1, 0, none⟩ = some (.bool false) := new_cell2 _ _ _ _ _ _ (by simp) rfl
  have Rf0 : ((w.alloc (.cells #[.bool s1, v1, .int .i64 e1, .bool s2, v2, .int .i64 e2] 36)).alloc (.cells #[.bool false, .slice none 0 0, .int .i64 0, .bool false, .slice none 0 0, .int .i64 0] 36)).frozen? ⟨w.heap.size + 1, 0, none⟩ = false := new_loose2 _ _ _ _ _ (by simp)
  have R1 : ((w.alloc (.cells #[.bool s1, v1, .int .i64 e1, .bool s2, v2, .int .i64 e2] 36)).alloc (.cells #[.bool false, .slice none 0 0, .int .i64 0, .bool false, .slice none 0 0, .int .i64 0] 36)).cell? ⟨w.heap.size + 1, 1, none⟩ = some (.slice none 0 0) := new_cell2 _ _ _ _ _ _ (by simp) rfl
  have Rf1 : ((w.alloc (.cells #[.bool s1, v1, .int .i64 e1, .bool s2, v2, .int .i64 e2] 36)).alloc (.cells #[.bool false, .slice none 0 0, .int .i64 0, .bool false, .slice none 0 0, .int .i64 0] 36)).frozen? ⟨w.heap.size + 1, 1, none⟩ = false := new_loose2 _ _ _ _ _ (by simp)
  have R2 : ((w.alloc (.cells #[.bool s1, v1, .int .i64 e1, .bool s2, v2, .int .i64 e2] 36)).alloc (.cells #[.bool false, .slice none 0 0, .int .i64 0, .bool false, .slice none 0 0, .int .i64 0] 36)).cell? ⟨w.heap.size + 1, 2, none⟩ = some (.int .i64 0) := new_cell2 _ _ _ _ _ _ (by simp) rfl
  have Rf2 : ((w.alloc (.cells #[.bool s1, v1, .int .i64 e1, .bool s2, v2, .int .i64 e2] 36)).alloc (.cells #[.bool false, .slice none 0 0, .int .i64 0, .bool false, .slice none 0 0, .int .i64 0] 36)).frozen? ⟨w.heap.size + 1, 2, none⟩ = false := new_loose2 _ _ _ _ _ (by simp)
  have R3 : ((w.alloc (.cells #[.bool s1, v1, .int .i64 e1, .bool s2, v2, .int .i64 e2] 36)).alloc (.cells #[.bool false, .slice none 0 0, .int .i64 0, .bool false, .slice none 0 0, .int .i64 0] 36)).cell? ⟨w.heap.size + 1, 3, none⟩ = some (.bool false) := new_cell2 _ _ _ _ _ _ (by simp) rfl
  have Rf3 : ((w.alloc (.cells #[.bool s1, v1, .int .i64 e1, .bool s2, v2, .int .i64 e2] 36)).alloc (.cells #[.bool false, .slice none 0 0, .int .i64 0, .bool false, .slice none 0 0, .int .i64 0] 36)).frozen? ⟨w.heap.size + 1, 3, none⟩ = false := new_loose2 _ _ _ _ _ (by simp)
  have R4 : ((w.alloc (.cells #[.bool s1, v1, .int .i64 e1, .bool s2, v2, .int .i64 e2] 36)).alloc (.cells #[.bool false, .slice none 0 0, .int .i64 0, .bool false, .slice none 0 0, .int .i64 0] 36)).cell? ⟨w.heap.size + 1, 4, none⟩ = some (.slice none 0 0) := new_cell2 _ _ _ _ _ _ (by simp) rfl
  have Rf4 : ((w.alloc (.cells #[.bool s1, v1, .int .i64 e1, .bool s2, v2, .int .i64 e2] 36)).alloc (.cells #[.bool false, .slice none 0 0, .int .i64 0, .bool false, .slice none 0 0, .int .i64 0] 36)).frozen? ⟨w.heap.size + 1, 4, none⟩ = false := new_loose2 _ _ _ _ _ (by simp)
  have R5 : ((w.alloc (.cells #[.bool s1, v1, .int .i64 e1, .bool s2, v2, .int .i64 e2] 36)).alloc (.cells #[.bool false, .slice none 0 0, .int .i64 0, .bool false, .slice none 0 0, .int .i64 0] 36)).cell? ⟨w.heap.size + 1, 5, none⟩ = some (.int .i64 0) := new_cell2 _ _ _ _ _ _ (by simp) rfl
  have Rf5 : ((w.alloc (.cells #[.bool s1, v1, .int .i64 e1, .bool s2, v2, .int .i64 e2] 36)).alloc (.cells #[.bool false, .slice none 0 0, .int .i64 0, .bool false, .slice none 0 0, .int .i64 0] 36)).frozen? ⟨w.heap.size + 1, 5, none⟩ = false := new_loose2 _ _ _ _ _ (by simp)
  replace r1 := r1.kept k0 (by omega)
  replace r2 := r2.kept k0 (by omega)
  have s0 : ((w.alloc (.cells #[.bool s1, v1, .int .i64 e1, .bool s2, v2, .int .i64 e2] 36)).alloc (.cells #[.bool false, .slice none 0 0, .int .i64 0, .bool false, .slice none 0 0, .int .i64 0] 36)).heap.size = w.heap.size + 2 := by simp
  obtain ⟨a1, c1, hv⟩ := Row.form' r1
  subst hv
  obtain ⟨a2, c2, hv⟩ := Row.form' r2
  subst hv
  have K := hide (k0)
  clear k0
  have S0 := hide s0
  clear s0
  go_enter Tryd.func40, Tryd.ntmps40
  go_wp2_with fail
  generalize ((w.alloc (.cells #[.bool s1, .slice a1 l1.length c1, .int .i64 e1, .bool s2, .slice a2 l2.length c2, .int .i64 e2] 36)).alloc (.cells #[.bool false, .slice none 0 0, .int .i64 0, .bool false, .slice none 0 0, .int .i64 0] 36)) = W at *
  have mkA := fun w' r' => neg4_spec (bw := b2) (lo := w2l) (hi := w.heap.size) (v := .slice a2 l2.length c2) (zs := l2) s2 e2 w' r' (wok_int (dok_parts o2).1).2.2.2 (by have := (wok_int (dok_parts o2).1).2.2.1; omega)
  rw [unhide HW1, unhide HQ1] at mkA
  have mkB := fun w' r' => neg4_spec (bw := b1) (lo := w1l) (hi := w.heap.size) (v := .slice a1 l1.length c1) (zs := l1) s1 e1 w' r' (wok_int (dok_parts o1).1).2.2.2 (by have := (wok_int (dok_parts o1).1).2.2.1; omega)
  rw [unhide HW2, unhide HQ2] at mkB
  have kd := (Kept.refl 0 0 W).drew
  replace r1 := r1.kept kd (.inr (.inr (Nat.le_refl 0)))
  replace r2 := r2.kept kd (.inr (.inr (Nat.le_refl 0)))
  replace Rf0 := kd.loose0 (World.block_lt_of_cell? _ _ R0) Rf0
  replace Rf1 := kd.loose0 (World.block_lt_of_cell? _ _ R1) Rf1
  replace Rf2 := kd.loose0 (World.block_lt_of_cell? _ _ R2) Rf2
  replace Rf3 := kd.loose0 (World.block_lt_of_cell? _ _ R3) Rf3
  replace Rf4 := kd.loose0 (World.block_lt_of_cell? _ _ R4) Rf4
  replace Rf5 := kd.loose0 (World.block_lt_of_cell? _ _ R5) Rf5
  replace bp0 := kd.cell0 bp0
  replace bp1 := kd.cell0 bp1
  replace bp2 := kd.cell0 bp2
  replace bp3 := kd.cell0 bp3
  replace bp4 := kd.cell0 bp4
  replace bp5 := kd.cell0 bp5
  replace R0 := kd.cell0 R0
  replace R1 := kd.cell0 R1
  replace R2 := kd.cell0 R2
  replace R3 := kd.cell0 R3
  replace R4 := kd.cell0 R4
  replace R5 := kd.cell0 R5
  replace K := hide ((unhide K).trans kd)
  have z1 := kd.size
  clear kd
  refine wp_region_held_drew (S := (fun w' => w'.cell? ⟨w.heap.size, 0, none⟩ = some (.bool s1) ∧ w'.cell? ⟨w.heap.size, 1, none⟩ = some (.slice a1 l1.length c1) ∧ w'.cell? ⟨w.heap.size, 2, none⟩ = some (.int .i64 e1) ∧ w'.cell? ⟨w.heap.size, 3, none⟩ = some (.bool s2) ∧ w'.cell? ⟨w.heap.size, 4, none⟩ = some (.slice a2 l2.length c2) ∧ w'.cell? ⟨w.heap.size, 5, none⟩ = some (.int .i64 e2))) (by kernel_rfl) ?_ (fun hHeld => ?_)
  · exact ⟨bp0, bp1, bp2, bp3, bp4, bp5⟩
  refine wpAnyH_take (i := 0) (oi := _) (v := .pointer (some ⟨w.heap.size, 3, none⟩)) rfl (by kernel_rfl) (by kernel_rfl) (by kernel_rfl) (fun _ _ _ h => h) (Or.inl ⟨by rfl, ?_⟩) hHeld ?_
  · intro wq hSw
    try dsimp only at hSw
    go_simp
  try simp only [Act.put, List.getElem_toArray, List.getElem_cons_succ, List.getElem_cons_zero, List.setIfInBounds_toArray, List.set_cons_zero, List.set_cons_succ]
  refine wpAnyH_take (i := 1) (oi := _) (v := .agg #[.bool s2, .slice a2 l2.length c2, .int .i64 e2]) rfl (by kernel_rfl) (by kernel_rfl) (by kernel_rfl) (fun _ _ _ h => h) (Or.inl ⟨by rfl, ?_⟩) hHeld ?_
  · intro wq hSw
    try dsimp only at hSw
    go_simp
  try simp only [Act.put, List.getElem_toArray, List.getElem_cons_succ, List.getElem_cons_zero, List.setIfInBounds_toArray, List.set_cons_zero, List.set_cons_succ]
  refine wpAnyH_take (i := 3) (oi := _) (v := .pointer (some ⟨w.heap.size, 0, none⟩)) rfl (by kernel_rfl) (by kernel_rfl) (by kernel_rfl) (fun _ _ _ h => h) (Or.inl ⟨by rfl, ?_⟩) hHeld ?_
  · intro wq hSw
    try dsimp only at hSw
    go_simp
  try simp only [Act.put, List.getElem_toArray, List.getElem_cons_succ, List.getElem_cons_zero, List.setIfInBounds_toArray, List.set_cons_zero, List.set_cons_succ]
  refine wpAnyH_take (i := 4) (oi := _) (v := .agg #[.bool s1, .slice a1 l1.length c1, .int .i64 e1]) rfl (by kernel_rfl) (by kernel_rfl) (by kernel_rfl) (fun _ _ _ h => h) (Or.inl ⟨by rfl, ?_⟩) hHeld ?_
  · intro wq hSw
    try dsimp only at hSw
    go_simp
  try simp only [Act.put, List.getElem_toArray, List.getElem_cons_succ, List.getElem_cons_zero, List.setIfInBounds_toArray, List.set_cons_zero, List.set_cons_succ]
  refine wpAnyH_ready (rs := [2]) (by kernel_rfl) (by simp) ?_
  refine AllReadyH.cons rfl (fun KK hK => ?_) AllReadyH.nil
  simp only [List.getElem_toArray, List.getElem_cons_succ, List.getElem_cons_zero]
  rw [if_pos (by rfl)]
  refine wps1 45 (.tmp 4) _ rfl in_l4neg (.agg #[.bool s2, .slice a2 l2.length c2, .int .i64 e2]) rfl (mkA _ r2) ?_
  rintro e w2 ⟨vA, rfl, rA, k2⟩
  refine ⟨_, rfl, ?_⟩
  replace r1 := r1.kept k2 (.inr (.inr (Nat.le_refl 0)))
  replace r2 := r2.kept k2 (.inr (.inr (Nat.le_refl 0)))
  replace Rf0 := k2.loose0 (World.block_lt_of_cell? _ _ R0) Rf0
  replace Rf1 := k2.loose0 (World.block_lt_of_cell? _ _ R1) Rf1
  replace Rf2 := k2.loose0 (World.block_lt_of_cell? _ _ R2) Rf2
  replace Rf3 := k2.loose0 (World.block_lt_of_cell? _ _ R3) Rf3
  replace Rf4 := k2.loose0 (World.block_lt_of_cell? _ _ R4) Rf4
  replace Rf5 := k2.loose0 (World.block_lt_of_cell? _ _ R5) Rf5
  replace bp0 := k2.cell0 bp0
  replace bp1 := k2.cell0 bp1
  replace bp2 := k2.cell0 bp2
  replace bp3 := k2.cell0 bp3
  replace bp4 := k2.cell0 bp4
  replace bp5 := k2.cell0 bp5
  replace R0 := k2.cell0 R0
  replace R1 := k2.cell0 R1
  replace R2 := k2.cell0 R2
  replace R3 := k2.cell0 R3
  replace R4 := k2.cell0 R4
  replace R5 := k2.cell0 R5
  replace K := hide ((unhide K).trans k2)
  have z3 := k2.size
  clear k2
  clear hHeld
  refine hK.out _ _ ?_ (fun hHeld => ?_)
  · exact ⟨bp0, bp1, bp2, bp3, bp4, bp5⟩
  clear hK KK
  try simp only [Act.put, List.getElem_toArray, List.getElem_cons_succ, List.getElem_cons_zero, List.setIfInBounds_toArray, List.set_cons_zero, List.set_cons_succ]
  obtain ⟨aA, cA, hv⟩ := Row.form' rA
  subst hv
  refine wpAnyH_ready (rs := [5]) (by kernel_rfl) (by simp) ?_
  refine AllReadyH.cons rfl (fun KK hK => ?_) AllReadyH.nil
  simp only [List.getElem_toArray, List.getElem_cons_succ, List.getElem_cons_zero]
  rw [if_pos (by rfl)]
  refine wps1 45 (.tmp 7) _ rfl in_l4neg (.agg #[.bool s1, .slice a1 l1.length c1, .int .i64 e1]) rfl (mkB _ r1) ?_
  rintro e w4 ⟨vB, rfl, rB, k4⟩
  refine ⟨_, rfl, ?_⟩
  replace r1 := r1.kept k4 (.inr (.inr (Nat.le_refl 0)))
  replace r2 := r2.kept k4 (.inr (.inr (Nat.le_refl 0)))
  replace rA := rA.kept k4 (.inr (.inr (Nat.le_refl 0)))
  replace Rf0 := k4.loose0 (World.block_lt_of_cell? _ _ R0) Rf0
  replace Rf1 := k4.loose0 (World.block_lt_of_cell? _ _ R1) Rf1
  replace Rf2 := k4.loose0 (World.block_lt_of_cell? _ _ R2) Rf2
  replace Rf3 := k4.loose0 (World.block_lt_of_cell? _ _ R3) Rf3
  replace Rf4 := k4.loose0 (World.block_lt_of_cell? _ _ R4) Rf4
  replace Rf5 := k4.loose0 (World.block_lt_of_cell? _ _ R5) Rf5
  replace bp0 := k4.cell0 bp0
  replace bp1 := k4.cell0 bp1
  replace bp2 := k4.cell0 bp2
  replace bp3 := k4.cell0 bp3
  replace bp4 := k4.cell0 bp4
  replace bp5 := k4.cell0 bp5
  replace R0 := k4.cell0 R0
  replace R1 := k4.cell0 R1
  replace R2 := k4.cell0 R2
  replace R3 := k4.cell0 R3
  replace R4 := k4.cell0 R4
  replace R5 := k4.cell0 R5
  replace K := hide ((unhide K).trans k4)
  have z5 := k4.size
  clear k4
  clear hHeld
  refine hK.out _ _ ?_ (fun hHeld => ?_)
  · exact ⟨bp0, bp1, bp2, bp3, bp4, bp5⟩
  clear hK KK
  try simp only [Act.put, List.getElem_toArray, List.getElem_cons_succ, List.getElem_cons_zero, List.setIfInBounds_toArray, List.set_cons_zero, List.set_cons_succ]
  obtain ⟨aB, cB, hv⟩ := Row.form' rB
  subst hv
  refine wpAnyH_take (i := 6) (oi := _) (v := .agg #[.bool W1, .slice aA Q1.length cA, .int .i64 e2, .bool W2, .slice aB Q2.length cB, .int .i64 e1]) rfl (by kernel_rfl) (by kernel_rfl) (by kernel_rfl) (fun _ _ _ h => h) (Or.inl ⟨by rfl, ?_⟩) hHeld ?_
  · intro wq hSw
    try dsimp only at hSw
    go_simp
  try simp only [Act.put, List.getElem_toArray, List.getElem_cons_succ, List.getElem_cons_zero, List.setIfInBounds_toArray, List.set_cons_zero, List.set_cons_succ]
  refine wpAnyH_ready (rs := [7]) (by kernel_rfl) (by simp) ?_
  refine AllReadyH.cons rfl (fun KK hK => ?_) AllReadyH.nil
  simp only [List.getElem_toArray, List.getElem_cons_succ, List.getElem_cons_zero]
  rw [if_pos (by rfl)]
  go_simp
  clear hHeld
  refine hK.out _ _ ?_ (fun hHeld => ?_)
  · exact ⟨(cell_aside _ (by have := unhide S0; dsimp only; omega) (cell_aside _ (by have := unhide S0; dsimp only; omega) (cell_aside _ (by have := unhide S0; dsimp only; omega) (cell_aside _ (by have := unhide S0; dsimp only; omega) (cell_aside _ (by have := unhide S0; dsimp only; omega) (cell_aside _ (by have := unhide S0; dsimp only; omega) bp0)))))), (cell_aside _ (by have := unhide S0; dsimp only; omega) (cell_aside _ (by have := unhide S0; dsimp only; omega) (cell_aside _ (by have := unhide S0; dsimp only; omega) (cell_aside _ (by have := unhide S0; dsimp only; omega) (cell_aside _ (by have := unhide S0; dsimp only; omega) (cell_aside _ (by have := unhide S0; dsimp only; omega) bp1)))))), (cell_aside _ (by have := unhide S0; dsimp only; omega) (cell_aside _ (by have := unhide S0; dsimp only; omega) (cell_aside _ (by have := unhide S0; dsimp only; omega) (cell_aside _ (by have := unhide S0; dsimp only; omega) (cell_aside _ (by have := unhide S0; dsimp only; omega) (cell_aside _ (by have := unhide S0; dsimp only; omega) bp2)))))), (cell_aside _ (by have := unhide S0; dsimp only; omega) (cell_aside _ (by have := unhide S0; dsimp only; omega) (cell_aside _ (by have := unhide S0; dsimp only; omega) (cell_aside _ (by have := unhide S0; dsimp only; omega) (cell_aside _ (by have := unhide S0; dsimp only; omega) (cell_aside _ (by have := unhide S0; dsimp only; omega) bp3)))))), (cell_aside _ (by have := unhide S0; dsimp only; omega) (cell_aside _ (by have := unhide S0; dsimp only; omega) (cell_aside _ (by have := unhide S0; dsimp only; omega) (cell_aside _ (by have := unhide S0; dsimp only; omega) (cell_aside _ (by have := unhide S0; dsimp only; omega) (cell_aside _ (by have := unhide S0; dsimp only; omega) bp4)))))), (cell_aside _ (by have := unhide S0; dsimp only; omega) (cell_aside _ (by have := unhide S0; dsimp only; omega) (cell_aside _ (by have := unhide S0; dsimp only; omega) (cell_aside _ (by have := unhide S0; dsimp only; omega) (cell_aside _ (by have := unhide S0; dsimp only; omega) (cell_aside _ (by have := unhide S0; dsimp only; omega) bp5))))))⟩
  clear hK KK
  try simp only [Act.put, List.getElem_toArray, List.getElem_cons_succ, List.getElem_cons_zero, List.setIfInBounds_toArray, List.set_cons_zero, List.set_cons_succ]
  refine wpAnyH_done (by kernel_rfl) ?_ _
  clear hHeld
  clear mkA mkB
  have RA := hide (((((((rA.set_other (p := ⟨w.heap.size + 1, 0, none⟩) (.inl (by have := unhide S0; dsimp only; omega)) (.bool W1)).set_other (p := ⟨w.heap.size + 1, 1, none⟩) (.inl (by have := unhide S0; dsimp only; omega)) (.slice aA Q1.length cA)).set_other (p := ⟨w.heap.size + 1, 2, none⟩) (.inl (by have := unhide S0; dsimp only; omega)) (.int .i64 e2)).set_other (p := ⟨w.heap.size + 1, 3, none⟩) (.inl (by have := unhide S0; dsimp only; omega)) (.bool W2)).set_other (p := ⟨w.heap.size + 1, 4, none⟩) (.inl (by have := unhide S0; dsimp only; omega)) (.slice aB Q2.length cB)).set_other (p := ⟨w.heap.size + 1, 5, none⟩) (.inl (by have := unhide S0; dsimp only; omega)) (.int .i64 e1)).tight.wider (lo' := w.heap.size) (by have := unhide S0; omega) (Nat.le_refl _))
  have RB := hide (((((((rB.set_other (p := ⟨w.heap.size + 1, 0, none⟩) (.inl (by have := unhide S0; dsimp only; omega)) (.bool W1)).set_other (p := ⟨w.heap.size + 1, 1, none⟩) (.inl (by have := unhide S0; dsimp only; omega)) (.slice aA Q1.length cA)).set_other (p := ⟨w.heap.size + 1, 2, none⟩) (.inl (by have := unhide S0; dsimp only; omega)) (.int .i64 e2)).set_other (p := ⟨w.heap.size + 1, 3, none⟩) (.inl (by have := unhide S0; dsimp only; omega)) (.bool W2)).set_other (p := ⟨w.heap.size + 1, 4, none⟩) (.inl (by have := unhide S0; dsimp only; omega)) (.slice aB Q2.length cB)).set_other (p := ⟨w.heap.size + 1, 5, none⟩) (.inl (by have := unhide S0; dsimp only; omega)) (.int .i64 e1)).tight.wider (lo' := w.heap.size) (by have := unhide S0; omega) (Nat.le_refl _))
  have K7 := hide (((((((unhide K).setNew (p := ⟨w.heap.size + 1, 0, none⟩) (by simp) (.bool W1)).setNew (p := ⟨w.heap.size + 1, 1, none⟩) (by simp) (.slice aA Q1.length cA)).setNew (p := ⟨w.heap.size + 1, 2, none⟩) (by simp) (.int .i64 e2)).setNew (p := ⟨w.heap.size + 1, 3, none⟩) (by simp) (.bool W2)).setNew (p := ⟨w.heap.size + 1, 4, none⟩) (by simp) (.slice aB Q2.length cB)).setNew (p := ⟨w.heap.size + 1, 5, none⟩) (by simp) (.int .i64 e1))
  clear r1 r2 rA rB K
  go_wp2_with fail
  exact bodyPost_ret (v := .agg #[.bool W1, .slice aA Q1.length cA, .int .i64 e2, .bool W2, .slice aB Q2.length cB, .int .i64 e1]) (by simp [results, Tryd.results40, go_sem, R0, R1, R2, R3, R4, R5]) rfl ⟨_, _, rfl, unhide RA, unhide RB, unhide K7⟩

set_option maxHeartbeats 4000000 in
theorem ivadd_spec {b1 b2 b3 b4 : Bool} {w1l w1h w2l w2h w3l w3h w4l w4h : Nat} {v1 v2 v3 v4 : Value} {l1 l2 l3 l4 : List Int} (s1 : Bool) (e1 : Int) (hu1 : e1 ≤ 9223372036854775807) (hd1 : -9223372036854775808 ≤ e1) (s2 : Bool) (e2 : Int) (hu2 : e2 ≤ 9223372036854775807) (hd2 : -9223372036854775808 ≤ e2) (s3 : Bool) (e3 : Int) (hu3 : e3 ≤ 9223372036854775807) (hd3 : -9223372036854775808 ≤ e3) (s4 : Bool) (e4 : Int) (hu4 : e4 ≤ 9223372036854775807) (hd4 : -9223372036854775808 ≤ e4) (w : World) (r1 : Row .i64 b1 w1l w1h w v1 l1) (r2 : Row .i64 b2 w2l w2h w v2 l2) (r3 : Row .i64 b3 w3l w3h w v3 l3) (r4 : Row .i64 b4 w4l w4h w v4 l4) :
    Calls Tryd.prog 17 #[.agg #[.bool s1, v1, .int .i64 e1, .bool s2, v2, .int .i64 e2], .agg #[.bool s3, v3, .int .i64 e3, .bool s4, v4, .int .i64 e4]] w fun e w' => IvAnsS (ivC (iokB s1 l1 e1 s2 l2 e2 && iokB s3 l3 e3 s4 l4 e4) (wval s1 l1 * 2 ^ (e1 - min e1 e3).toNat + wval s3 l3 * 2 ^ (e3 - min e1 e3).toNat) (min e1 e3) (wval s2 l2 * 2 ^ (e2 - min e2 e4).toNat + wval s4 l4 * 2 ^ (e4 - min e2 e4).toNat) (min e2 e4)) (wsg (wval s1 l1 * 2 ^ (e1 - min e1 e3).toNat + wval s3 l3 * 2 ^ (e3 - min e1 e3).toNat)) (dex (wval s1 l1 * 2 ^ (e1 - min e1 e3).toNat + wval s3 l3 * 2 ^ (e3 - min e1 e3).toNat) (min e1 e3)) (dlm (wval s1 l1 * 2 ^ (e1 - min e1 e3).toNat + wval s3 l3 * 2 ^ (e3 - min e1 e3).toNat)) (wsg (wval s2 l2 * 2 ^ (e2 - min e2 e4).toNat + wval s4 l4 * 2 ^ (e4 - min e2 e4).toNat)) (dex (wval s2 l2 * 2 ^ (e2 - min e2 e4).toNat + wval s4 l4 * 2 ^ (e4 - min e2 e4).toNat) (min e2 e4)) (dlm (wval s2 l2 * 2 ^ (e2 - min e2 e4).toNat + wval s4 l4 * 2 ^ (e4 - min e2 e4).toNat)) w e w' := by
  replace r1 := r1.tight
  replace r2 := r2.tight
  replace r3 := r3.tight
  replace r4 := r4.tight
  obtain ⟨CC, hCC⟩ : ∃ c, ivC (iokB s1 l1 e1 s2 l2 e2 && iokB s3 l3 e3 s4 l4 e4) (wval s1 l1 * 2 ^ (e1 - min e1 e3).toNat + wval s3 l3 * 2 ^ (e3 - min e1 e3).toNat) (min e1 e3) (wval s2 l2 * 2 ^ (e2 - min e2 e4).toNat + wval s4 l4 * 2 ^ (e4 - min e2 e4).toNat) (min e2 e4) = c := ⟨_, rfl⟩
  rw [hCC]
  have HCC := hide hCC
  clear hCC
  obtain ⟨W1, hW1⟩ : ∃ c, wsg (wval s1 l1 * 2 ^ (e1 - min e1 e3).toNat + wval s3 l3 * 2 ^ (e3 - min e1 e3).toNat) = c := ⟨_, rfl⟩
  obtain ⟨D1, hD1⟩ : ∃ c, dex (wval s1 l1 * 2 ^ (e1 - min e1 e3).toNat + wval s3 l3 * 2 ^ (e3 - min e1 e3).toNat) (min e1 e3) = c := ⟨_, rfl⟩
  obtain ⟨Q1, hQ1⟩ : ∃ c, dlm (wval s1 l1 * 2 ^ (e1 - min e1 e3).toNat + wval s3 l3 * 2 ^ (e3 - min e1 e3).toNat) = c := ⟨_, rfl⟩
  obtain ⟨W2, hW2⟩ : ∃ c, wsg (wval s2 l2 * 2 ^ (e2 - min e2 e4).toNat + wval s4 l4 * 2 ^ (e4 - min e2 e4).toNat) = c := ⟨_, rfl⟩
  obtain ⟨D2, hD2⟩ : ∃ c, dex (wval s2 l2 * 2 ^ (e2 - min e2 e4).toNat + wval s4 l4 * 2 ^ (e4 - min e2 e4).toNat) (min e2 e4) = c := ⟨_, rfl⟩
  obtain ⟨Q2, hQ2⟩ : ∃ c, dlm (wval s2 l2 * 2 ^ (e2 - min e2 e4).toNat + wval s4 l4 * 2 ^ (e4 - min e2 e4).toNat) = c := ⟨_, rfl⟩
  try rw [hW1]
  try rw [hD1]
  try rw [hQ1]
  try rw [hW2]
  try rw [hD2]
  try rw [hQ2]
  have HW1 := hide hW1
  clear hW1
  have HD1 := hide hD1
  clear hD1
  have HQ1 := hide hQ1
  clear hQ1
  have HW2 := hide hW2
  clear hW2
  have HD2 := hide hD2
  clear hD2
  have HQ2 := hide hQ2
  clear hQ2
  have k0 : Kept 0 0 w (((w.alloc (.cells #[.bool s1, v1, .int .i64 e1, .bool s2, v2, .int .i64 e2] 36)).alloc (.cells #[.bool s3, v3, .int .i64 e3, .bool s4, v4, .int .i64 e4] 36)).alloc (.cells #[.bool false, .slice none 0 0, .int .i64 0, .bool false, .slice none 0 0, .int .i64 0] 36)) := ((((Kept.refl 0 0 w).alloc (.cells #[.bool s1, v1, .int .i64 e1, .bool s2, v2, .int .i64 e2] 36)).alloc (.cells #[.bool s3, v3, .int .i64 e3, .bool s4, v4, .int .i64 e4] 36)).alloc (.cells #[.bool false, .slice none 0 0, .int .i64 0, .bool false, .slice none 0 0, .int .i64 0] 36))
  have bp0 : (((w.alloc (.cells #[.bool s1, v1, .int .i64 e1, .bool s2, v2, .int .i64 e2] 36)).alloc (.cells #[.bool s3, v3, .int .i64 e3, .bool s4, v4, .int .i64 e4] 36)).alloc (.cells #[.bool false, .slice none 0 0, .int .i64 0, .bool false, .slice none 0 0, .int .i64 0] 36)).cell? ⟨w.heap.size, 0, none⟩ = some (.bool s1) := old_cell _ (old_cell _ (new_cell2 _ _ _ _ _ _ (by simp) rfl))
  have bp1 : (((w.alloc (.cells #[.bool s1, v1, .int .i64 e1, .bool s2, v2, .int .i64 e2] 36)).alloc (.cells #[.bool s3, v3, .int .i64 e3, .bool s4, v4, .int .i64 e4] 36)).alloc (.cells #[.bool false, .slice none 0 0, .int .i64 0, .bool false, .slice none 0 0, .int .i64 0] 36)).cell? ⟨w.heap.size, 1, none⟩ = some (v1) := old_cell _ (old_cell _ (new_cell2 _ _ _ _ _ _ (by simp) rfl))
  have bp2 : (((w.alloc (.cells #[.bool s1, v1, .int .i64 e1, .bool s2, v2, .int .i64 e2] 36)).alloc (.cells #[.bool s3, v3, .int .i64 e3, .bool s4, v4, .int .i64 e4] 36)).alloc (.cells #[.bool false, .slice none 0 0, .int .i64 0, .bool false, .slice none 0 0, .int .i64 0] 36)).cell? ⟨w.heap.size, 2, none⟩ = some (.int .i64 e1) := old_cell _ (old_cell _ (new_cell2 _ _ _ _ _ _ (by simp) rfl))
  have bp3 : (((w.alloc (.cells #[.bool s1, v1, .int .i64 e1, .bool s2, v2, .int .i64 e2] 36)).alloc (.cells #[.bool s3, v3, .int .i64 e3, .bool s4, v4, .int .i64 e4] 36)).alloc (.cells #[.bool false, .slice none 0 0, .int .i64 0, .bool false, .slice none 0 0, .int .i64 0] 36)).cell? ⟨w.heap.size, 3, none⟩ = some (.bool s2) := old_cell _ (old_cell _ (new_cell2 _ _ _ _ _ _ (by simp) rfl))
  have bp4 : (((w.alloc (.cells #[.bool s1, v1, .int .i64 e1, .bool s2, v2, .int .i64 e2] 36)).alloc (.cells #[.bool s3, v3, .int .i64 e3, .bool s4, v4, .int .i64 e4] 36)).alloc (.cells #[.bool false, .slice none 0 0, .int .i64 0, .bool false, .slice none 0 0, .int .i64 0] 36)).cell? ⟨w.heap.size, 4, none⟩ = some (v2) := old_cell _ (old_cell _ (new_cell2 _ _ _ _ _ _ (by simp) rfl))
  have bp5 : (((w.alloc (.cells #[.bool s1, v1, .int .i64 e1, .bool s2, v2, .int .i64 e2] 36)).alloc (.cells #[.bool s3, v3, .int .i64 e3, .bool s4, v4, .int .i64 e4] 36)).alloc (.cells #[.bool false, .slice none 0 0, .int .i64 0, .bool false, .slice none 0 0, .int .i64 0] 36)).cell? ⟨w.heap.size, 5, none⟩ = some (.int .i64 e2) := old_cell _ (old_cell _ (new_cell2 _ _ _ _ _ _ (by simp) rfl))
  have bq0 : (((w.alloc (.cells #[.bool s1, v1, .int .i64 e1, .bool s2, v2, .int .i64 e2] 36)).alloc (.cells #[.bool s3, v3, .int .i64 e3, .bool s4, v4, .int .i64 e4] 36)).alloc (.cells #[.bool false, .slice none 0 0, .int .i64 0, .bool false, .slice none 0 0, .int .i64 0] 36)).cell? ⟨w.heap.size + 1, 0, none⟩ = some (.bool s3) := old_cell _ (new_cell2 _ _ _ _ _ _ (by simp) rfl)
  have bq1 : (((w.alloc (.cells #[.bool s1, v1, .int .i64 e1, .bool s2, v2, .int .i64 e2] 36)).alloc (.cells #[.bool s3, v3, .int .i64 e3, .bool s4, v4, .int .i64 e4] 36)).alloc (.cells #[.bool false, .slice none 0 0, .int .i64 0, .bool false, .slice none 0 0, .int .i64 0] 36)).cell? ⟨w.heap.size + 1, 1, none⟩ = some (v3) := old_cell _ (new_cell2 _ _ _ _ _ _ (by simp) rfl)
  have bq2 : (((w.alloc (.cells #[.bool s1, v1, .int .i64 e1, .bool s2, v2, .int .i64 e2] 36)).alloc (.cells #[.bool s3, v3, .int .i64 e3, .bool s4, v4, .int .i64 e4] 36)).alloc (.cells #[.bool false, .slice none 0 0, .int .i64 0, .bool false, .slice none 0 0, .int .i64 0] 36)).cell? ⟨w.heap.size + 1, 2, none⟩ = some (.int .i64 e3) := old_cell _ (new_cell2 _ _ _ _ _ _ (by simp) rfl)
  have bq3 : (((w.alloc (.cells #[.bool s1, v1, .int .i64 e1, .bool s2, v2, .int .i64 e2] 36)).alloc (.cells #[.bool s3, v3, .int .i64 e3, .bool s4, v4, .int .i64 e4] 36)).alloc (.cells #[.bool false, .slice none 0 0, .int .i64 0, .bool false, .slice none 0 0, .int .i64 0] 36)).cell? ⟨w.heap.size + 1, 3, none⟩ = some (.bool s4) := old_cell _ (new_cell2 _ _ _ _ _ _ (by simp) rfl)
  have bq4 : (((w.alloc (.cells #[.bool s1, v1, .int .i64 e1, .bool s2, v2, .int .i64 e2] 36)).alloc (.cells #[.bool s3, v3, .int .i64 e3, .bool s4, v4, .int .i64 e4] 36)).alloc (.cells #[.bool false, .slice none 0 0, .int .i64 0, .bool false, .slice none 0 0, .int .i64 0] 36)).cell? ⟨w.heap.size + 1, 4, none⟩ = some (v4) := old_cell _ (new_cell2 _ _ _ _ _ _ (by simp) rfl)
  have bq5 : (((w.alloc (.cells #[.bool s1, v1, .int .i64 e1, .bool s2, v2, .int .i64 e2] 36)).alloc (.cells #[.bool s3, v3, .int .i64 e3, .bool s4, v4, .int .i64 e4] 36)).alloc (.cells #[.bool false, .slice none 0 0, .int .i64 0, .bool false, .slice none 0 0, .int .i64 0] 36)).cell? ⟨w.heap.size + 1, 5, none⟩ = some (.int .i64 e4) := old_cell _ (new_cell2 _ _ _ _ _ _ (by simp) rfl)
  have R0 : (((w.alloc (.cells #[.bool s1, v1, .int .i64 e1, .bool s2, v2, .int .i64 e2] 36)).alloc (.cells #[.bool s3, v3, .int .i64 e3, .bool s4, v4, .int .i64 e4] 36)).alloc (.cells #[.bool false, .slice none 0 0, .int .i64 0, .bool false, .slice none 0 0, .int .i64 0] 36)).cell? ⟨w.heap.size + 2, 0, none⟩ = some (.bool false) := new_cell2 _ _ _ _ _ _ (by simp) rfl
  have Rf0 : (((w.alloc (.cells #[.bool s1, v1, .int .i64 e1, .bool s2, v2, .int .i64 e2] 36)).alloc (.cells #[.bool s3, v3, .int .i64 e3, .bool s4, v4, .int .i64 e4] 36)).alloc (.cells #[.bool false, .slice none 0 0, .int .i64 0, .bool false, .slice none 0 0, .int .i64 0] 36)).frozen? ⟨w.heap.size + 2, 0, none⟩ = false := new_loose2 _ _ _ _ _ (by simp)
  have R1 : (((w.alloc (.cells #[.bool s1, v1, .int .i64 e1, .bool s2, v2, .int .i64 e2] 36)).alloc (.cells #[.bool s3, v3, .int .i64 e3, .bool s4, v4, .int .i64 e4] 36)).alloc (.cells #[.bool false, .slice none 0 0, .int .i64 0, .bool false, .slice none 0 0, .int .i64 0] 36)).cell? ⟨w.heap.size + 2, 1, none⟩ = some (.slice none 0 0) := new_cell2 _ _ _ _ _ _ (by simp) rfl
  have Rf1 : (((w.alloc (.cells #[.bool s1, v1, .int .i64 e1, .bool s2, v2, .int .i64 e2] 36)).alloc (.cells #[.bool s3, v3, .int .i64 e3, .bool s4, v4, .int .i64 e4] 36)).alloc (.cells #[.bool false, .slice none 0 0, .int .i64 0, .bool false, .slice none 0 0, .int .i64 0] 36)).frozen? ⟨w.heap.size + 2, 1, none⟩ = false := new_loose2 _ _ _ _ _ (by simp)
  have R2 : (((w.alloc (.cells #[.bool s1, v1, .int .i64 e1, .bool s2, v2, .int .i64 e2] 36)).alloc (.cells #[.bool s3, v3, .int .i64 e3, .bool s4, v4, .int .i64 e4] 36)).alloc (.cells #[.bool false, .slice none 0 0, .int .i64 0, .bool false, .slice none 0 0, .int .i64 0] 36)).cell? ⟨w.heap.size + 2, 2, none⟩ = some (.int .i64 0) := new_cell2 _ _ _ _ _ _ (by simp) rfl
  have Rf2 : (((w.alloc (.cells #[.bool s1, v1, .int .i64 e1, .bool s2, v2, .int .i64 e2] 36)).alloc (.cells #[.bool s3, v3, .int .i64 e3, .bool s4, v4, .int .i64 e4] 36)).alloc (.cells #[.bool false, .slice none 0 0, .int .i64 0, .bool false, .slice none 0 0, .int .i64 0] 36)).frozen? ⟨w.heap.size + 2, 2, none⟩ = false := new_loose2 _ _ _ _ _ (by simp)
  have R3 : (((w.alloc (.cells #[.bool s1, v1, .int .i64 e1, .bool s2, v2, .int .i64 e2] 36)).alloc (.cells #[.bool s3, v3, .int .i64 e3, .bool s4, v4, .int .i64 e4] 36)).alloc (.cells #[.bool false, .slice none 0 0, .int .i64 0, .bool false, .slice none 0 0, .int .i64 0] 36)).cell? ⟨w.heap.size + 2, 3, none⟩ = some (.bool false) := new_cell2 _ _ _ _ _ _ (by simp) rfl
  have Rf3 : (((w.alloc (.cells #[.bool s1, v1, .int .i64 e1, .bool s2, v2, .int .i64 e2] 36)).alloc (.cells #[.bool s3, v3, .int .i64 e3, .bool s4, v4, .int .i64 e4] 36)).alloc (.cells #[.bool false, .slice none 0 0, .int .i64 0, .bool false, .slice none 0 0, .int .i64 0] 36)).frozen? ⟨w.heap.size + 2, 3, none⟩ = false := new_loose2 _ _ _ _ _ (by simp)
  have R4 : (((w.alloc (.cells #[.bool s1, v1, .int .i64 e1, .bool s2, v2, .int .i64 e2] 36)).alloc (.cells #[.bool s3, v3, .int .i64 e3, .bool s4, v4, .int .i64 e4] 36)).alloc (.cells #[.bool false, .slice none 0 0, .int .i64 0, .bool false, .slice none 0 0, .int .i64 0] 36)).cell? ⟨w.heap.size + 2, 4, none⟩ = some (.slice none 0 0) := new_cell2 _ _ _ _ _ _ (by simp) rfl
  have Rf4 : (((w.alloc (.cells #[.bool s1, v1, .int .i64 e1, .bool s2, v2, .int .i64 e2] 36)).alloc (.cells #[.bool s3, v3, .int .i64 e3, .bool s4, v4, .int .i64 e4] 36)).alloc (.cells #[.bool false, .slice none 0 0, .int .i64 0, .bool false, .slice none 0 0, .int .i64 0] 36)).frozen? ⟨w.heap.size + 2, 4, none⟩ = false := new_loose2 _ _ _ _ _ (by simp)
  have R5 : (((w.alloc (.cells #[.bool s1, v1, .int .i64 e1, .bool s2, v2, .int .i64 e2] 36)).alloc (.cells #[.bool s3, v3, .int .i64 e3, .bool s4, v4, .int .i64 e4] 36)).alloc (.cells #[.bool false, .slice none 0 0, .int .i64 0, .bool false, .slice none 0 0, .int .i64 0] 36)).cell? ⟨w.heap.size + 2, 5, none⟩ = some (.int .i64 0) := new_cell2 _ _ _ _ _ _ (by simp) rfl
  have Rf5 : (((w.alloc (.cells #[.bool s1, v1, .int .i64 e1, .bool s2, v2, .int .i64 e2] 36)).alloc (.cells #[.bool s3, v3, .int .i64 e3, .bool s4, v4, .int .i64 e4] 36)).alloc (.cells #[.bool false, .slice none 0 0, .int .i64 0, .bool false, .slice none 0 0, .int .i64 0] 36)).frozen? ⟨w.heap.size + 2, 5, none⟩ = false := new_loose2 _ _ _ _ _ (by simp)
  replace r1 := r1.kept k0 (by omega)
  replace r2 := r2.kept k0 (by omega)
  replace r3 := r3.kept k0 (by omega)
  replace r4 := r4.kept k0 (by omega)
  have s0 : (((w.alloc (.cells #[.bool s1, v1, .int .i64 e1, .bool s2, v2, .int .i64 e2] 36)).alloc (.cells #[.bool s3, v3, .int .i64 e3, .bool s4, v4, .int .i64 e4] 36)).alloc (.cells #[.bool false, .slice none 0 0, .int .i64 0, .bool false, .slice none 0 0, .int .i64 0] 36)).heap.size = w.heap.size + 3 := by simp
  obtain ⟨a1, c1, hv⟩ := Row.form' r1
  subst hv
  obtain ⟨a2, c2, hv⟩ := Row.form' r2
  subst hv
  obtain ⟨a3, c3, hv⟩ := Row.form' r3
  subst hv
  obtain ⟨a4, c4, hv⟩ := Row.form' r4
  subst hv
  have K := hide (k0)
  clear k0
  have S0 := hide s0
  clear s0
  go_enter Tryd.func17, Tryd.ntmps17
  go_wp2_with fail
  generalize (((w.alloc (.cells #[.bool s1, .slice a1 l1.length c1, .int .i64 e1, .bool s2, .slice a2 l2.length c2, .int .i64 e2] 36)).alloc (.cells #[.bool s3, .slice a3 l3.length c3, .int .i64 e3, .bool s4, .slice a4 l4.length c4, .int .i64 e4] 36)).alloc (.cells #[.bool false, .slice none 0 0, .int .i64 0, .bool false, .slice none 0 0, .int .i64 0] 36)) = W at *
  refine (ivok_spec s1 e1 hu1 hd1 s2 e2 hu2 hd2 _ r1 r2).mono ?_
  rintro e w1 ⟨rfl, k1⟩
  replace r1 := r1.kept k1 (.inr (.inr (Nat.le_refl 0)))
  replace r2 := r2.kept k1 (.inr (.inr (Nat.le_refl 0)))
  replace r3 := r3.kept k1 (.inr (.inr (Nat.le_refl 0)))
  replace r4 := r4.kept k1 (.inr (.inr (Nat.le_refl 0)))
  replace Rf0 := k1.loose0 (World.block_lt_of_cell? _ _ R0) Rf0
  replace Rf1 := k1.loose0 (World.block_lt_of_cell? _ _ R1) Rf1
  replace Rf2 := k1.loose0 (World.block_lt_of_cell? _ _ R2) Rf2
  replace Rf3 := k1.loose0 (World.block_lt_of_cell? _ _ R3) Rf3
  replace Rf4 := k1.loose0 (World.block_lt_of_cell? _ _ R4) Rf4
  replace Rf5 := k1.loose0 (World.block_lt_of_cell? _ _ R5) Rf5
  replace bp0 := k1.cell0 bp0
  replace bp1 := k1.cell0 bp1
  replace bp2 := k1.cell0 bp2
  replace bp3 := k1.cell0 bp3
  replace bp4 := k1.cell0 bp4
  replace bp5 := k1.cell0 bp5
  replace bq0 := k1.cell0 bq0
  replace bq1 := k1.cell0 bq1
  replace bq2 := k1.cell0 bq2
  replace bq3 := k1.cell0 bq3
  replace bq4 := k1.cell0 bq4
  replace bq5 := k1.cell0 bq5
  replace R0 := k1.cell0 R0
  replace R1 := k1.cell0 R1
  replace R2 := k1.cell0 R2
  replace R3 := k1.cell0 R3
  replace R4 := k1.cell0 R4
  replace R5 := k1.cell0 R5
  replace K := hide ((unhide K).trans k1)
  have z2 := k1.size
  clear k1
  cases ho : iokB s1 l1 e1 s2 l2 e2
  · have EC : Hid (CC = false) := by show _ = _; rw [← unhide HCC]; exact ivC_no (by rw [ho]; rfl)
    have K7 := hide (((((((unhide K).setNew (p := ⟨w.heap.size + 2, 0, none⟩) (by simp) (.bool false)).setNew (p := ⟨w.heap.size + 2, 1, none⟩) (by simp) (.slice none 0 0)).setNew (p := ⟨w.heap.size + 2, 2, none⟩) (by simp) (.int .i64 0)).setNew (p := ⟨w.heap.size + 2, 3, none⟩) (by simp) (.bool false)).setNew (p := ⟨w.heap.size + 2, 4, none⟩) (by simp) (.slice none 0 0)).setNew (p := ⟨w.heap.size + 2, 5, none⟩) (by simp) (.int .i64 0))
    clear r1 r2 r3 r4 K
    go_wp2_with fail
    exact bodyPost_ret (v := .tuple #[.agg #[.bool false, .slice none 0 0, .int .i64 0, .bool false, .slice none 0 0, .int .i64 0], .bool false]) (by simp [results, Tryd.results17, go_sem, R0, R1, R2, R3, R4, R5]) rfl (by rw [unhide EC]; exact ivS_no (unhide K7))
  obtain ⟨i1, i2, -⟩ := iok_parts ho
  have I1 := hide i1
  have I2 := hide i2
  have HO := hide ho
  clear ho i1 i2
  go_wp2_with fail
  refine (ivok_spec s3 e3 hu3 hd3 s4 e4 hu4 hd4 _ r3 r4).mono ?_
  rintro e w3 ⟨rfl, k3⟩
  replace r1 := r1.kept k3 (.inr (.inr (Nat.le_refl 0)))
  replace r2 := r2.kept k3 (.inr (.inr (Nat.le_refl 0)))
  replace r3 := r3.kept k3 (.inr (.inr (Nat.le_refl 0)))
  replace r4 := r4.kept k3 (.inr (.inr (Nat.le_refl 0)))
  replace Rf0 := k3.loose0 (World.block_lt_of_cell? _ _ R0) Rf0
  replace Rf1 := k3.loose0 (World.block_lt_of_cell? _ _ R1) Rf1
  replace Rf2 := k3.loose0 (World.block_lt_of_cell? _ _ R2) Rf2
  replace Rf3 := k3.loose0 (World.block_lt_of_cell? _ _ R3) Rf3
  replace Rf4 := k3.loose0 (World.block_lt_of_cell? _ _ R4) Rf4
  replace Rf5 := k3.loose0 (World.block_lt_of_cell? _ _ R5) Rf5
  replace bp0 := k3.cell0 bp0
  replace bp1 := k3.cell0 bp1
  replace bp2 := k3.cell0 bp2
  replace bp3 := k3.cell0 bp3
  replace bp4 := k3.cell0 bp4
  replace bp5 := k3.cell0 bp5
  replace bq0 := k3.cell0 bq0
  replace bq1 := k3.cell0 bq1
  replace bq2 := k3.cell0 bq2
  replace bq3 := k3.cell0 bq3
  replace bq4 := k3.cell0 bq4
  replace bq5 := k3.cell0 bq5
  replace R0 := k3.cell0 R0
  replace R1 := k3.cell0 R1
  replace R2 := k3.cell0 R2
  replace R3 := k3.cell0 R3
  replace R4 := k3.cell0 R4
  replace R5 := k3.cell0 R5
  replace K := hide ((unhide K).trans k3)
  have z4 := k3.size
  clear k3
  cases ho : iokB s3 l3 e3 s4 l4 e4
  · have EC : Hid (CC = false) := by show _ = _; rw [← unhide HCC]; exact ivC_no (by rw [ho, unhide HO]; rfl)
    have K7 := hide (((((((unhide K).setNew (p := ⟨w.heap.size + 2, 0, none⟩) (by simp) (.bool false)).setNew (p := ⟨w.heap.size + 2, 1, none⟩) (by simp) (.slice none 0 0)).setNew (p := ⟨w.heap.size + 2, 2, none⟩) (by simp) (.int .i64 0)).setNew (p := ⟨w.heap.size + 2, 3, none⟩) (by simp) (.bool false)).setNew (p := ⟨w.heap.size + 2, 4, none⟩) (by simp) (.slice none 0 0)).setNew (p := ⟨w.heap.size + 2, 5, none⟩) (by simp) (.int .i64 0))
    clear r1 r2 r3 r4 K
    go_wp2_with fail
    exact bodyPost_ret (v := .tuple #[.agg #[.bool false, .slice none 0 0, .int .i64 0, .bool false, .slice none 0 0, .int .i64 0], .bool false]) (by simp [results, Tryd.results17, go_sem, R0, R1, R2, R3, R4, R5]) rfl (by rw [unhide EC]; exact ivS_no (unhide K7))
  obtain ⟨i3, i4, -⟩ := iok_parts ho
  have I3 := hide i3
  have I4 := hide i4
  have HC : Hid ((iokB s1 l1 e1 s2 l2 e2 && iokB s3 l3 e3 s4 l4 e4) = true) := by show _ = _; rw [ho, unhide HO]; rfl
  clear ho i3 i4
  have mkf : ∀ w' vA vB lo' hi', Row .i64 true lo' hi' w' vA Q1 → Row .i64 true lo' hi' w' vB Q2 → Calls Tryd.prog 27 #[.agg #[.bool W1, vA, .int .i64 D1, .bool W2, vB, .int .i64 D2]] w' fun e w'' => IvAnsS CC W1 D1 Q1 W2 D2 Q2 w' e w'' := fun w' vA vB lo' hi' rA' rB' => by
    have rg1 := sum_rg (unhide I1) (unhide I3)
    have rg2 := sum_rg (unhide I2) (unhide I4)
    rw [unhide HD1] at rg1
    rw [unhide HD2] at rg2
    have mk := fits7_spec W1 D1 rg1.1 rg1.2 W2 D2 rg2.1 rg2.2 w' rA' rB'
    have hcc := unhide HCC
    unfold ivC at hcc
    rw [unhide HC, unhide HW1, unhide HD1, unhide HQ1, unhide HW2, unhide HD2, unhide HQ2, Bool.true_and] at hcc
    rw [hcc] at mk
    exact mk
  go_wp2_with fail
  have mk := add7_spec s1 e1 s2 e2 s3 e3 s4 e4 w3 r1 r2 r3 r4 (unhide I1) (unhide I2) (unhide I3) (unhide I4)
  rw [unhide HW1, unhide HD1, unhide HQ1, unhide HW2, unhide HD2, unhide HQ2] at mk
  refine (mk).mono ?_
  rintro e w5 ⟨vA, vB, rfl, rA, rB, k5⟩
  replace r1 := r1.kept k5 (.inr (.inr (Nat.le_refl 0)))
  replace r2 := r2.kept k5 (.inr (.inr (Nat.le_refl 0)))
  replace r3 := r3.kept k5 (.inr (.inr (Nat.le_refl 0)))
  replace r4 := r4.kept k5 (.inr (.inr (Nat.le_refl 0)))
  replace Rf0 := k5.loose0 (World.block_lt_of_cell? _ _ R0) Rf0
  replace Rf1 := k5.loose0 (World.block_lt_of_cell? _ _ R1) Rf1
  replace Rf2 := k5.loose0 (World.block_lt_of_cell? _ _ R2) Rf2
  replace Rf3 := k5.loose0 (World.block_lt_of_cell? _ _ R3) Rf3
  replace Rf4 := k5.loose0 (World.block_lt_of_cell? _ _ R4) Rf4
  replace Rf5 := k5.loose0 (World.block_lt_of_cell? _ _ R5) Rf5
  replace bp0 := k5.cell0 bp0
  replace bp1 := k5.cell0 bp1
  replace bp2 := k5.cell0 bp2
  replace bp3 := k5.cell0 bp3
  replace bp4 := k5.cell0 bp4
  replace bp5 := k5.cell0 bp5
  replace bq0 := k5.cell0 bq0
  replace bq1 := k5.cell0 bq1
  replace bq2 := k5.cell0 bq2
  replace bq3 := k5.cell0 bq3
  replace bq4 := k5.cell0 bq4
  replace bq5 := k5.cell0 bq5
  replace R0 := k5.cell0 R0
  replace R1 := k5.cell0 R1
  replace R2 := k5.cell0 R2
  replace R3 := k5.cell0 R3
  replace R4 := k5.cell0 R4
  replace R5 := k5.cell0 R5
  replace K := hide ((unhide K).trans k5)
  have z6 := k5.size
  clear k5
  clear mk
  go_wp2_with fail
  refine (mkf _ _ _ _ _ rA rB).mono ?_
  rintro e w7 h5
  obtain ⟨q1, y1, M1, q2, y2, M2, vL, vM, rfl, rL, rM, k5, hq⟩ := ivS_open h5
  have HQ := hide hq
  clear hq h5
  replace r1 := r1.kept k5 (.inr (.inr (Nat.le_refl 0)))
  replace r2 := r2.kept k5 (.inr (.inr (Nat.le_refl 0)))
  replace r3 := r3.kept k5 (.inr (.inr (Nat.le_refl 0)))
  replace r4 := r4.kept k5 (.inr (.inr (Nat.le_refl 0)))
  replace rA := rA.kept k5 (.inr (.inr (Nat.le_refl 0)))
  replace rB := rB.kept k5 (.inr (.inr (Nat.le_refl 0)))
  replace Rf0 := k5.loose0 (World.block_lt_of_cell? _ _ R0) Rf0
  replace Rf1 := k5.loose0 (World.block_lt_of_cell? _ _ R1) Rf1
  replace Rf2 := k5.loose0 (World.block_lt_of_cell? _ _ R2) Rf2
  replace Rf3 := k5.loose0 (World.block_lt_of_cell? _ _ R3) Rf3
  replace Rf4 := k5.loose0 (World.block_lt_of_cell? _ _ R4) Rf4
  replace Rf5 := k5.loose0 (World.block_lt_of_cell? _ _ R5) Rf5
  replace bp0 := k5.cell0 bp0
  replace bp1 := k5.cell0 bp1
  replace bp2 := k5.cell0 bp2
  replace bp3 := k5.cell0 bp3
  replace bp4 := k5.cell0 bp4
  replace bp5 := k5.cell0 bp5
  replace bq0 := k5.cell0 bq0
  replace bq1 := k5.cell0 bq1
  replace bq2 := k5.cell0 bq2
  replace bq3 := k5.cell0 bq3
  replace bq4 := k5.cell0 bq4
  replace bq5 := k5.cell0 bq5
  replace R0 := k5.cell0 R0
  replace R1 := k5.cell0 R1
  replace R2 := k5.cell0 R2
  replace R3 := k5.cell0 R3
  replace R4 := k5.cell0 R4
  replace R5 := k5.cell0 R5
  replace K := hide ((unhide K).trans k5)
  have z8 := k5.size
  clear k5
  obtain ⟨aL, dL, hv⟩ := Row.form' rL
  subst hv
  obtain ⟨aM, dM, hv⟩ := Row.form' rM
  subst hv
  have RA := hide (((((((rL.set_other (p := ⟨w.heap.size + 2, 0, none⟩) (.inl (by have := unhide S0; dsimp only; omega)) (.bool q1)).set_other (p := ⟨w.heap.size + 2, 1, none⟩) (.inl (by have := unhide S0; dsimp only; omega)) (.slice aL M1.length dL)).set_other (p := ⟨w.heap.size + 2, 2, none⟩) (.inl (by have := unhide S0; dsimp only; omega)) (.int .i64 y1)).set_other (p := ⟨w.heap.size + 2, 3, none⟩) (.inl (by have := unhide S0; dsimp only; omega)) (.bool q2)).set_other (p := ⟨w.heap.size + 2, 4, none⟩) (.inl (by have := unhide S0; dsimp only; omega)) (.slice aM M2.length dM)).set_other (p := ⟨w.heap.size + 2, 5, none⟩) (.inl (by have := unhide S0; dsimp only; omega)) (.int .i64 y2)).tight.wider (lo' := w.heap.size) (by have := unhide S0; omega) (Nat.le_refl _))
  have RB := hide (((((((rM.set_other (p := ⟨w.heap.size + 2, 0, none⟩) (.inl (by have := unhide S0; dsimp only; omega)) (.bool q1)).set_other (p := ⟨w.heap.size + 2, 1, none⟩) (.inl (by have := unhide S0; dsimp only; omega)) (.slice aL M1.length dL)).set_other (p := ⟨w.heap.size + 2, 2, none⟩) (.inl (by have := unhide S0; dsimp only; omega)) (.int .i64 y1)).set_other (p := ⟨w.heap.size + 2, 3, none⟩) (.inl (by have := unhide S0; dsimp only; omega)) (.bool q2)).set_other (p := ⟨w.heap.size + 2, 4, none⟩) (.inl (by have := unhide S0; dsimp only; omega)) (.slice aM M2.length dM)).set_other (p := ⟨w.heap.size + 2, 5, none⟩) (.inl (by have := unhide S0; dsimp only; omega)) (.int .i64 y2)).tight.wider (lo' := w.heap.size) (by have := unhide S0; omega) (Nat.le_refl _))
  have K7 := hide (((((((unhide K).setNew (p := ⟨w.heap.size + 2, 0, none⟩) (by simp) (.bool q1)).setNew (p := ⟨w.heap.size + 2, 1, none⟩) (by simp) (.slice aL M1.length dL)).setNew (p := ⟨w.heap.size + 2, 2, none⟩) (by simp) (.int .i64 y1)).setNew (p := ⟨w.heap.size + 2, 3, none⟩) (by simp) (.bool q2)).setNew (p := ⟨w.heap.size + 2, 4, none⟩) (by simp) (.slice aM M2.length dM)).setNew (p := ⟨w.heap.size + 2, 5, none⟩) (by simp) (.int .i64 y2))
  clear r1 r2 r3 r4 rA rB rL rM K
  go_wp2_with fail
  exact bodyPost_ret (v := .tuple #[.agg #[.bool q1, .slice aL M1.length dL, .int .i64 y1, .bool q2, .slice aM M2.length dM, .int .i64 y2], .bool CC]) (by simp [results, Tryd.results17, go_sem, R0, R1, R2, R3, R4, R5]) rfl (ivS_shut (unhide HQ) (unhide RA) (unhide RB) (unhide K7))

theorem dif_sum {s1 s2 : Bool} {l1 l2 : List Int} {e1 e2 : Int} (o2 : dokB s2 l2 e2 = true) : wval s1 l1 * 2 ^ (e1 - min e1 e2).toNat + wval (wsg (-wval s2 l2)) (wlm (-wval s2 l2)) * 2 ^ (e2 - min e1 e2).toNat = wval s1 l1 * 2 ^ (e1 - min e1 e2).toNat - wval s2 l2 * 2 ^ (e2 - min e1 e2).toNat := by
  rw [(dok_neg o2).2, Int.neg_mul]; omega

set_option maxHeartbeats 4000000 in
theorem ivsub_spec {b1 b2 b3 b4 : Bool} {w1l w1h w2l w2h w3l w3h w4l w4h : Nat} {v1 v2 v3 v4 : Value} {l1 l2 l3 l4 : List Int} (s1 : Bool) (e1 : Int) (hu1 : e1 ≤ 9223372036854775807) (hd1 : -9223372036854775808 ≤ e1) (s2 : Bool) (e2 : Int) (hu2 : e2 ≤ 9223372036854775807) (hd2 : -9223372036854775808 ≤ e2) (s3 : Bool) (e3 : Int) (hu3 : e3 ≤ 9223372036854775807) (hd3 : -9223372036854775808 ≤ e3) (s4 : Bool) (e4 : Int) (hu4 : e4 ≤ 9223372036854775807) (hd4 : -9223372036854775808 ≤ e4) (w : World) (r1 : Row .i64 b1 w1l w1h w v1 l1) (r2 : Row .i64 b2 w2l w2h w v2 l2) (r3 : Row .i64 b3 w3l w3h w v3 l3) (r4 : Row .i64 b4 w4l w4h w v4 l4) :
    Calls Tryd.prog 20 #[.agg #[.bool s1, v1, .int .i64 e1, .bool s2, v2, .int .i64 e2], .agg #[.bool s3, v3, .int .i64 e3, .bool s4, v4, .int .i64 e4]] w fun e w' => IvAnsS (ivC (iokB s1 l1 e1 s2 l2 e2 && iokB s3 l3 e3 s4 l4 e4) (wval s1 l1 * 2 ^ (e1 - min e1 e4).toNat - wval s4 l4 * 2 ^ (e4 - min e1 e4).toNat) (min e1 e4) (wval s2 l2 * 2 ^ (e2 - min e2 e3).toNat - wval s3 l3 * 2 ^ (e3 - min e2 e3).toNat) (min e2 e3)) (wsg (wval s1 l1 * 2 ^ (e1 - min e1 e4).toNat - wval s4 l4 * 2 ^ (e4 - min e1 e4).toNat)) (dex (wval s1 l1 * 2 ^ (e1 - min e1 e4).toNat - wval s4 l4 * 2 ^ (e4 - min e1 e4).toNat) (min e1 e4)) (dlm (wval s1 l1 * 2 ^ (e1 - min e1 e4).toNat - wval s4 l4 * 2 ^ (e4 - min e1 e4).toNat)) (wsg (wval s2 l2 * 2 ^ (e2 - min e2 e3).toNat - wval s3 l3 * 2 ^ (e3 - min e2 e3).toNat)) (dex (wval s2 l2 * 2 ^ (e2 - min e2 e3).toNat - wval s3 l3 * 2 ^ (e3 - min e2 e3).toNat) (min e2 e3)) (dlm (wval s2 l2 * 2 ^ (e2 - min e2 e3).toNat - wval s3 l3 * 2 ^ (e3 - min e2 e3).toNat)) w e w' := by
  replace r1 := r1.tight
  replace r2 := r2.tight
  replace r3 := r3.tight
  replace r4 := r4.tight
  obtain ⟨CC, hCC⟩ : ∃ c, ivC (iokB s1 l1 e1 s2 l2 e2 && iokB s3 l3 e3 s4 l4 e4) (wval s1 l1 * 2 ^ (e1 - min e1 e4).toNat - wval s4 l4 * 2 ^ (e4 - min e1 e4).toNat) (min e1 e4) (wval s2 l2 * 2 ^ (e2 - min e2 e3).toNat - wval s3 l3 * 2 ^ (e3 - min e2 e3).toNat) (min e2 e3) = c := ⟨_, rfl⟩
  rw [hCC]
  have HCC := hide hCC
  clear hCC
  obtain ⟨W1, hW1⟩ : ∃ c, wsg (wval s1 l1 * 2 ^ (e1 - min e1 e4).toNat - wval s4 l4 * 2 ^ (e4 - min e1 e4).toNat) = c := ⟨_, rfl⟩
  obtain ⟨D1, hD1⟩ : ∃ c, dex (wval s1 l1 * 2 ^ (e1 - min e1 e4).toNat - wval s4 l4 * 2 ^ (e4 - min e1 e4).toNat) (min e1 e4) = c := ⟨_, rfl⟩
  obtain ⟨Q1, hQ1⟩ : ∃ c, dlm (wval s1 l1 * 2 ^ (e1 - min e1 e4).toNat - wval s4 l4 * 2 ^ (e4 - min e1 e4).toNat) = c := ⟨_, rfl⟩
  obtain ⟨W2, hW2⟩ : ∃ c, wsg (wval s2 l2 * 2 ^ (e2 - min e2 e3).toNat - wval s3 l3 * 2 ^ (e3 - min e2 e3).toNat) = c := ⟨_, rfl⟩
  obtain ⟨D2, hD2⟩ : ∃ c, dex (wval s2 l2 * 2 ^ (e2 - min e2 e3).toNat - wval s3 l3 * 2 ^ (e3 - min e2 e3).toNat) (min e2 e3) = c := ⟨_, rfl⟩
  obtain ⟨Q2, hQ2⟩ : ∃ c, dlm (wval s2 l2 * 2 ^ (e2 - min e2 e3).toNat - wval s3 l3 * 2 ^ (e3 - min e2 e3).toNat) = c := ⟨_, rfl⟩
  try rw [hW1]
  try rw [hD1]
  try rw [hQ1]
  try rw [hW2]
  try rw [hD2]
  try rw [hQ2]
  have HW1 := hide hW1
  clear hW1
  have HD1 := hide hD1
  clear hD1
  have HQ1 := hide hQ1
  clear hQ1
  have HW2 := hide hW2
  clear hW2
  have HD2 := hide hD2
  clear hD2
  have HQ2 := hide hQ2
  clear hQ2
  have k0 : Kept 0 0 w (((w.alloc (.cells #[.bool s1, v1, .int .i64 e1, .bool s2, v2, .int .i64 e2] 36)).alloc (.cells #[.bool s3, v3, .int .i64 e3, .bool s4, v4, .int .i64 e4] 36)).alloc (.cells #[.bool false, .slice none 0 0, .int .i64 0, .bool false, .slice none 0 0, .int .i64 0] 36)) := ((((Kept.refl 0 0 w).alloc (.cells #[.bool s1, v1, .int .i64 e1, .bool s2, v2, .int .i64 e2] 36)).alloc (.cells #[.bool s3, v3, .int .i64 e3, .bool s4, v4, .int .i64 e4] 36)).alloc (.cells #[.bool false, .slice none 0 0, .int .i64 0, .bool false, .slice none 0 0, .int .i64 0] 36))
  have bp0 : (((w.alloc (.cells #[.bool s1, v1, .int .i64 e1, .bool s2, v2, .int .i64 e2] 36)).alloc (.cells #[.bool s3, v3, .int .i64 e3, .bool s4, v4, .int .i64 e4] 36)).alloc (.cells #[.bool false, .slice none 0 0, .int .i64 0, .bool false, .slice none 0 0, .int .i64 0] 36)).cell? ⟨w.heap.size, 0, none⟩ = some (.bool s1) := old_cell _ (old_cell _ (new_cell2 _ _ _ _ _ _ (by simp) rfl))
  have bp1 : (((w.alloc (.cells #[.bool s1, v1, .int .i64 e1, .bool s2, v2, .int .i64 e2] 36)).alloc (.cells #[.bool s3, v3, .int .i64 e3, .bool s4, v4, .int .i64 e4] 36)).alloc (.cells #[.bool false, .slice none 0 0, .int .i64 0, .bool false, .slice none 0 0, .int .i64 0] 36)).cell? ⟨w.heap.size, 1, none⟩ = some (v1) := old_cell _ (old_cell _ (new_cell2 _ _ _ _ _ _ (by simp) rfl))
  have bp2 : (((w.alloc (.cells #[.bool s1, v1, .int .i64 e1, .bool s2, v2, .int .i64 e2] 36)).alloc (.cells #[.bool s3, v3, .int .i64 e3, .bool s4, v4, .int .i64 e4] 36)).alloc (.cells #[.bool false, .slice none 0 0, .int .i64 0, .bool false, .slice none 0 0, .int .i64 0] 36)).cell? ⟨w.heap.size, 2, none⟩ = some (.int .i64 e1) := old_cell _ (old_cell _ (new_cell2 _ _ _ _ _ _ (by simp) rfl))
  have bp3 : (((w.alloc (.cells #[.bool s1, v1, .int .i64 e1, .bool s2, v2, .int .i64 e2] 36)).alloc (.cells #[.bool s3, v3, .int .i64 e3, .bool s4, v4, .int .i64 e4] 36)).alloc (.cells #[.bool false, .slice none 0 0, .int .i64 0, .bool false, .slice none 0 0, .int .i64 0] 36)).cell? ⟨w.heap.size, 3, none⟩ = some (.bool s2) := old_cell _ (old_cell _ (new_cell2 _ _ _ _ _ _ (by simp) rfl))
  have bp4 : (((w.alloc (.cells #[.bool s1, v1, .int .i64 e1, .bool s2, v2, .int .i64 e2] 36)).alloc (.cells #[.bool s3, v3, .int .i64 e3, .bool s4, v4, .int .i64 e4] 36)).alloc (.cells #[.bool false, .slice none 0 0, .int .i64 0, .bool false, .slice none 0 0, .int .i64 0] 36)).cell? ⟨w.heap.size, 4, none⟩ = some (v2) := old_cell _ (old_cell _ (new_cell2 _ _ _ _ _ _ (by simp) rfl))
  have bp5 : (((w.alloc (.cells #[.bool s1, v1, .int .i64 e1, .bool s2, v2, .int .i64 e2] 36)).alloc (.cells #[.bool s3, v3, .int .i64 e3, .bool s4, v4, .int .i64 e4] 36)).alloc (.cells #[.bool false, .slice none 0 0, .int .i64 0, .bool false, .slice none 0 0, .int .i64 0] 36)).cell? ⟨w.heap.size, 5, none⟩ = some (.int .i64 e2) := old_cell _ (old_cell _ (new_cell2 _ _ _ _ _ _ (by simp) rfl))
  have bq0 : (((w.alloc (.cells #[.bool s1, v1, .int .i64 e1, .bool s2, v2, .int .i64 e2] 36)).alloc (.cells #[.bool s3, v3, .int .i64 e3, .bool s4, v4, .int .i64 e4] 36)).alloc (.cells #[.bool false, .slice none 0 0, .int .i64 0, .bool false, .slice none 0 0, .int .i64 0] 36)).cell? ⟨w.heap.size + 1, 0, none⟩ = some (.bool s3) := old_cell _ (new_cell2 _ _ _ _ _ _ (by simp) rfl)
  have bq1 : (((w.alloc (.cells #[.bool s1, v1, .int .i64 e1, .bool s2, v2, .int .i64 e2] 36)).alloc (.cells #[.bool s3, v3, .int .i64 e3, .bool s4, v4, .int .i64 e4] 36)).alloc (.cells #[.bool false, .slice none 0 0, .int .i64 0, .bool false, .slice none 0 0, .int .i64 0] 36)).cell? ⟨w.heap.size + 1, 1, none⟩ = some (v3) := old_cell _ (new_cell2 _ _ _ _ _ _ (by simp) rfl)
  have bq2 : (((w.alloc (.cells #[.bool s1, v1, .int .i64 e1, .bool s2, v2, .int .i64 e2] 36)).alloc (.cells #[.bool s3, v3, .int .i64 e3, .bool s4, v4, .int .i64 e4] 36)).alloc (.cells #[.bool false, .slice none 0 0, .int .i64 0, .bool false, .slice none 0 0, .int .i64 0] 36)).cell? ⟨w.heap.size + 1, 2, none⟩ = some (.int .i64 e3) := old_cell _ (new_cell2 _ _ _ _ _ _ (by simp) rfl)
  have bq3 : (((w.alloc (.cells #[.bool s1, v1, .int .i64 e1, .bool s2, v2, .int .i64 e2] 36)).alloc (.cells #[.bool s3, v3, .int .i64 e3, .bool s4, v4, .int .i64 e4] 36)).alloc (.cells #[.bool false, .slice none 0 0, .int .i64 0, .bool false, .slice none 0 0, .int .i64 0] 36)).cell? ⟨w.heap.size + 1, 3, none⟩ = some (.bool s4) := old_cell _ (new_cell2 _ _ _ _ _ _ (by simp) rfl)
  have bq4 : (((w.alloc (.cells #[.bool s1, v1, .int .i64 e1, .bool s2, v2, .int .i64 e2] 36)).alloc (.cells #[.bool s3, v3, .int .i64 e3, .bool s4, v4, .int .i64 e4] 36)).alloc (.cells #[.bool false, .slice none 0 0, .int .i64 0, .bool false, .slice none 0 0, .int .i64 0] 36)).cell? ⟨w.heap.size + 1, 4, none⟩ = some (v4) := old_cell _ (new_cell2 _ _ _ _ _ _ (by simp) rfl)
  have bq5 : (((w.alloc (.cells #[.bool s1, v1, .int .i64 e1, .bool s2, v2, .int .i64 e2] 36)).alloc (.cells #[.bool s3, v3, .int .i64 e3, .bool s4, v4, .int .i64 e4] 36)).alloc (.cells #[.bool false, .slice none 0 0, .int .i64 0, .bool false, .slice none 0 0, .int .i64 0] 36)).cell? ⟨w.heap.size + 1, 5, none⟩ = some (.int .i64 e4) := old_cell _ (new_cell2 _ _ _ _ _ _ (by simp) rfl)
  have R0 : (((w.alloc (.cells #[.bool s1, v1, .int .i64 e1, .bool s2, v2, .int .i64 e2] 36)).alloc (.cells #[.bool s3, v3, .int .i64 e3, .bool s4, v4, .int .i64 e4] 36)).alloc (.cells #[.bool false, .slice none 0 0, .int .i64 0, .bool false, .slice none 0 0, .int .i64 0] 36)).cell? ⟨w.heap.size + 2, 0, none⟩ = some (.bool false) := new_cell2 _ _ _ _ _ _ (by simp) rfl
  have Rf0 : (((w.alloc (.cells #[.bool s1, v1, .int .i64 e1, .bool s2, v2, .int .i64 e2] 36)).alloc (.cells #[.bool s3, v3, .int .i64 e3, .bool s4, v4, .int .i64 e4] 36)).alloc (.cells #[.bool false, .slice none 0 0, .int .i64 0, .bool false, .slice none 0 0, .int .i64 0] 36)).frozen? ⟨w.heap.size + 2, 0, none⟩ = false := new_loose2 _ _ _ _ _ (by simp)
  have R1 : (((w.alloc (.cells #[.bool s1, v1, .int .i64 e1, .bool s2, v2, .int .i64 e2] 36)).alloc (.cells #[.bool s3, v3, .int .i64 e3, .bool s4, v4, .int .i64 e4] 36)).alloc (.cells #[.bool false, .slice none 0 0, .int .i64 0, .bool false, .slice none 0 0, .int .i64 0] 36)).cell? ⟨w.heap.size + 2, 1, none⟩ = some (.slice none 0 0) := new_cell2 _ _ _ _ _ _ (by simp) rfl
  have Rf1 : (((w.alloc (.cells #[.bool s1, v1, .int .i64 e1, .bool s2, v2, .int .i64 e2] 36)).alloc (.cells #[.bool s3, v3, .int .i64 e3, .bool s4, v4, .int .i64 e4] 36)).alloc (.cells #[.bool false, .slice none 0 0, .int .i64 0, .bool false, .slice none 0 0, .int .i64 0] 36)).frozen? ⟨w.heap.size + 2, 1, none⟩ = false := new_loose2 _ _ _ _ _ (by simp)
  have R2 : (((w.alloc (.cells #[.bool s1, v1, .int .i64 e1, .bool s2, v2, .int .i64 e2] 36)).alloc (.cells #[.bool s3, v3, .int .i64 e3, .bool s4, v4, .int .i64 e4] 36)).alloc (.cells #[.bool false, .slice none 0 0, .int .i64 0, .bool false, .slice none 0 0, .int .i64 0] 36)).cell? ⟨w.heap.size + 2, 2, none⟩ = some (.int .i64 0) := new_cell2 _ _ _ _ _ _ (by simp) rfl
  have Rf2 : (((w.alloc (.cells #[.bool s1, v1, .int .i64 e1, .bool s2, v2, .int .i64 e2] 36)).alloc (.cells #[.bool s3, v3, .int .i64 e3, .bool s4, v4, .int .i64 e4] 36)).alloc (.cells #[.bool false, .slice none 0 0, .int .i64 0, .bool false, .slice none 0 0, .int .i64 0] 36)).frozen? ⟨w.heap.size + 2, 2, none⟩ = false := new_loose2 _ _ _ _ _ (by simp)
  have R3 : (((w.alloc (.cells #[.bool s1, v1, .int .i64 e1, .bool s2, v2, .int .i64 e2] 36)).alloc (.cells #[.bool s3, v3, .int .i64 e3, .bool s4, v4, .int .i64 e4] 36)).alloc (.cells #[.bool false, .slice none 0 0, .int .i64 0, .bool false, .slice none 0 0, .int .i64 0] 36)).cell? ⟨w.heap.size + 2, 3, none⟩ = some (.bool false) := new_cell2 _ _ _ _ _ _ (by simp) rfl
  have Rf3 : (((w.alloc (.cells #[.bool s1, v1, .int .i64 e1, .bool s2, v2, .int .i64 e2] 36)).alloc (.cells #[.bool s3, v3, .int .i64 e3, .bool s4, v4, .int .i64 e4] 36)).alloc (.cells #[.bool false, .slice none 0 0, .int .i64 0, .bool false, .slice none 0 0, .int .i64 0] 36)).frozen? ⟨w.heap.size + 2, 3, none⟩ = false := new_loose2 _ _ _ _ _ (by simp)
  have R4 : (((w.alloc (.cells #[.bool s1, v1, .int .i64 e1, .bool s2, v2, .int .i64 e2] 36)).alloc (.cells #[.bool s3, v3, .int .i64 e3, .bool s4, v4, .int .i64 e4] 36)).alloc (.cells #[.bool false, .slice none 0 0, .int .i64 0, .bool false, .slice none 0 0, .int .i64 0] 36)).cell? ⟨w.heap.size + 2, 4, none⟩ = some (.slice none 0 0) := new_cell2 _ _ _ _ _ _ (by simp) rfl
  have Rf4 : (((w.alloc (.cells #[.bool s1, v1, .int .i64 e1, .bool s2, v2, .int .i64 e2] 36)).alloc (.cells #[.bool s3, v3, .int .i64 e3, .bool s4, v4, .int .i64 e4] 36)).alloc (.cells #[.bool false, .slice none 0 0, .int .i64 0, .bool false, .slice none 0 0, .int .i64 0] 36)).frozen? ⟨w.heap.size + 2, 4, none⟩ = false := new_loose2 _ _ _ _ _ (by simp)
  have R5 : (((w.alloc (.cells #[.bool s1, v1, .int .i64 e1, .bool s2, v2, .int .i64 e2] 36)).alloc (.cells #[.bool s3, v3, .int .i64 e3, .bool s4, v4, .int .i64 e4] 36)).alloc (.cells #[.bool false, .slice none 0 0, .int .i64 0, .bool false, .slice none 0 0, .int .i64 0] 36)).cell? ⟨w.heap.size + 2, 5, none⟩ = some (.int .i64 0) := new_cell2 _ _ _ _ _ _ (by simp) rfl
  have Rf5 : (((w.alloc (.cells #[.bool s1, v1, .int .i64 e1, .bool s2, v2, .int .i64 e2] 36)).alloc (.cells #[.bool s3, v3, .int .i64 e3, .bool s4, v4, .int .i64 e4] 36)).alloc (.cells #[.bool false, .slice none 0 0, .int .i64 0, .bool false, .slice none 0 0, .int .i64 0] 36)).frozen? ⟨w.heap.size + 2, 5, none⟩ = false := new_loose2 _ _ _ _ _ (by simp)
  replace r1 := r1.kept k0 (by omega)
  replace r2 := r2.kept k0 (by omega)
  replace r3 := r3.kept k0 (by omega)
  replace r4 := r4.kept k0 (by omega)
  have s0 : (((w.alloc (.cells #[.bool s1, v1, .int .i64 e1, .bool s2, v2, .int .i64 e2] 36)).alloc (.cells #[.bool s3, v3, .int .i64 e3, .bool s4, v4, .int .i64 e4] 36)).alloc (.cells #[.bool false, .slice none 0 0, .int .i64 0, .bool false, .slice none 0 0, .int .i64 0] 36)).heap.size = w.heap.size + 3 := by simp
  obtain ⟨a1, c1, hv⟩ := Row.form' r1
  subst hv
  obtain ⟨a2, c2, hv⟩ := Row.form' r2
  subst hv
  obtain ⟨a3, c3, hv⟩ := Row.form' r3
  subst hv
  obtain ⟨a4, c4, hv⟩ := Row.form' r4
  subst hv
  have K := hide (k0)
  clear k0
  have S0 := hide s0
  clear s0
  go_enter Tryd.func20, Tryd.ntmps20
  go_wp2_with fail
  generalize (((w.alloc (.cells #[.bool s1, .slice a1 l1.length c1, .int .i64 e1, .bool s2, .slice a2 l2.length c2, .int .i64 e2] 36)).alloc (.cells #[.bool s3, .slice a3 l3.length c3, .int .i64 e3, .bool s4, .slice a4 l4.length c4, .int .i64 e4] 36)).alloc (.cells #[.bool false, .slice none 0 0, .int .i64 0, .bool false, .slice none 0 0, .int .i64 0] 36)) = W at *
  refine (ivok_spec s1 e1 hu1 hd1 s2 e2 hu2 hd2 _ r1 r2).mono ?_
  rintro e w1 ⟨rfl, k1⟩
  replace r1 := r1.kept k1 (.inr (.inr (Nat.le_refl 0)))
  replace r2 := r2.kept k1 (.inr (.inr (Nat.le_refl 0)))
  replace r3 := r3.kept k1 (.inr (.inr (Nat.le_refl 0)))
  replace r4 := r4.kept k1 (.inr (.inr (Nat.le_refl 0)))
  replace Rf0 := k1.loose0 (World.block_lt_of_cell? _ _ R0) Rf0
  replace Rf1 := k1.loose0 (World.block_lt_of_cell? _ _ R1) Rf1
  replace Rf2 := k1.loose0 (World.block_lt_of_cell? _ _ R2) Rf2
  replace Rf3 := k1.loose0 (World.block_lt_of_cell? _ _ R3) Rf3
  replace Rf4 := k1.loose0 (World.block_lt_of_cell? _ _ R4) Rf4
  replace Rf5 := k1.loose0 (World.block_lt_of_cell? _ _ R5) Rf5
  replace bp0 := k1.cell0 bp0
  replace bp1 := k1.cell0 bp1
  replace bp2 := k1.cell0 bp2
  replace bp3 := k1.cell0 bp3
  replace bp4 := k1.cell0 bp4
  replace bp5 := k1.cell0 bp5
  replace bq0 := k1.cell0 bq0
  replace bq1 := k1.cell0 bq1
  replace bq2 := k1.cell0 bq2
  replace bq3 := k1.cell0 bq3
  replace bq4 := k1.cell0 bq4
  replace bq5 := k1.cell0 bq5
  replace R0 := k1.cell0 R0
  replace R1 := k1.cell0 R1
  replace R2 := k1.cell0 R2
  replace R3 := k1.cell0 R3
  replace R4 := k1.cell0 R4
  replace R5 := k1.cell0 R5
  replace K := hide ((unhide K).trans k1)
  have z2 := k1.size
  clear k1
  cases ho : iokB s1 l1 e1 s2 l2 e2
  · have EC : Hid (CC = false) := by show _ = _; rw [← unhide HCC]; exact ivC_no (by rw [ho]; rfl)
    have K7 := hide (((((((unhide K).setNew (p := ⟨w.heap.size + 2, 0, none⟩) (by simp) (.bool false)).setNew (p := ⟨w.heap.size + 2, 1, none⟩) (by simp) (.slice none 0 0)).setNew (p := ⟨w.heap.size + 2, 2, none⟩) (by simp) (.int .i64 0)).setNew (p := ⟨w.heap.size + 2, 3, none⟩) (by simp) (.bool false)).setNew (p := ⟨w.heap.size + 2, 4, none⟩) (by simp) (.slice none 0 0)).setNew (p := ⟨w.heap.size + 2, 5, none⟩) (by simp) (.int .i64 0))
    clear r1 r2 r3 r4 K
    go_wp2_with fail
    exact bodyPost_ret (v := .tuple #[.agg #[.bool false, .slice none 0 0, .int .i64 0, .bool false, .slice none 0 0, .int .i64 0], .bool false]) (by simp [results, Tryd.results20, go_sem, R0, R1, R2, R3, R4, R5]) rfl (by rw [unhide EC]; exact ivS_no (unhide K7))
  obtain ⟨i1, i2, -⟩ := iok_parts ho
  have I1 := hide i1
  have I2 := hide i2
  have HO := hide ho
  clear ho i1 i2
  go_wp2_with fail
  refine (ivok_spec s3 e3 hu3 hd3 s4 e4 hu4 hd4 _ r3 r4).mono ?_
  rintro e w3 ⟨rfl, k3⟩
  replace r1 := r1.kept k3 (.inr (.inr (Nat.le_refl 0)))
  replace r2 := r2.kept k3 (.inr (.inr (Nat.le_refl 0)))
  replace r3 := r3.kept k3 (.inr (.inr (Nat.le_refl 0)))
  replace r4 := r4.kept k3 (.inr (.inr (Nat.le_refl 0)))
  replace Rf0 := k3.loose0 (World.block_lt_of_cell? _ _ R0) Rf0
  replace Rf1 := k3.loose0 (World.block_lt_of_cell? _ _ R1) Rf1
  replace Rf2 := k3.loose0 (World.block_lt_of_cell? _ _ R2) Rf2
  replace Rf3 := k3.loose0 (World.block_lt_of_cell? _ _ R3) Rf3
  replace Rf4 := k3.loose0 (World.block_lt_of_cell? _ _ R4) Rf4
  replace Rf5 := k3.loose0 (World.block_lt_of_cell? _ _ R5) Rf5
  replace bp0 := k3.cell0 bp0
  replace bp1 := k3.cell0 bp1
  replace bp2 := k3.cell0 bp2
  replace bp3 := k3.cell0 bp3
  replace bp4 := k3.cell0 bp4
  replace bp5 := k3.cell0 bp5
  replace bq0 := k3.cell0 bq0
  replace bq1 := k3.cell0 bq1
  replace bq2 := k3.cell0 bq2
  replace bq3 := k3.cell0 bq3
  replace bq4 := k3.cell0 bq4
  replace bq5 := k3.cell0 bq5
  replace R0 := k3.cell0 R0
  replace R1 := k3.cell0 R1
  replace R2 := k3.cell0 R2
  replace R3 := k3.cell0 R3
  replace R4 := k3.cell0 R4
  replace R5 := k3.cell0 R5
  replace K := hide ((unhide K).trans k3)
  have z4 := k3.size
  clear k3
  cases ho : iokB s3 l3 e3 s4 l4 e4
  · have EC : Hid (CC = false) := by show _ = _; rw [← unhide HCC]; exact ivC_no (by rw [ho, unhide HO]; rfl)
    have K7 := hide (((((((unhide K).setNew (p := ⟨w.heap.size + 2, 0, none⟩) (by simp) (.bool false)).setNew (p := ⟨w.heap.size + 2, 1, none⟩) (by simp) (.slice none 0 0)).setNew (p := ⟨w.heap.size + 2, 2, none⟩) (by simp) (.int .i64 0)).setNew (p := ⟨w.heap.size + 2, 3, none⟩) (by simp) (.bool false)).setNew (p := ⟨w.heap.size + 2, 4, none⟩) (by simp) (.slice none 0 0)).setNew (p := ⟨w.heap.size + 2, 5, none⟩) (by simp) (.int .i64 0))
    clear r1 r2 r3 r4 K
    go_wp2_with fail
    exact bodyPost_ret (v := .tuple #[.agg #[.bool false, .slice none 0 0, .int .i64 0, .bool false, .slice none 0 0, .int .i64 0], .bool false]) (by simp [results, Tryd.results20, go_sem, R0, R1, R2, R3, R4, R5]) rfl (by rw [unhide EC]; exact ivS_no (unhide K7))
  obtain ⟨i3, i4, -⟩ := iok_parts ho
  have I3 := hide i3
  have I4 := hide i4
  have HC : Hid ((iokB s1 l1 e1 s2 l2 e2 && iokB s3 l3 e3 s4 l4 e4) = true) := by show _ = _; rw [ho, unhide HO]; rfl
  clear ho i3 i4
  have mkf : ∀ w' vA vB lo' hi', Row .i64 true lo' hi' w' vA Q1 → Row .i64 true lo' hi' w' vB Q2 → Calls Tryd.prog 27 #[.agg #[.bool W1, vA, .int .i64 D1, .bool W2, vB, .int .i64 D2]] w' fun e w'' => IvAnsS CC W1 D1 Q1 W2 D2 Q2 w' e w'' := fun w' vA vB lo' hi' rA' rB' => by
    have rg1 := dif_sum (unhide I4) ▸ sum_rg (unhide I1) (dok_neg (unhide I4)).1
    have rg2 := dif_sum (unhide I3) ▸ sum_rg (unhide I2) (dok_neg (unhide I3)).1
    rw [unhide HD1] at rg1
    rw [unhide HD2] at rg2
    have mk := fits7_spec W1 D1 rg1.1 rg1.2 W2 D2 rg2.1 rg2.2 w' rA' rB'
    have hcc := unhide HCC
    unfold ivC at hcc
    rw [unhide HC, unhide HW1, unhide HD1, unhide HQ1, unhide HW2, unhide HD2, unhide HQ2, Bool.true_and] at hcc
    rw [hcc] at mk
    exact mk
  have mkn := fun w' r' r'' => neg7_spec (b1 := b3) (w1l := w3l) (w1h := w.heap.size) (b2 := b4) (w2l := w4l) (w2h := w.heap.size) (v1 := .slice a3 l3.length c3) (v2 := .slice a4 l4.length c4) (l1 := l3) (l2 := l4) s3 e3 s4 e4 w' r' r'' (unhide I3) (unhide I4)
  have mka := fun w' v3' v4' lo' hi' r1' r2' r3' r4' => add7_spec (b1 := b1) (w1l := w1l) (w1h := w.heap.size) (b2 := b2) (w2l := w2l) (w2h := w.heap.size) (b3 := true) (w3l := lo') (w3h := hi') (b4 := true) (w4l := lo') (w4h := hi') (v1 := .slice a1 l1.length c1) (v2 := .slice a2 l2.length c2) (v3 := v3') (v4 := v4') (l1 := l1) (l2 := l2) s1 e1 s2 e2 (wsg (-wval s4 l4)) e4 (wsg (-wval s3 l3)) e3 w' r1' r2' r3' r4' (unhide I1) (unhide I2) (dok_neg (unhide I4)).1 (dok_neg (unhide I3)).1
  simp only [dif_sum (unhide I4), dif_sum (unhide I3), unhide HW1, unhide HD1, unhide HQ1, unhide HW2, unhide HD2, unhide HQ2] at mka
  generalize wlm (-wval s4 l4) = y4 at *
  generalize wsg (-wval s4 l4) = g4 at *
  generalize wlm (-wval s3 l3) = y3 at *
  generalize wsg (-wval s3 l3) = g3 at *
  go_wp2_with fail
  have kd := (Kept.refl 0 0 w3).drew
  replace r1 := r1.kept kd (.inr (.inr (Nat.le_refl 0)))
  replace r2 := r2.kept kd (.inr (.inr (Nat.le_refl 0)))
  replace r3 := r3.kept kd (.inr (.inr (Nat.le_refl 0)))
  replace r4 := r4.kept kd (.inr (.inr (Nat.le_refl 0)))
  replace Rf0 := kd.loose0 (World.block_lt_of_cell? _ _ R0) Rf0
  replace Rf1 := kd.loose0 (World.block_lt_of_cell? _ _ R1) Rf1
  replace Rf2 := kd.loose0 (World.block_lt_of_cell? _ _ R2) Rf2
  replace Rf3 := kd.loose0 (World.block_lt_of_cell? _ _ R3) Rf3
  replace Rf4 := kd.loose0 (World.block_lt_of_cell? _ _ R4) Rf4
  replace Rf5 := kd.loose0 (World.block_lt_of_cell? _ _ R5) Rf5
  replace bp0 := kd.cell0 bp0
  replace bp1 := kd.cell0 bp1
  replace bp2 := kd.cell0 bp2
  replace bp3 := kd.cell0 bp3
  replace bp4 := kd.cell0 bp4
  replace bp5 := kd.cell0 bp5
  replace bq0 := kd.cell0 bq0
  replace bq1 := kd.cell0 bq1
  replace bq2 := kd.cell0 bq2
  replace bq3 := kd.cell0 bq3
  replace bq4 := kd.cell0 bq4
  replace bq5 := kd.cell0 bq5
  replace R0 := kd.cell0 R0
  replace R1 := kd.cell0 R1
  replace R2 := kd.cell0 R2
  replace R3 := kd.cell0 R3
  replace R4 := kd.cell0 R4
  replace R5 := kd.cell0 R5
  replace K := hide ((unhide K).trans kd)
  have z5 := kd.size
  clear kd
  refine wp_region_held_drew (S := (fun w' => w'.cell? ⟨w.heap.size, 0, none⟩ = some (.bool s1) ∧ w'.cell? ⟨w.heap.size, 1, none⟩ = some (.slice a1 l1.length c1) ∧ w'.cell? ⟨w.heap.size, 2, none⟩ = some (.int .i64 e1) ∧ w'.cell? ⟨w.heap.size, 3, none⟩ = some (.bool s2) ∧ w'.cell? ⟨w.heap.size, 4, none⟩ = some (.slice a2 l2.length c2) ∧ w'.cell? ⟨w.heap.size, 5, none⟩ = some (.int .i64 e2) ∧ w'.cell? ⟨w.heap.size + 1, 0, none⟩ = some (.bool s3) ∧ w'.cell? ⟨w.heap.size + 1, 1, none⟩ = some (.slice a3 l3.length c3) ∧ w'.cell? ⟨w.heap.size + 1, 2, none⟩ = some (.int .i64 e3) ∧ w'.cell? ⟨w.heap.size + 1, 3, none⟩ = some (.bool s4) ∧ w'.cell? ⟨w.heap.size + 1, 4, none⟩ = some (.slice a4 l4.length c4) ∧ w'.cell? ⟨w.heap.size + 1, 5, none⟩ = some (.int .i64 e4))) (by kernel_rfl) ?_ (fun hHeld => ?_)
  · exact ⟨bp0, bp1, bp2, bp3, bp4, bp5, bq0, bq1, bq2, bq3, bq4, bq5⟩
  refine wpAnyH_take (i := 0) (oi := _) (v := .agg #[.bool s1, .slice a1 l1.length c1, .int .i64 e1, .bool s2, .slice a2 l2.length c2, .int .i64 e2]) rfl (by kernel_rfl) (by kernel_rfl) (by kernel_rfl) (fun _ _ _ h => h) (Or.inl ⟨by rfl, ?_⟩) hHeld ?_
  · intro wq hSw
    try dsimp only at hSw
    go_simp
  try simp only [Act.put, List.getElem_toArray, List.getElem_cons_succ, List.getElem_cons_zero, List.setIfInBounds_toArray, List.set_cons_zero, List.set_cons_succ]
  refine wpAnyH_take (i := 1) (oi := _) (v := .agg #[.bool s3, .slice a3 l3.length c3, .int .i64 e3, .bool s4, .slice a4 l4.length c4, .int .i64 e4]) rfl (by kernel_rfl) (by kernel_rfl) (by kernel_rfl) (fun _ _ _ h => h) (Or.inl ⟨by rfl, ?_⟩) hHeld ?_
  · intro wq hSw
    try dsimp only at hSw
    go_simp
  try simp only [Act.put, List.getElem_toArray, List.getElem_cons_succ, List.getElem_cons_zero, List.setIfInBounds_toArray, List.set_cons_zero, List.set_cons_succ]
  refine wpAnyH_ready (rs := [2]) (by kernel_rfl) (by simp) ?_
  refine AllReadyH.cons rfl (fun KK hK => ?_) AllReadyH.nil
  simp only [List.getElem_toArray, List.getElem_cons_succ, List.getElem_cons_zero]
  rw [if_pos (by rfl)]
  refine wps1 40 (.tmp 16) _ rfl in_l7neg (.agg #[.bool s3, .slice a3 l3.length c3, .int .i64 e3, .bool s4, .slice a4 l4.length c4, .int .i64 e4]) rfl (mkn _ r3 r4) ?_
  rintro e w6 ⟨vN, vO, rfl, rN, rO, k6⟩
  refine ⟨_, rfl, ?_⟩
  replace r1 := r1.kept k6 (.inr (.inr (Nat.le_refl 0)))
  replace r2 := r2.kept k6 (.inr (.inr (Nat.le_refl 0)))
  replace r3 := r3.kept k6 (.inr (.inr (Nat.le_refl 0)))
  replace r4 := r4.kept k6 (.inr (.inr (Nat.le_refl 0)))
  replace Rf0 := k6.loose0 (World.block_lt_of_cell? _ _ R0) Rf0
  replace Rf1 := k6.loose0 (World.block_lt_of_cell? _ _ R1) Rf1
  replace Rf2 := k6.loose0 (World.block_lt_of_cell? _ _ R2) Rf2
  replace Rf3 := k6.loose0 (World.block_lt_of_cell? _ _ R3) Rf3
  replace Rf4 := k6.loose0 (World.block_lt_of_cell? _ _ R4) Rf4
  replace Rf5 := k6.loose0 (World.block_lt_of_cell? _ _ R5) Rf5
  replace bp0 := k6.cell0 bp0
  replace bp1 := k6.cell0 bp1
  replace bp2 := k6.cell0 bp2
  replace bp3 := k6.cell0 bp3
  replace bp4 := k6.cell0 bp4
  replace bp5 := k6.cell0 bp5
  replace bq0 := k6.cell0 bq0
  replace bq1 := k6.cell0 bq1
  replace bq2 := k6.cell0 bq2
  replace bq3 := k6.cell0 bq3
  replace bq4 := k6.cell0 bq4
  replace bq5 := k6.cell0 bq5
  replace R0 := k6.cell0 R0
  replace R1 := k6.cell0 R1
  replace R2 := k6.cell0 R2
  replace R3 := k6.cell0 R3
  replace R4 := k6.cell0 R4
  replace R5 := k6.cell0 R5
  replace K := hide ((unhide K).trans k6)
  have z7 := k6.size
  clear k6
  clear hHeld
  refine hK.out _ _ ?_ (fun hHeld => ?_)
  · exact ⟨bp0, bp1, bp2, bp3, bp4, bp5, bq0, bq1, bq2, bq3, bq4, bq5⟩
  clear hK KK
  try simp only [Act.put, List.getElem_toArray, List.getElem_cons_succ, List.getElem_cons_zero, List.setIfInBounds_toArray, List.set_cons_zero, List.set_cons_succ]
  refine wpAnyH_ready (rs := [3]) (by kernel_rfl) (by simp) ?_
  refine AllReadyH.cons rfl (fun KK hK => ?_) AllReadyH.nil
  simp only [List.getElem_toArray, List.getElem_cons_succ, List.getElem_cons_zero]
  rw [if_pos (by rfl)]
  refine wps2 36 (.tmp 15) (.tmp 17) _ rfl in_l7add (.agg #[.bool s1, .slice a1 l1.length c1, .int .i64 e1, .bool s2, .slice a2 l2.length c2, .int .i64 e2]) (.agg #[.bool g4, vN, .int .i64 e4, .bool g3, vO, .int .i64 e3]) rfl rfl (mka _ _ _ _ _ r1 r2 rN rO) ?_
  rintro e w8 ⟨vA, vB, rfl, rA, rB, k8⟩
  refine ⟨_, rfl, ?_⟩
  replace r1 := r1.kept k8 (.inr (.inr (Nat.le_refl 0)))
  replace r2 := r2.kept k8 (.inr (.inr (Nat.le_refl 0)))
  replace r3 := r3.kept k8 (.inr (.inr (Nat.le_refl 0)))
  replace r4 := r4.kept k8 (.inr (.inr (Nat.le_refl 0)))
  replace rN := rN.kept k8 (.inr (.inr (Nat.le_refl 0)))
  replace rO := rO.kept k8 (.inr (.inr (Nat.le_refl 0)))
  replace Rf0 := k8.loose0 (World.block_lt_of_cell? _ _ R0) Rf0
  replace Rf1 := k8.loose0 (World.block_lt_of_cell? _ _ R1) Rf1
  replace Rf2 := k8.loose0 (World.block_lt_of_cell? _ _ R2) Rf2
  replace Rf3 := k8.loose0 (World.block_lt_of_cell? _ _ R3) Rf3
  replace Rf4 := k8.loose0 (World.block_lt_of_cell? _ _ R4) Rf4
  replace Rf5 := k8.loose0 (World.block_lt_of_cell? _ _ R5) Rf5
  replace bp0 := k8.cell0 bp0
  replace bp1 := k8.cell0 bp1
  replace bp2 := k8.cell0 bp2
  replace bp3 := k8.cell0 bp3
  replace bp4 := k8.cell0 bp4
  replace bp5 := k8.cell0 bp5
  replace bq0 := k8.cell0 bq0
  replace bq1 := k8.cell0 bq1
  replace bq2 := k8.cell0 bq2
  replace bq3 := k8.cell0 bq3
  replace bq4 := k8.cell0 bq4
  replace bq5 := k8.cell0 bq5
  replace R0 := k8.cell0 R0
  replace R1 := k8.cell0 R1
  replace R2 := k8.cell0 R2
  replace R3 := k8.cell0 R3
  replace R4 := k8.cell0 R4
  replace R5 := k8.cell0 R5
  replace K := hide ((unhide K).trans k8)
  have z9 := k8.size
  clear k8
  clear hHeld
  refine hK.out _ _ ?_ (fun hHeld => ?_)
  · exact ⟨bp0, bp1, bp2, bp3, bp4, bp5, bq0, bq1, bq2, bq3, bq4, bq5⟩
  clear hK KK
  try simp only [Act.put, List.getElem_toArray, List.getElem_cons_succ, List.getElem_cons_zero, List.setIfInBounds_toArray, List.set_cons_zero, List.set_cons_succ]
  refine wpAnyH_ready (rs := [4]) (by kernel_rfl) (by simp) ?_
  refine AllReadyH.cons rfl (fun KK hK => ?_) AllReadyH.nil
  simp only [List.getElem_toArray, List.getElem_cons_succ, List.getElem_cons_zero]
  rw [if_pos (by rfl)]
  refine wps1 27 (.tmp 18) _ rfl in_l7fits (.agg #[.bool W1, vA, .int .i64 D1, .bool W2, vB, .int .i64 D2]) rfl (mkf _ _ _ _ _ rA rB) ?_
  rintro e w10 h5
  obtain ⟨q1, y1, M1, q2, y2, M2, vL, vM, rfl, rL, rM, k10, hq⟩ := ivS_open h5
  have HQ := hide hq
  clear hq h5
  obtain ⟨aL, dL, hv⟩ := Row.form' rL
  subst hv
  obtain ⟨aM, dM, hv⟩ := Row.form' rM
  subst hv
  refine ⟨_, rfl, ?_⟩
  replace r1 := r1.kept k10 (.inr (.inr (Nat.le_refl 0)))
  replace r2 := r2.kept k10 (.inr (.inr (Nat.le_refl 0)))
  replace r3 := r3.kept k10 (.inr (.inr (Nat.le_refl 0)))
  replace r4 := r4.kept k10 (.inr (.inr (Nat.le_refl 0)))
  replace rN := rN.kept k10 (.inr (.inr (Nat.le_refl 0)))
  replace rO := rO.kept k10 (.inr (.inr (Nat.le_refl 0)))
  replace rA := rA.kept k10 (.inr (.inr (Nat.le_refl 0)))
  replace rB := rB.kept k10 (.inr (.inr (Nat.le_refl 0)))
  replace Rf0 := k10.loose0 (World.block_lt_of_cell? _ _ R0) Rf0
  replace Rf1 := k10.loose0 (World.block_lt_of_cell? _ _ R1) Rf1
  replace Rf2 := k10.loose0 (World.block_lt_of_cell? _ _ R2) Rf2
  replace Rf3 := k10.loose0 (World.block_lt_of_cell? _ _ R3) Rf3
  replace Rf4 := k10.loose0 (World.block_lt_of_cell? _ _ R4) Rf4
  replace Rf5 := k10.loose0 (World.block_lt_of_cell? _ _ R5) Rf5
  replace bp0 := k10.cell0 bp0
  replace bp1 := k10.cell0 bp1
  replace bp2 := k10.cell0 bp2
  replace bp3 := k10.cell0 bp3
  replace bp4 := k10.cell0 bp4
  replace bp5 := k10.cell0 bp5
  replace bq0 := k10.cell0 bq0
  replace bq1 := k10.cell0 bq1
  replace bq2 := k10.cell0 bq2
  replace bq3 := k10.cell0 bq3
  replace bq4 := k10.cell0 bq4
  replace bq5 := k10.cell0 bq5
  replace R0 := k10.cell0 R0
  replace R1 := k10.cell0 R1
  replace R2 := k10.cell0 R2
  replace R3 := k10.cell0 R3
  replace R4 := k10.cell0 R4
  replace R5 := k10.cell0 R5
  replace K := hide ((unhide K).trans k10)
  have z11 := k10.size
  clear k10
  clear hHeld
  refine hK.out _ _ ?_ (fun hHeld => ?_)
  · exact ⟨bp0, bp1, bp2, bp3, bp4, bp5, bq0, bq1, bq2, bq3, bq4, bq5⟩
  clear hK KK
  try simp only [Act.put, List.getElem_toArray, List.getElem_cons_succ, List.getElem_cons_zero, List.setIfInBounds_toArray, List.set_cons_zero, List.set_cons_succ]
  refine wpAnyH_take (i := 5) (oi := _) (v := .agg #[.bool q1, .slice aL M1.length dL, .int .i64 y1, .bool q2, .slice aM M2.length dM, .int .i64 y2]) rfl (by kernel_rfl) (by kernel_rfl) (by kernel_rfl) (fun _ _ _ h => h) (Or.inl ⟨by rfl, ?_⟩) hHeld ?_
  · intro wq hSw
    try dsimp only at hSw
    go_simp
  try simp only [Act.put, List.getElem_toArray, List.getElem_cons_succ, List.getElem_cons_zero, List.setIfInBounds_toArray, List.set_cons_zero, List.set_cons_succ]
  refine wpAnyH_take (i := 6) (oi := _) (v := .bool CC) rfl (by kernel_rfl) (by kernel_rfl) (by kernel_rfl) (fun _ _ _ h => h) (Or.inl ⟨by rfl, ?_⟩) hHeld ?_
  · intro wq hSw
    try dsimp only at hSw
    go_simp
  try simp only [Act.put, List.getElem_toArray, List.getElem_cons_succ, List.getElem_cons_zero, List.setIfInBounds_toArray, List.set_cons_zero, List.set_cons_succ]
  refine wpAnyH_ready (rs := [7]) (by kernel_rfl) (by simp) ?_
  refine AllReadyH.cons rfl (fun KK hK => ?_) AllReadyH.nil
  simp only [List.getElem_toArray, List.getElem_cons_succ, List.getElem_cons_zero]
  rw [if_pos (by rfl)]
  go_simp
  clear hHeld
  refine hK.out _ _ ?_ (fun hHeld => ?_)
  · exact ⟨(cell_aside _ (by have := unhide S0; dsimp only; omega) (cell_aside _ (by have := unhide S0; dsimp only; omega) (cell_aside _ (by have := unhide S0; dsimp only; omega) (cell_aside _ (by have := unhide S0; dsimp only; omega) (cell_aside _ (by have := unhide S0; dsimp only; omega) (cell_aside _ (by have := unhide S0; dsimp only; omega) bp0)))))), (cell_aside _ (by have := unhide S0; dsimp only; omega) (cell_aside _ (by have := unhide S0; dsimp only; omega) (cell_aside _ (by have := unhide S0; dsimp only; omega) (cell_aside _ (by have := unhide S0; dsimp only; omega) (cell_aside _ (by have := unhide S0; dsimp only; omega) (cell_aside _ (by have := unhide S0; dsimp only; omega) bp1)))))), (cell_aside _ (by have := unhide S0; dsimp only; omega) (cell_aside _ (by have := unhide S0; dsimp only; omega) (cell_aside _ (by have := unhide S0; dsimp only; omega) (cell_aside _ (by have := unhide S0; dsimp only; omega) (cell_aside _ (by have := unhide S0; dsimp only; omega) (cell_aside _ (by have := unhide S0; dsimp only; omega) bp2)))))), (cell_aside _ (by have := unhide S0; dsimp only; omega) (cell_aside _ (by have := unhide S0; dsimp only; omega) (cell_aside _ (by have := unhide S0; dsimp only; omega) (cell_aside _ (by have := unhide S0; dsimp only; omega) (cell_aside _ (by have := unhide S0; dsimp only; omega) (cell_aside _ (by have := unhide S0; dsimp only; omega) bp3)))))), (cell_aside _ (by have := unhide S0; dsimp only; omega) (cell_aside _ (by have := unhide S0; dsimp only; omega) (cell_aside _ (by have := unhide S0; dsimp only; omega) (cell_aside _ (by have := unhide S0; dsimp only; omega) (cell_aside _ (by have := unhide S0; dsimp only; omega) (cell_aside _ (by have := unhide S0; dsimp only; omega) bp4)))))), (cell_aside _ (by have := unhide S0; dsimp only; omega) (cell_aside _ (by have := unhide S0; dsimp only; omega) (cell_aside _ (by have := unhide S0; dsimp only; omega) (cell_aside _ (by have := unhide S0; dsimp only; omega) (cell_aside _ (by have := unhide S0; dsimp only; omega) (cell_aside _ (by have := unhide S0; dsimp only; omega) bp5)))))), (cell_aside _ (by have := unhide S0; dsimp only; omega) (cell_aside _ (by have := unhide S0; dsimp only; omega) (cell_aside _ (by have := unhide S0; dsimp only; omega) (cell_aside _ (by have := unhide S0; dsimp only; omega) (cell_aside _ (by have := unhide S0; dsimp only; omega) (cell_aside _ (by have := unhide S0; dsimp only; omega) bq0)))))), (cell_aside _ (by have := unhide S0; dsimp only; omega) (cell_aside _ (by have := unhide S0; dsimp only; omega) (cell_aside _ (by have := unhide S0; dsimp only; omega) (cell_aside _ (by have := unhide S0; dsimp only; omega) (cell_aside _ (by have := unhide S0; dsimp only; omega) (cell_aside _ (by have := unhide S0; dsimp only; omega) bq1)))))), (cell_aside _ (by have := unhide S0; dsimp only; omega) (cell_aside _ (by have := unhide S0; dsimp only; omega) (cell_aside _ (by have := unhide S0; dsimp only; omega) (cell_aside _ (by have := unhide S0; dsimp only; omega) (cell_aside _ (by have := unhide S0; dsimp only; omega) (cell_aside _ (by have := unhide S0; dsimp only; omega) bq2)))))), (cell_aside _ (by have := unhide S0; dsimp only; omega) (cell_aside _ (by have := unhide S0; dsimp only; omega) (cell_aside _ (by have := unhide S0; dsimp only; omega) (cell_aside _ (by have := unhide S0; dsimp only; omega) (cell_aside _ (by have := unhide S0; dsimp only; omega) (cell_aside _ (by have := unhide S0; dsimp only; omega) bq3)))))), (cell_aside _ (by have := unhide S0; dsimp only; omega) (cell_aside _ (by have := unhide S0; dsimp only; omega) (cell_aside _ (by have := unhide S0; dsimp only; omega) (cell_aside _ (by have := unhide S0; dsimp only; omega) (cell_aside _ (by have := unhide S0; dsimp only; omega) (cell_aside _ (by have := unhide S0; dsimp only; omega) bq4)))))), (cell_aside _ (by have := unhide S0; dsimp only; omega) (cell_aside _ (by have := unhide S0; dsimp only; omega) (cell_aside _ (by have := unhide S0; dsimp only; omega) (cell_aside _ (by have := unhide S0; dsimp only; omega) (cell_aside _ (by have := unhide S0; dsimp only; omega) (cell_aside _ (by have := unhide S0; dsimp only; omega) bq5))))))⟩
  clear hK KK
  try simp only [Act.put, List.getElem_toArray, List.getElem_cons_succ, List.getElem_cons_zero, List.setIfInBounds_toArray, List.set_cons_zero, List.set_cons_succ]
  refine wpAnyH_take (i := 8) (oi := _) (v := .bool CC) rfl (by kernel_rfl) (by kernel_rfl) (by kernel_rfl) (fun _ _ _ h => h) (Or.inl ⟨by rfl, ?_⟩) hHeld ?_
  · intro wq hSw
    try dsimp only at hSw
    go_simp
  try simp only [Act.put, List.getElem_toArray, List.getElem_cons_succ, List.getElem_cons_zero, List.setIfInBounds_toArray, List.set_cons_zero, List.set_cons_succ]
  refine wpAnyH_done (by kernel_rfl) ?_ _
  clear hHeld
  clear mkn mka mkf
  have RA := hide (((((((rL.set_other (p := ⟨w.heap.size + 2, 0, none⟩) (.inl (by have := unhide S0; dsimp only; omega)) (.bool q1)).set_other (p := ⟨w.heap.size + 2, 1, none⟩) (.inl (by have := unhide S0; dsimp only; omega)) (.slice aL M1.length dL)).set_other (p := ⟨w.heap.size + 2, 2, none⟩) (.inl (by have := unhide S0; dsimp only; omega)) (.int .i64 y1)).set_other (p := ⟨w.heap.size + 2, 3, none⟩) (.inl (by have := unhide S0; dsimp only; omega)) (.bool q2)).set_other (p := ⟨w.heap.size + 2, 4, none⟩) (.inl (by have := unhide S0; dsimp only; omega)) (.slice aM M2.length dM)).set_other (p := ⟨w.heap.size + 2, 5, none⟩) (.inl (by have := unhide S0; dsimp only; omega)) (.int .i64 y2)).tight.wider (lo' := w.heap.size) (by have := unhide S0; omega) (Nat.le_refl _))
  have RB := hide (((((((rM.set_other (p := ⟨w.heap.size + 2, 0, none⟩) (.inl (by have := unhide S0; dsimp only; omega)) (.bool q1)).set_other (p := ⟨w.heap.size + 2, 1, none⟩) (.inl (by have := unhide S0; dsimp only; omega)) (.slice aL M1.length dL)).set_other (p := ⟨w.heap.size + 2, 2, none⟩) (.inl (by have := unhide S0; dsimp only; omega)) (.int .i64 y1)).set_other (p := ⟨w.heap.size + 2, 3, none⟩) (.inl (by have := unhide S0; dsimp only; omega)) (.bool q2)).set_other (p := ⟨w.heap.size + 2, 4, none⟩) (.inl (by have := unhide S0; dsimp only; omega)) (.slice aM M2.length dM)).set_other (p := ⟨w.heap.size + 2, 5, none⟩) (.inl (by have := unhide S0; dsimp only; omega)) (.int .i64 y2)).tight.wider (lo' := w.heap.size) (by have := unhide S0; omega) (Nat.le_refl _))
  have K7 := hide (((((((unhide K).setNew (p := ⟨w.heap.size + 2, 0, none⟩) (by simp) (.bool q1)).setNew (p := ⟨w.heap.size + 2, 1, none⟩) (by simp) (.slice aL M1.length dL)).setNew (p := ⟨w.heap.size + 2, 2, none⟩) (by simp) (.int .i64 y1)).setNew (p := ⟨w.heap.size + 2, 3, none⟩) (by simp) (.bool q2)).setNew (p := ⟨w.heap.size + 2, 4, none⟩) (by simp) (.slice aM M2.length dM)).setNew (p := ⟨w.heap.size + 2, 5, none⟩) (by simp) (.int .i64 y2))
  clear r1 r2 r3 r4 rN rO rA rB K
  go_wp2_with fail
  exact bodyPost_ret (v := .tuple #[.agg #[.bool q1, .slice aL M1.length dL, .int .i64 y1, .bool q2, .slice aM M2.length dM, .int .i64 y2], .bool CC]) (by simp [results, Tryd.results20, go_sem, R0, R1, R2, R3, R4, R5]) rfl (ivS_shut (unhide HQ) (unhide RA) (unhide RB) (unhide K7))

set_option maxHeartbeats 4000000 in
theorem ivwide_spec {b1 b2 : Bool} {w1l w1h w2l w2h : Nat} {v1 v2 : Value} {l1 l2 : List Int} (s1 : Bool) (e1 : Int) (hu1 : e1 ≤ 9223372036854775807) (hd1 : -9223372036854775808 ≤ e1) (s2 : Bool) (e2 : Int) (hu2 : e2 ≤ 9223372036854775807) (hd2 : -9223372036854775808 ≤ e2) (w : World) (r1 : Row .i64 b1 w1l w1h w v1 l1) (r2 : Row .i64 b2 w2l w2h w v2 l2) :
    Calls Tryd.prog 22 #[.agg #[.bool s1, v1, .int .i64 e1, .bool s2, v2, .int .i64 e2]] w fun e w' => ∃ v', e = .returned (.tuple #[.agg #[.bool (ansDS (iokB s1 l1 e1 s2 l2 e2) (wval s2 l2 * 2 ^ (e2 - min e2 e1).toNat - wval s1 l1 * 2 ^ (e1 - min e2 e1).toNat) (min e2 e1)), v', .int .i64 (ansDE (iokB s1 l1 e1 s2 l2 e2) (wval s2 l2 * 2 ^ (e2 - min e2 e1).toNat - wval s1 l1 * 2 ^ (e1 - min e2 e1).toNat) (min e2 e1))], .bool (ansDB (iokB s1 l1 e1 s2 l2 e2) (wval s2 l2 * 2 ^ (e2 - min e2 e1).toNat - wval s1 l1 * 2 ^ (e1 - min e2 e1).toNat) (min e2 e1))]) ∧ Row .i64 true w.heap.size w'.heap.size w' v' (ansDL (iokB s1 l1 e1 s2 l2 e2) (wval s2 l2 * 2 ^ (e2 - min e2 e1).toNat - wval s1 l1 * 2 ^ (e1 - min e2 e1).toNat) (min e2 e1)) ∧ Kept 0 0 w w' := by
  obtain ⟨GS, hGS⟩ : ∃ y, ansDS (iokB s1 l1 e1 s2 l2 e2) (wval s2 l2 * 2 ^ (e2 - min e2 e1).toNat - wval s1 l1 * 2 ^ (e1 - min e2 e1).toNat) (min e2 e1) = y := ⟨_, rfl⟩
  obtain ⟨GL, hGL⟩ : ∃ y, ansDL (iokB s1 l1 e1 s2 l2 e2) (wval s2 l2 * 2 ^ (e2 - min e2 e1).toNat - wval s1 l1 * 2 ^ (e1 - min e2 e1).toNat) (min e2 e1) = y := ⟨_, rfl⟩
  obtain ⟨GE, hGE⟩ : ∃ y, ansDE (iokB s1 l1 e1 s2 l2 e2) (wval s2 l2 * 2 ^ (e2 - min e2 e1).toNat - wval s1 l1 * 2 ^ (e1 - min e2 e1).toNat) (min e2 e1) = y := ⟨_, rfl⟩
  obtain ⟨GB, hGB⟩ : ∃ y, ansDB (iokB s1 l1 e1 s2 l2 e2) (wval s2 l2 * 2 ^ (e2 - min e2 e1).toNat - wval s1 l1 * 2 ^ (e1 - min e2 e1).toNat) (min e2 e1) = y := ⟨_, rfl⟩
  try rw [hGS]
  try rw [hGL]
  try rw [hGE]
  try rw [hGB]
  have HGS := hide hGS
  have HGL := hide hGL
  have HGE := hide hGE
  have HGB := hide hGB
  clear hGS hGL hGE hGB
  have k0 : Kept 0 0 w ((w.alloc (.cells #[.bool s1, v1, .int .i64 e1, .bool s2, v2, .int .i64 e2] 36)).alloc (.cells #[.bool false, .slice none 0 0, .int .i64 0] 34)) := (((Kept.refl 0 0 w).alloc (.cells #[.bool s1, v1, .int .i64 e1, .bool s2, v2, .int .i64 e2] 36)).alloc (.cells #[.bool false, .slice none 0 0, .int .i64 0] 34))
  have bp0 : ((w.alloc (.cells #[.bool s1, v1, .int .i64 e1, .bool s2, v2, .int .i64 e2] 36)).alloc (.cells #[.bool false, .slice none 0 0, .int .i64 0] 34)).cell? ⟨w.heap.size, 0, none⟩ = some (.bool s1) := old_cell _ (new_cell2 _ _ _ _ _ _ (by simp) rfl)
  have bp1 : ((w.alloc (.cells #[.bool s1, v1, .int .i64 e1, .bool s2, v2, .int .i64 e2] 36)).alloc (.cells #[.bool false, .slice none 0 0, .int .i64 0] 34)).cell? ⟨w.heap.size, 1, none⟩ = some (v1) := old_cell _ (new_cell2 _ _ _ _ _ _ (by simp) rfl)
  have bp2 : ((w.alloc (.cells #[.bool s1, v1, .int .i64 e1, .bool s2, v2, .int .i64 e2] 36)).alloc (.cells #[.bool false, .slice none 0 0, .int .i64 0] 34)).cell? ⟨w.heap.size, 2, none⟩ = some (.int .i64 e1) := old_cell _ (new_cell2 _ _ _ _ _ _ (by simp) rfl)
  have bp3 : ((w.alloc (.cells #[.bool s1, v1, .int .i64 e1, .bool s2, v2, .int .i64 e2] 36)).alloc (.cells #[.bool false, .slice none 0 0, .int .i64 0] 34)).cell? ⟨w.heap.size, 3, none⟩ = some (.bool s2) := old_cell _ (new_cell2 _ _ _ _ _ _ (by simp) rfl)
  have bp4 : ((w.alloc (.cells #[.bool s1, v1, .int .i64 e1, .bool s2, v2, .int .i64 e2] 36)).alloc (.cells #[.bool false, .slice none 0 0, .int .i64 0] 34)).cell? ⟨w.heap.size, 4, none⟩ = some (v2) := old_cell _ (new_cell2 _ _ _ _ _ _ (by simp) rfl)
  have bp5 : ((w.alloc (.cells #[.bool s1, v1, .int .i64 e1, .bool s2, v2, .int .i64 e2] 36)).alloc (.cells #[.bool false, .slice none 0 0, .int .i64 0] 34)).cell? ⟨w.heap.size, 5, none⟩ = some (.int .i64 e2) := old_cell _ (new_cell2 _ _ _ _ _ _ (by simp) rfl)
  have q0 : ((w.alloc (.cells #[.bool s1, v1, .int .i64 e1, .bool s2, v2, .int .i64 e2] 36)).alloc (.cells #[.bool false, .slice none 0 0, .int .i64 0] 34)).cell? ⟨w.heap.size + 1, 0, none⟩ = some (.bool false) := new_cell2 _ _ _ _ _ _ (by simp) rfl
  have qf0 : ((w.alloc (.cells #[.bool s1, v1, .int .i64 e1, .bool s2, v2, .int .i64 e2] 36)).alloc (.cells #[.bool false, .slice none 0 0, .int .i64 0] 34)).frozen? ⟨w.heap.size + 1, 0, none⟩ = false := new_loose2 _ _ _ _ _ (by simp)
  have q1 : ((w.alloc (.cells #[.bool s1, v1, .int .i64 e1, .bool s2, v2, .int .i64 e2] 36)).alloc (.cells #[.bool false, .slice none 0 0, .int .i64 0] 34)).cell? ⟨w.heap.size + 1, 1, none⟩ = some (.slice none 0 0) := new_cell2 _ _ _ _ _ _ (by simp) rfl
  have qf1 : ((w.alloc (.cells #[.bool s1, v1, .int .i64 e1, .bool s2, v2, .int .i64 e2] 36)).alloc (.cells #[.bool false, .slice none 0 0, .int .i64 0] 34)).frozen? ⟨w.heap.size + 1, 1, none⟩ = false := new_loose2 _ _ _ _ _ (by simp)
  have q2 : ((w.alloc (.cells #[.bool s1, v1, .int .i64 e1, .bool s2, v2, .int .i64 e2] 36)).alloc (.cells #[.bool false, .slice none 0 0, .int .i64 0] 34)).cell? ⟨w.heap.size + 1, 2, none⟩ = some (.int .i64 0) := new_cell2 _ _ _ _ _ _ (by simp) rfl
  have qf2 : ((w.alloc (.cells #[.bool s1, v1, .int .i64 e1, .bool s2, v2, .int .i64 e2] 36)).alloc (.cells #[.bool false, .slice none 0 0, .int .i64 0] 34)).frozen? ⟨w.heap.size + 1, 2, none⟩ = false := new_loose2 _ _ _ _ _ (by simp)
  replace r1 := r1.kept k0 (by omega)
  replace r2 := r2.kept k0 (by omega)
  have s0 : ((w.alloc (.cells #[.bool s1, v1, .int .i64 e1, .bool s2, v2, .int .i64 e2] 36)).alloc (.cells #[.bool false, .slice none 0 0, .int .i64 0] 34)).heap.size = w.heap.size + 2 := by simp
  obtain ⟨a1, c1, hv⟩ := Row.form' r1
  subst hv
  obtain ⟨a2, c2, hv⟩ := Row.form' r2
  subst hv
  have K := hide (k0)
  clear k0
  have S0 := hide s0
  clear s0
  go_enter Tryd.func22, Tryd.ntmps22
  go_wp2_with fail
  generalize ((w.alloc (.cells #[.bool s1, .slice a1 l1.length c1, .int .i64 e1, .bool s2, .slice a2 l2.length c2, .int .i64 e2] 36)).alloc (.cells #[.bool false, .slice none 0 0, .int .i64 0] 34)) = W at *
  refine (ivok_spec s1 e1 hu1 hd1 s2 e2 hu2 hd2 _ r1 r2).mono ?_
  rintro e w1 ⟨rfl, k1⟩
  replace r1 := r1.kept k1 (.inr (.inr (Nat.le_refl 0)))
  replace r2 := r2.kept k1 (.inr (.inr (Nat.le_refl 0)))
  replace qf0 := k1.loose0 (World.block_lt_of_cell? _ _ q0) qf0
  replace qf1 := k1.loose0 (World.block_lt_of_cell? _ _ q1) qf1
  replace qf2 := k1.loose0 (World.block_lt_of_cell? _ _ q2) qf2
  replace bp0 := k1.cell0 bp0
  replace bp1 := k1.cell0 bp1
  replace bp2 := k1.cell0 bp2
  replace bp3 := k1.cell0 bp3
  replace bp4 := k1.cell0 bp4
  replace bp5 := k1.cell0 bp5
  replace q0 := k1.cell0 q0
  replace q1 := k1.cell0 q1
  replace q2 := k1.cell0 q2
  replace K := hide ((unhide K).trans k1)
  have z2 := k1.size
  clear k1
  cases ho : iokB s1 l1 e1 s2 l2 e2
  · have HO := hide ho
    clear ho
    have HF : Hid (GS = false ∧ GL = [] ∧ GE = 0 ∧ GB = false) := by
      have hno : GB = false := by rw [← unhide HGB]; exact ansDB_no (unhide HO)
      have hno' := hno
      rw [← unhide HGB] at hno'
      obtain ⟨b1, b2, b3⟩ := ansD_no hno'
      exact ⟨by rw [← unhide HGS, b1], by rw [← unhide HGL, b2], by rw [← unhide HGE, b3], hno⟩
    have KF := hide ((((unhide K).setNew (p := ⟨w.heap.size + 1, 0, none⟩) (by simp) (.bool false)).setNew (p := ⟨w.heap.size + 1, 1, none⟩) (by simp) (.slice none 0 0)).setNew (p := ⟨w.heap.size + 1, 2, none⟩) (by simp) (.int .i64 0))
    clear r1 r2 K
    go_wp2_with fail
    exact bodyPost_ret (v := .tuple #[.agg #[.bool false, .slice none 0 0, .int .i64 0], .bool false]) (by simp [results, Tryd.results22, go_sem, q0, q1, q2]) rfl ⟨_, by rw [(unhide HF).1, (unhide HF).2.2.1, (unhide HF).2.2.2], by rw [(unhide HF).2.1]; exact Row.nil _ _ _ _ _, unhide KF⟩
  obtain ⟨i1, i2, -⟩ := iok_parts ho
  have HC := hide ho
  have I1 := hide i1
  have I2 := hide i2
  clear ho i1 i2
  have mkn := fun w' r' => neg4_spec (bw := b1) (lo := w1l) (hi := w1h) (v := .slice a1 l1.length c1) (zs := l1) s1 e1 w' r' (wok_int (dok_parts (unhide I1)).1).2.2.2 (by have := (wok_int (dok_parts (unhide I1)).1).2.2.1; omega)
  have mka := fun v' w' lo' r1' (r' : Row .i64 true lo' w'.heap.size w' v' (wlm (-wval s1 l1))) => add4_spec (b1 := b2) (l1 := w2l) (h1 := w2h) (v1 := .slice a2 l2.length c2) (v2 := v') s2 (wsg (-wval s1 l1)) e2 e1 w' r1' r' (unhide I2) (dok_neg (unhide I1)).1
  simp only [dif_sum (unhide I1)] at mka
  have rg : dex (wval s2 l2 * 2 ^ (e2 - min e2 e1).toNat - wval s1 l1 * 2 ^ (e1 - min e2 e1).toNat) (min e2 e1) ≤ 9223372036854775807 ∧ -9223372036854775808 ≤ dex (wval s2 l2 * 2 ^ (e2 - min e2 e1).toNat - wval s1 l1 * 2 ^ (e1 - min e2 e1).toNat) (min e2 e1) := dif_sum (unhide I1) ▸ sum_rg (unhide I2) (dok_neg (unhide I1)).1
  obtain ⟨y1, y2, y3, y4⟩ := fits_ans (unhide HC) (wval s2 l2 * 2 ^ (e2 - min e2 e1).toNat - wval s1 l1 * 2 ^ (e1 - min e2 e1).toNat) (min e2 e1)
  have mkf : ∀ v' w' lo', Row .i64 true lo' w'.heap.size w' v' (dlm (wval s2 l2 * 2 ^ (e2 - min e2 e1).toNat - wval s1 l1 * 2 ^ (e1 - min e2 e1).toNat)) → Calls Tryd.prog 43 #[.agg #[.bool (wsg (wval s2 l2 * 2 ^ (e2 - min e2 e1).toNat - wval s1 l1 * 2 ^ (e1 - min e2 e1).toNat)), v', .int .i64 (dex (wval s2 l2 * 2 ^ (e2 - min e2 e1).toNat - wval s1 l1 * 2 ^ (e1 - min e2 e1).toNat) (min e2 e1))]] w' fun e w'' => ∃ v'', e = .returned (.tuple #[.agg #[.bool GS, v'', .int .i64 GE], .bool GB]) ∧ Row .i64 true lo' w''.heap.size w'' v'' GL ∧ Kept 0 0 w' w'' := fun v' w' lo' r' => by
    have mk := fits4_spec (wsg (wval s2 l2 * 2 ^ (e2 - min e2 e1).toNat - wval s1 l1 * 2 ^ (e1 - min e2 e1).toNat)) (dex (wval s2 l2 * 2 ^ (e2 - min e2 e1).toNat - wval s1 l1 * 2 ^ (e1 - min e2 e1).toNat) (min e2 e1)) rg.1 rg.2 w' r'
    rw [y4, y1, y2, y3, unhide HGS, unhide HGL, unhide HGE, unhide HGB] at mk
    exact mk
  clear y1 y2 y3 y4 rg
  generalize wlm (-wval s1 l1) = yy at *
  generalize wsg (-wval s1 l1) = sy at *
  generalize hDL : dlm (wval s2 l2 * 2 ^ (e2 - min e2 e1).toNat - wval s1 l1 * 2 ^ (e1 - min e2 e1).toNat) = DL at *
  generalize hDS : wsg (wval s2 l2 * 2 ^ (e2 - min e2 e1).toNat - wval s1 l1 * 2 ^ (e1 - min e2 e1).toNat) = DS at *
  generalize hDE : dex (wval s2 l2 * 2 ^ (e2 - min e2 e1).toNat - wval s1 l1 * 2 ^ (e1 - min e2 e1).toNat) (min e2 e1) = DE at *
  clear hDL hDS hDE
  go_wp2_with fail
  have kd := (Kept.refl 0 0 w1).drew
  replace r1 := r1.kept kd (.inr (.inr (Nat.le_refl 0)))
  replace r2 := r2.kept kd (.inr (.inr (Nat.le_refl 0)))
  replace qf0 := kd.loose0 (World.block_lt_of_cell? _ _ q0) qf0
  replace qf1 := kd.loose0 (World.block_lt_of_cell? _ _ q1) qf1
  replace qf2 := kd.loose0 (World.block_lt_of_cell? _ _ q2) qf2
  replace bp0 := kd.cell0 bp0
  replace bp1 := kd.cell0 bp1
  replace bp2 := kd.cell0 bp2
  replace bp3 := kd.cell0 bp3
  replace bp4 := kd.cell0 bp4
  replace bp5 := kd.cell0 bp5
  replace q0 := kd.cell0 q0
  replace q1 := kd.cell0 q1
  replace q2 := kd.cell0 q2
  replace K := hide ((unhide K).trans kd)
  have z3 := kd.size
  clear kd
  refine wp_region_held_drew (S := (fun w' => w'.cell? ⟨w.heap.size, 0, none⟩ = some (.bool s1) ∧ w'.cell? ⟨w.heap.size, 1, none⟩ = some (.slice a1 l1.length c1) ∧ w'.cell? ⟨w.heap.size, 2, none⟩ = some (.int .i64 e1) ∧ w'.cell? ⟨w.heap.size, 3, none⟩ = some (.bool s2) ∧ w'.cell? ⟨w.heap.size, 4, none⟩ = some (.slice a2 l2.length c2) ∧ w'.cell? ⟨w.heap.size, 5, none⟩ = some (.int .i64 e2))) (by kernel_rfl) ?_ (fun hHeld => ?_)
  · exact ⟨bp0, bp1, bp2, bp3, bp4, bp5⟩
  refine wpAnyH_take (i := 0) (oi := _) (v := .pointer (some ⟨w.heap.size, 3, none⟩)) rfl (by kernel_rfl) (by kernel_rfl) (by kernel_rfl) (fun _ _ _ h => h) (Or.inl ⟨by rfl, ?_⟩) hHeld ?_
  · intro wq hSw
    try dsimp only at hSw
    go_simp
  try simp only [Act.put, List.getElem_toArray, List.getElem_cons_succ, List.getElem_cons_zero, List.setIfInBounds_toArray, List.set_cons_zero, List.set_cons_succ]
  refine wpAnyH_take (i := 1) (oi := _) (v := .agg #[.bool s2, .slice a2 l2.length c2, .int .i64 e2]) rfl (by kernel_rfl) (by kernel_rfl) (by kernel_rfl) (fun _ _ _ h => h) (Or.inl ⟨by rfl, ?_⟩) hHeld ?_
  · intro wq hSw
    try dsimp only at hSw
    go_simp
  try simp only [Act.put, List.getElem_toArray, List.getElem_cons_succ, List.getElem_cons_zero, List.setIfInBounds_toArray, List.set_cons_zero, List.set_cons_succ]
  refine wpAnyH_take (i := 2) (oi := _) (v := .pointer (some ⟨w.heap.size, 0, none⟩)) rfl (by kernel_rfl) (by kernel_rfl) (by kernel_rfl) (fun _ _ _ h => h) (Or.inl ⟨by rfl, ?_⟩) hHeld ?_
  · intro wq hSw
    try dsimp only at hSw
    go_simp
  try simp only [Act.put, List.getElem_toArray, List.getElem_cons_succ, List.getElem_cons_zero, List.setIfInBounds_toArray, List.set_cons_zero, List.set_cons_succ]
  refine wpAnyH_take (i := 3) (oi := _) (v := .agg #[.bool s1, .slice a1 l1.length c1, .int .i64 e1]) rfl (by kernel_rfl) (by kernel_rfl) (by kernel_rfl) (fun _ _ _ h => h) (Or.inl ⟨by rfl, ?_⟩) hHeld ?_
  · intro wq hSw
    try dsimp only at hSw
    go_simp
  try simp only [Act.put, List.getElem_toArray, List.getElem_cons_succ, List.getElem_cons_zero, List.setIfInBounds_toArray, List.set_cons_zero, List.set_cons_succ]
  refine wpAnyH_ready (rs := [4]) (by kernel_rfl) (by simp) ?_
  refine AllReadyH.cons rfl (fun KK hK => ?_) AllReadyH.nil
  simp only [List.getElem_toArray, List.getElem_cons_succ, List.getElem_cons_zero]
  rw [if_pos (by rfl)]
  refine wps1 45 (.tmp 11) _ rfl in_l4neg (.agg #[.bool s1, .slice a1 l1.length c1, .int .i64 e1]) rfl (mkn _ r1) ?_
  rintro e w4 ⟨v5, rfl, r5, k4⟩
  refine ⟨_, rfl, ?_⟩
  replace r1 := r1.kept k4 (.inr (.inr (Nat.le_refl 0)))
  replace r2 := r2.kept k4 (.inr (.inr (Nat.le_refl 0)))
  replace qf0 := k4.loose0 (World.block_lt_of_cell? _ _ q0) qf0
  replace qf1 := k4.loose0 (World.block_lt_of_cell? _ _ q1) qf1
  replace qf2 := k4.loose0 (World.block_lt_of_cell? _ _ q2) qf2
  replace bp0 := k4.cell0 bp0
  replace bp1 := k4.cell0 bp1
  replace bp2 := k4.cell0 bp2
  replace bp3 := k4.cell0 bp3
  replace bp4 := k4.cell0 bp4
  replace bp5 := k4.cell0 bp5
  replace q0 := k4.cell0 q0
  replace q1 := k4.cell0 q1
  replace q2 := k4.cell0 q2
  replace K := hide ((unhide K).trans k4)
  have z5 := k4.size
  clear k4
  clear hHeld
  refine hK.out _ _ ?_ (fun hHeld => ?_)
  · exact ⟨bp0, bp1, bp2, bp3, bp4, bp5⟩
  clear hK KK
  try simp only [Act.put, List.getElem_toArray, List.getElem_cons_succ, List.getElem_cons_zero, List.setIfInBounds_toArray, List.set_cons_zero, List.set_cons_succ]
  refine wpAnyH_ready (rs := [5]) (by kernel_rfl) (by simp) ?_
  refine AllReadyH.cons rfl (fun KK hK => ?_) AllReadyH.nil
  simp only [List.getElem_toArray, List.getElem_cons_succ, List.getElem_cons_zero]
  rw [if_pos (by rfl)]
  refine wps2 44 (.tmp 9) (.tmp 12) _ rfl in_l4add (.agg #[.bool s2, .slice a2 l2.length c2, .int .i64 e2]) (.agg #[.bool sy, v5, .int .i64 e1]) rfl rfl (mka _ _ _ r2 r5) ?_
  rintro e w6 ⟨v6, rfl, r6, k6⟩
  refine ⟨_, rfl, ?_⟩
  replace r1 := r1.kept k6 (.inr (.inr (Nat.le_refl 0)))
  replace r2 := r2.kept k6 (.inr (.inr (Nat.le_refl 0)))
  replace r5 := r5.kept k6 (.inr (.inr (Nat.le_refl 0)))
  replace qf0 := k6.loose0 (World.block_lt_of_cell? _ _ q0) qf0
  replace qf1 := k6.loose0 (World.block_lt_of_cell? _ _ q1) qf1
  replace qf2 := k6.loose0 (World.block_lt_of_cell? _ _ q2) qf2
  replace bp0 := k6.cell0 bp0
  replace bp1 := k6.cell0 bp1
  replace bp2 := k6.cell0 bp2
  replace bp3 := k6.cell0 bp3
  replace bp4 := k6.cell0 bp4
  replace bp5 := k6.cell0 bp5
  replace q0 := k6.cell0 q0
  replace q1 := k6.cell0 q1
  replace q2 := k6.cell0 q2
  replace K := hide ((unhide K).trans k6)
  have z7 := k6.size
  clear k6
  clear hHeld
  refine hK.out _ _ ?_ (fun hHeld => ?_)
  · exact ⟨bp0, bp1, bp2, bp3, bp4, bp5⟩
  clear hK KK
  try simp only [Act.put, List.getElem_toArray, List.getElem_cons_succ, List.getElem_cons_zero, List.setIfInBounds_toArray, List.set_cons_zero, List.set_cons_succ]
  refine wpAnyH_ready (rs := [6]) (by kernel_rfl) (by simp) ?_
  refine AllReadyH.cons rfl (fun KK hK => ?_) AllReadyH.nil
  simp only [List.getElem_toArray, List.getElem_cons_succ, List.getElem_cons_zero]
  rw [if_pos (by rfl)]
  refine wps1 43 (.tmp 13) _ rfl in_l4fits (.agg #[.bool DS, v6, .int .i64 DE]) rfl (mkf _ _ _ r6) ?_
  rintro e w8 ⟨v8, rfl, r8, k8⟩
  refine ⟨_, rfl, ?_⟩
  replace r1 := r1.kept k8 (.inr (.inr (Nat.le_refl 0)))
  replace r2 := r2.kept k8 (.inr (.inr (Nat.le_refl 0)))
  replace r5 := r5.kept k8 (.inr (.inr (Nat.le_refl 0)))
  replace r6 := r6.kept k8 (.inr (.inr (Nat.le_refl 0)))
  replace qf0 := k8.loose0 (World.block_lt_of_cell? _ _ q0) qf0
  replace qf1 := k8.loose0 (World.block_lt_of_cell? _ _ q1) qf1
  replace qf2 := k8.loose0 (World.block_lt_of_cell? _ _ q2) qf2
  replace bp0 := k8.cell0 bp0
  replace bp1 := k8.cell0 bp1
  replace bp2 := k8.cell0 bp2
  replace bp3 := k8.cell0 bp3
  replace bp4 := k8.cell0 bp4
  replace bp5 := k8.cell0 bp5
  replace q0 := k8.cell0 q0
  replace q1 := k8.cell0 q1
  replace q2 := k8.cell0 q2
  replace K := hide ((unhide K).trans k8)
  have z9 := k8.size
  clear k8
  clear hHeld
  refine hK.out _ _ ?_ (fun hHeld => ?_)
  · exact ⟨bp0, bp1, bp2, bp3, bp4, bp5⟩
  clear hK KK
  try simp only [Act.put, List.getElem_toArray, List.getElem_cons_succ, List.getElem_cons_zero, List.setIfInBounds_toArray, List.set_cons_zero, List.set_cons_succ]
  obtain ⟨a8, c8, hv⟩ := Row.form' r8
  subst hv
  refine wpAnyH_take (i := 7) (oi := _) (v := .agg #[.bool GS, .slice a8 GL.length c8, .int .i64 GE]) rfl (by kernel_rfl) (by kernel_rfl) (by kernel_rfl) (fun _ _ _ h => h) (Or.inl ⟨by rfl, ?_⟩) hHeld ?_
  · intro wq hSw
    try dsimp only at hSw
    go_simp
  try simp only [Act.put, List.getElem_toArray, List.getElem_cons_succ, List.getElem_cons_zero, List.setIfInBounds_toArray, List.set_cons_zero, List.set_cons_succ]
  refine wpAnyH_take (i := 8) (oi := _) (v := .bool GB) rfl (by kernel_rfl) (by kernel_rfl) (by kernel_rfl) (fun _ _ _ h => h) (Or.inl ⟨by rfl, ?_⟩) hHeld ?_
  · intro wq hSw
    try dsimp only at hSw
    go_simp
  try simp only [Act.put, List.getElem_toArray, List.getElem_cons_succ, List.getElem_cons_zero, List.setIfInBounds_toArray, List.set_cons_zero, List.set_cons_succ]
  refine wpAnyH_ready (rs := [9]) (by kernel_rfl) (by simp) ?_
  refine AllReadyH.cons rfl (fun KK hK => ?_) AllReadyH.nil
  simp only [List.getElem_toArray, List.getElem_cons_succ, List.getElem_cons_zero]
  rw [if_pos (by rfl)]
  go_simp
  clear hHeld
  refine hK.out _ _ ?_ (fun hHeld => ?_)
  · exact ⟨(cell_aside _ (by have := unhide S0; dsimp only; omega) (cell_aside _ (by have := unhide S0; dsimp only; omega) (cell_aside _ (by have := unhide S0; dsimp only; omega) bp0))), (cell_aside _ (by have := unhide S0; dsimp only; omega) (cell_aside _ (by have := unhide S0; dsimp only; omega) (cell_aside _ (by have := unhide S0; dsimp only; omega) bp1))), (cell_aside _ (by have := unhide S0; dsimp only; omega) (cell_aside _ (by have := unhide S0; dsimp only; omega) (cell_aside _ (by have := unhide S0; dsimp only; omega) bp2))), (cell_aside _ (by have := unhide S0; dsimp only; omega) (cell_aside _ (by have := unhide S0; dsimp only; omega) (cell_aside _ (by have := unhide S0; dsimp only; omega) bp3))), (cell_aside _ (by have := unhide S0; dsimp only; omega) (cell_aside _ (by have := unhide S0; dsimp only; omega) (cell_aside _ (by have := unhide S0; dsimp only; omega) bp4))), (cell_aside _ (by have := unhide S0; dsimp only; omega) (cell_aside _ (by have := unhide S0; dsimp only; omega) (cell_aside _ (by have := unhide S0; dsimp only; omega) bp5)))⟩
  clear hK KK
  try simp only [Act.put, List.getElem_toArray, List.getElem_cons_succ, List.getElem_cons_zero, List.setIfInBounds_toArray, List.set_cons_zero, List.set_cons_succ]
  refine wpAnyH_take (i := 10) (oi := _) (v := .bool GB) rfl (by kernel_rfl) (by kernel_rfl) (by kernel_rfl) (fun _ _ _ h => h) (Or.inl ⟨by rfl, ?_⟩) hHeld ?_
  · intro wq hSw
    try dsimp only at hSw
    go_simp
  try simp only [Act.put, List.getElem_toArray, List.getElem_cons_succ, List.getElem_cons_zero, List.setIfInBounds_toArray, List.set_cons_zero, List.set_cons_succ]
  refine wpAnyH_done (by kernel_rfl) ?_ _
  clear hHeld
  clear mkn mka mkf
  have R := hide ((((r8.set_other (p := ⟨w.heap.size + 1, 0, none⟩) (.inl (by have := unhide S0; dsimp only; omega)) (.bool GS)).set_other (p := ⟨w.heap.size + 1, 1, none⟩) (.inl (by have := unhide S0; dsimp only; omega)) (.slice a8 GL.length c8)).set_other (p := ⟨w.heap.size + 1, 2, none⟩) (.inl (by have := unhide S0; dsimp only; omega)) (.int .i64 GE)).tight.wider (lo' := w.heap.size) (by have := unhide S0; omega) (Nat.le_refl _))
  have K7 := hide ((((unhide K).setNew (p := ⟨w.heap.size + 1, 0, none⟩) (by simp) (.bool GS)).setNew (p := ⟨w.heap.size + 1, 1, none⟩) (by simp) (.slice a8 GL.length c8)).setNew (p := ⟨w.heap.size + 1, 2, none⟩) (by simp) (.int .i64 GE))
  clear r1 r2 r5 r6 r8 K 
  go_wp2_with fail
  exact bodyPost_ret (v := .tuple #[.agg #[.bool GS, .slice a8 GL.length c8, .int .i64 GE], .bool GB]) (by simp [results, Tryd.results22, go_sem, q0, q1, q2]) rfl ⟨_, rfl, unhide R, unhide K7⟩

end Go.Proofs.YtbihbloknmjfjaaDoor
