/-
  The program's divideSigned.
-/
import Derived.Test.YtpeaghaojfbbnaaWd1
import Derived.Test.YtpeaghaojfbbnaaBI
import Derived.Test.YtpeaghaojfbbnaaIDv5
namespace Go.Proofs.Ytpeaghaojfbbnaa
open Go.RowKit
set_option linter.unusedVariables false
set_option maxRecDepth 8000
set_option linter.unusedSimpArgs false

theorem in_divideD : ∀ (w : World) (args : Array Value), (callFunc 27 args).run Try.prog w = .ok (.enter 27 args) w := enters Try.func27 (by decide) (fun h => by cases h)

set_option maxHeartbeats 8000000 in
theorem divideSigned_impl {w0 w : World} {g1 g2 : Nat} {u1 u2 : Value} {xs ys : List Int} {s1 s2 : Bool} (t : Two w0 w g1 g2 u1 u2 xs ys) (d1 : Sd w g1 s1) (d2 : Sd w g2 s2) (hx : Nrm xs) (hy : Nrm ys) (nx : xs.length ≤ 100) (ny : ys.length ≤ 100) (h0 : 0 < val ys) :
    Calls Try.prog 14 #[.pointer (some ⟨g1, 0, none⟩), .pointer (some ⟨g2, 0, none⟩)] w fun e w' => ∃ vq u, e = .returned (.agg #[vq, .bool (s1 != s2)]) ∧ w'.ownsRow w.heap.size 3 1 vq (wdQ s1 xs ys).length ((wdQ s1 xs ys).map (Value.int .i64)) ∧ Num w0.heap.size w' g1 u (wdR s1 xs ys) ∧ Sd w' g1 false ∧ (∀ k, vq.ownBlock = some k → u.ownBlock ≠ some k) ∧ Kept 0 0 w0 w' := by
  have hne : ys ≠ [] := fun e => by rw [e] at h0; revert h0; decide
  have l1 := d1.lt
  have l2 := d2.lt
  obtain ⟨W, hW⟩ : ∃ W, W = w.alloc (.cells #[.slice none 0 0, .bool false] 41) := ⟨_, rfl⟩
  have k0 : Kept 0 0 w W := by rw [hW]; exact (Kept.refl 0 0 w).alloc _
  have sW : W.heap.size = w.heap.size + 1 := by rw [hW]; simp
  have x0 : W.cell? ⟨w.heap.size, 0, none⟩ = some (.slice none 0 0) := by rw [hW]; exact new_cell2 _ _ _ _ _ _ (by simp) rfl
  have x1 : W.cell? ⟨w.heap.size, 1, none⟩ = some (.bool false) := by rw [hW]; exact new_cell2 _ _ _ _ _ _ (by simp) rfl
  have y0 : W.frozen? ⟨w.heap.size, 0, none⟩ = false := by rw [hW]; exact new_loose2 _ _ _ _ _ (by simp)
  have y1 : W.frozen? ⟨w.heap.size, 1, none⟩ = false := by rw [hW]; exact new_loose2 _ _ _ _ _ (by simp)
  have c1 := (d1.kept k0).1
  have c2 := (d2.kept k0).1
  obtain ⟨SQ, hSQ⟩ : ∃ q, q = (s1 != s2) := ⟨_, rfl⟩
  have HSQ := hide hSQ
  rw [← hSQ]
  clear hSQ
  have HT := hide t
  have HD1 := hide d1
  have HD2 := hide d2
  clear t d1 d2
  go_enter Try.func14, Try.ntmps14
  go_wp2_with fail
  rw [← hW]
  clear hW
  have kd := (Kept.refl 0 0 W).drew
  replace c1 := kd.cell0 c1
  replace c2 := kd.cell0 c2
  replace y0 := kd.loose0 (World.block_lt_of_cell? _ _ x0) y0
  replace y1 := kd.loose0 (World.block_lt_of_cell? _ _ x1) y1
  replace x0 := kd.cell0 x0
  replace x1 := kd.cell0 x1
  have sV : W.drew.heap.size = w.heap.size + 1 := sW
  replace k0 := k0.trans kd
  clear kd sW
  refine wp_region_held_drew (S := (fun w' => w'.cell? ⟨g1, 1, none⟩ = some (.bool s1) ∧ w'.cell? ⟨g2, 1, none⟩ = some (.bool s2))) (by kernel_rfl) ?_ (fun hHeld => ?_)
  · exact ⟨c1, c2⟩
  generalize W.drew = V at *
  refine wpAnyH_take (i := 0) (oi := _) (v := .pointer (some ⟨g1, 0, none⟩)) rfl (by kernel_rfl) (by kernel_rfl) (by kernel_rfl) (fun _ _ _ h => h) (Or.inl ⟨by rfl, ?_⟩) hHeld ?_
  · intro wq hSw
    try dsimp only at hSw
    go_simp
  try simp only [Act.put, List.getElem_toArray, List.getElem_cons_succ, List.getElem_cons_zero, List.setIfInBounds_toArray, List.set_cons_zero, List.set_cons_succ]
  refine wpAnyH_take (i := 1) (oi := _) (v := .pointer (some ⟨g1, 0, none⟩)) rfl (by kernel_rfl) (by kernel_rfl) (by kernel_rfl) (fun _ _ _ h => h) (Or.inl ⟨by rfl, ?_⟩) hHeld ?_
  · intro wq hSw
    try dsimp only at hSw
    go_simp
  try simp only [Act.put, List.getElem_toArray, List.getElem_cons_succ, List.getElem_cons_zero, List.setIfInBounds_toArray, List.set_cons_zero, List.set_cons_succ]
  refine wpAnyH_take (i := 2) (oi := _) (v := .pointer (some ⟨g1, 1, none⟩)) rfl (by kernel_rfl) (by kernel_rfl) (by kernel_rfl) (fun _ _ _ h => h) (Or.inl ⟨by rfl, ?_⟩) hHeld ?_
  · intro wq hSw
    try dsimp only at hSw
    go_simp
  try simp only [Act.put, List.getElem_toArray, List.getElem_cons_succ, List.getElem_cons_zero, List.setIfInBounds_toArray, List.set_cons_zero, List.set_cons_succ]
  refine wpAnyH_take (i := 3) (oi := _) (v := .bool s1) rfl (by kernel_rfl) (by kernel_rfl) (by kernel_rfl) (fun _ _ _ h => h) (Or.inl ⟨by rfl, ?_⟩) hHeld ?_
  · intro wq hSw
    try dsimp only at hSw
    go_simp
  try simp only [Act.put, List.getElem_toArray, List.getElem_cons_succ, List.getElem_cons_zero, List.setIfInBounds_toArray, List.set_cons_zero, List.set_cons_succ]
  refine wpAnyH_take (i := 4) (oi := _) (v := .pointer (some ⟨g2, 0, none⟩)) rfl (by kernel_rfl) (by kernel_rfl) (by kernel_rfl) (fun _ _ _ h => h) (Or.inl ⟨by rfl, ?_⟩) hHeld ?_
  · intro wq hSw
    try dsimp only at hSw
    go_simp
  try simp only [Act.put, List.getElem_toArray, List.getElem_cons_succ, List.getElem_cons_zero, List.setIfInBounds_toArray, List.set_cons_zero, List.set_cons_succ]
  refine wpAnyH_take (i := 5) (oi := _) (v := .pointer (some ⟨g2, 0, none⟩)) rfl (by kernel_rfl) (by kernel_rfl) (by kernel_rfl) (fun _ _ _ h => h) (Or.inl ⟨by rfl, ?_⟩) hHeld ?_
  · intro wq hSw
    try dsimp only at hSw
    go_simp
  try simp only [Act.put, List.getElem_toArray, List.getElem_cons_succ, List.getElem_cons_zero, List.setIfInBounds_toArray, List.set_cons_zero, List.set_cons_succ]
  refine wpAnyH_take (i := 6) (oi := _) (v := .pointer (some ⟨g2, 1, none⟩)) rfl (by kernel_rfl) (by kernel_rfl) (by kernel_rfl) (fun _ _ _ h => h) (Or.inl ⟨by rfl, ?_⟩) hHeld ?_
  · intro wq hSw
    try dsimp only at hSw
    go_simp
  try simp only [Act.put, List.getElem_toArray, List.getElem_cons_succ, List.getElem_cons_zero, List.setIfInBounds_toArray, List.set_cons_zero, List.set_cons_succ]
  refine wpAnyH_take (i := 7) (oi := _) (v := .bool s2) rfl (by kernel_rfl) (by kernel_rfl) (by kernel_rfl) (fun _ _ _ h => h) (Or.inl ⟨by rfl, ?_⟩) hHeld ?_
  · intro wq hSw
    try dsimp only at hSw
    go_simp
  try simp only [Act.put, List.getElem_toArray, List.getElem_cons_succ, List.getElem_cons_zero, List.setIfInBounds_toArray, List.set_cons_zero, List.set_cons_succ]
  refine wpAnyH_take (i := 8) (oi := _) (v := .bool SQ) rfl (by kernel_rfl) (by kernel_rfl) (by kernel_rfl) (fun _ _ _ h => h) (Or.inl ⟨by rfl, ?_⟩) hHeld ?_
  · intro wq hSw
    try dsimp only at hSw
    go_simp
    all_goals (have e := unhide HSQ; rw [e]; cases s1 <;> cases s2 <;> rfl)
  try simp only [Act.put, List.getElem_toArray, List.getElem_cons_succ, List.getElem_cons_zero, List.setIfInBounds_toArray, List.set_cons_zero, List.set_cons_succ]
  refine wpAnyH_take (i := 9) (oi := _) (v := .agg #[.slice none 0 0, .bool SQ]) rfl (by kernel_rfl) (by kernel_rfl) (by kernel_rfl) (fun _ _ _ h => h) (Or.inl ⟨by rfl, ?_⟩) hHeld ?_
  · intro wq hSw
    try dsimp only at hSw
    go_simp
  try simp only [Act.put, List.getElem_toArray, List.getElem_cons_succ, List.getElem_cons_zero, List.setIfInBounds_toArray, List.set_cons_zero, List.set_cons_succ]
  obtain ⟨W2, hW2⟩ : ∃ W2, W2 = V.alloc (.cells #[.slice none 0 0, .bool false] 41) := ⟨_, rfl⟩
  have k2 : Kept 0 0 V W2 := by rw [hW2]; exact (Kept.refl 0 0 V).alloc _
  have s2' : W2.heap.size = V.heap.size + 1 := by rw [hW2]; simp
  have p0 : W2.cell? ⟨w.heap.size + 1, 0, none⟩ = some (.slice none 0 0) := by rw [hW2, ← sV]; exact new_cell2 _ _ _ _ _ _ (by simp) rfl
  have p1 : W2.cell? ⟨w.heap.size + 1, 1, none⟩ = some (.bool false) := by rw [hW2, ← sV]; exact new_cell2 _ _ _ _ _ _ (by simp) rfl
  have f0 : W2.frozen? ⟨w.heap.size + 1, 0, none⟩ = false := by rw [hW2, ← sV]; exact new_loose2 _ _ _ _ _ (by simp)
  have f1 : W2.frozen? ⟨w.heap.size + 1, 1, none⟩ = false := by rw [hW2, ← sV]; exact new_loose2 _ _ _ _ _ (by simp)
  have HW2 := hide hW2
  clear hW2
  refine wpAnyH_ready (rs := [10]) (by kernel_rfl) (by simp) ?_
  refine AllReadyH.cons rfl (fun KK hK => ?_) AllReadyH.nil
  simp only [List.getElem_toArray, List.getElem_cons_succ, List.getElem_cons_zero]
  rw [if_pos (by rfl)]
  go_simp
  rw [← unhide HW2]
  clear hHeld
  refine hK.out _ _ ?_ (fun hHeld => ?_)
  · exact ⟨k2.cell0 c1, k2.cell0 c2⟩
  clear hK KK
  try simp only [Act.put, List.getElem_toArray, List.getElem_cons_succ, List.getElem_cons_zero, List.setIfInBounds_toArray, List.set_cons_zero, List.set_cons_succ]
  clear HW2
  refine wpAnyH_ready (rs := [11]) (by kernel_rfl) (by simp) ?_
  refine AllReadyH.cons rfl (fun KK hK => ?_) AllReadyH.nil
  simp only [List.getElem_toArray, List.getElem_cons_succ, List.getElem_cons_zero]
  rw [if_pos (by rfl)]
  go_simp
  have k3 : Kept 0 0 V ((W2.setCell ⟨w.heap.size + 1, 0, none⟩ (.slice none 0 0)).setCell ⟨w.heap.size + 1, 1, none⟩ (.bool SQ)) := (k2.setNew (p := ⟨w.heap.size + 1, 0, none⟩) (by dsimp only; omega) _).setNew (p := ⟨w.heap.size + 1, 1, none⟩) (by dsimp only; omega) _
  have P0 : ((W2.setCell ⟨w.heap.size + 1, 0, none⟩ (.slice none 0 0)).setCell ⟨w.heap.size + 1, 1, none⟩ (.bool SQ)).cell? ⟨w.heap.size + 1, 0, none⟩ = some (.slice none 0 0) := cell_off _ _ _ 1 _ _ (cell_on _ _ _ (.slice none 0 0) _ p0) (show (0 : Nat) ≠ 1 by omega)
  have P1 : ((W2.setCell ⟨w.heap.size + 1, 0, none⟩ (.slice none 0 0)).setCell ⟨w.heap.size + 1, 1, none⟩ (.bool SQ)).cell? ⟨w.heap.size + 1, 1, none⟩ = some (.bool SQ) := cell_on _ _ _ _ _ (cell_off _ _ _ 0 (.slice none 0 0) _ p1 (show (1 : Nat) ≠ 0 by omega))
  have F0 : ((W2.setCell ⟨w.heap.size + 1, 0, none⟩ (.slice none 0 0)).setCell ⟨w.heap.size + 1, 1, none⟩ (.bool SQ)).frozen? ⟨w.heap.size + 1, 0, none⟩ = false := by rw [frozen_set, frozen_set]; exact f0
  have F1 : ((W2.setCell ⟨w.heap.size + 1, 0, none⟩ (.slice none 0 0)).setCell ⟨w.heap.size + 1, 1, none⟩ (.bool SQ)).frozen? ⟨w.heap.size + 1, 1, none⟩ = false := by rw [frozen_set, frozen_set]; exact f1
  have sz3 : ((W2.setCell ⟨w.heap.size + 1, 0, none⟩ (.slice none 0 0)).setCell ⟨w.heap.size + 1, 1, none⟩ (.bool SQ)).heap.size = V.heap.size + 1 := by rw [size_set, size_set]; exact s2'
  clear p0 p1 f0 f1
  clear hHeld
  refine hK.out _ _ ?_ (fun hHeld => ?_)
  · exact ⟨k3.cell0 c1, k3.cell0 c2⟩
  clear hK KK
  try simp only [Act.put, List.getElem_toArray, List.getElem_cons_succ, List.getElem_cons_zero, List.setIfInBounds_toArray, List.set_cons_zero, List.set_cons_succ]
  refine wpAnyH_done (by kernel_rfl) ?_ _
  clear hHeld k2 s2' c1 c2
  generalize ((W2.setCell ⟨w.heap.size + 1, 0, none⟩ (.slice none 0 0)).setCell ⟨w.heap.size + 1, 1, none⟩ (.bool SQ)) = w3 at *
  replace k0 := k0.trans k3
  replace y0 := k3.loose0 (World.block_lt_of_cell? _ _ x0) y0
  replace y1 := k3.loose0 (World.block_lt_of_cell? _ _ x1) y1
  replace x0 := k3.cell0 x0
  replace x1 := k3.cell0 x1
  have sz : w3.heap.size = w.heap.size + 2 := by omega
  clear k3 sz3 sV
  go_wp2_with fail
  have kd := (Kept.refl 0 0 w3).drew
  replace y0 := kd.loose0 (World.block_lt_of_cell? _ _ x0) y0
  replace y1 := kd.loose0 (World.block_lt_of_cell? _ _ x1) y1
  replace F0 := kd.loose0 (World.block_lt_of_cell? _ _ P0) F0
  replace F1 := kd.loose0 (World.block_lt_of_cell? _ _ P1) F1
  replace x0 := kd.cell0 x0
  replace x1 := kd.cell0 x1
  replace P0 := kd.cell0 P0
  replace P1 := kd.cell0 P1
  replace k0 := k0.trans kd
  have s4 : w3.drew.heap.size = w.heap.size + 2 := sz
  clear kd sz
  refine wp_region_held_drew (S := (fun w' => True)) (by kernel_rfl) ?_ (fun hHeld => ?_)
  · trivial
  generalize w3.drew = w4 at *
  refine wpAnyH_take (i := 0) (oi := _) (v := .pointer (some ⟨g1, 0, none⟩)) rfl (by kernel_rfl) (by kernel_rfl) (by kernel_rfl) (fun _ _ _ h => h) (Or.inl ⟨by rfl, ?_⟩) hHeld ?_
  · intro wq hSw
    try dsimp only at hSw
    go_simp
  try simp only [Act.put, List.getElem_toArray, List.getElem_cons_succ, List.getElem_cons_zero, List.setIfInBounds_toArray, List.set_cons_zero, List.set_cons_succ]
  refine wpAnyH_take (i := 1) (oi := _) (v := .pointer (some ⟨g1, 0, none⟩)) rfl (by kernel_rfl) (by kernel_rfl) (by kernel_rfl) (fun _ _ _ h => h) (Or.inl ⟨by rfl, ?_⟩) hHeld ?_
  · intro wq hSw
    try dsimp only at hSw
    go_simp
  try simp only [Act.put, List.getElem_toArray, List.getElem_cons_succ, List.getElem_cons_zero, List.setIfInBounds_toArray, List.set_cons_zero, List.set_cons_succ]
  refine wpAnyH_take (i := 2) (oi := _) (v := .pointer (some ⟨g1, 0, none⟩)) rfl (by kernel_rfl) (by kernel_rfl) (by kernel_rfl) (fun _ _ _ h => h) (Or.inl ⟨by rfl, ?_⟩) hHeld ?_
  · intro wq hSw
    try dsimp only at hSw
    go_simp
  try simp only [Act.put, List.getElem_toArray, List.getElem_cons_succ, List.getElem_cons_zero, List.setIfInBounds_toArray, List.set_cons_zero, List.set_cons_succ]
  refine wpAnyH_take (i := 3) (oi := _) (v := .pointer (some ⟨g2, 0, none⟩)) rfl (by kernel_rfl) (by kernel_rfl) (by kernel_rfl) (fun _ _ _ h => h) (Or.inl ⟨by rfl, ?_⟩) hHeld ?_
  · intro wq hSw
    try dsimp only at hSw
    go_simp
  try simp only [Act.put, List.getElem_toArray, List.getElem_cons_succ, List.getElem_cons_zero, List.setIfInBounds_toArray, List.set_cons_zero, List.set_cons_succ]
  refine wpAnyH_take (i := 4) (oi := _) (v := .pointer (some ⟨g2, 0, none⟩)) rfl (by kernel_rfl) (by kernel_rfl) (by kernel_rfl) (fun _ _ _ h => h) (Or.inl ⟨by rfl, ?_⟩) hHeld ?_
  · intro wq hSw
    try dsimp only at hSw
    go_simp
  try simp only [Act.put, List.getElem_toArray, List.getElem_cons_succ, List.getElem_cons_zero, List.setIfInBounds_toArray, List.set_cons_zero, List.set_cons_succ]
  refine wpAnyH_take (i := 5) (oi := _) (v := .pointer (some ⟨g2, 0, none⟩)) rfl (by kernel_rfl) (by kernel_rfl) (by kernel_rfl) (fun _ _ _ h => h) (Or.inl ⟨by rfl, ?_⟩) hHeld ?_
  · intro wq hSw
    try dsimp only at hSw
    go_simp
  try simp only [Act.put, List.getElem_toArray, List.getElem_cons_succ, List.getElem_cons_zero, List.setIfInBounds_toArray, List.set_cons_zero, List.set_cons_succ]
  have T4 := (unhide HT).kept k0
  have D4 := (unhide HD1).kept k0
  have L1 := (unhide HT).n1.own.lt
  have hdv := divide_impl w4 T4.n1 T4.n2 T4.k.size hx hy hne (by omega) (by omega)
  obtain ⟨LQ, hLQ⟩ : ∃ q, q = limbs (val xs / val ys).toNat := ⟨_, rfl⟩
  obtain ⟨LR, hLR⟩ : ∃ q, q = limbs (val xs % val ys).toNat := ⟨_, rfl⟩
  rw [← hLQ, ← hLR] at hdv
  have HLQ := hide hLQ
  have HLR := hide hLR
  clear hLQ hLR
  refine wpAnyH_ready (rs := [6]) (by kernel_rfl) (by simp) ?_
  refine AllReadyH.cons rfl (fun KK hK => ?_) AllReadyH.nil
  simp only [List.getElem_toArray, List.getElem_cons_succ, List.getElem_cons_zero]
  rw [if_pos (by rfl)]
  refine wps2 27 (.tmp 19) (.tmp 22) _ rfl in_divideD (.pointer (some ⟨g1, 0, none⟩)) (.pointer (some ⟨g2, 0, none⟩)) rfl rfl hdv ?_
  rintro e w5 ⟨vq, rfl, D⟩
  obtain ⟨aa, cq, hvq⟩ := own_slice D.q
  subst hvq
  refine ⟨_, rfl, ?_⟩
  clear hdv
  have nS : ∀ i, w.heap.size ≤ i → i < w.heap.size + 2 → ¬ Own1 g1 u1 i := fun i h1 h2 e => by
    rcases e with e | e
    · omega
    · have := L1 _ e; omega
  have nR := nS _ (Nat.le_refl _) (by omega)
  have nG := nS (w.heap.size + 1) (by omega) (by omega)
  replace y0 := D.md.looseAt nR (by omega) y0
  replace y1 := D.md.looseAt nR (by omega) y1
  replace F0 := D.md.looseAt nG (by omega) F0
  replace F1 := D.md.looseAt nG (by omega) F1
  replace x0 := D.md.cellAt nR x0
  replace x1 := D.md.cellAt nR x1
  replace P0 := D.md.cellAt nG P0
  replace P1 := D.md.cellAt nG P1
  obtain ⟨u, nr, hqu, hou⟩ := D.r
  have D5 := D4.same D.sd
  have z5 := D.md.size
  clear hHeld
  refine hK.out _ _ ?_ (fun hHeld => ?_)
  · trivial
  clear hK KK
  try simp only [Act.put, List.getElem_toArray, List.getElem_cons_succ, List.getElem_cons_zero, List.setIfInBounds_toArray, List.set_cons_zero, List.set_cons_succ]
  refine wpAnyH_take (i := 7) (oi := _) (v := .pointer (some ⟨w.heap.size + 1, 0, none⟩)) rfl (by kernel_rfl) (by kernel_rfl) (by kernel_rfl) (fun _ _ _ h => h) (Or.inl ⟨by rfl, ?_⟩) hHeld ?_
  · intro wq hSw
    try dsimp only at hSw
    go_simp
  try simp only [Act.put, List.getElem_toArray, List.getElem_cons_succ, List.getElem_cons_zero, List.setIfInBounds_toArray, List.set_cons_zero, List.set_cons_succ]
  refine wpAnyH_ready (rs := [8]) (by kernel_rfl) (by simp) ?_
  refine AllReadyH.cons rfl (fun KK hK => ?_) AllReadyH.nil
  simp only [List.getElem_toArray, List.getElem_cons_succ, List.getElem_cons_zero]
  rw [if_pos (by rfl)]
  go_simp
  clear hHeld
  refine hK.out _ _ ?_ (fun hHeld => ?_)
  · trivial
  clear hK KK
  try simp only [Act.put, List.getElem_toArray, List.getElem_cons_succ, List.getElem_cons_zero, List.setIfInBounds_toArray, List.set_cons_zero, List.set_cons_succ]
  refine wpAnyH_done (by kernel_rfl) ?_ _
  clear hHeld
  have m6 : Mod (fun i => i = w.heap.size + 1) w5 (w5.setCell ⟨w.heap.size + 1, 0, none⟩ (.slice aa LQ.length cq)) := Mod.set (S := fun i => i = w.heap.size + 1) (p := ⟨w.heap.size + 1, 0, none⟩) (Mod.refl _ _) (.inl rfl) _
  have hq4 := D.q.lt
  have N6 : Num w0.heap.size (w5.setCell ⟨w.heap.size + 1, 0, none⟩ (.slice aa LQ.length cq)) g1 u LR := nr.mod m6 (by omega) (fun i hi e => by
    rcases hou i hi with h | h
    · have := L1 _ h; omega
    · omega)
  have E6 : Sd (w5.setCell ⟨w.heap.size + 1, 0, none⟩ (.slice aa LQ.length cq)) g1 s1 := D5.same (m6.side D5.lt (by omega))
  have aq : (Value.slice aa LQ.length cq).ownBlock ≠ some (w.heap.size + 1) := fun e => by have := hq4 _ e; omega
  have NQ : Num w4.heap.size (w5.setCell ⟨w.heap.size + 1, 0, none⟩ (.slice aa LQ.length cq)) (w.heap.size + 1) (.slice aa LQ.length cq) LQ := ⟨cell_on _ _ _ _ _ P0, by rw [frozen_set]; exact F0, own_apart D.q aq _, aq⟩
  have K6 : Kept 0 0 w0 (w5.setCell ⟨w.heap.size + 1, 0, none⟩ (.slice aa LQ.length cq)) := (T4.k.mod D.md (fun i e => by
    rcases e with e | e
    · rw [e]; exact T4.b1
    · exact (L1 _ e).1)).setNew (p := ⟨w.heap.size + 1, 0, none⟩) (by have := (unhide HT).k.size; dsimp only; omega) _
  replace P1 : (w5.setCell ⟨w.heap.size + 1, 0, none⟩ (.slice aa LQ.length cq)).cell? ⟨w.heap.size + 1, 1, none⟩ = some (.bool SQ) := cell_off _ _ _ _ _ _ P1 (by omega)
  replace x0 : (w5.setCell ⟨w.heap.size + 1, 0, none⟩ (.slice aa LQ.length cq)).cell? ⟨w.heap.size, 0, none⟩ = some (.slice none 0 0) := cell_aside _ (by dsimp only; omega) x0
  replace x1 : (w5.setCell ⟨w.heap.size + 1, 0, none⟩ (.slice aa LQ.length cq)).cell? ⟨w.heap.size, 1, none⟩ = some (.bool false) := cell_aside _ (by dsimp only; omega) x1
  replace y0 : (w5.setCell ⟨w.heap.size + 1, 0, none⟩ (.slice aa LQ.length cq)).frozen? ⟨w.heap.size, 0, none⟩ = false := by rw [frozen_set]; exact y0
  replace y1 : (w5.setCell ⟨w.heap.size + 1, 0, none⟩ (.slice aa LQ.length cq)).frozen? ⟨w.heap.size, 1, none⟩ = false := by rw [frozen_set]; exact y1
  have z6 : (w5.setCell ⟨w.heap.size + 1, 0, none⟩ (.slice aa LQ.length cq)).heap.size = w5.heap.size := size_set _ _ _
  have hT2 : Num w0.heap.size (w5.setCell ⟨w.heap.size + 1, 0, none⟩ (.slice aa LQ.length cq)) g2 u2 ys := (T4.n2.mod D.md (fun e => by
    rcases e with e | e
    · exact T4.ne e.symm
    · exact T4.o12 e) (fun i hi e => by
    rcases e with e | e
    · exact T4.o21 (e ▸ hi)
    · exact T4.oo i e hi)).mod m6 (by omega) (fun i hi e => by have := (unhide HT).n2.own.lt _ hi; omega)
  generalize (w5.setCell ⟨w.heap.size + 1, 0, none⟩ (.slice aa LQ.length cq)) = w6 at *
  clear m6 P0 F0
  go_wp2_with fail
  refine (isBelow_impl _ N6 E6).mono ?_
  rintro e w7 ⟨rfl, rfl⟩
  have hc1 := E6.1
  have hf1 := E6.2
  have key : wdO s1 xs ys = (s1 && decide (0 < LR.length)) := by
    unfold wdO
    congr 1
    apply decide_eq_decide.2
    have hr0 : 0 ≤ val xs % val ys := Int.emod_nonneg _ (by omega)
    have hvr : val LR = val xs % val ys := by rw [unhide HLR, limbs_val]; omega
    rw [← hvr]
    constructor
    · intro h
      refine List.length_pos_iff.2 (fun e => h (by rw [e]; rfl))
    · intro h e
      have := unhide HLR
      rw [← hvr, e] at this
      rw [this] at h
      revert h
      decide
  cases hb : (s1 && decide (0 < LR.length))
  · have HWD : Hid (wdQ s1 xs ys = LQ ∧ wdR s1 xs ys = LR) := by
      unfold wdQ wdR
      rw [key, hb, if_neg (by decide), if_neg (by decide)]
      exact ⟨(unhide HLQ).symm, (unhide HLR).symm⟩
    clear key hb
    have EF := hide (E6.set false)
    have NF := hide (N6.side (.bool false))
    have KF := hide (K6.setNew (p := ⟨g1, 1, none⟩) T4.b1 (.bool false))
    have A0 : (w7.setCell ⟨g1, 1, none⟩ (.bool false)).cell? ⟨w.heap.size + 1, 0, none⟩ = some (.slice aa LQ.length cq) := cell_aside _ (by dsimp only; omega) NQ.cell
    have A1 : (w7.setCell ⟨g1, 1, none⟩ (.bool false)).cell? ⟨w.heap.size + 1, 1, none⟩ = some (.bool SQ) := cell_aside _ (by dsimp only; omega) P1
    have B0 : (w7.setCell ⟨g1, 1, none⟩ (.bool false)).cell? ⟨w.heap.size, 0, none⟩ = some (.slice none 0 0) := cell_aside _ (by dsimp only; omega) x0
    have B1 : (w7.setCell ⟨g1, 1, none⟩ (.bool false)).cell? ⟨w.heap.size, 1, none⟩ = some (.bool false) := cell_aside _ (by dsimp only; omega) x1
    have C0 : (w7.setCell ⟨g1, 1, none⟩ (.bool false)).frozen? ⟨w.heap.size, 0, none⟩ = false := by rw [frozen_set]; exact y0
    have C1 : (w7.setCell ⟨g1, 1, none⟩ (.bool false)).frozen? ⟨w.heap.size, 1, none⟩ = false := by rw [frozen_set]; exact y1
    have OF := hide (own_apart (p := ⟨g1, 1, none⟩) NQ.own (fun e => by have := hq4 g1 e; omega) (.bool false))
    have m8 : Mod (fun i => i = w.heap.size) (w7.setCell ⟨g1, 1, none⟩ (.bool false)) (((w7.setCell ⟨g1, 1, none⟩ (.bool false)).setCell ⟨w.heap.size, 0, none⟩ (.slice aa LQ.length cq)).setCell ⟨w.heap.size, 1, none⟩ (.bool SQ)) := Mod.set (S := fun i => i = w.heap.size) (p := ⟨w.heap.size, 1, none⟩) (Mod.set (S := fun i => i = w.heap.size) (p := ⟨w.heap.size, 0, none⟩) (Mod.refl _ _) (.inl rfl) _) (.inl rfl) _
    have N9 := hide ((unhide NF).mod m8 (by omega) (fun i hi e => by
      rcases hou i hi with h | h
      · have := L1 _ h; omega
      · omega))
    have E9 := hide ((unhide EF).same (m8.side (unhide EF).lt (by omega)))
    have O9 := hide (own_less (m8.own (unhide OF) (fun i hi e => by have := NQ.own.lt _ hi; omega)) (show w.heap.size ≤ w4.heap.size by omega))
    have K9 := hide ((unhide KF).mod m8 (fun i e => by have := (unhide HT).k.size; omega))
    have R0 : (((w7.setCell ⟨g1, 1, none⟩ (.bool false)).setCell ⟨w.heap.size, 0, none⟩ (.slice aa LQ.length cq)).setCell ⟨w.heap.size, 1, none⟩ (.bool SQ)).cell? ⟨w.heap.size, 0, none⟩ = some (.slice aa LQ.length cq) := cell_off _ _ _ _ _ _ (cell_on _ _ _ _ _ B0) (by omega)
    have R1 : (((w7.setCell ⟨g1, 1, none⟩ (.bool false)).setCell ⟨w.heap.size, 0, none⟩ (.slice aa LQ.length cq)).setCell ⟨w.heap.size, 1, none⟩ (.bool SQ)).cell? ⟨w.heap.size, 1, none⟩ = some (.bool SQ) := cell_on _ _ _ _ _ (cell_off _ _ _ _ _ _ B1 (by omega))
    have HQU := hide (hqu)
    have hc1 := E6.1
    have hf1 := E6.2
    clear N6 E6 m8 x0 x1 y0 y1 P1 nr NQ K6
    go_wp2_with fail
    exact bodyPost_ret (v := .agg #[(.slice aa LQ.length cq), .bool SQ]) (by simp [results, Try.results14, go_sem, R0, R1]) rfl ⟨_, _, rfl, by rw [(unhide HWD).1]; exact unhide O9, by rw [(unhide HWD).2]; exact unhide N9, unhide E9, unhide HQU, unhide K9⟩
  · have hr0 : 0 ≤ val xs % val ys := Int.emod_nonneg _ (by omega)
    have hr1 : val xs % val ys < val ys := Int.emod_lt_of_pos _ h0
    have hvx := val_nonneg hx.1
    have hq0 : 0 ≤ val xs / val ys := Int.ediv_nonneg hvx (by omega)
    have hqx : val xs / val ys ≤ val xs := Int.ediv_le_self _ hvx
    have hvq : val LQ = val xs / val ys := by rw [unhide HLQ, limbs_val]; omega
    have hvr : val LR = val xs % val ys := by rw [unhide HLR, limbs_val]; omega
    have hlx := val_lt hx.1
    have hly := val_lt hy.1
    have lq : LQ.length ≤ xs.length := by
      rw [unhide HLQ]
      refine (limbs_length_le _ _).2 ?_
      omega
    have hnQ : Nrm LQ := by rw [unhide HLQ]; exact limbs_nrm _
    have hnR : Nrm LR := by rw [unhide HLR]; exact limbs_nrm _
    have hv1 : val (limbs (1 : Int).toNat) = 1 := by rw [limbs_val]; rfl
    obtain ⟨L1', hL1'⟩ : ∃ q, q = limbs (1 : Int).toNat := ⟨_, rfl⟩
    have ho1 : L1'.length ≤ 100000 := by rw [hL1']; decide
    have hn1 : Nrm L1' := by rw [hL1']; exact limbs_nrm _
    obtain ⟨LQ1, hLQ1⟩ : ∃ q, q = limbs (val xs / val ys + 1).toNat := ⟨_, rfl⟩
    obtain ⟨LR1, hLR1⟩ : ∃ q, q = limbs (val ys - val xs % val ys).toNat := ⟨_, rfl⟩
    have HWD : Hid (wdQ s1 xs ys = LQ1 ∧ wdR s1 xs ys = LR1) := by
      unfold wdQ wdR
      rw [key, hb, if_pos rfl, if_pos rfl]
      exact ⟨hLQ1.symm, hLR1.symm⟩
    have hA : limbs (val LQ + val L1').toNat = LQ1 := by rw [hvq, hL1', hv1, hLQ1]
    have hS : limbs (val ys - val LR).toNat = LR1 := by rw [hvr, hLR1]
    have hle : val LR ≤ val ys := by omega
    clear key hb hr0 hr1 hvx hq0 hqx hvq hvr hlx hly hv1 hLQ1 hLR1 hc1 hf1
    go_wp2_with fail
    have hli := limbsOfInt_impl w7 1 (by decide)
    rw [← hL1'] at hli
    refine hli.mono ?_
    rintro e w8 ⟨v8, rfl, o8, k8⟩
    clear hli hL1'
    obtain ⟨a8, c8, hv8⟩ := own_slice o8
    subst hv8
    have n8 := Num.new 39 o8
    have kk := k8.alloc (.cells #[.slice a8 L1'.length c8] 39)
    have z8 := k8.size
    have z9 : (w8.alloc (.cells #[.slice a8 L1'.length c8] 39)).heap.size = w8.heap.size + 1 := by simp
    have b8 := o8.lt
    have bq := NQ.own.lt
    have bu := N6.own.lt
    have b2 := (unhide HT).n2.own.lt
    replace y0 := kk.loose0 (World.block_lt_of_cell? _ _ x0) y0
    replace y1 := kk.loose0 (World.block_lt_of_cell? _ _ x1) y1
    replace x0 := kk.cell0 x0
    replace x1 := kk.cell0 x1
    replace P1 := kk.cell0 P1
    replace N6 := N6.kept kk
    replace E6 := E6.kept kk
    replace NQ := NQ.kept kk
    replace hT2 := hT2.kept kk
    replace K6 := K6.trans kk
    have zw := (unhide HT).k.size
    have T9 : Two w0 _ (w.heap.size + 1) w8.heap.size _ _ LQ L1' := ⟨NQ.less (by omega), n8.less (by omega), by omega, fun e => by have := bq _ e; omega, fun e => by have := b8 _ e; omega, fun k h1 h2 => by have := bq _ h1; have := b8 _ h2; omega, K6, by omega, by omega⟩
    have HT9 := hide T9
    clear T9 n8 k8 o8
    go_wp2_with fail
    generalize (w8.alloc (.cells #[.slice a8 L1'.length c8] 39)) = w9 at *
    have had := add_twoS ⟨_, _, (unhide HT9).startS⟩ hnQ hn1 (by omega) ho1
    rw [hA] at had
    refine had.mono ?_
    rintro e w10 ⟨⟨r10, rfl⟩, uq, uo, S10⟩
    clear had
    obtain ⟨ab, cb, huq⟩ := S10.two.n1.form
    subst huq
    have z10 := S10.m.size
    have nG1 : ∀ i, i ≤ w.heap.size → ¬ Own1 (w.heap.size + 1) (.slice aa LQ.length cq) i := fun i h e => by
      rcases e with e | e
      · omega
      · have := bq _ e; omega
    replace y0 := S10.m.looseAt (nG1 _ (Nat.le_refl _)) (by omega) y0
    replace y1 := S10.m.looseAt (nG1 _ (Nat.le_refl _)) (by omega) y1
    replace x0 := S10.m.cellAt (nG1 _ (Nat.le_refl _)) x0
    replace x1 := S10.m.cellAt (nG1 _ (Nat.le_refl _)) x1
    replace P1 := (S10.d1 1 (Nat.le_refl _)).1.trans P1
    replace N6 := N6.mod S10.m (nG1 _ (by omega)) (fun i hi e => by
      rcases e with e | e
      · rcases hou i hi with h | h
        · have := L1 _ h; omega
        · omega
      · exact hqu i e hi)
    replace hT2 := hT2.mod S10.m (nG1 _ (by omega)) (fun i hi => nG1 _ (by have := b2 _ hi; omega))
    replace E6 := E6.same (S10.m.side E6.lt (nG1 _ (by omega)))
    have gq : ∀ i, (Value.slice ab LQ1.length cb).ownBlock = some i → w4.heap.size ≤ i := fun i hi => by
      rcases S10.ob i hi with h | h
      · exact (bq _ h).1
      · omega
    replace NQ : Num w4.heap.size w10 (w.heap.size + 1) (.slice ab LQ1.length cb) LQ1 := ⟨S10.two.n1.cell, S10.two.n1.loose, own_base S10.two.n1.own gq, S10.two.n1.apart⟩
    replace K6 := S10.two.k
    have T11 : Two w0 w10 g1 g2 u u2 LR ys := ⟨N6, hT2, T4.ne, fun e => by
      rcases hou _ e with h | h
      · exact T4.o12 h
      · omega, T4.o21, fun k h1 h2 => by
      rcases hou _ h1 with h | h
      · exact T4.oo k h h2
      · have := b2 _ h2; omega, K6, T4.b1, T4.b2⟩
    clear S10 HT9
    go_wp2_with fail
    have hsf := subtractFrom_impl T11 hnR hy (by omega) hle
    rw [hS] at hsf
    refine hsf.mono ?_
    rintro e w11 ⟨⟨r11, rfl⟩, ⟨u', n11⟩, sd11, m11⟩
    clear hsf
    have z11 := m11.size
    have bq2 := NQ.own.lt
    have bu2 := n11.own.lt
    replace y0 := m11.looseAt (by omega) (by omega) y0
    replace y1 := m11.looseAt (by omega) (by omega) y1
    replace x0 := m11.cellAt (by omega) x0
    replace x1 := m11.cellAt (by omega) x1
    replace P1 := m11.cellAt (by omega) P1
    replace E6 := E6.same sd11
    replace NQ := NQ.mod m11 (by omega) (fun i hi e => by have := gq _ hi; omega)
    replace K6 := K6.mod m11 (fun i e => by rw [e]; exact T4.b1)
    replace N6 : Num w0.heap.size w11 g1 u' LR1 := n11.less (by have := T11.k.size; omega)
    have hqu2 : ∀ k, (Value.slice ab LQ1.length cb).ownBlock = some k → u'.ownBlock ≠ some k := fun k h1 h2 => by have := bq2 _ h1; have := bu2 _ h2; omega
    clear n11 sd11 m11 T11 hT2
    have EF := hide (E6.set false)
    have NF := hide (N6.side (.bool false))
    have KF := hide (K6.setNew (p := ⟨g1, 1, none⟩) T4.b1 (.bool false))
    have A0 : (w11.setCell ⟨g1, 1, none⟩ (.bool false)).cell? ⟨w.heap.size + 1, 0, none⟩ = some (.slice ab LQ1.length cb) := cell_aside _ (by dsimp only; omega) NQ.cell
    have A1 : (w11.setCell ⟨g1, 1, none⟩ (.bool false)).cell? ⟨w.heap.size + 1, 1, none⟩ = some (.bool SQ) := cell_aside _ (by dsimp only; omega) P1
    have B0 : (w11.setCell ⟨g1, 1, none⟩ (.bool false)).cell? ⟨w.heap.size, 0, none⟩ = some (.slice none 0 0) := cell_aside _ (by dsimp only; omega) x0
    have B1 : (w11.setCell ⟨g1, 1, none⟩ (.bool false)).cell? ⟨w.heap.size, 1, none⟩ = some (.bool false) := cell_aside _ (by dsimp only; omega) x1
    have C0 : (w11.setCell ⟨g1, 1, none⟩ (.bool false)).frozen? ⟨w.heap.size, 0, none⟩ = false := by rw [frozen_set]; exact y0
    have C1 : (w11.setCell ⟨g1, 1, none⟩ (.bool false)).frozen? ⟨w.heap.size, 1, none⟩ = false := by rw [frozen_set]; exact y1
    have OF := hide (own_apart (p := ⟨g1, 1, none⟩) NQ.own (fun e => by have := gq g1 e; omega) (.bool false))
    have m8 : Mod (fun i => i = w.heap.size) (w11.setCell ⟨g1, 1, none⟩ (.bool false)) (((w11.setCell ⟨g1, 1, none⟩ (.bool false)).setCell ⟨w.heap.size, 0, none⟩ (.slice ab LQ1.length cb)).setCell ⟨w.heap.size, 1, none⟩ (.bool SQ)) := Mod.set (S := fun i => i = w.heap.size) (p := ⟨w.heap.size, 1, none⟩) (Mod.set (S := fun i => i = w.heap.size) (p := ⟨w.heap.size, 0, none⟩) (Mod.refl _ _) (.inl rfl) _) (.inl rfl) _
    have N9 := hide ((unhide NF).mod m8 (by omega) (fun i hi e => by have := bu2 _ hi; omega))
    have E9 := hide ((unhide EF).same (m8.side (unhide EF).lt (by omega)))
    have O9 := hide (own_less (m8.own (unhide OF) (fun i hi e => by have := NQ.own.lt _ hi; omega)) (show w.heap.size ≤ w4.heap.size by omega))
    have K9 := hide ((unhide KF).mod m8 (fun i e => by have := (unhide HT).k.size; omega))
    have R0 : (((w11.setCell ⟨g1, 1, none⟩ (.bool false)).setCell ⟨w.heap.size, 0, none⟩ (.slice ab LQ1.length cb)).setCell ⟨w.heap.size, 1, none⟩ (.bool SQ)).cell? ⟨w.heap.size, 0, none⟩ = some (.slice ab LQ1.length cb) := cell_off _ _ _ _ _ _ (cell_on _ _ _ _ _ B0) (by omega)
    have R1 : (((w11.setCell ⟨g1, 1, none⟩ (.bool false)).setCell ⟨w.heap.size, 0, none⟩ (.slice ab LQ1.length cb)).setCell ⟨w.heap.size, 1, none⟩ (.bool SQ)).cell? ⟨w.heap.size, 1, none⟩ = some (.bool SQ) := cell_on _ _ _ _ _ (cell_off _ _ _ _ _ _ B1 (by omega))
    have HQU := hide (hqu2)
    have hc1 := E6.1
    have hf1 := E6.2
    clear N6 E6 m8 x0 x1 y0 y1 P1 NQ K6
    go_wp2_with fail
    exact bodyPost_ret (v := .agg #[(.slice ab LQ1.length cb), .bool SQ]) (by simp [results, Try.results14, go_sem, R0, R1]) rfl ⟨_, _, rfl, by rw [(unhide HWD).1]; exact unhide O9, by rw [(unhide HWD).2]; exact unhide N9, unhide E9, unhide HQU, unhide K9⟩

end Go.Proofs.Ytpeaghaojfbbnaa
