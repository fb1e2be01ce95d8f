/-
  The program's cutRoot.
-/
import Derived.Test.YtadbdchjhglldaaGreatDoorRt0
import Derived.Test.YtadbdchjhglldaaGreatDoorRt2
import Derived.Test.YtadbdchjhglldaaGreatDoorBS
namespace Go.Proofs.YtadbdchjhglldaaGreatDoor
open Go.RowKit
set_option linter.unusedVariables false
set_option maxRecDepth 8000
set_option linter.unusedSimpArgs false

set_option maxHeartbeats 8000000 in
theorem cutRoot_own {b g : Nat} {v : Value} {xs : List Int} {x : Int} (w : World) (h : Num b w g v xs) (ex : Ex w g x) (hn : Nrm xs) (nx : xs.length ≤ 300) (hb : b ≤ w.heap.size) (low : Int) (hx0 : -20000 ≤ x) (hx1 : x ≤ 20000) (l0 : -20000 ≤ low) (l1 : low ≤ 20000) (hk : x - 2 * (low - 1) ≤ 9600) (T : TabB w) :
    Calls Tryz.prog 36 #[.pointer (some ⟨g, 0, none⟩), .int .i64 low] w fun e w' => ∃ u, e = .returned (.agg #[u, .bool false, .int .i64 low, .bool (rtL (val xs).toNat (x - 2 * (low - 1)))]) ∧ w'.ownsRow w.heap.size 3 1 u (limbs (rtN (val xs).toNat (x - 2 * (low - 1)))).length ((limbs (rtN (val xs).toNat (x - 2 * (low - 1)))).map (Value.int .i64)) ∧ Mod (Own1 g v) w w' := by
  obtain ⟨a, c, hv⟩ := h.form
  subst hv
  have hc0 := h.cell
  have hc2 := ex.1
  have hlt := h.lt
  have hw1 : IntKind.i64.wrap (low - 1) = low - 1 := w64 _ (by omega) (by omega)
  have hw2 : IntKind.i64.wrap (2 * (low - 1)) = 2 * (low - 1) := w64 _ (by omega) (by omega)
  have hw3 : IntKind.i64.wrap (x - 2 * (low - 1)) = x - 2 * (low - 1) := w64 _ (by omega) (by omega)
  obtain ⟨W, hW⟩ : ∃ W, W = (w.alloc (.cells #[.slice none 0 0, .bool false, .int .i64 0, .bool false] 72)).alloc (.cells #[.slice none 0 0, .bool false, .int .i64 low, .bool false] 72) := ⟨_, rfl⟩
  have k0 : Kept 0 0 w W := by rw [hW]; exact ((Kept.refl 0 0 w).alloc _).alloc _
  have sz : W.heap.size = w.heap.size + 2 := by rw [hW]; simp
  have q0 : W.cell? ⟨w.heap.size, 0, none⟩ = some (.slice none 0 0) := by rw [hW]; exact old_cell _ (new_cell2 _ _ _ _ _ _ (by simp) rfl)
  have q1 : W.cell? ⟨w.heap.size, 1, none⟩ = some (.bool false) := by rw [hW]; exact old_cell _ (new_cell2 _ _ _ _ _ _ (by simp) rfl)
  have q2 : W.cell? ⟨w.heap.size, 2, none⟩ = some (.int .i64 0) := by rw [hW]; exact old_cell _ (new_cell2 _ _ _ _ _ _ (by simp) rfl)
  have q3 : W.cell? ⟨w.heap.size, 3, none⟩ = some (.bool false) := by rw [hW]; exact old_cell _ (new_cell2 _ _ _ _ _ _ (by simp) rfl)
  have qf : ∀ o, o < 4 → W.frozen? ⟨w.heap.size, o, none⟩ = false := fun o ho => by rw [hW]; exact loose_old (by simp <;> omega) (new_loose2 _ _ _ _ _ (by simp))
  have y0 : W.cell? ⟨w.heap.size + 1, 0, none⟩ = some (.slice none 0 0) := by rw [hW]; exact new_cell2 _ _ _ _ _ _ (by simp) rfl
  have y1 : W.cell? ⟨w.heap.size + 1, 1, none⟩ = some (.bool false) := by rw [hW]; exact new_cell2 _ _ _ _ _ _ (by simp) rfl
  have y2 : W.cell? ⟨w.heap.size + 1, 2, none⟩ = some (.int .i64 low) := by rw [hW]; exact new_cell2 _ _ _ _ _ _ (by simp) rfl
  have y3 : W.cell? ⟨w.heap.size + 1, 3, none⟩ = some (.bool false) := by rw [hW]; exact new_cell2 _ _ _ _ _ _ (by simp) rfl
  have yf : ∀ o, o < 4 → W.frozen? ⟨w.heap.size + 1, o, none⟩ = false := fun o ho => by rw [hW]; exact new_loose2 _ _ _ _ _ (by simp)
  obtain ⟨Wd, hWd⟩ : ∃ V, V = W.drew := ⟨_, rfl⟩
  have kd : Kept 0 0 W Wd := by rw [hWd]; exact (Kept.refl 0 0 W).drew
  replace sz : Wd.heap.size = w.heap.size + 2 := by rw [hWd]; exact sz
  replace q0 := kd.cell0 q0
  replace q1 := kd.cell0 q1
  replace q2 := kd.cell0 q2
  replace q3 := kd.cell0 q3
  replace y0 := kd.cell0 y0
  replace y1 := kd.cell0 y1
  replace y2 := kd.cell0 y2
  replace y3 := kd.cell0 y3
  replace qf : ∀ o, o < 4 → Wd.frozen? ⟨w.heap.size, o, none⟩ = false := fun o ho => kd.loose0 (by simp only; rw [show W.heap.size = w.heap.size + 2 by rw [hW]; simp]; omega) (qf o ho)
  replace yf : ∀ o, o < 4 → Wd.frozen? ⟨w.heap.size + 1, o, none⟩ = false := fun o ho => kd.loose0 (by simp only; rw [show W.heap.size = w.heap.size + 2 by rw [hW]; simp]; omega) (yf o ho)
  have hx2 := k0.cell0 hc2
  replace k0 := k0.trans kd
  have n := h.kept k0
  have OL := hide (fun i hi => (h.own.lt i hi).2)
  have T1 := T.kept k0
  have hsc := scale_impl Wd n hn (by omega) (by omega) (x - 2 * (low - 1)) (by omega) (by omega) T1
  have lS := scN_len hn.1 (x - 2 * (low - 1)) 600 (by omega)
  obtain ⟨L, hL⟩ : ∃ L, scL (val xs).toNat (x - 2 * (low - 1)) = L := ⟨_, rfl⟩
  obtain ⟨S, hS⟩ : ∃ S, scN (val xs).toNat (x - 2 * (low - 1)) = S := ⟨_, rfl⟩
  obtain ⟨R, hR⟩ : ∃ R, rootN S = R := ⟨_, rfl⟩
  obtain ⟨MO, hMO⟩ : ∃ M, (L || decide (R * R ≠ S)) = M := ⟨_, rfl⟩
  have eN : rtN (val xs).toNat (x - 2 * (low - 1)) = R := by unfold rtN; rw [hS, hR]
  have eL : rtL (val xs).toNat (x - 2 * (low - 1)) = MO := by unfold rtL; rw [eN, hS, hL, hMO]
  rw [eN, eL]
  rw [hL, hS] at hsc
  rw [hS] at lS
  obtain ⟨Z, hZ⟩ : ∃ Z, limbs S = Z := ⟨_, rfl⟩
  obtain ⟨ZR, hZR⟩ : ∃ Z, limbs R = Z := ⟨_, rfl⟩
  obtain ⟨ZQ, hZQ⟩ : ∃ Z, limbs (R * R) = Z := ⟨_, rfl⟩
  have nZ : Nrm Z := by rw [← hZ]; exact limbs_nrm _
  have nR : Nrm ZR := by rw [← hZR]; exact limbs_nrm _
  have nQ : Nrm ZQ := by rw [← hZQ]; exact limbs_nrm _
  have vZ : val Z = (S : Int) := by rw [← hZ]; exact limbs_val _
  have vR : val ZR = (R : Int) := by rw [← hZR]; exact limbs_val _
  have vQ : val ZQ = ((R * R : Nat) : Int) := by rw [← hZQ]; exact limbs_val _
  have lR : ZR.length ≤ 1000 := by
   have := limbs_len_le (rootN_le S)
   rw [hR, hZR] at this
   omega
  have hRS : R * R ≤ S := by have := (root_sq S).1; rw [hR] at this; exact this
  have eR : Hid (limbs (rootN (val Z).toNat) = ZR) := by show _ = _; rw [vZ, Int.toNat_natCast, hR, hZR]
  have eQ : Hid (limbs (val ZR * val ZR).toNat = ZQ) := by show _ = _; rw [vR, ← Int.natCast_mul, Int.toNat_natCast, hZQ]
  have HMO := hide hMO
  rw [hZ] at hsc lS
  rw [hZR]
  have HS := hide hsc
  have HW := hide hW
  have HWd := hide hWd
  clear hW hWd
  have HV := hide (And.intro vZ (And.intro vQ hRS))
  clear hsc hL hS hR hMO hZ hZR hZQ eN eL T T1 n h ex vZ vR vQ hRS
  go_enter Tryz.func36, Tryz.ntmps36
  go_upto_region 2 with fail
  rw [← unhide HW]
  refine wp_region_held_drew (S := (fun w' => w'.cell? ⟨g, 2, none⟩ = some (.int .i64 x))) (by kernel_rfl) ?_ (fun hH => ?_)
  ·exact hx2
  rw [← unhide HWd] at hH ⊢
  replace hx2 := kd.cell0 hx2
  refine wpAnyH_take (i := 0) (v := .pointer (some ⟨g, 0, none⟩)) rfl (by kernel_rfl) (by kernel_rfl) (by kernel_rfl) (fun _ _ _ h => h) (Or.inl ⟨by rfl, ?_⟩) hH ?_
  ·intro wq hSw
   try dsimp only at hSw
   go_simp
  try simp only [Act.put, zq1, zq2, zq3, zq4, zq5, zq6]
  refine wpAnyH_take (i := 1) (v := .pointer (some ⟨g, 0, none⟩)) rfl (by kernel_rfl) (by kernel_rfl) (by kernel_rfl) (fun _ _ _ h => h) (Or.inl ⟨by rfl, ?_⟩) hH ?_
  ·intro wq hSw
   try dsimp only at hSw
   go_simp
  try simp only [Act.put, zq1, zq2, zq3, zq4, zq5, zq6]
  refine wpAnyH_take (i := 2) (v := .pointer (some ⟨g, 0, none⟩)) rfl (by kernel_rfl) (by kernel_rfl) (by kernel_rfl) (fun _ _ _ h => h) (Or.inl ⟨by rfl, ?_⟩) hH ?_
  ·intro wq hSw
   try dsimp only at hSw
   go_simp
  try simp only [Act.put, zq1, zq2, zq3, zq4, zq5, zq6]
  refine wpAnyH_take (i := 3) (v := .pointer (some ⟨g, 0, none⟩)) rfl (by kernel_rfl) (by kernel_rfl) (by kernel_rfl) (fun _ _ _ h => h) (Or.inl ⟨by rfl, ?_⟩) hH ?_
  ·intro wq hSw
   try dsimp only at hSw
   go_simp
  try simp only [Act.put, zq1, zq2, zq3, zq4, zq5, zq6]
  refine wpAnyH_take (i := 4) (v := .pointer (some ⟨g, 0, none⟩)) rfl (by kernel_rfl) (by kernel_rfl) (by kernel_rfl) (fun _ _ _ h => h) (Or.inl ⟨by rfl, ?_⟩) hH ?_
  ·intro wq hSw
   try dsimp only at hSw
   go_simp
  try simp only [Act.put, zq1, zq2, zq3, zq4, zq5, zq6]
  refine wpAnyH_take (i := 5) (v := .pointer (some ⟨g, 0, none⟩)) rfl (by kernel_rfl) (by kernel_rfl) (by kernel_rfl) (fun _ _ _ h => h) (Or.inl ⟨by rfl, ?_⟩) hH ?_
  ·intro wq hSw
   try dsimp only at hSw
   go_simp
  try simp only [Act.put, zq1, zq2, zq3, zq4, zq5, zq6]
  refine wpAnyH_take (i := 6) (v := .pointer (some ⟨g, 2, none⟩)) rfl (by kernel_rfl) (by kernel_rfl) (by kernel_rfl) (fun _ _ _ h => h) (Or.inl ⟨by rfl, ?_⟩) hH ?_
  ·intro wq hSw
   try dsimp only at hSw
   go_simp
  try simp only [Act.put, zq1, zq2, zq3, zq4, zq5, zq6]
  refine wpAnyH_take (i := 7) (v := .int .i64 x) rfl (by kernel_rfl) (by kernel_rfl) (by kernel_rfl) (fun _ _ _ h => h) (Or.inl ⟨by rfl, ?_⟩) hH ?_
  ·intro wq hSw
   try dsimp only at hSw
   go_simp
  try simp only [Act.put, zq1, zq2, zq3, zq4, zq5, zq6]
  refine wpAnyH_take (i := 8) (v := .int .i64 low) rfl (by kernel_rfl) (by kernel_rfl) (by kernel_rfl) (fun _ _ _ h => h) (Or.inl ⟨by rfl, ?_⟩) hH ?_
  ·intro wq hSw
   try dsimp only at hSw
   go_simp
  try simp only [Act.put, zq1, zq2, zq3, zq4, zq5, zq6]
  refine wpAnyH_take (i := 9) (v := .int .i64 (low - 1)) rfl (by kernel_rfl) (by kernel_rfl) (by kernel_rfl) (fun _ _ _ h => h) (Or.inl ⟨by rfl, ?_⟩) hH ?_
  ·intro wq hSw
   try dsimp only at hSw
   go_simp
  try simp only [Act.put, zq1, zq2, zq3, zq4, zq5, zq6]
  refine wpAnyH_take (i := 10) (v := .int .i64 (2 * (low - 1))) rfl (by kernel_rfl) (by kernel_rfl) (by kernel_rfl) (fun _ _ _ h => h) (Or.inl ⟨by rfl, ?_⟩) hH ?_
  ·intro wq hSw
   try dsimp only at hSw
   go_simp
  try simp only [Act.put, zq1, zq2, zq3, zq4, zq5, zq6]
  refine wpAnyH_take (i := 11) (v := .int .i64 (x - 2 * (low - 1))) rfl (by kernel_rfl) (by kernel_rfl) (by kernel_rfl) (fun _ _ _ h => h) (Or.inl ⟨by rfl, ?_⟩) hH ?_
  ·intro wq hSw
   try dsimp only at hSw
   go_simp
  try simp only [Act.put, zq1, zq2, zq3, zq4, zq5, zq6]
  refine wpAnyH_ready (rs := [12]) (by kernel_rfl) (by simp) ?_
  refine AllReadyH.cons rfl (fun KK hK => ?_) AllReadyH.nil
  simp only [zq1, zq2, zq3]
  rw [if_pos (by rfl)]
  refine wps2 62 (.tmp 12) (.tmp 20) _ rfl in_scale (.pointer (some ⟨g, 0, none⟩)) (.int .i64 (x - 2 * (low - 1))) rfl rfl (unhide HS) ?_
  rintro e w1 ⟨rfl, u, n1, m1, sd1, o1⟩
  refine ⟨_, rfl, ?_⟩
  replace hx2 := (sd1 2 (by omega)).1.trans hx2
  obtain ⟨a1, c1, hu⟩ := n1.form
  subst hu
  have nS : ∀ i, w.heap.size ≤ i → i < w.heap.size + 2 → ¬ Own1 g (.slice a xs.length c) i := fun i h1 h2 e => e.elim (fun e => by omega) (fun e => by have := unhide OL _ e; omega)
  have nR0 := nS w.heap.size (by omega) (by omega)
  have nC0 := nS (w.heap.size + 1) (by omega) (by omega)
  replace q0 := m1.cell (a := ⟨w.heap.size, 0, none⟩) nR0 q0
  have qf0 := m1.loose (a := ⟨w.heap.size, 0, none⟩) nR0 (by simp only; omega) (qf 0 (by omega))
  replace y0 := m1.cell (a := ⟨w.heap.size + 1, 0, none⟩) nC0 y0
  have yf0 := m1.loose (a := ⟨w.heap.size + 1, 0, none⟩) nC0 (by simp only; omega) (yf 0 (by omega))
  replace q1 := m1.cell (a := ⟨w.heap.size, 1, none⟩) nR0 q1
  have qf1 := m1.loose (a := ⟨w.heap.size, 1, none⟩) nR0 (by simp only; omega) (qf 1 (by omega))
  replace y1 := m1.cell (a := ⟨w.heap.size + 1, 1, none⟩) nC0 y1
  have yf1 := m1.loose (a := ⟨w.heap.size + 1, 1, none⟩) nC0 (by simp only; omega) (yf 1 (by omega))
  replace q2 := m1.cell (a := ⟨w.heap.size, 2, none⟩) nR0 q2
  have qf2 := m1.loose (a := ⟨w.heap.size, 2, none⟩) nR0 (by simp only; omega) (qf 2 (by omega))
  replace y2 := m1.cell (a := ⟨w.heap.size + 1, 2, none⟩) nC0 y2
  have yf2 := m1.loose (a := ⟨w.heap.size + 1, 2, none⟩) nC0 (by simp only; omega) (yf 2 (by omega))
  replace q3 := m1.cell (a := ⟨w.heap.size, 3, none⟩) nR0 q3
  have qf3 := m1.loose (a := ⟨w.heap.size, 3, none⟩) nR0 (by simp only; omega) (qf 3 (by omega))
  replace y3 := m1.cell (a := ⟨w.heap.size + 1, 3, none⟩) nC0 y3
  have yf3 := m1.loose (a := ⟨w.heap.size + 1, 3, none⟩) nC0 (by simp only; omega) (yf 3 (by omega))
  have m0 : Mod (Own1 g (.slice a xs.length c)) w w1 := Mod.then k0.toMod m1 (fun i hi => .inl hi)
  have sz1 := m1.size
  have ow1 : Hid (∀ i, (Value.slice a1 Z.length c1).ownBlock = some i → i ≠ w.heap.size ∧ i ≠ w.heap.size + 1) := fun i e => (o1 i e).elim (fun e => by have := unhide OL _ e; omega) (fun e => by omega)
  have LO : Hid (∀ i, (Value.slice a1 Z.length c1).ownBlock = some i → i < w1.heap.size) := fun i e => (n1.own.lt e).2
  clear kd HWd qf yf m1 sd1 o1 nS nR0 nC0 k0 HS HW
  clear hH
  refine hK.out _ _ ?_ (fun hH => ?_)
  ·exact hx2
  clear hK KK
  try simp only [Act.put, zq1, zq2, zq3, zq4, zq5, zq6]
  refine wpAnyH_take (i := 13) (v := .pointer (some ⟨w.heap.size + 1, 3, none⟩)) rfl (by kernel_rfl) (by kernel_rfl) (by kernel_rfl) (fun _ _ _ h => h) (Or.inl ⟨by rfl, ?_⟩) hH ?_
  ·intro wq hSw
   try dsimp only at hSw
   go_simp
  try simp only [Act.put, zq1, zq2, zq3, zq4, zq5, zq6]
  refine wpAnyH_ready (rs := [14]) (by kernel_rfl) (by simp) ?_
  refine AllReadyH.cons rfl (fun KK hK => ?_) AllReadyH.nil
  simp only [zq1, zq2, zq3]
  rw [if_pos (by rfl)]
  go_simp
  clear hH
  refine hK.out _ _ ?_ (fun hH => ?_)
  ·exact cell_aside _ (by dsimp only; omega) hx2
  clear hK KK
  try simp only [Act.put, zq1, zq2, zq3, zq4, zq5, zq6]
  refine wpAnyH_done (by kernel_rfl) ?_ _
  clear hH
  have n2 : Wrk b (w1.setCell ⟨w.heap.size + 1, 3, none⟩ (.bool L)) g (.slice a1 Z.length c1) Z := ⟨cell_aside _ (by dsimp only; omega) n1.cell, by rw [frozen_set]; exact n1.loose, n1.own.aside (fun e => (unhide ow1 _ e).2 rfl) _, n1.apart⟩
  have m2 := m0.set (p := ⟨w.heap.size + 1, 3, none⟩) (.inr (by simp only; omega)) (.bool L)
  replace q0 : (w1.setCell ⟨w.heap.size + 1, 3, none⟩ (.bool L)).cell? ⟨w.heap.size, 0, none⟩ = _ := cell_aside _ (by dsimp only; omega) q0
  replace qf0 : (w1.setCell ⟨w.heap.size + 1, 3, none⟩ (.bool L)).frozen? ⟨w.heap.size, 0, none⟩ = false := by rw [frozen_set]; exact qf0
  replace yf0 : (w1.setCell ⟨w.heap.size + 1, 3, none⟩ (.bool L)).frozen? ⟨w.heap.size + 1, 0, none⟩ = false := by rw [frozen_set]; exact yf0
  replace q1 : (w1.setCell ⟨w.heap.size + 1, 3, none⟩ (.bool L)).cell? ⟨w.heap.size, 1, none⟩ = _ := cell_aside _ (by dsimp only; omega) q1
  replace qf1 : (w1.setCell ⟨w.heap.size + 1, 3, none⟩ (.bool L)).frozen? ⟨w.heap.size, 1, none⟩ = false := by rw [frozen_set]; exact qf1
  replace yf1 : (w1.setCell ⟨w.heap.size + 1, 3, none⟩ (.bool L)).frozen? ⟨w.heap.size + 1, 1, none⟩ = false := by rw [frozen_set]; exact yf1
  replace q2 : (w1.setCell ⟨w.heap.size + 1, 3, none⟩ (.bool L)).cell? ⟨w.heap.size, 2, none⟩ = _ := cell_aside _ (by dsimp only; omega) q2
  replace qf2 : (w1.setCell ⟨w.heap.size + 1, 3, none⟩ (.bool L)).frozen? ⟨w.heap.size, 2, none⟩ = false := by rw [frozen_set]; exact qf2
  replace yf2 : (w1.setCell ⟨w.heap.size + 1, 3, none⟩ (.bool L)).frozen? ⟨w.heap.size + 1, 2, none⟩ = false := by rw [frozen_set]; exact yf2
  replace q3 : (w1.setCell ⟨w.heap.size + 1, 3, none⟩ (.bool L)).cell? ⟨w.heap.size, 3, none⟩ = _ := cell_aside _ (by dsimp only; omega) q3
  replace qf3 : (w1.setCell ⟨w.heap.size + 1, 3, none⟩ (.bool L)).frozen? ⟨w.heap.size, 3, none⟩ = false := by rw [frozen_set]; exact qf3
  replace yf3 : (w1.setCell ⟨w.heap.size + 1, 3, none⟩ (.bool L)).frozen? ⟨w.heap.size + 1, 3, none⟩ = false := by rw [frozen_set]; exact yf3
  replace y0 : (w1.setCell ⟨w.heap.size + 1, 3, none⟩ (.bool L)).cell? ⟨w.heap.size + 1, 0, none⟩ = _ := (side_setAt w1 (w.heap.size + 1) 3 0 (.bool L) (by decide)).trans y0
  replace y1 : (w1.setCell ⟨w.heap.size + 1, 3, none⟩ (.bool L)).cell? ⟨w.heap.size + 1, 1, none⟩ = _ := (side_setAt w1 (w.heap.size + 1) 3 1 (.bool L) (by decide)).trans y1
  replace y2 : (w1.setCell ⟨w.heap.size + 1, 3, none⟩ (.bool L)).cell? ⟨w.heap.size + 1, 2, none⟩ = _ := (side_setAt w1 (w.heap.size + 1) 3 2 (.bool L) (by decide)).trans y2
  replace y3 : (w1.setCell ⟨w.heap.size + 1, 3, none⟩ (.bool L)).cell? ⟨w.heap.size + 1, 3, none⟩ = some (.bool L) := cell_on _ _ _ _ _ y3
  have sz2 : w.heap.size + 2 ≤ (w1.setCell ⟨w.heap.size + 1, 3, none⟩ (.bool L)).heap.size := by rw [size_set]; omega
  have sz2b : w1.heap.size = (w1.setCell ⟨w.heap.size + 1, 3, none⟩ (.bool L)).heap.size := by rw [size_set]
  clear n1 m0 hx2 sz1
  generalize (w1.setCell ⟨w.heap.size + 1, 3, none⟩ (.bool L)) = w2 at *
  go_wp2_with fail
  have mk := root_work w2 n2.work nZ (by omega)
  rw [unhide eR] at mk
  refine mk.mono ?_
  rintro e w3 ⟨v3, rfl, o3, k3⟩
  clear mk
  obtain ⟨a3, c3, hv⟩ := own_slice o3
  subst hv
  replace qf0 := k3.loose0 (zbl q0) qf0
  replace yf0 := k3.loose0 (zbl y0) yf0
  replace qf1 := k3.loose0 (zbl q1) qf1
  replace yf1 := k3.loose0 (zbl y1) yf1
  replace qf2 := k3.loose0 (zbl q2) qf2
  replace yf2 := k3.loose0 (zbl y2) yf2
  replace qf3 := k3.loose0 (zbl q3) qf3
  replace yf3 := k3.loose0 (zbl y3) yf3
  replace q0 := k3.cell0 q0
  replace q1 := k3.cell0 q1
  replace q2 := k3.cell0 q2
  replace q3 := k3.cell0 q3
  replace y0 := k3.cell0 y0
  replace y1 := k3.cell0 y1
  replace y2 := k3.cell0 y2
  replace y3 := k3.cell0 y3
  replace n2 := n2.kept k3
  replace m2 := m2.kept k3
  have s3 := k3.size
  have l3 := o3.lt
  clear k3
  have nC : Num w2.heap.size (w3.setCell ⟨w.heap.size + 1, 0, none⟩ (.slice a3 ZR.length c3)) (w.heap.size + 1) (.slice a3 ZR.length c3) ZR := ⟨cell_on _ _ _ _ _ y0, by rw [frozen_set]; exact yf0, own_apart o3 (p := ⟨w.heap.size + 1, 0, none⟩) (fun e => by have := (l3 _ e).1; simp only at this; omega) _, fun e => by have := (l3 _ e).1; omega⟩
  go_wp2_with fail
  replace q0 : (w3.setCell ⟨w.heap.size + 1, 0, none⟩ (.slice a3 ZR.length c3)).cell? ⟨w.heap.size, 0, none⟩ = _ := cell_aside _ (by dsimp only; omega) q0
  replace qf0 : (w3.setCell ⟨w.heap.size + 1, 0, none⟩ (.slice a3 ZR.length c3)).frozen? ⟨w.heap.size, 0, none⟩ = false := by rw [frozen_set]; exact qf0
  replace yf0 : (w3.setCell ⟨w.heap.size + 1, 0, none⟩ (.slice a3 ZR.length c3)).frozen? ⟨w.heap.size + 1, 0, none⟩ = false := by rw [frozen_set]; exact yf0
  replace q1 : (w3.setCell ⟨w.heap.size + 1, 0, none⟩ (.slice a3 ZR.length c3)).cell? ⟨w.heap.size, 1, none⟩ = _ := cell_aside _ (by dsimp only; omega) q1
  replace qf1 : (w3.setCell ⟨w.heap.size + 1, 0, none⟩ (.slice a3 ZR.length c3)).frozen? ⟨w.heap.size, 1, none⟩ = false := by rw [frozen_set]; exact qf1
  replace yf1 : (w3.setCell ⟨w.heap.size + 1, 0, none⟩ (.slice a3 ZR.length c3)).frozen? ⟨w.heap.size + 1, 1, none⟩ = false := by rw [frozen_set]; exact yf1
  replace q2 : (w3.setCell ⟨w.heap.size + 1, 0, none⟩ (.slice a3 ZR.length c3)).cell? ⟨w.heap.size, 2, none⟩ = _ := cell_aside _ (by dsimp only; omega) q2
  replace qf2 : (w3.setCell ⟨w.heap.size + 1, 0, none⟩ (.slice a3 ZR.length c3)).frozen? ⟨w.heap.size, 2, none⟩ = false := by rw [frozen_set]; exact qf2
  replace yf2 : (w3.setCell ⟨w.heap.size + 1, 0, none⟩ (.slice a3 ZR.length c3)).frozen? ⟨w.heap.size + 1, 2, none⟩ = false := by rw [frozen_set]; exact yf2
  replace q3 : (w3.setCell ⟨w.heap.size + 1, 0, none⟩ (.slice a3 ZR.length c3)).cell? ⟨w.heap.size, 3, none⟩ = _ := cell_aside _ (by dsimp only; omega) q3
  replace qf3 : (w3.setCell ⟨w.heap.size + 1, 0, none⟩ (.slice a3 ZR.length c3)).frozen? ⟨w.heap.size, 3, none⟩ = false := by rw [frozen_set]; exact qf3
  replace yf3 : (w3.setCell ⟨w.heap.size + 1, 0, none⟩ (.slice a3 ZR.length c3)).frozen? ⟨w.heap.size + 1, 3, none⟩ = false := by rw [frozen_set]; exact yf3
  replace y1 : (w3.setCell ⟨w.heap.size + 1, 0, none⟩ (.slice a3 ZR.length c3)).cell? ⟨w.heap.size + 1, 1, none⟩ = _ := (side_setAt w3 (w.heap.size + 1) 0 1 _ (by decide)).trans y1
  replace y2 : (w3.setCell ⟨w.heap.size + 1, 0, none⟩ (.slice a3 ZR.length c3)).cell? ⟨w.heap.size + 1, 2, none⟩ = _ := (side_setAt w3 (w.heap.size + 1) 0 2 _ (by decide)).trans y2
  replace y3 : (w3.setCell ⟨w.heap.size + 1, 0, none⟩ (.slice a3 ZR.length c3)).cell? ⟨w.heap.size + 1, 3, none⟩ = _ := (side_setAt w3 (w.heap.size + 1) 0 3 _ (by decide)).trans y3
  replace y0 := nC.cell
  replace n2 : Wrk b (w3.setCell ⟨w.heap.size + 1, 0, none⟩ (.slice a3 ZR.length c3)) g (.slice a1 Z.length c1) Z := ⟨cell_aside _ (by dsimp only; omega) n2.cell, by rw [frozen_set]; exact n2.loose, n2.own.aside (fun e => (unhide ow1 _ e).2 rfl) _, n2.apart⟩
  replace m2 := m2.set (p := ⟨w.heap.size + 1, 0, none⟩) (.inr (by simp only; omega)) (.slice a3 ZR.length c3)
  have s4 : w3.heap.size = (w3.setCell ⟨w.heap.size + 1, 0, none⟩ (.slice a3 ZR.length c3)).heap.size := by rw [size_set]
  clear o3
  generalize (w3.setCell ⟨w.heap.size + 1, 0, none⟩ (.slice a3 ZR.length c3)) = W4 at *
  refine (copied_impl _ nC (by omega)).mono ?_
  rintro e w5 ⟨v5, rfl, o5, k5⟩
  obtain ⟨a5, c5, hv⟩ := own_slice o5
  subst hv
  replace qf0 := k5.loose0 (zbl q0) qf0
  replace yf0 := k5.loose0 (zbl y0) yf0
  replace qf1 := k5.loose0 (zbl q1) qf1
  replace yf1 := k5.loose0 (zbl y1) yf1
  replace qf2 := k5.loose0 (zbl q2) qf2
  replace yf2 := k5.loose0 (zbl y2) yf2
  replace qf3 := k5.loose0 (zbl q3) qf3
  replace yf3 := k5.loose0 (zbl y3) yf3
  replace q0 := k5.cell0 q0
  replace q1 := k5.cell0 q1
  replace q2 := k5.cell0 q2
  replace q3 := k5.cell0 q3
  replace y0 := k5.cell0 y0
  replace y1 := k5.cell0 y1
  replace y2 := k5.cell0 y2
  replace y3 := k5.cell0 y3
  replace n2 := n2.kept k5
  replace m2 := m2.kept k5
  replace nC := nC.kept k5
  have s5 := k5.size
  have l5 := o5.lt
  clear k5
  have nq := Num.new 65 o5
  have kq := (Kept.refl 0 0 w5).alloc (.cells #[.slice a5 ZR.length c5] 65)
  replace qf0 := kq.loose0 (zbl q0) qf0
  replace yf0 := kq.loose0 (zbl y0) yf0
  replace qf1 := kq.loose0 (zbl q1) qf1
  replace yf1 := kq.loose0 (zbl y1) yf1
  replace qf2 := kq.loose0 (zbl q2) qf2
  replace yf2 := kq.loose0 (zbl y2) yf2
  replace qf3 := kq.loose0 (zbl q3) qf3
  replace yf3 := kq.loose0 (zbl y3) yf3
  replace q0 := kq.cell0 q0
  replace q1 := kq.cell0 q1
  replace q2 := kq.cell0 q2
  replace q3 := kq.cell0 q3
  replace y0 := kq.cell0 y0
  replace y1 := kq.cell0 y1
  replace y2 := kq.cell0 y2
  replace y3 := kq.cell0 y3
  replace n2 := n2.kept kq
  replace m2 := m2.kept kq
  replace nC := nC.kept kq
  have s6 : (w5.alloc (.cells #[.slice a5 ZR.length c5] 65)).heap.size = w5.heap.size + 1 := by simp
  clear kq o5
  go_wp2_with fail
  generalize w5.alloc (.cells #[.slice a5 ZR.length c5] 65) = w6 at *
  have mk := multiply_impl w6 nq nq nR.1 nR.1 (by omega) (by omega)
  rw [unhide eQ] at mk
  refine mk.mono ?_
  rintro e w7 ⟨⟨r7, rfl⟩, u7, n7, m7⟩
  clear mk nq
  have nSq : ∀ i, i < w5.heap.size → ¬ (i = w5.heap.size) := fun i h e => by omega
  replace qf0 := m7.loose (a := ⟨w.heap.size, 0, none⟩) (nSq _ (by simp only; omega)) (zbl q0) qf0
  replace yf0 := m7.loose (a := ⟨w.heap.size + 1, 0, none⟩) (nSq _ (by simp only; omega)) (zbl y0) yf0
  replace q0 := m7.cell (a := ⟨w.heap.size, 0, none⟩) (nSq _ (by simp only; omega)) q0
  replace y0 := m7.cell (a := ⟨w.heap.size + 1, 0, none⟩) (nSq _ (by simp only; omega)) y0
  replace qf1 := m7.loose (a := ⟨w.heap.size, 1, none⟩) (nSq _ (by simp only; omega)) (zbl q1) qf1
  replace yf1 := m7.loose (a := ⟨w.heap.size + 1, 1, none⟩) (nSq _ (by simp only; omega)) (zbl y1) yf1
  replace q1 := m7.cell (a := ⟨w.heap.size, 1, none⟩) (nSq _ (by simp only; omega)) q1
  replace y1 := m7.cell (a := ⟨w.heap.size + 1, 1, none⟩) (nSq _ (by simp only; omega)) y1
  replace qf2 := m7.loose (a := ⟨w.heap.size, 2, none⟩) (nSq _ (by simp only; omega)) (zbl q2) qf2
  replace yf2 := m7.loose (a := ⟨w.heap.size + 1, 2, none⟩) (nSq _ (by simp only; omega)) (zbl y2) yf2
  replace q2 := m7.cell (a := ⟨w.heap.size, 2, none⟩) (nSq _ (by simp only; omega)) q2
  replace y2 := m7.cell (a := ⟨w.heap.size + 1, 2, none⟩) (nSq _ (by simp only; omega)) y2
  replace qf3 := m7.loose (a := ⟨w.heap.size, 3, none⟩) (nSq _ (by simp only; omega)) (zbl q3) qf3
  replace yf3 := m7.loose (a := ⟨w.heap.size + 1, 3, none⟩) (nSq _ (by simp only; omega)) (zbl y3) yf3
  replace q3 := m7.cell (a := ⟨w.heap.size, 3, none⟩) (nSq _ (by simp only; omega)) q3
  replace y3 := m7.cell (a := ⟨w.heap.size + 1, 3, none⟩) (nSq _ (by simp only; omega)) y3
  have s7 := m7.size
  have o3 := m7.own nC.own (fun i e => nSq i (by have := (l3 i e).2; omega))
  have lo2 : ∀ i, (Value.slice a1 Z.length c1).ownBlock = some i → i < w5.heap.size := fun i e => by have := (n2.own.lt e).2; have := unhide LO i e; omega
  replace n2 := n2.mod m7 (nSq g (by omega)) (fun i e => nSq i (lo2 i e))
  replace m2 := Mod.then m2 m7 (fun i e => .inr (by omega))
  clear m7 nC nSq lo2
  generalize w5.heap.size = Q at *
  cases L
  ·have mk := compare_work w7 n7 n2.work nQ nZ
   rw [(unhide HV).1, (unhide HV).2.1] at mk
   by_cases hc : R * R = S
   ·have hmo : Hid (MO = false) := by show _ = _; rw [← unhide HMO, hc]; simp
    rw [cmpI_eq (by omega)] at mk
    clear hc HMO HV
    go_wp2_with fail
    refine mk.mono ?_
    rintro e w8 ⟨rfl, k8⟩
    clear mk
    replace qf0 := k8.loose0 (zbl q0) qf0
    replace yf0 := k8.loose0 (zbl y0) yf0
    replace qf1 := k8.loose0 (zbl q1) qf1
    replace yf1 := k8.loose0 (zbl y1) yf1
    replace qf2 := k8.loose0 (zbl q2) qf2
    replace yf2 := k8.loose0 (zbl y2) yf2
    replace qf3 := k8.loose0 (zbl q3) qf3
    replace yf3 := k8.loose0 (zbl y3) yf3
    replace q0 := k8.cell0 q0
    replace q1 := k8.cell0 q1
    replace q2 := k8.cell0 q2
    replace q3 := k8.cell0 q3
    replace y0 := k8.cell0 y0
    replace y1 := k8.cell0 y1
    replace y2 := k8.cell0 y2
    replace y3 := k8.cell0 y3
    replace o3 := own_kept o3 k8
    replace m2 := m2.kept k8
    have s8 := k8.size
    clear k8
    have OF := hide (own_base (own_apart (own_apart (own_apart (own_apart (own_apart o3 (p := ⟨w.heap.size + 1, 3, none⟩) (fun e => by have := (l3 _ e).1; simp only at this; omega) (.bool false)) (p := ⟨w.heap.size, 0, none⟩) (fun e => by have := (l3 _ e).1; simp only at this; omega) (.slice a3 ZR.length c3)) (p := ⟨w.heap.size, 1, none⟩) (fun e => by have := (l3 _ e).1; simp only at this; omega) (.bool false)) (p := ⟨w.heap.size, 2, none⟩) (fun e => by have := (l3 _ e).1; simp only at this; omega) (.int .i64 low)) (p := ⟨w.heap.size, 3, none⟩) (fun e => by have := (l3 _ e).1; simp only at this; omega) (.bool false)) (b' := w.heap.size) (fun i e => by have := (l3 i e).1; omega))
    have MF := hide (((((m2.set (p := ⟨w.heap.size + 1, 3, none⟩) (.inr (by simp only; omega)) (.bool false)).set (p := ⟨w.heap.size, 0, none⟩) (.inr (by simp only; omega)) (.slice a3 ZR.length c3)).set (p := ⟨w.heap.size, 1, none⟩) (.inr (by simp only; omega)) (.bool false)).set (p := ⟨w.heap.size, 2, none⟩) (.inr (by simp only; omega)) (.int .i64 low)).set (p := ⟨w.heap.size, 3, none⟩) (.inr (by simp only; omega)) (.bool false))
    clear o3 m2 n2 n7 l3 lS lR hx0 hx1 l0 l1 hk
    go_wp2_with fail
    exact bodyPost_ret (v := .agg #[.slice a3 ZR.length c3, .bool false, .int .i64 low, .bool false]) (by simp [results, Tryz.results36, go_sem, q0, q1, q2, q3]) rfl ⟨_, by rw [unhide hmo], unhide OF, unhide MF⟩
   ·have hmo : Hid (MO = true) := by show _ = _; rw [← unhide HMO]; simp [hc]
    rw [cmpI_lt (by have := (unhide HV).2.2; omega)] at mk
    clear hc HMO HV
    go_wp2_with fail
    refine mk.mono ?_
    rintro e w8 ⟨rfl, k8⟩
    clear mk
    replace qf0 := k8.loose0 (zbl q0) qf0
    replace yf0 := k8.loose0 (zbl y0) yf0
    replace qf1 := k8.loose0 (zbl q1) qf1
    replace yf1 := k8.loose0 (zbl y1) yf1
    replace qf2 := k8.loose0 (zbl q2) qf2
    replace yf2 := k8.loose0 (zbl y2) yf2
    replace qf3 := k8.loose0 (zbl q3) qf3
    replace yf3 := k8.loose0 (zbl y3) yf3
    replace q0 := k8.cell0 q0
    replace q1 := k8.cell0 q1
    replace q2 := k8.cell0 q2
    replace q3 := k8.cell0 q3
    replace y0 := k8.cell0 y0
    replace y1 := k8.cell0 y1
    replace y2 := k8.cell0 y2
    replace y3 := k8.cell0 y3
    replace o3 := own_kept o3 k8
    replace m2 := m2.kept k8
    have s8 := k8.size
    clear k8
    have OF := hide (own_base (own_apart (own_apart (own_apart (own_apart (own_apart o3 (p := ⟨w.heap.size + 1, 3, none⟩) (fun e => by have := (l3 _ e).1; simp only at this; omega) (.bool true)) (p := ⟨w.heap.size, 0, none⟩) (fun e => by have := (l3 _ e).1; simp only at this; omega) (.slice a3 ZR.length c3)) (p := ⟨w.heap.size, 1, none⟩) (fun e => by have := (l3 _ e).1; simp only at this; omega) (.bool false)) (p := ⟨w.heap.size, 2, none⟩) (fun e => by have := (l3 _ e).1; simp only at this; omega) (.int .i64 low)) (p := ⟨w.heap.size, 3, none⟩) (fun e => by have := (l3 _ e).1; simp only at this; omega) (.bool true)) (b' := w.heap.size) (fun i e => by have := (l3 i e).1; omega))
    have MF := hide (((((m2.set (p := ⟨w.heap.size + 1, 3, none⟩) (.inr (by simp only; omega)) (.bool true)).set (p := ⟨w.heap.size, 0, none⟩) (.inr (by simp only; omega)) (.slice a3 ZR.length c3)).set (p := ⟨w.heap.size, 1, none⟩) (.inr (by simp only; omega)) (.bool false)).set (p := ⟨w.heap.size, 2, none⟩) (.inr (by simp only; omega)) (.int .i64 low)).set (p := ⟨w.heap.size, 3, none⟩) (.inr (by simp only; omega)) (.bool true))
    clear o3 m2 n2 n7 l3 lS lR hx0 hx1 l0 l1 hk
    go_wp2_with fail
    exact bodyPost_ret (v := .agg #[.slice a3 ZR.length c3, .bool false, .int .i64 low, .bool true]) (by simp [results, Tryz.results36, go_sem, q0, q1, q2, q3]) rfl ⟨_, by rw [unhide hmo], unhide OF, unhide MF⟩
  ·have hmo : Hid (MO = true) := by show _ = _; rw [← unhide HMO]; simp
   clear HMO HV
   have OF := hide (own_base (own_apart (own_apart (own_apart (own_apart (own_apart o3 (p := ⟨w.heap.size + 1, 3, none⟩) (fun e => by have := (l3 _ e).1; simp only at this; omega) (.bool true)) (p := ⟨w.heap.size, 0, none⟩) (fun e => by have := (l3 _ e).1; simp only at this; omega) (.slice a3 ZR.length c3)) (p := ⟨w.heap.size, 1, none⟩) (fun e => by have := (l3 _ e).1; simp only at this; omega) (.bool false)) (p := ⟨w.heap.size, 2, none⟩) (fun e => by have := (l3 _ e).1; simp only at this; omega) (.int .i64 low)) (p := ⟨w.heap.size, 3, none⟩) (fun e => by have := (l3 _ e).1; simp only at this; omega) (.bool true)) (b' := w.heap.size) (fun i e => by have := (l3 i e).1; omega))
   have MF := hide (((((m2.set (p := ⟨w.heap.size + 1, 3, none⟩) (.inr (by simp only; omega)) (.bool true)).set (p := ⟨w.heap.size, 0, none⟩) (.inr (by simp only; omega)) (.slice a3 ZR.length c3)).set (p := ⟨w.heap.size, 1, none⟩) (.inr (by simp only; omega)) (.bool false)).set (p := ⟨w.heap.size, 2, none⟩) (.inr (by simp only; omega)) (.int .i64 low)).set (p := ⟨w.heap.size, 3, none⟩) (.inr (by simp only; omega)) (.bool true))
   clear o3 m2 n2 n7 l3 lS lR hx0 hx1 l0 l1 hk
   go_wp2_with fail
   exact bodyPost_ret (v := .agg #[.slice a3 ZR.length c3, .bool false, .int .i64 low, .bool true]) (by simp [results, Tryz.results36, go_sem, q0, q1, q2, q3]) rfl ⟨_, by rw [unhide hmo], unhide OF, unhide MF⟩

theorem cutRoot_impl {b g : Nat} {v : Value} {xs : List Int} {x : Int} (w : World) (h : Num b w g v xs) (ex : Ex w g x) (hn : Nrm xs) (nx : xs.length ≤ 300) (hb : b ≤ w.heap.size) (low : Int) (hx0 : -20000 ≤ x) (hx1 : x ≤ 20000) (l0 : -20000 ≤ low) (l1 : low ≤ 20000) (hk : x - 2 * (low - 1) ≤ 9600) (T : TabB w) :
    Calls Tryz.prog 36 #[.pointer (some ⟨g, 0, none⟩), .int .i64 low] w fun e w' => ∃ u, e = .returned (.agg #[u, .bool false, .int .i64 low, .bool (rtL (val xs).toNat (x - 2 * (low - 1)))]) ∧ OwnA w.heap.size w' u (limbs (rtN (val xs).toNat (x - 2 * (low - 1)))) ∧ Mod (Own1 g v) w w' :=
  (cutRoot_own w h ex hn nx hb low hx0 hx1 l0 l1 hk T).mono (fun e w' ⟨u, h1, h2, h3⟩ => ⟨u, h1, OwnA.of h2, h3⟩)

end Go.Proofs.YtadbdchjhglldaaGreatDoor

