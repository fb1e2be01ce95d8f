/-
  The program's ofTwo: what a function makes of two squares, told.
-/
import Derived.Test.YtefnblaphkookaaGreatDoorTw
import Derived.Test.YtefnblaphkookaaGreatDoorTsq
import Derived.Test.YtefnblaphkookaaGreatDoorBC
import Derived.Deep.DeepCutAuto
import Derived.Deep.RegionHeld3
namespace Go.Proofs.YtefnblaphkookaaGreatDoor
open Go.RowKit
set_option linter.unusedVariables false
set_option maxRecDepth 8000
set_option linter.unusedSimpArgs false

theorem in_squareOf : ∀ (w : World) (args : Array Value), (callFunc 65 args).run Tryz.prog w = .ok (.enter 65 args) w := enters Tryz.func65 (by decide) (fun h => by cases h)

theorem in_toldSquare : ∀ (w : World) (args : Array Value), (callFunc 34 args).run Tryz.prog w = .ok (.enter 34 args) w := enters Tryz.func34 (by decide) (fun h => by cases h)

theorem dok_len {s : Bool} {z : List Int} {y : Int} (h : dokB s z y = true) : z.length ≤ 100 ∧ Nrm z ∧ -3000 ≤ y ∧ y ≤ 3000 := by
  obtain ⟨h1, h2, h3, -, -⟩ := dok_parts h
  exact ⟨(wok_int h1).2.2.1, (wok_int h1).2.2.2, h2, h3⟩
theorem NV.tel {L V : Int} {d : DE} (h : NV L V d) (hL : -40000 ≤ L) : TelOk d := ⟨h.1.2.1, by have := h.2.1; omega, by have := h.2.2; omega, by have := h.1.1; omega⟩
/-- What a function makes of two squares. -/
def SqFn (FN : FuncId) (V : Nat → Int) (L : Int) (k : Nat) (w : World) (ds1 ds2 : List DE) : Prop :=
  ∀ w' R1 G1 S1 b1 R2 G2 S2 b2, Kept 0 0 w w' → SqG S1 w' R1 k k G1 → Nums b1 S1 w' (k * k) G1 (fun p => ds1.getD p de0) → SqG S2 w' R2 k k G2 → Nums b2 S2 w' (k * k) G2 (fun p => ds2.getD p de0) →
    Calls Tryz.prog FN #[.agg #[.slice (some ⟨R1, 0, none⟩) k k], .agg #[.slice (some ⟨R2, 0, none⟩) k k]] w' fun e w'' => ∃ R G S F, e = .returned (.agg #[.slice (some ⟨R, 0, none⟩) k k]) ∧ SqG S w'' R k k G ∧ Nums w'.heap.size S w'' (k * k) G F ∧ (∀ p, p < k * k → NV L (V p) (F p)) ∧ Kept 0 0 w' w''

set_option maxHeartbeats 16000000 in
theorem ofTwo_impl {lo1 hi1 lo2 hi2 : Nat} {v1 v2 : Value} {ds1 ds2 : List DE} (n1 n2 : Int) (FN : FuncId) (hcf : ∀ (w : World) (args : Array Value), (callFunc FN args).run Tryz.prog w = .ok (.enter FN args) w) (V : Nat → Int) (L : Int) (hL : -40000 ≤ L) (w : World) (hw1 : WfD ds1) (hw2 : WfD ds2) (r1 : Dys lo1 hi1 w v1 ds1) (r2 : Dys lo2 hi2 w v2 ds2) (T : TabB w)
    (H : ∀ k : Nat, n1 = (k : Int) → bothB n1 ds1 n2 ds2 = true → SqFn FN V L k w ds1 ds2) :
    Calls Tryz.prog 37 #[.agg #[.int .i64 n1, v1], .agg #[.int .i64 n2, v2], .func (.func FN) #[] #[]] w fun e w' => ∃ v', e = .returned (.tuple #[.agg #[.int .i64 (twN (bothB n1 ds1 n2 ds2) V L n1), v'], .bool (twB (bothB n1 ds1 n2 ds2) V L n1)]) ∧ DysO w.heap.size w'.heap.size w' v' (twL (bothB n1 ds1 n2 ds2) V L n1) ∧ Kept 0 0 w w' := by
  obtain ⟨W, hW⟩ : ∃ W, W = ((w.alloc (.cells #[.int .i64 n1, v1] 28)).alloc (.cells #[.int .i64 n2, v2] 28)).alloc (.cells #[.int .i64 0, .slice none 0 0] 28) := ⟨_, rfl⟩
  have k0 : Kept 0 0 w W := by rw [hW]; exact (((Kept.refl 0 0 w).alloc _).alloc _).alloc _
  have c0 : W.cell? ⟨w.heap.size, 0, none⟩ = some (.int .i64 n1) := by rw [hW]; exact old_cell _ (old_cell _ (new_cell2 _ _ _ _ _ _ (by simp) rfl))
  have c1 : W.cell? ⟨w.heap.size, 1, none⟩ = some v1 := by rw [hW]; exact old_cell _ (old_cell _ (new_cell2 _ _ _ _ _ _ (by simp) rfl))
  have d0 : W.cell? ⟨w.heap.size + 1, 0, none⟩ = some (.int .i64 n2) := by rw [hW]; exact old_cell _ (new_cell2 _ _ _ _ _ _ (by simp) rfl)
  have d1 : W.cell? ⟨w.heap.size + 1, 1, none⟩ = some v2 := by rw [hW]; exact old_cell _ (new_cell2 _ _ _ _ _ _ (by simp) rfl)
  have q0 : W.cell? ⟨w.heap.size + 2, 0, none⟩ = some (.int .i64 0) := by rw [hW]; exact new_cell2 _ _ _ _ _ _ (by simp) rfl
  have q1 : W.cell? ⟨w.heap.size + 2, 1, none⟩ = some (.slice none 0 0) := by rw [hW]; exact new_cell2 _ _ _ _ _ _ (by simp) rfl
  have f0 : W.frozen? ⟨w.heap.size + 2, 0, none⟩ = false := by rw [hW]; exact new_loose2 _ _ _ _ _ (by simp)
  have f1 : W.frozen? ⟨w.heap.size + 2, 1, none⟩ = false := by rw [hW]; exact new_loose2 _ _ _ _ _ (by simp)
  have sW : W.heap.size = w.heap.size + 3 := by rw [hW]; simp
  have r10 := r1.kept k0 (by omega)
  have r20 := r2.kept k0 (by omega)
  have ho := matOk_impl n1 W hw1 r10
  have ho2 := fun w1 (k1 : Kept 0 0 W w1) => matOk_impl n2 w1 hw2 (r20.kept k1 (by omega))
  have HO2 := hide ho2
  have R10 := hide r10
  have R20 := hide r20
  obtain ⟨a1, e1, rfl, -, -⟩ := r1.form
  obtain ⟨a2, e2, rfl, -, -⟩ := r2.form
  rw [hW] at ho
  have HH := hide H
  have TT := hide T
  have hT := World.block_lt_of_cell? _ _ (T 0 (by decide))
  have HT := hide hT
  have K0 := hide k0
  have SW := hide sW
  clear r1 r2 r10 r20 T hT H ho2 sW
  go_enter Tryz.func37, Tryz.ntmps37
  go_wp2_with fail
  rw [← hW] at ho ⊢
  clear hW
  refine ho.mono ?_
  rintro e w1 ⟨rfl, k1⟩
  replace f0 := k1.loose0 (World.block_lt_of_cell? _ _ q0) f0
  replace f1 := k1.loose0 (World.block_lt_of_cell? _ _ q1) f1
  replace c0 := k1.cell0 c0
  replace c1 := k1.cell0 c1
  replace d0 := k1.cell0 d0
  replace d1 := k1.cell0 d1
  replace q0 := k1.cell0 q0
  replace q1 := k1.cell0 q1
  have hB2 := unhide HO2 w1 k1
  have KW := hide (k0.trans k1)
  have K1 := hide k1
  have z1 := k1.size
  have sW := unhide SW
  clear ho k0 HO2 k1
  cases hk : mokB n1 ds1
  · have HB : Hid (bothB n1 ds1 n2 ds2 = false) := by show _ = _; unfold bothB; rw [hk]; rfl
    have K7 := hide (((unhide KW).setNew (p := ⟨w.heap.size + 2, 0, none⟩) (by dsimp only; omega) (.int .i64 0)).setNew (p := ⟨w.heap.size + 2, 1, none⟩) (by dsimp only; omega) (.slice none 0 0))
    clear hk hB2 KW
    go_wp2
    exact bodyPost_ret (v := .tuple #[.agg #[.int .i64 0, .slice none 0 0], .bool false]) (by simp [results, Tryz.results37, go_sem, q0, q1]) rfl ⟨.slice none 0 0, by rw [unhide HB, (tw_no V L n1).1, (tw_no V L n1).2.2], by rw [unhide HB, (tw_no V L n1).2.1]; exact DysO.void _ _ _, unhide K7⟩
  have HK1 := hide hk
  clear hk
  go_wp2_with fail
  refine hB2.mono ?_
  rintro e w2 ⟨rfl, k2⟩
  replace f0 := k2.loose0 (World.block_lt_of_cell? _ _ q0) f0
  replace f1 := k2.loose0 (World.block_lt_of_cell? _ _ q1) f1
  replace c0 := k2.cell0 c0
  replace c1 := k2.cell0 c1
  replace d0 := k2.cell0 d0
  replace d1 := k2.cell0 d1
  replace q0 := k2.cell0 q0
  replace q1 := k2.cell0 q1
  replace KW := hide ((unhide KW).trans k2)
  replace K1 := hide ((unhide K1).trans k2)
  have z2 := k2.size
  clear hB2 k2
  cases hk : mokB n2 ds2
  · have HB : Hid (bothB n1 ds1 n2 ds2 = false) := by show _ = _; unfold bothB; rw [hk]; simp
    have K7 := hide (((unhide KW).setNew (p := ⟨w.heap.size + 2, 0, none⟩) (by dsimp only; omega) (.int .i64 0)).setNew (p := ⟨w.heap.size + 2, 1, none⟩) (by dsimp only; omega) (.slice none 0 0))
    clear hk KW
    go_wp2
    exact bodyPost_ret (v := .tuple #[.agg #[.int .i64 0, .slice none 0 0], .bool false]) (by simp [results, Tryz.results37, go_sem, q0, q1]) rfl ⟨.slice none 0 0, by rw [unhide HB, (tw_no V L n1).1, (tw_no V L n1).2.2], by rw [unhide HB, (tw_no V L n1).2.1]; exact DysO.void _ _ _, unhide K7⟩
  have HK2 := hide hk
  clear hk
  by_cases hne : n1 = n2
  rotate_left
  · have HB : Hid (bothB n1 ds1 n2 ds2 = false) := by show _ = _; unfold bothB; rw [decide_eq_false hne]; simp
    have K7 := hide (((unhide KW).setNew (p := ⟨w.heap.size + 2, 0, none⟩) (by dsimp only; omega) (.int .i64 0)).setNew (p := ⟨w.heap.size + 2, 1, none⟩) (by dsimp only; omega) (.slice none 0 0))
    clear KW
    go_wp2
    exact bodyPost_ret (v := .tuple #[.agg #[.int .i64 0, .slice none 0 0], .bool false]) (by simp [results, Tryz.results37, go_sem, q0, q1]) rfl ⟨.slice none 0 0, by rw [unhide HB, (tw_no V L n1).1, (tw_no V L n1).2.2], by rw [unhide HB, (tw_no V L n1).2.1]; exact DysO.void _ _ _, unhide K7⟩
  subst hne
  have hbo : bothB n1 ds1 n1 ds2 = true := by unfold bothB; rw [unhide HK1, unhide HK2]; simp
  obtain ⟨u1, u2, u3, U⟩ := mok_partsA (unhide HK1)
  obtain ⟨-, -, u5, U2⟩ := mok_partsA (unhide HK2)
  obtain ⟨k, rfl⟩ := Int.eq_ofNat_of_zero_le (show 0 ≤ n1 by omega)
  have hlen : ds1.length = k * k := by rw [← Int.natCast_mul] at u3; omega
  have hlen2 : ds2.length = k * k := by rw [← Int.natCast_mul] at u5; omega
  have HBO := hide hbo
  have hsf := unhide HH k rfl hbo
  have HSF := hide hsf
  have HKK := hide (show 0 < k ∧ k ≤ 4 by omega)
  have kd := (Kept.refl 0 0 w2).drew
  have h1s := squareOf_impl w2.drew (show k ≤ 1000 by omega) hlen (fun q hq => by have := (dok_len (U q hq)).1; omega) (((unhide R10).kept (unhide K1) (by omega)).kept kd (by omega))
  have h2s := fun w' (k' : Kept 0 0 w2.drew w') => squareOf_impl w' (show k ≤ 1000 by omega) hlen2 (fun q hq => by have := (dok_len (U2 q hq)).1; omega) ((((unhide R20).kept (unhide K1) (by omega)).kept kd (by omega)).kept k' (by omega))
  have H2S := hide h2s
  replace KW := hide ((unhide KW).trans kd)
  have KD := hide kd
  clear hbo hsf u1 u2 u3 u5 U U2 hlen hlen2 h2s HK1 HK2 HH kd R10 R20 K1
  go_wp2_with fail
  have kd := unhide KD
  replace f0 := kd.loose0 (World.block_lt_of_cell? _ _ q0) f0
  replace f1 := kd.loose0 (World.block_lt_of_cell? _ _ q1) f1
  replace c0 := kd.cell0 c0
  replace c1 := kd.cell0 c1
  replace d0 := kd.cell0 d0
  replace d1 := kd.cell0 d1
  replace q0 := kd.cell0 q0
  replace q1 := kd.cell0 q1
  clear kd KD
  refine wp_region_held_drew (S := (fun w' => w'.cell? ⟨w.heap.size, 0, none⟩ = some (.int .i64 (k : Int)) ∧ w'.cell? ⟨w.heap.size, 1, none⟩ = some (.slice a1 ds1.length e1) ∧ w'.cell? ⟨w.heap.size + 1, 0, none⟩ = some (.int .i64 (k : Int)) ∧ w'.cell? ⟨w.heap.size + 1, 1, none⟩ = some (.slice a2 ds2.length e2))) (by kernel_rfl) ?_ (fun hHeld => ?_)
  · exact ⟨c0, c1, d0, d1⟩
  refine wpAnyH_take (i := 0) (oi := _) (v := .func (.func FN) #[] #[]) rfl (by kernel_rfl) (by kernel_rfl) (by kernel_rfl) (fun _ _ _ h => h) (Or.inl ⟨by rfl, ?_⟩) hHeld ?_
  · intro wq hSw
    try dsimp only at hSw
    go_simp
  try simp only [Act.put, List.getElem_toArray, List.getElem_cons_succ, List.getElem_cons_zero, List.setIfInBounds_toArray, List.set_cons_zero, List.set_cons_succ]
  refine wpAnyH_take (i := 1) (oi := _) (v := .agg #[.int .i64 (k : Int), .slice a1 ds1.length e1]) rfl (by kernel_rfl) (by kernel_rfl) (by kernel_rfl) (fun _ _ _ h => h) (Or.inl ⟨by rfl, ?_⟩) hHeld ?_
  · intro wq hSw
    try dsimp only at hSw
    go_simp
  try simp only [Act.put, List.getElem_toArray, List.getElem_cons_succ, List.getElem_cons_zero, List.setIfInBounds_toArray, List.set_cons_zero, List.set_cons_succ]
  refine wpAnyH_take (i := 3) (oi := _) (v := .agg #[.int .i64 (k : Int), .slice a2 ds2.length e2]) rfl (by kernel_rfl) (by kernel_rfl) (by kernel_rfl) (fun _ _ _ h => h) (Or.inl ⟨by rfl, ?_⟩) hHeld ?_
  · intro wq hSw
    try dsimp only at hSw
    go_simp
  try simp only [Act.put, List.getElem_toArray, List.getElem_cons_succ, List.getElem_cons_zero, List.setIfInBounds_toArray, List.set_cons_zero, List.set_cons_succ]
  refine wpAnyH_ready (rs := [2]) (by kernel_rfl) (by simp) ?_
  refine AllReadyH.cons rfl (fun KK hK => ?_) AllReadyH.nil
  simp only [List.getElem_toArray, List.getElem_cons_succ, List.getElem_cons_zero]
  rw [if_pos (by rfl)]
  refine wps1 65 (.tmp 25) _ rfl in_squareOf (.agg #[.int .i64 (k : Int), .slice a1 ds1.length e1]) rfl h1s ?_
  rintro e w3 ⟨R1, G1, S1, rfl, sq1, nm1, hS1, k3⟩
  refine ⟨_, rfl, ?_⟩
  have h2t := unhide H2S w3 k3
  replace f0 := k3.loose0 (World.block_lt_of_cell? _ _ q0) f0
  replace f1 := k3.loose0 (World.block_lt_of_cell? _ _ q1) f1
  replace c0 := k3.cell0 c0
  replace c1 := k3.cell0 c1
  replace d0 := k3.cell0 d0
  replace d1 := k3.cell0 d1
  replace q0 := k3.cell0 q0
  replace q1 := k3.cell0 q1
  replace KW := hide ((unhide KW).trans k3)
  have z3 : w2.heap.size ≤ w3.heap.size := k3.size
  have SQ1 := hide sq1
  have NM1 := hide nm1
  clear h1s H2S sq1 nm1 hS1 k3
  clear hHeld
  refine hK.out _ _ ?_ (fun hHeld => ?_)
  · exact ⟨c0, c1, d0, d1⟩
  clear hK KK
  try simp only [Act.put, List.getElem_toArray, List.getElem_cons_succ, List.getElem_cons_zero, List.setIfInBounds_toArray, List.set_cons_zero, List.set_cons_succ]
  refine wpAnyH_ready (rs := [4]) (by kernel_rfl) (by simp) ?_
  refine AllReadyH.cons rfl (fun KK hK => ?_) AllReadyH.nil
  simp only [List.getElem_toArray, List.getElem_cons_succ, List.getElem_cons_zero]
  rw [if_pos (by rfl)]
  refine wps1 65 (.tmp 27) _ rfl in_squareOf (.agg #[.int .i64 (k : Int), .slice a2 ds2.length e2]) rfl h2t ?_
  rintro e w4 ⟨R2, G2, S2, rfl, sq2, nm2, hS2, k4⟩
  refine ⟨_, rfl, ?_⟩
  have hfn := unhide HSF w4 R1 G1 S1 _ R2 G2 S2 _ ((unhide KW).trans k4) ((unhide SQ1).kept k4) (Nums.mod (unhide NM1) k4.toMod) sq2 nm2
  replace f0 := k4.loose0 (World.block_lt_of_cell? _ _ q0) f0
  replace f1 := k4.loose0 (World.block_lt_of_cell? _ _ q1) f1
  replace c0 := k4.cell0 c0
  replace c1 := k4.cell0 c1
  replace d0 := k4.cell0 d0
  replace d1 := k4.cell0 d1
  replace q0 := k4.cell0 q0
  replace q1 := k4.cell0 q1
  replace KW := hide ((unhide KW).trans k4)
  have z4 := k4.size
  clear h2t HSF SQ1 NM1 sq2 nm2 hS2 k4
  clear hHeld
  refine hK.out _ _ ?_ (fun hHeld => ?_)
  · exact ⟨c0, c1, d0, d1⟩
  clear hK KK
  try simp only [Act.put, List.getElem_toArray, List.getElem_cons_succ, List.getElem_cons_zero, List.setIfInBounds_toArray, List.set_cons_zero, List.set_cons_succ]
  refine wpAnyH_ready (rs := [5]) (by kernel_rfl) (by simp) ?_
  refine AllReadyH.cons rfl (fun KK hK => ?_) AllReadyH.nil
  simp only [List.getElem_toArray, List.getElem_cons_succ, List.getElem_cons_zero]
  rw [if_pos (by rfl)]
  refine wpv2c FN (.tmp 24) (.tmp 26) (.tmp 28) _ #[] rfl rfl hcf (.agg #[.slice (some ⟨R1, 0, none⟩) k k]) (.agg #[.slice (some ⟨R2, 0, none⟩) k k]) rfl rfl hfn ?_
  rintro e w5 ⟨R5, G5, S5, F5, rfl, sq5, nm5, hq5, k5⟩
  refine ⟨_, rfl, ?_⟩
  obtain ⟨t1, t2, t3⟩ := tw_tel (k := k) (V := V) (L := L) (F := F5) (fun p hp => (hq5 p hp).1)
  have hts := toldSquare_impl (unhide HKK).1 (by have := (unhide HKK).2; omega) w5 sq5 nm5 (fun p hp => (hq5 p hp).tel hL) (fun q hq => ((unhide KW).trans k5).cell0 (unhide TT q hq)) (Nat.lt_of_lt_of_le (unhide HT) (unhide KW).size)
  rw [t1, t2, t3] at hts
  replace f0 := k5.loose0 (World.block_lt_of_cell? _ _ q0) f0
  replace f1 := k5.loose0 (World.block_lt_of_cell? _ _ q1) f1
  replace c0 := k5.cell0 c0
  replace c1 := k5.cell0 c1
  replace d0 := k5.cell0 d0
  replace d1 := k5.cell0 d1
  replace q0 := k5.cell0 q0
  replace q1 := k5.cell0 q1
  replace KW := hide ((unhide KW).trans k5)
  have z5 := k5.size
  obtain ⟨X1, hX1⟩ : ∃ x, x = twN true V L (k : Int) := ⟨_, rfl⟩
  obtain ⟨X2, hX2⟩ : ∃ x, x = twB true V L (k : Int) := ⟨_, rfl⟩
  obtain ⟨X3, hX3⟩ : ∃ x, x = twL true V L (k : Int) := ⟨_, rfl⟩
  rw [← hX1, ← hX2, ← hX3] at hts
  have HX1 := hide hX1
  have HX2 := hide hX2
  have HX3 := hide hX3
  clear hfn sq5 nm5 hq5 k5 t1 t2 t3 hX1 hX2 hX3 TT HT
  clear hHeld
  refine hK.out _ _ ?_ (fun hHeld => ?_)
  · exact ⟨c0, c1, d0, d1⟩
  clear hK KK
  try simp only [Act.put, List.getElem_toArray, List.getElem_cons_succ, List.getElem_cons_zero, List.setIfInBounds_toArray, List.set_cons_zero, List.set_cons_succ]
  refine wpAnyH_ready (rs := [6]) (by kernel_rfl) (by simp) ?_
  refine AllReadyH.cons rfl (fun KK hK => ?_) AllReadyH.nil
  simp only [List.getElem_toArray, List.getElem_cons_succ, List.getElem_cons_zero]
  rw [if_pos (by rfl)]
  refine wps1 34 (.tmp 29) _ rfl in_toldSquare (.agg #[.slice (some ⟨R5, 0, none⟩) k k]) rfl hts ?_
  rintro e w6 ⟨v6, rfl, r6, k6⟩
  refine ⟨_, rfl, ?_⟩
  obtain ⟨a6, e6, hv6⟩ := r6.form'
  subst hv6
  replace f0 := k6.looseOut (a := ⟨w.heap.size + 2, 0, none⟩) (.inl (by dsimp only; omega)) (World.block_lt_of_cell? _ _ q0) f0
  replace f1 := k6.looseOut (a := ⟨w.heap.size + 2, 1, none⟩) (.inl (by dsimp only; omega)) (World.block_lt_of_cell? _ _ q1) f1
  replace q0 := k6.cellOut (a := ⟨w.heap.size + 2, 0, none⟩) (.inl (by dsimp only; omega)) q0
  replace q1 := k6.cellOut (a := ⟨w.heap.size + 2, 1, none⟩) (.inl (by dsimp only; omega)) q1
  replace c0 := k6.cellOut (a := ⟨w.heap.size, 0, none⟩) (.inl (by dsimp only; omega)) c0
  replace c1 := k6.cellOut (a := ⟨w.heap.size, 1, none⟩) (.inl (by dsimp only; omega)) c1
  replace d0 := k6.cellOut (a := ⟨w.heap.size + 1, 0, none⟩) (.inl (by dsimp only; omega)) d0
  replace d1 := k6.cellOut (a := ⟨w.heap.size + 1, 1, none⟩) (.inl (by dsimp only; omega)) d1
  have z6 := k6.size
  have K6 := hide ((unhide KW).wide k6 (by omega))
  have R6 := hide r6
  clear hts r6 k6 KW
  clear hHeld
  refine hK.out _ _ ?_ (fun hHeld => ?_)
  · exact ⟨c0, c1, d0, d1⟩
  clear hK KK
  try simp only [Act.put, List.getElem_toArray, List.getElem_cons_succ, List.getElem_cons_zero, List.setIfInBounds_toArray, List.set_cons_zero, List.set_cons_succ]
  refine wpAnyH_take (i := 7) (oi := _) (v := .agg #[.int .i64 X1, .slice a6 X3.length e6]) rfl (by kernel_rfl) (by kernel_rfl) (by kernel_rfl) (fun _ _ _ h => h) (Or.inl ⟨by rfl, ?_⟩) hHeld ?_
  · intro wq hSw
    try dsimp only at hSw
    go_simp
  try simp only [Act.put, List.getElem_toArray, List.getElem_cons_succ, List.getElem_cons_zero, List.setIfInBounds_toArray, List.set_cons_zero, List.set_cons_succ]
  refine wpAnyH_take (i := 8) (oi := _) (v := .bool X2) rfl (by kernel_rfl) (by kernel_rfl) (by kernel_rfl) (fun _ _ _ h => h) (Or.inl ⟨by rfl, ?_⟩) hHeld ?_
  · intro wq hSw
    try dsimp only at hSw
    go_simp
  try simp only [Act.put, List.getElem_toArray, List.getElem_cons_succ, List.getElem_cons_zero, List.setIfInBounds_toArray, List.set_cons_zero, List.set_cons_succ]
  refine wpAnyH_ready (rs := [9]) (by kernel_rfl) (by simp) ?_
  refine AllReadyH.cons rfl (fun KK hK => ?_) AllReadyH.nil
  simp only [List.getElem_toArray, List.getElem_cons_succ, List.getElem_cons_zero]
  rw [if_pos (by rfl)]
  go_simp
  clear hHeld
  refine hK.out _ _ ?_ (fun hHeld => ?_)
  · exact ⟨cell_aside _ (by dsimp only; omega) (cell_aside _ (by dsimp only; omega) c0), cell_aside _ (by dsimp only; omega) (cell_aside _ (by dsimp only; omega) c1), cell_aside _ (by dsimp only; omega) (cell_aside _ (by dsimp only; omega) d0), cell_aside _ (by dsimp only; omega) (cell_aside _ (by dsimp only; omega) d1)⟩
  clear hK KK
  try simp only [Act.put, List.getElem_toArray, List.getElem_cons_succ, List.getElem_cons_zero, List.setIfInBounds_toArray, List.set_cons_zero, List.set_cons_succ]
  refine wpAnyH_take (i := 10) (oi := _) (v := .bool X2) rfl (by kernel_rfl) (by kernel_rfl) (by kernel_rfl) (fun _ _ _ h => h) (Or.inl ⟨by rfl, ?_⟩) hHeld ?_
  · intro wq hSw
    try dsimp only at hSw
    go_simp
  try simp only [Act.put, List.getElem_toArray, List.getElem_cons_succ, List.getElem_cons_zero, List.setIfInBounds_toArray, List.set_cons_zero, List.set_cons_succ]
  refine wpAnyH_done (by kernel_rfl) ?_ _
  clear hHeld
  have ks : Kept (w.heap.size + 2) (w.heap.size + 3) w6 ((w6.setCell ⟨w.heap.size + 2, 0, none⟩ (.int .i64 X1)).setCell ⟨w.heap.size + 2, 1, none⟩ (.slice a6 X3.length e6)) := ((Kept.refl _ _ _).setCell (p := ⟨w.heap.size + 2, 0, none⟩) (Nat.le_refl _) (Nat.lt_succ_self _) _).setCell (p := ⟨w.heap.size + 2, 1, none⟩) (Nat.le_refl _) (Nat.lt_succ_self _) _
  have hsz : ((w6.setCell ⟨w.heap.size + 2, 0, none⟩ (.int .i64 X1)).setCell ⟨w.heap.size + 2, 1, none⟩ (.slice a6 X3.length e6)).heap.size = w6.heap.size := by rw [size_set, size_set]
  have DD := hide (((unhide R6).kept ks (by omega)).wider (lo' := w.heap.size) (hi' := ((w6.setCell ⟨w.heap.size + 2, 0, none⟩ (.int .i64 X1)).setCell ⟨w.heap.size + 2, 1, none⟩ (.slice a6 X3.length e6)).heap.size) (by omega) (by omega))
  have K7 := hide ((unhide K6).wide ks (by omega))
  have G0 := cell_off _ _ _ 1 (.slice a6 X3.length e6) _ (cell_on _ _ _ (.int .i64 X1) _ q0) (show (0 : Nat) ≠ 1 by omega)
  have G1 := cell_on _ _ _ (.slice a6 X3.length e6) _ (cell_off _ _ _ 0 (.int .i64 X1) _ q1 (show (1 : Nat) ≠ 0 by omega))
  clear ks hsz R6 K6
  go_wp2_with fail
  exact bodyPost_ret (v := .tuple #[.agg #[.int .i64 X1, .slice a6 X3.length e6], .bool X2]) (by simp [results, Tryz.results37, go_sem, G0, G1]) rfl ⟨_, by rw [unhide HBO, unhide HX1, unhide HX2], by rw [unhide HBO, ← unhide HX3]; exact unhide DD, unhide K7⟩

end Go.Proofs.YtefnblaphkookaaGreatDoor
