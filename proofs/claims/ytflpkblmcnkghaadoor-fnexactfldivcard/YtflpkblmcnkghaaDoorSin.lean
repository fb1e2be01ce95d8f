/-
  The program's standIn.
-/
import Derived.Test.YtflpkblmcnkghaaDoorBI
import Derived.Test.YtflpkblmcnkghaaDoorBR
import Derived.Test.YtflpkblmcnkghaaDoorBN
namespace Go.Proofs.YtflpkblmcnkghaaDoor
open Go.RowKit
set_option linter.unusedVariables false
set_option maxRecDepth 8000
set_option linter.unusedSimpArgs false

theorem limbs_ne_nil {n : Nat} (h : n ≠ 0) : limbs n ≠ [] := by
  intro e
  have e3 := limbs_val n
  rw [e] at e3
  simp [val] at e3
  omega

theorem shl1_len (n : Nat) {j : Nat} (h : (limbs n).length ≤ j) : (limbs (n * 2)).length ≤ j + 1 := by
  have e := (limbs_len_two _ _).1 h
  refine (limbs_len_two _ _).2 ?_
  have e2 : 2 ^ (16 * (j + 1)) = 2 ^ (16 * j) * 65536 := by rw [Nat.mul_add, Nat.pow_add]
  rw [e2]
  generalize 2 ^ (16 * j) = T at *
  omega

set_option maxHeartbeats 4000000 in
theorem standIn_impl {b g H : Nat} {v : Value} {s mo : Bool} {low : Int} {w0 : World} (w : World) (h : Num b w g v (limbs H)) (hH : H ≠ 0) (lH : (limbs H).length ≤ 2000) (d : Sd w g s) (ex : Ex w g low) (m : Mo w g mo) (k : Kept 0 0 w0 w) (hg : w0.heap.size ≤ g) (l0 : -100000 ≤ low) (l1 : low ≤ 100000) :
    Calls Tryd.prog 48 #[.pointer (some ⟨g, 0, none⟩)] w fun e w' => ∃ u, e = .returned (.agg #[u, .bool s, .int .i64 (low - 2)]) ∧ w'.ownsRow w.heap.size 3 1 u (limbs (2 * H + (if mo = true then 1 else 0))).length ((limbs (2 * H + (if mo = true then 1 else 0))).map (Value.int .i64)) ∧ Kept 0 0 w0 w' ∧ w.heap.size ≤ w'.heap.size := by
  obtain ⟨Z, hZ⟩ : ∃ Z, limbs (2 * H + (if mo = true then 1 else 0)) = Z := ⟨_, rfl⟩
  rw [hZ]
  have HZ := hide hZ
  clear hZ
  have hw1 : IntKind.i64.wrap (low - 2) = low - 2 := w64 _ (by omega) (by omega)
  obtain ⟨W, hW⟩ : ∃ W, W = w.alloc (.cells #[.slice none 0 0, .bool false, .int .i64 0] 72) := ⟨_, rfl⟩
  have ka : Kept 0 0 w W := by rw [hW]; exact (Kept.refl 0 0 w).alloc _
  have sz : W.heap.size = w.heap.size + 1 := by rw [hW]; simp
  have q0 : W.cell? ⟨w.heap.size, 0, none⟩ = some (.slice none 0 0) := by rw [hW]; exact new_cell2 _ _ _ _ _ _ (by simp) rfl
  have q1 : W.cell? ⟨w.heap.size, 1, none⟩ = some (.bool false) := by rw [hW]; exact new_cell2 _ _ _ _ _ _ (by simp) rfl
  have q2 : W.cell? ⟨w.heap.size, 2, none⟩ = some (.int .i64 0) := by rw [hW]; exact new_cell2 _ _ _ _ _ _ (by simp) rfl
  have qf : ∀ o, o < 3 → W.frozen? ⟨w.heap.size, o, none⟩ = false := fun o ho => by rw [hW]; exact new_loose2 _ _ _ _ _ (by simp)
  have hlt := h.lt
  have n := h.kept ka
  have d1 := ka.cell0 d.1
  have e1 := ka.cell0 ex.1
  have m1 := ka.cell0 m.1
  replace k := k.trans ka
  have mk := shiftUp_S W n (limbs_lim H) (limbs_ne_nil hH) (by omega) 1 (by omega)
  rw [limbs_val, Int.toNat_natCast, Nat.pow_one] at mk
  have HS := hide mk
  have HW := hide hW
  obtain ⟨ZH, hZH⟩ : ∃ Z, limbs (H * 2) = Z := ⟨_, rfl⟩
  have lZ : ZH.length ≤ 2001 := by rw [← hZH]; exact shl1_len H lH
  have nZ : Nrm ZH := by rw [← hZH]; exact limbs_nrm _
  have vZ : val ZH = ((H * 2 : Nat) : Int) := by rw [← hZH]; exact limbs_val _
  rw [hZH] at HS
  have HZH := hide hZH
  clear mk hW hZH n h d ex m ka
  go_enter Tryd.func48, Tryd.ntmps48
  go_wp2_with fail
  rw [← unhide HW]
  refine (unhide HS).mono ?_
  rintro e w1 ⟨⟨r1, rfl⟩, u1, n1, md, sd⟩
  clear HS HW
  have nR : ¬ (w.heap.size = g) := by omega
  replace q0 := md.cell (a := ⟨w.heap.size, 0, none⟩) nR q0
  replace q1 := md.cell (a := ⟨w.heap.size, 1, none⟩) nR q1
  replace q2 := md.cell (a := ⟨w.heap.size, 2, none⟩) nR q2
  have qf0 := md.loose (a := ⟨w.heap.size, 0, none⟩) nR (by simp only; omega) (qf 0 (by omega))
  have qf1 := md.loose (a := ⟨w.heap.size, 1, none⟩) nR (by simp only; omega) (qf 1 (by omega))
  have qf2 := md.loose (a := ⟨w.heap.size, 2, none⟩) nR (by simp only; omega) (qf 2 (by omega))
  replace d1 := (sd 1 (by omega)).1.trans d1
  replace e1 := (sd 2 (by omega)).1.trans e1
  replace m1 := (sd 3 (by omega)).1.trans m1
  replace k := k.mod md (fun i e => by omega)
  have s1 := md.size
  clear md sd qf
  obtain ⟨a1, c1, hv⟩ := n1.form
  subst hv
  have c0 := n1.cell
  cases mo
  ·have hz : ZH = Z := by rw [← unhide HZH, ← unhide HZ, if_neg (by decide), Nat.mul_comm, Nat.add_zero]
   subst hz
   have l1' := n1.own.lt
   have o1 := n1.own
   clear n1 HZ HZH vZ nZ lZ
   generalize w1 = w9 at *
   go_upto_region 5 with fail
   have kd := (Kept.refl 0 0 w9).drew
   replace q0 := kd.cell0 q0
   replace q1 := kd.cell0 q1
   replace q2 := kd.cell0 q2
   replace d1 := kd.cell0 d1
   replace e1 := kd.cell0 e1
   replace c0 := kd.cell0 c0
   replace qf0 := kd.loose0 (zbl q0) qf0
   replace qf1 := kd.loose0 (zbl q1) qf1
   replace qf2 := kd.loose0 (zbl q2) qf2
   replace o1 := own_kept o1 kd
   replace k := k.trans kd
   have zd := kd.size
   clear kd
   refine wp_region_held_drew (S := (fun w' => w'.cell? ⟨g, 0, none⟩ = some (.slice a1 ZH.length c1) ∧ w'.cell? ⟨g, 1, none⟩ = some (.bool s) ∧ w'.cell? ⟨g, 2, none⟩ = some (.int .i64 low))) (by kernel_rfl) ?_ (fun hH => ?_)
   ·exact ⟨c0, d1, e1⟩
   generalize w9.drew = w8 at *
   refine wpAnyH_take (i := 0) (v := .pointer (some ⟨g, 0, none⟩)) rfl (by kernel_rfl) (by kernel_rfl) (by kernel_rfl) (fun _ _ _ h => h) (Or.inl ⟨by rfl, ?_⟩) hH ?_
   ·intro wq hSw
    try dsimp only at hSw
    go_simp
   try simp only [Act.put, zq1, zq2, zq3, zq4, zq5, zq6]
   refine wpAnyH_take (i := 1) (v := .pointer (some ⟨g, 0, none⟩)) rfl (by kernel_rfl) (by kernel_rfl) (by kernel_rfl) (fun _ _ _ h => h) (Or.inl ⟨by rfl, ?_⟩) hH ?_
   ·intro wq hSw
    try dsimp only at hSw
    go_simp
   try simp only [Act.put, zq1, zq2, zq3, zq4, zq5, zq6]
   refine wpAnyH_take (i := 2) (v := .pointer (some ⟨g, 0, none⟩)) rfl (by kernel_rfl) (by kernel_rfl) (by kernel_rfl) (fun _ _ _ h => h) (Or.inl ⟨by rfl, ?_⟩) hH ?_
   ·intro wq hSw
    try dsimp only at hSw
    go_simp
   try simp only [Act.put, zq1, zq2, zq3, zq4, zq5, zq6]
   refine wpAnyH_take (i := 3) (v := .agg #[.slice a1 ZH.length c1, .bool s]) rfl (by kernel_rfl) (by kernel_rfl) (by kernel_rfl) (fun _ _ _ h => h) (Or.inl ⟨by rfl, ?_⟩) hH ?_
   ·intro wq hSw
    try dsimp only at hSw
    go_simp
   try simp only [Act.put, zq1, zq2, zq3, zq4, zq5, zq6]
   refine wpAnyH_take (i := 4) (v := .pointer (some ⟨g, 0, none⟩)) rfl (by kernel_rfl) (by kernel_rfl) (by kernel_rfl) (fun _ _ _ h => h) (Or.inl ⟨by rfl, ?_⟩) hH ?_
   ·intro wq hSw
    try dsimp only at hSw
    go_simp
   try simp only [Act.put, zq1, zq2, zq3, zq4, zq5, zq6]
   refine wpAnyH_take (i := 5) (v := .pointer (some ⟨g, 0, none⟩)) rfl (by kernel_rfl) (by kernel_rfl) (by kernel_rfl) (fun _ _ _ h => h) (Or.inl ⟨by rfl, ?_⟩) hH ?_
   ·intro wq hSw
    try dsimp only at hSw
    go_simp
   try simp only [Act.put, zq1, zq2, zq3, zq4, zq5, zq6]
   refine wpAnyH_take (i := 6) (v := .pointer (some ⟨g, 2, none⟩)) rfl (by kernel_rfl) (by kernel_rfl) (by kernel_rfl) (fun _ _ _ h => h) (Or.inl ⟨by rfl, ?_⟩) hH ?_
   ·intro wq hSw
    try dsimp only at hSw
    go_simp
   try simp only [Act.put, zq1, zq2, zq3, zq4, zq5, zq6]
   refine wpAnyH_take (i := 7) (v := .int .i64 low) rfl (by kernel_rfl) (by kernel_rfl) (by kernel_rfl) (fun _ _ _ h => h) (Or.inl ⟨by rfl, ?_⟩) hH ?_
   ·intro wq hSw
    try dsimp only at hSw
    go_simp
   try simp only [Act.put, zq1, zq2, zq3, zq4, zq5, zq6]
   refine wpAnyH_take (i := 8) (v := .int .i64 (low - 2)) rfl (by kernel_rfl) (by kernel_rfl) (by kernel_rfl) (fun _ _ _ h => h) (Or.inl ⟨by rfl, ?_⟩) hH ?_
   ·intro wq hSw
    try dsimp only at hSw
    go_simp
   try simp only [Act.put, zq1, zq2, zq3, zq4, zq5, zq6]
   refine wpAnyH_take (i := 9) (v := .agg #[.slice a1 ZH.length c1, .bool s, .int .i64 (low - 2)]) rfl (by kernel_rfl) (by kernel_rfl) (by kernel_rfl) (fun _ _ _ h => h) (Or.inl ⟨by rfl, ?_⟩) hH ?_
   ·intro wq hSw
    try dsimp only at hSw
    go_simp
   try simp only [Act.put, zq1, zq2, zq3, zq4, zq5, zq6]
   refine wpAnyH_ready (rs := [10]) (by kernel_rfl) (by simp) ?_
   refine AllReadyH.cons rfl (fun KK hK => ?_) AllReadyH.nil
   simp only [zq1, zq2, zq3]
   rw [if_pos (by rfl)]
   go_simp
   clear hH
   refine hK.out _ _ ?_ (fun hH => ?_)
   ·exact ⟨cell_aside _ (by dsimp only; omega) (cell_aside _ (by dsimp only; omega) (cell_aside _ (by dsimp only; omega) c0)), cell_aside _ (by dsimp only; omega) (cell_aside _ (by dsimp only; omega) (cell_aside _ (by dsimp only; omega) d1)), cell_aside _ (by dsimp only; omega) (cell_aside _ (by dsimp only; omega) (cell_aside _ (by dsimp only; omega) e1))⟩
   clear hK KK
   try simp only [Act.put, zq1, zq2, zq3, zq4, zq5, zq6]
   refine wpAnyH_done (by kernel_rfl) ?_ _
   clear hH
   have OF := hide (own_less (base' := w.heap.size) (own_apart (own_apart (own_apart o1 (p := ⟨w.heap.size, 0, none⟩) (fun e => by have := (l1' _ e).1; simp only at this; omega) (.slice a1 ZH.length c1)) (p := ⟨w.heap.size, 1, none⟩) (fun e => by have := (l1' _ e).1; simp only at this; omega) (.bool s)) (p := ⟨w.heap.size, 2, none⟩) (fun e => by have := (l1' _ e).1; simp only at this; omega) (.int .i64 (low - 2))) (by omega))
   have hk0 : w0.heap.size ≤ w.heap.size := by omega
   have KF := hide (((k.setNew (p := ⟨w.heap.size, 0, none⟩) hk0 (.slice a1 ZH.length c1)).setNew (p := ⟨w.heap.size, 1, none⟩) hk0 (.bool s)).setNew (p := ⟨w.heap.size, 2, none⟩) hk0 (.int .i64 (low - 2)))
   have ZF : Hid (w.heap.size ≤ (((w8.setCell ⟨w.heap.size, 0, none⟩ (.slice a1 ZH.length c1)).setCell ⟨w.heap.size, 1, none⟩ (.bool s)).setCell ⟨w.heap.size, 2, none⟩ (.int .i64 (low - 2))).heap.size) := by show _ ≤ _; rw [size_set, size_set, size_set]; omega
   clear o1 k l1'
   go_wp2_with fail
   exact bodyPost_ret (v := .agg #[.slice a1 ZH.length c1, .bool s, .int .i64 (low - 2)]) (by simp [results, Tryd.results48, go_sem, q0, q1, q2]) rfl ⟨_, rfl, unhide OF, unhide KF, unhide ZF⟩
  ·go_wp2_with fail
   obtain ⟨ZO, hZO⟩ : ∃ Z, limbs (1 : Int).toNat = Z := ⟨_, rfl⟩
   have nO : Nrm ZO := by rw [← hZO]; exact limbs_nrm _
   have lO : ZO.length ≤ 4 := by rw [← hZO]; decide
   have vO : val ZO = 1 := by rw [← hZO, limbs_val]; rfl
   have mk := limbsOfInt_impl w1 1 (by omega)
   rw [hZO] at mk
   clear hZO
   refine mk.mono ?_
   rintro e w4 ⟨v4, rfl, o4, k4⟩
   clear mk
   obtain ⟨a4, c4, hv⟩ := own_slice o4
   subst hv
   have l4 := o4.lt
   replace qf0 := k4.loose0 (zbl q0) qf0
   replace qf1 := k4.loose0 (zbl q1) qf1
   replace qf2 := k4.loose0 (zbl q2) qf2
   replace q0 := k4.cell0 q0
   replace q1 := k4.cell0 q1
   replace q2 := k4.cell0 q2
   replace d1 := k4.cell0 d1
   replace e1 := k4.cell0 e1
   replace m1 := k4.cell0 m1
   replace c0 := k4.cell0 c0
   have l1' := n1.own.lt
   replace n1 := n1.kept k4
   replace k := k.trans k4
   have s4 := k4.size
   clear k4
   have kn := (Kept.refl 0 0 w4).alloc (.cells #[.slice a4 ZO.length c4] 68)
   have nN := Num.new 68 o4
   replace qf0 := kn.loose0 (zbl q0) qf0
   replace qf1 := kn.loose0 (zbl q1) qf1
   replace qf2 := kn.loose0 (zbl q2) qf2
   replace q0 := kn.cell0 q0
   replace q1 := kn.cell0 q1
   replace q2 := kn.cell0 q2
   replace d1 := kn.cell0 d1
   replace e1 := kn.cell0 e1
   replace m1 := kn.cell0 m1
   replace c0 := kn.cell0 c0
   replace n1 := n1.kept kn
   replace k := k.trans kn
   have s5 : (w4.alloc (.cells #[.slice a4 ZO.length c4] 68)).heap.size = w4.heap.size + 1 := by simp
   clear kn o4
   go_wp2_with fail
   generalize w4.alloc (.cells #[.slice a4 ZO.length c4] 68) = w5 at *
   have tw : TwoS w5 (.slice a1 ZH.length c1) w0 w5 g w4.heap.size (.slice a1 ZH.length c1) (.slice a4 ZO.length c4) ZH ZO := ⟨⟨n1.less (by omega), nN.less (by omega), by omega, fun e => by have := (l1' _ e).2; omega, fun e => by have := (l4 _ e).1; omega, fun i e1 e2 => by have := (l1' _ e1).2; have := (l4 _ e2).1; omega, k, by omega, by omega⟩, SameSide.refl _ _, Mod.refl _ _, fun i e => .inl e⟩
   have mk := add_twoS ⟨_, _, tw⟩ nZ nO (by omega) (by omega)
   have eS : limbs (val ZH + val ZO).toNat = Z := by rw [vZ, vO, ← unhide HZ, if_pos trivial]; congr 1; omega
   rw [eS] at mk
   clear eS tw n1 nN k
   refine mk.mono ?_
   rintro e w6 ⟨⟨r6, rfl⟩, u6, u7, t⟩
   clear mk
   obtain ⟨a6, c6, hv⟩ := t.two.n1.form
   subst hv
   have hO : ∀ i, Own1 g (.slice a1 ZH.length c1) i → i ≠ w.heap.size := fun i e => e.elim (fun e => by omega) (fun e => by have := (l1' _ e).1; omega)
   replace qf0 := t.m.loose (a := ⟨w.heap.size, 0, none⟩) (fun e => hO _ e rfl) (zbl q0) qf0
   replace q0 := t.m.cell (a := ⟨w.heap.size, 0, none⟩) (fun e => hO _ e rfl) q0
   replace qf1 := t.m.loose (a := ⟨w.heap.size, 1, none⟩) (fun e => hO _ e rfl) (zbl q1) qf1
   replace q1 := t.m.cell (a := ⟨w.heap.size, 1, none⟩) (fun e => hO _ e rfl) q1
   replace qf2 := t.m.loose (a := ⟨w.heap.size, 2, none⟩) (fun e => hO _ e rfl) (zbl q2) qf2
   replace q2 := t.m.cell (a := ⟨w.heap.size, 2, none⟩) (fun e => hO _ e rfl) q2
   replace d1 := (t.d1 1 (by omega)).1.trans d1
   replace e1 := (t.d1 2 (by omega)).1.trans e1
   have c0 := t.two.n1.cell
   have k := t.two.k
   have o1 := t.two.n1.own
   have ob := t.ob
   have s6 := t.m.size
   have l1' : ∀ i, (Value.slice a6 Z.length c6).ownBlock = some i → w.heap.size + 1 ≤ i ∧ i < w6.heap.size := fun i e => ⟨(ob i e).elim (fun e => by have := (l1' _ e).1; omega) (fun e => by omega), (o1.lt i e).2⟩
   clear t ob hO HZ HZH vZ nZ lZ nO vO lO l4
   generalize w6 = w9 at *
   go_upto_region 5 with fail
   have kd := (Kept.refl 0 0 w9).drew
   replace q0 := kd.cell0 q0
   replace q1 := kd.cell0 q1
   replace q2 := kd.cell0 q2
   replace d1 := kd.cell0 d1
   replace e1 := kd.cell0 e1
   replace c0 := kd.cell0 c0
   replace qf0 := kd.loose0 (zbl q0) qf0
   replace qf1 := kd.loose0 (zbl q1) qf1
   replace qf2 := kd.loose0 (zbl q2) qf2
   replace o1 := own_kept o1 kd
   replace k := k.trans kd
   have zd := kd.size
   clear kd
   refine wp_region_held_drew (S := (fun w' => w'.cell? ⟨g, 0, none⟩ = some (.slice a6 Z.length c6) ∧ w'.cell? ⟨g, 1, none⟩ = some (.bool s) ∧ w'.cell? ⟨g, 2, none⟩ = some (.int .i64 low))) (by kernel_rfl) ?_ (fun hH => ?_)
   ·exact ⟨c0, d1, e1⟩
   generalize w9.drew = w8 at *
   refine wpAnyH_take (i := 0) (v := .pointer (some ⟨g, 0, none⟩)) rfl (by kernel_rfl) (by kernel_rfl) (by kernel_rfl) (fun _ _ _ h => h) (Or.inl ⟨by rfl, ?_⟩) hH ?_
   ·intro wq hSw
    try dsimp only at hSw
    go_simp
   try simp only [Act.put, zq1, zq2, zq3, zq4, zq5, zq6]
   refine wpAnyH_take (i := 1) (v := .pointer (some ⟨g, 0, none⟩)) rfl (by kernel_rfl) (by kernel_rfl) (by kernel_rfl) (fun _ _ _ h => h) (Or.inl ⟨by rfl, ?_⟩) hH ?_
   ·intro wq hSw
    try dsimp only at hSw
    go_simp
   try simp only [Act.put, zq1, zq2, zq3, zq4, zq5, zq6]
   refine wpAnyH_take (i := 2) (v := .pointer (some ⟨g, 0, none⟩)) rfl (by kernel_rfl) (by kernel_rfl) (by kernel_rfl) (fun _ _ _ h => h) (Or.inl ⟨by rfl, ?_⟩) hH ?_
   ·intro wq hSw
    try dsimp only at hSw
    go_simp
   try simp only [Act.put, zq1, zq2, zq3, zq4, zq5, zq6]
   refine wpAnyH_take (i := 3) (v := .agg #[.slice a6 Z.length c6, .bool s]) rfl (by kernel_rfl) (by kernel_rfl) (by kernel_rfl) (fun _ _ _ h => h) (Or.inl ⟨by rfl, ?_⟩) hH ?_
   ·intro wq hSw
    try dsimp only at hSw
    go_simp
   try simp only [Act.put, zq1, zq2, zq3, zq4, zq5, zq6]
   refine wpAnyH_take (i := 4) (v := .pointer (some ⟨g, 0, none⟩)) rfl (by kernel_rfl) (by kernel_rfl) (by kernel_rfl) (fun _ _ _ h => h) (Or.inl ⟨by rfl, ?_⟩) hH ?_
   ·intro wq hSw
    try dsimp only at hSw
    go_simp
   try simp only [Act.put, zq1, zq2, zq3, zq4, zq5, zq6]
   refine wpAnyH_take (i := 5) (v := .pointer (some ⟨g, 0, none⟩)) rfl (by kernel_rfl) (by kernel_rfl) (by kernel_rfl) (fun _ _ _ h => h) (Or.inl ⟨by rfl, ?_⟩) hH ?_
   ·intro wq hSw
    try dsimp only at hSw
    go_simp
   try simp only [Act.put, zq1, zq2, zq3, zq4, zq5, zq6]
   refine wpAnyH_take (i := 6) (v := .pointer (some ⟨g, 2, none⟩)) rfl (by kernel_rfl) (by kernel_rfl) (by kernel_rfl) (fun _ _ _ h => h) (Or.inl ⟨by rfl, ?_⟩) hH ?_
   ·intro wq hSw
    try dsimp only at hSw
    go_simp
   try simp only [Act.put, zq1, zq2, zq3, zq4, zq5, zq6]
   refine wpAnyH_take (i := 7) (v := .int .i64 low) rfl (by kernel_rfl) (by kernel_rfl) (by kernel_rfl) (fun _ _ _ h => h) (Or.inl ⟨by rfl, ?_⟩) hH ?_
   ·intro wq hSw
    try dsimp only at hSw
    go_simp
   try simp only [Act.put, zq1, zq2, zq3, zq4, zq5, zq6]
   refine wpAnyH_take (i := 8) (v := .int .i64 (low - 2)) rfl (by kernel_rfl) (by kernel_rfl) (by kernel_rfl) (fun _ _ _ h => h) (Or.inl ⟨by rfl, ?_⟩) hH ?_
   ·intro wq hSw
    try dsimp only at hSw
    go_simp
   try simp only [Act.put, zq1, zq2, zq3, zq4, zq5, zq6]
   refine wpAnyH_take (i := 9) (v := .agg #[.slice a6 Z.length c6, .bool s, .int .i64 (low - 2)]) rfl (by kernel_rfl) (by kernel_rfl) (by kernel_rfl) (fun _ _ _ h => h) (Or.inl ⟨by rfl, ?_⟩) hH ?_
   ·intro wq hSw
    try dsimp only at hSw
    go_simp
   try simp only [Act.put, zq1, zq2, zq3, zq4, zq5, zq6]
   refine wpAnyH_ready (rs := [10]) (by kernel_rfl) (by simp) ?_
   refine AllReadyH.cons rfl (fun KK hK => ?_) AllReadyH.nil
   simp only [zq1, zq2, zq3]
   rw [if_pos (by rfl)]
   go_simp
   clear hH
   refine hK.out _ _ ?_ (fun hH => ?_)
   ·exact ⟨cell_aside _ (by dsimp only; omega) (cell_aside _ (by dsimp only; omega) (cell_aside _ (by dsimp only; omega) c0)), cell_aside _ (by dsimp only; omega) (cell_aside _ (by dsimp only; omega) (cell_aside _ (by dsimp only; omega) d1)), cell_aside _ (by dsimp only; omega) (cell_aside _ (by dsimp only; omega) (cell_aside _ (by dsimp only; omega) e1))⟩
   clear hK KK
   try simp only [Act.put, zq1, zq2, zq3, zq4, zq5, zq6]
   refine wpAnyH_done (by kernel_rfl) ?_ _
   clear hH
   have OF := hide (own_base (b' := w.heap.size) (own_apart (own_apart (own_apart o1 (p := ⟨w.heap.size, 0, none⟩) (fun e => by have := (l1' _ e).1; simp only at this; omega) (.slice a6 Z.length c6)) (p := ⟨w.heap.size, 1, none⟩) (fun e => by have := (l1' _ e).1; simp only at this; omega) (.bool s)) (p := ⟨w.heap.size, 2, none⟩) (fun e => by have := (l1' _ e).1; simp only at this; omega) (.int .i64 (low - 2))) (fun i e => by have := (l1' i e).1; omega))
   have hk0 : w0.heap.size ≤ w.heap.size := by omega
   have KF := hide (((k.setNew (p := ⟨w.heap.size, 0, none⟩) hk0 (.slice a6 Z.length c6)).setNew (p := ⟨w.heap.size, 1, none⟩) hk0 (.bool s)).setNew (p := ⟨w.heap.size, 2, none⟩) hk0 (.int .i64 (low - 2)))
   have ZF : Hid (w.heap.size ≤ (((w8.setCell ⟨w.heap.size, 0, none⟩ (.slice a6 Z.length c6)).setCell ⟨w.heap.size, 1, none⟩ (.bool s)).setCell ⟨w.heap.size, 2, none⟩ (.int .i64 (low - 2))).heap.size) := by show _ ≤ _; rw [size_set, size_set, size_set]; omega
   clear o1 k l1'
   go_wp2_with fail
   exact bodyPost_ret (v := .agg #[.slice a6 Z.length c6, .bool s, .int .i64 (low - 2)]) (by simp [results, Tryd.results48, go_sem, q0, q1, q2]) rfl ⟨_, rfl, unhide OF, unhide KF, unhide ZF⟩

end Go.Proofs.YtflpkblmcnkghaaDoor

