/-
  l5round of small numbers: it returns, whatever float.
-/
import Derived.Test.YtckaecmkidplhaaGreatDoorBY
import Derived.Test.YtckaecmkidplhaaGreatDoorDy6
import Derived.Deep.RegionHeld3
import Derived.Deep.DeepCutAuto
namespace Go.Proofs.YtckaecmkidplhaaGreatDoor
open Go.RowKit
set_option linter.unusedVariables false
set_option maxRecDepth 8000
set_option linter.unusedSimpArgs false

theorem in_l2shl_r : ∀ (w : World) (args : Array Value), (callFunc 132 args).run Tryz.prog w = .ok (.enter 132 args) w := enters Tryz.func132 (by decide) (fun h => by cases h)

theorem in_l2int_r : ∀ (w : World) (args : Array Value), (callFunc 131 args).run Tryz.prog w = .ok (.enter 131 args) w := enters Tryz.func131 (by decide) (fun h => by cases h)

set_option maxHeartbeats 2000000 in
theorem round4_low (a : Option Addr) (c L : Nat) (hL : 0 < L) (s : Bool) (x low mode : Int) (h : low ≤ x) (w : World) :
    Calls Tryz.prog 129 #[.agg #[.bool s, .slice a L c, .int .i64 x], .int .i64 low, .int .i64 mode] w fun e w' => e = .returned (.tuple #[.agg #[.bool s, .slice a L c, .int .i64 x], .bool true]) ∧ Kept 0 0 w w' := by
  have hL' : ¬ (L : Int) = 0 := by omega
  go_enter Tryz.func129, Tryz.ntmps129
  go_wp2
  all_goals first
    | exact bodyPost_ret (v := .tuple #[.agg #[.bool s, .slice a L c, .int .i64 x], .bool true]) (by simp [results, Tryz.results129, go_sem]) rfl ⟨rfl, by repeat first | exact Kept.refl 0 0 _ | apply Kept.alloc⟩
    | (exfalso; simp_all; omega)

set_option maxHeartbeats 4000000 in
theorem round5_small {bw : Bool} {lo hi : Nat} {v : Value} {zs : List Int} (s : Bool) (x mode : Int) (zero : Bool) (hx1 : x ≤ 100) (hx0 : -100 ≤ x) (w : World) (r : Row .i64 bw lo hi w v zs) (hn : Nrm zs) (hl : zs.length ≤ 2) (h0 : 0 < zs.length) :
    Calls Tryz.prog 85 #[.agg #[.bool s, v, .int .i64 x], .int .i64 mode, .bool zero] w fun e' w' => ∃ n m e f, e' = .returned (.tuple #[flv 1 n m e, .int .i64 f]) ∧ Kept 0 0 w w' := by
  have hv0 := val_nonneg hn.1
  have hvp : 0 < val zs := by
    have := limbs_pos (val zs).toNat
    rw [← nrm_limbs hn, decide_eq_true h0] at this
    have := of_decide_eq_true this.symm
    omega
  obtain ⟨b, hb⟩ : ∃ b, bitsN (val zs).toNat = b := ⟨_, rfl⟩
  have hb16 : b ≤ 16 * zs.length := by rw [← hb]; exact bitsN_limbs hn
  have hb1 : 1 ≤ b := by
    rcases Nat.eq_zero_or_pos b with q | q
    · have := (bitsN_le (val zs).toNat 0).1 (by omega)
      omega
    · exact q
  have hbv : (val zs).toNat < 2 ^ b := (bitsN_le _ _).1 (by omega)
  have ht : topI zs x = x + (b : Int) := by unfold topI; rw [if_neg (by omega), hb]
  have mt := fun w' b1 l1 h1 v1 (r' : Row .i64 b1 l1 h1 w' v1 zs) => top4_spec s x (by omega) (by omega) w' r' hn (by omega)
  simp only [ht] at mt
  have msh := fun w' b1 l1 h1 v1 (r' : Row .i64 b1 l1 h1 w' v1 zs) => shl_spec w' r' hn.1 (by omega) (53 - b) (.inr (by omega)) (by omega)
  obtain ⟨L2, hL2⟩ : ∃ y, limbs ((val zs).toNat * 2 ^ (53 - b)) = y := ⟨_, rfl⟩
  simp only [hL2] at msh
  have hv2 : val L2 < 9223372036854775808 := by
    rw [← hL2, limbs_val]
    have h1 : (val zs).toNat * 2 ^ (53 - b) < 2 ^ b * 2 ^ (53 - b) := Nat.mul_lt_mul_of_pos_right hbv (Nat.pow_pos (by decide))
    rw [← Nat.pow_add, show b + (53 - b) = 53 by omega] at h1
    have h2 : (2 : Nat) ^ 53 = 9007199254740992 := by decide
    omega
  have mi := fun w' b1 l1 h1 v1 (r' : Row .i64 b1 l1 h1 w' v1 L2) => int_spec w' r' (by rw [← hL2]; exact limbs_lim _) hv2
  obtain ⟨m2, hm2⟩ : ∃ y, val L2 = y := ⟨_, rfl⟩
  simp only [hm2] at mi
  replace mt := hide mt
  replace msh := hide msh
  replace mi := hide mi
  have hsub : x - (x + (b : Int) - 53) = ((53 - b : Nat) : Int) := by omega
  have hwr : IntKind.i64.wrap (x - (x + (b : Int) - 53)) = ((53 - b : Nat) : Int) := by rw [hsub, IntKind.wrap_i64]; omega
  skip
  clear hv0 hvp hb hbv ht hL2 hv2 hm2 hsub hn
  have hz : ¬ ((zs.length : Nat) : Int) = 0 := by omega
  have k0 : Kept 0 0 w ((w.alloc (.cells #[.bool s, v, .int .i64 x] 42)).alloc (.cells #[.int .i64 0, .bool false, .int .i64 0, .int .i64 0] 25)) := (((Kept.refl 0 0 w).alloc (.cells #[.bool s, v, .int .i64 x] 42)).alloc (.cells #[.int .i64 0, .bool false, .int .i64 0, .int .i64 0] 25))
  have p0 : ((w.alloc (.cells #[.bool s, v, .int .i64 x] 42)).alloc (.cells #[.int .i64 0, .bool false, .int .i64 0, .int .i64 0] 25)).cell? ⟨w.heap.size, 0, none⟩ = some (.bool s) := old_cell _ (new_cell2 _ _ _ _ _ _ (by simp) rfl)
  have p1 : ((w.alloc (.cells #[.bool s, v, .int .i64 x] 42)).alloc (.cells #[.int .i64 0, .bool false, .int .i64 0, .int .i64 0] 25)).cell? ⟨w.heap.size, 1, none⟩ = some (v) := old_cell _ (new_cell2 _ _ _ _ _ _ (by simp) rfl)
  have p2 : ((w.alloc (.cells #[.bool s, v, .int .i64 x] 42)).alloc (.cells #[.int .i64 0, .bool false, .int .i64 0, .int .i64 0] 25)).cell? ⟨w.heap.size, 2, none⟩ = some (.int .i64 x) := old_cell _ (new_cell2 _ _ _ _ _ _ (by simp) rfl)
  have q0 : ((w.alloc (.cells #[.bool s, v, .int .i64 x] 42)).alloc (.cells #[.int .i64 0, .bool false, .int .i64 0, .int .i64 0] 25)).cell? ⟨w.heap.size + 1, 0, none⟩ = some (.int .i64 0) := new_cell2 _ _ _ _ _ _ (by simp) rfl
  have qf0 : ((w.alloc (.cells #[.bool s, v, .int .i64 x] 42)).alloc (.cells #[.int .i64 0, .bool false, .int .i64 0, .int .i64 0] 25)).frozen? ⟨w.heap.size + 1, 0, none⟩ = false := new_loose2 _ _ _ _ _ (by simp)
  have q1 : ((w.alloc (.cells #[.bool s, v, .int .i64 x] 42)).alloc (.cells #[.int .i64 0, .bool false, .int .i64 0, .int .i64 0] 25)).cell? ⟨w.heap.size + 1, 1, none⟩ = some (.bool false) := new_cell2 _ _ _ _ _ _ (by simp) rfl
  have qf1 : ((w.alloc (.cells #[.bool s, v, .int .i64 x] 42)).alloc (.cells #[.int .i64 0, .bool false, .int .i64 0, .int .i64 0] 25)).frozen? ⟨w.heap.size + 1, 1, none⟩ = false := new_loose2 _ _ _ _ _ (by simp)
  have q2 : ((w.alloc (.cells #[.bool s, v, .int .i64 x] 42)).alloc (.cells #[.int .i64 0, .bool false, .int .i64 0, .int .i64 0] 25)).cell? ⟨w.heap.size + 1, 2, none⟩ = some (.int .i64 0) := new_cell2 _ _ _ _ _ _ (by simp) rfl
  have qf2 : ((w.alloc (.cells #[.bool s, v, .int .i64 x] 42)).alloc (.cells #[.int .i64 0, .bool false, .int .i64 0, .int .i64 0] 25)).frozen? ⟨w.heap.size + 1, 2, none⟩ = false := new_loose2 _ _ _ _ _ (by simp)
  have q3 : ((w.alloc (.cells #[.bool s, v, .int .i64 x] 42)).alloc (.cells #[.int .i64 0, .bool false, .int .i64 0, .int .i64 0] 25)).cell? ⟨w.heap.size + 1, 3, none⟩ = some (.int .i64 0) := new_cell2 _ _ _ _ _ _ (by simp) rfl
  have qf3 : ((w.alloc (.cells #[.bool s, v, .int .i64 x] 42)).alloc (.cells #[.int .i64 0, .bool false, .int .i64 0, .int .i64 0] 25)).frozen? ⟨w.heap.size + 1, 3, none⟩ = false := new_loose2 _ _ _ _ _ (by simp)
  replace r := r.kept k0 (by omega)
  have s0 : ((w.alloc (.cells #[.bool s, v, .int .i64 x] 42)).alloc (.cells #[.int .i64 0, .bool false, .int .i64 0, .int .i64 0] 25)).heap.size = w.heap.size + 2 := by simp
  obtain ⟨a, c, hv⟩ := Row.form' r
  subst hv
  have K := hide (k0)
  clear k0
  have S0 := hide s0
  clear s0
  go_enter Tryz.func85, Tryz.ntmps85
  go_wp2_with fail
  generalize ((w.alloc (.cells #[.bool s, .slice a zs.length c, .int .i64 x] 42)).alloc (.cells #[.int .i64 0, .bool false, .int .i64 0, .int .i64 0] 25)) = W at *
  refine (unhide mt _ _ _ _ _ r).mono ?_
  rintro e w1 ⟨rfl, k1⟩
  replace r := r.kept k1 (by omega)
  replace qf0 := k1.loose0 (World.block_lt_of_cell? _ _ q0) qf0
  replace qf1 := k1.loose0 (World.block_lt_of_cell? _ _ q1) qf1
  replace qf2 := k1.loose0 (World.block_lt_of_cell? _ _ q2) qf2
  replace qf3 := k1.loose0 (World.block_lt_of_cell? _ _ q3) qf3
  replace p0 := k1.cell0 p0
  replace p1 := k1.cell0 p1
  replace p2 := k1.cell0 p2
  replace q0 := k1.cell0 q0
  replace q1 := k1.cell0 q1
  replace q2 := k1.cell0 q2
  replace q3 := k1.cell0 q3
  replace K := hide ((unhide K).trans k1)
  have z2 := k1.size
  clear k1
  go_wp2_with fail
  refine (round4_low a c zs.length h0 s x (x + (b : Int) - 53) mode (by omega) _).mono ?_
  rintro e w3 ⟨rfl, k3⟩
  replace r := r.kept k3 (by omega)
  replace qf0 := k3.loose0 (World.block_lt_of_cell? _ _ q0) qf0
  replace qf1 := k3.loose0 (World.block_lt_of_cell? _ _ q1) qf1
  replace qf2 := k3.loose0 (World.block_lt_of_cell? _ _ q2) qf2
  replace qf3 := k3.loose0 (World.block_lt_of_cell? _ _ q3) qf3
  replace p0 := k3.cell0 p0
  replace p1 := k3.cell0 p1
  replace p2 := k3.cell0 p2
  replace q0 := k3.cell0 q0
  replace q1 := k3.cell0 q1
  replace q2 := k3.cell0 q2
  replace q3 := k3.cell0 q3
  replace K := hide ((unhide K).trans k3)
  have z4 := k3.size
  clear k3
  have kn := (Kept.refl 0 0 w3).alloc (.cells #[.bool s, .slice a zs.length c, .int .i64 x] 42)
  have y0 : (w3.alloc (.cells #[.bool s, .slice a zs.length c, .int .i64 x] 42)).cell? ⟨w3.heap.size, 0, none⟩ = some (.bool s) := new_cell2 _ _ _ _ _ _ (by simp) rfl
  have y1 : (w3.alloc (.cells #[.bool s, .slice a zs.length c, .int .i64 x] 42)).cell? ⟨w3.heap.size, 1, none⟩ = some (.slice a zs.length c) := new_cell2 _ _ _ _ _ _ (by simp) rfl
  have y2 : (w3.alloc (.cells #[.bool s, .slice a zs.length c, .int .i64 x] 42)).cell? ⟨w3.heap.size, 2, none⟩ = some (.int .i64 x) := new_cell2 _ _ _ _ _ _ (by simp) rfl
  have sz5 : w3.heap.size + 1 ≤ (w3.alloc (.cells #[.bool s, .slice a zs.length c, .int .i64 x] 42)).heap.size := by simp
  replace r := r.kept kn (by omega)
  replace qf0 := kn.loose0 (World.block_lt_of_cell? _ _ q0) qf0
  replace qf1 := kn.loose0 (World.block_lt_of_cell? _ _ q1) qf1
  replace qf2 := kn.loose0 (World.block_lt_of_cell? _ _ q2) qf2
  replace qf3 := kn.loose0 (World.block_lt_of_cell? _ _ q3) qf3
  replace p0 := kn.cell0 p0
  replace p1 := kn.cell0 p1
  replace p2 := kn.cell0 p2
  replace q0 := kn.cell0 q0
  replace q1 := kn.cell0 q1
  replace q2 := kn.cell0 q2
  replace q3 := kn.cell0 q3
  replace K := hide ((unhide K).trans kn)
  have z6 := kn.size
  clear kn
  go_wp2_with fail
  generalize (w3.alloc (.cells #[.bool s, .slice a zs.length c, .int .i64 x] 42)) = wn7 at *
  refine (unhide mt _ _ _ _ _ r).mono ?_
  rintro e w8 ⟨rfl, k8⟩
  replace r := r.kept k8 (by omega)
  replace qf0 := k8.loose0 (World.block_lt_of_cell? _ _ q0) qf0
  replace qf1 := k8.loose0 (World.block_lt_of_cell? _ _ q1) qf1
  replace qf2 := k8.loose0 (World.block_lt_of_cell? _ _ q2) qf2
  replace qf3 := k8.loose0 (World.block_lt_of_cell? _ _ q3) qf3
  replace p0 := k8.cell0 p0
  replace p1 := k8.cell0 p1
  replace p2 := k8.cell0 p2
  replace q0 := k8.cell0 q0
  replace q1 := k8.cell0 q1
  replace q2 := k8.cell0 q2
  replace q3 := k8.cell0 q3
  replace y0 := k8.cell0 y0
  replace y1 := k8.cell0 y1
  replace y2 := k8.cell0 y2
  replace K := hide ((unhide K).trans k8)
  have z9 := k8.size
  clear k8
  go_wp2_with fail
  refine (unhide mt _ _ _ _ _ r).mono ?_
  rintro e w10 ⟨rfl, k10⟩
  replace r := r.kept k10 (by omega)
  replace qf0 := k10.loose0 (World.block_lt_of_cell? _ _ q0) qf0
  replace qf1 := k10.loose0 (World.block_lt_of_cell? _ _ q1) qf1
  replace qf2 := k10.loose0 (World.block_lt_of_cell? _ _ q2) qf2
  replace qf3 := k10.loose0 (World.block_lt_of_cell? _ _ q3) qf3
  replace p0 := k10.cell0 p0
  replace p1 := k10.cell0 p1
  replace p2 := k10.cell0 p2
  replace q0 := k10.cell0 q0
  replace q1 := k10.cell0 q1
  replace q2 := k10.cell0 q2
  replace q3 := k10.cell0 q3
  replace y0 := k10.cell0 y0
  replace y1 := k10.cell0 y1
  replace y2 := k10.cell0 y2
  replace K := hide ((unhide K).trans k10)
  have z11 := k10.size
  clear k10
  go_upto_region 22 with fail
  have hyb : w.heap.size + 1 < w3.heap.size := by have := unhide S0; omega
  have n_qf0 := qf0
  have n_q0 := q0
  have n_qf1 := qf1
  have n_q1 := q1
  have n_qf2 := qf2
  have n_q2 := q2
  have n_qf3 := qf3
  have n_q3 := q3
  have kd := (Kept.refl 0 0 w10).drew
  replace r := r.kept kd (by omega)
  replace qf0 := kd.loose0 (World.block_lt_of_cell? _ _ q0) qf0
  replace qf1 := kd.loose0 (World.block_lt_of_cell? _ _ q1) qf1
  replace qf2 := kd.loose0 (World.block_lt_of_cell? _ _ q2) qf2
  replace qf3 := kd.loose0 (World.block_lt_of_cell? _ _ q3) qf3
  replace p0 := kd.cell0 p0
  replace p1 := kd.cell0 p1
  replace p2 := kd.cell0 p2
  replace q0 := kd.cell0 q0
  replace q1 := kd.cell0 q1
  replace q2 := kd.cell0 q2
  replace q3 := kd.cell0 q3
  replace y0 := kd.cell0 y0
  replace y1 := kd.cell0 y1
  replace y2 := kd.cell0 y2
  replace K := hide ((unhide K).trans kd)
  have z12 := kd.size
  clear kd
  refine wp_region_held_drew (S := (fun w' => w'.cell? ⟨w3.heap.size, 0, none⟩ = some (.bool s) ∧ w'.cell? ⟨w3.heap.size, 1, none⟩ = some (.slice a zs.length c) ∧ w'.cell? ⟨w3.heap.size, 2, none⟩ = some (.int .i64 x))) (by kernel_rfl) ?_ (fun hHeld => ?_)
  · exact ⟨y0, y1, y2⟩
  refine wpAnyH_take (i := 0) (oi := _) (v := .pointer (some ⟨w3.heap.size, 0, none⟩)) rfl (by kernel_rfl) (by kernel_rfl) (by kernel_rfl) (fun _ _ _ h => h) (Or.inl ⟨by rfl, ?_⟩) hHeld ?_
  · intro wq hSw
    try dsimp only at hSw
    go_simp
  try simp only [Act.put, List.getElem_toArray, List.getElem_cons_succ, List.getElem_cons_zero, List.setIfInBounds_toArray, List.set_cons_zero, List.set_cons_succ]
  refine wpAnyH_take (i := 1) (oi := _) (v := .pointer (some ⟨w3.heap.size, 0, none⟩)) rfl (by kernel_rfl) (by kernel_rfl) (by kernel_rfl) (fun _ _ _ h => h) (Or.inl ⟨by rfl, ?_⟩) hHeld ?_
  · intro wq hSw
    try dsimp only at hSw
    go_simp
  try simp only [Act.put, List.getElem_toArray, List.getElem_cons_succ, List.getElem_cons_zero, List.setIfInBounds_toArray, List.set_cons_zero, List.set_cons_succ]
  refine wpAnyH_take (i := 2) (oi := _) (v := .bool s) rfl (by kernel_rfl) (by kernel_rfl) (by kernel_rfl) (fun _ _ _ h => h) (Or.inl ⟨by rfl, ?_⟩) hHeld ?_
  · intro wq hSw
    try dsimp only at hSw
    go_simp
  try simp only [Act.put, List.getElem_toArray, List.getElem_cons_succ, List.getElem_cons_zero, List.setIfInBounds_toArray, List.set_cons_zero, List.set_cons_succ]
  refine wpAnyH_take (i := 3) (oi := _) (v := .pointer (some ⟨w3.heap.size, 0, none⟩)) rfl (by kernel_rfl) (by kernel_rfl) (by kernel_rfl) (fun _ _ _ h => h) (Or.inl ⟨by rfl, ?_⟩) hHeld ?_
  · intro wq hSw
    try dsimp only at hSw
    go_simp
  try simp only [Act.put, List.getElem_toArray, List.getElem_cons_succ, List.getElem_cons_zero, List.setIfInBounds_toArray, List.set_cons_zero, List.set_cons_succ]
  refine wpAnyH_take (i := 4) (oi := _) (v := .pointer (some ⟨w3.heap.size, 1, none⟩)) rfl (by kernel_rfl) (by kernel_rfl) (by kernel_rfl) (fun _ _ _ h => h) (Or.inl ⟨by rfl, ?_⟩) hHeld ?_
  · intro wq hSw
    try dsimp only at hSw
    go_simp
  try simp only [Act.put, List.getElem_toArray, List.getElem_cons_succ, List.getElem_cons_zero, List.setIfInBounds_toArray, List.set_cons_zero, List.set_cons_succ]
  refine wpAnyH_take (i := 5) (oi := _) (v := .agg #[.slice a zs.length c]) rfl (by kernel_rfl) (by kernel_rfl) (by kernel_rfl) (fun _ _ _ h => h) (Or.inl ⟨by rfl, ?_⟩) hHeld ?_
  · intro wq hSw
    try dsimp only at hSw
    go_simp
  try simp only [Act.put, List.getElem_toArray, List.getElem_cons_succ, List.getElem_cons_zero, List.setIfInBounds_toArray, List.set_cons_zero, List.set_cons_succ]
  refine wpAnyH_take (i := 6) (oi := _) (v := .pointer (some ⟨w3.heap.size, 2, none⟩)) rfl (by kernel_rfl) (by kernel_rfl) (by kernel_rfl) (fun _ _ _ h => h) (Or.inl ⟨by rfl, ?_⟩) hHeld ?_
  · intro wq hSw
    try dsimp only at hSw
    go_simp
  try simp only [Act.put, List.getElem_toArray, List.getElem_cons_succ, List.getElem_cons_zero, List.setIfInBounds_toArray, List.set_cons_zero, List.set_cons_succ]
  refine wpAnyH_take (i := 7) (oi := _) (v := .int .i64 x) rfl (by kernel_rfl) (by kernel_rfl) (by kernel_rfl) (fun _ _ _ h => h) (Or.inl ⟨by rfl, ?_⟩) hHeld ?_
  · intro wq hSw
    try dsimp only at hSw
    go_simp
  try simp only [Act.put, List.getElem_toArray, List.getElem_cons_succ, List.getElem_cons_zero, List.setIfInBounds_toArray, List.set_cons_zero, List.set_cons_succ]
  refine wpAnyH_take (i := 8) (oi := _) (v := .int .i64 (x + (b : Int) - 53)) rfl (by kernel_rfl) (by kernel_rfl) (by kernel_rfl) (fun _ _ _ h => h) (Or.inl ⟨by rfl, ?_⟩) hHeld ?_
  · intro wq hSw
    try dsimp only at hSw
    go_simp
  try simp only [Act.put, List.getElem_toArray, List.getElem_cons_succ, List.getElem_cons_zero, List.setIfInBounds_toArray, List.set_cons_zero, List.set_cons_succ]
  refine wpAnyH_take (i := 9) (oi := _) (v := .int .i64 ((53 - b : Nat) : Int)) rfl (by kernel_rfl) (by kernel_rfl) (by kernel_rfl) (fun _ _ _ h => h) (Or.inl ⟨by rfl, ?_⟩) hHeld ?_
  · intro wq hSw
    try dsimp only at hSw
    go_simp
  try simp only [Act.put, List.getElem_toArray, List.getElem_cons_succ, List.getElem_cons_zero, List.setIfInBounds_toArray, List.set_cons_zero, List.set_cons_succ]
  refine wpAnyH_take (i := 12) (oi := _) (v := .int .i64 (x + (b : Int) - 53)) rfl (by kernel_rfl) (by kernel_rfl) (by kernel_rfl) (fun _ _ _ h => h) (Or.inl ⟨by rfl, ?_⟩) hHeld ?_
  · intro wq hSw
    try dsimp only at hSw
    go_simp
  try simp only [Act.put, List.getElem_toArray, List.getElem_cons_succ, List.getElem_cons_zero, List.setIfInBounds_toArray, List.set_cons_zero, List.set_cons_succ]
  refine wpAnyH_take (i := 14) (oi := _) (v := .int .i64 0) rfl (by kernel_rfl) (by kernel_rfl) (by kernel_rfl) (fun _ _ _ h => h) (Or.inl ⟨by rfl, ?_⟩) hHeld ?_
  · intro wq hSw
    try dsimp only at hSw
    go_simp
  try simp only [Act.put, List.getElem_toArray, List.getElem_cons_succ, List.getElem_cons_zero, List.setIfInBounds_toArray, List.set_cons_zero, List.set_cons_succ]
  refine wpAnyH_ready (rs := [10]) (by kernel_rfl) (by simp) ?_
  refine AllReadyH.cons rfl (fun KK hK => ?_) AllReadyH.nil
  simp only [List.getElem_toArray, List.getElem_cons_succ, List.getElem_cons_zero]
  rw [if_pos (by rfl)]
  refine wps2 132 (.tmp 95) (.tmp 99) _ rfl in_l2shl_r (.agg #[.slice a zs.length c]) (.int .i64 ((53 - b : Nat) : Int)) rfl rfl (unhide msh _ _ _ _ _ r) ?_
  rintro e w13 ⟨v5, rfl, r5, k13⟩
  refine ⟨_, rfl, ?_⟩
  replace r := r.kept k13 (by omega)
  replace qf0 := k13.loose0 (World.block_lt_of_cell? _ _ q0) qf0
  replace qf1 := k13.loose0 (World.block_lt_of_cell? _ _ q1) qf1
  replace qf2 := k13.loose0 (World.block_lt_of_cell? _ _ q2) qf2
  replace qf3 := k13.loose0 (World.block_lt_of_cell? _ _ q3) qf3
  replace p0 := k13.cell0 p0
  replace p1 := k13.cell0 p1
  replace p2 := k13.cell0 p2
  replace q0 := k13.cell0 q0
  replace q1 := k13.cell0 q1
  replace q2 := k13.cell0 q2
  replace q3 := k13.cell0 q3
  replace y0 := k13.cell0 y0
  replace y1 := k13.cell0 y1
  replace y2 := k13.cell0 y2
  replace K := hide ((unhide K).trans k13)
  have z14 := k13.size
  clear k13
  clear hHeld
  refine hK.out _ _ ?_ (fun hHeld => ?_)
  · exact ⟨y0, y1, y2⟩
  clear hK KK
  try simp only [Act.put, List.getElem_toArray, List.getElem_cons_succ, List.getElem_cons_zero, List.setIfInBounds_toArray, List.set_cons_zero, List.set_cons_succ]
  refine wpAnyH_ready (rs := [11]) (by kernel_rfl) (by simp) ?_
  refine AllReadyH.cons rfl (fun KK hK => ?_) AllReadyH.nil
  simp only [List.getElem_toArray, List.getElem_cons_succ, List.getElem_cons_zero]
  rw [if_pos (by rfl)]
  refine wps1 131 (.tmp 100) _ rfl in_l2int_r (.agg #[v5]) rfl (unhide mi _ _ _ _ _ r5) ?_
  rintro e w15 ⟨rfl, k15⟩
  refine ⟨_, rfl, ?_⟩
  replace r := r.kept k15 (by omega)
  replace r5 := r5.kept k15 (by omega)
  replace qf0 := k15.loose0 (World.block_lt_of_cell? _ _ q0) qf0
  replace qf1 := k15.loose0 (World.block_lt_of_cell? _ _ q1) qf1
  replace qf2 := k15.loose0 (World.block_lt_of_cell? _ _ q2) qf2
  replace qf3 := k15.loose0 (World.block_lt_of_cell? _ _ q3) qf3
  replace p0 := k15.cell0 p0
  replace p1 := k15.cell0 p1
  replace p2 := k15.cell0 p2
  replace q0 := k15.cell0 q0
  replace q1 := k15.cell0 q1
  replace q2 := k15.cell0 q2
  replace q3 := k15.cell0 q3
  replace y0 := k15.cell0 y0
  replace y1 := k15.cell0 y1
  replace y2 := k15.cell0 y2
  replace K := hide ((unhide K).trans k15)
  have z16 := k15.size
  clear k15
  clear hHeld
  refine hK.out _ _ ?_ (fun hHeld => ?_)
  · exact ⟨y0, y1, y2⟩
  clear hK KK
  try simp only [Act.put, List.getElem_toArray, List.getElem_cons_succ, List.getElem_cons_zero, List.setIfInBounds_toArray, List.set_cons_zero, List.set_cons_succ]
  refine wpAnyH_take (i := 13) (oi := _) (v := .agg #[.int .i64 1, .bool s, .int .i64 m2, .int .i64 (x + (b : Int) - 53)]) rfl (by kernel_rfl) (by kernel_rfl) (by kernel_rfl) (fun _ _ _ h => h) (Or.inl ⟨by rfl, ?_⟩) hHeld ?_
  · intro wq hSw
    try dsimp only at hSw
    go_simp
  try simp only [Act.put, List.getElem_toArray, List.getElem_cons_succ, List.getElem_cons_zero, List.setIfInBounds_toArray, List.set_cons_zero, List.set_cons_succ]
  refine wpAnyH_ready (rs := [15]) (by kernel_rfl) (by simp) ?_
  refine AllReadyH.cons rfl (fun KK hK => ?_) AllReadyH.nil
  simp only [List.getElem_toArray, List.getElem_cons_succ, List.getElem_cons_zero]
  rw [if_pos (by rfl)]
  go_simp
  clear hHeld
  refine hK.out _ _ ?_ (fun hHeld => ?_)
  · exact ⟨(cell_aside _ (by have := unhide S0; dsimp only; omega) (cell_aside _ (by have := unhide S0; dsimp only; omega) (cell_aside _ (by have := unhide S0; dsimp only; omega) (cell_aside _ (by have := unhide S0; dsimp only; omega) y0)))), (cell_aside _ (by have := unhide S0; dsimp only; omega) (cell_aside _ (by have := unhide S0; dsimp only; omega) (cell_aside _ (by have := unhide S0; dsimp only; omega) (cell_aside _ (by have := unhide S0; dsimp only; omega) y1)))), (cell_aside _ (by have := unhide S0; dsimp only; omega) (cell_aside _ (by have := unhide S0; dsimp only; omega) (cell_aside _ (by have := unhide S0; dsimp only; omega) (cell_aside _ (by have := unhide S0; dsimp only; omega) y2))))⟩
  clear hK KK
  try simp only [Act.put, List.getElem_toArray, List.getElem_cons_succ, List.getElem_cons_zero, List.setIfInBounds_toArray, List.set_cons_zero, List.set_cons_succ]
  refine wpAnyH_take (i := 16) (oi := _) (v := .int .i64 0) rfl (by kernel_rfl) (by kernel_rfl) (by kernel_rfl) (fun _ _ _ h => h) (Or.inl ⟨by rfl, ?_⟩) hHeld ?_
  · intro wq hSw
    try dsimp only at hSw
    go_simp
  try simp only [Act.put, List.getElem_toArray, List.getElem_cons_succ, List.getElem_cons_zero, List.setIfInBounds_toArray, List.set_cons_zero, List.set_cons_succ]
  refine wpAnyH_done (by kernel_rfl) ?_ _
  clear hHeld
  have K7 := hide (((((unhide K).setNew (p := ⟨w.heap.size + 1, 0, none⟩) (by simp) (.int .i64 1)).setNew (p := ⟨w.heap.size + 1, 1, none⟩) (by simp) (.bool s)).setNew (p := ⟨w.heap.size + 1, 2, none⟩) (by simp) (.int .i64 m2)).setNew (p := ⟨w.heap.size + 1, 3, none⟩) (by simp) (.int .i64 (x + (b : Int) - 53)))
  clear K r r5 mt msh mi
  go_wp2_with fail
  exact bodyPost_ret (v := .tuple #[flv 1 s m2 (x + (b : Int) - 53), .int .i64 0]) (by simp [results, Tryz.results85, go_sem, q0, q1, q2, q3]) rfl ⟨_, _, _, _, rfl, unhide K7⟩

end Go.Proofs.YtckaecmkidplhaaGreatDoor

