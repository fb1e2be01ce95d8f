/-
  Contracts that the proofs of this seat share: Fl2, Fl12, FlK.
-/
import Derived.Test.YtckaecmkidplhaaGreatDoorBS
import Derived.Test.YtckaecmkidplhaaGreatDoorDy7
import Derived.Stop.Asserts
import Derived.Deep.RegionHeld3
import Derived.Deep.DeepCutAuto
import Derived.Test.YtckaecmkidplhaaGreatDoorBU
import Derived.Test.YtckaecmkidplhaaGreatDoorBX
namespace Go.Proofs.YtckaecmkidplhaaGreatDoor
open Go.RowKit
set_option linter.unusedVariables false

/-- A float out of its four fields. -/
abbrev flq (q : Int × Bool × Int × Int) : Value := flv q.1 q.2.1 q.2.2.1 q.2.2.2

theorem Kept.box {w w' : World} (h : Kept 0 0 w w') {b : Nat} (hb : b < w.heap.size) (off : Nat) : w'.cell? ⟨b, off, none⟩ = w.cell? ⟨b, off, none⟩ :=
  World.cell?_of_block (w := w) (a := ⟨b, off, none⟩) (h.block b hb (by omega))

/-- A float's box: its block, its four cells. -/
structure FB (w : World) (b : Nat) (k : Int) (n : Bool) (m e : Int) : Prop where
  lt : b < w.heap.size
  c0 : w.cell? ⟨b, 0, none⟩ = some (.int .i64 k)
  c1 : w.cell? ⟨b, 1, none⟩ = some (.bool n)
  c2 : w.cell? ⟨b, 2, none⟩ = some (.int .i64 m)
  c3 : w.cell? ⟨b, 3, none⟩ = some (.int .i64 e)

theorem FB.kept {w w' : World} {b : Nat} {k : Int} {n : Bool} {m e : Int} (f : FB w b k n m e) (h : Kept 0 0 w w') : FB w' b k n m e :=
  ⟨Nat.lt_of_lt_of_le f.lt h.size, (h.box f.lt 0).trans f.c0, (h.box f.lt 1).trans f.c1, (h.box f.lt 2).trans f.c2, (h.box f.lt 3).trans f.c3⟩
theorem FB.alloc {w : World} {b : Nat} {k : Int} {n : Bool} {m e : Int} (f : FB w b k n m e) (o : Obj) : FB (w.alloc o) b k n m e :=
  f.kept ((Kept.refl 0 0 w).alloc o)
theorem FB.new (w : World) (k : Int) (n : Bool) (m e : Int) (t : TypeId) : FB (w.alloc (flc k n m e t)) w.heap.size k n m e := by
  have hg : (w.alloc (flc k n m e t)).heap[w.heap.size]? = some (flc k n m e t) := heap_alloc_new w _
  refine ⟨by simp, ?_, ?_, ?_, ?_⟩ <;> simp only [World.cell?, hg] <;> rfl

theorem l5nan_any (w : World) :
    Calls Tryz.prog 98 #[] w fun r w' => r = .returned (flv 3 false 0 0) ∧ w' = (w.alloc (flc 3 false 0 0 25)) := by
  go_enter Tryz.func98, Tryz.ntmps98
  go_wp2
  exact bodyPost_ret (v := flv 3 false 0 0) (by simp [results, Tryz.results98, go_sem]) rfl ⟨rfl, rfl⟩

end Go.Proofs.YtckaecmkidplhaaGreatDoor

namespace Go.Proofs.YtckaecmkidplhaaGreatDoor
open Go.RowKit
set_option linter.unusedVariables false
set_option maxRecDepth 8000
set_option linter.unusedSimpArgs false

/-- The number before the power of two. -/
def fM (k : Int) (n : Bool) (m : Int) : Int := if k = 1 then (if n = true then -m else m) else 0

theorem fM_zero {k : Int} (h : k ≠ 1) (n : Bool) (m : Int) : fM k n m = 0 := by unfold fM; rw [if_neg h]

theorem limbs_wval (n : Bool) {m : Int} (h : 1 ≤ m) : wval n (limbs m.toNat) = fM 1 n m := by
  unfold wval fM
  rw [limbs_val, if_pos rfl]
  split <;> omega

theorem ok_ans (m x : Int) (h1 : m.natAbs < 2 ^ 64) (h2 : -2900 ≤ x) (h3 : x ≤ 2900) : ansDB true m x = true := by
  have hl : (dlm m).length ≤ 4 := by
    unfold dlm
    refine (limbs_length_le _ _).2 ?_
    have e : (65536 : Int) ^ 4 = 18446744073709551616 := by decide
    have e2 : (2 : Nat) ^ 64 = 18446744073709551616 := by decide
    have := Nat.div_le_self m.natAbs (2 ^ tz m.natAbs)
    omega
  have hx : -3000 ≤ dex m x ∧ dex m x ≤ 3000 := by
    unfold dex
    split
    · omega
    · have := tz_lt (n := m.natAbs) (k := 64) (by omega) h1
      omega
  unfold ansDB
  rw [dok_told, decide_eq_true (show (dlm m).length ≤ 100 by omega), decide_eq_true hx.1, decide_eq_true hx.2]
  rfl

theorem in_limbsOfInt : ∀ (w : World) (args : Array Value), (callFunc 108 args).run Tryz.prog w = .ok (.enter 108 args) w := enters Tryz.func108 (by decide) (fun h => by cases h)

theorem fin_num (n : Bool) (m e : Int) (w : World) : (Instr.typeAssert (.iface 133 (.agg #[.bool n, .int .i64 m, .int .i64 e])) 79 85 true).run Tryz.prog w = .ok (.tuple #[.iface 133 (.agg #[.bool n, .int .i64 m, .int .i64 e]), .bool true]) w := by kernel_rfl

theorem value_num (n : Bool) (m e : Int) (w : World) : (method 306 133 (.agg #[.bool n, .int .i64 m, .int .i64 e]) "loop.example/g00382/impl.value").run Tryz.prog w = .ok (194, .agg #[.bool n, .int .i64 m, .int .i64 e]) w := by kernel_rfl

theorem fin_inf (n : Bool) (m e : Int) (w : World) : (Instr.typeAssert (.iface 134 (.agg #[.bool n])) 79 85 true).run Tryz.prog w = .ok (.tuple #[.nilIface, .bool false]) w := run_typeAssert_lacksB Tryz.underlying85 (by kernel_rfl) (by kernel_rfl) _ _ w

theorem fin_nan (n : Bool) (m e : Int) (w : World) : (Instr.typeAssert (.iface 135 (.agg #[.bool n])) 79 85 true).run Tryz.prog w = .ok (.tuple #[.nilIface, .bool false]) w := run_typeAssert_lacksB Tryz.underlying85 (by kernel_rfl) (by kernel_rfl) _ _ w

theorem fin_nought (n : Bool) (m e : Int) (w : World) : (Instr.typeAssert (.iface 131 (.agg #[.bool n])) 79 85 true).run Tryz.prog w = .ok (.tuple #[.iface 131 (.agg #[.bool n]), .bool true]) w := by kernel_rfl

theorem value_nought (n : Bool) (m e : Int) (w : World) : (method 306 131 (.agg #[.bool n]) "loop.example/g00382/impl.value").run Tryz.prog w = .ok (191, .agg #[.bool n]) w := by kernel_rfl

set_option maxHeartbeats 2000000 in
theorem finiteOf_no (k : Int) (n : Bool) (m e : Int) (h : flok k n m e = false) (w : World) :
    Calls Tryz.prog 54 #[flv k n m e] w fun e' w' => e' = .returned (.tuple #[.nilIface, .bool false]) ∧ Kept 0 0 w w' := by
  go_enter Tryz.func54, Tryz.ntmps54
  go_wp2_with (first | (go_at_call 43; refine (flok_impl_eq h _).mono ?_; rintro r w1 ⟨rfl, rfl⟩) | go_in)
  go_ret2
  exact ⟨rfl, by repeat first | exact Kept.refl 0 0 _ | apply Kept.alloc⟩

set_option maxHeartbeats 2000000 in
theorem finiteOf_num (n : Bool) (m e : Int) (h : flok 1 n m e = true) (w : World) :
    Calls Tryz.prog 54 #[flv 1 n m e] w fun e' w' => e' = .returned (.tuple #[.iface 133 (.agg #[.bool n, .int .i64 m, .int .i64 e]), .bool true]) ∧ Kept 0 0 w w' := by
  have a0 := fin_num n m e
  go_enter Tryz.func54, Tryz.ntmps54
  go_wp2_with (first | (go_at_call 43; refine (flok_impl_eq h _).mono ?_; rintro r w1 ⟨rfl, rfl⟩) | go_in)
  go_ret2
  exact ⟨rfl, by repeat first | exact Kept.refl 0 0 _ | apply Kept.alloc⟩

set_option maxHeartbeats 2000000 in
theorem finiteOf_nought (n : Bool) (h : flok 0 n 0 0 = true) (w : World) :
    Calls Tryz.prog 54 #[flv 0 n 0 0] w fun e' w' => e' = .returned (.tuple #[.iface 131 (.agg #[.bool n]), .bool true]) ∧ Kept 0 0 w w' := by
  have a0 := fin_nought n 0 0
  go_enter Tryz.func54, Tryz.ntmps54
  go_wp2_with (first | (go_at_call 43; refine (flok_impl_eq h _).mono ?_; rintro r w1 ⟨rfl, rfl⟩) | go_in)
  go_ret2
  exact ⟨rfl, by repeat first | exact Kept.refl 0 0 _ | apply Kept.alloc⟩

set_option maxHeartbeats 2000000 in
theorem finiteOf_inf (n : Bool) (h : flok 2 n 0 0 = true) (w : World) :
    Calls Tryz.prog 54 #[flv 2 n 0 0] w fun e' w' => e' = .returned (.tuple #[.nilIface, .bool false]) ∧ Kept 0 0 w w' := by
  have a0 := fin_inf n 0 0
  go_enter Tryz.func54, Tryz.ntmps54
  go_wp2_with (first | (go_at_call 43; refine (flok_impl_eq h _).mono ?_; rintro r w1 ⟨rfl, rfl⟩) | go_in)
  go_ret2
  exact ⟨rfl, by repeat first | exact Kept.refl 0 0 _ | apply Kept.alloc⟩

set_option maxHeartbeats 2000000 in
theorem finiteOf_nan (h : flok 3 false 0 0 = true) (w : World) :
    Calls Tryz.prog 54 #[flv 3 false 0 0] w fun e' w' => e' = .returned (.tuple #[.nilIface, .bool false]) ∧ Kept 0 0 w w' := by
  have a0 := fin_nan false 0 0
  go_enter Tryz.func54, Tryz.ntmps54
  go_wp2_with (first | (go_at_call 43; refine (flok_impl_eq h _).mono ?_; rintro r w1 ⟨rfl, rfl⟩) | go_in)
  go_ret2
  exact ⟨rfl, by repeat first | exact Kept.refl 0 0 _ | apply Kept.alloc⟩

set_option maxHeartbeats 2000000 in
theorem value_n (n : Bool) (w : World) :
    Calls Tryz.prog 191 #[.agg #[.bool n]] w fun e' w' => ∃ v', e' = .returned (.agg #[v', .bool n, .int .i64 0]) ∧ w'.ownsRow w.heap.size 3 1 v' (([] : List Int)).length ((([] : List Int)).map (Value.int .i64)) ∧ Kept 0 0 w w' := by
  go_enter Tryz.func191, Tryz.ntmps191
  go_wp2
  exact bodyPost_ret (v := .agg #[.slice none 0 0, .bool n, .int .i64 0]) (by simp [results, Tryz.results191, go_sem]) rfl ⟨_, rfl, World.ownsRow_nil _ _ _ _, by repeat first | exact Kept.refl 0 0 _ | apply Kept.alloc⟩

set_option maxHeartbeats 4000000 in
theorem value_m (n : Bool) (m e : Int) (h3 : 1 ≤ m) (h4 : m ≤ 9007199254740991) (w : World) :
    Calls Tryz.prog 194 #[.agg #[.bool n, .int .i64 m, .int .i64 e]] w fun e' w' => ∃ v', e' = .returned (.agg #[v', .bool n, .int .i64 e]) ∧ w'.ownsRow w.heap.size 3 1 v' (limbs m.toNat).length ((limbs m.toNat).map (Value.int .i64)) ∧ Kept 0 0 w w' := by
  have mk1 := fun w => limbsOfInt_impl w m (by omega)
  obtain ⟨zs, hL⟩ : ∃ L, limbs m.toNat = L := ⟨_, rfl⟩
  rw [hL] at mk1 ⊢
  replace mk1 := hide mk1
  clear hL
  have k0 : Kept 0 0 w ((w.alloc (.cells #[.bool n, .int .i64 m, .int .i64 e] 133)).alloc (.cells #[.slice none 0 0, .bool false, .int .i64 0] 93)) := (((Kept.refl 0 0 w).alloc (.cells #[.bool n, .int .i64 m, .int .i64 e] 133)).alloc (.cells #[.slice none 0 0, .bool false, .int .i64 0] 93))
  have p0 : ((w.alloc (.cells #[.bool n, .int .i64 m, .int .i64 e] 133)).alloc (.cells #[.slice none 0 0, .bool false, .int .i64 0] 93)).cell? ⟨w.heap.size, 0, none⟩ = some (.bool n) := old_cell _ (new_cell2 _ _ _ _ _ _ (by simp) rfl)
  have p1 : ((w.alloc (.cells #[.bool n, .int .i64 m, .int .i64 e] 133)).alloc (.cells #[.slice none 0 0, .bool false, .int .i64 0] 93)).cell? ⟨w.heap.size, 1, none⟩ = some (.int .i64 m) := old_cell _ (new_cell2 _ _ _ _ _ _ (by simp) rfl)
  have p2 : ((w.alloc (.cells #[.bool n, .int .i64 m, .int .i64 e] 133)).alloc (.cells #[.slice none 0 0, .bool false, .int .i64 0] 93)).cell? ⟨w.heap.size, 2, none⟩ = some (.int .i64 e) := old_cell _ (new_cell2 _ _ _ _ _ _ (by simp) rfl)
  have q0 : ((w.alloc (.cells #[.bool n, .int .i64 m, .int .i64 e] 133)).alloc (.cells #[.slice none 0 0, .bool false, .int .i64 0] 93)).cell? ⟨w.heap.size + 1, 0, none⟩ = some (.slice none 0 0) := new_cell2 _ _ _ _ _ _ (by simp) rfl
  have qf0 : ((w.alloc (.cells #[.bool n, .int .i64 m, .int .i64 e] 133)).alloc (.cells #[.slice none 0 0, .bool false, .int .i64 0] 93)).frozen? ⟨w.heap.size + 1, 0, none⟩ = false := new_loose2 _ _ _ _ _ (by simp)
  have q1 : ((w.alloc (.cells #[.bool n, .int .i64 m, .int .i64 e] 133)).alloc (.cells #[.slice none 0 0, .bool false, .int .i64 0] 93)).cell? ⟨w.heap.size + 1, 1, none⟩ = some (.bool false) := new_cell2 _ _ _ _ _ _ (by simp) rfl
  have qf1 : ((w.alloc (.cells #[.bool n, .int .i64 m, .int .i64 e] 133)).alloc (.cells #[.slice none 0 0, .bool false, .int .i64 0] 93)).frozen? ⟨w.heap.size + 1, 1, none⟩ = false := new_loose2 _ _ _ _ _ (by simp)
  have q2 : ((w.alloc (.cells #[.bool n, .int .i64 m, .int .i64 e] 133)).alloc (.cells #[.slice none 0 0, .bool false, .int .i64 0] 93)).cell? ⟨w.heap.size + 1, 2, none⟩ = some (.int .i64 0) := new_cell2 _ _ _ _ _ _ (by simp) rfl
  have qf2 : ((w.alloc (.cells #[.bool n, .int .i64 m, .int .i64 e] 133)).alloc (.cells #[.slice none 0 0, .bool false, .int .i64 0] 93)).frozen? ⟨w.heap.size + 1, 2, none⟩ = false := new_loose2 _ _ _ _ _ (by simp)
  have s0 : ((w.alloc (.cells #[.bool n, .int .i64 m, .int .i64 e] 133)).alloc (.cells #[.slice none 0 0, .bool false, .int .i64 0] 93)).heap.size = w.heap.size + 2 := by simp
  have K := hide (k0)
  clear k0
  have S0 := hide s0
  clear s0
  go_enter Tryz.func194, Tryz.ntmps194
  go_wp2_with fail
  generalize ((w.alloc (.cells #[.bool n, .int .i64 m, .int .i64 e] 133)).alloc (.cells #[.slice none 0 0, .bool false, .int .i64 0] 93)) = W at *
  have n_qf0 := qf0
  have n_q0 := q0
  have n_qf1 := qf1
  have n_q1 := q1
  have n_qf2 := qf2
  have n_q2 := q2
  have kd := (Kept.refl 0 0 W).drew
  replace qf0 := kd.loose0 (World.block_lt_of_cell? _ _ q0) qf0
  replace qf1 := kd.loose0 (World.block_lt_of_cell? _ _ q1) qf1
  replace qf2 := kd.loose0 (World.block_lt_of_cell? _ _ q2) qf2
  replace p0 := kd.cell0 p0
  replace p1 := kd.cell0 p1
  replace p2 := kd.cell0 p2
  replace q0 := kd.cell0 q0
  replace q1 := kd.cell0 q1
  replace q2 := kd.cell0 q2
  replace K := hide ((unhide K).trans kd)
  have z1 := kd.size
  clear kd
  refine wp_region_held_drew (S := (fun w' => w'.cell? ⟨w.heap.size, 0, none⟩ = some (.bool n) ∧ w'.cell? ⟨w.heap.size, 1, none⟩ = some (.int .i64 m) ∧ w'.cell? ⟨w.heap.size, 2, none⟩ = some (.int .i64 e))) (by kernel_rfl) ?_ (fun hHeld => ?_)
  · exact ⟨p0, p1, p2⟩
  refine wpAnyH_take (i := 0) (oi := _) (v := .pointer (some ⟨w.heap.size, 1, none⟩)) rfl (by kernel_rfl) (by kernel_rfl) (by kernel_rfl) (fun _ _ _ h => h) (Or.inl ⟨by rfl, ?_⟩) hHeld ?_
  · intro wq hSw
    try dsimp only at hSw
    go_simp
  try simp only [Act.put, List.getElem_toArray, List.getElem_cons_succ, List.getElem_cons_zero, List.setIfInBounds_toArray, List.set_cons_zero, List.set_cons_succ]
  refine wpAnyH_take (i := 1) (oi := _) (v := .int .i64 m) rfl (by kernel_rfl) (by kernel_rfl) (by kernel_rfl) (fun _ _ _ h => h) (Or.inl ⟨by rfl, ?_⟩) hHeld ?_
  · intro wq hSw
    try dsimp only at hSw
    go_simp
  try simp only [Act.put, List.getElem_toArray, List.getElem_cons_succ, List.getElem_cons_zero, List.setIfInBounds_toArray, List.set_cons_zero, List.set_cons_succ]
  refine wpAnyH_take (i := 3) (oi := _) (v := .pointer (some ⟨w.heap.size, 0, none⟩)) rfl (by kernel_rfl) (by kernel_rfl) (by kernel_rfl) (fun _ _ _ h => h) (Or.inl ⟨by rfl, ?_⟩) hHeld ?_
  · intro wq hSw
    try dsimp only at hSw
    go_simp
  try simp only [Act.put, List.getElem_toArray, List.getElem_cons_succ, List.getElem_cons_zero, List.setIfInBounds_toArray, List.set_cons_zero, List.set_cons_succ]
  refine wpAnyH_take (i := 4) (oi := _) (v := .pointer (some ⟨w.heap.size, 0, none⟩)) rfl (by kernel_rfl) (by kernel_rfl) (by kernel_rfl) (fun _ _ _ h => h) (Or.inl ⟨by rfl, ?_⟩) hHeld ?_
  · intro wq hSw
    try dsimp only at hSw
    go_simp
  try simp only [Act.put, List.getElem_toArray, List.getElem_cons_succ, List.getElem_cons_zero, List.setIfInBounds_toArray, List.set_cons_zero, List.set_cons_succ]
  refine wpAnyH_take (i := 5) (oi := _) (v := .bool n) rfl (by kernel_rfl) (by kernel_rfl) (by kernel_rfl) (fun _ _ _ h => h) (Or.inl ⟨by rfl, ?_⟩) hHeld ?_
  · intro wq hSw
    try dsimp only at hSw
    go_simp
  try simp only [Act.put, List.getElem_toArray, List.getElem_cons_succ, List.getElem_cons_zero, List.setIfInBounds_toArray, List.set_cons_zero, List.set_cons_succ]
  refine wpAnyH_take (i := 7) (oi := _) (v := .pointer (some ⟨w.heap.size, 2, none⟩)) rfl (by kernel_rfl) (by kernel_rfl) (by kernel_rfl) (fun _ _ _ h => h) (Or.inl ⟨by rfl, ?_⟩) hHeld ?_
  · intro wq hSw
    try dsimp only at hSw
    go_simp
  try simp only [Act.put, List.getElem_toArray, List.getElem_cons_succ, List.getElem_cons_zero, List.setIfInBounds_toArray, List.set_cons_zero, List.set_cons_succ]
  refine wpAnyH_take (i := 8) (oi := _) (v := .int .i64 e) rfl (by kernel_rfl) (by kernel_rfl) (by kernel_rfl) (fun _ _ _ h => h) (Or.inl ⟨by rfl, ?_⟩) hHeld ?_
  · intro wq hSw
    try dsimp only at hSw
    go_simp
  try simp only [Act.put, List.getElem_toArray, List.getElem_cons_succ, List.getElem_cons_zero, List.setIfInBounds_toArray, List.set_cons_zero, List.set_cons_succ]
  refine wpAnyH_ready (rs := [2]) (by kernel_rfl) (by simp) ?_
  refine AllReadyH.cons rfl (fun KK hK => ?_) AllReadyH.nil
  simp only [List.getElem_toArray, List.getElem_cons_succ, List.getElem_cons_zero]
  rw [if_pos (by rfl)]
  refine wps1 108 (.tmp 4) _ rfl in_limbsOfInt (.int .i64 m) rfl (unhide mk1 _) ?_
  rintro e w2 ⟨v3, rfl, o3, k2⟩
  refine ⟨_, rfl, ?_⟩
  replace qf0 := k2.loose0 (World.block_lt_of_cell? _ _ q0) qf0
  replace qf1 := k2.loose0 (World.block_lt_of_cell? _ _ q1) qf1
  replace qf2 := k2.loose0 (World.block_lt_of_cell? _ _ q2) qf2
  replace p0 := k2.cell0 p0
  replace p1 := k2.cell0 p1
  replace p2 := k2.cell0 p2
  replace q0 := k2.cell0 q0
  replace q1 := k2.cell0 q1
  replace q2 := k2.cell0 q2
  replace K := hide ((unhide K).trans k2)
  have z3 := k2.size
  clear k2
  clear hHeld
  refine hK.out _ _ ?_ (fun hHeld => ?_)
  · exact ⟨p0, p1, p2⟩
  clear hK KK
  try simp only [Act.put, List.getElem_toArray, List.getElem_cons_succ, List.getElem_cons_zero, List.setIfInBounds_toArray, List.set_cons_zero, List.set_cons_succ]
  obtain ⟨a3, c3, hv⟩ := own_slice o3
  subst hv
  refine wpAnyH_take (i := 6) (oi := _) (v := .agg #[.slice a3 zs.length c3, .bool n]) rfl (by kernel_rfl) (by kernel_rfl) (by kernel_rfl) (fun _ _ _ h => h) (Or.inl ⟨by rfl, ?_⟩) hHeld ?_
  · intro wq hSw
    try dsimp only at hSw
    go_simp
  try simp only [Act.put, List.getElem_toArray, List.getElem_cons_succ, List.getElem_cons_zero, List.setIfInBounds_toArray, List.set_cons_zero, List.set_cons_succ]
  refine wpAnyH_take (i := 9) (oi := _) (v := .agg #[.slice a3 zs.length c3, .bool n, .int .i64 e]) rfl (by kernel_rfl) (by kernel_rfl) (by kernel_rfl) (fun _ _ _ h => h) (Or.inl ⟨by rfl, ?_⟩) hHeld ?_
  · intro wq hSw
    try dsimp only at hSw
    go_simp
  try simp only [Act.put, List.getElem_toArray, List.getElem_cons_succ, List.getElem_cons_zero, List.setIfInBounds_toArray, List.set_cons_zero, List.set_cons_succ]
  refine wpAnyH_ready (rs := [10]) (by kernel_rfl) (by simp) ?_
  refine AllReadyH.cons rfl (fun KK hK => ?_) AllReadyH.nil
  simp only [List.getElem_toArray, List.getElem_cons_succ, List.getElem_cons_zero]
  rw [if_pos (by rfl)]
  go_simp
  clear hHeld
  refine hK.out _ _ ?_ (fun hHeld => ?_)
  · exact ⟨(cell_aside _ (by have := unhide S0; dsimp only; omega) (cell_aside _ (by have := unhide S0; dsimp only; omega) (cell_aside _ (by have := unhide S0; dsimp only; omega) p0))), (cell_aside _ (by have := unhide S0; dsimp only; omega) (cell_aside _ (by have := unhide S0; dsimp only; omega) (cell_aside _ (by have := unhide S0; dsimp only; omega) p1))), (cell_aside _ (by have := unhide S0; dsimp only; omega) (cell_aside _ (by have := unhide S0; dsimp only; omega) (cell_aside _ (by have := unhide S0; dsimp only; omega) p2)))⟩
  clear hK KK
  try simp only [Act.put, List.getElem_toArray, List.getElem_cons_succ, List.getElem_cons_zero, List.setIfInBounds_toArray, List.set_cons_zero, List.set_cons_succ]
  refine wpAnyH_done (by kernel_rfl) ?_ _
  clear hHeld
  have o3l := o3.lt
  have O := hide (own_less (own_apart (own_apart (own_apart o3 (p := ⟨w.heap.size + 1, 0, none⟩) (fun e => by have := (o3l _ e).1; have := unhide S0; dsimp only at *; omega) (.slice a3 zs.length c3)) (p := ⟨w.heap.size + 1, 1, none⟩) (fun e => by have := (o3l _ e).1; have := unhide S0; dsimp only at *; omega) (.bool n)) (p := ⟨w.heap.size + 1, 2, none⟩) (fun e => by have := (o3l _ e).1; have := unhide S0; dsimp only at *; omega) (.int .i64 e)) (base' := w.heap.size) (by have := unhide S0; omega))
  have K7 := hide ((((unhide K).setNew (p := ⟨w.heap.size + 1, 0, none⟩) (by simp) (.slice a3 zs.length c3)).setNew (p := ⟨w.heap.size + 1, 1, none⟩) (by simp) (.bool n)).setNew (p := ⟨w.heap.size + 1, 2, none⟩) (by simp) (.int .i64 e))
  clear o3 o3l K mk1
  go_wp2_with fail
  exact bodyPost_ret (v := .agg #[.slice a3 zs.length c3, .bool n, .int .i64 e]) (by simp [results, Tryz.results194, go_sem, q0, q1, q2]) rfl ⟨_, rfl, unhide O, unhide K7⟩

end Go.Proofs.YtckaecmkidplhaaGreatDoor

namespace Go.Proofs.YtckaecmkidplhaaGreatDoor
open Go.RowKit
set_option linter.unusedVariables false
set_option maxRecDepth 8000
set_option linter.unusedSimpArgs false

end Go.Proofs.YtckaecmkidplhaaGreatDoor

