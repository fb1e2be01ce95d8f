/-
  Contracts that the proofs of this seat share: Fl2, Fl12, FlK.
-/
import Derived.Test.YtckaecmkidplhaaGreatDoorBS
import Derived.Test.YtckaecmkidplhaaGreatDoorDy7
import Derived.Stop.Asserts
import Derived.Deep.RegionHeld3
import Derived.Deep.DeepCutAuto
import Derived.Test.YtckaecmkidplhaaGreatDoorBU
import Derived.Test.YtckaecmkidplhaaGreatDoorBX
namespace Go.Proofs.YtckaecmkidplhaaGreatDoor
open Go.RowKit
set_option linter.unusedVariables false

/-- A float out of its four fields. -/
abbrev flq (q : Int × Bool × Int × Int) : Value := flv q.1 q.2.1 q.2.2.1 q.2.2.2

theorem Kept.box {w w' : World} (h : Kept 0 0 w w') {b : Nat} (hb : b < w.heap.size) (off : Nat) : w'.cell? ⟨b, off, none⟩ = w.cell? ⟨b, off, none⟩ :=
  World.cell?_of_block (w := w) (a := ⟨b, off, none⟩) (h.block b hb (by omega))

/-- A float's box: its block, its four cells. -/
structure FB (w : World) (b : Nat) (k : Int) (n : Bool) (m e : Int) : Prop where
  lt : b < w.heap.size
  c0 : w.cell? ⟨b, 0, none⟩ = some (.int .i64 k)
  c1 : w.cell? ⟨b, 1, none⟩ = some (.bool n)
  c2 : w.cell? ⟨b, 2, none⟩ = some (.int .i64 m)
  c3 : w.cell? ⟨b, 3, none⟩ = some (.int .i64 e)

theorem FB.kept {w w' : World} {b : Nat} {k : Int} {n : Bool} {m e : Int} (f : FB w b k n m e) (h : Kept 0 0 w w') : FB w' b k n m e :=
  ⟨Nat.lt_of_lt_of_le f.lt h.size, (h.box f.lt 0).trans f.c0, (h.box f.lt 1).trans f.c1, (h.box f.lt 2).trans f.c2, (h.box f.lt 3).trans f.c3⟩
theorem FB.alloc {w : World} {b : Nat} {k : Int} {n : Bool} {m e : Int} (f : FB w b k n m e) (o : Obj) : FB (w.alloc o) b k n m e :=
  f.kept ((Kept.refl 0 0 w).alloc o)
theorem FB.new (w : World) (k : Int) (n : Bool) (m e : Int) (t : TypeId) : FB (w.alloc (flc k n m e t)) w.heap.size k n m e := by
  have hg : (w.alloc (flc k n m e t)).heap[w.heap.size]? = some (flc k n m e t) := heap_alloc_new w _
  refine ⟨by simp, ?_, ?_, ?_, ?_⟩ <;> simp only [World.cell?, hg] <;> rfl

theorem l5nan_any (w : World) :
    Calls Tryz.prog 98 #[] w fun r w' => r = .returned (flv 3 false 0 0) ∧ w' = (w.alloc (flc 3 false 0 0 25)) := by
  go_enter Tryz.func98, Tryz.ntmps98
  go_wp2
  exact bodyPost_ret (v := flv 3 false 0 0) (by simp [results, Tryz.results98, go_sem]) rfl ⟨rfl, rfl⟩

theorem l5neg_not (k : Int) (n : Bool) (m e : Int) (h : (k == 3) = false) (w : World) :
    Calls Tryz.prog 89 #[flv k n m e] w fun r w' => r = .returned (flv k (!n) m e) ∧ w' = ((w.alloc (flc k (!n) m e 25)).alloc (flc k (!n) m e 25)) := by
  go_enter Tryz.func89, Tryz.ntmps89
  go_wp2
  exact bodyPost_ret (v := flv k (!n) m e) (by simp [results, Tryz.results89, go_sem]) rfl ⟨rfl, rfl⟩

theorem l5most_any (n : Bool) (w : World) :
    Calls Tryz.prog 130 #[.bool n] w fun r w' => r = .returned (flv 1 n 9007199254740991 971) ∧ w' = (w.alloc (flc 1 n 9007199254740991 971 25)) := by
  go_enter Tryz.func130, Tryz.ntmps130
  go_wp2
  exact bodyPost_ret (v := flv 1 n 9007199254740991 971) (by simp [results, Tryz.results130, go_sem]) rfl ⟨rfl, rfl⟩

set_option maxHeartbeats 1000000 in
theorem flneg_impl_no (k : Int) (n : Bool) (m e : Int) (h : flok k n m e = false) (w : World) :
    Calls Tryz.prog 13 #[flv k n m e] w fun r w' => r = .returned (flv 3 false 0 0) ∧ Kept 0 0 w w' := by
  go_enter Tryz.func13, Tryz.ntmps13
  go_wp2_with (first
    | (go_at_call 43; refine (flok_impl_eq h _).mono ?_; rintro r w1 ⟨rfl, rfl⟩))
  exact bodyPost_ret (v := flv 3 false 0 0) (by simp [results, Tryz.results13, go_sem]) rfl ⟨rfl, by repeat first | exact Kept.refl 0 0 _ | apply Kept.alloc⟩

set_option maxHeartbeats 1000000 in
theorem flneg_impl_not (k : Int) (n : Bool) (m e : Int) (h : flok k n m e = true) (h2 : (k == 3) = false) (w : World) :
    Calls Tryz.prog 13 #[flv k n m e] w fun r w' => r = .returned (flv k (!n) m e) ∧ Kept 0 0 w w' := by
  go_enter Tryz.func13, Tryz.ntmps13
  go_wp2_with (first
    | (go_at_call 43; refine (flok_impl_eq h _).mono ?_; rintro r w1 ⟨rfl, rfl⟩))
  exact bodyPost_ret (v := flv k (!n) m e) (by simp [results, Tryz.results13, go_sem]) rfl ⟨rfl, by repeat first | exact Kept.refl 0 0 _ | apply Kept.alloc⟩

set_option maxHeartbeats 1000000 in
theorem flneg_impl_nan (h : flok 3 false 0 0 = true) (w : World) :
    Calls Tryz.prog 13 #[flv 3 false 0 0] w fun r w' => r = .returned (flv 3 false 0 0) ∧ Kept 0 0 w w' := by
  go_enter Tryz.func13, Tryz.ntmps13
  go_wp2_with (first
    | (go_at_call 43; refine (flok_impl_eq h _).mono ?_; rintro r w1 ⟨rfl, rfl⟩))
  exact bodyPost_ret (v := flv 3 false 0 0) (by simp [results, Tryz.results13, go_sem]) rfl ⟨rfl, by repeat first | exact Kept.refl 0 0 _ | apply Kept.alloc⟩

/-- What FlNeg answers. -/
def fneg (k : Int) (n : Bool) (m e : Int) : Int × Bool × Int × Int := if flok k n m e = true ∧ k ≠ 3 then (k, !n, m, e) else (3, false, 0, 0)

theorem flneg_impl (k : Int) (n : Bool) (m e : Int) (w : World) :
    Calls Tryz.prog 13 #[flv k n m e] w fun r w' => r = .returned (flq (fneg k n m e)) ∧ Kept 0 0 w w' := by
  by_cases h : flok k n m e = true
  · by_cases h3 : k = 3
    · subst h3
      rcases flok_ways h with ⟨h9, -⟩ | ⟨h9, -⟩ | ⟨h9, -⟩ | ⟨-, rfl, rfl, rfl⟩
      · omega
      · omega
      · omega
      · exact flneg_impl_nan h w
    · rw [show fneg k n m e = (k, !n, m, e) by unfold fneg; rw [if_pos ⟨h, h3⟩]]
      exact flneg_impl_not k n m e h (by simpa using h3) w
  · rw [show fneg k n m e = (3, false, 0, 0) by unfold fneg; rw [if_neg (fun q => h q.1)]]
    exact flneg_impl_no k n m e (by simpa using h) w

end Go.Proofs.YtckaecmkidplhaaGreatDoor

namespace Go.Proofs.YtckaecmkidplhaaGreatDoor
open Go.RowKit
set_option linter.unusedVariables false
set_option maxRecDepth 8000
set_option linter.unusedSimpArgs false

/-- The number before the power of two. -/
def fM (k : Int) (n : Bool) (m : Int) : Int := if k = 1 then (if n = true then -m else m) else 0

theorem fM_zero {k : Int} (h : k ≠ 1) (n : Bool) (m : Int) : fM k n m = 0 := by unfold fM; rw [if_neg h]

theorem limbs_wval (n : Bool) {m : Int} (h : 1 ≤ m) : wval n (limbs m.toNat) = fM 1 n m := by
  unfold wval fM
  rw [limbs_val, if_pos rfl]
  split <;> omega

theorem flok_impl_k {k : Int} {n : Bool} {m e : Int} {b : Bool} (h : flok k n m e = b) (w : World) :
    Calls Tryz.prog 43 #[flv k n m e] w fun r w' => r = .returned (.bool b) ∧ Kept 0 0 w w' :=
  (flok_impl_eq h w).mono fun _ _ h => ⟨h.1, h.2 ▸ (Kept.refl 0 0 w).alloc _⟩

theorem flok_spec_k {k : Int} {n : Bool} {m e : Int} {b : Bool} (h : flok k n m e = b) (w : World) :
    Calls Tryz.prog 14 #[flv k n m e] w fun r w' => r = .returned (.bool b) ∧ Kept 0 0 w w' :=
  (flok_spec_eq h w).mono fun _ _ h => ⟨h.1, h.2 ▸ (Kept.refl 0 0 w).alloc _⟩

theorem in_limbsOfInt : ∀ (w : World) (args : Array Value), (callFunc 108 args).run Tryz.prog w = .ok (.enter 108 args) w := enters Tryz.func108 (by decide) (fun h => by cases h)

theorem fin_num (n : Bool) (m e : Int) (w : World) : (Instr.typeAssert (.iface 133 (.agg #[.bool n, .int .i64 m, .int .i64 e])) 79 85 true).run Tryz.prog w = .ok (.tuple #[.iface 133 (.agg #[.bool n, .int .i64 m, .int .i64 e]), .bool true]) w := by kernel_rfl

theorem value_num (n : Bool) (m e : Int) (w : World) : (method 306 133 (.agg #[.bool n, .int .i64 m, .int .i64 e]) "loop.example/g00382/impl.value").run Tryz.prog w = .ok (194, .agg #[.bool n, .int .i64 m, .int .i64 e]) w := by kernel_rfl

theorem fin_nought (n : Bool) (m e : Int) (w : World) : (Instr.typeAssert (.iface 131 (.agg #[.bool n])) 79 85 true).run Tryz.prog w = .ok (.tuple #[.iface 131 (.agg #[.bool n]), .bool true]) w := by kernel_rfl

theorem value_nought (n : Bool) (m e : Int) (w : World) : (method 306 131 (.agg #[.bool n]) "loop.example/g00382/impl.value").run Tryz.prog w = .ok (191, .agg #[.bool n]) w := by kernel_rfl

set_option maxHeartbeats 2000000 in
theorem value_n (n : Bool) (w : World) :
    Calls Tryz.prog 191 #[.agg #[.bool n]] w fun e' w' => ∃ v', e' = .returned (.agg #[v', .bool n, .int .i64 0]) ∧ w'.ownsRow w.heap.size 3 1 v' (([] : List Int)).length ((([] : List Int)).map (Value.int .i64)) ∧ Kept 0 0 w w' := by
  go_enter Tryz.func191, Tryz.ntmps191
  go_wp2
  exact bodyPost_ret (v := .agg #[.slice none 0 0, .bool n, .int .i64 0]) (by simp [results, Tryz.results191, go_sem]) rfl ⟨_, rfl, World.ownsRow_nil _ _ _ _, by repeat first | exact Kept.refl 0 0 _ | apply Kept.alloc⟩

set_option maxHeartbeats 4000000 in
theorem value_m (n : Bool) (m e : Int) (h3 : 1 ≤ m) (h4 : m ≤ 9007199254740991) (w : World) :
    Calls Tryz.prog 194 #[.agg #[.bool n, .int .i64 m, .int .i64 e]] w fun e' w' => ∃ v', e' = .returned (.agg #[v', .bool n, .int .i64 e]) ∧ w'.ownsRow w.heap.size 3 1 v' (limbs m.toNat).length ((limbs m.toNat).map (Value.int .i64)) ∧ Kept 0 0 w w' := by
  have mk1 := fun w => limbsOfInt_impl w m (by omega)
  obtain ⟨zs, hL⟩ : ∃ L, limbs m.toNat = L := ⟨_, rfl⟩
  rw [hL] at mk1 ⊢
  replace mk1 := hide mk1
  clear hL
  have k0 : Kept 0 0 w ((w.alloc (.cells #[.bool n, .int .i64 m, .int .i64 e] 133)).alloc (.cells #[.slice none 0 0, .bool false, .int .i64 0] 93)) := (((Kept.refl 0 0 w).alloc (.cells #[.bool n, .int .i64 m, .int .i64 e] 133)).alloc (.cells #[.slice none 0 0, .bool false, .int .i64 0] 93))
  have p0 : ((w.alloc (.cells #[.bool n, .int .i64 m, .int .i64 e] 133)).alloc (.cells #[.slice none 0 0, .bool false, .int .i64 0] 93)).cell? ⟨w.heap.size, 0, none⟩ = some (.bool n) := old_cell _ (new_cell2 _ _ _ _ _ _ (by simp) rfl)
  have p1 : ((w.alloc (.cells #[.bool n, .int .i64 m, .int .i64 e] 133)).alloc (.cells #[.slice none 0 0, .bool false, .int .i64 0] 93)).cell? ⟨w.heap.size, 1, none⟩ = some (.int .i64 m) := old_cell _ (new_cell2 _ _ _ _ _ _ (by simp) rfl)
  have p2 : ((w.alloc (.cells #[.bool n, .int .i64 m, .int .i64 e] 133)).alloc (.cells #[.slice none 0 0, .bool false, .int .i64 0] 93)).cell? ⟨w.heap.size, 2, none⟩ = some (.int .i64 e) := old_cell _ (new_cell2 _ _ _ _ _ _ (by simp) rfl)
  have q0 : ((w.alloc (.cells #[.bool n, .int .i64 m, .int .i64 e] 133)).alloc (.cells #[.slice none 0 0, .bool false, .int .i64 0] 93)).cell? ⟨w.heap.size + 1, 0, none⟩ = some (.slice none 0 0) := new_cell2 _ _ _ _ _ _ (by simp) rfl
  have qf0 : ((w.alloc (.cells #[.bool n, .int .i64 m, .int .i64 e] 133)).alloc (.cells #[.slice none 0 0, .bool false, .int .i64 0] 93)).frozen? ⟨w.heap.size + 1, 0, none⟩ = false := new_loose2 _ _ _ _ _ (by simp)
  have q1 : ((w.alloc (.cells #[.bool n, .int .i64 m, .int .i64 e] 133)).alloc (.cells #[.slice none 0 0, .bool false, .int .i64 0] 93)).cell? ⟨w.heap.size + 1, 1, none⟩ = some (.bool false) := new_cell2 _ _ _ _ _ _ (by simp) rfl
  have qf1 : ((w.alloc (.cells #[.bool n, .int .i64 m, .int .i64 e] 133)).alloc (.cells #[.slice none 0 0, .bool false, .int .i64 0] 93)).frozen? ⟨w.heap.size + 1, 1, none⟩ = false := new_loose2 _ _ _ _ _ (by simp)
  have q2 : ((w.alloc (.cells #[.bool n, .int .i64 m, .int .i64 e] 133)).alloc (.cells #[.slice none 0 0, .bool false, .int .i64 0] 93)).cell? ⟨w.heap.size + 1, 2, none⟩ = some (.int .i64 0) := new_cell2 _ _ _ _ _ _ (by simp) rfl
  have qf2 : ((w.alloc (.cells #[.bool n, .int .i64 m, .int .i64 e] 133)).alloc (.cells #[.slice none 0 0, .bool false, .int .i64 0] 93)).frozen? ⟨w.heap.size + 1, 2, none⟩ = false := new_loose2 _ _ _ _ _ (by simp)
  have s0 : ((w.alloc (.cells #[.bool n, .int .i64 m, .int .i64 e] 133)).alloc (.cells #[.slice none 0 0, .bool false, .int .i64 0] 93)).heap.size = w.heap.size + 2 := by simp
  have K := hide (k0)
  clear k0
  have S0 := hide s0
  clear s0
  go_enter Tryz.func194, Tryz.ntmps194
  go_wp2_with fail
  generalize ((w.alloc (.cells #[.bool n, .int .i64 m, .int .i64 e] 133)).alloc (.cells #[.slice none 0 0, .bool false, .int .i64 0] 93)) = W at *
  have n_qf0 := qf0
  have n_q0 := q0
  have n_qf1 := qf1
  have n_q1 := q1
  have n_qf2 := qf2
  have n_q2 := q2
  have kd := (Kept.refl 0 0 W).drew
  replace qf0 := kd.loose0 (World.block_lt_of_cell? _ _ q0) qf0
  replace qf1 := kd.loose0 (World.block_lt_of_cell? _ _ q1) qf1
  replace qf2 := kd.loose0 (World.block_lt_of_cell? _ _ q2) qf2
  replace p0 := kd.cell0 p0
  replace p1 := kd.cell0 p1
  replace p2 := kd.cell0 p2
  replace q0 := kd.cell0 q0
  replace q1 := kd.cell0 q1
  replace q2 := kd.cell0 q2
  replace K := hide ((unhide K).trans kd)
  have z1 := kd.size
  clear kd
  refine wp_region_held_drew (S := (fun w' => w'.cell? ⟨w.heap.size, 0, none⟩ = some (.bool n) ∧ w'.cell? ⟨w.heap.size, 1, none⟩ = some (.int .i64 m) ∧ w'.cell? ⟨w.heap.size, 2, none⟩ = some (.int .i64 e))) (by kernel_rfl) ?_ (fun hHeld => ?_)
  · exact ⟨p0, p1, p2⟩
  refine wpAnyH_take (i := 0) (oi := _) (v := .pointer (some ⟨w.heap.size, 1, none⟩)) rfl (by kernel_rfl) (by kernel_rfl) (by kernel_rfl) (fun _ _ _ h => h) (Or.inl ⟨by rfl, ?_⟩) hHeld ?_
  · intro wq hSw
    try dsimp only at hSw
    go_simp
  try simp only [Act.put, List.getElem_toArray, List.getElem_cons_succ, List.getElem_cons_zero, List.setIfInBounds_toArray, List.set_cons_zero, List.set_cons_succ]
  refine wpAnyH_take (i := 1) (oi := _) (v := .int .i64 m) rfl (by kernel_rfl) (by kernel_rfl) (by kernel_rfl) (fun _ _ _ h => h) (Or.inl ⟨by rfl, ?_⟩) hHeld ?_
  · intro wq hSw
    try dsimp only at hSw
    go_simp
  try simp only [Act.put, List.getElem_toArray, List.getElem_cons_succ, List.getElem_cons_zero, List.setIfInBounds_toArray, List.set_cons_zero, List.set_cons_succ]
  refine wpAnyH_take (i := 3) (oi := _) (v := .pointer (some ⟨w.heap.size, 0, none⟩)) rfl (by kernel_rfl) (by kernel_rfl) (by kernel_rfl) (fun _ _ _ h => h) (Or.inl ⟨by rfl, ?_⟩) hHeld ?_
  · intro wq hSw
    try dsimp only at hSw
    go_simp
  try simp only [Act.put, List.getElem_toArray, List.getElem_cons_succ, List.getElem_cons_zero, List.setIfInBounds_toArray, List.set_cons_zero, List.set_cons_succ]
  refine wpAnyH_take (i := 4) (oi := _) (v := .pointer (some ⟨w.heap.size, 0, none⟩)) rfl (by kernel_rfl) (by kernel_rfl) (by kernel_rfl) (fun _ _ _ h => h) (Or.inl ⟨by rfl, ?_⟩) hHeld ?_
  · intro wq hSw
    try dsimp only at hSw
    go_simp
  try simp only [Act.put, List.getElem_toArray, List.getElem_cons_succ, List.getElem_cons_zero, List.setIfInBounds_toArray, List.set_cons_zero, List.set_cons_succ]
  refine wpAnyH_take (i := 5) (oi := _) (v := .bool n) rfl (by kernel_rfl) (by kernel_rfl) (by kernel_rfl) (fun _ _ _ h => h) (Or.inl ⟨by rfl, ?_⟩) hHeld ?_
  · intro wq hSw
    try dsimp only at hSw
    go_simp
  try simp only [Act.put, List.getElem_toArray, List.getElem_cons_succ, List.getElem_cons_zero, List.setIfInBounds_toArray, List.set_cons_zero, List.set_cons_succ]
  refine wpAnyH_take (i := 7) (oi := _) (v := .pointer (some ⟨w.heap.size, 2, none⟩)) rfl (by kernel_rfl) (by kernel_rfl) (by kernel_rfl) (fun _ _ _ h => h) (Or.inl ⟨by rfl, ?_⟩) hHeld ?_
  · intro wq hSw
    try dsimp only at hSw
    go_simp
  try simp only [Act.put, List.getElem_toArray, List.getElem_cons_succ, List.getElem_cons_zero, List.setIfInBounds_toArray, List.set_cons_zero, List.set_cons_succ]
  refine wpAnyH_take (i := 8) (oi := _) (v := .int .i64 e) rfl (by kernel_rfl) (by kernel_rfl) (by kernel_rfl) (fun _ _ _ h => h) (Or.inl ⟨by rfl, ?_⟩) hHeld ?_
  · intro wq hSw
    try dsimp only at hSw
    go_simp
  try simp only [Act.put, List.getElem_toArray, List.getElem_cons_succ, List.getElem_cons_zero, List.setIfInBounds_toArray, List.set_cons_zero, List.set_cons_succ]
  refine wpAnyH_ready (rs := [2]) (by kernel_rfl) (by simp) ?_
  refine AllReadyH.cons rfl (fun KK hK => ?_) AllReadyH.nil
  simp only [List.getElem_toArray, List.getElem_cons_succ, List.getElem_cons_zero]
  rw [if_pos (by rfl)]
  refine wps1 108 (.tmp 4) _ rfl in_limbsOfInt (.int .i64 m) rfl (unhide mk1 _) ?_
  rintro e w2 ⟨v3, rfl, o3, k2⟩
  refine ⟨_, rfl, ?_⟩
  replace qf0 := k2.loose0 (World.block_lt_of_cell? _ _ q0) qf0
  replace qf1 := k2.loose0 (World.block_lt_of_cell? _ _ q1) qf1
  replace qf2 := k2.loose0 (World.block_lt_of_cell? _ _ q2) qf2
  replace p0 := k2.cell0 p0
  replace p1 := k2.cell0 p1
  replace p2 := k2.cell0 p2
  replace q0 := k2.cell0 q0
  replace q1 := k2.cell0 q1
  replace q2 := k2.cell0 q2
  replace K := hide ((unhide K).trans k2)
  have z3 := k2.size
  clear k2
  clear hHeld
  refine hK.out _ _ ?_ (fun hHeld => ?_)
  · exact ⟨p0, p1, p2⟩
  clear hK KK
  try simp only [Act.put, List.getElem_toArray, List.getElem_cons_succ, List.getElem_cons_zero, List.setIfInBounds_toArray, List.set_cons_zero, List.set_cons_succ]
  obtain ⟨a3, c3, hv⟩ := own_slice o3
  subst hv
  refine wpAnyH_take (i := 6) (oi := _) (v := .agg #[.slice a3 zs.length c3, .bool n]) rfl (by kernel_rfl) (by kernel_rfl) (by kernel_rfl) (fun _ _ _ h => h) (Or.inl ⟨by rfl, ?_⟩) hHeld ?_
  · intro wq hSw
    try dsimp only at hSw
    go_simp
  try simp only [Act.put, List.getElem_toArray, List.getElem_cons_succ, List.getElem_cons_zero, List.setIfInBounds_toArray, List.set_cons_zero, List.set_cons_succ]
  refine wpAnyH_take (i := 9) (oi := _) (v := .agg #[.slice a3 zs.length c3, .bool n, .int .i64 e]) rfl (by kernel_rfl) (by kernel_rfl) (by kernel_rfl) (fun _ _ _ h => h) (Or.inl ⟨by rfl, ?_⟩) hHeld ?_
  · intro wq hSw
    try dsimp only at hSw
    go_simp
  try simp only [Act.put, List.getElem_toArray, List.getElem_cons_succ, List.getElem_cons_zero, List.setIfInBounds_toArray, List.set_cons_zero, List.set_cons_succ]
  refine wpAnyH_ready (rs := [10]) (by kernel_rfl) (by simp) ?_
  refine AllReadyH.cons rfl (fun KK hK => ?_) AllReadyH.nil
  simp only [List.getElem_toArray, List.getElem_cons_succ, List.getElem_cons_zero]
  rw [if_pos (by rfl)]
  go_simp
  clear hHeld
  refine hK.out _ _ ?_ (fun hHeld => ?_)
  · exact ⟨(cell_aside _ (by have := unhide S0; dsimp only; omega) (cell_aside _ (by have := unhide S0; dsimp only; omega) (cell_aside _ (by have := unhide S0; dsimp only; omega) p0))), (cell_aside _ (by have := unhide S0; dsimp only; omega) (cell_aside _ (by have := unhide S0; dsimp only; omega) (cell_aside _ (by have := unhide S0; dsimp only; omega) p1))), (cell_aside _ (by have := unhide S0; dsimp only; omega) (cell_aside _ (by have := unhide S0; dsimp only; omega) (cell_aside _ (by have := unhide S0; dsimp only; omega) p2)))⟩
  clear hK KK
  try simp only [Act.put, List.getElem_toArray, List.getElem_cons_succ, List.getElem_cons_zero, List.setIfInBounds_toArray, List.set_cons_zero, List.set_cons_succ]
  refine wpAnyH_done (by kernel_rfl) ?_ _
  clear hHeld
  have o3l := o3.lt
  have O := hide (own_less (own_apart (own_apart (own_apart o3 (p := ⟨w.heap.size + 1, 0, none⟩) (fun e => by have := (o3l _ e).1; have := unhide S0; dsimp only at *; omega) (.slice a3 zs.length c3)) (p := ⟨w.heap.size + 1, 1, none⟩) (fun e => by have := (o3l _ e).1; have := unhide S0; dsimp only at *; omega) (.bool n)) (p := ⟨w.heap.size + 1, 2, none⟩) (fun e => by have := (o3l _ e).1; have := unhide S0; dsimp only at *; omega) (.int .i64 e)) (base' := w.heap.size) (by have := unhide S0; omega))
  have K7 := hide ((((unhide K).setNew (p := ⟨w.heap.size + 1, 0, none⟩) (by simp) (.slice a3 zs.length c3)).setNew (p := ⟨w.heap.size + 1, 1, none⟩) (by simp) (.bool n)).setNew (p := ⟨w.heap.size + 1, 2, none⟩) (by simp) (.int .i64 e))
  clear o3 o3l K mk1
  go_wp2_with fail
  exact bodyPost_ret (v := .agg #[.slice a3 zs.length c3, .bool n, .int .i64 e]) (by simp [results, Tryz.results194, go_sem, q0, q1, q2]) rfl ⟨_, rfl, unhide O, unhide K7⟩

end Go.Proofs.YtckaecmkidplhaaGreatDoor

namespace Go.Proofs.YtckaecmkidplhaaGreatDoor
open Go.RowKit
set_option linter.unusedVariables false
set_option maxRecDepth 8000
set_option linter.unusedSimpArgs false

/-- A call of three arguments, its guard decided. -/
theorem wps3 {P : Program} {o : Oper} {a : Act} {w : World} {K : Act → World → Prop} {Q : Exit → Act → World → Prop} {R : Ending → World → Prop}
    (n : FuncId) (x y z : Operand) (ts : Array TypeId) (hop : o.op = Op.call { callee := Callee.value (Operand.func n), args := #[x, y, z], argTypes := ts })
    (hcf : ∀ (w : World) (args : Array Value), (callFunc n args).run P w = .ok (.enter n args) w) (vx vy vz : Value) (hx : a.eval x = vx) (hy : a.eval y = vy) (hz : a.eval z = vz) (hc : Calls P n #[vx, vy, vz] w R) (hK : ∀ e w', R e w' → ∃ v, e = .returned v ∧ K (a.put o.dst v) w') :
    Oper.wp P o a w K Q := by
  unfold Oper.wp
  have hrun : (execOp a.eval o).run P w = .ok (.enter n #[vx, vy, vz]) w := by
    have hfn : a.eval (.func n) = .func (.func n) #[] #[] := rfl
    simp [execOp, hop, resolve, invoke, hx, hy, hz, hfn, Deferred.ofValue, Result.andThen, hcf]
  rw [hrun, Oper.upon_enter]
  refine hc.mono ?_
  intro e w' h
  obtain ⟨v, rfl, h2⟩ := hK e w' h
  exact h2

/-- The float by its kind. -/
def ivl (k : Int) (n : Bool) (m e : Int) : Value :=
  if k = 1 then .iface 133 (.agg #[.bool n, .int .i64 m, .int .i64 e]) else if k = 0 then .iface 131 (.agg #[.bool n]) else if k = 2 then .iface 134 (.agg #[.bool n]) else .iface 135 (.agg #[.bool false])

set_option maxHeartbeats 1000000 in
theorem fo_num (n : Bool) (m e : Int) (w : World) :
    Calls Tryz.prog 47 #[flv 1 n m e] w fun r w' => r = .returned (.iface 133 (.agg #[.bool n, .int .i64 m, .int .i64 e])) ∧ Kept 0 0 w w' := by
  go_enter Tryz.func47, Tryz.ntmps47
  go_wp2
  go_ret
  exact ⟨rfl, by repeat first | exact Kept.refl 0 0 _ | apply Kept.alloc⟩

set_option maxHeartbeats 1000000 in
theorem fo_nought (n : Bool) (w : World) :
    Calls Tryz.prog 47 #[flv 0 n 0 0] w fun r w' => r = .returned (.iface 131 (.agg #[.bool n])) ∧ Kept 0 0 w w' := by
  go_enter Tryz.func47, Tryz.ntmps47
  go_wp2
  go_ret
  exact ⟨rfl, by repeat first | exact Kept.refl 0 0 _ | apply Kept.alloc⟩

set_option maxHeartbeats 1000000 in
theorem fo_inf (n : Bool) (w : World) :
    Calls Tryz.prog 47 #[flv 2 n 0 0] w fun r w' => r = .returned (.iface 134 (.agg #[.bool n])) ∧ Kept 0 0 w w' := by
  go_enter Tryz.func47, Tryz.ntmps47
  go_wp2
  go_ret
  exact ⟨rfl, by repeat first | exact Kept.refl 0 0 _ | apply Kept.alloc⟩

set_option maxHeartbeats 1000000 in
theorem fo_nan (w : World) :
    Calls Tryz.prog 47 #[flv 3 false 0 0] w fun r w' => r = .returned (.iface 135 (.agg #[.bool false])) ∧ Kept 0 0 w w' := by
  go_enter Tryz.func47, Tryz.ntmps47
  go_wp2
  go_ret
  exact ⟨rfl, by repeat first | exact Kept.refl 0 0 _ | apply Kept.alloc⟩

theorem fo_any {k : Int} {n : Bool} {m e : Int} (h : flok k n m e = true) (w : World) :
    Calls Tryz.prog 47 #[flv k n m e] w fun r w' => r = .returned (ivl k n m e) ∧ Kept 0 0 w w' := by
  rcases flok_ways h with ⟨rfl, -⟩ | ⟨rfl, rfl, rfl⟩ | ⟨rfl, rfl, rfl⟩ | ⟨rfl, rfl, rfl, rfl⟩
  · exact fo_num n m e w
  · exact fo_nought n w
  · exact fo_inf n w
  · exact fo_nan w

theorem as_num_is_nan (n : Bool) (m e : Int) (w : World) : (Instr.typeAssert (.iface 133 (.agg #[.bool n, .int .i64 m, .int .i64 e])) 79 135 true).run Tryz.prog w = .ok (.tuple #[.agg #[.bool false], .bool false]) w := by kernel_rfl

set_option maxHeartbeats 400000 in
theorem is_nan_num (n : Bool) (m e : Int) (w : World) :
    Calls Tryz.prog 91 #[.iface 133 (.agg #[.bool n, .int .i64 m, .int .i64 e])] w fun r w' => r = .returned (.bool false) ∧ Kept 0 0 w w' := by
  have a0 := fun w => as_num_is_nan n m e w
  go_enter Tryz.func91, Tryz.ntmps91
  go_wp2
  go_ret
  exact ⟨rfl, by repeat first | exact Kept.refl 0 0 _ | apply Kept.alloc⟩

theorem as_nought_is_nan (n : Bool) (w : World) : (Instr.typeAssert (.iface 131 (.agg #[.bool n])) 79 135 true).run Tryz.prog w = .ok (.tuple #[.agg #[.bool false], .bool false]) w := by kernel_rfl

set_option maxHeartbeats 400000 in
theorem is_nan_nought (n : Bool) (w : World) :
    Calls Tryz.prog 91 #[.iface 131 (.agg #[.bool n])] w fun r w' => r = .returned (.bool false) ∧ Kept 0 0 w w' := by
  have a0 := fun w => as_nought_is_nan n w
  go_enter Tryz.func91, Tryz.ntmps91
  go_wp2
  go_ret
  exact ⟨rfl, by repeat first | exact Kept.refl 0 0 _ | apply Kept.alloc⟩

theorem as_inf_is_nan (n : Bool) (w : World) : (Instr.typeAssert (.iface 134 (.agg #[.bool n])) 79 135 true).run Tryz.prog w = .ok (.tuple #[.agg #[.bool false], .bool false]) w := by kernel_rfl

set_option maxHeartbeats 400000 in
theorem is_nan_inf (n : Bool) (w : World) :
    Calls Tryz.prog 91 #[.iface 134 (.agg #[.bool n])] w fun r w' => r = .returned (.bool false) ∧ Kept 0 0 w w' := by
  have a0 := fun w => as_inf_is_nan n w
  go_enter Tryz.func91, Tryz.ntmps91
  go_wp2
  go_ret
  exact ⟨rfl, by repeat first | exact Kept.refl 0 0 _ | apply Kept.alloc⟩

theorem as_nan_is_nan (w : World) : (Instr.typeAssert (.iface 135 (.agg #[.bool false])) 79 135 true).run Tryz.prog w = .ok (.tuple #[.agg #[.bool false], .bool true]) w := by kernel_rfl

set_option maxHeartbeats 400000 in
theorem is_nan_nan (w : World) :
    Calls Tryz.prog 91 #[.iface 135 (.agg #[.bool false])] w fun r w' => r = .returned (.bool true) ∧ Kept 0 0 w w' := by
  have a0 := fun w => as_nan_is_nan w
  go_enter Tryz.func91, Tryz.ntmps91
  go_wp2
  go_ret
  exact ⟨rfl, by repeat first | exact Kept.refl 0 0 _ | apply Kept.alloc⟩

theorem as_num_is_inf (n : Bool) (m e : Int) (w : World) : (Instr.typeAssert (.iface 133 (.agg #[.bool n, .int .i64 m, .int .i64 e])) 79 134 true).run Tryz.prog w = .ok (.tuple #[.agg #[.bool false], .bool false]) w := by kernel_rfl

set_option maxHeartbeats 400000 in
theorem is_inf_num (n : Bool) (m e : Int) (w : World) :
    Calls Tryz.prog 92 #[.iface 133 (.agg #[.bool n, .int .i64 m, .int .i64 e])] w fun r w' => r = .returned (.bool false) ∧ Kept 0 0 w w' := by
  have a0 := fun w => as_num_is_inf n m e w
  go_enter Tryz.func92, Tryz.ntmps92
  go_wp2
  go_ret
  exact ⟨rfl, by repeat first | exact Kept.refl 0 0 _ | apply Kept.alloc⟩

theorem as_nought_is_inf (n : Bool) (w : World) : (Instr.typeAssert (.iface 131 (.agg #[.bool n])) 79 134 true).run Tryz.prog w = .ok (.tuple #[.agg #[.bool false], .bool false]) w := by kernel_rfl

set_option maxHeartbeats 400000 in
theorem is_inf_nought (n : Bool) (w : World) :
    Calls Tryz.prog 92 #[.iface 131 (.agg #[.bool n])] w fun r w' => r = .returned (.bool false) ∧ Kept 0 0 w w' := by
  have a0 := fun w => as_nought_is_inf n w
  go_enter Tryz.func92, Tryz.ntmps92
  go_wp2
  go_ret
  exact ⟨rfl, by repeat first | exact Kept.refl 0 0 _ | apply Kept.alloc⟩

theorem as_inf_is_inf (n : Bool) (w : World) : (Instr.typeAssert (.iface 134 (.agg #[.bool n])) 79 134 true).run Tryz.prog w = .ok (.tuple #[.agg #[.bool n], .bool true]) w := by kernel_rfl

set_option maxHeartbeats 400000 in
theorem is_inf_inf (n : Bool) (w : World) :
    Calls Tryz.prog 92 #[.iface 134 (.agg #[.bool n])] w fun r w' => r = .returned (.bool true) ∧ Kept 0 0 w w' := by
  have a0 := fun w => as_inf_is_inf n w
  go_enter Tryz.func92, Tryz.ntmps92
  go_wp2
  go_ret
  exact ⟨rfl, by repeat first | exact Kept.refl 0 0 _ | apply Kept.alloc⟩

theorem as_num_is_nought (n : Bool) (m e : Int) (w : World) : (Instr.typeAssert (.iface 133 (.agg #[.bool n, .int .i64 m, .int .i64 e])) 79 131 true).run Tryz.prog w = .ok (.tuple #[.agg #[.bool false], .bool false]) w := by kernel_rfl

set_option maxHeartbeats 400000 in
theorem is_nought_num (n : Bool) (m e : Int) (w : World) :
    Calls Tryz.prog 95 #[.iface 133 (.agg #[.bool n, .int .i64 m, .int .i64 e])] w fun r w' => r = .returned (.bool false) ∧ Kept 0 0 w w' := by
  have a0 := fun w => as_num_is_nought n m e w
  go_enter Tryz.func95, Tryz.ntmps95
  go_wp2
  go_ret
  exact ⟨rfl, by repeat first | exact Kept.refl 0 0 _ | apply Kept.alloc⟩

theorem as_nought_is_nought (n : Bool) (w : World) : (Instr.typeAssert (.iface 131 (.agg #[.bool n])) 79 131 true).run Tryz.prog w = .ok (.tuple #[.agg #[.bool n], .bool true]) w := by kernel_rfl

set_option maxHeartbeats 400000 in
theorem is_nought_nought (n : Bool) (w : World) :
    Calls Tryz.prog 95 #[.iface 131 (.agg #[.bool n])] w fun r w' => r = .returned (.bool true) ∧ Kept 0 0 w w' := by
  have a0 := fun w => as_nought_is_nought n w
  go_enter Tryz.func95, Tryz.ntmps95
  go_wp2
  go_ret
  exact ⟨rfl, by repeat first | exact Kept.refl 0 0 _ | apply Kept.alloc⟩

theorem as_inf_is_nought (n : Bool) (w : World) : (Instr.typeAssert (.iface 134 (.agg #[.bool n])) 79 131 true).run Tryz.prog w = .ok (.tuple #[.agg #[.bool false], .bool false]) w := by kernel_rfl

set_option maxHeartbeats 400000 in
theorem is_nought_inf (n : Bool) (w : World) :
    Calls Tryz.prog 95 #[.iface 134 (.agg #[.bool n])] w fun r w' => r = .returned (.bool false) ∧ Kept 0 0 w w' := by
  have a0 := fun w => as_inf_is_nought n w
  go_enter Tryz.func95, Tryz.ntmps95
  go_wp2
  go_ret
  exact ⟨rfl, by repeat first | exact Kept.refl 0 0 _ | apply Kept.alloc⟩

theorem hs_num (n : Bool) (m e : Int) (w : World) : (method 306 133 (.agg #[.bool n, .int .i64 m, .int .i64 e]) "loop.example/g00382/impl.hasSign").run Tryz.prog w = .ok (188, .agg #[.bool n]) w := by kernel_rfl

theorem hs_nought (n : Bool) (w : World) : (method 306 131 (.agg #[.bool n]) "loop.example/g00382/impl.hasSign").run Tryz.prog w = .ok (188, .agg #[.bool n]) w := by kernel_rfl

theorem hs_inf (n : Bool) (w : World) : (method 306 134 (.agg #[.bool n]) "loop.example/g00382/impl.hasSign").run Tryz.prog w = .ok (188, .agg #[.bool n]) w := by kernel_rfl

theorem hs_nan (w : World) : (method 306 135 (.agg #[.bool false]) "loop.example/g00382/impl.hasSign").run Tryz.prog w = .ok (188, .agg #[.bool false]) w := by kernel_rfl

set_option maxHeartbeats 400000 in
theorem hasSign_any (n : Bool) (w : World) :
    Calls Tryz.prog 188 #[.agg #[.bool n]] w fun r w' => r = .returned (.bool n) ∧ Kept 0 0 w w' := by
  go_enter Tryz.func188, Tryz.ntmps188
  go_wp2
  go_ret
  exact ⟨rfl, by repeat first | exact Kept.refl 0 0 _ | apply Kept.alloc⟩

set_option maxHeartbeats 2000000 in
theorem valueOf_num (n : Bool) (m e : Int) (a3 : 1 ≤ m) (a4 : m ≤ 9007199254740991) (w : World) :
    Calls Tryz.prog 93 #[.iface 133 (.agg #[.bool n, .int .i64 m, .int .i64 e])] w fun e' w' => ∃ v', e' = .returned (.agg #[v', .bool n, .int .i64 e]) ∧ w'.ownsRow w.heap.size 3 1 v' (limbs m.toNat).length ((limbs m.toNat).map (Value.int .i64)) ∧ Kept 0 0 w w' := by
  have a0 := fun w => fin_num n m e w
  have a1 := fun w => value_num n m e w
  obtain ⟨zs, hL⟩ : ∃ L : List Int, limbs m.toNat = L := ⟨_, rfl⟩
  have mv := fun w => value_m n m e a3 a4 w
  rw [hL] at mv ⊢
  replace mv := hide mv
  clear hL
  have k0 : Kept 0 0 w (w.alloc (.cells #[.slice none 0 0, .bool false, .int .i64 0] 93)) := ((Kept.refl 0 0 w).alloc (.cells #[.slice none 0 0, .bool false, .int .i64 0] 93))
  have q0 : (w.alloc (.cells #[.slice none 0 0, .bool false, .int .i64 0] 93)).cell? ⟨w.heap.size, 0, none⟩ = some (.slice none 0 0) := new_cell2 _ _ _ _ _ _ (by simp) rfl
  have qf0 : (w.alloc (.cells #[.slice none 0 0, .bool false, .int .i64 0] 93)).frozen? ⟨w.heap.size, 0, none⟩ = false := new_loose2 _ _ _ _ _ (by simp)
  have q1 : (w.alloc (.cells #[.slice none 0 0, .bool false, .int .i64 0] 93)).cell? ⟨w.heap.size, 1, none⟩ = some (.bool false) := new_cell2 _ _ _ _ _ _ (by simp) rfl
  have qf1 : (w.alloc (.cells #[.slice none 0 0, .bool false, .int .i64 0] 93)).frozen? ⟨w.heap.size, 1, none⟩ = false := new_loose2 _ _ _ _ _ (by simp)
  have q2 : (w.alloc (.cells #[.slice none 0 0, .bool false, .int .i64 0] 93)).cell? ⟨w.heap.size, 2, none⟩ = some (.int .i64 0) := new_cell2 _ _ _ _ _ _ (by simp) rfl
  have qf2 : (w.alloc (.cells #[.slice none 0 0, .bool false, .int .i64 0] 93)).frozen? ⟨w.heap.size, 2, none⟩ = false := new_loose2 _ _ _ _ _ (by simp)
  have s0 : (w.alloc (.cells #[.slice none 0 0, .bool false, .int .i64 0] 93)).heap.size = w.heap.size + 1 := by simp
  have K := hide (k0)
  clear k0
  have S0 := hide s0
  clear s0
  go_enter Tryz.func93, Tryz.ntmps93
  go_wp2_with fail
  generalize (w.alloc (.cells #[.slice none 0 0, .bool false, .int .i64 0] 93)) = W at *
  refine (unhide mv _).mono ?_
  rintro e w1 ⟨v3, rfl, o3, k1⟩
  replace qf0 := k1.loose0 (World.block_lt_of_cell? _ _ q0) qf0
  replace qf1 := k1.loose0 (World.block_lt_of_cell? _ _ q1) qf1
  replace qf2 := k1.loose0 (World.block_lt_of_cell? _ _ q2) qf2
  replace q0 := k1.cell0 q0
  replace q1 := k1.cell0 q1
  replace q2 := k1.cell0 q2
  replace K := hide ((unhide K).trans k1)
  have z2 := k1.size
  clear k1
  clear mv
  have l3 := o3.lt
  obtain ⟨a3', c3, hv⟩ := own_slice o3
  subst hv
  have nR : (Value.slice a3' zs.length c3).ownBlock ≠ some w.heap.size := fun e => by have := (l3 _ e).1; have := unhide S0; omega
  have KF := hide ((((unhide K).setNew (p := ⟨w.heap.size, 0, none⟩) (by simp) (.slice a3' zs.length c3)).setNew (p := ⟨w.heap.size, 1, none⟩) (by simp) (.bool n)).setNew (p := ⟨w.heap.size, 2, none⟩) (by simp) (.int .i64 e))
  have OF := hide (own_base (own_apart (own_apart (own_apart o3 (p := ⟨w.heap.size, 0, none⟩) nR (.slice a3' zs.length c3)) (p := ⟨w.heap.size, 1, none⟩) nR (.bool n)) (p := ⟨w.heap.size, 2, none⟩) nR (.int .i64 e)) (b' := w.heap.size) (fun i e => by have := (l3 _ e).1; have := unhide S0; omega))
  clear o3 K
  try go_wp2_with fail
  exact bodyPost_ret (v := .agg #[.slice a3' zs.length c3, .bool n, .int .i64 e]) (by simp [results, Tryz.results93, go_sem, q0, q1, q2]) rfl ⟨_, rfl, unhide OF, unhide KF⟩

set_option maxHeartbeats 2000000 in
theorem valueOf_nought (n : Bool) (w : World) :
    Calls Tryz.prog 93 #[.iface 131 (.agg #[.bool n])] w fun e' w' => ∃ v', e' = .returned (.agg #[v', .bool n, .int .i64 0]) ∧ w'.ownsRow w.heap.size 3 1 v' (([] : List Int)).length ((([] : List Int)).map (Value.int .i64)) ∧ Kept 0 0 w w' := by
  have a0 := fun w => fin_nought n 0 0 w
  have a1 := fun w => value_nought n 0 0 w
  obtain ⟨zs, hL⟩ : ∃ L : List Int, ([] : List Int) = L := ⟨_, rfl⟩
  have mv := fun w => value_n n w
  rw [hL] at mv ⊢
  replace mv := hide mv
  clear hL
  have k0 : Kept 0 0 w (w.alloc (.cells #[.slice none 0 0, .bool false, .int .i64 0] 93)) := ((Kept.refl 0 0 w).alloc (.cells #[.slice none 0 0, .bool false, .int .i64 0] 93))
  have q0 : (w.alloc (.cells #[.slice none 0 0, .bool false, .int .i64 0] 93)).cell? ⟨w.heap.size, 0, none⟩ = some (.slice none 0 0) := new_cell2 _ _ _ _ _ _ (by simp) rfl
  have qf0 : (w.alloc (.cells #[.slice none 0 0, .bool false, .int .i64 0] 93)).frozen? ⟨w.heap.size, 0, none⟩ = false := new_loose2 _ _ _ _ _ (by simp)
  have q1 : (w.alloc (.cells #[.slice none 0 0, .bool false, .int .i64 0] 93)).cell? ⟨w.heap.size, 1, none⟩ = some (.bool false) := new_cell2 _ _ _ _ _ _ (by simp) rfl
  have qf1 : (w.alloc (.cells #[.slice none 0 0, .bool false, .int .i64 0] 93)).frozen? ⟨w.heap.size, 1, none⟩ = false := new_loose2 _ _ _ _ _ (by simp)
  have q2 : (w.alloc (.cells #[.slice none 0 0, .bool false, .int .i64 0] 93)).cell? ⟨w.heap.size, 2, none⟩ = some (.int .i64 0) := new_cell2 _ _ _ _ _ _ (by simp) rfl
  have qf2 : (w.alloc (.cells #[.slice none 0 0, .bool false, .int .i64 0] 93)).frozen? ⟨w.heap.size, 2, none⟩ = false := new_loose2 _ _ _ _ _ (by simp)
  have s0 : (w.alloc (.cells #[.slice none 0 0, .bool false, .int .i64 0] 93)).heap.size = w.heap.size + 1 := by simp
  have K := hide (k0)
  clear k0
  have S0 := hide s0
  clear s0
  go_enter Tryz.func93, Tryz.ntmps93
  go_wp2_with fail
  generalize (w.alloc (.cells #[.slice none 0 0, .bool false, .int .i64 0] 93)) = W at *
  refine (unhide mv _).mono ?_
  rintro e w1 ⟨v3, rfl, o3, k1⟩
  replace qf0 := k1.loose0 (World.block_lt_of_cell? _ _ q0) qf0
  replace qf1 := k1.loose0 (World.block_lt_of_cell? _ _ q1) qf1
  replace qf2 := k1.loose0 (World.block_lt_of_cell? _ _ q2) qf2
  replace q0 := k1.cell0 q0
  replace q1 := k1.cell0 q1
  replace q2 := k1.cell0 q2
  replace K := hide ((unhide K).trans k1)
  have z2 := k1.size
  clear k1
  clear mv
  have l3 := o3.lt
  obtain ⟨a3', c3, hv⟩ := own_slice o3
  subst hv
  have nR : (Value.slice a3' zs.length c3).ownBlock ≠ some w.heap.size := fun e => by have := (l3 _ e).1; have := unhide S0; omega
  have KF := hide ((((unhide K).setNew (p := ⟨w.heap.size, 0, none⟩) (by simp) (.slice a3' zs.length c3)).setNew (p := ⟨w.heap.size, 1, none⟩) (by simp) (.bool n)).setNew (p := ⟨w.heap.size, 2, none⟩) (by simp) (.int .i64 0))
  have OF := hide (own_base (own_apart (own_apart (own_apart o3 (p := ⟨w.heap.size, 0, none⟩) nR (.slice a3' zs.length c3)) (p := ⟨w.heap.size, 1, none⟩) nR (.bool n)) (p := ⟨w.heap.size, 2, none⟩) nR (.int .i64 0)) (b' := w.heap.size) (fun i e => by have := (l3 _ e).1; have := unhide S0; omega))
  clear o3 K
  try go_wp2_with fail
  exact bodyPost_ret (v := .agg #[.slice a3' zs.length c3, .bool n, .int .i64 0]) (by simp [results, Tryz.results93, go_sem, q0, q1, q2]) rfl ⟨_, rfl, unhide OF, unhide KF⟩

end Go.Proofs.YtckaecmkidplhaaGreatDoor

