/-
  Contracts that the proofs of this seat share: Fl2, Fl12, FlK.
-/
import Derived.Test.YtepehpkmejjhiaaGreatDoorBS
import Derived.Test.YtepehpkmejjhiaaGreatDoorDy7
import Derived.Stop.Asserts
import Derived.Deep.RegionHeld3
import Derived.Deep.DeepCutAuto
import Derived.Test.YtepehpkmejjhiaaGreatDoorBU
import Derived.Test.YtepehpkmejjhiaaGreatDoorBX
namespace Go.Proofs.YtepehpkmejjhiaaGreatDoor
open Go.RowKit
set_option linter.unusedVariables false

/-- A float out of its four fields. -/
abbrev flq (q : Int × Bool × Int × Int) : Value := flv q.1 q.2.1 q.2.2.1 q.2.2.2

theorem Kept.box {w w' : World} (h : Kept 0 0 w w') {b : Nat} (hb : b < w.heap.size) (off : Nat) : w'.cell? ⟨b, off, none⟩ = w.cell? ⟨b, off, none⟩ :=
  World.cell?_of_block (w := w) (a := ⟨b, off, none⟩) (h.block b hb (by omega))

/-- A float's box: its block, its four cells. -/
structure FB (w : World) (b : Nat) (k : Int) (n : Bool) (m e : Int) : Prop where
  lt : b < w.heap.size
  c0 : w.cell? ⟨b, 0, none⟩ = some (.int .i64 k)
  c1 : w.cell? ⟨b, 1, none⟩ = some (.bool n)
  c2 : w.cell? ⟨b, 2, none⟩ = some (.int .i64 m)
  c3 : w.cell? ⟨b, 3, none⟩ = some (.int .i64 e)

theorem FB.kept {w w' : World} {b : Nat} {k : Int} {n : Bool} {m e : Int} (f : FB w b k n m e) (h : Kept 0 0 w w') : FB w' b k n m e :=
  ⟨Nat.lt_of_lt_of_le f.lt h.size, (h.box f.lt 0).trans f.c0, (h.box f.lt 1).trans f.c1, (h.box f.lt 2).trans f.c2, (h.box f.lt 3).trans f.c3⟩
theorem FB.alloc {w : World} {b : Nat} {k : Int} {n : Bool} {m e : Int} (f : FB w b k n m e) (o : Obj) : FB (w.alloc o) b k n m e :=
  f.kept ((Kept.refl 0 0 w).alloc o)
theorem FB.new (w : World) (k : Int) (n : Bool) (m e : Int) (t : TypeId) : FB (w.alloc (flc k n m e t)) w.heap.size k n m e := by
  have hg : (w.alloc (flc k n m e t)).heap[w.heap.size]? = some (flc k n m e t) := heap_alloc_new w _
  refine ⟨by simp, ?_, ?_, ?_, ?_⟩ <;> simp only [World.cell?, hg] <;> rfl

theorem l5nan_any (w : World) :
    Calls Tryz.prog 71 #[] w fun r w' => r = .returned (flv 3 false 0 0) ∧ w' = (w.alloc (flc 3 false 0 0 24)) := by
  go_enter Tryz.func71, Tryz.ntmps71
  go_wp2
  exact bodyPost_ret (v := flv 3 false 0 0) (by simp [results, Tryz.results71, go_sem]) rfl ⟨rfl, rfl⟩

theorem l5most_any (n : Bool) (w : World) :
    Calls Tryz.prog 106 #[.bool n] w fun r w' => r = .returned (flv 1 n 9007199254740991 971) ∧ w' = (w.alloc (flc 1 n 9007199254740991 971 24)) := by
  go_enter Tryz.func106, Tryz.ntmps106
  go_wp2
  exact bodyPost_ret (v := flv 1 n 9007199254740991 971) (by simp [results, Tryz.results106, go_sem]) rfl ⟨rfl, rfl⟩

set_option maxRecDepth 8000
set_option linter.unusedSimpArgs false

/-- The number before the power of two. -/
def fM (k : Int) (n : Bool) (m : Int) : Int := if k = 1 then (if n = true then -m else m) else 0

theorem fM_zero {k : Int} (h : k ≠ 1) (n : Bool) (m : Int) : fM k n m = 0 := by unfold fM; rw [if_neg h]

theorem limbs_wval (n : Bool) {m : Int} (h : 1 ≤ m) : wval n (limbs m.toNat) = fM 1 n m := by
  unfold wval fM
  rw [limbs_val, if_pos rfl]
  split <;> omega

theorem flok_impl_k {k : Int} {n : Bool} {m e : Int} {b : Bool} (h : flok k n m e = b) (w : World) :
    Calls Tryz.prog 34 #[flv k n m e] w fun r w' => r = .returned (.bool b) ∧ Kept 0 0 w w' :=
  (flok_impl_eq h w).mono fun _ _ h => ⟨h.1, h.2 ▸ (Kept.refl 0 0 w).alloc _⟩

theorem flok_spec_k {k : Int} {n : Bool} {m e : Int} {b : Bool} (h : flok k n m e = b) (w : World) :
    Calls Tryz.prog 7 #[flv k n m e] w fun r w' => r = .returned (.bool b) ∧ Kept 0 0 w w' :=
  (flok_spec_eq h w).mono fun _ _ h => ⟨h.1, h.2 ▸ (Kept.refl 0 0 w).alloc _⟩

theorem toFl_k (k : Int) (n : Bool) (m e : Int) (w : World) :
    Calls Tryz.prog 25 #[flv k n m e] w fun r w' => r = .returned (flv k n m e) ∧ Kept 0 0 w w' :=
  (toFl_any k n m e w).mono fun _ _ h => ⟨h.1, h.2 ▸ (((Kept.refl 0 0 w).alloc _).alloc _).alloc _⟩

theorem ok_ans (m x : Int) (h1 : m.natAbs < 2 ^ 64) (h2 : -2900 ≤ x) (h3 : x ≤ 2900) : ansDB true m x = true := by
  have hl : (dlm m).length ≤ 4 := by
    unfold dlm
    refine (limbs_length_le _ _).2 ?_
    have e : (65536 : Int) ^ 4 = 18446744073709551616 := by decide
    have e2 : (2 : Nat) ^ 64 = 18446744073709551616 := by decide
    have := Nat.div_le_self m.natAbs (2 ^ tz m.natAbs)
    omega
  have hx : -3000 ≤ dex m x ∧ dex m x ≤ 3000 := by
    unfold dex
    split
    · omega
    · have := tz_lt (n := m.natAbs) (k := 64) (by omega) h1
      omega
  unfold ansDB
  rw [dok_told, decide_eq_true (show (dlm m).length ≤ 100 by omega), decide_eq_true hx.1, decide_eq_true hx.2]
  rfl

theorem fM_abs (k : Int) (n : Bool) {m : Int} (h3 : 0 ≤ m) (h4 : m ≤ 9007199254740991) : (fM k n m).natAbs < 2 ^ 64 := by
  have e64 : (2 : Nat) ^ 64 = 18446744073709551616 := by decide
  unfold fM
  rw [e64]
  split
  · split <;> omega
  · omega

theorem in_l4make : ∀ (w : World) (args : Array Value), (callFunc 96 args).run Tryz.prog w = .ok (.enter 96 args) w := enters Tryz.func96 (by decide) (fun h => by cases h)

theorem in_limbsOfInt : ∀ (w : World) (args : Array Value), (callFunc 92 args).run Tryz.prog w = .ok (.enter 92 args) w := enters Tryz.func92 (by decide) (fun h => by cases h)

set_option maxHeartbeats 4000000 in
theorem dy5_num (n : Bool) (m e : Int) (h1 : -1074 ≤ e) (h2 : e ≤ 971) (h3 : 1 ≤ m) (h4 : m ≤ 9007199254740991) (w : World) :
    Calls Tryz.prog 65 #[flv 1 n m e] w fun e' w' => ∃ v', e' = .returned (.agg #[.bool (wsg (fM 1 n m)), v', .int .i64 (dex (fM 1 n m) e)]) ∧ Row .i64 true w.heap.size w'.heap.size w' v' (dlm (fM 1 n m)) ∧ Kept 0 0 w w' := by
  obtain ⟨L, hL⟩ : ∃ L, limbs m.toNat = L := ⟨_, rfl⟩
  have hLn : Nrm L := by rw [← hL]; exact limbs_nrm _
  have hLv : val L = m := by rw [← hL, limbs_val]; omega
  have hLl : L.length ≤ 4 := by
    rw [← hL]
    refine (limbs_length_le _ _).2 ?_
    have e4 : (65536 : Int) ^ 4 = 18446744073709551616 := by decide
    omega
  have hL0 : 0 < L.length := by
    have h0 := limbs_pos m.toNat
    rw [hL, decide_eq_true (show 0 < m.toNat by omega)] at h0
    exact of_decide_eq_true h0
  have mk1 := fun w => of_spec w m (by omega)
  rw [hL] at mk1
  have mk2 : ∀ w' v' lo', Row .i64 true lo' w'.heap.size w' v' L → Calls Tryz.prog 111 #[.bool n, .agg #[v']] w' fun e w'' => ∃ v'', e = .returned (.agg #[.bool n, v'']) ∧ Row .i64 true w'.heap.size w''.heap.size w'' v'' L ∧ Kept 0 0 w' w'' := fun w' v' lo' r' => by
    have := make_spec n w' r' hLn.1 (by omega)
    rw [decide_eq_true hL0, Bool.and_true, hLv, hL] at this
    exact this
  have mk3 := fun w' v' lo' (r' : Row .i64 true lo' w'.heap.size w' v' L) => make4_spec n e (fM 1 n m) (by rw [← hL]; exact limbs_wval n h3) (by omega) (by omega) w' r' ⟨hLn, fun _ => hL0⟩ (by omega)
  obtain ⟨SG, hSG⟩ : ∃ y, wsg (fM 1 n m) = y := ⟨_, rfl⟩
  obtain ⟨ZM, hZM⟩ : ∃ y, dlm (fM 1 n m) = y := ⟨_, rfl⟩
  obtain ⟨EX, hEX⟩ : ∃ y, dex (fM 1 n m) e = y := ⟨_, rfl⟩
  simp only [hSG, hZM, hEX] at mk3 ⊢
  replace mk1 := hide mk1
  replace mk2 := hide mk2
  replace mk3 := hide mk3
  clear hSG hZM hEX hLn hLv hLl hL0 hL
  have k0 : Kept 0 0 w ((w.alloc (.cells #[.int .i64 1, .bool n, .int .i64 m, .int .i64 e] 24)).alloc (.cells #[.bool false, .slice none 0 0, .int .i64 0] 37)) := (((Kept.refl 0 0 w).alloc (.cells #[.int .i64 1, .bool n, .int .i64 m, .int .i64 e] 24)).alloc (.cells #[.bool false, .slice none 0 0, .int .i64 0] 37))
  have p0 : ((w.alloc (.cells #[.int .i64 1, .bool n, .int .i64 m, .int .i64 e] 24)).alloc (.cells #[.bool false, .slice none 0 0, .int .i64 0] 37)).cell? ⟨w.heap.size, 0, none⟩ = some (.int .i64 1) := old_cell _ (new_cell2 _ _ _ _ _ _ (by simp) rfl)
  have p1 : ((w.alloc (.cells #[.int .i64 1, .bool n, .int .i64 m, .int .i64 e] 24)).alloc (.cells #[.bool false, .slice none 0 0, .int .i64 0] 37)).cell? ⟨w.heap.size, 1, none⟩ = some (.bool n) := old_cell _ (new_cell2 _ _ _ _ _ _ (by simp) rfl)
  have p2 : ((w.alloc (.cells #[.int .i64 1, .bool n, .int .i64 m, .int .i64 e] 24)).alloc (.cells #[.bool false, .slice none 0 0, .int .i64 0] 37)).cell? ⟨w.heap.size, 2, none⟩ = some (.int .i64 m) := old_cell _ (new_cell2 _ _ _ _ _ _ (by simp) rfl)
  have p3 : ((w.alloc (.cells #[.int .i64 1, .bool n, .int .i64 m, .int .i64 e] 24)).alloc (.cells #[.bool false, .slice none 0 0, .int .i64 0] 37)).cell? ⟨w.heap.size, 3, none⟩ = some (.int .i64 e) := old_cell _ (new_cell2 _ _ _ _ _ _ (by simp) rfl)
  have q0 : ((w.alloc (.cells #[.int .i64 1, .bool n, .int .i64 m, .int .i64 e] 24)).alloc (.cells #[.bool false, .slice none 0 0, .int .i64 0] 37)).cell? ⟨w.heap.size + 1, 0, none⟩ = some (.bool false) := new_cell2 _ _ _ _ _ _ (by simp) rfl
  have qf0 : ((w.alloc (.cells #[.int .i64 1, .bool n, .int .i64 m, .int .i64 e] 24)).alloc (.cells #[.bool false, .slice none 0 0, .int .i64 0] 37)).frozen? ⟨w.heap.size + 1, 0, none⟩ = false := new_loose2 _ _ _ _ _ (by simp)
  have q1 : ((w.alloc (.cells #[.int .i64 1, .bool n, .int .i64 m, .int .i64 e] 24)).alloc (.cells #[.bool false, .slice none 0 0, .int .i64 0] 37)).cell? ⟨w.heap.size + 1, 1, none⟩ = some (.slice none 0 0) := new_cell2 _ _ _ _ _ _ (by simp) rfl
  have qf1 : ((w.alloc (.cells #[.int .i64 1, .bool n, .int .i64 m, .int .i64 e] 24)).alloc (.cells #[.bool false, .slice none 0 0, .int .i64 0] 37)).frozen? ⟨w.heap.size + 1, 1, none⟩ = false := new_loose2 _ _ _ _ _ (by simp)
  have q2 : ((w.alloc (.cells #[.int .i64 1, .bool n, .int .i64 m, .int .i64 e] 24)).alloc (.cells #[.bool false, .slice none 0 0, .int .i64 0] 37)).cell? ⟨w.heap.size + 1, 2, none⟩ = some (.int .i64 0) := new_cell2 _ _ _ _ _ _ (by simp) rfl
  have qf2 : ((w.alloc (.cells #[.int .i64 1, .bool n, .int .i64 m, .int .i64 e] 24)).alloc (.cells #[.bool false, .slice none 0 0, .int .i64 0] 37)).frozen? ⟨w.heap.size + 1, 2, none⟩ = false := new_loose2 _ _ _ _ _ (by simp)
  have s0 : ((w.alloc (.cells #[.int .i64 1, .bool n, .int .i64 m, .int .i64 e] 24)).alloc (.cells #[.bool false, .slice none 0 0, .int .i64 0] 37)).heap.size = w.heap.size + 2 := by simp
  have K := hide (k0)
  clear k0
  have S0 := hide s0
  clear s0
  go_enter Tryz.func65, Tryz.ntmps65
  go_wp2_with fail
  generalize ((w.alloc (.cells #[.int .i64 1, .bool n, .int .i64 m, .int .i64 e] 24)).alloc (.cells #[.bool false, .slice none 0 0, .int .i64 0] 37)) = W at *
  have n_qf0 := qf0
  have n_q0 := q0
  have n_qf1 := qf1
  have n_q1 := q1
  have n_qf2 := qf2
  have n_q2 := q2
  have kd := (Kept.refl 0 0 W).drew
  replace qf0 := kd.loose0 (World.block_lt_of_cell? _ _ q0) qf0
  replace qf1 := kd.loose0 (World.block_lt_of_cell? _ _ q1) qf1
  replace qf2 := kd.loose0 (World.block_lt_of_cell? _ _ q2) qf2
  replace p0 := kd.cell0 p0
  replace p1 := kd.cell0 p1
  replace p2 := kd.cell0 p2
  replace p3 := kd.cell0 p3
  replace q0 := kd.cell0 q0
  replace q1 := kd.cell0 q1
  replace q2 := kd.cell0 q2
  replace K := hide ((unhide K).trans kd)
  have z1 := kd.size
  clear kd
  refine wp_region_held_drew (S := (fun w' => w'.cell? ⟨w.heap.size, 0, none⟩ = some (.int .i64 1) ∧ w'.cell? ⟨w.heap.size, 1, none⟩ = some (.bool n) ∧ w'.cell? ⟨w.heap.size, 2, none⟩ = some (.int .i64 m) ∧ w'.cell? ⟨w.heap.size, 3, none⟩ = some (.int .i64 e))) (by kernel_rfl) ?_ (fun hHeld => ?_)
  · exact ⟨p0, p1, p2, p3⟩
  refine wT (i := 0) (v := .pointer (some ⟨w.heap.size, 1, none⟩)) rfl (Or.inl ⟨by rfl, ?_⟩) hHeld ?_
  · intro wq hSw
    try dsimp only at hSw
    go_simp
  try simp only [Act.put, zq1, zq2, zq3, zq4, zq5, zq6]
  refine wT (i := 1) (v := .bool n) rfl (Or.inl ⟨by rfl, ?_⟩) hHeld ?_
  · intro wq hSw
    try dsimp only at hSw
    go_simp
  try simp only [Act.put, zq1, zq2, zq3, zq4, zq5, zq6]
  refine wT (i := 2) (v := .pointer (some ⟨w.heap.size, 2, none⟩)) rfl (Or.inl ⟨by rfl, ?_⟩) hHeld ?_
  · intro wq hSw
    try dsimp only at hSw
    go_simp
  try simp only [Act.put, zq1, zq2, zq3, zq4, zq5, zq6]
  refine wT (i := 3) (v := .int .i64 m) rfl (Or.inl ⟨by rfl, ?_⟩) hHeld ?_
  · intro wq hSw
    try dsimp only at hSw
    go_simp
  try simp only [Act.put, zq1, zq2, zq3, zq4, zq5, zq6]
  refine wT (i := 6) (v := .pointer (some ⟨w.heap.size, 3, none⟩)) rfl (Or.inl ⟨by rfl, ?_⟩) hHeld ?_
  · intro wq hSw
    try dsimp only at hSw
    go_simp
  try simp only [Act.put, zq1, zq2, zq3, zq4, zq5, zq6]
  refine wT (i := 7) (v := .int .i64 e) rfl (Or.inl ⟨by rfl, ?_⟩) hHeld ?_
  · intro wq hSw
    try dsimp only at hSw
    go_simp
  try simp only [Act.put, zq1, zq2, zq3, zq4, zq5, zq6]
  refine wR 4 (by kernel_rfl) rfl (fun KK hK => ?_)
  simp only [zq1, zq2, zq3]
  rw [if_pos (by rfl)]
  refine wps1 112 (.tmp 10) _ rfl in_l2of (.int .i64 m) rfl (unhide mk1 _) ?_
  rintro e w2 ⟨v5, rfl, r5, k2⟩
  refine ⟨_, rfl, ?_⟩
  replace qf0 := k2.loose0 (World.block_lt_of_cell? _ _ q0) qf0
  replace qf1 := k2.loose0 (World.block_lt_of_cell? _ _ q1) qf1
  replace qf2 := k2.loose0 (World.block_lt_of_cell? _ _ q2) qf2
  replace p0 := k2.cell0 p0
  replace p1 := k2.cell0 p1
  replace p2 := k2.cell0 p2
  replace p3 := k2.cell0 p3
  replace q0 := k2.cell0 q0
  replace q1 := k2.cell0 q1
  replace q2 := k2.cell0 q2
  replace K := hide ((unhide K).trans k2)
  have z3 := k2.size
  clear k2
  clear hHeld
  refine hK.out _ _ ?_ (fun hHeld => ?_)
  · exact ⟨p0, p1, p2, p3⟩
  clear hK KK
  try simp only [Act.put, zq1, zq2, zq3, zq4, zq5, zq6]
  refine wR 5 (by kernel_rfl) rfl (fun KK hK => ?_)
  simp only [zq1, zq2, zq3]
  rw [if_pos (by rfl)]
  refine wps2 111 (.tmp 8) (.tmp 11) _ rfl in_l3make (.bool n) (.agg #[v5]) rfl rfl (unhide mk2 _ _ _ r5) ?_
  rintro e w4 ⟨v6, rfl, r6, k4⟩
  refine ⟨_, rfl, ?_⟩
  replace r5 := r5.kept k4 (by omega)
  replace qf0 := k4.loose0 (World.block_lt_of_cell? _ _ q0) qf0
  replace qf1 := k4.loose0 (World.block_lt_of_cell? _ _ q1) qf1
  replace qf2 := k4.loose0 (World.block_lt_of_cell? _ _ q2) qf2
  replace p0 := k4.cell0 p0
  replace p1 := k4.cell0 p1
  replace p2 := k4.cell0 p2
  replace p3 := k4.cell0 p3
  replace q0 := k4.cell0 q0
  replace q1 := k4.cell0 q1
  replace q2 := k4.cell0 q2
  replace K := hide ((unhide K).trans k4)
  have z5 := k4.size
  clear k4
  clear hHeld
  refine hK.out _ _ ?_ (fun hHeld => ?_)
  · exact ⟨p0, p1, p2, p3⟩
  clear hK KK
  try simp only [Act.put, zq1, zq2, zq3, zq4, zq5, zq6]
  refine wR 8 (by kernel_rfl) rfl (fun KK hK => ?_)
  simp only [zq1, zq2, zq3]
  rw [if_pos (by rfl)]
  refine wps2 96 (.tmp 12) (.tmp 14) _ rfl in_l4make (.agg #[.bool n, v6]) (.int .i64 e) rfl rfl (unhide mk3 _ _ _ r6) ?_
  rintro e w6 ⟨v7, rfl, r7, k6⟩
  refine ⟨_, rfl, ?_⟩
  replace r5 := r5.kept k6 (by omega)
  replace r6 := r6.kept k6 (by omega)
  replace qf0 := k6.loose0 (World.block_lt_of_cell? _ _ q0) qf0
  replace qf1 := k6.loose0 (World.block_lt_of_cell? _ _ q1) qf1
  replace qf2 := k6.loose0 (World.block_lt_of_cell? _ _ q2) qf2
  replace p0 := k6.cell0 p0
  replace p1 := k6.cell0 p1
  replace p2 := k6.cell0 p2
  replace p3 := k6.cell0 p3
  replace q0 := k6.cell0 q0
  replace q1 := k6.cell0 q1
  replace q2 := k6.cell0 q2
  replace K := hide ((unhide K).trans k6)
  have z7 := k6.size
  clear k6
  clear hHeld
  refine hK.out _ _ ?_ (fun hHeld => ?_)
  · exact ⟨p0, p1, p2, p3⟩
  clear hK KK
  try simp only [Act.put, zq1, zq2, zq3, zq4, zq5, zq6]
  obtain ⟨a7, c7, hv⟩ := Row.form' r7
  subst hv
  refine wR 9 (by kernel_rfl) rfl (fun KK hK => ?_)
  simp only [zq1, zq2, zq3]
  rw [if_pos (by rfl)]
  go_simp
  clear hHeld
  refine hK.out _ _ ?_ (fun hHeld => ?_)
  · have sq := unhide S0; exact ⟨(cell_aside _ (by dsimp only; omega) (cell_aside _ (by dsimp only; omega) (cell_aside _ (by dsimp only; omega) p0))), (cell_aside _ (by dsimp only; omega) (cell_aside _ (by dsimp only; omega) (cell_aside _ (by dsimp only; omega) p1))), (cell_aside _ (by dsimp only; omega) (cell_aside _ (by dsimp only; omega) (cell_aside _ (by dsimp only; omega) p2))), (cell_aside _ (by dsimp only; omega) (cell_aside _ (by dsimp only; omega) (cell_aside _ (by dsimp only; omega) p3)))⟩
  clear hK KK
  try simp only [Act.put, zq1, zq2, zq3, zq4, zq5, zq6]
  refine wpAnyH_done (by kernel_rfl) ?_ _
  clear hHeld
  clear mk1 mk2 mk3
  have R := hide ((((r7.set_other (p := ⟨w.heap.size + 1, 0, none⟩) (.inl (by have := unhide S0; dsimp only; omega)) (.bool SG)).set_other (p := ⟨w.heap.size + 1, 1, none⟩) (.inl (by have := unhide S0; dsimp only; omega)) (.slice a7 ZM.length c7)).set_other (p := ⟨w.heap.size + 1, 2, none⟩) (.inl (by have := unhide S0; dsimp only; omega)) (.int .i64 EX)).tight.wider (lo' := w.heap.size) (by have := unhide S0; omega) (Nat.le_refl _))
  have K7 := hide ((((unhide K).setNew (p := ⟨w.heap.size + 1, 0, none⟩) (by simp) (.bool SG)).setNew (p := ⟨w.heap.size + 1, 1, none⟩) (by simp) (.slice a7 ZM.length c7)).setNew (p := ⟨w.heap.size + 1, 2, none⟩) (by simp) (.int .i64 EX))
  clear r5 r6 r7 K 
  go_wp2_with fail
  exact bodyPost_ret (v := .agg #[.bool SG, .slice a7 ZM.length c7, .int .i64 EX]) (by simp [results, Tryz.results65, go_sem, q0, q1, q2]) rfl ⟨_, rfl, unhide R, unhide K7⟩

set_option maxHeartbeats 2000000 in
theorem dy5_nought0 (n : Bool) (w : World) :
    Calls Tryz.prog 65 #[flv 0 n 0 0] w fun e' w' => ∃ v', e' = .returned (.agg #[.bool false, v', .int .i64 0]) ∧ Row .i64 true w.heap.size w'.heap.size w' v' [] ∧ Kept 0 0 w w' := by
  go_enter Tryz.func65, Tryz.ntmps65
  go_wp2
  exact bodyPost_ret (v := .agg #[.bool false, .slice none 0 0, .int .i64 0]) (by simp [results, Tryz.results65, go_sem]) rfl ⟨_, rfl, Row.nil _ _ _ _ _, by repeat first | exact Kept.refl 0 0 _ | apply Kept.alloc⟩

theorem dy5_nought (n : Bool) (w : World) :
    Calls Tryz.prog 65 #[flv 0 n 0 0] w fun e' w' => ∃ v', e' = .returned (.agg #[.bool (wsg (fM 0 n 0)), v', .int .i64 (dex (fM 0 n 0) 0)]) ∧ Row .i64 true w.heap.size w'.heap.size w' v' (dlm (fM 0 n 0)) ∧ Kept 0 0 w w' := by
  rw [fM_zero (by decide), dlm_zero, show wsg 0 = false from rfl, show dex 0 0 = 0 from rfl]
  exact dy5_nought0 n w

theorem fin_num (n : Bool) (m e : Int) (w : World) : (Instr.typeAssert (.iface 113 (.agg #[.bool n, .int .i64 m, .int .i64 e])) 67 71 true).run Tryz.prog w = .ok (.tuple #[.iface 113 (.agg #[.bool n, .int .i64 m, .int .i64 e]), .bool true]) w := by kernel_rfl

theorem value_num (n : Bool) (m e : Int) (w : World) : (method 296 113 (.agg #[.bool n, .int .i64 m, .int .i64 e]) "loop.example/g00382/impl.value").run Tryz.prog w = .ok (183, .agg #[.bool n, .int .i64 m, .int .i64 e]) w := by kernel_rfl

theorem fin_nought (n : Bool) (m e : Int) (w : World) : (Instr.typeAssert (.iface 111 (.agg #[.bool n])) 67 71 true).run Tryz.prog w = .ok (.tuple #[.iface 111 (.agg #[.bool n]), .bool true]) w := by kernel_rfl

theorem value_nought (n : Bool) (m e : Int) (w : World) : (method 296 111 (.agg #[.bool n]) "loop.example/g00382/impl.value").run Tryz.prog w = .ok (180, .agg #[.bool n]) w := by kernel_rfl

set_option maxHeartbeats 2000000 in
theorem value_n (n : Bool) (w : World) :
    Calls Tryz.prog 180 #[.agg #[.bool n]] w fun e' w' => ∃ v', e' = .returned (.agg #[v', .bool n, .int .i64 0]) ∧ w'.ownsRow w.heap.size 3 1 v' (([] : List Int)).length ((([] : List Int)).map (Value.int .i64)) ∧ Kept 0 0 w w' := by
  go_enter Tryz.func180, Tryz.ntmps180
  go_wp2
  exact bodyPost_ret (v := .agg #[.slice none 0 0, .bool n, .int .i64 0]) (by simp [results, Tryz.results180, go_sem]) rfl ⟨_, rfl, World.ownsRow_nil _ _ _ _, by repeat first | exact Kept.refl 0 0 _ | apply Kept.alloc⟩

set_option maxHeartbeats 4000000 in
theorem value_m (n : Bool) (m e : Int) (h3 : 1 ≤ m) (h4 : m ≤ 9007199254740991) (w : World) :
    Calls Tryz.prog 183 #[.agg #[.bool n, .int .i64 m, .int .i64 e]] w fun e' w' => ∃ v', e' = .returned (.agg #[v', .bool n, .int .i64 e]) ∧ w'.ownsRow w.heap.size 3 1 v' (limbs m.toNat).length ((limbs m.toNat).map (Value.int .i64)) ∧ Kept 0 0 w w' := by
  have mk1 := fun w => limbsOfInt_impl w m (by omega)
  obtain ⟨zs, hL⟩ : ∃ L, limbs m.toNat = L := ⟨_, rfl⟩
  rw [hL] at mk1 ⊢
  replace mk1 := hide mk1
  clear hL
  have k0 : Kept 0 0 w ((w.alloc (.cells #[.bool n, .int .i64 m, .int .i64 e] 113)).alloc (.cells #[.slice none 0 0, .bool false, .int .i64 0] 79)) := (((Kept.refl 0 0 w).alloc (.cells #[.bool n, .int .i64 m, .int .i64 e] 113)).alloc (.cells #[.slice none 0 0, .bool false, .int .i64 0] 79))
  have p0 : ((w.alloc (.cells #[.bool n, .int .i64 m, .int .i64 e] 113)).alloc (.cells #[.slice none 0 0, .bool false, .int .i64 0] 79)).cell? ⟨w.heap.size, 0, none⟩ = some (.bool n) := old_cell _ (new_cell2 _ _ _ _ _ _ (by simp) rfl)
  have p1 : ((w.alloc (.cells #[.bool n, .int .i64 m, .int .i64 e] 113)).alloc (.cells #[.slice none 0 0, .bool false, .int .i64 0] 79)).cell? ⟨w.heap.size, 1, none⟩ = some (.int .i64 m) := old_cell _ (new_cell2 _ _ _ _ _ _ (by simp) rfl)
  have p2 : ((w.alloc (.cells #[.bool n, .int .i64 m, .int .i64 e] 113)).alloc (.cells #[.slice none 0 0, .bool false, .int .i64 0] 79)).cell? ⟨w.heap.size, 2, none⟩ = some (.int .i64 e) := old_cell _ (new_cell2 _ _ _ _ _ _ (by simp) rfl)
  have q0 : ((w.alloc (.cells #[.bool n, .int .i64 m, .int .i64 e] 113)).alloc (.cells #[.slice none 0 0, .bool false, .int .i64 0] 79)).cell? ⟨w.heap.size + 1, 0, none⟩ = some (.slice none 0 0) := new_cell2 _ _ _ _ _ _ (by simp) rfl
  have qf0 : ((w.alloc (.cells #[.bool n, .int .i64 m, .int .i64 e] 113)).alloc (.cells #[.slice none 0 0, .bool false, .int .i64 0] 79)).frozen? ⟨w.heap.size + 1, 0, none⟩ = false := new_loose2 _ _ _ _ _ (by simp)
  have q1 : ((w.alloc (.cells #[.bool n, .int .i64 m, .int .i64 e] 113)).alloc (.cells #[.slice none 0 0, .bool false, .int .i64 0] 79)).cell? ⟨w.heap.size + 1, 1, none⟩ = some (.bool false) := new_cell2 _ _ _ _ _ _ (by simp) rfl
  have qf1 : ((w.alloc (.cells #[.bool n, .int .i64 m, .int .i64 e] 113)).alloc (.cells #[.slice none 0 0, .bool false, .int .i64 0] 79)).frozen? ⟨w.heap.size + 1, 1, none⟩ = false := new_loose2 _ _ _ _ _ (by simp)
  have q2 : ((w.alloc (.cells #[.bool n, .int .i64 m, .int .i64 e] 113)).alloc (.cells #[.slice none 0 0, .bool false, .int .i64 0] 79)).cell? ⟨w.heap.size + 1, 2, none⟩ = some (.int .i64 0) := new_cell2 _ _ _ _ _ _ (by simp) rfl
  have qf2 : ((w.alloc (.cells #[.bool n, .int .i64 m, .int .i64 e] 113)).alloc (.cells #[.slice none 0 0, .bool false, .int .i64 0] 79)).frozen? ⟨w.heap.size + 1, 2, none⟩ = false := new_loose2 _ _ _ _ _ (by simp)
  have s0 : ((w.alloc (.cells #[.bool n, .int .i64 m, .int .i64 e] 113)).alloc (.cells #[.slice none 0 0, .bool false, .int .i64 0] 79)).heap.size = w.heap.size + 2 := by simp
  have K := hide (k0)
  clear k0
  have S0 := hide s0
  clear s0
  go_enter Tryz.func183, Tryz.ntmps183
  go_wp2_with fail
  generalize ((w.alloc (.cells #[.bool n, .int .i64 m, .int .i64 e] 113)).alloc (.cells #[.slice none 0 0, .bool false, .int .i64 0] 79)) = W at *
  have n_qf0 := qf0
  have n_q0 := q0
  have n_qf1 := qf1
  have n_q1 := q1
  have n_qf2 := qf2
  have n_q2 := q2
  have kd := (Kept.refl 0 0 W).drew
  replace qf0 := kd.loose0 (World.block_lt_of_cell? _ _ q0) qf0
  replace qf1 := kd.loose0 (World.block_lt_of_cell? _ _ q1) qf1
  replace qf2 := kd.loose0 (World.block_lt_of_cell? _ _ q2) qf2
  replace p0 := kd.cell0 p0
  replace p1 := kd.cell0 p1
  replace p2 := kd.cell0 p2
  replace q0 := kd.cell0 q0
  replace q1 := kd.cell0 q1
  replace q2 := kd.cell0 q2
  replace K := hide ((unhide K).trans kd)
  have z1 := kd.size
  clear kd
  refine wp_region_held_drew (S := (fun w' => w'.cell? ⟨w.heap.size, 0, none⟩ = some (.bool n) ∧ w'.cell? ⟨w.heap.size, 1, none⟩ = some (.int .i64 m) ∧ w'.cell? ⟨w.heap.size, 2, none⟩ = some (.int .i64 e))) (by kernel_rfl) ?_ (fun hHeld => ?_)
  · exact ⟨p0, p1, p2⟩
  refine wT (i := 0) (v := .pointer (some ⟨w.heap.size, 1, none⟩)) rfl (Or.inl ⟨by rfl, ?_⟩) hHeld ?_
  · intro wq hSw
    try dsimp only at hSw
    go_simp
  try simp only [Act.put, zq1, zq2, zq3, zq4, zq5, zq6]
  refine wT (i := 1) (v := .int .i64 m) rfl (Or.inl ⟨by rfl, ?_⟩) hHeld ?_
  · intro wq hSw
    try dsimp only at hSw
    go_simp
  try simp only [Act.put, zq1, zq2, zq3, zq4, zq5, zq6]
  refine wT (i := 3) (v := .pointer (some ⟨w.heap.size, 0, none⟩)) rfl (Or.inl ⟨by rfl, ?_⟩) hHeld ?_
  · intro wq hSw
    try dsimp only at hSw
    go_simp
  try simp only [Act.put, zq1, zq2, zq3, zq4, zq5, zq6]
  refine wT (i := 4) (v := .pointer (some ⟨w.heap.size, 0, none⟩)) rfl (Or.inl ⟨by rfl, ?_⟩) hHeld ?_
  · intro wq hSw
    try dsimp only at hSw
    go_simp
  try simp only [Act.put, zq1, zq2, zq3, zq4, zq5, zq6]
  refine wT (i := 5) (v := .bool n) rfl (Or.inl ⟨by rfl, ?_⟩) hHeld ?_
  · intro wq hSw
    try dsimp only at hSw
    go_simp
  try simp only [Act.put, zq1, zq2, zq3, zq4, zq5, zq6]
  refine wT (i := 7) (v := .pointer (some ⟨w.heap.size, 2, none⟩)) rfl (Or.inl ⟨by rfl, ?_⟩) hHeld ?_
  · intro wq hSw
    try dsimp only at hSw
    go_simp
  try simp only [Act.put, zq1, zq2, zq3, zq4, zq5, zq6]
  refine wT (i := 8) (v := .int .i64 e) rfl (Or.inl ⟨by rfl, ?_⟩) hHeld ?_
  · intro wq hSw
    try dsimp only at hSw
    go_simp
  try simp only [Act.put, zq1, zq2, zq3, zq4, zq5, zq6]
  refine wR 2 (by kernel_rfl) rfl (fun KK hK => ?_)
  simp only [zq1, zq2, zq3]
  rw [if_pos (by rfl)]
  refine wps1 92 (.tmp 4) _ rfl in_limbsOfInt (.int .i64 m) rfl (unhide mk1 _) ?_
  rintro e w2 ⟨v3, rfl, o3, k2⟩
  refine ⟨_, rfl, ?_⟩
  replace qf0 := k2.loose0 (World.block_lt_of_cell? _ _ q0) qf0
  replace qf1 := k2.loose0 (World.block_lt_of_cell? _ _ q1) qf1
  replace qf2 := k2.loose0 (World.block_lt_of_cell? _ _ q2) qf2
  replace p0 := k2.cell0 p0
  replace p1 := k2.cell0 p1
  replace p2 := k2.cell0 p2
  replace q0 := k2.cell0 q0
  replace q1 := k2.cell0 q1
  replace q2 := k2.cell0 q2
  replace K := hide ((unhide K).trans k2)
  have z3 := k2.size
  clear k2
  clear hHeld
  refine hK.out _ _ ?_ (fun hHeld => ?_)
  · exact ⟨p0, p1, p2⟩
  clear hK KK
  try simp only [Act.put, zq1, zq2, zq3, zq4, zq5, zq6]
  obtain ⟨a3, c3, hv⟩ := own_slice o3
  subst hv
  refine wT (i := 6) (v := .agg #[.slice a3 zs.length c3, .bool n]) rfl (Or.inl ⟨by rfl, ?_⟩) hHeld ?_
  · intro wq hSw
    try dsimp only at hSw
    go_simp
  try simp only [Act.put, zq1, zq2, zq3, zq4, zq5, zq6]
  refine wT (i := 9) (v := .agg #[.slice a3 zs.length c3, .bool n, .int .i64 e]) rfl (Or.inl ⟨by rfl, ?_⟩) hHeld ?_
  · intro wq hSw
    try dsimp only at hSw
    go_simp
  try simp only [Act.put, zq1, zq2, zq3, zq4, zq5, zq6]
  refine wR 10 (by kernel_rfl) rfl (fun KK hK => ?_)
  simp only [zq1, zq2, zq3]
  rw [if_pos (by rfl)]
  go_simp
  clear hHeld
  refine hK.out _ _ ?_ (fun hHeld => ?_)
  · have sq := unhide S0; exact ⟨(cell_aside _ (by dsimp only; omega) (cell_aside _ (by dsimp only; omega) (cell_aside _ (by dsimp only; omega) p0))), (cell_aside _ (by dsimp only; omega) (cell_aside _ (by dsimp only; omega) (cell_aside _ (by dsimp only; omega) p1))), (cell_aside _ (by dsimp only; omega) (cell_aside _ (by dsimp only; omega) (cell_aside _ (by dsimp only; omega) p2)))⟩
  clear hK KK
  try simp only [Act.put, zq1, zq2, zq3, zq4, zq5, zq6]
  refine wpAnyH_done (by kernel_rfl) ?_ _
  clear hHeld
  have o3l := o3.lt
  have O := hide (own_less (own_apart (own_apart (own_apart o3 (p := ⟨w.heap.size + 1, 0, none⟩) (fun e => by have := (o3l _ e).1; have := unhide S0; dsimp only at *; omega) (.slice a3 zs.length c3)) (p := ⟨w.heap.size + 1, 1, none⟩) (fun e => by have := (o3l _ e).1; have := unhide S0; dsimp only at *; omega) (.bool n)) (p := ⟨w.heap.size + 1, 2, none⟩) (fun e => by have := (o3l _ e).1; have := unhide S0; dsimp only at *; omega) (.int .i64 e)) (base' := w.heap.size) (by have := unhide S0; omega))
  have K7 := hide ((((unhide K).setNew (p := ⟨w.heap.size + 1, 0, none⟩) (by simp) (.slice a3 zs.length c3)).setNew (p := ⟨w.heap.size + 1, 1, none⟩) (by simp) (.bool n)).setNew (p := ⟨w.heap.size + 1, 2, none⟩) (by simp) (.int .i64 e))
  clear o3 o3l K mk1
  go_wp2_with fail
  exact bodyPost_ret (v := .agg #[.slice a3 zs.length c3, .bool n, .int .i64 e]) (by simp [results, Tryz.results183, go_sem, q0, q1, q2]) rfl ⟨_, rfl, unhide O, unhide K7⟩


/-- A call of three arguments, its guard decided. -/
theorem wps3 {P : Program} {o : Oper} {a : Act} {w : World} {K : Act → World → Prop} {Q : Exit → Act → World → Prop} {R : Ending → World → Prop}
    (n : FuncId) (x y z : Operand) (ts : Array TypeId) (hop : o.op = Op.call { callee := Callee.value (Operand.func n), args := #[x, y, z], argTypes := ts })
    (hcf : ∀ (w : World) (args : Array Value), (callFunc n args).run P w = .ok (.enter n args) w) (vx vy vz : Value) (hx : a.eval x = vx) (hy : a.eval y = vy) (hz : a.eval z = vz) (hc : Calls P n #[vx, vy, vz] w R) (hK : ∀ e w', R e w' → ∃ v, e = .returned v ∧ K (a.put o.dst v) w') :
    Oper.wp P o a w K Q := by
  unfold Oper.wp
  have hrun : (execOp a.eval o).run P w = .ok (.enter n #[vx, vy, vz]) w := by
    have hfn : a.eval (.func n) = .func (.func n) #[] #[] := rfl
    simp [execOp, hop, resolve, invoke, hx, hy, hz, hfn, Deferred.ofValue, Result.andThen, hcf]
  rw [hrun, Oper.upon_enter]
  refine hc.mono ?_
  intro e w' h
  obtain ⟨v, rfl, h2⟩ := hK e w' h
  exact h2

/-- The float by its kind. -/
def ivl (k : Int) (n : Bool) (m e : Int) : Value :=
  if k = 1 then .iface 113 (.agg #[.bool n, .int .i64 m, .int .i64 e]) else if k = 0 then .iface 111 (.agg #[.bool n]) else if k = 2 then .iface 114 (.agg #[.bool n]) else .iface 115 (.agg #[.bool false])

set_option maxHeartbeats 1000000 in
theorem fo_num (n : Bool) (m e : Int) (w : World) :
    Calls Tryz.prog 38 #[flv 1 n m e] w fun r w' => r = .returned (.iface 113 (.agg #[.bool n, .int .i64 m, .int .i64 e])) ∧ Kept 0 0 w w' := by
  go_enter Tryz.func38, Tryz.ntmps38
  go_wp2
  go_ret
  exact ⟨rfl, by repeat first | exact Kept.refl 0 0 _ | apply Kept.alloc⟩

set_option maxHeartbeats 1000000 in
theorem fo_nought (n : Bool) (w : World) :
    Calls Tryz.prog 38 #[flv 0 n 0 0] w fun r w' => r = .returned (.iface 111 (.agg #[.bool n])) ∧ Kept 0 0 w w' := by
  go_enter Tryz.func38, Tryz.ntmps38
  go_wp2
  go_ret
  exact ⟨rfl, by repeat first | exact Kept.refl 0 0 _ | apply Kept.alloc⟩

set_option maxHeartbeats 1000000 in
theorem fo_inf (n : Bool) (w : World) :
    Calls Tryz.prog 38 #[flv 2 n 0 0] w fun r w' => r = .returned (.iface 114 (.agg #[.bool n])) ∧ Kept 0 0 w w' := by
  go_enter Tryz.func38, Tryz.ntmps38
  go_wp2
  go_ret
  exact ⟨rfl, by repeat first | exact Kept.refl 0 0 _ | apply Kept.alloc⟩

set_option maxHeartbeats 1000000 in
theorem fo_nan (w : World) :
    Calls Tryz.prog 38 #[flv 3 false 0 0] w fun r w' => r = .returned (.iface 115 (.agg #[.bool false])) ∧ Kept 0 0 w w' := by
  go_enter Tryz.func38, Tryz.ntmps38
  go_wp2
  go_ret
  exact ⟨rfl, by repeat first | exact Kept.refl 0 0 _ | apply Kept.alloc⟩

theorem fo_any {k : Int} {n : Bool} {m e : Int} (h : flok k n m e = true) (w : World) :
    Calls Tryz.prog 38 #[flv k n m e] w fun r w' => r = .returned (ivl k n m e) ∧ Kept 0 0 w w' := by
  rcases flok_ways h with ⟨rfl, -⟩ | ⟨rfl, rfl, rfl⟩ | ⟨rfl, rfl, rfl⟩ | ⟨rfl, rfl, rfl, rfl⟩
  · exact fo_num n m e w
  · exact fo_nought n w
  · exact fo_inf n w
  · exact fo_nan w

theorem as_num_is_nan (n : Bool) (m e : Int) (w : World) : (Instr.typeAssert (.iface 113 (.agg #[.bool n, .int .i64 m, .int .i64 e])) 67 115 true).run Tryz.prog w = .ok (.tuple #[.agg #[.bool false], .bool false]) w := by kernel_rfl

set_option maxHeartbeats 400000 in
theorem is_nan_num (n : Bool) (m e : Int) (w : World) :
    Calls Tryz.prog 73 #[.iface 113 (.agg #[.bool n, .int .i64 m, .int .i64 e])] w fun r w' => r = .returned (.bool false) ∧ Kept 0 0 w w' := by
  have a0 := fun w => as_num_is_nan n m e w
  go_enter Tryz.func73, Tryz.ntmps73
  go_wp2
  go_ret
  exact ⟨rfl, by repeat first | exact Kept.refl 0 0 _ | apply Kept.alloc⟩

theorem as_nought_is_nan (n : Bool) (w : World) : (Instr.typeAssert (.iface 111 (.agg #[.bool n])) 67 115 true).run Tryz.prog w = .ok (.tuple #[.agg #[.bool false], .bool false]) w := by kernel_rfl

set_option maxHeartbeats 400000 in
theorem is_nan_nought (n : Bool) (w : World) :
    Calls Tryz.prog 73 #[.iface 111 (.agg #[.bool n])] w fun r w' => r = .returned (.bool false) ∧ Kept 0 0 w w' := by
  have a0 := fun w => as_nought_is_nan n w
  go_enter Tryz.func73, Tryz.ntmps73
  go_wp2
  go_ret
  exact ⟨rfl, by repeat first | exact Kept.refl 0 0 _ | apply Kept.alloc⟩

theorem as_inf_is_nan (n : Bool) (w : World) : (Instr.typeAssert (.iface 114 (.agg #[.bool n])) 67 115 true).run Tryz.prog w = .ok (.tuple #[.agg #[.bool false], .bool false]) w := by kernel_rfl

set_option maxHeartbeats 400000 in
theorem is_nan_inf (n : Bool) (w : World) :
    Calls Tryz.prog 73 #[.iface 114 (.agg #[.bool n])] w fun r w' => r = .returned (.bool false) ∧ Kept 0 0 w w' := by
  have a0 := fun w => as_inf_is_nan n w
  go_enter Tryz.func73, Tryz.ntmps73
  go_wp2
  go_ret
  exact ⟨rfl, by repeat first | exact Kept.refl 0 0 _ | apply Kept.alloc⟩

theorem as_nan_is_nan (w : World) : (Instr.typeAssert (.iface 115 (.agg #[.bool false])) 67 115 true).run Tryz.prog w = .ok (.tuple #[.agg #[.bool false], .bool true]) w := by kernel_rfl

set_option maxHeartbeats 400000 in
theorem is_nan_nan (w : World) :
    Calls Tryz.prog 73 #[.iface 115 (.agg #[.bool false])] w fun r w' => r = .returned (.bool true) ∧ Kept 0 0 w w' := by
  have a0 := fun w => as_nan_is_nan w
  go_enter Tryz.func73, Tryz.ntmps73
  go_wp2
  go_ret
  exact ⟨rfl, by repeat first | exact Kept.refl 0 0 _ | apply Kept.alloc⟩

theorem as_num_is_inf (n : Bool) (m e : Int) (w : World) : (Instr.typeAssert (.iface 113 (.agg #[.bool n, .int .i64 m, .int .i64 e])) 67 114 true).run Tryz.prog w = .ok (.tuple #[.agg #[.bool false], .bool false]) w := by kernel_rfl

set_option maxHeartbeats 400000 in
theorem is_inf_num (n : Bool) (m e : Int) (w : World) :
    Calls Tryz.prog 72 #[.iface 113 (.agg #[.bool n, .int .i64 m, .int .i64 e])] w fun r w' => r = .returned (.bool false) ∧ Kept 0 0 w w' := by
  have a0 := fun w => as_num_is_inf n m e w
  go_enter Tryz.func72, Tryz.ntmps72
  go_wp2
  go_ret
  exact ⟨rfl, by repeat first | exact Kept.refl 0 0 _ | apply Kept.alloc⟩

theorem as_nought_is_inf (n : Bool) (w : World) : (Instr.typeAssert (.iface 111 (.agg #[.bool n])) 67 114 true).run Tryz.prog w = .ok (.tuple #[.agg #[.bool false], .bool false]) w := by kernel_rfl

set_option maxHeartbeats 400000 in
theorem is_inf_nought (n : Bool) (w : World) :
    Calls Tryz.prog 72 #[.iface 111 (.agg #[.bool n])] w fun r w' => r = .returned (.bool false) ∧ Kept 0 0 w w' := by
  have a0 := fun w => as_nought_is_inf n w
  go_enter Tryz.func72, Tryz.ntmps72
  go_wp2
  go_ret
  exact ⟨rfl, by repeat first | exact Kept.refl 0 0 _ | apply Kept.alloc⟩

theorem as_inf_is_inf (n : Bool) (w : World) : (Instr.typeAssert (.iface 114 (.agg #[.bool n])) 67 114 true).run Tryz.prog w = .ok (.tuple #[.agg #[.bool n], .bool true]) w := by kernel_rfl

set_option maxHeartbeats 400000 in
theorem is_inf_inf (n : Bool) (w : World) :
    Calls Tryz.prog 72 #[.iface 114 (.agg #[.bool n])] w fun r w' => r = .returned (.bool true) ∧ Kept 0 0 w w' := by
  have a0 := fun w => as_inf_is_inf n w
  go_enter Tryz.func72, Tryz.ntmps72
  go_wp2
  go_ret
  exact ⟨rfl, by repeat first | exact Kept.refl 0 0 _ | apply Kept.alloc⟩

theorem as_nan_is_inf (w : World) : (Instr.typeAssert (.iface 115 (.agg #[.bool false])) 67 114 true).run Tryz.prog w = .ok (.tuple #[.agg #[.bool false], .bool false]) w := by kernel_rfl

set_option maxHeartbeats 400000 in
theorem is_inf_nan (w : World) :
    Calls Tryz.prog 72 #[.iface 115 (.agg #[.bool false])] w fun r w' => r = .returned (.bool false) ∧ Kept 0 0 w w' := by
  have a0 := fun w => as_nan_is_inf w
  go_enter Tryz.func72, Tryz.ntmps72
  go_wp2
  go_ret
  exact ⟨rfl, by repeat first | exact Kept.refl 0 0 _ | apply Kept.alloc⟩

theorem as_num_is_nought (n : Bool) (m e : Int) (w : World) : (Instr.typeAssert (.iface 113 (.agg #[.bool n, .int .i64 m, .int .i64 e])) 67 111 true).run Tryz.prog w = .ok (.tuple #[.agg #[.bool false], .bool false]) w := by kernel_rfl

set_option maxHeartbeats 400000 in
theorem is_nought_num (n : Bool) (m e : Int) (w : World) :
    Calls Tryz.prog 77 #[.iface 113 (.agg #[.bool n, .int .i64 m, .int .i64 e])] w fun r w' => r = .returned (.bool false) ∧ Kept 0 0 w w' := by
  have a0 := fun w => as_num_is_nought n m e w
  go_enter Tryz.func77, Tryz.ntmps77
  go_wp2
  go_ret
  exact ⟨rfl, by repeat first | exact Kept.refl 0 0 _ | apply Kept.alloc⟩

theorem as_nought_is_nought (n : Bool) (w : World) : (Instr.typeAssert (.iface 111 (.agg #[.bool n])) 67 111 true).run Tryz.prog w = .ok (.tuple #[.agg #[.bool n], .bool true]) w := by kernel_rfl

set_option maxHeartbeats 400000 in
theorem is_nought_nought (n : Bool) (w : World) :
    Calls Tryz.prog 77 #[.iface 111 (.agg #[.bool n])] w fun r w' => r = .returned (.bool true) ∧ Kept 0 0 w w' := by
  have a0 := fun w => as_nought_is_nought n w
  go_enter Tryz.func77, Tryz.ntmps77
  go_wp2
  go_ret
  exact ⟨rfl, by repeat first | exact Kept.refl 0 0 _ | apply Kept.alloc⟩

theorem as_inf_is_nought (n : Bool) (w : World) : (Instr.typeAssert (.iface 114 (.agg #[.bool n])) 67 111 true).run Tryz.prog w = .ok (.tuple #[.agg #[.bool false], .bool false]) w := by kernel_rfl

set_option maxHeartbeats 400000 in
theorem is_nought_inf (n : Bool) (w : World) :
    Calls Tryz.prog 77 #[.iface 114 (.agg #[.bool n])] w fun r w' => r = .returned (.bool false) ∧ Kept 0 0 w w' := by
  have a0 := fun w => as_inf_is_nought n w
  go_enter Tryz.func77, Tryz.ntmps77
  go_wp2
  go_ret
  exact ⟨rfl, by repeat first | exact Kept.refl 0 0 _ | apply Kept.alloc⟩

theorem hs_num (n : Bool) (m e : Int) (w : World) : (method 296 113 (.agg #[.bool n, .int .i64 m, .int .i64 e]) "loop.example/g00382/impl.hasSign").run Tryz.prog w = .ok (177, .agg #[.bool n]) w := by kernel_rfl

theorem hs_nought (n : Bool) (w : World) : (method 296 111 (.agg #[.bool n]) "loop.example/g00382/impl.hasSign").run Tryz.prog w = .ok (177, .agg #[.bool n]) w := by kernel_rfl

theorem hs_inf (n : Bool) (w : World) : (method 296 114 (.agg #[.bool n]) "loop.example/g00382/impl.hasSign").run Tryz.prog w = .ok (177, .agg #[.bool n]) w := by kernel_rfl

theorem hs_nan (w : World) : (method 296 115 (.agg #[.bool false]) "loop.example/g00382/impl.hasSign").run Tryz.prog w = .ok (177, .agg #[.bool false]) w := by kernel_rfl

set_option maxHeartbeats 400000 in
theorem hasSign_any (n : Bool) (w : World) :
    Calls Tryz.prog 177 #[.agg #[.bool n]] w fun r w' => r = .returned (.bool n) ∧ Kept 0 0 w w' := by
  go_enter Tryz.func177, Tryz.ntmps177
  go_wp2
  go_ret
  exact ⟨rfl, by repeat first | exact Kept.refl 0 0 _ | apply Kept.alloc⟩

set_option maxHeartbeats 2000000 in
theorem valueOf_num (n : Bool) (m e : Int) (a3 : 1 ≤ m) (a4 : m ≤ 9007199254740991) (w : World) :
    Calls Tryz.prog 74 #[.iface 113 (.agg #[.bool n, .int .i64 m, .int .i64 e])] w fun e' w' => ∃ v', e' = .returned (.agg #[v', .bool n, .int .i64 e]) ∧ w'.ownsRow w.heap.size 3 1 v' (limbs m.toNat).length ((limbs m.toNat).map (Value.int .i64)) ∧ Kept 0 0 w w' := by
  have a0 := fun w => fin_num n m e w
  have a1 := fun w => value_num n m e w
  obtain ⟨zs, hL⟩ : ∃ L : List Int, limbs m.toNat = L := ⟨_, rfl⟩
  have mv := fun w => value_m n m e a3 a4 w
  rw [hL] at mv ⊢
  replace mv := hide mv
  clear hL
  have k0 : Kept 0 0 w (w.alloc (.cells #[.slice none 0 0, .bool false, .int .i64 0] 79)) := ((Kept.refl 0 0 w).alloc (.cells #[.slice none 0 0, .bool false, .int .i64 0] 79))
  have q0 : (w.alloc (.cells #[.slice none 0 0, .bool false, .int .i64 0] 79)).cell? ⟨w.heap.size, 0, none⟩ = some (.slice none 0 0) := new_cell2 _ _ _ _ _ _ (by simp) rfl
  have qf0 : (w.alloc (.cells #[.slice none 0 0, .bool false, .int .i64 0] 79)).frozen? ⟨w.heap.size, 0, none⟩ = false := new_loose2 _ _ _ _ _ (by simp)
  have q1 : (w.alloc (.cells #[.slice none 0 0, .bool false, .int .i64 0] 79)).cell? ⟨w.heap.size, 1, none⟩ = some (.bool false) := new_cell2 _ _ _ _ _ _ (by simp) rfl
  have qf1 : (w.alloc (.cells #[.slice none 0 0, .bool false, .int .i64 0] 79)).frozen? ⟨w.heap.size, 1, none⟩ = false := new_loose2 _ _ _ _ _ (by simp)
  have q2 : (w.alloc (.cells #[.slice none 0 0, .bool false, .int .i64 0] 79)).cell? ⟨w.heap.size, 2, none⟩ = some (.int .i64 0) := new_cell2 _ _ _ _ _ _ (by simp) rfl
  have qf2 : (w.alloc (.cells #[.slice none 0 0, .bool false, .int .i64 0] 79)).frozen? ⟨w.heap.size, 2, none⟩ = false := new_loose2 _ _ _ _ _ (by simp)
  have s0 : (w.alloc (.cells #[.slice none 0 0, .bool false, .int .i64 0] 79)).heap.size = w.heap.size + 1 := by simp
  have K := hide (k0)
  clear k0
  have S0 := hide s0
  clear s0
  go_enter Tryz.func74, Tryz.ntmps74
  go_wp2_with fail
  generalize (w.alloc (.cells #[.slice none 0 0, .bool false, .int .i64 0] 79)) = W at *
  refine (unhide mv _).mono ?_
  rintro e w1 ⟨v3, rfl, o3, k1⟩
  replace qf0 := k1.loose0 (World.block_lt_of_cell? _ _ q0) qf0
  replace qf1 := k1.loose0 (World.block_lt_of_cell? _ _ q1) qf1
  replace qf2 := k1.loose0 (World.block_lt_of_cell? _ _ q2) qf2
  replace q0 := k1.cell0 q0
  replace q1 := k1.cell0 q1
  replace q2 := k1.cell0 q2
  replace K := hide ((unhide K).trans k1)
  have z2 := k1.size
  clear k1
  clear mv
  have l3 := o3.lt
  obtain ⟨a3', c3, hv⟩ := own_slice o3
  subst hv
  have nR : (Value.slice a3' zs.length c3).ownBlock ≠ some w.heap.size := fun e => by have := (l3 _ e).1; have := unhide S0; omega
  have KF := hide ((((unhide K).setNew (p := ⟨w.heap.size, 0, none⟩) (by simp) (.slice a3' zs.length c3)).setNew (p := ⟨w.heap.size, 1, none⟩) (by simp) (.bool n)).setNew (p := ⟨w.heap.size, 2, none⟩) (by simp) (.int .i64 e))
  have OF := hide (own_base (own_apart (own_apart (own_apart o3 (p := ⟨w.heap.size, 0, none⟩) nR (.slice a3' zs.length c3)) (p := ⟨w.heap.size, 1, none⟩) nR (.bool n)) (p := ⟨w.heap.size, 2, none⟩) nR (.int .i64 e)) (b' := w.heap.size) (fun i e => by have := (l3 _ e).1; have := unhide S0; omega))
  clear o3 K
  try go_wp2_with fail
  exact bodyPost_ret (v := .agg #[.slice a3' zs.length c3, .bool n, .int .i64 e]) (by simp [results, Tryz.results74, go_sem, q0, q1, q2]) rfl ⟨_, rfl, unhide OF, unhide KF⟩

set_option maxHeartbeats 2000000 in
theorem valueOf_nought (n : Bool) (w : World) :
    Calls Tryz.prog 74 #[.iface 111 (.agg #[.bool n])] w fun e' w' => ∃ v', e' = .returned (.agg #[v', .bool n, .int .i64 0]) ∧ w'.ownsRow w.heap.size 3 1 v' (([] : List Int)).length ((([] : List Int)).map (Value.int .i64)) ∧ Kept 0 0 w w' := by
  have a0 := fun w => fin_nought n 0 0 w
  have a1 := fun w => value_nought n 0 0 w
  obtain ⟨zs, hL⟩ : ∃ L : List Int, ([] : List Int) = L := ⟨_, rfl⟩
  have mv := fun w => value_n n w
  rw [hL] at mv ⊢
  replace mv := hide mv
  clear hL
  have k0 : Kept 0 0 w (w.alloc (.cells #[.slice none 0 0, .bool false, .int .i64 0] 79)) := ((Kept.refl 0 0 w).alloc (.cells #[.slice none 0 0, .bool false, .int .i64 0] 79))
  have q0 : (w.alloc (.cells #[.slice none 0 0, .bool false, .int .i64 0] 79)).cell? ⟨w.heap.size, 0, none⟩ = some (.slice none 0 0) := new_cell2 _ _ _ _ _ _ (by simp) rfl
  have qf0 : (w.alloc (.cells #[.slice none 0 0, .bool false, .int .i64 0] 79)).frozen? ⟨w.heap.size, 0, none⟩ = false := new_loose2 _ _ _ _ _ (by simp)
  have q1 : (w.alloc (.cells #[.slice none 0 0, .bool false, .int .i64 0] 79)).cell? ⟨w.heap.size, 1, none⟩ = some (.bool false) := new_cell2 _ _ _ _ _ _ (by simp) rfl
  have qf1 : (w.alloc (.cells #[.slice none 0 0, .bool false, .int .i64 0] 79)).frozen? ⟨w.heap.size, 1, none⟩ = false := new_loose2 _ _ _ _ _ (by simp)
  have q2 : (w.alloc (.cells #[.slice none 0 0, .bool false, .int .i64 0] 79)).cell? ⟨w.heap.size, 2, none⟩ = some (.int .i64 0) := new_cell2 _ _ _ _ _ _ (by simp) rfl
  have qf2 : (w.alloc (.cells #[.slice none 0 0, .bool false, .int .i64 0] 79)).frozen? ⟨w.heap.size, 2, none⟩ = false := new_loose2 _ _ _ _ _ (by simp)
  have s0 : (w.alloc (.cells #[.slice none 0 0, .bool false, .int .i64 0] 79)).heap.size = w.heap.size + 1 := by simp
  have K := hide (k0)
  clear k0
  have S0 := hide s0
  clear s0
  go_enter Tryz.func74, Tryz.ntmps74
  go_wp2_with fail
  generalize (w.alloc (.cells #[.slice none 0 0, .bool false, .int .i64 0] 79)) = W at *
  refine (unhide mv _).mono ?_
  rintro e w1 ⟨v3, rfl, o3, k1⟩
  replace qf0 := k1.loose0 (World.block_lt_of_cell? _ _ q0) qf0
  replace qf1 := k1.loose0 (World.block_lt_of_cell? _ _ q1) qf1
  replace qf2 := k1.loose0 (World.block_lt_of_cell? _ _ q2) qf2
  replace q0 := k1.cell0 q0
  replace q1 := k1.cell0 q1
  replace q2 := k1.cell0 q2
  replace K := hide ((unhide K).trans k1)
  have z2 := k1.size
  clear k1
  clear mv
  have l3 := o3.lt
  obtain ⟨a3', c3, hv⟩ := own_slice o3
  subst hv
  have nR : (Value.slice a3' zs.length c3).ownBlock ≠ some w.heap.size := fun e => by have := (l3 _ e).1; have := unhide S0; omega
  have KF := hide ((((unhide K).setNew (p := ⟨w.heap.size, 0, none⟩) (by simp) (.slice a3' zs.length c3)).setNew (p := ⟨w.heap.size, 1, none⟩) (by simp) (.bool n)).setNew (p := ⟨w.heap.size, 2, none⟩) (by simp) (.int .i64 0))
  have OF := hide (own_base (own_apart (own_apart (own_apart o3 (p := ⟨w.heap.size, 0, none⟩) nR (.slice a3' zs.length c3)) (p := ⟨w.heap.size, 1, none⟩) nR (.bool n)) (p := ⟨w.heap.size, 2, none⟩) nR (.int .i64 0)) (b' := w.heap.size) (fun i e => by have := (l3 _ e).1; have := unhide S0; omega))
  clear o3 K
  try go_wp2_with fail
  exact bodyPost_ret (v := .agg #[.slice a3' zs.length c3, .bool n, .int .i64 0]) (by simp [results, Tryz.results74, go_sem, q0, q1, q2]) rfl ⟨_, rfl, unhide OF, unhide KF⟩

end Go.Proofs.YtepehpkmejjhiaaGreatDoor

