/-
  Sums of floats: the program's roundedSum.
-/
import Derived.Test.YtepehpkmejjhiaaGreatDoorFlA1
import Derived.Test.YtepehpkmejjhiaaGreatDoorBY
import Derived.Test.YtepehpkmejjhiaaGreatDoorBU
import Derived.Deep.RegionHeld3
import Derived.Deep.DeepCutAuto
namespace Go.Proofs.YtepehpkmejjhiaaGreatDoor
open Go.RowKit
set_option linter.unusedVariables false
set_option maxRecDepth 8000
set_option linter.unusedSimpArgs false

/-- A number, S times a power of two, rounded to a float; its flags. Z: the sign of a nought. -/
def rndQ (mode S lo : Int) (Z : Bool) : (Int × Bool × Int × Int) × Int :=
  (((flA mode (if S = 0 then Z else wsg S) S.natAbs lo).1, (if S = 0 then Z else wsg S), (flA mode (if S = 0 then Z else wsg S) S.natAbs lo).2.1, (flA mode (if S = 0 then Z else wsg S) S.natAbs lo).2.2), flG mode (if S = 0 then Z else wsg S) S.natAbs lo)
theorem rndQ_nought {mode S lo : Int} {Z : Bool} (h : S = 0) : rndQ mode S lo Z = (((flA mode Z 0 lo).1, Z, (flA mode Z 0 lo).2.1, (flA mode Z 0 lo).2.2), flG mode Z 0 lo) := by
  unfold rndQ
  rw [if_pos h, h]
  rfl
theorem rndQ_num {mode S lo : Int} {Z : Bool} (h : S ≠ 0) : rndQ mode S lo Z = (((flA mode (wsg S) S.natAbs lo).1, wsg S, (flA mode (wsg S) S.natAbs lo).2.1, (flA mode (wsg S) S.natAbs lo).2.2), flG mode (wsg S) S.natAbs lo) := by
  unfold rndQ
  rw [if_neg h]
theorem Ex.side {w : World} {g : Nat} {x : Int} (h : Ex w g x) (u : Value) : Ex (w.setCell ⟨g, 1, none⟩ u) g x := ⟨cell_off _ _ _ _ _ _ h.1 (by decide), (frozen_set _ _ _ _ _).trans h.2⟩
theorem sum_len {s : Bool} {zs : List Int} (h : Nrm zs) {S : Int} (hv : wval s zs = S) {A : Nat} (hS : S.natAbs < 2 ^ A) {n : Nat} (hA : A ≤ 16 * n) : zs.length ≤ n := nrm_len h (by rw [hv]; exact hS) hA

theorem in_isZero_f : ∀ (w : World) (args : Array Value), (callFunc 83 args).run Tryz.prog w = .ok (.enter 83 args) w := enters Tryz.func83 (by decide) (fun h => by cases h)

set_option maxHeartbeats 4000000 in
theorem roundedSum_impl {w0 w : World} {g1 g2 : Nat} {n1 n2 : Bool} {u1 u2 : Value} {xs ys : List Int} {x1 x2 : Int} (t0 : Two w0 w g1 g2 u1 u2 xs ys) (b1 : Sd w g1 n1) (b2 : Sd w g2 n2) (c1 : Ex w g1 x1) (c2 : Ex w g2 x2) (hx : Nrm xs) (hy : Nrm ys) (nx : xs.length ≤ 100) (ny : ys.length ≤ 100) (f1 : -3000 ≤ x1) (f2 : x1 ≤ 3000) (f3 : -3000 ≤ x2) (f4 : x2 ≤ 3000) (mode : Int) (hm0 : 0 ≤ mode) (hm4 : mode ≤ 4) (T : TabB w0) :
    Calls Tryz.prog 76 #[.pointer (some ⟨g1, 0, none⟩), .pointer (some ⟨g2, 0, none⟩), .int .i64 mode] w fun e' w' => e' = .returned (.tuple #[flq (rndQ mode (wval n1 xs * 2 ^ (x1 - min x1 x2).toNat + wval n2 ys * 2 ^ (x2 - min x1 x2).toNat) (min x1 x2) (if xs.length = 0 ∧ ys.length = 0 ∧ n1 = n2 then n1 else (mode == 3))).1, .int .i64 (rndQ mode (wval n1 xs * 2 ^ (x1 - min x1 x2).toNat + wval n2 ys * 2 ^ (x2 - min x1 x2).toNat) (min x1 x2) (if xs.length = 0 ∧ ys.length = 0 ∧ n1 = n2 then n1 else (mode == 3))).2]) ∧ Kept 0 0 w0 w' := by
  obtain ⟨lo, hlo⟩ : ∃ y, min x1 x2 = y := ⟨_, rfl⟩
  obtain ⟨S, hS⟩ : ∃ y, wval n1 xs * 2 ^ (x1 - min x1 x2).toNat + wval n2 ys * 2 ^ (x2 - min x1 x2).toNat = y := ⟨_, rfl⟩
  obtain ⟨MD, hMD⟩ : ∃ y, (mode == 3) = y := ⟨_, rfl⟩
  rw [hS, hlo, hMD]
  obtain ⟨Z, hZ⟩ : ∃ y, (if xs.length = 0 ∧ ys.length = 0 ∧ n1 = n2 then n1 else MD) = y := ⟨_, rfl⟩
  rw [hZ]
  obtain ⟨Q, hQ⟩ : ∃ q, rndQ mode S lo Z = q := ⟨_, rfl⟩
  rw [hQ]
  have HQ := hide hQ
  have HZ := hide hZ
  have HS := hide hS
  have HL := hide hlo
  clear hQ hZ hS hlo
  have hg1 := t0.n1.lt
  have hg2 := t0.n2.lt
  have hu1 : ∀ i, u1.ownBlock = some i → i < w.heap.size := fun i e => (t0.n1.own.lt i e).2
  have hb1 := b1.1
  have hb2 := b2.1
  have w0w := t0.k.size
  obtain ⟨Wn, hn0⟩ : ∃ wz, wz = (w.alloc (.cells #[.int .i64 0, .bool false, .int .i64 0, .int .i64 0] 24)) := ⟨_, rfl⟩
  have k0 : Kept 0 0 w Wn := by rw [hn0]; exact ((Kept.refl 0 0 w).alloc _)
  obtain ⟨q0, q1, q2, q3, qf0, qf1, qf2, qf3⟩ := new4 hn0 (n := w.heap.size) (by simp)
  subst hn0
  replace t0 := t0.kept k0
  replace b1 := b1.kept k0
  replace b2 := b2.kept k0
  replace c1 := c1.kept k0
  replace c2 := c2.kept k0
  replace hb1 := k0.cell0 hb1
  replace hb2 := k0.cell0 hb2
  have s0 : (w.alloc (.cells #[.int .i64 0, .bool false, .int .i64 0, .int .i64 0] 24)).heap.size = w.heap.size + 1 := by simp
  have K := hide (k0)
  clear k0
  have S0 := hide s0
  clear s0
  go_enter Tryz.func76, Tryz.ntmps76
  go_wp2_with fail
  generalize (w.alloc (.cells #[.int .i64 0, .bool false, .int .i64 0, .int .i64 0] 24)) = W at *
  have sz1 : w.heap.size + 1 ≤ W.heap.size := by have := unhide S0; omega
  obtain ⟨BB, hBB⟩ : ∃ y, (decide (xs.length = 0) && decide (ys.length = 0) && (n1 == n2)) = y := ⟨_, rfl⟩
  have HBB := hide hBB
  have HBB' := hBB
  clear HBB'
  go_cut [35] (fun p wx => p = .bool BB ∧ Kept 0 0 W wx)
  case first =>
   have kw := Kept.refl 0 0 W
   clear hBB
   by_cases hx0 : xs.length = 0
   rotate_left
   ·have EB : BB = false := by rw [← unhide HBB, decide_eq_false hx0]; rfl
    have isZ1 : ∀ w', Num w0.heap.size w' g1 u1 xs → Calls Tryz.prog 83 #[.pointer (some ⟨g1, 0, none⟩)] w' fun e w'' => e = .returned (.bool false) ∧ Kept 0 0 w' w'' := fun w' h => (isZero_impl w' h).mono (fun e w'' hh => ⟨by rw [hh.1, decide_eq_false hx0], by rw [hh.2]; exact Kept.refl 0 0 _⟩)
    have isZ2 := isZ1
    have HE := hide EB
    clear EB hx0
    have kd := (Kept.refl 0 0 W).drew
    replace kw := kw.trans kd
    replace t0 := t0.kept kd
    replace b1 := b1.kept kd
    replace b2 := b2.kept kd
    replace c1 := c1.kept kd
    replace c2 := c2.kept kd
    replace qf0 := kd.loose0 (zbl q0) qf0
    replace qf1 := kd.loose0 (zbl q1) qf1
    replace qf2 := kd.loose0 (zbl q2) qf2
    replace qf3 := kd.loose0 (zbl q3) qf3
    replace q0 := kd.cell0 q0
    replace q1 := kd.cell0 q1
    replace q2 := kd.cell0 q2
    replace q3 := kd.cell0 q3
    replace hb1 := kd.cell0 hb1
    replace hb2 := kd.cell0 hb2
    replace K := hide ((unhide K).trans kd)
    have z1 := kd.size
    clear kd
    refine wp_region_held_drew (S := (fun w' => w'.cell? ⟨g1, 1, none⟩ = some (.bool n1) ∧ w'.cell? ⟨g2, 1, none⟩ = some (.bool n2))) (by kernel_rfl) ?_ (fun hH => ?_)
    ·exact ⟨hb1, hb2⟩
    refine wT (i := 0) (v := .pointer (some ⟨g1, 0, none⟩)) rfl (Or.inl ⟨by rfl, ?_⟩) hH ?_
    ·intro wq hSw
     try dsimp only at hSw
     go_simp
    try simp only [Act.put, zq1, zq2, zq3, zq4, zq5, zq6]
    refine wT (i := 1) (v := .pointer (some ⟨g1, 0, none⟩)) rfl (Or.inl ⟨by rfl, ?_⟩) hH ?_
    ·intro wq hSw
     try dsimp only at hSw
     go_simp
    try simp only [Act.put, zq1, zq2, zq3, zq4, zq5, zq6]
    refine wT (i := 2) (v := .pointer (some ⟨g1, 0, none⟩)) rfl (Or.inl ⟨by rfl, ?_⟩) hH ?_
    ·intro wq hSw
     try dsimp only at hSw
     go_simp
    try simp only [Act.put, zq1, zq2, zq3, zq4, zq5, zq6]
    refine wT (i := 3) (v := .pointer (some ⟨g1, 0, none⟩)) rfl (Or.inl ⟨by rfl, ?_⟩) hH ?_
    ·intro wq hSw
     try dsimp only at hSw
     go_simp
    try simp only [Act.put, zq1, zq2, zq3, zq4, zq5, zq6]
    refine wR 4 (by kernel_rfl) rfl (fun KK hK => ?_)
    simp only [zq1, zq2, zq3]
    rw [if_pos (by rfl)]
    refine wps1 83 (.tmp 14) _ rfl in_isZero_f (.pointer (some ⟨g1, 0, none⟩)) rfl (isZ1 _ t0.n1) ?_
    rintro e w2 ⟨rfl, k2⟩
    refine ⟨_, rfl, ?_⟩
    replace kw := kw.trans k2
    replace t0 := t0.kept k2
    replace b1 := b1.kept k2
    replace b2 := b2.kept k2
    replace c1 := c1.kept k2
    replace c2 := c2.kept k2
    replace qf0 := k2.loose0 (zbl q0) qf0
    replace qf1 := k2.loose0 (zbl q1) qf1
    replace qf2 := k2.loose0 (zbl q2) qf2
    replace qf3 := k2.loose0 (zbl q3) qf3
    replace q0 := k2.cell0 q0
    replace q1 := k2.cell0 q1
    replace q2 := k2.cell0 q2
    replace q3 := k2.cell0 q3
    replace hb1 := k2.cell0 hb1
    replace hb2 := k2.cell0 hb2
    replace K := hide ((unhide K).trans k2)
    have z3 := k2.size
    clear k2
    clear hH
    refine hK.out _ _ ?_ (fun hH => ?_)
    ·exact ⟨hb1, hb2⟩
    clear hK KK
    try simp only [Act.put, zq1, zq2, zq3, zq4, zq5, zq6]
    refine wT (i := 5) (v := .bool false) rfl (Or.inl ⟨by rfl, ?_⟩) hH ?_
    ·intro wq hSw
     try dsimp only at hSw
     go_simp
    try simp only [Act.put, zq1, zq2, zq3, zq4, zq5, zq6]
    refine wT (i := 6) (v := undef) rfl (Or.inr ⟨by rfl, rfl⟩) hH ?_
    try simp only [Act.put, zq1, zq2, zq3, zq4, zq5, zq6]
    refine wT (i := 7) (v := undef) rfl (Or.inr ⟨by rfl, rfl⟩) hH ?_
    try simp only [Act.put, zq1, zq2, zq3, zq4, zq5, zq6]
    refine wT (i := 8) (v := undef) rfl (Or.inr ⟨by rfl, rfl⟩) hH ?_
    try simp only [Act.put, zq1, zq2, zq3, zq4, zq5, zq6]
    refine wT (i := 9) (v := undef) rfl (Or.inr ⟨by rfl, rfl⟩) hH ?_
    try simp only [Act.put, zq1, zq2, zq3, zq4, zq5, zq6]
    refine wT (i := 10) (v := undef) rfl (Or.inr ⟨by rfl, rfl⟩) hH ?_
    try simp only [Act.put, zq1, zq2, zq3, zq4, zq5, zq6]
    refine wT (i := 11) (v := .bool false) rfl (Or.inl ⟨by rfl, ?_⟩) hH ?_
    ·intro wq hSw
     try dsimp only at hSw
     go_simp
    try simp only [Act.put, zq1, zq2, zq3, zq4, zq5, zq6]
    refine wT (i := 12) (v := .bool false) rfl (Or.inl ⟨by rfl, ?_⟩) hH ?_
    ·intro wq hSw
     try dsimp only at hSw
     go_simp
    try simp only [Act.put, zq1, zq2, zq3, zq4, zq5, zq6]
    refine wT (i := 13) (v := undef) rfl (Or.inr ⟨by rfl, rfl⟩) hH ?_
    try simp only [Act.put, zq1, zq2, zq3, zq4, zq5, zq6]
    refine wT (i := 14) (v := undef) rfl (Or.inr ⟨by rfl, rfl⟩) hH ?_
    try simp only [Act.put, zq1, zq2, zq3, zq4, zq5, zq6]
    refine wT (i := 15) (v := undef) rfl (Or.inr ⟨by rfl, rfl⟩) hH ?_
    try simp only [Act.put, zq1, zq2, zq3, zq4, zq5, zq6]
    refine wT (i := 16) (v := undef) rfl (Or.inr ⟨by rfl, rfl⟩) hH ?_
    try simp only [Act.put, zq1, zq2, zq3, zq4, zq5, zq6]
    refine wT (i := 17) (v := undef) rfl (Or.inr ⟨by rfl, rfl⟩) hH ?_
    try simp only [Act.put, zq1, zq2, zq3, zq4, zq5, zq6]
    refine wT (i := 18) (v := undef) rfl (Or.inr ⟨by rfl, rfl⟩) hH ?_
    try simp only [Act.put, zq1, zq2, zq3, zq4, zq5, zq6]
    refine wT (i := 19) (v := undef) rfl (Or.inr ⟨by rfl, rfl⟩) hH ?_
    try simp only [Act.put, zq1, zq2, zq3, zq4, zq5, zq6]
    refine wT (i := 20) (v := undef) rfl (Or.inr ⟨by rfl, rfl⟩) hH ?_
    try simp only [Act.put, zq1, zq2, zq3, zq4, zq5, zq6]
    refine wT (i := 21) (v := undef) rfl (Or.inr ⟨by rfl, rfl⟩) hH ?_
    try simp only [Act.put, zq1, zq2, zq3, zq4, zq5, zq6]
    refine wT (i := 22) (v := undef) rfl (Or.inr ⟨by rfl, rfl⟩) hH ?_
    try simp only [Act.put, zq1, zq2, zq3, zq4, zq5, zq6]
    refine wT (i := 23) (v := undef) rfl (Or.inr ⟨by rfl, rfl⟩) hH ?_
    try simp only [Act.put, zq1, zq2, zq3, zq4, zq5, zq6]
    refine wT (i := 24) (v := .bool false) rfl (Or.inl ⟨by rfl, ?_⟩) hH ?_
    ·intro wq hSw
     try dsimp only at hSw
     go_simp
    try simp only [Act.put, zq1, zq2, zq3, zq4, zq5, zq6]
    refine wpAnyH_done (by kernel_rfl) ?_ _
    clear hH
    clear isZ1 isZ2
    go_wp2_with fail
    go_meet
    exact ⟨by rw [unhide HE], kw⟩
   have isZ1 : ∀ w', Num w0.heap.size w' g1 u1 xs → Calls Tryz.prog 83 #[.pointer (some ⟨g1, 0, none⟩)] w' fun e w'' => e = .returned (.bool true) ∧ Kept 0 0 w' w'' := fun w' h => (isZero_impl w' h).mono (fun e w'' hh => ⟨by rw [hh.1, decide_eq_true hx0], by rw [hh.2]; exact Kept.refl 0 0 _⟩)
   by_cases hy0 : ys.length = 0
   rotate_left
   ·have EB : BB = false := by rw [← unhide HBB, decide_eq_false hy0, Bool.and_false]; rfl
    have isZ2 : ∀ w', Num w0.heap.size w' g2 u2 ys → Calls Tryz.prog 83 #[.pointer (some ⟨g2, 0, none⟩)] w' fun e w'' => e = .returned (.bool false) ∧ Kept 0 0 w' w'' := fun w' h => (isZero_impl w' h).mono (fun e w'' hh => ⟨by rw [hh.1, decide_eq_false hy0], by rw [hh.2]; exact Kept.refl 0 0 _⟩)
    have HE := hide EB
    clear EB hx0 hy0
    have kd := (Kept.refl 0 0 W).drew
    replace kw := kw.trans kd
    replace t0 := t0.kept kd
    replace b1 := b1.kept kd
    replace b2 := b2.kept kd
    replace c1 := c1.kept kd
    replace c2 := c2.kept kd
    replace qf0 := kd.loose0 (zbl q0) qf0
    replace qf1 := kd.loose0 (zbl q1) qf1
    replace qf2 := kd.loose0 (zbl q2) qf2
    replace qf3 := kd.loose0 (zbl q3) qf3
    replace q0 := kd.cell0 q0
    replace q1 := kd.cell0 q1
    replace q2 := kd.cell0 q2
    replace q3 := kd.cell0 q3
    replace hb1 := kd.cell0 hb1
    replace hb2 := kd.cell0 hb2
    replace K := hide ((unhide K).trans kd)
    have z1 := kd.size
    clear kd
    refine wp_region_held_drew (S := (fun w' => w'.cell? ⟨g1, 1, none⟩ = some (.bool n1) ∧ w'.cell? ⟨g2, 1, none⟩ = some (.bool n2))) (by kernel_rfl) ?_ (fun hH => ?_)
    ·exact ⟨hb1, hb2⟩
    refine wT (i := 0) (v := .pointer (some ⟨g1, 0, none⟩)) rfl (Or.inl ⟨by rfl, ?_⟩) hH ?_
    ·intro wq hSw
     try dsimp only at hSw
     go_simp
    try simp only [Act.put, zq1, zq2, zq3, zq4, zq5, zq6]
    refine wT (i := 1) (v := .pointer (some ⟨g1, 0, none⟩)) rfl (Or.inl ⟨by rfl, ?_⟩) hH ?_
    ·intro wq hSw
     try dsimp only at hSw
     go_simp
    try simp only [Act.put, zq1, zq2, zq3, zq4, zq5, zq6]
    refine wT (i := 2) (v := .pointer (some ⟨g1, 0, none⟩)) rfl (Or.inl ⟨by rfl, ?_⟩) hH ?_
    ·intro wq hSw
     try dsimp only at hSw
     go_simp
    try simp only [Act.put, zq1, zq2, zq3, zq4, zq5, zq6]
    refine wT (i := 3) (v := .pointer (some ⟨g1, 0, none⟩)) rfl (Or.inl ⟨by rfl, ?_⟩) hH ?_
    ·intro wq hSw
     try dsimp only at hSw
     go_simp
    try simp only [Act.put, zq1, zq2, zq3, zq4, zq5, zq6]
    refine wR 4 (by kernel_rfl) rfl (fun KK hK => ?_)
    simp only [zq1, zq2, zq3]
    rw [if_pos (by rfl)]
    refine wps1 83 (.tmp 14) _ rfl in_isZero_f (.pointer (some ⟨g1, 0, none⟩)) rfl (isZ1 _ t0.n1) ?_
    rintro e w2 ⟨rfl, k2⟩
    refine ⟨_, rfl, ?_⟩
    replace kw := kw.trans k2
    replace t0 := t0.kept k2
    replace b1 := b1.kept k2
    replace b2 := b2.kept k2
    replace c1 := c1.kept k2
    replace c2 := c2.kept k2
    replace qf0 := k2.loose0 (zbl q0) qf0
    replace qf1 := k2.loose0 (zbl q1) qf1
    replace qf2 := k2.loose0 (zbl q2) qf2
    replace qf3 := k2.loose0 (zbl q3) qf3
    replace q0 := k2.cell0 q0
    replace q1 := k2.cell0 q1
    replace q2 := k2.cell0 q2
    replace q3 := k2.cell0 q3
    replace hb1 := k2.cell0 hb1
    replace hb2 := k2.cell0 hb2
    replace K := hide ((unhide K).trans k2)
    have z3 := k2.size
    clear k2
    clear hH
    refine hK.out _ _ ?_ (fun hH => ?_)
    ·exact ⟨hb1, hb2⟩
    clear hK KK
    try simp only [Act.put, zq1, zq2, zq3, zq4, zq5, zq6]
    refine wT (i := 5) (v := .bool true) rfl (Or.inl ⟨by rfl, ?_⟩) hH ?_
    ·intro wq hSw
     try dsimp only at hSw
     go_simp
    try simp only [Act.put, zq1, zq2, zq3, zq4, zq5, zq6]
    refine wT (i := 6) (v := .pointer (some ⟨g2, 0, none⟩)) rfl (Or.inl ⟨by rfl, ?_⟩) hH ?_
    ·intro wq hSw
     try dsimp only at hSw
     go_simp
    try simp only [Act.put, zq1, zq2, zq3, zq4, zq5, zq6]
    refine wT (i := 7) (v := .pointer (some ⟨g2, 0, none⟩)) rfl (Or.inl ⟨by rfl, ?_⟩) hH ?_
    ·intro wq hSw
     try dsimp only at hSw
     go_simp
    try simp only [Act.put, zq1, zq2, zq3, zq4, zq5, zq6]
    refine wT (i := 8) (v := .pointer (some ⟨g2, 0, none⟩)) rfl (Or.inl ⟨by rfl, ?_⟩) hH ?_
    ·intro wq hSw
     try dsimp only at hSw
     go_simp
    try simp only [Act.put, zq1, zq2, zq3, zq4, zq5, zq6]
    refine wT (i := 9) (v := .pointer (some ⟨g2, 0, none⟩)) rfl (Or.inl ⟨by rfl, ?_⟩) hH ?_
    ·intro wq hSw
     try dsimp only at hSw
     go_simp
    try simp only [Act.put, zq1, zq2, zq3, zq4, zq5, zq6]
    refine wR 10 (by kernel_rfl) rfl (fun KK hK => ?_)
    simp only [zq1, zq2, zq3]
    rw [if_pos (by rfl)]
    refine wps1 83 (.tmp 20) _ rfl in_isZero_f (.pointer (some ⟨g2, 0, none⟩)) rfl (isZ2 _ t0.n2) ?_
    rintro e w4 ⟨rfl, k4⟩
    refine ⟨_, rfl, ?_⟩
    replace kw := kw.trans k4
    replace t0 := t0.kept k4
    replace b1 := b1.kept k4
    replace b2 := b2.kept k4
    replace c1 := c1.kept k4
    replace c2 := c2.kept k4
    replace qf0 := k4.loose0 (zbl q0) qf0
    replace qf1 := k4.loose0 (zbl q1) qf1
    replace qf2 := k4.loose0 (zbl q2) qf2
    replace qf3 := k4.loose0 (zbl q3) qf3
    replace q0 := k4.cell0 q0
    replace q1 := k4.cell0 q1
    replace q2 := k4.cell0 q2
    replace q3 := k4.cell0 q3
    replace hb1 := k4.cell0 hb1
    replace hb2 := k4.cell0 hb2
    replace K := hide ((unhide K).trans k4)
    have z5 := k4.size
    clear k4
    clear hH
    refine hK.out _ _ ?_ (fun hH => ?_)
    ·exact ⟨hb1, hb2⟩
    clear hK KK
    try simp only [Act.put, zq1, zq2, zq3, zq4, zq5, zq6]
    refine wT (i := 11) (v := .bool false) rfl (Or.inl ⟨by rfl, ?_⟩) hH ?_
    ·intro wq hSw
     try dsimp only at hSw
     go_simp
    try simp only [Act.put, zq1, zq2, zq3, zq4, zq5, zq6]
    refine wT (i := 12) (v := .bool false) rfl (Or.inl ⟨by rfl, ?_⟩) hH ?_
    ·intro wq hSw
     try dsimp only at hSw
     go_simp
    try simp only [Act.put, zq1, zq2, zq3, zq4, zq5, zq6]
    refine wT (i := 13) (v := undef) rfl (Or.inr ⟨by rfl, rfl⟩) hH ?_
    try simp only [Act.put, zq1, zq2, zq3, zq4, zq5, zq6]
    refine wT (i := 14) (v := undef) rfl (Or.inr ⟨by rfl, rfl⟩) hH ?_
    try simp only [Act.put, zq1, zq2, zq3, zq4, zq5, zq6]
    refine wT (i := 15) (v := undef) rfl (Or.inr ⟨by rfl, rfl⟩) hH ?_
    try simp only [Act.put, zq1, zq2, zq3, zq4, zq5, zq6]
    refine wT (i := 16) (v := undef) rfl (Or.inr ⟨by rfl, rfl⟩) hH ?_
    try simp only [Act.put, zq1, zq2, zq3, zq4, zq5, zq6]
    refine wT (i := 17) (v := undef) rfl (Or.inr ⟨by rfl, rfl⟩) hH ?_
    try simp only [Act.put, zq1, zq2, zq3, zq4, zq5, zq6]
    refine wT (i := 18) (v := undef) rfl (Or.inr ⟨by rfl, rfl⟩) hH ?_
    try simp only [Act.put, zq1, zq2, zq3, zq4, zq5, zq6]
    refine wT (i := 19) (v := undef) rfl (Or.inr ⟨by rfl, rfl⟩) hH ?_
    try simp only [Act.put, zq1, zq2, zq3, zq4, zq5, zq6]
    refine wT (i := 20) (v := undef) rfl (Or.inr ⟨by rfl, rfl⟩) hH ?_
    try simp only [Act.put, zq1, zq2, zq3, zq4, zq5, zq6]
    refine wT (i := 21) (v := undef) rfl (Or.inr ⟨by rfl, rfl⟩) hH ?_
    try simp only [Act.put, zq1, zq2, zq3, zq4, zq5, zq6]
    refine wT (i := 22) (v := undef) rfl (Or.inr ⟨by rfl, rfl⟩) hH ?_
    try simp only [Act.put, zq1, zq2, zq3, zq4, zq5, zq6]
    refine wT (i := 23) (v := undef) rfl (Or.inr ⟨by rfl, rfl⟩) hH ?_
    try simp only [Act.put, zq1, zq2, zq3, zq4, zq5, zq6]
    refine wT (i := 24) (v := .bool false) rfl (Or.inl ⟨by rfl, ?_⟩) hH ?_
    ·intro wq hSw
     try dsimp only at hSw
     go_simp
    try simp only [Act.put, zq1, zq2, zq3, zq4, zq5, zq6]
    refine wpAnyH_done (by kernel_rfl) ?_ _
    clear hH
    clear isZ1 isZ2
    go_wp2_with fail
    go_meet
    exact ⟨by rw [unhide HE], kw⟩
   have EB : BB = (n1 == n2) := by rw [← unhide HBB, decide_eq_true hx0, decide_eq_true hy0]; rfl
   have isZ2 : ∀ w', Num w0.heap.size w' g2 u2 ys → Calls Tryz.prog 83 #[.pointer (some ⟨g2, 0, none⟩)] w' fun e w'' => e = .returned (.bool true) ∧ Kept 0 0 w' w'' := fun w' h => (isZero_impl w' h).mono (fun e w'' hh => ⟨by rw [hh.1, decide_eq_true hy0], by rw [hh.2]; exact Kept.refl 0 0 _⟩)
   have HE := hide EB
   clear EB hx0 hy0
   have kd := (Kept.refl 0 0 W).drew
   replace kw := kw.trans kd
   replace t0 := t0.kept kd
   replace b1 := b1.kept kd
   replace b2 := b2.kept kd
   replace c1 := c1.kept kd
   replace c2 := c2.kept kd
   replace qf0 := kd.loose0 (zbl q0) qf0
   replace qf1 := kd.loose0 (zbl q1) qf1
   replace qf2 := kd.loose0 (zbl q2) qf2
   replace qf3 := kd.loose0 (zbl q3) qf3
   replace q0 := kd.cell0 q0
   replace q1 := kd.cell0 q1
   replace q2 := kd.cell0 q2
   replace q3 := kd.cell0 q3
   replace hb1 := kd.cell0 hb1
   replace hb2 := kd.cell0 hb2
   replace K := hide ((unhide K).trans kd)
   have z1 := kd.size
   clear kd
   refine wp_region_held_drew (S := (fun w' => w'.cell? ⟨g1, 1, none⟩ = some (.bool n1) ∧ w'.cell? ⟨g2, 1, none⟩ = some (.bool n2))) (by kernel_rfl) ?_ (fun hH => ?_)
   ·exact ⟨hb1, hb2⟩
   refine wT (i := 0) (v := .pointer (some ⟨g1, 0, none⟩)) rfl (Or.inl ⟨by rfl, ?_⟩) hH ?_
   ·intro wq hSw
    try dsimp only at hSw
    go_simp
   try simp only [Act.put, zq1, zq2, zq3, zq4, zq5, zq6]
   refine wT (i := 1) (v := .pointer (some ⟨g1, 0, none⟩)) rfl (Or.inl ⟨by rfl, ?_⟩) hH ?_
   ·intro wq hSw
    try dsimp only at hSw
    go_simp
   try simp only [Act.put, zq1, zq2, zq3, zq4, zq5, zq6]
   refine wT (i := 2) (v := .pointer (some ⟨g1, 0, none⟩)) rfl (Or.inl ⟨by rfl, ?_⟩) hH ?_
   ·intro wq hSw
    try dsimp only at hSw
    go_simp
   try simp only [Act.put, zq1, zq2, zq3, zq4, zq5, zq6]
   refine wT (i := 3) (v := .pointer (some ⟨g1, 0, none⟩)) rfl (Or.inl ⟨by rfl, ?_⟩) hH ?_
   ·intro wq hSw
    try dsimp only at hSw
    go_simp
   try simp only [Act.put, zq1, zq2, zq3, zq4, zq5, zq6]
   refine wR 4 (by kernel_rfl) rfl (fun KK hK => ?_)
   simp only [zq1, zq2, zq3]
   rw [if_pos (by rfl)]
   refine wps1 83 (.tmp 14) _ rfl in_isZero_f (.pointer (some ⟨g1, 0, none⟩)) rfl (isZ1 _ t0.n1) ?_
   rintro e w2 ⟨rfl, k2⟩
   refine ⟨_, rfl, ?_⟩
   replace kw := kw.trans k2
   replace t0 := t0.kept k2
   replace b1 := b1.kept k2
   replace b2 := b2.kept k2
   replace c1 := c1.kept k2
   replace c2 := c2.kept k2
   replace qf0 := k2.loose0 (zbl q0) qf0
   replace qf1 := k2.loose0 (zbl q1) qf1
   replace qf2 := k2.loose0 (zbl q2) qf2
   replace qf3 := k2.loose0 (zbl q3) qf3
   replace q0 := k2.cell0 q0
   replace q1 := k2.cell0 q1
   replace q2 := k2.cell0 q2
   replace q3 := k2.cell0 q3
   replace hb1 := k2.cell0 hb1
   replace hb2 := k2.cell0 hb2
   replace K := hide ((unhide K).trans k2)
   have z3 := k2.size
   clear k2
   clear hH
   refine hK.out _ _ ?_ (fun hH => ?_)
   ·exact ⟨hb1, hb2⟩
   clear hK KK
   try simp only [Act.put, zq1, zq2, zq3, zq4, zq5, zq6]
   refine wT (i := 5) (v := .bool true) rfl (Or.inl ⟨by rfl, ?_⟩) hH ?_
   ·intro wq hSw
    try dsimp only at hSw
    go_simp
   try simp only [Act.put, zq1, zq2, zq3, zq4, zq5, zq6]
   refine wT (i := 6) (v := .pointer (some ⟨g2, 0, none⟩)) rfl (Or.inl ⟨by rfl, ?_⟩) hH ?_
   ·intro wq hSw
    try dsimp only at hSw
    go_simp
   try simp only [Act.put, zq1, zq2, zq3, zq4, zq5, zq6]
   refine wT (i := 7) (v := .pointer (some ⟨g2, 0, none⟩)) rfl (Or.inl ⟨by rfl, ?_⟩) hH ?_
   ·intro wq hSw
    try dsimp only at hSw
    go_simp
   try simp only [Act.put, zq1, zq2, zq3, zq4, zq5, zq6]
   refine wT (i := 8) (v := .pointer (some ⟨g2, 0, none⟩)) rfl (Or.inl ⟨by rfl, ?_⟩) hH ?_
   ·intro wq hSw
    try dsimp only at hSw
    go_simp
   try simp only [Act.put, zq1, zq2, zq3, zq4, zq5, zq6]
   refine wT (i := 9) (v := .pointer (some ⟨g2, 0, none⟩)) rfl (Or.inl ⟨by rfl, ?_⟩) hH ?_
   ·intro wq hSw
    try dsimp only at hSw
    go_simp
   try simp only [Act.put, zq1, zq2, zq3, zq4, zq5, zq6]
   refine wR 10 (by kernel_rfl) rfl (fun KK hK => ?_)
   simp only [zq1, zq2, zq3]
   rw [if_pos (by rfl)]
   refine wps1 83 (.tmp 20) _ rfl in_isZero_f (.pointer (some ⟨g2, 0, none⟩)) rfl (isZ2 _ t0.n2) ?_
   rintro e w4 ⟨rfl, k4⟩
   refine ⟨_, rfl, ?_⟩
   replace kw := kw.trans k4
   replace t0 := t0.kept k4
   replace b1 := b1.kept k4
   replace b2 := b2.kept k4
   replace c1 := c1.kept k4
   replace c2 := c2.kept k4
   replace qf0 := k4.loose0 (zbl q0) qf0
   replace qf1 := k4.loose0 (zbl q1) qf1
   replace qf2 := k4.loose0 (zbl q2) qf2
   replace qf3 := k4.loose0 (zbl q3) qf3
   replace q0 := k4.cell0 q0
   replace q1 := k4.cell0 q1
   replace q2 := k4.cell0 q2
   replace q3 := k4.cell0 q3
   replace hb1 := k4.cell0 hb1
   replace hb2 := k4.cell0 hb2
   replace K := hide ((unhide K).trans k4)
   have z5 := k4.size
   clear k4
   clear hH
   refine hK.out _ _ ?_ (fun hH => ?_)
   ·exact ⟨hb1, hb2⟩
   clear hK KK
   try simp only [Act.put, zq1, zq2, zq3, zq4, zq5, zq6]
   refine wT (i := 11) (v := .bool true) rfl (Or.inl ⟨by rfl, ?_⟩) hH ?_
   ·intro wq hSw
    try dsimp only at hSw
    go_simp
   try simp only [Act.put, zq1, zq2, zq3, zq4, zq5, zq6]
   refine wT (i := 12) (v := .bool true) rfl (Or.inl ⟨by rfl, ?_⟩) hH ?_
   ·intro wq hSw
    try dsimp only at hSw
    go_simp
   try simp only [Act.put, zq1, zq2, zq3, zq4, zq5, zq6]
   refine wT (i := 13) (v := .pointer (some ⟨g1, 0, none⟩)) rfl (Or.inl ⟨by rfl, ?_⟩) hH ?_
   ·intro wq hSw
    try dsimp only at hSw
    go_simp
   try simp only [Act.put, zq1, zq2, zq3, zq4, zq5, zq6]
   refine wT (i := 14) (v := .pointer (some ⟨g1, 0, none⟩)) rfl (Or.inl ⟨by rfl, ?_⟩) hH ?_
   ·intro wq hSw
    try dsimp only at hSw
    go_simp
   try simp only [Act.put, zq1, zq2, zq3, zq4, zq5, zq6]
   refine wT (i := 15) (v := .pointer (some ⟨g1, 0, none⟩)) rfl (Or.inl ⟨by rfl, ?_⟩) hH ?_
   ·intro wq hSw
    try dsimp only at hSw
    go_simp
   try simp only [Act.put, zq1, zq2, zq3, zq4, zq5, zq6]
   refine wT (i := 16) (v := .pointer (some ⟨g1, 1, none⟩)) rfl (Or.inl ⟨by rfl, ?_⟩) hH ?_
   ·intro wq hSw
    try dsimp only at hSw
    go_simp
   try simp only [Act.put, zq1, zq2, zq3, zq4, zq5, zq6]
   refine wT (i := 17) (v := .bool n1) rfl (Or.inl ⟨by rfl, ?_⟩) hH ?_
   ·intro wq hSw
    try dsimp only at hSw
    go_simp
   try simp only [Act.put, zq1, zq2, zq3, zq4, zq5, zq6]
   refine wT (i := 18) (v := .pointer (some ⟨g2, 0, none⟩)) rfl (Or.inl ⟨by rfl, ?_⟩) hH ?_
   ·intro wq hSw
    try dsimp only at hSw
    go_simp
   try simp only [Act.put, zq1, zq2, zq3, zq4, zq5, zq6]
   refine wT (i := 19) (v := .pointer (some ⟨g2, 0, none⟩)) rfl (Or.inl ⟨by rfl, ?_⟩) hH ?_
   ·intro wq hSw
    try dsimp only at hSw
    go_simp
   try simp only [Act.put, zq1, zq2, zq3, zq4, zq5, zq6]
   refine wT (i := 20) (v := .pointer (some ⟨g2, 0, none⟩)) rfl (Or.inl ⟨by rfl, ?_⟩) hH ?_
   ·intro wq hSw
    try dsimp only at hSw
    go_simp
   try simp only [Act.put, zq1, zq2, zq3, zq4, zq5, zq6]
   refine wT (i := 21) (v := .pointer (some ⟨g2, 1, none⟩)) rfl (Or.inl ⟨by rfl, ?_⟩) hH ?_
   ·intro wq hSw
    try dsimp only at hSw
    go_simp
   try simp only [Act.put, zq1, zq2, zq3, zq4, zq5, zq6]
   refine wT (i := 22) (v := .bool n2) rfl (Or.inl ⟨by rfl, ?_⟩) hH ?_
   ·intro wq hSw
    try dsimp only at hSw
    go_simp
   try simp only [Act.put, zq1, zq2, zq3, zq4, zq5, zq6]
   refine wT (i := 23) (v := .bool (n1 == n2)) rfl (Or.inl ⟨by rfl, ?_⟩) hH ?_
   ·intro wq hSw
    try dsimp only at hSw
    go_simp
   try simp only [Act.put, zq1, zq2, zq3, zq4, zq5, zq6]
   refine wT (i := 24) (v := .bool (n1 == n2)) rfl (Or.inl ⟨by rfl, ?_⟩) hH ?_
   ·intro wq hSw
    try dsimp only at hSw
    go_simp
   try simp only [Act.put, zq1, zq2, zq3, zq4, zq5, zq6]
   refine wpAnyH_done (by kernel_rfl) ?_ _
   clear hH
   clear isZ1 isZ2
   go_wp2_with fail
   go_meet
   exact ⟨by rw [unhide HE], kw⟩
  case rest =>
   obtain ⟨rfl, kk⟩ := hcut
   replace t0 := t0.kept kk
   replace b1 := b1.kept kk
   replace b2 := b2.kept kk
   replace c1 := c1.kept kk
   replace c2 := c2.kept kk
   replace qf0 := kk.loose0 (zbl q0) qf0
   replace qf1 := kk.loose0 (zbl q1) qf1
   replace qf2 := kk.loose0 (zbl q2) qf2
   replace qf3 := kk.loose0 (zbl q3) qf3
   replace q0 := kk.cell0 q0
   replace q1 := kk.cell0 q1
   replace q2 := kk.cell0 q2
   replace q3 := kk.cell0 q3
   replace hb1 := kk.cell0 hb1
   replace hb2 := kk.cell0 hb2
   replace K := hide ((unhide K).trans kk)
   have z1 := kk.size
   clear kk hBB
   generalize hwc : wc = wr at *
   clear hwc
   have w0w' : w0.heap.size ≤ wr.heap.size := by omega
   have hb0 := t0.b1
   have HMZ : Hid ((BB = true → Z = n1) ∧ (BB = false → Z = MD)) := by
    have hz := unhide HZ
    have hb := unhide HBB
    constructor
    ·intro e
     rw [e] at hb
     simp only [Bool.and_eq_true, decide_eq_true_eq, beq_iff_eq] at hb
     rw [← hz, if_pos ⟨hb.1.1, hb.1.2, hb.2⟩]
    ·intro e
     rw [e] at hb
     rw [← hz, if_neg]
     rintro ⟨j1, j2, j3⟩
     rw [decide_eq_true j1, decide_eq_true j2, j3] at hb
     simp at hb
   cases BB
   ·have NZ : Hid (Z = MD) := (unhide HMZ).2 rfl
    have AD := hide (addDyadic_mod t0 b1 b2 c1 c2 hx hy nx ny f1 f2 f3 f4)
    go_wp2_with fail
    refine (unhide AD).mono ?_
    rintro e w6 ⟨⟨r6, rfl⟩, u, s, zs, nd, dd, ee, hn, hv, k6, m6, o6⟩
    rw [unhide HS] at hv
    rw [unhide HL] at ee
    clear AD t0 b1 b2 c1 c2 hb1 hb2
    have nS : ¬ (w.heap.size = g1 ∨ w.heap.size = g2 ∨ u1.ownBlock = some w.heap.size) := by
     rintro (e | e | e)
     ·omega
     ·omega
     ·have := hu1 _ e; omega
    replace qf0 := m6.loose (a := ⟨w.heap.size, 0, none⟩) nS (zbl q0) qf0
    replace qf1 := m6.loose (a := ⟨w.heap.size, 1, none⟩) nS (zbl q1) qf1
    replace qf2 := m6.loose (a := ⟨w.heap.size, 2, none⟩) nS (zbl q2) qf2
    replace qf3 := m6.loose (a := ⟨w.heap.size, 3, none⟩) nS (zbl q3) qf3
    replace q0 := m6.cell (a := ⟨w.heap.size, 0, none⟩) nS q0
    replace q1 := m6.cell (a := ⟨w.heap.size, 1, none⟩) nS q1
    replace q2 := m6.cell (a := ⟨w.heap.size, 2, none⟩) nS q2
    replace q3 := m6.cell (a := ⟨w.heap.size, 3, none⟩) nS q3
    have oS : ∀ i, u.ownBlock = some i → i ≠ w.heap.size := by
     intro i e
     rcases o6 i e with h | h
     ·have := hu1 i h; omega
     ·omega
    replace K := hide k6
    clear m6 nS o6
    have hlen : zs.length ≤ 10000 := by
     obtain ⟨A, hA⟩ : ∃ A : Nat, A = 7600 := ⟨_, rfl⟩
     refine sum_len hn hv (A := A + 1) (by rw [← unhide HS]; exact add_lt (al_lt hx.1 nx _ (by omega) hA) (al_lt hy.1 ny _ (by omega) hA)) (by omega)
    have hlo0 : -3000 ≤ lo ∧ lo ≤ 3000 := by rw [← unhide HL]; omega
    go_wp2_with fail
    have hz := isZero_impl w6 nd
    by_cases hz0 : zs.length = 0
    ·rw [decide_eq_true hz0] at hz
     refine hz.mono ?_
     rintro e w7 ⟨rfl, rfl⟩
     clear hz
     have hzs := List.length_eq_zero_iff.1 hz0
     subst hzs
     have hS0 : S = 0 := by rw [← hv]; exact wval_nil s
     have nd' := nd.side (.bool MD)
     have dd' := dd.set MD
     have ee' := ee.side (.bool MD)
     have hc1 := dd.1
     have hc2 := dd.2
     have gz : w0.heap.size ≤ g1 := hb0
     have Q0 := cell_aside (.bool MD) (r := ⟨g1, 1, none⟩) (by dsimp only; omega) q0
     have QF0 : (w7.setCell ⟨g1, 1, none⟩ (.bool MD)).frozen? ⟨w.heap.size, 0, none⟩ = false := (frozen_set _ _ _ _ _).trans qf0
     have Q1 := cell_aside (.bool MD) (r := ⟨g1, 1, none⟩) (by dsimp only; omega) q1
     have QF1 : (w7.setCell ⟨g1, 1, none⟩ (.bool MD)).frozen? ⟨w.heap.size, 1, none⟩ = false := (frozen_set _ _ _ _ _).trans qf1
     have Q2 := cell_aside (.bool MD) (r := ⟨g1, 1, none⟩) (by dsimp only; omega) q2
     have QF2 : (w7.setCell ⟨g1, 1, none⟩ (.bool MD)).frozen? ⟨w.heap.size, 2, none⟩ = false := (frozen_set _ _ _ _ _).trans qf2
     have Q3 := cell_aside (.bool MD) (r := ⟨g1, 1, none⟩) (by dsimp only; omega) q3
     have QF3 : (w7.setCell ⟨g1, 1, none⟩ (.bool MD)).frozen? ⟨w.heap.size, 3, none⟩ = false := (frozen_set _ _ _ _ _).trans qf3
     have KS := hide ((unhide K).setNew (p := ⟨g1, 1, none⟩) gz (.bool MD))
     have szS : (w7.setCell ⟨g1, 1, none⟩ (.bool MD)).heap.size = w7.heap.size := size_set _ _ _
     obtain ⟨A, hA⟩ : ∃ y, flA mode MD 0 lo = y := ⟨_, rfl⟩
     obtain ⟨G, hG⟩ : ∃ y, flG mode MD 0 lo = y := ⟨_, rfl⟩
     have FQ : Hid (Q = ((A.1, MD, A.2.1, A.2.2), G)) := by show _ = _; rw [← unhide HQ, rndQ_nought hS0, unhide NZ, hA, hG]
     have HA := hide hA
     have HG := hide hG
     clear hA hG hz0 hS0 hv
     go_wp2_with fail
     clear hc1 hc2 nd dd ee q0 q1 q2 q3 qf0 qf1 qf2 qf3
     generalize w7.setCell ⟨g1, 1, none⟩ (.bool MD) = w8 at *
     have mk := toFloat_impl _ nd' dd' ee' hn hlen (unhide KS).size (by omega) (by omega) mode hm0 hm4 (T.kept (unhide KS))
     have hV : (val ([] : List Int)).toNat = 0 := rfl
     rw [hV, unhide HA, unhide HG] at mk
     refine mk.mono ?_
     rintro e w9 ⟨rfl, m9⟩
     clear mk
     have nS : ¬ u.ownBlock = some w.heap.size := fun e => oS _ e rfl
     replace QF0 := m9.loose (a := ⟨w.heap.size, 0, none⟩) nS (zbl Q0) QF0
     replace QF1 := m9.loose (a := ⟨w.heap.size, 1, none⟩) nS (zbl Q1) QF1
     replace QF2 := m9.loose (a := ⟨w.heap.size, 2, none⟩) nS (zbl Q2) QF2
     replace QF3 := m9.loose (a := ⟨w.heap.size, 3, none⟩) nS (zbl Q3) QF3
     replace Q0 := m9.cell (a := ⟨w.heap.size, 0, none⟩) nS Q0
     replace Q1 := m9.cell (a := ⟨w.heap.size, 1, none⟩) nS Q1
     replace Q2 := m9.cell (a := ⟨w.heap.size, 2, none⟩) nS Q2
     replace Q3 := m9.cell (a := ⟨w.heap.size, 3, none⟩) nS Q3
     have KM := hide ((unhide KS).mod m9 (fun i e => by have := (nd'.own.lt i e).1; omega))
     clear m9 nS nd' dd' ee'
     have KF := hide (((((unhide KM).setNew (p := ⟨w.heap.size, 0, none⟩) w0w (.int .i64 A.1)).setNew (p := ⟨w.heap.size, 1, none⟩) w0w (.bool MD)).setNew (p := ⟨w.heap.size, 2, none⟩) w0w (.int .i64 A.2.1)).setNew (p := ⟨w.heap.size, 3, none⟩) w0w (.int .i64 A.2.2))
     clear KM
     go_wp2_with fail
     exact bodyPost_ret (v := .tuple #[.agg #[.int .i64 A.1, .bool MD, .int .i64 A.2.1, .int .i64 A.2.2], .int .i64 G]) (by simp [results, Tryz.results76, go_sem, Q0, Q1, Q2, Q3]) rfl ⟨by rw [unhide FQ], unhide KF⟩
    rw [decide_eq_false hz0] at hz
    refine hz.mono ?_
    rintro e w7 ⟨rfl, rfl⟩
    clear hz
    have hwn : WN s zs := ⟨hn, fun _ => by omega⟩
    have hsg : s = wsg S := by rw [← hv]; exact (wn_sign hwn).symm
    have hS0 : S ≠ 0 := by
     intro e
     have h1 := wval_abs (s := s) hn.1
     rw [hv, e] at h1
     have h2 := nrm_limbs hn
     rw [← h1, show (0 : Int).natAbs = 0 from rfl, limbs_zero] at h2
     exact hz0 (by rw [h2]; rfl)
    have hab : S.natAbs = (val zs).toNat := by rw [← hv]; exact wval_abs hn.1
    obtain ⟨A, hA⟩ : ∃ y, flA mode s (val zs).toNat lo = y := ⟨_, rfl⟩
    obtain ⟨G, hG⟩ : ∃ y, flG mode s (val zs).toNat lo = y := ⟨_, rfl⟩
    have FQ : Hid (Q = ((A.1, s, A.2.1, A.2.2), G)) := by show _ = _; rw [← unhide HQ, rndQ_num hS0, ← hsg, hab, hA, hG]
    have HA := hide hA
    have HG := hide hG
    clear hA hG hz0 hS0 hv hsg hab hwn
    go_wp2_with fail
    have mk := toFloat_impl _ nd dd ee hn hlen (unhide K).size (by omega) (by omega) mode hm0 hm4 (T.kept (unhide K))
    have hV : (val zs).toNat = (val zs).toNat := rfl
    rw [hV, unhide HA, unhide HG] at mk
    refine mk.mono ?_
    rintro e w9 ⟨rfl, m9⟩
    clear mk
    have nS : ¬ u.ownBlock = some w.heap.size := fun e => oS _ e rfl
    replace qf0 := m9.loose (a := ⟨w.heap.size, 0, none⟩) nS (zbl q0) qf0
    replace qf1 := m9.loose (a := ⟨w.heap.size, 1, none⟩) nS (zbl q1) qf1
    replace qf2 := m9.loose (a := ⟨w.heap.size, 2, none⟩) nS (zbl q2) qf2
    replace qf3 := m9.loose (a := ⟨w.heap.size, 3, none⟩) nS (zbl q3) qf3
    replace q0 := m9.cell (a := ⟨w.heap.size, 0, none⟩) nS q0
    replace q1 := m9.cell (a := ⟨w.heap.size, 1, none⟩) nS q1
    replace q2 := m9.cell (a := ⟨w.heap.size, 2, none⟩) nS q2
    replace q3 := m9.cell (a := ⟨w.heap.size, 3, none⟩) nS q3
    have KM := hide ((unhide K).mod m9 (fun i e => by have := (nd.own.lt i e).1; omega))
    clear m9 nS nd dd ee
    have KF := hide (((((unhide KM).setNew (p := ⟨w.heap.size, 0, none⟩) w0w (.int .i64 A.1)).setNew (p := ⟨w.heap.size, 1, none⟩) w0w (.bool s)).setNew (p := ⟨w.heap.size, 2, none⟩) w0w (.int .i64 A.2.1)).setNew (p := ⟨w.heap.size, 3, none⟩) w0w (.int .i64 A.2.2))
    clear KM
    go_wp2_with fail
    exact bodyPost_ret (v := .tuple #[.agg #[.int .i64 A.1, .bool s, .int .i64 A.2.1, .int .i64 A.2.2], .int .i64 G]) (by simp [results, Tryz.results76, go_sem, q0, q1, q2, q3]) rfl ⟨by rw [unhide FQ], unhide KF⟩
   ·have NZ : Hid (Z = n1) := (unhide HMZ).1 rfl
    have AD := hide (addDyadic_mod t0 b1 b2 c1 c2 hx hy nx ny f1 f2 f3 f4)
    go_wp2_with fail
    refine (unhide AD).mono ?_
    rintro e w6 ⟨⟨r6, rfl⟩, u, s, zs, nd, dd, ee, hn, hv, k6, m6, o6⟩
    rw [unhide HS] at hv
    rw [unhide HL] at ee
    clear AD t0 b1 b2 c1 c2 hb1 hb2
    have nS : ¬ (w.heap.size = g1 ∨ w.heap.size = g2 ∨ u1.ownBlock = some w.heap.size) := by
     rintro (e | e | e)
     ·omega
     ·omega
     ·have := hu1 _ e; omega
    replace qf0 := m6.loose (a := ⟨w.heap.size, 0, none⟩) nS (zbl q0) qf0
    replace qf1 := m6.loose (a := ⟨w.heap.size, 1, none⟩) nS (zbl q1) qf1
    replace qf2 := m6.loose (a := ⟨w.heap.size, 2, none⟩) nS (zbl q2) qf2
    replace qf3 := m6.loose (a := ⟨w.heap.size, 3, none⟩) nS (zbl q3) qf3
    replace q0 := m6.cell (a := ⟨w.heap.size, 0, none⟩) nS q0
    replace q1 := m6.cell (a := ⟨w.heap.size, 1, none⟩) nS q1
    replace q2 := m6.cell (a := ⟨w.heap.size, 2, none⟩) nS q2
    replace q3 := m6.cell (a := ⟨w.heap.size, 3, none⟩) nS q3
    have oS : ∀ i, u.ownBlock = some i → i ≠ w.heap.size := by
     intro i e
     rcases o6 i e with h | h
     ·have := hu1 i h; omega
     ·omega
    replace K := hide k6
    clear m6 nS o6
    have hlen : zs.length ≤ 10000 := by
     obtain ⟨A, hA⟩ : ∃ A : Nat, A = 7600 := ⟨_, rfl⟩
     refine sum_len hn hv (A := A + 1) (by rw [← unhide HS]; exact add_lt (al_lt hx.1 nx _ (by omega) hA) (al_lt hy.1 ny _ (by omega) hA)) (by omega)
    have hlo0 : -3000 ≤ lo ∧ lo ≤ 3000 := by rw [← unhide HL]; omega
    go_wp2_with fail
    have hz := isZero_impl w6 nd
    by_cases hz0 : zs.length = 0
    ·rw [decide_eq_true hz0] at hz
     refine hz.mono ?_
     rintro e w7 ⟨rfl, rfl⟩
     clear hz
     have hzs := List.length_eq_zero_iff.1 hz0
     subst hzs
     have hS0 : S = 0 := by rw [← hv]; exact wval_nil s
     have nd' := nd.side (.bool n1)
     have dd' := dd.set n1
     have ee' := ee.side (.bool n1)
     have hc1 := dd.1
     have hc2 := dd.2
     have gz : w0.heap.size ≤ g1 := hb0
     have Q0 := cell_aside (.bool n1) (r := ⟨g1, 1, none⟩) (by dsimp only; omega) q0
     have QF0 : (w7.setCell ⟨g1, 1, none⟩ (.bool n1)).frozen? ⟨w.heap.size, 0, none⟩ = false := (frozen_set _ _ _ _ _).trans qf0
     have Q1 := cell_aside (.bool n1) (r := ⟨g1, 1, none⟩) (by dsimp only; omega) q1
     have QF1 : (w7.setCell ⟨g1, 1, none⟩ (.bool n1)).frozen? ⟨w.heap.size, 1, none⟩ = false := (frozen_set _ _ _ _ _).trans qf1
     have Q2 := cell_aside (.bool n1) (r := ⟨g1, 1, none⟩) (by dsimp only; omega) q2
     have QF2 : (w7.setCell ⟨g1, 1, none⟩ (.bool n1)).frozen? ⟨w.heap.size, 2, none⟩ = false := (frozen_set _ _ _ _ _).trans qf2
     have Q3 := cell_aside (.bool n1) (r := ⟨g1, 1, none⟩) (by dsimp only; omega) q3
     have QF3 : (w7.setCell ⟨g1, 1, none⟩ (.bool n1)).frozen? ⟨w.heap.size, 3, none⟩ = false := (frozen_set _ _ _ _ _).trans qf3
     have KS := hide ((unhide K).setNew (p := ⟨g1, 1, none⟩) gz (.bool n1))
     have szS : (w7.setCell ⟨g1, 1, none⟩ (.bool n1)).heap.size = w7.heap.size := size_set _ _ _
     obtain ⟨A, hA⟩ : ∃ y, flA mode n1 0 lo = y := ⟨_, rfl⟩
     obtain ⟨G, hG⟩ : ∃ y, flG mode n1 0 lo = y := ⟨_, rfl⟩
     have FQ : Hid (Q = ((A.1, n1, A.2.1, A.2.2), G)) := by show _ = _; rw [← unhide HQ, rndQ_nought hS0, unhide NZ, hA, hG]
     have HA := hide hA
     have HG := hide hG
     clear hA hG hz0 hS0 hv
     go_wp2_with fail
     clear hc1 hc2 nd dd ee q0 q1 q2 q3 qf0 qf1 qf2 qf3
     generalize w7.setCell ⟨g1, 1, none⟩ (.bool n1) = w8 at *
     have mk := toFloat_impl _ nd' dd' ee' hn hlen (unhide KS).size (by omega) (by omega) mode hm0 hm4 (T.kept (unhide KS))
     have hV : (val ([] : List Int)).toNat = 0 := rfl
     rw [hV, unhide HA, unhide HG] at mk
     refine mk.mono ?_
     rintro e w9 ⟨rfl, m9⟩
     clear mk
     have nS : ¬ u.ownBlock = some w.heap.size := fun e => oS _ e rfl
     replace QF0 := m9.loose (a := ⟨w.heap.size, 0, none⟩) nS (zbl Q0) QF0
     replace QF1 := m9.loose (a := ⟨w.heap.size, 1, none⟩) nS (zbl Q1) QF1
     replace QF2 := m9.loose (a := ⟨w.heap.size, 2, none⟩) nS (zbl Q2) QF2
     replace QF3 := m9.loose (a := ⟨w.heap.size, 3, none⟩) nS (zbl Q3) QF3
     replace Q0 := m9.cell (a := ⟨w.heap.size, 0, none⟩) nS Q0
     replace Q1 := m9.cell (a := ⟨w.heap.size, 1, none⟩) nS Q1
     replace Q2 := m9.cell (a := ⟨w.heap.size, 2, none⟩) nS Q2
     replace Q3 := m9.cell (a := ⟨w.heap.size, 3, none⟩) nS Q3
     have KM := hide ((unhide KS).mod m9 (fun i e => by have := (nd'.own.lt i e).1; omega))
     clear m9 nS nd' dd' ee'
     have KF := hide (((((unhide KM).setNew (p := ⟨w.heap.size, 0, none⟩) w0w (.int .i64 A.1)).setNew (p := ⟨w.heap.size, 1, none⟩) w0w (.bool n1)).setNew (p := ⟨w.heap.size, 2, none⟩) w0w (.int .i64 A.2.1)).setNew (p := ⟨w.heap.size, 3, none⟩) w0w (.int .i64 A.2.2))
     clear KM
     go_wp2_with fail
     exact bodyPost_ret (v := .tuple #[.agg #[.int .i64 A.1, .bool n1, .int .i64 A.2.1, .int .i64 A.2.2], .int .i64 G]) (by simp [results, Tryz.results76, go_sem, Q0, Q1, Q2, Q3]) rfl ⟨by rw [unhide FQ], unhide KF⟩
    rw [decide_eq_false hz0] at hz
    refine hz.mono ?_
    rintro e w7 ⟨rfl, rfl⟩
    clear hz
    have hwn : WN s zs := ⟨hn, fun _ => by omega⟩
    have hsg : s = wsg S := by rw [← hv]; exact (wn_sign hwn).symm
    have hS0 : S ≠ 0 := by
     intro e
     have h1 := wval_abs (s := s) hn.1
     rw [hv, e] at h1
     have h2 := nrm_limbs hn
     rw [← h1, show (0 : Int).natAbs = 0 from rfl, limbs_zero] at h2
     exact hz0 (by rw [h2]; rfl)
    have hab : S.natAbs = (val zs).toNat := by rw [← hv]; exact wval_abs hn.1
    obtain ⟨A, hA⟩ : ∃ y, flA mode s (val zs).toNat lo = y := ⟨_, rfl⟩
    obtain ⟨G, hG⟩ : ∃ y, flG mode s (val zs).toNat lo = y := ⟨_, rfl⟩
    have FQ : Hid (Q = ((A.1, s, A.2.1, A.2.2), G)) := by show _ = _; rw [← unhide HQ, rndQ_num hS0, ← hsg, hab, hA, hG]
    have HA := hide hA
    have HG := hide hG
    clear hA hG hz0 hS0 hv hsg hab hwn
    go_wp2_with fail
    have mk := toFloat_impl _ nd dd ee hn hlen (unhide K).size (by omega) (by omega) mode hm0 hm4 (T.kept (unhide K))
    have hV : (val zs).toNat = (val zs).toNat := rfl
    rw [hV, unhide HA, unhide HG] at mk
    refine mk.mono ?_
    rintro e w9 ⟨rfl, m9⟩
    clear mk
    have nS : ¬ u.ownBlock = some w.heap.size := fun e => oS _ e rfl
    replace qf0 := m9.loose (a := ⟨w.heap.size, 0, none⟩) nS (zbl q0) qf0
    replace qf1 := m9.loose (a := ⟨w.heap.size, 1, none⟩) nS (zbl q1) qf1
    replace qf2 := m9.loose (a := ⟨w.heap.size, 2, none⟩) nS (zbl q2) qf2
    replace qf3 := m9.loose (a := ⟨w.heap.size, 3, none⟩) nS (zbl q3) qf3
    replace q0 := m9.cell (a := ⟨w.heap.size, 0, none⟩) nS q0
    replace q1 := m9.cell (a := ⟨w.heap.size, 1, none⟩) nS q1
    replace q2 := m9.cell (a := ⟨w.heap.size, 2, none⟩) nS q2
    replace q3 := m9.cell (a := ⟨w.heap.size, 3, none⟩) nS q3
    have KM := hide ((unhide K).mod m9 (fun i e => by have := (nd.own.lt i e).1; omega))
    clear m9 nS nd dd ee
    have KF := hide (((((unhide KM).setNew (p := ⟨w.heap.size, 0, none⟩) w0w (.int .i64 A.1)).setNew (p := ⟨w.heap.size, 1, none⟩) w0w (.bool s)).setNew (p := ⟨w.heap.size, 2, none⟩) w0w (.int .i64 A.2.1)).setNew (p := ⟨w.heap.size, 3, none⟩) w0w (.int .i64 A.2.2))
    clear KM
    go_wp2_with fail
    exact bodyPost_ret (v := .tuple #[.agg #[.int .i64 A.1, .bool s, .int .i64 A.2.1, .int .i64 A.2.2], .int .i64 G]) (by simp [results, Tryz.results76, go_sem, q0, q1, q2, q3]) rfl ⟨by rw [unhide FQ], unhide KF⟩

end Go.Proofs.YtepehpkmejjhiaaGreatDoor

