/-
  Quotients of floats: the model's FlDiv.
-/
import Derived.Test.YtflpkblmcnkghaaDoorBY
import Derived.Test.YtflpkblmcnkghaaDoorFdv1
import Derived.Test.YtflpkblmcnkghaaDoorDyD2
import Derived.Test.YtflpkblmcnkghaaDoorFlRd
import Derived.Test.YtflpkblmcnkghaaDoorBN
import Derived.Test.YtflpkblmcnkghaaDoorCutN
import Derived.Deep.RegionHeld3
import Derived.Deep.DeepCutAuto
namespace Go.Proofs.YtflpkblmcnkghaaDoor
open Go.RowKit
set_option linter.unusedVariables false
set_option maxRecDepth 8000
set_option linter.unusedSimpArgs false

theorem in_l5dy_d : ∀ (w : World) (args : Array Value), (callFunc 14 args).run Tryd.prog w = .ok (.enter 14 args) w := enters Tryd.func14 (by decide) (fun h => by cases h)

theorem in_l4top_d : ∀ (w : World) (args : Array Value), (callFunc 15 args).run Tryd.prog w = .ok (.enter 15 args) w := enters Tryd.func15 (by decide) (fun h => by cases h)

def okM (k1 : Int) (n1 : Bool) (m1 e1 k2 : Int) (n2 : Bool) (m2 e2 mode : Int) : Bool := flok k1 n1 m1 e1 && flok k2 n2 m2 e2 && modeB mode
def fdvQ (k1 : Int) (n1 : Bool) (m1 e1 k2 : Int) (n2 : Bool) (m2 e2 mode : Int) : (Int × Bool × Int × Int) × Int := if okM k1 n1 m1 e1 k2 n2 m2 e2 mode = true then dvQ k1 n1 m1 e1 k2 n2 m2 e2 mode else ((3, false, 0, 0), 16)

set_option maxHeartbeats 1000000 in
theorem l5ok_spec (k1 : Int) (n1 : Bool) (m1 e1 k2 : Int) (n2 : Bool) (m2 e2 mode : Int) (w : World) :
    Calls Tryd.prog 11 #[flv k1 n1 m1 e1, flv k2 n2 m2 e2, .int .i64 mode] w fun e' w' => e' = .returned (.bool (okM k1 n1 m1 e1 k2 n2 m2 e2 mode)) ∧ Kept 0 0 w w' := by
  obtain ⟨C, hC⟩ : ∃ y, okM k1 n1 m1 e1 k2 n2 m2 e2 mode = y := ⟨_, rfl⟩
  rw [hC]
  have HC := hide hC
  clear hC
  obtain ⟨Wn, hn0⟩ : ∃ wz, wz = ((w.alloc (.cells #[.int .i64 k1, .bool n1, .int .i64 m1, .int .i64 e1] 24)).alloc (.cells #[.int .i64 k2, .bool n2, .int .i64 m2, .int .i64 e2] 24)) := ⟨_, rfl⟩
  have k0 : Kept 0 0 w Wn := by rw [hn0]; exact (((Kept.refl 0 0 w).alloc _).alloc _)
  have p0 : Wn.cell? ⟨w.heap.size, 0, none⟩ = some (.int .i64 k1) := by rw [hn0]; exact old_cell _ (new_cell2 _ _ _ _ _ _ (by simp) rfl)
  have p1 : Wn.cell? ⟨w.heap.size, 1, none⟩ = some (.bool n1) := by rw [hn0]; exact old_cell _ (new_cell2 _ _ _ _ _ _ (by simp) rfl)
  have p2 : Wn.cell? ⟨w.heap.size, 2, none⟩ = some (.int .i64 m1) := by rw [hn0]; exact old_cell _ (new_cell2 _ _ _ _ _ _ (by simp) rfl)
  have p3 : Wn.cell? ⟨w.heap.size, 3, none⟩ = some (.int .i64 e1) := by rw [hn0]; exact old_cell _ (new_cell2 _ _ _ _ _ _ (by simp) rfl)
  have t0 : Wn.cell? ⟨w.heap.size + 1, 0, none⟩ = some (.int .i64 k2) := by rw [hn0]; exact new_cell2 _ _ _ _ _ _ (by simp) rfl
  have t1 : Wn.cell? ⟨w.heap.size + 1, 1, none⟩ = some (.bool n2) := by rw [hn0]; exact new_cell2 _ _ _ _ _ _ (by simp) rfl
  have t2 : Wn.cell? ⟨w.heap.size + 1, 2, none⟩ = some (.int .i64 m2) := by rw [hn0]; exact new_cell2 _ _ _ _ _ _ (by simp) rfl
  have t3 : Wn.cell? ⟨w.heap.size + 1, 3, none⟩ = some (.int .i64 e2) := by rw [hn0]; exact new_cell2 _ _ _ _ _ _ (by simp) rfl
  have s0 : Wn.heap.size = w.heap.size + 2 := by rw [hn0]; exact by simp
  subst hn0
  have K := hide (k0)
  clear k0
  have S0 := hide s0
  clear s0
  go_enter Tryd.func11, Tryd.ntmps11
  go_wp2_with fail
  generalize ((w.alloc (.cells #[.int .i64 k1, .bool n1, .int .i64 m1, .int .i64 e1] 24)).alloc (.cells #[.int .i64 k2, .bool n2, .int .i64 m2, .int .i64 e2] 24)) = W at *
  cases h1 : flok k1 n1 m1 e1
  ·have FC : Hid (C = false) := by show _ = _; rw [← unhide HC]; unfold okM; rw [h1]; rfl
   refine (flok_spec_k h1 _).mono ?_
   rintro e w1 ⟨rfl, k1⟩
   replace p0 := k1.cell0 p0
   replace p1 := k1.cell0 p1
   replace p2 := k1.cell0 p2
   replace p3 := k1.cell0 p3
   replace t0 := k1.cell0 t0
   replace t1 := k1.cell0 t1
   replace t2 := k1.cell0 t2
   replace t3 := k1.cell0 t3
   replace K := hide ((unhide K).trans k1)
   have z2 := k1.size
   clear k1
   go_wp2_with fail
   go_ret
   exact ⟨by rw [unhide FC]; rfl, unhide K⟩
  refine (flok_spec_k h1 _).mono ?_
  rintro e w1 ⟨rfl, k1⟩
  replace p0 := k1.cell0 p0
  replace p1 := k1.cell0 p1
  replace p2 := k1.cell0 p2
  replace p3 := k1.cell0 p3
  replace t0 := k1.cell0 t0
  replace t1 := k1.cell0 t1
  replace t2 := k1.cell0 t2
  replace t3 := k1.cell0 t3
  replace K := hide ((unhide K).trans k1)
  have z2 := k1.size
  clear k1
  go_wp2_with fail
  cases h2 : flok k2 n2 m2 e2
  ·have FC : Hid (C = false) := by show _ = _; rw [← unhide HC]; unfold okM; rw [h2]; simp
   refine (flok_spec_k h2 _).mono ?_
   rintro e w3 ⟨rfl, k3⟩
   replace p0 := k3.cell0 p0
   replace p1 := k3.cell0 p1
   replace p2 := k3.cell0 p2
   replace p3 := k3.cell0 p3
   replace t0 := k3.cell0 t0
   replace t1 := k3.cell0 t1
   replace t2 := k3.cell0 t2
   replace t3 := k3.cell0 t3
   replace K := hide ((unhide K).trans k3)
   have z4 := k3.size
   clear k3
   go_wp2_with fail
   go_ret
   exact ⟨by rw [unhide FC]; rfl, unhide K⟩
  refine (flok_spec_k h2 _).mono ?_
  rintro e w3 ⟨rfl, k3⟩
  replace p0 := k3.cell0 p0
  replace p1 := k3.cell0 p1
  replace p2 := k3.cell0 p2
  replace p3 := k3.cell0 p3
  replace t0 := k3.cell0 t0
  replace t1 := k3.cell0 t1
  replace t2 := k3.cell0 t2
  replace t3 := k3.cell0 t3
  replace K := hide ((unhide K).trans k3)
  have z4 := k3.size
  clear k3
  have FC : Hid (C = modeB mode) := by show _ = _; rw [← unhide HC]; unfold okM; rw [h1, h2]; rfl
  clear h1 h2
  go_wp2_with fail
  refine (mode_spec mode _).mono ?_
  rintro e w5 ⟨rfl, rfl⟩
  go_wp2_with fail
  go_ret
  exact ⟨by rw [unhide FC]; rfl, unhide K⟩

theorem okM_iff {k1 : Int} {n1 : Bool} {m1 e1 k2 : Int} {n2 : Bool} {m2 e2 mode : Int} (h : okM k1 n1 m1 e1 k2 n2 m2 e2 mode = true) : flok k1 n1 m1 e1 = true ∧ flok k2 n2 m2 e2 = true ∧ 0 ≤ mode ∧ mode ≤ 4 := by
  unfold okM modeB at h
  simp only [Bool.and_eq_true, decide_eq_true_eq] at h
  exact ⟨h.1.1, h.1.2, h.2.1, h.2.2⟩

/-- a dyadic number's block. -/
structure DB (w : World) (b : Nat) (s : Bool) (v : Value) (x : Int) : Prop where
  c0 : w.cell? ⟨b, 0, none⟩ = some (.bool s)
  c1 : w.cell? ⟨b, 1, none⟩ = some v
  c2 : w.cell? ⟨b, 2, none⟩ = some (.int .i64 x)
theorem DB.set3 {w : World} {X : Nat} {p q r : Value} (s : Bool) (v : Value) (x : Int) (h0 : w.cell? ⟨X, 0, none⟩ = some p) (h1 : w.cell? ⟨X, 1, none⟩ = some q) (h2 : w.cell? ⟨X, 2, none⟩ = some r) :
    DB (((w.setCell ⟨X, 0, none⟩ (.bool s)).setCell ⟨X, 1, none⟩ v).setCell ⟨X, 2, none⟩ (.int .i64 x)) X s v x :=
  ⟨cell_off _ _ _ _ _ _ (cell_off _ _ _ _ _ _ (cell_on _ _ _ _ _ h0) (by decide)) (by decide),
   cell_off _ _ _ _ _ _ (cell_on _ _ _ _ _ (cell_off _ _ _ _ _ _ h1 (by decide))) (by decide),
   cell_on _ _ _ _ _ (cell_off _ _ _ _ _ _ (cell_off _ _ _ _ _ _ h2 (by decide)) (by decide))⟩
theorem DB.aside {w : World} {X Y : Nat} {s : Bool} {v : Value} {x : Int} (h : DB w X s v x) (hne : Y ≠ X) (o : Nat) (u : Value) : DB (w.setCell ⟨Y, o, none⟩ u) X s v x :=
  ⟨cell_aside _ hne h.c0, cell_aside _ hne h.c1, cell_aside _ hne h.c2⟩
theorem cell_as {w : World} {X Y o q : Nat} {u : Value} (v : Value) (hne : Y ≠ X) (h : w.cell? ⟨X, o, none⟩ = some u) : (w.setCell ⟨Y, q, none⟩ v).cell? ⟨X, o, none⟩ = some u := cell_aside _ hne h
theorem two_dy {w : World} {X Y : Nat} {p q r p' q' r' : Value} (s1 : Bool) (v1 : Value) (x1 : Int) (s2 : Bool) (v2 : Value) (x2 : Int) (hne : X ≠ Y) (h0 : w.cell? ⟨X, 0, none⟩ = some p) (h1 : w.cell? ⟨X, 1, none⟩ = some q) (h2 : w.cell? ⟨X, 2, none⟩ = some r) (g0 : w.cell? ⟨Y, 0, none⟩ = some p') (g1 : w.cell? ⟨Y, 1, none⟩ = some q') (g2 : w.cell? ⟨Y, 2, none⟩ = some r') :
    DB ((((((w.setCell ⟨X, 0, none⟩ (.bool s1)).setCell ⟨X, 1, none⟩ v1).setCell ⟨X, 2, none⟩ (.int .i64 x1)).setCell ⟨Y, 0, none⟩ (.bool s2)).setCell ⟨Y, 1, none⟩ v2).setCell ⟨Y, 2, none⟩ (.int .i64 x2)) X s1 v1 x1 ∧
    DB ((((((w.setCell ⟨X, 0, none⟩ (.bool s1)).setCell ⟨X, 1, none⟩ v1).setCell ⟨X, 2, none⟩ (.int .i64 x1)).setCell ⟨Y, 0, none⟩ (.bool s2)).setCell ⟨Y, 1, none⟩ v2).setCell ⟨Y, 2, none⟩ (.int .i64 x2)) Y s2 v2 x2 :=
  ⟨(((DB.set3 s1 v1 x1 h0 h1 h2).aside hne.symm 0 _).aside hne.symm 1 _).aside hne.symm 2 _,
   DB.set3 s2 v2 x2 (cell_as _ hne (cell_as _ hne (cell_as _ hne g0))) (cell_as _ hne (cell_as _ hne (cell_as _ hne g1))) (cell_as _ hne (cell_as _ hne (cell_as _ hne g2)))⟩
theorem cell_three {w : World} {X Y o : Nat} {u a b c : Value} (h : w.cell? ⟨X, o, none⟩ = some u) (hne : Y ≠ X) : (((w.setCell ⟨Y, 0, none⟩ a).setCell ⟨Y, 1, none⟩ b).setCell ⟨Y, 2, none⟩ c).cell? ⟨X, o, none⟩ = some u := cell_as _ hne (cell_as _ hne (cell_as _ hne h))
theorem row_three {k : IntKind} {bw : Bool} {lo hi : Nat} {w : World} {v : Value} {zs : List Int} (r : Row k bw lo hi w v zs) {X : Nat} (hp : X < lo ∨ hi ≤ X) (a b c : Value) : Row k bw lo hi (((w.setCell ⟨X, 0, none⟩ a).setCell ⟨X, 1, none⟩ b).setCell ⟨X, 2, none⟩ c) v zs :=
  ((r.set_other (p := ⟨X, 0, none⟩) hp a).set_other (p := ⟨X, 1, none⟩) hp b).set_other (p := ⟨X, 2, none⟩) hp c
theorem kept_three {a w : World} (h : Kept 0 0 a w) {X : Nat} (hX : a.heap.size ≤ X) (u v x : Value) : Kept 0 0 a (((w.setCell ⟨X, 0, none⟩ u).setCell ⟨X, 1, none⟩ v).setCell ⟨X, 2, none⟩ x) :=
  ((h.setNew (p := ⟨X, 0, none⟩) hX u).setNew (p := ⟨X, 1, none⟩) hX v).setNew (p := ⟨X, 2, none⟩) hX x
theorem six_all {a w : World} {X Y l1 h1 l2 h2 : Nat} {p q r p' q' r' v1 v2 : Value} {z1 z2 : List Int} {s1 s2 : Bool} {x1 x2 : Int} (kw : Kept 0 0 a w) (hX : a.heap.size ≤ X) (hY : a.heap.size ≤ Y) (hne : X ≠ Y) (h0 : w.cell? ⟨X, 0, none⟩ = some p) (h1' : w.cell? ⟨X, 1, none⟩ = some q) (h2' : w.cell? ⟨X, 2, none⟩ = some r) (g0 : w.cell? ⟨Y, 0, none⟩ = some p') (g1 : w.cell? ⟨Y, 1, none⟩ = some q') (g2 : w.cell? ⟨Y, 2, none⟩ = some r')
    (r1 : Row .i64 true l1 h1 w v1 z1) (r2 : Row .i64 true l2 h2 w v2 z2) (c1 : (X < l1 ∨ h1 ≤ X) ∧ (Y < l1 ∨ h1 ≤ Y) ∧ (X < l2 ∨ h2 ≤ X) ∧ (Y < l2 ∨ h2 ≤ Y)) :
    DB ((((((w.setCell ⟨X, 0, none⟩ (.bool s1)).setCell ⟨X, 1, none⟩ v1).setCell ⟨X, 2, none⟩ (.int .i64 x1)).setCell ⟨Y, 0, none⟩ (.bool s2)).setCell ⟨Y, 1, none⟩ v2).setCell ⟨Y, 2, none⟩ (.int .i64 x2)) X s1 v1 x1 ∧ DB ((((((w.setCell ⟨X, 0, none⟩ (.bool s1)).setCell ⟨X, 1, none⟩ v1).setCell ⟨X, 2, none⟩ (.int .i64 x1)).setCell ⟨Y, 0, none⟩ (.bool s2)).setCell ⟨Y, 1, none⟩ v2).setCell ⟨Y, 2, none⟩ (.int .i64 x2)) Y s2 v2 x2 ∧ Row .i64 true l1 h1 ((((((w.setCell ⟨X, 0, none⟩ (.bool s1)).setCell ⟨X, 1, none⟩ v1).setCell ⟨X, 2, none⟩ (.int .i64 x1)).setCell ⟨Y, 0, none⟩ (.bool s2)).setCell ⟨Y, 1, none⟩ v2).setCell ⟨Y, 2, none⟩ (.int .i64 x2)) v1 z1 ∧ Row .i64 true l2 h2 ((((((w.setCell ⟨X, 0, none⟩ (.bool s1)).setCell ⟨X, 1, none⟩ v1).setCell ⟨X, 2, none⟩ (.int .i64 x1)).setCell ⟨Y, 0, none⟩ (.bool s2)).setCell ⟨Y, 1, none⟩ v2).setCell ⟨Y, 2, none⟩ (.int .i64 x2)) v2 z2 ∧ Kept 0 0 a ((((((w.setCell ⟨X, 0, none⟩ (.bool s1)).setCell ⟨X, 1, none⟩ v1).setCell ⟨X, 2, none⟩ (.int .i64 x1)).setCell ⟨Y, 0, none⟩ (.bool s2)).setCell ⟨Y, 1, none⟩ v2).setCell ⟨Y, 2, none⟩ (.int .i64 x2)) :=
  have t := two_dy s1 v1 x1 s2 v2 x2 hne h0 h1' h2' g0 g1 g2
  ⟨t.1, t.2, row_three (row_three r1 c1.1 _ _ _) c1.2.1 _ _ _, row_three (row_three r2 c1.2.2.1 _ _ _) c1.2.2.2 _ _ _, kept_three (kept_three kw hX _ _ _) hY _ _ _⟩
theorem nan_kept (w : World) : Calls Tryd.prog 13 #[] w fun r w' => r = .returned (flv 3 false 0 0) ∧ Kept 0 0 w w' :=
  (l5nan_any w).mono (fun e w' h => ⟨h.1, by rw [h.2]; exact (Kept.refl 0 0 w).alloc _⟩)
theorem wsg_fM (n : Bool) {m : Int} (h : 1 ≤ m) : wsg (fM 1 n m) = n := by
  unfold wsg fM
  cases n <;> simp <;> omega
theorem wsg_sgn (s : Bool) {Q : Nat} (h : Q ≠ 0) : wsg (wval s (limbs Q)) = s := by
  unfold wsg wval
  rw [limbs_val]
  cases s <;> simp <;> omega
theorem dok_fl (F e : Int) (h1 : F.natAbs < 2 ^ 64) (h2 : -2900 ≤ e) (h3 : e ≤ 2900) : dokB (wsg F) (dlm F) (dex F e) = true := by
  have := ok_ans F e h1 h2 h3
  unfold ansDB at this
  simpa using this
theorem dv_len {z1 : List Int} (h : Lim z1) (Y : Nat) (K : Int) (hK : K ≤ 9600) (h4 : z1.length ≤ 4) : (limbs (quoQ (val z1).toNat Y K)).length ≤ 1000 := by
  have h3 : quoN (val z1).toNat Y K ≤ (val z1).toNat * 2 ^ K.toNat := by unfold quoN quoX; exact Nat.div_le_self _ _
  have h5 : quoQ (val z1).toNat Y K ≤ (val z1).toNat * 2 ^ (K.toNat + 2) := by
   have h0 : quoQ (val z1).toNat Y K ≤ 2 * quoN (val z1).toNat Y K + (if quoL (val z1).toNat Y K = true then 1 else 0) := Nat.le_refl _
   rw [Nat.pow_add, ← Nat.mul_assoc]
   rcases Nat.eq_zero_or_pos ((val z1).toNat * 2 ^ K.toNat) with e | e
   ·have : (val z1).toNat = 0 := by
     rcases Nat.mul_eq_zero.1 e with e | e
     ·exact e
     ·have := Nat.two_pow_pos K.toNat; omega
    have e2 : quoL (val z1).toNat Y K = false := by unfold quoL quoX; rw [this]; simp
    rw [e2] at h0
    rw [e] at h3 ⊢
    simp at h0
    omega
   ·have : (if quoL (val z1).toNat Y K = true then 1 else 0) ≤ 1 := by split <;> omega
    omega
  have h6 := limbs_len_le h5
  have h9 := shl_len_le h (K.toNat + 2) 601 (by omega)
  omega

theorem fd_top_range {m e : Int} (h1 : -1074 ≤ e) (h2 : e ≤ 971) (h3 : 1 ≤ m) (h4 : m ≤ 9007199254740991) : -1074 ≤ topI (limbs m.toNat) e ∧ topI (limbs m.toNat) e ≤ 1024 ∧ e ≤ topI (limbs m.toNat) e ∧ topI (limbs m.toNat) e ≤ e + 53 := by
  have hV : m.toNat ≠ 0 := by omega
  rw [topI_limbs hV]
  have h5 : bitsN m.toNat ≤ 53 := (bitsN_le _ _).2 (by omega)
  omega

set_option maxHeartbeats 8000000 in
theorem fldiv_spec (k1 : Int) (n1 : Bool) (m1 e1 k2 : Int) (n2 : Bool) (m2 e2 mode : Int) (w : World) :
    Calls Tryd.prog 5 #[flv k1 n1 m1 e1, flv k2 n2 m2 e2, .int .i64 mode] w fun e' w' => e' = .returned (.tuple #[flq (fdvQ k1 n1 m1 e1 k2 n2 m2 e2 mode).1, .int .i64 (fdvQ k1 n1 m1 e1 k2 n2 m2 e2 mode).2]) ∧ Kept 0 0 w w' := by
  obtain ⟨Q, hQ⟩ : ∃ q, fdvQ k1 n1 m1 e1 k2 n2 m2 e2 mode = q := ⟨_, rfl⟩
  rw [hQ]
  have HQ := hide hQ
  clear hQ
  obtain ⟨Wn, hn0⟩ : ∃ wz, wz = (((w.alloc (.cells #[.int .i64 k1, .bool n1, .int .i64 m1, .int .i64 e1] 24)).alloc (.cells #[.int .i64 k2, .bool n2, .int .i64 m2, .int .i64 e2] 24)).alloc (.cells #[.int .i64 0, .bool false, .int .i64 0, .int .i64 0] 24)) := ⟨_, rfl⟩
  have k0 : Kept 0 0 w Wn := by rw [hn0]; exact ((((Kept.refl 0 0 w).alloc _).alloc _).alloc _)
  have p0 : Wn.cell? ⟨w.heap.size, 0, none⟩ = some (.int .i64 k1) := by rw [hn0]; exact old_cell _ (old_cell _ (new_cell2 _ _ _ _ _ _ (by simp) rfl))
  have p1 : Wn.cell? ⟨w.heap.size, 1, none⟩ = some (.bool n1) := by rw [hn0]; exact old_cell _ (old_cell _ (new_cell2 _ _ _ _ _ _ (by simp) rfl))
  have p2 : Wn.cell? ⟨w.heap.size, 2, none⟩ = some (.int .i64 m1) := by rw [hn0]; exact old_cell _ (old_cell _ (new_cell2 _ _ _ _ _ _ (by simp) rfl))
  have p3 : Wn.cell? ⟨w.heap.size, 3, none⟩ = some (.int .i64 e1) := by rw [hn0]; exact old_cell _ (old_cell _ (new_cell2 _ _ _ _ _ _ (by simp) rfl))
  have t0 : Wn.cell? ⟨w.heap.size + 1, 0, none⟩ = some (.int .i64 k2) := by rw [hn0]; exact old_cell _ (new_cell2 _ _ _ _ _ _ (by simp) rfl)
  have t1 : Wn.cell? ⟨w.heap.size + 1, 1, none⟩ = some (.bool n2) := by rw [hn0]; exact old_cell _ (new_cell2 _ _ _ _ _ _ (by simp) rfl)
  have t2 : Wn.cell? ⟨w.heap.size + 1, 2, none⟩ = some (.int .i64 m2) := by rw [hn0]; exact old_cell _ (new_cell2 _ _ _ _ _ _ (by simp) rfl)
  have t3 : Wn.cell? ⟨w.heap.size + 1, 3, none⟩ = some (.int .i64 e2) := by rw [hn0]; exact old_cell _ (new_cell2 _ _ _ _ _ _ (by simp) rfl)
  have q0 : Wn.cell? ⟨w.heap.size + 2, 0, none⟩ = some (.int .i64 0) := by rw [hn0]; exact new_cell2 _ _ _ _ _ _ (by simp) rfl
  have qf0 : Wn.frozen? ⟨w.heap.size + 2, 0, none⟩ = false := by rw [hn0]; exact new_loose2 _ _ _ _ _ (by simp)
  have q1 : Wn.cell? ⟨w.heap.size + 2, 1, none⟩ = some (.bool false) := by rw [hn0]; exact new_cell2 _ _ _ _ _ _ (by simp) rfl
  have qf1 : Wn.frozen? ⟨w.heap.size + 2, 1, none⟩ = false := by rw [hn0]; exact new_loose2 _ _ _ _ _ (by simp)
  have q2 : Wn.cell? ⟨w.heap.size + 2, 2, none⟩ = some (.int .i64 0) := by rw [hn0]; exact new_cell2 _ _ _ _ _ _ (by simp) rfl
  have qf2 : Wn.frozen? ⟨w.heap.size + 2, 2, none⟩ = false := by rw [hn0]; exact new_loose2 _ _ _ _ _ (by simp)
  have q3 : Wn.cell? ⟨w.heap.size + 2, 3, none⟩ = some (.int .i64 0) := by rw [hn0]; exact new_cell2 _ _ _ _ _ _ (by simp) rfl
  have qf3 : Wn.frozen? ⟨w.heap.size + 2, 3, none⟩ = false := by rw [hn0]; exact new_loose2 _ _ _ _ _ (by simp)
  have s0 : Wn.heap.size = w.heap.size + 3 := by rw [hn0]; exact by simp
  subst hn0
  have K := hide (k0)
  clear k0
  have S0 := hide s0
  clear s0
  go_enter Tryd.func5, Tryd.ntmps5
  go_wp2_with fail
  generalize (((w.alloc (.cells #[.int .i64 k1, .bool n1, .int .i64 m1, .int .i64 e1] 24)).alloc (.cells #[.int .i64 k2, .bool n2, .int .i64 m2, .int .i64 e2] 24)).alloc (.cells #[.int .i64 0, .bool false, .int .i64 0, .int .i64 0] 24)) = W at *
  cases hc : okM k1 n1 m1 e1 k2 n2 m2 e2 mode
  ·have FQ : Hid (Q = ((3, false, 0, 0), 16)) := by show _ = _; rw [← unhide HQ]; unfold fdvQ; rw [hc]; rfl
   have mk := l5ok_spec k1 n1 m1 e1 k2 n2 m2 e2 mode W
   rw [hc] at mk
   clear hc
   refine (mk).mono ?_
   rintro e w1 ⟨rfl, k1⟩
   replace qf0 := k1.loose0 (zbl q0) qf0
   replace qf1 := k1.loose0 (zbl q1) qf1
   replace qf2 := k1.loose0 (zbl q2) qf2
   replace qf3 := k1.loose0 (zbl q3) qf3
   replace p0 := k1.cell0 p0
   replace p1 := k1.cell0 p1
   replace p2 := k1.cell0 p2
   replace p3 := k1.cell0 p3
   replace t0 := k1.cell0 t0
   replace t1 := k1.cell0 t1
   replace t2 := k1.cell0 t2
   replace t3 := k1.cell0 t3
   replace q0 := k1.cell0 q0
   replace q1 := k1.cell0 q1
   replace q2 := k1.cell0 q2
   replace q3 := k1.cell0 q3
   replace K := hide ((unhide K).trans k1)
   have z2 := k1.size
   clear k1
   clear mk
   go_wp2_with fail
   refine (bad_spec _).mono ?_
   rintro e w3 ⟨rfl, k3⟩
   replace qf0 := k3.loose0 (zbl q0) qf0
   replace qf1 := k3.loose0 (zbl q1) qf1
   replace qf2 := k3.loose0 (zbl q2) qf2
   replace qf3 := k3.loose0 (zbl q3) qf3
   replace p0 := k3.cell0 p0
   replace p1 := k3.cell0 p1
   replace p2 := k3.cell0 p2
   replace p3 := k3.cell0 p3
   replace t0 := k3.cell0 t0
   replace t1 := k3.cell0 t1
   replace t2 := k3.cell0 t2
   replace t3 := k3.cell0 t3
   replace q0 := k3.cell0 q0
   replace q1 := k3.cell0 q1
   replace q2 := k3.cell0 q2
   replace q3 := k3.cell0 q3
   replace K := hide ((unhide K).trans k3)
   have z4 := k3.size
   clear k3
   have KF := hide (((((unhide K).setNew (p := ⟨w.heap.size + 2, 0, none⟩) (by simp) (.int .i64 3)).setNew (p := ⟨w.heap.size + 2, 1, none⟩) (by simp) (.bool false)).setNew (p := ⟨w.heap.size + 2, 2, none⟩) (by simp) (.int .i64 0)).setNew (p := ⟨w.heap.size + 2, 3, none⟩) (by simp) (.int .i64 0))
   clear K
   try go_wp2_with fail
   exact bodyPost_ret (v := .tuple #[.agg #[.int .i64 3, .bool false, .int .i64 0, .int .i64 0], .int .i64 16]) (by simp [results, Tryd.results5, go_sem, q0, q1, q2, q3]) rfl ⟨by rw [unhide FQ], unhide KF⟩
  obtain ⟨h1, h2, h3, h4⟩ := okM_iff hc
  have hM : dvQ k1 n1 m1 e1 k2 n2 m2 e2 mode = Q := by rw [← unhide HQ]; unfold fdvQ; rw [hc, if_pos rfl]
  have mk := l5ok_spec k1 n1 m1 e1 k2 n2 m2 e2 mode W
  rw [hc] at mk
  have HM := hide hM
  clear hc hM
  refine (mk).mono ?_
  rintro e w1 ⟨rfl, k1⟩
  replace qf0 := k1.loose0 (zbl q0) qf0
  replace qf1 := k1.loose0 (zbl q1) qf1
  replace qf2 := k1.loose0 (zbl q2) qf2
  replace qf3 := k1.loose0 (zbl q3) qf3
  replace p0 := k1.cell0 p0
  replace p1 := k1.cell0 p1
  replace p2 := k1.cell0 p2
  replace p3 := k1.cell0 p3
  replace t0 := k1.cell0 t0
  replace t1 := k1.cell0 t1
  replace t2 := k1.cell0 t2
  replace t3 := k1.cell0 t3
  replace q0 := k1.cell0 q0
  replace q1 := k1.cell0 q1
  replace q2 := k1.cell0 q2
  replace q3 := k1.cell0 q3
  replace K := hide ((unhide K).trans k1)
  have z2 := k1.size
  clear k1
  clear mk
  rcases flok_ways h1 with ⟨rfl, a11, a21, a31, a41, -⟩ | ⟨rfl, rfl, rfl⟩ | ⟨rfl, rfl, rfl⟩ | ⟨rfl, rfl, rfl, rfl⟩
  ·rcases flok_ways h2 with ⟨rfl, a12, a22, a32, a42, -⟩ | ⟨rfl, rfl, rfl⟩ | ⟨rfl, rfl, rfl⟩ | ⟨rfl, rfl, rfl, rfl⟩
   ·clear h1 h2
    obtain ⟨SG, hSG⟩ : ∃ t, (n1 != n2) = t := ⟨_, rfl⟩
    have ab1 : (fM 1 n1 m1).natAbs < 2 ^ 64 := fM_abs _ _ (by omega) (by omega)
    have ok1 := dok_fl (fM 1 n1 m1) e1 ab1 (by omega) (by omega)
    have hd1 := dy5_num n1 m1 e1 a11 a21 a31 a41
    have hn1 : Nrm (dlm (fM 1 n1 m1)) := limbs_nrm _
    obtain ⟨of1, ox1, on1, ot1⟩ := odd_form n1 a31 e1
    have hN1 : (dlm (fM 1 n1 m1)).length ≠ 0 := by
     intro h
     rw [List.length_eq_zero_iff] at h
     rw [h] at on1
     exact on1 rfl
    have rT1 := fd_top_range a11 a21 a31 a41
    rw [← ot1] at rT1
    have hlz1 : (dlm (fM 1 n1 m1)).length ≤ 4 := by
     refine Nat.le_trans (dlm_len (M := fM 1 n1 m1) rfl) ((limbs_length_le _ _).2 ?_)
     rw [show (65536 : Int) ^ 4 = 18446744073709551616 by decide]
     have h9 : (fM 1 n1 m1).natAbs < 18446744073709551616 := ab1
     omega
    have htz1 : tz m1.toNat ≤ 53 := by
     have hb : m1.toNat < 2 ^ 53 := by omega
     have := tz_lt (n := m1.toNat) (by omega) hb
     omega
    have ab2 : (fM 1 n2 m2).natAbs < 2 ^ 64 := fM_abs _ _ (by omega) (by omega)
    have ok2 := dok_fl (fM 1 n2 m2) e2 ab2 (by omega) (by omega)
    have hd2 := dy5_num n2 m2 e2 a12 a22 a32 a42
    have hn2 : Nrm (dlm (fM 1 n2 m2)) := limbs_nrm _
    obtain ⟨of2, ox2, on2, ot2⟩ := odd_form n2 a32 e2
    have hN2 : (dlm (fM 1 n2 m2)).length ≠ 0 := by
     intro h
     rw [List.length_eq_zero_iff] at h
     rw [h] at on2
     exact on2 rfl
    have rT2 := fd_top_range a12 a22 a32 a42
    rw [← ot2] at rT2
    have hlz2 : (dlm (fM 1 n2 m2)).length ≤ 4 := by
     refine Nat.le_trans (dlm_len (M := fM 1 n2 m2) rfl) ((limbs_length_le _ _).2 ?_)
     rw [show (65536 : Int) ^ 4 = 18446744073709551616 by decide]
     have h9 : (fM 1 n2 m2).natAbs < 18446744073709551616 := ab2
     omega
    have htz2 : tz m2.toNat ≤ 53 := by
     have hb : m2.toNat < 2 ^ 53 := by omega
     have := tz_lt (n := m2.toNat) (by omega) hb
     omega
    have dv := fun low hlow Q hQ => dv_fin mode SG n1 n2 (e1 := e1) (e2 := e2) a31 a32 low hlow Q hQ
    rw [wsg_fM n1 a31] at ok1
    simp only [wsg_fM n1 a31] at hd1
    obtain ⟨z1, hz1⟩ : ∃ y, dlm (fM 1 n1 m1) = y := ⟨_, rfl⟩
    obtain ⟨x1, hx1⟩ : ∃ y, dex (fM 1 n1 m1) e1 = y := ⟨_, rfl⟩
    rw [hz1, hx1] at ok1 rT1 ot1
    simp only [hz1, hx1] at hd1 dv
    rw [hz1] at hn1 hN1 hlz1 of1 on1
    rw [hx1] at ox1
    have hb1 : -1074 ≤ x1 ∧ x1 ≤ 1024 := by omega
    obtain ⟨T1, hT1⟩ : ∃ y, topI z1 x1 = y := ⟨_, rfl⟩
    rw [hT1] at rT1
    simp only [hT1] at dv
    have HT1 := hide hT1
    replace hd1 := hide hd1
    clear hz1 hx1 hT1 ab1 of1 ox1 on1 ot1 htz1
    rw [wsg_fM n2 a32] at ok2
    simp only [wsg_fM n2 a32] at hd2
    obtain ⟨z2, hz2⟩ : ∃ y, dlm (fM 1 n2 m2) = y := ⟨_, rfl⟩
    obtain ⟨x2, hx2⟩ : ∃ y, dex (fM 1 n2 m2) e2 = y := ⟨_, rfl⟩
    rw [hz2, hx2] at ok2 rT2 ot2
    simp only [hz2, hx2] at hd2 dv
    rw [hz2] at hn2 hN2 hlz2 of2 on2
    rw [hx2] at ox2
    have hb2 : -1074 ≤ x2 ∧ x2 ≤ 1024 := by omega
    obtain ⟨T2, hT2⟩ : ∃ y, topI z2 x2 = y := ⟨_, rfl⟩
    rw [hT2] at rT2
    simp only [hT2] at dv
    have HT2 := hide hT2
    replace hd2 := hide hd2
    clear hz2 hx2 hT2 ab2 of2 ox2 on2 ot2 htz2
    have hw1 : IntKind.i64.wrap (T1 - T2) = T1 - T2 := w64 _ (by omega) (by omega)
    have hw2 : IntKind.i64.wrap (T1 - T2 - 53) = T1 - T2 - 53 := w64 _ (by omega) (by omega)
    obtain ⟨LW, hLW⟩ : ∃ y, T1 - T2 - 53 - 3 = y := ⟨_, rfl⟩
    have hw3 : IntKind.i64.wrap (T1 - T2 - 53 - 3) = LW := by rw [w64 _ (by omega) (by omega), hLW]
    obtain ⟨QV, hQV⟩ : ∃ y, quoQ (val z1).toNat (val z2).toNat (x1 - x2 - (LW - 1) + 1) = y := ⟨_, rfl⟩
    obtain ⟨j0, j1, j2⟩ := dv LW hLW.symm QV hQV.symm
    clear dv
    have lQV : (limbs QV).length ≤ 1000 := by rw [← hQV]; exact dv_len hn1.1 _ _ (by omega) hlz1
    obtain ⟨MQ, hMQ⟩ : ∃ y, wval SG (limbs QV) = y := ⟨_, rfl⟩
    have hsM : wsg MQ = SG := by rw [← hMQ]; exact wsg_sgn SG j0
    rw [hMQ] at j1 j2
    rw [← hsM] at j1 j2
    have hMa : MQ.natAbs = QV := by rw [← hMQ, wval_abs (limbs_lim QV), limbs_val, Int.toNat_natCast]
    obtain ⟨NN, hNN⟩ : ∃ n : Nat, n = 1000 := ⟨_, rfl⟩
    have hdM : -20000 ≤ dex MQ (LW - 3) ∧ dex MQ (LW - 3) ≤ 20000 := by
     rw [← hNN] at lQV
     have b4 : QV < 2 ^ (16 * NN) := (limbs_len_two _ _).1 lQV
     have ht := tz_lt j0 b4
     unfold dex
     split
     ·omega
     ·rw [hMa]; omega
    have hlM : (dlm MQ).length ≤ 5000 := by
     have h1 := dlm_len (M := MQ) rfl
     rw [hMa] at h1
     omega
    clear hNN
    have mq := fun (w : World) {v v' : Value} {lo hi lo' hi' : Nat} (r1 : Row .i64 true lo hi w v z1) (r2 : Row .i64 true lo' hi' w v' z2) => l4quot_spec n1 n2 x1 x2 LW (by omega) (by omega) w r1 r2 ok1 ok2 hN1 hN2
    simp only [hQV, hSG, hMQ, hsM] at mq
    have HMQ := hide mq
    clear mq hQV
    have mr := fun (w : World) {v : Value} {lo hi : Nat} (r : Row .i64 true lo hi w v (dlm MQ)) => l5round_spec (wsg MQ) (dex MQ (LW - 3)) (by omega) (by omega) w r (wn_dlm MQ) (odd_dlm MQ) (dex_nil MQ (LW - 3)) (by omega) mode h3 h4 SG
    obtain ⟨A, hA⟩ : ∃ y, flA mode (wsg MQ) (val (dlm MQ)).toNat (dex MQ (LW - 3)) = y := ⟨_, rfl⟩
    obtain ⟨GG, hGG⟩ : ∃ y, flG mode (wsg MQ) (val (dlm MQ)).toNat (dex MQ (LW - 3)) = y := ⟨_, rfl⟩
    have hif : (if (val (dlm MQ)).toNat = 0 then SG else wsg MQ) = SG := by rw [hsM]; split <;> rfl
    simp only [hA, hGG, hif] at mr
    simp only [hsM] at mr
    have HMR := hide mr
    have FQ : Hid (Q = ((A.1, SG, A.2.1, A.2.2), GG)) := by
     show _ = _
     rw [← unhide HM, ← hA, ← hGG, j1, j2, hsM, ← hSG]
     unfold dvQ
     simp [bne]
    obtain ⟨XQ, hXQ⟩ : ∃ y, dex MQ (LW - 3) = y := ⟨_, rfl⟩
    obtain ⟨ZQ, hZQ⟩ : ∃ y, dlm MQ = y := ⟨_, rfl⟩
    rw [hXQ, hZQ] at HMQ HMR
    have hSG' : (!(n1 == n2)) = SG := hSG
    clear mr hA hGG hif j0 j1 j2 hsM hMa hMQ hLW lQV hdM hlM hXQ hZQ HM HQ
    go_upto_region 14 with fail
    go_cut [9, 10] (fun p g wx => ∃ X Y p1 c1 p2 c2 l1 h1 l2 h2, p = .pointer (some ⟨X, 0, none⟩) ∧ g = .pointer (some ⟨Y, 0, none⟩) ∧ DB wx X n1 (.slice p1 z1.length c1) x1 ∧ DB wx Y n2 (.slice p2 z2.length c2) x2 ∧ Row .i64 true l1 h1 wx (.slice p1 z1.length c1) z1 ∧ Row .i64 true l2 h2 wx (.slice p2 z2.length c2) z2 ∧ Kept 0 0 w1 wx)
    case first =>
     have kw := Kept.refl 0 0 w1
     clear q0 q1 q2 q3 qf0 qf1 qf2 qf3
     have kd := (Kept.refl 0 0 w1).drew
     replace kw := kw.trans kd
     replace p0 := kd.cell0 p0
     replace p1 := kd.cell0 p1
     replace p2 := kd.cell0 p2
     replace p3 := kd.cell0 p3
     replace t0 := kd.cell0 t0
     replace t1 := kd.cell0 t1
     replace t2 := kd.cell0 t2
     replace t3 := kd.cell0 t3
     replace K := hide ((unhide K).trans kd)
     have z3 := kd.size
     clear kd
     refine wp_region_held_drew (S := (fun w' => w'.cell? ⟨w.heap.size, 0, none⟩ = some (.int .i64 1) ∧ w'.cell? ⟨w.heap.size, 1, none⟩ = some (.bool n1) ∧ w'.cell? ⟨w.heap.size, 2, none⟩ = some (.int .i64 m1) ∧ w'.cell? ⟨w.heap.size, 3, none⟩ = some (.int .i64 e1) ∧ w'.cell? ⟨w.heap.size + 1, 0, none⟩ = some (.int .i64 1) ∧ w'.cell? ⟨w.heap.size + 1, 1, none⟩ = some (.bool n2) ∧ w'.cell? ⟨w.heap.size + 1, 2, none⟩ = some (.int .i64 m2) ∧ w'.cell? ⟨w.heap.size + 1, 3, none⟩ = some (.int .i64 e2))) (by kernel_rfl) ?_ (fun hH => ?_)
     ·exact ⟨p0, p1, p2, p3, t0, t1, t2, t3⟩
     generalize w1.drew = wd4 at *
     refine wpAnyH_take (i := 0) (v := .agg #[.int .i64 1, .bool n1, .int .i64 m1, .int .i64 e1]) rfl (by kernel_rfl) (by kernel_rfl) (by kernel_rfl) (fun _ _ _ h => h) (Or.inl ⟨by rfl, ?_⟩) hH ?_
     ·intro wq hSw
      try dsimp only at hSw
      go_simp
     try simp only [Act.put, zq1, zq2, zq3, zq4, zq5, zq6]
     refine wpAnyH_take (i := 2) (v := .agg #[.int .i64 1, .bool n2, .int .i64 m2, .int .i64 e2]) rfl (by kernel_rfl) (by kernel_rfl) (by kernel_rfl) (fun _ _ _ h => h) (Or.inl ⟨by rfl, ?_⟩) hH ?_
     ·intro wq hSw
      try dsimp only at hSw
      go_simp
     try simp only [Act.put, zq1, zq2, zq3, zq4, zq5, zq6]
     refine wpAnyH_ready (rs := [1, 4, 5]) (by kernel_rfl) (by simp) ?_
     refine AllReadyH.cons rfl (fun KK hK => ?_) (AllReadyH.cons rfl (fun KK hK => ?_) (AllReadyH.cons rfl (fun KK hK => ?_) AllReadyH.nil))
     ·simp only [zq1, zq2, zq3]
      rw [if_pos (by rfl)]
      refine wps1 14 (.tmp 80) _ rfl in_l5dy_d (.agg #[.int .i64 1, .bool n1, .int .i64 m1, .int .i64 e1]) rfl (unhide hd1 _) ?_
      rintro e w5 ⟨v1, rfl, r1, k5⟩
      refine ⟨_, rfl, ?_⟩
      replace kw := kw.trans k5
      replace p0 := k5.cell0 p0
      replace p1 := k5.cell0 p1
      replace p2 := k5.cell0 p2
      replace p3 := k5.cell0 p3
      replace t0 := k5.cell0 t0
      replace t1 := k5.cell0 t1
      replace t2 := k5.cell0 t2
      replace t3 := k5.cell0 t3
      replace K := hide ((unhide K).trans k5)
      have z6 := k5.size
      clear k5
      obtain ⟨p1', c1', hv⟩ := Row.form' r1
      subst hv
      clear hH
      refine hK.out _ _ ?_ (fun hH => ?_)
      ·exact ⟨p0, p1, p2, p3, t0, t1, t2, t3⟩
      clear hK KK
      try simp only [Act.put, zq1, zq2, zq3, zq4, zq5, zq6]
      refine wpAnyH_ready (rs := [3, 4, 5]) (by kernel_rfl) (by simp) ?_
      refine AllReadyH.cons rfl (fun KK hK => ?_) (AllReadyH.cons rfl (fun KK hK => ?_) (AllReadyH.cons rfl (fun KK hK => ?_) AllReadyH.nil))
      ·simp only [zq1, zq2, zq3]
       rw [if_pos (by rfl)]
       refine wps1 14 (.tmp 82) _ rfl in_l5dy_d (.agg #[.int .i64 1, .bool n2, .int .i64 m2, .int .i64 e2]) rfl (unhide hd2 _) ?_
       rintro e w7 ⟨v2, rfl, r2, k7⟩
       refine ⟨_, rfl, ?_⟩
       replace r1 := r1.kp k7
       replace kw := kw.trans k7
       replace p0 := k7.cell0 p0
       replace p1 := k7.cell0 p1
       replace p2 := k7.cell0 p2
       replace p3 := k7.cell0 p3
       replace t0 := k7.cell0 t0
       replace t1 := k7.cell0 t1
       replace t2 := k7.cell0 t2
       replace t3 := k7.cell0 t3
       replace K := hide ((unhide K).trans k7)
       have z8 := k7.size
       clear k7
       obtain ⟨p2', c2', hv⟩ := Row.form' r2
       subst hv
       clear hH
       refine hK.out _ _ ?_ (fun hH => ?_)
       ·exact ⟨p0, p1, p2, p3, t0, t1, t2, t3⟩
       clear hK KK
       try simp only [Act.put, zq1, zq2, zq3, zq4, zq5, zq6]
       refine wpAnyH_ready (rs := [4, 5]) (by kernel_rfl) (by simp) ?_
       refine AllReadyH.cons rfl (fun KK hK => ?_) (AllReadyH.cons rfl (fun KK hK => ?_) AllReadyH.nil)
       ·simp only [zq1, zq2, zq3]
        rw [if_pos (by rfl)]
        go_simp
        have kn := (Kept.refl 0 0 w7).alloc (.cells #[.bool false, .slice none 0 0, .int .i64 0] 41)
        replace r1 := r1.kp kn
        replace r2 := r2.kp kn
        replace kw := kw.trans kn
        replace p0 := kn.cell0 p0
        replace p1 := kn.cell0 p1
        replace p2 := kn.cell0 p2
        replace p3 := kn.cell0 p3
        replace t0 := kn.cell0 t0
        replace t1 := kn.cell0 t1
        replace t2 := kn.cell0 t2
        replace t3 := kn.cell0 t3
        replace K := hide ((unhide K).trans kn)
        have z10 := kn.size
        clear kn
        have szb : w7.heap.size < (w7.alloc (.cells #[.bool false, .slice none 0 0, .int .i64 0] 41)).heap.size := by simp
        have b0 : (w7.alloc (.cells #[.bool false, .slice none 0 0, .int .i64 0] 41)).cell? ⟨w7.heap.size, 0, none⟩ = some (.bool false) := new_cell2 _ _ _ _ _ _ rfl rfl
        have bf0 : (w7.alloc (.cells #[.bool false, .slice none 0 0, .int .i64 0] 41)).frozen? ⟨w7.heap.size, 0, none⟩ = false := new_loose2 _ _ _ _ _ rfl
        have b1 : (w7.alloc (.cells #[.bool false, .slice none 0 0, .int .i64 0] 41)).cell? ⟨w7.heap.size, 1, none⟩ = some (.slice none 0 0) := new_cell2 _ _ _ _ _ _ rfl rfl
        have bf1 : (w7.alloc (.cells #[.bool false, .slice none 0 0, .int .i64 0] 41)).frozen? ⟨w7.heap.size, 1, none⟩ = false := new_loose2 _ _ _ _ _ rfl
        have b2 : (w7.alloc (.cells #[.bool false, .slice none 0 0, .int .i64 0] 41)).cell? ⟨w7.heap.size, 2, none⟩ = some (.int .i64 0) := new_cell2 _ _ _ _ _ _ rfl rfl
        have bf2 : (w7.alloc (.cells #[.bool false, .slice none 0 0, .int .i64 0] 41)).frozen? ⟨w7.heap.size, 2, none⟩ = false := new_loose2 _ _ _ _ _ rfl
        clear hH
        refine hK.out _ _ ?_ (fun hH => ?_)
        ·exact ⟨p0, p1, p2, p3, t0, t1, t2, t3⟩
        clear hK KK
        try simp only [Act.put, zq1, zq2, zq3, zq4, zq5, zq6]
        generalize w7.alloc (.cells #[.bool false, .slice none 0 0, .int .i64 0] 41) = w9 at *
        refine wpAnyH_ready (rs := [5]) (by kernel_rfl) (by simp) ?_
        refine AllReadyH.cons rfl (fun KK hK => ?_) AllReadyH.nil
        simp only [zq1, zq2, zq3]
        rw [if_pos (by rfl)]
        go_simp
        have kn := (Kept.refl 0 0 w9).alloc (.cells #[.bool false, .slice none 0 0, .int .i64 0] 41)
        replace r1 := r1.kp kn
        replace r2 := r2.kp kn
        replace kw := kw.trans kn
        replace bf0 := kn.loose0 (zbl b0) bf0
        replace bf1 := kn.loose0 (zbl b1) bf1
        replace bf2 := kn.loose0 (zbl b2) bf2
        replace p0 := kn.cell0 p0
        replace p1 := kn.cell0 p1
        replace p2 := kn.cell0 p2
        replace p3 := kn.cell0 p3
        replace t0 := kn.cell0 t0
        replace t1 := kn.cell0 t1
        replace t2 := kn.cell0 t2
        replace t3 := kn.cell0 t3
        replace b0 := kn.cell0 b0
        replace b1 := kn.cell0 b1
        replace b2 := kn.cell0 b2
        replace K := hide ((unhide K).trans kn)
        have z12 := kn.size
        clear kn
        have szy : w9.heap.size < (w9.alloc (.cells #[.bool false, .slice none 0 0, .int .i64 0] 41)).heap.size := by simp
        have y0 : (w9.alloc (.cells #[.bool false, .slice none 0 0, .int .i64 0] 41)).cell? ⟨w9.heap.size, 0, none⟩ = some (.bool false) := new_cell2 _ _ _ _ _ _ rfl rfl
        have yf0 : (w9.alloc (.cells #[.bool false, .slice none 0 0, .int .i64 0] 41)).frozen? ⟨w9.heap.size, 0, none⟩ = false := new_loose2 _ _ _ _ _ rfl
        have y1 : (w9.alloc (.cells #[.bool false, .slice none 0 0, .int .i64 0] 41)).cell? ⟨w9.heap.size, 1, none⟩ = some (.slice none 0 0) := new_cell2 _ _ _ _ _ _ rfl rfl
        have yf1 : (w9.alloc (.cells #[.bool false, .slice none 0 0, .int .i64 0] 41)).frozen? ⟨w9.heap.size, 1, none⟩ = false := new_loose2 _ _ _ _ _ rfl
        have y2 : (w9.alloc (.cells #[.bool false, .slice none 0 0, .int .i64 0] 41)).cell? ⟨w9.heap.size, 2, none⟩ = some (.int .i64 0) := new_cell2 _ _ _ _ _ _ rfl rfl
        have yf2 : (w9.alloc (.cells #[.bool false, .slice none 0 0, .int .i64 0] 41)).frozen? ⟨w9.heap.size, 2, none⟩ = false := new_loose2 _ _ _ _ _ rfl
        clear hH
        refine hK.out _ _ ?_ (fun hH => ?_)
        ·exact ⟨p0, p1, p2, p3, t0, t1, t2, t3⟩
        clear hK KK
        try simp only [Act.put, zq1, zq2, zq3, zq4, zq5, zq6]
        generalize w9.alloc (.cells #[.bool false, .slice none 0 0, .int .i64 0] 41) = w11 at *
        have s0 := unhide S0
        refine wpAnyH_ready (rs := [6]) (by kernel_rfl) (by simp) ?_
        refine AllReadyH.cons rfl (fun KK hK => ?_) AllReadyH.nil
        simp only [zq1, zq2, zq3]
        rw [if_pos (by rfl)]
        go_simp
        clear hH
        refine hK.out _ _ ?_ (fun hH => ?_)
        ·exact ⟨(cell_three p0 (by omega)), (cell_three p1 (by omega)), (cell_three p2 (by omega)), (cell_three p3 (by omega)), (cell_three t0 (by omega)), (cell_three t1 (by omega)), (cell_three t2 (by omega)), (cell_three t3 (by omega))⟩
        clear hK KK
        try simp only [Act.put, zq1, zq2, zq3, zq4, zq5, zq6]
        refine wpAnyH_ready (rs := [7]) (by kernel_rfl) (by simp) ?_
        refine AllReadyH.cons rfl (fun KK hK => ?_) AllReadyH.nil
        simp only [zq1, zq2, zq3]
        rw [if_pos (by rfl)]
        go_simp
        clear hH
        refine hK.out _ _ ?_ (fun hH => ?_)
        ·exact ⟨(cell_three (cell_three p0 (by omega)) (by omega)), (cell_three (cell_three p1 (by omega)) (by omega)), (cell_three (cell_three p2 (by omega)) (by omega)), (cell_three (cell_three p3 (by omega)) (by omega)), (cell_three (cell_three t0 (by omega)) (by omega)), (cell_three (cell_three t1 (by omega)) (by omega)), (cell_three (cell_three t2 (by omega)) (by omega)), (cell_three (cell_three t3 (by omega)) (by omega))⟩
        clear hK KK
        try simp only [Act.put, zq1, zq2, zq3, zq4, zq5, zq6]
        refine wpAnyH_done (by kernel_rfl) ?_ _
        clear hH
        go_wp2_with fail
        go_meet
        exact ⟨_, _, _, _, _, _, _, _, _, _, rfl, rfl, six_all kw (by omega) (by omega) (by omega) b0 b1 b2 y0 y1 y2 r1 r2 (by omega)⟩
       ·simp only [zq1, zq2, zq3]
        rw [if_pos (by rfl)]
        go_simp
        have kn := (Kept.refl 0 0 w7).alloc (.cells #[.bool false, .slice none 0 0, .int .i64 0] 41)
        replace r1 := r1.kp kn
        replace r2 := r2.kp kn
        replace kw := kw.trans kn
        replace p0 := kn.cell0 p0
        replace p1 := kn.cell0 p1
        replace p2 := kn.cell0 p2
        replace p3 := kn.cell0 p3
        replace t0 := kn.cell0 t0
        replace t1 := kn.cell0 t1
        replace t2 := kn.cell0 t2
        replace t3 := kn.cell0 t3
        replace K := hide ((unhide K).trans kn)
        have z10 := kn.size
        clear kn
        have szy : w7.heap.size < (w7.alloc (.cells #[.bool false, .slice none 0 0, .int .i64 0] 41)).heap.size := by simp
        have y0 : (w7.alloc (.cells #[.bool false, .slice none 0 0, .int .i64 0] 41)).cell? ⟨w7.heap.size, 0, none⟩ = some (.bool false) := new_cell2 _ _ _ _ _ _ rfl rfl
        have yf0 : (w7.alloc (.cells #[.bool false, .slice none 0 0, .int .i64 0] 41)).frozen? ⟨w7.heap.size, 0, none⟩ = false := new_loose2 _ _ _ _ _ rfl
        have y1 : (w7.alloc (.cells #[.bool false, .slice none 0 0, .int .i64 0] 41)).cell? ⟨w7.heap.size, 1, none⟩ = some (.slice none 0 0) := new_cell2 _ _ _ _ _ _ rfl rfl
        have yf1 : (w7.alloc (.cells #[.bool false, .slice none 0 0, .int .i64 0] 41)).frozen? ⟨w7.heap.size, 1, none⟩ = false := new_loose2 _ _ _ _ _ rfl
        have y2 : (w7.alloc (.cells #[.bool false, .slice none 0 0, .int .i64 0] 41)).cell? ⟨w7.heap.size, 2, none⟩ = some (.int .i64 0) := new_cell2 _ _ _ _ _ _ rfl rfl
        have yf2 : (w7.alloc (.cells #[.bool false, .slice none 0 0, .int .i64 0] 41)).frozen? ⟨w7.heap.size, 2, none⟩ = false := new_loose2 _ _ _ _ _ rfl
        clear hH
        refine hK.out _ _ ?_ (fun hH => ?_)
        ·exact ⟨p0, p1, p2, p3, t0, t1, t2, t3⟩
        clear hK KK
        try simp only [Act.put, zq1, zq2, zq3, zq4, zq5, zq6]
        generalize w7.alloc (.cells #[.bool false, .slice none 0 0, .int .i64 0] 41) = w9 at *
        refine wpAnyH_ready (rs := [4]) (by kernel_rfl) (by simp) ?_
        refine AllReadyH.cons rfl (fun KK hK => ?_) AllReadyH.nil
        simp only [zq1, zq2, zq3]
        rw [if_pos (by rfl)]
        go_simp
        have kn := (Kept.refl 0 0 w9).alloc (.cells #[.bool false, .slice none 0 0, .int .i64 0] 41)
        replace r1 := r1.kp kn
        replace r2 := r2.kp kn
        replace kw := kw.trans kn
        replace yf0 := kn.loose0 (zbl y0) yf0
        replace yf1 := kn.loose0 (zbl y1) yf1
        replace yf2 := kn.loose0 (zbl y2) yf2
        replace p0 := kn.cell0 p0
        replace p1 := kn.cell0 p1
        replace p2 := kn.cell0 p2
        replace p3 := kn.cell0 p3
        replace t0 := kn.cell0 t0
        replace t1 := kn.cell0 t1
        replace t2 := kn.cell0 t2
        replace t3 := kn.cell0 t3
        replace y0 := kn.cell0 y0
        replace y1 := kn.cell0 y1
        replace y2 := kn.cell0 y2
        replace K := hide ((unhide K).trans kn)
        have z12 := kn.size
        clear kn
        have szb : w9.heap.size < (w9.alloc (.cells #[.bool false, .slice none 0 0, .int .i64 0] 41)).heap.size := by simp
        have b0 : (w9.alloc (.cells #[.bool false, .slice none 0 0, .int .i64 0] 41)).cell? ⟨w9.heap.size, 0, none⟩ = some (.bool false) := new_cell2 _ _ _ _ _ _ rfl rfl
        have bf0 : (w9.alloc (.cells #[.bool false, .slice none 0 0, .int .i64 0] 41)).frozen? ⟨w9.heap.size, 0, none⟩ = false := new_loose2 _ _ _ _ _ rfl
        have b1 : (w9.alloc (.cells #[.bool false, .slice none 0 0, .int .i64 0] 41)).cell? ⟨w9.heap.size, 1, none⟩ = some (.slice none 0 0) := new_cell2 _ _ _ _ _ _ rfl rfl
        have bf1 : (w9.alloc (.cells #[.bool false, .slice none 0 0, .int .i64 0] 41)).frozen? ⟨w9.heap.size, 1, none⟩ = false := new_loose2 _ _ _ _ _ rfl
        have b2 : (w9.alloc (.cells #[.bool false, .slice none 0 0, .int .i64 0] 41)).cell? ⟨w9.heap.size, 2, none⟩ = some (.int .i64 0) := new_cell2 _ _ _ _ _ _ rfl rfl
        have bf2 : (w9.alloc (.cells #[.bool false, .slice none 0 0, .int .i64 0] 41)).frozen? ⟨w9.heap.size, 2, none⟩ = false := new_loose2 _ _ _ _ _ rfl
        clear hH
        refine hK.out _ _ ?_ (fun hH => ?_)
        ·exact ⟨p0, p1, p2, p3, t0, t1, t2, t3⟩
        clear hK KK
        try simp only [Act.put, zq1, zq2, zq3, zq4, zq5, zq6]
        generalize w9.alloc (.cells #[.bool false, .slice none 0 0, .int .i64 0] 41) = w11 at *
        have s0 := unhide S0
        refine wpAnyH_ready (rs := [6]) (by kernel_rfl) (by simp) ?_
        refine AllReadyH.cons rfl (fun KK hK => ?_) AllReadyH.nil
        simp only [zq1, zq2, zq3]
        rw [if_pos (by rfl)]
        go_simp
        clear hH
        refine hK.out _ _ ?_ (fun hH => ?_)
        ·exact ⟨(cell_three p0 (by omega)), (cell_three p1 (by omega)), (cell_three p2 (by omega)), (cell_three p3 (by omega)), (cell_three t0 (by omega)), (cell_three t1 (by omega)), (cell_three t2 (by omega)), (cell_three t3 (by omega))⟩
        clear hK KK
        try simp only [Act.put, zq1, zq2, zq3, zq4, zq5, zq6]
        refine wpAnyH_ready (rs := [7]) (by kernel_rfl) (by simp) ?_
        refine AllReadyH.cons rfl (fun KK hK => ?_) AllReadyH.nil
        simp only [zq1, zq2, zq3]
        rw [if_pos (by rfl)]
        go_simp
        clear hH
        refine hK.out _ _ ?_ (fun hH => ?_)
        ·exact ⟨(cell_three (cell_three p0 (by omega)) (by omega)), (cell_three (cell_three p1 (by omega)) (by omega)), (cell_three (cell_three p2 (by omega)) (by omega)), (cell_three (cell_three p3 (by omega)) (by omega)), (cell_three (cell_three t0 (by omega)) (by omega)), (cell_three (cell_three t1 (by omega)) (by omega)), (cell_three (cell_three t2 (by omega)) (by omega)), (cell_three (cell_three t3 (by omega)) (by omega))⟩
        clear hK KK
        try simp only [Act.put, zq1, zq2, zq3, zq4, zq5, zq6]
        refine wpAnyH_done (by kernel_rfl) ?_ _
        clear hH
        go_wp2_with fail
        go_meet
        exact ⟨_, _, _, _, _, _, _, _, _, _, rfl, rfl, six_all kw (by omega) (by omega) (by omega) b0 b1 b2 y0 y1 y2 r1 r2 (by omega)⟩
      ·simp only [zq1, zq2, zq3]
       rw [if_pos (by rfl)]
       go_simp
       have kn := (Kept.refl 0 0 w5).alloc (.cells #[.bool false, .slice none 0 0, .int .i64 0] 41)
       replace r1 := r1.kp kn
       replace kw := kw.trans kn
       replace p0 := kn.cell0 p0
       replace p1 := kn.cell0 p1
       replace p2 := kn.cell0 p2
       replace p3 := kn.cell0 p3
       replace t0 := kn.cell0 t0
       replace t1 := kn.cell0 t1
       replace t2 := kn.cell0 t2
       replace t3 := kn.cell0 t3
       replace K := hide ((unhide K).trans kn)
       have z8 := kn.size
       clear kn
       have szb : w5.heap.size < (w5.alloc (.cells #[.bool false, .slice none 0 0, .int .i64 0] 41)).heap.size := by simp
       have b0 : (w5.alloc (.cells #[.bool false, .slice none 0 0, .int .i64 0] 41)).cell? ⟨w5.heap.size, 0, none⟩ = some (.bool false) := new_cell2 _ _ _ _ _ _ rfl rfl
       have bf0 : (w5.alloc (.cells #[.bool false, .slice none 0 0, .int .i64 0] 41)).frozen? ⟨w5.heap.size, 0, none⟩ = false := new_loose2 _ _ _ _ _ rfl
       have b1 : (w5.alloc (.cells #[.bool false, .slice none 0 0, .int .i64 0] 41)).cell? ⟨w5.heap.size, 1, none⟩ = some (.slice none 0 0) := new_cell2 _ _ _ _ _ _ rfl rfl
       have bf1 : (w5.alloc (.cells #[.bool false, .slice none 0 0, .int .i64 0] 41)).frozen? ⟨w5.heap.size, 1, none⟩ = false := new_loose2 _ _ _ _ _ rfl
       have b2 : (w5.alloc (.cells #[.bool false, .slice none 0 0, .int .i64 0] 41)).cell? ⟨w5.heap.size, 2, none⟩ = some (.int .i64 0) := new_cell2 _ _ _ _ _ _ rfl rfl
       have bf2 : (w5.alloc (.cells #[.bool false, .slice none 0 0, .int .i64 0] 41)).frozen? ⟨w5.heap.size, 2, none⟩ = false := new_loose2 _ _ _ _ _ rfl
       clear hH
       refine hK.out _ _ ?_ (fun hH => ?_)
       ·exact ⟨p0, p1, p2, p3, t0, t1, t2, t3⟩
       clear hK KK
       try simp only [Act.put, zq1, zq2, zq3, zq4, zq5, zq6]
       generalize w5.alloc (.cells #[.bool false, .slice none 0 0, .int .i64 0] 41) = w7 at *
       refine wpAnyH_ready (rs := [3, 5]) (by kernel_rfl) (by simp) ?_
       refine AllReadyH.cons rfl (fun KK hK => ?_) (AllReadyH.cons rfl (fun KK hK => ?_) AllReadyH.nil)
       ·simp only [zq1, zq2, zq3]
        rw [if_pos (by rfl)]
        refine wps1 14 (.tmp 82) _ rfl in_l5dy_d (.agg #[.int .i64 1, .bool n2, .int .i64 m2, .int .i64 e2]) rfl (unhide hd2 _) ?_
        rintro e w9 ⟨v2, rfl, r2, k9⟩
        refine ⟨_, rfl, ?_⟩
        replace r1 := r1.kp k9
        replace kw := kw.trans k9
        replace bf0 := k9.loose0 (zbl b0) bf0
        replace bf1 := k9.loose0 (zbl b1) bf1
        replace bf2 := k9.loose0 (zbl b2) bf2
        replace p0 := k9.cell0 p0
        replace p1 := k9.cell0 p1
        replace p2 := k9.cell0 p2
        replace p3 := k9.cell0 p3
        replace t0 := k9.cell0 t0
        replace t1 := k9.cell0 t1
        replace t2 := k9.cell0 t2
        replace t3 := k9.cell0 t3
        replace b0 := k9.cell0 b0
        replace b1 := k9.cell0 b1
        replace b2 := k9.cell0 b2
        replace K := hide ((unhide K).trans k9)
        have z10 := k9.size
        clear k9
        obtain ⟨p2', c2', hv⟩ := Row.form' r2
        subst hv
        clear hH
        refine hK.out _ _ ?_ (fun hH => ?_)
        ·exact ⟨p0, p1, p2, p3, t0, t1, t2, t3⟩
        clear hK KK
        try simp only [Act.put, zq1, zq2, zq3, zq4, zq5, zq6]
        refine wpAnyH_ready (rs := [5]) (by kernel_rfl) (by simp) ?_
        refine AllReadyH.cons rfl (fun KK hK => ?_) AllReadyH.nil
        simp only [zq1, zq2, zq3]
        rw [if_pos (by rfl)]
        go_simp
        have kn := (Kept.refl 0 0 w9).alloc (.cells #[.bool false, .slice none 0 0, .int .i64 0] 41)
        replace r1 := r1.kp kn
        replace r2 := r2.kp kn
        replace kw := kw.trans kn
        replace bf0 := kn.loose0 (zbl b0) bf0
        replace bf1 := kn.loose0 (zbl b1) bf1
        replace bf2 := kn.loose0 (zbl b2) bf2
        replace p0 := kn.cell0 p0
        replace p1 := kn.cell0 p1
        replace p2 := kn.cell0 p2
        replace p3 := kn.cell0 p3
        replace t0 := kn.cell0 t0
        replace t1 := kn.cell0 t1
        replace t2 := kn.cell0 t2
        replace t3 := kn.cell0 t3
        replace b0 := kn.cell0 b0
        replace b1 := kn.cell0 b1
        replace b2 := kn.cell0 b2
        replace K := hide ((unhide K).trans kn)
        have z12 := kn.size
        clear kn
        have szy : w9.heap.size < (w9.alloc (.cells #[.bool false, .slice none 0 0, .int .i64 0] 41)).heap.size := by simp
        have y0 : (w9.alloc (.cells #[.bool false, .slice none 0 0, .int .i64 0] 41)).cell? ⟨w9.heap.size, 0, none⟩ = some (.bool false) := new_cell2 _ _ _ _ _ _ rfl rfl
        have yf0 : (w9.alloc (.cells #[.bool false, .slice none 0 0, .int .i64 0] 41)).frozen? ⟨w9.heap.size, 0, none⟩ = false := new_loose2 _ _ _ _ _ rfl
        have y1 : (w9.alloc (.cells #[.bool false, .slice none 0 0, .int .i64 0] 41)).cell? ⟨w9.heap.size, 1, none⟩ = some (.slice none 0 0) := new_cell2 _ _ _ _ _ _ rfl rfl
        have yf1 : (w9.alloc (.cells #[.bool false, .slice none 0 0, .int .i64 0] 41)).frozen? ⟨w9.heap.size, 1, none⟩ = false := new_loose2 _ _ _ _ _ rfl
        have y2 : (w9.alloc (.cells #[.bool false, .slice none 0 0, .int .i64 0] 41)).cell? ⟨w9.heap.size, 2, none⟩ = some (.int .i64 0) := new_cell2 _ _ _ _ _ _ rfl rfl
        have yf2 : (w9.alloc (.cells #[.bool false, .slice none 0 0, .int .i64 0] 41)).frozen? ⟨w9.heap.size, 2, none⟩ = false := new_loose2 _ _ _ _ _ rfl
        clear hH
        refine hK.out _ _ ?_ (fun hH => ?_)
        ·exact ⟨p0, p1, p2, p3, t0, t1, t2, t3⟩
        clear hK KK
        try simp only [Act.put, zq1, zq2, zq3, zq4, zq5, zq6]
        generalize w9.alloc (.cells #[.bool false, .slice none 0 0, .int .i64 0] 41) = w11 at *
        have s0 := unhide S0
        refine wpAnyH_ready (rs := [6]) (by kernel_rfl) (by simp) ?_
        refine AllReadyH.cons rfl (fun KK hK => ?_) AllReadyH.nil
        simp only [zq1, zq2, zq3]
        rw [if_pos (by rfl)]
        go_simp
        clear hH
        refine hK.out _ _ ?_ (fun hH => ?_)
        ·exact ⟨(cell_three p0 (by omega)), (cell_three p1 (by omega)), (cell_three p2 (by omega)), (cell_three p3 (by omega)), (cell_three t0 (by omega)), (cell_three t1 (by omega)), (cell_three t2 (by omega)), (cell_three t3 (by omega))⟩
        clear hK KK
        try simp only [Act.put, zq1, zq2, zq3, zq4, zq5, zq6]
        refine wpAnyH_ready (rs := [7]) (by kernel_rfl) (by simp) ?_
        refine AllReadyH.cons rfl (fun KK hK => ?_) AllReadyH.nil
        simp only [zq1, zq2, zq3]
        rw [if_pos (by rfl)]
        go_simp
        clear hH
        refine hK.out _ _ ?_ (fun hH => ?_)
        ·exact ⟨(cell_three (cell_three p0 (by omega)) (by omega)), (cell_three (cell_three p1 (by omega)) (by omega)), (cell_three (cell_three p2 (by omega)) (by omega)), (cell_three (cell_three p3 (by omega)) (by omega)), (cell_three (cell_three t0 (by omega)) (by omega)), (cell_three (cell_three t1 (by omega)) (by omega)), (cell_three (cell_three t2 (by omega)) (by omega)), (cell_three (cell_three t3 (by omega)) (by omega))⟩
        clear hK KK
        try simp only [Act.put, zq1, zq2, zq3, zq4, zq5, zq6]
        refine wpAnyH_done (by kernel_rfl) ?_ _
        clear hH
        go_wp2_with fail
        go_meet
        exact ⟨_, _, _, _, _, _, _, _, _, _, rfl, rfl, six_all kw (by omega) (by omega) (by omega) b0 b1 b2 y0 y1 y2 r1 r2 (by omega)⟩
       ·simp only [zq1, zq2, zq3]
        rw [if_pos (by rfl)]
        go_simp
        have kn := (Kept.refl 0 0 w7).alloc (.cells #[.bool false, .slice none 0 0, .int .i64 0] 41)
        replace r1 := r1.kp kn
        replace kw := kw.trans kn
        replace bf0 := kn.loose0 (zbl b0) bf0
        replace bf1 := kn.loose0 (zbl b1) bf1
        replace bf2 := kn.loose0 (zbl b2) bf2
        replace p0 := kn.cell0 p0
        replace p1 := kn.cell0 p1
        replace p2 := kn.cell0 p2
        replace p3 := kn.cell0 p3
        replace t0 := kn.cell0 t0
        replace t1 := kn.cell0 t1
        replace t2 := kn.cell0 t2
        replace t3 := kn.cell0 t3
        replace b0 := kn.cell0 b0
        replace b1 := kn.cell0 b1
        replace b2 := kn.cell0 b2
        replace K := hide ((unhide K).trans kn)
        have z10 := kn.size
        clear kn
        have szy : w7.heap.size < (w7.alloc (.cells #[.bool false, .slice none 0 0, .int .i64 0] 41)).heap.size := by simp
        have y0 : (w7.alloc (.cells #[.bool false, .slice none 0 0, .int .i64 0] 41)).cell? ⟨w7.heap.size, 0, none⟩ = some (.bool false) := new_cell2 _ _ _ _ _ _ rfl rfl
        have yf0 : (w7.alloc (.cells #[.bool false, .slice none 0 0, .int .i64 0] 41)).frozen? ⟨w7.heap.size, 0, none⟩ = false := new_loose2 _ _ _ _ _ rfl
        have y1 : (w7.alloc (.cells #[.bool false, .slice none 0 0, .int .i64 0] 41)).cell? ⟨w7.heap.size, 1, none⟩ = some (.slice none 0 0) := new_cell2 _ _ _ _ _ _ rfl rfl
        have yf1 : (w7.alloc (.cells #[.bool false, .slice none 0 0, .int .i64 0] 41)).frozen? ⟨w7.heap.size, 1, none⟩ = false := new_loose2 _ _ _ _ _ rfl
        have y2 : (w7.alloc (.cells #[.bool false, .slice none 0 0, .int .i64 0] 41)).cell? ⟨w7.heap.size, 2, none⟩ = some (.int .i64 0) := new_cell2 _ _ _ _ _ _ rfl rfl
        have yf2 : (w7.alloc (.cells #[.bool false, .slice none 0 0, .int .i64 0] 41)).frozen? ⟨w7.heap.size, 2, none⟩ = false := new_loose2 _ _ _ _ _ rfl
        clear hH
        refine hK.out _ _ ?_ (fun hH => ?_)
        ·exact ⟨p0, p1, p2, p3, t0, t1, t2, t3⟩
        clear hK KK
        try simp only [Act.put, zq1, zq2, zq3, zq4, zq5, zq6]
        generalize w7.alloc (.cells #[.bool false, .slice none 0 0, .int .i64 0] 41) = w9 at *
        refine wpAnyH_ready (rs := [3]) (by kernel_rfl) (by simp) ?_
        refine AllReadyH.cons rfl (fun KK hK => ?_) AllReadyH.nil
        simp only [zq1, zq2, zq3]
        rw [if_pos (by rfl)]
        refine wps1 14 (.tmp 82) _ rfl in_l5dy_d (.agg #[.int .i64 1, .bool n2, .int .i64 m2, .int .i64 e2]) rfl (unhide hd2 _) ?_
        rintro e w11 ⟨v2, rfl, r2, k11⟩
        refine ⟨_, rfl, ?_⟩
        replace r1 := r1.kp k11
        replace kw := kw.trans k11
        replace bf0 := k11.loose0 (zbl b0) bf0
        replace bf1 := k11.loose0 (zbl b1) bf1
        replace bf2 := k11.loose0 (zbl b2) bf2
        replace yf0 := k11.loose0 (zbl y0) yf0
        replace yf1 := k11.loose0 (zbl y1) yf1
        replace yf2 := k11.loose0 (zbl y2) yf2
        replace p0 := k11.cell0 p0
        replace p1 := k11.cell0 p1
        replace p2 := k11.cell0 p2
        replace p3 := k11.cell0 p3
        replace t0 := k11.cell0 t0
        replace t1 := k11.cell0 t1
        replace t2 := k11.cell0 t2
        replace t3 := k11.cell0 t3
        replace b0 := k11.cell0 b0
        replace b1 := k11.cell0 b1
        replace b2 := k11.cell0 b2
        replace y0 := k11.cell0 y0
        replace y1 := k11.cell0 y1
        replace y2 := k11.cell0 y2
        replace K := hide ((unhide K).trans k11)
        have z12 := k11.size
        clear k11
        obtain ⟨p2', c2', hv⟩ := Row.form' r2
        subst hv
        clear hH
        refine hK.out _ _ ?_ (fun hH => ?_)
        ·exact ⟨p0, p1, p2, p3, t0, t1, t2, t3⟩
        clear hK KK
        try simp only [Act.put, zq1, zq2, zq3, zq4, zq5, zq6]
        have s0 := unhide S0
        refine wpAnyH_ready (rs := [6]) (by kernel_rfl) (by simp) ?_
        refine AllReadyH.cons rfl (fun KK hK => ?_) AllReadyH.nil
        simp only [zq1, zq2, zq3]
        rw [if_pos (by rfl)]
        go_simp
        clear hH
        refine hK.out _ _ ?_ (fun hH => ?_)
        ·exact ⟨(cell_three p0 (by omega)), (cell_three p1 (by omega)), (cell_three p2 (by omega)), (cell_three p3 (by omega)), (cell_three t0 (by omega)), (cell_three t1 (by omega)), (cell_three t2 (by omega)), (cell_three t3 (by omega))⟩
        clear hK KK
        try simp only [Act.put, zq1, zq2, zq3, zq4, zq5, zq6]
        refine wpAnyH_ready (rs := [7]) (by kernel_rfl) (by simp) ?_
        refine AllReadyH.cons rfl (fun KK hK => ?_) AllReadyH.nil
        simp only [zq1, zq2, zq3]
        rw [if_pos (by rfl)]
        go_simp
        clear hH
        refine hK.out _ _ ?_ (fun hH => ?_)
        ·exact ⟨(cell_three (cell_three p0 (by omega)) (by omega)), (cell_three (cell_three p1 (by omega)) (by omega)), (cell_three (cell_three p2 (by omega)) (by omega)), (cell_three (cell_three p3 (by omega)) (by omega)), (cell_three (cell_three t0 (by omega)) (by omega)), (cell_three (cell_three t1 (by omega)) (by omega)), (cell_three (cell_three t2 (by omega)) (by omega)), (cell_three (cell_three t3 (by omega)) (by omega))⟩
        clear hK KK
        try simp only [Act.put, zq1, zq2, zq3, zq4, zq5, zq6]
        refine wpAnyH_done (by kernel_rfl) ?_ _
        clear hH
        go_wp2_with fail
        go_meet
        exact ⟨_, _, _, _, _, _, _, _, _, _, rfl, rfl, six_all kw (by omega) (by omega) (by omega) b0 b1 b2 y0 y1 y2 r1 r2 (by omega)⟩
      ·simp only [zq1, zq2, zq3]
       rw [if_pos (by rfl)]
       go_simp
       have kn := (Kept.refl 0 0 w5).alloc (.cells #[.bool false, .slice none 0 0, .int .i64 0] 41)
       replace r1 := r1.kp kn
       replace kw := kw.trans kn
       replace p0 := kn.cell0 p0
       replace p1 := kn.cell0 p1
       replace p2 := kn.cell0 p2
       replace p3 := kn.cell0 p3
       replace t0 := kn.cell0 t0
       replace t1 := kn.cell0 t1
       replace t2 := kn.cell0 t2
       replace t3 := kn.cell0 t3
       replace K := hide ((unhide K).trans kn)
       have z8 := kn.size
       clear kn
       have szy : w5.heap.size < (w5.alloc (.cells #[.bool false, .slice none 0 0, .int .i64 0] 41)).heap.size := by simp
       have y0 : (w5.alloc (.cells #[.bool false, .slice none 0 0, .int .i64 0] 41)).cell? ⟨w5.heap.size, 0, none⟩ = some (.bool false) := new_cell2 _ _ _ _ _ _ rfl rfl
       have yf0 : (w5.alloc (.cells #[.bool false, .slice none 0 0, .int .i64 0] 41)).frozen? ⟨w5.heap.size, 0, none⟩ = false := new_loose2 _ _ _ _ _ rfl
       have y1 : (w5.alloc (.cells #[.bool false, .slice none 0 0, .int .i64 0] 41)).cell? ⟨w5.heap.size, 1, none⟩ = some (.slice none 0 0) := new_cell2 _ _ _ _ _ _ rfl rfl
       have yf1 : (w5.alloc (.cells #[.bool false, .slice none 0 0, .int .i64 0] 41)).frozen? ⟨w5.heap.size, 1, none⟩ = false := new_loose2 _ _ _ _ _ rfl
       have y2 : (w5.alloc (.cells #[.bool false, .slice none 0 0, .int .i64 0] 41)).cell? ⟨w5.heap.size, 2, none⟩ = some (.int .i64 0) := new_cell2 _ _ _ _ _ _ rfl rfl
       have yf2 : (w5.alloc (.cells #[.bool false, .slice none 0 0, .int .i64 0] 41)).frozen? ⟨w5.heap.size, 2, none⟩ = false := new_loose2 _ _ _ _ _ rfl
       clear hH
       refine hK.out _ _ ?_ (fun hH => ?_)
       ·exact ⟨p0, p1, p2, p3, t0, t1, t2, t3⟩
       clear hK KK
       try simp only [Act.put, zq1, zq2, zq3, zq4, zq5, zq6]
       generalize w5.alloc (.cells #[.bool false, .slice none 0 0, .int .i64 0] 41) = w7 at *
       refine wpAnyH_ready (rs := [3, 4]) (by kernel_rfl) (by simp) ?_
       refine AllReadyH.cons rfl (fun KK hK => ?_) (AllReadyH.cons rfl (fun KK hK => ?_) AllReadyH.nil)
       ·simp only [zq1, zq2, zq3]
        rw [if_pos (by rfl)]
        refine wps1 14 (.tmp 82) _ rfl in_l5dy_d (.agg #[.int .i64 1, .bool n2, .int .i64 m2, .int .i64 e2]) rfl (unhide hd2 _) ?_
        rintro e w9 ⟨v2, rfl, r2, k9⟩
        refine ⟨_, rfl, ?_⟩
        replace r1 := r1.kp k9
        replace kw := kw.trans k9
        replace yf0 := k9.loose0 (zbl y0) yf0
        replace yf1 := k9.loose0 (zbl y1) yf1
        replace yf2 := k9.loose0 (zbl y2) yf2
        replace p0 := k9.cell0 p0
        replace p1 := k9.cell0 p1
        replace p2 := k9.cell0 p2
        replace p3 := k9.cell0 p3
        replace t0 := k9.cell0 t0
        replace t1 := k9.cell0 t1
        replace t2 := k9.cell0 t2
        replace t3 := k9.cell0 t3
        replace y0 := k9.cell0 y0
        replace y1 := k9.cell0 y1
        replace y2 := k9.cell0 y2
        replace K := hide ((unhide K).trans k9)
        have z10 := k9.size
        clear k9
        obtain ⟨p2', c2', hv⟩ := Row.form' r2
        subst hv
        clear hH
        refine hK.out _ _ ?_ (fun hH => ?_)
        ·exact ⟨p0, p1, p2, p3, t0, t1, t2, t3⟩
        clear hK KK
        try simp only [Act.put, zq1, zq2, zq3, zq4, zq5, zq6]
        refine wpAnyH_ready (rs := [4]) (by kernel_rfl) (by simp) ?_
        refine AllReadyH.cons rfl (fun KK hK => ?_) AllReadyH.nil
        simp only [zq1, zq2, zq3]
        rw [if_pos (by rfl)]
        go_simp
        have kn := (Kept.refl 0 0 w9).alloc (.cells #[.bool false, .slice none 0 0, .int .i64 0] 41)
        replace r1 := r1.kp kn
        replace r2 := r2.kp kn
        replace kw := kw.trans kn
        replace yf0 := kn.loose0 (zbl y0) yf0
        replace yf1 := kn.loose0 (zbl y1) yf1
        replace yf2 := kn.loose0 (zbl y2) yf2
        replace p0 := kn.cell0 p0
        replace p1 := kn.cell0 p1
        replace p2 := kn.cell0 p2
        replace p3 := kn.cell0 p3
        replace t0 := kn.cell0 t0
        replace t1 := kn.cell0 t1
        replace t2 := kn.cell0 t2
        replace t3 := kn.cell0 t3
        replace y0 := kn.cell0 y0
        replace y1 := kn.cell0 y1
        replace y2 := kn.cell0 y2
        replace K := hide ((unhide K).trans kn)
        have z12 := kn.size
        clear kn
        have szb : w9.heap.size < (w9.alloc (.cells #[.bool false, .slice none 0 0, .int .i64 0] 41)).heap.size := by simp
        have b0 : (w9.alloc (.cells #[.bool false, .slice none 0 0, .int .i64 0] 41)).cell? ⟨w9.heap.size, 0, none⟩ = some (.bool false) := new_cell2 _ _ _ _ _ _ rfl rfl
        have bf0 : (w9.alloc (.cells #[.bool false, .slice none 0 0, .int .i64 0] 41)).frozen? ⟨w9.heap.size, 0, none⟩ = false := new_loose2 _ _ _ _ _ rfl
        have b1 : (w9.alloc (.cells #[.bool false, .slice none 0 0, .int .i64 0] 41)).cell? ⟨w9.heap.size, 1, none⟩ = some (.slice none 0 0) := new_cell2 _ _ _ _ _ _ rfl rfl
        have bf1 : (w9.alloc (.cells #[.bool false, .slice none 0 0, .int .i64 0] 41)).frozen? ⟨w9.heap.size, 1, none⟩ = false := new_loose2 _ _ _ _ _ rfl
        have b2 : (w9.alloc (.cells #[.bool false, .slice none 0 0, .int .i64 0] 41)).cell? ⟨w9.heap.size, 2, none⟩ = some (.int .i64 0) := new_cell2 _ _ _ _ _ _ rfl rfl
        have bf2 : (w9.alloc (.cells #[.bool false, .slice none 0 0, .int .i64 0] 41)).frozen? ⟨w9.heap.size, 2, none⟩ = false := new_loose2 _ _ _ _ _ rfl
        clear hH
        refine hK.out _ _ ?_ (fun hH => ?_)
        ·exact ⟨p0, p1, p2, p3, t0, t1, t2, t3⟩
        clear hK KK
        try simp only [Act.put, zq1, zq2, zq3, zq4, zq5, zq6]
        generalize w9.alloc (.cells #[.bool false, .slice none 0 0, .int .i64 0] 41) = w11 at *
        have s0 := unhide S0
        refine wpAnyH_ready (rs := [6]) (by kernel_rfl) (by simp) ?_
        refine AllReadyH.cons rfl (fun KK hK => ?_) AllReadyH.nil
        simp only [zq1, zq2, zq3]
        rw [if_pos (by rfl)]
        go_simp
        clear hH
        refine hK.out _ _ ?_ (fun hH => ?_)
        ·exact ⟨(cell_three p0 (by omega)), (cell_three p1 (by omega)), (cell_three p2 (by omega)), (cell_three p3 (by omega)), (cell_three t0 (by omega)), (cell_three t1 (by omega)), (cell_three t2 (by omega)), (cell_three t3 (by omega))⟩
        clear hK KK
        try simp only [Act.put, zq1, zq2, zq3, zq4, zq5, zq6]
        refine wpAnyH_ready (rs := [7]) (by kernel_rfl) (by simp) ?_
        refine AllReadyH.cons rfl (fun KK hK => ?_) AllReadyH.nil
        simp only [zq1, zq2, zq3]
        rw [if_pos (by rfl)]
        go_simp
        clear hH
        refine hK.out _ _ ?_ (fun hH => ?_)
        ·exact ⟨(cell_three (cell_three p0 (by omega)) (by omega)), (cell_three (cell_three p1 (by omega)) (by omega)), (cell_three (cell_three p2 (by omega)) (by omega)), (cell_three (cell_three p3 (by omega)) (by omega)), (cell_three (cell_three t0 (by omega)) (by omega)), (cell_three (cell_three t1 (by omega)) (by omega)), (cell_three (cell_three t2 (by omega)) (by omega)), (cell_three (cell_three t3 (by omega)) (by omega))⟩
        clear hK KK
        try simp only [Act.put, zq1, zq2, zq3, zq4, zq5, zq6]
        refine wpAnyH_done (by kernel_rfl) ?_ _
        clear hH
        go_wp2_with fail
        go_meet
        exact ⟨_, _, _, _, _, _, _, _, _, _, rfl, rfl, six_all kw (by omega) (by omega) (by omega) b0 b1 b2 y0 y1 y2 r1 r2 (by omega)⟩
       ·simp only [zq1, zq2, zq3]
        rw [if_pos (by rfl)]
        go_simp
        have kn := (Kept.refl 0 0 w7).alloc (.cells #[.bool false, .slice none 0 0, .int .i64 0] 41)
        replace r1 := r1.kp kn
        replace kw := kw.trans kn
        replace yf0 := kn.loose0 (zbl y0) yf0
        replace yf1 := kn.loose0 (zbl y1) yf1
        replace yf2 := kn.loose0 (zbl y2) yf2
        replace p0 := kn.cell0 p0
        replace p1 := kn.cell0 p1
        replace p2 := kn.cell0 p2
        replace p3 := kn.cell0 p3
        replace t0 := kn.cell0 t0
        replace t1 := kn.cell0 t1
        replace t2 := kn.cell0 t2
        replace t3 := kn.cell0 t3
        replace y0 := kn.cell0 y0
        replace y1 := kn.cell0 y1
        replace y2 := kn.cell0 y2
        replace K := hide ((unhide K).trans kn)
        have z10 := kn.size
        clear kn
        have szb : w7.heap.size < (w7.alloc (.cells #[.bool false, .slice none 0 0, .int .i64 0] 41)).heap.size := by simp
        have b0 : (w7.alloc (.cells #[.bool false, .slice none 0 0, .int .i64 0] 41)).cell? ⟨w7.heap.size, 0, none⟩ = some (.bool false) := new_cell2 _ _ _ _ _ _ rfl rfl
        have bf0 : (w7.alloc (.cells #[.bool false, .slice none 0 0, .int .i64 0] 41)).frozen? ⟨w7.heap.size, 0, none⟩ = false := new_loose2 _ _ _ _ _ rfl
        have b1 : (w7.alloc (.cells #[.bool false, .slice none 0 0, .int .i64 0] 41)).cell? ⟨w7.heap.size, 1, none⟩ = some (.slice none 0 0) := new_cell2 _ _ _ _ _ _ rfl rfl
        have bf1 : (w7.alloc (.cells #[.bool false, .slice none 0 0, .int .i64 0] 41)).frozen? ⟨w7.heap.size, 1, none⟩ = false := new_loose2 _ _ _ _ _ rfl
        have b2 : (w7.alloc (.cells #[.bool false, .slice none 0 0, .int .i64 0] 41)).cell? ⟨w7.heap.size, 2, none⟩ = some (.int .i64 0) := new_cell2 _ _ _ _ _ _ rfl rfl
        have bf2 : (w7.alloc (.cells #[.bool false, .slice none 0 0, .int .i64 0] 41)).frozen? ⟨w7.heap.size, 2, none⟩ = false := new_loose2 _ _ _ _ _ rfl
        clear hH
        refine hK.out _ _ ?_ (fun hH => ?_)
        ·exact ⟨p0, p1, p2, p3, t0, t1, t2, t3⟩
        clear hK KK
        try simp only [Act.put, zq1, zq2, zq3, zq4, zq5, zq6]
        generalize w7.alloc (.cells #[.bool false, .slice none 0 0, .int .i64 0] 41) = w9 at *
        refine wpAnyH_ready (rs := [3]) (by kernel_rfl) (by simp) ?_
        refine AllReadyH.cons rfl (fun KK hK => ?_) AllReadyH.nil
        simp only [zq1, zq2, zq3]
        rw [if_pos (by rfl)]
        refine wps1 14 (.tmp 82) _ rfl in_l5dy_d (.agg #[.int .i64 1, .bool n2, .int .i64 m2, .int .i64 e2]) rfl (unhide hd2 _) ?_
        rintro e w11 ⟨v2, rfl, r2, k11⟩
        refine ⟨_, rfl, ?_⟩
        replace r1 := r1.kp k11
        replace kw := kw.trans k11
        replace yf0 := k11.loose0 (zbl y0) yf0
        replace yf1 := k11.loose0 (zbl y1) yf1
        replace yf2 := k11.loose0 (zbl y2) yf2
        replace bf0 := k11.loose0 (zbl b0) bf0
        replace bf1 := k11.loose0 (zbl b1) bf1
        replace bf2 := k11.loose0 (zbl b2) bf2
        replace p0 := k11.cell0 p0
        replace p1 := k11.cell0 p1
        replace p2 := k11.cell0 p2
        replace p3 := k11.cell0 p3
        replace t0 := k11.cell0 t0
        replace t1 := k11.cell0 t1
        replace t2 := k11.cell0 t2
        replace t3 := k11.cell0 t3
        replace y0 := k11.cell0 y0
        replace y1 := k11.cell0 y1
        replace y2 := k11.cell0 y2
        replace b0 := k11.cell0 b0
        replace b1 := k11.cell0 b1
        replace b2 := k11.cell0 b2
        replace K := hide ((unhide K).trans k11)
        have z12 := k11.size
        clear k11
        obtain ⟨p2', c2', hv⟩ := Row.form' r2
        subst hv
        clear hH
        refine hK.out _ _ ?_ (fun hH => ?_)
        ·exact ⟨p0, p1, p2, p3, t0, t1, t2, t3⟩
        clear hK KK
        try simp only [Act.put, zq1, zq2, zq3, zq4, zq5, zq6]
        have s0 := unhide S0
        refine wpAnyH_ready (rs := [6]) (by kernel_rfl) (by simp) ?_
        refine AllReadyH.cons rfl (fun KK hK => ?_) AllReadyH.nil
        simp only [zq1, zq2, zq3]
        rw [if_pos (by rfl)]
        go_simp
        clear hH
        refine hK.out _ _ ?_ (fun hH => ?_)
        ·exact ⟨(cell_three p0 (by omega)), (cell_three p1 (by omega)), (cell_three p2 (by omega)), (cell_three p3 (by omega)), (cell_three t0 (by omega)), (cell_three t1 (by omega)), (cell_three t2 (by omega)), (cell_three t3 (by omega))⟩
        clear hK KK
        try simp only [Act.put, zq1, zq2, zq3, zq4, zq5, zq6]
        refine wpAnyH_ready (rs := [7]) (by kernel_rfl) (by simp) ?_
        refine AllReadyH.cons rfl (fun KK hK => ?_) AllReadyH.nil
        simp only [zq1, zq2, zq3]
        rw [if_pos (by rfl)]
        go_simp
        clear hH
        refine hK.out _ _ ?_ (fun hH => ?_)
        ·exact ⟨(cell_three (cell_three p0 (by omega)) (by omega)), (cell_three (cell_three p1 (by omega)) (by omega)), (cell_three (cell_three p2 (by omega)) (by omega)), (cell_three (cell_three p3 (by omega)) (by omega)), (cell_three (cell_three t0 (by omega)) (by omega)), (cell_three (cell_three t1 (by omega)) (by omega)), (cell_three (cell_three t2 (by omega)) (by omega)), (cell_three (cell_three t3 (by omega)) (by omega))⟩
        clear hK KK
        try simp only [Act.put, zq1, zq2, zq3, zq4, zq5, zq6]
        refine wpAnyH_done (by kernel_rfl) ?_ _
        clear hH
        go_wp2_with fail
        go_meet
        exact ⟨_, _, _, _, _, _, _, _, _, _, rfl, rfl, six_all kw (by omega) (by omega) (by omega) b0 b1 b2 y0 y1 y2 r1 r2 (by omega)⟩
     ·simp only [zq1, zq2, zq3]
      rw [if_pos (by rfl)]
      go_simp
      have kn := (Kept.refl 0 0 wd4).alloc (.cells #[.bool false, .slice none 0 0, .int .i64 0] 41)
      replace kw := kw.trans kn
      replace p0 := kn.cell0 p0
      replace p1 := kn.cell0 p1
      replace p2 := kn.cell0 p2
      replace p3 := kn.cell0 p3
      replace t0 := kn.cell0 t0
      replace t1 := kn.cell0 t1
      replace t2 := kn.cell0 t2
      replace t3 := kn.cell0 t3
      replace K := hide ((unhide K).trans kn)
      have z6 := kn.size
      clear kn
      have szb : wd4.heap.size < (wd4.alloc (.cells #[.bool false, .slice none 0 0, .int .i64 0] 41)).heap.size := by simp
      have b0 : (wd4.alloc (.cells #[.bool false, .slice none 0 0, .int .i64 0] 41)).cell? ⟨wd4.heap.size, 0, none⟩ = some (.bool false) := new_cell2 _ _ _ _ _ _ rfl rfl
      have bf0 : (wd4.alloc (.cells #[.bool false, .slice none 0 0, .int .i64 0] 41)).frozen? ⟨wd4.heap.size, 0, none⟩ = false := new_loose2 _ _ _ _ _ rfl
      have b1 : (wd4.alloc (.cells #[.bool false, .slice none 0 0, .int .i64 0] 41)).cell? ⟨wd4.heap.size, 1, none⟩ = some (.slice none 0 0) := new_cell2 _ _ _ _ _ _ rfl rfl
      have bf1 : (wd4.alloc (.cells #[.bool false, .slice none 0 0, .int .i64 0] 41)).frozen? ⟨wd4.heap.size, 1, none⟩ = false := new_loose2 _ _ _ _ _ rfl
      have b2 : (wd4.alloc (.cells #[.bool false, .slice none 0 0, .int .i64 0] 41)).cell? ⟨wd4.heap.size, 2, none⟩ = some (.int .i64 0) := new_cell2 _ _ _ _ _ _ rfl rfl
      have bf2 : (wd4.alloc (.cells #[.bool false, .slice none 0 0, .int .i64 0] 41)).frozen? ⟨wd4.heap.size, 2, none⟩ = false := new_loose2 _ _ _ _ _ rfl
      clear hH
      refine hK.out _ _ ?_ (fun hH => ?_)
      ·exact ⟨p0, p1, p2, p3, t0, t1, t2, t3⟩
      clear hK KK
      try simp only [Act.put, zq1, zq2, zq3, zq4, zq5, zq6]
      generalize wd4.alloc (.cells #[.bool false, .slice none 0 0, .int .i64 0] 41) = w5 at *
      refine wpAnyH_ready (rs := [1, 5]) (by kernel_rfl) (by simp) ?_
      refine AllReadyH.cons rfl (fun KK hK => ?_) (AllReadyH.cons rfl (fun KK hK => ?_) AllReadyH.nil)
      ·simp only [zq1, zq2, zq3]
       rw [if_pos (by rfl)]
       refine wps1 14 (.tmp 80) _ rfl in_l5dy_d (.agg #[.int .i64 1, .bool n1, .int .i64 m1, .int .i64 e1]) rfl (unhide hd1 _) ?_
       rintro e w7 ⟨v1, rfl, r1, k7⟩
       refine ⟨_, rfl, ?_⟩
       replace kw := kw.trans k7
       replace bf0 := k7.loose0 (zbl b0) bf0
       replace bf1 := k7.loose0 (zbl b1) bf1
       replace bf2 := k7.loose0 (zbl b2) bf2
       replace p0 := k7.cell0 p0
       replace p1 := k7.cell0 p1
       replace p2 := k7.cell0 p2
       replace p3 := k7.cell0 p3
       replace t0 := k7.cell0 t0
       replace t1 := k7.cell0 t1
       replace t2 := k7.cell0 t2
       replace t3 := k7.cell0 t3
       replace b0 := k7.cell0 b0
       replace b1 := k7.cell0 b1
       replace b2 := k7.cell0 b2
       replace K := hide ((unhide K).trans k7)
       have z8 := k7.size
       clear k7
       obtain ⟨p1', c1', hv⟩ := Row.form' r1
       subst hv
       clear hH
       refine hK.out _ _ ?_ (fun hH => ?_)
       ·exact ⟨p0, p1, p2, p3, t0, t1, t2, t3⟩
       clear hK KK
       try simp only [Act.put, zq1, zq2, zq3, zq4, zq5, zq6]
       refine wpAnyH_ready (rs := [3, 5]) (by kernel_rfl) (by simp) ?_
       refine AllReadyH.cons rfl (fun KK hK => ?_) (AllReadyH.cons rfl (fun KK hK => ?_) AllReadyH.nil)
       ·simp only [zq1, zq2, zq3]
        rw [if_pos (by rfl)]
        refine wps1 14 (.tmp 82) _ rfl in_l5dy_d (.agg #[.int .i64 1, .bool n2, .int .i64 m2, .int .i64 e2]) rfl (unhide hd2 _) ?_
        rintro e w9 ⟨v2, rfl, r2, k9⟩
        refine ⟨_, rfl, ?_⟩
        replace r1 := r1.kp k9
        replace kw := kw.trans k9
        replace bf0 := k9.loose0 (zbl b0) bf0
        replace bf1 := k9.loose0 (zbl b1) bf1
        replace bf2 := k9.loose0 (zbl b2) bf2
        replace p0 := k9.cell0 p0
        replace p1 := k9.cell0 p1
        replace p2 := k9.cell0 p2
        replace p3 := k9.cell0 p3
        replace t0 := k9.cell0 t0
        replace t1 := k9.cell0 t1
        replace t2 := k9.cell0 t2
        replace t3 := k9.cell0 t3
        replace b0 := k9.cell0 b0
        replace b1 := k9.cell0 b1
        replace b2 := k9.cell0 b2
        replace K := hide ((unhide K).trans k9)
        have z10 := k9.size
        clear k9
        obtain ⟨p2', c2', hv⟩ := Row.form' r2
        subst hv
        clear hH
        refine hK.out _ _ ?_ (fun hH => ?_)
        ·exact ⟨p0, p1, p2, p3, t0, t1, t2, t3⟩
        clear hK KK
        try simp only [Act.put, zq1, zq2, zq3, zq4, zq5, zq6]
        refine wpAnyH_ready (rs := [5]) (by kernel_rfl) (by simp) ?_
        refine AllReadyH.cons rfl (fun KK hK => ?_) AllReadyH.nil
        simp only [zq1, zq2, zq3]
        rw [if_pos (by rfl)]
        go_simp
        have kn := (Kept.refl 0 0 w9).alloc (.cells #[.bool false, .slice none 0 0, .int .i64 0] 41)
        replace r1 := r1.kp kn
        replace r2 := r2.kp kn
        replace kw := kw.trans kn
        replace bf0 := kn.loose0 (zbl b0) bf0
        replace bf1 := kn.loose0 (zbl b1) bf1
        replace bf2 := kn.loose0 (zbl b2) bf2
        replace p0 := kn.cell0 p0
        replace p1 := kn.cell0 p1
        replace p2 := kn.cell0 p2
        replace p3 := kn.cell0 p3
        replace t0 := kn.cell0 t0
        replace t1 := kn.cell0 t1
        replace t2 := kn.cell0 t2
        replace t3 := kn.cell0 t3
        replace b0 := kn.cell0 b0
        replace b1 := kn.cell0 b1
        replace b2 := kn.cell0 b2
        replace K := hide ((unhide K).trans kn)
        have z12 := kn.size
        clear kn
        have szy : w9.heap.size < (w9.alloc (.cells #[.bool false, .slice none 0 0, .int .i64 0] 41)).heap.size := by simp
        have y0 : (w9.alloc (.cells #[.bool false, .slice none 0 0, .int .i64 0] 41)).cell? ⟨w9.heap.size, 0, none⟩ = some (.bool false) := new_cell2 _ _ _ _ _ _ rfl rfl
        have yf0 : (w9.alloc (.cells #[.bool false, .slice none 0 0, .int .i64 0] 41)).frozen? ⟨w9.heap.size, 0, none⟩ = false := new_loose2 _ _ _ _ _ rfl
        have y1 : (w9.alloc (.cells #[.bool false, .slice none 0 0, .int .i64 0] 41)).cell? ⟨w9.heap.size, 1, none⟩ = some (.slice none 0 0) := new_cell2 _ _ _ _ _ _ rfl rfl
        have yf1 : (w9.alloc (.cells #[.bool false, .slice none 0 0, .int .i64 0] 41)).frozen? ⟨w9.heap.size, 1, none⟩ = false := new_loose2 _ _ _ _ _ rfl
        have y2 : (w9.alloc (.cells #[.bool false, .slice none 0 0, .int .i64 0] 41)).cell? ⟨w9.heap.size, 2, none⟩ = some (.int .i64 0) := new_cell2 _ _ _ _ _ _ rfl rfl
        have yf2 : (w9.alloc (.cells #[.bool false, .slice none 0 0, .int .i64 0] 41)).frozen? ⟨w9.heap.size, 2, none⟩ = false := new_loose2 _ _ _ _ _ rfl
        clear hH
        refine hK.out _ _ ?_ (fun hH => ?_)
        ·exact ⟨p0, p1, p2, p3, t0, t1, t2, t3⟩
        clear hK KK
        try simp only [Act.put, zq1, zq2, zq3, zq4, zq5, zq6]
        generalize w9.alloc (.cells #[.bool false, .slice none 0 0, .int .i64 0] 41) = w11 at *
        have s0 := unhide S0
        refine wpAnyH_ready (rs := [6]) (by kernel_rfl) (by simp) ?_
        refine AllReadyH.cons rfl (fun KK hK => ?_) AllReadyH.nil
        simp only [zq1, zq2, zq3]
        rw [if_pos (by rfl)]
        go_simp
        clear hH
        refine hK.out _ _ ?_ (fun hH => ?_)
        ·exact ⟨(cell_three p0 (by omega)), (cell_three p1 (by omega)), (cell_three p2 (by omega)), (cell_three p3 (by omega)), (cell_three t0 (by omega)), (cell_three t1 (by omega)), (cell_three t2 (by omega)), (cell_three t3 (by omega))⟩
        clear hK KK
        try simp only [Act.put, zq1, zq2, zq3, zq4, zq5, zq6]
        refine wpAnyH_ready (rs := [7]) (by kernel_rfl) (by simp) ?_
        refine AllReadyH.cons rfl (fun KK hK => ?_) AllReadyH.nil
        simp only [zq1, zq2, zq3]
        rw [if_pos (by rfl)]
        go_simp
        clear hH
        refine hK.out _ _ ?_ (fun hH => ?_)
        ·exact ⟨(cell_three (cell_three p0 (by omega)) (by omega)), (cell_three (cell_three p1 (by omega)) (by omega)), (cell_three (cell_three p2 (by omega)) (by omega)), (cell_three (cell_three p3 (by omega)) (by omega)), (cell_three (cell_three t0 (by omega)) (by omega)), (cell_three (cell_three t1 (by omega)) (by omega)), (cell_three (cell_three t2 (by omega)) (by omega)), (cell_three (cell_three t3 (by omega)) (by omega))⟩
        clear hK KK
        try simp only [Act.put, zq1, zq2, zq3, zq4, zq5, zq6]
        refine wpAnyH_done (by kernel_rfl) ?_ _
        clear hH
        go_wp2_with fail
        go_meet
        exact ⟨_, _, _, _, _, _, _, _, _, _, rfl, rfl, six_all kw (by omega) (by omega) (by omega) b0 b1 b2 y0 y1 y2 r1 r2 (by omega)⟩
       ·simp only [zq1, zq2, zq3]
        rw [if_pos (by rfl)]
        go_simp
        have kn := (Kept.refl 0 0 w7).alloc (.cells #[.bool false, .slice none 0 0, .int .i64 0] 41)
        replace r1 := r1.kp kn
        replace kw := kw.trans kn
        replace bf0 := kn.loose0 (zbl b0) bf0
        replace bf1 := kn.loose0 (zbl b1) bf1
        replace bf2 := kn.loose0 (zbl b2) bf2
        replace p0 := kn.cell0 p0
        replace p1 := kn.cell0 p1
        replace p2 := kn.cell0 p2
        replace p3 := kn.cell0 p3
        replace t0 := kn.cell0 t0
        replace t1 := kn.cell0 t1
        replace t2 := kn.cell0 t2
        replace t3 := kn.cell0 t3
        replace b0 := kn.cell0 b0
        replace b1 := kn.cell0 b1
        replace b2 := kn.cell0 b2
        replace K := hide ((unhide K).trans kn)
        have z10 := kn.size
        clear kn
        have szy : w7.heap.size < (w7.alloc (.cells #[.bool false, .slice none 0 0, .int .i64 0] 41)).heap.size := by simp
        have y0 : (w7.alloc (.cells #[.bool false, .slice none 0 0, .int .i64 0] 41)).cell? ⟨w7.heap.size, 0, none⟩ = some (.bool false) := new_cell2 _ _ _ _ _ _ rfl rfl
        have yf0 : (w7.alloc (.cells #[.bool false, .slice none 0 0, .int .i64 0] 41)).frozen? ⟨w7.heap.size, 0, none⟩ = false := new_loose2 _ _ _ _ _ rfl
        have y1 : (w7.alloc (.cells #[.bool false, .slice none 0 0, .int .i64 0] 41)).cell? ⟨w7.heap.size, 1, none⟩ = some (.slice none 0 0) := new_cell2 _ _ _ _ _ _ rfl rfl
        have yf1 : (w7.alloc (.cells #[.bool false, .slice none 0 0, .int .i64 0] 41)).frozen? ⟨w7.heap.size, 1, none⟩ = false := new_loose2 _ _ _ _ _ rfl
        have y2 : (w7.alloc (.cells #[.bool false, .slice none 0 0, .int .i64 0] 41)).cell? ⟨w7.heap.size, 2, none⟩ = some (.int .i64 0) := new_cell2 _ _ _ _ _ _ rfl rfl
        have yf2 : (w7.alloc (.cells #[.bool false, .slice none 0 0, .int .i64 0] 41)).frozen? ⟨w7.heap.size, 2, none⟩ = false := new_loose2 _ _ _ _ _ rfl
        clear hH
        refine hK.out _ _ ?_ (fun hH => ?_)
        ·exact ⟨p0, p1, p2, p3, t0, t1, t2, t3⟩
        clear hK KK
        try simp only [Act.put, zq1, zq2, zq3, zq4, zq5, zq6]
        generalize w7.alloc (.cells #[.bool false, .slice none 0 0, .int .i64 0] 41) = w9 at *
        refine wpAnyH_ready (rs := [3]) (by kernel_rfl) (by simp) ?_
        refine AllReadyH.cons rfl (fun KK hK => ?_) AllReadyH.nil
        simp only [zq1, zq2, zq3]
        rw [if_pos (by rfl)]
        refine wps1 14 (.tmp 82) _ rfl in_l5dy_d (.agg #[.int .i64 1, .bool n2, .int .i64 m2, .int .i64 e2]) rfl (unhide hd2 _) ?_
        rintro e w11 ⟨v2, rfl, r2, k11⟩
        refine ⟨_, rfl, ?_⟩
        replace r1 := r1.kp k11
        replace kw := kw.trans k11
        replace bf0 := k11.loose0 (zbl b0) bf0
        replace bf1 := k11.loose0 (zbl b1) bf1
        replace bf2 := k11.loose0 (zbl b2) bf2
        replace yf0 := k11.loose0 (zbl y0) yf0
        replace yf1 := k11.loose0 (zbl y1) yf1
        replace yf2 := k11.loose0 (zbl y2) yf2
        replace p0 := k11.cell0 p0
        replace p1 := k11.cell0 p1
        replace p2 := k11.cell0 p2
        replace p3 := k11.cell0 p3
        replace t0 := k11.cell0 t0
        replace t1 := k11.cell0 t1
        replace t2 := k11.cell0 t2
        replace t3 := k11.cell0 t3
        replace b0 := k11.cell0 b0
        replace b1 := k11.cell0 b1
        replace b2 := k11.cell0 b2
        replace y0 := k11.cell0 y0
        replace y1 := k11.cell0 y1
        replace y2 := k11.cell0 y2
        replace K := hide ((unhide K).trans k11)
        have z12 := k11.size
        clear k11
        obtain ⟨p2', c2', hv⟩ := Row.form' r2
        subst hv
        clear hH
        refine hK.out _ _ ?_ (fun hH => ?_)
        ·exact ⟨p0, p1, p2, p3, t0, t1, t2, t3⟩
        clear hK KK
        try simp only [Act.put, zq1, zq2, zq3, zq4, zq5, zq6]
        have s0 := unhide S0
        refine wpAnyH_ready (rs := [6]) (by kernel_rfl) (by simp) ?_
        refine AllReadyH.cons rfl (fun KK hK => ?_) AllReadyH.nil
        simp only [zq1, zq2, zq3]
        rw [if_pos (by rfl)]
        go_simp
        clear hH
        refine hK.out _ _ ?_ (fun hH => ?_)
        ·exact ⟨(cell_three p0 (by omega)), (cell_three p1 (by omega)), (cell_three p2 (by omega)), (cell_three p3 (by omega)), (cell_three t0 (by omega)), (cell_three t1 (by omega)), (cell_three t2 (by omega)), (cell_three t3 (by omega))⟩
        clear hK KK
        try simp only [Act.put, zq1, zq2, zq3, zq4, zq5, zq6]
        refine wpAnyH_ready (rs := [7]) (by kernel_rfl) (by simp) ?_
        refine AllReadyH.cons rfl (fun KK hK => ?_) AllReadyH.nil
        simp only [zq1, zq2, zq3]
        rw [if_pos (by rfl)]
        go_simp
        clear hH
        refine hK.out _ _ ?_ (fun hH => ?_)
        ·exact ⟨(cell_three (cell_three p0 (by omega)) (by omega)), (cell_three (cell_three p1 (by omega)) (by omega)), (cell_three (cell_three p2 (by omega)) (by omega)), (cell_three (cell_three p3 (by omega)) (by omega)), (cell_three (cell_three t0 (by omega)) (by omega)), (cell_three (cell_three t1 (by omega)) (by omega)), (cell_three (cell_three t2 (by omega)) (by omega)), (cell_three (cell_three t3 (by omega)) (by omega))⟩
        clear hK KK
        try simp only [Act.put, zq1, zq2, zq3, zq4, zq5, zq6]
        refine wpAnyH_done (by kernel_rfl) ?_ _
        clear hH
        go_wp2_with fail
        go_meet
        exact ⟨_, _, _, _, _, _, _, _, _, _, rfl, rfl, six_all kw (by omega) (by omega) (by omega) b0 b1 b2 y0 y1 y2 r1 r2 (by omega)⟩
      ·simp only [zq1, zq2, zq3]
       rw [if_pos (by rfl)]
       go_simp
       have kn := (Kept.refl 0 0 w5).alloc (.cells #[.bool false, .slice none 0 0, .int .i64 0] 41)
       replace kw := kw.trans kn
       replace bf0 := kn.loose0 (zbl b0) bf0
       replace bf1 := kn.loose0 (zbl b1) bf1
       replace bf2 := kn.loose0 (zbl b2) bf2
       replace p0 := kn.cell0 p0
       replace p1 := kn.cell0 p1
       replace p2 := kn.cell0 p2
       replace p3 := kn.cell0 p3
       replace t0 := kn.cell0 t0
       replace t1 := kn.cell0 t1
       replace t2 := kn.cell0 t2
       replace t3 := kn.cell0 t3
       replace b0 := kn.cell0 b0
       replace b1 := kn.cell0 b1
       replace b2 := kn.cell0 b2
       replace K := hide ((unhide K).trans kn)
       have z8 := kn.size
       clear kn
       have szy : w5.heap.size < (w5.alloc (.cells #[.bool false, .slice none 0 0, .int .i64 0] 41)).heap.size := by simp
       have y0 : (w5.alloc (.cells #[.bool false, .slice none 0 0, .int .i64 0] 41)).cell? ⟨w5.heap.size, 0, none⟩ = some (.bool false) := new_cell2 _ _ _ _ _ _ rfl rfl
       have yf0 : (w5.alloc (.cells #[.bool false, .slice none 0 0, .int .i64 0] 41)).frozen? ⟨w5.heap.size, 0, none⟩ = false := new_loose2 _ _ _ _ _ rfl
       have y1 : (w5.alloc (.cells #[.bool false, .slice none 0 0, .int .i64 0] 41)).cell? ⟨w5.heap.size, 1, none⟩ = some (.slice none 0 0) := new_cell2 _ _ _ _ _ _ rfl rfl
       have yf1 : (w5.alloc (.cells #[.bool false, .slice none 0 0, .int .i64 0] 41)).frozen? ⟨w5.heap.size, 1, none⟩ = false := new_loose2 _ _ _ _ _ rfl
       have y2 : (w5.alloc (.cells #[.bool false, .slice none 0 0, .int .i64 0] 41)).cell? ⟨w5.heap.size, 2, none⟩ = some (.int .i64 0) := new_cell2 _ _ _ _ _ _ rfl rfl
       have yf2 : (w5.alloc (.cells #[.bool false, .slice none 0 0, .int .i64 0] 41)).frozen? ⟨w5.heap.size, 2, none⟩ = false := new_loose2 _ _ _ _ _ rfl
       clear hH
       refine hK.out _ _ ?_ (fun hH => ?_)
       ·exact ⟨p0, p1, p2, p3, t0, t1, t2, t3⟩
       clear hK KK
       try simp only [Act.put, zq1, zq2, zq3, zq4, zq5, zq6]
       generalize w5.alloc (.cells #[.bool false, .slice none 0 0, .int .i64 0] 41) = w7 at *
       refine wpAnyH_ready (rs := [1]) (by kernel_rfl) (by simp) ?_
       refine AllReadyH.cons rfl (fun KK hK => ?_) AllReadyH.nil
       simp only [zq1, zq2, zq3]
       rw [if_pos (by rfl)]
       refine wps1 14 (.tmp 80) _ rfl in_l5dy_d (.agg #[.int .i64 1, .bool n1, .int .i64 m1, .int .i64 e1]) rfl (unhide hd1 _) ?_
       rintro e w9 ⟨v1, rfl, r1, k9⟩
       refine ⟨_, rfl, ?_⟩
       replace kw := kw.trans k9
       replace bf0 := k9.loose0 (zbl b0) bf0
       replace bf1 := k9.loose0 (zbl b1) bf1
       replace bf2 := k9.loose0 (zbl b2) bf2
       replace yf0 := k9.loose0 (zbl y0) yf0
       replace yf1 := k9.loose0 (zbl y1) yf1
       replace yf2 := k9.loose0 (zbl y2) yf2
       replace p0 := k9.cell0 p0
       replace p1 := k9.cell0 p1
       replace p2 := k9.cell0 p2
       replace p3 := k9.cell0 p3
       replace t0 := k9.cell0 t0
       replace t1 := k9.cell0 t1
       replace t2 := k9.cell0 t2
       replace t3 := k9.cell0 t3
       replace b0 := k9.cell0 b0
       replace b1 := k9.cell0 b1
       replace b2 := k9.cell0 b2
       replace y0 := k9.cell0 y0
       replace y1 := k9.cell0 y1
       replace y2 := k9.cell0 y2
       replace K := hide ((unhide K).trans k9)
       have z10 := k9.size
       clear k9
       obtain ⟨p1', c1', hv⟩ := Row.form' r1
       subst hv
       clear hH
       refine hK.out _ _ ?_ (fun hH => ?_)
       ·exact ⟨p0, p1, p2, p3, t0, t1, t2, t3⟩
       clear hK KK
       try simp only [Act.put, zq1, zq2, zq3, zq4, zq5, zq6]
       refine wpAnyH_ready (rs := [3]) (by kernel_rfl) (by simp) ?_
       refine AllReadyH.cons rfl (fun KK hK => ?_) AllReadyH.nil
       simp only [zq1, zq2, zq3]
       rw [if_pos (by rfl)]
       refine wps1 14 (.tmp 82) _ rfl in_l5dy_d (.agg #[.int .i64 1, .bool n2, .int .i64 m2, .int .i64 e2]) rfl (unhide hd2 _) ?_
       rintro e w11 ⟨v2, rfl, r2, k11⟩
       refine ⟨_, rfl, ?_⟩
       replace r1 := r1.kp k11
       replace kw := kw.trans k11
       replace bf0 := k11.loose0 (zbl b0) bf0
       replace bf1 := k11.loose0 (zbl b1) bf1
       replace bf2 := k11.loose0 (zbl b2) bf2
       replace yf0 := k11.loose0 (zbl y0) yf0
       replace yf1 := k11.loose0 (zbl y1) yf1
       replace yf2 := k11.loose0 (zbl y2) yf2
       replace p0 := k11.cell0 p0
       replace p1 := k11.cell0 p1
       replace p2 := k11.cell0 p2
       replace p3 := k11.cell0 p3
       replace t0 := k11.cell0 t0
       replace t1 := k11.cell0 t1
       replace t2 := k11.cell0 t2
       replace t3 := k11.cell0 t3
       replace b0 := k11.cell0 b0
       replace b1 := k11.cell0 b1
       replace b2 := k11.cell0 b2
       replace y0 := k11.cell0 y0
       replace y1 := k11.cell0 y1
       replace y2 := k11.cell0 y2
       replace K := hide ((unhide K).trans k11)
       have z12 := k11.size
       clear k11
       obtain ⟨p2', c2', hv⟩ := Row.form' r2
       subst hv
       clear hH
       refine hK.out _ _ ?_ (fun hH => ?_)
       ·exact ⟨p0, p1, p2, p3, t0, t1, t2, t3⟩
       clear hK KK
       try simp only [Act.put, zq1, zq2, zq3, zq4, zq5, zq6]
       have s0 := unhide S0
       refine wpAnyH_ready (rs := [6]) (by kernel_rfl) (by simp) ?_
       refine AllReadyH.cons rfl (fun KK hK => ?_) AllReadyH.nil
       simp only [zq1, zq2, zq3]
       rw [if_pos (by rfl)]
       go_simp
       clear hH
       refine hK.out _ _ ?_ (fun hH => ?_)
       ·exact ⟨(cell_three p0 (by omega)), (cell_three p1 (by omega)), (cell_three p2 (by omega)), (cell_three p3 (by omega)), (cell_three t0 (by omega)), (cell_three t1 (by omega)), (cell_three t2 (by omega)), (cell_three t3 (by omega))⟩
       clear hK KK
       try simp only [Act.put, zq1, zq2, zq3, zq4, zq5, zq6]
       refine wpAnyH_ready (rs := [7]) (by kernel_rfl) (by simp) ?_
       refine AllReadyH.cons rfl (fun KK hK => ?_) AllReadyH.nil
       simp only [zq1, zq2, zq3]
       rw [if_pos (by rfl)]
       go_simp
       clear hH
       refine hK.out _ _ ?_ (fun hH => ?_)
       ·exact ⟨(cell_three (cell_three p0 (by omega)) (by omega)), (cell_three (cell_three p1 (by omega)) (by omega)), (cell_three (cell_three p2 (by omega)) (by omega)), (cell_three (cell_three p3 (by omega)) (by omega)), (cell_three (cell_three t0 (by omega)) (by omega)), (cell_three (cell_three t1 (by omega)) (by omega)), (cell_three (cell_three t2 (by omega)) (by omega)), (cell_three (cell_three t3 (by omega)) (by omega))⟩
       clear hK KK
       try simp only [Act.put, zq1, zq2, zq3, zq4, zq5, zq6]
       refine wpAnyH_done (by kernel_rfl) ?_ _
       clear hH
       go_wp2_with fail
       go_meet
       exact ⟨_, _, _, _, _, _, _, _, _, _, rfl, rfl, six_all kw (by omega) (by omega) (by omega) b0 b1 b2 y0 y1 y2 r1 r2 (by omega)⟩
     ·simp only [zq1, zq2, zq3]
      rw [if_pos (by rfl)]
      go_simp
      have kn := (Kept.refl 0 0 wd4).alloc (.cells #[.bool false, .slice none 0 0, .int .i64 0] 41)
      replace kw := kw.trans kn
      replace p0 := kn.cell0 p0
      replace p1 := kn.cell0 p1
      replace p2 := kn.cell0 p2
      replace p3 := kn.cell0 p3
      replace t0 := kn.cell0 t0
      replace t1 := kn.cell0 t1
      replace t2 := kn.cell0 t2
      replace t3 := kn.cell0 t3
      replace K := hide ((unhide K).trans kn)
      have z6 := kn.size
      clear kn
      have szy : wd4.heap.size < (wd4.alloc (.cells #[.bool false, .slice none 0 0, .int .i64 0] 41)).heap.size := by simp
      have y0 : (wd4.alloc (.cells #[.bool false, .slice none 0 0, .int .i64 0] 41)).cell? ⟨wd4.heap.size, 0, none⟩ = some (.bool false) := new_cell2 _ _ _ _ _ _ rfl rfl
      have yf0 : (wd4.alloc (.cells #[.bool false, .slice none 0 0, .int .i64 0] 41)).frozen? ⟨wd4.heap.size, 0, none⟩ = false := new_loose2 _ _ _ _ _ rfl
      have y1 : (wd4.alloc (.cells #[.bool false, .slice none 0 0, .int .i64 0] 41)).cell? ⟨wd4.heap.size, 1, none⟩ = some (.slice none 0 0) := new_cell2 _ _ _ _ _ _ rfl rfl
      have yf1 : (wd4.alloc (.cells #[.bool false, .slice none 0 0, .int .i64 0] 41)).frozen? ⟨wd4.heap.size, 1, none⟩ = false := new_loose2 _ _ _ _ _ rfl
      have y2 : (wd4.alloc (.cells #[.bool false, .slice none 0 0, .int .i64 0] 41)).cell? ⟨wd4.heap.size, 2, none⟩ = some (.int .i64 0) := new_cell2 _ _ _ _ _ _ rfl rfl
      have yf2 : (wd4.alloc (.cells #[.bool false, .slice none 0 0, .int .i64 0] 41)).frozen? ⟨wd4.heap.size, 2, none⟩ = false := new_loose2 _ _ _ _ _ rfl
      clear hH
      refine hK.out _ _ ?_ (fun hH => ?_)
      ·exact ⟨p0, p1, p2, p3, t0, t1, t2, t3⟩
      clear hK KK
      try simp only [Act.put, zq1, zq2, zq3, zq4, zq5, zq6]
      generalize wd4.alloc (.cells #[.bool false, .slice none 0 0, .int .i64 0] 41) = w5 at *
      refine wpAnyH_ready (rs := [1, 4]) (by kernel_rfl) (by simp) ?_
      refine AllReadyH.cons rfl (fun KK hK => ?_) (AllReadyH.cons rfl (fun KK hK => ?_) AllReadyH.nil)
      ·simp only [zq1, zq2, zq3]
       rw [if_pos (by rfl)]
       refine wps1 14 (.tmp 80) _ rfl in_l5dy_d (.agg #[.int .i64 1, .bool n1, .int .i64 m1, .int .i64 e1]) rfl (unhide hd1 _) ?_
       rintro e w7 ⟨v1, rfl, r1, k7⟩
       refine ⟨_, rfl, ?_⟩
       replace kw := kw.trans k7
       replace yf0 := k7.loose0 (zbl y0) yf0
       replace yf1 := k7.loose0 (zbl y1) yf1
       replace yf2 := k7.loose0 (zbl y2) yf2
       replace p0 := k7.cell0 p0
       replace p1 := k7.cell0 p1
       replace p2 := k7.cell0 p2
       replace p3 := k7.cell0 p3
       replace t0 := k7.cell0 t0
       replace t1 := k7.cell0 t1
       replace t2 := k7.cell0 t2
       replace t3 := k7.cell0 t3
       replace y0 := k7.cell0 y0
       replace y1 := k7.cell0 y1
       replace y2 := k7.cell0 y2
       replace K := hide ((unhide K).trans k7)
       have z8 := k7.size
       clear k7
       obtain ⟨p1', c1', hv⟩ := Row.form' r1
       subst hv
       clear hH
       refine hK.out _ _ ?_ (fun hH => ?_)
       ·exact ⟨p0, p1, p2, p3, t0, t1, t2, t3⟩
       clear hK KK
       try simp only [Act.put, zq1, zq2, zq3, zq4, zq5, zq6]
       refine wpAnyH_ready (rs := [3, 4]) (by kernel_rfl) (by simp) ?_
       refine AllReadyH.cons rfl (fun KK hK => ?_) (AllReadyH.cons rfl (fun KK hK => ?_) AllReadyH.nil)
       ·simp only [zq1, zq2, zq3]
        rw [if_pos (by rfl)]
        refine wps1 14 (.tmp 82) _ rfl in_l5dy_d (.agg #[.int .i64 1, .bool n2, .int .i64 m2, .int .i64 e2]) rfl (unhide hd2 _) ?_
        rintro e w9 ⟨v2, rfl, r2, k9⟩
        refine ⟨_, rfl, ?_⟩
        replace r1 := r1.kp k9
        replace kw := kw.trans k9
        replace yf0 := k9.loose0 (zbl y0) yf0
        replace yf1 := k9.loose0 (zbl y1) yf1
        replace yf2 := k9.loose0 (zbl y2) yf2
        replace p0 := k9.cell0 p0
        replace p1 := k9.cell0 p1
        replace p2 := k9.cell0 p2
        replace p3 := k9.cell0 p3
        replace t0 := k9.cell0 t0
        replace t1 := k9.cell0 t1
        replace t2 := k9.cell0 t2
        replace t3 := k9.cell0 t3
        replace y0 := k9.cell0 y0
        replace y1 := k9.cell0 y1
        replace y2 := k9.cell0 y2
        replace K := hide ((unhide K).trans k9)
        have z10 := k9.size
        clear k9
        obtain ⟨p2', c2', hv⟩ := Row.form' r2
        subst hv
        clear hH
        refine hK.out _ _ ?_ (fun hH => ?_)
        ·exact ⟨p0, p1, p2, p3, t0, t1, t2, t3⟩
        clear hK KK
        try simp only [Act.put, zq1, zq2, zq3, zq4, zq5, zq6]
        refine wpAnyH_ready (rs := [4]) (by kernel_rfl) (by simp) ?_
        refine AllReadyH.cons rfl (fun KK hK => ?_) AllReadyH.nil
        simp only [zq1, zq2, zq3]
        rw [if_pos (by rfl)]
        go_simp
        have kn := (Kept.refl 0 0 w9).alloc (.cells #[.bool false, .slice none 0 0, .int .i64 0] 41)
        replace r1 := r1.kp kn
        replace r2 := r2.kp kn
        replace kw := kw.trans kn
        replace yf0 := kn.loose0 (zbl y0) yf0
        replace yf1 := kn.loose0 (zbl y1) yf1
        replace yf2 := kn.loose0 (zbl y2) yf2
        replace p0 := kn.cell0 p0
        replace p1 := kn.cell0 p1
        replace p2 := kn.cell0 p2
        replace p3 := kn.cell0 p3
        replace t0 := kn.cell0 t0
        replace t1 := kn.cell0 t1
        replace t2 := kn.cell0 t2
        replace t3 := kn.cell0 t3
        replace y0 := kn.cell0 y0
        replace y1 := kn.cell0 y1
        replace y2 := kn.cell0 y2
        replace K := hide ((unhide K).trans kn)
        have z12 := kn.size
        clear kn
        have szb : w9.heap.size < (w9.alloc (.cells #[.bool false, .slice none 0 0, .int .i64 0] 41)).heap.size := by simp
        have b0 : (w9.alloc (.cells #[.bool false, .slice none 0 0, .int .i64 0] 41)).cell? ⟨w9.heap.size, 0, none⟩ = some (.bool false) := new_cell2 _ _ _ _ _ _ rfl rfl
        have bf0 : (w9.alloc (.cells #[.bool false, .slice none 0 0, .int .i64 0] 41)).frozen? ⟨w9.heap.size, 0, none⟩ = false := new_loose2 _ _ _ _ _ rfl
        have b1 : (w9.alloc (.cells #[.bool false, .slice none 0 0, .int .i64 0] 41)).cell? ⟨w9.heap.size, 1, none⟩ = some (.slice none 0 0) := new_cell2 _ _ _ _ _ _ rfl rfl
        have bf1 : (w9.alloc (.cells #[.bool false, .slice none 0 0, .int .i64 0] 41)).frozen? ⟨w9.heap.size, 1, none⟩ = false := new_loose2 _ _ _ _ _ rfl
        have b2 : (w9.alloc (.cells #[.bool false, .slice none 0 0, .int .i64 0] 41)).cell? ⟨w9.heap.size, 2, none⟩ = some (.int .i64 0) := new_cell2 _ _ _ _ _ _ rfl rfl
        have bf2 : (w9.alloc (.cells #[.bool false, .slice none 0 0, .int .i64 0] 41)).frozen? ⟨w9.heap.size, 2, none⟩ = false := new_loose2 _ _ _ _ _ rfl
        clear hH
        refine hK.out _ _ ?_ (fun hH => ?_)
        ·exact ⟨p0, p1, p2, p3, t0, t1, t2, t3⟩
        clear hK KK
        try simp only [Act.put, zq1, zq2, zq3, zq4, zq5, zq6]
        generalize w9.alloc (.cells #[.bool false, .slice none 0 0, .int .i64 0] 41) = w11 at *
        have s0 := unhide S0
        refine wpAnyH_ready (rs := [6]) (by kernel_rfl) (by simp) ?_
        refine AllReadyH.cons rfl (fun KK hK => ?_) AllReadyH.nil
        simp only [zq1, zq2, zq3]
        rw [if_pos (by rfl)]
        go_simp
        clear hH
        refine hK.out _ _ ?_ (fun hH => ?_)
        ·exact ⟨(cell_three p0 (by omega)), (cell_three p1 (by omega)), (cell_three p2 (by omega)), (cell_three p3 (by omega)), (cell_three t0 (by omega)), (cell_three t1 (by omega)), (cell_three t2 (by omega)), (cell_three t3 (by omega))⟩
        clear hK KK
        try simp only [Act.put, zq1, zq2, zq3, zq4, zq5, zq6]
        refine wpAnyH_ready (rs := [7]) (by kernel_rfl) (by simp) ?_
        refine AllReadyH.cons rfl (fun KK hK => ?_) AllReadyH.nil
        simp only [zq1, zq2, zq3]
        rw [if_pos (by rfl)]
        go_simp
        clear hH
        refine hK.out _ _ ?_ (fun hH => ?_)
        ·exact ⟨(cell_three (cell_three p0 (by omega)) (by omega)), (cell_three (cell_three p1 (by omega)) (by omega)), (cell_three (cell_three p2 (by omega)) (by omega)), (cell_three (cell_three p3 (by omega)) (by omega)), (cell_three (cell_three t0 (by omega)) (by omega)), (cell_three (cell_three t1 (by omega)) (by omega)), (cell_three (cell_three t2 (by omega)) (by omega)), (cell_three (cell_three t3 (by omega)) (by omega))⟩
        clear hK KK
        try simp only [Act.put, zq1, zq2, zq3, zq4, zq5, zq6]
        refine wpAnyH_done (by kernel_rfl) ?_ _
        clear hH
        go_wp2_with fail
        go_meet
        exact ⟨_, _, _, _, _, _, _, _, _, _, rfl, rfl, six_all kw (by omega) (by omega) (by omega) b0 b1 b2 y0 y1 y2 r1 r2 (by omega)⟩
       ·simp only [zq1, zq2, zq3]
        rw [if_pos (by rfl)]
        go_simp
        have kn := (Kept.refl 0 0 w7).alloc (.cells #[.bool false, .slice none 0 0, .int .i64 0] 41)
        replace r1 := r1.kp kn
        replace kw := kw.trans kn
        replace yf0 := kn.loose0 (zbl y0) yf0
        replace yf1 := kn.loose0 (zbl y1) yf1
        replace yf2 := kn.loose0 (zbl y2) yf2
        replace p0 := kn.cell0 p0
        replace p1 := kn.cell0 p1
        replace p2 := kn.cell0 p2
        replace p3 := kn.cell0 p3
        replace t0 := kn.cell0 t0
        replace t1 := kn.cell0 t1
        replace t2 := kn.cell0 t2
        replace t3 := kn.cell0 t3
        replace y0 := kn.cell0 y0
        replace y1 := kn.cell0 y1
        replace y2 := kn.cell0 y2
        replace K := hide ((unhide K).trans kn)
        have z10 := kn.size
        clear kn
        have szb : w7.heap.size < (w7.alloc (.cells #[.bool false, .slice none 0 0, .int .i64 0] 41)).heap.size := by simp
        have b0 : (w7.alloc (.cells #[.bool false, .slice none 0 0, .int .i64 0] 41)).cell? ⟨w7.heap.size, 0, none⟩ = some (.bool false) := new_cell2 _ _ _ _ _ _ rfl rfl
        have bf0 : (w7.alloc (.cells #[.bool false, .slice none 0 0, .int .i64 0] 41)).frozen? ⟨w7.heap.size, 0, none⟩ = false := new_loose2 _ _ _ _ _ rfl
        have b1 : (w7.alloc (.cells #[.bool false, .slice none 0 0, .int .i64 0] 41)).cell? ⟨w7.heap.size, 1, none⟩ = some (.slice none 0 0) := new_cell2 _ _ _ _ _ _ rfl rfl
        have bf1 : (w7.alloc (.cells #[.bool false, .slice none 0 0, .int .i64 0] 41)).frozen? ⟨w7.heap.size, 1, none⟩ = false := new_loose2 _ _ _ _ _ rfl
        have b2 : (w7.alloc (.cells #[.bool false, .slice none 0 0, .int .i64 0] 41)).cell? ⟨w7.heap.size, 2, none⟩ = some (.int .i64 0) := new_cell2 _ _ _ _ _ _ rfl rfl
        have bf2 : (w7.alloc (.cells #[.bool false, .slice none 0 0, .int .i64 0] 41)).frozen? ⟨w7.heap.size, 2, none⟩ = false := new_loose2 _ _ _ _ _ rfl
        clear hH
        refine hK.out _ _ ?_ (fun hH => ?_)
        ·exact ⟨p0, p1, p2, p3, t0, t1, t2, t3⟩
        clear hK KK
        try simp only [Act.put, zq1, zq2, zq3, zq4, zq5, zq6]
        generalize w7.alloc (.cells #[.bool false, .slice none 0 0, .int .i64 0] 41) = w9 at *
        refine wpAnyH_ready (rs := [3]) (by kernel_rfl) (by simp) ?_
        refine AllReadyH.cons rfl (fun KK hK => ?_) AllReadyH.nil
        simp only [zq1, zq2, zq3]
        rw [if_pos (by rfl)]
        refine wps1 14 (.tmp 82) _ rfl in_l5dy_d (.agg #[.int .i64 1, .bool n2, .int .i64 m2, .int .i64 e2]) rfl (unhide hd2 _) ?_
        rintro e w11 ⟨v2, rfl, r2, k11⟩
        refine ⟨_, rfl, ?_⟩
        replace r1 := r1.kp k11
        replace kw := kw.trans k11
        replace yf0 := k11.loose0 (zbl y0) yf0
        replace yf1 := k11.loose0 (zbl y1) yf1
        replace yf2 := k11.loose0 (zbl y2) yf2
        replace bf0 := k11.loose0 (zbl b0) bf0
        replace bf1 := k11.loose0 (zbl b1) bf1
        replace bf2 := k11.loose0 (zbl b2) bf2
        replace p0 := k11.cell0 p0
        replace p1 := k11.cell0 p1
        replace p2 := k11.cell0 p2
        replace p3 := k11.cell0 p3
        replace t0 := k11.cell0 t0
        replace t1 := k11.cell0 t1
        replace t2 := k11.cell0 t2
        replace t3 := k11.cell0 t3
        replace y0 := k11.cell0 y0
        replace y1 := k11.cell0 y1
        replace y2 := k11.cell0 y2
        replace b0 := k11.cell0 b0
        replace b1 := k11.cell0 b1
        replace b2 := k11.cell0 b2
        replace K := hide ((unhide K).trans k11)
        have z12 := k11.size
        clear k11
        obtain ⟨p2', c2', hv⟩ := Row.form' r2
        subst hv
        clear hH
        refine hK.out _ _ ?_ (fun hH => ?_)
        ·exact ⟨p0, p1, p2, p3, t0, t1, t2, t3⟩
        clear hK KK
        try simp only [Act.put, zq1, zq2, zq3, zq4, zq5, zq6]
        have s0 := unhide S0
        refine wpAnyH_ready (rs := [6]) (by kernel_rfl) (by simp) ?_
        refine AllReadyH.cons rfl (fun KK hK => ?_) AllReadyH.nil
        simp only [zq1, zq2, zq3]
        rw [if_pos (by rfl)]
        go_simp
        clear hH
        refine hK.out _ _ ?_ (fun hH => ?_)
        ·exact ⟨(cell_three p0 (by omega)), (cell_three p1 (by omega)), (cell_three p2 (by omega)), (cell_three p3 (by omega)), (cell_three t0 (by omega)), (cell_three t1 (by omega)), (cell_three t2 (by omega)), (cell_three t3 (by omega))⟩
        clear hK KK
        try simp only [Act.put, zq1, zq2, zq3, zq4, zq5, zq6]
        refine wpAnyH_ready (rs := [7]) (by kernel_rfl) (by simp) ?_
        refine AllReadyH.cons rfl (fun KK hK => ?_) AllReadyH.nil
        simp only [zq1, zq2, zq3]
        rw [if_pos (by rfl)]
        go_simp
        clear hH
        refine hK.out _ _ ?_ (fun hH => ?_)
        ·exact ⟨(cell_three (cell_three p0 (by omega)) (by omega)), (cell_three (cell_three p1 (by omega)) (by omega)), (cell_three (cell_three p2 (by omega)) (by omega)), (cell_three (cell_three p3 (by omega)) (by omega)), (cell_three (cell_three t0 (by omega)) (by omega)), (cell_three (cell_three t1 (by omega)) (by omega)), (cell_three (cell_three t2 (by omega)) (by omega)), (cell_three (cell_three t3 (by omega)) (by omega))⟩
        clear hK KK
        try simp only [Act.put, zq1, zq2, zq3, zq4, zq5, zq6]
        refine wpAnyH_done (by kernel_rfl) ?_ _
        clear hH
        go_wp2_with fail
        go_meet
        exact ⟨_, _, _, _, _, _, _, _, _, _, rfl, rfl, six_all kw (by omega) (by omega) (by omega) b0 b1 b2 y0 y1 y2 r1 r2 (by omega)⟩
      ·simp only [zq1, zq2, zq3]
       rw [if_pos (by rfl)]
       go_simp
       have kn := (Kept.refl 0 0 w5).alloc (.cells #[.bool false, .slice none 0 0, .int .i64 0] 41)
       replace kw := kw.trans kn
       replace yf0 := kn.loose0 (zbl y0) yf0
       replace yf1 := kn.loose0 (zbl y1) yf1
       replace yf2 := kn.loose0 (zbl y2) yf2
       replace p0 := kn.cell0 p0
       replace p1 := kn.cell0 p1
       replace p2 := kn.cell0 p2
       replace p3 := kn.cell0 p3
       replace t0 := kn.cell0 t0
       replace t1 := kn.cell0 t1
       replace t2 := kn.cell0 t2
       replace t3 := kn.cell0 t3
       replace y0 := kn.cell0 y0
       replace y1 := kn.cell0 y1
       replace y2 := kn.cell0 y2
       replace K := hide ((unhide K).trans kn)
       have z8 := kn.size
       clear kn
       have szb : w5.heap.size < (w5.alloc (.cells #[.bool false, .slice none 0 0, .int .i64 0] 41)).heap.size := by simp
       have b0 : (w5.alloc (.cells #[.bool false, .slice none 0 0, .int .i64 0] 41)).cell? ⟨w5.heap.size, 0, none⟩ = some (.bool false) := new_cell2 _ _ _ _ _ _ rfl rfl
       have bf0 : (w5.alloc (.cells #[.bool false, .slice none 0 0, .int .i64 0] 41)).frozen? ⟨w5.heap.size, 0, none⟩ = false := new_loose2 _ _ _ _ _ rfl
       have b1 : (w5.alloc (.cells #[.bool false, .slice none 0 0, .int .i64 0] 41)).cell? ⟨w5.heap.size, 1, none⟩ = some (.slice none 0 0) := new_cell2 _ _ _ _ _ _ rfl rfl
       have bf1 : (w5.alloc (.cells #[.bool false, .slice none 0 0, .int .i64 0] 41)).frozen? ⟨w5.heap.size, 1, none⟩ = false := new_loose2 _ _ _ _ _ rfl
       have b2 : (w5.alloc (.cells #[.bool false, .slice none 0 0, .int .i64 0] 41)).cell? ⟨w5.heap.size, 2, none⟩ = some (.int .i64 0) := new_cell2 _ _ _ _ _ _ rfl rfl
       have bf2 : (w5.alloc (.cells #[.bool false, .slice none 0 0, .int .i64 0] 41)).frozen? ⟨w5.heap.size, 2, none⟩ = false := new_loose2 _ _ _ _ _ rfl
       clear hH
       refine hK.out _ _ ?_ (fun hH => ?_)
       ·exact ⟨p0, p1, p2, p3, t0, t1, t2, t3⟩
       clear hK KK
       try simp only [Act.put, zq1, zq2, zq3, zq4, zq5, zq6]
       generalize w5.alloc (.cells #[.bool false, .slice none 0 0, .int .i64 0] 41) = w7 at *
       refine wpAnyH_ready (rs := [1]) (by kernel_rfl) (by simp) ?_
       refine AllReadyH.cons rfl (fun KK hK => ?_) AllReadyH.nil
       simp only [zq1, zq2, zq3]
       rw [if_pos (by rfl)]
       refine wps1 14 (.tmp 80) _ rfl in_l5dy_d (.agg #[.int .i64 1, .bool n1, .int .i64 m1, .int .i64 e1]) rfl (unhide hd1 _) ?_
       rintro e w9 ⟨v1, rfl, r1, k9⟩
       refine ⟨_, rfl, ?_⟩
       replace kw := kw.trans k9
       replace yf0 := k9.loose0 (zbl y0) yf0
       replace yf1 := k9.loose0 (zbl y1) yf1
       replace yf2 := k9.loose0 (zbl y2) yf2
       replace bf0 := k9.loose0 (zbl b0) bf0
       replace bf1 := k9.loose0 (zbl b1) bf1
       replace bf2 := k9.loose0 (zbl b2) bf2
       replace p0 := k9.cell0 p0
       replace p1 := k9.cell0 p1
       replace p2 := k9.cell0 p2
       replace p3 := k9.cell0 p3
       replace t0 := k9.cell0 t0
       replace t1 := k9.cell0 t1
       replace t2 := k9.cell0 t2
       replace t3 := k9.cell0 t3
       replace y0 := k9.cell0 y0
       replace y1 := k9.cell0 y1
       replace y2 := k9.cell0 y2
       replace b0 := k9.cell0 b0
       replace b1 := k9.cell0 b1
       replace b2 := k9.cell0 b2
       replace K := hide ((unhide K).trans k9)
       have z10 := k9.size
       clear k9
       obtain ⟨p1', c1', hv⟩ := Row.form' r1
       subst hv
       clear hH
       refine hK.out _ _ ?_ (fun hH => ?_)
       ·exact ⟨p0, p1, p2, p3, t0, t1, t2, t3⟩
       clear hK KK
       try simp only [Act.put, zq1, zq2, zq3, zq4, zq5, zq6]
       refine wpAnyH_ready (rs := [3]) (by kernel_rfl) (by simp) ?_
       refine AllReadyH.cons rfl (fun KK hK => ?_) AllReadyH.nil
       simp only [zq1, zq2, zq3]
       rw [if_pos (by rfl)]
       refine wps1 14 (.tmp 82) _ rfl in_l5dy_d (.agg #[.int .i64 1, .bool n2, .int .i64 m2, .int .i64 e2]) rfl (unhide hd2 _) ?_
       rintro e w11 ⟨v2, rfl, r2, k11⟩
       refine ⟨_, rfl, ?_⟩
       replace r1 := r1.kp k11
       replace kw := kw.trans k11
       replace yf0 := k11.loose0 (zbl y0) yf0
       replace yf1 := k11.loose0 (zbl y1) yf1
       replace yf2 := k11.loose0 (zbl y2) yf2
       replace bf0 := k11.loose0 (zbl b0) bf0
       replace bf1 := k11.loose0 (zbl b1) bf1
       replace bf2 := k11.loose0 (zbl b2) bf2
       replace p0 := k11.cell0 p0
       replace p1 := k11.cell0 p1
       replace p2 := k11.cell0 p2
       replace p3 := k11.cell0 p3
       replace t0 := k11.cell0 t0
       replace t1 := k11.cell0 t1
       replace t2 := k11.cell0 t2
       replace t3 := k11.cell0 t3
       replace y0 := k11.cell0 y0
       replace y1 := k11.cell0 y1
       replace y2 := k11.cell0 y2
       replace b0 := k11.cell0 b0
       replace b1 := k11.cell0 b1
       replace b2 := k11.cell0 b2
       replace K := hide ((unhide K).trans k11)
       have z12 := k11.size
       clear k11
       obtain ⟨p2', c2', hv⟩ := Row.form' r2
       subst hv
       clear hH
       refine hK.out _ _ ?_ (fun hH => ?_)
       ·exact ⟨p0, p1, p2, p3, t0, t1, t2, t3⟩
       clear hK KK
       try simp only [Act.put, zq1, zq2, zq3, zq4, zq5, zq6]
       have s0 := unhide S0
       refine wpAnyH_ready (rs := [6]) (by kernel_rfl) (by simp) ?_
       refine AllReadyH.cons rfl (fun KK hK => ?_) AllReadyH.nil
       simp only [zq1, zq2, zq3]
       rw [if_pos (by rfl)]
       go_simp
       clear hH
       refine hK.out _ _ ?_ (fun hH => ?_)
       ·exact ⟨(cell_three p0 (by omega)), (cell_three p1 (by omega)), (cell_three p2 (by omega)), (cell_three p3 (by omega)), (cell_three t0 (by omega)), (cell_three t1 (by omega)), (cell_three t2 (by omega)), (cell_three t3 (by omega))⟩
       clear hK KK
       try simp only [Act.put, zq1, zq2, zq3, zq4, zq5, zq6]
       refine wpAnyH_ready (rs := [7]) (by kernel_rfl) (by simp) ?_
       refine AllReadyH.cons rfl (fun KK hK => ?_) AllReadyH.nil
       simp only [zq1, zq2, zq3]
       rw [if_pos (by rfl)]
       go_simp
       clear hH
       refine hK.out _ _ ?_ (fun hH => ?_)
       ·exact ⟨(cell_three (cell_three p0 (by omega)) (by omega)), (cell_three (cell_three p1 (by omega)) (by omega)), (cell_three (cell_three p2 (by omega)) (by omega)), (cell_three (cell_three p3 (by omega)) (by omega)), (cell_three (cell_three t0 (by omega)) (by omega)), (cell_three (cell_three t1 (by omega)) (by omega)), (cell_three (cell_three t2 (by omega)) (by omega)), (cell_three (cell_three t3 (by omega)) (by omega))⟩
       clear hK KK
       try simp only [Act.put, zq1, zq2, zq3, zq4, zq5, zq6]
       refine wpAnyH_done (by kernel_rfl) ?_ _
       clear hH
       go_wp2_with fail
       go_meet
       exact ⟨_, _, _, _, _, _, _, _, _, _, rfl, rfl, six_all kw (by omega) (by omega) (by omega) b0 b1 b2 y0 y1 y2 r1 r2 (by omega)⟩
    case rest =>
     obtain ⟨XX, YY, p1', c1', p2', c2', l1', h1', l2', h2', rfl, rfl, db1, db2, r1, r2, kx⟩ := hcut
     replace qf0 := kx.loose0 (zbl q0) qf0
     replace qf1 := kx.loose0 (zbl q1) qf1
     replace qf2 := kx.loose0 (zbl q2) qf2
     replace qf3 := kx.loose0 (zbl q3) qf3
     replace p0 := kx.cell0 p0
     replace p1 := kx.cell0 p1
     replace p2 := kx.cell0 p2
     replace p3 := kx.cell0 p3
     replace t0 := kx.cell0 t0
     replace t1 := kx.cell0 t1
     replace t2 := kx.cell0 t2
     replace t3 := kx.cell0 t3
     replace q0 := kx.cell0 q0
     replace q1 := kx.cell0 q1
     replace q2 := kx.cell0 q2
     replace q3 := kx.cell0 q3
     replace K := hide ((unhide K).trans kx)
     have z3 := kx.size
     clear kx p0 p1 p2 p3 t0 t1 t2 t3 hd1 hd2
     have b0 := db1.c0
     have b1 := db1.c1
     have b2 := db1.c2
     have y0 := db2.c0
     have y1 := db2.c1
     have y2 := db2.c2
     clear db1 db2
     generalize hwc : wc = wa at *
     clear hwc
     go_upto_region 15 with fail
     have kd := (Kept.refl 0 0 wa).drew
     replace r1 := r1.kp kd
     replace r2 := r2.kp kd
     replace qf0 := kd.loose0 (zbl q0) qf0
     replace qf1 := kd.loose0 (zbl q1) qf1
     replace qf2 := kd.loose0 (zbl q2) qf2
     replace qf3 := kd.loose0 (zbl q3) qf3
     replace q0 := kd.cell0 q0
     replace q1 := kd.cell0 q1
     replace q2 := kd.cell0 q2
     replace q3 := kd.cell0 q3
     replace b0 := kd.cell0 b0
     replace b1 := kd.cell0 b1
     replace b2 := kd.cell0 b2
     replace y0 := kd.cell0 y0
     replace y1 := kd.cell0 y1
     replace y2 := kd.cell0 y2
     replace K := hide ((unhide K).trans kd)
     have z4 := kd.size
     clear kd
     refine wp_region_held_drew (S := (fun w' => w'.cell? ⟨XX, 0, none⟩ = some (.bool n1) ∧ w'.cell? ⟨XX, 1, none⟩ = some (.slice p1' z1.length c1') ∧ w'.cell? ⟨XX, 2, none⟩ = some (.int .i64 x1) ∧ w'.cell? ⟨YY, 0, none⟩ = some (.bool n2) ∧ w'.cell? ⟨YY, 1, none⟩ = some (.slice p2' z2.length c2') ∧ w'.cell? ⟨YY, 2, none⟩ = some (.int .i64 x2))) (by kernel_rfl) ?_ (fun hH => ?_)
     ·exact ⟨b0, b1, b2, y0, y1, y2⟩
     generalize wa.drew = wd5 at *
     refine wpAnyH_take (i := 0) (v := .agg #[.bool n1, .slice p1' z1.length c1', .int .i64 x1]) rfl (by kernel_rfl) (by kernel_rfl) (by kernel_rfl) (fun _ _ _ h => h) (Or.inl ⟨by rfl, ?_⟩) hH ?_
     ·intro wq hSw
      try dsimp only at hSw
      go_simp
     try simp only [Act.put, zq1, zq2, zq3, zq4, zq5, zq6]
     refine wpAnyH_take (i := 2) (v := .agg #[.bool n2, .slice p2' z2.length c2', .int .i64 x2]) rfl (by kernel_rfl) (by kernel_rfl) (by kernel_rfl) (fun _ _ _ h => h) (Or.inl ⟨by rfl, ?_⟩) hH ?_
     ·intro wq hSw
      try dsimp only at hSw
      go_simp
     try simp only [Act.put, zq1, zq2, zq3, zq4, zq5, zq6]
     refine wpAnyH_ready (rs := [1]) (by kernel_rfl) (by simp) ?_
     refine AllReadyH.cons rfl (fun KK hK => ?_) AllReadyH.nil
     simp only [zq1, zq2, zq3]
     rw [if_pos (by rfl)]
     refine wps1 15 (.tmp 84) _ rfl in_l4top_d (.agg #[.bool n1, .slice p1' z1.length c1', .int .i64 x1]) rfl (Calls.mono (top4_spec n1 x1 (by omega) (by omega) _ r1 hn1 (by omega)) (fun e w' h => (show e = .returned (.int .i64 T1) ∧ Kept 0 0 _ w' from ⟨by rw [h.1, unhide HT1], h.2⟩))) ?_
     rintro e w6 ⟨rfl, k6⟩
     refine ⟨_, rfl, ?_⟩
     replace r1 := r1.kp k6
     replace r2 := r2.kp k6
     replace qf0 := k6.loose0 (zbl q0) qf0
     replace qf1 := k6.loose0 (zbl q1) qf1
     replace qf2 := k6.loose0 (zbl q2) qf2
     replace qf3 := k6.loose0 (zbl q3) qf3
     replace q0 := k6.cell0 q0
     replace q1 := k6.cell0 q1
     replace q2 := k6.cell0 q2
     replace q3 := k6.cell0 q3
     replace b0 := k6.cell0 b0
     replace b1 := k6.cell0 b1
     replace b2 := k6.cell0 b2
     replace y0 := k6.cell0 y0
     replace y1 := k6.cell0 y1
     replace y2 := k6.cell0 y2
     replace K := hide ((unhide K).trans k6)
     have z7 := k6.size
     clear k6
     clear hH
     refine hK.out _ _ ?_ (fun hH => ?_)
     ·exact ⟨b0, b1, b2, y0, y1, y2⟩
     clear hK KK
     try simp only [Act.put, zq1, zq2, zq3, zq4, zq5, zq6]
     refine wpAnyH_ready (rs := [3]) (by kernel_rfl) (by simp) ?_
     refine AllReadyH.cons rfl (fun KK hK => ?_) AllReadyH.nil
     simp only [zq1, zq2, zq3]
     rw [if_pos (by rfl)]
     refine wps1 15 (.tmp 86) _ rfl in_l4top_d (.agg #[.bool n2, .slice p2' z2.length c2', .int .i64 x2]) rfl (Calls.mono (top4_spec n2 x2 (by omega) (by omega) _ r2 hn2 (by omega)) (fun e w' h => (show e = .returned (.int .i64 T2) ∧ Kept 0 0 _ w' from ⟨by rw [h.1, unhide HT2], h.2⟩))) ?_
     rintro e w8 ⟨rfl, k8⟩
     refine ⟨_, rfl, ?_⟩
     replace r1 := r1.kp k8
     replace r2 := r2.kp k8
     replace qf0 := k8.loose0 (zbl q0) qf0
     replace qf1 := k8.loose0 (zbl q1) qf1
     replace qf2 := k8.loose0 (zbl q2) qf2
     replace qf3 := k8.loose0 (zbl q3) qf3
     replace q0 := k8.cell0 q0
     replace q1 := k8.cell0 q1
     replace q2 := k8.cell0 q2
     replace q3 := k8.cell0 q3
     replace b0 := k8.cell0 b0
     replace b1 := k8.cell0 b1
     replace b2 := k8.cell0 b2
     replace y0 := k8.cell0 y0
     replace y1 := k8.cell0 y1
     replace y2 := k8.cell0 y2
     replace K := hide ((unhide K).trans k8)
     have z9 := k8.size
     clear k8
     clear hH
     refine hK.out _ _ ?_ (fun hH => ?_)
     ·exact ⟨b0, b1, b2, y0, y1, y2⟩
     clear hK KK
     try simp only [Act.put, zq1, zq2, zq3, zq4, zq5, zq6]
     refine wpAnyH_take (i := 4) (v := .int .i64 (T1 - T2)) rfl (by kernel_rfl) (by kernel_rfl) (by kernel_rfl) (fun _ _ _ h => h) (Or.inl ⟨by rfl, ?_⟩) hH ?_
     ·intro wq hSw
      try dsimp only at hSw
      go_simp
     try simp only [Act.put, zq1, zq2, zq3, zq4, zq5, zq6]
     refine wpAnyH_take (i := 5) (v := .int .i64 (T1 - T2 - 53)) rfl (by kernel_rfl) (by kernel_rfl) (by kernel_rfl) (fun _ _ _ h => h) (Or.inl ⟨by rfl, ?_⟩) hH ?_
     ·intro wq hSw
      try dsimp only at hSw
      go_simp
     try simp only [Act.put, zq1, zq2, zq3, zq4, zq5, zq6]
     refine wpAnyH_take (i := 6) (v := .int .i64 LW) rfl (by kernel_rfl) (by kernel_rfl) (by kernel_rfl) (fun _ _ _ h => h) (Or.inl ⟨by rfl, ?_⟩) hH ?_
     ·intro wq hSw
      try dsimp only at hSw
      go_simp
     try simp only [Act.put, zq1, zq2, zq3, zq4, zq5, zq6]
     refine wpAnyH_take (i := 7) (v := .int .i64 LW) rfl (by kernel_rfl) (by kernel_rfl) (by kernel_rfl) (fun _ _ _ h => h) (Or.inl ⟨by rfl, ?_⟩) hH ?_
     ·intro wq hSw
      try dsimp only at hSw
      go_simp
     try simp only [Act.put, zq1, zq2, zq3, zq4, zq5, zq6]
     refine wpAnyH_done (by kernel_rfl) ?_ _
     clear hH
     go_wp2_with fail
     refine (unhide HMQ _ r1 r2).mono ?_
     rintro e' wq1 ⟨v3, rfl, r3, kq⟩
     replace r1 := r1.kp kq
     replace r2 := r2.kp kq
     replace qf0 := kq.loose0 (zbl q0) qf0
     replace qf1 := kq.loose0 (zbl q1) qf1
     replace qf2 := kq.loose0 (zbl q2) qf2
     replace qf3 := kq.loose0 (zbl q3) qf3
     replace q0 := kq.cell0 q0
     replace q1 := kq.cell0 q1
     replace q2 := kq.cell0 q2
     replace q3 := kq.cell0 q3
     replace b0 := kq.cell0 b0
     replace b1 := kq.cell0 b1
     replace b2 := kq.cell0 b2
     replace y0 := kq.cell0 y0
     replace y1 := kq.cell0 y1
     replace y2 := kq.cell0 y2
     replace K := hide ((unhide K).trans kq)
     have z10 := kq.size
     clear kq
     clear b0 b1 b2 y0 y1 y2 r1 r2
     go_wp2_with fail
     refine (unhide HMR _ r3).mono ?_
     rintro e' wq2 ⟨rfl, kq⟩
     replace r3 := r3.kp kq
     replace qf0 := kq.loose0 (zbl q0) qf0
     replace qf1 := kq.loose0 (zbl q1) qf1
     replace qf2 := kq.loose0 (zbl q2) qf2
     replace qf3 := kq.loose0 (zbl q3) qf3
     replace q0 := kq.cell0 q0
     replace q1 := kq.cell0 q1
     replace q2 := kq.cell0 q2
     replace q3 := kq.cell0 q3
     replace K := hide ((unhide K).trans kq)
     have z11 := kq.size
     clear kq r3
     have KF := hide (((((unhide K).setNew (p := ⟨w.heap.size + 2, 0, none⟩) (by simp) (.int .i64 A.1)).setNew (p := ⟨w.heap.size + 2, 1, none⟩) (by simp) (.bool SG)).setNew (p := ⟨w.heap.size + 2, 2, none⟩) (by simp) (.int .i64 A.2.1)).setNew (p := ⟨w.heap.size + 2, 3, none⟩) (by simp) (.int .i64 A.2.2))
     clear K
     try go_wp2_with fail
     exact bodyPost_ret (v := .tuple #[.agg #[.int .i64 A.1, .bool SG, .int .i64 A.2.1, .int .i64 A.2.2], .int .i64 GG]) (by simp [results, Tryd.results5, go_sem, q0, q1, q2, q3]) rfl ⟨by rw [unhide FQ], unhide KF⟩
   ·clear h1 h2
    have FQ : Hid (Q = ((2, !(n1 == n2), 0, 0), 8)) := by show _ = _; rw [← unhide HM]; unfold dvQ; simp
    clear HM HQ
    have hne : (n1 != n2) = !(n1 == n2) := rfl
    have KF := hide (((((unhide K).setNew (p := ⟨w.heap.size + 2, 0, none⟩) (by simp) (.int .i64 2)).setNew (p := ⟨w.heap.size + 2, 1, none⟩) (by simp) (.bool (!(n1 == n2)))).setNew (p := ⟨w.heap.size + 2, 2, none⟩) (by simp) (.int .i64 0)).setNew (p := ⟨w.heap.size + 2, 3, none⟩) (by simp) (.int .i64 0))
    clear K
    try go_wp2_with fail
    exact bodyPost_ret (v := .tuple #[.agg #[.int .i64 2, .bool (!(n1 == n2)), .int .i64 0, .int .i64 0], .int .i64 8]) (by simp [results, Tryd.results5, go_sem, q0, q1, q2, q3]) rfl ⟨by rw [unhide FQ], unhide KF⟩
   ·clear h1 h2
    have FQ : Hid (Q = ((0, !(n1 == n2), 0, 0), 0)) := by show _ = _; rw [← unhide HM]; unfold dvQ; simp
    clear HM HQ
    have hne : (n1 != n2) = !(n1 == n2) := rfl
    have KF := hide (((((unhide K).setNew (p := ⟨w.heap.size + 2, 0, none⟩) (by simp) (.int .i64 0)).setNew (p := ⟨w.heap.size + 2, 1, none⟩) (by simp) (.bool (!(n1 == n2)))).setNew (p := ⟨w.heap.size + 2, 2, none⟩) (by simp) (.int .i64 0)).setNew (p := ⟨w.heap.size + 2, 3, none⟩) (by simp) (.int .i64 0))
    clear K
    try go_wp2_with fail
    exact bodyPost_ret (v := .tuple #[.agg #[.int .i64 0, .bool (!(n1 == n2)), .int .i64 0, .int .i64 0], .int .i64 0]) (by simp [results, Tryd.results5, go_sem, q0, q1, q2, q3]) rfl ⟨by rw [unhide FQ], unhide KF⟩
   ·clear h1 h2
    have FQ : Hid (Q = ((3, false, 0, 0), 0)) := by show _ = _; rw [← unhide HM]; unfold dvQ; simp
    clear HM HQ
    go_wp2_with fail
    refine (nan_kept _).mono ?_
    rintro e w3 ⟨rfl, k3⟩
    replace qf0 := k3.loose0 (zbl q0) qf0
    replace qf1 := k3.loose0 (zbl q1) qf1
    replace qf2 := k3.loose0 (zbl q2) qf2
    replace qf3 := k3.loose0 (zbl q3) qf3
    replace p0 := k3.cell0 p0
    replace p1 := k3.cell0 p1
    replace p2 := k3.cell0 p2
    replace p3 := k3.cell0 p3
    replace t0 := k3.cell0 t0
    replace t1 := k3.cell0 t1
    replace t2 := k3.cell0 t2
    replace t3 := k3.cell0 t3
    replace q0 := k3.cell0 q0
    replace q1 := k3.cell0 q1
    replace q2 := k3.cell0 q2
    replace q3 := k3.cell0 q3
    replace K := hide ((unhide K).trans k3)
    have z4 := k3.size
    clear k3
    have KF := hide (((((unhide K).setNew (p := ⟨w.heap.size + 2, 0, none⟩) (by simp) (.int .i64 3)).setNew (p := ⟨w.heap.size + 2, 1, none⟩) (by simp) (.bool false)).setNew (p := ⟨w.heap.size + 2, 2, none⟩) (by simp) (.int .i64 0)).setNew (p := ⟨w.heap.size + 2, 3, none⟩) (by simp) (.int .i64 0))
    clear K
    try go_wp2_with fail
    exact bodyPost_ret (v := .tuple #[.agg #[.int .i64 3, .bool false, .int .i64 0, .int .i64 0], .int .i64 0]) (by simp [results, Tryd.results5, go_sem, q0, q1, q2, q3]) rfl ⟨by rw [unhide FQ], unhide KF⟩
  ·rcases flok_ways h2 with ⟨rfl, a12, a22, a32, a42, -⟩ | ⟨rfl, rfl, rfl⟩ | ⟨rfl, rfl, rfl⟩ | ⟨rfl, rfl, rfl, rfl⟩
   ·clear h1 h2
    have FQ : Hid (Q = ((0, !(n1 == n2), 0, 0), 0)) := by show _ = _; rw [← unhide HM]; unfold dvQ; simp
    clear HM HQ
    have hne : (n1 != n2) = !(n1 == n2) := rfl
    have KF := hide (((((unhide K).setNew (p := ⟨w.heap.size + 2, 0, none⟩) (by simp) (.int .i64 0)).setNew (p := ⟨w.heap.size + 2, 1, none⟩) (by simp) (.bool (!(n1 == n2)))).setNew (p := ⟨w.heap.size + 2, 2, none⟩) (by simp) (.int .i64 0)).setNew (p := ⟨w.heap.size + 2, 3, none⟩) (by simp) (.int .i64 0))
    clear K
    try go_wp2_with fail
    exact bodyPost_ret (v := .tuple #[.agg #[.int .i64 0, .bool (!(n1 == n2)), .int .i64 0, .int .i64 0], .int .i64 0]) (by simp [results, Tryd.results5, go_sem, q0, q1, q2, q3]) rfl ⟨by rw [unhide FQ], unhide KF⟩
   ·clear h1 h2
    have FQ : Hid (Q = ((3, false, 0, 0), 16)) := by show _ = _; rw [← unhide HM]; unfold dvQ; simp
    clear HM HQ
    go_wp2_with fail
    refine (bad_spec _).mono ?_
    rintro e w3 ⟨rfl, k3⟩
    replace qf0 := k3.loose0 (zbl q0) qf0
    replace qf1 := k3.loose0 (zbl q1) qf1
    replace qf2 := k3.loose0 (zbl q2) qf2
    replace qf3 := k3.loose0 (zbl q3) qf3
    replace p0 := k3.cell0 p0
    replace p1 := k3.cell0 p1
    replace p2 := k3.cell0 p2
    replace p3 := k3.cell0 p3
    replace t0 := k3.cell0 t0
    replace t1 := k3.cell0 t1
    replace t2 := k3.cell0 t2
    replace t3 := k3.cell0 t3
    replace q0 := k3.cell0 q0
    replace q1 := k3.cell0 q1
    replace q2 := k3.cell0 q2
    replace q3 := k3.cell0 q3
    replace K := hide ((unhide K).trans k3)
    have z4 := k3.size
    clear k3
    have KF := hide (((((unhide K).setNew (p := ⟨w.heap.size + 2, 0, none⟩) (by simp) (.int .i64 3)).setNew (p := ⟨w.heap.size + 2, 1, none⟩) (by simp) (.bool false)).setNew (p := ⟨w.heap.size + 2, 2, none⟩) (by simp) (.int .i64 0)).setNew (p := ⟨w.heap.size + 2, 3, none⟩) (by simp) (.int .i64 0))
    clear K
    try go_wp2_with fail
    exact bodyPost_ret (v := .tuple #[.agg #[.int .i64 3, .bool false, .int .i64 0, .int .i64 0], .int .i64 16]) (by simp [results, Tryd.results5, go_sem, q0, q1, q2, q3]) rfl ⟨by rw [unhide FQ], unhide KF⟩
   ·clear h1 h2
    have FQ : Hid (Q = ((0, !(n1 == n2), 0, 0), 0)) := by show _ = _; rw [← unhide HM]; unfold dvQ; simp
    clear HM HQ
    have hne : (n1 != n2) = !(n1 == n2) := rfl
    have KF := hide (((((unhide K).setNew (p := ⟨w.heap.size + 2, 0, none⟩) (by simp) (.int .i64 0)).setNew (p := ⟨w.heap.size + 2, 1, none⟩) (by simp) (.bool (!(n1 == n2)))).setNew (p := ⟨w.heap.size + 2, 2, none⟩) (by simp) (.int .i64 0)).setNew (p := ⟨w.heap.size + 2, 3, none⟩) (by simp) (.int .i64 0))
    clear K
    try go_wp2_with fail
    exact bodyPost_ret (v := .tuple #[.agg #[.int .i64 0, .bool (!(n1 == n2)), .int .i64 0, .int .i64 0], .int .i64 0]) (by simp [results, Tryd.results5, go_sem, q0, q1, q2, q3]) rfl ⟨by rw [unhide FQ], unhide KF⟩
   ·clear h1 h2
    have FQ : Hid (Q = ((3, false, 0, 0), 0)) := by show _ = _; rw [← unhide HM]; unfold dvQ; simp
    clear HM HQ
    go_wp2_with fail
    refine (nan_kept _).mono ?_
    rintro e w3 ⟨rfl, k3⟩
    replace qf0 := k3.loose0 (zbl q0) qf0
    replace qf1 := k3.loose0 (zbl q1) qf1
    replace qf2 := k3.loose0 (zbl q2) qf2
    replace qf3 := k3.loose0 (zbl q3) qf3
    replace p0 := k3.cell0 p0
    replace p1 := k3.cell0 p1
    replace p2 := k3.cell0 p2
    replace p3 := k3.cell0 p3
    replace t0 := k3.cell0 t0
    replace t1 := k3.cell0 t1
    replace t2 := k3.cell0 t2
    replace t3 := k3.cell0 t3
    replace q0 := k3.cell0 q0
    replace q1 := k3.cell0 q1
    replace q2 := k3.cell0 q2
    replace q3 := k3.cell0 q3
    replace K := hide ((unhide K).trans k3)
    have z4 := k3.size
    clear k3
    have KF := hide (((((unhide K).setNew (p := ⟨w.heap.size + 2, 0, none⟩) (by simp) (.int .i64 3)).setNew (p := ⟨w.heap.size + 2, 1, none⟩) (by simp) (.bool false)).setNew (p := ⟨w.heap.size + 2, 2, none⟩) (by simp) (.int .i64 0)).setNew (p := ⟨w.heap.size + 2, 3, none⟩) (by simp) (.int .i64 0))
    clear K
    try go_wp2_with fail
    exact bodyPost_ret (v := .tuple #[.agg #[.int .i64 3, .bool false, .int .i64 0, .int .i64 0], .int .i64 0]) (by simp [results, Tryd.results5, go_sem, q0, q1, q2, q3]) rfl ⟨by rw [unhide FQ], unhide KF⟩
  ·rcases flok_ways h2 with ⟨rfl, a12, a22, a32, a42, -⟩ | ⟨rfl, rfl, rfl⟩ | ⟨rfl, rfl, rfl⟩ | ⟨rfl, rfl, rfl, rfl⟩
   ·clear h1 h2
    have FQ : Hid (Q = ((2, !(n1 == n2), 0, 0), 0)) := by show _ = _; rw [← unhide HM]; unfold dvQ; simp
    clear HM HQ
    have hne : (n1 != n2) = !(n1 == n2) := rfl
    have KF := hide (((((unhide K).setNew (p := ⟨w.heap.size + 2, 0, none⟩) (by simp) (.int .i64 2)).setNew (p := ⟨w.heap.size + 2, 1, none⟩) (by simp) (.bool (!(n1 == n2)))).setNew (p := ⟨w.heap.size + 2, 2, none⟩) (by simp) (.int .i64 0)).setNew (p := ⟨w.heap.size + 2, 3, none⟩) (by simp) (.int .i64 0))
    clear K
    try go_wp2_with fail
    exact bodyPost_ret (v := .tuple #[.agg #[.int .i64 2, .bool (!(n1 == n2)), .int .i64 0, .int .i64 0], .int .i64 0]) (by simp [results, Tryd.results5, go_sem, q0, q1, q2, q3]) rfl ⟨by rw [unhide FQ], unhide KF⟩
   ·clear h1 h2
    have FQ : Hid (Q = ((2, !(n1 == n2), 0, 0), 0)) := by show _ = _; rw [← unhide HM]; unfold dvQ; simp
    clear HM HQ
    have hne : (n1 != n2) = !(n1 == n2) := rfl
    have KF := hide (((((unhide K).setNew (p := ⟨w.heap.size + 2, 0, none⟩) (by simp) (.int .i64 2)).setNew (p := ⟨w.heap.size + 2, 1, none⟩) (by simp) (.bool (!(n1 == n2)))).setNew (p := ⟨w.heap.size + 2, 2, none⟩) (by simp) (.int .i64 0)).setNew (p := ⟨w.heap.size + 2, 3, none⟩) (by simp) (.int .i64 0))
    clear K
    try go_wp2_with fail
    exact bodyPost_ret (v := .tuple #[.agg #[.int .i64 2, .bool (!(n1 == n2)), .int .i64 0, .int .i64 0], .int .i64 0]) (by simp [results, Tryd.results5, go_sem, q0, q1, q2, q3]) rfl ⟨by rw [unhide FQ], unhide KF⟩
   ·clear h1 h2
    have FQ : Hid (Q = ((3, false, 0, 0), 16)) := by show _ = _; rw [← unhide HM]; unfold dvQ; simp
    clear HM HQ
    go_wp2_with fail
    refine (bad_spec _).mono ?_
    rintro e w3 ⟨rfl, k3⟩
    replace qf0 := k3.loose0 (zbl q0) qf0
    replace qf1 := k3.loose0 (zbl q1) qf1
    replace qf2 := k3.loose0 (zbl q2) qf2
    replace qf3 := k3.loose0 (zbl q3) qf3
    replace p0 := k3.cell0 p0
    replace p1 := k3.cell0 p1
    replace p2 := k3.cell0 p2
    replace p3 := k3.cell0 p3
    replace t0 := k3.cell0 t0
    replace t1 := k3.cell0 t1
    replace t2 := k3.cell0 t2
    replace t3 := k3.cell0 t3
    replace q0 := k3.cell0 q0
    replace q1 := k3.cell0 q1
    replace q2 := k3.cell0 q2
    replace q3 := k3.cell0 q3
    replace K := hide ((unhide K).trans k3)
    have z4 := k3.size
    clear k3
    have KF := hide (((((unhide K).setNew (p := ⟨w.heap.size + 2, 0, none⟩) (by simp) (.int .i64 3)).setNew (p := ⟨w.heap.size + 2, 1, none⟩) (by simp) (.bool false)).setNew (p := ⟨w.heap.size + 2, 2, none⟩) (by simp) (.int .i64 0)).setNew (p := ⟨w.heap.size + 2, 3, none⟩) (by simp) (.int .i64 0))
    clear K
    try go_wp2_with fail
    exact bodyPost_ret (v := .tuple #[.agg #[.int .i64 3, .bool false, .int .i64 0, .int .i64 0], .int .i64 16]) (by simp [results, Tryd.results5, go_sem, q0, q1, q2, q3]) rfl ⟨by rw [unhide FQ], unhide KF⟩
   ·clear h1 h2
    have FQ : Hid (Q = ((3, false, 0, 0), 0)) := by show _ = _; rw [← unhide HM]; unfold dvQ; simp
    clear HM HQ
    go_wp2_with fail
    refine (nan_kept _).mono ?_
    rintro e w3 ⟨rfl, k3⟩
    replace qf0 := k3.loose0 (zbl q0) qf0
    replace qf1 := k3.loose0 (zbl q1) qf1
    replace qf2 := k3.loose0 (zbl q2) qf2
    replace qf3 := k3.loose0 (zbl q3) qf3
    replace p0 := k3.cell0 p0
    replace p1 := k3.cell0 p1
    replace p2 := k3.cell0 p2
    replace p3 := k3.cell0 p3
    replace t0 := k3.cell0 t0
    replace t1 := k3.cell0 t1
    replace t2 := k3.cell0 t2
    replace t3 := k3.cell0 t3
    replace q0 := k3.cell0 q0
    replace q1 := k3.cell0 q1
    replace q2 := k3.cell0 q2
    replace q3 := k3.cell0 q3
    replace K := hide ((unhide K).trans k3)
    have z4 := k3.size
    clear k3
    have KF := hide (((((unhide K).setNew (p := ⟨w.heap.size + 2, 0, none⟩) (by simp) (.int .i64 3)).setNew (p := ⟨w.heap.size + 2, 1, none⟩) (by simp) (.bool false)).setNew (p := ⟨w.heap.size + 2, 2, none⟩) (by simp) (.int .i64 0)).setNew (p := ⟨w.heap.size + 2, 3, none⟩) (by simp) (.int .i64 0))
    clear K
    try go_wp2_with fail
    exact bodyPost_ret (v := .tuple #[.agg #[.int .i64 3, .bool false, .int .i64 0, .int .i64 0], .int .i64 0]) (by simp [results, Tryd.results5, go_sem, q0, q1, q2, q3]) rfl ⟨by rw [unhide FQ], unhide KF⟩
  ·rcases flok_ways h2 with ⟨rfl, a12, a22, a32, a42, -⟩ | ⟨rfl, rfl, rfl⟩ | ⟨rfl, rfl, rfl⟩ | ⟨rfl, rfl, rfl, rfl⟩
   ·clear h1 h2
    have FQ : Hid (Q = ((3, false, 0, 0), 0)) := by show _ = _; rw [← unhide HM]; unfold dvQ; simp
    clear HM HQ
    go_wp2_with fail
    refine (nan_kept _).mono ?_
    rintro e w3 ⟨rfl, k3⟩
    replace qf0 := k3.loose0 (zbl q0) qf0
    replace qf1 := k3.loose0 (zbl q1) qf1
    replace qf2 := k3.loose0 (zbl q2) qf2
    replace qf3 := k3.loose0 (zbl q3) qf3
    replace p0 := k3.cell0 p0
    replace p1 := k3.cell0 p1
    replace p2 := k3.cell0 p2
    replace p3 := k3.cell0 p3
    replace t0 := k3.cell0 t0
    replace t1 := k3.cell0 t1
    replace t2 := k3.cell0 t2
    replace t3 := k3.cell0 t3
    replace q0 := k3.cell0 q0
    replace q1 := k3.cell0 q1
    replace q2 := k3.cell0 q2
    replace q3 := k3.cell0 q3
    replace K := hide ((unhide K).trans k3)
    have z4 := k3.size
    clear k3
    have KF := hide (((((unhide K).setNew (p := ⟨w.heap.size + 2, 0, none⟩) (by simp) (.int .i64 3)).setNew (p := ⟨w.heap.size + 2, 1, none⟩) (by simp) (.bool false)).setNew (p := ⟨w.heap.size + 2, 2, none⟩) (by simp) (.int .i64 0)).setNew (p := ⟨w.heap.size + 2, 3, none⟩) (by simp) (.int .i64 0))
    clear K
    try go_wp2_with fail
    exact bodyPost_ret (v := .tuple #[.agg #[.int .i64 3, .bool false, .int .i64 0, .int .i64 0], .int .i64 0]) (by simp [results, Tryd.results5, go_sem, q0, q1, q2, q3]) rfl ⟨by rw [unhide FQ], unhide KF⟩
   ·clear h1 h2
    have FQ : Hid (Q = ((3, false, 0, 0), 0)) := by show _ = _; rw [← unhide HM]; unfold dvQ; simp
    clear HM HQ
    go_wp2_with fail
    refine (nan_kept _).mono ?_
    rintro e w3 ⟨rfl, k3⟩
    replace qf0 := k3.loose0 (zbl q0) qf0
    replace qf1 := k3.loose0 (zbl q1) qf1
    replace qf2 := k3.loose0 (zbl q2) qf2
    replace qf3 := k3.loose0 (zbl q3) qf3
    replace p0 := k3.cell0 p0
    replace p1 := k3.cell0 p1
    replace p2 := k3.cell0 p2
    replace p3 := k3.cell0 p3
    replace t0 := k3.cell0 t0
    replace t1 := k3.cell0 t1
    replace t2 := k3.cell0 t2
    replace t3 := k3.cell0 t3
    replace q0 := k3.cell0 q0
    replace q1 := k3.cell0 q1
    replace q2 := k3.cell0 q2
    replace q3 := k3.cell0 q3
    replace K := hide ((unhide K).trans k3)
    have z4 := k3.size
    clear k3
    have KF := hide (((((unhide K).setNew (p := ⟨w.heap.size + 2, 0, none⟩) (by simp) (.int .i64 3)).setNew (p := ⟨w.heap.size + 2, 1, none⟩) (by simp) (.bool false)).setNew (p := ⟨w.heap.size + 2, 2, none⟩) (by simp) (.int .i64 0)).setNew (p := ⟨w.heap.size + 2, 3, none⟩) (by simp) (.int .i64 0))
    clear K
    try go_wp2_with fail
    exact bodyPost_ret (v := .tuple #[.agg #[.int .i64 3, .bool false, .int .i64 0, .int .i64 0], .int .i64 0]) (by simp [results, Tryd.results5, go_sem, q0, q1, q2, q3]) rfl ⟨by rw [unhide FQ], unhide KF⟩
   ·clear h1 h2
    have FQ : Hid (Q = ((3, false, 0, 0), 0)) := by show _ = _; rw [← unhide HM]; unfold dvQ; simp
    clear HM HQ
    go_wp2_with fail
    refine (nan_kept _).mono ?_
    rintro e w3 ⟨rfl, k3⟩
    replace qf0 := k3.loose0 (zbl q0) qf0
    replace qf1 := k3.loose0 (zbl q1) qf1
    replace qf2 := k3.loose0 (zbl q2) qf2
    replace qf3 := k3.loose0 (zbl q3) qf3
    replace p0 := k3.cell0 p0
    replace p1 := k3.cell0 p1
    replace p2 := k3.cell0 p2
    replace p3 := k3.cell0 p3
    replace t0 := k3.cell0 t0
    replace t1 := k3.cell0 t1
    replace t2 := k3.cell0 t2
    replace t3 := k3.cell0 t3
    replace q0 := k3.cell0 q0
    replace q1 := k3.cell0 q1
    replace q2 := k3.cell0 q2
    replace q3 := k3.cell0 q3
    replace K := hide ((unhide K).trans k3)
    have z4 := k3.size
    clear k3
    have KF := hide (((((unhide K).setNew (p := ⟨w.heap.size + 2, 0, none⟩) (by simp) (.int .i64 3)).setNew (p := ⟨w.heap.size + 2, 1, none⟩) (by simp) (.bool false)).setNew (p := ⟨w.heap.size + 2, 2, none⟩) (by simp) (.int .i64 0)).setNew (p := ⟨w.heap.size + 2, 3, none⟩) (by simp) (.int .i64 0))
    clear K
    try go_wp2_with fail
    exact bodyPost_ret (v := .tuple #[.agg #[.int .i64 3, .bool false, .int .i64 0, .int .i64 0], .int .i64 0]) (by simp [results, Tryd.results5, go_sem, q0, q1, q2, q3]) rfl ⟨by rw [unhide FQ], unhide KF⟩
   ·clear h1 h2
    have FQ : Hid (Q = ((3, false, 0, 0), 0)) := by show _ = _; rw [← unhide HM]; unfold dvQ; simp
    clear HM HQ
    go_wp2_with fail
    refine (nan_kept _).mono ?_
    rintro e w3 ⟨rfl, k3⟩
    replace qf0 := k3.loose0 (zbl q0) qf0
    replace qf1 := k3.loose0 (zbl q1) qf1
    replace qf2 := k3.loose0 (zbl q2) qf2
    replace qf3 := k3.loose0 (zbl q3) qf3
    replace p0 := k3.cell0 p0
    replace p1 := k3.cell0 p1
    replace p2 := k3.cell0 p2
    replace p3 := k3.cell0 p3
    replace t0 := k3.cell0 t0
    replace t1 := k3.cell0 t1
    replace t2 := k3.cell0 t2
    replace t3 := k3.cell0 t3
    replace q0 := k3.cell0 q0
    replace q1 := k3.cell0 q1
    replace q2 := k3.cell0 q2
    replace q3 := k3.cell0 q3
    replace K := hide ((unhide K).trans k3)
    have z4 := k3.size
    clear k3
    have KF := hide (((((unhide K).setNew (p := ⟨w.heap.size + 2, 0, none⟩) (by simp) (.int .i64 3)).setNew (p := ⟨w.heap.size + 2, 1, none⟩) (by simp) (.bool false)).setNew (p := ⟨w.heap.size + 2, 2, none⟩) (by simp) (.int .i64 0)).setNew (p := ⟨w.heap.size + 2, 3, none⟩) (by simp) (.int .i64 0))
    clear K
    try go_wp2_with fail
    exact bodyPost_ret (v := .tuple #[.agg #[.int .i64 3, .bool false, .int .i64 0, .int .i64 0], .int .i64 0]) (by simp [results, Tryd.results5, go_sem, q0, q1, q2, q3]) rfl ⟨by rw [unhide FQ], unhide KF⟩

end Go.Proofs.YtflpkblmcnkghaaDoor

