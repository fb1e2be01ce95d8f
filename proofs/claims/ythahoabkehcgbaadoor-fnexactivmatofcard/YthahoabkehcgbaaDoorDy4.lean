/-
  Dyadic numbers: the model's l4cmp and DyCmp.
-/
import Derived.Test.YthahoabkehcgbaaDoorDy3
namespace Go.Proofs.YthahoabkehcgbaaDoor
open Go.RowKit
set_option linter.unusedVariables false
set_option maxRecDepth 8000
set_option linter.unusedSimpArgs false

set_option maxHeartbeats 2000000 in
theorem cmp4_spec {b1 b2 : Bool} {l1 h1 l2 h2 : Nat} {v1 v2 : Value} {xs ys : List Int} (s1 s2 : Bool) (x1 x2 : Int) (w : World) (r1 : Row .i64 b1 l1 h1 w v1 xs) (r2 : Row .i64 b2 l2 h2 w v2 ys) (o1 : dokB s1 xs x1 = true) (o2 : dokB s2 ys x2 = true) :
    Calls Tryd.prog 61 #[.agg #[.bool s1, v1, .int .i64 x1], .agg #[.bool s2, v2, .int .i64 x2]] w fun e w' => e = .returned (.int .i64 (cmpDI (wval s1 xs) x1 (wval s2 ys) x2)) ∧ Kept 0 0 w w' := by
  have k0 : Kept 0 0 w ((w.alloc (.cells #[.bool s1, v1, .int .i64 x1] 52)).alloc (.cells #[.bool s2, v2, .int .i64 x2] 52)) := (((Kept.refl 0 0 w).alloc (.cells #[.bool s1, v1, .int .i64 x1] 52)).alloc (.cells #[.bool s2, v2, .int .i64 x2] 52))
  have p0 : ((w.alloc (.cells #[.bool s1, v1, .int .i64 x1] 52)).alloc (.cells #[.bool s2, v2, .int .i64 x2] 52)).cell? ⟨w.heap.size, 0, none⟩ = some (.bool s1) := old_cell _ (new_cell2 _ _ _ _ _ _ (by simp) rfl)
  have p1 : ((w.alloc (.cells #[.bool s1, v1, .int .i64 x1] 52)).alloc (.cells #[.bool s2, v2, .int .i64 x2] 52)).cell? ⟨w.heap.size, 1, none⟩ = some (v1) := old_cell _ (new_cell2 _ _ _ _ _ _ (by simp) rfl)
  have p2 : ((w.alloc (.cells #[.bool s1, v1, .int .i64 x1] 52)).alloc (.cells #[.bool s2, v2, .int .i64 x2] 52)).cell? ⟨w.heap.size, 2, none⟩ = some (.int .i64 x1) := old_cell _ (new_cell2 _ _ _ _ _ _ (by simp) rfl)
  have t0 : ((w.alloc (.cells #[.bool s1, v1, .int .i64 x1] 52)).alloc (.cells #[.bool s2, v2, .int .i64 x2] 52)).cell? ⟨w.heap.size + 1, 0, none⟩ = some (.bool s2) := new_cell2 _ _ _ _ _ _ (by simp) rfl
  have t1 : ((w.alloc (.cells #[.bool s1, v1, .int .i64 x1] 52)).alloc (.cells #[.bool s2, v2, .int .i64 x2] 52)).cell? ⟨w.heap.size + 1, 1, none⟩ = some (v2) := new_cell2 _ _ _ _ _ _ (by simp) rfl
  have t2 : ((w.alloc (.cells #[.bool s1, v1, .int .i64 x1] 52)).alloc (.cells #[.bool s2, v2, .int .i64 x2] 52)).cell? ⟨w.heap.size + 1, 2, none⟩ = some (.int .i64 x2) := new_cell2 _ _ _ _ _ _ (by simp) rfl
  replace r1 := r1.kept k0 (by omega)
  replace r2 := r2.kept k0 (by omega)
  have s0 : ((w.alloc (.cells #[.bool s1, v1, .int .i64 x1] 52)).alloc (.cells #[.bool s2, v2, .int .i64 x2] 52)).heap.size = w.heap.size + 2 := by simp
  obtain ⟨a1, c1, hv⟩ := Row.form' r1
  subst hv
  obtain ⟨a2, c2, hv⟩ := Row.form' r2
  subst hv
  have K := hide (k0)
  clear k0
  have S0 := hide s0
  clear s0
  go_enter Tryd.func61, Tryd.ntmps61
  go_wp2_with fail
  generalize ((w.alloc (.cells #[.bool s1, .slice a1 xs.length c1, .int .i64 x1] 52)).alloc (.cells #[.bool s2, .slice a2 ys.length c2, .int .i64 x2] 52)) = W at *
  refine (align4_spec s1 s2 x1 x2 _ r1 r2 o1 o2).mono ?_
  rintro e w1 ⟨u1, u2, sA, sB, zA, zB, E, rfl, ra, rb, ⟨m1, m2, -, -, al, f1, f2⟩, k1⟩
  replace r1 := r1.kept k1 (by omega)
  replace r2 := r2.kept k1 (by omega)
  replace p0 := k1.cell0 p0
  replace p1 := k1.cell0 p1
  replace p2 := k1.cell0 p2
  replace t0 := k1.cell0 t0
  replace t1 := k1.cell0 t1
  replace t2 := k1.cell0 t2
  replace K := hide ((unhide K).trans k1)
  have z2 := k1.size
  clear k1
  have EQ := hide (cmp_alg al)
  rw [← f1, ← f2] at EQ
  clear al f1 f2
  obtain ⟨a5, c5, hv⟩ := Row.form' ra
  subst hv
  obtain ⟨a6, c6, hv⟩ := Row.form' rb
  subst hv
  have kn := (Kept.refl 0 0 w1).alloc (.cells #[.bool sA, .slice a5 zA.length c5] 50)
  have d0 : (w1.alloc (.cells #[.bool sA, .slice a5 zA.length c5] 50)).cell? ⟨w1.heap.size, 0, none⟩ = some (.bool sA) := new_cell2 _ _ _ _ _ _ (by simp) rfl
  have d1 : (w1.alloc (.cells #[.bool sA, .slice a5 zA.length c5] 50)).cell? ⟨w1.heap.size, 1, none⟩ = some (.slice a5 zA.length c5) := new_cell2 _ _ _ _ _ _ (by simp) rfl
  have sz3 : w1.heap.size + 1 ≤ (w1.alloc (.cells #[.bool sA, .slice a5 zA.length c5] 50)).heap.size := by simp
  replace r1 := r1.kept kn (by omega)
  replace r2 := r2.kept kn (by omega)
  replace ra := ra.kept kn (by omega)
  replace rb := rb.kept kn (by omega)
  replace p0 := kn.cell0 p0
  replace p1 := kn.cell0 p1
  replace p2 := kn.cell0 p2
  replace t0 := kn.cell0 t0
  replace t1 := kn.cell0 t1
  replace t2 := kn.cell0 t2
  replace K := hide ((unhide K).trans kn)
  have z4 := kn.size
  clear kn
  have kn := (Kept.refl 0 0 (w1.alloc (.cells #[.bool sA, .slice a5 zA.length c5] 50))).alloc (.cells #[.bool sB, .slice a6 zB.length c6] 50)
  have e0 : ((w1.alloc (.cells #[.bool sA, .slice a5 zA.length c5] 50)).alloc (.cells #[.bool sB, .slice a6 zB.length c6] 50)).cell? ⟨w1.heap.size + 1, 0, none⟩ = some (.bool sB) := new_cell2 _ _ _ _ _ _ (by simp) rfl
  have e1 : ((w1.alloc (.cells #[.bool sA, .slice a5 zA.length c5] 50)).alloc (.cells #[.bool sB, .slice a6 zB.length c6] 50)).cell? ⟨w1.heap.size + 1, 1, none⟩ = some (.slice a6 zB.length c6) := new_cell2 _ _ _ _ _ _ (by simp) rfl
  have sz5 : (w1.alloc (.cells #[.bool sA, .slice a5 zA.length c5] 50)).heap.size + 1 ≤ ((w1.alloc (.cells #[.bool sA, .slice a5 zA.length c5] 50)).alloc (.cells #[.bool sB, .slice a6 zB.length c6] 50)).heap.size := by simp
  replace r1 := r1.kept kn (by omega)
  replace r2 := r2.kept kn (by omega)
  replace ra := ra.kept kn (by omega)
  replace rb := rb.kept kn (by omega)
  replace p0 := kn.cell0 p0
  replace p1 := kn.cell0 p1
  replace p2 := kn.cell0 p2
  replace t0 := kn.cell0 t0
  replace t1 := kn.cell0 t1
  replace t2 := kn.cell0 t2
  replace d0 := kn.cell0 d0
  replace d1 := kn.cell0 d1
  replace K := hide ((unhide K).trans kn)
  have z6 := kn.size
  clear kn
  go_wp2_with fail
  generalize ((w1.alloc (.cells #[.bool sA, .slice a5 zA.length c5] 50)).alloc (.cells #[.bool sB, .slice a6 zB.length c6] 50)) = wn7 at *
  refine (cmp3_wn sA sB _ ra rb m1 m2).mono ?_
  rintro e w8 ⟨rfl, k8⟩
  replace r1 := r1.kept k8 (by omega)
  replace r2 := r2.kept k8 (by omega)
  replace ra := ra.kept k8 (by omega)
  replace rb := rb.kept k8 (by omega)
  replace p0 := k8.cell0 p0
  replace p1 := k8.cell0 p1
  replace p2 := k8.cell0 p2
  replace t0 := k8.cell0 t0
  replace t1 := k8.cell0 t1
  replace t2 := k8.cell0 t2
  replace d0 := k8.cell0 d0
  replace d1 := k8.cell0 d1
  replace e0 := k8.cell0 e0
  replace e1 := k8.cell0 e1
  replace K := hide ((unhide K).trans k8)
  have z9 := k8.size
  clear k8
  clear r1 r2 ra rb m1 m2
  go_wp2_with fail
  go_ret
  exact ⟨by rw [← unhide EQ]; rfl, unhide K⟩

/-- What DyCmp tells. -/
def cmpD (s1 : Bool) (xs : List Int) (x1 : Int) (s2 : Bool) (ys : List Int) (x2 : Int) : Int := if dokB s1 xs x1 = true ∧ dokB s2 ys x2 = true then cmpDI (wval s1 xs) x1 (wval s2 ys) x2 else 0
theorem cmpD_bad1 {s1 s2 : Bool} {xs ys : List Int} {x1 x2 : Int} (h : dokB s1 xs x1 = false) : cmpD s1 xs x1 s2 ys x2 = 0 := by unfold cmpD; rw [if_neg (fun e => by rw [h] at e; cases e.1)]
theorem cmpD_bad2 {s1 s2 : Bool} {xs ys : List Int} {x1 x2 : Int} (h : dokB s2 ys x2 = false) : cmpD s1 xs x1 s2 ys x2 = 0 := by unfold cmpD; rw [if_neg (fun e => by rw [h] at e; cases e.2)]
theorem cmpD_ok {s1 s2 : Bool} {xs ys : List Int} {x1 x2 : Int} (h1 : dokB s1 xs x1 = true) (h2 : dokB s2 ys x2 = true) : cmpD s1 xs x1 s2 ys x2 = cmpDI (wval s1 xs) x1 (wval s2 ys) x2 := by unfold cmpD; rw [if_pos ⟨h1, h2⟩]

end Go.Proofs.YthahoabkehcgbaaDoor
