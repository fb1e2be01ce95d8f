/-
  The model's IvText.
-/
import Derived.Test.YtfikfmkhmojpfaaIvt1
import Derived.Test.YtfikfmkhmojpfaaIvt2
namespace Go.Proofs.Ytfikfmkhmojpfaa
open Go.RowKit
set_option linter.unusedVariables false
set_option maxRecDepth 8000
set_option linter.unusedSimpArgs false

set_option maxHeartbeats 4000000 in
theorem ivText_spec {b0 b1 : Bool} {lo0 hi0 lo1 hi1 : Nat} {u0 u1 : Value} {z0 z1 : List Int} (s0 s1 : Bool) (y0 y1 : Int) (g0 : I64 y0) (g1 : I64 y1) (w : World) (r0 : Row .i64 b0 lo0 hi0 w u0 z0) (r1 : Row .i64 b1 lo1 hi1 w u1 z1) :
    Calls Try.prog 23 #[.agg #[.bool s0, u0, .int .i64 y0, .bool s1, u1, .int .i64 y1]] w fun e w' => ∃ v', e = .returned (.tuple #[v', .bool (ivtB s0 z0 y0 s1 z1 y1)]) ∧ Row .u8 true w.heap.size w'.heap.size w' v' (ivtT s0 z0 y0 s1 z1 y1) ∧ Kept 0 0 w w' := by
  obtain ⟨a0, c0, hv0⟩ := Row.form' r0
  subst hv0
  obtain ⟨a1, c1, hv1⟩ := Row.form' r1
  subst hv1
  have k0 : Kept 0 0 w (w.alloc (.cells #[.bool s0, .slice a0 z0.length c0, .int .i64 y0, .bool s1, .slice a1 z1.length c1, .int .i64 y1] 57)) := (Kept.refl 0 0 w).alloc _
  have p0 : (w.alloc (.cells #[.bool s0, .slice a0 z0.length c0, .int .i64 y0, .bool s1, .slice a1 z1.length c1, .int .i64 y1] 57)).cell? ⟨w.heap.size, 0, none⟩ = some (.bool s0) := new_cell2 _ _ _ _ _ _ rfl rfl
  have p1 : (w.alloc (.cells #[.bool s0, .slice a0 z0.length c0, .int .i64 y0, .bool s1, .slice a1 z1.length c1, .int .i64 y1] 57)).cell? ⟨w.heap.size, 1, none⟩ = some (.slice a0 z0.length c0) := new_cell2 _ _ _ _ _ _ rfl rfl
  have p2 : (w.alloc (.cells #[.bool s0, .slice a0 z0.length c0, .int .i64 y0, .bool s1, .slice a1 z1.length c1, .int .i64 y1] 57)).cell? ⟨w.heap.size, 2, none⟩ = some (.int .i64 y0) := new_cell2 _ _ _ _ _ _ rfl rfl
  have p3 : (w.alloc (.cells #[.bool s0, .slice a0 z0.length c0, .int .i64 y0, .bool s1, .slice a1 z1.length c1, .int .i64 y1] 57)).cell? ⟨w.heap.size, 3, none⟩ = some (.bool s1) := new_cell2 _ _ _ _ _ _ rfl rfl
  have p4 : (w.alloc (.cells #[.bool s0, .slice a0 z0.length c0, .int .i64 y0, .bool s1, .slice a1 z1.length c1, .int .i64 y1] 57)).cell? ⟨w.heap.size, 4, none⟩ = some (.slice a1 z1.length c1) := new_cell2 _ _ _ _ _ _ rfl rfl
  have p5 : (w.alloc (.cells #[.bool s0, .slice a0 z0.length c0, .int .i64 y0, .bool s1, .slice a1 z1.length c1, .int .i64 y1] 57)).cell? ⟨w.heap.size, 5, none⟩ = some (.int .i64 y1) := new_cell2 _ _ _ _ _ _ rfl rfl
  replace r0 := r0.kept k0 (by omega)
  replace r1 := r1.kept k0 (by omega)
  go_enter Try.func23, Try.ntmps23
  go_wp2_with fail
  generalize (w.alloc (.cells #[.bool s0, .slice a0 z0.length c0, .int .i64 y0, .bool s1, .slice a1 z1.length c1, .int .i64 y1] 57)) = W at *
  refine (ivok_spec s0 y0 g0.1 g0.2 s1 y1 g1.1 g1.2 _ r0 r1).mono ?_
  rintro e w1 ⟨rfl, k1⟩
  replace p0 := k1.cell0 p0
  replace p1 := k1.cell0 p1
  replace p2 := k1.cell0 p2
  replace p3 := k1.cell0 p3
  replace p4 := k1.cell0 p4
  replace p5 := k1.cell0 p5
  replace r0 := r0.kept k1 (by omega)
  replace r1 := r1.kept k1 (by omega)
  have K1 := hide (k0.trans k1)
  clear k0 k1
  cases hI : iokB s0 z0 y0 s1 z1 y1
  · have HB := hide (ivt_no (show ivtB s0 z0 y0 s1 z1 y1 = false by unfold ivtB; rw [hI]; rfl))
    clear hI r0 r1
    go_wp2
    exact bodyPost_ret (v := .tuple #[.slice none 0 0, .bool false]) (by simp [results, Try.results23, go_sem]) rfl ⟨.slice none 0 0, by rw [(unhide HB).1], by rw [(unhide HB).2]; exact Row.nil _ _ _ _ _, unhide K1⟩
  have HI := hide hI
  have hm := l12may_spec s0 y0 g0.1 g0.2 _ r0
  clear hI
  go_wp2_with fail
  refine hm.mono ?_
  rintro e w2 ⟨rfl, k1⟩
  replace p0 := k1.cell0 p0
  replace p1 := k1.cell0 p1
  replace p2 := k1.cell0 p2
  replace p3 := k1.cell0 p3
  replace p4 := k1.cell0 p4
  replace p5 := k1.cell0 p5
  replace r0 := r0.kept k1 (by omega)
  replace r1 := r1.kept k1 (by omega)
  have K2 := hide ((unhide K1).trans k1)
  clear k1 hm
  cases hA : dtB s0 z0 y0
  · have HB := hide (ivt_no (show ivtB s0 z0 y0 s1 z1 y1 = false by unfold ivtB tB; rw [hA, Bool.false_and, Bool.and_false]))
    clear hA r0 r1
    go_wp2
    exact bodyPost_ret (v := .tuple #[.slice none 0 0, .bool false]) (by simp [results, Try.results23, go_sem]) rfl ⟨.slice none 0 0, by rw [(unhide HB).1], by rw [(unhide HB).2]; exact Row.nil _ _ _ _ _, unhide K2⟩
  have HA := hide hA
  have hm := l12may_spec s1 y1 g1.1 g1.2 _ r1
  clear hA
  go_wp2_with fail
  refine hm.mono ?_
  rintro e w3 ⟨rfl, k1⟩
  replace p0 := k1.cell0 p0
  replace p1 := k1.cell0 p1
  replace p2 := k1.cell0 p2
  replace p3 := k1.cell0 p3
  replace p4 := k1.cell0 p4
  replace p5 := k1.cell0 p5
  replace r0 := r0.kept k1 (by omega)
  replace r1 := r1.kept k1 (by omega)
  have K3 := hide ((unhide K2).trans k1)
  clear k1 hm
  cases hC : dtB s1 z1 y1
  · have HB := hide (ivt_no (show ivtB s0 z0 y0 s1 z1 y1 = false by unfold ivtB tB; rw [hC, Bool.and_false, Bool.and_false]))
    clear hC r0 r1
    go_wp2
    exact bodyPost_ret (v := .tuple #[.slice none 0 0, .bool false]) (by simp [results, Try.results23, go_sem]) rfl ⟨.slice none 0 0, by rw [(unhide HB).1], by rw [(unhide HB).2]; exact Row.nil _ _ _ _ _, unhide K3⟩
  have hb : ivtB s0 z0 y0 s1 z1 y1 = true := by unfold ivtB tB; rw [unhide HI, unhide HA, hC]; rfl
  have HB : Hid (ivtB s0 z0 y0 s1 z1 y1 = true ∧ ivtT s0 z0 y0 s1 z1 y1 = 60 :: (jT [32] (ltF [(s0, z0, y0), (s1, z1, y1)]) 2 ++ [62])) := ⟨hb, by unfold ivtT; rw [if_pos hb]⟩
  have he := l12iv_spec s0 s1 y0 y1 _ r0 r1 (unhide HA) hC
  obtain ⟨J, hJ⟩ : ∃ J, 60 :: (jT [32] (ltF [(s0, z0, y0), (s1, z1, y1)]) 2 ++ [62]) = J := ⟨_, rfl⟩
  rw [hJ] at he HB
  clear hJ hb hC r0 r1 HI HA
  go_wp2_with fail
  refine he.mono ?_
  rintro e w4 ⟨v3, rfl, r3, k3⟩
  have K4 := hide ((unhide K3).trans k3)
  have R4 := hide (r3.wider (lo' := w.heap.size) (unhide K3).size (Nat.le_refl _))
  obtain ⟨a3, c3, hv3⟩ := Row.form' r3
  subst hv3
  clear he r3 k3 p0 p1 p2 p3 p4 p5
  go_wp2
  exact bodyPost_ret (v := .tuple #[.slice a3 J.length c3, .bool true]) (by simp [results, Try.results23, go_sem]) rfl ⟨_, by rw [(unhide HB).1], by rw [(unhide HB).2]; exact unhide R4, unhide K4⟩

end Go.Proofs.Ytfikfmkhmojpfaa
