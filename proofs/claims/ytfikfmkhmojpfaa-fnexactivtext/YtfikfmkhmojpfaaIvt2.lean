/-
  The program's text of an interval.
-/
import Derived.Test.YtfikfmkhmojpfaaLst1
import Derived.Test.YtfikfmkhmojpfaaIv1
namespace Go.Proofs.Ytfikfmkhmojpfaa
open Go.RowKit
set_option linter.unusedVariables false
set_option maxRecDepth 8000
set_option linter.unusedSimpArgs false

theorem row_cap2 {k : IntKind} {bw : Bool} {lo hi n c : Nat} {a : Option Addr} {w : World} {zs : List Int} (r : Row k bw lo hi w (.slice a n c) zs) : n ≤ c := by
  obtain ⟨a', c', e, q1, q2, q3⟩ := r
  injection e with e1 e2 e3
  omega
def encF (o c : Int) (ts : List Int) (j : Nat) : List Int := if j = 0 then [o] else if j = 1 then ts else [c]
set_option maxHeartbeats 4000000 in
theorem enclosed_impl {bw : Bool} {lo hi : Nat} {v : Value} {ts : List Int} (o c : Int) (w : World) (r : Row .u8 bw lo hi w v ts) (hne : ts ≠ []) (hl : ts.length ≤ 500000) :
    Calls Try.prog 53 #[.int .u8 o, v, .int .u8 c] w fun e w' => ∃ v', e = .returned v' ∧ Row .u8 true w.heap.size w'.heap.size w' v' (o :: (ts ++ [c])) ∧ Kept 0 0 w w' := by
  obtain ⟨g, off, cap, rfl, hg1, hg2, hnews⟩ := r.news hne
  have hcap := row_cap2 r
  have hpos : 0 < ts.length := List.length_pos_iff.2 hne
  have k3 : Kept 0 0 w (((w.alloc (.cells #[.int .u8 o] 5)).alloc (.cells #[.int .u8 c] 5)).alloc (.cells #[.slice (some ⟨w.heap.size, 0, none⟩) 1 1, .slice (some ⟨g, off, none⟩) ts.length cap, .slice (some ⟨w.heap.size + 1, 0, none⟩) 1 1] 30)) := (((Kept.refl 0 0 w).alloc _).alloc _).alloc _
  have k2 : Kept 0 0 (w.alloc (.cells #[.int .u8 o] 5)) (((w.alloc (.cells #[.int .u8 o] 5)).alloc (.cells #[.int .u8 c] 5)).alloc (.cells #[.slice (some ⟨w.heap.size, 0, none⟩) 1 1, .slice (some ⟨g, off, none⟩) ts.length cap, .slice (some ⟨w.heap.size + 1, 0, none⟩) 1 1] 30)) := ((Kept.refl 0 0 (w.alloc (.cells #[.int .u8 o] 5))).alloc _).alloc _
  have k1 : Kept 0 0 ((w.alloc (.cells #[.int .u8 o] 5)).alloc (.cells #[.int .u8 c] 5)) (((w.alloc (.cells #[.int .u8 o] 5)).alloc (.cells #[.int .u8 c] 5)).alloc (.cells #[.slice (some ⟨w.heap.size, 0, none⟩) 1 1, .slice (some ⟨g, off, none⟩) ts.length cap, .slice (some ⟨w.heap.size + 1, 0, none⟩) 1 1] 30)) := (Kept.refl 0 0 ((w.alloc (.cells #[.int .u8 o] 5)).alloc (.cells #[.int .u8 c] 5))).alloc _
  have q0 : (((w.alloc (.cells #[.int .u8 o] 5)).alloc (.cells #[.int .u8 c] 5)).alloc (.cells #[.slice (some ⟨w.heap.size, 0, none⟩) 1 1, .slice (some ⟨g, off, none⟩) ts.length cap, .slice (some ⟨w.heap.size + 1, 0, none⟩) 1 1] 30)).cell? ⟨w.heap.size, 0, none⟩ = some (.int .u8 o) := k2.cell0 (new_cell_at _ _ _ _ rfl)
  have q1 : (((w.alloc (.cells #[.int .u8 o] 5)).alloc (.cells #[.int .u8 c] 5)).alloc (.cells #[.slice (some ⟨w.heap.size, 0, none⟩) 1 1, .slice (some ⟨g, off, none⟩) ts.length cap, .slice (some ⟨w.heap.size + 1, 0, none⟩) 1 1] 30)).cell? ⟨w.heap.size + 1, 0, none⟩ = some (.int .u8 c) := k1.cell0 (new_cell_at _ _ _ _ (by simp))
  have pp : Parts (((w.alloc (.cells #[.int .u8 o] 5)).alloc (.cells #[.int .u8 c] 5)).alloc (.cells #[.slice (some ⟨w.heap.size, 0, none⟩) 1 1, .slice (some ⟨g, off, none⟩) ts.length cap, .slice (some ⟨w.heap.size + 1, 0, none⟩) 1 1] 30)) (w.heap.size + 2) 3 (encF o c ts) := by
    intro j hj
    match j, hj with
    | 0, _ =>
      exact ⟨w.heap.size, 0, 1, new_cell2 _ _ _ _ _ _ (by simp) rfl, (by decide : 0 < 1), (by decide : 1 ≤ 1), fun q hq => by
        have hq : q < 1 := hq
        obtain rfl : q = 0 := by omega
        exact q0⟩
    | 1, _ =>
      refine ⟨g, off, cap, new_cell2 _ _ _ _ _ _ (by simp) rfl, hpos, hcap, fun q hq => ?_⟩
      have hq : q < ts.length := hq
      have := k3.cell0 (hnews q (.int .u8 (ts.getD q 0)) (by rw [List.getElem?_map, List.getElem?_eq_getElem hq, List.getD_eq_getElem?_getD, List.getElem?_eq_getElem hq]; rfl))
      rwa [Addr.add_lit] at this
    | 2, _ =>
      exact ⟨w.heap.size + 1, 0, 1, new_cell2 _ _ _ _ _ _ (by simp) rfl, (by decide : 0 < 1), (by decide : 1 ≤ 1), fun q hq => by
        have hq : q < 1 := hq
        obtain rfl : q = 0 := by omega
        exact q1⟩
  have hcat : cat (encF o c ts) 3 = o :: (ts ++ [c]) := by simp [cat, encF]
  obtain ⟨J, hJ⟩ : ∃ J, o :: (ts ++ [c]) = J := ⟨_, rfl⟩
  have hJl : J.length = ts.length + 2 := by rw [← hJ]; simp
  rw [hJ] at hcat ⊢
  have hcc := concatB_impl (n := 3) (by rw [hcat]; omega) (by decide) (by rw [hcat]; omega) _ pp
  rw [hcat] at hcc
  have K3 := hide k3
  clear pp hcat q0 q1 k1 k2 k3 r hnews hJ hJl
  go_enter Try.func53, Try.ntmps53
  go_wp2_with fail
  refine hcc.mono ?_
  rintro e w2 ⟨v2, rfl, o2, kk⟩
  have K4 := hide ((unhide K3).trans kk)
  have R4 := hide ((Row.own o2).wider (lo' := w.heap.size) (unhide K3).size (Nat.le_refl _))
  obtain ⟨a2, c2, hv2⟩ := own_slice o2
  subst hv2
  clear hcc o2 kk
  go_wp2
  go_ret
  exact ⟨_, rfl, unhide R4, unhide K4⟩

/-- What IvText tells. -/
def ivtB (s0 : Bool) (z0 : List Int) (y0 : Int) (s1 : Bool) (z1 : List Int) (y1 : Int) : Bool := iokB s0 z0 y0 s1 z1 y1 && (tB (s0, z0, y0) && tB (s1, z1, y1))
def ivtT (s0 : Bool) (z0 : List Int) (y0 : Int) (s1 : Bool) (z1 : List Int) (y1 : Int) : List Int := if ivtB s0 z0 y0 s1 z1 y1 = true then 60 :: (jT [32] (ltF [(s0, z0, y0), (s1, z1, y1)]) 2 ++ [62]) else []
theorem ivt_no {s0 : Bool} {z0 : List Int} {y0 : Int} {s1 : Bool} {z1 : List Int} {y1 : Int} (h : ivtB s0 z0 y0 s1 z1 y1 = false) : ivtB s0 z0 y0 s1 z1 y1 = false ∧ ivtT s0 z0 y0 s1 z1 y1 = [] := ⟨h, by unfold ivtT; rw [h]; rfl⟩
theorem lt_two (d0 d1 : DE) : ltB [d0, d1] = (tB d0 && tB d1) := by
  show (decide (2 ≤ 20) && allB (fun i => tB ([d0, d1].getD i de0)) 2) = _
  rw [show decide (2 ≤ 20) = true by decide, Bool.true_and]
  show ((List.range 2).all fun i => tB ([d0, d1].getD i de0)) = _
  rw [show List.range 2 = [0, 1] by decide]
  simp
theorem lt_two_T {d0 d1 : DE} (h : ltB [d0, d1] = true) : ltT [d0, d1] = jT [32] (ltF [d0, d1]) 2 := by unfold ltT; rw [if_pos h]; rfl
theorem jT_ne {sep : List Int} {F : Nat → List Int} {n : Nat} (h : F n ≠ []) : jT sep F (n + 1) ≠ [] := by
  unfold jT
  split
  · rename_i h0; subst h0; exact h
  · intro e; exact h (List.append_eq_nil_iff.1 e).2
theorem ivtT_len (s0 : Bool) (z0 : List Int) (y0 : Int) (s1 : Bool) (z1 : List Int) (y1 : Int) : (ivtT s0 z0 y0 s1 z1 y1).length ≤ 70000 := by
  unfold ivtT
  split
  · have := jT_len (sep := [32]) (F := ltF [(s0, z0, y0), (s1, z1, y1)]) (M := 3000) (by decide) 2 (fun j _ => tT_len _)
    simp
    omega
  · simp

set_option maxHeartbeats 4000000 in
theorem ivText_impl {b0 b1 : Bool} {lo0 hi0 lo1 hi1 : Nat} {u0 u1 : Value} {z0 z1 : List Int} (s0 s1 : Bool) (y0 y1 : Int) (g0 : I64 y0) (g1 : I64 y1) (w : World) (r0 : Row .i64 b0 lo0 hi0 w u0 z0) (r1 : Row .i64 b1 lo1 hi1 w u1 z1) :
    Calls Try.prog 25 #[.agg #[.bool s0, u0, .int .i64 y0, .bool s1, u1, .int .i64 y1]] w fun e w' => ∃ v', e = .returned (.tuple #[v', .bool (ivtB s0 z0 y0 s1 z1 y1)]) ∧ Row .u8 true w.heap.size w'.heap.size w' v' (ivtT s0 z0 y0 s1 z1 y1) ∧ Kept 0 0 w w' := by
  obtain ⟨a0, c0, hv0⟩ := Row.form' r0
  subst hv0
  obtain ⟨a1, c1, hv1⟩ := Row.form' r1
  subst hv1
  have k0 : Kept 0 0 w (w.alloc (.cells #[.bool s0, .slice a0 z0.length c0, .int .i64 y0, .bool s1, .slice a1 z1.length c1, .int .i64 y1] 57)) := (Kept.refl 0 0 w).alloc _
  have p0 : (w.alloc (.cells #[.bool s0, .slice a0 z0.length c0, .int .i64 y0, .bool s1, .slice a1 z1.length c1, .int .i64 y1] 57)).cell? ⟨w.heap.size, 0, none⟩ = some (.bool s0) := new_cell2 _ _ _ _ _ _ rfl rfl
  have p1 : (w.alloc (.cells #[.bool s0, .slice a0 z0.length c0, .int .i64 y0, .bool s1, .slice a1 z1.length c1, .int .i64 y1] 57)).cell? ⟨w.heap.size, 1, none⟩ = some (.slice a0 z0.length c0) := new_cell2 _ _ _ _ _ _ rfl rfl
  have p2 : (w.alloc (.cells #[.bool s0, .slice a0 z0.length c0, .int .i64 y0, .bool s1, .slice a1 z1.length c1, .int .i64 y1] 57)).cell? ⟨w.heap.size, 2, none⟩ = some (.int .i64 y0) := new_cell2 _ _ _ _ _ _ rfl rfl
  have p3 : (w.alloc (.cells #[.bool s0, .slice a0 z0.length c0, .int .i64 y0, .bool s1, .slice a1 z1.length c1, .int .i64 y1] 57)).cell? ⟨w.heap.size, 3, none⟩ = some (.bool s1) := new_cell2 _ _ _ _ _ _ rfl rfl
  have p4 : (w.alloc (.cells #[.bool s0, .slice a0 z0.length c0, .int .i64 y0, .bool s1, .slice a1 z1.length c1, .int .i64 y1] 57)).cell? ⟨w.heap.size, 4, none⟩ = some (.slice a1 z1.length c1) := new_cell2 _ _ _ _ _ _ rfl rfl
  have p5 : (w.alloc (.cells #[.bool s0, .slice a0 z0.length c0, .int .i64 y0, .bool s1, .slice a1 z1.length c1, .int .i64 y1] 57)).cell? ⟨w.heap.size, 5, none⟩ = some (.int .i64 y1) := new_cell2 _ _ _ _ _ _ rfl rfl
  replace r0 := r0.kept k0 (by omega)
  replace r1 := r1.kept k0 (by omega)
  go_enter Try.func25, Try.ntmps25
  go_wp2_with fail
  generalize (w.alloc (.cells #[.bool s0, .slice a0 z0.length c0, .int .i64 y0, .bool s1, .slice a1 z1.length c1, .int .i64 y1] 57)) = W at *
  refine (ivok_impl s0 y0 g0.1 g0.2 s1 y1 g1.1 g1.2 _ r0 r1).mono ?_
  rintro e w1 ⟨rfl, k1⟩
  replace p0 := k1.cell0 p0
  replace p1 := k1.cell0 p1
  replace p2 := k1.cell0 p2
  replace p3 := k1.cell0 p3
  replace p4 := k1.cell0 p4
  replace p5 := k1.cell0 p5
  replace r0 := r0.kept k1 (by omega)
  replace r1 := r1.kept k1 (by omega)
  have K1 := hide (k0.trans k1)
  clear k0 k1
  cases hI : iokB s0 z0 y0 s1 z1 y1
  · have HB := hide (ivt_no (show ivtB s0 z0 y0 s1 z1 y1 = false by unfold ivtB; rw [hI]; rfl))
    clear hI r0 r1
    go_wp2
    exact bodyPost_ret (v := .tuple #[.slice none 0 0, .bool false]) (by simp [results, Try.results25, go_sem]) rfl ⟨.slice none 0 0, by rw [(unhide HB).1], by rw [(unhide HB).2]; exact Row.nil _ _ _ _ _, unhide K1⟩
  have HI := hide hI
  have kl := (Kept.refl 0 0 w1).alloc (.cells #[.bool s0, .slice a0 z0.length c0, .int .i64 y0, .bool s1, .slice a1 z1.length c1, .int .i64 y1] 37)
  have dd : Dys 0 (w1.alloc (.cells #[.bool s0, .slice a0 z0.length c0, .int .i64 y0, .bool s1, .slice a1 z1.length c1, .int .i64 y1] 37)).heap.size (w1.alloc (.cells #[.bool s0, .slice a0 z0.length c0, .int .i64 y0, .bool s1, .slice a1 z1.length c1, .int .i64 y1] 37)) (.slice (some ⟨w1.heap.size, 0, none⟩) 2 2) [(s0, z0, y0), (s1, z1, y1)] := by
    have h0 := ((r0.kept kl (by omega)).tight.read).wider (lo' := 0) (hi' := (w1.alloc (.cells #[.bool s0, .slice a0 z0.length c0, .int .i64 y0, .bool s1, .slice a1 z1.length c1, .int .i64 y1] 37)).heap.size) (Nat.zero_le _) (Nat.le_refl _)
    have h1 := ((r1.kept kl (by omega)).tight.read).wider (lo' := 0) (hi' := (w1.alloc (.cells #[.bool s0, .slice a0 z0.length c0, .int .i64 y0, .bool s1, .slice a1 z1.length c1, .int .i64 y1] 37)).heap.size) (Nat.zero_le _) (Nat.le_refl _)
    refine ⟨_, 2, rfl, Nat.le_refl _, by unfold maxLen; decide, fun _ => ⟨w1.heap.size, 0, rfl, Nat.zero_le _, by simp, by simp, fun i hi => ?_⟩⟩
    match i, hi with
    | 0, _ => exact ⟨_, new_cell2 _ _ _ _ _ _ rfl rfl, new_cell2 _ _ _ _ _ _ rfl rfl, new_cell2 _ _ _ _ _ _ rfl rfl, h0⟩
    | 1, _ => exact ⟨_, new_cell2 _ _ _ _ _ _ rfl rfl, new_cell2 _ _ _ _ _ _ rfl rfl, new_cell2 _ _ _ _ _ _ rfl rfl, h1⟩
  have hlt := listText_impl _ dd (fun i hi => by
    match i, hi with
    | 0, _ => exact g0
    | 1, _ => exact g1)
  rw [lt_two] at hlt
  obtain ⟨A, hA⟩ : ∃ A, (tB (s0, z0, y0) && tB (s1, z1, y1)) = A := ⟨_, rfl⟩
  have hLT : A = true → ltT [(s0, z0, y0), (s1, z1, y1)] = jT [32] (ltF [(s0, z0, y0), (s1, z1, y1)]) 2 := fun e => lt_two_T (by rw [lt_two, hA]; exact e)
  rw [hA] at hlt
  have HA := hide hA
  have HLT := hide hLT
  have K2 := hide ((unhide K1).trans kl)
  clear hA hLT kl dd r0 r1 hI
  go_wp2_with fail
  refine hlt.mono ?_
  rintro e w2 ⟨v2, rfl, r2, k2⟩
  have K3 := hide ((unhide K2).trans k2)
  clear hlt k2 p0 p1 p2 p3 p4 p5
  cases A
  · have HB := hide (ivt_no (show ivtB s0 z0 y0 s1 z1 y1 = false by unfold ivtB; rw [unhide HA, Bool.and_false]))
    obtain ⟨a2, c2, hv2⟩ := Row.form' r2
    subst hv2
    clear r2
    go_wp2
    exact bodyPost_ret (v := .tuple #[.slice none 0 0, .bool false]) (by simp [results, Try.results25, go_sem]) rfl ⟨.slice none 0 0, by rw [(unhide HB).1], by rw [(unhide HB).2]; exact Row.nil _ _ _ _ _, unhide K3⟩
  rw [unhide HLT rfl] at r2
  have hb : ivtB s0 z0 y0 s1 z1 y1 = true := by unfold ivtB; rw [unhide HA, unhide HI]; rfl
  have hne : jT [32] (ltF [(s0, z0, y0), (s1, z1, y1)]) 2 ≠ [] := jT_ne (n := 1) (tT_ne (d := (s1, z1, y1)) (by have := unhide HA; rw [Bool.and_eq_true] at this; exact this.2))
  have hle := jT_len (sep := [32]) (F := ltF [(s0, z0, y0), (s1, z1, y1)]) (M := 3000) (by decide) 2 (fun j _ => tT_len _)
  have HB : Hid (ivtB s0 z0 y0 s1 z1 y1 = true ∧ ivtT s0 z0 y0 s1 z1 y1 = 60 :: (jT [32] (ltF [(s0, z0, y0), (s1, z1, y1)]) 2 ++ [62])) := ⟨hb, by unfold ivtT; rw [if_pos hb]⟩
  have he := enclosed_impl 60 62 w2 r2 hne (by omega)
  obtain ⟨J, hJ⟩ : ∃ J, 60 :: (jT [32] (ltF [(s0, z0, y0), (s1, z1, y1)]) 2 ++ [62]) = J := ⟨_, rfl⟩
  rw [hJ] at he HB
  obtain ⟨a2, c2, hv2⟩ := Row.form' r2
  subst hv2
  clear hJ hb hne hle r2 HI HA HLT
  go_wp2_with fail
  refine he.mono ?_
  rintro e w3 ⟨v3, rfl, r3, k3⟩
  have K4 := hide ((unhide K3).trans k3)
  have R4 := hide (r3.wider (lo' := w.heap.size) (unhide K3).size (Nat.le_refl _))
  obtain ⟨a3, c3, hv3⟩ := Row.form' r3
  subst hv3
  clear he r3 k3
  go_wp2
  exact bodyPost_ret (v := .tuple #[.slice a3 J.length c3, .bool true]) (by simp [results, Try.results25, go_sem]) rfl ⟨_, by rw [(unhide HB).1], by rw [(unhide HB).2]; exact unhide R4, unhide K4⟩

end Go.Proofs.Ytfikfmkhmojpfaa
