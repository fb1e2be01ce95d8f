/-
  Sums of floats: the program's addFloats.
-/
import Derived.Test.YtckaecmkidplhaaGreatDoorFlA3
import Derived.Deep.RegionHeld3
import Derived.Deep.DeepCutAuto
namespace Go.Proofs.YtckaecmkidplhaaGreatDoor
open Go.RowKit
set_option linter.unusedVariables false
set_option maxRecDepth 8000
set_option linter.unusedSimpArgs false

set_option maxHeartbeats 400000 in
theorem badF_impl (w : World) :
    Calls Tryz.prog 45 #[] w fun e w' => e = .returned (.tuple #[flv 3 false 0 0, .int .i64 16]) ∧ Kept 0 0 w w' := by
  go_enter Tryz.func45, Tryz.ntmps45
  go_wp2_with fail
  exact bodyPost_ret (v := .tuple #[flv 3 false 0 0, .int .i64 16]) (by simp [results, Tryz.results45, go_sem]) rfl ⟨rfl, (Kept.refl 0 0 w).alloc _⟩

/-- Two numbers' blocks, made one behind the other. -/
theorem dya_new2 {w0 w4 : World} {b2 : Nat} {u1 u2 : Value} {xs ys : List Int} (s1 s2 : Bool) (x1 x2 : Int) (t : TypeId) (hk : Kept 0 0 w0 w4) (O1 : w4.ownsRow w0.heap.size 3 1 u1 xs.length (xs.map (Value.int .i64))) (O2 : w4.ownsRow b2 3 1 u2 ys.length (ys.map (Value.int .i64)))
    (hb : w0.heap.size ≤ b2) (h12 : ∀ i, u1.ownBlock = some i → i < b2) :
    Dya2 w0 ((w4.alloc (.cells #[u1, .bool s1, .int .i64 x1] t)).alloc (.cells #[u2, .bool s2, .int .i64 x2] t)) w4.heap.size (w4.heap.size + 1) s1 xs x1 s2 ys x2 := by
  have k1 := (Kept.refl 0 0 w4).alloc (.cells #[u1, .bool s1, .int .i64 x1] t)
  have k2 := (Kept.refl 0 0 (w4.alloc (.cells #[u1, .bool s1, .int .i64 x1] t))).alloc (.cells #[u2, .bool s2, .int .i64 x2] t)
  obtain ⟨n1, d1, e1⟩ := new_dya s1 x1 t O1
  obtain ⟨n2, d2, e2⟩ := new_dya s2 x2 t (own_kept O2 k1)
  have hs : (w4.alloc (.cells #[u1, .bool s1, .int .i64 x1] t)).heap.size = w4.heap.size + 1 := by simp
  have hz := hk.size
  rw [hs] at n2 d2 e2
  refine ⟨⟨⟨u1, u2, ⟨n1.kept k2, n2.less hb, by omega, ?_, ?_, ?_, (hk.trans k1).trans k2, hz, by omega⟩⟩, d1.kept k2, d2⟩, e1.kept k2, e2⟩
  · intro e; have := (O1.lt _ e).2; omega
  · intro e; have := (O2.lt _ e).2; omega
  · intro i h1 h2; have := h12 i h1; have := (O2.lt i h2).1; omega
theorem fM_num (n : Bool) {m : Int} (h : 1 ≤ m) : (fM 1 n m).natAbs = m.toNat := by unfold fM; cases n <;> simp <;> omega
theorem fM_nought (n : Bool) : (fM 0 n 0).natAbs = 0 := by rw [fM_zero (by decide)]; rfl

theorem inv_inf_t (n : Bool) (w : World) : (method 306 134 (.agg #[.bool n]) "loop.example/g00382/impl.told").run Tryz.prog w = .ok (195, .agg #[.bool n]) w := by kernel_rfl

set_option maxHeartbeats 400000 in
theorem told_inf_t (n : Bool) (w : World) :
    Calls Tryz.prog 195 #[.agg #[.bool n]] w fun r w' => r = .returned (flv 2 n 0 0) ∧ Kept 0 0 w w' := by
  go_enter Tryz.func195, Tryz.ntmps195
  go_wp2
  exact bodyPost_ret (v := flv 2 n 0 0) (by simp [results, Tryz.results195, go_sem]) rfl ⟨rfl, by repeat first | exact Kept.refl 0 0 _ | apply Kept.alloc⟩

set_option maxHeartbeats 2000000 in
theorem addI_num_num (n1 : Bool) (m1 e1 : Int) (n2 : Bool) (m2 e2 : Int) (a11 : -1074 ≤ e1) (a21 : e1 ≤ 971) (a31 : 1 ≤ m1) (a41 : m1 ≤ 9007199254740991) (a12 : -1074 ≤ e2) (a22 : e2 ≤ 971) (a32 : 1 ≤ m2) (a42 : m2 ≤ 9007199254740991) (mode : Int) (hm0 : 0 ≤ mode) (hm4 : mode ≤ 4) (w : World) (T : TabB w) :
    Calls Tryz.prog 46 #[.iface 133 (.agg #[.bool n1, .int .i64 m1, .int .i64 e1]), .iface 133 (.agg #[.bool n2, .int .i64 m2, .int .i64 e2]), .int .i64 mode] w fun e' w' => e' = .returned (.tuple #[flq (addQ 1 n1 m1 e1 1 n2 m2 e2 mode).1, .int .i64 (addQ 1 n1 m1 e1 1 n2 m2 e2 mode).2]) ∧ Kept 0 0 w w' := by
  obtain ⟨Q, hQ⟩ : ∃ q, addQ 1 n1 m1 e1 1 n2 m2 e2 mode = q := ⟨_, rfl⟩
  rw [hQ]
  have HQ := hide hQ
  clear hQ
  have k0 : Kept 0 0 w (w.alloc (.cells #[.int .i64 0, .bool false, .int .i64 0, .int .i64 0] 25)) := ((Kept.refl 0 0 w).alloc (.cells #[.int .i64 0, .bool false, .int .i64 0, .int .i64 0] 25))
  have q0 : (w.alloc (.cells #[.int .i64 0, .bool false, .int .i64 0, .int .i64 0] 25)).cell? ⟨w.heap.size, 0, none⟩ = some (.int .i64 0) := new_cell2 _ _ _ _ _ _ (by simp) rfl
  have qf0 : (w.alloc (.cells #[.int .i64 0, .bool false, .int .i64 0, .int .i64 0] 25)).frozen? ⟨w.heap.size, 0, none⟩ = false := new_loose2 _ _ _ _ _ (by simp)
  have q1 : (w.alloc (.cells #[.int .i64 0, .bool false, .int .i64 0, .int .i64 0] 25)).cell? ⟨w.heap.size, 1, none⟩ = some (.bool false) := new_cell2 _ _ _ _ _ _ (by simp) rfl
  have qf1 : (w.alloc (.cells #[.int .i64 0, .bool false, .int .i64 0, .int .i64 0] 25)).frozen? ⟨w.heap.size, 1, none⟩ = false := new_loose2 _ _ _ _ _ (by simp)
  have q2 : (w.alloc (.cells #[.int .i64 0, .bool false, .int .i64 0, .int .i64 0] 25)).cell? ⟨w.heap.size, 2, none⟩ = some (.int .i64 0) := new_cell2 _ _ _ _ _ _ (by simp) rfl
  have qf2 : (w.alloc (.cells #[.int .i64 0, .bool false, .int .i64 0, .int .i64 0] 25)).frozen? ⟨w.heap.size, 2, none⟩ = false := new_loose2 _ _ _ _ _ (by simp)
  have q3 : (w.alloc (.cells #[.int .i64 0, .bool false, .int .i64 0, .int .i64 0] 25)).cell? ⟨w.heap.size, 3, none⟩ = some (.int .i64 0) := new_cell2 _ _ _ _ _ _ (by simp) rfl
  have qf3 : (w.alloc (.cells #[.int .i64 0, .bool false, .int .i64 0, .int .i64 0] 25)).frozen? ⟨w.heap.size, 3, none⟩ = false := new_loose2 _ _ _ _ _ (by simp)
  have s0 : (w.alloc (.cells #[.int .i64 0, .bool false, .int .i64 0, .int .i64 0] 25)).heap.size = w.heap.size + 1 := by simp
  have K := hide (k0)
  clear k0
  have S0 := hide s0
  clear s0
  go_enter Tryz.func46, Tryz.ntmps46
  go_wp2_with fail
  generalize (w.alloc (.cells #[.int .i64 0, .bool false, .int .i64 0, .int .i64 0] 25)) = W at *
  refine (is_nan_num n1 m1 e1 _).mono ?_
  rintro e w1 ⟨rfl, k1⟩
  replace qf0 := k1.loose0 (World.block_lt_of_cell? _ _ q0) qf0
  replace qf1 := k1.loose0 (World.block_lt_of_cell? _ _ q1) qf1
  replace qf2 := k1.loose0 (World.block_lt_of_cell? _ _ q2) qf2
  replace qf3 := k1.loose0 (World.block_lt_of_cell? _ _ q3) qf3
  replace q0 := k1.cell0 q0
  replace q1 := k1.cell0 q1
  replace q2 := k1.cell0 q2
  replace q3 := k1.cell0 q3
  replace K := hide ((unhide K).trans k1)
  have z2 := k1.size
  clear k1
  go_wp2_with fail
  refine (is_nan_num n2 m2 e2 _).mono ?_
  rintro e w3 ⟨rfl, k3⟩
  replace qf0 := k3.loose0 (World.block_lt_of_cell? _ _ q0) qf0
  replace qf1 := k3.loose0 (World.block_lt_of_cell? _ _ q1) qf1
  replace qf2 := k3.loose0 (World.block_lt_of_cell? _ _ q2) qf2
  replace qf3 := k3.loose0 (World.block_lt_of_cell? _ _ q3) qf3
  replace q0 := k3.cell0 q0
  replace q1 := k3.cell0 q1
  replace q2 := k3.cell0 q2
  replace q3 := k3.cell0 q3
  replace K := hide ((unhide K).trans k3)
  have z4 := k3.size
  clear k3
  go_wp2_with fail
  refine (is_inf_num n1 m1 e1 _).mono ?_
  rintro e w5 ⟨rfl, k5⟩
  replace qf0 := k5.loose0 (World.block_lt_of_cell? _ _ q0) qf0
  replace qf1 := k5.loose0 (World.block_lt_of_cell? _ _ q1) qf1
  replace qf2 := k5.loose0 (World.block_lt_of_cell? _ _ q2) qf2
  replace qf3 := k5.loose0 (World.block_lt_of_cell? _ _ q3) qf3
  replace q0 := k5.cell0 q0
  replace q1 := k5.cell0 q1
  replace q2 := k5.cell0 q2
  replace q3 := k5.cell0 q3
  replace K := hide ((unhide K).trans k5)
  have z6 := k5.size
  clear k5
  go_wp2_with fail
  refine (is_inf_num n1 m1 e1 _).mono ?_
  rintro e w7 ⟨rfl, k7⟩
  replace qf0 := k7.loose0 (World.block_lt_of_cell? _ _ q0) qf0
  replace qf1 := k7.loose0 (World.block_lt_of_cell? _ _ q1) qf1
  replace qf2 := k7.loose0 (World.block_lt_of_cell? _ _ q2) qf2
  replace qf3 := k7.loose0 (World.block_lt_of_cell? _ _ q3) qf3
  replace q0 := k7.cell0 q0
  replace q1 := k7.cell0 q1
  replace q2 := k7.cell0 q2
  replace q3 := k7.cell0 q3
  replace K := hide ((unhide K).trans k7)
  have z8 := k7.size
  clear k7
  go_wp2_with fail
  refine (is_inf_num n2 m2 e2 _).mono ?_
  rintro e w9 ⟨rfl, k9⟩
  replace qf0 := k9.loose0 (World.block_lt_of_cell? _ _ q0) qf0
  replace qf1 := k9.loose0 (World.block_lt_of_cell? _ _ q1) qf1
  replace qf2 := k9.loose0 (World.block_lt_of_cell? _ _ q2) qf2
  replace qf3 := k9.loose0 (World.block_lt_of_cell? _ _ q3) qf3
  replace q0 := k9.cell0 q0
  replace q1 := k9.cell0 q1
  replace q2 := k9.cell0 q2
  replace q3 := k9.cell0 q3
  replace K := hide ((unhide K).trans k9)
  have z10 := k9.size
  clear k9
  go_wp2_with fail
  obtain ⟨xs, hxs⟩ : ∃ L : List Int, limbs m1.toNat = L := ⟨_, rfl⟩
  obtain ⟨ys, hys⟩ : ∃ L : List Int, limbs m2.toNat = L := ⟨_, rfl⟩
  have hn1 : Nrm xs := by rw [← hxs]; exact limbs_nrm _
  have hv1 : wval n1 xs = fM 1 n1 m1 := by rw [← hxs]; exact limbs_wval n1 a31
  have hl1 : xs.length ≤ 4 := by
    rw [← hxs]
    refine (limbs_length_le _ _).2 ?_
    rw [show (65536 : Int) ^ 4 = 18446744073709551616 by decide]
    omega
  have hz1 : xs.length ≠ 0 := by
    intro e
    have e2 := List.length_eq_zero_iff.1 e
    rw [e2] at hxs
    have e3 := congrArg val hxs
    rw [limbs_val] at e3
    simp [val] at e3
    omega
  have hn2 : Nrm ys := by rw [← hys]; exact limbs_nrm _
  have hv2 : wval n2 ys = fM 1 n2 m2 := by rw [← hys]; exact limbs_wval n2 a32
  have hl2 : ys.length ≤ 4 := by
    rw [← hys]
    refine (limbs_length_le _ _).2 ?_
    rw [show (65536 : Int) ^ 4 = 18446744073709551616 by decide]
    omega
  have hz2 : ys.length ≠ 0 := by
    intro e
    have e2 := List.length_eq_zero_iff.1 e
    rw [e2] at hys
    have e3 := congrArg val hys
    rw [limbs_val] at e3
    simp [val] at e3
    omega
  have HR : Hid (rndQ mode (wval n1 xs * 2 ^ (e1 - min e1 e2).toNat + wval n2 ys * 2 ^ (e2 - min e1 e2).toNat) (min e1 e2) (if xs.length = 0 ∧ ys.length = 0 ∧ n1 = n2 then n1 else (mode == 3)) = Q) := by
    show _ = _
    rw [← unhide HQ, hv1, hv2]
    unfold addQ
    simp [hz1, hz2]
  have Q0 := q0
  have QF0 := qf0
  have Q1 := q1
  have QF1 := qf1
  have Q2 := q2
  have QF2 := qf2
  have Q3 := q3
  have QF3 := qf3
  have KW := K
  have mk := valueOf_num n1 m1 e1 a31 a41 w9
  rw [hxs] at mk
  refine (mk).mono ?_
  rintro e w11 ⟨v1, rfl, o1, k11⟩
  replace qf0 := k11.loose0 (World.block_lt_of_cell? _ _ q0) qf0
  replace qf1 := k11.loose0 (World.block_lt_of_cell? _ _ q1) qf1
  replace qf2 := k11.loose0 (World.block_lt_of_cell? _ _ q2) qf2
  replace qf3 := k11.loose0 (World.block_lt_of_cell? _ _ q3) qf3
  replace q0 := k11.cell0 q0
  replace q1 := k11.cell0 q1
  replace q2 := k11.cell0 q2
  replace q3 := k11.cell0 q3
  replace K := hide ((unhide K).trans k11)
  have z12 := k11.size
  have KV1 := k11
  clear mk
  have l1 := o1.lt
  go_wp2_with fail
  have mk := valueOf_num n2 m2 e2 a32 a42 w11
  rw [hys] at mk
  refine (mk).mono ?_
  rintro e w13 ⟨v2, rfl, o2, k13⟩
  replace o1 := own_kept o1 k13
  replace qf0 := k13.loose0 (World.block_lt_of_cell? _ _ q0) qf0
  replace qf1 := k13.loose0 (World.block_lt_of_cell? _ _ q1) qf1
  replace qf2 := k13.loose0 (World.block_lt_of_cell? _ _ q2) qf2
  replace qf3 := k13.loose0 (World.block_lt_of_cell? _ _ q3) qf3
  replace q0 := k13.cell0 q0
  replace q1 := k13.cell0 q1
  replace q2 := k13.cell0 q2
  replace q3 := k13.cell0 q3
  replace K := hide ((unhide K).trans k13)
  have z14 := k13.size
  have KV2 := k13
  clear mk hxs hys hz1 hz2 hv1 hv2
  have l2 := o2.lt
  obtain ⟨p1, c1, hv⟩ := own_slice o1
  subst hv
  obtain ⟨p2, c2, hv⟩ := own_slice o2
  subst hv
  have KV : Kept 0 0 w9 w13 := KV1.trans KV2
  have DD := dya_new2 n1 n2 e1 e2 93 KV o1 o2 (by have := KV1.size; omega) (fun i e => (l1 i e).2)
  have kn := ((Kept.refl 0 0 w13).alloc (.cells #[.slice p1 xs.length c1, .bool n1, .int .i64 e1] 93)).alloc (.cells #[.slice p2 ys.length c2, .bool n2, .int .i64 e2] 93)
  replace qf0 := kn.loose0 (World.block_lt_of_cell? _ _ q0) qf0
  replace qf1 := kn.loose0 (World.block_lt_of_cell? _ _ q1) qf1
  replace qf2 := kn.loose0 (World.block_lt_of_cell? _ _ q2) qf2
  replace qf3 := kn.loose0 (World.block_lt_of_cell? _ _ q3) qf3
  replace q0 := kn.cell0 q0
  replace q1 := kn.cell0 q1
  replace q2 := kn.cell0 q2
  replace q3 := kn.cell0 q3
  replace K := hide ((unhide K).trans kn)
  have z15 := kn.size
  clear kn o1 o2 KV KV1 KV2
  go_wp2_with fail
  generalize (w13.alloc (.cells #[.slice p1 xs.length c1, .bool n1, .int .i64 e1] 93)).alloc (.cells #[.slice p2 ys.length c2, .bool n2, .int .i64 e2] 93) = W5 at *
  obtain ⟨⟨⟨y1, y2, t⟩, d1, d2⟩, x1, x2⟩ := DD
  have mk := roundedSum_impl t d1 d2 x1 x2 hn1 hn2 (by omega) (by omega) (by omega) (by omega) (by omega) (by omega) mode hm0 hm4 (T.kept (unhide KW))
  rw [unhide HR] at mk
  refine mk.mono ?_
  rintro e w6 ⟨rfl, k6⟩
  clear mk t d1 d2 x1 x2
  replace qf0 : w6.frozen? ⟨w.heap.size, 0, none⟩ = false := k6.loose0 (World.block_lt_of_cell? _ _ Q0) QF0
  replace qf1 : w6.frozen? ⟨w.heap.size, 1, none⟩ = false := k6.loose0 (World.block_lt_of_cell? _ _ Q1) QF1
  replace qf2 : w6.frozen? ⟨w.heap.size, 2, none⟩ = false := k6.loose0 (World.block_lt_of_cell? _ _ Q2) QF2
  replace qf3 : w6.frozen? ⟨w.heap.size, 3, none⟩ = false := k6.loose0 (World.block_lt_of_cell? _ _ Q3) QF3
  replace q0 : w6.cell? ⟨w.heap.size, 0, none⟩ = _ := k6.cell0 Q0
  replace q1 : w6.cell? ⟨w.heap.size, 1, none⟩ = _ := k6.cell0 Q1
  replace q2 : w6.cell? ⟨w.heap.size, 2, none⟩ = _ := k6.cell0 Q2
  replace q3 : w6.cell? ⟨w.heap.size, 3, none⟩ = _ := k6.cell0 Q3
  replace K := hide ((unhide KW).trans k6)
  clear k6 Q0 Q1 Q2 Q3 QF0 QF1 QF2 QF3 KW
  have KF := hide (((((unhide K).setNew (p := ⟨w.heap.size, 0, none⟩) (by simp) (.int .i64 Q.1.1)).setNew (p := ⟨w.heap.size, 1, none⟩) (by simp) (.bool Q.1.2.1)).setNew (p := ⟨w.heap.size, 2, none⟩) (by simp) (.int .i64 Q.1.2.2.1)).setNew (p := ⟨w.heap.size, 3, none⟩) (by simp) (.int .i64 Q.1.2.2.2))
  clear K
  try go_wp2_with fail
  exact bodyPost_ret (v := .tuple #[.agg #[.int .i64 Q.1.1, .bool Q.1.2.1, .int .i64 Q.1.2.2.1, .int .i64 Q.1.2.2.2], .int .i64 Q.2]) (by simp [results, Tryz.results46, go_sem, q0, q1, q2, q3]) rfl ⟨rfl, unhide KF⟩

set_option maxHeartbeats 2000000 in
theorem addI_num_nought (n1 : Bool) (m1 e1 : Int) (n2 : Bool) (a11 : -1074 ≤ e1) (a21 : e1 ≤ 971) (a31 : 1 ≤ m1) (a41 : m1 ≤ 9007199254740991) (mode : Int) (hm0 : 0 ≤ mode) (hm4 : mode ≤ 4) (w : World) (T : TabB w) :
    Calls Tryz.prog 46 #[.iface 133 (.agg #[.bool n1, .int .i64 m1, .int .i64 e1]), .iface 131 (.agg #[.bool n2]), .int .i64 mode] w fun e' w' => e' = .returned (.tuple #[flq (addQ 1 n1 m1 e1 0 n2 0 0 mode).1, .int .i64 (addQ 1 n1 m1 e1 0 n2 0 0 mode).2]) ∧ Kept 0 0 w w' := by
  obtain ⟨Q, hQ⟩ : ∃ q, addQ 1 n1 m1 e1 0 n2 0 0 mode = q := ⟨_, rfl⟩
  rw [hQ]
  have HQ := hide hQ
  clear hQ
  have k0 : Kept 0 0 w (w.alloc (.cells #[.int .i64 0, .bool false, .int .i64 0, .int .i64 0] 25)) := ((Kept.refl 0 0 w).alloc (.cells #[.int .i64 0, .bool false, .int .i64 0, .int .i64 0] 25))
  have q0 : (w.alloc (.cells #[.int .i64 0, .bool false, .int .i64 0, .int .i64 0] 25)).cell? ⟨w.heap.size, 0, none⟩ = some (.int .i64 0) := new_cell2 _ _ _ _ _ _ (by simp) rfl
  have qf0 : (w.alloc (.cells #[.int .i64 0, .bool false, .int .i64 0, .int .i64 0] 25)).frozen? ⟨w.heap.size, 0, none⟩ = false := new_loose2 _ _ _ _ _ (by simp)
  have q1 : (w.alloc (.cells #[.int .i64 0, .bool false, .int .i64 0, .int .i64 0] 25)).cell? ⟨w.heap.size, 1, none⟩ = some (.bool false) := new_cell2 _ _ _ _ _ _ (by simp) rfl
  have qf1 : (w.alloc (.cells #[.int .i64 0, .bool false, .int .i64 0, .int .i64 0] 25)).frozen? ⟨w.heap.size, 1, none⟩ = false := new_loose2 _ _ _ _ _ (by simp)
  have q2 : (w.alloc (.cells #[.int .i64 0, .bool false, .int .i64 0, .int .i64 0] 25)).cell? ⟨w.heap.size, 2, none⟩ = some (.int .i64 0) := new_cell2 _ _ _ _ _ _ (by simp) rfl
  have qf2 : (w.alloc (.cells #[.int .i64 0, .bool false, .int .i64 0, .int .i64 0] 25)).frozen? ⟨w.heap.size, 2, none⟩ = false := new_loose2 _ _ _ _ _ (by simp)
  have q3 : (w.alloc (.cells #[.int .i64 0, .bool false, .int .i64 0, .int .i64 0] 25)).cell? ⟨w.heap.size, 3, none⟩ = some (.int .i64 0) := new_cell2 _ _ _ _ _ _ (by simp) rfl
  have qf3 : (w.alloc (.cells #[.int .i64 0, .bool false, .int .i64 0, .int .i64 0] 25)).frozen? ⟨w.heap.size, 3, none⟩ = false := new_loose2 _ _ _ _ _ (by simp)
  have s0 : (w.alloc (.cells #[.int .i64 0, .bool false, .int .i64 0, .int .i64 0] 25)).heap.size = w.heap.size + 1 := by simp
  have K := hide (k0)
  clear k0
  have S0 := hide s0
  clear s0
  go_enter Tryz.func46, Tryz.ntmps46
  go_wp2_with fail
  generalize (w.alloc (.cells #[.int .i64 0, .bool false, .int .i64 0, .int .i64 0] 25)) = W at *
  refine (is_nan_num n1 m1 e1 _).mono ?_
  rintro e w1 ⟨rfl, k1⟩
  replace qf0 := k1.loose0 (World.block_lt_of_cell? _ _ q0) qf0
  replace qf1 := k1.loose0 (World.block_lt_of_cell? _ _ q1) qf1
  replace qf2 := k1.loose0 (World.block_lt_of_cell? _ _ q2) qf2
  replace qf3 := k1.loose0 (World.block_lt_of_cell? _ _ q3) qf3
  replace q0 := k1.cell0 q0
  replace q1 := k1.cell0 q1
  replace q2 := k1.cell0 q2
  replace q3 := k1.cell0 q3
  replace K := hide ((unhide K).trans k1)
  have z2 := k1.size
  clear k1
  go_wp2_with fail
  refine (is_nan_nought n2 _).mono ?_
  rintro e w3 ⟨rfl, k3⟩
  replace qf0 := k3.loose0 (World.block_lt_of_cell? _ _ q0) qf0
  replace qf1 := k3.loose0 (World.block_lt_of_cell? _ _ q1) qf1
  replace qf2 := k3.loose0 (World.block_lt_of_cell? _ _ q2) qf2
  replace qf3 := k3.loose0 (World.block_lt_of_cell? _ _ q3) qf3
  replace q0 := k3.cell0 q0
  replace q1 := k3.cell0 q1
  replace q2 := k3.cell0 q2
  replace q3 := k3.cell0 q3
  replace K := hide ((unhide K).trans k3)
  have z4 := k3.size
  clear k3
  go_wp2_with fail
  refine (is_inf_num n1 m1 e1 _).mono ?_
  rintro e w5 ⟨rfl, k5⟩
  replace qf0 := k5.loose0 (World.block_lt_of_cell? _ _ q0) qf0
  replace qf1 := k5.loose0 (World.block_lt_of_cell? _ _ q1) qf1
  replace qf2 := k5.loose0 (World.block_lt_of_cell? _ _ q2) qf2
  replace qf3 := k5.loose0 (World.block_lt_of_cell? _ _ q3) qf3
  replace q0 := k5.cell0 q0
  replace q1 := k5.cell0 q1
  replace q2 := k5.cell0 q2
  replace q3 := k5.cell0 q3
  replace K := hide ((unhide K).trans k5)
  have z6 := k5.size
  clear k5
  go_wp2_with fail
  refine (is_inf_num n1 m1 e1 _).mono ?_
  rintro e w7 ⟨rfl, k7⟩
  replace qf0 := k7.loose0 (World.block_lt_of_cell? _ _ q0) qf0
  replace qf1 := k7.loose0 (World.block_lt_of_cell? _ _ q1) qf1
  replace qf2 := k7.loose0 (World.block_lt_of_cell? _ _ q2) qf2
  replace qf3 := k7.loose0 (World.block_lt_of_cell? _ _ q3) qf3
  replace q0 := k7.cell0 q0
  replace q1 := k7.cell0 q1
  replace q2 := k7.cell0 q2
  replace q3 := k7.cell0 q3
  replace K := hide ((unhide K).trans k7)
  have z8 := k7.size
  clear k7
  go_wp2_with fail
  refine (is_inf_nought n2 _).mono ?_
  rintro e w9 ⟨rfl, k9⟩
  replace qf0 := k9.loose0 (World.block_lt_of_cell? _ _ q0) qf0
  replace qf1 := k9.loose0 (World.block_lt_of_cell? _ _ q1) qf1
  replace qf2 := k9.loose0 (World.block_lt_of_cell? _ _ q2) qf2
  replace qf3 := k9.loose0 (World.block_lt_of_cell? _ _ q3) qf3
  replace q0 := k9.cell0 q0
  replace q1 := k9.cell0 q1
  replace q2 := k9.cell0 q2
  replace q3 := k9.cell0 q3
  replace K := hide ((unhide K).trans k9)
  have z10 := k9.size
  clear k9
  go_wp2_with fail
  obtain ⟨xs, hxs⟩ : ∃ L : List Int, limbs m1.toNat = L := ⟨_, rfl⟩
  obtain ⟨ys, hys⟩ : ∃ L : List Int, ([] : List Int) = L := ⟨_, rfl⟩
  have hn1 : Nrm xs := by rw [← hxs]; exact limbs_nrm _
  have hv1 : wval n1 xs = fM 1 n1 m1 := by rw [← hxs]; exact limbs_wval n1 a31
  have hl1 : xs.length ≤ 4 := by
    rw [← hxs]
    refine (limbs_length_le _ _).2 ?_
    rw [show (65536 : Int) ^ 4 = 18446744073709551616 by decide]
    omega
  have hz1 : xs.length ≠ 0 := by
    intro e
    have e2 := List.length_eq_zero_iff.1 e
    rw [e2] at hxs
    have e3 := congrArg val hxs
    rw [limbs_val] at e3
    simp [val] at e3
    omega
  have hn2 : Nrm ys := by rw [← hys, ← limbs_zero]; exact limbs_nrm 0
  have hv2 : wval n2 ys = fM 0 n2 0 := by rw [← hys, fM_zero (by decide)]; exact wval_nil _
  have hl2 : ys.length ≤ 4 := by rw [← hys]; decide
  have hz2 : ys.length = 0 := by rw [← hys]; rfl
  have HR : Hid (rndQ mode (wval n1 xs * 2 ^ (e1 - min e1 (0 : Int)).toNat + wval n2 ys * 2 ^ ((0 : Int) - min e1 (0 : Int)).toNat) (min e1 (0 : Int)) (if xs.length = 0 ∧ ys.length = 0 ∧ n1 = n2 then n1 else (mode == 3)) = Q) := by
    show _ = _
    rw [← unhide HQ, hv1, hv2]
    unfold addQ
    simp [hz1, hz2]
  have Q0 := q0
  have QF0 := qf0
  have Q1 := q1
  have QF1 := qf1
  have Q2 := q2
  have QF2 := qf2
  have Q3 := q3
  have QF3 := qf3
  have KW := K
  have mk := valueOf_num n1 m1 e1 a31 a41 w9
  rw [hxs] at mk
  refine (mk).mono ?_
  rintro e w11 ⟨v1, rfl, o1, k11⟩
  replace qf0 := k11.loose0 (World.block_lt_of_cell? _ _ q0) qf0
  replace qf1 := k11.loose0 (World.block_lt_of_cell? _ _ q1) qf1
  replace qf2 := k11.loose0 (World.block_lt_of_cell? _ _ q2) qf2
  replace qf3 := k11.loose0 (World.block_lt_of_cell? _ _ q3) qf3
  replace q0 := k11.cell0 q0
  replace q1 := k11.cell0 q1
  replace q2 := k11.cell0 q2
  replace q3 := k11.cell0 q3
  replace K := hide ((unhide K).trans k11)
  have z12 := k11.size
  have KV1 := k11
  clear mk
  have l1 := o1.lt
  go_wp2_with fail
  have mk := valueOf_nought n2 w11
  rw [hys] at mk
  refine (mk).mono ?_
  rintro e w13 ⟨v2, rfl, o2, k13⟩
  replace o1 := own_kept o1 k13
  replace qf0 := k13.loose0 (World.block_lt_of_cell? _ _ q0) qf0
  replace qf1 := k13.loose0 (World.block_lt_of_cell? _ _ q1) qf1
  replace qf2 := k13.loose0 (World.block_lt_of_cell? _ _ q2) qf2
  replace qf3 := k13.loose0 (World.block_lt_of_cell? _ _ q3) qf3
  replace q0 := k13.cell0 q0
  replace q1 := k13.cell0 q1
  replace q2 := k13.cell0 q2
  replace q3 := k13.cell0 q3
  replace K := hide ((unhide K).trans k13)
  have z14 := k13.size
  have KV2 := k13
  clear mk hxs hys hz1 hz2 hv1 hv2
  have l2 := o2.lt
  obtain ⟨p1, c1, hv⟩ := own_slice o1
  subst hv
  obtain ⟨p2, c2, hv⟩ := own_slice o2
  subst hv
  have KV : Kept 0 0 w9 w13 := KV1.trans KV2
  have DD := dya_new2 n1 n2 e1 0 93 KV o1 o2 (by have := KV1.size; omega) (fun i e => (l1 i e).2)
  have kn := ((Kept.refl 0 0 w13).alloc (.cells #[.slice p1 xs.length c1, .bool n1, .int .i64 e1] 93)).alloc (.cells #[.slice p2 ys.length c2, .bool n2, .int .i64 0] 93)
  replace qf0 := kn.loose0 (World.block_lt_of_cell? _ _ q0) qf0
  replace qf1 := kn.loose0 (World.block_lt_of_cell? _ _ q1) qf1
  replace qf2 := kn.loose0 (World.block_lt_of_cell? _ _ q2) qf2
  replace qf3 := kn.loose0 (World.block_lt_of_cell? _ _ q3) qf3
  replace q0 := kn.cell0 q0
  replace q1 := kn.cell0 q1
  replace q2 := kn.cell0 q2
  replace q3 := kn.cell0 q3
  replace K := hide ((unhide K).trans kn)
  have z15 := kn.size
  clear kn o1 o2 KV KV1 KV2
  go_wp2_with fail
  generalize (w13.alloc (.cells #[.slice p1 xs.length c1, .bool n1, .int .i64 e1] 93)).alloc (.cells #[.slice p2 ys.length c2, .bool n2, .int .i64 0] 93) = W5 at *
  obtain ⟨⟨⟨y1, y2, t⟩, d1, d2⟩, x1, x2⟩ := DD
  have mk := roundedSum_impl t d1 d2 x1 x2 hn1 hn2 (by omega) (by omega) (by omega) (by omega) (by omega) (by omega) mode hm0 hm4 (T.kept (unhide KW))
  rw [unhide HR] at mk
  refine mk.mono ?_
  rintro e w6 ⟨rfl, k6⟩
  clear mk t d1 d2 x1 x2
  replace qf0 : w6.frozen? ⟨w.heap.size, 0, none⟩ = false := k6.loose0 (World.block_lt_of_cell? _ _ Q0) QF0
  replace qf1 : w6.frozen? ⟨w.heap.size, 1, none⟩ = false := k6.loose0 (World.block_lt_of_cell? _ _ Q1) QF1
  replace qf2 : w6.frozen? ⟨w.heap.size, 2, none⟩ = false := k6.loose0 (World.block_lt_of_cell? _ _ Q2) QF2
  replace qf3 : w6.frozen? ⟨w.heap.size, 3, none⟩ = false := k6.loose0 (World.block_lt_of_cell? _ _ Q3) QF3
  replace q0 : w6.cell? ⟨w.heap.size, 0, none⟩ = _ := k6.cell0 Q0
  replace q1 : w6.cell? ⟨w.heap.size, 1, none⟩ = _ := k6.cell0 Q1
  replace q2 : w6.cell? ⟨w.heap.size, 2, none⟩ = _ := k6.cell0 Q2
  replace q3 : w6.cell? ⟨w.heap.size, 3, none⟩ = _ := k6.cell0 Q3
  replace K := hide ((unhide KW).trans k6)
  clear k6 Q0 Q1 Q2 Q3 QF0 QF1 QF2 QF3 KW
  have KF := hide (((((unhide K).setNew (p := ⟨w.heap.size, 0, none⟩) (by simp) (.int .i64 Q.1.1)).setNew (p := ⟨w.heap.size, 1, none⟩) (by simp) (.bool Q.1.2.1)).setNew (p := ⟨w.heap.size, 2, none⟩) (by simp) (.int .i64 Q.1.2.2.1)).setNew (p := ⟨w.heap.size, 3, none⟩) (by simp) (.int .i64 Q.1.2.2.2))
  clear K
  try go_wp2_with fail
  exact bodyPost_ret (v := .tuple #[.agg #[.int .i64 Q.1.1, .bool Q.1.2.1, .int .i64 Q.1.2.2.1, .int .i64 Q.1.2.2.2], .int .i64 Q.2]) (by simp [results, Tryz.results46, go_sem, q0, q1, q2, q3]) rfl ⟨rfl, unhide KF⟩

set_option maxHeartbeats 2000000 in
theorem addI_num_inf (n1 : Bool) (m1 e1 : Int) (n2 : Bool) (a11 : -1074 ≤ e1) (a21 : e1 ≤ 971) (a31 : 1 ≤ m1) (a41 : m1 ≤ 9007199254740991) (mode : Int) (hm0 : 0 ≤ mode) (hm4 : mode ≤ 4) (w : World) :
    Calls Tryz.prog 46 #[.iface 133 (.agg #[.bool n1, .int .i64 m1, .int .i64 e1]), .iface 134 (.agg #[.bool n2]), .int .i64 mode] w fun e' w' => e' = .returned (.tuple #[flq (addQ 1 n1 m1 e1 2 n2 0 0 mode).1, .int .i64 (addQ 1 n1 m1 e1 2 n2 0 0 mode).2]) ∧ Kept 0 0 w w' := by
  obtain ⟨Q, hQ⟩ : ∃ q, addQ 1 n1 m1 e1 2 n2 0 0 mode = q := ⟨_, rfl⟩
  rw [hQ]
  have HQ := hide hQ
  clear hQ
  have FQ : Hid (Q = ((2, n2, 0, 0), 0)) := by show _ = _; rw [← unhide HQ]; unfold addQ; simp
  have g2 := fun w => hs_inf n2 w
  have i2 := fun w => inv_inf_t n2 w
  have k0 : Kept 0 0 w (w.alloc (.cells #[.int .i64 0, .bool false, .int .i64 0, .int .i64 0] 25)) := ((Kept.refl 0 0 w).alloc (.cells #[.int .i64 0, .bool false, .int .i64 0, .int .i64 0] 25))
  have q0 : (w.alloc (.cells #[.int .i64 0, .bool false, .int .i64 0, .int .i64 0] 25)).cell? ⟨w.heap.size, 0, none⟩ = some (.int .i64 0) := new_cell2 _ _ _ _ _ _ (by simp) rfl
  have qf0 : (w.alloc (.cells #[.int .i64 0, .bool false, .int .i64 0, .int .i64 0] 25)).frozen? ⟨w.heap.size, 0, none⟩ = false := new_loose2 _ _ _ _ _ (by simp)
  have q1 : (w.alloc (.cells #[.int .i64 0, .bool false, .int .i64 0, .int .i64 0] 25)).cell? ⟨w.heap.size, 1, none⟩ = some (.bool false) := new_cell2 _ _ _ _ _ _ (by simp) rfl
  have qf1 : (w.alloc (.cells #[.int .i64 0, .bool false, .int .i64 0, .int .i64 0] 25)).frozen? ⟨w.heap.size, 1, none⟩ = false := new_loose2 _ _ _ _ _ (by simp)
  have q2 : (w.alloc (.cells #[.int .i64 0, .bool false, .int .i64 0, .int .i64 0] 25)).cell? ⟨w.heap.size, 2, none⟩ = some (.int .i64 0) := new_cell2 _ _ _ _ _ _ (by simp) rfl
  have qf2 : (w.alloc (.cells #[.int .i64 0, .bool false, .int .i64 0, .int .i64 0] 25)).frozen? ⟨w.heap.size, 2, none⟩ = false := new_loose2 _ _ _ _ _ (by simp)
  have q3 : (w.alloc (.cells #[.int .i64 0, .bool false, .int .i64 0, .int .i64 0] 25)).cell? ⟨w.heap.size, 3, none⟩ = some (.int .i64 0) := new_cell2 _ _ _ _ _ _ (by simp) rfl
  have qf3 : (w.alloc (.cells #[.int .i64 0, .bool false, .int .i64 0, .int .i64 0] 25)).frozen? ⟨w.heap.size, 3, none⟩ = false := new_loose2 _ _ _ _ _ (by simp)
  have s0 : (w.alloc (.cells #[.int .i64 0, .bool false, .int .i64 0, .int .i64 0] 25)).heap.size = w.heap.size + 1 := by simp
  have K := hide (k0)
  clear k0
  have S0 := hide s0
  clear s0
  go_enter Tryz.func46, Tryz.ntmps46
  go_wp2_with fail
  generalize (w.alloc (.cells #[.int .i64 0, .bool false, .int .i64 0, .int .i64 0] 25)) = W at *
  refine (is_nan_num n1 m1 e1 _).mono ?_
  rintro e w1 ⟨rfl, k1⟩
  replace qf0 := k1.loose0 (World.block_lt_of_cell? _ _ q0) qf0
  replace qf1 := k1.loose0 (World.block_lt_of_cell? _ _ q1) qf1
  replace qf2 := k1.loose0 (World.block_lt_of_cell? _ _ q2) qf2
  replace qf3 := k1.loose0 (World.block_lt_of_cell? _ _ q3) qf3
  replace q0 := k1.cell0 q0
  replace q1 := k1.cell0 q1
  replace q2 := k1.cell0 q2
  replace q3 := k1.cell0 q3
  replace K := hide ((unhide K).trans k1)
  have z2 := k1.size
  clear k1
  go_wp2_with fail
  refine (is_nan_inf n2 _).mono ?_
  rintro e w3 ⟨rfl, k3⟩
  replace qf0 := k3.loose0 (World.block_lt_of_cell? _ _ q0) qf0
  replace qf1 := k3.loose0 (World.block_lt_of_cell? _ _ q1) qf1
  replace qf2 := k3.loose0 (World.block_lt_of_cell? _ _ q2) qf2
  replace qf3 := k3.loose0 (World.block_lt_of_cell? _ _ q3) qf3
  replace q0 := k3.cell0 q0
  replace q1 := k3.cell0 q1
  replace q2 := k3.cell0 q2
  replace q3 := k3.cell0 q3
  replace K := hide ((unhide K).trans k3)
  have z4 := k3.size
  clear k3
  go_wp2_with fail
  refine (is_inf_num n1 m1 e1 _).mono ?_
  rintro e w5 ⟨rfl, k5⟩
  replace qf0 := k5.loose0 (World.block_lt_of_cell? _ _ q0) qf0
  replace qf1 := k5.loose0 (World.block_lt_of_cell? _ _ q1) qf1
  replace qf2 := k5.loose0 (World.block_lt_of_cell? _ _ q2) qf2
  replace qf3 := k5.loose0 (World.block_lt_of_cell? _ _ q3) qf3
  replace q0 := k5.cell0 q0
  replace q1 := k5.cell0 q1
  replace q2 := k5.cell0 q2
  replace q3 := k5.cell0 q3
  replace K := hide ((unhide K).trans k5)
  have z6 := k5.size
  clear k5
  go_wp2_with fail
  refine (is_inf_num n1 m1 e1 _).mono ?_
  rintro e w7 ⟨rfl, k7⟩
  replace qf0 := k7.loose0 (World.block_lt_of_cell? _ _ q0) qf0
  replace qf1 := k7.loose0 (World.block_lt_of_cell? _ _ q1) qf1
  replace qf2 := k7.loose0 (World.block_lt_of_cell? _ _ q2) qf2
  replace qf3 := k7.loose0 (World.block_lt_of_cell? _ _ q3) qf3
  replace q0 := k7.cell0 q0
  replace q1 := k7.cell0 q1
  replace q2 := k7.cell0 q2
  replace q3 := k7.cell0 q3
  replace K := hide ((unhide K).trans k7)
  have z8 := k7.size
  clear k7
  go_wp2_with fail
  refine (is_inf_inf n2 _).mono ?_
  rintro e w9 ⟨rfl, k9⟩
  replace qf0 := k9.loose0 (World.block_lt_of_cell? _ _ q0) qf0
  replace qf1 := k9.loose0 (World.block_lt_of_cell? _ _ q1) qf1
  replace qf2 := k9.loose0 (World.block_lt_of_cell? _ _ q2) qf2
  replace qf3 := k9.loose0 (World.block_lt_of_cell? _ _ q3) qf3
  replace q0 := k9.cell0 q0
  replace q1 := k9.cell0 q1
  replace q2 := k9.cell0 q2
  replace q3 := k9.cell0 q3
  replace K := hide ((unhide K).trans k9)
  have z10 := k9.size
  clear k9
  go_wp2_with fail
  refine (told_inf_t n2 _).mono ?_
  rintro e w11 ⟨rfl, k11⟩
  replace qf0 := k11.loose0 (World.block_lt_of_cell? _ _ q0) qf0
  replace qf1 := k11.loose0 (World.block_lt_of_cell? _ _ q1) qf1
  replace qf2 := k11.loose0 (World.block_lt_of_cell? _ _ q2) qf2
  replace qf3 := k11.loose0 (World.block_lt_of_cell? _ _ q3) qf3
  replace q0 := k11.cell0 q0
  replace q1 := k11.cell0 q1
  replace q2 := k11.cell0 q2
  replace q3 := k11.cell0 q3
  replace K := hide ((unhide K).trans k11)
  have z12 := k11.size
  clear k11
  have KF := hide (((((unhide K).setNew (p := ⟨w.heap.size, 0, none⟩) (by simp) (.int .i64 2)).setNew (p := ⟨w.heap.size, 1, none⟩) (by simp) (.bool n2)).setNew (p := ⟨w.heap.size, 2, none⟩) (by simp) (.int .i64 0)).setNew (p := ⟨w.heap.size, 3, none⟩) (by simp) (.int .i64 0))
  clear K
  try go_wp2_with fail
  exact bodyPost_ret (v := .tuple #[.agg #[.int .i64 2, .bool n2, .int .i64 0, .int .i64 0], .int .i64 0]) (by simp [results, Tryz.results46, go_sem, q0, q1, q2, q3]) rfl ⟨by rw [unhide FQ], unhide KF⟩

set_option maxHeartbeats 2000000 in
theorem addI_num_nan (n1 : Bool) (m1 e1 : Int) (a11 : -1074 ≤ e1) (a21 : e1 ≤ 971) (a31 : 1 ≤ m1) (a41 : m1 ≤ 9007199254740991) (mode : Int) (hm0 : 0 ≤ mode) (hm4 : mode ≤ 4) (w : World) :
    Calls Tryz.prog 46 #[.iface 133 (.agg #[.bool n1, .int .i64 m1, .int .i64 e1]), .iface 135 (.agg #[.bool false]), .int .i64 mode] w fun e' w' => e' = .returned (.tuple #[flq (addQ 1 n1 m1 e1 3 false 0 0 mode).1, .int .i64 (addQ 1 n1 m1 e1 3 false 0 0 mode).2]) ∧ Kept 0 0 w w' := by
  obtain ⟨Q, hQ⟩ : ∃ q, addQ 1 n1 m1 e1 3 false 0 0 mode = q := ⟨_, rfl⟩
  rw [hQ]
  have HQ := hide hQ
  clear hQ
  have FQ : Hid (Q = ((3, false, 0, 0), 0)) := by show _ = _; rw [← unhide HQ]; unfold addQ; simp
  have k0 : Kept 0 0 w (w.alloc (.cells #[.int .i64 0, .bool false, .int .i64 0, .int .i64 0] 25)) := ((Kept.refl 0 0 w).alloc (.cells #[.int .i64 0, .bool false, .int .i64 0, .int .i64 0] 25))
  have q0 : (w.alloc (.cells #[.int .i64 0, .bool false, .int .i64 0, .int .i64 0] 25)).cell? ⟨w.heap.size, 0, none⟩ = some (.int .i64 0) := new_cell2 _ _ _ _ _ _ (by simp) rfl
  have qf0 : (w.alloc (.cells #[.int .i64 0, .bool false, .int .i64 0, .int .i64 0] 25)).frozen? ⟨w.heap.size, 0, none⟩ = false := new_loose2 _ _ _ _ _ (by simp)
  have q1 : (w.alloc (.cells #[.int .i64 0, .bool false, .int .i64 0, .int .i64 0] 25)).cell? ⟨w.heap.size, 1, none⟩ = some (.bool false) := new_cell2 _ _ _ _ _ _ (by simp) rfl
  have qf1 : (w.alloc (.cells #[.int .i64 0, .bool false, .int .i64 0, .int .i64 0] 25)).frozen? ⟨w.heap.size, 1, none⟩ = false := new_loose2 _ _ _ _ _ (by simp)
  have q2 : (w.alloc (.cells #[.int .i64 0, .bool false, .int .i64 0, .int .i64 0] 25)).cell? ⟨w.heap.size, 2, none⟩ = some (.int .i64 0) := new_cell2 _ _ _ _ _ _ (by simp) rfl
  have qf2 : (w.alloc (.cells #[.int .i64 0, .bool false, .int .i64 0, .int .i64 0] 25)).frozen? ⟨w.heap.size, 2, none⟩ = false := new_loose2 _ _ _ _ _ (by simp)
  have q3 : (w.alloc (.cells #[.int .i64 0, .bool false, .int .i64 0, .int .i64 0] 25)).cell? ⟨w.heap.size, 3, none⟩ = some (.int .i64 0) := new_cell2 _ _ _ _ _ _ (by simp) rfl
  have qf3 : (w.alloc (.cells #[.int .i64 0, .bool false, .int .i64 0, .int .i64 0] 25)).frozen? ⟨w.heap.size, 3, none⟩ = false := new_loose2 _ _ _ _ _ (by simp)
  have s0 : (w.alloc (.cells #[.int .i64 0, .bool false, .int .i64 0, .int .i64 0] 25)).heap.size = w.heap.size + 1 := by simp
  have K := hide (k0)
  clear k0
  have S0 := hide s0
  clear s0
  go_enter Tryz.func46, Tryz.ntmps46
  go_wp2_with fail
  generalize (w.alloc (.cells #[.int .i64 0, .bool false, .int .i64 0, .int .i64 0] 25)) = W at *
  refine (is_nan_num n1 m1 e1 _).mono ?_
  rintro e w1 ⟨rfl, k1⟩
  replace qf0 := k1.loose0 (World.block_lt_of_cell? _ _ q0) qf0
  replace qf1 := k1.loose0 (World.block_lt_of_cell? _ _ q1) qf1
  replace qf2 := k1.loose0 (World.block_lt_of_cell? _ _ q2) qf2
  replace qf3 := k1.loose0 (World.block_lt_of_cell? _ _ q3) qf3
  replace q0 := k1.cell0 q0
  replace q1 := k1.cell0 q1
  replace q2 := k1.cell0 q2
  replace q3 := k1.cell0 q3
  replace K := hide ((unhide K).trans k1)
  have z2 := k1.size
  clear k1
  go_wp2_with fail
  refine (is_nan_nan _).mono ?_
  rintro e w3 ⟨rfl, k3⟩
  replace qf0 := k3.loose0 (World.block_lt_of_cell? _ _ q0) qf0
  replace qf1 := k3.loose0 (World.block_lt_of_cell? _ _ q1) qf1
  replace qf2 := k3.loose0 (World.block_lt_of_cell? _ _ q2) qf2
  replace qf3 := k3.loose0 (World.block_lt_of_cell? _ _ q3) qf3
  replace q0 := k3.cell0 q0
  replace q1 := k3.cell0 q1
  replace q2 := k3.cell0 q2
  replace q3 := k3.cell0 q3
  replace K := hide ((unhide K).trans k3)
  have z4 := k3.size
  clear k3
  have KF := hide (((((unhide K).setNew (p := ⟨w.heap.size, 0, none⟩) (by simp) (.int .i64 3)).setNew (p := ⟨w.heap.size, 1, none⟩) (by simp) (.bool false)).setNew (p := ⟨w.heap.size, 2, none⟩) (by simp) (.int .i64 0)).setNew (p := ⟨w.heap.size, 3, none⟩) (by simp) (.int .i64 0))
  clear K
  try go_wp2_with fail
  exact bodyPost_ret (v := .tuple #[.agg #[.int .i64 3, .bool false, .int .i64 0, .int .i64 0], .int .i64 0]) (by simp [results, Tryz.results46, go_sem, q0, q1, q2, q3]) rfl ⟨by rw [unhide FQ], unhide KF⟩

set_option maxHeartbeats 2000000 in
theorem addI_nought_num (n1 : Bool) (n2 : Bool) (m2 e2 : Int) (a12 : -1074 ≤ e2) (a22 : e2 ≤ 971) (a32 : 1 ≤ m2) (a42 : m2 ≤ 9007199254740991) (mode : Int) (hm0 : 0 ≤ mode) (hm4 : mode ≤ 4) (w : World) (T : TabB w) :
    Calls Tryz.prog 46 #[.iface 131 (.agg #[.bool n1]), .iface 133 (.agg #[.bool n2, .int .i64 m2, .int .i64 e2]), .int .i64 mode] w fun e' w' => e' = .returned (.tuple #[flq (addQ 0 n1 0 0 1 n2 m2 e2 mode).1, .int .i64 (addQ 0 n1 0 0 1 n2 m2 e2 mode).2]) ∧ Kept 0 0 w w' := by
  obtain ⟨Q, hQ⟩ : ∃ q, addQ 0 n1 0 0 1 n2 m2 e2 mode = q := ⟨_, rfl⟩
  rw [hQ]
  have HQ := hide hQ
  clear hQ
  have k0 : Kept 0 0 w (w.alloc (.cells #[.int .i64 0, .bool false, .int .i64 0, .int .i64 0] 25)) := ((Kept.refl 0 0 w).alloc (.cells #[.int .i64 0, .bool false, .int .i64 0, .int .i64 0] 25))
  have q0 : (w.alloc (.cells #[.int .i64 0, .bool false, .int .i64 0, .int .i64 0] 25)).cell? ⟨w.heap.size, 0, none⟩ = some (.int .i64 0) := new_cell2 _ _ _ _ _ _ (by simp) rfl
  have qf0 : (w.alloc (.cells #[.int .i64 0, .bool false, .int .i64 0, .int .i64 0] 25)).frozen? ⟨w.heap.size, 0, none⟩ = false := new_loose2 _ _ _ _ _ (by simp)
  have q1 : (w.alloc (.cells #[.int .i64 0, .bool false, .int .i64 0, .int .i64 0] 25)).cell? ⟨w.heap.size, 1, none⟩ = some (.bool false) := new_cell2 _ _ _ _ _ _ (by simp) rfl
  have qf1 : (w.alloc (.cells #[.int .i64 0, .bool false, .int .i64 0, .int .i64 0] 25)).frozen? ⟨w.heap.size, 1, none⟩ = false := new_loose2 _ _ _ _ _ (by simp)
  have q2 : (w.alloc (.cells #[.int .i64 0, .bool false, .int .i64 0, .int .i64 0] 25)).cell? ⟨w.heap.size, 2, none⟩ = some (.int .i64 0) := new_cell2 _ _ _ _ _ _ (by simp) rfl
  have qf2 : (w.alloc (.cells #[.int .i64 0, .bool false, .int .i64 0, .int .i64 0] 25)).frozen? ⟨w.heap.size, 2, none⟩ = false := new_loose2 _ _ _ _ _ (by simp)
  have q3 : (w.alloc (.cells #[.int .i64 0, .bool false, .int .i64 0, .int .i64 0] 25)).cell? ⟨w.heap.size, 3, none⟩ = some (.int .i64 0) := new_cell2 _ _ _ _ _ _ (by simp) rfl
  have qf3 : (w.alloc (.cells #[.int .i64 0, .bool false, .int .i64 0, .int .i64 0] 25)).frozen? ⟨w.heap.size, 3, none⟩ = false := new_loose2 _ _ _ _ _ (by simp)
  have s0 : (w.alloc (.cells #[.int .i64 0, .bool false, .int .i64 0, .int .i64 0] 25)).heap.size = w.heap.size + 1 := by simp
  have K := hide (k0)
  clear k0
  have S0 := hide s0
  clear s0
  go_enter Tryz.func46, Tryz.ntmps46
  go_wp2_with fail
  generalize (w.alloc (.cells #[.int .i64 0, .bool false, .int .i64 0, .int .i64 0] 25)) = W at *
  refine (is_nan_nought n1 _).mono ?_
  rintro e w1 ⟨rfl, k1⟩
  replace qf0 := k1.loose0 (World.block_lt_of_cell? _ _ q0) qf0
  replace qf1 := k1.loose0 (World.block_lt_of_cell? _ _ q1) qf1
  replace qf2 := k1.loose0 (World.block_lt_of_cell? _ _ q2) qf2
  replace qf3 := k1.loose0 (World.block_lt_of_cell? _ _ q3) qf3
  replace q0 := k1.cell0 q0
  replace q1 := k1.cell0 q1
  replace q2 := k1.cell0 q2
  replace q3 := k1.cell0 q3
  replace K := hide ((unhide K).trans k1)
  have z2 := k1.size
  clear k1
  go_wp2_with fail
  refine (is_nan_num n2 m2 e2 _).mono ?_
  rintro e w3 ⟨rfl, k3⟩
  replace qf0 := k3.loose0 (World.block_lt_of_cell? _ _ q0) qf0
  replace qf1 := k3.loose0 (World.block_lt_of_cell? _ _ q1) qf1
  replace qf2 := k3.loose0 (World.block_lt_of_cell? _ _ q2) qf2
  replace qf3 := k3.loose0 (World.block_lt_of_cell? _ _ q3) qf3
  replace q0 := k3.cell0 q0
  replace q1 := k3.cell0 q1
  replace q2 := k3.cell0 q2
  replace q3 := k3.cell0 q3
  replace K := hide ((unhide K).trans k3)
  have z4 := k3.size
  clear k3
  go_wp2_with fail
  refine (is_inf_nought n1 _).mono ?_
  rintro e w5 ⟨rfl, k5⟩
  replace qf0 := k5.loose0 (World.block_lt_of_cell? _ _ q0) qf0
  replace qf1 := k5.loose0 (World.block_lt_of_cell? _ _ q1) qf1
  replace qf2 := k5.loose0 (World.block_lt_of_cell? _ _ q2) qf2
  replace qf3 := k5.loose0 (World.block_lt_of_cell? _ _ q3) qf3
  replace q0 := k5.cell0 q0
  replace q1 := k5.cell0 q1
  replace q2 := k5.cell0 q2
  replace q3 := k5.cell0 q3
  replace K := hide ((unhide K).trans k5)
  have z6 := k5.size
  clear k5
  go_wp2_with fail
  refine (is_inf_nought n1 _).mono ?_
  rintro e w7 ⟨rfl, k7⟩
  replace qf0 := k7.loose0 (World.block_lt_of_cell? _ _ q0) qf0
  replace qf1 := k7.loose0 (World.block_lt_of_cell? _ _ q1) qf1
  replace qf2 := k7.loose0 (World.block_lt_of_cell? _ _ q2) qf2
  replace qf3 := k7.loose0 (World.block_lt_of_cell? _ _ q3) qf3
  replace q0 := k7.cell0 q0
  replace q1 := k7.cell0 q1
  replace q2 := k7.cell0 q2
  replace q3 := k7.cell0 q3
  replace K := hide ((unhide K).trans k7)
  have z8 := k7.size
  clear k7
  go_wp2_with fail
  refine (is_inf_num n2 m2 e2 _).mono ?_
  rintro e w9 ⟨rfl, k9⟩
  replace qf0 := k9.loose0 (World.block_lt_of_cell? _ _ q0) qf0
  replace qf1 := k9.loose0 (World.block_lt_of_cell? _ _ q1) qf1
  replace qf2 := k9.loose0 (World.block_lt_of_cell? _ _ q2) qf2
  replace qf3 := k9.loose0 (World.block_lt_of_cell? _ _ q3) qf3
  replace q0 := k9.cell0 q0
  replace q1 := k9.cell0 q1
  replace q2 := k9.cell0 q2
  replace q3 := k9.cell0 q3
  replace K := hide ((unhide K).trans k9)
  have z10 := k9.size
  clear k9
  go_wp2_with fail
  obtain ⟨xs, hxs⟩ : ∃ L : List Int, ([] : List Int) = L := ⟨_, rfl⟩
  obtain ⟨ys, hys⟩ : ∃ L : List Int, limbs m2.toNat = L := ⟨_, rfl⟩
  have hn1 : Nrm xs := by rw [← hxs, ← limbs_zero]; exact limbs_nrm 0
  have hv1 : wval n1 xs = fM 0 n1 0 := by rw [← hxs, fM_zero (by decide)]; exact wval_nil _
  have hl1 : xs.length ≤ 4 := by rw [← hxs]; decide
  have hz1 : xs.length = 0 := by rw [← hxs]; rfl
  have hn2 : Nrm ys := by rw [← hys]; exact limbs_nrm _
  have hv2 : wval n2 ys = fM 1 n2 m2 := by rw [← hys]; exact limbs_wval n2 a32
  have hl2 : ys.length ≤ 4 := by
    rw [← hys]
    refine (limbs_length_le _ _).2 ?_
    rw [show (65536 : Int) ^ 4 = 18446744073709551616 by decide]
    omega
  have hz2 : ys.length ≠ 0 := by
    intro e
    have e2 := List.length_eq_zero_iff.1 e
    rw [e2] at hys
    have e3 := congrArg val hys
    rw [limbs_val] at e3
    simp [val] at e3
    omega
  have HR : Hid (rndQ mode (wval n1 xs * 2 ^ ((0 : Int) - min (0 : Int) e2).toNat + wval n2 ys * 2 ^ (e2 - min (0 : Int) e2).toNat) (min (0 : Int) e2) (if xs.length = 0 ∧ ys.length = 0 ∧ n1 = n2 then n1 else (mode == 3)) = Q) := by
    show _ = _
    rw [← unhide HQ, hv1, hv2]
    unfold addQ
    simp [hz1, hz2]
  have Q0 := q0
  have QF0 := qf0
  have Q1 := q1
  have QF1 := qf1
  have Q2 := q2
  have QF2 := qf2
  have Q3 := q3
  have QF3 := qf3
  have KW := K
  have mk := valueOf_nought n1 w9
  rw [hxs] at mk
  refine (mk).mono ?_
  rintro e w11 ⟨v1, rfl, o1, k11⟩
  replace qf0 := k11.loose0 (World.block_lt_of_cell? _ _ q0) qf0
  replace qf1 := k11.loose0 (World.block_lt_of_cell? _ _ q1) qf1
  replace qf2 := k11.loose0 (World.block_lt_of_cell? _ _ q2) qf2
  replace qf3 := k11.loose0 (World.block_lt_of_cell? _ _ q3) qf3
  replace q0 := k11.cell0 q0
  replace q1 := k11.cell0 q1
  replace q2 := k11.cell0 q2
  replace q3 := k11.cell0 q3
  replace K := hide ((unhide K).trans k11)
  have z12 := k11.size
  have KV1 := k11
  clear mk
  have l1 := o1.lt
  go_wp2_with fail
  have mk := valueOf_num n2 m2 e2 a32 a42 w11
  rw [hys] at mk
  refine (mk).mono ?_
  rintro e w13 ⟨v2, rfl, o2, k13⟩
  replace o1 := own_kept o1 k13
  replace qf0 := k13.loose0 (World.block_lt_of_cell? _ _ q0) qf0
  replace qf1 := k13.loose0 (World.block_lt_of_cell? _ _ q1) qf1
  replace qf2 := k13.loose0 (World.block_lt_of_cell? _ _ q2) qf2
  replace qf3 := k13.loose0 (World.block_lt_of_cell? _ _ q3) qf3
  replace q0 := k13.cell0 q0
  replace q1 := k13.cell0 q1
  replace q2 := k13.cell0 q2
  replace q3 := k13.cell0 q3
  replace K := hide ((unhide K).trans k13)
  have z14 := k13.size
  have KV2 := k13
  clear mk hxs hys hz1 hz2 hv1 hv2
  have l2 := o2.lt
  obtain ⟨p1, c1, hv⟩ := own_slice o1
  subst hv
  obtain ⟨p2, c2, hv⟩ := own_slice o2
  subst hv
  have KV : Kept 0 0 w9 w13 := KV1.trans KV2
  have DD := dya_new2 n1 n2 0 e2 93 KV o1 o2 (by have := KV1.size; omega) (fun i e => (l1 i e).2)
  have kn := ((Kept.refl 0 0 w13).alloc (.cells #[.slice p1 xs.length c1, .bool n1, .int .i64 0] 93)).alloc (.cells #[.slice p2 ys.length c2, .bool n2, .int .i64 e2] 93)
  replace qf0 := kn.loose0 (World.block_lt_of_cell? _ _ q0) qf0
  replace qf1 := kn.loose0 (World.block_lt_of_cell? _ _ q1) qf1
  replace qf2 := kn.loose0 (World.block_lt_of_cell? _ _ q2) qf2
  replace qf3 := kn.loose0 (World.block_lt_of_cell? _ _ q3) qf3
  replace q0 := kn.cell0 q0
  replace q1 := kn.cell0 q1
  replace q2 := kn.cell0 q2
  replace q3 := kn.cell0 q3
  replace K := hide ((unhide K).trans kn)
  have z15 := kn.size
  clear kn o1 o2 KV KV1 KV2
  go_wp2_with fail
  generalize (w13.alloc (.cells #[.slice p1 xs.length c1, .bool n1, .int .i64 0] 93)).alloc (.cells #[.slice p2 ys.length c2, .bool n2, .int .i64 e2] 93) = W5 at *
  obtain ⟨⟨⟨y1, y2, t⟩, d1, d2⟩, x1, x2⟩ := DD
  have mk := roundedSum_impl t d1 d2 x1 x2 hn1 hn2 (by omega) (by omega) (by omega) (by omega) (by omega) (by omega) mode hm0 hm4 (T.kept (unhide KW))
  rw [unhide HR] at mk
  refine mk.mono ?_
  rintro e w6 ⟨rfl, k6⟩
  clear mk t d1 d2 x1 x2
  replace qf0 : w6.frozen? ⟨w.heap.size, 0, none⟩ = false := k6.loose0 (World.block_lt_of_cell? _ _ Q0) QF0
  replace qf1 : w6.frozen? ⟨w.heap.size, 1, none⟩ = false := k6.loose0 (World.block_lt_of_cell? _ _ Q1) QF1
  replace qf2 : w6.frozen? ⟨w.heap.size, 2, none⟩ = false := k6.loose0 (World.block_lt_of_cell? _ _ Q2) QF2
  replace qf3 : w6.frozen? ⟨w.heap.size, 3, none⟩ = false := k6.loose0 (World.block_lt_of_cell? _ _ Q3) QF3
  replace q0 : w6.cell? ⟨w.heap.size, 0, none⟩ = _ := k6.cell0 Q0
  replace q1 : w6.cell? ⟨w.heap.size, 1, none⟩ = _ := k6.cell0 Q1
  replace q2 : w6.cell? ⟨w.heap.size, 2, none⟩ = _ := k6.cell0 Q2
  replace q3 : w6.cell? ⟨w.heap.size, 3, none⟩ = _ := k6.cell0 Q3
  replace K := hide ((unhide KW).trans k6)
  clear k6 Q0 Q1 Q2 Q3 QF0 QF1 QF2 QF3 KW
  have KF := hide (((((unhide K).setNew (p := ⟨w.heap.size, 0, none⟩) (by simp) (.int .i64 Q.1.1)).setNew (p := ⟨w.heap.size, 1, none⟩) (by simp) (.bool Q.1.2.1)).setNew (p := ⟨w.heap.size, 2, none⟩) (by simp) (.int .i64 Q.1.2.2.1)).setNew (p := ⟨w.heap.size, 3, none⟩) (by simp) (.int .i64 Q.1.2.2.2))
  clear K
  try go_wp2_with fail
  exact bodyPost_ret (v := .tuple #[.agg #[.int .i64 Q.1.1, .bool Q.1.2.1, .int .i64 Q.1.2.2.1, .int .i64 Q.1.2.2.2], .int .i64 Q.2]) (by simp [results, Tryz.results46, go_sem, q0, q1, q2, q3]) rfl ⟨rfl, unhide KF⟩

set_option maxHeartbeats 2000000 in
theorem addI_nought_nought (n1 : Bool) (n2 : Bool) (mode : Int) (hm0 : 0 ≤ mode) (hm4 : mode ≤ 4) (w : World) (T : TabB w) :
    Calls Tryz.prog 46 #[.iface 131 (.agg #[.bool n1]), .iface 131 (.agg #[.bool n2]), .int .i64 mode] w fun e' w' => e' = .returned (.tuple #[flq (addQ 0 n1 0 0 0 n2 0 0 mode).1, .int .i64 (addQ 0 n1 0 0 0 n2 0 0 mode).2]) ∧ Kept 0 0 w w' := by
  obtain ⟨Q, hQ⟩ : ∃ q, addQ 0 n1 0 0 0 n2 0 0 mode = q := ⟨_, rfl⟩
  rw [hQ]
  have HQ := hide hQ
  clear hQ
  have k0 : Kept 0 0 w (w.alloc (.cells #[.int .i64 0, .bool false, .int .i64 0, .int .i64 0] 25)) := ((Kept.refl 0 0 w).alloc (.cells #[.int .i64 0, .bool false, .int .i64 0, .int .i64 0] 25))
  have q0 : (w.alloc (.cells #[.int .i64 0, .bool false, .int .i64 0, .int .i64 0] 25)).cell? ⟨w.heap.size, 0, none⟩ = some (.int .i64 0) := new_cell2 _ _ _ _ _ _ (by simp) rfl
  have qf0 : (w.alloc (.cells #[.int .i64 0, .bool false, .int .i64 0, .int .i64 0] 25)).frozen? ⟨w.heap.size, 0, none⟩ = false := new_loose2 _ _ _ _ _ (by simp)
  have q1 : (w.alloc (.cells #[.int .i64 0, .bool false, .int .i64 0, .int .i64 0] 25)).cell? ⟨w.heap.size, 1, none⟩ = some (.bool false) := new_cell2 _ _ _ _ _ _ (by simp) rfl
  have qf1 : (w.alloc (.cells #[.int .i64 0, .bool false, .int .i64 0, .int .i64 0] 25)).frozen? ⟨w.heap.size, 1, none⟩ = false := new_loose2 _ _ _ _ _ (by simp)
  have q2 : (w.alloc (.cells #[.int .i64 0, .bool false, .int .i64 0, .int .i64 0] 25)).cell? ⟨w.heap.size, 2, none⟩ = some (.int .i64 0) := new_cell2 _ _ _ _ _ _ (by simp) rfl
  have qf2 : (w.alloc (.cells #[.int .i64 0, .bool false, .int .i64 0, .int .i64 0] 25)).frozen? ⟨w.heap.size, 2, none⟩ = false := new_loose2 _ _ _ _ _ (by simp)
  have q3 : (w.alloc (.cells #[.int .i64 0, .bool false, .int .i64 0, .int .i64 0] 25)).cell? ⟨w.heap.size, 3, none⟩ = some (.int .i64 0) := new_cell2 _ _ _ _ _ _ (by simp) rfl
  have qf3 : (w.alloc (.cells #[.int .i64 0, .bool false, .int .i64 0, .int .i64 0] 25)).frozen? ⟨w.heap.size, 3, none⟩ = false := new_loose2 _ _ _ _ _ (by simp)
  have s0 : (w.alloc (.cells #[.int .i64 0, .bool false, .int .i64 0, .int .i64 0] 25)).heap.size = w.heap.size + 1 := by simp
  have K := hide (k0)
  clear k0
  have S0 := hide s0
  clear s0
  go_enter Tryz.func46, Tryz.ntmps46
  go_wp2_with fail
  generalize (w.alloc (.cells #[.int .i64 0, .bool false, .int .i64 0, .int .i64 0] 25)) = W at *
  refine (is_nan_nought n1 _).mono ?_
  rintro e w1 ⟨rfl, k1⟩
  replace qf0 := k1.loose0 (World.block_lt_of_cell? _ _ q0) qf0
  replace qf1 := k1.loose0 (World.block_lt_of_cell? _ _ q1) qf1
  replace qf2 := k1.loose0 (World.block_lt_of_cell? _ _ q2) qf2
  replace qf3 := k1.loose0 (World.block_lt_of_cell? _ _ q3) qf3
  replace q0 := k1.cell0 q0
  replace q1 := k1.cell0 q1
  replace q2 := k1.cell0 q2
  replace q3 := k1.cell0 q3
  replace K := hide ((unhide K).trans k1)
  have z2 := k1.size
  clear k1
  go_wp2_with fail
  refine (is_nan_nought n2 _).mono ?_
  rintro e w3 ⟨rfl, k3⟩
  replace qf0 := k3.loose0 (World.block_lt_of_cell? _ _ q0) qf0
  replace qf1 := k3.loose0 (World.block_lt_of_cell? _ _ q1) qf1
  replace qf2 := k3.loose0 (World.block_lt_of_cell? _ _ q2) qf2
  replace qf3 := k3.loose0 (World.block_lt_of_cell? _ _ q3) qf3
  replace q0 := k3.cell0 q0
  replace q1 := k3.cell0 q1
  replace q2 := k3.cell0 q2
  replace q3 := k3.cell0 q3
  replace K := hide ((unhide K).trans k3)
  have z4 := k3.size
  clear k3
  go_wp2_with fail
  refine (is_inf_nought n1 _).mono ?_
  rintro e w5 ⟨rfl, k5⟩
  replace qf0 := k5.loose0 (World.block_lt_of_cell? _ _ q0) qf0
  replace qf1 := k5.loose0 (World.block_lt_of_cell? _ _ q1) qf1
  replace qf2 := k5.loose0 (World.block_lt_of_cell? _ _ q2) qf2
  replace qf3 := k5.loose0 (World.block_lt_of_cell? _ _ q3) qf3
  replace q0 := k5.cell0 q0
  replace q1 := k5.cell0 q1
  replace q2 := k5.cell0 q2
  replace q3 := k5.cell0 q3
  replace K := hide ((unhide K).trans k5)
  have z6 := k5.size
  clear k5
  go_wp2_with fail
  refine (is_inf_nought n1 _).mono ?_
  rintro e w7 ⟨rfl, k7⟩
  replace qf0 := k7.loose0 (World.block_lt_of_cell? _ _ q0) qf0
  replace qf1 := k7.loose0 (World.block_lt_of_cell? _ _ q1) qf1
  replace qf2 := k7.loose0 (World.block_lt_of_cell? _ _ q2) qf2
  replace qf3 := k7.loose0 (World.block_lt_of_cell? _ _ q3) qf3
  replace q0 := k7.cell0 q0
  replace q1 := k7.cell0 q1
  replace q2 := k7.cell0 q2
  replace q3 := k7.cell0 q3
  replace K := hide ((unhide K).trans k7)
  have z8 := k7.size
  clear k7
  go_wp2_with fail
  refine (is_inf_nought n2 _).mono ?_
  rintro e w9 ⟨rfl, k9⟩
  replace qf0 := k9.loose0 (World.block_lt_of_cell? _ _ q0) qf0
  replace qf1 := k9.loose0 (World.block_lt_of_cell? _ _ q1) qf1
  replace qf2 := k9.loose0 (World.block_lt_of_cell? _ _ q2) qf2
  replace qf3 := k9.loose0 (World.block_lt_of_cell? _ _ q3) qf3
  replace q0 := k9.cell0 q0
  replace q1 := k9.cell0 q1
  replace q2 := k9.cell0 q2
  replace q3 := k9.cell0 q3
  replace K := hide ((unhide K).trans k9)
  have z10 := k9.size
  clear k9
  go_wp2_with fail
  obtain ⟨xs, hxs⟩ : ∃ L : List Int, ([] : List Int) = L := ⟨_, rfl⟩
  obtain ⟨ys, hys⟩ : ∃ L : List Int, ([] : List Int) = L := ⟨_, rfl⟩
  have hn1 : Nrm xs := by rw [← hxs, ← limbs_zero]; exact limbs_nrm 0
  have hv1 : wval n1 xs = fM 0 n1 0 := by rw [← hxs, fM_zero (by decide)]; exact wval_nil _
  have hl1 : xs.length ≤ 4 := by rw [← hxs]; decide
  have hz1 : xs.length = 0 := by rw [← hxs]; rfl
  have hn2 : Nrm ys := by rw [← hys, ← limbs_zero]; exact limbs_nrm 0
  have hv2 : wval n2 ys = fM 0 n2 0 := by rw [← hys, fM_zero (by decide)]; exact wval_nil _
  have hl2 : ys.length ≤ 4 := by rw [← hys]; decide
  have hz2 : ys.length = 0 := by rw [← hys]; rfl
  have HR : Hid (rndQ mode (wval n1 xs * 2 ^ ((0 : Int) - min (0 : Int) (0 : Int)).toNat + wval n2 ys * 2 ^ ((0 : Int) - min (0 : Int) (0 : Int)).toNat) (min (0 : Int) (0 : Int)) (if xs.length = 0 ∧ ys.length = 0 ∧ n1 = n2 then n1 else (mode == 3)) = Q) := by
    show _ = _
    rw [← unhide HQ, hv1, hv2]
    unfold addQ
    simp [hz1, hz2]
  have Q0 := q0
  have QF0 := qf0
  have Q1 := q1
  have QF1 := qf1
  have Q2 := q2
  have QF2 := qf2
  have Q3 := q3
  have QF3 := qf3
  have KW := K
  have mk := valueOf_nought n1 w9
  rw [hxs] at mk
  refine (mk).mono ?_
  rintro e w11 ⟨v1, rfl, o1, k11⟩
  replace qf0 := k11.loose0 (World.block_lt_of_cell? _ _ q0) qf0
  replace qf1 := k11.loose0 (World.block_lt_of_cell? _ _ q1) qf1
  replace qf2 := k11.loose0 (World.block_lt_of_cell? _ _ q2) qf2
  replace qf3 := k11.loose0 (World.block_lt_of_cell? _ _ q3) qf3
  replace q0 := k11.cell0 q0
  replace q1 := k11.cell0 q1
  replace q2 := k11.cell0 q2
  replace q3 := k11.cell0 q3
  replace K := hide ((unhide K).trans k11)
  have z12 := k11.size
  have KV1 := k11
  clear mk
  have l1 := o1.lt
  go_wp2_with fail
  have mk := valueOf_nought n2 w11
  rw [hys] at mk
  refine (mk).mono ?_
  rintro e w13 ⟨v2, rfl, o2, k13⟩
  replace o1 := own_kept o1 k13
  replace qf0 := k13.loose0 (World.block_lt_of_cell? _ _ q0) qf0
  replace qf1 := k13.loose0 (World.block_lt_of_cell? _ _ q1) qf1
  replace qf2 := k13.loose0 (World.block_lt_of_cell? _ _ q2) qf2
  replace qf3 := k13.loose0 (World.block_lt_of_cell? _ _ q3) qf3
  replace q0 := k13.cell0 q0
  replace q1 := k13.cell0 q1
  replace q2 := k13.cell0 q2
  replace q3 := k13.cell0 q3
  replace K := hide ((unhide K).trans k13)
  have z14 := k13.size
  have KV2 := k13
  clear mk hxs hys hz1 hz2 hv1 hv2
  have l2 := o2.lt
  obtain ⟨p1, c1, hv⟩ := own_slice o1
  subst hv
  obtain ⟨p2, c2, hv⟩ := own_slice o2
  subst hv
  have KV : Kept 0 0 w9 w13 := KV1.trans KV2
  have DD := dya_new2 n1 n2 0 0 93 KV o1 o2 (by have := KV1.size; omega) (fun i e => (l1 i e).2)
  have kn := ((Kept.refl 0 0 w13).alloc (.cells #[.slice p1 xs.length c1, .bool n1, .int .i64 0] 93)).alloc (.cells #[.slice p2 ys.length c2, .bool n2, .int .i64 0] 93)
  replace qf0 := kn.loose0 (World.block_lt_of_cell? _ _ q0) qf0
  replace qf1 := kn.loose0 (World.block_lt_of_cell? _ _ q1) qf1
  replace qf2 := kn.loose0 (World.block_lt_of_cell? _ _ q2) qf2
  replace qf3 := kn.loose0 (World.block_lt_of_cell? _ _ q3) qf3
  replace q0 := kn.cell0 q0
  replace q1 := kn.cell0 q1
  replace q2 := kn.cell0 q2
  replace q3 := kn.cell0 q3
  replace K := hide ((unhide K).trans kn)
  have z15 := kn.size
  clear kn o1 o2 KV KV1 KV2
  go_wp2_with fail
  generalize (w13.alloc (.cells #[.slice p1 xs.length c1, .bool n1, .int .i64 0] 93)).alloc (.cells #[.slice p2 ys.length c2, .bool n2, .int .i64 0] 93) = W5 at *
  obtain ⟨⟨⟨y1, y2, t⟩, d1, d2⟩, x1, x2⟩ := DD
  have mk := roundedSum_impl t d1 d2 x1 x2 hn1 hn2 (by omega) (by omega) (by omega) (by omega) (by omega) (by omega) mode hm0 hm4 (T.kept (unhide KW))
  rw [unhide HR] at mk
  refine mk.mono ?_
  rintro e w6 ⟨rfl, k6⟩
  clear mk t d1 d2 x1 x2
  replace qf0 : w6.frozen? ⟨w.heap.size, 0, none⟩ = false := k6.loose0 (World.block_lt_of_cell? _ _ Q0) QF0
  replace qf1 : w6.frozen? ⟨w.heap.size, 1, none⟩ = false := k6.loose0 (World.block_lt_of_cell? _ _ Q1) QF1
  replace qf2 : w6.frozen? ⟨w.heap.size, 2, none⟩ = false := k6.loose0 (World.block_lt_of_cell? _ _ Q2) QF2
  replace qf3 : w6.frozen? ⟨w.heap.size, 3, none⟩ = false := k6.loose0 (World.block_lt_of_cell? _ _ Q3) QF3
  replace q0 : w6.cell? ⟨w.heap.size, 0, none⟩ = _ := k6.cell0 Q0
  replace q1 : w6.cell? ⟨w.heap.size, 1, none⟩ = _ := k6.cell0 Q1
  replace q2 : w6.cell? ⟨w.heap.size, 2, none⟩ = _ := k6.cell0 Q2
  replace q3 : w6.cell? ⟨w.heap.size, 3, none⟩ = _ := k6.cell0 Q3
  replace K := hide ((unhide KW).trans k6)
  clear k6 Q0 Q1 Q2 Q3 QF0 QF1 QF2 QF3 KW
  have KF := hide (((((unhide K).setNew (p := ⟨w.heap.size, 0, none⟩) (by simp) (.int .i64 Q.1.1)).setNew (p := ⟨w.heap.size, 1, none⟩) (by simp) (.bool Q.1.2.1)).setNew (p := ⟨w.heap.size, 2, none⟩) (by simp) (.int .i64 Q.1.2.2.1)).setNew (p := ⟨w.heap.size, 3, none⟩) (by simp) (.int .i64 Q.1.2.2.2))
  clear K
  try go_wp2_with fail
  exact bodyPost_ret (v := .tuple #[.agg #[.int .i64 Q.1.1, .bool Q.1.2.1, .int .i64 Q.1.2.2.1, .int .i64 Q.1.2.2.2], .int .i64 Q.2]) (by simp [results, Tryz.results46, go_sem, q0, q1, q2, q3]) rfl ⟨rfl, unhide KF⟩

set_option maxHeartbeats 2000000 in
theorem addI_nought_inf (n1 : Bool) (n2 : Bool) (mode : Int) (hm0 : 0 ≤ mode) (hm4 : mode ≤ 4) (w : World) :
    Calls Tryz.prog 46 #[.iface 131 (.agg #[.bool n1]), .iface 134 (.agg #[.bool n2]), .int .i64 mode] w fun e' w' => e' = .returned (.tuple #[flq (addQ 0 n1 0 0 2 n2 0 0 mode).1, .int .i64 (addQ 0 n1 0 0 2 n2 0 0 mode).2]) ∧ Kept 0 0 w w' := by
  obtain ⟨Q, hQ⟩ : ∃ q, addQ 0 n1 0 0 2 n2 0 0 mode = q := ⟨_, rfl⟩
  rw [hQ]
  have HQ := hide hQ
  clear hQ
  have FQ : Hid (Q = ((2, n2, 0, 0), 0)) := by show _ = _; rw [← unhide HQ]; unfold addQ; simp
  have g2 := fun w => hs_inf n2 w
  have i2 := fun w => inv_inf_t n2 w
  have k0 : Kept 0 0 w (w.alloc (.cells #[.int .i64 0, .bool false, .int .i64 0, .int .i64 0] 25)) := ((Kept.refl 0 0 w).alloc (.cells #[.int .i64 0, .bool false, .int .i64 0, .int .i64 0] 25))
  have q0 : (w.alloc (.cells #[.int .i64 0, .bool false, .int .i64 0, .int .i64 0] 25)).cell? ⟨w.heap.size, 0, none⟩ = some (.int .i64 0) := new_cell2 _ _ _ _ _ _ (by simp) rfl
  have qf0 : (w.alloc (.cells #[.int .i64 0, .bool false, .int .i64 0, .int .i64 0] 25)).frozen? ⟨w.heap.size, 0, none⟩ = false := new_loose2 _ _ _ _ _ (by simp)
  have q1 : (w.alloc (.cells #[.int .i64 0, .bool false, .int .i64 0, .int .i64 0] 25)).cell? ⟨w.heap.size, 1, none⟩ = some (.bool false) := new_cell2 _ _ _ _ _ _ (by simp) rfl
  have qf1 : (w.alloc (.cells #[.int .i64 0, .bool false, .int .i64 0, .int .i64 0] 25)).frozen? ⟨w.heap.size, 1, none⟩ = false := new_loose2 _ _ _ _ _ (by simp)
  have q2 : (w.alloc (.cells #[.int .i64 0, .bool false, .int .i64 0, .int .i64 0] 25)).cell? ⟨w.heap.size, 2, none⟩ = some (.int .i64 0) := new_cell2 _ _ _ _ _ _ (by simp) rfl
  have qf2 : (w.alloc (.cells #[.int .i64 0, .bool false, .int .i64 0, .int .i64 0] 25)).frozen? ⟨w.heap.size, 2, none⟩ = false := new_loose2 _ _ _ _ _ (by simp)
  have q3 : (w.alloc (.cells #[.int .i64 0, .bool false, .int .i64 0, .int .i64 0] 25)).cell? ⟨w.heap.size, 3, none⟩ = some (.int .i64 0) := new_cell2 _ _ _ _ _ _ (by simp) rfl
  have qf3 : (w.alloc (.cells #[.int .i64 0, .bool false, .int .i64 0, .int .i64 0] 25)).frozen? ⟨w.heap.size, 3, none⟩ = false := new_loose2 _ _ _ _ _ (by simp)
  have s0 : (w.alloc (.cells #[.int .i64 0, .bool false, .int .i64 0, .int .i64 0] 25)).heap.size = w.heap.size + 1 := by simp
  have K := hide (k0)
  clear k0
  have S0 := hide s0
  clear s0
  go_enter Tryz.func46, Tryz.ntmps46
  go_wp2_with fail
  generalize (w.alloc (.cells #[.int .i64 0, .bool false, .int .i64 0, .int .i64 0] 25)) = W at *
  refine (is_nan_nought n1 _).mono ?_
  rintro e w1 ⟨rfl, k1⟩
  replace qf0 := k1.loose0 (World.block_lt_of_cell? _ _ q0) qf0
  replace qf1 := k1.loose0 (World.block_lt_of_cell? _ _ q1) qf1
  replace qf2 := k1.loose0 (World.block_lt_of_cell? _ _ q2) qf2
  replace qf3 := k1.loose0 (World.block_lt_of_cell? _ _ q3) qf3
  replace q0 := k1.cell0 q0
  replace q1 := k1.cell0 q1
  replace q2 := k1.cell0 q2
  replace q3 := k1.cell0 q3
  replace K := hide ((unhide K).trans k1)
  have z2 := k1.size
  clear k1
  go_wp2_with fail
  refine (is_nan_inf n2 _).mono ?_
  rintro e w3 ⟨rfl, k3⟩
  replace qf0 := k3.loose0 (World.block_lt_of_cell? _ _ q0) qf0
  replace qf1 := k3.loose0 (World.block_lt_of_cell? _ _ q1) qf1
  replace qf2 := k3.loose0 (World.block_lt_of_cell? _ _ q2) qf2
  replace qf3 := k3.loose0 (World.block_lt_of_cell? _ _ q3) qf3
  replace q0 := k3.cell0 q0
  replace q1 := k3.cell0 q1
  replace q2 := k3.cell0 q2
  replace q3 := k3.cell0 q3
  replace K := hide ((unhide K).trans k3)
  have z4 := k3.size
  clear k3
  go_wp2_with fail
  refine (is_inf_nought n1 _).mono ?_
  rintro e w5 ⟨rfl, k5⟩
  replace qf0 := k5.loose0 (World.block_lt_of_cell? _ _ q0) qf0
  replace qf1 := k5.loose0 (World.block_lt_of_cell? _ _ q1) qf1
  replace qf2 := k5.loose0 (World.block_lt_of_cell? _ _ q2) qf2
  replace qf3 := k5.loose0 (World.block_lt_of_cell? _ _ q3) qf3
  replace q0 := k5.cell0 q0
  replace q1 := k5.cell0 q1
  replace q2 := k5.cell0 q2
  replace q3 := k5.cell0 q3
  replace K := hide ((unhide K).trans k5)
  have z6 := k5.size
  clear k5
  go_wp2_with fail
  refine (is_inf_nought n1 _).mono ?_
  rintro e w7 ⟨rfl, k7⟩
  replace qf0 := k7.loose0 (World.block_lt_of_cell? _ _ q0) qf0
  replace qf1 := k7.loose0 (World.block_lt_of_cell? _ _ q1) qf1
  replace qf2 := k7.loose0 (World.block_lt_of_cell? _ _ q2) qf2
  replace qf3 := k7.loose0 (World.block_lt_of_cell? _ _ q3) qf3
  replace q0 := k7.cell0 q0
  replace q1 := k7.cell0 q1
  replace q2 := k7.cell0 q2
  replace q3 := k7.cell0 q3
  replace K := hide ((unhide K).trans k7)
  have z8 := k7.size
  clear k7
  go_wp2_with fail
  refine (is_inf_inf n2 _).mono ?_
  rintro e w9 ⟨rfl, k9⟩
  replace qf0 := k9.loose0 (World.block_lt_of_cell? _ _ q0) qf0
  replace qf1 := k9.loose0 (World.block_lt_of_cell? _ _ q1) qf1
  replace qf2 := k9.loose0 (World.block_lt_of_cell? _ _ q2) qf2
  replace qf3 := k9.loose0 (World.block_lt_of_cell? _ _ q3) qf3
  replace q0 := k9.cell0 q0
  replace q1 := k9.cell0 q1
  replace q2 := k9.cell0 q2
  replace q3 := k9.cell0 q3
  replace K := hide ((unhide K).trans k9)
  have z10 := k9.size
  clear k9
  go_wp2_with fail
  refine (told_inf_t n2 _).mono ?_
  rintro e w11 ⟨rfl, k11⟩
  replace qf0 := k11.loose0 (World.block_lt_of_cell? _ _ q0) qf0
  replace qf1 := k11.loose0 (World.block_lt_of_cell? _ _ q1) qf1
  replace qf2 := k11.loose0 (World.block_lt_of_cell? _ _ q2) qf2
  replace qf3 := k11.loose0 (World.block_lt_of_cell? _ _ q3) qf3
  replace q0 := k11.cell0 q0
  replace q1 := k11.cell0 q1
  replace q2 := k11.cell0 q2
  replace q3 := k11.cell0 q3
  replace K := hide ((unhide K).trans k11)
  have z12 := k11.size
  clear k11
  have KF := hide (((((unhide K).setNew (p := ⟨w.heap.size, 0, none⟩) (by simp) (.int .i64 2)).setNew (p := ⟨w.heap.size, 1, none⟩) (by simp) (.bool n2)).setNew (p := ⟨w.heap.size, 2, none⟩) (by simp) (.int .i64 0)).setNew (p := ⟨w.heap.size, 3, none⟩) (by simp) (.int .i64 0))
  clear K
  try go_wp2_with fail
  exact bodyPost_ret (v := .tuple #[.agg #[.int .i64 2, .bool n2, .int .i64 0, .int .i64 0], .int .i64 0]) (by simp [results, Tryz.results46, go_sem, q0, q1, q2, q3]) rfl ⟨by rw [unhide FQ], unhide KF⟩

set_option maxHeartbeats 2000000 in
theorem addI_nought_nan (n1 : Bool) (mode : Int) (hm0 : 0 ≤ mode) (hm4 : mode ≤ 4) (w : World) :
    Calls Tryz.prog 46 #[.iface 131 (.agg #[.bool n1]), .iface 135 (.agg #[.bool false]), .int .i64 mode] w fun e' w' => e' = .returned (.tuple #[flq (addQ 0 n1 0 0 3 false 0 0 mode).1, .int .i64 (addQ 0 n1 0 0 3 false 0 0 mode).2]) ∧ Kept 0 0 w w' := by
  obtain ⟨Q, hQ⟩ : ∃ q, addQ 0 n1 0 0 3 false 0 0 mode = q := ⟨_, rfl⟩
  rw [hQ]
  have HQ := hide hQ
  clear hQ
  have FQ : Hid (Q = ((3, false, 0, 0), 0)) := by show _ = _; rw [← unhide HQ]; unfold addQ; simp
  have k0 : Kept 0 0 w (w.alloc (.cells #[.int .i64 0, .bool false, .int .i64 0, .int .i64 0] 25)) := ((Kept.refl 0 0 w).alloc (.cells #[.int .i64 0, .bool false, .int .i64 0, .int .i64 0] 25))
  have q0 : (w.alloc (.cells #[.int .i64 0, .bool false, .int .i64 0, .int .i64 0] 25)).cell? ⟨w.heap.size, 0, none⟩ = some (.int .i64 0) := new_cell2 _ _ _ _ _ _ (by simp) rfl
  have qf0 : (w.alloc (.cells #[.int .i64 0, .bool false, .int .i64 0, .int .i64 0] 25)).frozen? ⟨w.heap.size, 0, none⟩ = false := new_loose2 _ _ _ _ _ (by simp)
  have q1 : (w.alloc (.cells #[.int .i64 0, .bool false, .int .i64 0, .int .i64 0] 25)).cell? ⟨w.heap.size, 1, none⟩ = some (.bool false) := new_cell2 _ _ _ _ _ _ (by simp) rfl
  have qf1 : (w.alloc (.cells #[.int .i64 0, .bool false, .int .i64 0, .int .i64 0] 25)).frozen? ⟨w.heap.size, 1, none⟩ = false := new_loose2 _ _ _ _ _ (by simp)
  have q2 : (w.alloc (.cells #[.int .i64 0, .bool false, .int .i64 0, .int .i64 0] 25)).cell? ⟨w.heap.size, 2, none⟩ = some (.int .i64 0) := new_cell2 _ _ _ _ _ _ (by simp) rfl
  have qf2 : (w.alloc (.cells #[.int .i64 0, .bool false, .int .i64 0, .int .i64 0] 25)).frozen? ⟨w.heap.size, 2, none⟩ = false := new_loose2 _ _ _ _ _ (by simp)
  have q3 : (w.alloc (.cells #[.int .i64 0, .bool false, .int .i64 0, .int .i64 0] 25)).cell? ⟨w.heap.size, 3, none⟩ = some (.int .i64 0) := new_cell2 _ _ _ _ _ _ (by simp) rfl
  have qf3 : (w.alloc (.cells #[.int .i64 0, .bool false, .int .i64 0, .int .i64 0] 25)).frozen? ⟨w.heap.size, 3, none⟩ = false := new_loose2 _ _ _ _ _ (by simp)
  have s0 : (w.alloc (.cells #[.int .i64 0, .bool false, .int .i64 0, .int .i64 0] 25)).heap.size = w.heap.size + 1 := by simp
  have K := hide (k0)
  clear k0
  have S0 := hide s0
  clear s0
  go_enter Tryz.func46, Tryz.ntmps46
  go_wp2_with fail
  generalize (w.alloc (.cells #[.int .i64 0, .bool false, .int .i64 0, .int .i64 0] 25)) = W at *
  refine (is_nan_nought n1 _).mono ?_
  rintro e w1 ⟨rfl, k1⟩
  replace qf0 := k1.loose0 (World.block_lt_of_cell? _ _ q0) qf0
  replace qf1 := k1.loose0 (World.block_lt_of_cell? _ _ q1) qf1
  replace qf2 := k1.loose0 (World.block_lt_of_cell? _ _ q2) qf2
  replace qf3 := k1.loose0 (World.block_lt_of_cell? _ _ q3) qf3
  replace q0 := k1.cell0 q0
  replace q1 := k1.cell0 q1
  replace q2 := k1.cell0 q2
  replace q3 := k1.cell0 q3
  replace K := hide ((unhide K).trans k1)
  have z2 := k1.size
  clear k1
  go_wp2_with fail
  refine (is_nan_nan _).mono ?_
  rintro e w3 ⟨rfl, k3⟩
  replace qf0 := k3.loose0 (World.block_lt_of_cell? _ _ q0) qf0
  replace qf1 := k3.loose0 (World.block_lt_of_cell? _ _ q1) qf1
  replace qf2 := k3.loose0 (World.block_lt_of_cell? _ _ q2) qf2
  replace qf3 := k3.loose0 (World.block_lt_of_cell? _ _ q3) qf3
  replace q0 := k3.cell0 q0
  replace q1 := k3.cell0 q1
  replace q2 := k3.cell0 q2
  replace q3 := k3.cell0 q3
  replace K := hide ((unhide K).trans k3)
  have z4 := k3.size
  clear k3
  have KF := hide (((((unhide K).setNew (p := ⟨w.heap.size, 0, none⟩) (by simp) (.int .i64 3)).setNew (p := ⟨w.heap.size, 1, none⟩) (by simp) (.bool false)).setNew (p := ⟨w.heap.size, 2, none⟩) (by simp) (.int .i64 0)).setNew (p := ⟨w.heap.size, 3, none⟩) (by simp) (.int .i64 0))
  clear K
  try go_wp2_with fail
  exact bodyPost_ret (v := .tuple #[.agg #[.int .i64 3, .bool false, .int .i64 0, .int .i64 0], .int .i64 0]) (by simp [results, Tryz.results46, go_sem, q0, q1, q2, q3]) rfl ⟨by rw [unhide FQ], unhide KF⟩

set_option maxHeartbeats 2000000 in
theorem addI_inf_num (n1 : Bool) (n2 : Bool) (m2 e2 : Int) (a12 : -1074 ≤ e2) (a22 : e2 ≤ 971) (a32 : 1 ≤ m2) (a42 : m2 ≤ 9007199254740991) (mode : Int) (hm0 : 0 ≤ mode) (hm4 : mode ≤ 4) (w : World) :
    Calls Tryz.prog 46 #[.iface 134 (.agg #[.bool n1]), .iface 133 (.agg #[.bool n2, .int .i64 m2, .int .i64 e2]), .int .i64 mode] w fun e' w' => e' = .returned (.tuple #[flq (addQ 2 n1 0 0 1 n2 m2 e2 mode).1, .int .i64 (addQ 2 n1 0 0 1 n2 m2 e2 mode).2]) ∧ Kept 0 0 w w' := by
  obtain ⟨Q, hQ⟩ : ∃ q, addQ 2 n1 0 0 1 n2 m2 e2 mode = q := ⟨_, rfl⟩
  rw [hQ]
  have HQ := hide hQ
  clear hQ
  have FQ : Hid (Q = ((2, n1, 0, 0), 0)) := by show _ = _; rw [← unhide HQ]; unfold addQ; simp
  have g1 := fun w => hs_inf n1 w
  have i1 := fun w => inv_inf_t n1 w
  have k0 : Kept 0 0 w (w.alloc (.cells #[.int .i64 0, .bool false, .int .i64 0, .int .i64 0] 25)) := ((Kept.refl 0 0 w).alloc (.cells #[.int .i64 0, .bool false, .int .i64 0, .int .i64 0] 25))
  have q0 : (w.alloc (.cells #[.int .i64 0, .bool false, .int .i64 0, .int .i64 0] 25)).cell? ⟨w.heap.size, 0, none⟩ = some (.int .i64 0) := new_cell2 _ _ _ _ _ _ (by simp) rfl
  have qf0 : (w.alloc (.cells #[.int .i64 0, .bool false, .int .i64 0, .int .i64 0] 25)).frozen? ⟨w.heap.size, 0, none⟩ = false := new_loose2 _ _ _ _ _ (by simp)
  have q1 : (w.alloc (.cells #[.int .i64 0, .bool false, .int .i64 0, .int .i64 0] 25)).cell? ⟨w.heap.size, 1, none⟩ = some (.bool false) := new_cell2 _ _ _ _ _ _ (by simp) rfl
  have qf1 : (w.alloc (.cells #[.int .i64 0, .bool false, .int .i64 0, .int .i64 0] 25)).frozen? ⟨w.heap.size, 1, none⟩ = false := new_loose2 _ _ _ _ _ (by simp)
  have q2 : (w.alloc (.cells #[.int .i64 0, .bool false, .int .i64 0, .int .i64 0] 25)).cell? ⟨w.heap.size, 2, none⟩ = some (.int .i64 0) := new_cell2 _ _ _ _ _ _ (by simp) rfl
  have qf2 : (w.alloc (.cells #[.int .i64 0, .bool false, .int .i64 0, .int .i64 0] 25)).frozen? ⟨w.heap.size, 2, none⟩ = false := new_loose2 _ _ _ _ _ (by simp)
  have q3 : (w.alloc (.cells #[.int .i64 0, .bool false, .int .i64 0, .int .i64 0] 25)).cell? ⟨w.heap.size, 3, none⟩ = some (.int .i64 0) := new_cell2 _ _ _ _ _ _ (by simp) rfl
  have qf3 : (w.alloc (.cells #[.int .i64 0, .bool false, .int .i64 0, .int .i64 0] 25)).frozen? ⟨w.heap.size, 3, none⟩ = false := new_loose2 _ _ _ _ _ (by simp)
  have s0 : (w.alloc (.cells #[.int .i64 0, .bool false, .int .i64 0, .int .i64 0] 25)).heap.size = w.heap.size + 1 := by simp
  have K := hide (k0)
  clear k0
  have S0 := hide s0
  clear s0
  go_enter Tryz.func46, Tryz.ntmps46
  go_wp2_with fail
  generalize (w.alloc (.cells #[.int .i64 0, .bool false, .int .i64 0, .int .i64 0] 25)) = W at *
  refine (is_nan_inf n1 _).mono ?_
  rintro e w1 ⟨rfl, k1⟩
  replace qf0 := k1.loose0 (World.block_lt_of_cell? _ _ q0) qf0
  replace qf1 := k1.loose0 (World.block_lt_of_cell? _ _ q1) qf1
  replace qf2 := k1.loose0 (World.block_lt_of_cell? _ _ q2) qf2
  replace qf3 := k1.loose0 (World.block_lt_of_cell? _ _ q3) qf3
  replace q0 := k1.cell0 q0
  replace q1 := k1.cell0 q1
  replace q2 := k1.cell0 q2
  replace q3 := k1.cell0 q3
  replace K := hide ((unhide K).trans k1)
  have z2 := k1.size
  clear k1
  go_wp2_with fail
  refine (is_nan_num n2 m2 e2 _).mono ?_
  rintro e w3 ⟨rfl, k3⟩
  replace qf0 := k3.loose0 (World.block_lt_of_cell? _ _ q0) qf0
  replace qf1 := k3.loose0 (World.block_lt_of_cell? _ _ q1) qf1
  replace qf2 := k3.loose0 (World.block_lt_of_cell? _ _ q2) qf2
  replace qf3 := k3.loose0 (World.block_lt_of_cell? _ _ q3) qf3
  replace q0 := k3.cell0 q0
  replace q1 := k3.cell0 q1
  replace q2 := k3.cell0 q2
  replace q3 := k3.cell0 q3
  replace K := hide ((unhide K).trans k3)
  have z4 := k3.size
  clear k3
  go_wp2_with fail
  refine (is_inf_inf n1 _).mono ?_
  rintro e w5 ⟨rfl, k5⟩
  replace qf0 := k5.loose0 (World.block_lt_of_cell? _ _ q0) qf0
  replace qf1 := k5.loose0 (World.block_lt_of_cell? _ _ q1) qf1
  replace qf2 := k5.loose0 (World.block_lt_of_cell? _ _ q2) qf2
  replace qf3 := k5.loose0 (World.block_lt_of_cell? _ _ q3) qf3
  replace q0 := k5.cell0 q0
  replace q1 := k5.cell0 q1
  replace q2 := k5.cell0 q2
  replace q3 := k5.cell0 q3
  replace K := hide ((unhide K).trans k5)
  have z6 := k5.size
  clear k5
  go_wp2_with fail
  refine (is_inf_num n2 m2 e2 _).mono ?_
  rintro e w7 ⟨rfl, k7⟩
  replace qf0 := k7.loose0 (World.block_lt_of_cell? _ _ q0) qf0
  replace qf1 := k7.loose0 (World.block_lt_of_cell? _ _ q1) qf1
  replace qf2 := k7.loose0 (World.block_lt_of_cell? _ _ q2) qf2
  replace qf3 := k7.loose0 (World.block_lt_of_cell? _ _ q3) qf3
  replace q0 := k7.cell0 q0
  replace q1 := k7.cell0 q1
  replace q2 := k7.cell0 q2
  replace q3 := k7.cell0 q3
  replace K := hide ((unhide K).trans k7)
  have z8 := k7.size
  clear k7
  go_wp2_with fail
  refine (is_inf_inf n1 _).mono ?_
  rintro e w9 ⟨rfl, k9⟩
  replace qf0 := k9.loose0 (World.block_lt_of_cell? _ _ q0) qf0
  replace qf1 := k9.loose0 (World.block_lt_of_cell? _ _ q1) qf1
  replace qf2 := k9.loose0 (World.block_lt_of_cell? _ _ q2) qf2
  replace qf3 := k9.loose0 (World.block_lt_of_cell? _ _ q3) qf3
  replace q0 := k9.cell0 q0
  replace q1 := k9.cell0 q1
  replace q2 := k9.cell0 q2
  replace q3 := k9.cell0 q3
  replace K := hide ((unhide K).trans k9)
  have z10 := k9.size
  clear k9
  go_wp2_with fail
  refine (told_inf_t n1 _).mono ?_
  rintro e w11 ⟨rfl, k11⟩
  replace qf0 := k11.loose0 (World.block_lt_of_cell? _ _ q0) qf0
  replace qf1 := k11.loose0 (World.block_lt_of_cell? _ _ q1) qf1
  replace qf2 := k11.loose0 (World.block_lt_of_cell? _ _ q2) qf2
  replace qf3 := k11.loose0 (World.block_lt_of_cell? _ _ q3) qf3
  replace q0 := k11.cell0 q0
  replace q1 := k11.cell0 q1
  replace q2 := k11.cell0 q2
  replace q3 := k11.cell0 q3
  replace K := hide ((unhide K).trans k11)
  have z12 := k11.size
  clear k11
  have KF := hide (((((unhide K).setNew (p := ⟨w.heap.size, 0, none⟩) (by simp) (.int .i64 2)).setNew (p := ⟨w.heap.size, 1, none⟩) (by simp) (.bool n1)).setNew (p := ⟨w.heap.size, 2, none⟩) (by simp) (.int .i64 0)).setNew (p := ⟨w.heap.size, 3, none⟩) (by simp) (.int .i64 0))
  clear K
  try go_wp2_with fail
  exact bodyPost_ret (v := .tuple #[.agg #[.int .i64 2, .bool n1, .int .i64 0, .int .i64 0], .int .i64 0]) (by simp [results, Tryz.results46, go_sem, q0, q1, q2, q3]) rfl ⟨by rw [unhide FQ], unhide KF⟩

set_option maxHeartbeats 2000000 in
theorem addI_inf_nought (n1 : Bool) (n2 : Bool) (mode : Int) (hm0 : 0 ≤ mode) (hm4 : mode ≤ 4) (w : World) :
    Calls Tryz.prog 46 #[.iface 134 (.agg #[.bool n1]), .iface 131 (.agg #[.bool n2]), .int .i64 mode] w fun e' w' => e' = .returned (.tuple #[flq (addQ 2 n1 0 0 0 n2 0 0 mode).1, .int .i64 (addQ 2 n1 0 0 0 n2 0 0 mode).2]) ∧ Kept 0 0 w w' := by
  obtain ⟨Q, hQ⟩ : ∃ q, addQ 2 n1 0 0 0 n2 0 0 mode = q := ⟨_, rfl⟩
  rw [hQ]
  have HQ := hide hQ
  clear hQ
  have FQ : Hid (Q = ((2, n1, 0, 0), 0)) := by show _ = _; rw [← unhide HQ]; unfold addQ; simp
  have g1 := fun w => hs_inf n1 w
  have i1 := fun w => inv_inf_t n1 w
  have k0 : Kept 0 0 w (w.alloc (.cells #[.int .i64 0, .bool false, .int .i64 0, .int .i64 0] 25)) := ((Kept.refl 0 0 w).alloc (.cells #[.int .i64 0, .bool false, .int .i64 0, .int .i64 0] 25))
  have q0 : (w.alloc (.cells #[.int .i64 0, .bool false, .int .i64 0, .int .i64 0] 25)).cell? ⟨w.heap.size, 0, none⟩ = some (.int .i64 0) := new_cell2 _ _ _ _ _ _ (by simp) rfl
  have qf0 : (w.alloc (.cells #[.int .i64 0, .bool false, .int .i64 0, .int .i64 0] 25)).frozen? ⟨w.heap.size, 0, none⟩ = false := new_loose2 _ _ _ _ _ (by simp)
  have q1 : (w.alloc (.cells #[.int .i64 0, .bool false, .int .i64 0, .int .i64 0] 25)).cell? ⟨w.heap.size, 1, none⟩ = some (.bool false) := new_cell2 _ _ _ _ _ _ (by simp) rfl
  have qf1 : (w.alloc (.cells #[.int .i64 0, .bool false, .int .i64 0, .int .i64 0] 25)).frozen? ⟨w.heap.size, 1, none⟩ = false := new_loose2 _ _ _ _ _ (by simp)
  have q2 : (w.alloc (.cells #[.int .i64 0, .bool false, .int .i64 0, .int .i64 0] 25)).cell? ⟨w.heap.size, 2, none⟩ = some (.int .i64 0) := new_cell2 _ _ _ _ _ _ (by simp) rfl
  have qf2 : (w.alloc (.cells #[.int .i64 0, .bool false, .int .i64 0, .int .i64 0] 25)).frozen? ⟨w.heap.size, 2, none⟩ = false := new_loose2 _ _ _ _ _ (by simp)
  have q3 : (w.alloc (.cells #[.int .i64 0, .bool false, .int .i64 0, .int .i64 0] 25)).cell? ⟨w.heap.size, 3, none⟩ = some (.int .i64 0) := new_cell2 _ _ _ _ _ _ (by simp) rfl
  have qf3 : (w.alloc (.cells #[.int .i64 0, .bool false, .int .i64 0, .int .i64 0] 25)).frozen? ⟨w.heap.size, 3, none⟩ = false := new_loose2 _ _ _ _ _ (by simp)
  have s0 : (w.alloc (.cells #[.int .i64 0, .bool false, .int .i64 0, .int .i64 0] 25)).heap.size = w.heap.size + 1 := by simp
  have K := hide (k0)
  clear k0
  have S0 := hide s0
  clear s0
  go_enter Tryz.func46, Tryz.ntmps46
  go_wp2_with fail
  generalize (w.alloc (.cells #[.int .i64 0, .bool false, .int .i64 0, .int .i64 0] 25)) = W at *
  refine (is_nan_inf n1 _).mono ?_
  rintro e w1 ⟨rfl, k1⟩
  replace qf0 := k1.loose0 (World.block_lt_of_cell? _ _ q0) qf0
  replace qf1 := k1.loose0 (World.block_lt_of_cell? _ _ q1) qf1
  replace qf2 := k1.loose0 (World.block_lt_of_cell? _ _ q2) qf2
  replace qf3 := k1.loose0 (World.block_lt_of_cell? _ _ q3) qf3
  replace q0 := k1.cell0 q0
  replace q1 := k1.cell0 q1
  replace q2 := k1.cell0 q2
  replace q3 := k1.cell0 q3
  replace K := hide ((unhide K).trans k1)
  have z2 := k1.size
  clear k1
  go_wp2_with fail
  refine (is_nan_nought n2 _).mono ?_
  rintro e w3 ⟨rfl, k3⟩
  replace qf0 := k3.loose0 (World.block_lt_of_cell? _ _ q0) qf0
  replace qf1 := k3.loose0 (World.block_lt_of_cell? _ _ q1) qf1
  replace qf2 := k3.loose0 (World.block_lt_of_cell? _ _ q2) qf2
  replace qf3 := k3.loose0 (World.block_lt_of_cell? _ _ q3) qf3
  replace q0 := k3.cell0 q0
  replace q1 := k3.cell0 q1
  replace q2 := k3.cell0 q2
  replace q3 := k3.cell0 q3
  replace K := hide ((unhide K).trans k3)
  have z4 := k3.size
  clear k3
  go_wp2_with fail
  refine (is_inf_inf n1 _).mono ?_
  rintro e w5 ⟨rfl, k5⟩
  replace qf0 := k5.loose0 (World.block_lt_of_cell? _ _ q0) qf0
  replace qf1 := k5.loose0 (World.block_lt_of_cell? _ _ q1) qf1
  replace qf2 := k5.loose0 (World.block_lt_of_cell? _ _ q2) qf2
  replace qf3 := k5.loose0 (World.block_lt_of_cell? _ _ q3) qf3
  replace q0 := k5.cell0 q0
  replace q1 := k5.cell0 q1
  replace q2 := k5.cell0 q2
  replace q3 := k5.cell0 q3
  replace K := hide ((unhide K).trans k5)
  have z6 := k5.size
  clear k5
  go_wp2_with fail
  refine (is_inf_nought n2 _).mono ?_
  rintro e w7 ⟨rfl, k7⟩
  replace qf0 := k7.loose0 (World.block_lt_of_cell? _ _ q0) qf0
  replace qf1 := k7.loose0 (World.block_lt_of_cell? _ _ q1) qf1
  replace qf2 := k7.loose0 (World.block_lt_of_cell? _ _ q2) qf2
  replace qf3 := k7.loose0 (World.block_lt_of_cell? _ _ q3) qf3
  replace q0 := k7.cell0 q0
  replace q1 := k7.cell0 q1
  replace q2 := k7.cell0 q2
  replace q3 := k7.cell0 q3
  replace K := hide ((unhide K).trans k7)
  have z8 := k7.size
  clear k7
  go_wp2_with fail
  refine (is_inf_inf n1 _).mono ?_
  rintro e w9 ⟨rfl, k9⟩
  replace qf0 := k9.loose0 (World.block_lt_of_cell? _ _ q0) qf0
  replace qf1 := k9.loose0 (World.block_lt_of_cell? _ _ q1) qf1
  replace qf2 := k9.loose0 (World.block_lt_of_cell? _ _ q2) qf2
  replace qf3 := k9.loose0 (World.block_lt_of_cell? _ _ q3) qf3
  replace q0 := k9.cell0 q0
  replace q1 := k9.cell0 q1
  replace q2 := k9.cell0 q2
  replace q3 := k9.cell0 q3
  replace K := hide ((unhide K).trans k9)
  have z10 := k9.size
  clear k9
  go_wp2_with fail
  refine (told_inf_t n1 _).mono ?_
  rintro e w11 ⟨rfl, k11⟩
  replace qf0 := k11.loose0 (World.block_lt_of_cell? _ _ q0) qf0
  replace qf1 := k11.loose0 (World.block_lt_of_cell? _ _ q1) qf1
  replace qf2 := k11.loose0 (World.block_lt_of_cell? _ _ q2) qf2
  replace qf3 := k11.loose0 (World.block_lt_of_cell? _ _ q3) qf3
  replace q0 := k11.cell0 q0
  replace q1 := k11.cell0 q1
  replace q2 := k11.cell0 q2
  replace q3 := k11.cell0 q3
  replace K := hide ((unhide K).trans k11)
  have z12 := k11.size
  clear k11
  have KF := hide (((((unhide K).setNew (p := ⟨w.heap.size, 0, none⟩) (by simp) (.int .i64 2)).setNew (p := ⟨w.heap.size, 1, none⟩) (by simp) (.bool n1)).setNew (p := ⟨w.heap.size, 2, none⟩) (by simp) (.int .i64 0)).setNew (p := ⟨w.heap.size, 3, none⟩) (by simp) (.int .i64 0))
  clear K
  try go_wp2_with fail
  exact bodyPost_ret (v := .tuple #[.agg #[.int .i64 2, .bool n1, .int .i64 0, .int .i64 0], .int .i64 0]) (by simp [results, Tryz.results46, go_sem, q0, q1, q2, q3]) rfl ⟨by rw [unhide FQ], unhide KF⟩

set_option maxHeartbeats 2000000 in
theorem addI_inf_inf_true_true (mode : Int) (hm0 : 0 ≤ mode) (hm4 : mode ≤ 4) (w : World) :
    Calls Tryz.prog 46 #[.iface 134 (.agg #[.bool true]), .iface 134 (.agg #[.bool true]), .int .i64 mode] w fun e' w' => e' = .returned (.tuple #[flq (addQ 2 true 0 0 2 true 0 0 mode).1, .int .i64 (addQ 2 true 0 0 2 true 0 0 mode).2]) ∧ Kept 0 0 w w' := by
  obtain ⟨Q, hQ⟩ : ∃ q, addQ 2 true 0 0 2 true 0 0 mode = q := ⟨_, rfl⟩
  rw [hQ]
  have HQ := hide hQ
  clear hQ
  have FQ : Hid (Q = ((2, true, 0, 0), 0)) := by show _ = _; rw [← unhide HQ]; unfold addQ; simp
  have g1 := fun w => hs_inf true w
  have i1 := fun w => inv_inf_t true w
  have g2 := fun w => hs_inf true w
  have i2 := fun w => inv_inf_t true w
  have k0 : Kept 0 0 w (w.alloc (.cells #[.int .i64 0, .bool false, .int .i64 0, .int .i64 0] 25)) := ((Kept.refl 0 0 w).alloc (.cells #[.int .i64 0, .bool false, .int .i64 0, .int .i64 0] 25))
  have q0 : (w.alloc (.cells #[.int .i64 0, .bool false, .int .i64 0, .int .i64 0] 25)).cell? ⟨w.heap.size, 0, none⟩ = some (.int .i64 0) := new_cell2 _ _ _ _ _ _ (by simp) rfl
  have qf0 : (w.alloc (.cells #[.int .i64 0, .bool false, .int .i64 0, .int .i64 0] 25)).frozen? ⟨w.heap.size, 0, none⟩ = false := new_loose2 _ _ _ _ _ (by simp)
  have q1 : (w.alloc (.cells #[.int .i64 0, .bool false, .int .i64 0, .int .i64 0] 25)).cell? ⟨w.heap.size, 1, none⟩ = some (.bool false) := new_cell2 _ _ _ _ _ _ (by simp) rfl
  have qf1 : (w.alloc (.cells #[.int .i64 0, .bool false, .int .i64 0, .int .i64 0] 25)).frozen? ⟨w.heap.size, 1, none⟩ = false := new_loose2 _ _ _ _ _ (by simp)
  have q2 : (w.alloc (.cells #[.int .i64 0, .bool false, .int .i64 0, .int .i64 0] 25)).cell? ⟨w.heap.size, 2, none⟩ = some (.int .i64 0) := new_cell2 _ _ _ _ _ _ (by simp) rfl
  have qf2 : (w.alloc (.cells #[.int .i64 0, .bool false, .int .i64 0, .int .i64 0] 25)).frozen? ⟨w.heap.size, 2, none⟩ = false := new_loose2 _ _ _ _ _ (by simp)
  have q3 : (w.alloc (.cells #[.int .i64 0, .bool false, .int .i64 0, .int .i64 0] 25)).cell? ⟨w.heap.size, 3, none⟩ = some (.int .i64 0) := new_cell2 _ _ _ _ _ _ (by simp) rfl
  have qf3 : (w.alloc (.cells #[.int .i64 0, .bool false, .int .i64 0, .int .i64 0] 25)).frozen? ⟨w.heap.size, 3, none⟩ = false := new_loose2 _ _ _ _ _ (by simp)
  have s0 : (w.alloc (.cells #[.int .i64 0, .bool false, .int .i64 0, .int .i64 0] 25)).heap.size = w.heap.size + 1 := by simp
  have K := hide (k0)
  clear k0
  have S0 := hide s0
  clear s0
  go_enter Tryz.func46, Tryz.ntmps46
  go_wp2_with fail
  generalize (w.alloc (.cells #[.int .i64 0, .bool false, .int .i64 0, .int .i64 0] 25)) = W at *
  refine (is_nan_inf true _).mono ?_
  rintro e w1 ⟨rfl, k1⟩
  replace qf0 := k1.loose0 (World.block_lt_of_cell? _ _ q0) qf0
  replace qf1 := k1.loose0 (World.block_lt_of_cell? _ _ q1) qf1
  replace qf2 := k1.loose0 (World.block_lt_of_cell? _ _ q2) qf2
  replace qf3 := k1.loose0 (World.block_lt_of_cell? _ _ q3) qf3
  replace q0 := k1.cell0 q0
  replace q1 := k1.cell0 q1
  replace q2 := k1.cell0 q2
  replace q3 := k1.cell0 q3
  replace K := hide ((unhide K).trans k1)
  have z2 := k1.size
  clear k1
  go_wp2_with fail
  refine (is_nan_inf true _).mono ?_
  rintro e w3 ⟨rfl, k3⟩
  replace qf0 := k3.loose0 (World.block_lt_of_cell? _ _ q0) qf0
  replace qf1 := k3.loose0 (World.block_lt_of_cell? _ _ q1) qf1
  replace qf2 := k3.loose0 (World.block_lt_of_cell? _ _ q2) qf2
  replace qf3 := k3.loose0 (World.block_lt_of_cell? _ _ q3) qf3
  replace q0 := k3.cell0 q0
  replace q1 := k3.cell0 q1
  replace q2 := k3.cell0 q2
  replace q3 := k3.cell0 q3
  replace K := hide ((unhide K).trans k3)
  have z4 := k3.size
  clear k3
  go_wp2_with fail
  refine (is_inf_inf true _).mono ?_
  rintro e w5 ⟨rfl, k5⟩
  replace qf0 := k5.loose0 (World.block_lt_of_cell? _ _ q0) qf0
  replace qf1 := k5.loose0 (World.block_lt_of_cell? _ _ q1) qf1
  replace qf2 := k5.loose0 (World.block_lt_of_cell? _ _ q2) qf2
  replace qf3 := k5.loose0 (World.block_lt_of_cell? _ _ q3) qf3
  replace q0 := k5.cell0 q0
  replace q1 := k5.cell0 q1
  replace q2 := k5.cell0 q2
  replace q3 := k5.cell0 q3
  replace K := hide ((unhide K).trans k5)
  have z6 := k5.size
  clear k5
  go_wp2_with fail
  refine (is_inf_inf true _).mono ?_
  rintro e w7 ⟨rfl, k7⟩
  replace qf0 := k7.loose0 (World.block_lt_of_cell? _ _ q0) qf0
  replace qf1 := k7.loose0 (World.block_lt_of_cell? _ _ q1) qf1
  replace qf2 := k7.loose0 (World.block_lt_of_cell? _ _ q2) qf2
  replace qf3 := k7.loose0 (World.block_lt_of_cell? _ _ q3) qf3
  replace q0 := k7.cell0 q0
  replace q1 := k7.cell0 q1
  replace q2 := k7.cell0 q2
  replace q3 := k7.cell0 q3
  replace K := hide ((unhide K).trans k7)
  have z8 := k7.size
  clear k7
  go_wp2_with fail
  refine (hasSign_any true _).mono ?_
  rintro e w9 ⟨rfl, k9⟩
  replace qf0 := k9.loose0 (World.block_lt_of_cell? _ _ q0) qf0
  replace qf1 := k9.loose0 (World.block_lt_of_cell? _ _ q1) qf1
  replace qf2 := k9.loose0 (World.block_lt_of_cell? _ _ q2) qf2
  replace qf3 := k9.loose0 (World.block_lt_of_cell? _ _ q3) qf3
  replace q0 := k9.cell0 q0
  replace q1 := k9.cell0 q1
  replace q2 := k9.cell0 q2
  replace q3 := k9.cell0 q3
  replace K := hide ((unhide K).trans k9)
  have z10 := k9.size
  clear k9
  go_wp2_with fail
  refine (hasSign_any true _).mono ?_
  rintro e w11 ⟨rfl, k11⟩
  replace qf0 := k11.loose0 (World.block_lt_of_cell? _ _ q0) qf0
  replace qf1 := k11.loose0 (World.block_lt_of_cell? _ _ q1) qf1
  replace qf2 := k11.loose0 (World.block_lt_of_cell? _ _ q2) qf2
  replace qf3 := k11.loose0 (World.block_lt_of_cell? _ _ q3) qf3
  replace q0 := k11.cell0 q0
  replace q1 := k11.cell0 q1
  replace q2 := k11.cell0 q2
  replace q3 := k11.cell0 q3
  replace K := hide ((unhide K).trans k11)
  have z12 := k11.size
  clear k11
  go_wp2_with fail
  refine (is_inf_inf true _).mono ?_
  rintro e w13 ⟨rfl, k13⟩
  replace qf0 := k13.loose0 (World.block_lt_of_cell? _ _ q0) qf0
  replace qf1 := k13.loose0 (World.block_lt_of_cell? _ _ q1) qf1
  replace qf2 := k13.loose0 (World.block_lt_of_cell? _ _ q2) qf2
  replace qf3 := k13.loose0 (World.block_lt_of_cell? _ _ q3) qf3
  replace q0 := k13.cell0 q0
  replace q1 := k13.cell0 q1
  replace q2 := k13.cell0 q2
  replace q3 := k13.cell0 q3
  replace K := hide ((unhide K).trans k13)
  have z14 := k13.size
  clear k13
  go_wp2_with fail
  refine (told_inf_t true _).mono ?_
  rintro e w15 ⟨rfl, k15⟩
  replace qf0 := k15.loose0 (World.block_lt_of_cell? _ _ q0) qf0
  replace qf1 := k15.loose0 (World.block_lt_of_cell? _ _ q1) qf1
  replace qf2 := k15.loose0 (World.block_lt_of_cell? _ _ q2) qf2
  replace qf3 := k15.loose0 (World.block_lt_of_cell? _ _ q3) qf3
  replace q0 := k15.cell0 q0
  replace q1 := k15.cell0 q1
  replace q2 := k15.cell0 q2
  replace q3 := k15.cell0 q3
  replace K := hide ((unhide K).trans k15)
  have z16 := k15.size
  clear k15
  have KF := hide (((((unhide K).setNew (p := ⟨w.heap.size, 0, none⟩) (by simp) (.int .i64 2)).setNew (p := ⟨w.heap.size, 1, none⟩) (by simp) (.bool true)).setNew (p := ⟨w.heap.size, 2, none⟩) (by simp) (.int .i64 0)).setNew (p := ⟨w.heap.size, 3, none⟩) (by simp) (.int .i64 0))
  clear K
  try go_wp2_with fail
  exact bodyPost_ret (v := .tuple #[.agg #[.int .i64 2, .bool true, .int .i64 0, .int .i64 0], .int .i64 0]) (by simp [results, Tryz.results46, go_sem, q0, q1, q2, q3]) rfl ⟨by rw [unhide FQ], unhide KF⟩

set_option maxHeartbeats 2000000 in
theorem addI_inf_inf_true_false (mode : Int) (hm0 : 0 ≤ mode) (hm4 : mode ≤ 4) (w : World) :
    Calls Tryz.prog 46 #[.iface 134 (.agg #[.bool true]), .iface 134 (.agg #[.bool false]), .int .i64 mode] w fun e' w' => e' = .returned (.tuple #[flq (addQ 2 true 0 0 2 false 0 0 mode).1, .int .i64 (addQ 2 true 0 0 2 false 0 0 mode).2]) ∧ Kept 0 0 w w' := by
  obtain ⟨Q, hQ⟩ : ∃ q, addQ 2 true 0 0 2 false 0 0 mode = q := ⟨_, rfl⟩
  rw [hQ]
  have HQ := hide hQ
  clear hQ
  have FQ : Hid (Q = ((3, false, 0, 0), 16)) := by show _ = _; rw [← unhide HQ]; unfold addQ; simp
  have g1 := fun w => hs_inf true w
  have i1 := fun w => inv_inf_t true w
  have g2 := fun w => hs_inf false w
  have i2 := fun w => inv_inf_t false w
  have k0 : Kept 0 0 w (w.alloc (.cells #[.int .i64 0, .bool false, .int .i64 0, .int .i64 0] 25)) := ((Kept.refl 0 0 w).alloc (.cells #[.int .i64 0, .bool false, .int .i64 0, .int .i64 0] 25))
  have q0 : (w.alloc (.cells #[.int .i64 0, .bool false, .int .i64 0, .int .i64 0] 25)).cell? ⟨w.heap.size, 0, none⟩ = some (.int .i64 0) := new_cell2 _ _ _ _ _ _ (by simp) rfl
  have qf0 : (w.alloc (.cells #[.int .i64 0, .bool false, .int .i64 0, .int .i64 0] 25)).frozen? ⟨w.heap.size, 0, none⟩ = false := new_loose2 _ _ _ _ _ (by simp)
  have q1 : (w.alloc (.cells #[.int .i64 0, .bool false, .int .i64 0, .int .i64 0] 25)).cell? ⟨w.heap.size, 1, none⟩ = some (.bool false) := new_cell2 _ _ _ _ _ _ (by simp) rfl
  have qf1 : (w.alloc (.cells #[.int .i64 0, .bool false, .int .i64 0, .int .i64 0] 25)).frozen? ⟨w.heap.size, 1, none⟩ = false := new_loose2 _ _ _ _ _ (by simp)
  have q2 : (w.alloc (.cells #[.int .i64 0, .bool false, .int .i64 0, .int .i64 0] 25)).cell? ⟨w.heap.size, 2, none⟩ = some (.int .i64 0) := new_cell2 _ _ _ _ _ _ (by simp) rfl
  have qf2 : (w.alloc (.cells #[.int .i64 0, .bool false, .int .i64 0, .int .i64 0] 25)).frozen? ⟨w.heap.size, 2, none⟩ = false := new_loose2 _ _ _ _ _ (by simp)
  have q3 : (w.alloc (.cells #[.int .i64 0, .bool false, .int .i64 0, .int .i64 0] 25)).cell? ⟨w.heap.size, 3, none⟩ = some (.int .i64 0) := new_cell2 _ _ _ _ _ _ (by simp) rfl
  have qf3 : (w.alloc (.cells #[.int .i64 0, .bool false, .int .i64 0, .int .i64 0] 25)).frozen? ⟨w.heap.size, 3, none⟩ = false := new_loose2 _ _ _ _ _ (by simp)
  have s0 : (w.alloc (.cells #[.int .i64 0, .bool false, .int .i64 0, .int .i64 0] 25)).heap.size = w.heap.size + 1 := by simp
  have K := hide (k0)
  clear k0
  have S0 := hide s0
  clear s0
  go_enter Tryz.func46, Tryz.ntmps46
  go_wp2_with fail
  generalize (w.alloc (.cells #[.int .i64 0, .bool false, .int .i64 0, .int .i64 0] 25)) = W at *
  refine (is_nan_inf true _).mono ?_
  rintro e w1 ⟨rfl, k1⟩
  replace qf0 := k1.loose0 (World.block_lt_of_cell? _ _ q0) qf0
  replace qf1 := k1.loose0 (World.block_lt_of_cell? _ _ q1) qf1
  replace qf2 := k1.loose0 (World.block_lt_of_cell? _ _ q2) qf2
  replace qf3 := k1.loose0 (World.block_lt_of_cell? _ _ q3) qf3
  replace q0 := k1.cell0 q0
  replace q1 := k1.cell0 q1
  replace q2 := k1.cell0 q2
  replace q3 := k1.cell0 q3
  replace K := hide ((unhide K).trans k1)
  have z2 := k1.size
  clear k1
  go_wp2_with fail
  refine (is_nan_inf false _).mono ?_
  rintro e w3 ⟨rfl, k3⟩
  replace qf0 := k3.loose0 (World.block_lt_of_cell? _ _ q0) qf0
  replace qf1 := k3.loose0 (World.block_lt_of_cell? _ _ q1) qf1
  replace qf2 := k3.loose0 (World.block_lt_of_cell? _ _ q2) qf2
  replace qf3 := k3.loose0 (World.block_lt_of_cell? _ _ q3) qf3
  replace q0 := k3.cell0 q0
  replace q1 := k3.cell0 q1
  replace q2 := k3.cell0 q2
  replace q3 := k3.cell0 q3
  replace K := hide ((unhide K).trans k3)
  have z4 := k3.size
  clear k3
  go_wp2_with fail
  refine (is_inf_inf true _).mono ?_
  rintro e w5 ⟨rfl, k5⟩
  replace qf0 := k5.loose0 (World.block_lt_of_cell? _ _ q0) qf0
  replace qf1 := k5.loose0 (World.block_lt_of_cell? _ _ q1) qf1
  replace qf2 := k5.loose0 (World.block_lt_of_cell? _ _ q2) qf2
  replace qf3 := k5.loose0 (World.block_lt_of_cell? _ _ q3) qf3
  replace q0 := k5.cell0 q0
  replace q1 := k5.cell0 q1
  replace q2 := k5.cell0 q2
  replace q3 := k5.cell0 q3
  replace K := hide ((unhide K).trans k5)
  have z6 := k5.size
  clear k5
  go_wp2_with fail
  refine (is_inf_inf false _).mono ?_
  rintro e w7 ⟨rfl, k7⟩
  replace qf0 := k7.loose0 (World.block_lt_of_cell? _ _ q0) qf0
  replace qf1 := k7.loose0 (World.block_lt_of_cell? _ _ q1) qf1
  replace qf2 := k7.loose0 (World.block_lt_of_cell? _ _ q2) qf2
  replace qf3 := k7.loose0 (World.block_lt_of_cell? _ _ q3) qf3
  replace q0 := k7.cell0 q0
  replace q1 := k7.cell0 q1
  replace q2 := k7.cell0 q2
  replace q3 := k7.cell0 q3
  replace K := hide ((unhide K).trans k7)
  have z8 := k7.size
  clear k7
  go_wp2_with fail
  refine (hasSign_any true _).mono ?_
  rintro e w9 ⟨rfl, k9⟩
  replace qf0 := k9.loose0 (World.block_lt_of_cell? _ _ q0) qf0
  replace qf1 := k9.loose0 (World.block_lt_of_cell? _ _ q1) qf1
  replace qf2 := k9.loose0 (World.block_lt_of_cell? _ _ q2) qf2
  replace qf3 := k9.loose0 (World.block_lt_of_cell? _ _ q3) qf3
  replace q0 := k9.cell0 q0
  replace q1 := k9.cell0 q1
  replace q2 := k9.cell0 q2
  replace q3 := k9.cell0 q3
  replace K := hide ((unhide K).trans k9)
  have z10 := k9.size
  clear k9
  go_wp2_with fail
  refine (hasSign_any false _).mono ?_
  rintro e w11 ⟨rfl, k11⟩
  replace qf0 := k11.loose0 (World.block_lt_of_cell? _ _ q0) qf0
  replace qf1 := k11.loose0 (World.block_lt_of_cell? _ _ q1) qf1
  replace qf2 := k11.loose0 (World.block_lt_of_cell? _ _ q2) qf2
  replace qf3 := k11.loose0 (World.block_lt_of_cell? _ _ q3) qf3
  replace q0 := k11.cell0 q0
  replace q1 := k11.cell0 q1
  replace q2 := k11.cell0 q2
  replace q3 := k11.cell0 q3
  replace K := hide ((unhide K).trans k11)
  have z12 := k11.size
  clear k11
  go_wp2_with fail
  refine (badF_impl _).mono ?_
  rintro e w13 ⟨rfl, k13⟩
  replace qf0 := k13.loose0 (World.block_lt_of_cell? _ _ q0) qf0
  replace qf1 := k13.loose0 (World.block_lt_of_cell? _ _ q1) qf1
  replace qf2 := k13.loose0 (World.block_lt_of_cell? _ _ q2) qf2
  replace qf3 := k13.loose0 (World.block_lt_of_cell? _ _ q3) qf3
  replace q0 := k13.cell0 q0
  replace q1 := k13.cell0 q1
  replace q2 := k13.cell0 q2
  replace q3 := k13.cell0 q3
  replace K := hide ((unhide K).trans k13)
  have z14 := k13.size
  clear k13
  have KF := hide (((((unhide K).setNew (p := ⟨w.heap.size, 0, none⟩) (by simp) (.int .i64 3)).setNew (p := ⟨w.heap.size, 1, none⟩) (by simp) (.bool false)).setNew (p := ⟨w.heap.size, 2, none⟩) (by simp) (.int .i64 0)).setNew (p := ⟨w.heap.size, 3, none⟩) (by simp) (.int .i64 0))
  clear K
  try go_wp2_with fail
  exact bodyPost_ret (v := .tuple #[.agg #[.int .i64 3, .bool false, .int .i64 0, .int .i64 0], .int .i64 16]) (by simp [results, Tryz.results46, go_sem, q0, q1, q2, q3]) rfl ⟨by rw [unhide FQ], unhide KF⟩

set_option maxHeartbeats 2000000 in
theorem addI_inf_inf_false_true (mode : Int) (hm0 : 0 ≤ mode) (hm4 : mode ≤ 4) (w : World) :
    Calls Tryz.prog 46 #[.iface 134 (.agg #[.bool false]), .iface 134 (.agg #[.bool true]), .int .i64 mode] w fun e' w' => e' = .returned (.tuple #[flq (addQ 2 false 0 0 2 true 0 0 mode).1, .int .i64 (addQ 2 false 0 0 2 true 0 0 mode).2]) ∧ Kept 0 0 w w' := by
  obtain ⟨Q, hQ⟩ : ∃ q, addQ 2 false 0 0 2 true 0 0 mode = q := ⟨_, rfl⟩
  rw [hQ]
  have HQ := hide hQ
  clear hQ
  have FQ : Hid (Q = ((3, false, 0, 0), 16)) := by show _ = _; rw [← unhide HQ]; unfold addQ; simp
  have g1 := fun w => hs_inf false w
  have i1 := fun w => inv_inf_t false w
  have g2 := fun w => hs_inf true w
  have i2 := fun w => inv_inf_t true w
  have k0 : Kept 0 0 w (w.alloc (.cells #[.int .i64 0, .bool false, .int .i64 0, .int .i64 0] 25)) := ((Kept.refl 0 0 w).alloc (.cells #[.int .i64 0, .bool false, .int .i64 0, .int .i64 0] 25))
  have q0 : (w.alloc (.cells #[.int .i64 0, .bool false, .int .i64 0, .int .i64 0] 25)).cell? ⟨w.heap.size, 0, none⟩ = some (.int .i64 0) := new_cell2 _ _ _ _ _ _ (by simp) rfl
  have qf0 : (w.alloc (.cells #[.int .i64 0, .bool false, .int .i64 0, .int .i64 0] 25)).frozen? ⟨w.heap.size, 0, none⟩ = false := new_loose2 _ _ _ _ _ (by simp)
  have q1 : (w.alloc (.cells #[.int .i64 0, .bool false, .int .i64 0, .int .i64 0] 25)).cell? ⟨w.heap.size, 1, none⟩ = some (.bool false) := new_cell2 _ _ _ _ _ _ (by simp) rfl
  have qf1 : (w.alloc (.cells #[.int .i64 0, .bool false, .int .i64 0, .int .i64 0] 25)).frozen? ⟨w.heap.size, 1, none⟩ = false := new_loose2 _ _ _ _ _ (by simp)
  have q2 : (w.alloc (.cells #[.int .i64 0, .bool false, .int .i64 0, .int .i64 0] 25)).cell? ⟨w.heap.size, 2, none⟩ = some (.int .i64 0) := new_cell2 _ _ _ _ _ _ (by simp) rfl
  have qf2 : (w.alloc (.cells #[.int .i64 0, .bool false, .int .i64 0, .int .i64 0] 25)).frozen? ⟨w.heap.size, 2, none⟩ = false := new_loose2 _ _ _ _ _ (by simp)
  have q3 : (w.alloc (.cells #[.int .i64 0, .bool false, .int .i64 0, .int .i64 0] 25)).cell? ⟨w.heap.size, 3, none⟩ = some (.int .i64 0) := new_cell2 _ _ _ _ _ _ (by simp) rfl
  have qf3 : (w.alloc (.cells #[.int .i64 0, .bool false, .int .i64 0, .int .i64 0] 25)).frozen? ⟨w.heap.size, 3, none⟩ = false := new_loose2 _ _ _ _ _ (by simp)
  have s0 : (w.alloc (.cells #[.int .i64 0, .bool false, .int .i64 0, .int .i64 0] 25)).heap.size = w.heap.size + 1 := by simp
  have K := hide (k0)
  clear k0
  have S0 := hide s0
  clear s0
  go_enter Tryz.func46, Tryz.ntmps46
  go_wp2_with fail
  generalize (w.alloc (.cells #[.int .i64 0, .bool false, .int .i64 0, .int .i64 0] 25)) = W at *
  refine (is_nan_inf false _).mono ?_
  rintro e w1 ⟨rfl, k1⟩
  replace qf0 := k1.loose0 (World.block_lt_of_cell? _ _ q0) qf0
  replace qf1 := k1.loose0 (World.block_lt_of_cell? _ _ q1) qf1
  replace qf2 := k1.loose0 (World.block_lt_of_cell? _ _ q2) qf2
  replace qf3 := k1.loose0 (World.block_lt_of_cell? _ _ q3) qf3
  replace q0 := k1.cell0 q0
  replace q1 := k1.cell0 q1
  replace q2 := k1.cell0 q2
  replace q3 := k1.cell0 q3
  replace K := hide ((unhide K).trans k1)
  have z2 := k1.size
  clear k1
  go_wp2_with fail
  refine (is_nan_inf true _).mono ?_
  rintro e w3 ⟨rfl, k3⟩
  replace qf0 := k3.loose0 (World.block_lt_of_cell? _ _ q0) qf0
  replace qf1 := k3.loose0 (World.block_lt_of_cell? _ _ q1) qf1
  replace qf2 := k3.loose0 (World.block_lt_of_cell? _ _ q2) qf2
  replace qf3 := k3.loose0 (World.block_lt_of_cell? _ _ q3) qf3
  replace q0 := k3.cell0 q0
  replace q1 := k3.cell0 q1
  replace q2 := k3.cell0 q2
  replace q3 := k3.cell0 q3
  replace K := hide ((unhide K).trans k3)
  have z4 := k3.size
  clear k3
  go_wp2_with fail
  refine (is_inf_inf false _).mono ?_
  rintro e w5 ⟨rfl, k5⟩
  replace qf0 := k5.loose0 (World.block_lt_of_cell? _ _ q0) qf0
  replace qf1 := k5.loose0 (World.block_lt_of_cell? _ _ q1) qf1
  replace qf2 := k5.loose0 (World.block_lt_of_cell? _ _ q2) qf2
  replace qf3 := k5.loose0 (World.block_lt_of_cell? _ _ q3) qf3
  replace q0 := k5.cell0 q0
  replace q1 := k5.cell0 q1
  replace q2 := k5.cell0 q2
  replace q3 := k5.cell0 q3
  replace K := hide ((unhide K).trans k5)
  have z6 := k5.size
  clear k5
  go_wp2_with fail
  refine (is_inf_inf true _).mono ?_
  rintro e w7 ⟨rfl, k7⟩
  replace qf0 := k7.loose0 (World.block_lt_of_cell? _ _ q0) qf0
  replace qf1 := k7.loose0 (World.block_lt_of_cell? _ _ q1) qf1
  replace qf2 := k7.loose0 (World.block_lt_of_cell? _ _ q2) qf2
  replace qf3 := k7.loose0 (World.block_lt_of_cell? _ _ q3) qf3
  replace q0 := k7.cell0 q0
  replace q1 := k7.cell0 q1
  replace q2 := k7.cell0 q2
  replace q3 := k7.cell0 q3
  replace K := hide ((unhide K).trans k7)
  have z8 := k7.size
  clear k7
  go_wp2_with fail
  refine (hasSign_any false _).mono ?_
  rintro e w9 ⟨rfl, k9⟩
  replace qf0 := k9.loose0 (World.block_lt_of_cell? _ _ q0) qf0
  replace qf1 := k9.loose0 (World.block_lt_of_cell? _ _ q1) qf1
  replace qf2 := k9.loose0 (World.block_lt_of_cell? _ _ q2) qf2
  replace qf3 := k9.loose0 (World.block_lt_of_cell? _ _ q3) qf3
  replace q0 := k9.cell0 q0
  replace q1 := k9.cell0 q1
  replace q2 := k9.cell0 q2
  replace q3 := k9.cell0 q3
  replace K := hide ((unhide K).trans k9)
  have z10 := k9.size
  clear k9
  go_wp2_with fail
  refine (hasSign_any true _).mono ?_
  rintro e w11 ⟨rfl, k11⟩
  replace qf0 := k11.loose0 (World.block_lt_of_cell? _ _ q0) qf0
  replace qf1 := k11.loose0 (World.block_lt_of_cell? _ _ q1) qf1
  replace qf2 := k11.loose0 (World.block_lt_of_cell? _ _ q2) qf2
  replace qf3 := k11.loose0 (World.block_lt_of_cell? _ _ q3) qf3
  replace q0 := k11.cell0 q0
  replace q1 := k11.cell0 q1
  replace q2 := k11.cell0 q2
  replace q3 := k11.cell0 q3
  replace K := hide ((unhide K).trans k11)
  have z12 := k11.size
  clear k11
  go_wp2_with fail
  refine (badF_impl _).mono ?_
  rintro e w13 ⟨rfl, k13⟩
  replace qf0 := k13.loose0 (World.block_lt_of_cell? _ _ q0) qf0
  replace qf1 := k13.loose0 (World.block_lt_of_cell? _ _ q1) qf1
  replace qf2 := k13.loose0 (World.block_lt_of_cell? _ _ q2) qf2
  replace qf3 := k13.loose0 (World.block_lt_of_cell? _ _ q3) qf3
  replace q0 := k13.cell0 q0
  replace q1 := k13.cell0 q1
  replace q2 := k13.cell0 q2
  replace q3 := k13.cell0 q3
  replace K := hide ((unhide K).trans k13)
  have z14 := k13.size
  clear k13
  have KF := hide (((((unhide K).setNew (p := ⟨w.heap.size, 0, none⟩) (by simp) (.int .i64 3)).setNew (p := ⟨w.heap.size, 1, none⟩) (by simp) (.bool false)).setNew (p := ⟨w.heap.size, 2, none⟩) (by simp) (.int .i64 0)).setNew (p := ⟨w.heap.size, 3, none⟩) (by simp) (.int .i64 0))
  clear K
  try go_wp2_with fail
  exact bodyPost_ret (v := .tuple #[.agg #[.int .i64 3, .bool false, .int .i64 0, .int .i64 0], .int .i64 16]) (by simp [results, Tryz.results46, go_sem, q0, q1, q2, q3]) rfl ⟨by rw [unhide FQ], unhide KF⟩

set_option maxHeartbeats 2000000 in
theorem addI_inf_inf_false_false (mode : Int) (hm0 : 0 ≤ mode) (hm4 : mode ≤ 4) (w : World) :
    Calls Tryz.prog 46 #[.iface 134 (.agg #[.bool false]), .iface 134 (.agg #[.bool false]), .int .i64 mode] w fun e' w' => e' = .returned (.tuple #[flq (addQ 2 false 0 0 2 false 0 0 mode).1, .int .i64 (addQ 2 false 0 0 2 false 0 0 mode).2]) ∧ Kept 0 0 w w' := by
  obtain ⟨Q, hQ⟩ : ∃ q, addQ 2 false 0 0 2 false 0 0 mode = q := ⟨_, rfl⟩
  rw [hQ]
  have HQ := hide hQ
  clear hQ
  have FQ : Hid (Q = ((2, false, 0, 0), 0)) := by show _ = _; rw [← unhide HQ]; unfold addQ; simp
  have g1 := fun w => hs_inf false w
  have i1 := fun w => inv_inf_t false w
  have g2 := fun w => hs_inf false w
  have i2 := fun w => inv_inf_t false w
  have k0 : Kept 0 0 w (w.alloc (.cells #[.int .i64 0, .bool false, .int .i64 0, .int .i64 0] 25)) := ((Kept.refl 0 0 w).alloc (.cells #[.int .i64 0, .bool false, .int .i64 0, .int .i64 0] 25))
  have q0 : (w.alloc (.cells #[.int .i64 0, .bool false, .int .i64 0, .int .i64 0] 25)).cell? ⟨w.heap.size, 0, none⟩ = some (.int .i64 0) := new_cell2 _ _ _ _ _ _ (by simp) rfl
  have qf0 : (w.alloc (.cells #[.int .i64 0, .bool false, .int .i64 0, .int .i64 0] 25)).frozen? ⟨w.heap.size, 0, none⟩ = false := new_loose2 _ _ _ _ _ (by simp)
  have q1 : (w.alloc (.cells #[.int .i64 0, .bool false, .int .i64 0, .int .i64 0] 25)).cell? ⟨w.heap.size, 1, none⟩ = some (.bool false) := new_cell2 _ _ _ _ _ _ (by simp) rfl
  have qf1 : (w.alloc (.cells #[.int .i64 0, .bool false, .int .i64 0, .int .i64 0] 25)).frozen? ⟨w.heap.size, 1, none⟩ = false := new_loose2 _ _ _ _ _ (by simp)
  have q2 : (w.alloc (.cells #[.int .i64 0, .bool false, .int .i64 0, .int .i64 0] 25)).cell? ⟨w.heap.size, 2, none⟩ = some (.int .i64 0) := new_cell2 _ _ _ _ _ _ (by simp) rfl
  have qf2 : (w.alloc (.cells #[.int .i64 0, .bool false, .int .i64 0, .int .i64 0] 25)).frozen? ⟨w.heap.size, 2, none⟩ = false := new_loose2 _ _ _ _ _ (by simp)
  have q3 : (w.alloc (.cells #[.int .i64 0, .bool false, .int .i64 0, .int .i64 0] 25)).cell? ⟨w.heap.size, 3, none⟩ = some (.int .i64 0) := new_cell2 _ _ _ _ _ _ (by simp) rfl
  have qf3 : (w.alloc (.cells #[.int .i64 0, .bool false, .int .i64 0, .int .i64 0] 25)).frozen? ⟨w.heap.size, 3, none⟩ = false := new_loose2 _ _ _ _ _ (by simp)
  have s0 : (w.alloc (.cells #[.int .i64 0, .bool false, .int .i64 0, .int .i64 0] 25)).heap.size = w.heap.size + 1 := by simp
  have K := hide (k0)
  clear k0
  have S0 := hide s0
  clear s0
  go_enter Tryz.func46, Tryz.ntmps46
  go_wp2_with fail
  generalize (w.alloc (.cells #[.int .i64 0, .bool false, .int .i64 0, .int .i64 0] 25)) = W at *
  refine (is_nan_inf false _).mono ?_
  rintro e w1 ⟨rfl, k1⟩
  replace qf0 := k1.loose0 (World.block_lt_of_cell? _ _ q0) qf0
  replace qf1 := k1.loose0 (World.block_lt_of_cell? _ _ q1) qf1
  replace qf2 := k1.loose0 (World.block_lt_of_cell? _ _ q2) qf2
  replace qf3 := k1.loose0 (World.block_lt_of_cell? _ _ q3) qf3
  replace q0 := k1.cell0 q0
  replace q1 := k1.cell0 q1
  replace q2 := k1.cell0 q2
  replace q3 := k1.cell0 q3
  replace K := hide ((unhide K).trans k1)
  have z2 := k1.size
  clear k1
  go_wp2_with fail
  refine (is_nan_inf false _).mono ?_
  rintro e w3 ⟨rfl, k3⟩
  replace qf0 := k3.loose0 (World.block_lt_of_cell? _ _ q0) qf0
  replace qf1 := k3.loose0 (World.block_lt_of_cell? _ _ q1) qf1
  replace qf2 := k3.loose0 (World.block_lt_of_cell? _ _ q2) qf2
  replace qf3 := k3.loose0 (World.block_lt_of_cell? _ _ q3) qf3
  replace q0 := k3.cell0 q0
  replace q1 := k3.cell0 q1
  replace q2 := k3.cell0 q2
  replace q3 := k3.cell0 q3
  replace K := hide ((unhide K).trans k3)
  have z4 := k3.size
  clear k3
  go_wp2_with fail
  refine (is_inf_inf false _).mono ?_
  rintro e w5 ⟨rfl, k5⟩
  replace qf0 := k5.loose0 (World.block_lt_of_cell? _ _ q0) qf0
  replace qf1 := k5.loose0 (World.block_lt_of_cell? _ _ q1) qf1
  replace qf2 := k5.loose0 (World.block_lt_of_cell? _ _ q2) qf2
  replace qf3 := k5.loose0 (World.block_lt_of_cell? _ _ q3) qf3
  replace q0 := k5.cell0 q0
  replace q1 := k5.cell0 q1
  replace q2 := k5.cell0 q2
  replace q3 := k5.cell0 q3
  replace K := hide ((unhide K).trans k5)
  have z6 := k5.size
  clear k5
  go_wp2_with fail
  refine (is_inf_inf false _).mono ?_
  rintro e w7 ⟨rfl, k7⟩
  replace qf0 := k7.loose0 (World.block_lt_of_cell? _ _ q0) qf0
  replace qf1 := k7.loose0 (World.block_lt_of_cell? _ _ q1) qf1
  replace qf2 := k7.loose0 (World.block_lt_of_cell? _ _ q2) qf2
  replace qf3 := k7.loose0 (World.block_lt_of_cell? _ _ q3) qf3
  replace q0 := k7.cell0 q0
  replace q1 := k7.cell0 q1
  replace q2 := k7.cell0 q2
  replace q3 := k7.cell0 q3
  replace K := hide ((unhide K).trans k7)
  have z8 := k7.size
  clear k7
  go_wp2_with fail
  refine (hasSign_any false _).mono ?_
  rintro e w9 ⟨rfl, k9⟩
  replace qf0 := k9.loose0 (World.block_lt_of_cell? _ _ q0) qf0
  replace qf1 := k9.loose0 (World.block_lt_of_cell? _ _ q1) qf1
  replace qf2 := k9.loose0 (World.block_lt_of_cell? _ _ q2) qf2
  replace qf3 := k9.loose0 (World.block_lt_of_cell? _ _ q3) qf3
  replace q0 := k9.cell0 q0
  replace q1 := k9.cell0 q1
  replace q2 := k9.cell0 q2
  replace q3 := k9.cell0 q3
  replace K := hide ((unhide K).trans k9)
  have z10 := k9.size
  clear k9
  go_wp2_with fail
  refine (hasSign_any false _).mono ?_
  rintro e w11 ⟨rfl, k11⟩
  replace qf0 := k11.loose0 (World.block_lt_of_cell? _ _ q0) qf0
  replace qf1 := k11.loose0 (World.block_lt_of_cell? _ _ q1) qf1
  replace qf2 := k11.loose0 (World.block_lt_of_cell? _ _ q2) qf2
  replace qf3 := k11.loose0 (World.block_lt_of_cell? _ _ q3) qf3
  replace q0 := k11.cell0 q0
  replace q1 := k11.cell0 q1
  replace q2 := k11.cell0 q2
  replace q3 := k11.cell0 q3
  replace K := hide ((unhide K).trans k11)
  have z12 := k11.size
  clear k11
  go_wp2_with fail
  refine (is_inf_inf false _).mono ?_
  rintro e w13 ⟨rfl, k13⟩
  replace qf0 := k13.loose0 (World.block_lt_of_cell? _ _ q0) qf0
  replace qf1 := k13.loose0 (World.block_lt_of_cell? _ _ q1) qf1
  replace qf2 := k13.loose0 (World.block_lt_of_cell? _ _ q2) qf2
  replace qf3 := k13.loose0 (World.block_lt_of_cell? _ _ q3) qf3
  replace q0 := k13.cell0 q0
  replace q1 := k13.cell0 q1
  replace q2 := k13.cell0 q2
  replace q3 := k13.cell0 q3
  replace K := hide ((unhide K).trans k13)
  have z14 := k13.size
  clear k13
  go_wp2_with fail
  refine (told_inf_t false _).mono ?_
  rintro e w15 ⟨rfl, k15⟩
  replace qf0 := k15.loose0 (World.block_lt_of_cell? _ _ q0) qf0
  replace qf1 := k15.loose0 (World.block_lt_of_cell? _ _ q1) qf1
  replace qf2 := k15.loose0 (World.block_lt_of_cell? _ _ q2) qf2
  replace qf3 := k15.loose0 (World.block_lt_of_cell? _ _ q3) qf3
  replace q0 := k15.cell0 q0
  replace q1 := k15.cell0 q1
  replace q2 := k15.cell0 q2
  replace q3 := k15.cell0 q3
  replace K := hide ((unhide K).trans k15)
  have z16 := k15.size
  clear k15
  have KF := hide (((((unhide K).setNew (p := ⟨w.heap.size, 0, none⟩) (by simp) (.int .i64 2)).setNew (p := ⟨w.heap.size, 1, none⟩) (by simp) (.bool false)).setNew (p := ⟨w.heap.size, 2, none⟩) (by simp) (.int .i64 0)).setNew (p := ⟨w.heap.size, 3, none⟩) (by simp) (.int .i64 0))
  clear K
  try go_wp2_with fail
  exact bodyPost_ret (v := .tuple #[.agg #[.int .i64 2, .bool false, .int .i64 0, .int .i64 0], .int .i64 0]) (by simp [results, Tryz.results46, go_sem, q0, q1, q2, q3]) rfl ⟨by rw [unhide FQ], unhide KF⟩

set_option maxHeartbeats 2000000 in
theorem addI_inf_nan (n1 : Bool) (mode : Int) (hm0 : 0 ≤ mode) (hm4 : mode ≤ 4) (w : World) :
    Calls Tryz.prog 46 #[.iface 134 (.agg #[.bool n1]), .iface 135 (.agg #[.bool false]), .int .i64 mode] w fun e' w' => e' = .returned (.tuple #[flq (addQ 2 n1 0 0 3 false 0 0 mode).1, .int .i64 (addQ 2 n1 0 0 3 false 0 0 mode).2]) ∧ Kept 0 0 w w' := by
  obtain ⟨Q, hQ⟩ : ∃ q, addQ 2 n1 0 0 3 false 0 0 mode = q := ⟨_, rfl⟩
  rw [hQ]
  have HQ := hide hQ
  clear hQ
  have FQ : Hid (Q = ((3, false, 0, 0), 0)) := by show _ = _; rw [← unhide HQ]; unfold addQ; simp
  have g1 := fun w => hs_inf n1 w
  have i1 := fun w => inv_inf_t n1 w
  have k0 : Kept 0 0 w (w.alloc (.cells #[.int .i64 0, .bool false, .int .i64 0, .int .i64 0] 25)) := ((Kept.refl 0 0 w).alloc (.cells #[.int .i64 0, .bool false, .int .i64 0, .int .i64 0] 25))
  have q0 : (w.alloc (.cells #[.int .i64 0, .bool false, .int .i64 0, .int .i64 0] 25)).cell? ⟨w.heap.size, 0, none⟩ = some (.int .i64 0) := new_cell2 _ _ _ _ _ _ (by simp) rfl
  have qf0 : (w.alloc (.cells #[.int .i64 0, .bool false, .int .i64 0, .int .i64 0] 25)).frozen? ⟨w.heap.size, 0, none⟩ = false := new_loose2 _ _ _ _ _ (by simp)
  have q1 : (w.alloc (.cells #[.int .i64 0, .bool false, .int .i64 0, .int .i64 0] 25)).cell? ⟨w.heap.size, 1, none⟩ = some (.bool false) := new_cell2 _ _ _ _ _ _ (by simp) rfl
  have qf1 : (w.alloc (.cells #[.int .i64 0, .bool false, .int .i64 0, .int .i64 0] 25)).frozen? ⟨w.heap.size, 1, none⟩ = false := new_loose2 _ _ _ _ _ (by simp)
  have q2 : (w.alloc (.cells #[.int .i64 0, .bool false, .int .i64 0, .int .i64 0] 25)).cell? ⟨w.heap.size, 2, none⟩ = some (.int .i64 0) := new_cell2 _ _ _ _ _ _ (by simp) rfl
  have qf2 : (w.alloc (.cells #[.int .i64 0, .bool false, .int .i64 0, .int .i64 0] 25)).frozen? ⟨w.heap.size, 2, none⟩ = false := new_loose2 _ _ _ _ _ (by simp)
  have q3 : (w.alloc (.cells #[.int .i64 0, .bool false, .int .i64 0, .int .i64 0] 25)).cell? ⟨w.heap.size, 3, none⟩ = some (.int .i64 0) := new_cell2 _ _ _ _ _ _ (by simp) rfl
  have qf3 : (w.alloc (.cells #[.int .i64 0, .bool false, .int .i64 0, .int .i64 0] 25)).frozen? ⟨w.heap.size, 3, none⟩ = false := new_loose2 _ _ _ _ _ (by simp)
  have s0 : (w.alloc (.cells #[.int .i64 0, .bool false, .int .i64 0, .int .i64 0] 25)).heap.size = w.heap.size + 1 := by simp
  have K := hide (k0)
  clear k0
  have S0 := hide s0
  clear s0
  go_enter Tryz.func46, Tryz.ntmps46
  go_wp2_with fail
  generalize (w.alloc (.cells #[.int .i64 0, .bool false, .int .i64 0, .int .i64 0] 25)) = W at *
  refine (is_nan_inf n1 _).mono ?_
  rintro e w1 ⟨rfl, k1⟩
  replace qf0 := k1.loose0 (World.block_lt_of_cell? _ _ q0) qf0
  replace qf1 := k1.loose0 (World.block_lt_of_cell? _ _ q1) qf1
  replace qf2 := k1.loose0 (World.block_lt_of_cell? _ _ q2) qf2
  replace qf3 := k1.loose0 (World.block_lt_of_cell? _ _ q3) qf3
  replace q0 := k1.cell0 q0
  replace q1 := k1.cell0 q1
  replace q2 := k1.cell0 q2
  replace q3 := k1.cell0 q3
  replace K := hide ((unhide K).trans k1)
  have z2 := k1.size
  clear k1
  go_wp2_with fail
  refine (is_nan_nan _).mono ?_
  rintro e w3 ⟨rfl, k3⟩
  replace qf0 := k3.loose0 (World.block_lt_of_cell? _ _ q0) qf0
  replace qf1 := k3.loose0 (World.block_lt_of_cell? _ _ q1) qf1
  replace qf2 := k3.loose0 (World.block_lt_of_cell? _ _ q2) qf2
  replace qf3 := k3.loose0 (World.block_lt_of_cell? _ _ q3) qf3
  replace q0 := k3.cell0 q0
  replace q1 := k3.cell0 q1
  replace q2 := k3.cell0 q2
  replace q3 := k3.cell0 q3
  replace K := hide ((unhide K).trans k3)
  have z4 := k3.size
  clear k3
  have KF := hide (((((unhide K).setNew (p := ⟨w.heap.size, 0, none⟩) (by simp) (.int .i64 3)).setNew (p := ⟨w.heap.size, 1, none⟩) (by simp) (.bool false)).setNew (p := ⟨w.heap.size, 2, none⟩) (by simp) (.int .i64 0)).setNew (p := ⟨w.heap.size, 3, none⟩) (by simp) (.int .i64 0))
  clear K
  try go_wp2_with fail
  exact bodyPost_ret (v := .tuple #[.agg #[.int .i64 3, .bool false, .int .i64 0, .int .i64 0], .int .i64 0]) (by simp [results, Tryz.results46, go_sem, q0, q1, q2, q3]) rfl ⟨by rw [unhide FQ], unhide KF⟩

set_option maxHeartbeats 2000000 in
theorem addI_nan_num (n2 : Bool) (m2 e2 : Int) (a12 : -1074 ≤ e2) (a22 : e2 ≤ 971) (a32 : 1 ≤ m2) (a42 : m2 ≤ 9007199254740991) (mode : Int) (hm0 : 0 ≤ mode) (hm4 : mode ≤ 4) (w : World) :
    Calls Tryz.prog 46 #[.iface 135 (.agg #[.bool false]), .iface 133 (.agg #[.bool n2, .int .i64 m2, .int .i64 e2]), .int .i64 mode] w fun e' w' => e' = .returned (.tuple #[flq (addQ 3 false 0 0 1 n2 m2 e2 mode).1, .int .i64 (addQ 3 false 0 0 1 n2 m2 e2 mode).2]) ∧ Kept 0 0 w w' := by
  obtain ⟨Q, hQ⟩ : ∃ q, addQ 3 false 0 0 1 n2 m2 e2 mode = q := ⟨_, rfl⟩
  rw [hQ]
  have HQ := hide hQ
  clear hQ
  have FQ : Hid (Q = ((3, false, 0, 0), 0)) := by show _ = _; rw [← unhide HQ]; unfold addQ; simp
  have k0 : Kept 0 0 w (w.alloc (.cells #[.int .i64 0, .bool false, .int .i64 0, .int .i64 0] 25)) := ((Kept.refl 0 0 w).alloc (.cells #[.int .i64 0, .bool false, .int .i64 0, .int .i64 0] 25))
  have q0 : (w.alloc (.cells #[.int .i64 0, .bool false, .int .i64 0, .int .i64 0] 25)).cell? ⟨w.heap.size, 0, none⟩ = some (.int .i64 0) := new_cell2 _ _ _ _ _ _ (by simp) rfl
  have qf0 : (w.alloc (.cells #[.int .i64 0, .bool false, .int .i64 0, .int .i64 0] 25)).frozen? ⟨w.heap.size, 0, none⟩ = false := new_loose2 _ _ _ _ _ (by simp)
  have q1 : (w.alloc (.cells #[.int .i64 0, .bool false, .int .i64 0, .int .i64 0] 25)).cell? ⟨w.heap.size, 1, none⟩ = some (.bool false) := new_cell2 _ _ _ _ _ _ (by simp) rfl
  have qf1 : (w.alloc (.cells #[.int .i64 0, .bool false, .int .i64 0, .int .i64 0] 25)).frozen? ⟨w.heap.size, 1, none⟩ = false := new_loose2 _ _ _ _ _ (by simp)
  have q2 : (w.alloc (.cells #[.int .i64 0, .bool false, .int .i64 0, .int .i64 0] 25)).cell? ⟨w.heap.size, 2, none⟩ = some (.int .i64 0) := new_cell2 _ _ _ _ _ _ (by simp) rfl
  have qf2 : (w.alloc (.cells #[.int .i64 0, .bool false, .int .i64 0, .int .i64 0] 25)).frozen? ⟨w.heap.size, 2, none⟩ = false := new_loose2 _ _ _ _ _ (by simp)
  have q3 : (w.alloc (.cells #[.int .i64 0, .bool false, .int .i64 0, .int .i64 0] 25)).cell? ⟨w.heap.size, 3, none⟩ = some (.int .i64 0) := new_cell2 _ _ _ _ _ _ (by simp) rfl
  have qf3 : (w.alloc (.cells #[.int .i64 0, .bool false, .int .i64 0, .int .i64 0] 25)).frozen? ⟨w.heap.size, 3, none⟩ = false := new_loose2 _ _ _ _ _ (by simp)
  have s0 : (w.alloc (.cells #[.int .i64 0, .bool false, .int .i64 0, .int .i64 0] 25)).heap.size = w.heap.size + 1 := by simp
  have K := hide (k0)
  clear k0
  have S0 := hide s0
  clear s0
  go_enter Tryz.func46, Tryz.ntmps46
  go_wp2_with fail
  generalize (w.alloc (.cells #[.int .i64 0, .bool false, .int .i64 0, .int .i64 0] 25)) = W at *
  refine (is_nan_nan _).mono ?_
  rintro e w1 ⟨rfl, k1⟩
  replace qf0 := k1.loose0 (World.block_lt_of_cell? _ _ q0) qf0
  replace qf1 := k1.loose0 (World.block_lt_of_cell? _ _ q1) qf1
  replace qf2 := k1.loose0 (World.block_lt_of_cell? _ _ q2) qf2
  replace qf3 := k1.loose0 (World.block_lt_of_cell? _ _ q3) qf3
  replace q0 := k1.cell0 q0
  replace q1 := k1.cell0 q1
  replace q2 := k1.cell0 q2
  replace q3 := k1.cell0 q3
  replace K := hide ((unhide K).trans k1)
  have z2 := k1.size
  clear k1
  have KF := hide (((((unhide K).setNew (p := ⟨w.heap.size, 0, none⟩) (by simp) (.int .i64 3)).setNew (p := ⟨w.heap.size, 1, none⟩) (by simp) (.bool false)).setNew (p := ⟨w.heap.size, 2, none⟩) (by simp) (.int .i64 0)).setNew (p := ⟨w.heap.size, 3, none⟩) (by simp) (.int .i64 0))
  clear K
  try go_wp2_with fail
  exact bodyPost_ret (v := .tuple #[.agg #[.int .i64 3, .bool false, .int .i64 0, .int .i64 0], .int .i64 0]) (by simp [results, Tryz.results46, go_sem, q0, q1, q2, q3]) rfl ⟨by rw [unhide FQ], unhide KF⟩

set_option maxHeartbeats 2000000 in
theorem addI_nan_nought (n2 : Bool) (mode : Int) (hm0 : 0 ≤ mode) (hm4 : mode ≤ 4) (w : World) :
    Calls Tryz.prog 46 #[.iface 135 (.agg #[.bool false]), .iface 131 (.agg #[.bool n2]), .int .i64 mode] w fun e' w' => e' = .returned (.tuple #[flq (addQ 3 false 0 0 0 n2 0 0 mode).1, .int .i64 (addQ 3 false 0 0 0 n2 0 0 mode).2]) ∧ Kept 0 0 w w' := by
  obtain ⟨Q, hQ⟩ : ∃ q, addQ 3 false 0 0 0 n2 0 0 mode = q := ⟨_, rfl⟩
  rw [hQ]
  have HQ := hide hQ
  clear hQ
  have FQ : Hid (Q = ((3, false, 0, 0), 0)) := by show _ = _; rw [← unhide HQ]; unfold addQ; simp
  have k0 : Kept 0 0 w (w.alloc (.cells #[.int .i64 0, .bool false, .int .i64 0, .int .i64 0] 25)) := ((Kept.refl 0 0 w).alloc (.cells #[.int .i64 0, .bool false, .int .i64 0, .int .i64 0] 25))
  have q0 : (w.alloc (.cells #[.int .i64 0, .bool false, .int .i64 0, .int .i64 0] 25)).cell? ⟨w.heap.size, 0, none⟩ = some (.int .i64 0) := new_cell2 _ _ _ _ _ _ (by simp) rfl
  have qf0 : (w.alloc (.cells #[.int .i64 0, .bool false, .int .i64 0, .int .i64 0] 25)).frozen? ⟨w.heap.size, 0, none⟩ = false := new_loose2 _ _ _ _ _ (by simp)
  have q1 : (w.alloc (.cells #[.int .i64 0, .bool false, .int .i64 0, .int .i64 0] 25)).cell? ⟨w.heap.size, 1, none⟩ = some (.bool false) := new_cell2 _ _ _ _ _ _ (by simp) rfl
  have qf1 : (w.alloc (.cells #[.int .i64 0, .bool false, .int .i64 0, .int .i64 0] 25)).frozen? ⟨w.heap.size, 1, none⟩ = false := new_loose2 _ _ _ _ _ (by simp)
  have q2 : (w.alloc (.cells #[.int .i64 0, .bool false, .int .i64 0, .int .i64 0] 25)).cell? ⟨w.heap.size, 2, none⟩ = some (.int .i64 0) := new_cell2 _ _ _ _ _ _ (by simp) rfl
  have qf2 : (w.alloc (.cells #[.int .i64 0, .bool false, .int .i64 0, .int .i64 0] 25)).frozen? ⟨w.heap.size, 2, none⟩ = false := new_loose2 _ _ _ _ _ (by simp)
  have q3 : (w.alloc (.cells #[.int .i64 0, .bool false, .int .i64 0, .int .i64 0] 25)).cell? ⟨w.heap.size, 3, none⟩ = some (.int .i64 0) := new_cell2 _ _ _ _ _ _ (by simp) rfl
  have qf3 : (w.alloc (.cells #[.int .i64 0, .bool false, .int .i64 0, .int .i64 0] 25)).frozen? ⟨w.heap.size, 3, none⟩ = false := new_loose2 _ _ _ _ _ (by simp)
  have s0 : (w.alloc (.cells #[.int .i64 0, .bool false, .int .i64 0, .int .i64 0] 25)).heap.size = w.heap.size + 1 := by simp
  have K := hide (k0)
  clear k0
  have S0 := hide s0
  clear s0
  go_enter Tryz.func46, Tryz.ntmps46
  go_wp2_with fail
  generalize (w.alloc (.cells #[.int .i64 0, .bool false, .int .i64 0, .int .i64 0] 25)) = W at *
  refine (is_nan_nan _).mono ?_
  rintro e w1 ⟨rfl, k1⟩
  replace qf0 := k1.loose0 (World.block_lt_of_cell? _ _ q0) qf0
  replace qf1 := k1.loose0 (World.block_lt_of_cell? _ _ q1) qf1
  replace qf2 := k1.loose0 (World.block_lt_of_cell? _ _ q2) qf2
  replace qf3 := k1.loose0 (World.block_lt_of_cell? _ _ q3) qf3
  replace q0 := k1.cell0 q0
  replace q1 := k1.cell0 q1
  replace q2 := k1.cell0 q2
  replace q3 := k1.cell0 q3
  replace K := hide ((unhide K).trans k1)
  have z2 := k1.size
  clear k1
  have KF := hide (((((unhide K).setNew (p := ⟨w.heap.size, 0, none⟩) (by simp) (.int .i64 3)).setNew (p := ⟨w.heap.size, 1, none⟩) (by simp) (.bool false)).setNew (p := ⟨w.heap.size, 2, none⟩) (by simp) (.int .i64 0)).setNew (p := ⟨w.heap.size, 3, none⟩) (by simp) (.int .i64 0))
  clear K
  try go_wp2_with fail
  exact bodyPost_ret (v := .tuple #[.agg #[.int .i64 3, .bool false, .int .i64 0, .int .i64 0], .int .i64 0]) (by simp [results, Tryz.results46, go_sem, q0, q1, q2, q3]) rfl ⟨by rw [unhide FQ], unhide KF⟩

set_option maxHeartbeats 2000000 in
theorem addI_nan_inf (n2 : Bool) (mode : Int) (hm0 : 0 ≤ mode) (hm4 : mode ≤ 4) (w : World) :
    Calls Tryz.prog 46 #[.iface 135 (.agg #[.bool false]), .iface 134 (.agg #[.bool n2]), .int .i64 mode] w fun e' w' => e' = .returned (.tuple #[flq (addQ 3 false 0 0 2 n2 0 0 mode).1, .int .i64 (addQ 3 false 0 0 2 n2 0 0 mode).2]) ∧ Kept 0 0 w w' := by
  obtain ⟨Q, hQ⟩ : ∃ q, addQ 3 false 0 0 2 n2 0 0 mode = q := ⟨_, rfl⟩
  rw [hQ]
  have HQ := hide hQ
  clear hQ
  have FQ : Hid (Q = ((3, false, 0, 0), 0)) := by show _ = _; rw [← unhide HQ]; unfold addQ; simp
  have g2 := fun w => hs_inf n2 w
  have i2 := fun w => inv_inf_t n2 w
  have k0 : Kept 0 0 w (w.alloc (.cells #[.int .i64 0, .bool false, .int .i64 0, .int .i64 0] 25)) := ((Kept.refl 0 0 w).alloc (.cells #[.int .i64 0, .bool false, .int .i64 0, .int .i64 0] 25))
  have q0 : (w.alloc (.cells #[.int .i64 0, .bool false, .int .i64 0, .int .i64 0] 25)).cell? ⟨w.heap.size, 0, none⟩ = some (.int .i64 0) := new_cell2 _ _ _ _ _ _ (by simp) rfl
  have qf0 : (w.alloc (.cells #[.int .i64 0, .bool false, .int .i64 0, .int .i64 0] 25)).frozen? ⟨w.heap.size, 0, none⟩ = false := new_loose2 _ _ _ _ _ (by simp)
  have q1 : (w.alloc (.cells #[.int .i64 0, .bool false, .int .i64 0, .int .i64 0] 25)).cell? ⟨w.heap.size, 1, none⟩ = some (.bool false) := new_cell2 _ _ _ _ _ _ (by simp) rfl
  have qf1 : (w.alloc (.cells #[.int .i64 0, .bool false, .int .i64 0, .int .i64 0] 25)).frozen? ⟨w.heap.size, 1, none⟩ = false := new_loose2 _ _ _ _ _ (by simp)
  have q2 : (w.alloc (.cells #[.int .i64 0, .bool false, .int .i64 0, .int .i64 0] 25)).cell? ⟨w.heap.size, 2, none⟩ = some (.int .i64 0) := new_cell2 _ _ _ _ _ _ (by simp) rfl
  have qf2 : (w.alloc (.cells #[.int .i64 0, .bool false, .int .i64 0, .int .i64 0] 25)).frozen? ⟨w.heap.size, 2, none⟩ = false := new_loose2 _ _ _ _ _ (by simp)
  have q3 : (w.alloc (.cells #[.int .i64 0, .bool false, .int .i64 0, .int .i64 0] 25)).cell? ⟨w.heap.size, 3, none⟩ = some (.int .i64 0) := new_cell2 _ _ _ _ _ _ (by simp) rfl
  have qf3 : (w.alloc (.cells #[.int .i64 0, .bool false, .int .i64 0, .int .i64 0] 25)).frozen? ⟨w.heap.size, 3, none⟩ = false := new_loose2 _ _ _ _ _ (by simp)
  have s0 : (w.alloc (.cells #[.int .i64 0, .bool false, .int .i64 0, .int .i64 0] 25)).heap.size = w.heap.size + 1 := by simp
  have K := hide (k0)
  clear k0
  have S0 := hide s0
  clear s0
  go_enter Tryz.func46, Tryz.ntmps46
  go_wp2_with fail
  generalize (w.alloc (.cells #[.int .i64 0, .bool false, .int .i64 0, .int .i64 0] 25)) = W at *
  refine (is_nan_nan _).mono ?_
  rintro e w1 ⟨rfl, k1⟩
  replace qf0 := k1.loose0 (World.block_lt_of_cell? _ _ q0) qf0
  replace qf1 := k1.loose0 (World.block_lt_of_cell? _ _ q1) qf1
  replace qf2 := k1.loose0 (World.block_lt_of_cell? _ _ q2) qf2
  replace qf3 := k1.loose0 (World.block_lt_of_cell? _ _ q3) qf3
  replace q0 := k1.cell0 q0
  replace q1 := k1.cell0 q1
  replace q2 := k1.cell0 q2
  replace q3 := k1.cell0 q3
  replace K := hide ((unhide K).trans k1)
  have z2 := k1.size
  clear k1
  have KF := hide (((((unhide K).setNew (p := ⟨w.heap.size, 0, none⟩) (by simp) (.int .i64 3)).setNew (p := ⟨w.heap.size, 1, none⟩) (by simp) (.bool false)).setNew (p := ⟨w.heap.size, 2, none⟩) (by simp) (.int .i64 0)).setNew (p := ⟨w.heap.size, 3, none⟩) (by simp) (.int .i64 0))
  clear K
  try go_wp2_with fail
  exact bodyPost_ret (v := .tuple #[.agg #[.int .i64 3, .bool false, .int .i64 0, .int .i64 0], .int .i64 0]) (by simp [results, Tryz.results46, go_sem, q0, q1, q2, q3]) rfl ⟨by rw [unhide FQ], unhide KF⟩

set_option maxHeartbeats 2000000 in
theorem addI_nan_nan (mode : Int) (hm0 : 0 ≤ mode) (hm4 : mode ≤ 4) (w : World) :
    Calls Tryz.prog 46 #[.iface 135 (.agg #[.bool false]), .iface 135 (.agg #[.bool false]), .int .i64 mode] w fun e' w' => e' = .returned (.tuple #[flq (addQ 3 false 0 0 3 false 0 0 mode).1, .int .i64 (addQ 3 false 0 0 3 false 0 0 mode).2]) ∧ Kept 0 0 w w' := by
  obtain ⟨Q, hQ⟩ : ∃ q, addQ 3 false 0 0 3 false 0 0 mode = q := ⟨_, rfl⟩
  rw [hQ]
  have HQ := hide hQ
  clear hQ
  have FQ : Hid (Q = ((3, false, 0, 0), 0)) := by show _ = _; rw [← unhide HQ]; unfold addQ; simp
  have k0 : Kept 0 0 w (w.alloc (.cells #[.int .i64 0, .bool false, .int .i64 0, .int .i64 0] 25)) := ((Kept.refl 0 0 w).alloc (.cells #[.int .i64 0, .bool false, .int .i64 0, .int .i64 0] 25))
  have q0 : (w.alloc (.cells #[.int .i64 0, .bool false, .int .i64 0, .int .i64 0] 25)).cell? ⟨w.heap.size, 0, none⟩ = some (.int .i64 0) := new_cell2 _ _ _ _ _ _ (by simp) rfl
  have qf0 : (w.alloc (.cells #[.int .i64 0, .bool false, .int .i64 0, .int .i64 0] 25)).frozen? ⟨w.heap.size, 0, none⟩ = false := new_loose2 _ _ _ _ _ (by simp)
  have q1 : (w.alloc (.cells #[.int .i64 0, .bool false, .int .i64 0, .int .i64 0] 25)).cell? ⟨w.heap.size, 1, none⟩ = some (.bool false) := new_cell2 _ _ _ _ _ _ (by simp) rfl
  have qf1 : (w.alloc (.cells #[.int .i64 0, .bool false, .int .i64 0, .int .i64 0] 25)).frozen? ⟨w.heap.size, 1, none⟩ = false := new_loose2 _ _ _ _ _ (by simp)
  have q2 : (w.alloc (.cells #[.int .i64 0, .bool false, .int .i64 0, .int .i64 0] 25)).cell? ⟨w.heap.size, 2, none⟩ = some (.int .i64 0) := new_cell2 _ _ _ _ _ _ (by simp) rfl
  have qf2 : (w.alloc (.cells #[.int .i64 0, .bool false, .int .i64 0, .int .i64 0] 25)).frozen? ⟨w.heap.size, 2, none⟩ = false := new_loose2 _ _ _ _ _ (by simp)
  have q3 : (w.alloc (.cells #[.int .i64 0, .bool false, .int .i64 0, .int .i64 0] 25)).cell? ⟨w.heap.size, 3, none⟩ = some (.int .i64 0) := new_cell2 _ _ _ _ _ _ (by simp) rfl
  have qf3 : (w.alloc (.cells #[.int .i64 0, .bool false, .int .i64 0, .int .i64 0] 25)).frozen? ⟨w.heap.size, 3, none⟩ = false := new_loose2 _ _ _ _ _ (by simp)
  have s0 : (w.alloc (.cells #[.int .i64 0, .bool false, .int .i64 0, .int .i64 0] 25)).heap.size = w.heap.size + 1 := by simp
  have K := hide (k0)
  clear k0
  have S0 := hide s0
  clear s0
  go_enter Tryz.func46, Tryz.ntmps46
  go_wp2_with fail
  generalize (w.alloc (.cells #[.int .i64 0, .bool false, .int .i64 0, .int .i64 0] 25)) = W at *
  refine (is_nan_nan _).mono ?_
  rintro e w1 ⟨rfl, k1⟩
  replace qf0 := k1.loose0 (World.block_lt_of_cell? _ _ q0) qf0
  replace qf1 := k1.loose0 (World.block_lt_of_cell? _ _ q1) qf1
  replace qf2 := k1.loose0 (World.block_lt_of_cell? _ _ q2) qf2
  replace qf3 := k1.loose0 (World.block_lt_of_cell? _ _ q3) qf3
  replace q0 := k1.cell0 q0
  replace q1 := k1.cell0 q1
  replace q2 := k1.cell0 q2
  replace q3 := k1.cell0 q3
  replace K := hide ((unhide K).trans k1)
  have z2 := k1.size
  clear k1
  have KF := hide (((((unhide K).setNew (p := ⟨w.heap.size, 0, none⟩) (by simp) (.int .i64 3)).setNew (p := ⟨w.heap.size, 1, none⟩) (by simp) (.bool false)).setNew (p := ⟨w.heap.size, 2, none⟩) (by simp) (.int .i64 0)).setNew (p := ⟨w.heap.size, 3, none⟩) (by simp) (.int .i64 0))
  clear K
  try go_wp2_with fail
  exact bodyPost_ret (v := .tuple #[.agg #[.int .i64 3, .bool false, .int .i64 0, .int .i64 0], .int .i64 0]) (by simp [results, Tryz.results46, go_sem, q0, q1, q2, q3]) rfl ⟨by rw [unhide FQ], unhide KF⟩

end Go.Proofs.YtckaecmkidplhaaGreatDoor

