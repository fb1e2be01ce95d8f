/-
  Products of floats: the program's multiplyFloats, the model's l5mul.
-/
import Derived.Test.YtckaecmkidplhaaGreatDoorBY
import Derived.Deep.RegionHeld3
import Derived.Deep.DeepCutAuto
namespace Go.Proofs.YtckaecmkidplhaaGreatDoor
open Go.RowKit
set_option linter.unusedVariables false
set_option maxRecDepth 8000
set_option linter.unusedSimpArgs false

/-- A product of floats, rounded; its flags. -/
def mulQ (k1 : Int) (n1 : Bool) (m1 e1 k2 : Int) (n2 : Bool) (m2 e2 mode : Int) : (Int × Bool × Int × Int) × Int :=
  if k1 = 3 ∨ k2 = 3 then ((3, false, 0, 0), 0)
  else if (k1 = 2 ∧ k2 = 0) ∨ (k1 = 0 ∧ k2 = 2) then ((3, false, 0, 0), 16)
  else if k1 = 2 ∨ k2 = 2 then ((2, !(n1 == n2), 0, 0), 0)
  else (((flA mode (!(n1 == n2)) ((fM k1 n1 m1).natAbs * (fM k2 n2 m2).natAbs) (e1 + e2)).1, !(n1 == n2), (flA mode (!(n1 == n2)) ((fM k1 n1 m1).natAbs * (fM k2 n2 m2).natAbs) (e1 + e2)).2.1, (flA mode (!(n1 == n2)) ((fM k1 n1 m1).natAbs * (fM k2 n2 m2).natAbs) (e1 + e2)).2.2), flG mode (!(n1 == n2)) ((fM k1 n1 m1).natAbs * (fM k2 n2 m2).natAbs) (e1 + e2))
set_option maxHeartbeats 400000 in
theorem badF_impl (w : World) :
    Calls Tryz.prog 45 #[] w fun e w' => e = .returned (.tuple #[flv 3 false 0 0, .int .i64 16]) ∧ Kept 0 0 w w' := by
  go_enter Tryz.func45, Tryz.ntmps45
  go_wp2_with fail
  exact bodyPost_ret (v := .tuple #[flv 3 false 0 0, .int .i64 16]) (by simp [results, Tryz.results45, go_sem]) rfl ⟨rfl, (Kept.refl 0 0 w).alloc _⟩

/-- Two numbers' blocks, made one behind the other. -/
theorem dya_new2 {w0 w4 : World} {b2 : Nat} {u1 u2 : Value} {xs ys : List Int} (s1 s2 : Bool) (x1 x2 : Int) (t : TypeId) (hk : Kept 0 0 w0 w4) (O1 : w4.ownsRow w0.heap.size 3 1 u1 xs.length (xs.map (Value.int .i64))) (O2 : w4.ownsRow b2 3 1 u2 ys.length (ys.map (Value.int .i64)))
    (hb : w0.heap.size ≤ b2) (h12 : ∀ i, u1.ownBlock = some i → i < b2) :
    Dya2 w0 ((w4.alloc (.cells #[u1, .bool s1, .int .i64 x1] t)).alloc (.cells #[u2, .bool s2, .int .i64 x2] t)) w4.heap.size (w4.heap.size + 1) s1 xs x1 s2 ys x2 := by
  have k1 := (Kept.refl 0 0 w4).alloc (.cells #[u1, .bool s1, .int .i64 x1] t)
  have k2 := (Kept.refl 0 0 (w4.alloc (.cells #[u1, .bool s1, .int .i64 x1] t))).alloc (.cells #[u2, .bool s2, .int .i64 x2] t)
  obtain ⟨n1, d1, e1⟩ := new_dya s1 x1 t O1
  obtain ⟨n2, d2, e2⟩ := new_dya s2 x2 t (own_kept O2 k1)
  have hs : (w4.alloc (.cells #[u1, .bool s1, .int .i64 x1] t)).heap.size = w4.heap.size + 1 := by simp
  have hz := hk.size
  rw [hs] at n2 d2 e2
  refine ⟨⟨⟨u1, u2, ⟨n1.kept k2, n2.less hb, by omega, ?_, ?_, ?_, (hk.trans k1).trans k2, hz, by omega⟩⟩, d1.kept k2, d2⟩, e1.kept k2, e2⟩
  · intro e; have := (O1.lt _ e).2; omega
  · intro e; have := (O2.lt _ e).2; omega
  · intro i h1 h2; have := h12 i h1; have := (O2.lt i h2).1; omega
theorem fM_num (n : Bool) {m : Int} (h : 1 ≤ m) : (fM 1 n m).natAbs = m.toNat := by unfold fM; cases n <;> simp <;> omega
theorem fM_nought (n : Bool) : (fM 0 n 0).natAbs = 0 := by rw [fM_zero (by decide)]; rfl

theorem mul_len' {xs ys : List Int} (hx : Lim xs) (hy : Lim ys) (h1 : xs.length ≤ 4) (h2 : ys.length ≤ 4) : (limbs (val xs * val ys).toNat).length ≤ 8 := by
  refine (limbs_length_le _ _).2 ?_
  have a1 := val_lt hx
  have a2 := val_lt hy
  have b1 := val_nonneg hx
  have b2 := val_nonneg hy
  have c1 := pow_mono (a := xs.length) (b := 4) h1
  have c2 := pow_mono (a := ys.length) (b := 4) h2
  have d : val xs * val ys < 65536 ^ 4 * 65536 ^ 4 := by
    refine Int.lt_of_le_of_lt (Int.mul_le_mul_of_nonneg_right (show val xs ≤ 65536 ^ 4 by omega) b2) ?_
    exact Int.mul_lt_mul_of_pos_left (by omega) (by decide)
  have e : (65536 : Int) ^ 4 * 65536 ^ 4 = 65536 ^ 8 := by decide
  have f : 0 ≤ val xs * val ys := Int.mul_nonneg b1 b2
  rw [← e]
  omega

set_option maxHeartbeats 2000000 in
theorem mulI_num_num (n1 : Bool) (m1 e1 : Int) (n2 : Bool) (m2 e2 : Int) (a11 : -1074 ≤ e1) (a21 : e1 ≤ 971) (a31 : 1 ≤ m1) (a41 : m1 ≤ 9007199254740991) (a12 : -1074 ≤ e2) (a22 : e2 ≤ 971) (a32 : 1 ≤ m2) (a42 : m2 ≤ 9007199254740991) (mode : Int) (hm0 : 0 ≤ mode) (hm4 : mode ≤ 4) (w : World) (T : TabB w) :
    Calls Tryz.prog 48 #[.iface 133 (.agg #[.bool n1, .int .i64 m1, .int .i64 e1]), .iface 133 (.agg #[.bool n2, .int .i64 m2, .int .i64 e2]), .int .i64 mode] w fun e' w' => e' = .returned (.tuple #[flq (mulQ 1 n1 m1 e1 1 n2 m2 e2 mode).1, .int .i64 (mulQ 1 n1 m1 e1 1 n2 m2 e2 mode).2]) ∧ Kept 0 0 w w' := by
  obtain ⟨Q, hQ⟩ : ∃ q, mulQ 1 n1 m1 e1 1 n2 m2 e2 mode = q := ⟨_, rfl⟩
  rw [hQ]
  have HQ := hide hQ
  clear hQ
  have g1 := fun w => hs_num n1 m1 e1 w
  have g2 := fun w => hs_num n2 m2 e2 w
  have k0 : Kept 0 0 w (w.alloc (.cells #[.int .i64 0, .bool false, .int .i64 0, .int .i64 0] 25)) := ((Kept.refl 0 0 w).alloc (.cells #[.int .i64 0, .bool false, .int .i64 0, .int .i64 0] 25))
  have q0 : (w.alloc (.cells #[.int .i64 0, .bool false, .int .i64 0, .int .i64 0] 25)).cell? ⟨w.heap.size, 0, none⟩ = some (.int .i64 0) := new_cell2 _ _ _ _ _ _ (by simp) rfl
  have qf0 : (w.alloc (.cells #[.int .i64 0, .bool false, .int .i64 0, .int .i64 0] 25)).frozen? ⟨w.heap.size, 0, none⟩ = false := new_loose2 _ _ _ _ _ (by simp)
  have q1 : (w.alloc (.cells #[.int .i64 0, .bool false, .int .i64 0, .int .i64 0] 25)).cell? ⟨w.heap.size, 1, none⟩ = some (.bool false) := new_cell2 _ _ _ _ _ _ (by simp) rfl
  have qf1 : (w.alloc (.cells #[.int .i64 0, .bool false, .int .i64 0, .int .i64 0] 25)).frozen? ⟨w.heap.size, 1, none⟩ = false := new_loose2 _ _ _ _ _ (by simp)
  have q2 : (w.alloc (.cells #[.int .i64 0, .bool false, .int .i64 0, .int .i64 0] 25)).cell? ⟨w.heap.size, 2, none⟩ = some (.int .i64 0) := new_cell2 _ _ _ _ _ _ (by simp) rfl
  have qf2 : (w.alloc (.cells #[.int .i64 0, .bool false, .int .i64 0, .int .i64 0] 25)).frozen? ⟨w.heap.size, 2, none⟩ = false := new_loose2 _ _ _ _ _ (by simp)
  have q3 : (w.alloc (.cells #[.int .i64 0, .bool false, .int .i64 0, .int .i64 0] 25)).cell? ⟨w.heap.size, 3, none⟩ = some (.int .i64 0) := new_cell2 _ _ _ _ _ _ (by simp) rfl
  have qf3 : (w.alloc (.cells #[.int .i64 0, .bool false, .int .i64 0, .int .i64 0] 25)).frozen? ⟨w.heap.size, 3, none⟩ = false := new_loose2 _ _ _ _ _ (by simp)
  have s0 : (w.alloc (.cells #[.int .i64 0, .bool false, .int .i64 0, .int .i64 0] 25)).heap.size = w.heap.size + 1 := by simp
  have K := hide (k0)
  clear k0
  have S0 := hide s0
  clear s0
  go_enter Tryz.func48, Tryz.ntmps48
  go_wp2_with fail
  generalize (w.alloc (.cells #[.int .i64 0, .bool false, .int .i64 0, .int .i64 0] 25)) = W at *
  refine (hasSign_any n1 _).mono ?_
  rintro e w1 ⟨rfl, k1⟩
  replace qf0 := k1.loose0 (World.block_lt_of_cell? _ _ q0) qf0
  replace qf1 := k1.loose0 (World.block_lt_of_cell? _ _ q1) qf1
  replace qf2 := k1.loose0 (World.block_lt_of_cell? _ _ q2) qf2
  replace qf3 := k1.loose0 (World.block_lt_of_cell? _ _ q3) qf3
  replace q0 := k1.cell0 q0
  replace q1 := k1.cell0 q1
  replace q2 := k1.cell0 q2
  replace q3 := k1.cell0 q3
  replace K := hide ((unhide K).trans k1)
  have z2 := k1.size
  clear k1
  go_wp2_with fail
  refine (hasSign_any n2 _).mono ?_
  rintro e w3 ⟨rfl, k3⟩
  replace qf0 := k3.loose0 (World.block_lt_of_cell? _ _ q0) qf0
  replace qf1 := k3.loose0 (World.block_lt_of_cell? _ _ q1) qf1
  replace qf2 := k3.loose0 (World.block_lt_of_cell? _ _ q2) qf2
  replace qf3 := k3.loose0 (World.block_lt_of_cell? _ _ q3) qf3
  replace q0 := k3.cell0 q0
  replace q1 := k3.cell0 q1
  replace q2 := k3.cell0 q2
  replace q3 := k3.cell0 q3
  replace K := hide ((unhide K).trans k3)
  have z4 := k3.size
  clear k3
  clear g1 g2
  go_wp2_with fail
  refine (is_nan_num n1 m1 e1 _).mono ?_
  rintro e w5 ⟨rfl, k5⟩
  replace qf0 := k5.loose0 (World.block_lt_of_cell? _ _ q0) qf0
  replace qf1 := k5.loose0 (World.block_lt_of_cell? _ _ q1) qf1
  replace qf2 := k5.loose0 (World.block_lt_of_cell? _ _ q2) qf2
  replace qf3 := k5.loose0 (World.block_lt_of_cell? _ _ q3) qf3
  replace q0 := k5.cell0 q0
  replace q1 := k5.cell0 q1
  replace q2 := k5.cell0 q2
  replace q3 := k5.cell0 q3
  replace K := hide ((unhide K).trans k5)
  have z6 := k5.size
  clear k5
  go_wp2_with fail
  refine (is_nan_num n2 m2 e2 _).mono ?_
  rintro e w7 ⟨rfl, k7⟩
  replace qf0 := k7.loose0 (World.block_lt_of_cell? _ _ q0) qf0
  replace qf1 := k7.loose0 (World.block_lt_of_cell? _ _ q1) qf1
  replace qf2 := k7.loose0 (World.block_lt_of_cell? _ _ q2) qf2
  replace qf3 := k7.loose0 (World.block_lt_of_cell? _ _ q3) qf3
  replace q0 := k7.cell0 q0
  replace q1 := k7.cell0 q1
  replace q2 := k7.cell0 q2
  replace q3 := k7.cell0 q3
  replace K := hide ((unhide K).trans k7)
  have z8 := k7.size
  clear k7
  go_wp2_with fail
  refine (is_inf_num n1 m1 e1 _).mono ?_
  rintro e w9 ⟨rfl, k9⟩
  replace qf0 := k9.loose0 (World.block_lt_of_cell? _ _ q0) qf0
  replace qf1 := k9.loose0 (World.block_lt_of_cell? _ _ q1) qf1
  replace qf2 := k9.loose0 (World.block_lt_of_cell? _ _ q2) qf2
  replace qf3 := k9.loose0 (World.block_lt_of_cell? _ _ q3) qf3
  replace q0 := k9.cell0 q0
  replace q1 := k9.cell0 q1
  replace q2 := k9.cell0 q2
  replace q3 := k9.cell0 q3
  replace K := hide ((unhide K).trans k9)
  have z10 := k9.size
  clear k9
  go_wp2_with fail
  refine (is_nought_num n1 m1 e1 _).mono ?_
  rintro e w11 ⟨rfl, k11⟩
  replace qf0 := k11.loose0 (World.block_lt_of_cell? _ _ q0) qf0
  replace qf1 := k11.loose0 (World.block_lt_of_cell? _ _ q1) qf1
  replace qf2 := k11.loose0 (World.block_lt_of_cell? _ _ q2) qf2
  replace qf3 := k11.loose0 (World.block_lt_of_cell? _ _ q3) qf3
  replace q0 := k11.cell0 q0
  replace q1 := k11.cell0 q1
  replace q2 := k11.cell0 q2
  replace q3 := k11.cell0 q3
  replace K := hide ((unhide K).trans k11)
  have z12 := k11.size
  clear k11
  go_wp2_with fail
  refine (is_inf_num n1 m1 e1 _).mono ?_
  rintro e w13 ⟨rfl, k13⟩
  replace qf0 := k13.loose0 (World.block_lt_of_cell? _ _ q0) qf0
  replace qf1 := k13.loose0 (World.block_lt_of_cell? _ _ q1) qf1
  replace qf2 := k13.loose0 (World.block_lt_of_cell? _ _ q2) qf2
  replace qf3 := k13.loose0 (World.block_lt_of_cell? _ _ q3) qf3
  replace q0 := k13.cell0 q0
  replace q1 := k13.cell0 q1
  replace q2 := k13.cell0 q2
  replace q3 := k13.cell0 q3
  replace K := hide ((unhide K).trans k13)
  have z14 := k13.size
  clear k13
  go_wp2_with fail
  refine (is_inf_num n2 m2 e2 _).mono ?_
  rintro e w15 ⟨rfl, k15⟩
  replace qf0 := k15.loose0 (World.block_lt_of_cell? _ _ q0) qf0
  replace qf1 := k15.loose0 (World.block_lt_of_cell? _ _ q1) qf1
  replace qf2 := k15.loose0 (World.block_lt_of_cell? _ _ q2) qf2
  replace qf3 := k15.loose0 (World.block_lt_of_cell? _ _ q3) qf3
  replace q0 := k15.cell0 q0
  replace q1 := k15.cell0 q1
  replace q2 := k15.cell0 q2
  replace q3 := k15.cell0 q3
  replace K := hide ((unhide K).trans k15)
  have z16 := k15.size
  clear k15
  go_wp2_with fail
  obtain ⟨xs, hxs⟩ : ∃ L : List Int, limbs m1.toNat = L := ⟨_, rfl⟩
  obtain ⟨ys, hys⟩ : ∃ L : List Int, limbs m2.toNat = L := ⟨_, rfl⟩
  have hn1 : Nrm xs := by rw [← hxs]; exact limbs_nrm _
  have hv1 : val xs = ((fM 1 n1 m1).natAbs : Int) := by rw [← hxs, limbs_val, fM_num n1 a31]
  have hl1 : xs.length ≤ 4 := by
    rw [← hxs]
    refine (limbs_length_le _ _).2 ?_
    rw [show (65536 : Int) ^ 4 = 18446744073709551616 by decide]
    omega
  have hn2 : Nrm ys := by rw [← hys]; exact limbs_nrm _
  have hv2 : val ys = ((fM 1 n2 m2).natAbs : Int) := by rw [← hys, limbs_val, fM_num n2 a32]
  have hl2 : ys.length ≤ 4 := by
    rw [← hys]
    refine (limbs_length_le _ _).2 ?_
    rw [show (65536 : Int) ^ 4 = 18446744073709551616 by decide]
    omega
  have Q0 := q0
  have QF0 := qf0
  have Q1 := q1
  have QF1 := qf1
  have Q2 := q2
  have QF2 := qf2
  have Q3 := q3
  have QF3 := qf3
  have KW := K
  have mk := valueOf_num n1 m1 e1 a31 a41 w15
  rw [hxs] at mk
  refine (mk).mono ?_
  rintro e w17 ⟨v1, rfl, o1, k17⟩
  have KV1 := k17
  replace qf0 := k17.loose0 (World.block_lt_of_cell? _ _ q0) qf0
  replace qf1 := k17.loose0 (World.block_lt_of_cell? _ _ q1) qf1
  replace qf2 := k17.loose0 (World.block_lt_of_cell? _ _ q2) qf2
  replace qf3 := k17.loose0 (World.block_lt_of_cell? _ _ q3) qf3
  replace q0 := k17.cell0 q0
  replace q1 := k17.cell0 q1
  replace q2 := k17.cell0 q2
  replace q3 := k17.cell0 q3
  replace K := hide ((unhide K).trans k17)
  have z18 := k17.size
  clear k17
  clear mk
  have l1 := o1.lt
  go_wp2_with fail
  have mk := valueOf_num n2 m2 e2 a32 a42 w17
  rw [hys] at mk
  refine (mk).mono ?_
  rintro e w19 ⟨v2, rfl, o2, k19⟩
  have KV2 := k19
  replace o1 := own_kept o1 k19
  replace qf0 := k19.loose0 (World.block_lt_of_cell? _ _ q0) qf0
  replace qf1 := k19.loose0 (World.block_lt_of_cell? _ _ q1) qf1
  replace qf2 := k19.loose0 (World.block_lt_of_cell? _ _ q2) qf2
  replace qf3 := k19.loose0 (World.block_lt_of_cell? _ _ q3) qf3
  replace q0 := k19.cell0 q0
  replace q1 := k19.cell0 q1
  replace q2 := k19.cell0 q2
  replace q3 := k19.cell0 q3
  replace K := hide ((unhide K).trans k19)
  have z20 := k19.size
  clear mk hxs hys
  have l2 := o2.lt
  obtain ⟨p1, c1, hv⟩ := own_slice o1
  subst hv
  obtain ⟨p2, c2, hv⟩ := own_slice o2
  subst hv
  have KV : Kept 0 0 w15 w19 := KV1.trans KV2
  have DD := dya_new2 n1 n2 e1 e2 93 KV o1 o2 (by have := KV1.size; omega) (fun i e => (l1 i e).2)
  have kn := ((Kept.refl 0 0 w19).alloc (.cells #[.slice p1 xs.length c1, .bool n1, .int .i64 e1] 93)).alloc (.cells #[.slice p2 ys.length c2, .bool n2, .int .i64 e2] 93)
  replace qf0 := kn.loose0 (World.block_lt_of_cell? _ _ q0) qf0
  replace qf1 := kn.loose0 (World.block_lt_of_cell? _ _ q1) qf1
  replace qf2 := kn.loose0 (World.block_lt_of_cell? _ _ q2) qf2
  replace qf3 := kn.loose0 (World.block_lt_of_cell? _ _ q3) qf3
  replace q0 := kn.cell0 q0
  replace q1 := kn.cell0 q1
  replace q2 := kn.cell0 q2
  replace q3 := kn.cell0 q3
  replace K := hide ((unhide K).trans kn)
  have z21 := kn.size
  clear kn o1 o2 KV KV1 KV2
  go_wp2_with fail
  generalize (w19.alloc (.cells #[.slice p1 xs.length c1, .bool n1, .int .i64 e1] 93)).alloc (.cells #[.slice p2 ys.length c2, .bool n2, .int .i64 e2] 93) = W5 at *
  refine (multiplyDyadic_impl DD hn1 hn2 (by omega) (by omega) (by omega) (by omega) (by omega) (by omega)).mono ?_
  rintro e w6 ⟨⟨r6, rfl⟩, u6, nd, dd, ee, k6⟩
  clear DD
  have hS0 := unhide S0
  have zW := k6.size
  replace qf0 : w6.frozen? ⟨w.heap.size, 0, none⟩ = false := k6.loose0 (World.block_lt_of_cell? _ _ Q0) QF0
  replace qf1 : w6.frozen? ⟨w.heap.size, 1, none⟩ = false := k6.loose0 (World.block_lt_of_cell? _ _ Q1) QF1
  replace qf2 : w6.frozen? ⟨w.heap.size, 2, none⟩ = false := k6.loose0 (World.block_lt_of_cell? _ _ Q2) QF2
  replace qf3 : w6.frozen? ⟨w.heap.size, 3, none⟩ = false := k6.loose0 (World.block_lt_of_cell? _ _ Q3) QF3
  replace q0 : w6.cell? ⟨w.heap.size, 0, none⟩ = _ := k6.cell0 Q0
  replace q1 : w6.cell? ⟨w.heap.size, 1, none⟩ = _ := k6.cell0 Q1
  replace q2 : w6.cell? ⟨w.heap.size, 2, none⟩ = _ := k6.cell0 Q2
  replace q3 : w6.cell? ⟨w.heap.size, 3, none⟩ = _ := k6.cell0 Q3
  replace K := hide ((unhide KW).trans k6)
  obtain ⟨zs, hzs⟩ : ∃ y, limbs (val xs * val ys).toNat = y := ⟨_, rfl⟩
  rw [hzs] at nd
  have hn : Nrm zs := by rw [← hzs]; exact limbs_nrm _
  have hV : (val zs).toNat = (fM 1 n1 m1).natAbs * (fM 1 n2 m2).natAbs := by rw [← hzs, limbs_val, Int.toNat_natCast, hv1, hv2, ← Int.natCast_mul, Int.toNat_natCast]
  have hl : zs.length ≤ 10000 := by rw [← hzs]; exact Nat.le_trans (mul_len' hn1.1 hn2.1 hl1 hl2) (by decide)
  clear hzs
  obtain ⟨A, hA⟩ : ∃ y, flA mode (!(n1 == n2)) (val zs).toNat (e1 + e2) = y := ⟨_, rfl⟩
  obtain ⟨G, hG⟩ : ∃ y, flG mode (!(n1 == n2)) (val zs).toNat (e1 + e2) = y := ⟨_, rfl⟩
  have FQ : Hid (Q = ((A.1, !(n1 == n2), A.2.1, A.2.2), G)) := by show _ = _; rw [← unhide HQ, ← hA, ← hG, hV]; unfold mulQ; simp
  go_wp2_with fail
  have mk := toFloat_impl _ nd dd ee hn hl (by omega) (by omega) (by omega) mode hm0 hm4 (T.kept (unhide K))
  rw [hA, hG] at mk
  refine mk.mono ?_
  rintro e w7 ⟨rfl, m7⟩
  clear mk hA hG
  have hS : ∀ i, u6.ownBlock = some i → w.heap.size + 1 ≤ i := fun i e => by have := (nd.own.lt i e).1; omega
  have nS : ¬ u6.ownBlock = some w.heap.size := fun e => by have := hS _ e; omega
  replace qf0 := m7.loose (a := ⟨w.heap.size, 0, none⟩) nS (World.block_lt_of_cell? _ _ q0) qf0
  replace qf1 := m7.loose (a := ⟨w.heap.size, 1, none⟩) nS (World.block_lt_of_cell? _ _ q1) qf1
  replace qf2 := m7.loose (a := ⟨w.heap.size, 2, none⟩) nS (World.block_lt_of_cell? _ _ q2) qf2
  replace qf3 := m7.loose (a := ⟨w.heap.size, 3, none⟩) nS (World.block_lt_of_cell? _ _ q3) qf3
  replace q0 := m7.cell (a := ⟨w.heap.size, 0, none⟩) nS q0
  replace q1 := m7.cell (a := ⟨w.heap.size, 1, none⟩) nS q1
  replace q2 := m7.cell (a := ⟨w.heap.size, 2, none⟩) nS q2
  replace q3 := m7.cell (a := ⟨w.heap.size, 3, none⟩) nS q3
  replace K := hide ((unhide K).mod m7 (fun i e => by have := hS i e; omega))
  clear m7 hS nS nd dd ee k6
  have KF := hide (((((unhide K).setNew (p := ⟨w.heap.size, 0, none⟩) (by simp) (.int .i64 A.1)).setNew (p := ⟨w.heap.size, 1, none⟩) (by simp) (.bool (!(n1 == n2)))).setNew (p := ⟨w.heap.size, 2, none⟩) (by simp) (.int .i64 A.2.1)).setNew (p := ⟨w.heap.size, 3, none⟩) (by simp) (.int .i64 A.2.2))
  clear K
  try go_wp2_with fail
  exact bodyPost_ret (v := .tuple #[.agg #[.int .i64 A.1, .bool (!(n1 == n2)), .int .i64 A.2.1, .int .i64 A.2.2], .int .i64 G]) (by simp [results, Tryz.results48, go_sem, q0, q1, q2, q3]) rfl ⟨by rw [unhide FQ], unhide KF⟩

set_option maxHeartbeats 2000000 in
theorem mulI_num_nought (n1 : Bool) (m1 e1 : Int) (n2 : Bool) (a11 : -1074 ≤ e1) (a21 : e1 ≤ 971) (a31 : 1 ≤ m1) (a41 : m1 ≤ 9007199254740991) (mode : Int) (hm0 : 0 ≤ mode) (hm4 : mode ≤ 4) (w : World) (T : TabB w) :
    Calls Tryz.prog 48 #[.iface 133 (.agg #[.bool n1, .int .i64 m1, .int .i64 e1]), .iface 131 (.agg #[.bool n2]), .int .i64 mode] w fun e' w' => e' = .returned (.tuple #[flq (mulQ 1 n1 m1 e1 0 n2 0 0 mode).1, .int .i64 (mulQ 1 n1 m1 e1 0 n2 0 0 mode).2]) ∧ Kept 0 0 w w' := by
  obtain ⟨Q, hQ⟩ : ∃ q, mulQ 1 n1 m1 e1 0 n2 0 0 mode = q := ⟨_, rfl⟩
  rw [hQ]
  have HQ := hide hQ
  clear hQ
  have g1 := fun w => hs_num n1 m1 e1 w
  have g2 := fun w => hs_nought n2 w
  have k0 : Kept 0 0 w (w.alloc (.cells #[.int .i64 0, .bool false, .int .i64 0, .int .i64 0] 25)) := ((Kept.refl 0 0 w).alloc (.cells #[.int .i64 0, .bool false, .int .i64 0, .int .i64 0] 25))
  have q0 : (w.alloc (.cells #[.int .i64 0, .bool false, .int .i64 0, .int .i64 0] 25)).cell? ⟨w.heap.size, 0, none⟩ = some (.int .i64 0) := new_cell2 _ _ _ _ _ _ (by simp) rfl
  have qf0 : (w.alloc (.cells #[.int .i64 0, .bool false, .int .i64 0, .int .i64 0] 25)).frozen? ⟨w.heap.size, 0, none⟩ = false := new_loose2 _ _ _ _ _ (by simp)
  have q1 : (w.alloc (.cells #[.int .i64 0, .bool false, .int .i64 0, .int .i64 0] 25)).cell? ⟨w.heap.size, 1, none⟩ = some (.bool false) := new_cell2 _ _ _ _ _ _ (by simp) rfl
  have qf1 : (w.alloc (.cells #[.int .i64 0, .bool false, .int .i64 0, .int .i64 0] 25)).frozen? ⟨w.heap.size, 1, none⟩ = false := new_loose2 _ _ _ _ _ (by simp)
  have q2 : (w.alloc (.cells #[.int .i64 0, .bool false, .int .i64 0, .int .i64 0] 25)).cell? ⟨w.heap.size, 2, none⟩ = some (.int .i64 0) := new_cell2 _ _ _ _ _ _ (by simp) rfl
  have qf2 : (w.alloc (.cells #[.int .i64 0, .bool false, .int .i64 0, .int .i64 0] 25)).frozen? ⟨w.heap.size, 2, none⟩ = false := new_loose2 _ _ _ _ _ (by simp)
  have q3 : (w.alloc (.cells #[.int .i64 0, .bool false, .int .i64 0, .int .i64 0] 25)).cell? ⟨w.heap.size, 3, none⟩ = some (.int .i64 0) := new_cell2 _ _ _ _ _ _ (by simp) rfl
  have qf3 : (w.alloc (.cells #[.int .i64 0, .bool false, .int .i64 0, .int .i64 0] 25)).frozen? ⟨w.heap.size, 3, none⟩ = false := new_loose2 _ _ _ _ _ (by simp)
  have s0 : (w.alloc (.cells #[.int .i64 0, .bool false, .int .i64 0, .int .i64 0] 25)).heap.size = w.heap.size + 1 := by simp
  have K := hide (k0)
  clear k0
  have S0 := hide s0
  clear s0
  go_enter Tryz.func48, Tryz.ntmps48
  go_wp2_with fail
  generalize (w.alloc (.cells #[.int .i64 0, .bool false, .int .i64 0, .int .i64 0] 25)) = W at *
  refine (hasSign_any n1 _).mono ?_
  rintro e w1 ⟨rfl, k1⟩
  replace qf0 := k1.loose0 (World.block_lt_of_cell? _ _ q0) qf0
  replace qf1 := k1.loose0 (World.block_lt_of_cell? _ _ q1) qf1
  replace qf2 := k1.loose0 (World.block_lt_of_cell? _ _ q2) qf2
  replace qf3 := k1.loose0 (World.block_lt_of_cell? _ _ q3) qf3
  replace q0 := k1.cell0 q0
  replace q1 := k1.cell0 q1
  replace q2 := k1.cell0 q2
  replace q3 := k1.cell0 q3
  replace K := hide ((unhide K).trans k1)
  have z2 := k1.size
  clear k1
  go_wp2_with fail
  refine (hasSign_any n2 _).mono ?_
  rintro e w3 ⟨rfl, k3⟩
  replace qf0 := k3.loose0 (World.block_lt_of_cell? _ _ q0) qf0
  replace qf1 := k3.loose0 (World.block_lt_of_cell? _ _ q1) qf1
  replace qf2 := k3.loose0 (World.block_lt_of_cell? _ _ q2) qf2
  replace qf3 := k3.loose0 (World.block_lt_of_cell? _ _ q3) qf3
  replace q0 := k3.cell0 q0
  replace q1 := k3.cell0 q1
  replace q2 := k3.cell0 q2
  replace q3 := k3.cell0 q3
  replace K := hide ((unhide K).trans k3)
  have z4 := k3.size
  clear k3
  clear g1 g2
  go_wp2_with fail
  refine (is_nan_num n1 m1 e1 _).mono ?_
  rintro e w5 ⟨rfl, k5⟩
  replace qf0 := k5.loose0 (World.block_lt_of_cell? _ _ q0) qf0
  replace qf1 := k5.loose0 (World.block_lt_of_cell? _ _ q1) qf1
  replace qf2 := k5.loose0 (World.block_lt_of_cell? _ _ q2) qf2
  replace qf3 := k5.loose0 (World.block_lt_of_cell? _ _ q3) qf3
  replace q0 := k5.cell0 q0
  replace q1 := k5.cell0 q1
  replace q2 := k5.cell0 q2
  replace q3 := k5.cell0 q3
  replace K := hide ((unhide K).trans k5)
  have z6 := k5.size
  clear k5
  go_wp2_with fail
  refine (is_nan_nought n2 _).mono ?_
  rintro e w7 ⟨rfl, k7⟩
  replace qf0 := k7.loose0 (World.block_lt_of_cell? _ _ q0) qf0
  replace qf1 := k7.loose0 (World.block_lt_of_cell? _ _ q1) qf1
  replace qf2 := k7.loose0 (World.block_lt_of_cell? _ _ q2) qf2
  replace qf3 := k7.loose0 (World.block_lt_of_cell? _ _ q3) qf3
  replace q0 := k7.cell0 q0
  replace q1 := k7.cell0 q1
  replace q2 := k7.cell0 q2
  replace q3 := k7.cell0 q3
  replace K := hide ((unhide K).trans k7)
  have z8 := k7.size
  clear k7
  go_wp2_with fail
  refine (is_inf_num n1 m1 e1 _).mono ?_
  rintro e w9 ⟨rfl, k9⟩
  replace qf0 := k9.loose0 (World.block_lt_of_cell? _ _ q0) qf0
  replace qf1 := k9.loose0 (World.block_lt_of_cell? _ _ q1) qf1
  replace qf2 := k9.loose0 (World.block_lt_of_cell? _ _ q2) qf2
  replace qf3 := k9.loose0 (World.block_lt_of_cell? _ _ q3) qf3
  replace q0 := k9.cell0 q0
  replace q1 := k9.cell0 q1
  replace q2 := k9.cell0 q2
  replace q3 := k9.cell0 q3
  replace K := hide ((unhide K).trans k9)
  have z10 := k9.size
  clear k9
  go_wp2_with fail
  refine (is_nought_num n1 m1 e1 _).mono ?_
  rintro e w11 ⟨rfl, k11⟩
  replace qf0 := k11.loose0 (World.block_lt_of_cell? _ _ q0) qf0
  replace qf1 := k11.loose0 (World.block_lt_of_cell? _ _ q1) qf1
  replace qf2 := k11.loose0 (World.block_lt_of_cell? _ _ q2) qf2
  replace qf3 := k11.loose0 (World.block_lt_of_cell? _ _ q3) qf3
  replace q0 := k11.cell0 q0
  replace q1 := k11.cell0 q1
  replace q2 := k11.cell0 q2
  replace q3 := k11.cell0 q3
  replace K := hide ((unhide K).trans k11)
  have z12 := k11.size
  clear k11
  go_wp2_with fail
  refine (is_inf_num n1 m1 e1 _).mono ?_
  rintro e w13 ⟨rfl, k13⟩
  replace qf0 := k13.loose0 (World.block_lt_of_cell? _ _ q0) qf0
  replace qf1 := k13.loose0 (World.block_lt_of_cell? _ _ q1) qf1
  replace qf2 := k13.loose0 (World.block_lt_of_cell? _ _ q2) qf2
  replace qf3 := k13.loose0 (World.block_lt_of_cell? _ _ q3) qf3
  replace q0 := k13.cell0 q0
  replace q1 := k13.cell0 q1
  replace q2 := k13.cell0 q2
  replace q3 := k13.cell0 q3
  replace K := hide ((unhide K).trans k13)
  have z14 := k13.size
  clear k13
  go_wp2_with fail
  refine (is_inf_nought n2 _).mono ?_
  rintro e w15 ⟨rfl, k15⟩
  replace qf0 := k15.loose0 (World.block_lt_of_cell? _ _ q0) qf0
  replace qf1 := k15.loose0 (World.block_lt_of_cell? _ _ q1) qf1
  replace qf2 := k15.loose0 (World.block_lt_of_cell? _ _ q2) qf2
  replace qf3 := k15.loose0 (World.block_lt_of_cell? _ _ q3) qf3
  replace q0 := k15.cell0 q0
  replace q1 := k15.cell0 q1
  replace q2 := k15.cell0 q2
  replace q3 := k15.cell0 q3
  replace K := hide ((unhide K).trans k15)
  have z16 := k15.size
  clear k15
  go_wp2_with fail
  obtain ⟨xs, hxs⟩ : ∃ L : List Int, limbs m1.toNat = L := ⟨_, rfl⟩
  obtain ⟨ys, hys⟩ : ∃ L : List Int, ([] : List Int) = L := ⟨_, rfl⟩
  have hn1 : Nrm xs := by rw [← hxs]; exact limbs_nrm _
  have hv1 : val xs = ((fM 1 n1 m1).natAbs : Int) := by rw [← hxs, limbs_val, fM_num n1 a31]
  have hl1 : xs.length ≤ 4 := by
    rw [← hxs]
    refine (limbs_length_le _ _).2 ?_
    rw [show (65536 : Int) ^ 4 = 18446744073709551616 by decide]
    omega
  have hn2 : Nrm ys := by rw [← hys, ← limbs_zero]; exact limbs_nrm 0
  have hv2 : val ys = ((fM 0 n2 0).natAbs : Int) := by rw [← hys, fM_nought]; rfl
  have hl2 : ys.length ≤ 4 := by rw [← hys]; decide
  have Q0 := q0
  have QF0 := qf0
  have Q1 := q1
  have QF1 := qf1
  have Q2 := q2
  have QF2 := qf2
  have Q3 := q3
  have QF3 := qf3
  have KW := K
  have mk := valueOf_num n1 m1 e1 a31 a41 w15
  rw [hxs] at mk
  refine (mk).mono ?_
  rintro e w17 ⟨v1, rfl, o1, k17⟩
  have KV1 := k17
  replace qf0 := k17.loose0 (World.block_lt_of_cell? _ _ q0) qf0
  replace qf1 := k17.loose0 (World.block_lt_of_cell? _ _ q1) qf1
  replace qf2 := k17.loose0 (World.block_lt_of_cell? _ _ q2) qf2
  replace qf3 := k17.loose0 (World.block_lt_of_cell? _ _ q3) qf3
  replace q0 := k17.cell0 q0
  replace q1 := k17.cell0 q1
  replace q2 := k17.cell0 q2
  replace q3 := k17.cell0 q3
  replace K := hide ((unhide K).trans k17)
  have z18 := k17.size
  clear k17
  clear mk
  have l1 := o1.lt
  go_wp2_with fail
  have mk := valueOf_nought n2 w17
  rw [hys] at mk
  refine (mk).mono ?_
  rintro e w19 ⟨v2, rfl, o2, k19⟩
  have KV2 := k19
  replace o1 := own_kept o1 k19
  replace qf0 := k19.loose0 (World.block_lt_of_cell? _ _ q0) qf0
  replace qf1 := k19.loose0 (World.block_lt_of_cell? _ _ q1) qf1
  replace qf2 := k19.loose0 (World.block_lt_of_cell? _ _ q2) qf2
  replace qf3 := k19.loose0 (World.block_lt_of_cell? _ _ q3) qf3
  replace q0 := k19.cell0 q0
  replace q1 := k19.cell0 q1
  replace q2 := k19.cell0 q2
  replace q3 := k19.cell0 q3
  replace K := hide ((unhide K).trans k19)
  have z20 := k19.size
  clear mk hxs hys
  have l2 := o2.lt
  obtain ⟨p1, c1, hv⟩ := own_slice o1
  subst hv
  obtain ⟨p2, c2, hv⟩ := own_slice o2
  subst hv
  have KV : Kept 0 0 w15 w19 := KV1.trans KV2
  have DD := dya_new2 n1 n2 e1 0 93 KV o1 o2 (by have := KV1.size; omega) (fun i e => (l1 i e).2)
  have kn := ((Kept.refl 0 0 w19).alloc (.cells #[.slice p1 xs.length c1, .bool n1, .int .i64 e1] 93)).alloc (.cells #[.slice p2 ys.length c2, .bool n2, .int .i64 0] 93)
  replace qf0 := kn.loose0 (World.block_lt_of_cell? _ _ q0) qf0
  replace qf1 := kn.loose0 (World.block_lt_of_cell? _ _ q1) qf1
  replace qf2 := kn.loose0 (World.block_lt_of_cell? _ _ q2) qf2
  replace qf3 := kn.loose0 (World.block_lt_of_cell? _ _ q3) qf3
  replace q0 := kn.cell0 q0
  replace q1 := kn.cell0 q1
  replace q2 := kn.cell0 q2
  replace q3 := kn.cell0 q3
  replace K := hide ((unhide K).trans kn)
  have z21 := kn.size
  clear kn o1 o2 KV KV1 KV2
  go_wp2_with fail
  generalize (w19.alloc (.cells #[.slice p1 xs.length c1, .bool n1, .int .i64 e1] 93)).alloc (.cells #[.slice p2 ys.length c2, .bool n2, .int .i64 0] 93) = W5 at *
  refine (multiplyDyadic_impl DD hn1 hn2 (by omega) (by omega) (by omega) (by omega) (by omega) (by omega)).mono ?_
  rintro e w6 ⟨⟨r6, rfl⟩, u6, nd, dd, ee, k6⟩
  clear DD
  have hS0 := unhide S0
  have zW := k6.size
  replace qf0 : w6.frozen? ⟨w.heap.size, 0, none⟩ = false := k6.loose0 (World.block_lt_of_cell? _ _ Q0) QF0
  replace qf1 : w6.frozen? ⟨w.heap.size, 1, none⟩ = false := k6.loose0 (World.block_lt_of_cell? _ _ Q1) QF1
  replace qf2 : w6.frozen? ⟨w.heap.size, 2, none⟩ = false := k6.loose0 (World.block_lt_of_cell? _ _ Q2) QF2
  replace qf3 : w6.frozen? ⟨w.heap.size, 3, none⟩ = false := k6.loose0 (World.block_lt_of_cell? _ _ Q3) QF3
  replace q0 : w6.cell? ⟨w.heap.size, 0, none⟩ = _ := k6.cell0 Q0
  replace q1 : w6.cell? ⟨w.heap.size, 1, none⟩ = _ := k6.cell0 Q1
  replace q2 : w6.cell? ⟨w.heap.size, 2, none⟩ = _ := k6.cell0 Q2
  replace q3 : w6.cell? ⟨w.heap.size, 3, none⟩ = _ := k6.cell0 Q3
  replace K := hide ((unhide KW).trans k6)
  obtain ⟨zs, hzs⟩ : ∃ y, limbs (val xs * val ys).toNat = y := ⟨_, rfl⟩
  rw [hzs] at nd
  have hn : Nrm zs := by rw [← hzs]; exact limbs_nrm _
  have hV : (val zs).toNat = (fM 1 n1 m1).natAbs * (fM 0 n2 0).natAbs := by rw [← hzs, limbs_val, Int.toNat_natCast, hv1, hv2, ← Int.natCast_mul, Int.toNat_natCast]
  have hl : zs.length ≤ 10000 := by rw [← hzs]; exact Nat.le_trans (mul_len' hn1.1 hn2.1 hl1 hl2) (by decide)
  clear hzs
  obtain ⟨A, hA⟩ : ∃ y, flA mode (!(n1 == n2)) (val zs).toNat (e1 + 0) = y := ⟨_, rfl⟩
  obtain ⟨G, hG⟩ : ∃ y, flG mode (!(n1 == n2)) (val zs).toNat (e1 + 0) = y := ⟨_, rfl⟩
  have FQ : Hid (Q = ((A.1, !(n1 == n2), A.2.1, A.2.2), G)) := by show _ = _; rw [← unhide HQ, ← hA, ← hG, hV]; unfold mulQ; simp
  go_wp2_with fail
  have mk := toFloat_impl _ nd dd ee hn hl (by omega) (by omega) (by omega) mode hm0 hm4 (T.kept (unhide K))
  rw [hA, hG] at mk
  refine mk.mono ?_
  rintro e w7 ⟨rfl, m7⟩
  clear mk hA hG
  have hS : ∀ i, u6.ownBlock = some i → w.heap.size + 1 ≤ i := fun i e => by have := (nd.own.lt i e).1; omega
  have nS : ¬ u6.ownBlock = some w.heap.size := fun e => by have := hS _ e; omega
  replace qf0 := m7.loose (a := ⟨w.heap.size, 0, none⟩) nS (World.block_lt_of_cell? _ _ q0) qf0
  replace qf1 := m7.loose (a := ⟨w.heap.size, 1, none⟩) nS (World.block_lt_of_cell? _ _ q1) qf1
  replace qf2 := m7.loose (a := ⟨w.heap.size, 2, none⟩) nS (World.block_lt_of_cell? _ _ q2) qf2
  replace qf3 := m7.loose (a := ⟨w.heap.size, 3, none⟩) nS (World.block_lt_of_cell? _ _ q3) qf3
  replace q0 := m7.cell (a := ⟨w.heap.size, 0, none⟩) nS q0
  replace q1 := m7.cell (a := ⟨w.heap.size, 1, none⟩) nS q1
  replace q2 := m7.cell (a := ⟨w.heap.size, 2, none⟩) nS q2
  replace q3 := m7.cell (a := ⟨w.heap.size, 3, none⟩) nS q3
  replace K := hide ((unhide K).mod m7 (fun i e => by have := hS i e; omega))
  clear m7 hS nS nd dd ee k6
  have KF := hide (((((unhide K).setNew (p := ⟨w.heap.size, 0, none⟩) (by simp) (.int .i64 A.1)).setNew (p := ⟨w.heap.size, 1, none⟩) (by simp) (.bool (!(n1 == n2)))).setNew (p := ⟨w.heap.size, 2, none⟩) (by simp) (.int .i64 A.2.1)).setNew (p := ⟨w.heap.size, 3, none⟩) (by simp) (.int .i64 A.2.2))
  clear K
  try go_wp2_with fail
  exact bodyPost_ret (v := .tuple #[.agg #[.int .i64 A.1, .bool (!(n1 == n2)), .int .i64 A.2.1, .int .i64 A.2.2], .int .i64 G]) (by simp [results, Tryz.results48, go_sem, q0, q1, q2, q3]) rfl ⟨by rw [unhide FQ], unhide KF⟩

set_option maxHeartbeats 2000000 in
theorem mulI_num_inf (n1 : Bool) (m1 e1 : Int) (n2 : Bool) (a11 : -1074 ≤ e1) (a21 : e1 ≤ 971) (a31 : 1 ≤ m1) (a41 : m1 ≤ 9007199254740991) (mode : Int) (hm0 : 0 ≤ mode) (hm4 : mode ≤ 4) (w : World) :
    Calls Tryz.prog 48 #[.iface 133 (.agg #[.bool n1, .int .i64 m1, .int .i64 e1]), .iface 134 (.agg #[.bool n2]), .int .i64 mode] w fun e' w' => e' = .returned (.tuple #[flq (mulQ 1 n1 m1 e1 2 n2 0 0 mode).1, .int .i64 (mulQ 1 n1 m1 e1 2 n2 0 0 mode).2]) ∧ Kept 0 0 w w' := by
  obtain ⟨Q, hQ⟩ : ∃ q, mulQ 1 n1 m1 e1 2 n2 0 0 mode = q := ⟨_, rfl⟩
  rw [hQ]
  have HQ := hide hQ
  clear hQ
  have FQ : Hid (Q = ((2, !(n1 == n2), 0, 0), 0)) := by show _ = _; rw [← unhide HQ]; unfold mulQ; simp
  have g1 := fun w => hs_num n1 m1 e1 w
  have g2 := fun w => hs_inf n2 w
  have k0 : Kept 0 0 w (w.alloc (.cells #[.int .i64 0, .bool false, .int .i64 0, .int .i64 0] 25)) := ((Kept.refl 0 0 w).alloc (.cells #[.int .i64 0, .bool false, .int .i64 0, .int .i64 0] 25))
  have q0 : (w.alloc (.cells #[.int .i64 0, .bool false, .int .i64 0, .int .i64 0] 25)).cell? ⟨w.heap.size, 0, none⟩ = some (.int .i64 0) := new_cell2 _ _ _ _ _ _ (by simp) rfl
  have qf0 : (w.alloc (.cells #[.int .i64 0, .bool false, .int .i64 0, .int .i64 0] 25)).frozen? ⟨w.heap.size, 0, none⟩ = false := new_loose2 _ _ _ _ _ (by simp)
  have q1 : (w.alloc (.cells #[.int .i64 0, .bool false, .int .i64 0, .int .i64 0] 25)).cell? ⟨w.heap.size, 1, none⟩ = some (.bool false) := new_cell2 _ _ _ _ _ _ (by simp) rfl
  have qf1 : (w.alloc (.cells #[.int .i64 0, .bool false, .int .i64 0, .int .i64 0] 25)).frozen? ⟨w.heap.size, 1, none⟩ = false := new_loose2 _ _ _ _ _ (by simp)
  have q2 : (w.alloc (.cells #[.int .i64 0, .bool false, .int .i64 0, .int .i64 0] 25)).cell? ⟨w.heap.size, 2, none⟩ = some (.int .i64 0) := new_cell2 _ _ _ _ _ _ (by simp) rfl
  have qf2 : (w.alloc (.cells #[.int .i64 0, .bool false, .int .i64 0, .int .i64 0] 25)).frozen? ⟨w.heap.size, 2, none⟩ = false := new_loose2 _ _ _ _ _ (by simp)
  have q3 : (w.alloc (.cells #[.int .i64 0, .bool false, .int .i64 0, .int .i64 0] 25)).cell? ⟨w.heap.size, 3, none⟩ = some (.int .i64 0) := new_cell2 _ _ _ _ _ _ (by simp) rfl
  have qf3 : (w.alloc (.cells #[.int .i64 0, .bool false, .int .i64 0, .int .i64 0] 25)).frozen? ⟨w.heap.size, 3, none⟩ = false := new_loose2 _ _ _ _ _ (by simp)
  have s0 : (w.alloc (.cells #[.int .i64 0, .bool false, .int .i64 0, .int .i64 0] 25)).heap.size = w.heap.size + 1 := by simp
  have K := hide (k0)
  clear k0
  have S0 := hide s0
  clear s0
  go_enter Tryz.func48, Tryz.ntmps48
  go_wp2_with fail
  generalize (w.alloc (.cells #[.int .i64 0, .bool false, .int .i64 0, .int .i64 0] 25)) = W at *
  refine (hasSign_any n1 _).mono ?_
  rintro e w1 ⟨rfl, k1⟩
  replace qf0 := k1.loose0 (World.block_lt_of_cell? _ _ q0) qf0
  replace qf1 := k1.loose0 (World.block_lt_of_cell? _ _ q1) qf1
  replace qf2 := k1.loose0 (World.block_lt_of_cell? _ _ q2) qf2
  replace qf3 := k1.loose0 (World.block_lt_of_cell? _ _ q3) qf3
  replace q0 := k1.cell0 q0
  replace q1 := k1.cell0 q1
  replace q2 := k1.cell0 q2
  replace q3 := k1.cell0 q3
  replace K := hide ((unhide K).trans k1)
  have z2 := k1.size
  clear k1
  go_wp2_with fail
  refine (hasSign_any n2 _).mono ?_
  rintro e w3 ⟨rfl, k3⟩
  replace qf0 := k3.loose0 (World.block_lt_of_cell? _ _ q0) qf0
  replace qf1 := k3.loose0 (World.block_lt_of_cell? _ _ q1) qf1
  replace qf2 := k3.loose0 (World.block_lt_of_cell? _ _ q2) qf2
  replace qf3 := k3.loose0 (World.block_lt_of_cell? _ _ q3) qf3
  replace q0 := k3.cell0 q0
  replace q1 := k3.cell0 q1
  replace q2 := k3.cell0 q2
  replace q3 := k3.cell0 q3
  replace K := hide ((unhide K).trans k3)
  have z4 := k3.size
  clear k3
  clear g1 g2
  go_wp2_with fail
  refine (is_nan_num n1 m1 e1 _).mono ?_
  rintro e w5 ⟨rfl, k5⟩
  replace qf0 := k5.loose0 (World.block_lt_of_cell? _ _ q0) qf0
  replace qf1 := k5.loose0 (World.block_lt_of_cell? _ _ q1) qf1
  replace qf2 := k5.loose0 (World.block_lt_of_cell? _ _ q2) qf2
  replace qf3 := k5.loose0 (World.block_lt_of_cell? _ _ q3) qf3
  replace q0 := k5.cell0 q0
  replace q1 := k5.cell0 q1
  replace q2 := k5.cell0 q2
  replace q3 := k5.cell0 q3
  replace K := hide ((unhide K).trans k5)
  have z6 := k5.size
  clear k5
  go_wp2_with fail
  refine (is_nan_inf n2 _).mono ?_
  rintro e w7 ⟨rfl, k7⟩
  replace qf0 := k7.loose0 (World.block_lt_of_cell? _ _ q0) qf0
  replace qf1 := k7.loose0 (World.block_lt_of_cell? _ _ q1) qf1
  replace qf2 := k7.loose0 (World.block_lt_of_cell? _ _ q2) qf2
  replace qf3 := k7.loose0 (World.block_lt_of_cell? _ _ q3) qf3
  replace q0 := k7.cell0 q0
  replace q1 := k7.cell0 q1
  replace q2 := k7.cell0 q2
  replace q3 := k7.cell0 q3
  replace K := hide ((unhide K).trans k7)
  have z8 := k7.size
  clear k7
  go_wp2_with fail
  refine (is_inf_num n1 m1 e1 _).mono ?_
  rintro e w9 ⟨rfl, k9⟩
  replace qf0 := k9.loose0 (World.block_lt_of_cell? _ _ q0) qf0
  replace qf1 := k9.loose0 (World.block_lt_of_cell? _ _ q1) qf1
  replace qf2 := k9.loose0 (World.block_lt_of_cell? _ _ q2) qf2
  replace qf3 := k9.loose0 (World.block_lt_of_cell? _ _ q3) qf3
  replace q0 := k9.cell0 q0
  replace q1 := k9.cell0 q1
  replace q2 := k9.cell0 q2
  replace q3 := k9.cell0 q3
  replace K := hide ((unhide K).trans k9)
  have z10 := k9.size
  clear k9
  go_wp2_with fail
  refine (is_nought_num n1 m1 e1 _).mono ?_
  rintro e w11 ⟨rfl, k11⟩
  replace qf0 := k11.loose0 (World.block_lt_of_cell? _ _ q0) qf0
  replace qf1 := k11.loose0 (World.block_lt_of_cell? _ _ q1) qf1
  replace qf2 := k11.loose0 (World.block_lt_of_cell? _ _ q2) qf2
  replace qf3 := k11.loose0 (World.block_lt_of_cell? _ _ q3) qf3
  replace q0 := k11.cell0 q0
  replace q1 := k11.cell0 q1
  replace q2 := k11.cell0 q2
  replace q3 := k11.cell0 q3
  replace K := hide ((unhide K).trans k11)
  have z12 := k11.size
  clear k11
  go_wp2_with fail
  refine (is_inf_num n1 m1 e1 _).mono ?_
  rintro e w13 ⟨rfl, k13⟩
  replace qf0 := k13.loose0 (World.block_lt_of_cell? _ _ q0) qf0
  replace qf1 := k13.loose0 (World.block_lt_of_cell? _ _ q1) qf1
  replace qf2 := k13.loose0 (World.block_lt_of_cell? _ _ q2) qf2
  replace qf3 := k13.loose0 (World.block_lt_of_cell? _ _ q3) qf3
  replace q0 := k13.cell0 q0
  replace q1 := k13.cell0 q1
  replace q2 := k13.cell0 q2
  replace q3 := k13.cell0 q3
  replace K := hide ((unhide K).trans k13)
  have z14 := k13.size
  clear k13
  go_wp2_with fail
  refine (is_inf_inf n2 _).mono ?_
  rintro e w15 ⟨rfl, k15⟩
  replace qf0 := k15.loose0 (World.block_lt_of_cell? _ _ q0) qf0
  replace qf1 := k15.loose0 (World.block_lt_of_cell? _ _ q1) qf1
  replace qf2 := k15.loose0 (World.block_lt_of_cell? _ _ q2) qf2
  replace qf3 := k15.loose0 (World.block_lt_of_cell? _ _ q3) qf3
  replace q0 := k15.cell0 q0
  replace q1 := k15.cell0 q1
  replace q2 := k15.cell0 q2
  replace q3 := k15.cell0 q3
  replace K := hide ((unhide K).trans k15)
  have z16 := k15.size
  clear k15
  have hne : (n1 != n2) = !(n1 == n2) := rfl
  have KF := hide (((((unhide K).setNew (p := ⟨w.heap.size, 0, none⟩) (by simp) (.int .i64 2)).setNew (p := ⟨w.heap.size, 1, none⟩) (by simp) (.bool (!(n1 == n2)))).setNew (p := ⟨w.heap.size, 2, none⟩) (by simp) (.int .i64 0)).setNew (p := ⟨w.heap.size, 3, none⟩) (by simp) (.int .i64 0))
  clear K
  try go_wp2_with fail
  exact bodyPost_ret (v := .tuple #[.agg #[.int .i64 2, .bool (!(n1 == n2)), .int .i64 0, .int .i64 0], .int .i64 0]) (by simp [results, Tryz.results48, go_sem, q0, q1, q2, q3]) rfl ⟨by rw [unhide FQ], unhide KF⟩

set_option maxHeartbeats 2000000 in
theorem mulI_num_nan (n1 : Bool) (m1 e1 : Int) (a11 : -1074 ≤ e1) (a21 : e1 ≤ 971) (a31 : 1 ≤ m1) (a41 : m1 ≤ 9007199254740991) (mode : Int) (hm0 : 0 ≤ mode) (hm4 : mode ≤ 4) (w : World) :
    Calls Tryz.prog 48 #[.iface 133 (.agg #[.bool n1, .int .i64 m1, .int .i64 e1]), .iface 135 (.agg #[.bool false]), .int .i64 mode] w fun e' w' => e' = .returned (.tuple #[flq (mulQ 1 n1 m1 e1 3 false 0 0 mode).1, .int .i64 (mulQ 1 n1 m1 e1 3 false 0 0 mode).2]) ∧ Kept 0 0 w w' := by
  obtain ⟨Q, hQ⟩ : ∃ q, mulQ 1 n1 m1 e1 3 false 0 0 mode = q := ⟨_, rfl⟩
  rw [hQ]
  have HQ := hide hQ
  clear hQ
  have FQ : Hid (Q = ((3, false, 0, 0), 0)) := by show _ = _; rw [← unhide HQ]; unfold mulQ; simp
  have g1 := fun w => hs_num n1 m1 e1 w
  have g2 := fun w => hs_nan w
  have k0 : Kept 0 0 w (w.alloc (.cells #[.int .i64 0, .bool false, .int .i64 0, .int .i64 0] 25)) := ((Kept.refl 0 0 w).alloc (.cells #[.int .i64 0, .bool false, .int .i64 0, .int .i64 0] 25))
  have q0 : (w.alloc (.cells #[.int .i64 0, .bool false, .int .i64 0, .int .i64 0] 25)).cell? ⟨w.heap.size, 0, none⟩ = some (.int .i64 0) := new_cell2 _ _ _ _ _ _ (by simp) rfl
  have qf0 : (w.alloc (.cells #[.int .i64 0, .bool false, .int .i64 0, .int .i64 0] 25)).frozen? ⟨w.heap.size, 0, none⟩ = false := new_loose2 _ _ _ _ _ (by simp)
  have q1 : (w.alloc (.cells #[.int .i64 0, .bool false, .int .i64 0, .int .i64 0] 25)).cell? ⟨w.heap.size, 1, none⟩ = some (.bool false) := new_cell2 _ _ _ _ _ _ (by simp) rfl
  have qf1 : (w.alloc (.cells #[.int .i64 0, .bool false, .int .i64 0, .int .i64 0] 25)).frozen? ⟨w.heap.size, 1, none⟩ = false := new_loose2 _ _ _ _ _ (by simp)
  have q2 : (w.alloc (.cells #[.int .i64 0, .bool false, .int .i64 0, .int .i64 0] 25)).cell? ⟨w.heap.size, 2, none⟩ = some (.int .i64 0) := new_cell2 _ _ _ _ _ _ (by simp) rfl
  have qf2 : (w.alloc (.cells #[.int .i64 0, .bool false, .int .i64 0, .int .i64 0] 25)).frozen? ⟨w.heap.size, 2, none⟩ = false := new_loose2 _ _ _ _ _ (by simp)
  have q3 : (w.alloc (.cells #[.int .i64 0, .bool false, .int .i64 0, .int .i64 0] 25)).cell? ⟨w.heap.size, 3, none⟩ = some (.int .i64 0) := new_cell2 _ _ _ _ _ _ (by simp) rfl
  have qf3 : (w.alloc (.cells #[.int .i64 0, .bool false, .int .i64 0, .int .i64 0] 25)).frozen? ⟨w.heap.size, 3, none⟩ = false := new_loose2 _ _ _ _ _ (by simp)
  have s0 : (w.alloc (.cells #[.int .i64 0, .bool false, .int .i64 0, .int .i64 0] 25)).heap.size = w.heap.size + 1 := by simp
  have K := hide (k0)
  clear k0
  have S0 := hide s0
  clear s0
  go_enter Tryz.func48, Tryz.ntmps48
  go_wp2_with fail
  generalize (w.alloc (.cells #[.int .i64 0, .bool false, .int .i64 0, .int .i64 0] 25)) = W at *
  refine (hasSign_any n1 _).mono ?_
  rintro e w1 ⟨rfl, k1⟩
  replace qf0 := k1.loose0 (World.block_lt_of_cell? _ _ q0) qf0
  replace qf1 := k1.loose0 (World.block_lt_of_cell? _ _ q1) qf1
  replace qf2 := k1.loose0 (World.block_lt_of_cell? _ _ q2) qf2
  replace qf3 := k1.loose0 (World.block_lt_of_cell? _ _ q3) qf3
  replace q0 := k1.cell0 q0
  replace q1 := k1.cell0 q1
  replace q2 := k1.cell0 q2
  replace q3 := k1.cell0 q3
  replace K := hide ((unhide K).trans k1)
  have z2 := k1.size
  clear k1
  go_wp2_with fail
  refine (hasSign_any false _).mono ?_
  rintro e w3 ⟨rfl, k3⟩
  replace qf0 := k3.loose0 (World.block_lt_of_cell? _ _ q0) qf0
  replace qf1 := k3.loose0 (World.block_lt_of_cell? _ _ q1) qf1
  replace qf2 := k3.loose0 (World.block_lt_of_cell? _ _ q2) qf2
  replace qf3 := k3.loose0 (World.block_lt_of_cell? _ _ q3) qf3
  replace q0 := k3.cell0 q0
  replace q1 := k3.cell0 q1
  replace q2 := k3.cell0 q2
  replace q3 := k3.cell0 q3
  replace K := hide ((unhide K).trans k3)
  have z4 := k3.size
  clear k3
  clear g1 g2
  go_wp2_with fail
  refine (is_nan_num n1 m1 e1 _).mono ?_
  rintro e w5 ⟨rfl, k5⟩
  replace qf0 := k5.loose0 (World.block_lt_of_cell? _ _ q0) qf0
  replace qf1 := k5.loose0 (World.block_lt_of_cell? _ _ q1) qf1
  replace qf2 := k5.loose0 (World.block_lt_of_cell? _ _ q2) qf2
  replace qf3 := k5.loose0 (World.block_lt_of_cell? _ _ q3) qf3
  replace q0 := k5.cell0 q0
  replace q1 := k5.cell0 q1
  replace q2 := k5.cell0 q2
  replace q3 := k5.cell0 q3
  replace K := hide ((unhide K).trans k5)
  have z6 := k5.size
  clear k5
  go_wp2_with fail
  refine (is_nan_nan _).mono ?_
  rintro e w7 ⟨rfl, k7⟩
  replace qf0 := k7.loose0 (World.block_lt_of_cell? _ _ q0) qf0
  replace qf1 := k7.loose0 (World.block_lt_of_cell? _ _ q1) qf1
  replace qf2 := k7.loose0 (World.block_lt_of_cell? _ _ q2) qf2
  replace qf3 := k7.loose0 (World.block_lt_of_cell? _ _ q3) qf3
  replace q0 := k7.cell0 q0
  replace q1 := k7.cell0 q1
  replace q2 := k7.cell0 q2
  replace q3 := k7.cell0 q3
  replace K := hide ((unhide K).trans k7)
  have z8 := k7.size
  clear k7
  have KF := hide (((((unhide K).setNew (p := ⟨w.heap.size, 0, none⟩) (by simp) (.int .i64 3)).setNew (p := ⟨w.heap.size, 1, none⟩) (by simp) (.bool false)).setNew (p := ⟨w.heap.size, 2, none⟩) (by simp) (.int .i64 0)).setNew (p := ⟨w.heap.size, 3, none⟩) (by simp) (.int .i64 0))
  clear K
  try go_wp2_with fail
  exact bodyPost_ret (v := .tuple #[.agg #[.int .i64 3, .bool false, .int .i64 0, .int .i64 0], .int .i64 0]) (by simp [results, Tryz.results48, go_sem, q0, q1, q2, q3]) rfl ⟨by rw [unhide FQ], unhide KF⟩

set_option maxHeartbeats 2000000 in
theorem mulI_nought_num (n1 : Bool) (n2 : Bool) (m2 e2 : Int) (a12 : -1074 ≤ e2) (a22 : e2 ≤ 971) (a32 : 1 ≤ m2) (a42 : m2 ≤ 9007199254740991) (mode : Int) (hm0 : 0 ≤ mode) (hm4 : mode ≤ 4) (w : World) (T : TabB w) :
    Calls Tryz.prog 48 #[.iface 131 (.agg #[.bool n1]), .iface 133 (.agg #[.bool n2, .int .i64 m2, .int .i64 e2]), .int .i64 mode] w fun e' w' => e' = .returned (.tuple #[flq (mulQ 0 n1 0 0 1 n2 m2 e2 mode).1, .int .i64 (mulQ 0 n1 0 0 1 n2 m2 e2 mode).2]) ∧ Kept 0 0 w w' := by
  obtain ⟨Q, hQ⟩ : ∃ q, mulQ 0 n1 0 0 1 n2 m2 e2 mode = q := ⟨_, rfl⟩
  rw [hQ]
  have HQ := hide hQ
  clear hQ
  have g1 := fun w => hs_nought n1 w
  have g2 := fun w => hs_num n2 m2 e2 w
  have k0 : Kept 0 0 w (w.alloc (.cells #[.int .i64 0, .bool false, .int .i64 0, .int .i64 0] 25)) := ((Kept.refl 0 0 w).alloc (.cells #[.int .i64 0, .bool false, .int .i64 0, .int .i64 0] 25))
  have q0 : (w.alloc (.cells #[.int .i64 0, .bool false, .int .i64 0, .int .i64 0] 25)).cell? ⟨w.heap.size, 0, none⟩ = some (.int .i64 0) := new_cell2 _ _ _ _ _ _ (by simp) rfl
  have qf0 : (w.alloc (.cells #[.int .i64 0, .bool false, .int .i64 0, .int .i64 0] 25)).frozen? ⟨w.heap.size, 0, none⟩ = false := new_loose2 _ _ _ _ _ (by simp)
  have q1 : (w.alloc (.cells #[.int .i64 0, .bool false, .int .i64 0, .int .i64 0] 25)).cell? ⟨w.heap.size, 1, none⟩ = some (.bool false) := new_cell2 _ _ _ _ _ _ (by simp) rfl
  have qf1 : (w.alloc (.cells #[.int .i64 0, .bool false, .int .i64 0, .int .i64 0] 25)).frozen? ⟨w.heap.size, 1, none⟩ = false := new_loose2 _ _ _ _ _ (by simp)
  have q2 : (w.alloc (.cells #[.int .i64 0, .bool false, .int .i64 0, .int .i64 0] 25)).cell? ⟨w.heap.size, 2, none⟩ = some (.int .i64 0) := new_cell2 _ _ _ _ _ _ (by simp) rfl
  have qf2 : (w.alloc (.cells #[.int .i64 0, .bool false, .int .i64 0, .int .i64 0] 25)).frozen? ⟨w.heap.size, 2, none⟩ = false := new_loose2 _ _ _ _ _ (by simp)
  have q3 : (w.alloc (.cells #[.int .i64 0, .bool false, .int .i64 0, .int .i64 0] 25)).cell? ⟨w.heap.size, 3, none⟩ = some (.int .i64 0) := new_cell2 _ _ _ _ _ _ (by simp) rfl
  have qf3 : (w.alloc (.cells #[.int .i64 0, .bool false, .int .i64 0, .int .i64 0] 25)).frozen? ⟨w.heap.size, 3, none⟩ = false := new_loose2 _ _ _ _ _ (by simp)
  have s0 : (w.alloc (.cells #[.int .i64 0, .bool false, .int .i64 0, .int .i64 0] 25)).heap.size = w.heap.size + 1 := by simp
  have K := hide (k0)
  clear k0
  have S0 := hide s0
  clear s0
  go_enter Tryz.func48, Tryz.ntmps48
  go_wp2_with fail
  generalize (w.alloc (.cells #[.int .i64 0, .bool false, .int .i64 0, .int .i64 0] 25)) = W at *
  refine (hasSign_any n1 _).mono ?_
  rintro e w1 ⟨rfl, k1⟩
  replace qf0 := k1.loose0 (World.block_lt_of_cell? _ _ q0) qf0
  replace qf1 := k1.loose0 (World.block_lt_of_cell? _ _ q1) qf1
  replace qf2 := k1.loose0 (World.block_lt_of_cell? _ _ q2) qf2
  replace qf3 := k1.loose0 (World.block_lt_of_cell? _ _ q3) qf3
  replace q0 := k1.cell0 q0
  replace q1 := k1.cell0 q1
  replace q2 := k1.cell0 q2
  replace q3 := k1.cell0 q3
  replace K := hide ((unhide K).trans k1)
  have z2 := k1.size
  clear k1
  go_wp2_with fail
  refine (hasSign_any n2 _).mono ?_
  rintro e w3 ⟨rfl, k3⟩
  replace qf0 := k3.loose0 (World.block_lt_of_cell? _ _ q0) qf0
  replace qf1 := k3.loose0 (World.block_lt_of_cell? _ _ q1) qf1
  replace qf2 := k3.loose0 (World.block_lt_of_cell? _ _ q2) qf2
  replace qf3 := k3.loose0 (World.block_lt_of_cell? _ _ q3) qf3
  replace q0 := k3.cell0 q0
  replace q1 := k3.cell0 q1
  replace q2 := k3.cell0 q2
  replace q3 := k3.cell0 q3
  replace K := hide ((unhide K).trans k3)
  have z4 := k3.size
  clear k3
  clear g1 g2
  go_wp2_with fail
  refine (is_nan_nought n1 _).mono ?_
  rintro e w5 ⟨rfl, k5⟩
  replace qf0 := k5.loose0 (World.block_lt_of_cell? _ _ q0) qf0
  replace qf1 := k5.loose0 (World.block_lt_of_cell? _ _ q1) qf1
  replace qf2 := k5.loose0 (World.block_lt_of_cell? _ _ q2) qf2
  replace qf3 := k5.loose0 (World.block_lt_of_cell? _ _ q3) qf3
  replace q0 := k5.cell0 q0
  replace q1 := k5.cell0 q1
  replace q2 := k5.cell0 q2
  replace q3 := k5.cell0 q3
  replace K := hide ((unhide K).trans k5)
  have z6 := k5.size
  clear k5
  go_wp2_with fail
  refine (is_nan_num n2 m2 e2 _).mono ?_
  rintro e w7 ⟨rfl, k7⟩
  replace qf0 := k7.loose0 (World.block_lt_of_cell? _ _ q0) qf0
  replace qf1 := k7.loose0 (World.block_lt_of_cell? _ _ q1) qf1
  replace qf2 := k7.loose0 (World.block_lt_of_cell? _ _ q2) qf2
  replace qf3 := k7.loose0 (World.block_lt_of_cell? _ _ q3) qf3
  replace q0 := k7.cell0 q0
  replace q1 := k7.cell0 q1
  replace q2 := k7.cell0 q2
  replace q3 := k7.cell0 q3
  replace K := hide ((unhide K).trans k7)
  have z8 := k7.size
  clear k7
  go_wp2_with fail
  refine (is_inf_nought n1 _).mono ?_
  rintro e w9 ⟨rfl, k9⟩
  replace qf0 := k9.loose0 (World.block_lt_of_cell? _ _ q0) qf0
  replace qf1 := k9.loose0 (World.block_lt_of_cell? _ _ q1) qf1
  replace qf2 := k9.loose0 (World.block_lt_of_cell? _ _ q2) qf2
  replace qf3 := k9.loose0 (World.block_lt_of_cell? _ _ q3) qf3
  replace q0 := k9.cell0 q0
  replace q1 := k9.cell0 q1
  replace q2 := k9.cell0 q2
  replace q3 := k9.cell0 q3
  replace K := hide ((unhide K).trans k9)
  have z10 := k9.size
  clear k9
  go_wp2_with fail
  refine (is_nought_nought n1 _).mono ?_
  rintro e w11 ⟨rfl, k11⟩
  replace qf0 := k11.loose0 (World.block_lt_of_cell? _ _ q0) qf0
  replace qf1 := k11.loose0 (World.block_lt_of_cell? _ _ q1) qf1
  replace qf2 := k11.loose0 (World.block_lt_of_cell? _ _ q2) qf2
  replace qf3 := k11.loose0 (World.block_lt_of_cell? _ _ q3) qf3
  replace q0 := k11.cell0 q0
  replace q1 := k11.cell0 q1
  replace q2 := k11.cell0 q2
  replace q3 := k11.cell0 q3
  replace K := hide ((unhide K).trans k11)
  have z12 := k11.size
  clear k11
  go_wp2_with fail
  refine (is_inf_num n2 m2 e2 _).mono ?_
  rintro e w13 ⟨rfl, k13⟩
  replace qf0 := k13.loose0 (World.block_lt_of_cell? _ _ q0) qf0
  replace qf1 := k13.loose0 (World.block_lt_of_cell? _ _ q1) qf1
  replace qf2 := k13.loose0 (World.block_lt_of_cell? _ _ q2) qf2
  replace qf3 := k13.loose0 (World.block_lt_of_cell? _ _ q3) qf3
  replace q0 := k13.cell0 q0
  replace q1 := k13.cell0 q1
  replace q2 := k13.cell0 q2
  replace q3 := k13.cell0 q3
  replace K := hide ((unhide K).trans k13)
  have z14 := k13.size
  clear k13
  go_wp2_with fail
  refine (is_inf_nought n1 _).mono ?_
  rintro e w15 ⟨rfl, k15⟩
  replace qf0 := k15.loose0 (World.block_lt_of_cell? _ _ q0) qf0
  replace qf1 := k15.loose0 (World.block_lt_of_cell? _ _ q1) qf1
  replace qf2 := k15.loose0 (World.block_lt_of_cell? _ _ q2) qf2
  replace qf3 := k15.loose0 (World.block_lt_of_cell? _ _ q3) qf3
  replace q0 := k15.cell0 q0
  replace q1 := k15.cell0 q1
  replace q2 := k15.cell0 q2
  replace q3 := k15.cell0 q3
  replace K := hide ((unhide K).trans k15)
  have z16 := k15.size
  clear k15
  go_wp2_with fail
  refine (is_inf_num n2 m2 e2 _).mono ?_
  rintro e w17 ⟨rfl, k17⟩
  replace qf0 := k17.loose0 (World.block_lt_of_cell? _ _ q0) qf0
  replace qf1 := k17.loose0 (World.block_lt_of_cell? _ _ q1) qf1
  replace qf2 := k17.loose0 (World.block_lt_of_cell? _ _ q2) qf2
  replace qf3 := k17.loose0 (World.block_lt_of_cell? _ _ q3) qf3
  replace q0 := k17.cell0 q0
  replace q1 := k17.cell0 q1
  replace q2 := k17.cell0 q2
  replace q3 := k17.cell0 q3
  replace K := hide ((unhide K).trans k17)
  have z18 := k17.size
  clear k17
  go_wp2_with fail
  obtain ⟨xs, hxs⟩ : ∃ L : List Int, ([] : List Int) = L := ⟨_, rfl⟩
  obtain ⟨ys, hys⟩ : ∃ L : List Int, limbs m2.toNat = L := ⟨_, rfl⟩
  have hn1 : Nrm xs := by rw [← hxs, ← limbs_zero]; exact limbs_nrm 0
  have hv1 : val xs = ((fM 0 n1 0).natAbs : Int) := by rw [← hxs, fM_nought]; rfl
  have hl1 : xs.length ≤ 4 := by rw [← hxs]; decide
  have hn2 : Nrm ys := by rw [← hys]; exact limbs_nrm _
  have hv2 : val ys = ((fM 1 n2 m2).natAbs : Int) := by rw [← hys, limbs_val, fM_num n2 a32]
  have hl2 : ys.length ≤ 4 := by
    rw [← hys]
    refine (limbs_length_le _ _).2 ?_
    rw [show (65536 : Int) ^ 4 = 18446744073709551616 by decide]
    omega
  have Q0 := q0
  have QF0 := qf0
  have Q1 := q1
  have QF1 := qf1
  have Q2 := q2
  have QF2 := qf2
  have Q3 := q3
  have QF3 := qf3
  have KW := K
  have mk := valueOf_nought n1 w17
  rw [hxs] at mk
  refine (mk).mono ?_
  rintro e w19 ⟨v1, rfl, o1, k19⟩
  have KV1 := k19
  replace qf0 := k19.loose0 (World.block_lt_of_cell? _ _ q0) qf0
  replace qf1 := k19.loose0 (World.block_lt_of_cell? _ _ q1) qf1
  replace qf2 := k19.loose0 (World.block_lt_of_cell? _ _ q2) qf2
  replace qf3 := k19.loose0 (World.block_lt_of_cell? _ _ q3) qf3
  replace q0 := k19.cell0 q0
  replace q1 := k19.cell0 q1
  replace q2 := k19.cell0 q2
  replace q3 := k19.cell0 q3
  replace K := hide ((unhide K).trans k19)
  have z20 := k19.size
  clear k19
  clear mk
  have l1 := o1.lt
  go_wp2_with fail
  have mk := valueOf_num n2 m2 e2 a32 a42 w19
  rw [hys] at mk
  refine (mk).mono ?_
  rintro e w21 ⟨v2, rfl, o2, k21⟩
  have KV2 := k21
  replace o1 := own_kept o1 k21
  replace qf0 := k21.loose0 (World.block_lt_of_cell? _ _ q0) qf0
  replace qf1 := k21.loose0 (World.block_lt_of_cell? _ _ q1) qf1
  replace qf2 := k21.loose0 (World.block_lt_of_cell? _ _ q2) qf2
  replace qf3 := k21.loose0 (World.block_lt_of_cell? _ _ q3) qf3
  replace q0 := k21.cell0 q0
  replace q1 := k21.cell0 q1
  replace q2 := k21.cell0 q2
  replace q3 := k21.cell0 q3
  replace K := hide ((unhide K).trans k21)
  have z22 := k21.size
  clear mk hxs hys
  have l2 := o2.lt
  obtain ⟨p1, c1, hv⟩ := own_slice o1
  subst hv
  obtain ⟨p2, c2, hv⟩ := own_slice o2
  subst hv
  have KV : Kept 0 0 w17 w21 := KV1.trans KV2
  have DD := dya_new2 n1 n2 0 e2 93 KV o1 o2 (by have := KV1.size; omega) (fun i e => (l1 i e).2)
  have kn := ((Kept.refl 0 0 w21).alloc (.cells #[.slice p1 xs.length c1, .bool n1, .int .i64 0] 93)).alloc (.cells #[.slice p2 ys.length c2, .bool n2, .int .i64 e2] 93)
  replace qf0 := kn.loose0 (World.block_lt_of_cell? _ _ q0) qf0
  replace qf1 := kn.loose0 (World.block_lt_of_cell? _ _ q1) qf1
  replace qf2 := kn.loose0 (World.block_lt_of_cell? _ _ q2) qf2
  replace qf3 := kn.loose0 (World.block_lt_of_cell? _ _ q3) qf3
  replace q0 := kn.cell0 q0
  replace q1 := kn.cell0 q1
  replace q2 := kn.cell0 q2
  replace q3 := kn.cell0 q3
  replace K := hide ((unhide K).trans kn)
  have z23 := kn.size
  clear kn o1 o2 KV KV1 KV2
  go_wp2_with fail
  generalize (w21.alloc (.cells #[.slice p1 xs.length c1, .bool n1, .int .i64 0] 93)).alloc (.cells #[.slice p2 ys.length c2, .bool n2, .int .i64 e2] 93) = W5 at *
  refine (multiplyDyadic_impl DD hn1 hn2 (by omega) (by omega) (by omega) (by omega) (by omega) (by omega)).mono ?_
  rintro e w6 ⟨⟨r6, rfl⟩, u6, nd, dd, ee, k6⟩
  clear DD
  have hS0 := unhide S0
  have zW := k6.size
  replace qf0 : w6.frozen? ⟨w.heap.size, 0, none⟩ = false := k6.loose0 (World.block_lt_of_cell? _ _ Q0) QF0
  replace qf1 : w6.frozen? ⟨w.heap.size, 1, none⟩ = false := k6.loose0 (World.block_lt_of_cell? _ _ Q1) QF1
  replace qf2 : w6.frozen? ⟨w.heap.size, 2, none⟩ = false := k6.loose0 (World.block_lt_of_cell? _ _ Q2) QF2
  replace qf3 : w6.frozen? ⟨w.heap.size, 3, none⟩ = false := k6.loose0 (World.block_lt_of_cell? _ _ Q3) QF3
  replace q0 : w6.cell? ⟨w.heap.size, 0, none⟩ = _ := k6.cell0 Q0
  replace q1 : w6.cell? ⟨w.heap.size, 1, none⟩ = _ := k6.cell0 Q1
  replace q2 : w6.cell? ⟨w.heap.size, 2, none⟩ = _ := k6.cell0 Q2
  replace q3 : w6.cell? ⟨w.heap.size, 3, none⟩ = _ := k6.cell0 Q3
  replace K := hide ((unhide KW).trans k6)
  obtain ⟨zs, hzs⟩ : ∃ y, limbs (val xs * val ys).toNat = y := ⟨_, rfl⟩
  rw [hzs] at nd
  have hn : Nrm zs := by rw [← hzs]; exact limbs_nrm _
  have hV : (val zs).toNat = (fM 0 n1 0).natAbs * (fM 1 n2 m2).natAbs := by rw [← hzs, limbs_val, Int.toNat_natCast, hv1, hv2, ← Int.natCast_mul, Int.toNat_natCast]
  have hl : zs.length ≤ 10000 := by rw [← hzs]; exact Nat.le_trans (mul_len' hn1.1 hn2.1 hl1 hl2) (by decide)
  clear hzs
  obtain ⟨A, hA⟩ : ∃ y, flA mode (!(n1 == n2)) (val zs).toNat (0 + e2) = y := ⟨_, rfl⟩
  obtain ⟨G, hG⟩ : ∃ y, flG mode (!(n1 == n2)) (val zs).toNat (0 + e2) = y := ⟨_, rfl⟩
  have FQ : Hid (Q = ((A.1, !(n1 == n2), A.2.1, A.2.2), G)) := by show _ = _; rw [← unhide HQ, ← hA, ← hG, hV]; unfold mulQ; simp
  go_wp2_with fail
  have mk := toFloat_impl _ nd dd ee hn hl (by omega) (by omega) (by omega) mode hm0 hm4 (T.kept (unhide K))
  rw [hA, hG] at mk
  refine mk.mono ?_
  rintro e w7 ⟨rfl, m7⟩
  clear mk hA hG
  have hS : ∀ i, u6.ownBlock = some i → w.heap.size + 1 ≤ i := fun i e => by have := (nd.own.lt i e).1; omega
  have nS : ¬ u6.ownBlock = some w.heap.size := fun e => by have := hS _ e; omega
  replace qf0 := m7.loose (a := ⟨w.heap.size, 0, none⟩) nS (World.block_lt_of_cell? _ _ q0) qf0
  replace qf1 := m7.loose (a := ⟨w.heap.size, 1, none⟩) nS (World.block_lt_of_cell? _ _ q1) qf1
  replace qf2 := m7.loose (a := ⟨w.heap.size, 2, none⟩) nS (World.block_lt_of_cell? _ _ q2) qf2
  replace qf3 := m7.loose (a := ⟨w.heap.size, 3, none⟩) nS (World.block_lt_of_cell? _ _ q3) qf3
  replace q0 := m7.cell (a := ⟨w.heap.size, 0, none⟩) nS q0
  replace q1 := m7.cell (a := ⟨w.heap.size, 1, none⟩) nS q1
  replace q2 := m7.cell (a := ⟨w.heap.size, 2, none⟩) nS q2
  replace q3 := m7.cell (a := ⟨w.heap.size, 3, none⟩) nS q3
  replace K := hide ((unhide K).mod m7 (fun i e => by have := hS i e; omega))
  clear m7 hS nS nd dd ee k6
  have KF := hide (((((unhide K).setNew (p := ⟨w.heap.size, 0, none⟩) (by simp) (.int .i64 A.1)).setNew (p := ⟨w.heap.size, 1, none⟩) (by simp) (.bool (!(n1 == n2)))).setNew (p := ⟨w.heap.size, 2, none⟩) (by simp) (.int .i64 A.2.1)).setNew (p := ⟨w.heap.size, 3, none⟩) (by simp) (.int .i64 A.2.2))
  clear K
  try go_wp2_with fail
  exact bodyPost_ret (v := .tuple #[.agg #[.int .i64 A.1, .bool (!(n1 == n2)), .int .i64 A.2.1, .int .i64 A.2.2], .int .i64 G]) (by simp [results, Tryz.results48, go_sem, q0, q1, q2, q3]) rfl ⟨by rw [unhide FQ], unhide KF⟩

set_option maxHeartbeats 2000000 in
theorem mulI_nought_nought (n1 : Bool) (n2 : Bool) (mode : Int) (hm0 : 0 ≤ mode) (hm4 : mode ≤ 4) (w : World) (T : TabB w) :
    Calls Tryz.prog 48 #[.iface 131 (.agg #[.bool n1]), .iface 131 (.agg #[.bool n2]), .int .i64 mode] w fun e' w' => e' = .returned (.tuple #[flq (mulQ 0 n1 0 0 0 n2 0 0 mode).1, .int .i64 (mulQ 0 n1 0 0 0 n2 0 0 mode).2]) ∧ Kept 0 0 w w' := by
  obtain ⟨Q, hQ⟩ : ∃ q, mulQ 0 n1 0 0 0 n2 0 0 mode = q := ⟨_, rfl⟩
  rw [hQ]
  have HQ := hide hQ
  clear hQ
  have g1 := fun w => hs_nought n1 w
  have g2 := fun w => hs_nought n2 w
  have k0 : Kept 0 0 w (w.alloc (.cells #[.int .i64 0, .bool false, .int .i64 0, .int .i64 0] 25)) := ((Kept.refl 0 0 w).alloc (.cells #[.int .i64 0, .bool false, .int .i64 0, .int .i64 0] 25))
  have q0 : (w.alloc (.cells #[.int .i64 0, .bool false, .int .i64 0, .int .i64 0] 25)).cell? ⟨w.heap.size, 0, none⟩ = some (.int .i64 0) := new_cell2 _ _ _ _ _ _ (by simp) rfl
  have qf0 : (w.alloc (.cells #[.int .i64 0, .bool false, .int .i64 0, .int .i64 0] 25)).frozen? ⟨w.heap.size, 0, none⟩ = false := new_loose2 _ _ _ _ _ (by simp)
  have q1 : (w.alloc (.cells #[.int .i64 0, .bool false, .int .i64 0, .int .i64 0] 25)).cell? ⟨w.heap.size, 1, none⟩ = some (.bool false) := new_cell2 _ _ _ _ _ _ (by simp) rfl
  have qf1 : (w.alloc (.cells #[.int .i64 0, .bool false, .int .i64 0, .int .i64 0] 25)).frozen? ⟨w.heap.size, 1, none⟩ = false := new_loose2 _ _ _ _ _ (by simp)
  have q2 : (w.alloc (.cells #[.int .i64 0, .bool false, .int .i64 0, .int .i64 0] 25)).cell? ⟨w.heap.size, 2, none⟩ = some (.int .i64 0) := new_cell2 _ _ _ _ _ _ (by simp) rfl
  have qf2 : (w.alloc (.cells #[.int .i64 0, .bool false, .int .i64 0, .int .i64 0] 25)).frozen? ⟨w.heap.size, 2, none⟩ = false := new_loose2 _ _ _ _ _ (by simp)
  have q3 : (w.alloc (.cells #[.int .i64 0, .bool false, .int .i64 0, .int .i64 0] 25)).cell? ⟨w.heap.size, 3, none⟩ = some (.int .i64 0) := new_cell2 _ _ _ _ _ _ (by simp) rfl
  have qf3 : (w.alloc (.cells #[.int .i64 0, .bool false, .int .i64 0, .int .i64 0] 25)).frozen? ⟨w.heap.size, 3, none⟩ = false := new_loose2 _ _ _ _ _ (by simp)
  have s0 : (w.alloc (.cells #[.int .i64 0, .bool false, .int .i64 0, .int .i64 0] 25)).heap.size = w.heap.size + 1 := by simp
  have K := hide (k0)
  clear k0
  have S0 := hide s0
  clear s0
  go_enter Tryz.func48, Tryz.ntmps48
  go_wp2_with fail
  generalize (w.alloc (.cells #[.int .i64 0, .bool false, .int .i64 0, .int .i64 0] 25)) = W at *
  refine (hasSign_any n1 _).mono ?_
  rintro e w1 ⟨rfl, k1⟩
  replace qf0 := k1.loose0 (World.block_lt_of_cell? _ _ q0) qf0
  replace qf1 := k1.loose0 (World.block_lt_of_cell? _ _ q1) qf1
  replace qf2 := k1.loose0 (World.block_lt_of_cell? _ _ q2) qf2
  replace qf3 := k1.loose0 (World.block_lt_of_cell? _ _ q3) qf3
  replace q0 := k1.cell0 q0
  replace q1 := k1.cell0 q1
  replace q2 := k1.cell0 q2
  replace q3 := k1.cell0 q3
  replace K := hide ((unhide K).trans k1)
  have z2 := k1.size
  clear k1
  go_wp2_with fail
  refine (hasSign_any n2 _).mono ?_
  rintro e w3 ⟨rfl, k3⟩
  replace qf0 := k3.loose0 (World.block_lt_of_cell? _ _ q0) qf0
  replace qf1 := k3.loose0 (World.block_lt_of_cell? _ _ q1) qf1
  replace qf2 := k3.loose0 (World.block_lt_of_cell? _ _ q2) qf2
  replace qf3 := k3.loose0 (World.block_lt_of_cell? _ _ q3) qf3
  replace q0 := k3.cell0 q0
  replace q1 := k3.cell0 q1
  replace q2 := k3.cell0 q2
  replace q3 := k3.cell0 q3
  replace K := hide ((unhide K).trans k3)
  have z4 := k3.size
  clear k3
  clear g1 g2
  go_wp2_with fail
  refine (is_nan_nought n1 _).mono ?_
  rintro e w5 ⟨rfl, k5⟩
  replace qf0 := k5.loose0 (World.block_lt_of_cell? _ _ q0) qf0
  replace qf1 := k5.loose0 (World.block_lt_of_cell? _ _ q1) qf1
  replace qf2 := k5.loose0 (World.block_lt_of_cell? _ _ q2) qf2
  replace qf3 := k5.loose0 (World.block_lt_of_cell? _ _ q3) qf3
  replace q0 := k5.cell0 q0
  replace q1 := k5.cell0 q1
  replace q2 := k5.cell0 q2
  replace q3 := k5.cell0 q3
  replace K := hide ((unhide K).trans k5)
  have z6 := k5.size
  clear k5
  go_wp2_with fail
  refine (is_nan_nought n2 _).mono ?_
  rintro e w7 ⟨rfl, k7⟩
  replace qf0 := k7.loose0 (World.block_lt_of_cell? _ _ q0) qf0
  replace qf1 := k7.loose0 (World.block_lt_of_cell? _ _ q1) qf1
  replace qf2 := k7.loose0 (World.block_lt_of_cell? _ _ q2) qf2
  replace qf3 := k7.loose0 (World.block_lt_of_cell? _ _ q3) qf3
  replace q0 := k7.cell0 q0
  replace q1 := k7.cell0 q1
  replace q2 := k7.cell0 q2
  replace q3 := k7.cell0 q3
  replace K := hide ((unhide K).trans k7)
  have z8 := k7.size
  clear k7
  go_wp2_with fail
  refine (is_inf_nought n1 _).mono ?_
  rintro e w9 ⟨rfl, k9⟩
  replace qf0 := k9.loose0 (World.block_lt_of_cell? _ _ q0) qf0
  replace qf1 := k9.loose0 (World.block_lt_of_cell? _ _ q1) qf1
  replace qf2 := k9.loose0 (World.block_lt_of_cell? _ _ q2) qf2
  replace qf3 := k9.loose0 (World.block_lt_of_cell? _ _ q3) qf3
  replace q0 := k9.cell0 q0
  replace q1 := k9.cell0 q1
  replace q2 := k9.cell0 q2
  replace q3 := k9.cell0 q3
  replace K := hide ((unhide K).trans k9)
  have z10 := k9.size
  clear k9
  go_wp2_with fail
  refine (is_nought_nought n1 _).mono ?_
  rintro e w11 ⟨rfl, k11⟩
  replace qf0 := k11.loose0 (World.block_lt_of_cell? _ _ q0) qf0
  replace qf1 := k11.loose0 (World.block_lt_of_cell? _ _ q1) qf1
  replace qf2 := k11.loose0 (World.block_lt_of_cell? _ _ q2) qf2
  replace qf3 := k11.loose0 (World.block_lt_of_cell? _ _ q3) qf3
  replace q0 := k11.cell0 q0
  replace q1 := k11.cell0 q1
  replace q2 := k11.cell0 q2
  replace q3 := k11.cell0 q3
  replace K := hide ((unhide K).trans k11)
  have z12 := k11.size
  clear k11
  go_wp2_with fail
  refine (is_inf_nought n2 _).mono ?_
  rintro e w13 ⟨rfl, k13⟩
  replace qf0 := k13.loose0 (World.block_lt_of_cell? _ _ q0) qf0
  replace qf1 := k13.loose0 (World.block_lt_of_cell? _ _ q1) qf1
  replace qf2 := k13.loose0 (World.block_lt_of_cell? _ _ q2) qf2
  replace qf3 := k13.loose0 (World.block_lt_of_cell? _ _ q3) qf3
  replace q0 := k13.cell0 q0
  replace q1 := k13.cell0 q1
  replace q2 := k13.cell0 q2
  replace q3 := k13.cell0 q3
  replace K := hide ((unhide K).trans k13)
  have z14 := k13.size
  clear k13
  go_wp2_with fail
  refine (is_inf_nought n1 _).mono ?_
  rintro e w15 ⟨rfl, k15⟩
  replace qf0 := k15.loose0 (World.block_lt_of_cell? _ _ q0) qf0
  replace qf1 := k15.loose0 (World.block_lt_of_cell? _ _ q1) qf1
  replace qf2 := k15.loose0 (World.block_lt_of_cell? _ _ q2) qf2
  replace qf3 := k15.loose0 (World.block_lt_of_cell? _ _ q3) qf3
  replace q0 := k15.cell0 q0
  replace q1 := k15.cell0 q1
  replace q2 := k15.cell0 q2
  replace q3 := k15.cell0 q3
  replace K := hide ((unhide K).trans k15)
  have z16 := k15.size
  clear k15
  go_wp2_with fail
  refine (is_inf_nought n2 _).mono ?_
  rintro e w17 ⟨rfl, k17⟩
  replace qf0 := k17.loose0 (World.block_lt_of_cell? _ _ q0) qf0
  replace qf1 := k17.loose0 (World.block_lt_of_cell? _ _ q1) qf1
  replace qf2 := k17.loose0 (World.block_lt_of_cell? _ _ q2) qf2
  replace qf3 := k17.loose0 (World.block_lt_of_cell? _ _ q3) qf3
  replace q0 := k17.cell0 q0
  replace q1 := k17.cell0 q1
  replace q2 := k17.cell0 q2
  replace q3 := k17.cell0 q3
  replace K := hide ((unhide K).trans k17)
  have z18 := k17.size
  clear k17
  go_wp2_with fail
  obtain ⟨xs, hxs⟩ : ∃ L : List Int, ([] : List Int) = L := ⟨_, rfl⟩
  obtain ⟨ys, hys⟩ : ∃ L : List Int, ([] : List Int) = L := ⟨_, rfl⟩
  have hn1 : Nrm xs := by rw [← hxs, ← limbs_zero]; exact limbs_nrm 0
  have hv1 : val xs = ((fM 0 n1 0).natAbs : Int) := by rw [← hxs, fM_nought]; rfl
  have hl1 : xs.length ≤ 4 := by rw [← hxs]; decide
  have hn2 : Nrm ys := by rw [← hys, ← limbs_zero]; exact limbs_nrm 0
  have hv2 : val ys = ((fM 0 n2 0).natAbs : Int) := by rw [← hys, fM_nought]; rfl
  have hl2 : ys.length ≤ 4 := by rw [← hys]; decide
  have Q0 := q0
  have QF0 := qf0
  have Q1 := q1
  have QF1 := qf1
  have Q2 := q2
  have QF2 := qf2
  have Q3 := q3
  have QF3 := qf3
  have KW := K
  have mk := valueOf_nought n1 w17
  rw [hxs] at mk
  refine (mk).mono ?_
  rintro e w19 ⟨v1, rfl, o1, k19⟩
  have KV1 := k19
  replace qf0 := k19.loose0 (World.block_lt_of_cell? _ _ q0) qf0
  replace qf1 := k19.loose0 (World.block_lt_of_cell? _ _ q1) qf1
  replace qf2 := k19.loose0 (World.block_lt_of_cell? _ _ q2) qf2
  replace qf3 := k19.loose0 (World.block_lt_of_cell? _ _ q3) qf3
  replace q0 := k19.cell0 q0
  replace q1 := k19.cell0 q1
  replace q2 := k19.cell0 q2
  replace q3 := k19.cell0 q3
  replace K := hide ((unhide K).trans k19)
  have z20 := k19.size
  clear k19
  clear mk
  have l1 := o1.lt
  go_wp2_with fail
  have mk := valueOf_nought n2 w19
  rw [hys] at mk
  refine (mk).mono ?_
  rintro e w21 ⟨v2, rfl, o2, k21⟩
  have KV2 := k21
  replace o1 := own_kept o1 k21
  replace qf0 := k21.loose0 (World.block_lt_of_cell? _ _ q0) qf0
  replace qf1 := k21.loose0 (World.block_lt_of_cell? _ _ q1) qf1
  replace qf2 := k21.loose0 (World.block_lt_of_cell? _ _ q2) qf2
  replace qf3 := k21.loose0 (World.block_lt_of_cell? _ _ q3) qf3
  replace q0 := k21.cell0 q0
  replace q1 := k21.cell0 q1
  replace q2 := k21.cell0 q2
  replace q3 := k21.cell0 q3
  replace K := hide ((unhide K).trans k21)
  have z22 := k21.size
  clear mk hxs hys
  have l2 := o2.lt
  obtain ⟨p1, c1, hv⟩ := own_slice o1
  subst hv
  obtain ⟨p2, c2, hv⟩ := own_slice o2
  subst hv
  have KV : Kept 0 0 w17 w21 := KV1.trans KV2
  have DD := dya_new2 n1 n2 0 0 93 KV o1 o2 (by have := KV1.size; omega) (fun i e => (l1 i e).2)
  have kn := ((Kept.refl 0 0 w21).alloc (.cells #[.slice p1 xs.length c1, .bool n1, .int .i64 0] 93)).alloc (.cells #[.slice p2 ys.length c2, .bool n2, .int .i64 0] 93)
  replace qf0 := kn.loose0 (World.block_lt_of_cell? _ _ q0) qf0
  replace qf1 := kn.loose0 (World.block_lt_of_cell? _ _ q1) qf1
  replace qf2 := kn.loose0 (World.block_lt_of_cell? _ _ q2) qf2
  replace qf3 := kn.loose0 (World.block_lt_of_cell? _ _ q3) qf3
  replace q0 := kn.cell0 q0
  replace q1 := kn.cell0 q1
  replace q2 := kn.cell0 q2
  replace q3 := kn.cell0 q3
  replace K := hide ((unhide K).trans kn)
  have z23 := kn.size
  clear kn o1 o2 KV KV1 KV2
  go_wp2_with fail
  generalize (w21.alloc (.cells #[.slice p1 xs.length c1, .bool n1, .int .i64 0] 93)).alloc (.cells #[.slice p2 ys.length c2, .bool n2, .int .i64 0] 93) = W5 at *
  refine (multiplyDyadic_impl DD hn1 hn2 (by omega) (by omega) (by omega) (by omega) (by omega) (by omega)).mono ?_
  rintro e w6 ⟨⟨r6, rfl⟩, u6, nd, dd, ee, k6⟩
  clear DD
  have hS0 := unhide S0
  have zW := k6.size
  replace qf0 : w6.frozen? ⟨w.heap.size, 0, none⟩ = false := k6.loose0 (World.block_lt_of_cell? _ _ Q0) QF0
  replace qf1 : w6.frozen? ⟨w.heap.size, 1, none⟩ = false := k6.loose0 (World.block_lt_of_cell? _ _ Q1) QF1
  replace qf2 : w6.frozen? ⟨w.heap.size, 2, none⟩ = false := k6.loose0 (World.block_lt_of_cell? _ _ Q2) QF2
  replace qf3 : w6.frozen? ⟨w.heap.size, 3, none⟩ = false := k6.loose0 (World.block_lt_of_cell? _ _ Q3) QF3
  replace q0 : w6.cell? ⟨w.heap.size, 0, none⟩ = _ := k6.cell0 Q0
  replace q1 : w6.cell? ⟨w.heap.size, 1, none⟩ = _ := k6.cell0 Q1
  replace q2 : w6.cell? ⟨w.heap.size, 2, none⟩ = _ := k6.cell0 Q2
  replace q3 : w6.cell? ⟨w.heap.size, 3, none⟩ = _ := k6.cell0 Q3
  replace K := hide ((unhide KW).trans k6)
  obtain ⟨zs, hzs⟩ : ∃ y, limbs (val xs * val ys).toNat = y := ⟨_, rfl⟩
  rw [hzs] at nd
  have hn : Nrm zs := by rw [← hzs]; exact limbs_nrm _
  have hV : (val zs).toNat = (fM 0 n1 0).natAbs * (fM 0 n2 0).natAbs := by rw [← hzs, limbs_val, Int.toNat_natCast, hv1, hv2, ← Int.natCast_mul, Int.toNat_natCast]
  have hl : zs.length ≤ 10000 := by rw [← hzs]; exact Nat.le_trans (mul_len' hn1.1 hn2.1 hl1 hl2) (by decide)
  clear hzs
  obtain ⟨A, hA⟩ : ∃ y, flA mode (!(n1 == n2)) (val zs).toNat (0 + 0) = y := ⟨_, rfl⟩
  obtain ⟨G, hG⟩ : ∃ y, flG mode (!(n1 == n2)) (val zs).toNat (0 + 0) = y := ⟨_, rfl⟩
  have FQ : Hid (Q = ((A.1, !(n1 == n2), A.2.1, A.2.2), G)) := by show _ = _; rw [← unhide HQ, ← hA, ← hG, hV]; unfold mulQ; simp
  go_wp2_with fail
  have mk := toFloat_impl _ nd dd ee hn hl (by omega) (by omega) (by omega) mode hm0 hm4 (T.kept (unhide K))
  rw [hA, hG] at mk
  refine mk.mono ?_
  rintro e w7 ⟨rfl, m7⟩
  clear mk hA hG
  have hS : ∀ i, u6.ownBlock = some i → w.heap.size + 1 ≤ i := fun i e => by have := (nd.own.lt i e).1; omega
  have nS : ¬ u6.ownBlock = some w.heap.size := fun e => by have := hS _ e; omega
  replace qf0 := m7.loose (a := ⟨w.heap.size, 0, none⟩) nS (World.block_lt_of_cell? _ _ q0) qf0
  replace qf1 := m7.loose (a := ⟨w.heap.size, 1, none⟩) nS (World.block_lt_of_cell? _ _ q1) qf1
  replace qf2 := m7.loose (a := ⟨w.heap.size, 2, none⟩) nS (World.block_lt_of_cell? _ _ q2) qf2
  replace qf3 := m7.loose (a := ⟨w.heap.size, 3, none⟩) nS (World.block_lt_of_cell? _ _ q3) qf3
  replace q0 := m7.cell (a := ⟨w.heap.size, 0, none⟩) nS q0
  replace q1 := m7.cell (a := ⟨w.heap.size, 1, none⟩) nS q1
  replace q2 := m7.cell (a := ⟨w.heap.size, 2, none⟩) nS q2
  replace q3 := m7.cell (a := ⟨w.heap.size, 3, none⟩) nS q3
  replace K := hide ((unhide K).mod m7 (fun i e => by have := hS i e; omega))
  clear m7 hS nS nd dd ee k6
  have KF := hide (((((unhide K).setNew (p := ⟨w.heap.size, 0, none⟩) (by simp) (.int .i64 A.1)).setNew (p := ⟨w.heap.size, 1, none⟩) (by simp) (.bool (!(n1 == n2)))).setNew (p := ⟨w.heap.size, 2, none⟩) (by simp) (.int .i64 A.2.1)).setNew (p := ⟨w.heap.size, 3, none⟩) (by simp) (.int .i64 A.2.2))
  clear K
  try go_wp2_with fail
  exact bodyPost_ret (v := .tuple #[.agg #[.int .i64 A.1, .bool (!(n1 == n2)), .int .i64 A.2.1, .int .i64 A.2.2], .int .i64 G]) (by simp [results, Tryz.results48, go_sem, q0, q1, q2, q3]) rfl ⟨by rw [unhide FQ], unhide KF⟩

set_option maxHeartbeats 2000000 in
theorem mulI_nought_inf (n1 : Bool) (n2 : Bool) (mode : Int) (hm0 : 0 ≤ mode) (hm4 : mode ≤ 4) (w : World) :
    Calls Tryz.prog 48 #[.iface 131 (.agg #[.bool n1]), .iface 134 (.agg #[.bool n2]), .int .i64 mode] w fun e' w' => e' = .returned (.tuple #[flq (mulQ 0 n1 0 0 2 n2 0 0 mode).1, .int .i64 (mulQ 0 n1 0 0 2 n2 0 0 mode).2]) ∧ Kept 0 0 w w' := by
  obtain ⟨Q, hQ⟩ : ∃ q, mulQ 0 n1 0 0 2 n2 0 0 mode = q := ⟨_, rfl⟩
  rw [hQ]
  have HQ := hide hQ
  clear hQ
  have FQ : Hid (Q = ((3, false, 0, 0), 16)) := by show _ = _; rw [← unhide HQ]; unfold mulQ; simp
  have g1 := fun w => hs_nought n1 w
  have g2 := fun w => hs_inf n2 w
  have k0 : Kept 0 0 w (w.alloc (.cells #[.int .i64 0, .bool false, .int .i64 0, .int .i64 0] 25)) := ((Kept.refl 0 0 w).alloc (.cells #[.int .i64 0, .bool false, .int .i64 0, .int .i64 0] 25))
  have q0 : (w.alloc (.cells #[.int .i64 0, .bool false, .int .i64 0, .int .i64 0] 25)).cell? ⟨w.heap.size, 0, none⟩ = some (.int .i64 0) := new_cell2 _ _ _ _ _ _ (by simp) rfl
  have qf0 : (w.alloc (.cells #[.int .i64 0, .bool false, .int .i64 0, .int .i64 0] 25)).frozen? ⟨w.heap.size, 0, none⟩ = false := new_loose2 _ _ _ _ _ (by simp)
  have q1 : (w.alloc (.cells #[.int .i64 0, .bool false, .int .i64 0, .int .i64 0] 25)).cell? ⟨w.heap.size, 1, none⟩ = some (.bool false) := new_cell2 _ _ _ _ _ _ (by simp) rfl
  have qf1 : (w.alloc (.cells #[.int .i64 0, .bool false, .int .i64 0, .int .i64 0] 25)).frozen? ⟨w.heap.size, 1, none⟩ = false := new_loose2 _ _ _ _ _ (by simp)
  have q2 : (w.alloc (.cells #[.int .i64 0, .bool false, .int .i64 0, .int .i64 0] 25)).cell? ⟨w.heap.size, 2, none⟩ = some (.int .i64 0) := new_cell2 _ _ _ _ _ _ (by simp) rfl
  have qf2 : (w.alloc (.cells #[.int .i64 0, .bool false, .int .i64 0, .int .i64 0] 25)).frozen? ⟨w.heap.size, 2, none⟩ = false := new_loose2 _ _ _ _ _ (by simp)
  have q3 : (w.alloc (.cells #[.int .i64 0, .bool false, .int .i64 0, .int .i64 0] 25)).cell? ⟨w.heap.size, 3, none⟩ = some (.int .i64 0) := new_cell2 _ _ _ _ _ _ (by simp) rfl
  have qf3 : (w.alloc (.cells #[.int .i64 0, .bool false, .int .i64 0, .int .i64 0] 25)).frozen? ⟨w.heap.size, 3, none⟩ = false := new_loose2 _ _ _ _ _ (by simp)
  have s0 : (w.alloc (.cells #[.int .i64 0, .bool false, .int .i64 0, .int .i64 0] 25)).heap.size = w.heap.size + 1 := by simp
  have K := hide (k0)
  clear k0
  have S0 := hide s0
  clear s0
  go_enter Tryz.func48, Tryz.ntmps48
  go_wp2_with fail
  generalize (w.alloc (.cells #[.int .i64 0, .bool false, .int .i64 0, .int .i64 0] 25)) = W at *
  refine (hasSign_any n1 _).mono ?_
  rintro e w1 ⟨rfl, k1⟩
  replace qf0 := k1.loose0 (World.block_lt_of_cell? _ _ q0) qf0
  replace qf1 := k1.loose0 (World.block_lt_of_cell? _ _ q1) qf1
  replace qf2 := k1.loose0 (World.block_lt_of_cell? _ _ q2) qf2
  replace qf3 := k1.loose0 (World.block_lt_of_cell? _ _ q3) qf3
  replace q0 := k1.cell0 q0
  replace q1 := k1.cell0 q1
  replace q2 := k1.cell0 q2
  replace q3 := k1.cell0 q3
  replace K := hide ((unhide K).trans k1)
  have z2 := k1.size
  clear k1
  go_wp2_with fail
  refine (hasSign_any n2 _).mono ?_
  rintro e w3 ⟨rfl, k3⟩
  replace qf0 := k3.loose0 (World.block_lt_of_cell? _ _ q0) qf0
  replace qf1 := k3.loose0 (World.block_lt_of_cell? _ _ q1) qf1
  replace qf2 := k3.loose0 (World.block_lt_of_cell? _ _ q2) qf2
  replace qf3 := k3.loose0 (World.block_lt_of_cell? _ _ q3) qf3
  replace q0 := k3.cell0 q0
  replace q1 := k3.cell0 q1
  replace q2 := k3.cell0 q2
  replace q3 := k3.cell0 q3
  replace K := hide ((unhide K).trans k3)
  have z4 := k3.size
  clear k3
  clear g1 g2
  go_wp2_with fail
  refine (is_nan_nought n1 _).mono ?_
  rintro e w5 ⟨rfl, k5⟩
  replace qf0 := k5.loose0 (World.block_lt_of_cell? _ _ q0) qf0
  replace qf1 := k5.loose0 (World.block_lt_of_cell? _ _ q1) qf1
  replace qf2 := k5.loose0 (World.block_lt_of_cell? _ _ q2) qf2
  replace qf3 := k5.loose0 (World.block_lt_of_cell? _ _ q3) qf3
  replace q0 := k5.cell0 q0
  replace q1 := k5.cell0 q1
  replace q2 := k5.cell0 q2
  replace q3 := k5.cell0 q3
  replace K := hide ((unhide K).trans k5)
  have z6 := k5.size
  clear k5
  go_wp2_with fail
  refine (is_nan_inf n2 _).mono ?_
  rintro e w7 ⟨rfl, k7⟩
  replace qf0 := k7.loose0 (World.block_lt_of_cell? _ _ q0) qf0
  replace qf1 := k7.loose0 (World.block_lt_of_cell? _ _ q1) qf1
  replace qf2 := k7.loose0 (World.block_lt_of_cell? _ _ q2) qf2
  replace qf3 := k7.loose0 (World.block_lt_of_cell? _ _ q3) qf3
  replace q0 := k7.cell0 q0
  replace q1 := k7.cell0 q1
  replace q2 := k7.cell0 q2
  replace q3 := k7.cell0 q3
  replace K := hide ((unhide K).trans k7)
  have z8 := k7.size
  clear k7
  go_wp2_with fail
  refine (is_inf_nought n1 _).mono ?_
  rintro e w9 ⟨rfl, k9⟩
  replace qf0 := k9.loose0 (World.block_lt_of_cell? _ _ q0) qf0
  replace qf1 := k9.loose0 (World.block_lt_of_cell? _ _ q1) qf1
  replace qf2 := k9.loose0 (World.block_lt_of_cell? _ _ q2) qf2
  replace qf3 := k9.loose0 (World.block_lt_of_cell? _ _ q3) qf3
  replace q0 := k9.cell0 q0
  replace q1 := k9.cell0 q1
  replace q2 := k9.cell0 q2
  replace q3 := k9.cell0 q3
  replace K := hide ((unhide K).trans k9)
  have z10 := k9.size
  clear k9
  go_wp2_with fail
  refine (is_nought_nought n1 _).mono ?_
  rintro e w11 ⟨rfl, k11⟩
  replace qf0 := k11.loose0 (World.block_lt_of_cell? _ _ q0) qf0
  replace qf1 := k11.loose0 (World.block_lt_of_cell? _ _ q1) qf1
  replace qf2 := k11.loose0 (World.block_lt_of_cell? _ _ q2) qf2
  replace qf3 := k11.loose0 (World.block_lt_of_cell? _ _ q3) qf3
  replace q0 := k11.cell0 q0
  replace q1 := k11.cell0 q1
  replace q2 := k11.cell0 q2
  replace q3 := k11.cell0 q3
  replace K := hide ((unhide K).trans k11)
  have z12 := k11.size
  clear k11
  go_wp2_with fail
  refine (is_inf_inf n2 _).mono ?_
  rintro e w13 ⟨rfl, k13⟩
  replace qf0 := k13.loose0 (World.block_lt_of_cell? _ _ q0) qf0
  replace qf1 := k13.loose0 (World.block_lt_of_cell? _ _ q1) qf1
  replace qf2 := k13.loose0 (World.block_lt_of_cell? _ _ q2) qf2
  replace qf3 := k13.loose0 (World.block_lt_of_cell? _ _ q3) qf3
  replace q0 := k13.cell0 q0
  replace q1 := k13.cell0 q1
  replace q2 := k13.cell0 q2
  replace q3 := k13.cell0 q3
  replace K := hide ((unhide K).trans k13)
  have z14 := k13.size
  clear k13
  go_wp2_with fail
  refine (badF_impl _).mono ?_
  rintro e w15 ⟨rfl, k15⟩
  replace qf0 := k15.loose0 (World.block_lt_of_cell? _ _ q0) qf0
  replace qf1 := k15.loose0 (World.block_lt_of_cell? _ _ q1) qf1
  replace qf2 := k15.loose0 (World.block_lt_of_cell? _ _ q2) qf2
  replace qf3 := k15.loose0 (World.block_lt_of_cell? _ _ q3) qf3
  replace q0 := k15.cell0 q0
  replace q1 := k15.cell0 q1
  replace q2 := k15.cell0 q2
  replace q3 := k15.cell0 q3
  replace K := hide ((unhide K).trans k15)
  have z16 := k15.size
  clear k15
  have KF := hide (((((unhide K).setNew (p := ⟨w.heap.size, 0, none⟩) (by simp) (.int .i64 3)).setNew (p := ⟨w.heap.size, 1, none⟩) (by simp) (.bool false)).setNew (p := ⟨w.heap.size, 2, none⟩) (by simp) (.int .i64 0)).setNew (p := ⟨w.heap.size, 3, none⟩) (by simp) (.int .i64 0))
  clear K
  try go_wp2_with fail
  exact bodyPost_ret (v := .tuple #[.agg #[.int .i64 3, .bool false, .int .i64 0, .int .i64 0], .int .i64 16]) (by simp [results, Tryz.results48, go_sem, q0, q1, q2, q3]) rfl ⟨by rw [unhide FQ], unhide KF⟩

set_option maxHeartbeats 2000000 in
theorem mulI_nought_nan (n1 : Bool) (mode : Int) (hm0 : 0 ≤ mode) (hm4 : mode ≤ 4) (w : World) :
    Calls Tryz.prog 48 #[.iface 131 (.agg #[.bool n1]), .iface 135 (.agg #[.bool false]), .int .i64 mode] w fun e' w' => e' = .returned (.tuple #[flq (mulQ 0 n1 0 0 3 false 0 0 mode).1, .int .i64 (mulQ 0 n1 0 0 3 false 0 0 mode).2]) ∧ Kept 0 0 w w' := by
  obtain ⟨Q, hQ⟩ : ∃ q, mulQ 0 n1 0 0 3 false 0 0 mode = q := ⟨_, rfl⟩
  rw [hQ]
  have HQ := hide hQ
  clear hQ
  have FQ : Hid (Q = ((3, false, 0, 0), 0)) := by show _ = _; rw [← unhide HQ]; unfold mulQ; simp
  have g1 := fun w => hs_nought n1 w
  have g2 := fun w => hs_nan w
  have k0 : Kept 0 0 w (w.alloc (.cells #[.int .i64 0, .bool false, .int .i64 0, .int .i64 0] 25)) := ((Kept.refl 0 0 w).alloc (.cells #[.int .i64 0, .bool false, .int .i64 0, .int .i64 0] 25))
  have q0 : (w.alloc (.cells #[.int .i64 0, .bool false, .int .i64 0, .int .i64 0] 25)).cell? ⟨w.heap.size, 0, none⟩ = some (.int .i64 0) := new_cell2 _ _ _ _ _ _ (by simp) rfl
  have qf0 : (w.alloc (.cells #[.int .i64 0, .bool false, .int .i64 0, .int .i64 0] 25)).frozen? ⟨w.heap.size, 0, none⟩ = false := new_loose2 _ _ _ _ _ (by simp)
  have q1 : (w.alloc (.cells #[.int .i64 0, .bool false, .int .i64 0, .int .i64 0] 25)).cell? ⟨w.heap.size, 1, none⟩ = some (.bool false) := new_cell2 _ _ _ _ _ _ (by simp) rfl
  have qf1 : (w.alloc (.cells #[.int .i64 0, .bool false, .int .i64 0, .int .i64 0] 25)).frozen? ⟨w.heap.size, 1, none⟩ = false := new_loose2 _ _ _ _ _ (by simp)
  have q2 : (w.alloc (.cells #[.int .i64 0, .bool false, .int .i64 0, .int .i64 0] 25)).cell? ⟨w.heap.size, 2, none⟩ = some (.int .i64 0) := new_cell2 _ _ _ _ _ _ (by simp) rfl
  have qf2 : (w.alloc (.cells #[.int .i64 0, .bool false, .int .i64 0, .int .i64 0] 25)).frozen? ⟨w.heap.size, 2, none⟩ = false := new_loose2 _ _ _ _ _ (by simp)
  have q3 : (w.alloc (.cells #[.int .i64 0, .bool false, .int .i64 0, .int .i64 0] 25)).cell? ⟨w.heap.size, 3, none⟩ = some (.int .i64 0) := new_cell2 _ _ _ _ _ _ (by simp) rfl
  have qf3 : (w.alloc (.cells #[.int .i64 0, .bool false, .int .i64 0, .int .i64 0] 25)).frozen? ⟨w.heap.size, 3, none⟩ = false := new_loose2 _ _ _ _ _ (by simp)
  have s0 : (w.alloc (.cells #[.int .i64 0, .bool false, .int .i64 0, .int .i64 0] 25)).heap.size = w.heap.size + 1 := by simp
  have K := hide (k0)
  clear k0
  have S0 := hide s0
  clear s0
  go_enter Tryz.func48, Tryz.ntmps48
  go_wp2_with fail
  generalize (w.alloc (.cells #[.int .i64 0, .bool false, .int .i64 0, .int .i64 0] 25)) = W at *
  refine (hasSign_any n1 _).mono ?_
  rintro e w1 ⟨rfl, k1⟩
  replace qf0 := k1.loose0 (World.block_lt_of_cell? _ _ q0) qf0
  replace qf1 := k1.loose0 (World.block_lt_of_cell? _ _ q1) qf1
  replace qf2 := k1.loose0 (World.block_lt_of_cell? _ _ q2) qf2
  replace qf3 := k1.loose0 (World.block_lt_of_cell? _ _ q3) qf3
  replace q0 := k1.cell0 q0
  replace q1 := k1.cell0 q1
  replace q2 := k1.cell0 q2
  replace q3 := k1.cell0 q3
  replace K := hide ((unhide K).trans k1)
  have z2 := k1.size
  clear k1
  go_wp2_with fail
  refine (hasSign_any false _).mono ?_
  rintro e w3 ⟨rfl, k3⟩
  replace qf0 := k3.loose0 (World.block_lt_of_cell? _ _ q0) qf0
  replace qf1 := k3.loose0 (World.block_lt_of_cell? _ _ q1) qf1
  replace qf2 := k3.loose0 (World.block_lt_of_cell? _ _ q2) qf2
  replace qf3 := k3.loose0 (World.block_lt_of_cell? _ _ q3) qf3
  replace q0 := k3.cell0 q0
  replace q1 := k3.cell0 q1
  replace q2 := k3.cell0 q2
  replace q3 := k3.cell0 q3
  replace K := hide ((unhide K).trans k3)
  have z4 := k3.size
  clear k3
  clear g1 g2
  go_wp2_with fail
  refine (is_nan_nought n1 _).mono ?_
  rintro e w5 ⟨rfl, k5⟩
  replace qf0 := k5.loose0 (World.block_lt_of_cell? _ _ q0) qf0
  replace qf1 := k5.loose0 (World.block_lt_of_cell? _ _ q1) qf1
  replace qf2 := k5.loose0 (World.block_lt_of_cell? _ _ q2) qf2
  replace qf3 := k5.loose0 (World.block_lt_of_cell? _ _ q3) qf3
  replace q0 := k5.cell0 q0
  replace q1 := k5.cell0 q1
  replace q2 := k5.cell0 q2
  replace q3 := k5.cell0 q3
  replace K := hide ((unhide K).trans k5)
  have z6 := k5.size
  clear k5
  go_wp2_with fail
  refine (is_nan_nan _).mono ?_
  rintro e w7 ⟨rfl, k7⟩
  replace qf0 := k7.loose0 (World.block_lt_of_cell? _ _ q0) qf0
  replace qf1 := k7.loose0 (World.block_lt_of_cell? _ _ q1) qf1
  replace qf2 := k7.loose0 (World.block_lt_of_cell? _ _ q2) qf2
  replace qf3 := k7.loose0 (World.block_lt_of_cell? _ _ q3) qf3
  replace q0 := k7.cell0 q0
  replace q1 := k7.cell0 q1
  replace q2 := k7.cell0 q2
  replace q3 := k7.cell0 q3
  replace K := hide ((unhide K).trans k7)
  have z8 := k7.size
  clear k7
  have KF := hide (((((unhide K).setNew (p := ⟨w.heap.size, 0, none⟩) (by simp) (.int .i64 3)).setNew (p := ⟨w.heap.size, 1, none⟩) (by simp) (.bool false)).setNew (p := ⟨w.heap.size, 2, none⟩) (by simp) (.int .i64 0)).setNew (p := ⟨w.heap.size, 3, none⟩) (by simp) (.int .i64 0))
  clear K
  try go_wp2_with fail
  exact bodyPost_ret (v := .tuple #[.agg #[.int .i64 3, .bool false, .int .i64 0, .int .i64 0], .int .i64 0]) (by simp [results, Tryz.results48, go_sem, q0, q1, q2, q3]) rfl ⟨by rw [unhide FQ], unhide KF⟩

set_option maxHeartbeats 2000000 in
theorem mulI_inf_num (n1 : Bool) (n2 : Bool) (m2 e2 : Int) (a12 : -1074 ≤ e2) (a22 : e2 ≤ 971) (a32 : 1 ≤ m2) (a42 : m2 ≤ 9007199254740991) (mode : Int) (hm0 : 0 ≤ mode) (hm4 : mode ≤ 4) (w : World) :
    Calls Tryz.prog 48 #[.iface 134 (.agg #[.bool n1]), .iface 133 (.agg #[.bool n2, .int .i64 m2, .int .i64 e2]), .int .i64 mode] w fun e' w' => e' = .returned (.tuple #[flq (mulQ 2 n1 0 0 1 n2 m2 e2 mode).1, .int .i64 (mulQ 2 n1 0 0 1 n2 m2 e2 mode).2]) ∧ Kept 0 0 w w' := by
  obtain ⟨Q, hQ⟩ : ∃ q, mulQ 2 n1 0 0 1 n2 m2 e2 mode = q := ⟨_, rfl⟩
  rw [hQ]
  have HQ := hide hQ
  clear hQ
  have FQ : Hid (Q = ((2, !(n1 == n2), 0, 0), 0)) := by show _ = _; rw [← unhide HQ]; unfold mulQ; simp
  have g1 := fun w => hs_inf n1 w
  have g2 := fun w => hs_num n2 m2 e2 w
  have k0 : Kept 0 0 w (w.alloc (.cells #[.int .i64 0, .bool false, .int .i64 0, .int .i64 0] 25)) := ((Kept.refl 0 0 w).alloc (.cells #[.int .i64 0, .bool false, .int .i64 0, .int .i64 0] 25))
  have q0 : (w.alloc (.cells #[.int .i64 0, .bool false, .int .i64 0, .int .i64 0] 25)).cell? ⟨w.heap.size, 0, none⟩ = some (.int .i64 0) := new_cell2 _ _ _ _ _ _ (by simp) rfl
  have qf0 : (w.alloc (.cells #[.int .i64 0, .bool false, .int .i64 0, .int .i64 0] 25)).frozen? ⟨w.heap.size, 0, none⟩ = false := new_loose2 _ _ _ _ _ (by simp)
  have q1 : (w.alloc (.cells #[.int .i64 0, .bool false, .int .i64 0, .int .i64 0] 25)).cell? ⟨w.heap.size, 1, none⟩ = some (.bool false) := new_cell2 _ _ _ _ _ _ (by simp) rfl
  have qf1 : (w.alloc (.cells #[.int .i64 0, .bool false, .int .i64 0, .int .i64 0] 25)).frozen? ⟨w.heap.size, 1, none⟩ = false := new_loose2 _ _ _ _ _ (by simp)
  have q2 : (w.alloc (.cells #[.int .i64 0, .bool false, .int .i64 0, .int .i64 0] 25)).cell? ⟨w.heap.size, 2, none⟩ = some (.int .i64 0) := new_cell2 _ _ _ _ _ _ (by simp) rfl
  have qf2 : (w.alloc (.cells #[.int .i64 0, .bool false, .int .i64 0, .int .i64 0] 25)).frozen? ⟨w.heap.size, 2, none⟩ = false := new_loose2 _ _ _ _ _ (by simp)
  have q3 : (w.alloc (.cells #[.int .i64 0, .bool false, .int .i64 0, .int .i64 0] 25)).cell? ⟨w.heap.size, 3, none⟩ = some (.int .i64 0) := new_cell2 _ _ _ _ _ _ (by simp) rfl
  have qf3 : (w.alloc (.cells #[.int .i64 0, .bool false, .int .i64 0, .int .i64 0] 25)).frozen? ⟨w.heap.size, 3, none⟩ = false := new_loose2 _ _ _ _ _ (by simp)
  have s0 : (w.alloc (.cells #[.int .i64 0, .bool false, .int .i64 0, .int .i64 0] 25)).heap.size = w.heap.size + 1 := by simp
  have K := hide (k0)
  clear k0
  have S0 := hide s0
  clear s0
  go_enter Tryz.func48, Tryz.ntmps48
  go_wp2_with fail
  generalize (w.alloc (.cells #[.int .i64 0, .bool false, .int .i64 0, .int .i64 0] 25)) = W at *
  refine (hasSign_any n1 _).mono ?_
  rintro e w1 ⟨rfl, k1⟩
  replace qf0 := k1.loose0 (World.block_lt_of_cell? _ _ q0) qf0
  replace qf1 := k1.loose0 (World.block_lt_of_cell? _ _ q1) qf1
  replace qf2 := k1.loose0 (World.block_lt_of_cell? _ _ q2) qf2
  replace qf3 := k1.loose0 (World.block_lt_of_cell? _ _ q3) qf3
  replace q0 := k1.cell0 q0
  replace q1 := k1.cell0 q1
  replace q2 := k1.cell0 q2
  replace q3 := k1.cell0 q3
  replace K := hide ((unhide K).trans k1)
  have z2 := k1.size
  clear k1
  go_wp2_with fail
  refine (hasSign_any n2 _).mono ?_
  rintro e w3 ⟨rfl, k3⟩
  replace qf0 := k3.loose0 (World.block_lt_of_cell? _ _ q0) qf0
  replace qf1 := k3.loose0 (World.block_lt_of_cell? _ _ q1) qf1
  replace qf2 := k3.loose0 (World.block_lt_of_cell? _ _ q2) qf2
  replace qf3 := k3.loose0 (World.block_lt_of_cell? _ _ q3) qf3
  replace q0 := k3.cell0 q0
  replace q1 := k3.cell0 q1
  replace q2 := k3.cell0 q2
  replace q3 := k3.cell0 q3
  replace K := hide ((unhide K).trans k3)
  have z4 := k3.size
  clear k3
  clear g1 g2
  go_wp2_with fail
  refine (is_nan_inf n1 _).mono ?_
  rintro e w5 ⟨rfl, k5⟩
  replace qf0 := k5.loose0 (World.block_lt_of_cell? _ _ q0) qf0
  replace qf1 := k5.loose0 (World.block_lt_of_cell? _ _ q1) qf1
  replace qf2 := k5.loose0 (World.block_lt_of_cell? _ _ q2) qf2
  replace qf3 := k5.loose0 (World.block_lt_of_cell? _ _ q3) qf3
  replace q0 := k5.cell0 q0
  replace q1 := k5.cell0 q1
  replace q2 := k5.cell0 q2
  replace q3 := k5.cell0 q3
  replace K := hide ((unhide K).trans k5)
  have z6 := k5.size
  clear k5
  go_wp2_with fail
  refine (is_nan_num n2 m2 e2 _).mono ?_
  rintro e w7 ⟨rfl, k7⟩
  replace qf0 := k7.loose0 (World.block_lt_of_cell? _ _ q0) qf0
  replace qf1 := k7.loose0 (World.block_lt_of_cell? _ _ q1) qf1
  replace qf2 := k7.loose0 (World.block_lt_of_cell? _ _ q2) qf2
  replace qf3 := k7.loose0 (World.block_lt_of_cell? _ _ q3) qf3
  replace q0 := k7.cell0 q0
  replace q1 := k7.cell0 q1
  replace q2 := k7.cell0 q2
  replace q3 := k7.cell0 q3
  replace K := hide ((unhide K).trans k7)
  have z8 := k7.size
  clear k7
  go_wp2_with fail
  refine (is_inf_inf n1 _).mono ?_
  rintro e w9 ⟨rfl, k9⟩
  replace qf0 := k9.loose0 (World.block_lt_of_cell? _ _ q0) qf0
  replace qf1 := k9.loose0 (World.block_lt_of_cell? _ _ q1) qf1
  replace qf2 := k9.loose0 (World.block_lt_of_cell? _ _ q2) qf2
  replace qf3 := k9.loose0 (World.block_lt_of_cell? _ _ q3) qf3
  replace q0 := k9.cell0 q0
  replace q1 := k9.cell0 q1
  replace q2 := k9.cell0 q2
  replace q3 := k9.cell0 q3
  replace K := hide ((unhide K).trans k9)
  have z10 := k9.size
  clear k9
  go_wp2_with fail
  refine (is_nought_num n2 m2 e2 _).mono ?_
  rintro e w11 ⟨rfl, k11⟩
  replace qf0 := k11.loose0 (World.block_lt_of_cell? _ _ q0) qf0
  replace qf1 := k11.loose0 (World.block_lt_of_cell? _ _ q1) qf1
  replace qf2 := k11.loose0 (World.block_lt_of_cell? _ _ q2) qf2
  replace qf3 := k11.loose0 (World.block_lt_of_cell? _ _ q3) qf3
  replace q0 := k11.cell0 q0
  replace q1 := k11.cell0 q1
  replace q2 := k11.cell0 q2
  replace q3 := k11.cell0 q3
  replace K := hide ((unhide K).trans k11)
  have z12 := k11.size
  clear k11
  go_wp2_with fail
  refine (is_nought_inf n1 _).mono ?_
  rintro e w13 ⟨rfl, k13⟩
  replace qf0 := k13.loose0 (World.block_lt_of_cell? _ _ q0) qf0
  replace qf1 := k13.loose0 (World.block_lt_of_cell? _ _ q1) qf1
  replace qf2 := k13.loose0 (World.block_lt_of_cell? _ _ q2) qf2
  replace qf3 := k13.loose0 (World.block_lt_of_cell? _ _ q3) qf3
  replace q0 := k13.cell0 q0
  replace q1 := k13.cell0 q1
  replace q2 := k13.cell0 q2
  replace q3 := k13.cell0 q3
  replace K := hide ((unhide K).trans k13)
  have z14 := k13.size
  clear k13
  go_wp2_with fail
  refine (is_inf_inf n1 _).mono ?_
  rintro e w15 ⟨rfl, k15⟩
  replace qf0 := k15.loose0 (World.block_lt_of_cell? _ _ q0) qf0
  replace qf1 := k15.loose0 (World.block_lt_of_cell? _ _ q1) qf1
  replace qf2 := k15.loose0 (World.block_lt_of_cell? _ _ q2) qf2
  replace qf3 := k15.loose0 (World.block_lt_of_cell? _ _ q3) qf3
  replace q0 := k15.cell0 q0
  replace q1 := k15.cell0 q1
  replace q2 := k15.cell0 q2
  replace q3 := k15.cell0 q3
  replace K := hide ((unhide K).trans k15)
  have z16 := k15.size
  clear k15
  have hne : (n1 != n2) = !(n1 == n2) := rfl
  have KF := hide (((((unhide K).setNew (p := ⟨w.heap.size, 0, none⟩) (by simp) (.int .i64 2)).setNew (p := ⟨w.heap.size, 1, none⟩) (by simp) (.bool (!(n1 == n2)))).setNew (p := ⟨w.heap.size, 2, none⟩) (by simp) (.int .i64 0)).setNew (p := ⟨w.heap.size, 3, none⟩) (by simp) (.int .i64 0))
  clear K
  try go_wp2_with fail
  exact bodyPost_ret (v := .tuple #[.agg #[.int .i64 2, .bool (!(n1 == n2)), .int .i64 0, .int .i64 0], .int .i64 0]) (by simp [results, Tryz.results48, go_sem, q0, q1, q2, q3]) rfl ⟨by rw [unhide FQ], unhide KF⟩

set_option maxHeartbeats 2000000 in
theorem mulI_inf_nought (n1 : Bool) (n2 : Bool) (mode : Int) (hm0 : 0 ≤ mode) (hm4 : mode ≤ 4) (w : World) :
    Calls Tryz.prog 48 #[.iface 134 (.agg #[.bool n1]), .iface 131 (.agg #[.bool n2]), .int .i64 mode] w fun e' w' => e' = .returned (.tuple #[flq (mulQ 2 n1 0 0 0 n2 0 0 mode).1, .int .i64 (mulQ 2 n1 0 0 0 n2 0 0 mode).2]) ∧ Kept 0 0 w w' := by
  obtain ⟨Q, hQ⟩ : ∃ q, mulQ 2 n1 0 0 0 n2 0 0 mode = q := ⟨_, rfl⟩
  rw [hQ]
  have HQ := hide hQ
  clear hQ
  have FQ : Hid (Q = ((3, false, 0, 0), 16)) := by show _ = _; rw [← unhide HQ]; unfold mulQ; simp
  have g1 := fun w => hs_inf n1 w
  have g2 := fun w => hs_nought n2 w
  have k0 : Kept 0 0 w (w.alloc (.cells #[.int .i64 0, .bool false, .int .i64 0, .int .i64 0] 25)) := ((Kept.refl 0 0 w).alloc (.cells #[.int .i64 0, .bool false, .int .i64 0, .int .i64 0] 25))
  have q0 : (w.alloc (.cells #[.int .i64 0, .bool false, .int .i64 0, .int .i64 0] 25)).cell? ⟨w.heap.size, 0, none⟩ = some (.int .i64 0) := new_cell2 _ _ _ _ _ _ (by simp) rfl
  have qf0 : (w.alloc (.cells #[.int .i64 0, .bool false, .int .i64 0, .int .i64 0] 25)).frozen? ⟨w.heap.size, 0, none⟩ = false := new_loose2 _ _ _ _ _ (by simp)
  have q1 : (w.alloc (.cells #[.int .i64 0, .bool false, .int .i64 0, .int .i64 0] 25)).cell? ⟨w.heap.size, 1, none⟩ = some (.bool false) := new_cell2 _ _ _ _ _ _ (by simp) rfl
  have qf1 : (w.alloc (.cells #[.int .i64 0, .bool false, .int .i64 0, .int .i64 0] 25)).frozen? ⟨w.heap.size, 1, none⟩ = false := new_loose2 _ _ _ _ _ (by simp)
  have q2 : (w.alloc (.cells #[.int .i64 0, .bool false, .int .i64 0, .int .i64 0] 25)).cell? ⟨w.heap.size, 2, none⟩ = some (.int .i64 0) := new_cell2 _ _ _ _ _ _ (by simp) rfl
  have qf2 : (w.alloc (.cells #[.int .i64 0, .bool false, .int .i64 0, .int .i64 0] 25)).frozen? ⟨w.heap.size, 2, none⟩ = false := new_loose2 _ _ _ _ _ (by simp)
  have q3 : (w.alloc (.cells #[.int .i64 0, .bool false, .int .i64 0, .int .i64 0] 25)).cell? ⟨w.heap.size, 3, none⟩ = some (.int .i64 0) := new_cell2 _ _ _ _ _ _ (by simp) rfl
  have qf3 : (w.alloc (.cells #[.int .i64 0, .bool false, .int .i64 0, .int .i64 0] 25)).frozen? ⟨w.heap.size, 3, none⟩ = false := new_loose2 _ _ _ _ _ (by simp)
  have s0 : (w.alloc (.cells #[.int .i64 0, .bool false, .int .i64 0, .int .i64 0] 25)).heap.size = w.heap.size + 1 := by simp
  have K := hide (k0)
  clear k0
  have S0 := hide s0
  clear s0
  go_enter Tryz.func48, Tryz.ntmps48
  go_wp2_with fail
  generalize (w.alloc (.cells #[.int .i64 0, .bool false, .int .i64 0, .int .i64 0] 25)) = W at *
  refine (hasSign_any n1 _).mono ?_
  rintro e w1 ⟨rfl, k1⟩
  replace qf0 := k1.loose0 (World.block_lt_of_cell? _ _ q0) qf0
  replace qf1 := k1.loose0 (World.block_lt_of_cell? _ _ q1) qf1
  replace qf2 := k1.loose0 (World.block_lt_of_cell? _ _ q2) qf2
  replace qf3 := k1.loose0 (World.block_lt_of_cell? _ _ q3) qf3
  replace q0 := k1.cell0 q0
  replace q1 := k1.cell0 q1
  replace q2 := k1.cell0 q2
  replace q3 := k1.cell0 q3
  replace K := hide ((unhide K).trans k1)
  have z2 := k1.size
  clear k1
  go_wp2_with fail
  refine (hasSign_any n2 _).mono ?_
  rintro e w3 ⟨rfl, k3⟩
  replace qf0 := k3.loose0 (World.block_lt_of_cell? _ _ q0) qf0
  replace qf1 := k3.loose0 (World.block_lt_of_cell? _ _ q1) qf1
  replace qf2 := k3.loose0 (World.block_lt_of_cell? _ _ q2) qf2
  replace qf3 := k3.loose0 (World.block_lt_of_cell? _ _ q3) qf3
  replace q0 := k3.cell0 q0
  replace q1 := k3.cell0 q1
  replace q2 := k3.cell0 q2
  replace q3 := k3.cell0 q3
  replace K := hide ((unhide K).trans k3)
  have z4 := k3.size
  clear k3
  clear g1 g2
  go_wp2_with fail
  refine (is_nan_inf n1 _).mono ?_
  rintro e w5 ⟨rfl, k5⟩
  replace qf0 := k5.loose0 (World.block_lt_of_cell? _ _ q0) qf0
  replace qf1 := k5.loose0 (World.block_lt_of_cell? _ _ q1) qf1
  replace qf2 := k5.loose0 (World.block_lt_of_cell? _ _ q2) qf2
  replace qf3 := k5.loose0 (World.block_lt_of_cell? _ _ q3) qf3
  replace q0 := k5.cell0 q0
  replace q1 := k5.cell0 q1
  replace q2 := k5.cell0 q2
  replace q3 := k5.cell0 q3
  replace K := hide ((unhide K).trans k5)
  have z6 := k5.size
  clear k5
  go_wp2_with fail
  refine (is_nan_nought n2 _).mono ?_
  rintro e w7 ⟨rfl, k7⟩
  replace qf0 := k7.loose0 (World.block_lt_of_cell? _ _ q0) qf0
  replace qf1 := k7.loose0 (World.block_lt_of_cell? _ _ q1) qf1
  replace qf2 := k7.loose0 (World.block_lt_of_cell? _ _ q2) qf2
  replace qf3 := k7.loose0 (World.block_lt_of_cell? _ _ q3) qf3
  replace q0 := k7.cell0 q0
  replace q1 := k7.cell0 q1
  replace q2 := k7.cell0 q2
  replace q3 := k7.cell0 q3
  replace K := hide ((unhide K).trans k7)
  have z8 := k7.size
  clear k7
  go_wp2_with fail
  refine (is_inf_inf n1 _).mono ?_
  rintro e w9 ⟨rfl, k9⟩
  replace qf0 := k9.loose0 (World.block_lt_of_cell? _ _ q0) qf0
  replace qf1 := k9.loose0 (World.block_lt_of_cell? _ _ q1) qf1
  replace qf2 := k9.loose0 (World.block_lt_of_cell? _ _ q2) qf2
  replace qf3 := k9.loose0 (World.block_lt_of_cell? _ _ q3) qf3
  replace q0 := k9.cell0 q0
  replace q1 := k9.cell0 q1
  replace q2 := k9.cell0 q2
  replace q3 := k9.cell0 q3
  replace K := hide ((unhide K).trans k9)
  have z10 := k9.size
  clear k9
  go_wp2_with fail
  refine (is_nought_nought n2 _).mono ?_
  rintro e w11 ⟨rfl, k11⟩
  replace qf0 := k11.loose0 (World.block_lt_of_cell? _ _ q0) qf0
  replace qf1 := k11.loose0 (World.block_lt_of_cell? _ _ q1) qf1
  replace qf2 := k11.loose0 (World.block_lt_of_cell? _ _ q2) qf2
  replace qf3 := k11.loose0 (World.block_lt_of_cell? _ _ q3) qf3
  replace q0 := k11.cell0 q0
  replace q1 := k11.cell0 q1
  replace q2 := k11.cell0 q2
  replace q3 := k11.cell0 q3
  replace K := hide ((unhide K).trans k11)
  have z12 := k11.size
  clear k11
  go_wp2_with fail
  refine (badF_impl _).mono ?_
  rintro e w13 ⟨rfl, k13⟩
  replace qf0 := k13.loose0 (World.block_lt_of_cell? _ _ q0) qf0
  replace qf1 := k13.loose0 (World.block_lt_of_cell? _ _ q1) qf1
  replace qf2 := k13.loose0 (World.block_lt_of_cell? _ _ q2) qf2
  replace qf3 := k13.loose0 (World.block_lt_of_cell? _ _ q3) qf3
  replace q0 := k13.cell0 q0
  replace q1 := k13.cell0 q1
  replace q2 := k13.cell0 q2
  replace q3 := k13.cell0 q3
  replace K := hide ((unhide K).trans k13)
  have z14 := k13.size
  clear k13
  have KF := hide (((((unhide K).setNew (p := ⟨w.heap.size, 0, none⟩) (by simp) (.int .i64 3)).setNew (p := ⟨w.heap.size, 1, none⟩) (by simp) (.bool false)).setNew (p := ⟨w.heap.size, 2, none⟩) (by simp) (.int .i64 0)).setNew (p := ⟨w.heap.size, 3, none⟩) (by simp) (.int .i64 0))
  clear K
  try go_wp2_with fail
  exact bodyPost_ret (v := .tuple #[.agg #[.int .i64 3, .bool false, .int .i64 0, .int .i64 0], .int .i64 16]) (by simp [results, Tryz.results48, go_sem, q0, q1, q2, q3]) rfl ⟨by rw [unhide FQ], unhide KF⟩

set_option maxHeartbeats 2000000 in
theorem mulI_inf_inf (n1 : Bool) (n2 : Bool) (mode : Int) (hm0 : 0 ≤ mode) (hm4 : mode ≤ 4) (w : World) :
    Calls Tryz.prog 48 #[.iface 134 (.agg #[.bool n1]), .iface 134 (.agg #[.bool n2]), .int .i64 mode] w fun e' w' => e' = .returned (.tuple #[flq (mulQ 2 n1 0 0 2 n2 0 0 mode).1, .int .i64 (mulQ 2 n1 0 0 2 n2 0 0 mode).2]) ∧ Kept 0 0 w w' := by
  obtain ⟨Q, hQ⟩ : ∃ q, mulQ 2 n1 0 0 2 n2 0 0 mode = q := ⟨_, rfl⟩
  rw [hQ]
  have HQ := hide hQ
  clear hQ
  have FQ : Hid (Q = ((2, !(n1 == n2), 0, 0), 0)) := by show _ = _; rw [← unhide HQ]; unfold mulQ; simp
  have g1 := fun w => hs_inf n1 w
  have g2 := fun w => hs_inf n2 w
  have k0 : Kept 0 0 w (w.alloc (.cells #[.int .i64 0, .bool false, .int .i64 0, .int .i64 0] 25)) := ((Kept.refl 0 0 w).alloc (.cells #[.int .i64 0, .bool false, .int .i64 0, .int .i64 0] 25))
  have q0 : (w.alloc (.cells #[.int .i64 0, .bool false, .int .i64 0, .int .i64 0] 25)).cell? ⟨w.heap.size, 0, none⟩ = some (.int .i64 0) := new_cell2 _ _ _ _ _ _ (by simp) rfl
  have qf0 : (w.alloc (.cells #[.int .i64 0, .bool false, .int .i64 0, .int .i64 0] 25)).frozen? ⟨w.heap.size, 0, none⟩ = false := new_loose2 _ _ _ _ _ (by simp)
  have q1 : (w.alloc (.cells #[.int .i64 0, .bool false, .int .i64 0, .int .i64 0] 25)).cell? ⟨w.heap.size, 1, none⟩ = some (.bool false) := new_cell2 _ _ _ _ _ _ (by simp) rfl
  have qf1 : (w.alloc (.cells #[.int .i64 0, .bool false, .int .i64 0, .int .i64 0] 25)).frozen? ⟨w.heap.size, 1, none⟩ = false := new_loose2 _ _ _ _ _ (by simp)
  have q2 : (w.alloc (.cells #[.int .i64 0, .bool false, .int .i64 0, .int .i64 0] 25)).cell? ⟨w.heap.size, 2, none⟩ = some (.int .i64 0) := new_cell2 _ _ _ _ _ _ (by simp) rfl
  have qf2 : (w.alloc (.cells #[.int .i64 0, .bool false, .int .i64 0, .int .i64 0] 25)).frozen? ⟨w.heap.size, 2, none⟩ = false := new_loose2 _ _ _ _ _ (by simp)
  have q3 : (w.alloc (.cells #[.int .i64 0, .bool false, .int .i64 0, .int .i64 0] 25)).cell? ⟨w.heap.size, 3, none⟩ = some (.int .i64 0) := new_cell2 _ _ _ _ _ _ (by simp) rfl
  have qf3 : (w.alloc (.cells #[.int .i64 0, .bool false, .int .i64 0, .int .i64 0] 25)).frozen? ⟨w.heap.size, 3, none⟩ = false := new_loose2 _ _ _ _ _ (by simp)
  have s0 : (w.alloc (.cells #[.int .i64 0, .bool false, .int .i64 0, .int .i64 0] 25)).heap.size = w.heap.size + 1 := by simp
  have K := hide (k0)
  clear k0
  have S0 := hide s0
  clear s0
  go_enter Tryz.func48, Tryz.ntmps48
  go_wp2_with fail
  generalize (w.alloc (.cells #[.int .i64 0, .bool false, .int .i64 0, .int .i64 0] 25)) = W at *
  refine (hasSign_any n1 _).mono ?_
  rintro e w1 ⟨rfl, k1⟩
  replace qf0 := k1.loose0 (World.block_lt_of_cell? _ _ q0) qf0
  replace qf1 := k1.loose0 (World.block_lt_of_cell? _ _ q1) qf1
  replace qf2 := k1.loose0 (World.block_lt_of_cell? _ _ q2) qf2
  replace qf3 := k1.loose0 (World.block_lt_of_cell? _ _ q3) qf3
  replace q0 := k1.cell0 q0
  replace q1 := k1.cell0 q1
  replace q2 := k1.cell0 q2
  replace q3 := k1.cell0 q3
  replace K := hide ((unhide K).trans k1)
  have z2 := k1.size
  clear k1
  go_wp2_with fail
  refine (hasSign_any n2 _).mono ?_
  rintro e w3 ⟨rfl, k3⟩
  replace qf0 := k3.loose0 (World.block_lt_of_cell? _ _ q0) qf0
  replace qf1 := k3.loose0 (World.block_lt_of_cell? _ _ q1) qf1
  replace qf2 := k3.loose0 (World.block_lt_of_cell? _ _ q2) qf2
  replace qf3 := k3.loose0 (World.block_lt_of_cell? _ _ q3) qf3
  replace q0 := k3.cell0 q0
  replace q1 := k3.cell0 q1
  replace q2 := k3.cell0 q2
  replace q3 := k3.cell0 q3
  replace K := hide ((unhide K).trans k3)
  have z4 := k3.size
  clear k3
  clear g1 g2
  go_wp2_with fail
  refine (is_nan_inf n1 _).mono ?_
  rintro e w5 ⟨rfl, k5⟩
  replace qf0 := k5.loose0 (World.block_lt_of_cell? _ _ q0) qf0
  replace qf1 := k5.loose0 (World.block_lt_of_cell? _ _ q1) qf1
  replace qf2 := k5.loose0 (World.block_lt_of_cell? _ _ q2) qf2
  replace qf3 := k5.loose0 (World.block_lt_of_cell? _ _ q3) qf3
  replace q0 := k5.cell0 q0
  replace q1 := k5.cell0 q1
  replace q2 := k5.cell0 q2
  replace q3 := k5.cell0 q3
  replace K := hide ((unhide K).trans k5)
  have z6 := k5.size
  clear k5
  go_wp2_with fail
  refine (is_nan_inf n2 _).mono ?_
  rintro e w7 ⟨rfl, k7⟩
  replace qf0 := k7.loose0 (World.block_lt_of_cell? _ _ q0) qf0
  replace qf1 := k7.loose0 (World.block_lt_of_cell? _ _ q1) qf1
  replace qf2 := k7.loose0 (World.block_lt_of_cell? _ _ q2) qf2
  replace qf3 := k7.loose0 (World.block_lt_of_cell? _ _ q3) qf3
  replace q0 := k7.cell0 q0
  replace q1 := k7.cell0 q1
  replace q2 := k7.cell0 q2
  replace q3 := k7.cell0 q3
  replace K := hide ((unhide K).trans k7)
  have z8 := k7.size
  clear k7
  go_wp2_with fail
  refine (is_inf_inf n1 _).mono ?_
  rintro e w9 ⟨rfl, k9⟩
  replace qf0 := k9.loose0 (World.block_lt_of_cell? _ _ q0) qf0
  replace qf1 := k9.loose0 (World.block_lt_of_cell? _ _ q1) qf1
  replace qf2 := k9.loose0 (World.block_lt_of_cell? _ _ q2) qf2
  replace qf3 := k9.loose0 (World.block_lt_of_cell? _ _ q3) qf3
  replace q0 := k9.cell0 q0
  replace q1 := k9.cell0 q1
  replace q2 := k9.cell0 q2
  replace q3 := k9.cell0 q3
  replace K := hide ((unhide K).trans k9)
  have z10 := k9.size
  clear k9
  go_wp2_with fail
  refine (is_nought_inf n2 _).mono ?_
  rintro e w11 ⟨rfl, k11⟩
  replace qf0 := k11.loose0 (World.block_lt_of_cell? _ _ q0) qf0
  replace qf1 := k11.loose0 (World.block_lt_of_cell? _ _ q1) qf1
  replace qf2 := k11.loose0 (World.block_lt_of_cell? _ _ q2) qf2
  replace qf3 := k11.loose0 (World.block_lt_of_cell? _ _ q3) qf3
  replace q0 := k11.cell0 q0
  replace q1 := k11.cell0 q1
  replace q2 := k11.cell0 q2
  replace q3 := k11.cell0 q3
  replace K := hide ((unhide K).trans k11)
  have z12 := k11.size
  clear k11
  go_wp2_with fail
  refine (is_nought_inf n1 _).mono ?_
  rintro e w13 ⟨rfl, k13⟩
  replace qf0 := k13.loose0 (World.block_lt_of_cell? _ _ q0) qf0
  replace qf1 := k13.loose0 (World.block_lt_of_cell? _ _ q1) qf1
  replace qf2 := k13.loose0 (World.block_lt_of_cell? _ _ q2) qf2
  replace qf3 := k13.loose0 (World.block_lt_of_cell? _ _ q3) qf3
  replace q0 := k13.cell0 q0
  replace q1 := k13.cell0 q1
  replace q2 := k13.cell0 q2
  replace q3 := k13.cell0 q3
  replace K := hide ((unhide K).trans k13)
  have z14 := k13.size
  clear k13
  go_wp2_with fail
  refine (is_inf_inf n1 _).mono ?_
  rintro e w15 ⟨rfl, k15⟩
  replace qf0 := k15.loose0 (World.block_lt_of_cell? _ _ q0) qf0
  replace qf1 := k15.loose0 (World.block_lt_of_cell? _ _ q1) qf1
  replace qf2 := k15.loose0 (World.block_lt_of_cell? _ _ q2) qf2
  replace qf3 := k15.loose0 (World.block_lt_of_cell? _ _ q3) qf3
  replace q0 := k15.cell0 q0
  replace q1 := k15.cell0 q1
  replace q2 := k15.cell0 q2
  replace q3 := k15.cell0 q3
  replace K := hide ((unhide K).trans k15)
  have z16 := k15.size
  clear k15
  have hne : (n1 != n2) = !(n1 == n2) := rfl
  have KF := hide (((((unhide K).setNew (p := ⟨w.heap.size, 0, none⟩) (by simp) (.int .i64 2)).setNew (p := ⟨w.heap.size, 1, none⟩) (by simp) (.bool (!(n1 == n2)))).setNew (p := ⟨w.heap.size, 2, none⟩) (by simp) (.int .i64 0)).setNew (p := ⟨w.heap.size, 3, none⟩) (by simp) (.int .i64 0))
  clear K
  try go_wp2_with fail
  exact bodyPost_ret (v := .tuple #[.agg #[.int .i64 2, .bool (!(n1 == n2)), .int .i64 0, .int .i64 0], .int .i64 0]) (by simp [results, Tryz.results48, go_sem, q0, q1, q2, q3]) rfl ⟨by rw [unhide FQ], unhide KF⟩

set_option maxHeartbeats 2000000 in
theorem mulI_inf_nan (n1 : Bool) (mode : Int) (hm0 : 0 ≤ mode) (hm4 : mode ≤ 4) (w : World) :
    Calls Tryz.prog 48 #[.iface 134 (.agg #[.bool n1]), .iface 135 (.agg #[.bool false]), .int .i64 mode] w fun e' w' => e' = .returned (.tuple #[flq (mulQ 2 n1 0 0 3 false 0 0 mode).1, .int .i64 (mulQ 2 n1 0 0 3 false 0 0 mode).2]) ∧ Kept 0 0 w w' := by
  obtain ⟨Q, hQ⟩ : ∃ q, mulQ 2 n1 0 0 3 false 0 0 mode = q := ⟨_, rfl⟩
  rw [hQ]
  have HQ := hide hQ
  clear hQ
  have FQ : Hid (Q = ((3, false, 0, 0), 0)) := by show _ = _; rw [← unhide HQ]; unfold mulQ; simp
  have g1 := fun w => hs_inf n1 w
  have g2 := fun w => hs_nan w
  have k0 : Kept 0 0 w (w.alloc (.cells #[.int .i64 0, .bool false, .int .i64 0, .int .i64 0] 25)) := ((Kept.refl 0 0 w).alloc (.cells #[.int .i64 0, .bool false, .int .i64 0, .int .i64 0] 25))
  have q0 : (w.alloc (.cells #[.int .i64 0, .bool false, .int .i64 0, .int .i64 0] 25)).cell? ⟨w.heap.size, 0, none⟩ = some (.int .i64 0) := new_cell2 _ _ _ _ _ _ (by simp) rfl
  have qf0 : (w.alloc (.cells #[.int .i64 0, .bool false, .int .i64 0, .int .i64 0] 25)).frozen? ⟨w.heap.size, 0, none⟩ = false := new_loose2 _ _ _ _ _ (by simp)
  have q1 : (w.alloc (.cells #[.int .i64 0, .bool false, .int .i64 0, .int .i64 0] 25)).cell? ⟨w.heap.size, 1, none⟩ = some (.bool false) := new_cell2 _ _ _ _ _ _ (by simp) rfl
  have qf1 : (w.alloc (.cells #[.int .i64 0, .bool false, .int .i64 0, .int .i64 0] 25)).frozen? ⟨w.heap.size, 1, none⟩ = false := new_loose2 _ _ _ _ _ (by simp)
  have q2 : (w.alloc (.cells #[.int .i64 0, .bool false, .int .i64 0, .int .i64 0] 25)).cell? ⟨w.heap.size, 2, none⟩ = some (.int .i64 0) := new_cell2 _ _ _ _ _ _ (by simp) rfl
  have qf2 : (w.alloc (.cells #[.int .i64 0, .bool false, .int .i64 0, .int .i64 0] 25)).frozen? ⟨w.heap.size, 2, none⟩ = false := new_loose2 _ _ _ _ _ (by simp)
  have q3 : (w.alloc (.cells #[.int .i64 0, .bool false, .int .i64 0, .int .i64 0] 25)).cell? ⟨w.heap.size, 3, none⟩ = some (.int .i64 0) := new_cell2 _ _ _ _ _ _ (by simp) rfl
  have qf3 : (w.alloc (.cells #[.int .i64 0, .bool false, .int .i64 0, .int .i64 0] 25)).frozen? ⟨w.heap.size, 3, none⟩ = false := new_loose2 _ _ _ _ _ (by simp)
  have s0 : (w.alloc (.cells #[.int .i64 0, .bool false, .int .i64 0, .int .i64 0] 25)).heap.size = w.heap.size + 1 := by simp
  have K := hide (k0)
  clear k0
  have S0 := hide s0
  clear s0
  go_enter Tryz.func48, Tryz.ntmps48
  go_wp2_with fail
  generalize (w.alloc (.cells #[.int .i64 0, .bool false, .int .i64 0, .int .i64 0] 25)) = W at *
  refine (hasSign_any n1 _).mono ?_
  rintro e w1 ⟨rfl, k1⟩
  replace qf0 := k1.loose0 (World.block_lt_of_cell? _ _ q0) qf0
  replace qf1 := k1.loose0 (World.block_lt_of_cell? _ _ q1) qf1
  replace qf2 := k1.loose0 (World.block_lt_of_cell? _ _ q2) qf2
  replace qf3 := k1.loose0 (World.block_lt_of_cell? _ _ q3) qf3
  replace q0 := k1.cell0 q0
  replace q1 := k1.cell0 q1
  replace q2 := k1.cell0 q2
  replace q3 := k1.cell0 q3
  replace K := hide ((unhide K).trans k1)
  have z2 := k1.size
  clear k1
  go_wp2_with fail
  refine (hasSign_any false _).mono ?_
  rintro e w3 ⟨rfl, k3⟩
  replace qf0 := k3.loose0 (World.block_lt_of_cell? _ _ q0) qf0
  replace qf1 := k3.loose0 (World.block_lt_of_cell? _ _ q1) qf1
  replace qf2 := k3.loose0 (World.block_lt_of_cell? _ _ q2) qf2
  replace qf3 := k3.loose0 (World.block_lt_of_cell? _ _ q3) qf3
  replace q0 := k3.cell0 q0
  replace q1 := k3.cell0 q1
  replace q2 := k3.cell0 q2
  replace q3 := k3.cell0 q3
  replace K := hide ((unhide K).trans k3)
  have z4 := k3.size
  clear k3
  clear g1 g2
  go_wp2_with fail
  refine (is_nan_inf n1 _).mono ?_
  rintro e w5 ⟨rfl, k5⟩
  replace qf0 := k5.loose0 (World.block_lt_of_cell? _ _ q0) qf0
  replace qf1 := k5.loose0 (World.block_lt_of_cell? _ _ q1) qf1
  replace qf2 := k5.loose0 (World.block_lt_of_cell? _ _ q2) qf2
  replace qf3 := k5.loose0 (World.block_lt_of_cell? _ _ q3) qf3
  replace q0 := k5.cell0 q0
  replace q1 := k5.cell0 q1
  replace q2 := k5.cell0 q2
  replace q3 := k5.cell0 q3
  replace K := hide ((unhide K).trans k5)
  have z6 := k5.size
  clear k5
  go_wp2_with fail
  refine (is_nan_nan _).mono ?_
  rintro e w7 ⟨rfl, k7⟩
  replace qf0 := k7.loose0 (World.block_lt_of_cell? _ _ q0) qf0
  replace qf1 := k7.loose0 (World.block_lt_of_cell? _ _ q1) qf1
  replace qf2 := k7.loose0 (World.block_lt_of_cell? _ _ q2) qf2
  replace qf3 := k7.loose0 (World.block_lt_of_cell? _ _ q3) qf3
  replace q0 := k7.cell0 q0
  replace q1 := k7.cell0 q1
  replace q2 := k7.cell0 q2
  replace q3 := k7.cell0 q3
  replace K := hide ((unhide K).trans k7)
  have z8 := k7.size
  clear k7
  have KF := hide (((((unhide K).setNew (p := ⟨w.heap.size, 0, none⟩) (by simp) (.int .i64 3)).setNew (p := ⟨w.heap.size, 1, none⟩) (by simp) (.bool false)).setNew (p := ⟨w.heap.size, 2, none⟩) (by simp) (.int .i64 0)).setNew (p := ⟨w.heap.size, 3, none⟩) (by simp) (.int .i64 0))
  clear K
  try go_wp2_with fail
  exact bodyPost_ret (v := .tuple #[.agg #[.int .i64 3, .bool false, .int .i64 0, .int .i64 0], .int .i64 0]) (by simp [results, Tryz.results48, go_sem, q0, q1, q2, q3]) rfl ⟨by rw [unhide FQ], unhide KF⟩

set_option maxHeartbeats 2000000 in
theorem mulI_nan_num (n2 : Bool) (m2 e2 : Int) (a12 : -1074 ≤ e2) (a22 : e2 ≤ 971) (a32 : 1 ≤ m2) (a42 : m2 ≤ 9007199254740991) (mode : Int) (hm0 : 0 ≤ mode) (hm4 : mode ≤ 4) (w : World) :
    Calls Tryz.prog 48 #[.iface 135 (.agg #[.bool false]), .iface 133 (.agg #[.bool n2, .int .i64 m2, .int .i64 e2]), .int .i64 mode] w fun e' w' => e' = .returned (.tuple #[flq (mulQ 3 false 0 0 1 n2 m2 e2 mode).1, .int .i64 (mulQ 3 false 0 0 1 n2 m2 e2 mode).2]) ∧ Kept 0 0 w w' := by
  obtain ⟨Q, hQ⟩ : ∃ q, mulQ 3 false 0 0 1 n2 m2 e2 mode = q := ⟨_, rfl⟩
  rw [hQ]
  have HQ := hide hQ
  clear hQ
  have FQ : Hid (Q = ((3, false, 0, 0), 0)) := by show _ = _; rw [← unhide HQ]; unfold mulQ; simp
  have g1 := fun w => hs_nan w
  have g2 := fun w => hs_num n2 m2 e2 w
  have k0 : Kept 0 0 w (w.alloc (.cells #[.int .i64 0, .bool false, .int .i64 0, .int .i64 0] 25)) := ((Kept.refl 0 0 w).alloc (.cells #[.int .i64 0, .bool false, .int .i64 0, .int .i64 0] 25))
  have q0 : (w.alloc (.cells #[.int .i64 0, .bool false, .int .i64 0, .int .i64 0] 25)).cell? ⟨w.heap.size, 0, none⟩ = some (.int .i64 0) := new_cell2 _ _ _ _ _ _ (by simp) rfl
  have qf0 : (w.alloc (.cells #[.int .i64 0, .bool false, .int .i64 0, .int .i64 0] 25)).frozen? ⟨w.heap.size, 0, none⟩ = false := new_loose2 _ _ _ _ _ (by simp)
  have q1 : (w.alloc (.cells #[.int .i64 0, .bool false, .int .i64 0, .int .i64 0] 25)).cell? ⟨w.heap.size, 1, none⟩ = some (.bool false) := new_cell2 _ _ _ _ _ _ (by simp) rfl
  have qf1 : (w.alloc (.cells #[.int .i64 0, .bool false, .int .i64 0, .int .i64 0] 25)).frozen? ⟨w.heap.size, 1, none⟩ = false := new_loose2 _ _ _ _ _ (by simp)
  have q2 : (w.alloc (.cells #[.int .i64 0, .bool false, .int .i64 0, .int .i64 0] 25)).cell? ⟨w.heap.size, 2, none⟩ = some (.int .i64 0) := new_cell2 _ _ _ _ _ _ (by simp) rfl
  have qf2 : (w.alloc (.cells #[.int .i64 0, .bool false, .int .i64 0, .int .i64 0] 25)).frozen? ⟨w.heap.size, 2, none⟩ = false := new_loose2 _ _ _ _ _ (by simp)
  have q3 : (w.alloc (.cells #[.int .i64 0, .bool false, .int .i64 0, .int .i64 0] 25)).cell? ⟨w.heap.size, 3, none⟩ = some (.int .i64 0) := new_cell2 _ _ _ _ _ _ (by simp) rfl
  have qf3 : (w.alloc (.cells #[.int .i64 0, .bool false, .int .i64 0, .int .i64 0] 25)).frozen? ⟨w.heap.size, 3, none⟩ = false := new_loose2 _ _ _ _ _ (by simp)
  have s0 : (w.alloc (.cells #[.int .i64 0, .bool false, .int .i64 0, .int .i64 0] 25)).heap.size = w.heap.size + 1 := by simp
  have K := hide (k0)
  clear k0
  have S0 := hide s0
  clear s0
  go_enter Tryz.func48, Tryz.ntmps48
  go_wp2_with fail
  generalize (w.alloc (.cells #[.int .i64 0, .bool false, .int .i64 0, .int .i64 0] 25)) = W at *
  refine (hasSign_any false _).mono ?_
  rintro e w1 ⟨rfl, k1⟩
  replace qf0 := k1.loose0 (World.block_lt_of_cell? _ _ q0) qf0
  replace qf1 := k1.loose0 (World.block_lt_of_cell? _ _ q1) qf1
  replace qf2 := k1.loose0 (World.block_lt_of_cell? _ _ q2) qf2
  replace qf3 := k1.loose0 (World.block_lt_of_cell? _ _ q3) qf3
  replace q0 := k1.cell0 q0
  replace q1 := k1.cell0 q1
  replace q2 := k1.cell0 q2
  replace q3 := k1.cell0 q3
  replace K := hide ((unhide K).trans k1)
  have z2 := k1.size
  clear k1
  go_wp2_with fail
  refine (hasSign_any n2 _).mono ?_
  rintro e w3 ⟨rfl, k3⟩
  replace qf0 := k3.loose0 (World.block_lt_of_cell? _ _ q0) qf0
  replace qf1 := k3.loose0 (World.block_lt_of_cell? _ _ q1) qf1
  replace qf2 := k3.loose0 (World.block_lt_of_cell? _ _ q2) qf2
  replace qf3 := k3.loose0 (World.block_lt_of_cell? _ _ q3) qf3
  replace q0 := k3.cell0 q0
  replace q1 := k3.cell0 q1
  replace q2 := k3.cell0 q2
  replace q3 := k3.cell0 q3
  replace K := hide ((unhide K).trans k3)
  have z4 := k3.size
  clear k3
  clear g1 g2
  go_wp2_with fail
  refine (is_nan_nan _).mono ?_
  rintro e w5 ⟨rfl, k5⟩
  replace qf0 := k5.loose0 (World.block_lt_of_cell? _ _ q0) qf0
  replace qf1 := k5.loose0 (World.block_lt_of_cell? _ _ q1) qf1
  replace qf2 := k5.loose0 (World.block_lt_of_cell? _ _ q2) qf2
  replace qf3 := k5.loose0 (World.block_lt_of_cell? _ _ q3) qf3
  replace q0 := k5.cell0 q0
  replace q1 := k5.cell0 q1
  replace q2 := k5.cell0 q2
  replace q3 := k5.cell0 q3
  replace K := hide ((unhide K).trans k5)
  have z6 := k5.size
  clear k5
  have KF := hide (((((unhide K).setNew (p := ⟨w.heap.size, 0, none⟩) (by simp) (.int .i64 3)).setNew (p := ⟨w.heap.size, 1, none⟩) (by simp) (.bool false)).setNew (p := ⟨w.heap.size, 2, none⟩) (by simp) (.int .i64 0)).setNew (p := ⟨w.heap.size, 3, none⟩) (by simp) (.int .i64 0))
  clear K
  try go_wp2_with fail
  exact bodyPost_ret (v := .tuple #[.agg #[.int .i64 3, .bool false, .int .i64 0, .int .i64 0], .int .i64 0]) (by simp [results, Tryz.results48, go_sem, q0, q1, q2, q3]) rfl ⟨by rw [unhide FQ], unhide KF⟩

set_option maxHeartbeats 2000000 in
theorem mulI_nan_nought (n2 : Bool) (mode : Int) (hm0 : 0 ≤ mode) (hm4 : mode ≤ 4) (w : World) :
    Calls Tryz.prog 48 #[.iface 135 (.agg #[.bool false]), .iface 131 (.agg #[.bool n2]), .int .i64 mode] w fun e' w' => e' = .returned (.tuple #[flq (mulQ 3 false 0 0 0 n2 0 0 mode).1, .int .i64 (mulQ 3 false 0 0 0 n2 0 0 mode).2]) ∧ Kept 0 0 w w' := by
  obtain ⟨Q, hQ⟩ : ∃ q, mulQ 3 false 0 0 0 n2 0 0 mode = q := ⟨_, rfl⟩
  rw [hQ]
  have HQ := hide hQ
  clear hQ
  have FQ : Hid (Q = ((3, false, 0, 0), 0)) := by show _ = _; rw [← unhide HQ]; unfold mulQ; simp
  have g1 := fun w => hs_nan w
  have g2 := fun w => hs_nought n2 w
  have k0 : Kept 0 0 w (w.alloc (.cells #[.int .i64 0, .bool false, .int .i64 0, .int .i64 0] 25)) := ((Kept.refl 0 0 w).alloc (.cells #[.int .i64 0, .bool false, .int .i64 0, .int .i64 0] 25))
  have q0 : (w.alloc (.cells #[.int .i64 0, .bool false, .int .i64 0, .int .i64 0] 25)).cell? ⟨w.heap.size, 0, none⟩ = some (.int .i64 0) := new_cell2 _ _ _ _ _ _ (by simp) rfl
  have qf0 : (w.alloc (.cells #[.int .i64 0, .bool false, .int .i64 0, .int .i64 0] 25)).frozen? ⟨w.heap.size, 0, none⟩ = false := new_loose2 _ _ _ _ _ (by simp)
  have q1 : (w.alloc (.cells #[.int .i64 0, .bool false, .int .i64 0, .int .i64 0] 25)).cell? ⟨w.heap.size, 1, none⟩ = some (.bool false) := new_cell2 _ _ _ _ _ _ (by simp) rfl
  have qf1 : (w.alloc (.cells #[.int .i64 0, .bool false, .int .i64 0, .int .i64 0] 25)).frozen? ⟨w.heap.size, 1, none⟩ = false := new_loose2 _ _ _ _ _ (by simp)
  have q2 : (w.alloc (.cells #[.int .i64 0, .bool false, .int .i64 0, .int .i64 0] 25)).cell? ⟨w.heap.size, 2, none⟩ = some (.int .i64 0) := new_cell2 _ _ _ _ _ _ (by simp) rfl
  have qf2 : (w.alloc (.cells #[.int .i64 0, .bool false, .int .i64 0, .int .i64 0] 25)).frozen? ⟨w.heap.size, 2, none⟩ = false := new_loose2 _ _ _ _ _ (by simp)
  have q3 : (w.alloc (.cells #[.int .i64 0, .bool false, .int .i64 0, .int .i64 0] 25)).cell? ⟨w.heap.size, 3, none⟩ = some (.int .i64 0) := new_cell2 _ _ _ _ _ _ (by simp) rfl
  have qf3 : (w.alloc (.cells #[.int .i64 0, .bool false, .int .i64 0, .int .i64 0] 25)).frozen? ⟨w.heap.size, 3, none⟩ = false := new_loose2 _ _ _ _ _ (by simp)
  have s0 : (w.alloc (.cells #[.int .i64 0, .bool false, .int .i64 0, .int .i64 0] 25)).heap.size = w.heap.size + 1 := by simp
  have K := hide (k0)
  clear k0
  have S0 := hide s0
  clear s0
  go_enter Tryz.func48, Tryz.ntmps48
  go_wp2_with fail
  generalize (w.alloc (.cells #[.int .i64 0, .bool false, .int .i64 0, .int .i64 0] 25)) = W at *
  refine (hasSign_any false _).mono ?_
  rintro e w1 ⟨rfl, k1⟩
  replace qf0 := k1.loose0 (World.block_lt_of_cell? _ _ q0) qf0
  replace qf1 := k1.loose0 (World.block_lt_of_cell? _ _ q1) qf1
  replace qf2 := k1.loose0 (World.block_lt_of_cell? _ _ q2) qf2
  replace qf3 := k1.loose0 (World.block_lt_of_cell? _ _ q3) qf3
  replace q0 := k1.cell0 q0
  replace q1 := k1.cell0 q1
  replace q2 := k1.cell0 q2
  replace q3 := k1.cell0 q3
  replace K := hide ((unhide K).trans k1)
  have z2 := k1.size
  clear k1
  go_wp2_with fail
  refine (hasSign_any n2 _).mono ?_
  rintro e w3 ⟨rfl, k3⟩
  replace qf0 := k3.loose0 (World.block_lt_of_cell? _ _ q0) qf0
  replace qf1 := k3.loose0 (World.block_lt_of_cell? _ _ q1) qf1
  replace qf2 := k3.loose0 (World.block_lt_of_cell? _ _ q2) qf2
  replace qf3 := k3.loose0 (World.block_lt_of_cell? _ _ q3) qf3
  replace q0 := k3.cell0 q0
  replace q1 := k3.cell0 q1
  replace q2 := k3.cell0 q2
  replace q3 := k3.cell0 q3
  replace K := hide ((unhide K).trans k3)
  have z4 := k3.size
  clear k3
  clear g1 g2
  go_wp2_with fail
  refine (is_nan_nan _).mono ?_
  rintro e w5 ⟨rfl, k5⟩
  replace qf0 := k5.loose0 (World.block_lt_of_cell? _ _ q0) qf0
  replace qf1 := k5.loose0 (World.block_lt_of_cell? _ _ q1) qf1
  replace qf2 := k5.loose0 (World.block_lt_of_cell? _ _ q2) qf2
  replace qf3 := k5.loose0 (World.block_lt_of_cell? _ _ q3) qf3
  replace q0 := k5.cell0 q0
  replace q1 := k5.cell0 q1
  replace q2 := k5.cell0 q2
  replace q3 := k5.cell0 q3
  replace K := hide ((unhide K).trans k5)
  have z6 := k5.size
  clear k5
  have KF := hide (((((unhide K).setNew (p := ⟨w.heap.size, 0, none⟩) (by simp) (.int .i64 3)).setNew (p := ⟨w.heap.size, 1, none⟩) (by simp) (.bool false)).setNew (p := ⟨w.heap.size, 2, none⟩) (by simp) (.int .i64 0)).setNew (p := ⟨w.heap.size, 3, none⟩) (by simp) (.int .i64 0))
  clear K
  try go_wp2_with fail
  exact bodyPost_ret (v := .tuple #[.agg #[.int .i64 3, .bool false, .int .i64 0, .int .i64 0], .int .i64 0]) (by simp [results, Tryz.results48, go_sem, q0, q1, q2, q3]) rfl ⟨by rw [unhide FQ], unhide KF⟩

set_option maxHeartbeats 2000000 in
theorem mulI_nan_inf (n2 : Bool) (mode : Int) (hm0 : 0 ≤ mode) (hm4 : mode ≤ 4) (w : World) :
    Calls Tryz.prog 48 #[.iface 135 (.agg #[.bool false]), .iface 134 (.agg #[.bool n2]), .int .i64 mode] w fun e' w' => e' = .returned (.tuple #[flq (mulQ 3 false 0 0 2 n2 0 0 mode).1, .int .i64 (mulQ 3 false 0 0 2 n2 0 0 mode).2]) ∧ Kept 0 0 w w' := by
  obtain ⟨Q, hQ⟩ : ∃ q, mulQ 3 false 0 0 2 n2 0 0 mode = q := ⟨_, rfl⟩
  rw [hQ]
  have HQ := hide hQ
  clear hQ
  have FQ : Hid (Q = ((3, false, 0, 0), 0)) := by show _ = _; rw [← unhide HQ]; unfold mulQ; simp
  have g1 := fun w => hs_nan w
  have g2 := fun w => hs_inf n2 w
  have k0 : Kept 0 0 w (w.alloc (.cells #[.int .i64 0, .bool false, .int .i64 0, .int .i64 0] 25)) := ((Kept.refl 0 0 w).alloc (.cells #[.int .i64 0, .bool false, .int .i64 0, .int .i64 0] 25))
  have q0 : (w.alloc (.cells #[.int .i64 0, .bool false, .int .i64 0, .int .i64 0] 25)).cell? ⟨w.heap.size, 0, none⟩ = some (.int .i64 0) := new_cell2 _ _ _ _ _ _ (by simp) rfl
  have qf0 : (w.alloc (.cells #[.int .i64 0, .bool false, .int .i64 0, .int .i64 0] 25)).frozen? ⟨w.heap.size, 0, none⟩ = false := new_loose2 _ _ _ _ _ (by simp)
  have q1 : (w.alloc (.cells #[.int .i64 0, .bool false, .int .i64 0, .int .i64 0] 25)).cell? ⟨w.heap.size, 1, none⟩ = some (.bool false) := new_cell2 _ _ _ _ _ _ (by simp) rfl
  have qf1 : (w.alloc (.cells #[.int .i64 0, .bool false, .int .i64 0, .int .i64 0] 25)).frozen? ⟨w.heap.size, 1, none⟩ = false := new_loose2 _ _ _ _ _ (by simp)
  have q2 : (w.alloc (.cells #[.int .i64 0, .bool false, .int .i64 0, .int .i64 0] 25)).cell? ⟨w.heap.size, 2, none⟩ = some (.int .i64 0) := new_cell2 _ _ _ _ _ _ (by simp) rfl
  have qf2 : (w.alloc (.cells #[.int .i64 0, .bool false, .int .i64 0, .int .i64 0] 25)).frozen? ⟨w.heap.size, 2, none⟩ = false := new_loose2 _ _ _ _ _ (by simp)
  have q3 : (w.alloc (.cells #[.int .i64 0, .bool false, .int .i64 0, .int .i64 0] 25)).cell? ⟨w.heap.size, 3, none⟩ = some (.int .i64 0) := new_cell2 _ _ _ _ _ _ (by simp) rfl
  have qf3 : (w.alloc (.cells #[.int .i64 0, .bool false, .int .i64 0, .int .i64 0] 25)).frozen? ⟨w.heap.size, 3, none⟩ = false := new_loose2 _ _ _ _ _ (by simp)
  have s0 : (w.alloc (.cells #[.int .i64 0, .bool false, .int .i64 0, .int .i64 0] 25)).heap.size = w.heap.size + 1 := by simp
  have K := hide (k0)
  clear k0
  have S0 := hide s0
  clear s0
  go_enter Tryz.func48, Tryz.ntmps48
  go_wp2_with fail
  generalize (w.alloc (.cells #[.int .i64 0, .bool false, .int .i64 0, .int .i64 0] 25)) = W at *
  refine (hasSign_any false _).mono ?_
  rintro e w1 ⟨rfl, k1⟩
  replace qf0 := k1.loose0 (World.block_lt_of_cell? _ _ q0) qf0
  replace qf1 := k1.loose0 (World.block_lt_of_cell? _ _ q1) qf1
  replace qf2 := k1.loose0 (World.block_lt_of_cell? _ _ q2) qf2
  replace qf3 := k1.loose0 (World.block_lt_of_cell? _ _ q3) qf3
  replace q0 := k1.cell0 q0
  replace q1 := k1.cell0 q1
  replace q2 := k1.cell0 q2
  replace q3 := k1.cell0 q3
  replace K := hide ((unhide K).trans k1)
  have z2 := k1.size
  clear k1
  go_wp2_with fail
  refine (hasSign_any n2 _).mono ?_
  rintro e w3 ⟨rfl, k3⟩
  replace qf0 := k3.loose0 (World.block_lt_of_cell? _ _ q0) qf0
  replace qf1 := k3.loose0 (World.block_lt_of_cell? _ _ q1) qf1
  replace qf2 := k3.loose0 (World.block_lt_of_cell? _ _ q2) qf2
  replace qf3 := k3.loose0 (World.block_lt_of_cell? _ _ q3) qf3
  replace q0 := k3.cell0 q0
  replace q1 := k3.cell0 q1
  replace q2 := k3.cell0 q2
  replace q3 := k3.cell0 q3
  replace K := hide ((unhide K).trans k3)
  have z4 := k3.size
  clear k3
  clear g1 g2
  go_wp2_with fail
  refine (is_nan_nan _).mono ?_
  rintro e w5 ⟨rfl, k5⟩
  replace qf0 := k5.loose0 (World.block_lt_of_cell? _ _ q0) qf0
  replace qf1 := k5.loose0 (World.block_lt_of_cell? _ _ q1) qf1
  replace qf2 := k5.loose0 (World.block_lt_of_cell? _ _ q2) qf2
  replace qf3 := k5.loose0 (World.block_lt_of_cell? _ _ q3) qf3
  replace q0 := k5.cell0 q0
  replace q1 := k5.cell0 q1
  replace q2 := k5.cell0 q2
  replace q3 := k5.cell0 q3
  replace K := hide ((unhide K).trans k5)
  have z6 := k5.size
  clear k5
  have KF := hide (((((unhide K).setNew (p := ⟨w.heap.size, 0, none⟩) (by simp) (.int .i64 3)).setNew (p := ⟨w.heap.size, 1, none⟩) (by simp) (.bool false)).setNew (p := ⟨w.heap.size, 2, none⟩) (by simp) (.int .i64 0)).setNew (p := ⟨w.heap.size, 3, none⟩) (by simp) (.int .i64 0))
  clear K
  try go_wp2_with fail
  exact bodyPost_ret (v := .tuple #[.agg #[.int .i64 3, .bool false, .int .i64 0, .int .i64 0], .int .i64 0]) (by simp [results, Tryz.results48, go_sem, q0, q1, q2, q3]) rfl ⟨by rw [unhide FQ], unhide KF⟩

set_option maxHeartbeats 2000000 in
theorem mulI_nan_nan (mode : Int) (hm0 : 0 ≤ mode) (hm4 : mode ≤ 4) (w : World) :
    Calls Tryz.prog 48 #[.iface 135 (.agg #[.bool false]), .iface 135 (.agg #[.bool false]), .int .i64 mode] w fun e' w' => e' = .returned (.tuple #[flq (mulQ 3 false 0 0 3 false 0 0 mode).1, .int .i64 (mulQ 3 false 0 0 3 false 0 0 mode).2]) ∧ Kept 0 0 w w' := by
  obtain ⟨Q, hQ⟩ : ∃ q, mulQ 3 false 0 0 3 false 0 0 mode = q := ⟨_, rfl⟩
  rw [hQ]
  have HQ := hide hQ
  clear hQ
  have FQ : Hid (Q = ((3, false, 0, 0), 0)) := by show _ = _; rw [← unhide HQ]; unfold mulQ; simp
  have g1 := fun w => hs_nan w
  have g2 := fun w => hs_nan w
  have k0 : Kept 0 0 w (w.alloc (.cells #[.int .i64 0, .bool false, .int .i64 0, .int .i64 0] 25)) := ((Kept.refl 0 0 w).alloc (.cells #[.int .i64 0, .bool false, .int .i64 0, .int .i64 0] 25))
  have q0 : (w.alloc (.cells #[.int .i64 0, .bool false, .int .i64 0, .int .i64 0] 25)).cell? ⟨w.heap.size, 0, none⟩ = some (.int .i64 0) := new_cell2 _ _ _ _ _ _ (by simp) rfl
  have qf0 : (w.alloc (.cells #[.int .i64 0, .bool false, .int .i64 0, .int .i64 0] 25)).frozen? ⟨w.heap.size, 0, none⟩ = false := new_loose2 _ _ _ _ _ (by simp)
  have q1 : (w.alloc (.cells #[.int .i64 0, .bool false, .int .i64 0, .int .i64 0] 25)).cell? ⟨w.heap.size, 1, none⟩ = some (.bool false) := new_cell2 _ _ _ _ _ _ (by simp) rfl
  have qf1 : (w.alloc (.cells #[.int .i64 0, .bool false, .int .i64 0, .int .i64 0] 25)).frozen? ⟨w.heap.size, 1, none⟩ = false := new_loose2 _ _ _ _ _ (by simp)
  have q2 : (w.alloc (.cells #[.int .i64 0, .bool false, .int .i64 0, .int .i64 0] 25)).cell? ⟨w.heap.size, 2, none⟩ = some (.int .i64 0) := new_cell2 _ _ _ _ _ _ (by simp) rfl
  have qf2 : (w.alloc (.cells #[.int .i64 0, .bool false, .int .i64 0, .int .i64 0] 25)).frozen? ⟨w.heap.size, 2, none⟩ = false := new_loose2 _ _ _ _ _ (by simp)
  have q3 : (w.alloc (.cells #[.int .i64 0, .bool false, .int .i64 0, .int .i64 0] 25)).cell? ⟨w.heap.size, 3, none⟩ = some (.int .i64 0) := new_cell2 _ _ _ _ _ _ (by simp) rfl
  have qf3 : (w.alloc (.cells #[.int .i64 0, .bool false, .int .i64 0, .int .i64 0] 25)).frozen? ⟨w.heap.size, 3, none⟩ = false := new_loose2 _ _ _ _ _ (by simp)
  have s0 : (w.alloc (.cells #[.int .i64 0, .bool false, .int .i64 0, .int .i64 0] 25)).heap.size = w.heap.size + 1 := by simp
  have K := hide (k0)
  clear k0
  have S0 := hide s0
  clear s0
  go_enter Tryz.func48, Tryz.ntmps48
  go_wp2_with fail
  generalize (w.alloc (.cells #[.int .i64 0, .bool false, .int .i64 0, .int .i64 0] 25)) = W at *
  refine (hasSign_any false _).mono ?_
  rintro e w1 ⟨rfl, k1⟩
  replace qf0 := k1.loose0 (World.block_lt_of_cell? _ _ q0) qf0
  replace qf1 := k1.loose0 (World.block_lt_of_cell? _ _ q1) qf1
  replace qf2 := k1.loose0 (World.block_lt_of_cell? _ _ q2) qf2
  replace qf3 := k1.loose0 (World.block_lt_of_cell? _ _ q3) qf3
  replace q0 := k1.cell0 q0
  replace q1 := k1.cell0 q1
  replace q2 := k1.cell0 q2
  replace q3 := k1.cell0 q3
  replace K := hide ((unhide K).trans k1)
  have z2 := k1.size
  clear k1
  go_wp2_with fail
  refine (hasSign_any false _).mono ?_
  rintro e w3 ⟨rfl, k3⟩
  replace qf0 := k3.loose0 (World.block_lt_of_cell? _ _ q0) qf0
  replace qf1 := k3.loose0 (World.block_lt_of_cell? _ _ q1) qf1
  replace qf2 := k3.loose0 (World.block_lt_of_cell? _ _ q2) qf2
  replace qf3 := k3.loose0 (World.block_lt_of_cell? _ _ q3) qf3
  replace q0 := k3.cell0 q0
  replace q1 := k3.cell0 q1
  replace q2 := k3.cell0 q2
  replace q3 := k3.cell0 q3
  replace K := hide ((unhide K).trans k3)
  have z4 := k3.size
  clear k3
  clear g1 g2
  go_wp2_with fail
  refine (is_nan_nan _).mono ?_
  rintro e w5 ⟨rfl, k5⟩
  replace qf0 := k5.loose0 (World.block_lt_of_cell? _ _ q0) qf0
  replace qf1 := k5.loose0 (World.block_lt_of_cell? _ _ q1) qf1
  replace qf2 := k5.loose0 (World.block_lt_of_cell? _ _ q2) qf2
  replace qf3 := k5.loose0 (World.block_lt_of_cell? _ _ q3) qf3
  replace q0 := k5.cell0 q0
  replace q1 := k5.cell0 q1
  replace q2 := k5.cell0 q2
  replace q3 := k5.cell0 q3
  replace K := hide ((unhide K).trans k5)
  have z6 := k5.size
  clear k5
  have KF := hide (((((unhide K).setNew (p := ⟨w.heap.size, 0, none⟩) (by simp) (.int .i64 3)).setNew (p := ⟨w.heap.size, 1, none⟩) (by simp) (.bool false)).setNew (p := ⟨w.heap.size, 2, none⟩) (by simp) (.int .i64 0)).setNew (p := ⟨w.heap.size, 3, none⟩) (by simp) (.int .i64 0))
  clear K
  try go_wp2_with fail
  exact bodyPost_ret (v := .tuple #[.agg #[.int .i64 3, .bool false, .int .i64 0, .int .i64 0], .int .i64 0]) (by simp [results, Tryz.results48, go_sem, q0, q1, q2, q3]) rfl ⟨by rw [unhide FQ], unhide KF⟩

end Go.Proofs.YtckaecmkidplhaaGreatDoor

