/-
  Quotients of floats: the program's roundedQuotient and divideFloats.
-/
import Derived.Test.YtflpkblmcnkghaaDoorBY
import Derived.Test.YtflpkblmcnkghaaDoorFdv1
import Derived.Test.YtflpkblmcnkghaaDoorCutN
import Derived.Test.YtflpkblmcnkghaaDoorSin
import Derived.Deep.RegionHeld3
import Derived.Deep.DeepCutAuto
namespace Go.Proofs.YtflpkblmcnkghaaDoor
open Go.RowKit
set_option linter.unusedVariables false
set_option maxRecDepth 8000
set_option linter.unusedSimpArgs false

set_option maxHeartbeats 400000 in
theorem badF_impl (w : World) :
    Calls Tryd.prog 20 #[] w fun e w' => e = .returned (.tuple #[flv 3 false 0 0, .int .i64 16]) ∧ Kept 0 0 w w' := by
  go_enter Tryd.func20, Tryd.ntmps20
  go_wp2_with fail
  exact bodyPost_ret (v := .tuple #[flv 3 false 0 0, .int .i64 16]) (by simp [results, Tryd.results20, go_sem]) rfl ⟨rfl, (Kept.refl 0 0 w).alloc _⟩

/-- Two numbers' blocks, made one behind the other. -/
theorem dya_new2 {w0 w4 : World} {b2 : Nat} {u1 u2 : Value} {xs ys : List Int} (s1 s2 : Bool) (x1 x2 : Int) (t : TypeId) (hk : Kept 0 0 w0 w4) (O1 : w4.ownsRow w0.heap.size 3 1 u1 xs.length (xs.map (Value.int .i64))) (O2 : w4.ownsRow b2 3 1 u2 ys.length (ys.map (Value.int .i64)))
    (hb : w0.heap.size ≤ b2) (h12 : ∀ i, u1.ownBlock = some i → i < b2) :
    Dya2 w0 ((w4.alloc (.cells #[u1, .bool s1, .int .i64 x1] t)).alloc (.cells #[u2, .bool s2, .int .i64 x2] t)) w4.heap.size (w4.heap.size + 1) s1 xs x1 s2 ys x2 := by
  have k1 := (Kept.refl 0 0 w4).alloc (.cells #[u1, .bool s1, .int .i64 x1] t)
  have k2 := (Kept.refl 0 0 (w4.alloc (.cells #[u1, .bool s1, .int .i64 x1] t))).alloc (.cells #[u2, .bool s2, .int .i64 x2] t)
  obtain ⟨n1, d1, e1⟩ := new_dya s1 x1 t O1
  obtain ⟨n2, d2, e2⟩ := new_dya s2 x2 t (own_kept O2 k1)
  have hs : (w4.alloc (.cells #[u1, .bool s1, .int .i64 x1] t)).heap.size = w4.heap.size + 1 := by simp
  have hz := hk.size
  rw [hs] at n2 d2 e2
  refine ⟨⟨⟨u1, u2, ⟨n1.kept k2, n2.less hb, by omega, ?_, ?_, ?_, (hk.trans k1).trans k2, hz, by omega⟩⟩, d1.kept k2, d2⟩, e1.kept k2, e2⟩
  ·intro e; have := (O1.lt _ e).2; omega
  ·intro e; have := (O2.lt _ e).2; omega
  ·intro i h1 h2; have := h12 i h1; have := (O2.lt i h2).1; omega

theorem new_halfN {w : World} {b : Nat} {u : Value} {xs : List Int} (s : Bool) (low : Int) (mo : Bool) (t : TypeId) (O : w.ownsRow b 3 1 u xs.length (xs.map (Value.int .i64))) :
    Num b (w.alloc (.cells #[u, .bool s, .int .i64 low, .bool mo] t)) w.heap.size u xs ∧ Sd (w.alloc (.cells #[u, .bool s, .int .i64 low, .bool mo] t)) w.heap.size s ∧ Ex (w.alloc (.cells #[u, .bool s, .int .i64 low, .bool mo] t)) w.heap.size low ∧ Mo (w.alloc (.cells #[u, .bool s, .int .i64 low, .bool mo] t)) w.heap.size mo :=
  ⟨⟨new_cell2 _ _ _ _ _ _ rfl rfl, new_loose2 _ _ _ _ _ rfl, own_kept O ((Kept.refl 0 0 w).alloc _), fun e => by have := (O.lt _ e).2; omega⟩, ⟨new_cell2 _ _ _ _ _ _ rfl rfl, new_loose2 _ _ _ _ _ rfl⟩, ⟨new_cell2 _ _ _ _ _ _ rfl rfl, new_loose2 _ _ _ _ _ rfl⟩, ⟨new_cell2 _ _ _ _ _ _ rfl rfl, new_loose2 _ _ _ _ _ rfl⟩⟩
theorem dv_top_range {m e : Int} (h1 : -1074 ≤ e) (h2 : e ≤ 971) (h3 : 1 ≤ m) (h4 : m ≤ 9007199254740991) : -1074 ≤ topI (limbs m.toNat) e ∧ topI (limbs m.toNat) e ≤ 1024 ∧ e ≤ topI (limbs m.toNat) e ∧ topI (limbs m.toNat) e ≤ e + 53 := by
  have hV : m.toNat ≠ 0 := by omega
  rw [topI_limbs hV]
  have h5 : bitsN m.toNat ≤ 53 := (bitsN_le _ _).2 (by omega)
  omega

set_option maxHeartbeats 4000000 in
theorem roundedQuotient_impl {w0 w : World} {g1 g2 : Nat} {n1 n2 : Bool} {m1 e1 m2 e2 : Int} {xs ys : List Int} (DD : Dya2 w0 w g1 g2 n1 xs e1 n2 ys e2) (hxs : limbs m1.toNat = xs) (hys : limbs m2.toNat = ys) (a11 : -1074 ≤ e1) (a21 : e1 ≤ 971) (a31 : 1 ≤ m1) (a41 : m1 ≤ 9007199254740991) (a12 : -1074 ≤ e2) (a22 : e2 ≤ 971) (a32 : 1 ≤ m2) (a42 : m2 ≤ 9007199254740991) (mode : Int) (hm0 : 0 ≤ mode) (hm4 : mode ≤ 4) (T0 : TabB w0) (T : TabB w) :
    Calls Tryd.prog 41 #[.pointer (some ⟨g1, 0, none⟩), .pointer (some ⟨g2, 0, none⟩), .int .i64 mode] w fun e' w' => e' = .returned (.tuple #[flv (flA mode (n1 != n2) (dvV m1 e1 m2 e2) (dvP m1 e1 m2 e2 - 1)).1 (n1 != n2) (flA mode (n1 != n2) (dvV m1 e1 m2 e2) (dvP m1 e1 m2 e2 - 1)).2.1 (flA mode (n1 != n2) (dvV m1 e1 m2 e2) (dvP m1 e1 m2 e2 - 1)).2.2, .int .i64 (flG mode (n1 != n2) (dvV m1 e1 m2 e2) (dvP m1 e1 m2 e2 - 1))]) ∧ Kept 0 0 w0 w' := by
  obtain ⟨SG, hSG⟩ : ∃ t, (n1 != n2) = t := ⟨_, rfl⟩
  rw [hSG]
  obtain ⟨A, hA⟩ : ∃ y, flA mode (n1 != n2) (dvV m1 e1 m2 e2) (dvP m1 e1 m2 e2 - 1) = y := ⟨_, rfl⟩
  obtain ⟨GG, hG⟩ : ∃ y, flG mode (n1 != n2) (dvV m1 e1 m2 e2) (dvP m1 e1 m2 e2 - 1) = y := ⟨_, rfl⟩
  rw [hSG] at hA hG
  rw [hA, hG]
  have hn1 : Nrm xs := by rw [← hxs]; exact limbs_nrm _
  have hv1 : (val xs).toNat = m1.toNat := by rw [← hxs, limbs_val, Int.toNat_natCast]
  have hl1 : xs.length ≤ 4 := by
   rw [← hxs]
   refine (limbs_length_le _ _).2 ?_
   rw [show (65536 : Int) ^ 4 = 18446744073709551616 by decide]
   omega
  have hn2 : Nrm ys := by rw [← hys]; exact limbs_nrm _
  have hv2 : (val ys).toNat = m2.toNat := by rw [← hys, limbs_val, Int.toNat_natCast]
  have hl2 : ys.length ≤ 4 := by
   rw [← hys]
   refine (limbs_length_le _ _).2 ?_
   rw [show (65536 : Int) ^ 4 = 18446744073709551616 by decide]
   omega
  have hny : ys ≠ [] := by
   intro h
   rw [h] at hv2
   have : (val []).toNat = 0 := rfl
   omega
  have rT1 := dv_top_range a11 a21 a31 a41
  have rT2 := dv_top_range a12 a22 a32 a42
  have hP0 : dvP m1 e1 m2 e2 = topI (limbs m1.toNat) e1 - topI (limbs m2.toNat) e2 - 56 := rfl
  rw [hxs, hys] at hP0
  rw [hxs] at rT1
  rw [hys] at rT2
  obtain ⟨T1, hT1⟩ : ∃ y, topI xs e1 = y := ⟨_, rfl⟩
  obtain ⟨T2, hT2⟩ : ∃ y, topI ys e2 = y := ⟨_, rfl⟩
  rw [hT1] at rT1 hP0
  rw [hT2] at rT2 hP0
  have hw1 : IntKind.i64.wrap (T1 - T2) = T1 - T2 := w64 _ (by omega) (by omega)
  obtain ⟨LW, hLW⟩ : ∃ y, T1 - T2 - 55 = y := ⟨_, rfl⟩
  have hw2 : IntKind.i64.wrap (T1 - T2 - 55) = LW := by rw [w64 _ (by omega) (by omega), hLW]
  have hkk : e1 - e2 - (LW - 1) = e1 - e2 - dvP m1 e1 m2 e2 := by omega
  obtain ⟨H, hH⟩ : ∃ y, quoN m1.toNat m2.toNat (e1 - e2 - dvP m1 e1 m2 e2) = y := ⟨_, rfl⟩
  obtain ⟨L, hL⟩ : ∃ y, quoL m1.toNat m2.toNat (e1 - e2 - dvP m1 e1 m2 e2) = y := ⟨_, rfl⟩
  have hV : dvV m1 e1 m2 e2 = 2 * H + (if L = true then 1 else 0) := by unfold dvV quoQ; rw [hH, hL]
  have nH : H ≠ 0 := by rw [← hH]; exact dv_ne a31 a32 e1 e2
  have lH : (limbs H).length ≤ 2000 := by
   have h2 := shl_len_le hn1.1 (e1 - e2 - dvP m1 e1 m2 e2).toNat 600 (by omega)
   rw [hv1] at h2
   have h3 : H ≤ m1.toNat * 2 ^ (e1 - e2 - dvP m1 e1 m2 e2).toNat := by rw [← hH]; unfold quoN quoX; exact Nat.div_le_self _ _
   have h1 := limbs_len_le h3
   omega
  have HH := hide hH
  have HL := hide hL
  have HA := hide hA
  have HG := hide hG
  have HP := hide hP0
  clear hxs hys hA hG hP0 hH hL
  obtain ⟨⟨⟨u1, u2, tt⟩, d1, d2⟩, x1', x2'⟩ := DD
  have l1 := tt.n1.own.lt
  have g1lt := tt.n1.lt
  have g2lt := tt.n2.lt
  have hzw := tt.k.size
  obtain ⟨Wn, hn0⟩ : ∃ wz, wz = (w.alloc (.cells #[.int .i64 0, .bool false, .int .i64 0, .int .i64 0] 24)) := ⟨_, rfl⟩
  have k0 : Kept 0 0 w Wn := by rw [hn0]; exact ((Kept.refl 0 0 w).alloc _)
  have q0 : Wn.cell? ⟨w.heap.size, 0, none⟩ = some (.int .i64 0) := by rw [hn0]; exact new_cell2 _ _ _ _ _ _ (by simp) rfl
  have qf0 : Wn.frozen? ⟨w.heap.size, 0, none⟩ = false := by rw [hn0]; exact new_loose2 _ _ _ _ _ (by simp)
  have q1 : Wn.cell? ⟨w.heap.size, 1, none⟩ = some (.bool false) := by rw [hn0]; exact new_cell2 _ _ _ _ _ _ (by simp) rfl
  have qf1 : Wn.frozen? ⟨w.heap.size, 1, none⟩ = false := by rw [hn0]; exact new_loose2 _ _ _ _ _ (by simp)
  have q2 : Wn.cell? ⟨w.heap.size, 2, none⟩ = some (.int .i64 0) := by rw [hn0]; exact new_cell2 _ _ _ _ _ _ (by simp) rfl
  have qf2 : Wn.frozen? ⟨w.heap.size, 2, none⟩ = false := by rw [hn0]; exact new_loose2 _ _ _ _ _ (by simp)
  have q3 : Wn.cell? ⟨w.heap.size, 3, none⟩ = some (.int .i64 0) := by rw [hn0]; exact new_cell2 _ _ _ _ _ _ (by simp) rfl
  have qf3 : Wn.frozen? ⟨w.heap.size, 3, none⟩ = false := by rw [hn0]; exact new_loose2 _ _ _ _ _ (by simp)
  have s0 : Wn.heap.size = w.heap.size + 1 := by rw [hn0]; exact by simp
  subst hn0
  have K := hide (k0)
  clear k0
  have S0 := hide s0
  clear s0
  go_enter Tryd.func41, Tryd.ntmps41
  go_wp2_with fail
  generalize (w.alloc (.cells #[.int .i64 0, .bool false, .int .i64 0, .int .i64 0] 24)) = W at *
  have sW := unhide S0
  replace tt := tt.kept (unhide K)
  replace d1 := d1.kept (unhide K)
  replace d2 := d2.kept (unhide K)
  replace x1' := x1'.kept (unhide K)
  replace x2' := x2'.kept (unhide K)
  have TW := T.kept (unhide K)
  have mk := top_impl W tt.n1 x1' hn1 (by omega) (by omega) (by omega)
  rw [hT1] at mk
  refine mk.mono ?_
  rintro e' wq5 ⟨rfl, k5⟩
  clear mk
  replace tt := tt.kept k5
  replace d1 := d1.kept k5
  replace d2 := d2.kept k5
  replace x1' := x1'.kept k5
  replace x2' := x2'.kept k5
  replace TW := TW.kept k5
  replace qf0 := k5.loose0 (zbl q0) qf0
  replace qf1 := k5.loose0 (zbl q1) qf1
  replace qf2 := k5.loose0 (zbl q2) qf2
  replace qf3 := k5.loose0 (zbl q3) qf3
  replace q0 := k5.cell0 q0
  replace q1 := k5.cell0 q1
  replace q2 := k5.cell0 q2
  replace q3 := k5.cell0 q3
  have zk5 := k5.size
  clear k5
  go_wp2_with fail
  have mk := top_impl wq5 tt.n2 x2' hn2 (by omega) (by omega) (by omega)
  rw [hT2] at mk
  refine mk.mono ?_
  rintro e' wq6 ⟨rfl, k6⟩
  clear mk hT1 hT2
  replace tt := tt.kept k6
  replace d1 := d1.kept k6
  replace d2 := d2.kept k6
  replace x1' := x1'.kept k6
  replace x2' := x2'.kept k6
  replace TW := TW.kept k6
  replace qf0 := k6.loose0 (zbl q0) qf0
  replace qf1 := k6.loose0 (zbl q1) qf1
  replace qf2 := k6.loose0 (zbl q2) qf2
  replace qf3 := k6.loose0 (zbl q3) qf3
  replace q0 := k6.cell0 q0
  replace q1 := k6.cell0 q1
  replace q2 := k6.cell0 q2
  replace q3 := k6.cell0 q3
  have zk6 := k6.size
  clear k6
  go_wp2_with fail
  have mk := cutQuotient_own wq6 tt.n1 d1 x1' tt.n2 d2 x2' tt.ne tt.o12 tt.o21 tt.oo (by omega) (by omega) hn1 hn2 hny (by omega) (by omega) LW (by omega) (by omega) (by omega) (by omega) (by omega) (by omega)
  rw [hv1, hv2, hkk, unhide HH, unhide HL, hSG] at mk
  refine mk.mono ?_
  rintro e' wq7 ⟨u7, rfl, o7, m7⟩
  clear mk
  have KW := tt.k.mod m7 (fun i e => e.elim (fun e => by have := tt.b1; omega) (fun e => e.elim (fun e => by have := tt.b2; omega) (fun e => by have := (l1 _ e).1; omega)))
  have nS : ¬ (w.heap.size = g1 ∨ w.heap.size = g2 ∨ u1.ownBlock = some w.heap.size) := fun e => e.elim (fun e => by omega) (fun e => e.elim (fun e => by omega) (fun e => by have := (l1 _ e).2; omega))
  replace qf0 := m7.loose (a := ⟨w.heap.size, 0, none⟩) nS (zbl q0) qf0
  replace qf1 := m7.loose (a := ⟨w.heap.size, 1, none⟩) nS (zbl q1) qf1
  replace qf2 := m7.loose (a := ⟨w.heap.size, 2, none⟩) nS (zbl q2) qf2
  replace qf3 := m7.loose (a := ⟨w.heap.size, 3, none⟩) nS (zbl q3) qf3
  replace q0 := m7.cell (a := ⟨w.heap.size, 0, none⟩) nS q0
  replace q1 := m7.cell (a := ⟨w.heap.size, 1, none⟩) nS q1
  replace q2 := m7.cell (a := ⟨w.heap.size, 2, none⟩) nS q2
  replace q3 := m7.cell (a := ⟨w.heap.size, 3, none⟩) nS q3
  skip
  have z7 := m7.size
  clear m7 nS tt d1 d2 x1' x2' K
  have l7 := o7.lt
  obtain ⟨p7, c7, hv⟩ := own_slice o7
  subst hv
  have Q0 := q0
  have QF0 := qf0
  have Q1 := q1
  have QF1 := qf1
  have Q2 := q2
  have QF2 := qf2
  have Q3 := q3
  have QF3 := qf3
  obtain ⟨nh, dh, eh, mh⟩ := new_halfN SG LW L 87 o7
  have KV := (Kept.refl 0 0 wq7).alloc (.cells #[.slice p7 (limbs H).length c7, .bool SG, .int .i64 LW, .bool L] 87)
  have z8 : (wq7.alloc (.cells #[.slice p7 (limbs H).length c7, .bool SG, .int .i64 LW, .bool L] 87)).heap.size = wq7.heap.size + 1 := by simp
  clear o7
  go_wp2_with fail
  generalize wq7.alloc (.cells #[.slice p7 (limbs H).length c7, .bool SG, .int .i64 LW, .bool L] 87) = W8 at *
  have mk := standIn_impl W8 nh nH lH dh eh mh KV (by omega) (by omega) (by omega)
  rw [← hV] at mk
  refine mk.mono ?_
  rintro e' wq9 ⟨u9, rfl, o9, k9, z89⟩
  clear mk nh dh eh mh KV
  obtain ⟨zs, hzs⟩ : ∃ y, limbs (dvV m1 e1 m2 e2) = y := ⟨_, rfl⟩
  rw [hzs] at o9
  have hnz : Nrm zs := by rw [← hzs]; exact limbs_nrm _
  have hvz : (val zs).toNat = dvV m1 e1 m2 e2 := by rw [← hzs, limbs_val, Int.toNat_natCast]
  have lz : zs.length ≤ 10000 := by
   rw [← hzs, hV]
   have h1 : 2 * H + (if L = true then 1 else 0) ≤ H * 2 + 1 := by split <;> omega
   have h2 := limbs_len_le h1
   have h3 := limbs_succ_len (limbs (H * 2)) (limbs_nrm _)
   rw [limbs_val, Int.toNat_natCast] at h3
   have h4 := shl1_len H lH
   omega
  clear hzs
  have l9 := o9.lt
  obtain ⟨p9, c9, hv⟩ := own_slice o9
  subst hv
  obtain ⟨nd, dd, ee⟩ := new_dya SG (LW - 2) 72 o9
  have kn := (Kept.refl 0 0 wq9).alloc (.cells #[.slice p9 zs.length c9, .bool SG, .int .i64 (LW - 2)] 72)
  have z9 : (wq9.alloc (.cells #[.slice p9 zs.length c9, .bool SG, .int .i64 (LW - 2)] 72)).heap.size = wq9.heap.size + 1 := by simp
  have zk := k9.size
  replace k9 := k9.trans kn
  clear kn o9
  go_wp2_with fail
  generalize wq9.alloc (.cells #[.slice p9 zs.length c9, .bool SG, .int .i64 (LW - 2)] 72) = WA at *
  have mk := toFloat_impl WA nd dd ee hnz lz (by omega) (by omega) (by omega) mode hm0 hm4 (T0.kept (KW.trans k9))
  rw [hvz, show LW - 2 = dvP m1 e1 m2 e2 - 1 by have := unhide HP; omega, unhide HA, unhide HG] at mk
  refine mk.mono ?_
  rintro e' wB ⟨rfl, mB⟩
  clear mk
  replace k9 := k9.mod mB (fun i e => by have := (l9 _ e).1; omega)
  replace qf0 : wB.frozen? ⟨w.heap.size, 0, none⟩ = false := k9.loose0 (zbl Q0) QF0
  replace qf1 : wB.frozen? ⟨w.heap.size, 1, none⟩ = false := k9.loose0 (zbl Q1) QF1
  replace qf2 : wB.frozen? ⟨w.heap.size, 2, none⟩ = false := k9.loose0 (zbl Q2) QF2
  replace qf3 : wB.frozen? ⟨w.heap.size, 3, none⟩ = false := k9.loose0 (zbl Q3) QF3
  replace q0 : wB.cell? ⟨w.heap.size, 0, none⟩ = _ := k9.cell0 Q0
  replace q1 : wB.cell? ⟨w.heap.size, 1, none⟩ = _ := k9.cell0 Q1
  replace q2 : wB.cell? ⟨w.heap.size, 2, none⟩ = _ := k9.cell0 Q2
  replace q3 : wB.cell? ⟨w.heap.size, 3, none⟩ = _ := k9.cell0 Q3
  have KZ := KW.trans k9
  clear mB nd dd ee k9 KW Q0 Q1 Q2 Q3 QF0 QF1 QF2 QF3
  have KF := hide ((((KZ.setNew (p := ⟨w.heap.size, 0, none⟩) (by dsimp only; omega) (.int .i64 A.1)).setNew (p := ⟨w.heap.size, 1, none⟩) (by dsimp only; omega) (.bool SG)).setNew (p := ⟨w.heap.size, 2, none⟩) (by dsimp only; omega) (.int .i64 A.2.1)).setNew (p := ⟨w.heap.size, 3, none⟩) (by dsimp only; omega) (.int .i64 A.2.2))
  clear KZ
  try go_wp2_with fail
  exact bodyPost_ret (v := .tuple #[.agg #[.int .i64 A.1, .bool SG, .int .i64 A.2.1, .int .i64 A.2.2], .int .i64 GG]) (by simp [results, Tryd.results41, go_sem, q0, q1, q2, q3]) rfl ⟨rfl, unhide KF⟩

set_option maxHeartbeats 2000000 in
theorem divI_num_num (n1 : Bool) (m1 e1 : Int) (n2 : Bool) (m2 e2 : Int) (a11 : -1074 ≤ e1) (a21 : e1 ≤ 971) (a31 : 1 ≤ m1) (a41 : m1 ≤ 9007199254740991) (a12 : -1074 ≤ e2) (a22 : e2 ≤ 971) (a32 : 1 ≤ m2) (a42 : m2 ≤ 9007199254740991) (mode : Int) (hm0 : 0 ≤ mode) (hm4 : mode ≤ 4) (w : World) (T : TabB w) :
    Calls Tryd.prog 21 #[.iface 81 (.agg #[.bool n1, .int .i64 m1, .int .i64 e1]), .iface 81 (.agg #[.bool n2, .int .i64 m2, .int .i64 e2]), .int .i64 mode] w fun e' w' => e' = .returned (.tuple #[flq (dvQ 1 n1 m1 e1 1 n2 m2 e2 mode).1, .int .i64 (dvQ 1 n1 m1 e1 1 n2 m2 e2 mode).2]) ∧ Kept 0 0 w w' := by
  obtain ⟨Q, hQ⟩ : ∃ q, dvQ 1 n1 m1 e1 1 n2 m2 e2 mode = q := ⟨_, rfl⟩
  rw [hQ]
  have HQ := hide hQ
  clear hQ
  have g1 := fun w => hs_num n1 m1 e1 w
  have g2 := fun w => hs_num n2 m2 e2 w
  obtain ⟨Wn, hn0⟩ : ∃ wz, wz = (w.alloc (.cells #[.int .i64 0, .bool false, .int .i64 0, .int .i64 0] 24)) := ⟨_, rfl⟩
  have k0 : Kept 0 0 w Wn := by rw [hn0]; exact ((Kept.refl 0 0 w).alloc _)
  have q0 : Wn.cell? ⟨w.heap.size, 0, none⟩ = some (.int .i64 0) := by rw [hn0]; exact new_cell2 _ _ _ _ _ _ (by simp) rfl
  have qf0 : Wn.frozen? ⟨w.heap.size, 0, none⟩ = false := by rw [hn0]; exact new_loose2 _ _ _ _ _ (by simp)
  have q1 : Wn.cell? ⟨w.heap.size, 1, none⟩ = some (.bool false) := by rw [hn0]; exact new_cell2 _ _ _ _ _ _ (by simp) rfl
  have qf1 : Wn.frozen? ⟨w.heap.size, 1, none⟩ = false := by rw [hn0]; exact new_loose2 _ _ _ _ _ (by simp)
  have q2 : Wn.cell? ⟨w.heap.size, 2, none⟩ = some (.int .i64 0) := by rw [hn0]; exact new_cell2 _ _ _ _ _ _ (by simp) rfl
  have qf2 : Wn.frozen? ⟨w.heap.size, 2, none⟩ = false := by rw [hn0]; exact new_loose2 _ _ _ _ _ (by simp)
  have q3 : Wn.cell? ⟨w.heap.size, 3, none⟩ = some (.int .i64 0) := by rw [hn0]; exact new_cell2 _ _ _ _ _ _ (by simp) rfl
  have qf3 : Wn.frozen? ⟨w.heap.size, 3, none⟩ = false := by rw [hn0]; exact new_loose2 _ _ _ _ _ (by simp)
  have s0 : Wn.heap.size = w.heap.size + 1 := by rw [hn0]; exact by simp
  subst hn0
  have K := hide (k0)
  clear k0
  have S0 := hide s0
  clear s0
  go_enter Tryd.func21, Tryd.ntmps21
  go_wp2_with fail
  generalize (w.alloc (.cells #[.int .i64 0, .bool false, .int .i64 0, .int .i64 0] 24)) = W at *
  have KW := K
  have KA : Kept 0 0 W W := Kept.refl 0 0 W
  refine (hasSign_any n1 _).mono ?_
  rintro e w1 ⟨rfl, k1⟩
  replace KA := KA.trans k1
  replace K := hide ((unhide K).trans k1)
  have z2 := k1.size
  clear k1
  go_wp2_with fail
  refine (hasSign_any n2 _).mono ?_
  rintro e w3 ⟨rfl, k3⟩
  replace KA := KA.trans k3
  replace K := hide ((unhide K).trans k3)
  have z4 := k3.size
  clear k3
  clear g1 g2
  go_wp2_with fail
  refine (is_nan_num n1 m1 e1 _).mono ?_
  rintro e w5 ⟨rfl, k5⟩
  replace KA := KA.trans k5
  replace K := hide ((unhide K).trans k5)
  have z6 := k5.size
  clear k5
  go_wp2_with fail
  refine (is_nan_num n2 m2 e2 _).mono ?_
  rintro e w7 ⟨rfl, k7⟩
  replace KA := KA.trans k7
  replace K := hide ((unhide K).trans k7)
  have z8 := k7.size
  clear k7
  go_wp2_with fail
  refine (is_inf_num n1 m1 e1 _).mono ?_
  rintro e w9 ⟨rfl, k9⟩
  replace KA := KA.trans k9
  replace K := hide ((unhide K).trans k9)
  have z10 := k9.size
  clear k9
  go_wp2_with fail
  refine (is_nought_num n1 m1 e1 _).mono ?_
  rintro e w11 ⟨rfl, k11⟩
  replace KA := KA.trans k11
  replace K := hide ((unhide K).trans k11)
  have z12 := k11.size
  clear k11
  go_wp2_with fail
  refine (is_inf_num n1 m1 e1 _).mono ?_
  rintro e w13 ⟨rfl, k13⟩
  replace KA := KA.trans k13
  replace K := hide ((unhide K).trans k13)
  have z14 := k13.size
  clear k13
  go_wp2_with fail
  refine (is_inf_num n2 m2 e2 _).mono ?_
  rintro e w15 ⟨rfl, k15⟩
  replace KA := KA.trans k15
  replace K := hide ((unhide K).trans k15)
  have z16 := k15.size
  clear k15
  go_wp2_with fail
  refine (is_nought_num n1 m1 e1 _).mono ?_
  rintro e w17 ⟨rfl, k17⟩
  replace KA := KA.trans k17
  replace K := hide ((unhide K).trans k17)
  have z18 := k17.size
  clear k17
  go_wp2_with fail
  refine (is_nought_num n2 m2 e2 _).mono ?_
  rintro e w19 ⟨rfl, k19⟩
  replace KA := KA.trans k19
  replace K := hide ((unhide K).trans k19)
  have z20 := k19.size
  clear k19
  replace qf0 := KA.loose0 (zbl q0) qf0
  replace qf1 := KA.loose0 (zbl q1) qf1
  replace qf2 := KA.loose0 (zbl q2) qf2
  replace qf3 := KA.loose0 (zbl q3) qf3
  replace q0 := KA.cell0 q0
  replace q1 := KA.cell0 q1
  replace q2 := KA.cell0 q2
  replace q3 := KA.cell0 q3
  go_wp2_with fail
  have Q0 := q0
  have QF0 := qf0
  have Q1 := q1
  have QF1 := qf1
  have Q2 := q2
  have QF2 := qf2
  have Q3 := q3
  have QF3 := qf3
  replace KW := K
  have bS := unhide S0
  clear KA
  obtain ⟨xs, hxs⟩ : ∃ L : List Int, limbs m1.toNat = L := ⟨_, rfl⟩
  obtain ⟨ys, hys⟩ : ∃ L : List Int, limbs m2.toNat = L := ⟨_, rfl⟩
  have mk := valueOf_num n1 m1 e1 a31 a41 w19
  rw [hxs] at mk
  refine mk.mono ?_
  rintro e' wv1 ⟨v1, rfl, o1, KV1⟩
  clear mk
  have l1 := o1.lt
  go_wp2_with fail
  have mk := valueOf_num n2 m2 e2 a32 a42 wv1
  rw [hys] at mk
  refine mk.mono ?_
  rintro e' wv2 ⟨v2, rfl, o2, KV2⟩
  clear mk
  replace o1 := own_kept o1 KV2
  have l2 := o2.lt
  obtain ⟨p1, c1, hv⟩ := own_slice o1
  subst hv
  obtain ⟨p2, c2, hv⟩ := own_slice o2
  subst hv
  have KV : Kept 0 0 w19 wv2 := KV1.trans KV2
  have DD := dya_new2 n1 n2 e1 e2 72 KV o1 o2 (by have := KV1.size; omega) (fun i e => (l1 i e).2)
  have kn := ((Kept.refl 0 0 wv2).alloc (.cells #[.slice p1 xs.length c1, .bool n1, .int .i64 e1] 72)).alloc (.cells #[.slice p2 ys.length c2, .bool n2, .int .i64 e2] 72)
  replace KV := KV.trans kn
  clear kn o1 o2 KV1 KV2
  go_wp2_with fail
  generalize (wv2.alloc (.cells #[.slice p1 xs.length c1, .bool n1, .int .i64 e1] 72)).alloc (.cells #[.slice p2 ys.length c2, .bool n2, .int .i64 e2] 72) = W5 at *
  have TV := T.kept (unhide KW)
  have mk := roundedQuotient_impl DD hxs hys a11 a21 a31 a41 a12 a22 a32 a42 mode hm0 hm4 TV (TV.kept KV)
  clear DD KV hxs hys
  obtain ⟨A, hA⟩ : ∃ y, flA mode (n1 != n2) (dvV m1 e1 m2 e2) (dvP m1 e1 m2 e2 - 1) = y := ⟨_, rfl⟩
  obtain ⟨GG, hG⟩ : ∃ y, flG mode (n1 != n2) (dvV m1 e1 m2 e2) (dvP m1 e1 m2 e2 - 1) = y := ⟨_, rfl⟩
  have FQ : Hid (Q = ((A.1, !(n1 == n2), A.2.1, A.2.2), GG)) := by show _ = _; rw [← unhide HQ, ← hA, ← hG]; unfold dvQ; simp [bne]
  rw [hA, hG] at mk
  clear hA hG
  refine mk.mono ?_
  rintro e' wB ⟨rfl, k9⟩
  clear mk
  replace qf0 : wB.frozen? ⟨w.heap.size, 0, none⟩ = false := k9.loose0 (zbl Q0) QF0
  replace qf1 : wB.frozen? ⟨w.heap.size, 1, none⟩ = false := k9.loose0 (zbl Q1) QF1
  replace qf2 : wB.frozen? ⟨w.heap.size, 2, none⟩ = false := k9.loose0 (zbl Q2) QF2
  replace qf3 : wB.frozen? ⟨w.heap.size, 3, none⟩ = false := k9.loose0 (zbl Q3) QF3
  replace q0 : wB.cell? ⟨w.heap.size, 0, none⟩ = _ := k9.cell0 Q0
  replace q1 : wB.cell? ⟨w.heap.size, 1, none⟩ = _ := k9.cell0 Q1
  replace q2 : wB.cell? ⟨w.heap.size, 2, none⟩ = _ := k9.cell0 Q2
  replace q3 : wB.cell? ⟨w.heap.size, 3, none⟩ = _ := k9.cell0 Q3
  replace K := hide ((unhide KW).trans k9)
  clear k9 KW Q0 Q1 Q2 Q3 QF0 QF1 QF2 QF3
  have hne : (n1 != n2) = !(n1 == n2) := rfl
  have KF := hide (((((unhide K).setNew (p := ⟨w.heap.size, 0, none⟩) (by simp) (.int .i64 A.1)).setNew (p := ⟨w.heap.size, 1, none⟩) (by simp) (.bool (!(n1 == n2)))).setNew (p := ⟨w.heap.size, 2, none⟩) (by simp) (.int .i64 A.2.1)).setNew (p := ⟨w.heap.size, 3, none⟩) (by simp) (.int .i64 A.2.2))
  clear K
  try go_wp2_with fail
  exact bodyPost_ret (v := .tuple #[.agg #[.int .i64 A.1, .bool (!(n1 == n2)), .int .i64 A.2.1, .int .i64 A.2.2], .int .i64 GG]) (by simp [results, Tryd.results21, go_sem, q0, q1, q2, q3]) rfl ⟨by rw [unhide FQ], unhide KF⟩

set_option maxHeartbeats 2000000 in
theorem divI_num_nought (n1 : Bool) (m1 e1 : Int) (n2 : Bool) (a11 : -1074 ≤ e1) (a21 : e1 ≤ 971) (a31 : 1 ≤ m1) (a41 : m1 ≤ 9007199254740991) (mode : Int) (hm0 : 0 ≤ mode) (hm4 : mode ≤ 4) (w : World) :
    Calls Tryd.prog 21 #[.iface 81 (.agg #[.bool n1, .int .i64 m1, .int .i64 e1]), .iface 79 (.agg #[.bool n2]), .int .i64 mode] w fun e' w' => e' = .returned (.tuple #[flq (dvQ 1 n1 m1 e1 0 n2 0 0 mode).1, .int .i64 (dvQ 1 n1 m1 e1 0 n2 0 0 mode).2]) ∧ Kept 0 0 w w' := by
  obtain ⟨Q, hQ⟩ : ∃ q, dvQ 1 n1 m1 e1 0 n2 0 0 mode = q := ⟨_, rfl⟩
  rw [hQ]
  have HQ := hide hQ
  clear hQ
  have FQ : Hid (Q = ((2, !(n1 == n2), 0, 0), 8)) := by show _ = _; rw [← unhide HQ]; unfold dvQ; simp
  have g1 := fun w => hs_num n1 m1 e1 w
  have g2 := fun w => hs_nought n2 w
  obtain ⟨Wn, hn0⟩ : ∃ wz, wz = (w.alloc (.cells #[.int .i64 0, .bool false, .int .i64 0, .int .i64 0] 24)) := ⟨_, rfl⟩
  have k0 : Kept 0 0 w Wn := by rw [hn0]; exact ((Kept.refl 0 0 w).alloc _)
  have q0 : Wn.cell? ⟨w.heap.size, 0, none⟩ = some (.int .i64 0) := by rw [hn0]; exact new_cell2 _ _ _ _ _ _ (by simp) rfl
  have qf0 : Wn.frozen? ⟨w.heap.size, 0, none⟩ = false := by rw [hn0]; exact new_loose2 _ _ _ _ _ (by simp)
  have q1 : Wn.cell? ⟨w.heap.size, 1, none⟩ = some (.bool false) := by rw [hn0]; exact new_cell2 _ _ _ _ _ _ (by simp) rfl
  have qf1 : Wn.frozen? ⟨w.heap.size, 1, none⟩ = false := by rw [hn0]; exact new_loose2 _ _ _ _ _ (by simp)
  have q2 : Wn.cell? ⟨w.heap.size, 2, none⟩ = some (.int .i64 0) := by rw [hn0]; exact new_cell2 _ _ _ _ _ _ (by simp) rfl
  have qf2 : Wn.frozen? ⟨w.heap.size, 2, none⟩ = false := by rw [hn0]; exact new_loose2 _ _ _ _ _ (by simp)
  have q3 : Wn.cell? ⟨w.heap.size, 3, none⟩ = some (.int .i64 0) := by rw [hn0]; exact new_cell2 _ _ _ _ _ _ (by simp) rfl
  have qf3 : Wn.frozen? ⟨w.heap.size, 3, none⟩ = false := by rw [hn0]; exact new_loose2 _ _ _ _ _ (by simp)
  have s0 : Wn.heap.size = w.heap.size + 1 := by rw [hn0]; exact by simp
  subst hn0
  have K := hide (k0)
  clear k0
  have S0 := hide s0
  clear s0
  go_enter Tryd.func21, Tryd.ntmps21
  go_wp2_with fail
  generalize (w.alloc (.cells #[.int .i64 0, .bool false, .int .i64 0, .int .i64 0] 24)) = W at *
  have KA : Kept 0 0 W W := Kept.refl 0 0 W
  refine (hasSign_any n1 _).mono ?_
  rintro e w1 ⟨rfl, k1⟩
  replace KA := KA.trans k1
  replace K := hide ((unhide K).trans k1)
  have z2 := k1.size
  clear k1
  go_wp2_with fail
  refine (hasSign_any n2 _).mono ?_
  rintro e w3 ⟨rfl, k3⟩
  replace KA := KA.trans k3
  replace K := hide ((unhide K).trans k3)
  have z4 := k3.size
  clear k3
  clear g1 g2
  go_wp2_with fail
  refine (is_nan_num n1 m1 e1 _).mono ?_
  rintro e w5 ⟨rfl, k5⟩
  replace KA := KA.trans k5
  replace K := hide ((unhide K).trans k5)
  have z6 := k5.size
  clear k5
  go_wp2_with fail
  refine (is_nan_nought n2 _).mono ?_
  rintro e w7 ⟨rfl, k7⟩
  replace KA := KA.trans k7
  replace K := hide ((unhide K).trans k7)
  have z8 := k7.size
  clear k7
  go_wp2_with fail
  refine (is_inf_num n1 m1 e1 _).mono ?_
  rintro e w9 ⟨rfl, k9⟩
  replace KA := KA.trans k9
  replace K := hide ((unhide K).trans k9)
  have z10 := k9.size
  clear k9
  go_wp2_with fail
  refine (is_nought_num n1 m1 e1 _).mono ?_
  rintro e w11 ⟨rfl, k11⟩
  replace KA := KA.trans k11
  replace K := hide ((unhide K).trans k11)
  have z12 := k11.size
  clear k11
  go_wp2_with fail
  refine (is_inf_num n1 m1 e1 _).mono ?_
  rintro e w13 ⟨rfl, k13⟩
  replace KA := KA.trans k13
  replace K := hide ((unhide K).trans k13)
  have z14 := k13.size
  clear k13
  go_wp2_with fail
  refine (is_inf_nought n2 _).mono ?_
  rintro e w15 ⟨rfl, k15⟩
  replace KA := KA.trans k15
  replace K := hide ((unhide K).trans k15)
  have z16 := k15.size
  clear k15
  go_wp2_with fail
  refine (is_nought_num n1 m1 e1 _).mono ?_
  rintro e w17 ⟨rfl, k17⟩
  replace KA := KA.trans k17
  replace K := hide ((unhide K).trans k17)
  have z18 := k17.size
  clear k17
  go_wp2_with fail
  refine (is_nought_nought n2 _).mono ?_
  rintro e w19 ⟨rfl, k19⟩
  replace KA := KA.trans k19
  replace K := hide ((unhide K).trans k19)
  have z20 := k19.size
  clear k19
  replace qf0 := KA.loose0 (zbl q0) qf0
  replace qf1 := KA.loose0 (zbl q1) qf1
  replace qf2 := KA.loose0 (zbl q2) qf2
  replace qf3 := KA.loose0 (zbl q3) qf3
  replace q0 := KA.cell0 q0
  replace q1 := KA.cell0 q1
  replace q2 := KA.cell0 q2
  replace q3 := KA.cell0 q3
  have hne : (n1 != n2) = !(n1 == n2) := rfl
  have KF := hide (((((unhide K).setNew (p := ⟨w.heap.size, 0, none⟩) (by simp) (.int .i64 2)).setNew (p := ⟨w.heap.size, 1, none⟩) (by simp) (.bool (!(n1 == n2)))).setNew (p := ⟨w.heap.size, 2, none⟩) (by simp) (.int .i64 0)).setNew (p := ⟨w.heap.size, 3, none⟩) (by simp) (.int .i64 0))
  clear K
  try go_wp2_with fail
  exact bodyPost_ret (v := .tuple #[.agg #[.int .i64 2, .bool (!(n1 == n2)), .int .i64 0, .int .i64 0], .int .i64 8]) (by simp [results, Tryd.results21, go_sem, q0, q1, q2, q3]) rfl ⟨by rw [unhide FQ], unhide KF⟩

set_option maxHeartbeats 2000000 in
theorem divI_num_inf (n1 : Bool) (m1 e1 : Int) (n2 : Bool) (a11 : -1074 ≤ e1) (a21 : e1 ≤ 971) (a31 : 1 ≤ m1) (a41 : m1 ≤ 9007199254740991) (mode : Int) (hm0 : 0 ≤ mode) (hm4 : mode ≤ 4) (w : World) :
    Calls Tryd.prog 21 #[.iface 81 (.agg #[.bool n1, .int .i64 m1, .int .i64 e1]), .iface 82 (.agg #[.bool n2]), .int .i64 mode] w fun e' w' => e' = .returned (.tuple #[flq (dvQ 1 n1 m1 e1 2 n2 0 0 mode).1, .int .i64 (dvQ 1 n1 m1 e1 2 n2 0 0 mode).2]) ∧ Kept 0 0 w w' := by
  obtain ⟨Q, hQ⟩ : ∃ q, dvQ 1 n1 m1 e1 2 n2 0 0 mode = q := ⟨_, rfl⟩
  rw [hQ]
  have HQ := hide hQ
  clear hQ
  have FQ : Hid (Q = ((0, !(n1 == n2), 0, 0), 0)) := by show _ = _; rw [← unhide HQ]; unfold dvQ; simp
  have g1 := fun w => hs_num n1 m1 e1 w
  have g2 := fun w => hs_inf n2 w
  obtain ⟨Wn, hn0⟩ : ∃ wz, wz = (w.alloc (.cells #[.int .i64 0, .bool false, .int .i64 0, .int .i64 0] 24)) := ⟨_, rfl⟩
  have k0 : Kept 0 0 w Wn := by rw [hn0]; exact ((Kept.refl 0 0 w).alloc _)
  have q0 : Wn.cell? ⟨w.heap.size, 0, none⟩ = some (.int .i64 0) := by rw [hn0]; exact new_cell2 _ _ _ _ _ _ (by simp) rfl
  have qf0 : Wn.frozen? ⟨w.heap.size, 0, none⟩ = false := by rw [hn0]; exact new_loose2 _ _ _ _ _ (by simp)
  have q1 : Wn.cell? ⟨w.heap.size, 1, none⟩ = some (.bool false) := by rw [hn0]; exact new_cell2 _ _ _ _ _ _ (by simp) rfl
  have qf1 : Wn.frozen? ⟨w.heap.size, 1, none⟩ = false := by rw [hn0]; exact new_loose2 _ _ _ _ _ (by simp)
  have q2 : Wn.cell? ⟨w.heap.size, 2, none⟩ = some (.int .i64 0) := by rw [hn0]; exact new_cell2 _ _ _ _ _ _ (by simp) rfl
  have qf2 : Wn.frozen? ⟨w.heap.size, 2, none⟩ = false := by rw [hn0]; exact new_loose2 _ _ _ _ _ (by simp)
  have q3 : Wn.cell? ⟨w.heap.size, 3, none⟩ = some (.int .i64 0) := by rw [hn0]; exact new_cell2 _ _ _ _ _ _ (by simp) rfl
  have qf3 : Wn.frozen? ⟨w.heap.size, 3, none⟩ = false := by rw [hn0]; exact new_loose2 _ _ _ _ _ (by simp)
  have s0 : Wn.heap.size = w.heap.size + 1 := by rw [hn0]; exact by simp
  subst hn0
  have K := hide (k0)
  clear k0
  have S0 := hide s0
  clear s0
  go_enter Tryd.func21, Tryd.ntmps21
  go_wp2_with fail
  generalize (w.alloc (.cells #[.int .i64 0, .bool false, .int .i64 0, .int .i64 0] 24)) = W at *
  have KA : Kept 0 0 W W := Kept.refl 0 0 W
  refine (hasSign_any n1 _).mono ?_
  rintro e w1 ⟨rfl, k1⟩
  replace KA := KA.trans k1
  replace K := hide ((unhide K).trans k1)
  have z2 := k1.size
  clear k1
  go_wp2_with fail
  refine (hasSign_any n2 _).mono ?_
  rintro e w3 ⟨rfl, k3⟩
  replace KA := KA.trans k3
  replace K := hide ((unhide K).trans k3)
  have z4 := k3.size
  clear k3
  clear g1 g2
  go_wp2_with fail
  refine (is_nan_num n1 m1 e1 _).mono ?_
  rintro e w5 ⟨rfl, k5⟩
  replace KA := KA.trans k5
  replace K := hide ((unhide K).trans k5)
  have z6 := k5.size
  clear k5
  go_wp2_with fail
  refine (is_nan_inf n2 _).mono ?_
  rintro e w7 ⟨rfl, k7⟩
  replace KA := KA.trans k7
  replace K := hide ((unhide K).trans k7)
  have z8 := k7.size
  clear k7
  go_wp2_with fail
  refine (is_inf_num n1 m1 e1 _).mono ?_
  rintro e w9 ⟨rfl, k9⟩
  replace KA := KA.trans k9
  replace K := hide ((unhide K).trans k9)
  have z10 := k9.size
  clear k9
  go_wp2_with fail
  refine (is_nought_num n1 m1 e1 _).mono ?_
  rintro e w11 ⟨rfl, k11⟩
  replace KA := KA.trans k11
  replace K := hide ((unhide K).trans k11)
  have z12 := k11.size
  clear k11
  go_wp2_with fail
  refine (is_inf_num n1 m1 e1 _).mono ?_
  rintro e w13 ⟨rfl, k13⟩
  replace KA := KA.trans k13
  replace K := hide ((unhide K).trans k13)
  have z14 := k13.size
  clear k13
  go_wp2_with fail
  refine (is_inf_inf n2 _).mono ?_
  rintro e w15 ⟨rfl, k15⟩
  replace KA := KA.trans k15
  replace K := hide ((unhide K).trans k15)
  have z16 := k15.size
  clear k15
  replace qf0 := KA.loose0 (zbl q0) qf0
  replace qf1 := KA.loose0 (zbl q1) qf1
  replace qf2 := KA.loose0 (zbl q2) qf2
  replace qf3 := KA.loose0 (zbl q3) qf3
  replace q0 := KA.cell0 q0
  replace q1 := KA.cell0 q1
  replace q2 := KA.cell0 q2
  replace q3 := KA.cell0 q3
  have hne : (n1 != n2) = !(n1 == n2) := rfl
  have KF := hide (((((unhide K).setNew (p := ⟨w.heap.size, 0, none⟩) (by simp) (.int .i64 0)).setNew (p := ⟨w.heap.size, 1, none⟩) (by simp) (.bool (!(n1 == n2)))).setNew (p := ⟨w.heap.size, 2, none⟩) (by simp) (.int .i64 0)).setNew (p := ⟨w.heap.size, 3, none⟩) (by simp) (.int .i64 0))
  clear K
  try go_wp2_with fail
  exact bodyPost_ret (v := .tuple #[.agg #[.int .i64 0, .bool (!(n1 == n2)), .int .i64 0, .int .i64 0], .int .i64 0]) (by simp [results, Tryd.results21, go_sem, q0, q1, q2, q3]) rfl ⟨by rw [unhide FQ], unhide KF⟩

set_option maxHeartbeats 2000000 in
theorem divI_num_nan (n1 : Bool) (m1 e1 : Int) (a11 : -1074 ≤ e1) (a21 : e1 ≤ 971) (a31 : 1 ≤ m1) (a41 : m1 ≤ 9007199254740991) (mode : Int) (hm0 : 0 ≤ mode) (hm4 : mode ≤ 4) (w : World) :
    Calls Tryd.prog 21 #[.iface 81 (.agg #[.bool n1, .int .i64 m1, .int .i64 e1]), .iface 83 (.agg #[.bool false]), .int .i64 mode] w fun e' w' => e' = .returned (.tuple #[flq (dvQ 1 n1 m1 e1 3 false 0 0 mode).1, .int .i64 (dvQ 1 n1 m1 e1 3 false 0 0 mode).2]) ∧ Kept 0 0 w w' := by
  obtain ⟨Q, hQ⟩ : ∃ q, dvQ 1 n1 m1 e1 3 false 0 0 mode = q := ⟨_, rfl⟩
  rw [hQ]
  have HQ := hide hQ
  clear hQ
  have FQ : Hid (Q = ((3, false, 0, 0), 0)) := by show _ = _; rw [← unhide HQ]; unfold dvQ; simp
  have g1 := fun w => hs_num n1 m1 e1 w
  have g2 := fun w => hs_nan w
  obtain ⟨Wn, hn0⟩ : ∃ wz, wz = (w.alloc (.cells #[.int .i64 0, .bool false, .int .i64 0, .int .i64 0] 24)) := ⟨_, rfl⟩
  have k0 : Kept 0 0 w Wn := by rw [hn0]; exact ((Kept.refl 0 0 w).alloc _)
  have q0 : Wn.cell? ⟨w.heap.size, 0, none⟩ = some (.int .i64 0) := by rw [hn0]; exact new_cell2 _ _ _ _ _ _ (by simp) rfl
  have qf0 : Wn.frozen? ⟨w.heap.size, 0, none⟩ = false := by rw [hn0]; exact new_loose2 _ _ _ _ _ (by simp)
  have q1 : Wn.cell? ⟨w.heap.size, 1, none⟩ = some (.bool false) := by rw [hn0]; exact new_cell2 _ _ _ _ _ _ (by simp) rfl
  have qf1 : Wn.frozen? ⟨w.heap.size, 1, none⟩ = false := by rw [hn0]; exact new_loose2 _ _ _ _ _ (by simp)
  have q2 : Wn.cell? ⟨w.heap.size, 2, none⟩ = some (.int .i64 0) := by rw [hn0]; exact new_cell2 _ _ _ _ _ _ (by simp) rfl
  have qf2 : Wn.frozen? ⟨w.heap.size, 2, none⟩ = false := by rw [hn0]; exact new_loose2 _ _ _ _ _ (by simp)
  have q3 : Wn.cell? ⟨w.heap.size, 3, none⟩ = some (.int .i64 0) := by rw [hn0]; exact new_cell2 _ _ _ _ _ _ (by simp) rfl
  have qf3 : Wn.frozen? ⟨w.heap.size, 3, none⟩ = false := by rw [hn0]; exact new_loose2 _ _ _ _ _ (by simp)
  have s0 : Wn.heap.size = w.heap.size + 1 := by rw [hn0]; exact by simp
  subst hn0
  have K := hide (k0)
  clear k0
  have S0 := hide s0
  clear s0
  go_enter Tryd.func21, Tryd.ntmps21
  go_wp2_with fail
  generalize (w.alloc (.cells #[.int .i64 0, .bool false, .int .i64 0, .int .i64 0] 24)) = W at *
  have KA : Kept 0 0 W W := Kept.refl 0 0 W
  refine (hasSign_any n1 _).mono ?_
  rintro e w1 ⟨rfl, k1⟩
  replace KA := KA.trans k1
  replace K := hide ((unhide K).trans k1)
  have z2 := k1.size
  clear k1
  go_wp2_with fail
  refine (hasSign_any false _).mono ?_
  rintro e w3 ⟨rfl, k3⟩
  replace KA := KA.trans k3
  replace K := hide ((unhide K).trans k3)
  have z4 := k3.size
  clear k3
  clear g1 g2
  go_wp2_with fail
  refine (is_nan_num n1 m1 e1 _).mono ?_
  rintro e w5 ⟨rfl, k5⟩
  replace KA := KA.trans k5
  replace K := hide ((unhide K).trans k5)
  have z6 := k5.size
  clear k5
  go_wp2_with fail
  refine (is_nan_nan _).mono ?_
  rintro e w7 ⟨rfl, k7⟩
  replace KA := KA.trans k7
  replace K := hide ((unhide K).trans k7)
  have z8 := k7.size
  clear k7
  replace qf0 := KA.loose0 (zbl q0) qf0
  replace qf1 := KA.loose0 (zbl q1) qf1
  replace qf2 := KA.loose0 (zbl q2) qf2
  replace qf3 := KA.loose0 (zbl q3) qf3
  replace q0 := KA.cell0 q0
  replace q1 := KA.cell0 q1
  replace q2 := KA.cell0 q2
  replace q3 := KA.cell0 q3
  have KF := hide (((((unhide K).setNew (p := ⟨w.heap.size, 0, none⟩) (by simp) (.int .i64 3)).setNew (p := ⟨w.heap.size, 1, none⟩) (by simp) (.bool false)).setNew (p := ⟨w.heap.size, 2, none⟩) (by simp) (.int .i64 0)).setNew (p := ⟨w.heap.size, 3, none⟩) (by simp) (.int .i64 0))
  clear K
  try go_wp2_with fail
  exact bodyPost_ret (v := .tuple #[.agg #[.int .i64 3, .bool false, .int .i64 0, .int .i64 0], .int .i64 0]) (by simp [results, Tryd.results21, go_sem, q0, q1, q2, q3]) rfl ⟨by rw [unhide FQ], unhide KF⟩

set_option maxHeartbeats 2000000 in
theorem divI_nought_num (n1 : Bool) (n2 : Bool) (m2 e2 : Int) (a12 : -1074 ≤ e2) (a22 : e2 ≤ 971) (a32 : 1 ≤ m2) (a42 : m2 ≤ 9007199254740991) (mode : Int) (hm0 : 0 ≤ mode) (hm4 : mode ≤ 4) (w : World) :
    Calls Tryd.prog 21 #[.iface 79 (.agg #[.bool n1]), .iface 81 (.agg #[.bool n2, .int .i64 m2, .int .i64 e2]), .int .i64 mode] w fun e' w' => e' = .returned (.tuple #[flq (dvQ 0 n1 0 0 1 n2 m2 e2 mode).1, .int .i64 (dvQ 0 n1 0 0 1 n2 m2 e2 mode).2]) ∧ Kept 0 0 w w' := by
  obtain ⟨Q, hQ⟩ : ∃ q, dvQ 0 n1 0 0 1 n2 m2 e2 mode = q := ⟨_, rfl⟩
  rw [hQ]
  have HQ := hide hQ
  clear hQ
  have FQ : Hid (Q = ((0, !(n1 == n2), 0, 0), 0)) := by show _ = _; rw [← unhide HQ]; unfold dvQ; simp
  have g1 := fun w => hs_nought n1 w
  have g2 := fun w => hs_num n2 m2 e2 w
  obtain ⟨Wn, hn0⟩ : ∃ wz, wz = (w.alloc (.cells #[.int .i64 0, .bool false, .int .i64 0, .int .i64 0] 24)) := ⟨_, rfl⟩
  have k0 : Kept 0 0 w Wn := by rw [hn0]; exact ((Kept.refl 0 0 w).alloc _)
  have q0 : Wn.cell? ⟨w.heap.size, 0, none⟩ = some (.int .i64 0) := by rw [hn0]; exact new_cell2 _ _ _ _ _ _ (by simp) rfl
  have qf0 : Wn.frozen? ⟨w.heap.size, 0, none⟩ = false := by rw [hn0]; exact new_loose2 _ _ _ _ _ (by simp)
  have q1 : Wn.cell? ⟨w.heap.size, 1, none⟩ = some (.bool false) := by rw [hn0]; exact new_cell2 _ _ _ _ _ _ (by simp) rfl
  have qf1 : Wn.frozen? ⟨w.heap.size, 1, none⟩ = false := by rw [hn0]; exact new_loose2 _ _ _ _ _ (by simp)
  have q2 : Wn.cell? ⟨w.heap.size, 2, none⟩ = some (.int .i64 0) := by rw [hn0]; exact new_cell2 _ _ _ _ _ _ (by simp) rfl
  have qf2 : Wn.frozen? ⟨w.heap.size, 2, none⟩ = false := by rw [hn0]; exact new_loose2 _ _ _ _ _ (by simp)
  have q3 : Wn.cell? ⟨w.heap.size, 3, none⟩ = some (.int .i64 0) := by rw [hn0]; exact new_cell2 _ _ _ _ _ _ (by simp) rfl
  have qf3 : Wn.frozen? ⟨w.heap.size, 3, none⟩ = false := by rw [hn0]; exact new_loose2 _ _ _ _ _ (by simp)
  have s0 : Wn.heap.size = w.heap.size + 1 := by rw [hn0]; exact by simp
  subst hn0
  have K := hide (k0)
  clear k0
  have S0 := hide s0
  clear s0
  go_enter Tryd.func21, Tryd.ntmps21
  go_wp2_with fail
  generalize (w.alloc (.cells #[.int .i64 0, .bool false, .int .i64 0, .int .i64 0] 24)) = W at *
  have KA : Kept 0 0 W W := Kept.refl 0 0 W
  refine (hasSign_any n1 _).mono ?_
  rintro e w1 ⟨rfl, k1⟩
  replace KA := KA.trans k1
  replace K := hide ((unhide K).trans k1)
  have z2 := k1.size
  clear k1
  go_wp2_with fail
  refine (hasSign_any n2 _).mono ?_
  rintro e w3 ⟨rfl, k3⟩
  replace KA := KA.trans k3
  replace K := hide ((unhide K).trans k3)
  have z4 := k3.size
  clear k3
  clear g1 g2
  go_wp2_with fail
  refine (is_nan_nought n1 _).mono ?_
  rintro e w5 ⟨rfl, k5⟩
  replace KA := KA.trans k5
  replace K := hide ((unhide K).trans k5)
  have z6 := k5.size
  clear k5
  go_wp2_with fail
  refine (is_nan_num n2 m2 e2 _).mono ?_
  rintro e w7 ⟨rfl, k7⟩
  replace KA := KA.trans k7
  replace K := hide ((unhide K).trans k7)
  have z8 := k7.size
  clear k7
  go_wp2_with fail
  refine (is_inf_nought n1 _).mono ?_
  rintro e w9 ⟨rfl, k9⟩
  replace KA := KA.trans k9
  replace K := hide ((unhide K).trans k9)
  have z10 := k9.size
  clear k9
  go_wp2_with fail
  refine (is_nought_nought n1 _).mono ?_
  rintro e w11 ⟨rfl, k11⟩
  replace KA := KA.trans k11
  replace K := hide ((unhide K).trans k11)
  have z12 := k11.size
  clear k11
  go_wp2_with fail
  refine (is_nought_num n2 m2 e2 _).mono ?_
  rintro e w13 ⟨rfl, k13⟩
  replace KA := KA.trans k13
  replace K := hide ((unhide K).trans k13)
  have z14 := k13.size
  clear k13
  go_wp2_with fail
  refine (is_inf_nought n1 _).mono ?_
  rintro e w15 ⟨rfl, k15⟩
  replace KA := KA.trans k15
  replace K := hide ((unhide K).trans k15)
  have z16 := k15.size
  clear k15
  go_wp2_with fail
  refine (is_inf_num n2 m2 e2 _).mono ?_
  rintro e w17 ⟨rfl, k17⟩
  replace KA := KA.trans k17
  replace K := hide ((unhide K).trans k17)
  have z18 := k17.size
  clear k17
  go_wp2_with fail
  refine (is_nought_nought n1 _).mono ?_
  rintro e w19 ⟨rfl, k19⟩
  replace KA := KA.trans k19
  replace K := hide ((unhide K).trans k19)
  have z20 := k19.size
  clear k19
  replace qf0 := KA.loose0 (zbl q0) qf0
  replace qf1 := KA.loose0 (zbl q1) qf1
  replace qf2 := KA.loose0 (zbl q2) qf2
  replace qf3 := KA.loose0 (zbl q3) qf3
  replace q0 := KA.cell0 q0
  replace q1 := KA.cell0 q1
  replace q2 := KA.cell0 q2
  replace q3 := KA.cell0 q3
  have hne : (n1 != n2) = !(n1 == n2) := rfl
  have KF := hide (((((unhide K).setNew (p := ⟨w.heap.size, 0, none⟩) (by simp) (.int .i64 0)).setNew (p := ⟨w.heap.size, 1, none⟩) (by simp) (.bool (!(n1 == n2)))).setNew (p := ⟨w.heap.size, 2, none⟩) (by simp) (.int .i64 0)).setNew (p := ⟨w.heap.size, 3, none⟩) (by simp) (.int .i64 0))
  clear K
  try go_wp2_with fail
  exact bodyPost_ret (v := .tuple #[.agg #[.int .i64 0, .bool (!(n1 == n2)), .int .i64 0, .int .i64 0], .int .i64 0]) (by simp [results, Tryd.results21, go_sem, q0, q1, q2, q3]) rfl ⟨by rw [unhide FQ], unhide KF⟩

set_option maxHeartbeats 2000000 in
theorem divI_nought_nought (n1 : Bool) (n2 : Bool) (mode : Int) (hm0 : 0 ≤ mode) (hm4 : mode ≤ 4) (w : World) :
    Calls Tryd.prog 21 #[.iface 79 (.agg #[.bool n1]), .iface 79 (.agg #[.bool n2]), .int .i64 mode] w fun e' w' => e' = .returned (.tuple #[flq (dvQ 0 n1 0 0 0 n2 0 0 mode).1, .int .i64 (dvQ 0 n1 0 0 0 n2 0 0 mode).2]) ∧ Kept 0 0 w w' := by
  obtain ⟨Q, hQ⟩ : ∃ q, dvQ 0 n1 0 0 0 n2 0 0 mode = q := ⟨_, rfl⟩
  rw [hQ]
  have HQ := hide hQ
  clear hQ
  have FQ : Hid (Q = ((3, false, 0, 0), 16)) := by show _ = _; rw [← unhide HQ]; unfold dvQ; simp
  have g1 := fun w => hs_nought n1 w
  have g2 := fun w => hs_nought n2 w
  obtain ⟨Wn, hn0⟩ : ∃ wz, wz = (w.alloc (.cells #[.int .i64 0, .bool false, .int .i64 0, .int .i64 0] 24)) := ⟨_, rfl⟩
  have k0 : Kept 0 0 w Wn := by rw [hn0]; exact ((Kept.refl 0 0 w).alloc _)
  have q0 : Wn.cell? ⟨w.heap.size, 0, none⟩ = some (.int .i64 0) := by rw [hn0]; exact new_cell2 _ _ _ _ _ _ (by simp) rfl
  have qf0 : Wn.frozen? ⟨w.heap.size, 0, none⟩ = false := by rw [hn0]; exact new_loose2 _ _ _ _ _ (by simp)
  have q1 : Wn.cell? ⟨w.heap.size, 1, none⟩ = some (.bool false) := by rw [hn0]; exact new_cell2 _ _ _ _ _ _ (by simp) rfl
  have qf1 : Wn.frozen? ⟨w.heap.size, 1, none⟩ = false := by rw [hn0]; exact new_loose2 _ _ _ _ _ (by simp)
  have q2 : Wn.cell? ⟨w.heap.size, 2, none⟩ = some (.int .i64 0) := by rw [hn0]; exact new_cell2 _ _ _ _ _ _ (by simp) rfl
  have qf2 : Wn.frozen? ⟨w.heap.size, 2, none⟩ = false := by rw [hn0]; exact new_loose2 _ _ _ _ _ (by simp)
  have q3 : Wn.cell? ⟨w.heap.size, 3, none⟩ = some (.int .i64 0) := by rw [hn0]; exact new_cell2 _ _ _ _ _ _ (by simp) rfl
  have qf3 : Wn.frozen? ⟨w.heap.size, 3, none⟩ = false := by rw [hn0]; exact new_loose2 _ _ _ _ _ (by simp)
  have s0 : Wn.heap.size = w.heap.size + 1 := by rw [hn0]; exact by simp
  subst hn0
  have K := hide (k0)
  clear k0
  have S0 := hide s0
  clear s0
  go_enter Tryd.func21, Tryd.ntmps21
  go_wp2_with fail
  generalize (w.alloc (.cells #[.int .i64 0, .bool false, .int .i64 0, .int .i64 0] 24)) = W at *
  have KA : Kept 0 0 W W := Kept.refl 0 0 W
  refine (hasSign_any n1 _).mono ?_
  rintro e w1 ⟨rfl, k1⟩
  replace KA := KA.trans k1
  replace K := hide ((unhide K).trans k1)
  have z2 := k1.size
  clear k1
  go_wp2_with fail
  refine (hasSign_any n2 _).mono ?_
  rintro e w3 ⟨rfl, k3⟩
  replace KA := KA.trans k3
  replace K := hide ((unhide K).trans k3)
  have z4 := k3.size
  clear k3
  clear g1 g2
  go_wp2_with fail
  refine (is_nan_nought n1 _).mono ?_
  rintro e w5 ⟨rfl, k5⟩
  replace KA := KA.trans k5
  replace K := hide ((unhide K).trans k5)
  have z6 := k5.size
  clear k5
  go_wp2_with fail
  refine (is_nan_nought n2 _).mono ?_
  rintro e w7 ⟨rfl, k7⟩
  replace KA := KA.trans k7
  replace K := hide ((unhide K).trans k7)
  have z8 := k7.size
  clear k7
  go_wp2_with fail
  refine (is_inf_nought n1 _).mono ?_
  rintro e w9 ⟨rfl, k9⟩
  replace KA := KA.trans k9
  replace K := hide ((unhide K).trans k9)
  have z10 := k9.size
  clear k9
  go_wp2_with fail
  refine (is_nought_nought n1 _).mono ?_
  rintro e w11 ⟨rfl, k11⟩
  replace KA := KA.trans k11
  replace K := hide ((unhide K).trans k11)
  have z12 := k11.size
  clear k11
  go_wp2_with fail
  refine (is_nought_nought n2 _).mono ?_
  rintro e w13 ⟨rfl, k13⟩
  replace KA := KA.trans k13
  replace K := hide ((unhide K).trans k13)
  have z14 := k13.size
  clear k13
  go_wp2_with fail
  refine (badF_impl _).mono ?_
  rintro e w15 ⟨rfl, k15⟩
  replace KA := KA.trans k15
  replace K := hide ((unhide K).trans k15)
  have z16 := k15.size
  clear k15
  replace qf0 := KA.loose0 (zbl q0) qf0
  replace qf1 := KA.loose0 (zbl q1) qf1
  replace qf2 := KA.loose0 (zbl q2) qf2
  replace qf3 := KA.loose0 (zbl q3) qf3
  replace q0 := KA.cell0 q0
  replace q1 := KA.cell0 q1
  replace q2 := KA.cell0 q2
  replace q3 := KA.cell0 q3
  have KF := hide (((((unhide K).setNew (p := ⟨w.heap.size, 0, none⟩) (by simp) (.int .i64 3)).setNew (p := ⟨w.heap.size, 1, none⟩) (by simp) (.bool false)).setNew (p := ⟨w.heap.size, 2, none⟩) (by simp) (.int .i64 0)).setNew (p := ⟨w.heap.size, 3, none⟩) (by simp) (.int .i64 0))
  clear K
  try go_wp2_with fail
  exact bodyPost_ret (v := .tuple #[.agg #[.int .i64 3, .bool false, .int .i64 0, .int .i64 0], .int .i64 16]) (by simp [results, Tryd.results21, go_sem, q0, q1, q2, q3]) rfl ⟨by rw [unhide FQ], unhide KF⟩

set_option maxHeartbeats 2000000 in
theorem divI_nought_inf (n1 : Bool) (n2 : Bool) (mode : Int) (hm0 : 0 ≤ mode) (hm4 : mode ≤ 4) (w : World) :
    Calls Tryd.prog 21 #[.iface 79 (.agg #[.bool n1]), .iface 82 (.agg #[.bool n2]), .int .i64 mode] w fun e' w' => e' = .returned (.tuple #[flq (dvQ 0 n1 0 0 2 n2 0 0 mode).1, .int .i64 (dvQ 0 n1 0 0 2 n2 0 0 mode).2]) ∧ Kept 0 0 w w' := by
  obtain ⟨Q, hQ⟩ : ∃ q, dvQ 0 n1 0 0 2 n2 0 0 mode = q := ⟨_, rfl⟩
  rw [hQ]
  have HQ := hide hQ
  clear hQ
  have FQ : Hid (Q = ((0, !(n1 == n2), 0, 0), 0)) := by show _ = _; rw [← unhide HQ]; unfold dvQ; simp
  have g1 := fun w => hs_nought n1 w
  have g2 := fun w => hs_inf n2 w
  obtain ⟨Wn, hn0⟩ : ∃ wz, wz = (w.alloc (.cells #[.int .i64 0, .bool false, .int .i64 0, .int .i64 0] 24)) := ⟨_, rfl⟩
  have k0 : Kept 0 0 w Wn := by rw [hn0]; exact ((Kept.refl 0 0 w).alloc _)
  have q0 : Wn.cell? ⟨w.heap.size, 0, none⟩ = some (.int .i64 0) := by rw [hn0]; exact new_cell2 _ _ _ _ _ _ (by simp) rfl
  have qf0 : Wn.frozen? ⟨w.heap.size, 0, none⟩ = false := by rw [hn0]; exact new_loose2 _ _ _ _ _ (by simp)
  have q1 : Wn.cell? ⟨w.heap.size, 1, none⟩ = some (.bool false) := by rw [hn0]; exact new_cell2 _ _ _ _ _ _ (by simp) rfl
  have qf1 : Wn.frozen? ⟨w.heap.size, 1, none⟩ = false := by rw [hn0]; exact new_loose2 _ _ _ _ _ (by simp)
  have q2 : Wn.cell? ⟨w.heap.size, 2, none⟩ = some (.int .i64 0) := by rw [hn0]; exact new_cell2 _ _ _ _ _ _ (by simp) rfl
  have qf2 : Wn.frozen? ⟨w.heap.size, 2, none⟩ = false := by rw [hn0]; exact new_loose2 _ _ _ _ _ (by simp)
  have q3 : Wn.cell? ⟨w.heap.size, 3, none⟩ = some (.int .i64 0) := by rw [hn0]; exact new_cell2 _ _ _ _ _ _ (by simp) rfl
  have qf3 : Wn.frozen? ⟨w.heap.size, 3, none⟩ = false := by rw [hn0]; exact new_loose2 _ _ _ _ _ (by simp)
  have s0 : Wn.heap.size = w.heap.size + 1 := by rw [hn0]; exact by simp
  subst hn0
  have K := hide (k0)
  clear k0
  have S0 := hide s0
  clear s0
  go_enter Tryd.func21, Tryd.ntmps21
  go_wp2_with fail
  generalize (w.alloc (.cells #[.int .i64 0, .bool false, .int .i64 0, .int .i64 0] 24)) = W at *
  have KA : Kept 0 0 W W := Kept.refl 0 0 W
  refine (hasSign_any n1 _).mono ?_
  rintro e w1 ⟨rfl, k1⟩
  replace KA := KA.trans k1
  replace K := hide ((unhide K).trans k1)
  have z2 := k1.size
  clear k1
  go_wp2_with fail
  refine (hasSign_any n2 _).mono ?_
  rintro e w3 ⟨rfl, k3⟩
  replace KA := KA.trans k3
  replace K := hide ((unhide K).trans k3)
  have z4 := k3.size
  clear k3
  clear g1 g2
  go_wp2_with fail
  refine (is_nan_nought n1 _).mono ?_
  rintro e w5 ⟨rfl, k5⟩
  replace KA := KA.trans k5
  replace K := hide ((unhide K).trans k5)
  have z6 := k5.size
  clear k5
  go_wp2_with fail
  refine (is_nan_inf n2 _).mono ?_
  rintro e w7 ⟨rfl, k7⟩
  replace KA := KA.trans k7
  replace K := hide ((unhide K).trans k7)
  have z8 := k7.size
  clear k7
  go_wp2_with fail
  refine (is_inf_nought n1 _).mono ?_
  rintro e w9 ⟨rfl, k9⟩
  replace KA := KA.trans k9
  replace K := hide ((unhide K).trans k9)
  have z10 := k9.size
  clear k9
  go_wp2_with fail
  refine (is_nought_nought n1 _).mono ?_
  rintro e w11 ⟨rfl, k11⟩
  replace KA := KA.trans k11
  replace K := hide ((unhide K).trans k11)
  have z12 := k11.size
  clear k11
  go_wp2_with fail
  refine (is_nought_inf n2 _).mono ?_
  rintro e w13 ⟨rfl, k13⟩
  replace KA := KA.trans k13
  replace K := hide ((unhide K).trans k13)
  have z14 := k13.size
  clear k13
  go_wp2_with fail
  refine (is_inf_nought n1 _).mono ?_
  rintro e w15 ⟨rfl, k15⟩
  replace KA := KA.trans k15
  replace K := hide ((unhide K).trans k15)
  have z16 := k15.size
  clear k15
  go_wp2_with fail
  refine (is_inf_inf n2 _).mono ?_
  rintro e w17 ⟨rfl, k17⟩
  replace KA := KA.trans k17
  replace K := hide ((unhide K).trans k17)
  have z18 := k17.size
  clear k17
  replace qf0 := KA.loose0 (zbl q0) qf0
  replace qf1 := KA.loose0 (zbl q1) qf1
  replace qf2 := KA.loose0 (zbl q2) qf2
  replace qf3 := KA.loose0 (zbl q3) qf3
  replace q0 := KA.cell0 q0
  replace q1 := KA.cell0 q1
  replace q2 := KA.cell0 q2
  replace q3 := KA.cell0 q3
  have hne : (n1 != n2) = !(n1 == n2) := rfl
  have KF := hide (((((unhide K).setNew (p := ⟨w.heap.size, 0, none⟩) (by simp) (.int .i64 0)).setNew (p := ⟨w.heap.size, 1, none⟩) (by simp) (.bool (!(n1 == n2)))).setNew (p := ⟨w.heap.size, 2, none⟩) (by simp) (.int .i64 0)).setNew (p := ⟨w.heap.size, 3, none⟩) (by simp) (.int .i64 0))
  clear K
  try go_wp2_with fail
  exact bodyPost_ret (v := .tuple #[.agg #[.int .i64 0, .bool (!(n1 == n2)), .int .i64 0, .int .i64 0], .int .i64 0]) (by simp [results, Tryd.results21, go_sem, q0, q1, q2, q3]) rfl ⟨by rw [unhide FQ], unhide KF⟩

set_option maxHeartbeats 2000000 in
theorem divI_nought_nan (n1 : Bool) (mode : Int) (hm0 : 0 ≤ mode) (hm4 : mode ≤ 4) (w : World) :
    Calls Tryd.prog 21 #[.iface 79 (.agg #[.bool n1]), .iface 83 (.agg #[.bool false]), .int .i64 mode] w fun e' w' => e' = .returned (.tuple #[flq (dvQ 0 n1 0 0 3 false 0 0 mode).1, .int .i64 (dvQ 0 n1 0 0 3 false 0 0 mode).2]) ∧ Kept 0 0 w w' := by
  obtain ⟨Q, hQ⟩ : ∃ q, dvQ 0 n1 0 0 3 false 0 0 mode = q := ⟨_, rfl⟩
  rw [hQ]
  have HQ := hide hQ
  clear hQ
  have FQ : Hid (Q = ((3, false, 0, 0), 0)) := by show _ = _; rw [← unhide HQ]; unfold dvQ; simp
  have g1 := fun w => hs_nought n1 w
  have g2 := fun w => hs_nan w
  obtain ⟨Wn, hn0⟩ : ∃ wz, wz = (w.alloc (.cells #[.int .i64 0, .bool false, .int .i64 0, .int .i64 0] 24)) := ⟨_, rfl⟩
  have k0 : Kept 0 0 w Wn := by rw [hn0]; exact ((Kept.refl 0 0 w).alloc _)
  have q0 : Wn.cell? ⟨w.heap.size, 0, none⟩ = some (.int .i64 0) := by rw [hn0]; exact new_cell2 _ _ _ _ _ _ (by simp) rfl
  have qf0 : Wn.frozen? ⟨w.heap.size, 0, none⟩ = false := by rw [hn0]; exact new_loose2 _ _ _ _ _ (by simp)
  have q1 : Wn.cell? ⟨w.heap.size, 1, none⟩ = some (.bool false) := by rw [hn0]; exact new_cell2 _ _ _ _ _ _ (by simp) rfl
  have qf1 : Wn.frozen? ⟨w.heap.size, 1, none⟩ = false := by rw [hn0]; exact new_loose2 _ _ _ _ _ (by simp)
  have q2 : Wn.cell? ⟨w.heap.size, 2, none⟩ = some (.int .i64 0) := by rw [hn0]; exact new_cell2 _ _ _ _ _ _ (by simp) rfl
  have qf2 : Wn.frozen? ⟨w.heap.size, 2, none⟩ = false := by rw [hn0]; exact new_loose2 _ _ _ _ _ (by simp)
  have q3 : Wn.cell? ⟨w.heap.size, 3, none⟩ = some (.int .i64 0) := by rw [hn0]; exact new_cell2 _ _ _ _ _ _ (by simp) rfl
  have qf3 : Wn.frozen? ⟨w.heap.size, 3, none⟩ = false := by rw [hn0]; exact new_loose2 _ _ _ _ _ (by simp)
  have s0 : Wn.heap.size = w.heap.size + 1 := by rw [hn0]; exact by simp
  subst hn0
  have K := hide (k0)
  clear k0
  have S0 := hide s0
  clear s0
  go_enter Tryd.func21, Tryd.ntmps21
  go_wp2_with fail
  generalize (w.alloc (.cells #[.int .i64 0, .bool false, .int .i64 0, .int .i64 0] 24)) = W at *
  have KA : Kept 0 0 W W := Kept.refl 0 0 W
  refine (hasSign_any n1 _).mono ?_
  rintro e w1 ⟨rfl, k1⟩
  replace KA := KA.trans k1
  replace K := hide ((unhide K).trans k1)
  have z2 := k1.size
  clear k1
  go_wp2_with fail
  refine (hasSign_any false _).mono ?_
  rintro e w3 ⟨rfl, k3⟩
  replace KA := KA.trans k3
  replace K := hide ((unhide K).trans k3)
  have z4 := k3.size
  clear k3
  clear g1 g2
  go_wp2_with fail
  refine (is_nan_nought n1 _).mono ?_
  rintro e w5 ⟨rfl, k5⟩
  replace KA := KA.trans k5
  replace K := hide ((unhide K).trans k5)
  have z6 := k5.size
  clear k5
  go_wp2_with fail
  refine (is_nan_nan _).mono ?_
  rintro e w7 ⟨rfl, k7⟩
  replace KA := KA.trans k7
  replace K := hide ((unhide K).trans k7)
  have z8 := k7.size
  clear k7
  replace qf0 := KA.loose0 (zbl q0) qf0
  replace qf1 := KA.loose0 (zbl q1) qf1
  replace qf2 := KA.loose0 (zbl q2) qf2
  replace qf3 := KA.loose0 (zbl q3) qf3
  replace q0 := KA.cell0 q0
  replace q1 := KA.cell0 q1
  replace q2 := KA.cell0 q2
  replace q3 := KA.cell0 q3
  have KF := hide (((((unhide K).setNew (p := ⟨w.heap.size, 0, none⟩) (by simp) (.int .i64 3)).setNew (p := ⟨w.heap.size, 1, none⟩) (by simp) (.bool false)).setNew (p := ⟨w.heap.size, 2, none⟩) (by simp) (.int .i64 0)).setNew (p := ⟨w.heap.size, 3, none⟩) (by simp) (.int .i64 0))
  clear K
  try go_wp2_with fail
  exact bodyPost_ret (v := .tuple #[.agg #[.int .i64 3, .bool false, .int .i64 0, .int .i64 0], .int .i64 0]) (by simp [results, Tryd.results21, go_sem, q0, q1, q2, q3]) rfl ⟨by rw [unhide FQ], unhide KF⟩

set_option maxHeartbeats 2000000 in
theorem divI_inf_num (n1 : Bool) (n2 : Bool) (m2 e2 : Int) (a12 : -1074 ≤ e2) (a22 : e2 ≤ 971) (a32 : 1 ≤ m2) (a42 : m2 ≤ 9007199254740991) (mode : Int) (hm0 : 0 ≤ mode) (hm4 : mode ≤ 4) (w : World) :
    Calls Tryd.prog 21 #[.iface 82 (.agg #[.bool n1]), .iface 81 (.agg #[.bool n2, .int .i64 m2, .int .i64 e2]), .int .i64 mode] w fun e' w' => e' = .returned (.tuple #[flq (dvQ 2 n1 0 0 1 n2 m2 e2 mode).1, .int .i64 (dvQ 2 n1 0 0 1 n2 m2 e2 mode).2]) ∧ Kept 0 0 w w' := by
  obtain ⟨Q, hQ⟩ : ∃ q, dvQ 2 n1 0 0 1 n2 m2 e2 mode = q := ⟨_, rfl⟩
  rw [hQ]
  have HQ := hide hQ
  clear hQ
  have FQ : Hid (Q = ((2, !(n1 == n2), 0, 0), 0)) := by show _ = _; rw [← unhide HQ]; unfold dvQ; simp
  have g1 := fun w => hs_inf n1 w
  have g2 := fun w => hs_num n2 m2 e2 w
  obtain ⟨Wn, hn0⟩ : ∃ wz, wz = (w.alloc (.cells #[.int .i64 0, .bool false, .int .i64 0, .int .i64 0] 24)) := ⟨_, rfl⟩
  have k0 : Kept 0 0 w Wn := by rw [hn0]; exact ((Kept.refl 0 0 w).alloc _)
  have q0 : Wn.cell? ⟨w.heap.size, 0, none⟩ = some (.int .i64 0) := by rw [hn0]; exact new_cell2 _ _ _ _ _ _ (by simp) rfl
  have qf0 : Wn.frozen? ⟨w.heap.size, 0, none⟩ = false := by rw [hn0]; exact new_loose2 _ _ _ _ _ (by simp)
  have q1 : Wn.cell? ⟨w.heap.size, 1, none⟩ = some (.bool false) := by rw [hn0]; exact new_cell2 _ _ _ _ _ _ (by simp) rfl
  have qf1 : Wn.frozen? ⟨w.heap.size, 1, none⟩ = false := by rw [hn0]; exact new_loose2 _ _ _ _ _ (by simp)
  have q2 : Wn.cell? ⟨w.heap.size, 2, none⟩ = some (.int .i64 0) := by rw [hn0]; exact new_cell2 _ _ _ _ _ _ (by simp) rfl
  have qf2 : Wn.frozen? ⟨w.heap.size, 2, none⟩ = false := by rw [hn0]; exact new_loose2 _ _ _ _ _ (by simp)
  have q3 : Wn.cell? ⟨w.heap.size, 3, none⟩ = some (.int .i64 0) := by rw [hn0]; exact new_cell2 _ _ _ _ _ _ (by simp) rfl
  have qf3 : Wn.frozen? ⟨w.heap.size, 3, none⟩ = false := by rw [hn0]; exact new_loose2 _ _ _ _ _ (by simp)
  have s0 : Wn.heap.size = w.heap.size + 1 := by rw [hn0]; exact by simp
  subst hn0
  have K := hide (k0)
  clear k0
  have S0 := hide s0
  clear s0
  go_enter Tryd.func21, Tryd.ntmps21
  go_wp2_with fail
  generalize (w.alloc (.cells #[.int .i64 0, .bool false, .int .i64 0, .int .i64 0] 24)) = W at *
  have KA : Kept 0 0 W W := Kept.refl 0 0 W
  refine (hasSign_any n1 _).mono ?_
  rintro e w1 ⟨rfl, k1⟩
  replace KA := KA.trans k1
  replace K := hide ((unhide K).trans k1)
  have z2 := k1.size
  clear k1
  go_wp2_with fail
  refine (hasSign_any n2 _).mono ?_
  rintro e w3 ⟨rfl, k3⟩
  replace KA := KA.trans k3
  replace K := hide ((unhide K).trans k3)
  have z4 := k3.size
  clear k3
  clear g1 g2
  go_wp2_with fail
  refine (is_nan_inf n1 _).mono ?_
  rintro e w5 ⟨rfl, k5⟩
  replace KA := KA.trans k5
  replace K := hide ((unhide K).trans k5)
  have z6 := k5.size
  clear k5
  go_wp2_with fail
  refine (is_nan_num n2 m2 e2 _).mono ?_
  rintro e w7 ⟨rfl, k7⟩
  replace KA := KA.trans k7
  replace K := hide ((unhide K).trans k7)
  have z8 := k7.size
  clear k7
  go_wp2_with fail
  refine (is_inf_inf n1 _).mono ?_
  rintro e w9 ⟨rfl, k9⟩
  replace KA := KA.trans k9
  replace K := hide ((unhide K).trans k9)
  have z10 := k9.size
  clear k9
  go_wp2_with fail
  refine (is_inf_num n2 m2 e2 _).mono ?_
  rintro e w11 ⟨rfl, k11⟩
  replace KA := KA.trans k11
  replace K := hide ((unhide K).trans k11)
  have z12 := k11.size
  clear k11
  go_wp2_with fail
  refine (is_nought_inf n1 _).mono ?_
  rintro e w13 ⟨rfl, k13⟩
  replace KA := KA.trans k13
  replace K := hide ((unhide K).trans k13)
  have z14 := k13.size
  clear k13
  go_wp2_with fail
  refine (is_inf_inf n1 _).mono ?_
  rintro e w15 ⟨rfl, k15⟩
  replace KA := KA.trans k15
  replace K := hide ((unhide K).trans k15)
  have z16 := k15.size
  clear k15
  replace qf0 := KA.loose0 (zbl q0) qf0
  replace qf1 := KA.loose0 (zbl q1) qf1
  replace qf2 := KA.loose0 (zbl q2) qf2
  replace qf3 := KA.loose0 (zbl q3) qf3
  replace q0 := KA.cell0 q0
  replace q1 := KA.cell0 q1
  replace q2 := KA.cell0 q2
  replace q3 := KA.cell0 q3
  have hne : (n1 != n2) = !(n1 == n2) := rfl
  have KF := hide (((((unhide K).setNew (p := ⟨w.heap.size, 0, none⟩) (by simp) (.int .i64 2)).setNew (p := ⟨w.heap.size, 1, none⟩) (by simp) (.bool (!(n1 == n2)))).setNew (p := ⟨w.heap.size, 2, none⟩) (by simp) (.int .i64 0)).setNew (p := ⟨w.heap.size, 3, none⟩) (by simp) (.int .i64 0))
  clear K
  try go_wp2_with fail
  exact bodyPost_ret (v := .tuple #[.agg #[.int .i64 2, .bool (!(n1 == n2)), .int .i64 0, .int .i64 0], .int .i64 0]) (by simp [results, Tryd.results21, go_sem, q0, q1, q2, q3]) rfl ⟨by rw [unhide FQ], unhide KF⟩

set_option maxHeartbeats 2000000 in
theorem divI_inf_nought (n1 : Bool) (n2 : Bool) (mode : Int) (hm0 : 0 ≤ mode) (hm4 : mode ≤ 4) (w : World) :
    Calls Tryd.prog 21 #[.iface 82 (.agg #[.bool n1]), .iface 79 (.agg #[.bool n2]), .int .i64 mode] w fun e' w' => e' = .returned (.tuple #[flq (dvQ 2 n1 0 0 0 n2 0 0 mode).1, .int .i64 (dvQ 2 n1 0 0 0 n2 0 0 mode).2]) ∧ Kept 0 0 w w' := by
  obtain ⟨Q, hQ⟩ : ∃ q, dvQ 2 n1 0 0 0 n2 0 0 mode = q := ⟨_, rfl⟩
  rw [hQ]
  have HQ := hide hQ
  clear hQ
  have FQ : Hid (Q = ((2, !(n1 == n2), 0, 0), 0)) := by show _ = _; rw [← unhide HQ]; unfold dvQ; simp
  have g1 := fun w => hs_inf n1 w
  have g2 := fun w => hs_nought n2 w
  obtain ⟨Wn, hn0⟩ : ∃ wz, wz = (w.alloc (.cells #[.int .i64 0, .bool false, .int .i64 0, .int .i64 0] 24)) := ⟨_, rfl⟩
  have k0 : Kept 0 0 w Wn := by rw [hn0]; exact ((Kept.refl 0 0 w).alloc _)
  have q0 : Wn.cell? ⟨w.heap.size, 0, none⟩ = some (.int .i64 0) := by rw [hn0]; exact new_cell2 _ _ _ _ _ _ (by simp) rfl
  have qf0 : Wn.frozen? ⟨w.heap.size, 0, none⟩ = false := by rw [hn0]; exact new_loose2 _ _ _ _ _ (by simp)
  have q1 : Wn.cell? ⟨w.heap.size, 1, none⟩ = some (.bool false) := by rw [hn0]; exact new_cell2 _ _ _ _ _ _ (by simp) rfl
  have qf1 : Wn.frozen? ⟨w.heap.size, 1, none⟩ = false := by rw [hn0]; exact new_loose2 _ _ _ _ _ (by simp)
  have q2 : Wn.cell? ⟨w.heap.size, 2, none⟩ = some (.int .i64 0) := by rw [hn0]; exact new_cell2 _ _ _ _ _ _ (by simp) rfl
  have qf2 : Wn.frozen? ⟨w.heap.size, 2, none⟩ = false := by rw [hn0]; exact new_loose2 _ _ _ _ _ (by simp)
  have q3 : Wn.cell? ⟨w.heap.size, 3, none⟩ = some (.int .i64 0) := by rw [hn0]; exact new_cell2 _ _ _ _ _ _ (by simp) rfl
  have qf3 : Wn.frozen? ⟨w.heap.size, 3, none⟩ = false := by rw [hn0]; exact new_loose2 _ _ _ _ _ (by simp)
  have s0 : Wn.heap.size = w.heap.size + 1 := by rw [hn0]; exact by simp
  subst hn0
  have K := hide (k0)
  clear k0
  have S0 := hide s0
  clear s0
  go_enter Tryd.func21, Tryd.ntmps21
  go_wp2_with fail
  generalize (w.alloc (.cells #[.int .i64 0, .bool false, .int .i64 0, .int .i64 0] 24)) = W at *
  have KA : Kept 0 0 W W := Kept.refl 0 0 W
  refine (hasSign_any n1 _).mono ?_
  rintro e w1 ⟨rfl, k1⟩
  replace KA := KA.trans k1
  replace K := hide ((unhide K).trans k1)
  have z2 := k1.size
  clear k1
  go_wp2_with fail
  refine (hasSign_any n2 _).mono ?_
  rintro e w3 ⟨rfl, k3⟩
  replace KA := KA.trans k3
  replace K := hide ((unhide K).trans k3)
  have z4 := k3.size
  clear k3
  clear g1 g2
  go_wp2_with fail
  refine (is_nan_inf n1 _).mono ?_
  rintro e w5 ⟨rfl, k5⟩
  replace KA := KA.trans k5
  replace K := hide ((unhide K).trans k5)
  have z6 := k5.size
  clear k5
  go_wp2_with fail
  refine (is_nan_nought n2 _).mono ?_
  rintro e w7 ⟨rfl, k7⟩
  replace KA := KA.trans k7
  replace K := hide ((unhide K).trans k7)
  have z8 := k7.size
  clear k7
  go_wp2_with fail
  refine (is_inf_inf n1 _).mono ?_
  rintro e w9 ⟨rfl, k9⟩
  replace KA := KA.trans k9
  replace K := hide ((unhide K).trans k9)
  have z10 := k9.size
  clear k9
  go_wp2_with fail
  refine (is_inf_nought n2 _).mono ?_
  rintro e w11 ⟨rfl, k11⟩
  replace KA := KA.trans k11
  replace K := hide ((unhide K).trans k11)
  have z12 := k11.size
  clear k11
  go_wp2_with fail
  refine (is_nought_inf n1 _).mono ?_
  rintro e w13 ⟨rfl, k13⟩
  replace KA := KA.trans k13
  replace K := hide ((unhide K).trans k13)
  have z14 := k13.size
  clear k13
  go_wp2_with fail
  refine (is_inf_inf n1 _).mono ?_
  rintro e w15 ⟨rfl, k15⟩
  replace KA := KA.trans k15
  replace K := hide ((unhide K).trans k15)
  have z16 := k15.size
  clear k15
  replace qf0 := KA.loose0 (zbl q0) qf0
  replace qf1 := KA.loose0 (zbl q1) qf1
  replace qf2 := KA.loose0 (zbl q2) qf2
  replace qf3 := KA.loose0 (zbl q3) qf3
  replace q0 := KA.cell0 q0
  replace q1 := KA.cell0 q1
  replace q2 := KA.cell0 q2
  replace q3 := KA.cell0 q3
  have hne : (n1 != n2) = !(n1 == n2) := rfl
  have KF := hide (((((unhide K).setNew (p := ⟨w.heap.size, 0, none⟩) (by simp) (.int .i64 2)).setNew (p := ⟨w.heap.size, 1, none⟩) (by simp) (.bool (!(n1 == n2)))).setNew (p := ⟨w.heap.size, 2, none⟩) (by simp) (.int .i64 0)).setNew (p := ⟨w.heap.size, 3, none⟩) (by simp) (.int .i64 0))
  clear K
  try go_wp2_with fail
  exact bodyPost_ret (v := .tuple #[.agg #[.int .i64 2, .bool (!(n1 == n2)), .int .i64 0, .int .i64 0], .int .i64 0]) (by simp [results, Tryd.results21, go_sem, q0, q1, q2, q3]) rfl ⟨by rw [unhide FQ], unhide KF⟩

set_option maxHeartbeats 2000000 in
theorem divI_inf_inf (n1 : Bool) (n2 : Bool) (mode : Int) (hm0 : 0 ≤ mode) (hm4 : mode ≤ 4) (w : World) :
    Calls Tryd.prog 21 #[.iface 82 (.agg #[.bool n1]), .iface 82 (.agg #[.bool n2]), .int .i64 mode] w fun e' w' => e' = .returned (.tuple #[flq (dvQ 2 n1 0 0 2 n2 0 0 mode).1, .int .i64 (dvQ 2 n1 0 0 2 n2 0 0 mode).2]) ∧ Kept 0 0 w w' := by
  obtain ⟨Q, hQ⟩ : ∃ q, dvQ 2 n1 0 0 2 n2 0 0 mode = q := ⟨_, rfl⟩
  rw [hQ]
  have HQ := hide hQ
  clear hQ
  have FQ : Hid (Q = ((3, false, 0, 0), 16)) := by show _ = _; rw [← unhide HQ]; unfold dvQ; simp
  have g1 := fun w => hs_inf n1 w
  have g2 := fun w => hs_inf n2 w
  obtain ⟨Wn, hn0⟩ : ∃ wz, wz = (w.alloc (.cells #[.int .i64 0, .bool false, .int .i64 0, .int .i64 0] 24)) := ⟨_, rfl⟩
  have k0 : Kept 0 0 w Wn := by rw [hn0]; exact ((Kept.refl 0 0 w).alloc _)
  have q0 : Wn.cell? ⟨w.heap.size, 0, none⟩ = some (.int .i64 0) := by rw [hn0]; exact new_cell2 _ _ _ _ _ _ (by simp) rfl
  have qf0 : Wn.frozen? ⟨w.heap.size, 0, none⟩ = false := by rw [hn0]; exact new_loose2 _ _ _ _ _ (by simp)
  have q1 : Wn.cell? ⟨w.heap.size, 1, none⟩ = some (.bool false) := by rw [hn0]; exact new_cell2 _ _ _ _ _ _ (by simp) rfl
  have qf1 : Wn.frozen? ⟨w.heap.size, 1, none⟩ = false := by rw [hn0]; exact new_loose2 _ _ _ _ _ (by simp)
  have q2 : Wn.cell? ⟨w.heap.size, 2, none⟩ = some (.int .i64 0) := by rw [hn0]; exact new_cell2 _ _ _ _ _ _ (by simp) rfl
  have qf2 : Wn.frozen? ⟨w.heap.size, 2, none⟩ = false := by rw [hn0]; exact new_loose2 _ _ _ _ _ (by simp)
  have q3 : Wn.cell? ⟨w.heap.size, 3, none⟩ = some (.int .i64 0) := by rw [hn0]; exact new_cell2 _ _ _ _ _ _ (by simp) rfl
  have qf3 : Wn.frozen? ⟨w.heap.size, 3, none⟩ = false := by rw [hn0]; exact new_loose2 _ _ _ _ _ (by simp)
  have s0 : Wn.heap.size = w.heap.size + 1 := by rw [hn0]; exact by simp
  subst hn0
  have K := hide (k0)
  clear k0
  have S0 := hide s0
  clear s0
  go_enter Tryd.func21, Tryd.ntmps21
  go_wp2_with fail
  generalize (w.alloc (.cells #[.int .i64 0, .bool false, .int .i64 0, .int .i64 0] 24)) = W at *
  have KA : Kept 0 0 W W := Kept.refl 0 0 W
  refine (hasSign_any n1 _).mono ?_
  rintro e w1 ⟨rfl, k1⟩
  replace KA := KA.trans k1
  replace K := hide ((unhide K).trans k1)
  have z2 := k1.size
  clear k1
  go_wp2_with fail
  refine (hasSign_any n2 _).mono ?_
  rintro e w3 ⟨rfl, k3⟩
  replace KA := KA.trans k3
  replace K := hide ((unhide K).trans k3)
  have z4 := k3.size
  clear k3
  clear g1 g2
  go_wp2_with fail
  refine (is_nan_inf n1 _).mono ?_
  rintro e w5 ⟨rfl, k5⟩
  replace KA := KA.trans k5
  replace K := hide ((unhide K).trans k5)
  have z6 := k5.size
  clear k5
  go_wp2_with fail
  refine (is_nan_inf n2 _).mono ?_
  rintro e w7 ⟨rfl, k7⟩
  replace KA := KA.trans k7
  replace K := hide ((unhide K).trans k7)
  have z8 := k7.size
  clear k7
  go_wp2_with fail
  refine (is_inf_inf n1 _).mono ?_
  rintro e w9 ⟨rfl, k9⟩
  replace KA := KA.trans k9
  replace K := hide ((unhide K).trans k9)
  have z10 := k9.size
  clear k9
  go_wp2_with fail
  refine (is_inf_inf n2 _).mono ?_
  rintro e w11 ⟨rfl, k11⟩
  replace KA := KA.trans k11
  replace K := hide ((unhide K).trans k11)
  have z12 := k11.size
  clear k11
  go_wp2_with fail
  refine (badF_impl _).mono ?_
  rintro e w13 ⟨rfl, k13⟩
  replace KA := KA.trans k13
  replace K := hide ((unhide K).trans k13)
  have z14 := k13.size
  clear k13
  replace qf0 := KA.loose0 (zbl q0) qf0
  replace qf1 := KA.loose0 (zbl q1) qf1
  replace qf2 := KA.loose0 (zbl q2) qf2
  replace qf3 := KA.loose0 (zbl q3) qf3
  replace q0 := KA.cell0 q0
  replace q1 := KA.cell0 q1
  replace q2 := KA.cell0 q2
  replace q3 := KA.cell0 q3
  have KF := hide (((((unhide K).setNew (p := ⟨w.heap.size, 0, none⟩) (by simp) (.int .i64 3)).setNew (p := ⟨w.heap.size, 1, none⟩) (by simp) (.bool false)).setNew (p := ⟨w.heap.size, 2, none⟩) (by simp) (.int .i64 0)).setNew (p := ⟨w.heap.size, 3, none⟩) (by simp) (.int .i64 0))
  clear K
  try go_wp2_with fail
  exact bodyPost_ret (v := .tuple #[.agg #[.int .i64 3, .bool false, .int .i64 0, .int .i64 0], .int .i64 16]) (by simp [results, Tryd.results21, go_sem, q0, q1, q2, q3]) rfl ⟨by rw [unhide FQ], unhide KF⟩

set_option maxHeartbeats 2000000 in
theorem divI_inf_nan (n1 : Bool) (mode : Int) (hm0 : 0 ≤ mode) (hm4 : mode ≤ 4) (w : World) :
    Calls Tryd.prog 21 #[.iface 82 (.agg #[.bool n1]), .iface 83 (.agg #[.bool false]), .int .i64 mode] w fun e' w' => e' = .returned (.tuple #[flq (dvQ 2 n1 0 0 3 false 0 0 mode).1, .int .i64 (dvQ 2 n1 0 0 3 false 0 0 mode).2]) ∧ Kept 0 0 w w' := by
  obtain ⟨Q, hQ⟩ : ∃ q, dvQ 2 n1 0 0 3 false 0 0 mode = q := ⟨_, rfl⟩
  rw [hQ]
  have HQ := hide hQ
  clear hQ
  have FQ : Hid (Q = ((3, false, 0, 0), 0)) := by show _ = _; rw [← unhide HQ]; unfold dvQ; simp
  have g1 := fun w => hs_inf n1 w
  have g2 := fun w => hs_nan w
  obtain ⟨Wn, hn0⟩ : ∃ wz, wz = (w.alloc (.cells #[.int .i64 0, .bool false, .int .i64 0, .int .i64 0] 24)) := ⟨_, rfl⟩
  have k0 : Kept 0 0 w Wn := by rw [hn0]; exact ((Kept.refl 0 0 w).alloc _)
  have q0 : Wn.cell? ⟨w.heap.size, 0, none⟩ = some (.int .i64 0) := by rw [hn0]; exact new_cell2 _ _ _ _ _ _ (by simp) rfl
  have qf0 : Wn.frozen? ⟨w.heap.size, 0, none⟩ = false := by rw [hn0]; exact new_loose2 _ _ _ _ _ (by simp)
  have q1 : Wn.cell? ⟨w.heap.size, 1, none⟩ = some (.bool false) := by rw [hn0]; exact new_cell2 _ _ _ _ _ _ (by simp) rfl
  have qf1 : Wn.frozen? ⟨w.heap.size, 1, none⟩ = false := by rw [hn0]; exact new_loose2 _ _ _ _ _ (by simp)
  have q2 : Wn.cell? ⟨w.heap.size, 2, none⟩ = some (.int .i64 0) := by rw [hn0]; exact new_cell2 _ _ _ _ _ _ (by simp) rfl
  have qf2 : Wn.frozen? ⟨w.heap.size, 2, none⟩ = false := by rw [hn0]; exact new_loose2 _ _ _ _ _ (by simp)
  have q3 : Wn.cell? ⟨w.heap.size, 3, none⟩ = some (.int .i64 0) := by rw [hn0]; exact new_cell2 _ _ _ _ _ _ (by simp) rfl
  have qf3 : Wn.frozen? ⟨w.heap.size, 3, none⟩ = false := by rw [hn0]; exact new_loose2 _ _ _ _ _ (by simp)
  have s0 : Wn.heap.size = w.heap.size + 1 := by rw [hn0]; exact by simp
  subst hn0
  have K := hide (k0)
  clear k0
  have S0 := hide s0
  clear s0
  go_enter Tryd.func21, Tryd.ntmps21
  go_wp2_with fail
  generalize (w.alloc (.cells #[.int .i64 0, .bool false, .int .i64 0, .int .i64 0] 24)) = W at *
  have KA : Kept 0 0 W W := Kept.refl 0 0 W
  refine (hasSign_any n1 _).mono ?_
  rintro e w1 ⟨rfl, k1⟩
  replace KA := KA.trans k1
  replace K := hide ((unhide K).trans k1)
  have z2 := k1.size
  clear k1
  go_wp2_with fail
  refine (hasSign_any false _).mono ?_
  rintro e w3 ⟨rfl, k3⟩
  replace KA := KA.trans k3
  replace K := hide ((unhide K).trans k3)
  have z4 := k3.size
  clear k3
  clear g1 g2
  go_wp2_with fail
  refine (is_nan_inf n1 _).mono ?_
  rintro e w5 ⟨rfl, k5⟩
  replace KA := KA.trans k5
  replace K := hide ((unhide K).trans k5)
  have z6 := k5.size
  clear k5
  go_wp2_with fail
  refine (is_nan_nan _).mono ?_
  rintro e w7 ⟨rfl, k7⟩
  replace KA := KA.trans k7
  replace K := hide ((unhide K).trans k7)
  have z8 := k7.size
  clear k7
  replace qf0 := KA.loose0 (zbl q0) qf0
  replace qf1 := KA.loose0 (zbl q1) qf1
  replace qf2 := KA.loose0 (zbl q2) qf2
  replace qf3 := KA.loose0 (zbl q3) qf3
  replace q0 := KA.cell0 q0
  replace q1 := KA.cell0 q1
  replace q2 := KA.cell0 q2
  replace q3 := KA.cell0 q3
  have KF := hide (((((unhide K).setNew (p := ⟨w.heap.size, 0, none⟩) (by simp) (.int .i64 3)).setNew (p := ⟨w.heap.size, 1, none⟩) (by simp) (.bool false)).setNew (p := ⟨w.heap.size, 2, none⟩) (by simp) (.int .i64 0)).setNew (p := ⟨w.heap.size, 3, none⟩) (by simp) (.int .i64 0))
  clear K
  try go_wp2_with fail
  exact bodyPost_ret (v := .tuple #[.agg #[.int .i64 3, .bool false, .int .i64 0, .int .i64 0], .int .i64 0]) (by simp [results, Tryd.results21, go_sem, q0, q1, q2, q3]) rfl ⟨by rw [unhide FQ], unhide KF⟩

set_option maxHeartbeats 2000000 in
theorem divI_nan_num (n2 : Bool) (m2 e2 : Int) (a12 : -1074 ≤ e2) (a22 : e2 ≤ 971) (a32 : 1 ≤ m2) (a42 : m2 ≤ 9007199254740991) (mode : Int) (hm0 : 0 ≤ mode) (hm4 : mode ≤ 4) (w : World) :
    Calls Tryd.prog 21 #[.iface 83 (.agg #[.bool false]), .iface 81 (.agg #[.bool n2, .int .i64 m2, .int .i64 e2]), .int .i64 mode] w fun e' w' => e' = .returned (.tuple #[flq (dvQ 3 false 0 0 1 n2 m2 e2 mode).1, .int .i64 (dvQ 3 false 0 0 1 n2 m2 e2 mode).2]) ∧ Kept 0 0 w w' := by
  obtain ⟨Q, hQ⟩ : ∃ q, dvQ 3 false 0 0 1 n2 m2 e2 mode = q := ⟨_, rfl⟩
  rw [hQ]
  have HQ := hide hQ
  clear hQ
  have FQ : Hid (Q = ((3, false, 0, 0), 0)) := by show _ = _; rw [← unhide HQ]; unfold dvQ; simp
  have g1 := fun w => hs_nan w
  have g2 := fun w => hs_num n2 m2 e2 w
  obtain ⟨Wn, hn0⟩ : ∃ wz, wz = (w.alloc (.cells #[.int .i64 0, .bool false, .int .i64 0, .int .i64 0] 24)) := ⟨_, rfl⟩
  have k0 : Kept 0 0 w Wn := by rw [hn0]; exact ((Kept.refl 0 0 w).alloc _)
  have q0 : Wn.cell? ⟨w.heap.size, 0, none⟩ = some (.int .i64 0) := by rw [hn0]; exact new_cell2 _ _ _ _ _ _ (by simp) rfl
  have qf0 : Wn.frozen? ⟨w.heap.size, 0, none⟩ = false := by rw [hn0]; exact new_loose2 _ _ _ _ _ (by simp)
  have q1 : Wn.cell? ⟨w.heap.size, 1, none⟩ = some (.bool false) := by rw [hn0]; exact new_cell2 _ _ _ _ _ _ (by simp) rfl
  have qf1 : Wn.frozen? ⟨w.heap.size, 1, none⟩ = false := by rw [hn0]; exact new_loose2 _ _ _ _ _ (by simp)
  have q2 : Wn.cell? ⟨w.heap.size, 2, none⟩ = some (.int .i64 0) := by rw [hn0]; exact new_cell2 _ _ _ _ _ _ (by simp) rfl
  have qf2 : Wn.frozen? ⟨w.heap.size, 2, none⟩ = false := by rw [hn0]; exact new_loose2 _ _ _ _ _ (by simp)
  have q3 : Wn.cell? ⟨w.heap.size, 3, none⟩ = some (.int .i64 0) := by rw [hn0]; exact new_cell2 _ _ _ _ _ _ (by simp) rfl
  have qf3 : Wn.frozen? ⟨w.heap.size, 3, none⟩ = false := by rw [hn0]; exact new_loose2 _ _ _ _ _ (by simp)
  have s0 : Wn.heap.size = w.heap.size + 1 := by rw [hn0]; exact by simp
  subst hn0
  have K := hide (k0)
  clear k0
  have S0 := hide s0
  clear s0
  go_enter Tryd.func21, Tryd.ntmps21
  go_wp2_with fail
  generalize (w.alloc (.cells #[.int .i64 0, .bool false, .int .i64 0, .int .i64 0] 24)) = W at *
  have KA : Kept 0 0 W W := Kept.refl 0 0 W
  refine (hasSign_any false _).mono ?_
  rintro e w1 ⟨rfl, k1⟩
  replace KA := KA.trans k1
  replace K := hide ((unhide K).trans k1)
  have z2 := k1.size
  clear k1
  go_wp2_with fail
  refine (hasSign_any n2 _).mono ?_
  rintro e w3 ⟨rfl, k3⟩
  replace KA := KA.trans k3
  replace K := hide ((unhide K).trans k3)
  have z4 := k3.size
  clear k3
  clear g1 g2
  go_wp2_with fail
  refine (is_nan_nan _).mono ?_
  rintro e w5 ⟨rfl, k5⟩
  replace KA := KA.trans k5
  replace K := hide ((unhide K).trans k5)
  have z6 := k5.size
  clear k5
  replace qf0 := KA.loose0 (zbl q0) qf0
  replace qf1 := KA.loose0 (zbl q1) qf1
  replace qf2 := KA.loose0 (zbl q2) qf2
  replace qf3 := KA.loose0 (zbl q3) qf3
  replace q0 := KA.cell0 q0
  replace q1 := KA.cell0 q1
  replace q2 := KA.cell0 q2
  replace q3 := KA.cell0 q3
  have KF := hide (((((unhide K).setNew (p := ⟨w.heap.size, 0, none⟩) (by simp) (.int .i64 3)).setNew (p := ⟨w.heap.size, 1, none⟩) (by simp) (.bool false)).setNew (p := ⟨w.heap.size, 2, none⟩) (by simp) (.int .i64 0)).setNew (p := ⟨w.heap.size, 3, none⟩) (by simp) (.int .i64 0))
  clear K
  try go_wp2_with fail
  exact bodyPost_ret (v := .tuple #[.agg #[.int .i64 3, .bool false, .int .i64 0, .int .i64 0], .int .i64 0]) (by simp [results, Tryd.results21, go_sem, q0, q1, q2, q3]) rfl ⟨by rw [unhide FQ], unhide KF⟩

set_option maxHeartbeats 2000000 in
theorem divI_nan_nought (n2 : Bool) (mode : Int) (hm0 : 0 ≤ mode) (hm4 : mode ≤ 4) (w : World) :
    Calls Tryd.prog 21 #[.iface 83 (.agg #[.bool false]), .iface 79 (.agg #[.bool n2]), .int .i64 mode] w fun e' w' => e' = .returned (.tuple #[flq (dvQ 3 false 0 0 0 n2 0 0 mode).1, .int .i64 (dvQ 3 false 0 0 0 n2 0 0 mode).2]) ∧ Kept 0 0 w w' := by
  obtain ⟨Q, hQ⟩ : ∃ q, dvQ 3 false 0 0 0 n2 0 0 mode = q := ⟨_, rfl⟩
  rw [hQ]
  have HQ := hide hQ
  clear hQ
  have FQ : Hid (Q = ((3, false, 0, 0), 0)) := by show _ = _; rw [← unhide HQ]; unfold dvQ; simp
  have g1 := fun w => hs_nan w
  have g2 := fun w => hs_nought n2 w
  obtain ⟨Wn, hn0⟩ : ∃ wz, wz = (w.alloc (.cells #[.int .i64 0, .bool false, .int .i64 0, .int .i64 0] 24)) := ⟨_, rfl⟩
  have k0 : Kept 0 0 w Wn := by rw [hn0]; exact ((Kept.refl 0 0 w).alloc _)
  have q0 : Wn.cell? ⟨w.heap.size, 0, none⟩ = some (.int .i64 0) := by rw [hn0]; exact new_cell2 _ _ _ _ _ _ (by simp) rfl
  have qf0 : Wn.frozen? ⟨w.heap.size, 0, none⟩ = false := by rw [hn0]; exact new_loose2 _ _ _ _ _ (by simp)
  have q1 : Wn.cell? ⟨w.heap.size, 1, none⟩ = some (.bool false) := by rw [hn0]; exact new_cell2 _ _ _ _ _ _ (by simp) rfl
  have qf1 : Wn.frozen? ⟨w.heap.size, 1, none⟩ = false := by rw [hn0]; exact new_loose2 _ _ _ _ _ (by simp)
  have q2 : Wn.cell? ⟨w.heap.size, 2, none⟩ = some (.int .i64 0) := by rw [hn0]; exact new_cell2 _ _ _ _ _ _ (by simp) rfl
  have qf2 : Wn.frozen? ⟨w.heap.size, 2, none⟩ = false := by rw [hn0]; exact new_loose2 _ _ _ _ _ (by simp)
  have q3 : Wn.cell? ⟨w.heap.size, 3, none⟩ = some (.int .i64 0) := by rw [hn0]; exact new_cell2 _ _ _ _ _ _ (by simp) rfl
  have qf3 : Wn.frozen? ⟨w.heap.size, 3, none⟩ = false := by rw [hn0]; exact new_loose2 _ _ _ _ _ (by simp)
  have s0 : Wn.heap.size = w.heap.size + 1 := by rw [hn0]; exact by simp
  subst hn0
  have K := hide (k0)
  clear k0
  have S0 := hide s0
  clear s0
  go_enter Tryd.func21, Tryd.ntmps21
  go_wp2_with fail
  generalize (w.alloc (.cells #[.int .i64 0, .bool false, .int .i64 0, .int .i64 0] 24)) = W at *
  have KA : Kept 0 0 W W := Kept.refl 0 0 W
  refine (hasSign_any false _).mono ?_
  rintro e w1 ⟨rfl, k1⟩
  replace KA := KA.trans k1
  replace K := hide ((unhide K).trans k1)
  have z2 := k1.size
  clear k1
  go_wp2_with fail
  refine (hasSign_any n2 _).mono ?_
  rintro e w3 ⟨rfl, k3⟩
  replace KA := KA.trans k3
  replace K := hide ((unhide K).trans k3)
  have z4 := k3.size
  clear k3
  clear g1 g2
  go_wp2_with fail
  refine (is_nan_nan _).mono ?_
  rintro e w5 ⟨rfl, k5⟩
  replace KA := KA.trans k5
  replace K := hide ((unhide K).trans k5)
  have z6 := k5.size
  clear k5
  replace qf0 := KA.loose0 (zbl q0) qf0
  replace qf1 := KA.loose0 (zbl q1) qf1
  replace qf2 := KA.loose0 (zbl q2) qf2
  replace qf3 := KA.loose0 (zbl q3) qf3
  replace q0 := KA.cell0 q0
  replace q1 := KA.cell0 q1
  replace q2 := KA.cell0 q2
  replace q3 := KA.cell0 q3
  have KF := hide (((((unhide K).setNew (p := ⟨w.heap.size, 0, none⟩) (by simp) (.int .i64 3)).setNew (p := ⟨w.heap.size, 1, none⟩) (by simp) (.bool false)).setNew (p := ⟨w.heap.size, 2, none⟩) (by simp) (.int .i64 0)).setNew (p := ⟨w.heap.size, 3, none⟩) (by simp) (.int .i64 0))
  clear K
  try go_wp2_with fail
  exact bodyPost_ret (v := .tuple #[.agg #[.int .i64 3, .bool false, .int .i64 0, .int .i64 0], .int .i64 0]) (by simp [results, Tryd.results21, go_sem, q0, q1, q2, q3]) rfl ⟨by rw [unhide FQ], unhide KF⟩

set_option maxHeartbeats 2000000 in
theorem divI_nan_inf (n2 : Bool) (mode : Int) (hm0 : 0 ≤ mode) (hm4 : mode ≤ 4) (w : World) :
    Calls Tryd.prog 21 #[.iface 83 (.agg #[.bool false]), .iface 82 (.agg #[.bool n2]), .int .i64 mode] w fun e' w' => e' = .returned (.tuple #[flq (dvQ 3 false 0 0 2 n2 0 0 mode).1, .int .i64 (dvQ 3 false 0 0 2 n2 0 0 mode).2]) ∧ Kept 0 0 w w' := by
  obtain ⟨Q, hQ⟩ : ∃ q, dvQ 3 false 0 0 2 n2 0 0 mode = q := ⟨_, rfl⟩
  rw [hQ]
  have HQ := hide hQ
  clear hQ
  have FQ : Hid (Q = ((3, false, 0, 0), 0)) := by show _ = _; rw [← unhide HQ]; unfold dvQ; simp
  have g1 := fun w => hs_nan w
  have g2 := fun w => hs_inf n2 w
  obtain ⟨Wn, hn0⟩ : ∃ wz, wz = (w.alloc (.cells #[.int .i64 0, .bool false, .int .i64 0, .int .i64 0] 24)) := ⟨_, rfl⟩
  have k0 : Kept 0 0 w Wn := by rw [hn0]; exact ((Kept.refl 0 0 w).alloc _)
  have q0 : Wn.cell? ⟨w.heap.size, 0, none⟩ = some (.int .i64 0) := by rw [hn0]; exact new_cell2 _ _ _ _ _ _ (by simp) rfl
  have qf0 : Wn.frozen? ⟨w.heap.size, 0, none⟩ = false := by rw [hn0]; exact new_loose2 _ _ _ _ _ (by simp)
  have q1 : Wn.cell? ⟨w.heap.size, 1, none⟩ = some (.bool false) := by rw [hn0]; exact new_cell2 _ _ _ _ _ _ (by simp) rfl
  have qf1 : Wn.frozen? ⟨w.heap.size, 1, none⟩ = false := by rw [hn0]; exact new_loose2 _ _ _ _ _ (by simp)
  have q2 : Wn.cell? ⟨w.heap.size, 2, none⟩ = some (.int .i64 0) := by rw [hn0]; exact new_cell2 _ _ _ _ _ _ (by simp) rfl
  have qf2 : Wn.frozen? ⟨w.heap.size, 2, none⟩ = false := by rw [hn0]; exact new_loose2 _ _ _ _ _ (by simp)
  have q3 : Wn.cell? ⟨w.heap.size, 3, none⟩ = some (.int .i64 0) := by rw [hn0]; exact new_cell2 _ _ _ _ _ _ (by simp) rfl
  have qf3 : Wn.frozen? ⟨w.heap.size, 3, none⟩ = false := by rw [hn0]; exact new_loose2 _ _ _ _ _ (by simp)
  have s0 : Wn.heap.size = w.heap.size + 1 := by rw [hn0]; exact by simp
  subst hn0
  have K := hide (k0)
  clear k0
  have S0 := hide s0
  clear s0
  go_enter Tryd.func21, Tryd.ntmps21
  go_wp2_with fail
  generalize (w.alloc (.cells #[.int .i64 0, .bool false, .int .i64 0, .int .i64 0] 24)) = W at *
  have KA : Kept 0 0 W W := Kept.refl 0 0 W
  refine (hasSign_any false _).mono ?_
  rintro e w1 ⟨rfl, k1⟩
  replace KA := KA.trans k1
  replace K := hide ((unhide K).trans k1)
  have z2 := k1.size
  clear k1
  go_wp2_with fail
  refine (hasSign_any n2 _).mono ?_
  rintro e w3 ⟨rfl, k3⟩
  replace KA := KA.trans k3
  replace K := hide ((unhide K).trans k3)
  have z4 := k3.size
  clear k3
  clear g1 g2
  go_wp2_with fail
  refine (is_nan_nan _).mono ?_
  rintro e w5 ⟨rfl, k5⟩
  replace KA := KA.trans k5
  replace K := hide ((unhide K).trans k5)
  have z6 := k5.size
  clear k5
  replace qf0 := KA.loose0 (zbl q0) qf0
  replace qf1 := KA.loose0 (zbl q1) qf1
  replace qf2 := KA.loose0 (zbl q2) qf2
  replace qf3 := KA.loose0 (zbl q3) qf3
  replace q0 := KA.cell0 q0
  replace q1 := KA.cell0 q1
  replace q2 := KA.cell0 q2
  replace q3 := KA.cell0 q3
  have KF := hide (((((unhide K).setNew (p := ⟨w.heap.size, 0, none⟩) (by simp) (.int .i64 3)).setNew (p := ⟨w.heap.size, 1, none⟩) (by simp) (.bool false)).setNew (p := ⟨w.heap.size, 2, none⟩) (by simp) (.int .i64 0)).setNew (p := ⟨w.heap.size, 3, none⟩) (by simp) (.int .i64 0))
  clear K
  try go_wp2_with fail
  exact bodyPost_ret (v := .tuple #[.agg #[.int .i64 3, .bool false, .int .i64 0, .int .i64 0], .int .i64 0]) (by simp [results, Tryd.results21, go_sem, q0, q1, q2, q3]) rfl ⟨by rw [unhide FQ], unhide KF⟩

set_option maxHeartbeats 2000000 in
theorem divI_nan_nan (mode : Int) (hm0 : 0 ≤ mode) (hm4 : mode ≤ 4) (w : World) :
    Calls Tryd.prog 21 #[.iface 83 (.agg #[.bool false]), .iface 83 (.agg #[.bool false]), .int .i64 mode] w fun e' w' => e' = .returned (.tuple #[flq (dvQ 3 false 0 0 3 false 0 0 mode).1, .int .i64 (dvQ 3 false 0 0 3 false 0 0 mode).2]) ∧ Kept 0 0 w w' := by
  obtain ⟨Q, hQ⟩ : ∃ q, dvQ 3 false 0 0 3 false 0 0 mode = q := ⟨_, rfl⟩
  rw [hQ]
  have HQ := hide hQ
  clear hQ
  have FQ : Hid (Q = ((3, false, 0, 0), 0)) := by show _ = _; rw [← unhide HQ]; unfold dvQ; simp
  have g1 := fun w => hs_nan w
  have g2 := fun w => hs_nan w
  obtain ⟨Wn, hn0⟩ : ∃ wz, wz = (w.alloc (.cells #[.int .i64 0, .bool false, .int .i64 0, .int .i64 0] 24)) := ⟨_, rfl⟩
  have k0 : Kept 0 0 w Wn := by rw [hn0]; exact ((Kept.refl 0 0 w).alloc _)
  have q0 : Wn.cell? ⟨w.heap.size, 0, none⟩ = some (.int .i64 0) := by rw [hn0]; exact new_cell2 _ _ _ _ _ _ (by simp) rfl
  have qf0 : Wn.frozen? ⟨w.heap.size, 0, none⟩ = false := by rw [hn0]; exact new_loose2 _ _ _ _ _ (by simp)
  have q1 : Wn.cell? ⟨w.heap.size, 1, none⟩ = some (.bool false) := by rw [hn0]; exact new_cell2 _ _ _ _ _ _ (by simp) rfl
  have qf1 : Wn.frozen? ⟨w.heap.size, 1, none⟩ = false := by rw [hn0]; exact new_loose2 _ _ _ _ _ (by simp)
  have q2 : Wn.cell? ⟨w.heap.size, 2, none⟩ = some (.int .i64 0) := by rw [hn0]; exact new_cell2 _ _ _ _ _ _ (by simp) rfl
  have qf2 : Wn.frozen? ⟨w.heap.size, 2, none⟩ = false := by rw [hn0]; exact new_loose2 _ _ _ _ _ (by simp)
  have q3 : Wn.cell? ⟨w.heap.size, 3, none⟩ = some (.int .i64 0) := by rw [hn0]; exact new_cell2 _ _ _ _ _ _ (by simp) rfl
  have qf3 : Wn.frozen? ⟨w.heap.size, 3, none⟩ = false := by rw [hn0]; exact new_loose2 _ _ _ _ _ (by simp)
  have s0 : Wn.heap.size = w.heap.size + 1 := by rw [hn0]; exact by simp
  subst hn0
  have K := hide (k0)
  clear k0
  have S0 := hide s0
  clear s0
  go_enter Tryd.func21, Tryd.ntmps21
  go_wp2_with fail
  generalize (w.alloc (.cells #[.int .i64 0, .bool false, .int .i64 0, .int .i64 0] 24)) = W at *
  have KA : Kept 0 0 W W := Kept.refl 0 0 W
  refine (hasSign_any false _).mono ?_
  rintro e w1 ⟨rfl, k1⟩
  replace KA := KA.trans k1
  replace K := hide ((unhide K).trans k1)
  have z2 := k1.size
  clear k1
  go_wp2_with fail
  refine (hasSign_any false _).mono ?_
  rintro e w3 ⟨rfl, k3⟩
  replace KA := KA.trans k3
  replace K := hide ((unhide K).trans k3)
  have z4 := k3.size
  clear k3
  clear g1 g2
  go_wp2_with fail
  refine (is_nan_nan _).mono ?_
  rintro e w5 ⟨rfl, k5⟩
  replace KA := KA.trans k5
  replace K := hide ((unhide K).trans k5)
  have z6 := k5.size
  clear k5
  replace qf0 := KA.loose0 (zbl q0) qf0
  replace qf1 := KA.loose0 (zbl q1) qf1
  replace qf2 := KA.loose0 (zbl q2) qf2
  replace qf3 := KA.loose0 (zbl q3) qf3
  replace q0 := KA.cell0 q0
  replace q1 := KA.cell0 q1
  replace q2 := KA.cell0 q2
  replace q3 := KA.cell0 q3
  have KF := hide (((((unhide K).setNew (p := ⟨w.heap.size, 0, none⟩) (by simp) (.int .i64 3)).setNew (p := ⟨w.heap.size, 1, none⟩) (by simp) (.bool false)).setNew (p := ⟨w.heap.size, 2, none⟩) (by simp) (.int .i64 0)).setNew (p := ⟨w.heap.size, 3, none⟩) (by simp) (.int .i64 0))
  clear K
  try go_wp2_with fail
  exact bodyPost_ret (v := .tuple #[.agg #[.int .i64 3, .bool false, .int .i64 0, .int .i64 0], .int .i64 0]) (by simp [results, Tryd.results21, go_sem, q0, q1, q2, q3]) rfl ⟨by rw [unhide FQ], unhide KF⟩

end Go.Proofs.YtflpkblmcnkghaaDoor

