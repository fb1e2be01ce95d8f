/-
  Intervals of the program: IvOf, IvAdd, IvSub, IvWide.
-/
import Derived.Test.YtbihbloknmjfjaaDoorIv1D
import Derived.Test.YtbihbloknmjfjaaDoorIv2
import Derived.Test.YtbihbloknmjfjaaDoorIdadd
import Derived.Test.YtbihbloknmjfjaaDoorIdsub
import Derived.Deep.DeepCutAuto
import Derived.Deep.RegionHeld3
namespace Go.Proofs.YtbihbloknmjfjaaDoor
open Go.RowKit
set_option linter.unusedVariables false
set_option maxRecDepth 8000
set_option linter.unusedSimpArgs false

/-- What an answer that is an interval has in its cells. -/
def IvEq (o g1 : Bool) (p1 : Int) (L1 : List Int) (g2 : Bool) (p2 : Int) (L2 : List Int) (q1 : Bool) (y1 : Int) (M1 : List Int) (q2 : Bool) (y2 : Int) (M2 : List Int) : Prop :=
  q1 = (o && g1) ∧ y1 = (if o = true then p1 else 0) ∧ M1 = (if o = true then L1 else []) ∧ q2 = (o && g2) ∧ y2 = (if o = true then p2 else 0) ∧ M2 = (if o = true then L2 else [])
theorem ivAns_open {o g1 : Bool} {p1 : Int} {L1 : List Int} {g2 : Bool} {p2 : Int} {L2 : List Int} {w w' : World} {e : Ending} (h : IvAns o g1 p1 L1 g2 p2 L2 w e w') :
    ∃ q1 y1 M1 q2 y2 M2 v v' mid, e = .returned (.tuple #[.agg #[.bool q1, v, .int .i64 y1, .bool q2, v', .int .i64 y2], .bool o]) ∧ Row .i64 true w.heap.size mid w' v M1 ∧ Row .i64 true mid w'.heap.size w' v' M2 ∧ w.heap.size ≤ mid ∧ mid ≤ w'.heap.size ∧ Kept 0 0 w w' ∧ IvEq o g1 p1 L1 g2 p2 L2 q1 y1 M1 q2 y2 M2 := by
  obtain ⟨v, v', mid, h1, h2, h3, h4, h5, h6⟩ := h
  exact ⟨_, _, _, _, _, _, v, v', mid, h1, h2, h3, h4, h5, h6, rfl, rfl, rfl, rfl, rfl, rfl⟩
theorem ivAns_shut {o g1 : Bool} {p1 : Int} {L1 : List Int} {g2 : Bool} {p2 : Int} {L2 : List Int} {q1 : Bool} {y1 : Int} {M1 : List Int} {q2 : Bool} {y2 : Int} {M2 : List Int} {w w' : World} {v v' : Value} {mid : Nat} (h : IvEq o g1 p1 L1 g2 p2 L2 q1 y1 M1 q2 y2 M2)
    (r : Row .i64 true w.heap.size mid w' v M1) (r' : Row .i64 true mid w'.heap.size w' v' M2) (h1 : w.heap.size ≤ mid) (h2 : mid ≤ w'.heap.size) (k : Kept 0 0 w w') : IvAns o g1 p1 L1 g2 p2 L2 w (.returned (.tuple #[.agg #[.bool q1, v, .int .i64 y1, .bool q2, v', .int .i64 y2], .bool o])) w' := by
  obtain ⟨e1, e2, e3, e4, e5, e6⟩ := h
  subst e1 e2 e3 e4 e5 e6
  exact ⟨v, v', mid, rfl, r, r', h1, h2, k⟩
/-- Whether two numbers may be told as the ends of an answer. -/
def ivC (c : Bool) (m1 x1 m2 x2 : Int) : Bool := c && (dokB (wsg m1) (dlm m1) (dex m1 x1) && dokB (wsg m2) (dlm m2) (dex m2 x2))
theorem ivC_no {c : Bool} {m1 x1 m2 x2 : Int} (h : c = false) : ivC c m1 x1 m2 x2 = false := by unfold ivC; rw [h]; rfl
theorem ivC_len {c : Bool} {m1 x1 m2 x2 : Int} : (if ivC c m1 x1 m2 x2 = true then dlm m1 else []).length ≤ 100 ∧ (if ivC c m1 x1 m2 x2 = true then dlm m2 else []).length ≤ 100 := by
  split
  · rename_i h
    unfold ivC at h
    simp only [Bool.and_eq_true] at h
    exact ⟨(wok_int (dok_parts h.2.1).1).2.2.1, (wok_int (dok_parts h.2.2).1).2.2.1⟩
  · exact ⟨by simp, by simp⟩
theorem ivAns_false {g1 : Bool} {p1 : Int} {L1 : List Int} {g2 : Bool} {p2 : Int} {L2 : List Int} {h1 : Bool} {t1 : Int} {N1 : List Int} {h2 : Bool} {t2 : Int} {N2 : List Int} {w w' : World} {e : Ending} (h : IvAns false g1 p1 L1 g2 p2 L2 w e w') : IvAns false h1 t1 N1 h2 t2 N2 w e w' := h
theorem ivAns_ans {c c1 c2 : Bool} {m1 x1 m2 x2 : Int} {w w' : World} {e : Ending} (hc : c = true) (hc1 : c1 = true) (hc2 : c2 = true)
    (h : IvAns (ansDB c1 m1 x1 && ansDB c2 m2 x2) (ansDS c1 m1 x1) (ansDE c1 m1 x1) (ansDL c1 m1 x1) (ansDS c2 m2 x2) (ansDE c2 m2 x2) (ansDL c2 m2 x2) w e w') : IvAns (ivC c m1 x1 m2 x2) (wsg m1) (dex m1 x1) (dlm m1) (wsg m2) (dex m2 x2) (dlm m2) w e w' := by
  have e0 : ivC c m1 x1 m2 x2 = (ansDB c1 m1 x1 && ansDB c2 m2 x2) := by unfold ivC ansDB; rw [hc, hc1, hc2]; rfl
  rw [e0]
  cases hb : (ansDB c1 m1 x1 && ansDB c2 m2 x2)
  · rw [hb] at h
    exact ivAns_false h
  · rw [Bool.and_eq_true] at hb
    obtain ⟨a1, a2, a3⟩ := ansD_yes hb.1
    obtain ⟨b1, b2, b3⟩ := ansD_yes hb.2
    rw [hb.1, hb.2, a1, a2, a3, b1, b2, b3] at h
    exact h

set_option maxHeartbeats 2000000 in
theorem ivof1_impl {bw : Bool} {lo hi : Nat} {v : Value} {zs : List Int} (s : Bool) (x : Int) (ho : dokB s zs x = true) (mode : Int) (w : World) (r : Row .i64 bw lo hi w v zs) (T : TabB w) :
    Calls Tryd.prog 31 #[.agg #[.bool s, v, .int .i64 x], .int .i64 mode] w fun e w' => ∃ v', e = .returned (.tuple #[.agg #[.bool (ansDS (dokB s zs x) (wval s zs) (x)), v', .int .i64 (ansDE (dokB s zs x) (wval s zs) (x))], .bool (ansDB (dokB s zs x) (wval s zs) (x))]) ∧ Row .i64 true w.heap.size w'.heap.size w' v' (ansDL (dokB s zs x) (wval s zs) (x)) ∧ Kept 0 0 w w' := by
  obtain ⟨GS, hGS⟩ : ∃ y, ansDS (dokB s zs x) (wval s zs) (x) = y := ⟨_, rfl⟩
  obtain ⟨GL, hGL⟩ : ∃ y, ansDL (dokB s zs x) (wval s zs) (x) = y := ⟨_, rfl⟩
  obtain ⟨GE, hGE⟩ : ∃ y, ansDE (dokB s zs x) (wval s zs) (x) = y := ⟨_, rfl⟩
  obtain ⟨GB, hGB⟩ : ∃ y, ansDB (dokB s zs x) (wval s zs) (x) = y := ⟨_, rfl⟩
  try rw [hGS]
  try rw [hGL]
  try rw [hGE]
  try rw [hGB]
  have HGS := hide hGS
  have HGL := hide hGL
  have HGE := hide hGE
  have HGB := hide hGB
  clear hGS hGL hGE hGB
  have k0 : Kept 0 0 w ((w.alloc (.cells #[.bool s, v, .int .i64 x] 34)).alloc (.cells #[.bool false, .slice none 0 0, .int .i64 0] 34)) := (((Kept.refl 0 0 w).alloc (.cells #[.bool s, v, .int .i64 x] 34)).alloc (.cells #[.bool false, .slice none 0 0, .int .i64 0] 34))
  have p0 : ((w.alloc (.cells #[.bool s, v, .int .i64 x] 34)).alloc (.cells #[.bool false, .slice none 0 0, .int .i64 0] 34)).cell? ⟨w.heap.size, 0, none⟩ = some (.bool s) := old_cell _ (new_cell2 _ _ _ _ _ _ (by simp) rfl)
  have p1 : ((w.alloc (.cells #[.bool s, v, .int .i64 x] 34)).alloc (.cells #[.bool false, .slice none 0 0, .int .i64 0] 34)).cell? ⟨w.heap.size, 1, none⟩ = some (v) := old_cell _ (new_cell2 _ _ _ _ _ _ (by simp) rfl)
  have p2 : ((w.alloc (.cells #[.bool s, v, .int .i64 x] 34)).alloc (.cells #[.bool false, .slice none 0 0, .int .i64 0] 34)).cell? ⟨w.heap.size, 2, none⟩ = some (.int .i64 x) := old_cell _ (new_cell2 _ _ _ _ _ _ (by simp) rfl)
  have q0 : ((w.alloc (.cells #[.bool s, v, .int .i64 x] 34)).alloc (.cells #[.bool false, .slice none 0 0, .int .i64 0] 34)).cell? ⟨w.heap.size + 1, 0, none⟩ = some (.bool false) := new_cell2 _ _ _ _ _ _ (by simp) rfl
  have qf0 : ((w.alloc (.cells #[.bool s, v, .int .i64 x] 34)).alloc (.cells #[.bool false, .slice none 0 0, .int .i64 0] 34)).frozen? ⟨w.heap.size + 1, 0, none⟩ = false := new_loose2 _ _ _ _ _ (by simp)
  have q1 : ((w.alloc (.cells #[.bool s, v, .int .i64 x] 34)).alloc (.cells #[.bool false, .slice none 0 0, .int .i64 0] 34)).cell? ⟨w.heap.size + 1, 1, none⟩ = some (.slice none 0 0) := new_cell2 _ _ _ _ _ _ (by simp) rfl
  have qf1 : ((w.alloc (.cells #[.bool s, v, .int .i64 x] 34)).alloc (.cells #[.bool false, .slice none 0 0, .int .i64 0] 34)).frozen? ⟨w.heap.size + 1, 1, none⟩ = false := new_loose2 _ _ _ _ _ (by simp)
  have q2 : ((w.alloc (.cells #[.bool s, v, .int .i64 x] 34)).alloc (.cells #[.bool false, .slice none 0 0, .int .i64 0] 34)).cell? ⟨w.heap.size + 1, 2, none⟩ = some (.int .i64 0) := new_cell2 _ _ _ _ _ _ (by simp) rfl
  have qf2 : ((w.alloc (.cells #[.bool s, v, .int .i64 x] 34)).alloc (.cells #[.bool false, .slice none 0 0, .int .i64 0] 34)).frozen? ⟨w.heap.size + 1, 2, none⟩ = false := new_loose2 _ _ _ _ _ (by simp)
  replace r := r.kept k0 (by omega)
  have s0 : ((w.alloc (.cells #[.bool s, v, .int .i64 x] 34)).alloc (.cells #[.bool false, .slice none 0 0, .int .i64 0] 34)).heap.size = w.heap.size + 2 := by simp
  obtain ⟨a, c, hv⟩ := Row.form' r
  subst hv
  have K := hide (k0)
  clear k0
  have S0 := hide s0
  clear s0
  go_enter Tryd.func31, Tryd.ntmps31
  go_wp2_with fail
  generalize ((w.alloc (.cells #[.bool s, .slice a zs.length c, .int .i64 x] 34)).alloc (.cells #[.bool false, .slice none 0 0, .int .i64 0] 34)) = W at *
  have HO := hide ho
  obtain ⟨h1, h2, h3, -, -⟩ := dok_parts ho
  have wn := wok_wn h1
  obtain ⟨-, -, hl, hn⟩ := wok_int h1
  clear ho h1
  refine (dyadicOf_impl s x _ r (by omega)).mono ?_
  rintro e w1 ⟨v3, rfl, o3, k1⟩
  replace r := r.kept k1 (.inr (.inr (Nat.le_refl 0)))
  replace qf0 := k1.loose0 (World.block_lt_of_cell? _ _ q0) qf0
  replace qf1 := k1.loose0 (World.block_lt_of_cell? _ _ q1) qf1
  replace qf2 := k1.loose0 (World.block_lt_of_cell? _ _ q2) qf2
  replace p0 := k1.cell0 p0
  replace p1 := k1.cell0 p1
  replace p2 := k1.cell0 p2
  replace q0 := k1.cell0 q0
  replace q1 := k1.cell0 q1
  replace q2 := k1.cell0 q2
  replace K := hide ((unhide K).trans k1)
  have z2 := k1.size
  clear k1
  clear r
  have l3 := o3.lt
  obtain ⟨nd, dd, ee⟩ := new_dya s x 64 o3
  have kn := (Kept.refl 0 0 w1).alloc (.cells #[v3, .bool s, .int .i64 x] 64)
  obtain ⟨a3, c3, hv⟩ := own_slice o3
  subst hv
  replace qf0 := kn.loose0 (World.block_lt_of_cell? _ _ q0) qf0
  replace qf1 := kn.loose0 (World.block_lt_of_cell? _ _ q1) qf1
  replace qf2 := kn.loose0 (World.block_lt_of_cell? _ _ q2) qf2
  replace p0 := kn.cell0 p0
  replace p1 := kn.cell0 p1
  replace p2 := kn.cell0 p2
  replace q0 := kn.cell0 q0
  replace q1 := kn.cell0 q1
  replace q2 := kn.cell0 q2
  replace K := hide ((unhide K).trans kn)
  have z3 := kn.size
  clear kn o3
  skip
  go_wp2_with fail
  generalize w1.alloc (.cells #[.slice a3 zs.length c3, .bool s, .int .i64 x] 64) = W9 at *
  refine (toldDyadic_impl (wval s zs) rfl _ nd dd ee hn (by omega) (by omega) (by omega) (T.kept (unhide K))).mono ?_
  rintro e w4 ⟨v7, rfl, r7, m7⟩
  have hS : ∀ i, Own1 w1.heap.size (.slice a3 zs.length c3) i → w.heap.size + 2 ≤ i := fun i e => e.elim (fun e => by have := unhide S0; omega) (fun e => by have := (l3 _ e).1; have := unhide S0; omega)
  have nS : ¬ Own1 w1.heap.size (.slice a3 zs.length c3) (w.heap.size + 1) := fun e => by have := hS _ e; omega
  replace qf0 := m7.loose (a := ⟨w.heap.size + 1, 0, none⟩) nS (World.block_lt_of_cell? _ _ q0) qf0
  replace qf1 := m7.loose (a := ⟨w.heap.size + 1, 1, none⟩) nS (World.block_lt_of_cell? _ _ q1) qf1
  replace qf2 := m7.loose (a := ⟨w.heap.size + 1, 2, none⟩) nS (World.block_lt_of_cell? _ _ q2) qf2
  replace q0 := m7.cell (a := ⟨w.heap.size + 1, 0, none⟩) nS q0
  replace q1 := m7.cell (a := ⟨w.heap.size + 1, 1, none⟩) nS q1
  replace q2 := m7.cell (a := ⟨w.heap.size + 1, 2, none⟩) nS q2
  replace K := hide ((unhide K).mod m7 (fun i e => by have := hS i e; omega))
  have z7 := m7.size
  have j1 := unhide HGS
  have j2 := unhide HGL
  have j3 := unhide HGE
  have j4 := unhide HGB
  rw [unhide HO] at j1 j2 j3 j4
  rw [j1, j3, j4]
  rw [j2] at r7
  clear j1 j2 j3 j4 m7 hS nS nd dd ee wn hn
  obtain ⟨a7, c7, hv⟩ := Row.form' r7
  subst hv
  have R := hide ((((r7.set_other (p := ⟨w.heap.size + 1, 0, none⟩) (.inl (by have := unhide S0; dsimp only; omega)) (.bool GS)).set_other (p := ⟨w.heap.size + 1, 1, none⟩) (.inl (by have := unhide S0; dsimp only; omega)) (.slice a7 GL.length c7)).set_other (p := ⟨w.heap.size + 1, 2, none⟩) (.inl (by have := unhide S0; dsimp only; omega)) (.int .i64 GE)).tight.wider (lo' := w.heap.size) (by have := unhide S0; omega) (Nat.le_refl _))
  have K7 := hide ((((unhide K).setNew (p := ⟨w.heap.size + 1, 0, none⟩) (by simp) (.bool GS)).setNew (p := ⟨w.heap.size + 1, 1, none⟩) (by simp) (.slice a7 GL.length c7)).setNew (p := ⟨w.heap.size + 1, 2, none⟩) (by simp) (.int .i64 GE))
  clear r7 K 
  go_wp2_with fail
  exact bodyPost_ret (v := .tuple #[.agg #[.bool GS, .slice a7 GL.length c7, .int .i64 GE], .bool GB]) (by simp [results, Tryd.results31, go_sem, q0, q1, q2]) rfl ⟨_, rfl, unhide R, unhide K7⟩

theorem in_ivof1 : ∀ (w : World) (args : Array Value), (callFunc 31 args).run Tryd.prog w = .ok (.enter 31 args) w := enters Tryd.func31 (by decide) (fun h => by cases h)

set_option maxHeartbeats 2000000 in
theorem ivof_impl {b1 b2 : Bool} {w1l w1h w2l w2h : Nat} {v1 v2 : Value} {l1 l2 : List Int} (s1 : Bool) (e1 : Int) (hu1 : e1 ≤ 9223372036854775807) (hd1 : -9223372036854775808 ≤ e1) (s2 : Bool) (e2 : Int) (hu2 : e2 ≤ 9223372036854775807) (hd2 : -9223372036854775808 ≤ e2) (w : World) (r1 : Row .i64 b1 w1l w1h w v1 l1) (r2 : Row .i64 b2 w2l w2h w v2 l2) (T : TabB w) :
    Calls Tryd.prog 10 #[.agg #[.bool s1, v1, .int .i64 e1], .agg #[.bool s2, v2, .int .i64 e2]] w fun e w' => IvAns (ivC (iokB s1 l1 e1 s2 l2 e2) (wval s1 l1) (e1) (wval s2 l2) (e2)) (wsg (wval s1 l1)) (dex (wval s1 l1) (e1)) (dlm (wval s1 l1)) (wsg (wval s2 l2)) (dex (wval s2 l2) (e2)) (dlm (wval s2 l2)) w e w' := by
  obtain ⟨CC, hCC⟩ : ∃ c, ivC (iokB s1 l1 e1 s2 l2 e2) (wval s1 l1) (e1) (wval s2 l2) (e2) = c := ⟨_, rfl⟩
  rw [hCC]
  have HCC := hide hCC
  clear hCC
  obtain ⟨W1, hW1⟩ : ∃ c, wsg (wval s1 l1) = c := ⟨_, rfl⟩
  obtain ⟨D1, hD1⟩ : ∃ c, dex (wval s1 l1) (e1) = c := ⟨_, rfl⟩
  obtain ⟨Q1, hQ1⟩ : ∃ c, dlm (wval s1 l1) = c := ⟨_, rfl⟩
  obtain ⟨W2, hW2⟩ : ∃ c, wsg (wval s2 l2) = c := ⟨_, rfl⟩
  obtain ⟨D2, hD2⟩ : ∃ c, dex (wval s2 l2) (e2) = c := ⟨_, rfl⟩
  obtain ⟨Q2, hQ2⟩ : ∃ c, dlm (wval s2 l2) = c := ⟨_, rfl⟩
  try rw [hW1]
  try rw [hD1]
  try rw [hQ1]
  try rw [hW2]
  try rw [hD2]
  try rw [hQ2]
  have HW1 := hide hW1
  clear hW1
  have HD1 := hide hD1
  clear hD1
  have HQ1 := hide hQ1
  clear hQ1
  have HW2 := hide hW2
  clear hW2
  have HD2 := hide hD2
  clear hD2
  have HQ2 := hide hQ2
  clear hQ2
  have k0 : Kept 0 0 w (((w.alloc (.cells #[.bool s1, v1, .int .i64 e1] 34)).alloc (.cells #[.bool s2, v2, .int .i64 e2] 34)).alloc (.cells #[.bool false, .slice none 0 0, .int .i64 0, .bool false, .slice none 0 0, .int .i64 0] 36)) := ((((Kept.refl 0 0 w).alloc (.cells #[.bool s1, v1, .int .i64 e1] 34)).alloc (.cells #[.bool s2, v2, .int .i64 e2] 34)).alloc (.cells #[.bool false, .slice none 0 0, .int .i64 0, .bool false, .slice none 0 0, .int .i64 0] 36))
  have bp0 : (((w.alloc (.cells #[.bool s1, v1, .int .i64 e1] 34)).alloc (.cells #[.bool s2, v2, .int .i64 e2] 34)).alloc (.cells #[.bool false, .slice none 0 0, .int .i64 0, .bool false, .slice none 0 0, .int .i64 0] 36)).cell? ⟨w.heap.size, 0, none⟩ = some (.bool s1) := old_cell _ (old_cell _ (new_cell2 _ _ _ _ _ _ (by simp) rfl))
  have bp1 : (((w.alloc (.cells #[.bool s1, v1, .int .i64 e1] 34)).alloc (.cells #[.bool s2, v2, .int .i64 e2] 34)).alloc (.cells #[.bool false, .slice none 0 0, .int .i64 0, .bool false, .slice none 0 0, .int .i64 0] 36)).cell? ⟨w.heap.size, 1, none⟩ = some (v1) := old_cell _ (old_cell _ (new_cell2 _ _ _ _ _ _ (by simp) rfl))
  have bp2 : (((w.alloc (.cells #[.bool s1, v1, .int .i64 e1] 34)).alloc (.cells #[.bool s2, v2, .int .i64 e2] 34)).alloc (.cells #[.bool false, .slice none 0 0, .int .i64 0, .bool false, .slice none 0 0, .int .i64 0] 36)).cell? ⟨w.heap.size, 2, none⟩ = some (.int .i64 e1) := old_cell _ (old_cell _ (new_cell2 _ _ _ _ _ _ (by simp) rfl))
  have bq0 : (((w.alloc (.cells #[.bool s1, v1, .int .i64 e1] 34)).alloc (.cells #[.bool s2, v2, .int .i64 e2] 34)).alloc (.cells #[.bool false, .slice none 0 0, .int .i64 0, .bool false, .slice none 0 0, .int .i64 0] 36)).cell? ⟨w.heap.size + 1, 0, none⟩ = some (.bool s2) := old_cell _ (new_cell2 _ _ _ _ _ _ (by simp) rfl)
  have bq1 : (((w.alloc (.cells #[.bool s1, v1, .int .i64 e1] 34)).alloc (.cells #[.bool s2, v2, .int .i64 e2] 34)).alloc (.cells #[.bool false, .slice none 0 0, .int .i64 0, .bool false, .slice none 0 0, .int .i64 0] 36)).cell? ⟨w.heap.size + 1, 1, none⟩ = some (v2) := old_cell _ (new_cell2 _ _ _ _ _ _ (by simp) rfl)
  have bq2 : (((w.alloc (.cells #[.bool s1, v1, .int .i64 e1] 34)).alloc (.cells #[.bool s2, v2, .int .i64 e2] 34)).alloc (.cells #[.bool false, .slice none 0 0, .int .i64 0, .bool false, .slice none 0 0, .int .i64 0] 36)).cell? ⟨w.heap.size + 1, 2, none⟩ = some (.int .i64 e2) := old_cell _ (new_cell2 _ _ _ _ _ _ (by simp) rfl)
  have R0 : (((w.alloc (.cells #[.bool s1, v1, .int .i64 e1] 34)).alloc (.cells #[.bool s2, v2, .int .i64 e2] 34)).alloc (.cells #[.bool false, .slice none 0 0, .int .i64 0, .bool false, .slice none 0 0, .int .i64 0] 36)).cell? ⟨w.heap.size + 2, 0, none⟩ = some (.bool false) := new_cell2 _ _ _ _ _ _ (by simp) rfl
  have Rf0 : (((w.alloc (.cells #[.bool s1, v1, .int .i64 e1] 34)).alloc (.cells #[.bool s2, v2, .int .i64 e2] 34)).alloc (.cells #[.bool false, .slice none 0 0, .int .i64 0, .bool false, .slice none 0 0, .int .i64 0] 36)).frozen? ⟨w.heap.size + 2, 0, none⟩ = false := new_loose2 _ _ _ _ _ (by simp)
  have R1 : (((w.alloc (.cells #[.bool s1, v1, .int .i64 e1] 34)).alloc (.cells #[.bool s2, v2, .int .i64 e2] 34)).alloc (.cells #[.bool false, .slice none 0 0, .int .i64 0, .bool false, .slice none 0 0, .int .i64 0] 36)).cell? ⟨w.heap.size + 2, 1, none⟩ = some (.slice none 0 0) := new_cell2 _ _ _ _ _ _ (by simp) rfl
  have Rf1 : (((w.alloc (.cells #[.bool s1, v1, .int .i64 e1] 34)).alloc (.cells #[.bool s2, v2, .int .i64 e2] 34)).alloc (.cells #[.bool false, .slice none 0 0, .int .i64 0, .bool false, .slice none 0 0, .int .i64 0] 36)).frozen? ⟨w.heap.size + 2, 1, none⟩ = false := new_loose2 _ _ _ _ _ (by simp)
  have R2 : (((w.alloc (.cells #[.bool s1, v1, .int .i64 e1] 34)).alloc (.cells #[.bool s2, v2, .int .i64 e2] 34)).alloc (.cells #[.bool false, .slice none 0 0, .int .i64 0, .bool false, .slice none 0 0, .int .i64 0] 36)).cell? ⟨w.heap.size + 2, 2, none⟩ = some (.int .i64 0) := new_cell2 _ _ _ _ _ _ (by simp) rfl
  have Rf2 : (((w.alloc (.cells #[.bool s1, v1, .int .i64 e1] 34)).alloc (.cells #[.bool s2, v2, .int .i64 e2] 34)).alloc (.cells #[.bool false, .slice none 0 0, .int .i64 0, .bool false, .slice none 0 0, .int .i64 0] 36)).frozen? ⟨w.heap.size + 2, 2, none⟩ = false := new_loose2 _ _ _ _ _ (by simp)
  have R3 : (((w.alloc (.cells #[.bool s1, v1, .int .i64 e1] 34)).alloc (.cells #[.bool s2, v2, .int .i64 e2] 34)).alloc (.cells #[.bool false, .slice none 0 0, .int .i64 0, .bool false, .slice none 0 0, .int .i64 0] 36)).cell? ⟨w.heap.size + 2, 3, none⟩ = some (.bool false) := new_cell2 _ _ _ _ _ _ (by simp) rfl
  have Rf3 : (((w.alloc (.cells #[.bool s1, v1, .int .i64 e1] 34)).alloc (.cells #[.bool s2, v2, .int .i64 e2] 34)).alloc (.cells #[.bool false, .slice none 0 0, .int .i64 0, .bool false, .slice none 0 0, .int .i64 0] 36)).frozen? ⟨w.heap.size + 2, 3, none⟩ = false := new_loose2 _ _ _ _ _ (by simp)
  have R4 : (((w.alloc (.cells #[.bool s1, v1, .int .i64 e1] 34)).alloc (.cells #[.bool s2, v2, .int .i64 e2] 34)).alloc (.cells #[.bool false, .slice none 0 0, .int .i64 0, .bool false, .slice none 0 0, .int .i64 0] 36)).cell? ⟨w.heap.size + 2, 4, none⟩ = some (.slice none 0 0) := new_cell2 _ _ _ _ _ _ (by simp) rfl
  have Rf4 : (((w.alloc (.cells #[.bool s1, v1, .int .i64 e1] 34)).alloc (.cells #[.bool s2, v2, .int .i64 e2] 34)).alloc (.cells #[.bool false, .slice none 0 0, .int .i64 0, .bool false, .slice none 0 0, .int .i64 0] 36)).frozen? ⟨w.heap.size + 2, 4, none⟩ = false := new_loose2 _ _ _ _ _ (by simp)
  have R5 : (((w.alloc (.cells #[.bool s1, v1, .int .i64 e1] 34)).alloc (.cells #[.bool s2, v2, .int .i64 e2] 34)).alloc (.cells #[.bool false, .slice none 0 0, .int .i64 0, .bool false, .slice none 0 0, .int .i64 0] 36)).cell? ⟨w.heap.size + 2, 5, none⟩ = some (.int .i64 0) := new_cell2 _ _ _ _ _ _ (by simp) rfl
  have Rf5 : (((w.alloc (.cells #[.bool s1, v1, .int .i64 e1] 34)).alloc (.cells #[.bool s2, v2, .int .i64 e2] 34)).alloc (.cells #[.bool false, .slice none 0 0, .int .i64 0, .bool false, .slice none 0 0, .int .i64 0] 36)).frozen? ⟨w.heap.size + 2, 5, none⟩ = false := new_loose2 _ _ _ _ _ (by simp)
  replace r1 := r1.kept k0 (by omega)
  replace r2 := r2.kept k0 (by omega)
  have s0 : (((w.alloc (.cells #[.bool s1, v1, .int .i64 e1] 34)).alloc (.cells #[.bool s2, v2, .int .i64 e2] 34)).alloc (.cells #[.bool false, .slice none 0 0, .int .i64 0, .bool false, .slice none 0 0, .int .i64 0] 36)).heap.size = w.heap.size + 3 := by simp
  obtain ⟨a1, c1, hv⟩ := Row.form' r1
  subst hv
  obtain ⟨a2, c2, hv⟩ := Row.form' r2
  subst hv
  have K := hide (k0)
  clear k0
  have S0 := hide s0
  clear s0
  go_enter Tryd.func10, Tryd.ntmps10
  go_wp2_with fail
  generalize (((w.alloc (.cells #[.bool s1, .slice a1 l1.length c1, .int .i64 e1] 34)).alloc (.cells #[.bool s2, .slice a2 l2.length c2, .int .i64 e2] 34)).alloc (.cells #[.bool false, .slice none 0 0, .int .i64 0, .bool false, .slice none 0 0, .int .i64 0] 36)) = W at *
  refine (ivok_impl s1 e1 hu1 hd1 s2 e2 hu2 hd2 _ r1 r2).mono ?_
  rintro e w1 ⟨rfl, k1⟩
  replace r1 := r1.kept k1 (.inr (.inr (Nat.le_refl 0)))
  replace r2 := r2.kept k1 (.inr (.inr (Nat.le_refl 0)))
  replace Rf0 := k1.loose0 (World.block_lt_of_cell? _ _ R0) Rf0
  replace Rf1 := k1.loose0 (World.block_lt_of_cell? _ _ R1) Rf1
  replace Rf2 := k1.loose0 (World.block_lt_of_cell? _ _ R2) Rf2
  replace Rf3 := k1.loose0 (World.block_lt_of_cell? _ _ R3) Rf3
  replace Rf4 := k1.loose0 (World.block_lt_of_cell? _ _ R4) Rf4
  replace Rf5 := k1.loose0 (World.block_lt_of_cell? _ _ R5) Rf5
  replace bp0 := k1.cell0 bp0
  replace bp1 := k1.cell0 bp1
  replace bp2 := k1.cell0 bp2
  replace bq0 := k1.cell0 bq0
  replace bq1 := k1.cell0 bq1
  replace bq2 := k1.cell0 bq2
  replace R0 := k1.cell0 R0
  replace R1 := k1.cell0 R1
  replace R2 := k1.cell0 R2
  replace R3 := k1.cell0 R3
  replace R4 := k1.cell0 R4
  replace R5 := k1.cell0 R5
  replace K := hide ((unhide K).trans k1)
  have z2 := k1.size
  clear k1
  cases ho : iokB s1 l1 e1 s2 l2 e2
  · have EC : Hid (CC = false) := by show _ = _; rw [← unhide HCC]; exact ivC_no (ho)
    have K7 := hide (((((((unhide K).setNew (p := ⟨w.heap.size + 2, 0, none⟩) (by simp) (.bool false)).setNew (p := ⟨w.heap.size + 2, 1, none⟩) (by simp) (.slice none 0 0)).setNew (p := ⟨w.heap.size + 2, 2, none⟩) (by simp) (.int .i64 0)).setNew (p := ⟨w.heap.size + 2, 3, none⟩) (by simp) (.bool false)).setNew (p := ⟨w.heap.size + 2, 4, none⟩) (by simp) (.slice none 0 0)).setNew (p := ⟨w.heap.size + 2, 5, none⟩) (by simp) (.int .i64 0))
    clear r1 r2 K
    go_wp2_with fail
    exact bodyPost_ret (v := .tuple #[.agg #[.bool false, .slice none 0 0, .int .i64 0, .bool false, .slice none 0 0, .int .i64 0], .bool false]) (by simp [results, Tryd.results10, go_sem, R0, R1, R2, R3, R4, R5]) rfl (by rw [unhide EC]; exact ivAns_no (unhide K7))
  obtain ⟨i1, i2, -⟩ := iok_parts ho
  have I1 := hide i1
  have I2 := hide i2
  have HO := hide ho
  clear ho i1 i2
  go_wp2_with fail
  have mk := (bothEnds_D s1 s2 e1 e2 31 in_ivof1 w1 (fun w1 kk => ivof1_impl s1 e1 (unhide I1) 3 w1 (r1.kept kk (by omega)) ((T.kept (unhide K)).kept kk)) (fun w1 kk => ivof1_impl s2 e2 (unhide I2) 2 w1 (r2.kept kk (by omega)) ((T.kept (unhide K)).kept kk))).mono (fun e w' h => ivAns_ans (unhide HO) (unhide I1) (unhide I2) h)
  rw [unhide HCC, unhide HW1, unhide HD1, unhide HQ1, unhide HW2, unhide HD2, unhide HQ2] at mk
  refine (mk).mono ?_
  rintro e w3 h5
  skip
  obtain ⟨q1, y1, M1, q2, y2, M2, vL, vM, mid, rfl, rL, rM, hm1, hm2, k5, hq⟩ := ivAns_open h5
  have HQ := hide hq
  clear hq h5
  replace r1 := r1.kept k5 (.inr (.inr (Nat.le_refl 0)))
  replace r2 := r2.kept k5 (.inr (.inr (Nat.le_refl 0)))
  replace Rf0 := k5.loose0 (World.block_lt_of_cell? _ _ R0) Rf0
  replace Rf1 := k5.loose0 (World.block_lt_of_cell? _ _ R1) Rf1
  replace Rf2 := k5.loose0 (World.block_lt_of_cell? _ _ R2) Rf2
  replace Rf3 := k5.loose0 (World.block_lt_of_cell? _ _ R3) Rf3
  replace Rf4 := k5.loose0 (World.block_lt_of_cell? _ _ R4) Rf4
  replace Rf5 := k5.loose0 (World.block_lt_of_cell? _ _ R5) Rf5
  replace bp0 := k5.cell0 bp0
  replace bp1 := k5.cell0 bp1
  replace bp2 := k5.cell0 bp2
  replace bq0 := k5.cell0 bq0
  replace bq1 := k5.cell0 bq1
  replace bq2 := k5.cell0 bq2
  replace R0 := k5.cell0 R0
  replace R1 := k5.cell0 R1
  replace R2 := k5.cell0 R2
  replace R3 := k5.cell0 R3
  replace R4 := k5.cell0 R4
  replace R5 := k5.cell0 R5
  replace K := hide ((unhide K).trans k5)
  have z4 := k5.size
  clear k5
  obtain ⟨aL, dL, hv⟩ := Row.form' rL
  subst hv
  obtain ⟨aM, dM, hv⟩ := Row.form' rM
  subst hv
  have RL := hide ((((((rL.set_other (p := ⟨w.heap.size + 2, 0, none⟩) (.inl (by have := unhide S0; dsimp only; omega)) (.bool q1)).set_other (p := ⟨w.heap.size + 2, 1, none⟩) (.inl (by have := unhide S0; dsimp only; omega)) (.slice aL M1.length dL)).set_other (p := ⟨w.heap.size + 2, 2, none⟩) (.inl (by have := unhide S0; dsimp only; omega)) (.int .i64 y1)).set_other (p := ⟨w.heap.size + 2, 3, none⟩) (.inl (by have := unhide S0; dsimp only; omega)) (.bool q2)).set_other (p := ⟨w.heap.size + 2, 4, none⟩) (.inl (by have := unhide S0; dsimp only; omega)) (.slice aM M2.length dM)).set_other (p := ⟨w.heap.size + 2, 5, none⟩) (.inl (by have := unhide S0; dsimp only; omega)) (.int .i64 y2))
  have RM := hide ((((((rM.set_other (p := ⟨w.heap.size + 2, 0, none⟩) (.inl (by have := unhide S0; dsimp only; omega)) (.bool q1)).set_other (p := ⟨w.heap.size + 2, 1, none⟩) (.inl (by have := unhide S0; dsimp only; omega)) (.slice aL M1.length dL)).set_other (p := ⟨w.heap.size + 2, 2, none⟩) (.inl (by have := unhide S0; dsimp only; omega)) (.int .i64 y1)).set_other (p := ⟨w.heap.size + 2, 3, none⟩) (.inl (by have := unhide S0; dsimp only; omega)) (.bool q2)).set_other (p := ⟨w.heap.size + 2, 4, none⟩) (.inl (by have := unhide S0; dsimp only; omega)) (.slice aM M2.length dM)).set_other (p := ⟨w.heap.size + 2, 5, none⟩) (.inl (by have := unhide S0; dsimp only; omega)) (.int .i64 y2))
  have K7 := hide (((((((unhide K).setNew (p := ⟨w.heap.size + 2, 0, none⟩) (by simp) (.bool q1)).setNew (p := ⟨w.heap.size + 2, 1, none⟩) (by simp) (.slice aL M1.length dL)).setNew (p := ⟨w.heap.size + 2, 2, none⟩) (by simp) (.int .i64 y1)).setNew (p := ⟨w.heap.size + 2, 3, none⟩) (by simp) (.bool q2)).setNew (p := ⟨w.heap.size + 2, 4, none⟩) (by simp) (.slice aM M2.length dM)).setNew (p := ⟨w.heap.size + 2, 5, none⟩) (by simp) (.int .i64 y2))
  clear r1 r2 rL rM K
  go_wp2_with fail
  have sS0 := unhide S0
  exact bodyPost_ret (v := .tuple #[.agg #[.bool q1, .slice aL M1.length dL, .int .i64 y1, .bool q2, .slice aM M2.length dM, .int .i64 y2], .bool CC]) (by simp [results, Tryd.results10, go_sem, R0, R1, R2, R3, R4, R5]) rfl (ivAns_shut (unhide HQ) ((unhide RL).wider (by omega) (Nat.le_refl _)) (unhide RM).tight (by omega) (by simp only [size_set]; omega) (unhide K7))

set_option maxHeartbeats 2000000 in
theorem ivadd1_impl {b1 b2 : Bool} {w1l w1h w2l w2h : Nat} {v1 v2 : Value} {l1 l2 : List Int} (s1 : Bool) (e1 : Int) (hu1 : e1 ≤ 9223372036854775807) (hd1 : -9223372036854775808 ≤ e1) (s2 : Bool) (e2 : Int) (hu2 : e2 ≤ 9223372036854775807) (hd2 : -9223372036854775808 ≤ e2) (w : World) (r1 : Row .i64 b1 w1l w1h w v1 l1) (r2 : Row .i64 b2 w2l w2h w v2 l2) (T : TabB w) (mode : Int) :
    Calls Tryd.prog 38 #[.agg #[.bool s1, v1, .int .i64 e1, .bool s2, v2, .int .i64 e2], .int .i64 mode] w fun e w' => ∃ v', e = .returned (.tuple #[.agg #[.bool (ansDS (dokB s1 l1 e1 && dokB s2 l2 e2) (wval s1 l1 * 2 ^ (e1 - min e1 e2).toNat + wval s2 l2 * 2 ^ (e2 - min e1 e2).toNat) (min e1 e2)), v', .int .i64 (ansDE (dokB s1 l1 e1 && dokB s2 l2 e2) (wval s1 l1 * 2 ^ (e1 - min e1 e2).toNat + wval s2 l2 * 2 ^ (e2 - min e1 e2).toNat) (min e1 e2))], .bool (ansDB (dokB s1 l1 e1 && dokB s2 l2 e2) (wval s1 l1 * 2 ^ (e1 - min e1 e2).toNat + wval s2 l2 * 2 ^ (e2 - min e1 e2).toNat) (min e1 e2))]) ∧ Row .i64 true w.heap.size w'.heap.size w' v' (ansDL (dokB s1 l1 e1 && dokB s2 l2 e2) (wval s1 l1 * 2 ^ (e1 - min e1 e2).toNat + wval s2 l2 * 2 ^ (e2 - min e1 e2).toNat) (min e1 e2)) ∧ Kept 0 0 w w' := by
  obtain ⟨GS, hGS⟩ : ∃ y, ansDS (dokB s1 l1 e1 && dokB s2 l2 e2) (wval s1 l1 * 2 ^ (e1 - min e1 e2).toNat + wval s2 l2 * 2 ^ (e2 - min e1 e2).toNat) (min e1 e2) = y := ⟨_, rfl⟩
  obtain ⟨GL, hGL⟩ : ∃ y, ansDL (dokB s1 l1 e1 && dokB s2 l2 e2) (wval s1 l1 * 2 ^ (e1 - min e1 e2).toNat + wval s2 l2 * 2 ^ (e2 - min e1 e2).toNat) (min e1 e2) = y := ⟨_, rfl⟩
  obtain ⟨GE, hGE⟩ : ∃ y, ansDE (dokB s1 l1 e1 && dokB s2 l2 e2) (wval s1 l1 * 2 ^ (e1 - min e1 e2).toNat + wval s2 l2 * 2 ^ (e2 - min e1 e2).toNat) (min e1 e2) = y := ⟨_, rfl⟩
  obtain ⟨GB, hGB⟩ : ∃ y, ansDB (dokB s1 l1 e1 && dokB s2 l2 e2) (wval s1 l1 * 2 ^ (e1 - min e1 e2).toNat + wval s2 l2 * 2 ^ (e2 - min e1 e2).toNat) (min e1 e2) = y := ⟨_, rfl⟩
  try rw [hGS]
  try rw [hGL]
  try rw [hGE]
  try rw [hGB]
  have HGS := hide hGS
  have HGL := hide hGL
  have HGE := hide hGE
  have HGB := hide hGB
  clear hGS hGL hGE hGB
  have k0 : Kept 0 0 w ((w.alloc (.cells #[.bool s1, v1, .int .i64 e1, .bool s2, v2, .int .i64 e2] 72)).alloc (.cells #[.bool false, .slice none 0 0, .int .i64 0] 34)) := (((Kept.refl 0 0 w).alloc (.cells #[.bool s1, v1, .int .i64 e1, .bool s2, v2, .int .i64 e2] 72)).alloc (.cells #[.bool false, .slice none 0 0, .int .i64 0] 34))
  have bp0 : ((w.alloc (.cells #[.bool s1, v1, .int .i64 e1, .bool s2, v2, .int .i64 e2] 72)).alloc (.cells #[.bool false, .slice none 0 0, .int .i64 0] 34)).cell? ⟨w.heap.size, 0, none⟩ = some (.bool s1) := old_cell _ (new_cell2 _ _ _ _ _ _ (by simp) rfl)
  have bp1 : ((w.alloc (.cells #[.bool s1, v1, .int .i64 e1, .bool s2, v2, .int .i64 e2] 72)).alloc (.cells #[.bool false, .slice none 0 0, .int .i64 0] 34)).cell? ⟨w.heap.size, 1, none⟩ = some (v1) := old_cell _ (new_cell2 _ _ _ _ _ _ (by simp) rfl)
  have bp2 : ((w.alloc (.cells #[.bool s1, v1, .int .i64 e1, .bool s2, v2, .int .i64 e2] 72)).alloc (.cells #[.bool false, .slice none 0 0, .int .i64 0] 34)).cell? ⟨w.heap.size, 2, none⟩ = some (.int .i64 e1) := old_cell _ (new_cell2 _ _ _ _ _ _ (by simp) rfl)
  have bp3 : ((w.alloc (.cells #[.bool s1, v1, .int .i64 e1, .bool s2, v2, .int .i64 e2] 72)).alloc (.cells #[.bool false, .slice none 0 0, .int .i64 0] 34)).cell? ⟨w.heap.size, 3, none⟩ = some (.bool s2) := old_cell _ (new_cell2 _ _ _ _ _ _ (by simp) rfl)
  have bp4 : ((w.alloc (.cells #[.bool s1, v1, .int .i64 e1, .bool s2, v2, .int .i64 e2] 72)).alloc (.cells #[.bool false, .slice none 0 0, .int .i64 0] 34)).cell? ⟨w.heap.size, 4, none⟩ = some (v2) := old_cell _ (new_cell2 _ _ _ _ _ _ (by simp) rfl)
  have bp5 : ((w.alloc (.cells #[.bool s1, v1, .int .i64 e1, .bool s2, v2, .int .i64 e2] 72)).alloc (.cells #[.bool false, .slice none 0 0, .int .i64 0] 34)).cell? ⟨w.heap.size, 5, none⟩ = some (.int .i64 e2) := old_cell _ (new_cell2 _ _ _ _ _ _ (by simp) rfl)
  have q0 : ((w.alloc (.cells #[.bool s1, v1, .int .i64 e1, .bool s2, v2, .int .i64 e2] 72)).alloc (.cells #[.bool false, .slice none 0 0, .int .i64 0] 34)).cell? ⟨w.heap.size + 1, 0, none⟩ = some (.bool false) := new_cell2 _ _ _ _ _ _ (by simp) rfl
  have qf0 : ((w.alloc (.cells #[.bool s1, v1, .int .i64 e1, .bool s2, v2, .int .i64 e2] 72)).alloc (.cells #[.bool false, .slice none 0 0, .int .i64 0] 34)).frozen? ⟨w.heap.size + 1, 0, none⟩ = false := new_loose2 _ _ _ _ _ (by simp)
  have q1 : ((w.alloc (.cells #[.bool s1, v1, .int .i64 e1, .bool s2, v2, .int .i64 e2] 72)).alloc (.cells #[.bool false, .slice none 0 0, .int .i64 0] 34)).cell? ⟨w.heap.size + 1, 1, none⟩ = some (.slice none 0 0) := new_cell2 _ _ _ _ _ _ (by simp) rfl
  have qf1 : ((w.alloc (.cells #[.bool s1, v1, .int .i64 e1, .bool s2, v2, .int .i64 e2] 72)).alloc (.cells #[.bool false, .slice none 0 0, .int .i64 0] 34)).frozen? ⟨w.heap.size + 1, 1, none⟩ = false := new_loose2 _ _ _ _ _ (by simp)
  have q2 : ((w.alloc (.cells #[.bool s1, v1, .int .i64 e1, .bool s2, v2, .int .i64 e2] 72)).alloc (.cells #[.bool false, .slice none 0 0, .int .i64 0] 34)).cell? ⟨w.heap.size + 1, 2, none⟩ = some (.int .i64 0) := new_cell2 _ _ _ _ _ _ (by simp) rfl
  have qf2 : ((w.alloc (.cells #[.bool s1, v1, .int .i64 e1, .bool s2, v2, .int .i64 e2] 72)).alloc (.cells #[.bool false, .slice none 0 0, .int .i64 0] 34)).frozen? ⟨w.heap.size + 1, 2, none⟩ = false := new_loose2 _ _ _ _ _ (by simp)
  replace r1 := r1.kept k0 (by omega)
  replace r2 := r2.kept k0 (by omega)
  have s0 : ((w.alloc (.cells #[.bool s1, v1, .int .i64 e1, .bool s2, v2, .int .i64 e2] 72)).alloc (.cells #[.bool false, .slice none 0 0, .int .i64 0] 34)).heap.size = w.heap.size + 2 := by simp
  obtain ⟨a1, c1, hv⟩ := Row.form' r1
  subst hv
  obtain ⟨a2, c2, hv⟩ := Row.form' r2
  subst hv
  have K := hide (k0)
  clear k0
  have S0 := hide s0
  clear s0
  go_enter Tryd.func38, Tryd.ntmps38
  go_wp2_with fail
  generalize ((w.alloc (.cells #[.bool s1, .slice a1 l1.length c1, .int .i64 e1, .bool s2, .slice a2 l2.length c2, .int .i64 e2] 72)).alloc (.cells #[.bool false, .slice none 0 0, .int .i64 0] 34)) = W at *
  have mk := dadd_impl s1 s2 e1 e2 hu1 hd1 hu2 hd2 W r1 r2 (T.kept (unhide K))
  rw [unhide HGS, unhide HGL, unhide HGE, unhide HGB] at mk
  refine (mk).mono ?_
  rintro e w1 ⟨v7, rfl, r7, k1⟩
  replace r1 := r1.kept k1 (.inr (.inr (Nat.le_refl 0)))
  replace r2 := r2.kept k1 (.inr (.inr (Nat.le_refl 0)))
  replace qf0 := k1.loose0 (World.block_lt_of_cell? _ _ q0) qf0
  replace qf1 := k1.loose0 (World.block_lt_of_cell? _ _ q1) qf1
  replace qf2 := k1.loose0 (World.block_lt_of_cell? _ _ q2) qf2
  replace bp0 := k1.cell0 bp0
  replace bp1 := k1.cell0 bp1
  replace bp2 := k1.cell0 bp2
  replace bp3 := k1.cell0 bp3
  replace bp4 := k1.cell0 bp4
  replace bp5 := k1.cell0 bp5
  replace q0 := k1.cell0 q0
  replace q1 := k1.cell0 q1
  replace q2 := k1.cell0 q2
  replace K := hide ((unhide K).trans k1)
  have z2 := k1.size
  clear k1
  clear mk
  obtain ⟨a7, c7, hv⟩ := Row.form' r7
  subst hv
  have R := hide ((((r7.set_other (p := ⟨w.heap.size + 1, 0, none⟩) (.inl (by have := unhide S0; dsimp only; omega)) (.bool GS)).set_other (p := ⟨w.heap.size + 1, 1, none⟩) (.inl (by have := unhide S0; dsimp only; omega)) (.slice a7 GL.length c7)).set_other (p := ⟨w.heap.size + 1, 2, none⟩) (.inl (by have := unhide S0; dsimp only; omega)) (.int .i64 GE)).tight.wider (lo' := w.heap.size) (by have := unhide S0; omega) (Nat.le_refl _))
  have K7 := hide ((((unhide K).setNew (p := ⟨w.heap.size + 1, 0, none⟩) (by simp) (.bool GS)).setNew (p := ⟨w.heap.size + 1, 1, none⟩) (by simp) (.slice a7 GL.length c7)).setNew (p := ⟨w.heap.size + 1, 2, none⟩) (by simp) (.int .i64 GE))
  clear r1 r2 r7 K 
  go_wp2_with fail
  exact bodyPost_ret (v := .tuple #[.agg #[.bool GS, .slice a7 GL.length c7, .int .i64 GE], .bool GB]) (by simp [results, Tryd.results38, go_sem, q0, q1, q2]) rfl ⟨_, rfl, unhide R, unhide K7⟩

theorem in_ivadd1 : ∀ (w : World) (args : Array Value), (callFunc 38 args).run Tryd.prog w = .ok (.enter 38 args) w := enters Tryd.func38 (by decide) (fun h => by cases h)

set_option maxHeartbeats 2000000 in
theorem ivsub1_impl {b1 b2 : Bool} {w1l w1h w2l w2h : Nat} {v1 v2 : Value} {l1 l2 : List Int} (s1 : Bool) (e1 : Int) (hu1 : e1 ≤ 9223372036854775807) (hd1 : -9223372036854775808 ≤ e1) (s2 : Bool) (e2 : Int) (hu2 : e2 ≤ 9223372036854775807) (hd2 : -9223372036854775808 ≤ e2) (w : World) (r1 : Row .i64 b1 w1l w1h w v1 l1) (r2 : Row .i64 b2 w2l w2h w v2 l2) (T : TabB w) (mode : Int) :
    Calls Tryd.prog 41 #[.agg #[.bool s1, v1, .int .i64 e1, .bool s2, v2, .int .i64 e2], .int .i64 mode] w fun e w' => ∃ v', e = .returned (.tuple #[.agg #[.bool (ansDS (dokB s1 l1 e1 && dokB s2 l2 e2) (wval s1 l1 * 2 ^ (e1 - min e1 e2).toNat - wval s2 l2 * 2 ^ (e2 - min e1 e2).toNat) (min e1 e2)), v', .int .i64 (ansDE (dokB s1 l1 e1 && dokB s2 l2 e2) (wval s1 l1 * 2 ^ (e1 - min e1 e2).toNat - wval s2 l2 * 2 ^ (e2 - min e1 e2).toNat) (min e1 e2))], .bool (ansDB (dokB s1 l1 e1 && dokB s2 l2 e2) (wval s1 l1 * 2 ^ (e1 - min e1 e2).toNat - wval s2 l2 * 2 ^ (e2 - min e1 e2).toNat) (min e1 e2))]) ∧ Row .i64 true w.heap.size w'.heap.size w' v' (ansDL (dokB s1 l1 e1 && dokB s2 l2 e2) (wval s1 l1 * 2 ^ (e1 - min e1 e2).toNat - wval s2 l2 * 2 ^ (e2 - min e1 e2).toNat) (min e1 e2)) ∧ Kept 0 0 w w' := by
  obtain ⟨GS, hGS⟩ : ∃ y, ansDS (dokB s1 l1 e1 && dokB s2 l2 e2) (wval s1 l1 * 2 ^ (e1 - min e1 e2).toNat - wval s2 l2 * 2 ^ (e2 - min e1 e2).toNat) (min e1 e2) = y := ⟨_, rfl⟩
  obtain ⟨GL, hGL⟩ : ∃ y, ansDL (dokB s1 l1 e1 && dokB s2 l2 e2) (wval s1 l1 * 2 ^ (e1 - min e1 e2).toNat - wval s2 l2 * 2 ^ (e2 - min e1 e2).toNat) (min e1 e2) = y := ⟨_, rfl⟩
  obtain ⟨GE, hGE⟩ : ∃ y, ansDE (dokB s1 l1 e1 && dokB s2 l2 e2) (wval s1 l1 * 2 ^ (e1 - min e1 e2).toNat - wval s2 l2 * 2 ^ (e2 - min e1 e2).toNat) (min e1 e2) = y := ⟨_, rfl⟩
  obtain ⟨GB, hGB⟩ : ∃ y, ansDB (dokB s1 l1 e1 && dokB s2 l2 e2) (wval s1 l1 * 2 ^ (e1 - min e1 e2).toNat - wval s2 l2 * 2 ^ (e2 - min e1 e2).toNat) (min e1 e2) = y := ⟨_, rfl⟩
  try rw [hGS]
  try rw [hGL]
  try rw [hGE]
  try rw [hGB]
  have HGS := hide hGS
  have HGL := hide hGL
  have HGE := hide hGE
  have HGB := hide hGB
  clear hGS hGL hGE hGB
  have k0 : Kept 0 0 w ((w.alloc (.cells #[.bool s1, v1, .int .i64 e1, .bool s2, v2, .int .i64 e2] 72)).alloc (.cells #[.bool false, .slice none 0 0, .int .i64 0] 34)) := (((Kept.refl 0 0 w).alloc (.cells #[.bool s1, v1, .int .i64 e1, .bool s2, v2, .int .i64 e2] 72)).alloc (.cells #[.bool false, .slice none 0 0, .int .i64 0] 34))
  have bp0 : ((w.alloc (.cells #[.bool s1, v1, .int .i64 e1, .bool s2, v2, .int .i64 e2] 72)).alloc (.cells #[.bool false, .slice none 0 0, .int .i64 0] 34)).cell? ⟨w.heap.size, 0, none⟩ = some (.bool s1) := old_cell _ (new_cell2 _ _ _ _ _ _ (by simp) rfl)
  have bp1 : ((w.alloc (.cells #[.bool s1, v1, .int .i64 e1, .bool s2, v2, .int .i64 e2] 72)).alloc (.cells #[.bool false, .slice none 0 0, .int .i64 0] 34)).cell? ⟨w.heap.size, 1, none⟩ = some (v1) := old_cell _ (new_cell2 _ _ _ _ _ _ (by simp) rfl)
  have bp2 : ((w.alloc (.cells #[.bool s1, v1, .int .i64 e1, .bool s2, v2, .int .i64 e2] 72)).alloc (.cells #[.bool false, .slice none 0 0, .int .i64 0] 34)).cell? ⟨w.heap.size, 2, none⟩ = some (.int .i64 e1) := old_cell _ (new_cell2 _ _ _ _ _ _ (by simp) rfl)
  have bp3 : ((w.alloc (.cells #[.bool s1, v1, .int .i64 e1, .bool s2, v2, .int .i64 e2] 72)).alloc (.cells #[.bool false, .slice none 0 0, .int .i64 0] 34)).cell? ⟨w.heap.size, 3, none⟩ = some (.bool s2) := old_cell _ (new_cell2 _ _ _ _ _ _ (by simp) rfl)
  have bp4 : ((w.alloc (.cells #[.bool s1, v1, .int .i64 e1, .bool s2, v2, .int .i64 e2] 72)).alloc (.cells #[.bool false, .slice none 0 0, .int .i64 0] 34)).cell? ⟨w.heap.size, 4, none⟩ = some (v2) := old_cell _ (new_cell2 _ _ _ _ _ _ (by simp) rfl)
  have bp5 : ((w.alloc (.cells #[.bool s1, v1, .int .i64 e1, .bool s2, v2, .int .i64 e2] 72)).alloc (.cells #[.bool false, .slice none 0 0, .int .i64 0] 34)).cell? ⟨w.heap.size, 5, none⟩ = some (.int .i64 e2) := old_cell _ (new_cell2 _ _ _ _ _ _ (by simp) rfl)
  have q0 : ((w.alloc (.cells #[.bool s1, v1, .int .i64 e1, .bool s2, v2, .int .i64 e2] 72)).alloc (.cells #[.bool false, .slice none 0 0, .int .i64 0] 34)).cell? ⟨w.heap.size + 1, 0, none⟩ = some (.bool false) := new_cell2 _ _ _ _ _ _ (by simp) rfl
  have qf0 : ((w.alloc (.cells #[.bool s1, v1, .int .i64 e1, .bool s2, v2, .int .i64 e2] 72)).alloc (.cells #[.bool false, .slice none 0 0, .int .i64 0] 34)).frozen? ⟨w.heap.size + 1, 0, none⟩ = false := new_loose2 _ _ _ _ _ (by simp)
  have q1 : ((w.alloc (.cells #[.bool s1, v1, .int .i64 e1, .bool s2, v2, .int .i64 e2] 72)).alloc (.cells #[.bool false, .slice none 0 0, .int .i64 0] 34)).cell? ⟨w.heap.size + 1, 1, none⟩ = some (.slice none 0 0) := new_cell2 _ _ _ _ _ _ (by simp) rfl
  have qf1 : ((w.alloc (.cells #[.bool s1, v1, .int .i64 e1, .bool s2, v2, .int .i64 e2] 72)).alloc (.cells #[.bool false, .slice none 0 0, .int .i64 0] 34)).frozen? ⟨w.heap.size + 1, 1, none⟩ = false := new_loose2 _ _ _ _ _ (by simp)
  have q2 : ((w.alloc (.cells #[.bool s1, v1, .int .i64 e1, .bool s2, v2, .int .i64 e2] 72)).alloc (.cells #[.bool false, .slice none 0 0, .int .i64 0] 34)).cell? ⟨w.heap.size + 1, 2, none⟩ = some (.int .i64 0) := new_cell2 _ _ _ _ _ _ (by simp) rfl
  have qf2 : ((w.alloc (.cells #[.bool s1, v1, .int .i64 e1, .bool s2, v2, .int .i64 e2] 72)).alloc (.cells #[.bool false, .slice none 0 0, .int .i64 0] 34)).frozen? ⟨w.heap.size + 1, 2, none⟩ = false := new_loose2 _ _ _ _ _ (by simp)
  replace r1 := r1.kept k0 (by omega)
  replace r2 := r2.kept k0 (by omega)
  have s0 : ((w.alloc (.cells #[.bool s1, v1, .int .i64 e1, .bool s2, v2, .int .i64 e2] 72)).alloc (.cells #[.bool false, .slice none 0 0, .int .i64 0] 34)).heap.size = w.heap.size + 2 := by simp
  obtain ⟨a1, c1, hv⟩ := Row.form' r1
  subst hv
  obtain ⟨a2, c2, hv⟩ := Row.form' r2
  subst hv
  have K := hide (k0)
  clear k0
  have S0 := hide s0
  clear s0
  go_enter Tryd.func41, Tryd.ntmps41
  go_wp2_with fail
  generalize ((w.alloc (.cells #[.bool s1, .slice a1 l1.length c1, .int .i64 e1, .bool s2, .slice a2 l2.length c2, .int .i64 e2] 72)).alloc (.cells #[.bool false, .slice none 0 0, .int .i64 0] 34)) = W at *
  have mk := dsub_impl s1 s2 e1 e2 hu1 hd1 hu2 hd2 W r1 r2 (T.kept (unhide K))
  rw [unhide HGS, unhide HGL, unhide HGE, unhide HGB] at mk
  refine (mk).mono ?_
  rintro e w1 ⟨v7, rfl, r7, k1⟩
  replace r1 := r1.kept k1 (.inr (.inr (Nat.le_refl 0)))
  replace r2 := r2.kept k1 (.inr (.inr (Nat.le_refl 0)))
  replace qf0 := k1.loose0 (World.block_lt_of_cell? _ _ q0) qf0
  replace qf1 := k1.loose0 (World.block_lt_of_cell? _ _ q1) qf1
  replace qf2 := k1.loose0 (World.block_lt_of_cell? _ _ q2) qf2
  replace bp0 := k1.cell0 bp0
  replace bp1 := k1.cell0 bp1
  replace bp2 := k1.cell0 bp2
  replace bp3 := k1.cell0 bp3
  replace bp4 := k1.cell0 bp4
  replace bp5 := k1.cell0 bp5
  replace q0 := k1.cell0 q0
  replace q1 := k1.cell0 q1
  replace q2 := k1.cell0 q2
  replace K := hide ((unhide K).trans k1)
  have z2 := k1.size
  clear k1
  clear mk
  obtain ⟨a7, c7, hv⟩ := Row.form' r7
  subst hv
  have R := hide ((((r7.set_other (p := ⟨w.heap.size + 1, 0, none⟩) (.inl (by have := unhide S0; dsimp only; omega)) (.bool GS)).set_other (p := ⟨w.heap.size + 1, 1, none⟩) (.inl (by have := unhide S0; dsimp only; omega)) (.slice a7 GL.length c7)).set_other (p := ⟨w.heap.size + 1, 2, none⟩) (.inl (by have := unhide S0; dsimp only; omega)) (.int .i64 GE)).tight.wider (lo' := w.heap.size) (by have := unhide S0; omega) (Nat.le_refl _))
  have K7 := hide ((((unhide K).setNew (p := ⟨w.heap.size + 1, 0, none⟩) (by simp) (.bool GS)).setNew (p := ⟨w.heap.size + 1, 1, none⟩) (by simp) (.slice a7 GL.length c7)).setNew (p := ⟨w.heap.size + 1, 2, none⟩) (by simp) (.int .i64 GE))
  clear r1 r2 r7 K 
  go_wp2_with fail
  exact bodyPost_ret (v := .tuple #[.agg #[.bool GS, .slice a7 GL.length c7, .int .i64 GE], .bool GB]) (by simp [results, Tryd.results41, go_sem, q0, q1, q2]) rfl ⟨_, rfl, unhide R, unhide K7⟩

theorem in_ivsub1 : ∀ (w : World) (args : Array Value), (callFunc 41 args).run Tryd.prog w = .ok (.enter 41 args) w := enters Tryd.func41 (by decide) (fun h => by cases h)

set_option maxHeartbeats 8000000 in
theorem ivadd_impl {b1 b2 b3 b4 : Bool} {w1l w1h w2l w2h w3l w3h w4l w4h : Nat} {v1 v2 v3 v4 : Value} {l1 l2 l3 l4 : List Int} (s1 : Bool) (e1 : Int) (hu1 : e1 ≤ 9223372036854775807) (hd1 : -9223372036854775808 ≤ e1) (s2 : Bool) (e2 : Int) (hu2 : e2 ≤ 9223372036854775807) (hd2 : -9223372036854775808 ≤ e2) (s3 : Bool) (e3 : Int) (hu3 : e3 ≤ 9223372036854775807) (hd3 : -9223372036854775808 ≤ e3) (s4 : Bool) (e4 : Int) (hu4 : e4 ≤ 9223372036854775807) (hd4 : -9223372036854775808 ≤ e4) (w : World) (r1 : Row .i64 b1 w1l w1h w v1 l1) (r2 : Row .i64 b2 w2l w2h w v2 l2) (r3 : Row .i64 b3 w3l w3h w v3 l3) (r4 : Row .i64 b4 w4l w4h w v4 l4) (T : TabB w) :
    Calls Tryd.prog 19 #[.agg #[.bool s1, v1, .int .i64 e1, .bool s2, v2, .int .i64 e2], .agg #[.bool s3, v3, .int .i64 e3, .bool s4, v4, .int .i64 e4]] w fun e w' => IvAns (ivC (iokB s1 l1 e1 s2 l2 e2 && iokB s3 l3 e3 s4 l4 e4) (wval s1 l1 * 2 ^ (e1 - min e1 e3).toNat + wval s3 l3 * 2 ^ (e3 - min e1 e3).toNat) (min e1 e3) (wval s2 l2 * 2 ^ (e2 - min e2 e4).toNat + wval s4 l4 * 2 ^ (e4 - min e2 e4).toNat) (min e2 e4)) (wsg (wval s1 l1 * 2 ^ (e1 - min e1 e3).toNat + wval s3 l3 * 2 ^ (e3 - min e1 e3).toNat)) (dex (wval s1 l1 * 2 ^ (e1 - min e1 e3).toNat + wval s3 l3 * 2 ^ (e3 - min e1 e3).toNat) (min e1 e3)) (dlm (wval s1 l1 * 2 ^ (e1 - min e1 e3).toNat + wval s3 l3 * 2 ^ (e3 - min e1 e3).toNat)) (wsg (wval s2 l2 * 2 ^ (e2 - min e2 e4).toNat + wval s4 l4 * 2 ^ (e4 - min e2 e4).toNat)) (dex (wval s2 l2 * 2 ^ (e2 - min e2 e4).toNat + wval s4 l4 * 2 ^ (e4 - min e2 e4).toNat) (min e2 e4)) (dlm (wval s2 l2 * 2 ^ (e2 - min e2 e4).toNat + wval s4 l4 * 2 ^ (e4 - min e2 e4).toNat)) w e w' := by
  replace r1 := r1.tight
  replace r2 := r2.tight
  replace r3 := r3.tight
  replace r4 := r4.tight
  obtain ⟨CC, hCC⟩ : ∃ c, ivC (iokB s1 l1 e1 s2 l2 e2 && iokB s3 l3 e3 s4 l4 e4) (wval s1 l1 * 2 ^ (e1 - min e1 e3).toNat + wval s3 l3 * 2 ^ (e3 - min e1 e3).toNat) (min e1 e3) (wval s2 l2 * 2 ^ (e2 - min e2 e4).toNat + wval s4 l4 * 2 ^ (e4 - min e2 e4).toNat) (min e2 e4) = c := ⟨_, rfl⟩
  rw [hCC]
  have HCC := hide hCC
  clear hCC
  obtain ⟨W1, hW1⟩ : ∃ c, wsg (wval s1 l1 * 2 ^ (e1 - min e1 e3).toNat + wval s3 l3 * 2 ^ (e3 - min e1 e3).toNat) = c := ⟨_, rfl⟩
  obtain ⟨D1, hD1⟩ : ∃ c, dex (wval s1 l1 * 2 ^ (e1 - min e1 e3).toNat + wval s3 l3 * 2 ^ (e3 - min e1 e3).toNat) (min e1 e3) = c := ⟨_, rfl⟩
  obtain ⟨Q1, hQ1⟩ : ∃ c, dlm (wval s1 l1 * 2 ^ (e1 - min e1 e3).toNat + wval s3 l3 * 2 ^ (e3 - min e1 e3).toNat) = c := ⟨_, rfl⟩
  obtain ⟨W2, hW2⟩ : ∃ c, wsg (wval s2 l2 * 2 ^ (e2 - min e2 e4).toNat + wval s4 l4 * 2 ^ (e4 - min e2 e4).toNat) = c := ⟨_, rfl⟩
  obtain ⟨D2, hD2⟩ : ∃ c, dex (wval s2 l2 * 2 ^ (e2 - min e2 e4).toNat + wval s4 l4 * 2 ^ (e4 - min e2 e4).toNat) (min e2 e4) = c := ⟨_, rfl⟩
  obtain ⟨Q2, hQ2⟩ : ∃ c, dlm (wval s2 l2 * 2 ^ (e2 - min e2 e4).toNat + wval s4 l4 * 2 ^ (e4 - min e2 e4).toNat) = c := ⟨_, rfl⟩
  try rw [hW1]
  try rw [hD1]
  try rw [hQ1]
  try rw [hW2]
  try rw [hD2]
  try rw [hQ2]
  have HW1 := hide hW1
  clear hW1
  have HD1 := hide hD1
  clear hD1
  have HQ1 := hide hQ1
  clear hQ1
  have HW2 := hide hW2
  clear hW2
  have HD2 := hide hD2
  clear hD2
  have HQ2 := hide hQ2
  clear hQ2
  have k0 : Kept 0 0 w (((w.alloc (.cells #[.bool s1, v1, .int .i64 e1, .bool s2, v2, .int .i64 e2] 36)).alloc (.cells #[.bool s3, v3, .int .i64 e3, .bool s4, v4, .int .i64 e4] 36)).alloc (.cells #[.bool false, .slice none 0 0, .int .i64 0, .bool false, .slice none 0 0, .int .i64 0] 36)) := ((((Kept.refl 0 0 w).alloc (.cells #[.bool s1, v1, .int .i64 e1, .bool s2, v2, .int .i64 e2] 36)).alloc (.cells #[.bool s3, v3, .int .i64 e3, .bool s4, v4, .int .i64 e4] 36)).alloc (.cells #[.bool false, .slice none 0 0, .int .i64 0, .bool false, .slice none 0 0, .int .i64 0] 36))
  have bp0 : (((w.alloc (.cells #[.bool s1, v1, .int .i64 e1, .bool s2, v2, .int .i64 e2] 36)).alloc (.cells #[.bool s3, v3, .int .i64 e3, .bool s4, v4, .int .i64 e4] 36)).alloc (.cells #[.bool false, .slice none 0 0, .int .i64 0, .bool false, .slice none 0 0, .int .i64 0] 36)).cell? ⟨w.heap.size, 0, none⟩ = some (.bool s1) := old_cell _ (old_cell _ (new_cell2 _ _ _ _ _ _ (by simp) rfl))
  have bp1 : (((w.alloc (.cells #[.bool s1, v1, .int .i64 e1, .bool s2, v2, .int .i64 e2] 36)).alloc (.cells #[.bool s3, v3, .int .i64 e3, .bool s4, v4, .int .i64 e4] 36)).alloc (.cells #[.bool false, .slice none 0 0, .int .i64 0, .bool false, .slice none 0 0, .int .i64 0] 36)).cell? ⟨w.heap.size, 1, none⟩ = some (v1) := old_cell _ (old_cell _ (new_cell2 _ _ _ _ _ _ (by simp) rfl))
  have bp2 : (((w.alloc (.cells #[.bool s1, v1, .int .i64 e1, .bool s2, v2, .int .i64 e2] 36)).alloc (.cells #[.bool s3, v3, .int .i64 e3, .bool s4, v4, .int .i64 e4] 36)).alloc (.cells #[.bool false, .slice none 0 0, .int .i64 0, .bool false, .slice none 0 0, .int .i64 0] 36)).cell? ⟨w.heap.size, 2, none⟩ = some (.int .i64 e1) := old_cell _ (old_cell _ (new_cell2 _ _ _ _ _ _ (by simp) rfl))
  have bp3 : (((w.alloc (.cells #[.bool s1, v1, .int .i64 e1, .bool s2, v2, .int .i64 e2] 36)).alloc (.cells #[.bool s3, v3, .int .i64 e3, .bool s4, v4, .int .i64 e4] 36)).alloc (.cells #[.bool false, .slice none 0 0, .int .i64 0, .bool false, .slice none 0 0, .int .i64 0] 36)).cell? ⟨w.heap.size, 3, none⟩ = some (.bool s2) := old_cell _ (old_cell _ (new_cell2 _ _ _ _ _ _ (by simp) rfl))
  have bp4 : (((w.alloc (.cells #[.bool s1, v1, .int .i64 e1, .bool s2, v2, .int .i64 e2] 36)).alloc (.cells #[.bool s3, v3, .int .i64 e3, .bool s4, v4, .int .i64 e4] 36)).alloc (.cells #[.bool false, .slice none 0 0, .int .i64 0, .bool false, .slice none 0 0, .int .i64 0] 36)).cell? ⟨w.heap.size, 4, none⟩ = some (v2) := old_cell _ (old_cell _ (new_cell2 _ _ _ _ _ _ (by simp) rfl))
  have bp5 : (((w.alloc (.cells #[.bool s1, v1, .int .i64 e1, .bool s2, v2, .int .i64 e2] 36)).alloc (.cells #[.bool s3, v3, .int .i64 e3, .bool s4, v4, .int .i64 e4] 36)).alloc (.cells #[.bool false, .slice none 0 0, .int .i64 0, .bool false, .slice none 0 0, .int .i64 0] 36)).cell? ⟨w.heap.size, 5, none⟩ = some (.int .i64 e2) := old_cell _ (old_cell _ (new_cell2 _ _ _ _ _ _ (by simp) rfl))
  have bq0 : (((w.alloc (.cells #[.bool s1, v1, .int .i64 e1, .bool s2, v2, .int .i64 e2] 36)).alloc (.cells #[.bool s3, v3, .int .i64 e3, .bool s4, v4, .int .i64 e4] 36)).alloc (.cells #[.bool false, .slice none 0 0, .int .i64 0, .bool false, .slice none 0 0, .int .i64 0] 36)).cell? ⟨w.heap.size + 1, 0, none⟩ = some (.bool s3) := old_cell _ (new_cell2 _ _ _ _ _ _ (by simp) rfl)
  have bq1 : (((w.alloc (.cells #[.bool s1, v1, .int .i64 e1, .bool s2, v2, .int .i64 e2] 36)).alloc (.cells #[.bool s3, v3, .int .i64 e3, .bool s4, v4, .int .i64 e4] 36)).alloc (.cells #[.bool false, .slice none 0 0, .int .i64 0, .bool false, .slice none 0 0, .int .i64 0] 36)).cell? ⟨w.heap.size + 1, 1, none⟩ = some (v3) := old_cell _ (new_cell2 _ _ _ _ _ _ (by simp) rfl)
  have bq2 : (((w.alloc (.cells #[.bool s1, v1, .int .i64 e1, .bool s2, v2, .int .i64 e2] 36)).alloc (.cells #[.bool s3, v3, .int .i64 e3, .bool s4, v4, .int .i64 e4] 36)).alloc (.cells #[.bool false, .slice none 0 0, .int .i64 0, .bool false, .slice none 0 0, .int .i64 0] 36)).cell? ⟨w.heap.size + 1, 2, none⟩ = some (.int .i64 e3) := old_cell _ (new_cell2 _ _ _ _ _ _ (by simp) rfl)
  have bq3 : (((w.alloc (.cells #[.bool s1, v1, .int .i64 e1, .bool s2, v2, .int .i64 e2] 36)).alloc (.cells #[.bool s3, v3, .int .i64 e3, .bool s4, v4, .int .i64 e4] 36)).alloc (.cells #[.bool false, .slice none 0 0, .int .i64 0, .bool false, .slice none 0 0, .int .i64 0] 36)).cell? ⟨w.heap.size + 1, 3, none⟩ = some (.bool s4) := old_cell _ (new_cell2 _ _ _ _ _ _ (by simp) rfl)
  have bq4 : (((w.alloc (.cells #[.bool s1, v1, .int .i64 e1, .bool s2, v2, .int .i64 e2] 36)).alloc (.cells #[.bool s3, v3, .int .i64 e3, .bool s4, v4, .int .i64 e4] 36)).alloc (.cells #[.bool false, .slice none 0 0, .int .i64 0, .bool false, .slice none 0 0, .int .i64 0] 36)).cell? ⟨w.heap.size + 1, 4, none⟩ = some (v4) := old_cell _ (new_cell2 _ _ _ _ _ _ (by simp) rfl)
  have bq5 : (((w.alloc (.cells #[.bool s1, v1, .int .i64 e1, .bool s2, v2, .int .i64 e2] 36)).alloc (.cells #[.bool s3, v3, .int .i64 e3, .bool s4, v4, .int .i64 e4] 36)).alloc (.cells #[.bool false, .slice none 0 0, .int .i64 0, .bool false, .slice none 0 0, .int .i64 0] 36)).cell? ⟨w.heap.size + 1, 5, none⟩ = some (.int .i64 e4) := old_cell _ (new_cell2 _ _ _ _ _ _ (by simp) rfl)
  have R0 : (((w.alloc (.cells #[.bool s1, v1, .int .i64 e1, .bool s2, v2, .int .i64 e2] 36)).alloc (.cells #[.bool s3, v3, .int .i64 e3, .bool s4, v4, .int .i64 e4] 36)).alloc (.cells #[.bool false, .slice none 0 0, .int .i64 0, .bool false, .slice none 0 0, .int .i64 0] 36)).cell? ⟨w.heap.size + 2, 0, none⟩ = some (.bool false) := new_cell2 _ _ _ _ _ _ (by simp) rfl
  have Rf0 : (((w.alloc (.cells #[.bool s1, v1, .int .i64 e1, .bool s2, v2, .int .i64 e2] 36)).alloc (.cells #[.bool s3, v3, .int .i64 e3, .bool s4, v4, .int .i64 e4] 36)).alloc (.cells #[.bool false, .slice none 0 0, .int .i64 0, .bool false, .slice none 0 0, .int .i64 0] 36)).frozen? ⟨w.heap.size + 2, 0, none⟩ = false := new_loose2 _ _ _ _ _ (by simp)
  have R1 : (((w.alloc (.cells #[.bool s1, v1, .int .i64 e1, .bool s2, v2, .int .i64 e2] 36)).alloc (.cells #[.bool s3, v3, .int .i64 e3, .bool s4, v4, .int .i64 e4] 36)).alloc (.cells #[.bool false, .slice none 0 0, .int .i64 0, .bool false, .slice none 0 0, .int .i64 0] 36)).cell? ⟨w.heap.size + 2, 1, none⟩ = some (.slice none 0 0) := new_cell2 _ _ _ _ _ _ (by simp) rfl
  have Rf1 : (((w.alloc (.cells #[.bool s1, v1, .int .i64 e1, .bool s2, v2, .int .i64 e2] 36)).alloc (.cells #[.bool s3, v3, .int .i64 e3, .bool s4, v4, .int .i64 e4] 36)).alloc (.cells #[.bool false, .slice none 0 0, .int .i64 0, .bool false, .slice none 0 0, .int .i64 0] 36)).frozen? ⟨w.heap.size + 2, 1, none⟩ = false := new_loose2 _ _ _ _ _ (by simp)
  have R2 : (((w.alloc (.cells #[.bool s1, v1, .int .i64 e1, .bool s2, v2, .int .i64 e2] 36)).alloc (.cells #[.bool s3, v3, .int .i64 e3, .bool s4, v4, .int .i64 e4] 36)).alloc (.cells #[.bool false, .slice none 0 0, .int .i64 0, .bool false, .slice none 0 0, .int .i64 0] 36)).cell? ⟨w.heap.size + 2, 2, none⟩ = some (.int .i64 0) := new_cell2 _ _ _ _ _ _ (by simp) rfl
  have Rf2 : (((w.alloc (.cells #[.bool s1, v1, .int .i64 e1, .bool s2, v2, .int .i64 e2] 36)).alloc (.cells #[.bool s3, v3, .int .i64 e3, .bool s4, v4, .int .i64 e4] 36)).alloc (.cells #[.bool false, .slice none 0 0, .int .i64 0, .bool false, .slice none 0 0, .int .i64 0] 36)).frozen? ⟨w.heap.size + 2, 2, none⟩ = false := new_loose2 _ _ _ _ _ (by simp)
  have R3 : (((w.alloc (.cells #[.bool s1, v1, .int .i64 e1, .bool s2, v2, .int .i64 e2] 36)).alloc (.cells #[.bool s3, v3, .int .i64 e3, .bool s4, v4, .int .i64 e4] 36)).alloc (.cells #[.bool false, .slice none 0 0, .int .i64 0, .bool false, .slice none 0 0, .int .i64 0] 36)).cell? ⟨w.heap.size + 2, 3, none⟩ = some (.bool false) := new_cell2 _ _ _ _ _ _ (by simp) rfl
  have Rf3 : (((w.alloc (.cells #[.bool s1, v1, .int .i64 e1, .bool s2, v2, .int .i64 e2] 36)).alloc (.cells #[.bool s3, v3, .int .i64 e3, .bool s4, v4, .int .i64 e4] 36)).alloc (.cells #[.bool false, .slice none 0 0, .int .i64 0, .bool false, .slice none 0 0, .int .i64 0] 36)).frozen? ⟨w.heap.size + 2, 3, none⟩ = false := new_loose2 _ _ _ _ _ (by simp)
  have R4 : (((w.alloc (.cells #[.bool s1, v1, .int .i64 e1, .bool s2, v2, .int .i64 e2] 36)).alloc (.cells #[.bool s3, v3, .int .i64 e3, .bool s4, v4, .int .i64 e4] 36)).alloc (.cells #[.bool false, .slice none 0 0, .int .i64 0, .bool false, .slice none 0 0, .int .i64 0] 36)).cell? ⟨w.heap.size + 2, 4, none⟩ = some (.slice none 0 0) := new_cell2 _ _ _ _ _ _ (by simp) rfl
  have Rf4 : (((w.alloc (.cells #[.bool s1, v1, .int .i64 e1, .bool s2, v2, .int .i64 e2] 36)).alloc (.cells #[.bool s3, v3, .int .i64 e3, .bool s4, v4, .int .i64 e4] 36)).alloc (.cells #[.bool false, .slice none 0 0, .int .i64 0, .bool false, .slice none 0 0, .int .i64 0] 36)).frozen? ⟨w.heap.size + 2, 4, none⟩ = false := new_loose2 _ _ _ _ _ (by simp)
  have R5 : (((w.alloc (.cells #[.bool s1, v1, .int .i64 e1, .bool s2, v2, .int .i64 e2] 36)).alloc (.cells #[.bool s3, v3, .int .i64 e3, .bool s4, v4, .int .i64 e4] 36)).alloc (.cells #[.bool false, .slice none 0 0, .int .i64 0, .bool false, .slice none 0 0, .int .i64 0] 36)).cell? ⟨w.heap.size + 2, 5, none⟩ = some (.int .i64 0) := new_cell2 _ _ _ _ _ _ (by simp) rfl
  have Rf5 : (((w.alloc (.cells #[.bool s1, v1, .int .i64 e1, .bool s2, v2, .int .i64 e2] 36)).alloc (.cells #[.bool s3, v3, .int .i64 e3, .bool s4, v4, .int .i64 e4] 36)).alloc (.cells #[.bool false, .slice none 0 0, .int .i64 0, .bool false, .slice none 0 0, .int .i64 0] 36)).frozen? ⟨w.heap.size + 2, 5, none⟩ = false := new_loose2 _ _ _ _ _ (by simp)
  replace r1 := r1.kept k0 (by omega)
  replace r2 := r2.kept k0 (by omega)
  replace r3 := r3.kept k0 (by omega)
  replace r4 := r4.kept k0 (by omega)
  have s0 : (((w.alloc (.cells #[.bool s1, v1, .int .i64 e1, .bool s2, v2, .int .i64 e2] 36)).alloc (.cells #[.bool s3, v3, .int .i64 e3, .bool s4, v4, .int .i64 e4] 36)).alloc (.cells #[.bool false, .slice none 0 0, .int .i64 0, .bool false, .slice none 0 0, .int .i64 0] 36)).heap.size = w.heap.size + 3 := by simp
  obtain ⟨a1, c1, hv⟩ := Row.form' r1
  subst hv
  obtain ⟨a2, c2, hv⟩ := Row.form' r2
  subst hv
  obtain ⟨a3, c3, hv⟩ := Row.form' r3
  subst hv
  obtain ⟨a4, c4, hv⟩ := Row.form' r4
  subst hv
  have K := hide (k0)
  clear k0
  have S0 := hide s0
  clear s0
  go_enter Tryd.func19, Tryd.ntmps19
  go_wp2_with fail
  generalize (((w.alloc (.cells #[.bool s1, .slice a1 l1.length c1, .int .i64 e1, .bool s2, .slice a2 l2.length c2, .int .i64 e2] 36)).alloc (.cells #[.bool s3, .slice a3 l3.length c3, .int .i64 e3, .bool s4, .slice a4 l4.length c4, .int .i64 e4] 36)).alloc (.cells #[.bool false, .slice none 0 0, .int .i64 0, .bool false, .slice none 0 0, .int .i64 0] 36)) = W at *
  refine (ivok_impl s1 e1 hu1 hd1 s2 e2 hu2 hd2 _ r1 r2).mono ?_
  rintro e w1 ⟨rfl, k1⟩
  replace r1 := r1.kept k1 (.inr (.inr (Nat.le_refl 0)))
  replace r2 := r2.kept k1 (.inr (.inr (Nat.le_refl 0)))
  replace r3 := r3.kept k1 (.inr (.inr (Nat.le_refl 0)))
  replace r4 := r4.kept k1 (.inr (.inr (Nat.le_refl 0)))
  replace Rf0 := k1.loose0 (World.block_lt_of_cell? _ _ R0) Rf0
  replace Rf1 := k1.loose0 (World.block_lt_of_cell? _ _ R1) Rf1
  replace Rf2 := k1.loose0 (World.block_lt_of_cell? _ _ R2) Rf2
  replace Rf3 := k1.loose0 (World.block_lt_of_cell? _ _ R3) Rf3
  replace Rf4 := k1.loose0 (World.block_lt_of_cell? _ _ R4) Rf4
  replace Rf5 := k1.loose0 (World.block_lt_of_cell? _ _ R5) Rf5
  replace bp0 := k1.cell0 bp0
  replace bp1 := k1.cell0 bp1
  replace bp2 := k1.cell0 bp2
  replace bp3 := k1.cell0 bp3
  replace bp4 := k1.cell0 bp4
  replace bp5 := k1.cell0 bp5
  replace bq0 := k1.cell0 bq0
  replace bq1 := k1.cell0 bq1
  replace bq2 := k1.cell0 bq2
  replace bq3 := k1.cell0 bq3
  replace bq4 := k1.cell0 bq4
  replace bq5 := k1.cell0 bq5
  replace R0 := k1.cell0 R0
  replace R1 := k1.cell0 R1
  replace R2 := k1.cell0 R2
  replace R3 := k1.cell0 R3
  replace R4 := k1.cell0 R4
  replace R5 := k1.cell0 R5
  replace K := hide ((unhide K).trans k1)
  have z2 := k1.size
  clear k1
  cases ho : iokB s1 l1 e1 s2 l2 e2
  · have EC : Hid (CC = false) := by show _ = _; rw [← unhide HCC]; exact ivC_no (by rw [ho]; rfl)
    have K7 := hide (((((((unhide K).setNew (p := ⟨w.heap.size + 2, 0, none⟩) (by simp) (.bool false)).setNew (p := ⟨w.heap.size + 2, 1, none⟩) (by simp) (.slice none 0 0)).setNew (p := ⟨w.heap.size + 2, 2, none⟩) (by simp) (.int .i64 0)).setNew (p := ⟨w.heap.size + 2, 3, none⟩) (by simp) (.bool false)).setNew (p := ⟨w.heap.size + 2, 4, none⟩) (by simp) (.slice none 0 0)).setNew (p := ⟨w.heap.size + 2, 5, none⟩) (by simp) (.int .i64 0))
    clear r1 r2 r3 r4 K
    go_wp2_with fail
    exact bodyPost_ret (v := .tuple #[.agg #[.bool false, .slice none 0 0, .int .i64 0, .bool false, .slice none 0 0, .int .i64 0], .bool false]) (by simp [results, Tryd.results19, go_sem, R0, R1, R2, R3, R4, R5]) rfl (by rw [unhide EC]; exact ivAns_no (unhide K7))
  obtain ⟨i1, i2, -⟩ := iok_parts ho
  have I1 := hide i1
  have I2 := hide i2
  have HO := hide ho
  clear ho i1 i2
  go_wp2_with fail
  refine (ivok_impl s3 e3 hu3 hd3 s4 e4 hu4 hd4 _ r3 r4).mono ?_
  rintro e w3 ⟨rfl, k3⟩
  replace r1 := r1.kept k3 (.inr (.inr (Nat.le_refl 0)))
  replace r2 := r2.kept k3 (.inr (.inr (Nat.le_refl 0)))
  replace r3 := r3.kept k3 (.inr (.inr (Nat.le_refl 0)))
  replace r4 := r4.kept k3 (.inr (.inr (Nat.le_refl 0)))
  replace Rf0 := k3.loose0 (World.block_lt_of_cell? _ _ R0) Rf0
  replace Rf1 := k3.loose0 (World.block_lt_of_cell? _ _ R1) Rf1
  replace Rf2 := k3.loose0 (World.block_lt_of_cell? _ _ R2) Rf2
  replace Rf3 := k3.loose0 (World.block_lt_of_cell? _ _ R3) Rf3
  replace Rf4 := k3.loose0 (World.block_lt_of_cell? _ _ R4) Rf4
  replace Rf5 := k3.loose0 (World.block_lt_of_cell? _ _ R5) Rf5
  replace bp0 := k3.cell0 bp0
  replace bp1 := k3.cell0 bp1
  replace bp2 := k3.cell0 bp2
  replace bp3 := k3.cell0 bp3
  replace bp4 := k3.cell0 bp4
  replace bp5 := k3.cell0 bp5
  replace bq0 := k3.cell0 bq0
  replace bq1 := k3.cell0 bq1
  replace bq2 := k3.cell0 bq2
  replace bq3 := k3.cell0 bq3
  replace bq4 := k3.cell0 bq4
  replace bq5 := k3.cell0 bq5
  replace R0 := k3.cell0 R0
  replace R1 := k3.cell0 R1
  replace R2 := k3.cell0 R2
  replace R3 := k3.cell0 R3
  replace R4 := k3.cell0 R4
  replace R5 := k3.cell0 R5
  replace K := hide ((unhide K).trans k3)
  have z4 := k3.size
  clear k3
  cases ho : iokB s3 l3 e3 s4 l4 e4
  · have EC : Hid (CC = false) := by show _ = _; rw [← unhide HCC]; exact ivC_no (by rw [ho, unhide HO]; rfl)
    have K7 := hide (((((((unhide K).setNew (p := ⟨w.heap.size + 2, 0, none⟩) (by simp) (.bool false)).setNew (p := ⟨w.heap.size + 2, 1, none⟩) (by simp) (.slice none 0 0)).setNew (p := ⟨w.heap.size + 2, 2, none⟩) (by simp) (.int .i64 0)).setNew (p := ⟨w.heap.size + 2, 3, none⟩) (by simp) (.bool false)).setNew (p := ⟨w.heap.size + 2, 4, none⟩) (by simp) (.slice none 0 0)).setNew (p := ⟨w.heap.size + 2, 5, none⟩) (by simp) (.int .i64 0))
    clear r1 r2 r3 r4 K
    go_wp2_with fail
    exact bodyPost_ret (v := .tuple #[.agg #[.bool false, .slice none 0 0, .int .i64 0, .bool false, .slice none 0 0, .int .i64 0], .bool false]) (by simp [results, Tryd.results19, go_sem, R0, R1, R2, R3, R4, R5]) rfl (by rw [unhide EC]; exact ivAns_no (unhide K7))
  obtain ⟨i3, i4, -⟩ := iok_parts ho
  have I3 := hide i3
  have I4 := hide i4
  have HC : Hid ((iokB s1 l1 e1 s2 l2 e2 && iokB s3 l3 e3 s4 l4 e4) = true) := by show _ = _; rw [ho, unhide HO]; rfl
  clear ho i3 i4
  go_upto_region 3 with fail
  go_cut [6, 7] (fun p q wx => ∃ X Y, p = .pointer (some ⟨X, 0, none⟩) ∧ q = .pointer (some ⟨Y, 0, none⟩) ∧ wx.cell? ⟨X, 0, none⟩ = some (.bool s1) ∧ wx.cell? ⟨X, 1, none⟩ = some (.slice a1 l1.length c1) ∧ wx.cell? ⟨X, 2, none⟩ = some (.int .i64 e1) ∧ wx.cell? ⟨X, 3, none⟩ = some (.bool s3) ∧ wx.cell? ⟨X, 4, none⟩ = some (.slice a3 l3.length c3) ∧ wx.cell? ⟨X, 5, none⟩ = some (.int .i64 e3) ∧ wx.cell? ⟨Y, 0, none⟩ = some (.bool s2) ∧ wx.cell? ⟨Y, 1, none⟩ = some (.slice a2 l2.length c2) ∧ wx.cell? ⟨Y, 2, none⟩ = some (.int .i64 e2) ∧ wx.cell? ⟨Y, 3, none⟩ = some (.bool s4) ∧ wx.cell? ⟨Y, 4, none⟩ = some (.slice a4 l4.length c4) ∧ wx.cell? ⟨Y, 5, none⟩ = some (.int .i64 e4) ∧ Kept 0 0 w3 wx)
  case first =>
    have kw := Kept.refl 0 0 w3
    have kd := (Kept.refl 0 0 w3).drew
    replace r1 := r1.kept kd (.inr (.inr (Nat.le_refl 0)))
    replace r2 := r2.kept kd (.inr (.inr (Nat.le_refl 0)))
    replace r3 := r3.kept kd (.inr (.inr (Nat.le_refl 0)))
    replace r4 := r4.kept kd (.inr (.inr (Nat.le_refl 0)))
    replace kw := kw.trans kd
    replace Rf0 := kd.loose0 (World.block_lt_of_cell? _ _ R0) Rf0
    replace Rf1 := kd.loose0 (World.block_lt_of_cell? _ _ R1) Rf1
    replace Rf2 := kd.loose0 (World.block_lt_of_cell? _ _ R2) Rf2
    replace Rf3 := kd.loose0 (World.block_lt_of_cell? _ _ R3) Rf3
    replace Rf4 := kd.loose0 (World.block_lt_of_cell? _ _ R4) Rf4
    replace Rf5 := kd.loose0 (World.block_lt_of_cell? _ _ R5) Rf5
    replace bp0 := kd.cell0 bp0
    replace bp1 := kd.cell0 bp1
    replace bp2 := kd.cell0 bp2
    replace bp3 := kd.cell0 bp3
    replace bp4 := kd.cell0 bp4
    replace bp5 := kd.cell0 bp5
    replace bq0 := kd.cell0 bq0
    replace bq1 := kd.cell0 bq1
    replace bq2 := kd.cell0 bq2
    replace bq3 := kd.cell0 bq3
    replace bq4 := kd.cell0 bq4
    replace bq5 := kd.cell0 bq5
    replace R0 := kd.cell0 R0
    replace R1 := kd.cell0 R1
    replace R2 := kd.cell0 R2
    replace R3 := kd.cell0 R3
    replace R4 := kd.cell0 R4
    replace R5 := kd.cell0 R5
    replace K := hide ((unhide K).trans kd)
    have z5 := kd.size
    clear kd
    refine wp_region_held_drew (S := (fun w' => w'.cell? ⟨w.heap.size, 0, none⟩ = some (.bool s1) ∧ w'.cell? ⟨w.heap.size, 1, none⟩ = some (.slice a1 l1.length c1) ∧ w'.cell? ⟨w.heap.size, 2, none⟩ = some (.int .i64 e1) ∧ w'.cell? ⟨w.heap.size, 3, none⟩ = some (.bool s2) ∧ w'.cell? ⟨w.heap.size, 4, none⟩ = some (.slice a2 l2.length c2) ∧ w'.cell? ⟨w.heap.size, 5, none⟩ = some (.int .i64 e2) ∧ w'.cell? ⟨w.heap.size + 1, 0, none⟩ = some (.bool s3) ∧ w'.cell? ⟨w.heap.size + 1, 1, none⟩ = some (.slice a3 l3.length c3) ∧ w'.cell? ⟨w.heap.size + 1, 2, none⟩ = some (.int .i64 e3) ∧ w'.cell? ⟨w.heap.size + 1, 3, none⟩ = some (.bool s4) ∧ w'.cell? ⟨w.heap.size + 1, 4, none⟩ = some (.slice a4 l4.length c4) ∧ w'.cell? ⟨w.heap.size + 1, 5, none⟩ = some (.int .i64 e4))) (by kernel_rfl) ?_ (fun hHeld => ?_)
    · exact ⟨bp0, bp1, bp2, bp3, bp4, bp5, bq0, bq1, bq2, bq3, bq4, bq5⟩
    generalize w3.drew = wd at *
    refine wpAnyH_take (i := 0) (oi := _) (v := .pointer (some ⟨w.heap.size, 0, none⟩)) rfl (by kernel_rfl) (by kernel_rfl) (by kernel_rfl) (fun _ _ _ h => h) (Or.inl ⟨by rfl, ?_⟩) hHeld ?_
    · intro wq hSw
      try dsimp only at hSw
      go_simp
    try simp only [Act.put, List.getElem_toArray, List.getElem_cons_succ, List.getElem_cons_zero, List.setIfInBounds_toArray, List.set_cons_zero, List.set_cons_succ]
    refine wpAnyH_take (i := 1) (oi := _) (v := .agg #[.bool s1, .slice a1 l1.length c1, .int .i64 e1]) rfl (by kernel_rfl) (by kernel_rfl) (by kernel_rfl) (fun _ _ _ h => h) (Or.inl ⟨by rfl, ?_⟩) hHeld ?_
    · intro wq hSw
      try dsimp only at hSw
      go_simp
    try simp only [Act.put, List.getElem_toArray, List.getElem_cons_succ, List.getElem_cons_zero, List.setIfInBounds_toArray, List.set_cons_zero, List.set_cons_succ]
    refine wpAnyH_take (i := 2) (oi := _) (v := .pointer (some ⟨w.heap.size + 1, 0, none⟩)) rfl (by kernel_rfl) (by kernel_rfl) (by kernel_rfl) (fun _ _ _ h => h) (Or.inl ⟨by rfl, ?_⟩) hHeld ?_
    · intro wq hSw
      try dsimp only at hSw
      go_simp
    try simp only [Act.put, List.getElem_toArray, List.getElem_cons_succ, List.getElem_cons_zero, List.setIfInBounds_toArray, List.set_cons_zero, List.set_cons_succ]
    refine wpAnyH_take (i := 3) (oi := _) (v := .agg #[.bool s3, .slice a3 l3.length c3, .int .i64 e3]) rfl (by kernel_rfl) (by kernel_rfl) (by kernel_rfl) (fun _ _ _ h => h) (Or.inl ⟨by rfl, ?_⟩) hHeld ?_
    · intro wq hSw
      try dsimp only at hSw
      go_simp
    try simp only [Act.put, List.getElem_toArray, List.getElem_cons_succ, List.getElem_cons_zero, List.setIfInBounds_toArray, List.set_cons_zero, List.set_cons_succ]
    refine wpAnyH_take (i := 4) (oi := _) (v := .agg #[.bool s1, .slice a1 l1.length c1, .int .i64 e1, .bool s3, .slice a3 l3.length c3, .int .i64 e3]) rfl (by kernel_rfl) (by kernel_rfl) (by kernel_rfl) (fun _ _ _ h => h) (Or.inl ⟨by rfl, ?_⟩) hHeld ?_
    · intro wq hSw
      try dsimp only at hSw
      go_simp
    try simp only [Act.put, List.getElem_toArray, List.getElem_cons_succ, List.getElem_cons_zero, List.setIfInBounds_toArray, List.set_cons_zero, List.set_cons_succ]
    refine wpAnyH_take (i := 5) (oi := _) (v := .pointer (some ⟨w.heap.size, 3, none⟩)) rfl (by kernel_rfl) (by kernel_rfl) (by kernel_rfl) (fun _ _ _ h => h) (Or.inl ⟨by rfl, ?_⟩) hHeld ?_
    · intro wq hSw
      try dsimp only at hSw
      go_simp
    try simp only [Act.put, List.getElem_toArray, List.getElem_cons_succ, List.getElem_cons_zero, List.setIfInBounds_toArray, List.set_cons_zero, List.set_cons_succ]
    refine wpAnyH_take (i := 6) (oi := _) (v := .agg #[.bool s2, .slice a2 l2.length c2, .int .i64 e2]) rfl (by kernel_rfl) (by kernel_rfl) (by kernel_rfl) (fun _ _ _ h => h) (Or.inl ⟨by rfl, ?_⟩) hHeld ?_
    · intro wq hSw
      try dsimp only at hSw
      go_simp
    try simp only [Act.put, List.getElem_toArray, List.getElem_cons_succ, List.getElem_cons_zero, List.setIfInBounds_toArray, List.set_cons_zero, List.set_cons_succ]
    refine wpAnyH_take (i := 7) (oi := _) (v := .pointer (some ⟨w.heap.size + 1, 3, none⟩)) rfl (by kernel_rfl) (by kernel_rfl) (by kernel_rfl) (fun _ _ _ h => h) (Or.inl ⟨by rfl, ?_⟩) hHeld ?_
    · intro wq hSw
      try dsimp only at hSw
      go_simp
    try simp only [Act.put, List.getElem_toArray, List.getElem_cons_succ, List.getElem_cons_zero, List.setIfInBounds_toArray, List.set_cons_zero, List.set_cons_succ]
    refine wpAnyH_take (i := 8) (oi := _) (v := .agg #[.bool s4, .slice a4 l4.length c4, .int .i64 e4]) rfl (by kernel_rfl) (by kernel_rfl) (by kernel_rfl) (fun _ _ _ h => h) (Or.inl ⟨by rfl, ?_⟩) hHeld ?_
    · intro wq hSw
      try dsimp only at hSw
      go_simp
    try simp only [Act.put, List.getElem_toArray, List.getElem_cons_succ, List.getElem_cons_zero, List.setIfInBounds_toArray, List.set_cons_zero, List.set_cons_succ]
    refine wpAnyH_take (i := 9) (oi := _) (v := .agg #[.bool s2, .slice a2 l2.length c2, .int .i64 e2, .bool s4, .slice a4 l4.length c4, .int .i64 e4]) rfl (by kernel_rfl) (by kernel_rfl) (by kernel_rfl) (fun _ _ _ h => h) (Or.inl ⟨by rfl, ?_⟩) hHeld ?_
    · intro wq hSw
      try dsimp only at hSw
      go_simp
    try simp only [Act.put, List.getElem_toArray, List.getElem_cons_succ, List.getElem_cons_zero, List.setIfInBounds_toArray, List.set_cons_zero, List.set_cons_succ]
    refine wpAnyH_ready (rs := [10, 11]) (by kernel_rfl) (by simp) ?_
    refine AllReadyH.cons rfl (fun KK hK => ?_) (AllReadyH.cons rfl (fun KK hK => ?_) AllReadyH.nil)
    · simp only [List.getElem_toArray, List.getElem_cons_succ, List.getElem_cons_zero]
      rw [if_pos (by rfl)]
      go_simp
      have kn := (Kept.refl 0 0 wd).alloc (.cells #[.bool false, .slice none 0 0, .int .i64 0, .bool false, .slice none 0 0, .int .i64 0] 72)
      replace r1 := r1.kept kn (.inr (.inr (Nat.le_refl 0)))
      replace r2 := r2.kept kn (.inr (.inr (Nat.le_refl 0)))
      replace r3 := r3.kept kn (.inr (.inr (Nat.le_refl 0)))
      replace r4 := r4.kept kn (.inr (.inr (Nat.le_refl 0)))
      replace kw := kw.trans kn
      replace Rf0 := kn.loose0 (World.block_lt_of_cell? _ _ R0) Rf0
      replace Rf1 := kn.loose0 (World.block_lt_of_cell? _ _ R1) Rf1
      replace Rf2 := kn.loose0 (World.block_lt_of_cell? _ _ R2) Rf2
      replace Rf3 := kn.loose0 (World.block_lt_of_cell? _ _ R3) Rf3
      replace Rf4 := kn.loose0 (World.block_lt_of_cell? _ _ R4) Rf4
      replace Rf5 := kn.loose0 (World.block_lt_of_cell? _ _ R5) Rf5
      replace bp0 := kn.cell0 bp0
      replace bp1 := kn.cell0 bp1
      replace bp2 := kn.cell0 bp2
      replace bp3 := kn.cell0 bp3
      replace bp4 := kn.cell0 bp4
      replace bp5 := kn.cell0 bp5
      replace bq0 := kn.cell0 bq0
      replace bq1 := kn.cell0 bq1
      replace bq2 := kn.cell0 bq2
      replace bq3 := kn.cell0 bq3
      replace bq4 := kn.cell0 bq4
      replace bq5 := kn.cell0 bq5
      replace R0 := kn.cell0 R0
      replace R1 := kn.cell0 R1
      replace R2 := kn.cell0 R2
      replace R3 := kn.cell0 R3
      replace R4 := kn.cell0 R4
      replace R5 := kn.cell0 R5
      replace K := hide ((unhide K).trans kn)
      have z7 := kn.size
      clear kn
      have szX_ : wd.heap.size < (wd.alloc (.cells #[.bool false, .slice none 0 0, .int .i64 0, .bool false, .slice none 0 0, .int .i64 0] 72)).heap.size := by simp
      have X_0 : (wd.alloc (.cells #[.bool false, .slice none 0 0, .int .i64 0, .bool false, .slice none 0 0, .int .i64 0] 72)).cell? ⟨wd.heap.size, 0, none⟩ = some (.bool false) := new_cell2 _ _ _ _ _ _ rfl rfl
      have X_f0 : (wd.alloc (.cells #[.bool false, .slice none 0 0, .int .i64 0, .bool false, .slice none 0 0, .int .i64 0] 72)).frozen? ⟨wd.heap.size, 0, none⟩ = false := new_loose2 _ _ _ _ _ rfl
      have X_1 : (wd.alloc (.cells #[.bool false, .slice none 0 0, .int .i64 0, .bool false, .slice none 0 0, .int .i64 0] 72)).cell? ⟨wd.heap.size, 1, none⟩ = some (.slice none 0 0) := new_cell2 _ _ _ _ _ _ rfl rfl
      have X_f1 : (wd.alloc (.cells #[.bool false, .slice none 0 0, .int .i64 0, .bool false, .slice none 0 0, .int .i64 0] 72)).frozen? ⟨wd.heap.size, 1, none⟩ = false := new_loose2 _ _ _ _ _ rfl
      have X_2 : (wd.alloc (.cells #[.bool false, .slice none 0 0, .int .i64 0, .bool false, .slice none 0 0, .int .i64 0] 72)).cell? ⟨wd.heap.size, 2, none⟩ = some (.int .i64 0) := new_cell2 _ _ _ _ _ _ rfl rfl
      have X_f2 : (wd.alloc (.cells #[.bool false, .slice none 0 0, .int .i64 0, .bool false, .slice none 0 0, .int .i64 0] 72)).frozen? ⟨wd.heap.size, 2, none⟩ = false := new_loose2 _ _ _ _ _ rfl
      have X_3 : (wd.alloc (.cells #[.bool false, .slice none 0 0, .int .i64 0, .bool false, .slice none 0 0, .int .i64 0] 72)).cell? ⟨wd.heap.size, 3, none⟩ = some (.bool false) := new_cell2 _ _ _ _ _ _ rfl rfl
      have X_f3 : (wd.alloc (.cells #[.bool false, .slice none 0 0, .int .i64 0, .bool false, .slice none 0 0, .int .i64 0] 72)).frozen? ⟨wd.heap.size, 3, none⟩ = false := new_loose2 _ _ _ _ _ rfl
      have X_4 : (wd.alloc (.cells #[.bool false, .slice none 0 0, .int .i64 0, .bool false, .slice none 0 0, .int .i64 0] 72)).cell? ⟨wd.heap.size, 4, none⟩ = some (.slice none 0 0) := new_cell2 _ _ _ _ _ _ rfl rfl
      have X_f4 : (wd.alloc (.cells #[.bool false, .slice none 0 0, .int .i64 0, .bool false, .slice none 0 0, .int .i64 0] 72)).frozen? ⟨wd.heap.size, 4, none⟩ = false := new_loose2 _ _ _ _ _ rfl
      have X_5 : (wd.alloc (.cells #[.bool false, .slice none 0 0, .int .i64 0, .bool false, .slice none 0 0, .int .i64 0] 72)).cell? ⟨wd.heap.size, 5, none⟩ = some (.int .i64 0) := new_cell2 _ _ _ _ _ _ rfl rfl
      have X_f5 : (wd.alloc (.cells #[.bool false, .slice none 0 0, .int .i64 0, .bool false, .slice none 0 0, .int .i64 0] 72)).frozen? ⟨wd.heap.size, 5, none⟩ = false := new_loose2 _ _ _ _ _ rfl
      clear hHeld
      refine hK.out _ _ ?_ (fun hHeld => ?_)
      · exact ⟨bp0, bp1, bp2, bp3, bp4, bp5, bq0, bq1, bq2, bq3, bq4, bq5⟩
      clear hK KK
      try simp only [Act.put, List.getElem_toArray, List.getElem_cons_succ, List.getElem_cons_zero, List.setIfInBounds_toArray, List.set_cons_zero, List.set_cons_succ]
      generalize wd.alloc (.cells #[.bool false, .slice none 0 0, .int .i64 0, .bool false, .slice none 0 0, .int .i64 0] 72) = w6 at *
      refine wpAnyH_ready (rs := [11]) (by kernel_rfl) (by simp) ?_
      refine AllReadyH.cons rfl (fun KK hK => ?_) AllReadyH.nil
      · simp only [List.getElem_toArray, List.getElem_cons_succ, List.getElem_cons_zero]
        rw [if_pos (by rfl)]
        go_simp
        have kn := (Kept.refl 0 0 w6).alloc (.cells #[.bool false, .slice none 0 0, .int .i64 0, .bool false, .slice none 0 0, .int .i64 0] 72)
        replace r1 := r1.kept kn (.inr (.inr (Nat.le_refl 0)))
        replace r2 := r2.kept kn (.inr (.inr (Nat.le_refl 0)))
        replace r3 := r3.kept kn (.inr (.inr (Nat.le_refl 0)))
        replace r4 := r4.kept kn (.inr (.inr (Nat.le_refl 0)))
        replace kw := kw.trans kn
        replace Rf0 := kn.loose0 (World.block_lt_of_cell? _ _ R0) Rf0
        replace Rf1 := kn.loose0 (World.block_lt_of_cell? _ _ R1) Rf1
        replace Rf2 := kn.loose0 (World.block_lt_of_cell? _ _ R2) Rf2
        replace Rf3 := kn.loose0 (World.block_lt_of_cell? _ _ R3) Rf3
        replace Rf4 := kn.loose0 (World.block_lt_of_cell? _ _ R4) Rf4
        replace Rf5 := kn.loose0 (World.block_lt_of_cell? _ _ R5) Rf5
        replace X_f0 := kn.loose0 (World.block_lt_of_cell? _ _ X_0) X_f0
        replace X_f1 := kn.loose0 (World.block_lt_of_cell? _ _ X_1) X_f1
        replace X_f2 := kn.loose0 (World.block_lt_of_cell? _ _ X_2) X_f2
        replace X_f3 := kn.loose0 (World.block_lt_of_cell? _ _ X_3) X_f3
        replace X_f4 := kn.loose0 (World.block_lt_of_cell? _ _ X_4) X_f4
        replace X_f5 := kn.loose0 (World.block_lt_of_cell? _ _ X_5) X_f5
        replace bp0 := kn.cell0 bp0
        replace bp1 := kn.cell0 bp1
        replace bp2 := kn.cell0 bp2
        replace bp3 := kn.cell0 bp3
        replace bp4 := kn.cell0 bp4
        replace bp5 := kn.cell0 bp5
        replace bq0 := kn.cell0 bq0
        replace bq1 := kn.cell0 bq1
        replace bq2 := kn.cell0 bq2
        replace bq3 := kn.cell0 bq3
        replace bq4 := kn.cell0 bq4
        replace bq5 := kn.cell0 bq5
        replace R0 := kn.cell0 R0
        replace R1 := kn.cell0 R1
        replace R2 := kn.cell0 R2
        replace R3 := kn.cell0 R3
        replace R4 := kn.cell0 R4
        replace R5 := kn.cell0 R5
        replace X_0 := kn.cell0 X_0
        replace X_1 := kn.cell0 X_1
        replace X_2 := kn.cell0 X_2
        replace X_3 := kn.cell0 X_3
        replace X_4 := kn.cell0 X_4
        replace X_5 := kn.cell0 X_5
        replace K := hide ((unhide K).trans kn)
        have z9 := kn.size
        clear kn
        have szY_ : w6.heap.size < (w6.alloc (.cells #[.bool false, .slice none 0 0, .int .i64 0, .bool false, .slice none 0 0, .int .i64 0] 72)).heap.size := by simp
        have Y_0 : (w6.alloc (.cells #[.bool false, .slice none 0 0, .int .i64 0, .bool false, .slice none 0 0, .int .i64 0] 72)).cell? ⟨w6.heap.size, 0, none⟩ = some (.bool false) := new_cell2 _ _ _ _ _ _ rfl rfl
        have Y_f0 : (w6.alloc (.cells #[.bool false, .slice none 0 0, .int .i64 0, .bool false, .slice none 0 0, .int .i64 0] 72)).frozen? ⟨w6.heap.size, 0, none⟩ = false := new_loose2 _ _ _ _ _ rfl
        have Y_1 : (w6.alloc (.cells #[.bool false, .slice none 0 0, .int .i64 0, .bool false, .slice none 0 0, .int .i64 0] 72)).cell? ⟨w6.heap.size, 1, none⟩ = some (.slice none 0 0) := new_cell2 _ _ _ _ _ _ rfl rfl
        have Y_f1 : (w6.alloc (.cells #[.bool false, .slice none 0 0, .int .i64 0, .bool false, .slice none 0 0, .int .i64 0] 72)).frozen? ⟨w6.heap.size, 1, none⟩ = false := new_loose2 _ _ _ _ _ rfl
        have Y_2 : (w6.alloc (.cells #[.bool false, .slice none 0 0, .int .i64 0, .bool false, .slice none 0 0, .int .i64 0] 72)).cell? ⟨w6.heap.size, 2, none⟩ = some (.int .i64 0) := new_cell2 _ _ _ _ _ _ rfl rfl
        have Y_f2 : (w6.alloc (.cells #[.bool false, .slice none 0 0, .int .i64 0, .bool false, .slice none 0 0, .int .i64 0] 72)).frozen? ⟨w6.heap.size, 2, none⟩ = false := new_loose2 _ _ _ _ _ rfl
        have Y_3 : (w6.alloc (.cells #[.bool false, .slice none 0 0, .int .i64 0, .bool false, .slice none 0 0, .int .i64 0] 72)).cell? ⟨w6.heap.size, 3, none⟩ = some (.bool false) := new_cell2 _ _ _ _ _ _ rfl rfl
        have Y_f3 : (w6.alloc (.cells #[.bool false, .slice none 0 0, .int .i64 0, .bool false, .slice none 0 0, .int .i64 0] 72)).frozen? ⟨w6.heap.size, 3, none⟩ = false := new_loose2 _ _ _ _ _ rfl
        have Y_4 : (w6.alloc (.cells #[.bool false, .slice none 0 0, .int .i64 0, .bool false, .slice none 0 0, .int .i64 0] 72)).cell? ⟨w6.heap.size, 4, none⟩ = some (.slice none 0 0) := new_cell2 _ _ _ _ _ _ rfl rfl
        have Y_f4 : (w6.alloc (.cells #[.bool false, .slice none 0 0, .int .i64 0, .bool false, .slice none 0 0, .int .i64 0] 72)).frozen? ⟨w6.heap.size, 4, none⟩ = false := new_loose2 _ _ _ _ _ rfl
        have Y_5 : (w6.alloc (.cells #[.bool false, .slice none 0 0, .int .i64 0, .bool false, .slice none 0 0, .int .i64 0] 72)).cell? ⟨w6.heap.size, 5, none⟩ = some (.int .i64 0) := new_cell2 _ _ _ _ _ _ rfl rfl
        have Y_f5 : (w6.alloc (.cells #[.bool false, .slice none 0 0, .int .i64 0, .bool false, .slice none 0 0, .int .i64 0] 72)).frozen? ⟨w6.heap.size, 5, none⟩ = false := new_loose2 _ _ _ _ _ rfl
        clear hHeld
        refine hK.out _ _ ?_ (fun hHeld => ?_)
        · exact ⟨bp0, bp1, bp2, bp3, bp4, bp5, bq0, bq1, bq2, bq3, bq4, bq5⟩
        clear hK KK
        try simp only [Act.put, List.getElem_toArray, List.getElem_cons_succ, List.getElem_cons_zero, List.setIfInBounds_toArray, List.set_cons_zero, List.set_cons_succ]
        generalize w6.alloc (.cells #[.bool false, .slice none 0 0, .int .i64 0, .bool false, .slice none 0 0, .int .i64 0] 72) = w8 at *
        refine wpAnyH_ready (rs := [12]) (by kernel_rfl) (by simp) ?_
        refine AllReadyH.cons rfl (fun KK hK => ?_) AllReadyH.nil
        · simp only [List.getElem_toArray, List.getElem_cons_succ, List.getElem_cons_zero]
          rw [if_pos (by rfl)]
          go_simp
          clear hHeld
          refine hK.out _ _ ?_ (fun hHeld => ?_)
          · exact ⟨(cell_aside _ (by have := unhide S0; dsimp only; omega) (cell_aside _ (by have := unhide S0; dsimp only; omega) (cell_aside _ (by have := unhide S0; dsimp only; omega) (cell_aside _ (by have := unhide S0; dsimp only; omega) (cell_aside _ (by have := unhide S0; dsimp only; omega) (cell_aside _ (by have := unhide S0; dsimp only; omega) bp0)))))), (cell_aside _ (by have := unhide S0; dsimp only; omega) (cell_aside _ (by have := unhide S0; dsimp only; omega) (cell_aside _ (by have := unhide S0; dsimp only; omega) (cell_aside _ (by have := unhide S0; dsimp only; omega) (cell_aside _ (by have := unhide S0; dsimp only; omega) (cell_aside _ (by have := unhide S0; dsimp only; omega) bp1)))))), (cell_aside _ (by have := unhide S0; dsimp only; omega) (cell_aside _ (by have := unhide S0; dsimp only; omega) (cell_aside _ (by have := unhide S0; dsimp only; omega) (cell_aside _ (by have := unhide S0; dsimp only; omega) (cell_aside _ (by have := unhide S0; dsimp only; omega) (cell_aside _ (by have := unhide S0; dsimp only; omega) bp2)))))), (cell_aside _ (by have := unhide S0; dsimp only; omega) (cell_aside _ (by have := unhide S0; dsimp only; omega) (cell_aside _ (by have := unhide S0; dsimp only; omega) (cell_aside _ (by have := unhide S0; dsimp only; omega) (cell_aside _ (by have := unhide S0; dsimp only; omega) (cell_aside _ (by have := unhide S0; dsimp only; omega) bp3)))))), (cell_aside _ (by have := unhide S0; dsimp only; omega) (cell_aside _ (by have := unhide S0; dsimp only; omega) (cell_aside _ (by have := unhide S0; dsimp only; omega) (cell_aside _ (by have := unhide S0; dsimp only; omega) (cell_aside _ (by have := unhide S0; dsimp only; omega) (cell_aside _ (by have := unhide S0; dsimp only; omega) bp4)))))), (cell_aside _ (by have := unhide S0; dsimp only; omega) (cell_aside _ (by have := unhide S0; dsimp only; omega) (cell_aside _ (by have := unhide S0; dsimp only; omega) (cell_aside _ (by have := unhide S0; dsimp only; omega) (cell_aside _ (by have := unhide S0; dsimp only; omega) (cell_aside _ (by have := unhide S0; dsimp only; omega) bp5)))))), (cell_aside _ (by have := unhide S0; dsimp only; omega) (cell_aside _ (by have := unhide S0; dsimp only; omega) (cell_aside _ (by have := unhide S0; dsimp only; omega) (cell_aside _ (by have := unhide S0; dsimp only; omega) (cell_aside _ (by have := unhide S0; dsimp only; omega) (cell_aside _ (by have := unhide S0; dsimp only; omega) bq0)))))), (cell_aside _ (by have := unhide S0; dsimp only; omega) (cell_aside _ (by have := unhide S0; dsimp only; omega) (cell_aside _ (by have := unhide S0; dsimp only; omega) (cell_aside _ (by have := unhide S0; dsimp only; omega) (cell_aside _ (by have := unhide S0; dsimp only; omega) (cell_aside _ (by have := unhide S0; dsimp only; omega) bq1)))))), (cell_aside _ (by have := unhide S0; dsimp only; omega) (cell_aside _ (by have := unhide S0; dsimp only; omega) (cell_aside _ (by have := unhide S0; dsimp only; omega) (cell_aside _ (by have := unhide S0; dsimp only; omega) (cell_aside _ (by have := unhide S0; dsimp only; omega) (cell_aside _ (by have := unhide S0; dsimp only; omega) bq2)))))), (cell_aside _ (by have := unhide S0; dsimp only; omega) (cell_aside _ (by have := unhide S0; dsimp only; omega) (cell_aside _ (by have := unhide S0; dsimp only; omega) (cell_aside _ (by have := unhide S0; dsimp only; omega) (cell_aside _ (by have := unhide S0; dsimp only; omega) (cell_aside _ (by have := unhide S0; dsimp only; omega) bq3)))))), (cell_aside _ (by have := unhide S0; dsimp only; omega) (cell_aside _ (by have := unhide S0; dsimp only; omega) (cell_aside _ (by have := unhide S0; dsimp only; omega) (cell_aside _ (by have := unhide S0; dsimp only; omega) (cell_aside _ (by have := unhide S0; dsimp only; omega) (cell_aside _ (by have := unhide S0; dsimp only; omega) bq4)))))), (cell_aside _ (by have := unhide S0; dsimp only; omega) (cell_aside _ (by have := unhide S0; dsimp only; omega) (cell_aside _ (by have := unhide S0; dsimp only; omega) (cell_aside _ (by have := unhide S0; dsimp only; omega) (cell_aside _ (by have := unhide S0; dsimp only; omega) (cell_aside _ (by have := unhide S0; dsimp only; omega) bq5))))))⟩
          clear hK KK
          try simp only [Act.put, List.getElem_toArray, List.getElem_cons_succ, List.getElem_cons_zero, List.setIfInBounds_toArray, List.set_cons_zero, List.set_cons_succ]
          have sS0 := unhide S0
          replace r1 := r1.set_other (p := ⟨wd.heap.size, 0, none⟩) (by dsimp only; omega) (.bool s1)
          replace r2 := r2.set_other (p := ⟨wd.heap.size, 0, none⟩) (by dsimp only; omega) (.bool s1)
          replace r3 := r3.set_other (p := ⟨wd.heap.size, 0, none⟩) (by dsimp only; omega) (.bool s1)
          replace r4 := r4.set_other (p := ⟨wd.heap.size, 0, none⟩) (by dsimp only; omega) (.bool s1)
          replace bp0 := cell_else (.bool s1) (r := ⟨wd.heap.size, 0, none⟩) (by dsimp only; omega) rfl rfl bp0
          replace bp1 := cell_else (.bool s1) (r := ⟨wd.heap.size, 0, none⟩) (by dsimp only; omega) rfl rfl bp1
          replace bp2 := cell_else (.bool s1) (r := ⟨wd.heap.size, 0, none⟩) (by dsimp only; omega) rfl rfl bp2
          replace bp3 := cell_else (.bool s1) (r := ⟨wd.heap.size, 0, none⟩) (by dsimp only; omega) rfl rfl bp3
          replace bp4 := cell_else (.bool s1) (r := ⟨wd.heap.size, 0, none⟩) (by dsimp only; omega) rfl rfl bp4
          replace bp5 := cell_else (.bool s1) (r := ⟨wd.heap.size, 0, none⟩) (by dsimp only; omega) rfl rfl bp5
          replace bq0 := cell_else (.bool s1) (r := ⟨wd.heap.size, 0, none⟩) (by dsimp only; omega) rfl rfl bq0
          replace bq1 := cell_else (.bool s1) (r := ⟨wd.heap.size, 0, none⟩) (by dsimp only; omega) rfl rfl bq1
          replace bq2 := cell_else (.bool s1) (r := ⟨wd.heap.size, 0, none⟩) (by dsimp only; omega) rfl rfl bq2
          replace bq3 := cell_else (.bool s1) (r := ⟨wd.heap.size, 0, none⟩) (by dsimp only; omega) rfl rfl bq3
          replace bq4 := cell_else (.bool s1) (r := ⟨wd.heap.size, 0, none⟩) (by dsimp only; omega) rfl rfl bq4
          replace bq5 := cell_else (.bool s1) (r := ⟨wd.heap.size, 0, none⟩) (by dsimp only; omega) rfl rfl bq5
          replace R0 := cell_else (.bool s1) (r := ⟨wd.heap.size, 0, none⟩) (by dsimp only; omega) rfl rfl R0
          replace R1 := cell_else (.bool s1) (r := ⟨wd.heap.size, 0, none⟩) (by dsimp only; omega) rfl rfl R1
          replace R2 := cell_else (.bool s1) (r := ⟨wd.heap.size, 0, none⟩) (by dsimp only; omega) rfl rfl R2
          replace R3 := cell_else (.bool s1) (r := ⟨wd.heap.size, 0, none⟩) (by dsimp only; omega) rfl rfl R3
          replace R4 := cell_else (.bool s1) (r := ⟨wd.heap.size, 0, none⟩) (by dsimp only; omega) rfl rfl R4
          replace R5 := cell_else (.bool s1) (r := ⟨wd.heap.size, 0, none⟩) (by dsimp only; omega) rfl rfl R5
          replace X_1 := cell_else (.bool s1) (r := ⟨wd.heap.size, 0, none⟩) (by dsimp only; omega) rfl rfl X_1
          replace X_2 := cell_else (.bool s1) (r := ⟨wd.heap.size, 0, none⟩) (by dsimp only; omega) rfl rfl X_2
          replace X_3 := cell_else (.bool s1) (r := ⟨wd.heap.size, 0, none⟩) (by dsimp only; omega) rfl rfl X_3
          replace X_4 := cell_else (.bool s1) (r := ⟨wd.heap.size, 0, none⟩) (by dsimp only; omega) rfl rfl X_4
          replace X_5 := cell_else (.bool s1) (r := ⟨wd.heap.size, 0, none⟩) (by dsimp only; omega) rfl rfl X_5
          replace Y_0 := cell_else (.bool s1) (r := ⟨wd.heap.size, 0, none⟩) (by dsimp only; omega) rfl rfl Y_0
          replace Y_1 := cell_else (.bool s1) (r := ⟨wd.heap.size, 0, none⟩) (by dsimp only; omega) rfl rfl Y_1
          replace Y_2 := cell_else (.bool s1) (r := ⟨wd.heap.size, 0, none⟩) (by dsimp only; omega) rfl rfl Y_2
          replace Y_3 := cell_else (.bool s1) (r := ⟨wd.heap.size, 0, none⟩) (by dsimp only; omega) rfl rfl Y_3
          replace Y_4 := cell_else (.bool s1) (r := ⟨wd.heap.size, 0, none⟩) (by dsimp only; omega) rfl rfl Y_4
          replace Y_5 := cell_else (.bool s1) (r := ⟨wd.heap.size, 0, none⟩) (by dsimp only; omega) rfl rfl Y_5
          replace Rf0 : (w8.setCell ⟨wd.heap.size, 0, none⟩ (.bool s1)).frozen? _ = false := (frozen_set _ _ _ _ _).trans Rf0
          replace Rf1 : (w8.setCell ⟨wd.heap.size, 0, none⟩ (.bool s1)).frozen? _ = false := (frozen_set _ _ _ _ _).trans Rf1
          replace Rf2 : (w8.setCell ⟨wd.heap.size, 0, none⟩ (.bool s1)).frozen? _ = false := (frozen_set _ _ _ _ _).trans Rf2
          replace Rf3 : (w8.setCell ⟨wd.heap.size, 0, none⟩ (.bool s1)).frozen? _ = false := (frozen_set _ _ _ _ _).trans Rf3
          replace Rf4 : (w8.setCell ⟨wd.heap.size, 0, none⟩ (.bool s1)).frozen? _ = false := (frozen_set _ _ _ _ _).trans Rf4
          replace Rf5 : (w8.setCell ⟨wd.heap.size, 0, none⟩ (.bool s1)).frozen? _ = false := (frozen_set _ _ _ _ _).trans Rf5
          replace X_f0 : (w8.setCell ⟨wd.heap.size, 0, none⟩ (.bool s1)).frozen? _ = false := (frozen_set _ _ _ _ _).trans X_f0
          replace X_f1 : (w8.setCell ⟨wd.heap.size, 0, none⟩ (.bool s1)).frozen? _ = false := (frozen_set _ _ _ _ _).trans X_f1
          replace X_f2 : (w8.setCell ⟨wd.heap.size, 0, none⟩ (.bool s1)).frozen? _ = false := (frozen_set _ _ _ _ _).trans X_f2
          replace X_f3 : (w8.setCell ⟨wd.heap.size, 0, none⟩ (.bool s1)).frozen? _ = false := (frozen_set _ _ _ _ _).trans X_f3
          replace X_f4 : (w8.setCell ⟨wd.heap.size, 0, none⟩ (.bool s1)).frozen? _ = false := (frozen_set _ _ _ _ _).trans X_f4
          replace X_f5 : (w8.setCell ⟨wd.heap.size, 0, none⟩ (.bool s1)).frozen? _ = false := (frozen_set _ _ _ _ _).trans X_f5
          replace Y_f0 : (w8.setCell ⟨wd.heap.size, 0, none⟩ (.bool s1)).frozen? _ = false := (frozen_set _ _ _ _ _).trans Y_f0
          replace Y_f1 : (w8.setCell ⟨wd.heap.size, 0, none⟩ (.bool s1)).frozen? _ = false := (frozen_set _ _ _ _ _).trans Y_f1
          replace Y_f2 : (w8.setCell ⟨wd.heap.size, 0, none⟩ (.bool s1)).frozen? _ = false := (frozen_set _ _ _ _ _).trans Y_f2
          replace Y_f3 : (w8.setCell ⟨wd.heap.size, 0, none⟩ (.bool s1)).frozen? _ = false := (frozen_set _ _ _ _ _).trans Y_f3
          replace Y_f4 : (w8.setCell ⟨wd.heap.size, 0, none⟩ (.bool s1)).frozen? _ = false := (frozen_set _ _ _ _ _).trans Y_f4
          replace Y_f5 : (w8.setCell ⟨wd.heap.size, 0, none⟩ (.bool s1)).frozen? _ = false := (frozen_set _ _ _ _ _).trans Y_f5
          replace X_0 : (w8.setCell ⟨wd.heap.size, 0, none⟩ (.bool s1)).cell? ⟨wd.heap.size, 0, none⟩ = some (.bool s1) := cell_on _ _ _ _ _ X_0
          replace kw := kw.setNew (p := ⟨wd.heap.size, 0, none⟩) (by dsimp only; omega) (.bool s1)
          replace K := hide ((unhide K).setNew (p := ⟨wd.heap.size, 0, none⟩) (by dsimp only; omega) (.bool s1))
          have zs10 : (w8.setCell ⟨wd.heap.size, 0, none⟩ (.bool s1)).heap.size = w8.heap.size := by simp [World.setCell]
          clear sS0
          generalize w8.setCell ⟨wd.heap.size, 0, none⟩ (.bool s1) = ws10 at *
          have sS0 := unhide S0
          replace r1 := r1.set_other (p := ⟨wd.heap.size, 1, none⟩) (by dsimp only; omega) (.slice a1 l1.length c1)
          replace r2 := r2.set_other (p := ⟨wd.heap.size, 1, none⟩) (by dsimp only; omega) (.slice a1 l1.length c1)
          replace r3 := r3.set_other (p := ⟨wd.heap.size, 1, none⟩) (by dsimp only; omega) (.slice a1 l1.length c1)
          replace r4 := r4.set_other (p := ⟨wd.heap.size, 1, none⟩) (by dsimp only; omega) (.slice a1 l1.length c1)
          replace bp0 := cell_else (.slice a1 l1.length c1) (r := ⟨wd.heap.size, 1, none⟩) (by dsimp only; omega) rfl rfl bp0
          replace bp1 := cell_else (.slice a1 l1.length c1) (r := ⟨wd.heap.size, 1, none⟩) (by dsimp only; omega) rfl rfl bp1
          replace bp2 := cell_else (.slice a1 l1.length c1) (r := ⟨wd.heap.size, 1, none⟩) (by dsimp only; omega) rfl rfl bp2
          replace bp3 := cell_else (.slice a1 l1.length c1) (r := ⟨wd.heap.size, 1, none⟩) (by dsimp only; omega) rfl rfl bp3
          replace bp4 := cell_else (.slice a1 l1.length c1) (r := ⟨wd.heap.size, 1, none⟩) (by dsimp only; omega) rfl rfl bp4
          replace bp5 := cell_else (.slice a1 l1.length c1) (r := ⟨wd.heap.size, 1, none⟩) (by dsimp only; omega) rfl rfl bp5
          replace bq0 := cell_else (.slice a1 l1.length c1) (r := ⟨wd.heap.size, 1, none⟩) (by dsimp only; omega) rfl rfl bq0
          replace bq1 := cell_else (.slice a1 l1.length c1) (r := ⟨wd.heap.size, 1, none⟩) (by dsimp only; omega) rfl rfl bq1
          replace bq2 := cell_else (.slice a1 l1.length c1) (r := ⟨wd.heap.size, 1, none⟩) (by dsimp only; omega) rfl rfl bq2
          replace bq3 := cell_else (.slice a1 l1.length c1) (r := ⟨wd.heap.size, 1, none⟩) (by dsimp only; omega) rfl rfl bq3
          replace bq4 := cell_else (.slice a1 l1.length c1) (r := ⟨wd.heap.size, 1, none⟩) (by dsimp only; omega) rfl rfl bq4
          replace bq5 := cell_else (.slice a1 l1.length c1) (r := ⟨wd.heap.size, 1, none⟩) (by dsimp only; omega) rfl rfl bq5
          replace R0 := cell_else (.slice a1 l1.length c1) (r := ⟨wd.heap.size, 1, none⟩) (by dsimp only; omega) rfl rfl R0
          replace R1 := cell_else (.slice a1 l1.length c1) (r := ⟨wd.heap.size, 1, none⟩) (by dsimp only; omega) rfl rfl R1
          replace R2 := cell_else (.slice a1 l1.length c1) (r := ⟨wd.heap.size, 1, none⟩) (by dsimp only; omega) rfl rfl R2
          replace R3 := cell_else (.slice a1 l1.length c1) (r := ⟨wd.heap.size, 1, none⟩) (by dsimp only; omega) rfl rfl R3
          replace R4 := cell_else (.slice a1 l1.length c1) (r := ⟨wd.heap.size, 1, none⟩) (by dsimp only; omega) rfl rfl R4
          replace R5 := cell_else (.slice a1 l1.length c1) (r := ⟨wd.heap.size, 1, none⟩) (by dsimp only; omega) rfl rfl R5
          replace X_0 := cell_else (.slice a1 l1.length c1) (r := ⟨wd.heap.size, 1, none⟩) (by dsimp only; omega) rfl rfl X_0
          replace X_2 := cell_else (.slice a1 l1.length c1) (r := ⟨wd.heap.size, 1, none⟩) (by dsimp only; omega) rfl rfl X_2
          replace X_3 := cell_else (.slice a1 l1.length c1) (r := ⟨wd.heap.size, 1, none⟩) (by dsimp only; omega) rfl rfl X_3
          replace X_4 := cell_else (.slice a1 l1.length c1) (r := ⟨wd.heap.size, 1, none⟩) (by dsimp only; omega) rfl rfl X_4
          replace X_5 := cell_else (.slice a1 l1.length c1) (r := ⟨wd.heap.size, 1, none⟩) (by dsimp only; omega) rfl rfl X_5
          replace Y_0 := cell_else (.slice a1 l1.length c1) (r := ⟨wd.heap.size, 1, none⟩) (by dsimp only; omega) rfl rfl Y_0
          replace Y_1 := cell_else (.slice a1 l1.length c1) (r := ⟨wd.heap.size, 1, none⟩) (by dsimp only; omega) rfl rfl Y_1
          replace Y_2 := cell_else (.slice a1 l1.length c1) (r := ⟨wd.heap.size, 1, none⟩) (by dsimp only; omega) rfl rfl Y_2
          replace Y_3 := cell_else (.slice a1 l1.length c1) (r := ⟨wd.heap.size, 1, none⟩) (by dsimp only; omega) rfl rfl Y_3
          replace Y_4 := cell_else (.slice a1 l1.length c1) (r := ⟨wd.heap.size, 1, none⟩) (by dsimp only; omega) rfl rfl Y_4
          replace Y_5 := cell_else (.slice a1 l1.length c1) (r := ⟨wd.heap.size, 1, none⟩) (by dsimp only; omega) rfl rfl Y_5
          replace Rf0 : (ws10.setCell ⟨wd.heap.size, 1, none⟩ (.slice a1 l1.length c1)).frozen? _ = false := (frozen_set _ _ _ _ _).trans Rf0
          replace Rf1 : (ws10.setCell ⟨wd.heap.size, 1, none⟩ (.slice a1 l1.length c1)).frozen? _ = false := (frozen_set _ _ _ _ _).trans Rf1
          replace Rf2 : (ws10.setCell ⟨wd.heap.size, 1, none⟩ (.slice a1 l1.length c1)).frozen? _ = false := (frozen_set _ _ _ _ _).trans Rf2
          replace Rf3 : (ws10.setCell ⟨wd.heap.size, 1, none⟩ (.slice a1 l1.length c1)).frozen? _ = false := (frozen_set _ _ _ _ _).trans Rf3
          replace Rf4 : (ws10.setCell ⟨wd.heap.size, 1, none⟩ (.slice a1 l1.length c1)).frozen? _ = false := (frozen_set _ _ _ _ _).trans Rf4
          replace Rf5 : (ws10.setCell ⟨wd.heap.size, 1, none⟩ (.slice a1 l1.length c1)).frozen? _ = false := (frozen_set _ _ _ _ _).trans Rf5
          replace X_f0 : (ws10.setCell ⟨wd.heap.size, 1, none⟩ (.slice a1 l1.length c1)).frozen? _ = false := (frozen_set _ _ _ _ _).trans X_f0
          replace X_f1 : (ws10.setCell ⟨wd.heap.size, 1, none⟩ (.slice a1 l1.length c1)).frozen? _ = false := (frozen_set _ _ _ _ _).trans X_f1
          replace X_f2 : (ws10.setCell ⟨wd.heap.size, 1, none⟩ (.slice a1 l1.length c1)).frozen? _ = false := (frozen_set _ _ _ _ _).trans X_f2
          replace X_f3 : (ws10.setCell ⟨wd.heap.size, 1, none⟩ (.slice a1 l1.length c1)).frozen? _ = false := (frozen_set _ _ _ _ _).trans X_f3
          replace X_f4 : (ws10.setCell ⟨wd.heap.size, 1, none⟩ (.slice a1 l1.length c1)).frozen? _ = false := (frozen_set _ _ _ _ _).trans X_f4
          replace X_f5 : (ws10.setCell ⟨wd.heap.size, 1, none⟩ (.slice a1 l1.length c1)).frozen? _ = false := (frozen_set _ _ _ _ _).trans X_f5
          replace Y_f0 : (ws10.setCell ⟨wd.heap.size, 1, none⟩ (.slice a1 l1.length c1)).frozen? _ = false := (frozen_set _ _ _ _ _).trans Y_f0
          replace Y_f1 : (ws10.setCell ⟨wd.heap.size, 1, none⟩ (.slice a1 l1.length c1)).frozen? _ = false := (frozen_set _ _ _ _ _).trans Y_f1
          replace Y_f2 : (ws10.setCell ⟨wd.heap.size, 1, none⟩ (.slice a1 l1.length c1)).frozen? _ = false := (frozen_set _ _ _ _ _).trans Y_f2
          replace Y_f3 : (ws10.setCell ⟨wd.heap.size, 1, none⟩ (.slice a1 l1.length c1)).frozen? _ = false := (frozen_set _ _ _ _ _).trans Y_f3
          replace Y_f4 : (ws10.setCell ⟨wd.heap.size, 1, none⟩ (.slice a1 l1.length c1)).frozen? _ = false := (frozen_set _ _ _ _ _).trans Y_f4
          replace Y_f5 : (ws10.setCell ⟨wd.heap.size, 1, none⟩ (.slice a1 l1.length c1)).frozen? _ = false := (frozen_set _ _ _ _ _).trans Y_f5
          replace X_1 : (ws10.setCell ⟨wd.heap.size, 1, none⟩ (.slice a1 l1.length c1)).cell? ⟨wd.heap.size, 1, none⟩ = some (.slice a1 l1.length c1) := cell_on _ _ _ _ _ X_1
          replace kw := kw.setNew (p := ⟨wd.heap.size, 1, none⟩) (by dsimp only; omega) (.slice a1 l1.length c1)
          replace K := hide ((unhide K).setNew (p := ⟨wd.heap.size, 1, none⟩) (by dsimp only; omega) (.slice a1 l1.length c1))
          have zs11 : (ws10.setCell ⟨wd.heap.size, 1, none⟩ (.slice a1 l1.length c1)).heap.size = ws10.heap.size := by simp [World.setCell]
          clear sS0
          generalize ws10.setCell ⟨wd.heap.size, 1, none⟩ (.slice a1 l1.length c1) = ws11 at *
          have sS0 := unhide S0
          replace r1 := r1.set_other (p := ⟨wd.heap.size, 2, none⟩) (by dsimp only; omega) (.int .i64 e1)
          replace r2 := r2.set_other (p := ⟨wd.heap.size, 2, none⟩) (by dsimp only; omega) (.int .i64 e1)
          replace r3 := r3.set_other (p := ⟨wd.heap.size, 2, none⟩) (by dsimp only; omega) (.int .i64 e1)
          replace r4 := r4.set_other (p := ⟨wd.heap.size, 2, none⟩) (by dsimp only; omega) (.int .i64 e1)
          replace bp0 := cell_else (.int .i64 e1) (r := ⟨wd.heap.size, 2, none⟩) (by dsimp only; omega) rfl rfl bp0
          replace bp1 := cell_else (.int .i64 e1) (r := ⟨wd.heap.size, 2, none⟩) (by dsimp only; omega) rfl rfl bp1
          replace bp2 := cell_else (.int .i64 e1) (r := ⟨wd.heap.size, 2, none⟩) (by dsimp only; omega) rfl rfl bp2
          replace bp3 := cell_else (.int .i64 e1) (r := ⟨wd.heap.size, 2, none⟩) (by dsimp only; omega) rfl rfl bp3
          replace bp4 := cell_else (.int .i64 e1) (r := ⟨wd.heap.size, 2, none⟩) (by dsimp only; omega) rfl rfl bp4
          replace bp5 := cell_else (.int .i64 e1) (r := ⟨wd.heap.size, 2, none⟩) (by dsimp only; omega) rfl rfl bp5
          replace bq0 := cell_else (.int .i64 e1) (r := ⟨wd.heap.size, 2, none⟩) (by dsimp only; omega) rfl rfl bq0
          replace bq1 := cell_else (.int .i64 e1) (r := ⟨wd.heap.size, 2, none⟩) (by dsimp only; omega) rfl rfl bq1
          replace bq2 := cell_else (.int .i64 e1) (r := ⟨wd.heap.size, 2, none⟩) (by dsimp only; omega) rfl rfl bq2
          replace bq3 := cell_else (.int .i64 e1) (r := ⟨wd.heap.size, 2, none⟩) (by dsimp only; omega) rfl rfl bq3
          replace bq4 := cell_else (.int .i64 e1) (r := ⟨wd.heap.size, 2, none⟩) (by dsimp only; omega) rfl rfl bq4
          replace bq5 := cell_else (.int .i64 e1) (r := ⟨wd.heap.size, 2, none⟩) (by dsimp only; omega) rfl rfl bq5
          replace R0 := cell_else (.int .i64 e1) (r := ⟨wd.heap.size, 2, none⟩) (by dsimp only; omega) rfl rfl R0
          replace R1 := cell_else (.int .i64 e1) (r := ⟨wd.heap.size, 2, none⟩) (by dsimp only; omega) rfl rfl R1
          replace R2 := cell_else (.int .i64 e1) (r := ⟨wd.heap.size, 2, none⟩) (by dsimp only; omega) rfl rfl R2
          replace R3 := cell_else (.int .i64 e1) (r := ⟨wd.heap.size, 2, none⟩) (by dsimp only; omega) rfl rfl R3
          replace R4 := cell_else (.int .i64 e1) (r := ⟨wd.heap.size, 2, none⟩) (by dsimp only; omega) rfl rfl R4
          replace R5 := cell_else (.int .i64 e1) (r := ⟨wd.heap.size, 2, none⟩) (by dsimp only; omega) rfl rfl R5
          replace X_0 := cell_else (.int .i64 e1) (r := ⟨wd.heap.size, 2, none⟩) (by dsimp only; omega) rfl rfl X_0
          replace X_1 := cell_else (.int .i64 e1) (r := ⟨wd.heap.size, 2, none⟩) (by dsimp only; omega) rfl rfl X_1
          replace X_3 := cell_else (.int .i64 e1) (r := ⟨wd.heap.size, 2, none⟩) (by dsimp only; omega) rfl rfl X_3
          replace X_4 := cell_else (.int .i64 e1) (r := ⟨wd.heap.size, 2, none⟩) (by dsimp only; omega) rfl rfl X_4
          replace X_5 := cell_else (.int .i64 e1) (r := ⟨wd.heap.size, 2, none⟩) (by dsimp only; omega) rfl rfl X_5
          replace Y_0 := cell_else (.int .i64 e1) (r := ⟨wd.heap.size, 2, none⟩) (by dsimp only; omega) rfl rfl Y_0
          replace Y_1 := cell_else (.int .i64 e1) (r := ⟨wd.heap.size, 2, none⟩) (by dsimp only; omega) rfl rfl Y_1
          replace Y_2 := cell_else (.int .i64 e1) (r := ⟨wd.heap.size, 2, none⟩) (by dsimp only; omega) rfl rfl Y_2
          replace Y_3 := cell_else (.int .i64 e1) (r := ⟨wd.heap.size, 2, none⟩) (by dsimp only; omega) rfl rfl Y_3
          replace Y_4 := cell_else (.int .i64 e1) (r := ⟨wd.heap.size, 2, none⟩) (by dsimp only; omega) rfl rfl Y_4
          replace Y_5 := cell_else (.int .i64 e1) (r := ⟨wd.heap.size, 2, none⟩) (by dsimp only; omega) rfl rfl Y_5
          replace Rf0 : (ws11.setCell ⟨wd.heap.size, 2, none⟩ (.int .i64 e1)).frozen? _ = false := (frozen_set _ _ _ _ _).trans Rf0
          replace Rf1 : (ws11.setCell ⟨wd.heap.size, 2, none⟩ (.int .i64 e1)).frozen? _ = false := (frozen_set _ _ _ _ _).trans Rf1
          replace Rf2 : (ws11.setCell ⟨wd.heap.size, 2, none⟩ (.int .i64 e1)).frozen? _ = false := (frozen_set _ _ _ _ _).trans Rf2
          replace Rf3 : (ws11.setCell ⟨wd.heap.size, 2, none⟩ (.int .i64 e1)).frozen? _ = false := (frozen_set _ _ _ _ _).trans Rf3
          replace Rf4 : (ws11.setCell ⟨wd.heap.size, 2, none⟩ (.int .i64 e1)).frozen? _ = false := (frozen_set _ _ _ _ _).trans Rf4
          replace Rf5 : (ws11.setCell ⟨wd.heap.size, 2, none⟩ (.int .i64 e1)).frozen? _ = false := (frozen_set _ _ _ _ _).trans Rf5
          replace X_f0 : (ws11.setCell ⟨wd.heap.size, 2, none⟩ (.int .i64 e1)).frozen? _ = false := (frozen_set _ _ _ _ _).trans X_f0
          replace X_f1 : (ws11.setCell ⟨wd.heap.size, 2, none⟩ (.int .i64 e1)).frozen? _ = false := (frozen_set _ _ _ _ _).trans X_f1
          replace X_f2 : (ws11.setCell ⟨wd.heap.size, 2, none⟩ (.int .i64 e1)).frozen? _ = false := (frozen_set _ _ _ _ _).trans X_f2
          replace X_f3 : (ws11.setCell ⟨wd.heap.size, 2, none⟩ (.int .i64 e1)).frozen? _ = false := (frozen_set _ _ _ _ _).trans X_f3
          replace X_f4 : (ws11.setCell ⟨wd.heap.size, 2, none⟩ (.int .i64 e1)).frozen? _ = false := (frozen_set _ _ _ _ _).trans X_f4
          replace X_f5 : (ws11.setCell ⟨wd.heap.size, 2, none⟩ (.int .i64 e1)).frozen? _ = false := (frozen_set _ _ _ _ _).trans X_f5
          replace Y_f0 : (ws11.setCell ⟨wd.heap.size, 2, none⟩ (.int .i64 e1)).frozen? _ = false := (frozen_set _ _ _ _ _).trans Y_f0
          replace Y_f1 : (ws11.setCell ⟨wd.heap.size, 2, none⟩ (.int .i64 e1)).frozen? _ = false := (frozen_set _ _ _ _ _).trans Y_f1
          replace Y_f2 : (ws11.setCell ⟨wd.heap.size, 2, none⟩ (.int .i64 e1)).frozen? _ = false := (frozen_set _ _ _ _ _).trans Y_f2
          replace Y_f3 : (ws11.setCell ⟨wd.heap.size, 2, none⟩ (.int .i64 e1)).frozen? _ = false := (frozen_set _ _ _ _ _).trans Y_f3
          replace Y_f4 : (ws11.setCell ⟨wd.heap.size, 2, none⟩ (.int .i64 e1)).frozen? _ = false := (frozen_set _ _ _ _ _).trans Y_f4
          replace Y_f5 : (ws11.setCell ⟨wd.heap.size, 2, none⟩ (.int .i64 e1)).frozen? _ = false := (frozen_set _ _ _ _ _).trans Y_f5
          replace X_2 : (ws11.setCell ⟨wd.heap.size, 2, none⟩ (.int .i64 e1)).cell? ⟨wd.heap.size, 2, none⟩ = some (.int .i64 e1) := cell_on _ _ _ _ _ X_2
          replace kw := kw.setNew (p := ⟨wd.heap.size, 2, none⟩) (by dsimp only; omega) (.int .i64 e1)
          replace K := hide ((unhide K).setNew (p := ⟨wd.heap.size, 2, none⟩) (by dsimp only; omega) (.int .i64 e1))
          have zs12 : (ws11.setCell ⟨wd.heap.size, 2, none⟩ (.int .i64 e1)).heap.size = ws11.heap.size := by simp [World.setCell]
          clear sS0
          generalize ws11.setCell ⟨wd.heap.size, 2, none⟩ (.int .i64 e1) = ws12 at *
          have sS0 := unhide S0
          replace r1 := r1.set_other (p := ⟨wd.heap.size, 3, none⟩) (by dsimp only; omega) (.bool s3)
          replace r2 := r2.set_other (p := ⟨wd.heap.size, 3, none⟩) (by dsimp only; omega) (.bool s3)
          replace r3 := r3.set_other (p := ⟨wd.heap.size, 3, none⟩) (by dsimp only; omega) (.bool s3)
          replace r4 := r4.set_other (p := ⟨wd.heap.size, 3, none⟩) (by dsimp only; omega) (.bool s3)
          replace bp0 := cell_else (.bool s3) (r := ⟨wd.heap.size, 3, none⟩) (by dsimp only; omega) rfl rfl bp0
          replace bp1 := cell_else (.bool s3) (r := ⟨wd.heap.size, 3, none⟩) (by dsimp only; omega) rfl rfl bp1
          replace bp2 := cell_else (.bool s3) (r := ⟨wd.heap.size, 3, none⟩) (by dsimp only; omega) rfl rfl bp2
          replace bp3 := cell_else (.bool s3) (r := ⟨wd.heap.size, 3, none⟩) (by dsimp only; omega) rfl rfl bp3
          replace bp4 := cell_else (.bool s3) (r := ⟨wd.heap.size, 3, none⟩) (by dsimp only; omega) rfl rfl bp4
          replace bp5 := cell_else (.bool s3) (r := ⟨wd.heap.size, 3, none⟩) (by dsimp only; omega) rfl rfl bp5
          replace bq0 := cell_else (.bool s3) (r := ⟨wd.heap.size, 3, none⟩) (by dsimp only; omega) rfl rfl bq0
          replace bq1 := cell_else (.bool s3) (r := ⟨wd.heap.size, 3, none⟩) (by dsimp only; omega) rfl rfl bq1
          replace bq2 := cell_else (.bool s3) (r := ⟨wd.heap.size, 3, none⟩) (by dsimp only; omega) rfl rfl bq2
          replace bq3 := cell_else (.bool s3) (r := ⟨wd.heap.size, 3, none⟩) (by dsimp only; omega) rfl rfl bq3
          replace bq4 := cell_else (.bool s3) (r := ⟨wd.heap.size, 3, none⟩) (by dsimp only; omega) rfl rfl bq4
          replace bq5 := cell_else (.bool s3) (r := ⟨wd.heap.size, 3, none⟩) (by dsimp only; omega) rfl rfl bq5
          replace R0 := cell_else (.bool s3) (r := ⟨wd.heap.size, 3, none⟩) (by dsimp only; omega) rfl rfl R0
          replace R1 := cell_else (.bool s3) (r := ⟨wd.heap.size, 3, none⟩) (by dsimp only; omega) rfl rfl R1
          replace R2 := cell_else (.bool s3) (r := ⟨wd.heap.size, 3, none⟩) (by dsimp only; omega) rfl rfl R2
          replace R3 := cell_else (.bool s3) (r := ⟨wd.heap.size, 3, none⟩) (by dsimp only; omega) rfl rfl R3
          replace R4 := cell_else (.bool s3) (r := ⟨wd.heap.size, 3, none⟩) (by dsimp only; omega) rfl rfl R4
          replace R5 := cell_else (.bool s3) (r := ⟨wd.heap.size, 3, none⟩) (by dsimp only; omega) rfl rfl R5
          replace X_0 := cell_else (.bool s3) (r := ⟨wd.heap.size, 3, none⟩) (by dsimp only; omega) rfl rfl X_0
          replace X_1 := cell_else (.bool s3) (r := ⟨wd.heap.size, 3, none⟩) (by dsimp only; omega) rfl rfl X_1
          replace X_2 := cell_else (.bool s3) (r := ⟨wd.heap.size, 3, none⟩) (by dsimp only; omega) rfl rfl X_2
          replace X_4 := cell_else (.bool s3) (r := ⟨wd.heap.size, 3, none⟩) (by dsimp only; omega) rfl rfl X_4
          replace X_5 := cell_else (.bool s3) (r := ⟨wd.heap.size, 3, none⟩) (by dsimp only; omega) rfl rfl X_5
          replace Y_0 := cell_else (.bool s3) (r := ⟨wd.heap.size, 3, none⟩) (by dsimp only; omega) rfl rfl Y_0
          replace Y_1 := cell_else (.bool s3) (r := ⟨wd.heap.size, 3, none⟩) (by dsimp only; omega) rfl rfl Y_1
          replace Y_2 := cell_else (.bool s3) (r := ⟨wd.heap.size, 3, none⟩) (by dsimp only; omega) rfl rfl Y_2
          replace Y_3 := cell_else (.bool s3) (r := ⟨wd.heap.size, 3, none⟩) (by dsimp only; omega) rfl rfl Y_3
          replace Y_4 := cell_else (.bool s3) (r := ⟨wd.heap.size, 3, none⟩) (by dsimp only; omega) rfl rfl Y_4
          replace Y_5 := cell_else (.bool s3) (r := ⟨wd.heap.size, 3, none⟩) (by dsimp only; omega) rfl rfl Y_5
          replace Rf0 : (ws12.setCell ⟨wd.heap.size, 3, none⟩ (.bool s3)).frozen? _ = false := (frozen_set _ _ _ _ _).trans Rf0
          replace Rf1 : (ws12.setCell ⟨wd.heap.size, 3, none⟩ (.bool s3)).frozen? _ = false := (frozen_set _ _ _ _ _).trans Rf1
          replace Rf2 : (ws12.setCell ⟨wd.heap.size, 3, none⟩ (.bool s3)).frozen? _ = false := (frozen_set _ _ _ _ _).trans Rf2
          replace Rf3 : (ws12.setCell ⟨wd.heap.size, 3, none⟩ (.bool s3)).frozen? _ = false := (frozen_set _ _ _ _ _).trans Rf3
          replace Rf4 : (ws12.setCell ⟨wd.heap.size, 3, none⟩ (.bool s3)).frozen? _ = false := (frozen_set _ _ _ _ _).trans Rf4
          replace Rf5 : (ws12.setCell ⟨wd.heap.size, 3, none⟩ (.bool s3)).frozen? _ = false := (frozen_set _ _ _ _ _).trans Rf5
          replace X_f0 : (ws12.setCell ⟨wd.heap.size, 3, none⟩ (.bool s3)).frozen? _ = false := (frozen_set _ _ _ _ _).trans X_f0
          replace X_f1 : (ws12.setCell ⟨wd.heap.size, 3, none⟩ (.bool s3)).frozen? _ = false := (frozen_set _ _ _ _ _).trans X_f1
          replace X_f2 : (ws12.setCell ⟨wd.heap.size, 3, none⟩ (.bool s3)).frozen? _ = false := (frozen_set _ _ _ _ _).trans X_f2
          replace X_f3 : (ws12.setCell ⟨wd.heap.size, 3, none⟩ (.bool s3)).frozen? _ = false := (frozen_set _ _ _ _ _).trans X_f3
          replace X_f4 : (ws12.setCell ⟨wd.heap.size, 3, none⟩ (.bool s3)).frozen? _ = false := (frozen_set _ _ _ _ _).trans X_f4
          replace X_f5 : (ws12.setCell ⟨wd.heap.size, 3, none⟩ (.bool s3)).frozen? _ = false := (frozen_set _ _ _ _ _).trans X_f5
          replace Y_f0 : (ws12.setCell ⟨wd.heap.size, 3, none⟩ (.bool s3)).frozen? _ = false := (frozen_set _ _ _ _ _).trans Y_f0
          replace Y_f1 : (ws12.setCell ⟨wd.heap.size, 3, none⟩ (.bool s3)).frozen? _ = false := (frozen_set _ _ _ _ _).trans Y_f1
          replace Y_f2 : (ws12.setCell ⟨wd.heap.size, 3, none⟩ (.bool s3)).frozen? _ = false := (frozen_set _ _ _ _ _).trans Y_f2
          replace Y_f3 : (ws12.setCell ⟨wd.heap.size, 3, none⟩ (.bool s3)).frozen? _ = false := (frozen_set _ _ _ _ _).trans Y_f3
          replace Y_f4 : (ws12.setCell ⟨wd.heap.size, 3, none⟩ (.bool s3)).frozen? _ = false := (frozen_set _ _ _ _ _).trans Y_f4
          replace Y_f5 : (ws12.setCell ⟨wd.heap.size, 3, none⟩ (.bool s3)).frozen? _ = false := (frozen_set _ _ _ _ _).trans Y_f5
          replace X_3 : (ws12.setCell ⟨wd.heap.size, 3, none⟩ (.bool s3)).cell? ⟨wd.heap.size, 3, none⟩ = some (.bool s3) := cell_on _ _ _ _ _ X_3
          replace kw := kw.setNew (p := ⟨wd.heap.size, 3, none⟩) (by dsimp only; omega) (.bool s3)
          replace K := hide ((unhide K).setNew (p := ⟨wd.heap.size, 3, none⟩) (by dsimp only; omega) (.bool s3))
          have zs13 : (ws12.setCell ⟨wd.heap.size, 3, none⟩ (.bool s3)).heap.size = ws12.heap.size := by simp [World.setCell]
          clear sS0
          generalize ws12.setCell ⟨wd.heap.size, 3, none⟩ (.bool s3) = ws13 at *
          have sS0 := unhide S0
          replace r1 := r1.set_other (p := ⟨wd.heap.size, 4, none⟩) (by dsimp only; omega) (.slice a3 l3.length c3)
          replace r2 := r2.set_other (p := ⟨wd.heap.size, 4, none⟩) (by dsimp only; omega) (.slice a3 l3.length c3)
          replace r3 := r3.set_other (p := ⟨wd.heap.size, 4, none⟩) (by dsimp only; omega) (.slice a3 l3.length c3)
          replace r4 := r4.set_other (p := ⟨wd.heap.size, 4, none⟩) (by dsimp only; omega) (.slice a3 l3.length c3)
          replace bp0 := cell_else (.slice a3 l3.length c3) (r := ⟨wd.heap.size, 4, none⟩) (by dsimp only; omega) rfl rfl bp0
          replace bp1 := cell_else (.slice a3 l3.length c3) (r := ⟨wd.heap.size, 4, none⟩) (by dsimp only; omega) rfl rfl bp1
          replace bp2 := cell_else (.slice a3 l3.length c3) (r := ⟨wd.heap.size, 4, none⟩) (by dsimp only; omega) rfl rfl bp2
          replace bp3 := cell_else (.slice a3 l3.length c3) (r := ⟨wd.heap.size, 4, none⟩) (by dsimp only; omega) rfl rfl bp3
          replace bp4 := cell_else (.slice a3 l3.length c3) (r := ⟨wd.heap.size, 4, none⟩) (by dsimp only; omega) rfl rfl bp4
          replace bp5 := cell_else (.slice a3 l3.length c3) (r := ⟨wd.heap.size, 4, none⟩) (by dsimp only; omega) rfl rfl bp5
          replace bq0 := cell_else (.slice a3 l3.length c3) (r := ⟨wd.heap.size, 4, none⟩) (by dsimp only; omega) rfl rfl bq0
          replace bq1 := cell_else (.slice a3 l3.length c3) (r := ⟨wd.heap.size, 4, none⟩) (by dsimp only; omega) rfl rfl bq1
          replace bq2 := cell_else (.slice a3 l3.length c3) (r := ⟨wd.heap.size, 4, none⟩) (by dsimp only; omega) rfl rfl bq2
          replace bq3 := cell_else (.slice a3 l3.length c3) (r := ⟨wd.heap.size, 4, none⟩) (by dsimp only; omega) rfl rfl bq3
          replace bq4 := cell_else (.slice a3 l3.length c3) (r := ⟨wd.heap.size, 4, none⟩) (by dsimp only; omega) rfl rfl bq4
          replace bq5 := cell_else (.slice a3 l3.length c3) (r := ⟨wd.heap.size, 4, none⟩) (by dsimp only; omega) rfl rfl bq5
          replace R0 := cell_else (.slice a3 l3.length c3) (r := ⟨wd.heap.size, 4, none⟩) (by dsimp only; omega) rfl rfl R0
          replace R1 := cell_else (.slice a3 l3.length c3) (r := ⟨wd.heap.size, 4, none⟩) (by dsimp only; omega) rfl rfl R1
          replace R2 := cell_else (.slice a3 l3.length c3) (r := ⟨wd.heap.size, 4, none⟩) (by dsimp only; omega) rfl rfl R2
          replace R3 := cell_else (.slice a3 l3.length c3) (r := ⟨wd.heap.size, 4, none⟩) (by dsimp only; omega) rfl rfl R3
          replace R4 := cell_else (.slice a3 l3.length c3) (r := ⟨wd.heap.size, 4, none⟩) (by dsimp only; omega) rfl rfl R4
          replace R5 := cell_else (.slice a3 l3.length c3) (r := ⟨wd.heap.size, 4, none⟩) (by dsimp only; omega) rfl rfl R5
          replace X_0 := cell_else (.slice a3 l3.length c3) (r := ⟨wd.heap.size, 4, none⟩) (by dsimp only; omega) rfl rfl X_0
          replace X_1 := cell_else (.slice a3 l3.length c3) (r := ⟨wd.heap.size, 4, none⟩) (by dsimp only; omega) rfl rfl X_1
          replace X_2 := cell_else (.slice a3 l3.length c3) (r := ⟨wd.heap.size, 4, none⟩) (by dsimp only; omega) rfl rfl X_2
          replace X_3 := cell_else (.slice a3 l3.length c3) (r := ⟨wd.heap.size, 4, none⟩) (by dsimp only; omega) rfl rfl X_3
          replace X_5 := cell_else (.slice a3 l3.length c3) (r := ⟨wd.heap.size, 4, none⟩) (by dsimp only; omega) rfl rfl X_5
          replace Y_0 := cell_else (.slice a3 l3.length c3) (r := ⟨wd.heap.size, 4, none⟩) (by dsimp only; omega) rfl rfl Y_0
          replace Y_1 := cell_else (.slice a3 l3.length c3) (r := ⟨wd.heap.size, 4, none⟩) (by dsimp only; omega) rfl rfl Y_1
          replace Y_2 := cell_else (.slice a3 l3.length c3) (r := ⟨wd.heap.size, 4, none⟩) (by dsimp only; omega) rfl rfl Y_2
          replace Y_3 := cell_else (.slice a3 l3.length c3) (r := ⟨wd.heap.size, 4, none⟩) (by dsimp only; omega) rfl rfl Y_3
          replace Y_4 := cell_else (.slice a3 l3.length c3) (r := ⟨wd.heap.size, 4, none⟩) (by dsimp only; omega) rfl rfl Y_4
          replace Y_5 := cell_else (.slice a3 l3.length c3) (r := ⟨wd.heap.size, 4, none⟩) (by dsimp only; omega) rfl rfl Y_5
          replace Rf0 : (ws13.setCell ⟨wd.heap.size, 4, none⟩ (.slice a3 l3.length c3)).frozen? _ = false := (frozen_set _ _ _ _ _).trans Rf0
          replace Rf1 : (ws13.setCell ⟨wd.heap.size, 4, none⟩ (.slice a3 l3.length c3)).frozen? _ = false := (frozen_set _ _ _ _ _).trans Rf1
          replace Rf2 : (ws13.setCell ⟨wd.heap.size, 4, none⟩ (.slice a3 l3.length c3)).frozen? _ = false := (frozen_set _ _ _ _ _).trans Rf2
          replace Rf3 : (ws13.setCell ⟨wd.heap.size, 4, none⟩ (.slice a3 l3.length c3)).frozen? _ = false := (frozen_set _ _ _ _ _).trans Rf3
          replace Rf4 : (ws13.setCell ⟨wd.heap.size, 4, none⟩ (.slice a3 l3.length c3)).frozen? _ = false := (frozen_set _ _ _ _ _).trans Rf4
          replace Rf5 : (ws13.setCell ⟨wd.heap.size, 4, none⟩ (.slice a3 l3.length c3)).frozen? _ = false := (frozen_set _ _ _ _ _).trans Rf5
          replace X_f0 : (ws13.setCell ⟨wd.heap.size, 4, none⟩ (.slice a3 l3.length c3)).frozen? _ = false := (frozen_set _ _ _ _ _).trans X_f0
          replace X_f1 : (ws13.setCell ⟨wd.heap.size, 4, none⟩ (.slice a3 l3.length c3)).frozen? _ = false := (frozen_set _ _ _ _ _).trans X_f1
          replace X_f2 : (ws13.setCell ⟨wd.heap.size, 4, none⟩ (.slice a3 l3.length c3)).frozen? _ = false := (frozen_set _ _ _ _ _).trans X_f2
          replace X_f3 : (ws13.setCell ⟨wd.heap.size, 4, none⟩ (.slice a3 l3.length c3)).frozen? _ = false := (frozen_set _ _ _ _ _).trans X_f3
          replace X_f4 : (ws13.setCell ⟨wd.heap.size, 4, none⟩ (.slice a3 l3.length c3)).frozen? _ = false := (frozen_set _ _ _ _ _).trans X_f4
          replace X_f5 : (ws13.setCell ⟨wd.heap.size, 4, none⟩ (.slice a3 l3.length c3)).frozen? _ = false := (frozen_set _ _ _ _ _).trans X_f5
          replace Y_f0 : (ws13.setCell ⟨wd.heap.size, 4, none⟩ (.slice a3 l3.length c3)).frozen? _ = false := (frozen_set _ _ _ _ _).trans Y_f0
          replace Y_f1 : (ws13.setCell ⟨wd.heap.size, 4, none⟩ (.slice a3 l3.length c3)).frozen? _ = false := (frozen_set _ _ _ _ _).trans Y_f1
          replace Y_f2 : (ws13.setCell ⟨wd.heap.size, 4, none⟩ (.slice a3 l3.length c3)).frozen? _ = false := (frozen_set _ _ _ _ _).trans Y_f2
          replace Y_f3 : (ws13.setCell ⟨wd.heap.size, 4, none⟩ (.slice a3 l3.length c3)).frozen? _ = false := (frozen_set _ _ _ _ _).trans Y_f3
          replace Y_f4 : (ws13.setCell ⟨wd.heap.size, 4, none⟩ (.slice a3 l3.length c3)).frozen? _ = false := (frozen_set _ _ _ _ _).trans Y_f4
          replace Y_f5 : (ws13.setCell ⟨wd.heap.size, 4, none⟩ (.slice a3 l3.length c3)).frozen? _ = false := (frozen_set _ _ _ _ _).trans Y_f5
          replace X_4 : (ws13.setCell ⟨wd.heap.size, 4, none⟩ (.slice a3 l3.length c3)).cell? ⟨wd.heap.size, 4, none⟩ = some (.slice a3 l3.length c3) := cell_on _ _ _ _ _ X_4
          replace kw := kw.setNew (p := ⟨wd.heap.size, 4, none⟩) (by dsimp only; omega) (.slice a3 l3.length c3)
          replace K := hide ((unhide K).setNew (p := ⟨wd.heap.size, 4, none⟩) (by dsimp only; omega) (.slice a3 l3.length c3))
          have zs14 : (ws13.setCell ⟨wd.heap.size, 4, none⟩ (.slice a3 l3.length c3)).heap.size = ws13.heap.size := by simp [World.setCell]
          clear sS0
          generalize ws13.setCell ⟨wd.heap.size, 4, none⟩ (.slice a3 l3.length c3) = ws14 at *
          have sS0 := unhide S0
          replace r1 := r1.set_other (p := ⟨wd.heap.size, 5, none⟩) (by dsimp only; omega) (.int .i64 e3)
          replace r2 := r2.set_other (p := ⟨wd.heap.size, 5, none⟩) (by dsimp only; omega) (.int .i64 e3)
          replace r3 := r3.set_other (p := ⟨wd.heap.size, 5, none⟩) (by dsimp only; omega) (.int .i64 e3)
          replace r4 := r4.set_other (p := ⟨wd.heap.size, 5, none⟩) (by dsimp only; omega) (.int .i64 e3)
          replace bp0 := cell_else (.int .i64 e3) (r := ⟨wd.heap.size, 5, none⟩) (by dsimp only; omega) rfl rfl bp0
          replace bp1 := cell_else (.int .i64 e3) (r := ⟨wd.heap.size, 5, none⟩) (by dsimp only; omega) rfl rfl bp1
          replace bp2 := cell_else (.int .i64 e3) (r := ⟨wd.heap.size, 5, none⟩) (by dsimp only; omega) rfl rfl bp2
          replace bp3 := cell_else (.int .i64 e3) (r := ⟨wd.heap.size, 5, none⟩) (by dsimp only; omega) rfl rfl bp3
          replace bp4 := cell_else (.int .i64 e3) (r := ⟨wd.heap.size, 5, none⟩) (by dsimp only; omega) rfl rfl bp4
          replace bp5 := cell_else (.int .i64 e3) (r := ⟨wd.heap.size, 5, none⟩) (by dsimp only; omega) rfl rfl bp5
          replace bq0 := cell_else (.int .i64 e3) (r := ⟨wd.heap.size, 5, none⟩) (by dsimp only; omega) rfl rfl bq0
          replace bq1 := cell_else (.int .i64 e3) (r := ⟨wd.heap.size, 5, none⟩) (by dsimp only; omega) rfl rfl bq1
          replace bq2 := cell_else (.int .i64 e3) (r := ⟨wd.heap.size, 5, none⟩) (by dsimp only; omega) rfl rfl bq2
          replace bq3 := cell_else (.int .i64 e3) (r := ⟨wd.heap.size, 5, none⟩) (by dsimp only; omega) rfl rfl bq3
          replace bq4 := cell_else (.int .i64 e3) (r := ⟨wd.heap.size, 5, none⟩) (by dsimp only; omega) rfl rfl bq4
          replace bq5 := cell_else (.int .i64 e3) (r := ⟨wd.heap.size, 5, none⟩) (by dsimp only; omega) rfl rfl bq5
          replace R0 := cell_else (.int .i64 e3) (r := ⟨wd.heap.size, 5, none⟩) (by dsimp only; omega) rfl rfl R0
          replace R1 := cell_else (.int .i64 e3) (r := ⟨wd.heap.size, 5, none⟩) (by dsimp only; omega) rfl rfl R1
          replace R2 := cell_else (.int .i64 e3) (r := ⟨wd.heap.size, 5, none⟩) (by dsimp only; omega) rfl rfl R2
          replace R3 := cell_else (.int .i64 e3) (r := ⟨wd.heap.size, 5, none⟩) (by dsimp only; omega) rfl rfl R3
          replace R4 := cell_else (.int .i64 e3) (r := ⟨wd.heap.size, 5, none⟩) (by dsimp only; omega) rfl rfl R4
          replace R5 := cell_else (.int .i64 e3) (r := ⟨wd.heap.size, 5, none⟩) (by dsimp only; omega) rfl rfl R5
          replace X_0 := cell_else (.int .i64 e3) (r := ⟨wd.heap.size, 5, none⟩) (by dsimp only; omega) rfl rfl X_0
          replace X_1 := cell_else (.int .i64 e3) (r := ⟨wd.heap.size, 5, none⟩) (by dsimp only; omega) rfl rfl X_1
          replace X_2 := cell_else (.int .i64 e3) (r := ⟨wd.heap.size, 5, none⟩) (by dsimp only; omega) rfl rfl X_2
          replace X_3 := cell_else (.int .i64 e3) (r := ⟨wd.heap.size, 5, none⟩) (by dsimp only; omega) rfl rfl X_3
          replace X_4 := cell_else (.int .i64 e3) (r := ⟨wd.heap.size, 5, none⟩) (by dsimp only; omega) rfl rfl X_4
          replace Y_0 := cell_else (.int .i64 e3) (r := ⟨wd.heap.size, 5, none⟩) (by dsimp only; omega) rfl rfl Y_0
          replace Y_1 := cell_else (.int .i64 e3) (r := ⟨wd.heap.size, 5, none⟩) (by dsimp only; omega) rfl rfl Y_1
          replace Y_2 := cell_else (.int .i64 e3) (r := ⟨wd.heap.size, 5, none⟩) (by dsimp only; omega) rfl rfl Y_2
          replace Y_3 := cell_else (.int .i64 e3) (r := ⟨wd.heap.size, 5, none⟩) (by dsimp only; omega) rfl rfl Y_3
          replace Y_4 := cell_else (.int .i64 e3) (r := ⟨wd.heap.size, 5, none⟩) (by dsimp only; omega) rfl rfl Y_4
          replace Y_5 := cell_else (.int .i64 e3) (r := ⟨wd.heap.size, 5, none⟩) (by dsimp only; omega) rfl rfl Y_5
          replace Rf0 : (ws14.setCell ⟨wd.heap.size, 5, none⟩ (.int .i64 e3)).frozen? _ = false := (frozen_set _ _ _ _ _).trans Rf0
          replace Rf1 : (ws14.setCell ⟨wd.heap.size, 5, none⟩ (.int .i64 e3)).frozen? _ = false := (frozen_set _ _ _ _ _).trans Rf1
          replace Rf2 : (ws14.setCell ⟨wd.heap.size, 5, none⟩ (.int .i64 e3)).frozen? _ = false := (frozen_set _ _ _ _ _).trans Rf2
          replace Rf3 : (ws14.setCell ⟨wd.heap.size, 5, none⟩ (.int .i64 e3)).frozen? _ = false := (frozen_set _ _ _ _ _).trans Rf3
          replace Rf4 : (ws14.setCell ⟨wd.heap.size, 5, none⟩ (.int .i64 e3)).frozen? _ = false := (frozen_set _ _ _ _ _).trans Rf4
          replace Rf5 : (ws14.setCell ⟨wd.heap.size, 5, none⟩ (.int .i64 e3)).frozen? _ = false := (frozen_set _ _ _ _ _).trans Rf5
          replace X_f0 : (ws14.setCell ⟨wd.heap.size, 5, none⟩ (.int .i64 e3)).frozen? _ = false := (frozen_set _ _ _ _ _).trans X_f0
          replace X_f1 : (ws14.setCell ⟨wd.heap.size, 5, none⟩ (.int .i64 e3)).frozen? _ = false := (frozen_set _ _ _ _ _).trans X_f1
          replace X_f2 : (ws14.setCell ⟨wd.heap.size, 5, none⟩ (.int .i64 e3)).frozen? _ = false := (frozen_set _ _ _ _ _).trans X_f2
          replace X_f3 : (ws14.setCell ⟨wd.heap.size, 5, none⟩ (.int .i64 e3)).frozen? _ = false := (frozen_set _ _ _ _ _).trans X_f3
          replace X_f4 : (ws14.setCell ⟨wd.heap.size, 5, none⟩ (.int .i64 e3)).frozen? _ = false := (frozen_set _ _ _ _ _).trans X_f4
          replace X_f5 : (ws14.setCell ⟨wd.heap.size, 5, none⟩ (.int .i64 e3)).frozen? _ = false := (frozen_set _ _ _ _ _).trans X_f5
          replace Y_f0 : (ws14.setCell ⟨wd.heap.size, 5, none⟩ (.int .i64 e3)).frozen? _ = false := (frozen_set _ _ _ _ _).trans Y_f0
          replace Y_f1 : (ws14.setCell ⟨wd.heap.size, 5, none⟩ (.int .i64 e3)).frozen? _ = false := (frozen_set _ _ _ _ _).trans Y_f1
          replace Y_f2 : (ws14.setCell ⟨wd.heap.size, 5, none⟩ (.int .i64 e3)).frozen? _ = false := (frozen_set _ _ _ _ _).trans Y_f2
          replace Y_f3 : (ws14.setCell ⟨wd.heap.size, 5, none⟩ (.int .i64 e3)).frozen? _ = false := (frozen_set _ _ _ _ _).trans Y_f3
          replace Y_f4 : (ws14.setCell ⟨wd.heap.size, 5, none⟩ (.int .i64 e3)).frozen? _ = false := (frozen_set _ _ _ _ _).trans Y_f4
          replace Y_f5 : (ws14.setCell ⟨wd.heap.size, 5, none⟩ (.int .i64 e3)).frozen? _ = false := (frozen_set _ _ _ _ _).trans Y_f5
          replace X_5 : (ws14.setCell ⟨wd.heap.size, 5, none⟩ (.int .i64 e3)).cell? ⟨wd.heap.size, 5, none⟩ = some (.int .i64 e3) := cell_on _ _ _ _ _ X_5
          replace kw := kw.setNew (p := ⟨wd.heap.size, 5, none⟩) (by dsimp only; omega) (.int .i64 e3)
          replace K := hide ((unhide K).setNew (p := ⟨wd.heap.size, 5, none⟩) (by dsimp only; omega) (.int .i64 e3))
          have zs15 : (ws14.setCell ⟨wd.heap.size, 5, none⟩ (.int .i64 e3)).heap.size = ws14.heap.size := by simp [World.setCell]
          clear sS0
          generalize ws14.setCell ⟨wd.heap.size, 5, none⟩ (.int .i64 e3) = ws15 at *
          refine wpAnyH_ready (rs := [13]) (by kernel_rfl) (by simp) ?_
          refine AllReadyH.cons rfl (fun KK hK => ?_) AllReadyH.nil
          · simp only [List.getElem_toArray, List.getElem_cons_succ, List.getElem_cons_zero]
            rw [if_pos (by rfl)]
            go_simp
            clear hHeld
            refine hK.out _ _ ?_ (fun hHeld => ?_)
            · exact ⟨(cell_aside _ (by have := unhide S0; dsimp only; omega) (cell_aside _ (by have := unhide S0; dsimp only; omega) (cell_aside _ (by have := unhide S0; dsimp only; omega) (cell_aside _ (by have := unhide S0; dsimp only; omega) (cell_aside _ (by have := unhide S0; dsimp only; omega) (cell_aside _ (by have := unhide S0; dsimp only; omega) bp0)))))), (cell_aside _ (by have := unhide S0; dsimp only; omega) (cell_aside _ (by have := unhide S0; dsimp only; omega) (cell_aside _ (by have := unhide S0; dsimp only; omega) (cell_aside _ (by have := unhide S0; dsimp only; omega) (cell_aside _ (by have := unhide S0; dsimp only; omega) (cell_aside _ (by have := unhide S0; dsimp only; omega) bp1)))))), (cell_aside _ (by have := unhide S0; dsimp only; omega) (cell_aside _ (by have := unhide S0; dsimp only; omega) (cell_aside _ (by have := unhide S0; dsimp only; omega) (cell_aside _ (by have := unhide S0; dsimp only; omega) (cell_aside _ (by have := unhide S0; dsimp only; omega) (cell_aside _ (by have := unhide S0; dsimp only; omega) bp2)))))), (cell_aside _ (by have := unhide S0; dsimp only; omega) (cell_aside _ (by have := unhide S0; dsimp only; omega) (cell_aside _ (by have := unhide S0; dsimp only; omega) (cell_aside _ (by have := unhide S0; dsimp only; omega) (cell_aside _ (by have := unhide S0; dsimp only; omega) (cell_aside _ (by have := unhide S0; dsimp only; omega) bp3)))))), (cell_aside _ (by have := unhide S0; dsimp only; omega) (cell_aside _ (by have := unhide S0; dsimp only; omega) (cell_aside _ (by have := unhide S0; dsimp only; omega) (cell_aside _ (by have := unhide S0; dsimp only; omega) (cell_aside _ (by have := unhide S0; dsimp only; omega) (cell_aside _ (by have := unhide S0; dsimp only; omega) bp4)))))), (cell_aside _ (by have := unhide S0; dsimp only; omega) (cell_aside _ (by have := unhide S0; dsimp only; omega) (cell_aside _ (by have := unhide S0; dsimp only; omega) (cell_aside _ (by have := unhide S0; dsimp only; omega) (cell_aside _ (by have := unhide S0; dsimp only; omega) (cell_aside _ (by have := unhide S0; dsimp only; omega) bp5)))))), (cell_aside _ (by have := unhide S0; dsimp only; omega) (cell_aside _ (by have := unhide S0; dsimp only; omega) (cell_aside _ (by have := unhide S0; dsimp only; omega) (cell_aside _ (by have := unhide S0; dsimp only; omega) (cell_aside _ (by have := unhide S0; dsimp only; omega) (cell_aside _ (by have := unhide S0; dsimp only; omega) bq0)))))), (cell_aside _ (by have := unhide S0; dsimp only; omega) (cell_aside _ (by have := unhide S0; dsimp only; omega) (cell_aside _ (by have := unhide S0; dsimp only; omega) (cell_aside _ (by have := unhide S0; dsimp only; omega) (cell_aside _ (by have := unhide S0; dsimp only; omega) (cell_aside _ (by have := unhide S0; dsimp only; omega) bq1)))))), (cell_aside _ (by have := unhide S0; dsimp only; omega) (cell_aside _ (by have := unhide S0; dsimp only; omega) (cell_aside _ (by have := unhide S0; dsimp only; omega) (cell_aside _ (by have := unhide S0; dsimp only; omega) (cell_aside _ (by have := unhide S0; dsimp only; omega) (cell_aside _ (by have := unhide S0; dsimp only; omega) bq2)))))), (cell_aside _ (by have := unhide S0; dsimp only; omega) (cell_aside _ (by have := unhide S0; dsimp only; omega) (cell_aside _ (by have := unhide S0; dsimp only; omega) (cell_aside _ (by have := unhide S0; dsimp only; omega) (cell_aside _ (by have := unhide S0; dsimp only; omega) (cell_aside _ (by have := unhide S0; dsimp only; omega) bq3)))))), (cell_aside _ (by have := unhide S0; dsimp only; omega) (cell_aside _ (by have := unhide S0; dsimp only; omega) (cell_aside _ (by have := unhide S0; dsimp only; omega) (cell_aside _ (by have := unhide S0; dsimp only; omega) (cell_aside _ (by have := unhide S0; dsimp only; omega) (cell_aside _ (by have := unhide S0; dsimp only; omega) bq4)))))), (cell_aside _ (by have := unhide S0; dsimp only; omega) (cell_aside _ (by have := unhide S0; dsimp only; omega) (cell_aside _ (by have := unhide S0; dsimp only; omega) (cell_aside _ (by have := unhide S0; dsimp only; omega) (cell_aside _ (by have := unhide S0; dsimp only; omega) (cell_aside _ (by have := unhide S0; dsimp only; omega) bq5))))))⟩
            clear hK KK
            try simp only [Act.put, List.getElem_toArray, List.getElem_cons_succ, List.getElem_cons_zero, List.setIfInBounds_toArray, List.set_cons_zero, List.set_cons_succ]
            have sS0 := unhide S0
            replace r1 := r1.set_other (p := ⟨w6.heap.size, 0, none⟩) (by dsimp only; omega) (.bool s2)
            replace r2 := r2.set_other (p := ⟨w6.heap.size, 0, none⟩) (by dsimp only; omega) (.bool s2)
            replace r3 := r3.set_other (p := ⟨w6.heap.size, 0, none⟩) (by dsimp only; omega) (.bool s2)
            replace r4 := r4.set_other (p := ⟨w6.heap.size, 0, none⟩) (by dsimp only; omega) (.bool s2)
            replace bp0 := cell_else (.bool s2) (r := ⟨w6.heap.size, 0, none⟩) (by dsimp only; omega) rfl rfl bp0
            replace bp1 := cell_else (.bool s2) (r := ⟨w6.heap.size, 0, none⟩) (by dsimp only; omega) rfl rfl bp1
            replace bp2 := cell_else (.bool s2) (r := ⟨w6.heap.size, 0, none⟩) (by dsimp only; omega) rfl rfl bp2
            replace bp3 := cell_else (.bool s2) (r := ⟨w6.heap.size, 0, none⟩) (by dsimp only; omega) rfl rfl bp3
            replace bp4 := cell_else (.bool s2) (r := ⟨w6.heap.size, 0, none⟩) (by dsimp only; omega) rfl rfl bp4
            replace bp5 := cell_else (.bool s2) (r := ⟨w6.heap.size, 0, none⟩) (by dsimp only; omega) rfl rfl bp5
            replace bq0 := cell_else (.bool s2) (r := ⟨w6.heap.size, 0, none⟩) (by dsimp only; omega) rfl rfl bq0
            replace bq1 := cell_else (.bool s2) (r := ⟨w6.heap.size, 0, none⟩) (by dsimp only; omega) rfl rfl bq1
            replace bq2 := cell_else (.bool s2) (r := ⟨w6.heap.size, 0, none⟩) (by dsimp only; omega) rfl rfl bq2
            replace bq3 := cell_else (.bool s2) (r := ⟨w6.heap.size, 0, none⟩) (by dsimp only; omega) rfl rfl bq3
            replace bq4 := cell_else (.bool s2) (r := ⟨w6.heap.size, 0, none⟩) (by dsimp only; omega) rfl rfl bq4
            replace bq5 := cell_else (.bool s2) (r := ⟨w6.heap.size, 0, none⟩) (by dsimp only; omega) rfl rfl bq5
            replace R0 := cell_else (.bool s2) (r := ⟨w6.heap.size, 0, none⟩) (by dsimp only; omega) rfl rfl R0
            replace R1 := cell_else (.bool s2) (r := ⟨w6.heap.size, 0, none⟩) (by dsimp only; omega) rfl rfl R1
            replace R2 := cell_else (.bool s2) (r := ⟨w6.heap.size, 0, none⟩) (by dsimp only; omega) rfl rfl R2
            replace R3 := cell_else (.bool s2) (r := ⟨w6.heap.size, 0, none⟩) (by dsimp only; omega) rfl rfl R3
            replace R4 := cell_else (.bool s2) (r := ⟨w6.heap.size, 0, none⟩) (by dsimp only; omega) rfl rfl R4
            replace R5 := cell_else (.bool s2) (r := ⟨w6.heap.size, 0, none⟩) (by dsimp only; omega) rfl rfl R5
            replace X_0 := cell_else (.bool s2) (r := ⟨w6.heap.size, 0, none⟩) (by dsimp only; omega) rfl rfl X_0
            replace X_1 := cell_else (.bool s2) (r := ⟨w6.heap.size, 0, none⟩) (by dsimp only; omega) rfl rfl X_1
            replace X_2 := cell_else (.bool s2) (r := ⟨w6.heap.size, 0, none⟩) (by dsimp only; omega) rfl rfl X_2
            replace X_3 := cell_else (.bool s2) (r := ⟨w6.heap.size, 0, none⟩) (by dsimp only; omega) rfl rfl X_3
            replace X_4 := cell_else (.bool s2) (r := ⟨w6.heap.size, 0, none⟩) (by dsimp only; omega) rfl rfl X_4
            replace X_5 := cell_else (.bool s2) (r := ⟨w6.heap.size, 0, none⟩) (by dsimp only; omega) rfl rfl X_5
            replace Y_1 := cell_else (.bool s2) (r := ⟨w6.heap.size, 0, none⟩) (by dsimp only; omega) rfl rfl Y_1
            replace Y_2 := cell_else (.bool s2) (r := ⟨w6.heap.size, 0, none⟩) (by dsimp only; omega) rfl rfl Y_2
            replace Y_3 := cell_else (.bool s2) (r := ⟨w6.heap.size, 0, none⟩) (by dsimp only; omega) rfl rfl Y_3
            replace Y_4 := cell_else (.bool s2) (r := ⟨w6.heap.size, 0, none⟩) (by dsimp only; omega) rfl rfl Y_4
            replace Y_5 := cell_else (.bool s2) (r := ⟨w6.heap.size, 0, none⟩) (by dsimp only; omega) rfl rfl Y_5
            replace Rf0 : (ws15.setCell ⟨w6.heap.size, 0, none⟩ (.bool s2)).frozen? _ = false := (frozen_set _ _ _ _ _).trans Rf0
            replace Rf1 : (ws15.setCell ⟨w6.heap.size, 0, none⟩ (.bool s2)).frozen? _ = false := (frozen_set _ _ _ _ _).trans Rf1
            replace Rf2 : (ws15.setCell ⟨w6.heap.size, 0, none⟩ (.bool s2)).frozen? _ = false := (frozen_set _ _ _ _ _).trans Rf2
            replace Rf3 : (ws15.setCell ⟨w6.heap.size, 0, none⟩ (.bool s2)).frozen? _ = false := (frozen_set _ _ _ _ _).trans Rf3
            replace Rf4 : (ws15.setCell ⟨w6.heap.size, 0, none⟩ (.bool s2)).frozen? _ = false := (frozen_set _ _ _ _ _).trans Rf4
            replace Rf5 : (ws15.setCell ⟨w6.heap.size, 0, none⟩ (.bool s2)).frozen? _ = false := (frozen_set _ _ _ _ _).trans Rf5
            replace X_f0 : (ws15.setCell ⟨w6.heap.size, 0, none⟩ (.bool s2)).frozen? _ = false := (frozen_set _ _ _ _ _).trans X_f0
            replace X_f1 : (ws15.setCell ⟨w6.heap.size, 0, none⟩ (.bool s2)).frozen? _ = false := (frozen_set _ _ _ _ _).trans X_f1
            replace X_f2 : (ws15.setCell ⟨w6.heap.size, 0, none⟩ (.bool s2)).frozen? _ = false := (frozen_set _ _ _ _ _).trans X_f2
            replace X_f3 : (ws15.setCell ⟨w6.heap.size, 0, none⟩ (.bool s2)).frozen? _ = false := (frozen_set _ _ _ _ _).trans X_f3
            replace X_f4 : (ws15.setCell ⟨w6.heap.size, 0, none⟩ (.bool s2)).frozen? _ = false := (frozen_set _ _ _ _ _).trans X_f4
            replace X_f5 : (ws15.setCell ⟨w6.heap.size, 0, none⟩ (.bool s2)).frozen? _ = false := (frozen_set _ _ _ _ _).trans X_f5
            replace Y_f0 : (ws15.setCell ⟨w6.heap.size, 0, none⟩ (.bool s2)).frozen? _ = false := (frozen_set _ _ _ _ _).trans Y_f0
            replace Y_f1 : (ws15.setCell ⟨w6.heap.size, 0, none⟩ (.bool s2)).frozen? _ = false := (frozen_set _ _ _ _ _).trans Y_f1
            replace Y_f2 : (ws15.setCell ⟨w6.heap.size, 0, none⟩ (.bool s2)).frozen? _ = false := (frozen_set _ _ _ _ _).trans Y_f2
            replace Y_f3 : (ws15.setCell ⟨w6.heap.size, 0, none⟩ (.bool s2)).frozen? _ = false := (frozen_set _ _ _ _ _).trans Y_f3
            replace Y_f4 : (ws15.setCell ⟨w6.heap.size, 0, none⟩ (.bool s2)).frozen? _ = false := (frozen_set _ _ _ _ _).trans Y_f4
            replace Y_f5 : (ws15.setCell ⟨w6.heap.size, 0, none⟩ (.bool s2)).frozen? _ = false := (frozen_set _ _ _ _ _).trans Y_f5
            replace Y_0 : (ws15.setCell ⟨w6.heap.size, 0, none⟩ (.bool s2)).cell? ⟨w6.heap.size, 0, none⟩ = some (.bool s2) := cell_on _ _ _ _ _ Y_0
            replace kw := kw.setNew (p := ⟨w6.heap.size, 0, none⟩) (by dsimp only; omega) (.bool s2)
            replace K := hide ((unhide K).setNew (p := ⟨w6.heap.size, 0, none⟩) (by dsimp only; omega) (.bool s2))
            have zs16 : (ws15.setCell ⟨w6.heap.size, 0, none⟩ (.bool s2)).heap.size = ws15.heap.size := by simp [World.setCell]
            clear sS0
            generalize ws15.setCell ⟨w6.heap.size, 0, none⟩ (.bool s2) = ws16 at *
            have sS0 := unhide S0
            replace r1 := r1.set_other (p := ⟨w6.heap.size, 1, none⟩) (by dsimp only; omega) (.slice a2 l2.length c2)
            replace r2 := r2.set_other (p := ⟨w6.heap.size, 1, none⟩) (by dsimp only; omega) (.slice a2 l2.length c2)
            replace r3 := r3.set_other (p := ⟨w6.heap.size, 1, none⟩) (by dsimp only; omega) (.slice a2 l2.length c2)
            replace r4 := r4.set_other (p := ⟨w6.heap.size, 1, none⟩) (by dsimp only; omega) (.slice a2 l2.length c2)
            replace bp0 := cell_else (.slice a2 l2.length c2) (r := ⟨w6.heap.size, 1, none⟩) (by dsimp only; omega) rfl rfl bp0
            replace bp1 := cell_else (.slice a2 l2.length c2) (r := ⟨w6.heap.size, 1, none⟩) (by dsimp only; omega) rfl rfl bp1
            replace bp2 := cell_else (.slice a2 l2.length c2) (r := ⟨w6.heap.size, 1, none⟩) (by dsimp only; omega) rfl rfl bp2
            replace bp3 := cell_else (.slice a2 l2.length c2) (r := ⟨w6.heap.size, 1, none⟩) (by dsimp only; omega) rfl rfl bp3
            replace bp4 := cell_else (.slice a2 l2.length c2) (r := ⟨w6.heap.size, 1, none⟩) (by dsimp only; omega) rfl rfl bp4
            replace bp5 := cell_else (.slice a2 l2.length c2) (r := ⟨w6.heap.size, 1, none⟩) (by dsimp only; omega) rfl rfl bp5
            replace bq0 := cell_else (.slice a2 l2.length c2) (r := ⟨w6.heap.size, 1, none⟩) (by dsimp only; omega) rfl rfl bq0
            replace bq1 := cell_else (.slice a2 l2.length c2) (r := ⟨w6.heap.size, 1, none⟩) (by dsimp only; omega) rfl rfl bq1
            replace bq2 := cell_else (.slice a2 l2.length c2) (r := ⟨w6.heap.size, 1, none⟩) (by dsimp only; omega) rfl rfl bq2
            replace bq3 := cell_else (.slice a2 l2.length c2) (r := ⟨w6.heap.size, 1, none⟩) (by dsimp only; omega) rfl rfl bq3
            replace bq4 := cell_else (.slice a2 l2.length c2) (r := ⟨w6.heap.size, 1, none⟩) (by dsimp only; omega) rfl rfl bq4
            replace bq5 := cell_else (.slice a2 l2.length c2) (r := ⟨w6.heap.size, 1, none⟩) (by dsimp only; omega) rfl rfl bq5
            replace R0 := cell_else (.slice a2 l2.length c2) (r := ⟨w6.heap.size, 1, none⟩) (by dsimp only; omega) rfl rfl R0
            replace R1 := cell_else (.slice a2 l2.length c2) (r := ⟨w6.heap.size, 1, none⟩) (by dsimp only; omega) rfl rfl R1
            replace R2 := cell_else (.slice a2 l2.length c2) (r := ⟨w6.heap.size, 1, none⟩) (by dsimp only; omega) rfl rfl R2
            replace R3 := cell_else (.slice a2 l2.length c2) (r := ⟨w6.heap.size, 1, none⟩) (by dsimp only; omega) rfl rfl R3
            replace R4 := cell_else (.slice a2 l2.length c2) (r := ⟨w6.heap.size, 1, none⟩) (by dsimp only; omega) rfl rfl R4
            replace R5 := cell_else (.slice a2 l2.length c2) (r := ⟨w6.heap.size, 1, none⟩) (by dsimp only; omega) rfl rfl R5
            replace X_0 := cell_else (.slice a2 l2.length c2) (r := ⟨w6.heap.size, 1, none⟩) (by dsimp only; omega) rfl rfl X_0
            replace X_1 := cell_else (.slice a2 l2.length c2) (r := ⟨w6.heap.size, 1, none⟩) (by dsimp only; omega) rfl rfl X_1
            replace X_2 := cell_else (.slice a2 l2.length c2) (r := ⟨w6.heap.size, 1, none⟩) (by dsimp only; omega) rfl rfl X_2
            replace X_3 := cell_else (.slice a2 l2.length c2) (r := ⟨w6.heap.size, 1, none⟩) (by dsimp only; omega) rfl rfl X_3
            replace X_4 := cell_else (.slice a2 l2.length c2) (r := ⟨w6.heap.size, 1, none⟩) (by dsimp only; omega) rfl rfl X_4
            replace X_5 := cell_else (.slice a2 l2.length c2) (r := ⟨w6.heap.size, 1, none⟩) (by dsimp only; omega) rfl rfl X_5
            replace Y_0 := cell_else (.slice a2 l2.length c2) (r := ⟨w6.heap.size, 1, none⟩) (by dsimp only; omega) rfl rfl Y_0
            replace Y_2 := cell_else (.slice a2 l2.length c2) (r := ⟨w6.heap.size, 1, none⟩) (by dsimp only; omega) rfl rfl Y_2
            replace Y_3 := cell_else (.slice a2 l2.length c2) (r := ⟨w6.heap.size, 1, none⟩) (by dsimp only; omega) rfl rfl Y_3
            replace Y_4 := cell_else (.slice a2 l2.length c2) (r := ⟨w6.heap.size, 1, none⟩) (by dsimp only; omega) rfl rfl Y_4
            replace Y_5 := cell_else (.slice a2 l2.length c2) (r := ⟨w6.heap.size, 1, none⟩) (by dsimp only; omega) rfl rfl Y_5
            replace Rf0 : (ws16.setCell ⟨w6.heap.size, 1, none⟩ (.slice a2 l2.length c2)).frozen? _ = false := (frozen_set _ _ _ _ _).trans Rf0
            replace Rf1 : (ws16.setCell ⟨w6.heap.size, 1, none⟩ (.slice a2 l2.length c2)).frozen? _ = false := (frozen_set _ _ _ _ _).trans Rf1
            replace Rf2 : (ws16.setCell ⟨w6.heap.size, 1, none⟩ (.slice a2 l2.length c2)).frozen? _ = false := (frozen_set _ _ _ _ _).trans Rf2
            replace Rf3 : (ws16.setCell ⟨w6.heap.size, 1, none⟩ (.slice a2 l2.length c2)).frozen? _ = false := (frozen_set _ _ _ _ _).trans Rf3
            replace Rf4 : (ws16.setCell ⟨w6.heap.size, 1, none⟩ (.slice a2 l2.length c2)).frozen? _ = false := (frozen_set _ _ _ _ _).trans Rf4
            replace Rf5 : (ws16.setCell ⟨w6.heap.size, 1, none⟩ (.slice a2 l2.length c2)).frozen? _ = false := (frozen_set _ _ _ _ _).trans Rf5
            replace X_f0 : (ws16.setCell ⟨w6.heap.size, 1, none⟩ (.slice a2 l2.length c2)).frozen? _ = false := (frozen_set _ _ _ _ _).trans X_f0
            replace X_f1 : (ws16.setCell ⟨w6.heap.size, 1, none⟩ (.slice a2 l2.length c2)).frozen? _ = false := (frozen_set _ _ _ _ _).trans X_f1
            replace X_f2 : (ws16.setCell ⟨w6.heap.size, 1, none⟩ (.slice a2 l2.length c2)).frozen? _ = false := (frozen_set _ _ _ _ _).trans X_f2
            replace X_f3 : (ws16.setCell ⟨w6.heap.size, 1, none⟩ (.slice a2 l2.length c2)).frozen? _ = false := (frozen_set _ _ _ _ _).trans X_f3
            replace X_f4 : (ws16.setCell ⟨w6.heap.size, 1, none⟩ (.slice a2 l2.length c2)).frozen? _ = false := (frozen_set _ _ _ _ _).trans X_f4
            replace X_f5 : (ws16.setCell ⟨w6.heap.size, 1, none⟩ (.slice a2 l2.length c2)).frozen? _ = false := (frozen_set _ _ _ _ _).trans X_f5
            replace Y_f0 : (ws16.setCell ⟨w6.heap.size, 1, none⟩ (.slice a2 l2.length c2)).frozen? _ = false := (frozen_set _ _ _ _ _).trans Y_f0
            replace Y_f1 : (ws16.setCell ⟨w6.heap.size, 1, none⟩ (.slice a2 l2.length c2)).frozen? _ = false := (frozen_set _ _ _ _ _).trans Y_f1
            replace Y_f2 : (ws16.setCell ⟨w6.heap.size, 1, none⟩ (.slice a2 l2.length c2)).frozen? _ = false := (frozen_set _ _ _ _ _).trans Y_f2
            replace Y_f3 : (ws16.setCell ⟨w6.heap.size, 1, none⟩ (.slice a2 l2.length c2)).frozen? _ = false := (frozen_set _ _ _ _ _).trans Y_f3
            replace Y_f4 : (ws16.setCell ⟨w6.heap.size, 1, none⟩ (.slice a2 l2.length c2)).frozen? _ = false := (frozen_set _ _ _ _ _).trans Y_f4
            replace Y_f5 : (ws16.setCell ⟨w6.heap.size, 1, none⟩ (.slice a2 l2.length c2)).frozen? _ = false := (frozen_set _ _ _ _ _).trans Y_f5
            replace Y_1 : (ws16.setCell ⟨w6.heap.size, 1, none⟩ (.slice a2 l2.length c2)).cell? ⟨w6.heap.size, 1, none⟩ = some (.slice a2 l2.length c2) := cell_on _ _ _ _ _ Y_1
            replace kw := kw.setNew (p := ⟨w6.heap.size, 1, none⟩) (by dsimp only; omega) (.slice a2 l2.length c2)
            replace K := hide ((unhide K).setNew (p := ⟨w6.heap.size, 1, none⟩) (by dsimp only; omega) (.slice a2 l2.length c2))
            have zs17 : (ws16.setCell ⟨w6.heap.size, 1, none⟩ (.slice a2 l2.length c2)).heap.size = ws16.heap.size := by simp [World.setCell]
            clear sS0
            generalize ws16.setCell ⟨w6.heap.size, 1, none⟩ (.slice a2 l2.length c2) = ws17 at *
            have sS0 := unhide S0
            replace r1 := r1.set_other (p := ⟨w6.heap.size, 2, none⟩) (by dsimp only; omega) (.int .i64 e2)
            replace r2 := r2.set_other (p := ⟨w6.heap.size, 2, none⟩) (by dsimp only; omega) (.int .i64 e2)
            replace r3 := r3.set_other (p := ⟨w6.heap.size, 2, none⟩) (by dsimp only; omega) (.int .i64 e2)
            replace r4 := r4.set_other (p := ⟨w6.heap.size, 2, none⟩) (by dsimp only; omega) (.int .i64 e2)
            replace bp0 := cell_else (.int .i64 e2) (r := ⟨w6.heap.size, 2, none⟩) (by dsimp only; omega) rfl rfl bp0
            replace bp1 := cell_else (.int .i64 e2) (r := ⟨w6.heap.size, 2, none⟩) (by dsimp only; omega) rfl rfl bp1
            replace bp2 := cell_else (.int .i64 e2) (r := ⟨w6.heap.size, 2, none⟩) (by dsimp only; omega) rfl rfl bp2
            replace bp3 := cell_else (.int .i64 e2) (r := ⟨w6.heap.size, 2, none⟩) (by dsimp only; omega) rfl rfl bp3
            replace bp4 := cell_else (.int .i64 e2) (r := ⟨w6.heap.size, 2, none⟩) (by dsimp only; omega) rfl rfl bp4
            replace bp5 := cell_else (.int .i64 e2) (r := ⟨w6.heap.size, 2, none⟩) (by dsimp only; omega) rfl rfl bp5
            replace bq0 := cell_else (.int .i64 e2) (r := ⟨w6.heap.size, 2, none⟩) (by dsimp only; omega) rfl rfl bq0
            replace bq1 := cell_else (.int .i64 e2) (r := ⟨w6.heap.size, 2, none⟩) (by dsimp only; omega) rfl rfl bq1
            replace bq2 := cell_else (.int .i64 e2) (r := ⟨w6.heap.size, 2, none⟩) (by dsimp only; omega) rfl rfl bq2
            replace bq3 := cell_else (.int .i64 e2) (r := ⟨w6.heap.size, 2, none⟩) (by dsimp only; omega) rfl rfl bq3
            replace bq4 := cell_else (.int .i64 e2) (r := ⟨w6.heap.size, 2, none⟩) (by dsimp only; omega) rfl rfl bq4
            replace bq5 := cell_else (.int .i64 e2) (r := ⟨w6.heap.size, 2, none⟩) (by dsimp only; omega) rfl rfl bq5
            replace R0 := cell_else (.int .i64 e2) (r := ⟨w6.heap.size, 2, none⟩) (by dsimp only; omega) rfl rfl R0
            replace R1 := cell_else (.int .i64 e2) (r := ⟨w6.heap.size, 2, none⟩) (by dsimp only; omega) rfl rfl R1
            replace R2 := cell_else (.int .i64 e2) (r := ⟨w6.heap.size, 2, none⟩) (by dsimp only; omega) rfl rfl R2
            replace R3 := cell_else (.int .i64 e2) (r := ⟨w6.heap.size, 2, none⟩) (by dsimp only; omega) rfl rfl R3
            replace R4 := cell_else (.int .i64 e2) (r := ⟨w6.heap.size, 2, none⟩) (by dsimp only; omega) rfl rfl R4
            replace R5 := cell_else (.int .i64 e2) (r := ⟨w6.heap.size, 2, none⟩) (by dsimp only; omega) rfl rfl R5
            replace X_0 := cell_else (.int .i64 e2) (r := ⟨w6.heap.size, 2, none⟩) (by dsimp only; omega) rfl rfl X_0
            replace X_1 := cell_else (.int .i64 e2) (r := ⟨w6.heap.size, 2, none⟩) (by dsimp only; omega) rfl rfl X_1
            replace X_2 := cell_else (.int .i64 e2) (r := ⟨w6.heap.size, 2, none⟩) (by dsimp only; omega) rfl rfl X_2
            replace X_3 := cell_else (.int .i64 e2) (r := ⟨w6.heap.size, 2, none⟩) (by dsimp only; omega) rfl rfl X_3
            replace X_4 := cell_else (.int .i64 e2) (r := ⟨w6.heap.size, 2, none⟩) (by dsimp only; omega) rfl rfl X_4
            replace X_5 := cell_else (.int .i64 e2) (r := ⟨w6.heap.size, 2, none⟩) (by dsimp only; omega) rfl rfl X_5
            replace Y_0 := cell_else (.int .i64 e2) (r := ⟨w6.heap.size, 2, none⟩) (by dsimp only; omega) rfl rfl Y_0
            replace Y_1 := cell_else (.int .i64 e2) (r := ⟨w6.heap.size, 2, none⟩) (by dsimp only; omega) rfl rfl Y_1
            replace Y_3 := cell_else (.int .i64 e2) (r := ⟨w6.heap.size, 2, none⟩) (by dsimp only; omega) rfl rfl Y_3
            replace Y_4 := cell_else (.int .i64 e2) (r := ⟨w6.heap.size, 2, none⟩) (by dsimp only; omega) rfl rfl Y_4
            replace Y_5 := cell_else (.int .i64 e2) (r := ⟨w6.heap.size, 2, none⟩) (by dsimp only; omega) rfl rfl Y_5
            replace Rf0 : (ws17.setCell ⟨w6.heap.size, 2, none⟩ (.int .i64 e2)).frozen? _ = false := (frozen_set _ _ _ _ _).trans Rf0
            replace Rf1 : (ws17.setCell ⟨w6.heap.size, 2, none⟩ (.int .i64 e2)).frozen? _ = false := (frozen_set _ _ _ _ _).trans Rf1
            replace Rf2 : (ws17.setCell ⟨w6.heap.size, 2, none⟩ (.int .i64 e2)).frozen? _ = false := (frozen_set _ _ _ _ _).trans Rf2
            replace Rf3 : (ws17.setCell ⟨w6.heap.size, 2, none⟩ (.int .i64 e2)).frozen? _ = false := (frozen_set _ _ _ _ _).trans Rf3
            replace Rf4 : (ws17.setCell ⟨w6.heap.size, 2, none⟩ (.int .i64 e2)).frozen? _ = false := (frozen_set _ _ _ _ _).trans Rf4
            replace Rf5 : (ws17.setCell ⟨w6.heap.size, 2, none⟩ (.int .i64 e2)).frozen? _ = false := (frozen_set _ _ _ _ _).trans Rf5
            replace X_f0 : (ws17.setCell ⟨w6.heap.size, 2, none⟩ (.int .i64 e2)).frozen? _ = false := (frozen_set _ _ _ _ _).trans X_f0
            replace X_f1 : (ws17.setCell ⟨w6.heap.size, 2, none⟩ (.int .i64 e2)).frozen? _ = false := (frozen_set _ _ _ _ _).trans X_f1
            replace X_f2 : (ws17.setCell ⟨w6.heap.size, 2, none⟩ (.int .i64 e2)).frozen? _ = false := (frozen_set _ _ _ _ _).trans X_f2
            replace X_f3 : (ws17.setCell ⟨w6.heap.size, 2, none⟩ (.int .i64 e2)).frozen? _ = false := (frozen_set _ _ _ _ _).trans X_f3
            replace X_f4 : (ws17.setCell ⟨w6.heap.size, 2, none⟩ (.int .i64 e2)).frozen? _ = false := (frozen_set _ _ _ _ _).trans X_f4
            replace X_f5 : (ws17.setCell ⟨w6.heap.size, 2, none⟩ (.int .i64 e2)).frozen? _ = false := (frozen_set _ _ _ _ _).trans X_f5
            replace Y_f0 : (ws17.setCell ⟨w6.heap.size, 2, none⟩ (.int .i64 e2)).frozen? _ = false := (frozen_set _ _ _ _ _).trans Y_f0
            replace Y_f1 : (ws17.setCell ⟨w6.heap.size, 2, none⟩ (.int .i64 e2)).frozen? _ = false := (frozen_set _ _ _ _ _).trans Y_f1
            replace Y_f2 : (ws17.setCell ⟨w6.heap.size, 2, none⟩ (.int .i64 e2)).frozen? _ = false := (frozen_set _ _ _ _ _).trans Y_f2
            replace Y_f3 : (ws17.setCell ⟨w6.heap.size, 2, none⟩ (.int .i64 e2)).frozen? _ = false := (frozen_set _ _ _ _ _).trans Y_f3
            replace Y_f4 : (ws17.setCell ⟨w6.heap.size, 2, none⟩ (.int .i64 e2)).frozen? _ = false := (frozen_set _ _ _ _ _).trans Y_f4
            replace Y_f5 : (ws17.setCell ⟨w6.heap.size, 2, none⟩ (.int .i64 e2)).frozen? _ = false := (frozen_set _ _ _ _ _).trans Y_f5
            replace Y_2 : (ws17.setCell ⟨w6.heap.size, 2, none⟩ (.int .i64 e2)).cell? ⟨w6.heap.size, 2, none⟩ = some (.int .i64 e2) := cell_on _ _ _ _ _ Y_2
            replace kw := kw.setNew (p := ⟨w6.heap.size, 2, none⟩) (by dsimp only; omega) (.int .i64 e2)
            replace K := hide ((unhide K).setNew (p := ⟨w6.heap.size, 2, none⟩) (by dsimp only; omega) (.int .i64 e2))
            have zs18 : (ws17.setCell ⟨w6.heap.size, 2, none⟩ (.int .i64 e2)).heap.size = ws17.heap.size := by simp [World.setCell]
            clear sS0
            generalize ws17.setCell ⟨w6.heap.size, 2, none⟩ (.int .i64 e2) = ws18 at *
            have sS0 := unhide S0
            replace r1 := r1.set_other (p := ⟨w6.heap.size, 3, none⟩) (by dsimp only; omega) (.bool s4)
            replace r2 := r2.set_other (p := ⟨w6.heap.size, 3, none⟩) (by dsimp only; omega) (.bool s4)
            replace r3 := r3.set_other (p := ⟨w6.heap.size, 3, none⟩) (by dsimp only; omega) (.bool s4)
            replace r4 := r4.set_other (p := ⟨w6.heap.size, 3, none⟩) (by dsimp only; omega) (.bool s4)
            replace bp0 := cell_else (.bool s4) (r := ⟨w6.heap.size, 3, none⟩) (by dsimp only; omega) rfl rfl bp0
            replace bp1 := cell_else (.bool s4) (r := ⟨w6.heap.size, 3, none⟩) (by dsimp only; omega) rfl rfl bp1
            replace bp2 := cell_else (.bool s4) (r := ⟨w6.heap.size, 3, none⟩) (by dsimp only; omega) rfl rfl bp2
            replace bp3 := cell_else (.bool s4) (r := ⟨w6.heap.size, 3, none⟩) (by dsimp only; omega) rfl rfl bp3
            replace bp4 := cell_else (.bool s4) (r := ⟨w6.heap.size, 3, none⟩) (by dsimp only; omega) rfl rfl bp4
            replace bp5 := cell_else (.bool s4) (r := ⟨w6.heap.size, 3, none⟩) (by dsimp only; omega) rfl rfl bp5
            replace bq0 := cell_else (.bool s4) (r := ⟨w6.heap.size, 3, none⟩) (by dsimp only; omega) rfl rfl bq0
            replace bq1 := cell_else (.bool s4) (r := ⟨w6.heap.size, 3, none⟩) (by dsimp only; omega) rfl rfl bq1
            replace bq2 := cell_else (.bool s4) (r := ⟨w6.heap.size, 3, none⟩) (by dsimp only; omega) rfl rfl bq2
            replace bq3 := cell_else (.bool s4) (r := ⟨w6.heap.size, 3, none⟩) (by dsimp only; omega) rfl rfl bq3
            replace bq4 := cell_else (.bool s4) (r := ⟨w6.heap.size, 3, none⟩) (by dsimp only; omega) rfl rfl bq4
            replace bq5 := cell_else (.bool s4) (r := ⟨w6.heap.size, 3, none⟩) (by dsimp only; omega) rfl rfl bq5
            replace R0 := cell_else (.bool s4) (r := ⟨w6.heap.size, 3, none⟩) (by dsimp only; omega) rfl rfl R0
            replace R1 := cell_else (.bool s4) (r := ⟨w6.heap.size, 3, none⟩) (by dsimp only; omega) rfl rfl R1
            replace R2 := cell_else (.bool s4) (r := ⟨w6.heap.size, 3, none⟩) (by dsimp only; omega) rfl rfl R2
            replace R3 := cell_else (.bool s4) (r := ⟨w6.heap.size, 3, none⟩) (by dsimp only; omega) rfl rfl R3
            replace R4 := cell_else (.bool s4) (r := ⟨w6.heap.size, 3, none⟩) (by dsimp only; omega) rfl rfl R4
            replace R5 := cell_else (.bool s4) (r := ⟨w6.heap.size, 3, none⟩) (by dsimp only; omega) rfl rfl R5
            replace X_0 := cell_else (.bool s4) (r := ⟨w6.heap.size, 3, none⟩) (by dsimp only; omega) rfl rfl X_0
            replace X_1 := cell_else (.bool s4) (r := ⟨w6.heap.size, 3, none⟩) (by dsimp only; omega) rfl rfl X_1
            replace X_2 := cell_else (.bool s4) (r := ⟨w6.heap.size, 3, none⟩) (by dsimp only; omega) rfl rfl X_2
            replace X_3 := cell_else (.bool s4) (r := ⟨w6.heap.size, 3, none⟩) (by dsimp only; omega) rfl rfl X_3
            replace X_4 := cell_else (.bool s4) (r := ⟨w6.heap.size, 3, none⟩) (by dsimp only; omega) rfl rfl X_4
            replace X_5 := cell_else (.bool s4) (r := ⟨w6.heap.size, 3, none⟩) (by dsimp only; omega) rfl rfl X_5
            replace Y_0 := cell_else (.bool s4) (r := ⟨w6.heap.size, 3, none⟩) (by dsimp only; omega) rfl rfl Y_0
            replace Y_1 := cell_else (.bool s4) (r := ⟨w6.heap.size, 3, none⟩) (by dsimp only; omega) rfl rfl Y_1
            replace Y_2 := cell_else (.bool s4) (r := ⟨w6.heap.size, 3, none⟩) (by dsimp only; omega) rfl rfl Y_2
            replace Y_4 := cell_else (.bool s4) (r := ⟨w6.heap.size, 3, none⟩) (by dsimp only; omega) rfl rfl Y_4
            replace Y_5 := cell_else (.bool s4) (r := ⟨w6.heap.size, 3, none⟩) (by dsimp only; omega) rfl rfl Y_5
            replace Rf0 : (ws18.setCell ⟨w6.heap.size, 3, none⟩ (.bool s4)).frozen? _ = false := (frozen_set _ _ _ _ _).trans Rf0
            replace Rf1 : (ws18.setCell ⟨w6.heap.size, 3, none⟩ (.bool s4)).frozen? _ = false := (frozen_set _ _ _ _ _).trans Rf1
            replace Rf2 : (ws18.setCell ⟨w6.heap.size, 3, none⟩ (.bool s4)).frozen? _ = false := (frozen_set _ _ _ _ _).trans Rf2
            replace Rf3 : (ws18.setCell ⟨w6.heap.size, 3, none⟩ (.bool s4)).frozen? _ = false := (frozen_set _ _ _ _ _).trans Rf3
            replace Rf4 : (ws18.setCell ⟨w6.heap.size, 3, none⟩ (.bool s4)).frozen? _ = false := (frozen_set _ _ _ _ _).trans Rf4
            replace Rf5 : (ws18.setCell ⟨w6.heap.size, 3, none⟩ (.bool s4)).frozen? _ = false := (frozen_set _ _ _ _ _).trans Rf5
            replace X_f0 : (ws18.setCell ⟨w6.heap.size, 3, none⟩ (.bool s4)).frozen? _ = false := (frozen_set _ _ _ _ _).trans X_f0
            replace X_f1 : (ws18.setCell ⟨w6.heap.size, 3, none⟩ (.bool s4)).frozen? _ = false := (frozen_set _ _ _ _ _).trans X_f1
            replace X_f2 : (ws18.setCell ⟨w6.heap.size, 3, none⟩ (.bool s4)).frozen? _ = false := (frozen_set _ _ _ _ _).trans X_f2
            replace X_f3 : (ws18.setCell ⟨w6.heap.size, 3, none⟩ (.bool s4)).frozen? _ = false := (frozen_set _ _ _ _ _).trans X_f3
            replace X_f4 : (ws18.setCell ⟨w6.heap.size, 3, none⟩ (.bool s4)).frozen? _ = false := (frozen_set _ _ _ _ _).trans X_f4
            replace X_f5 : (ws18.setCell ⟨w6.heap.size, 3, none⟩ (.bool s4)).frozen? _ = false := (frozen_set _ _ _ _ _).trans X_f5
            replace Y_f0 : (ws18.setCell ⟨w6.heap.size, 3, none⟩ (.bool s4)).frozen? _ = false := (frozen_set _ _ _ _ _).trans Y_f0
            replace Y_f1 : (ws18.setCell ⟨w6.heap.size, 3, none⟩ (.bool s4)).frozen? _ = false := (frozen_set _ _ _ _ _).trans Y_f1
            replace Y_f2 : (ws18.setCell ⟨w6.heap.size, 3, none⟩ (.bool s4)).frozen? _ = false := (frozen_set _ _ _ _ _).trans Y_f2
            replace Y_f3 : (ws18.setCell ⟨w6.heap.size, 3, none⟩ (.bool s4)).frozen? _ = false := (frozen_set _ _ _ _ _).trans Y_f3
            replace Y_f4 : (ws18.setCell ⟨w6.heap.size, 3, none⟩ (.bool s4)).frozen? _ = false := (frozen_set _ _ _ _ _).trans Y_f4
            replace Y_f5 : (ws18.setCell ⟨w6.heap.size, 3, none⟩ (.bool s4)).frozen? _ = false := (frozen_set _ _ _ _ _).trans Y_f5
            replace Y_3 : (ws18.setCell ⟨w6.heap.size, 3, none⟩ (.bool s4)).cell? ⟨w6.heap.size, 3, none⟩ = some (.bool s4) := cell_on _ _ _ _ _ Y_3
            replace kw := kw.setNew (p := ⟨w6.heap.size, 3, none⟩) (by dsimp only; omega) (.bool s4)
            replace K := hide ((unhide K).setNew (p := ⟨w6.heap.size, 3, none⟩) (by dsimp only; omega) (.bool s4))
            have zs19 : (ws18.setCell ⟨w6.heap.size, 3, none⟩ (.bool s4)).heap.size = ws18.heap.size := by simp [World.setCell]
            clear sS0
            generalize ws18.setCell ⟨w6.heap.size, 3, none⟩ (.bool s4) = ws19 at *
            have sS0 := unhide S0
            replace r1 := r1.set_other (p := ⟨w6.heap.size, 4, none⟩) (by dsimp only; omega) (.slice a4 l4.length c4)
            replace r2 := r2.set_other (p := ⟨w6.heap.size, 4, none⟩) (by dsimp only; omega) (.slice a4 l4.length c4)
            replace r3 := r3.set_other (p := ⟨w6.heap.size, 4, none⟩) (by dsimp only; omega) (.slice a4 l4.length c4)
            replace r4 := r4.set_other (p := ⟨w6.heap.size, 4, none⟩) (by dsimp only; omega) (.slice a4 l4.length c4)
            replace bp0 := cell_else (.slice a4 l4.length c4) (r := ⟨w6.heap.size, 4, none⟩) (by dsimp only; omega) rfl rfl bp0
            replace bp1 := cell_else (.slice a4 l4.length c4) (r := ⟨w6.heap.size, 4, none⟩) (by dsimp only; omega) rfl rfl bp1
            replace bp2 := cell_else (.slice a4 l4.length c4) (r := ⟨w6.heap.size, 4, none⟩) (by dsimp only; omega) rfl rfl bp2
            replace bp3 := cell_else (.slice a4 l4.length c4) (r := ⟨w6.heap.size, 4, none⟩) (by dsimp only; omega) rfl rfl bp3
            replace bp4 := cell_else (.slice a4 l4.length c4) (r := ⟨w6.heap.size, 4, none⟩) (by dsimp only; omega) rfl rfl bp4
            replace bp5 := cell_else (.slice a4 l4.length c4) (r := ⟨w6.heap.size, 4, none⟩) (by dsimp only; omega) rfl rfl bp5
            replace bq0 := cell_else (.slice a4 l4.length c4) (r := ⟨w6.heap.size, 4, none⟩) (by dsimp only; omega) rfl rfl bq0
            replace bq1 := cell_else (.slice a4 l4.length c4) (r := ⟨w6.heap.size, 4, none⟩) (by dsimp only; omega) rfl rfl bq1
            replace bq2 := cell_else (.slice a4 l4.length c4) (r := ⟨w6.heap.size, 4, none⟩) (by dsimp only; omega) rfl rfl bq2
            replace bq3 := cell_else (.slice a4 l4.length c4) (r := ⟨w6.heap.size, 4, none⟩) (by dsimp only; omega) rfl rfl bq3
            replace bq4 := cell_else (.slice a4 l4.length c4) (r := ⟨w6.heap.size, 4, none⟩) (by dsimp only; omega) rfl rfl bq4
            replace bq5 := cell_else (.slice a4 l4.length c4) (r := ⟨w6.heap.size, 4, none⟩) (by dsimp only; omega) rfl rfl bq5
            replace R0 := cell_else (.slice a4 l4.length c4) (r := ⟨w6.heap.size, 4, none⟩) (by dsimp only; omega) rfl rfl R0
            replace R1 := cell_else (.slice a4 l4.length c4) (r := ⟨w6.heap.size, 4, none⟩) (by dsimp only; omega) rfl rfl R1
            replace R2 := cell_else (.slice a4 l4.length c4) (r := ⟨w6.heap.size, 4, none⟩) (by dsimp only; omega) rfl rfl R2
            replace R3 := cell_else (.slice a4 l4.length c4) (r := ⟨w6.heap.size, 4, none⟩) (by dsimp only; omega) rfl rfl R3
            replace R4 := cell_else (.slice a4 l4.length c4) (r := ⟨w6.heap.size, 4, none⟩) (by dsimp only; omega) rfl rfl R4
            replace R5 := cell_else (.slice a4 l4.length c4) (r := ⟨w6.heap.size, 4, none⟩) (by dsimp only; omega) rfl rfl R5
            replace X_0 := cell_else (.slice a4 l4.length c4) (r := ⟨w6.heap.size, 4, none⟩) (by dsimp only; omega) rfl rfl X_0
            replace X_1 := cell_else (.slice a4 l4.length c4) (r := ⟨w6.heap.size, 4, none⟩) (by dsimp only; omega) rfl rfl X_1
            replace X_2 := cell_else (.slice a4 l4.length c4) (r := ⟨w6.heap.size, 4, none⟩) (by dsimp only; omega) rfl rfl X_2
            replace X_3 := cell_else (.slice a4 l4.length c4) (r := ⟨w6.heap.size, 4, none⟩) (by dsimp only; omega) rfl rfl X_3
            replace X_4 := cell_else (.slice a4 l4.length c4) (r := ⟨w6.heap.size, 4, none⟩) (by dsimp only; omega) rfl rfl X_4
            replace X_5 := cell_else (.slice a4 l4.length c4) (r := ⟨w6.heap.size, 4, none⟩) (by dsimp only; omega) rfl rfl X_5
            replace Y_0 := cell_else (.slice a4 l4.length c4) (r := ⟨w6.heap.size, 4, none⟩) (by dsimp only; omega) rfl rfl Y_0
            replace Y_1 := cell_else (.slice a4 l4.length c4) (r := ⟨w6.heap.size, 4, none⟩) (by dsimp only; omega) rfl rfl Y_1
            replace Y_2 := cell_else (.slice a4 l4.length c4) (r := ⟨w6.heap.size, 4, none⟩) (by dsimp only; omega) rfl rfl Y_2
            replace Y_3 := cell_else (.slice a4 l4.length c4) (r := ⟨w6.heap.size, 4, none⟩) (by dsimp only; omega) rfl rfl Y_3
            replace Y_5 := cell_else (.slice a4 l4.length c4) (r := ⟨w6.heap.size, 4, none⟩) (by dsimp only; omega) rfl rfl Y_5
            replace Rf0 : (ws19.setCell ⟨w6.heap.size, 4, none⟩ (.slice a4 l4.length c4)).frozen? _ = false := (frozen_set _ _ _ _ _).trans Rf0
            replace Rf1 : (ws19.setCell ⟨w6.heap.size, 4, none⟩ (.slice a4 l4.length c4)).frozen? _ = false := (frozen_set _ _ _ _ _).trans Rf1
            replace Rf2 : (ws19.setCell ⟨w6.heap.size, 4, none⟩ (.slice a4 l4.length c4)).frozen? _ = false := (frozen_set _ _ _ _ _).trans Rf2
            replace Rf3 : (ws19.setCell ⟨w6.heap.size, 4, none⟩ (.slice a4 l4.length c4)).frozen? _ = false := (frozen_set _ _ _ _ _).trans Rf3
            replace Rf4 : (ws19.setCell ⟨w6.heap.size, 4, none⟩ (.slice a4 l4.length c4)).frozen? _ = false := (frozen_set _ _ _ _ _).trans Rf4
            replace Rf5 : (ws19.setCell ⟨w6.heap.size, 4, none⟩ (.slice a4 l4.length c4)).frozen? _ = false := (frozen_set _ _ _ _ _).trans Rf5
            replace X_f0 : (ws19.setCell ⟨w6.heap.size, 4, none⟩ (.slice a4 l4.length c4)).frozen? _ = false := (frozen_set _ _ _ _ _).trans X_f0
            replace X_f1 : (ws19.setCell ⟨w6.heap.size, 4, none⟩ (.slice a4 l4.length c4)).frozen? _ = false := (frozen_set _ _ _ _ _).trans X_f1
            replace X_f2 : (ws19.setCell ⟨w6.heap.size, 4, none⟩ (.slice a4 l4.length c4)).frozen? _ = false := (frozen_set _ _ _ _ _).trans X_f2
            replace X_f3 : (ws19.setCell ⟨w6.heap.size, 4, none⟩ (.slice a4 l4.length c4)).frozen? _ = false := (frozen_set _ _ _ _ _).trans X_f3
            replace X_f4 : (ws19.setCell ⟨w6.heap.size, 4, none⟩ (.slice a4 l4.length c4)).frozen? _ = false := (frozen_set _ _ _ _ _).trans X_f4
            replace X_f5 : (ws19.setCell ⟨w6.heap.size, 4, none⟩ (.slice a4 l4.length c4)).frozen? _ = false := (frozen_set _ _ _ _ _).trans X_f5
            replace Y_f0 : (ws19.setCell ⟨w6.heap.size, 4, none⟩ (.slice a4 l4.length c4)).frozen? _ = false := (frozen_set _ _ _ _ _).trans Y_f0
            replace Y_f1 : (ws19.setCell ⟨w6.heap.size, 4, none⟩ (.slice a4 l4.length c4)).frozen? _ = false := (frozen_set _ _ _ _ _).trans Y_f1
            replace Y_f2 : (ws19.setCell ⟨w6.heap.size, 4, none⟩ (.slice a4 l4.length c4)).frozen? _ = false := (frozen_set _ _ _ _ _).trans Y_f2
            replace Y_f3 : (ws19.setCell ⟨w6.heap.size, 4, none⟩ (.slice a4 l4.length c4)).frozen? _ = false := (frozen_set _ _ _ _ _).trans Y_f3
            replace Y_f4 : (ws19.setCell ⟨w6.heap.size, 4, none⟩ (.slice a4 l4.length c4)).frozen? _ = false := (frozen_set _ _ _ _ _).trans Y_f4
            replace Y_f5 : (ws19.setCell ⟨w6.heap.size, 4, none⟩ (.slice a4 l4.length c4)).frozen? _ = false := (frozen_set _ _ _ _ _).trans Y_f5
            replace Y_4 : (ws19.setCell ⟨w6.heap.size, 4, none⟩ (.slice a4 l4.length c4)).cell? ⟨w6.heap.size, 4, none⟩ = some (.slice a4 l4.length c4) := cell_on _ _ _ _ _ Y_4
            replace kw := kw.setNew (p := ⟨w6.heap.size, 4, none⟩) (by dsimp only; omega) (.slice a4 l4.length c4)
            replace K := hide ((unhide K).setNew (p := ⟨w6.heap.size, 4, none⟩) (by dsimp only; omega) (.slice a4 l4.length c4))
            have zs20 : (ws19.setCell ⟨w6.heap.size, 4, none⟩ (.slice a4 l4.length c4)).heap.size = ws19.heap.size := by simp [World.setCell]
            clear sS0
            generalize ws19.setCell ⟨w6.heap.size, 4, none⟩ (.slice a4 l4.length c4) = ws20 at *
            have sS0 := unhide S0
            replace r1 := r1.set_other (p := ⟨w6.heap.size, 5, none⟩) (by dsimp only; omega) (.int .i64 e4)
            replace r2 := r2.set_other (p := ⟨w6.heap.size, 5, none⟩) (by dsimp only; omega) (.int .i64 e4)
            replace r3 := r3.set_other (p := ⟨w6.heap.size, 5, none⟩) (by dsimp only; omega) (.int .i64 e4)
            replace r4 := r4.set_other (p := ⟨w6.heap.size, 5, none⟩) (by dsimp only; omega) (.int .i64 e4)
            replace bp0 := cell_else (.int .i64 e4) (r := ⟨w6.heap.size, 5, none⟩) (by dsimp only; omega) rfl rfl bp0
            replace bp1 := cell_else (.int .i64 e4) (r := ⟨w6.heap.size, 5, none⟩) (by dsimp only; omega) rfl rfl bp1
            replace bp2 := cell_else (.int .i64 e4) (r := ⟨w6.heap.size, 5, none⟩) (by dsimp only; omega) rfl rfl bp2
            replace bp3 := cell_else (.int .i64 e4) (r := ⟨w6.heap.size, 5, none⟩) (by dsimp only; omega) rfl rfl bp3
            replace bp4 := cell_else (.int .i64 e4) (r := ⟨w6.heap.size, 5, none⟩) (by dsimp only; omega) rfl rfl bp4
            replace bp5 := cell_else (.int .i64 e4) (r := ⟨w6.heap.size, 5, none⟩) (by dsimp only; omega) rfl rfl bp5
            replace bq0 := cell_else (.int .i64 e4) (r := ⟨w6.heap.size, 5, none⟩) (by dsimp only; omega) rfl rfl bq0
            replace bq1 := cell_else (.int .i64 e4) (r := ⟨w6.heap.size, 5, none⟩) (by dsimp only; omega) rfl rfl bq1
            replace bq2 := cell_else (.int .i64 e4) (r := ⟨w6.heap.size, 5, none⟩) (by dsimp only; omega) rfl rfl bq2
            replace bq3 := cell_else (.int .i64 e4) (r := ⟨w6.heap.size, 5, none⟩) (by dsimp only; omega) rfl rfl bq3
            replace bq4 := cell_else (.int .i64 e4) (r := ⟨w6.heap.size, 5, none⟩) (by dsimp only; omega) rfl rfl bq4
            replace bq5 := cell_else (.int .i64 e4) (r := ⟨w6.heap.size, 5, none⟩) (by dsimp only; omega) rfl rfl bq5
            replace R0 := cell_else (.int .i64 e4) (r := ⟨w6.heap.size, 5, none⟩) (by dsimp only; omega) rfl rfl R0
            replace R1 := cell_else (.int .i64 e4) (r := ⟨w6.heap.size, 5, none⟩) (by dsimp only; omega) rfl rfl R1
            replace R2 := cell_else (.int .i64 e4) (r := ⟨w6.heap.size, 5, none⟩) (by dsimp only; omega) rfl rfl R2
            replace R3 := cell_else (.int .i64 e4) (r := ⟨w6.heap.size, 5, none⟩) (by dsimp only; omega) rfl rfl R3
            replace R4 := cell_else (.int .i64 e4) (r := ⟨w6.heap.size, 5, none⟩) (by dsimp only; omega) rfl rfl R4
            replace R5 := cell_else (.int .i64 e4) (r := ⟨w6.heap.size, 5, none⟩) (by dsimp only; omega) rfl rfl R5
            replace X_0 := cell_else (.int .i64 e4) (r := ⟨w6.heap.size, 5, none⟩) (by dsimp only; omega) rfl rfl X_0
            replace X_1 := cell_else (.int .i64 e4) (r := ⟨w6.heap.size, 5, none⟩) (by dsimp only; omega) rfl rfl X_1
            replace X_2 := cell_else (.int .i64 e4) (r := ⟨w6.heap.size, 5, none⟩) (by dsimp only; omega) rfl rfl X_2
            replace X_3 := cell_else (.int .i64 e4) (r := ⟨w6.heap.size, 5, none⟩) (by dsimp only; omega) rfl rfl X_3
            replace X_4 := cell_else (.int .i64 e4) (r := ⟨w6.heap.size, 5, none⟩) (by dsimp only; omega) rfl rfl X_4
            replace X_5 := cell_else (.int .i64 e4) (r := ⟨w6.heap.size, 5, none⟩) (by dsimp only; omega) rfl rfl X_5
            replace Y_0 := cell_else (.int .i64 e4) (r := ⟨w6.heap.size, 5, none⟩) (by dsimp only; omega) rfl rfl Y_0
            replace Y_1 := cell_else (.int .i64 e4) (r := ⟨w6.heap.size, 5, none⟩) (by dsimp only; omega) rfl rfl Y_1
            replace Y_2 := cell_else (.int .i64 e4) (r := ⟨w6.heap.size, 5, none⟩) (by dsimp only; omega) rfl rfl Y_2
            replace Y_3 := cell_else (.int .i64 e4) (r := ⟨w6.heap.size, 5, none⟩) (by dsimp only; omega) rfl rfl Y_3
            replace Y_4 := cell_else (.int .i64 e4) (r := ⟨w6.heap.size, 5, none⟩) (by dsimp only; omega) rfl rfl Y_4
            replace Rf0 : (ws20.setCell ⟨w6.heap.size, 5, none⟩ (.int .i64 e4)).frozen? _ = false := (frozen_set _ _ _ _ _).trans Rf0
            replace Rf1 : (ws20.setCell ⟨w6.heap.size, 5, none⟩ (.int .i64 e4)).frozen? _ = false := (frozen_set _ _ _ _ _).trans Rf1
            replace Rf2 : (ws20.setCell ⟨w6.heap.size, 5, none⟩ (.int .i64 e4)).frozen? _ = false := (frozen_set _ _ _ _ _).trans Rf2
            replace Rf3 : (ws20.setCell ⟨w6.heap.size, 5, none⟩ (.int .i64 e4)).frozen? _ = false := (frozen_set _ _ _ _ _).trans Rf3
            replace Rf4 : (ws20.setCell ⟨w6.heap.size, 5, none⟩ (.int .i64 e4)).frozen? _ = false := (frozen_set _ _ _ _ _).trans Rf4
            replace Rf5 : (ws20.setCell ⟨w6.heap.size, 5, none⟩ (.int .i64 e4)).frozen? _ = false := (frozen_set _ _ _ _ _).trans Rf5
            replace X_f0 : (ws20.setCell ⟨w6.heap.size, 5, none⟩ (.int .i64 e4)).frozen? _ = false := (frozen_set _ _ _ _ _).trans X_f0
            replace X_f1 : (ws20.setCell ⟨w6.heap.size, 5, none⟩ (.int .i64 e4)).frozen? _ = false := (frozen_set _ _ _ _ _).trans X_f1
            replace X_f2 : (ws20.setCell ⟨w6.heap.size, 5, none⟩ (.int .i64 e4)).frozen? _ = false := (frozen_set _ _ _ _ _).trans X_f2
            replace X_f3 : (ws20.setCell ⟨w6.heap.size, 5, none⟩ (.int .i64 e4)).frozen? _ = false := (frozen_set _ _ _ _ _).trans X_f3
            replace X_f4 : (ws20.setCell ⟨w6.heap.size, 5, none⟩ (.int .i64 e4)).frozen? _ = false := (frozen_set _ _ _ _ _).trans X_f4
            replace X_f5 : (ws20.setCell ⟨w6.heap.size, 5, none⟩ (.int .i64 e4)).frozen? _ = false := (frozen_set _ _ _ _ _).trans X_f5
            replace Y_f0 : (ws20.setCell ⟨w6.heap.size, 5, none⟩ (.int .i64 e4)).frozen? _ = false := (frozen_set _ _ _ _ _).trans Y_f0
            replace Y_f1 : (ws20.setCell ⟨w6.heap.size, 5, none⟩ (.int .i64 e4)).frozen? _ = false := (frozen_set _ _ _ _ _).trans Y_f1
            replace Y_f2 : (ws20.setCell ⟨w6.heap.size, 5, none⟩ (.int .i64 e4)).frozen? _ = false := (frozen_set _ _ _ _ _).trans Y_f2
            replace Y_f3 : (ws20.setCell ⟨w6.heap.size, 5, none⟩ (.int .i64 e4)).frozen? _ = false := (frozen_set _ _ _ _ _).trans Y_f3
            replace Y_f4 : (ws20.setCell ⟨w6.heap.size, 5, none⟩ (.int .i64 e4)).frozen? _ = false := (frozen_set _ _ _ _ _).trans Y_f4
            replace Y_f5 : (ws20.setCell ⟨w6.heap.size, 5, none⟩ (.int .i64 e4)).frozen? _ = false := (frozen_set _ _ _ _ _).trans Y_f5
            replace Y_5 : (ws20.setCell ⟨w6.heap.size, 5, none⟩ (.int .i64 e4)).cell? ⟨w6.heap.size, 5, none⟩ = some (.int .i64 e4) := cell_on _ _ _ _ _ Y_5
            replace kw := kw.setNew (p := ⟨w6.heap.size, 5, none⟩) (by dsimp only; omega) (.int .i64 e4)
            replace K := hide ((unhide K).setNew (p := ⟨w6.heap.size, 5, none⟩) (by dsimp only; omega) (.int .i64 e4))
            have zs21 : (ws20.setCell ⟨w6.heap.size, 5, none⟩ (.int .i64 e4)).heap.size = ws20.heap.size := by simp [World.setCell]
            clear sS0
            generalize ws20.setCell ⟨w6.heap.size, 5, none⟩ (.int .i64 e4) = ws21 at *
            refine wpAnyH_done (by kernel_rfl) ?_ _
            clear hHeld
            go_wp2_with fail
            go_meet
            exact ⟨_, _, rfl, rfl, X_0, X_1, X_2, X_3, X_4, X_5, Y_0, Y_1, Y_2, Y_3, Y_4, Y_5, kw⟩
    · simp only [List.getElem_toArray, List.getElem_cons_succ, List.getElem_cons_zero]
      rw [if_pos (by rfl)]
      go_simp
      have kn := (Kept.refl 0 0 wd).alloc (.cells #[.bool false, .slice none 0 0, .int .i64 0, .bool false, .slice none 0 0, .int .i64 0] 72)
      replace r1 := r1.kept kn (.inr (.inr (Nat.le_refl 0)))
      replace r2 := r2.kept kn (.inr (.inr (Nat.le_refl 0)))
      replace r3 := r3.kept kn (.inr (.inr (Nat.le_refl 0)))
      replace r4 := r4.kept kn (.inr (.inr (Nat.le_refl 0)))
      replace kw := kw.trans kn
      replace Rf0 := kn.loose0 (World.block_lt_of_cell? _ _ R0) Rf0
      replace Rf1 := kn.loose0 (World.block_lt_of_cell? _ _ R1) Rf1
      replace Rf2 := kn.loose0 (World.block_lt_of_cell? _ _ R2) Rf2
      replace Rf3 := kn.loose0 (World.block_lt_of_cell? _ _ R3) Rf3
      replace Rf4 := kn.loose0 (World.block_lt_of_cell? _ _ R4) Rf4
      replace Rf5 := kn.loose0 (World.block_lt_of_cell? _ _ R5) Rf5
      replace bp0 := kn.cell0 bp0
      replace bp1 := kn.cell0 bp1
      replace bp2 := kn.cell0 bp2
      replace bp3 := kn.cell0 bp3
      replace bp4 := kn.cell0 bp4
      replace bp5 := kn.cell0 bp5
      replace bq0 := kn.cell0 bq0
      replace bq1 := kn.cell0 bq1
      replace bq2 := kn.cell0 bq2
      replace bq3 := kn.cell0 bq3
      replace bq4 := kn.cell0 bq4
      replace bq5 := kn.cell0 bq5
      replace R0 := kn.cell0 R0
      replace R1 := kn.cell0 R1
      replace R2 := kn.cell0 R2
      replace R3 := kn.cell0 R3
      replace R4 := kn.cell0 R4
      replace R5 := kn.cell0 R5
      replace K := hide ((unhide K).trans kn)
      have z7 := kn.size
      clear kn
      have szY_ : wd.heap.size < (wd.alloc (.cells #[.bool false, .slice none 0 0, .int .i64 0, .bool false, .slice none 0 0, .int .i64 0] 72)).heap.size := by simp
      have Y_0 : (wd.alloc (.cells #[.bool false, .slice none 0 0, .int .i64 0, .bool false, .slice none 0 0, .int .i64 0] 72)).cell? ⟨wd.heap.size, 0, none⟩ = some (.bool false) := new_cell2 _ _ _ _ _ _ rfl rfl
      have Y_f0 : (wd.alloc (.cells #[.bool false, .slice none 0 0, .int .i64 0, .bool false, .slice none 0 0, .int .i64 0] 72)).frozen? ⟨wd.heap.size, 0, none⟩ = false := new_loose2 _ _ _ _ _ rfl
      have Y_1 : (wd.alloc (.cells #[.bool false, .slice none 0 0, .int .i64 0, .bool false, .slice none 0 0, .int .i64 0] 72)).cell? ⟨wd.heap.size, 1, none⟩ = some (.slice none 0 0) := new_cell2 _ _ _ _ _ _ rfl rfl
      have Y_f1 : (wd.alloc (.cells #[.bool false, .slice none 0 0, .int .i64 0, .bool false, .slice none 0 0, .int .i64 0] 72)).frozen? ⟨wd.heap.size, 1, none⟩ = false := new_loose2 _ _ _ _ _ rfl
      have Y_2 : (wd.alloc (.cells #[.bool false, .slice none 0 0, .int .i64 0, .bool false, .slice none 0 0, .int .i64 0] 72)).cell? ⟨wd.heap.size, 2, none⟩ = some (.int .i64 0) := new_cell2 _ _ _ _ _ _ rfl rfl
      have Y_f2 : (wd.alloc (.cells #[.bool false, .slice none 0 0, .int .i64 0, .bool false, .slice none 0 0, .int .i64 0] 72)).frozen? ⟨wd.heap.size, 2, none⟩ = false := new_loose2 _ _ _ _ _ rfl
      have Y_3 : (wd.alloc (.cells #[.bool false, .slice none 0 0, .int .i64 0, .bool false, .slice none 0 0, .int .i64 0] 72)).cell? ⟨wd.heap.size, 3, none⟩ = some (.bool false) := new_cell2 _ _ _ _ _ _ rfl rfl
      have Y_f3 : (wd.alloc (.cells #[.bool false, .slice none 0 0, .int .i64 0, .bool false, .slice none 0 0, .int .i64 0] 72)).frozen? ⟨wd.heap.size, 3, none⟩ = false := new_loose2 _ _ _ _ _ rfl
      have Y_4 : (wd.alloc (.cells #[.bool false, .slice none 0 0, .int .i64 0, .bool false, .slice none 0 0, .int .i64 0] 72)).cell? ⟨wd.heap.size, 4, none⟩ = some (.slice none 0 0) := new_cell2 _ _ _ _ _ _ rfl rfl
      have Y_f4 : (wd.alloc (.cells #[.bool false, .slice none 0 0, .int .i64 0, .bool false, .slice none 0 0, .int .i64 0] 72)).frozen? ⟨wd.heap.size, 4, none⟩ = false := new_loose2 _ _ _ _ _ rfl
      have Y_5 : (wd.alloc (.cells #[.bool false, .slice none 0 0, .int .i64 0, .bool false, .slice none 0 0, .int .i64 0] 72)).cell? ⟨wd.heap.size, 5, none⟩ = some (.int .i64 0) := new_cell2 _ _ _ _ _ _ rfl rfl
      have Y_f5 : (wd.alloc (.cells #[.bool false, .slice none 0 0, .int .i64 0, .bool false, .slice none 0 0, .int .i64 0] 72)).frozen? ⟨wd.heap.size, 5, none⟩ = false := new_loose2 _ _ _ _ _ rfl
      clear hHeld
      refine hK.out _ _ ?_ (fun hHeld => ?_)
      · exact ⟨bp0, bp1, bp2, bp3, bp4, bp5, bq0, bq1, bq2, bq3, bq4, bq5⟩
      clear hK KK
      try simp only [Act.put, List.getElem_toArray, List.getElem_cons_succ, List.getElem_cons_zero, List.setIfInBounds_toArray, List.set_cons_zero, List.set_cons_succ]
      generalize wd.alloc (.cells #[.bool false, .slice none 0 0, .int .i64 0, .bool false, .slice none 0 0, .int .i64 0] 72) = w6 at *
      refine wpAnyH_ready (rs := [10]) (by kernel_rfl) (by simp) ?_
      refine AllReadyH.cons rfl (fun KK hK => ?_) AllReadyH.nil
      · simp only [List.getElem_toArray, List.getElem_cons_succ, List.getElem_cons_zero]
        rw [if_pos (by rfl)]
        go_simp
        have kn := (Kept.refl 0 0 w6).alloc (.cells #[.bool false, .slice none 0 0, .int .i64 0, .bool false, .slice none 0 0, .int .i64 0] 72)
        replace r1 := r1.kept kn (.inr (.inr (Nat.le_refl 0)))
        replace r2 := r2.kept kn (.inr (.inr (Nat.le_refl 0)))
        replace r3 := r3.kept kn (.inr (.inr (Nat.le_refl 0)))
        replace r4 := r4.kept kn (.inr (.inr (Nat.le_refl 0)))
        replace kw := kw.trans kn
        replace Rf0 := kn.loose0 (World.block_lt_of_cell? _ _ R0) Rf0
        replace Rf1 := kn.loose0 (World.block_lt_of_cell? _ _ R1) Rf1
        replace Rf2 := kn.loose0 (World.block_lt_of_cell? _ _ R2) Rf2
        replace Rf3 := kn.loose0 (World.block_lt_of_cell? _ _ R3) Rf3
        replace Rf4 := kn.loose0 (World.block_lt_of_cell? _ _ R4) Rf4
        replace Rf5 := kn.loose0 (World.block_lt_of_cell? _ _ R5) Rf5
        replace Y_f0 := kn.loose0 (World.block_lt_of_cell? _ _ Y_0) Y_f0
        replace Y_f1 := kn.loose0 (World.block_lt_of_cell? _ _ Y_1) Y_f1
        replace Y_f2 := kn.loose0 (World.block_lt_of_cell? _ _ Y_2) Y_f2
        replace Y_f3 := kn.loose0 (World.block_lt_of_cell? _ _ Y_3) Y_f3
        replace Y_f4 := kn.loose0 (World.block_lt_of_cell? _ _ Y_4) Y_f4
        replace Y_f5 := kn.loose0 (World.block_lt_of_cell? _ _ Y_5) Y_f5
        replace bp0 := kn.cell0 bp0
        replace bp1 := kn.cell0 bp1
        replace bp2 := kn.cell0 bp2
        replace bp3 := kn.cell0 bp3
        replace bp4 := kn.cell0 bp4
        replace bp5 := kn.cell0 bp5
        replace bq0 := kn.cell0 bq0
        replace bq1 := kn.cell0 bq1
        replace bq2 := kn.cell0 bq2
        replace bq3 := kn.cell0 bq3
        replace bq4 := kn.cell0 bq4
        replace bq5 := kn.cell0 bq5
        replace R0 := kn.cell0 R0
        replace R1 := kn.cell0 R1
        replace R2 := kn.cell0 R2
        replace R3 := kn.cell0 R3
        replace R4 := kn.cell0 R4
        replace R5 := kn.cell0 R5
        replace Y_0 := kn.cell0 Y_0
        replace Y_1 := kn.cell0 Y_1
        replace Y_2 := kn.cell0 Y_2
        replace Y_3 := kn.cell0 Y_3
        replace Y_4 := kn.cell0 Y_4
        replace Y_5 := kn.cell0 Y_5
        replace K := hide ((unhide K).trans kn)
        have z9 := kn.size
        clear kn
        have szX_ : w6.heap.size < (w6.alloc (.cells #[.bool false, .slice none 0 0, .int .i64 0, .bool false, .slice none 0 0, .int .i64 0] 72)).heap.size := by simp
        have X_0 : (w6.alloc (.cells #[.bool false, .slice none 0 0, .int .i64 0, .bool false, .slice none 0 0, .int .i64 0] 72)).cell? ⟨w6.heap.size, 0, none⟩ = some (.bool false) := new_cell2 _ _ _ _ _ _ rfl rfl
        have X_f0 : (w6.alloc (.cells #[.bool false, .slice none 0 0, .int .i64 0, .bool false, .slice none 0 0, .int .i64 0] 72)).frozen? ⟨w6.heap.size, 0, none⟩ = false := new_loose2 _ _ _ _ _ rfl
        have X_1 : (w6.alloc (.cells #[.bool false, .slice none 0 0, .int .i64 0, .bool false, .slice none 0 0, .int .i64 0] 72)).cell? ⟨w6.heap.size, 1, none⟩ = some (.slice none 0 0) := new_cell2 _ _ _ _ _ _ rfl rfl
        have X_f1 : (w6.alloc (.cells #[.bool false, .slice none 0 0, .int .i64 0, .bool false, .slice none 0 0, .int .i64 0] 72)).frozen? ⟨w6.heap.size, 1, none⟩ = false := new_loose2 _ _ _ _ _ rfl
        have X_2 : (w6.alloc (.cells #[.bool false, .slice none 0 0, .int .i64 0, .bool false, .slice none 0 0, .int .i64 0] 72)).cell? ⟨w6.heap.size, 2, none⟩ = some (.int .i64 0) := new_cell2 _ _ _ _ _ _ rfl rfl
        have X_f2 : (w6.alloc (.cells #[.bool false, .slice none 0 0, .int .i64 0, .bool false, .slice none 0 0, .int .i64 0] 72)).frozen? ⟨w6.heap.size, 2, none⟩ = false := new_loose2 _ _ _ _ _ rfl
        have X_3 : (w6.alloc (.cells #[.bool false, .slice none 0 0, .int .i64 0, .bool false, .slice none 0 0, .int .i64 0] 72)).cell? ⟨w6.heap.size, 3, none⟩ = some (.bool false) := new_cell2 _ _ _ _ _ _ rfl rfl
        have X_f3 : (w6.alloc (.cells #[.bool false, .slice none 0 0, .int .i64 0, .bool false, .slice none 0 0, .int .i64 0] 72)).frozen? ⟨w6.heap.size, 3, none⟩ = false := new_loose2 _ _ _ _ _ rfl
        have X_4 : (w6.alloc (.cells #[.bool false, .slice none 0 0, .int .i64 0, .bool false, .slice none 0 0, .int .i64 0] 72)).cell? ⟨w6.heap.size, 4, none⟩ = some (.slice none 0 0) := new_cell2 _ _ _ _ _ _ rfl rfl
        have X_f4 : (w6.alloc (.cells #[.bool false, .slice none 0 0, .int .i64 0, .bool false, .slice none 0 0, .int .i64 0] 72)).frozen? ⟨w6.heap.size, 4, none⟩ = false := new_loose2 _ _ _ _ _ rfl
        have X_5 : (w6.alloc (.cells #[.bool false, .slice none 0 0, .int .i64 0, .bool false, .slice none 0 0, .int .i64 0] 72)).cell? ⟨w6.heap.size, 5, none⟩ = some (.int .i64 0) := new_cell2 _ _ _ _ _ _ rfl rfl
        have X_f5 : (w6.alloc (.cells #[.bool false, .slice none 0 0, .int .i64 0, .bool false, .slice none 0 0, .int .i64 0] 72)).frozen? ⟨w6.heap.size, 5, none⟩ = false := new_loose2 _ _ _ _ _ rfl
        clear hHeld
        refine hK.out _ _ ?_ (fun hHeld => ?_)
        · exact ⟨bp0, bp1, bp2, bp3, bp4, bp5, bq0, bq1, bq2, bq3, bq4, bq5⟩
        clear hK KK
        try simp only [Act.put, List.getElem_toArray, List.getElem_cons_succ, List.getElem_cons_zero, List.setIfInBounds_toArray, List.set_cons_zero, List.set_cons_succ]
        generalize w6.alloc (.cells #[.bool false, .slice none 0 0, .int .i64 0, .bool false, .slice none 0 0, .int .i64 0] 72) = w8 at *
        refine wpAnyH_ready (rs := [12]) (by kernel_rfl) (by simp) ?_
        refine AllReadyH.cons rfl (fun KK hK => ?_) AllReadyH.nil
        · simp only [List.getElem_toArray, List.getElem_cons_succ, List.getElem_cons_zero]
          rw [if_pos (by rfl)]
          go_simp
          clear hHeld
          refine hK.out _ _ ?_ (fun hHeld => ?_)
          · exact ⟨(cell_aside _ (by have := unhide S0; dsimp only; omega) (cell_aside _ (by have := unhide S0; dsimp only; omega) (cell_aside _ (by have := unhide S0; dsimp only; omega) (cell_aside _ (by have := unhide S0; dsimp only; omega) (cell_aside _ (by have := unhide S0; dsimp only; omega) (cell_aside _ (by have := unhide S0; dsimp only; omega) bp0)))))), (cell_aside _ (by have := unhide S0; dsimp only; omega) (cell_aside _ (by have := unhide S0; dsimp only; omega) (cell_aside _ (by have := unhide S0; dsimp only; omega) (cell_aside _ (by have := unhide S0; dsimp only; omega) (cell_aside _ (by have := unhide S0; dsimp only; omega) (cell_aside _ (by have := unhide S0; dsimp only; omega) bp1)))))), (cell_aside _ (by have := unhide S0; dsimp only; omega) (cell_aside _ (by have := unhide S0; dsimp only; omega) (cell_aside _ (by have := unhide S0; dsimp only; omega) (cell_aside _ (by have := unhide S0; dsimp only; omega) (cell_aside _ (by have := unhide S0; dsimp only; omega) (cell_aside _ (by have := unhide S0; dsimp only; omega) bp2)))))), (cell_aside _ (by have := unhide S0; dsimp only; omega) (cell_aside _ (by have := unhide S0; dsimp only; omega) (cell_aside _ (by have := unhide S0; dsimp only; omega) (cell_aside _ (by have := unhide S0; dsimp only; omega) (cell_aside _ (by have := unhide S0; dsimp only; omega) (cell_aside _ (by have := unhide S0; dsimp only; omega) bp3)))))), (cell_aside _ (by have := unhide S0; dsimp only; omega) (cell_aside _ (by have := unhide S0; dsimp only; omega) (cell_aside _ (by have := unhide S0; dsimp only; omega) (cell_aside _ (by have := unhide S0; dsimp only; omega) (cell_aside _ (by have := unhide S0; dsimp only; omega) (cell_aside _ (by have := unhide S0; dsimp only; omega) bp4)))))), (cell_aside _ (by have := unhide S0; dsimp only; omega) (cell_aside _ (by have := unhide S0; dsimp only; omega) (cell_aside _ (by have := unhide S0; dsimp only; omega) (cell_aside _ (by have := unhide S0; dsimp only; omega) (cell_aside _ (by have := unhide S0; dsimp only; omega) (cell_aside _ (by have := unhide S0; dsimp only; omega) bp5)))))), (cell_aside _ (by have := unhide S0; dsimp only; omega) (cell_aside _ (by have := unhide S0; dsimp only; omega) (cell_aside _ (by have := unhide S0; dsimp only; omega) (cell_aside _ (by have := unhide S0; dsimp only; omega) (cell_aside _ (by have := unhide S0; dsimp only; omega) (cell_aside _ (by have := unhide S0; dsimp only; omega) bq0)))))), (cell_aside _ (by have := unhide S0; dsimp only; omega) (cell_aside _ (by have := unhide S0; dsimp only; omega) (cell_aside _ (by have := unhide S0; dsimp only; omega) (cell_aside _ (by have := unhide S0; dsimp only; omega) (cell_aside _ (by have := unhide S0; dsimp only; omega) (cell_aside _ (by have := unhide S0; dsimp only; omega) bq1)))))), (cell_aside _ (by have := unhide S0; dsimp only; omega) (cell_aside _ (by have := unhide S0; dsimp only; omega) (cell_aside _ (by have := unhide S0; dsimp only; omega) (cell_aside _ (by have := unhide S0; dsimp only; omega) (cell_aside _ (by have := unhide S0; dsimp only; omega) (cell_aside _ (by have := unhide S0; dsimp only; omega) bq2)))))), (cell_aside _ (by have := unhide S0; dsimp only; omega) (cell_aside _ (by have := unhide S0; dsimp only; omega) (cell_aside _ (by have := unhide S0; dsimp only; omega) (cell_aside _ (by have := unhide S0; dsimp only; omega) (cell_aside _ (by have := unhide S0; dsimp only; omega) (cell_aside _ (by have := unhide S0; dsimp only; omega) bq3)))))), (cell_aside _ (by have := unhide S0; dsimp only; omega) (cell_aside _ (by have := unhide S0; dsimp only; omega) (cell_aside _ (by have := unhide S0; dsimp only; omega) (cell_aside _ (by have := unhide S0; dsimp only; omega) (cell_aside _ (by have := unhide S0; dsimp only; omega) (cell_aside _ (by have := unhide S0; dsimp only; omega) bq4)))))), (cell_aside _ (by have := unhide S0; dsimp only; omega) (cell_aside _ (by have := unhide S0; dsimp only; omega) (cell_aside _ (by have := unhide S0; dsimp only; omega) (cell_aside _ (by have := unhide S0; dsimp only; omega) (cell_aside _ (by have := unhide S0; dsimp only; omega) (cell_aside _ (by have := unhide S0; dsimp only; omega) bq5))))))⟩
          clear hK KK
          try simp only [Act.put, List.getElem_toArray, List.getElem_cons_succ, List.getElem_cons_zero, List.setIfInBounds_toArray, List.set_cons_zero, List.set_cons_succ]
          have sS0 := unhide S0
          replace r1 := r1.set_other (p := ⟨w6.heap.size, 0, none⟩) (by dsimp only; omega) (.bool s1)
          replace r2 := r2.set_other (p := ⟨w6.heap.size, 0, none⟩) (by dsimp only; omega) (.bool s1)
          replace r3 := r3.set_other (p := ⟨w6.heap.size, 0, none⟩) (by dsimp only; omega) (.bool s1)
          replace r4 := r4.set_other (p := ⟨w6.heap.size, 0, none⟩) (by dsimp only; omega) (.bool s1)
          replace bp0 := cell_else (.bool s1) (r := ⟨w6.heap.size, 0, none⟩) (by dsimp only; omega) rfl rfl bp0
          replace bp1 := cell_else (.bool s1) (r := ⟨w6.heap.size, 0, none⟩) (by dsimp only; omega) rfl rfl bp1
          replace bp2 := cell_else (.bool s1) (r := ⟨w6.heap.size, 0, none⟩) (by dsimp only; omega) rfl rfl bp2
          replace bp3 := cell_else (.bool s1) (r := ⟨w6.heap.size, 0, none⟩) (by dsimp only; omega) rfl rfl bp3
          replace bp4 := cell_else (.bool s1) (r := ⟨w6.heap.size, 0, none⟩) (by dsimp only; omega) rfl rfl bp4
          replace bp5 := cell_else (.bool s1) (r := ⟨w6.heap.size, 0, none⟩) (by dsimp only; omega) rfl rfl bp5
          replace bq0 := cell_else (.bool s1) (r := ⟨w6.heap.size, 0, none⟩) (by dsimp only; omega) rfl rfl bq0
          replace bq1 := cell_else (.bool s1) (r := ⟨w6.heap.size, 0, none⟩) (by dsimp only; omega) rfl rfl bq1
          replace bq2 := cell_else (.bool s1) (r := ⟨w6.heap.size, 0, none⟩) (by dsimp only; omega) rfl rfl bq2
          replace bq3 := cell_else (.bool s1) (r := ⟨w6.heap.size, 0, none⟩) (by dsimp only; omega) rfl rfl bq3
          replace bq4 := cell_else (.bool s1) (r := ⟨w6.heap.size, 0, none⟩) (by dsimp only; omega) rfl rfl bq4
          replace bq5 := cell_else (.bool s1) (r := ⟨w6.heap.size, 0, none⟩) (by dsimp only; omega) rfl rfl bq5
          replace R0 := cell_else (.bool s1) (r := ⟨w6.heap.size, 0, none⟩) (by dsimp only; omega) rfl rfl R0
          replace R1 := cell_else (.bool s1) (r := ⟨w6.heap.size, 0, none⟩) (by dsimp only; omega) rfl rfl R1
          replace R2 := cell_else (.bool s1) (r := ⟨w6.heap.size, 0, none⟩) (by dsimp only; omega) rfl rfl R2
          replace R3 := cell_else (.bool s1) (r := ⟨w6.heap.size, 0, none⟩) (by dsimp only; omega) rfl rfl R3
          replace R4 := cell_else (.bool s1) (r := ⟨w6.heap.size, 0, none⟩) (by dsimp only; omega) rfl rfl R4
          replace R5 := cell_else (.bool s1) (r := ⟨w6.heap.size, 0, none⟩) (by dsimp only; omega) rfl rfl R5
          replace Y_0 := cell_else (.bool s1) (r := ⟨w6.heap.size, 0, none⟩) (by dsimp only; omega) rfl rfl Y_0
          replace Y_1 := cell_else (.bool s1) (r := ⟨w6.heap.size, 0, none⟩) (by dsimp only; omega) rfl rfl Y_1
          replace Y_2 := cell_else (.bool s1) (r := ⟨w6.heap.size, 0, none⟩) (by dsimp only; omega) rfl rfl Y_2
          replace Y_3 := cell_else (.bool s1) (r := ⟨w6.heap.size, 0, none⟩) (by dsimp only; omega) rfl rfl Y_3
          replace Y_4 := cell_else (.bool s1) (r := ⟨w6.heap.size, 0, none⟩) (by dsimp only; omega) rfl rfl Y_4
          replace Y_5 := cell_else (.bool s1) (r := ⟨w6.heap.size, 0, none⟩) (by dsimp only; omega) rfl rfl Y_5
          replace X_1 := cell_else (.bool s1) (r := ⟨w6.heap.size, 0, none⟩) (by dsimp only; omega) rfl rfl X_1
          replace X_2 := cell_else (.bool s1) (r := ⟨w6.heap.size, 0, none⟩) (by dsimp only; omega) rfl rfl X_2
          replace X_3 := cell_else (.bool s1) (r := ⟨w6.heap.size, 0, none⟩) (by dsimp only; omega) rfl rfl X_3
          replace X_4 := cell_else (.bool s1) (r := ⟨w6.heap.size, 0, none⟩) (by dsimp only; omega) rfl rfl X_4
          replace X_5 := cell_else (.bool s1) (r := ⟨w6.heap.size, 0, none⟩) (by dsimp only; omega) rfl rfl X_5
          replace Rf0 : (w8.setCell ⟨w6.heap.size, 0, none⟩ (.bool s1)).frozen? _ = false := (frozen_set _ _ _ _ _).trans Rf0
          replace Rf1 : (w8.setCell ⟨w6.heap.size, 0, none⟩ (.bool s1)).frozen? _ = false := (frozen_set _ _ _ _ _).trans Rf1
          replace Rf2 : (w8.setCell ⟨w6.heap.size, 0, none⟩ (.bool s1)).frozen? _ = false := (frozen_set _ _ _ _ _).trans Rf2
          replace Rf3 : (w8.setCell ⟨w6.heap.size, 0, none⟩ (.bool s1)).frozen? _ = false := (frozen_set _ _ _ _ _).trans Rf3
          replace Rf4 : (w8.setCell ⟨w6.heap.size, 0, none⟩ (.bool s1)).frozen? _ = false := (frozen_set _ _ _ _ _).trans Rf4
          replace Rf5 : (w8.setCell ⟨w6.heap.size, 0, none⟩ (.bool s1)).frozen? _ = false := (frozen_set _ _ _ _ _).trans Rf5
          replace Y_f0 : (w8.setCell ⟨w6.heap.size, 0, none⟩ (.bool s1)).frozen? _ = false := (frozen_set _ _ _ _ _).trans Y_f0
          replace Y_f1 : (w8.setCell ⟨w6.heap.size, 0, none⟩ (.bool s1)).frozen? _ = false := (frozen_set _ _ _ _ _).trans Y_f1
          replace Y_f2 : (w8.setCell ⟨w6.heap.size, 0, none⟩ (.bool s1)).frozen? _ = false := (frozen_set _ _ _ _ _).trans Y_f2
          replace Y_f3 : (w8.setCell ⟨w6.heap.size, 0, none⟩ (.bool s1)).frozen? _ = false := (frozen_set _ _ _ _ _).trans Y_f3
          replace Y_f4 : (w8.setCell ⟨w6.heap.size, 0, none⟩ (.bool s1)).frozen? _ = false := (frozen_set _ _ _ _ _).trans Y_f4
          replace Y_f5 : (w8.setCell ⟨w6.heap.size, 0, none⟩ (.bool s1)).frozen? _ = false := (frozen_set _ _ _ _ _).trans Y_f5
          replace X_f0 : (w8.setCell ⟨w6.heap.size, 0, none⟩ (.bool s1)).frozen? _ = false := (frozen_set _ _ _ _ _).trans X_f0
          replace X_f1 : (w8.setCell ⟨w6.heap.size, 0, none⟩ (.bool s1)).frozen? _ = false := (frozen_set _ _ _ _ _).trans X_f1
          replace X_f2 : (w8.setCell ⟨w6.heap.size, 0, none⟩ (.bool s1)).frozen? _ = false := (frozen_set _ _ _ _ _).trans X_f2
          replace X_f3 : (w8.setCell ⟨w6.heap.size, 0, none⟩ (.bool s1)).frozen? _ = false := (frozen_set _ _ _ _ _).trans X_f3
          replace X_f4 : (w8.setCell ⟨w6.heap.size, 0, none⟩ (.bool s1)).frozen? _ = false := (frozen_set _ _ _ _ _).trans X_f4
          replace X_f5 : (w8.setCell ⟨w6.heap.size, 0, none⟩ (.bool s1)).frozen? _ = false := (frozen_set _ _ _ _ _).trans X_f5
          replace X_0 : (w8.setCell ⟨w6.heap.size, 0, none⟩ (.bool s1)).cell? ⟨w6.heap.size, 0, none⟩ = some (.bool s1) := cell_on _ _ _ _ _ X_0
          replace kw := kw.setNew (p := ⟨w6.heap.size, 0, none⟩) (by dsimp only; omega) (.bool s1)
          replace K := hide ((unhide K).setNew (p := ⟨w6.heap.size, 0, none⟩) (by dsimp only; omega) (.bool s1))
          have zs10 : (w8.setCell ⟨w6.heap.size, 0, none⟩ (.bool s1)).heap.size = w8.heap.size := by simp [World.setCell]
          clear sS0
          generalize w8.setCell ⟨w6.heap.size, 0, none⟩ (.bool s1) = ws10 at *
          have sS0 := unhide S0
          replace r1 := r1.set_other (p := ⟨w6.heap.size, 1, none⟩) (by dsimp only; omega) (.slice a1 l1.length c1)
          replace r2 := r2.set_other (p := ⟨w6.heap.size, 1, none⟩) (by dsimp only; omega) (.slice a1 l1.length c1)
          replace r3 := r3.set_other (p := ⟨w6.heap.size, 1, none⟩) (by dsimp only; omega) (.slice a1 l1.length c1)
          replace r4 := r4.set_other (p := ⟨w6.heap.size, 1, none⟩) (by dsimp only; omega) (.slice a1 l1.length c1)
          replace bp0 := cell_else (.slice a1 l1.length c1) (r := ⟨w6.heap.size, 1, none⟩) (by dsimp only; omega) rfl rfl bp0
          replace bp1 := cell_else (.slice a1 l1.length c1) (r := ⟨w6.heap.size, 1, none⟩) (by dsimp only; omega) rfl rfl bp1
          replace bp2 := cell_else (.slice a1 l1.length c1) (r := ⟨w6.heap.size, 1, none⟩) (by dsimp only; omega) rfl rfl bp2
          replace bp3 := cell_else (.slice a1 l1.length c1) (r := ⟨w6.heap.size, 1, none⟩) (by dsimp only; omega) rfl rfl bp3
          replace bp4 := cell_else (.slice a1 l1.length c1) (r := ⟨w6.heap.size, 1, none⟩) (by dsimp only; omega) rfl rfl bp4
          replace bp5 := cell_else (.slice a1 l1.length c1) (r := ⟨w6.heap.size, 1, none⟩) (by dsimp only; omega) rfl rfl bp5
          replace bq0 := cell_else (.slice a1 l1.length c1) (r := ⟨w6.heap.size, 1, none⟩) (by dsimp only; omega) rfl rfl bq0
          replace bq1 := cell_else (.slice a1 l1.length c1) (r := ⟨w6.heap.size, 1, none⟩) (by dsimp only; omega) rfl rfl bq1
          replace bq2 := cell_else (.slice a1 l1.length c1) (r := ⟨w6.heap.size, 1, none⟩) (by dsimp only; omega) rfl rfl bq2
          replace bq3 := cell_else (.slice a1 l1.length c1) (r := ⟨w6.heap.size, 1, none⟩) (by dsimp only; omega) rfl rfl bq3
          replace bq4 := cell_else (.slice a1 l1.length c1) (r := ⟨w6.heap.size, 1, none⟩) (by dsimp only; omega) rfl rfl bq4
          replace bq5 := cell_else (.slice a1 l1.length c1) (r := ⟨w6.heap.size, 1, none⟩) (by dsimp only; omega) rfl rfl bq5
          replace R0 := cell_else (.slice a1 l1.length c1) (r := ⟨w6.heap.size, 1, none⟩) (by dsimp only; omega) rfl rfl R0
          replace R1 := cell_else (.slice a1 l1.length c1) (r := ⟨w6.heap.size, 1, none⟩) (by dsimp only; omega) rfl rfl R1
          replace R2 := cell_else (.slice a1 l1.length c1) (r := ⟨w6.heap.size, 1, none⟩) (by dsimp only; omega) rfl rfl R2
          replace R3 := cell_else (.slice a1 l1.length c1) (r := ⟨w6.heap.size, 1, none⟩) (by dsimp only; omega) rfl rfl R3
          replace R4 := cell_else (.slice a1 l1.length c1) (r := ⟨w6.heap.size, 1, none⟩) (by dsimp only; omega) rfl rfl R4
          replace R5 := cell_else (.slice a1 l1.length c1) (r := ⟨w6.heap.size, 1, none⟩) (by dsimp only; omega) rfl rfl R5
          replace Y_0 := cell_else (.slice a1 l1.length c1) (r := ⟨w6.heap.size, 1, none⟩) (by dsimp only; omega) rfl rfl Y_0
          replace Y_1 := cell_else (.slice a1 l1.length c1) (r := ⟨w6.heap.size, 1, none⟩) (by dsimp only; omega) rfl rfl Y_1
          replace Y_2 := cell_else (.slice a1 l1.length c1) (r := ⟨w6.heap.size, 1, none⟩) (by dsimp only; omega) rfl rfl Y_2
          replace Y_3 := cell_else (.slice a1 l1.length c1) (r := ⟨w6.heap.size, 1, none⟩) (by dsimp only; omega) rfl rfl Y_3
          replace Y_4 := cell_else (.slice a1 l1.length c1) (r := ⟨w6.heap.size, 1, none⟩) (by dsimp only; omega) rfl rfl Y_4
          replace Y_5 := cell_else (.slice a1 l1.length c1) (r := ⟨w6.heap.size, 1, none⟩) (by dsimp only; omega) rfl rfl Y_5
          replace X_0 := cell_else (.slice a1 l1.length c1) (r := ⟨w6.heap.size, 1, none⟩) (by dsimp only; omega) rfl rfl X_0
          replace X_2 := cell_else (.slice a1 l1.length c1) (r := ⟨w6.heap.size, 1, none⟩) (by dsimp only; omega) rfl rfl X_2
          replace X_3 := cell_else (.slice a1 l1.length c1) (r := ⟨w6.heap.size, 1, none⟩) (by dsimp only; omega) rfl rfl X_3
          replace X_4 := cell_else (.slice a1 l1.length c1) (r := ⟨w6.heap.size, 1, none⟩) (by dsimp only; omega) rfl rfl X_4
          replace X_5 := cell_else (.slice a1 l1.length c1) (r := ⟨w6.heap.size, 1, none⟩) (by dsimp only; omega) rfl rfl X_5
          replace Rf0 : (ws10.setCell ⟨w6.heap.size, 1, none⟩ (.slice a1 l1.length c1)).frozen? _ = false := (frozen_set _ _ _ _ _).trans Rf0
          replace Rf1 : (ws10.setCell ⟨w6.heap.size, 1, none⟩ (.slice a1 l1.length c1)).frozen? _ = false := (frozen_set _ _ _ _ _).trans Rf1
          replace Rf2 : (ws10.setCell ⟨w6.heap.size, 1, none⟩ (.slice a1 l1.length c1)).frozen? _ = false := (frozen_set _ _ _ _ _).trans Rf2
          replace Rf3 : (ws10.setCell ⟨w6.heap.size, 1, none⟩ (.slice a1 l1.length c1)).frozen? _ = false := (frozen_set _ _ _ _ _).trans Rf3
          replace Rf4 : (ws10.setCell ⟨w6.heap.size, 1, none⟩ (.slice a1 l1.length c1)).frozen? _ = false := (frozen_set _ _ _ _ _).trans Rf4
          replace Rf5 : (ws10.setCell ⟨w6.heap.size, 1, none⟩ (.slice a1 l1.length c1)).frozen? _ = false := (frozen_set _ _ _ _ _).trans Rf5
          replace Y_f0 : (ws10.setCell ⟨w6.heap.size, 1, none⟩ (.slice a1 l1.length c1)).frozen? _ = false := (frozen_set _ _ _ _ _).trans Y_f0
          replace Y_f1 : (ws10.setCell ⟨w6.heap.size, 1, none⟩ (.slice a1 l1.length c1)).frozen? _ = false := (frozen_set _ _ _ _ _).trans Y_f1
          replace Y_f2 : (ws10.setCell ⟨w6.heap.size, 1, none⟩ (.slice a1 l1.length c1)).frozen? _ = false := (frozen_set _ _ _ _ _).trans Y_f2
          replace Y_f3 : (ws10.setCell ⟨w6.heap.size, 1, none⟩ (.slice a1 l1.length c1)).frozen? _ = false := (frozen_set _ _ _ _ _).trans Y_f3
          replace Y_f4 : (ws10.setCell ⟨w6.heap.size, 1, none⟩ (.slice a1 l1.length c1)).frozen? _ = false := (frozen_set _ _ _ _ _).trans Y_f4
          replace Y_f5 : (ws10.setCell ⟨w6.heap.size, 1, none⟩ (.slice a1 l1.length c1)).frozen? _ = false := (frozen_set _ _ _ _ _).trans Y_f5
          replace X_f0 : (ws10.setCell ⟨w6.heap.size, 1, none⟩ (.slice a1 l1.length c1)).frozen? _ = false := (frozen_set _ _ _ _ _).trans X_f0
          replace X_f1 : (ws10.setCell ⟨w6.heap.size, 1, none⟩ (.slice a1 l1.length c1)).frozen? _ = false := (frozen_set _ _ _ _ _).trans X_f1
          replace X_f2 : (ws10.setCell ⟨w6.heap.size, 1, none⟩ (.slice a1 l1.length c1)).frozen? _ = false := (frozen_set _ _ _ _ _).trans X_f2
          replace X_f3 : (ws10.setCell ⟨w6.heap.size, 1, none⟩ (.slice a1 l1.length c1)).frozen? _ = false := (frozen_set _ _ _ _ _).trans X_f3
          replace X_f4 : (ws10.setCell ⟨w6.heap.size, 1, none⟩ (.slice a1 l1.length c1)).frozen? _ = false := (frozen_set _ _ _ _ _).trans X_f4
          replace X_f5 : (ws10.setCell ⟨w6.heap.size, 1, none⟩ (.slice a1 l1.length c1)).frozen? _ = false := (frozen_set _ _ _ _ _).trans X_f5
          replace X_1 : (ws10.setCell ⟨w6.heap.size, 1, none⟩ (.slice a1 l1.length c1)).cell? ⟨w6.heap.size, 1, none⟩ = some (.slice a1 l1.length c1) := cell_on _ _ _ _ _ X_1
          replace kw := kw.setNew (p := ⟨w6.heap.size, 1, none⟩) (by dsimp only; omega) (.slice a1 l1.length c1)
          replace K := hide ((unhide K).setNew (p := ⟨w6.heap.size, 1, none⟩) (by dsimp only; omega) (.slice a1 l1.length c1))
          have zs11 : (ws10.setCell ⟨w6.heap.size, 1, none⟩ (.slice a1 l1.length c1)).heap.size = ws10.heap.size := by simp [World.setCell]
          clear sS0
          generalize ws10.setCell ⟨w6.heap.size, 1, none⟩ (.slice a1 l1.length c1) = ws11 at *
          have sS0 := unhide S0
          replace r1 := r1.set_other (p := ⟨w6.heap.size, 2, none⟩) (by dsimp only; omega) (.int .i64 e1)
          replace r2 := r2.set_other (p := ⟨w6.heap.size, 2, none⟩) (by dsimp only; omega) (.int .i64 e1)
          replace r3 := r3.set_other (p := ⟨w6.heap.size, 2, none⟩) (by dsimp only; omega) (.int .i64 e1)
          replace r4 := r4.set_other (p := ⟨w6.heap.size, 2, none⟩) (by dsimp only; omega) (.int .i64 e1)
          replace bp0 := cell_else (.int .i64 e1) (r := ⟨w6.heap.size, 2, none⟩) (by dsimp only; omega) rfl rfl bp0
          replace bp1 := cell_else (.int .i64 e1) (r := ⟨w6.heap.size, 2, none⟩) (by dsimp only; omega) rfl rfl bp1
          replace bp2 := cell_else (.int .i64 e1) (r := ⟨w6.heap.size, 2, none⟩) (by dsimp only; omega) rfl rfl bp2
          replace bp3 := cell_else (.int .i64 e1) (r := ⟨w6.heap.size, 2, none⟩) (by dsimp only; omega) rfl rfl bp3
          replace bp4 := cell_else (.int .i64 e1) (r := ⟨w6.heap.size, 2, none⟩) (by dsimp only; omega) rfl rfl bp4
          replace bp5 := cell_else (.int .i64 e1) (r := ⟨w6.heap.size, 2, none⟩) (by dsimp only; omega) rfl rfl bp5
          replace bq0 := cell_else (.int .i64 e1) (r := ⟨w6.heap.size, 2, none⟩) (by dsimp only; omega) rfl rfl bq0
          replace bq1 := cell_else (.int .i64 e1) (r := ⟨w6.heap.size, 2, none⟩) (by dsimp only; omega) rfl rfl bq1
          replace bq2 := cell_else (.int .i64 e1) (r := ⟨w6.heap.size, 2, none⟩) (by dsimp only; omega) rfl rfl bq2
          replace bq3 := cell_else (.int .i64 e1) (r := ⟨w6.heap.size, 2, none⟩) (by dsimp only; omega) rfl rfl bq3
          replace bq4 := cell_else (.int .i64 e1) (r := ⟨w6.heap.size, 2, none⟩) (by dsimp only; omega) rfl rfl bq4
          replace bq5 := cell_else (.int .i64 e1) (r := ⟨w6.heap.size, 2, none⟩) (by dsimp only; omega) rfl rfl bq5
          replace R0 := cell_else (.int .i64 e1) (r := ⟨w6.heap.size, 2, none⟩) (by dsimp only; omega) rfl rfl R0
          replace R1 := cell_else (.int .i64 e1) (r := ⟨w6.heap.size, 2, none⟩) (by dsimp only; omega) rfl rfl R1
          replace R2 := cell_else (.int .i64 e1) (r := ⟨w6.heap.size, 2, none⟩) (by dsimp only; omega) rfl rfl R2
          replace R3 := cell_else (.int .i64 e1) (r := ⟨w6.heap.size, 2, none⟩) (by dsimp only; omega) rfl rfl R3
          replace R4 := cell_else (.int .i64 e1) (r := ⟨w6.heap.size, 2, none⟩) (by dsimp only; omega) rfl rfl R4
          replace R5 := cell_else (.int .i64 e1) (r := ⟨w6.heap.size, 2, none⟩) (by dsimp only; omega) rfl rfl R5
          replace Y_0 := cell_else (.int .i64 e1) (r := ⟨w6.heap.size, 2, none⟩) (by dsimp only; omega) rfl rfl Y_0
          replace Y_1 := cell_else (.int .i64 e1) (r := ⟨w6.heap.size, 2, none⟩) (by dsimp only; omega) rfl rfl Y_1
          replace Y_2 := cell_else (.int .i64 e1) (r := ⟨w6.heap.size, 2, none⟩) (by dsimp only; omega) rfl rfl Y_2
          replace Y_3 := cell_else (.int .i64 e1) (r := ⟨w6.heap.size, 2, none⟩) (by dsimp only; omega) rfl rfl Y_3
          replace Y_4 := cell_else (.int .i64 e1) (r := ⟨w6.heap.size, 2, none⟩) (by dsimp only; omega) rfl rfl Y_4
          replace Y_5 := cell_else (.int .i64 e1) (r := ⟨w6.heap.size, 2, none⟩) (by dsimp only; omega) rfl rfl Y_5
          replace X_0 := cell_else (.int .i64 e1) (r := ⟨w6.heap.size, 2, none⟩) (by dsimp only; omega) rfl rfl X_0
          replace X_1 := cell_else (.int .i64 e1) (r := ⟨w6.heap.size, 2, none⟩) (by dsimp only; omega) rfl rfl X_1
          replace X_3 := cell_else (.int .i64 e1) (r := ⟨w6.heap.size, 2, none⟩) (by dsimp only; omega) rfl rfl X_3
          replace X_4 := cell_else (.int .i64 e1) (r := ⟨w6.heap.size, 2, none⟩) (by dsimp only; omega) rfl rfl X_4
          replace X_5 := cell_else (.int .i64 e1) (r := ⟨w6.heap.size, 2, none⟩) (by dsimp only; omega) rfl rfl X_5
          replace Rf0 : (ws11.setCell ⟨w6.heap.size, 2, none⟩ (.int .i64 e1)).frozen? _ = false := (frozen_set _ _ _ _ _).trans Rf0
          replace Rf1 : (ws11.setCell ⟨w6.heap.size, 2, none⟩ (.int .i64 e1)).frozen? _ = false := (frozen_set _ _ _ _ _).trans Rf1
          replace Rf2 : (ws11.setCell ⟨w6.heap.size, 2, none⟩ (.int .i64 e1)).frozen? _ = false := (frozen_set _ _ _ _ _).trans Rf2
          replace Rf3 : (ws11.setCell ⟨w6.heap.size, 2, none⟩ (.int .i64 e1)).frozen? _ = false := (frozen_set _ _ _ _ _).trans Rf3
          replace Rf4 : (ws11.setCell ⟨w6.heap.size, 2, none⟩ (.int .i64 e1)).frozen? _ = false := (frozen_set _ _ _ _ _).trans Rf4
          replace Rf5 : (ws11.setCell ⟨w6.heap.size, 2, none⟩ (.int .i64 e1)).frozen? _ = false := (frozen_set _ _ _ _ _).trans Rf5
          replace Y_f0 : (ws11.setCell ⟨w6.heap.size, 2, none⟩ (.int .i64 e1)).frozen? _ = false := (frozen_set _ _ _ _ _).trans Y_f0
          replace Y_f1 : (ws11.setCell ⟨w6.heap.size, 2, none⟩ (.int .i64 e1)).frozen? _ = false := (frozen_set _ _ _ _ _).trans Y_f1
          replace Y_f2 : (ws11.setCell ⟨w6.heap.size, 2, none⟩ (.int .i64 e1)).frozen? _ = false := (frozen_set _ _ _ _ _).trans Y_f2
          replace Y_f3 : (ws11.setCell ⟨w6.heap.size, 2, none⟩ (.int .i64 e1)).frozen? _ = false := (frozen_set _ _ _ _ _).trans Y_f3
          replace Y_f4 : (ws11.setCell ⟨w6.heap.size, 2, none⟩ (.int .i64 e1)).frozen? _ = false := (frozen_set _ _ _ _ _).trans Y_f4
          replace Y_f5 : (ws11.setCell ⟨w6.heap.size, 2, none⟩ (.int .i64 e1)).frozen? _ = false := (frozen_set _ _ _ _ _).trans Y_f5
          replace X_f0 : (ws11.setCell ⟨w6.heap.size, 2, none⟩ (.int .i64 e1)).frozen? _ = false := (frozen_set _ _ _ _ _).trans X_f0
          replace X_f1 : (ws11.setCell ⟨w6.heap.size, 2, none⟩ (.int .i64 e1)).frozen? _ = false := (frozen_set _ _ _ _ _).trans X_f1
          replace X_f2 : (ws11.setCell ⟨w6.heap.size, 2, none⟩ (.int .i64 e1)).frozen? _ = false := (frozen_set _ _ _ _ _).trans X_f2
          replace X_f3 : (ws11.setCell ⟨w6.heap.size, 2, none⟩ (.int .i64 e1)).frozen? _ = false := (frozen_set _ _ _ _ _).trans X_f3
          replace X_f4 : (ws11.setCell ⟨w6.heap.size, 2, none⟩ (.int .i64 e1)).frozen? _ = false := (frozen_set _ _ _ _ _).trans X_f4
          replace X_f5 : (ws11.setCell ⟨w6.heap.size, 2, none⟩ (.int .i64 e1)).frozen? _ = false := (frozen_set _ _ _ _ _).trans X_f5
          replace X_2 : (ws11.setCell ⟨w6.heap.size, 2, none⟩ (.int .i64 e1)).cell? ⟨w6.heap.size, 2, none⟩ = some (.int .i64 e1) := cell_on _ _ _ _ _ X_2
          replace kw := kw.setNew (p := ⟨w6.heap.size, 2, none⟩) (by dsimp only; omega) (.int .i64 e1)
          replace K := hide ((unhide K).setNew (p := ⟨w6.heap.size, 2, none⟩) (by dsimp only; omega) (.int .i64 e1))
          have zs12 : (ws11.setCell ⟨w6.heap.size, 2, none⟩ (.int .i64 e1)).heap.size = ws11.heap.size := by simp [World.setCell]
          clear sS0
          generalize ws11.setCell ⟨w6.heap.size, 2, none⟩ (.int .i64 e1) = ws12 at *
          have sS0 := unhide S0
          replace r1 := r1.set_other (p := ⟨w6.heap.size, 3, none⟩) (by dsimp only; omega) (.bool s3)
          replace r2 := r2.set_other (p := ⟨w6.heap.size, 3, none⟩) (by dsimp only; omega) (.bool s3)
          replace r3 := r3.set_other (p := ⟨w6.heap.size, 3, none⟩) (by dsimp only; omega) (.bool s3)
          replace r4 := r4.set_other (p := ⟨w6.heap.size, 3, none⟩) (by dsimp only; omega) (.bool s3)
          replace bp0 := cell_else (.bool s3) (r := ⟨w6.heap.size, 3, none⟩) (by dsimp only; omega) rfl rfl bp0
          replace bp1 := cell_else (.bool s3) (r := ⟨w6.heap.size, 3, none⟩) (by dsimp only; omega) rfl rfl bp1
          replace bp2 := cell_else (.bool s3) (r := ⟨w6.heap.size, 3, none⟩) (by dsimp only; omega) rfl rfl bp2
          replace bp3 := cell_else (.bool s3) (r := ⟨w6.heap.size, 3, none⟩) (by dsimp only; omega) rfl rfl bp3
          replace bp4 := cell_else (.bool s3) (r := ⟨w6.heap.size, 3, none⟩) (by dsimp only; omega) rfl rfl bp4
          replace bp5 := cell_else (.bool s3) (r := ⟨w6.heap.size, 3, none⟩) (by dsimp only; omega) rfl rfl bp5
          replace bq0 := cell_else (.bool s3) (r := ⟨w6.heap.size, 3, none⟩) (by dsimp only; omega) rfl rfl bq0
          replace bq1 := cell_else (.bool s3) (r := ⟨w6.heap.size, 3, none⟩) (by dsimp only; omega) rfl rfl bq1
          replace bq2 := cell_else (.bool s3) (r := ⟨w6.heap.size, 3, none⟩) (by dsimp only; omega) rfl rfl bq2
          replace bq3 := cell_else (.bool s3) (r := ⟨w6.heap.size, 3, none⟩) (by dsimp only; omega) rfl rfl bq3
          replace bq4 := cell_else (.bool s3) (r := ⟨w6.heap.size, 3, none⟩) (by dsimp only; omega) rfl rfl bq4
          replace bq5 := cell_else (.bool s3) (r := ⟨w6.heap.size, 3, none⟩) (by dsimp only; omega) rfl rfl bq5
          replace R0 := cell_else (.bool s3) (r := ⟨w6.heap.size, 3, none⟩) (by dsimp only; omega) rfl rfl R0
          replace R1 := cell_else (.bool s3) (r := ⟨w6.heap.size, 3, none⟩) (by dsimp only; omega) rfl rfl R1
          replace R2 := cell_else (.bool s3) (r := ⟨w6.heap.size, 3, none⟩) (by dsimp only; omega) rfl rfl R2
          replace R3 := cell_else (.bool s3) (r := ⟨w6.heap.size, 3, none⟩) (by dsimp only; omega) rfl rfl R3
          replace R4 := cell_else (.bool s3) (r := ⟨w6.heap.size, 3, none⟩) (by dsimp only; omega) rfl rfl R4
          replace R5 := cell_else (.bool s3) (r := ⟨w6.heap.size, 3, none⟩) (by dsimp only; omega) rfl rfl R5
          replace Y_0 := cell_else (.bool s3) (r := ⟨w6.heap.size, 3, none⟩) (by dsimp only; omega) rfl rfl Y_0
          replace Y_1 := cell_else (.bool s3) (r := ⟨w6.heap.size, 3, none⟩) (by dsimp only; omega) rfl rfl Y_1
          replace Y_2 := cell_else (.bool s3) (r := ⟨w6.heap.size, 3, none⟩) (by dsimp only; omega) rfl rfl Y_2
          replace Y_3 := cell_else (.bool s3) (r := ⟨w6.heap.size, 3, none⟩) (by dsimp only; omega) rfl rfl Y_3
          replace Y_4 := cell_else (.bool s3) (r := ⟨w6.heap.size, 3, none⟩) (by dsimp only; omega) rfl rfl Y_4
          replace Y_5 := cell_else (.bool s3) (r := ⟨w6.heap.size, 3, none⟩) (by dsimp only; omega) rfl rfl Y_5
          replace X_0 := cell_else (.bool s3) (r := ⟨w6.heap.size, 3, none⟩) (by dsimp only; omega) rfl rfl X_0
          replace X_1 := cell_else (.bool s3) (r := ⟨w6.heap.size, 3, none⟩) (by dsimp only; omega) rfl rfl X_1
          replace X_2 := cell_else (.bool s3) (r := ⟨w6.heap.size, 3, none⟩) (by dsimp only; omega) rfl rfl X_2
          replace X_4 := cell_else (.bool s3) (r := ⟨w6.heap.size, 3, none⟩) (by dsimp only; omega) rfl rfl X_4
          replace X_5 := cell_else (.bool s3) (r := ⟨w6.heap.size, 3, none⟩) (by dsimp only; omega) rfl rfl X_5
          replace Rf0 : (ws12.setCell ⟨w6.heap.size, 3, none⟩ (.bool s3)).frozen? _ = false := (frozen_set _ _ _ _ _).trans Rf0
          replace Rf1 : (ws12.setCell ⟨w6.heap.size, 3, none⟩ (.bool s3)).frozen? _ = false := (frozen_set _ _ _ _ _).trans Rf1
          replace Rf2 : (ws12.setCell ⟨w6.heap.size, 3, none⟩ (.bool s3)).frozen? _ = false := (frozen_set _ _ _ _ _).trans Rf2
          replace Rf3 : (ws12.setCell ⟨w6.heap.size, 3, none⟩ (.bool s3)).frozen? _ = false := (frozen_set _ _ _ _ _).trans Rf3
          replace Rf4 : (ws12.setCell ⟨w6.heap.size, 3, none⟩ (.bool s3)).frozen? _ = false := (frozen_set _ _ _ _ _).trans Rf4
          replace Rf5 : (ws12.setCell ⟨w6.heap.size, 3, none⟩ (.bool s3)).frozen? _ = false := (frozen_set _ _ _ _ _).trans Rf5
          replace Y_f0 : (ws12.setCell ⟨w6.heap.size, 3, none⟩ (.bool s3)).frozen? _ = false := (frozen_set _ _ _ _ _).trans Y_f0
          replace Y_f1 : (ws12.setCell ⟨w6.heap.size, 3, none⟩ (.bool s3)).frozen? _ = false := (frozen_set _ _ _ _ _).trans Y_f1
          replace Y_f2 : (ws12.setCell ⟨w6.heap.size, 3, none⟩ (.bool s3)).frozen? _ = false := (frozen_set _ _ _ _ _).trans Y_f2
          replace Y_f3 : (ws12.setCell ⟨w6.heap.size, 3, none⟩ (.bool s3)).frozen? _ = false := (frozen_set _ _ _ _ _).trans Y_f3
          replace Y_f4 : (ws12.setCell ⟨w6.heap.size, 3, none⟩ (.bool s3)).frozen? _ = false := (frozen_set _ _ _ _ _).trans Y_f4
          replace Y_f5 : (ws12.setCell ⟨w6.heap.size, 3, none⟩ (.bool s3)).frozen? _ = false := (frozen_set _ _ _ _ _).trans Y_f5
          replace X_f0 : (ws12.setCell ⟨w6.heap.size, 3, none⟩ (.bool s3)).frozen? _ = false := (frozen_set _ _ _ _ _).trans X_f0
          replace X_f1 : (ws12.setCell ⟨w6.heap.size, 3, none⟩ (.bool s3)).frozen? _ = false := (frozen_set _ _ _ _ _).trans X_f1
          replace X_f2 : (ws12.setCell ⟨w6.heap.size, 3, none⟩ (.bool s3)).frozen? _ = false := (frozen_set _ _ _ _ _).trans X_f2
          replace X_f3 : (ws12.setCell ⟨w6.heap.size, 3, none⟩ (.bool s3)).frozen? _ = false := (frozen_set _ _ _ _ _).trans X_f3
          replace X_f4 : (ws12.setCell ⟨w6.heap.size, 3, none⟩ (.bool s3)).frozen? _ = false := (frozen_set _ _ _ _ _).trans X_f4
          replace X_f5 : (ws12.setCell ⟨w6.heap.size, 3, none⟩ (.bool s3)).frozen? _ = false := (frozen_set _ _ _ _ _).trans X_f5
          replace X_3 : (ws12.setCell ⟨w6.heap.size, 3, none⟩ (.bool s3)).cell? ⟨w6.heap.size, 3, none⟩ = some (.bool s3) := cell_on _ _ _ _ _ X_3
          replace kw := kw.setNew (p := ⟨w6.heap.size, 3, none⟩) (by dsimp only; omega) (.bool s3)
          replace K := hide ((unhide K).setNew (p := ⟨w6.heap.size, 3, none⟩) (by dsimp only; omega) (.bool s3))
          have zs13 : (ws12.setCell ⟨w6.heap.size, 3, none⟩ (.bool s3)).heap.size = ws12.heap.size := by simp [World.setCell]
          clear sS0
          generalize ws12.setCell ⟨w6.heap.size, 3, none⟩ (.bool s3) = ws13 at *
          have sS0 := unhide S0
          replace r1 := r1.set_other (p := ⟨w6.heap.size, 4, none⟩) (by dsimp only; omega) (.slice a3 l3.length c3)
          replace r2 := r2.set_other (p := ⟨w6.heap.size, 4, none⟩) (by dsimp only; omega) (.slice a3 l3.length c3)
          replace r3 := r3.set_other (p := ⟨w6.heap.size, 4, none⟩) (by dsimp only; omega) (.slice a3 l3.length c3)
          replace r4 := r4.set_other (p := ⟨w6.heap.size, 4, none⟩) (by dsimp only; omega) (.slice a3 l3.length c3)
          replace bp0 := cell_else (.slice a3 l3.length c3) (r := ⟨w6.heap.size, 4, none⟩) (by dsimp only; omega) rfl rfl bp0
          replace bp1 := cell_else (.slice a3 l3.length c3) (r := ⟨w6.heap.size, 4, none⟩) (by dsimp only; omega) rfl rfl bp1
          replace bp2 := cell_else (.slice a3 l3.length c3) (r := ⟨w6.heap.size, 4, none⟩) (by dsimp only; omega) rfl rfl bp2
          replace bp3 := cell_else (.slice a3 l3.length c3) (r := ⟨w6.heap.size, 4, none⟩) (by dsimp only; omega) rfl rfl bp3
          replace bp4 := cell_else (.slice a3 l3.length c3) (r := ⟨w6.heap.size, 4, none⟩) (by dsimp only; omega) rfl rfl bp4
          replace bp5 := cell_else (.slice a3 l3.length c3) (r := ⟨w6.heap.size, 4, none⟩) (by dsimp only; omega) rfl rfl bp5
          replace bq0 := cell_else (.slice a3 l3.length c3) (r := ⟨w6.heap.size, 4, none⟩) (by dsimp only; omega) rfl rfl bq0
          replace bq1 := cell_else (.slice a3 l3.length c3) (r := ⟨w6.heap.size, 4, none⟩) (by dsimp only; omega) rfl rfl bq1
          replace bq2 := cell_else (.slice a3 l3.length c3) (r := ⟨w6.heap.size, 4, none⟩) (by dsimp only; omega) rfl rfl bq2
          replace bq3 := cell_else (.slice a3 l3.length c3) (r := ⟨w6.heap.size, 4, none⟩) (by dsimp only; omega) rfl rfl bq3
          replace bq4 := cell_else (.slice a3 l3.length c3) (r := ⟨w6.heap.size, 4, none⟩) (by dsimp only; omega) rfl rfl bq4
          replace bq5 := cell_else (.slice a3 l3.length c3) (r := ⟨w6.heap.size, 4, none⟩) (by dsimp only; omega) rfl rfl bq5
          replace R0 := cell_else (.slice a3 l3.length c3) (r := ⟨w6.heap.size, 4, none⟩) (by dsimp only; omega) rfl rfl R0
          replace R1 := cell_else (.slice a3 l3.length c3) (r := ⟨w6.heap.size, 4, none⟩) (by dsimp only; omega) rfl rfl R1
          replace R2 := cell_else (.slice a3 l3.length c3) (r := ⟨w6.heap.size, 4, none⟩) (by dsimp only; omega) rfl rfl R2
          replace R3 := cell_else (.slice a3 l3.length c3) (r := ⟨w6.heap.size, 4, none⟩) (by dsimp only; omega) rfl rfl R3
          replace R4 := cell_else (.slice a3 l3.length c3) (r := ⟨w6.heap.size, 4, none⟩) (by dsimp only; omega) rfl rfl R4
          replace R5 := cell_else (.slice a3 l3.length c3) (r := ⟨w6.heap.size, 4, none⟩) (by dsimp only; omega) rfl rfl R5
          replace Y_0 := cell_else (.slice a3 l3.length c3) (r := ⟨w6.heap.size, 4, none⟩) (by dsimp only; omega) rfl rfl Y_0
          replace Y_1 := cell_else (.slice a3 l3.length c3) (r := ⟨w6.heap.size, 4, none⟩) (by dsimp only; omega) rfl rfl Y_1
          replace Y_2 := cell_else (.slice a3 l3.length c3) (r := ⟨w6.heap.size, 4, none⟩) (by dsimp only; omega) rfl rfl Y_2
          replace Y_3 := cell_else (.slice a3 l3.length c3) (r := ⟨w6.heap.size, 4, none⟩) (by dsimp only; omega) rfl rfl Y_3
          replace Y_4 := cell_else (.slice a3 l3.length c3) (r := ⟨w6.heap.size, 4, none⟩) (by dsimp only; omega) rfl rfl Y_4
          replace Y_5 := cell_else (.slice a3 l3.length c3) (r := ⟨w6.heap.size, 4, none⟩) (by dsimp only; omega) rfl rfl Y_5
          replace X_0 := cell_else (.slice a3 l3.length c3) (r := ⟨w6.heap.size, 4, none⟩) (by dsimp only; omega) rfl rfl X_0
          replace X_1 := cell_else (.slice a3 l3.length c3) (r := ⟨w6.heap.size, 4, none⟩) (by dsimp only; omega) rfl rfl X_1
          replace X_2 := cell_else (.slice a3 l3.length c3) (r := ⟨w6.heap.size, 4, none⟩) (by dsimp only; omega) rfl rfl X_2
          replace X_3 := cell_else (.slice a3 l3.length c3) (r := ⟨w6.heap.size, 4, none⟩) (by dsimp only; omega) rfl rfl X_3
          replace X_5 := cell_else (.slice a3 l3.length c3) (r := ⟨w6.heap.size, 4, none⟩) (by dsimp only; omega) rfl rfl X_5
          replace Rf0 : (ws13.setCell ⟨w6.heap.size, 4, none⟩ (.slice a3 l3.length c3)).frozen? _ = false := (frozen_set _ _ _ _ _).trans Rf0
          replace Rf1 : (ws13.setCell ⟨w6.heap.size, 4, none⟩ (.slice a3 l3.length c3)).frozen? _ = false := (frozen_set _ _ _ _ _).trans Rf1
          replace Rf2 : (ws13.setCell ⟨w6.heap.size, 4, none⟩ (.slice a3 l3.length c3)).frozen? _ = false := (frozen_set _ _ _ _ _).trans Rf2
          replace Rf3 : (ws13.setCell ⟨w6.heap.size, 4, none⟩ (.slice a3 l3.length c3)).frozen? _ = false := (frozen_set _ _ _ _ _).trans Rf3
          replace Rf4 : (ws13.setCell ⟨w6.heap.size, 4, none⟩ (.slice a3 l3.length c3)).frozen? _ = false := (frozen_set _ _ _ _ _).trans Rf4
          replace Rf5 : (ws13.setCell ⟨w6.heap.size, 4, none⟩ (.slice a3 l3.length c3)).frozen? _ = false := (frozen_set _ _ _ _ _).trans Rf5
          replace Y_f0 : (ws13.setCell ⟨w6.heap.size, 4, none⟩ (.slice a3 l3.length c3)).frozen? _ = false := (frozen_set _ _ _ _ _).trans Y_f0
          replace Y_f1 : (ws13.setCell ⟨w6.heap.size, 4, none⟩ (.slice a3 l3.length c3)).frozen? _ = false := (frozen_set _ _ _ _ _).trans Y_f1
          replace Y_f2 : (ws13.setCell ⟨w6.heap.size, 4, none⟩ (.slice a3 l3.length c3)).frozen? _ = false := (frozen_set _ _ _ _ _).trans Y_f2
          replace Y_f3 : (ws13.setCell ⟨w6.heap.size, 4, none⟩ (.slice a3 l3.length c3)).frozen? _ = false := (frozen_set _ _ _ _ _).trans Y_f3
          replace Y_f4 : (ws13.setCell ⟨w6.heap.size, 4, none⟩ (.slice a3 l3.length c3)).frozen? _ = false := (frozen_set _ _ _ _ _).trans Y_f4
          replace Y_f5 : (ws13.setCell ⟨w6.heap.size, 4, none⟩ (.slice a3 l3.length c3)).frozen? _ = false := (frozen_set _ _ _ _ _).trans Y_f5
          replace X_f0 : (ws13.setCell ⟨w6.heap.size, 4, none⟩ (.slice a3 l3.length c3)).frozen? _ = false := (frozen_set _ _ _ _ _).trans X_f0
          replace X_f1 : (ws13.setCell ⟨w6.heap.size, 4, none⟩ (.slice a3 l3.length c3)).frozen? _ = false := (frozen_set _ _ _ _ _).trans X_f1
          replace X_f2 : (ws13.setCell ⟨w6.heap.size, 4, none⟩ (.slice a3 l3.length c3)).frozen? _ = false := (frozen_set _ _ _ _ _).trans X_f2
          replace X_f3 : (ws13.setCell ⟨w6.heap.size, 4, none⟩ (.slice a3 l3.length c3)).frozen? _ = false := (frozen_set _ _ _ _ _).trans X_f3
          replace X_f4 : (ws13.setCell ⟨w6.heap.size, 4, none⟩ (.slice a3 l3.length c3)).frozen? _ = false := (frozen_set _ _ _ _ _).trans X_f4
          replace X_f5 : (ws13.setCell ⟨w6.heap.size, 4, none⟩ (.slice a3 l3.length c3)).frozen? _ = false := (frozen_set _ _ _ _ _).trans X_f5
          replace X_4 : (ws13.setCell ⟨w6.heap.size, 4, none⟩ (.slice a3 l3.length c3)).cell? ⟨w6.heap.size, 4, none⟩ = some (.slice a3 l3.length c3) := cell_on _ _ _ _ _ X_4
          replace kw := kw.setNew (p := ⟨w6.heap.size, 4, none⟩) (by dsimp only; omega) (.slice a3 l3.length c3)
          replace K := hide ((unhide K).setNew (p := ⟨w6.heap.size, 4, none⟩) (by dsimp only; omega) (.slice a3 l3.length c3))
          have zs14 : (ws13.setCell ⟨w6.heap.size, 4, none⟩ (.slice a3 l3.length c3)).heap.size = ws13.heap.size := by simp [World.setCell]
          clear sS0
          generalize ws13.setCell ⟨w6.heap.size, 4, none⟩ (.slice a3 l3.length c3) = ws14 at *
          have sS0 := unhide S0
          replace r1 := r1.set_other (p := ⟨w6.heap.size, 5, none⟩) (by dsimp only; omega) (.int .i64 e3)
          replace r2 := r2.set_other (p := ⟨w6.heap.size, 5, none⟩) (by dsimp only; omega) (.int .i64 e3)
          replace r3 := r3.set_other (p := ⟨w6.heap.size, 5, none⟩) (by dsimp only; omega) (.int .i64 e3)
          replace r4 := r4.set_other (p := ⟨w6.heap.size, 5, none⟩) (by dsimp only; omega) (.int .i64 e3)
          replace bp0 := cell_else (.int .i64 e3) (r := ⟨w6.heap.size, 5, none⟩) (by dsimp only; omega) rfl rfl bp0
          replace bp1 := cell_else (.int .i64 e3) (r := ⟨w6.heap.size, 5, none⟩) (by dsimp only; omega) rfl rfl bp1
          replace bp2 := cell_else (.int .i64 e3) (r := ⟨w6.heap.size, 5, none⟩) (by dsimp only; omega) rfl rfl bp2
          replace bp3 := cell_else (.int .i64 e3) (r := ⟨w6.heap.size, 5, none⟩) (by dsimp only; omega) rfl rfl bp3
          replace bp4 := cell_else (.int .i64 e3) (r := ⟨w6.heap.size, 5, none⟩) (by dsimp only; omega) rfl rfl bp4
          replace bp5 := cell_else (.int .i64 e3) (r := ⟨w6.heap.size, 5, none⟩) (by dsimp only; omega) rfl rfl bp5
          replace bq0 := cell_else (.int .i64 e3) (r := ⟨w6.heap.size, 5, none⟩) (by dsimp only; omega) rfl rfl bq0
          replace bq1 := cell_else (.int .i64 e3) (r := ⟨w6.heap.size, 5, none⟩) (by dsimp only; omega) rfl rfl bq1
          replace bq2 := cell_else (.int .i64 e3) (r := ⟨w6.heap.size, 5, none⟩) (by dsimp only; omega) rfl rfl bq2
          replace bq3 := cell_else (.int .i64 e3) (r := ⟨w6.heap.size, 5, none⟩) (by dsimp only; omega) rfl rfl bq3
          replace bq4 := cell_else (.int .i64 e3) (r := ⟨w6.heap.size, 5, none⟩) (by dsimp only; omega) rfl rfl bq4
          replace bq5 := cell_else (.int .i64 e3) (r := ⟨w6.heap.size, 5, none⟩) (by dsimp only; omega) rfl rfl bq5
          replace R0 := cell_else (.int .i64 e3) (r := ⟨w6.heap.size, 5, none⟩) (by dsimp only; omega) rfl rfl R0
          replace R1 := cell_else (.int .i64 e3) (r := ⟨w6.heap.size, 5, none⟩) (by dsimp only; omega) rfl rfl R1
          replace R2 := cell_else (.int .i64 e3) (r := ⟨w6.heap.size, 5, none⟩) (by dsimp only; omega) rfl rfl R2
          replace R3 := cell_else (.int .i64 e3) (r := ⟨w6.heap.size, 5, none⟩) (by dsimp only; omega) rfl rfl R3
          replace R4 := cell_else (.int .i64 e3) (r := ⟨w6.heap.size, 5, none⟩) (by dsimp only; omega) rfl rfl R4
          replace R5 := cell_else (.int .i64 e3) (r := ⟨w6.heap.size, 5, none⟩) (by dsimp only; omega) rfl rfl R5
          replace Y_0 := cell_else (.int .i64 e3) (r := ⟨w6.heap.size, 5, none⟩) (by dsimp only; omega) rfl rfl Y_0
          replace Y_1 := cell_else (.int .i64 e3) (r := ⟨w6.heap.size, 5, none⟩) (by dsimp only; omega) rfl rfl Y_1
          replace Y_2 := cell_else (.int .i64 e3) (r := ⟨w6.heap.size, 5, none⟩) (by dsimp only; omega) rfl rfl Y_2
          replace Y_3 := cell_else (.int .i64 e3) (r := ⟨w6.heap.size, 5, none⟩) (by dsimp only; omega) rfl rfl Y_3
          replace Y_4 := cell_else (.int .i64 e3) (r := ⟨w6.heap.size, 5, none⟩) (by dsimp only; omega) rfl rfl Y_4
          replace Y_5 := cell_else (.int .i64 e3) (r := ⟨w6.heap.size, 5, none⟩) (by dsimp only; omega) rfl rfl Y_5
          replace X_0 := cell_else (.int .i64 e3) (r := ⟨w6.heap.size, 5, none⟩) (by dsimp only; omega) rfl rfl X_0
          replace X_1 := cell_else (.int .i64 e3) (r := ⟨w6.heap.size, 5, none⟩) (by dsimp only; omega) rfl rfl X_1
          replace X_2 := cell_else (.int .i64 e3) (r := ⟨w6.heap.size, 5, none⟩) (by dsimp only; omega) rfl rfl X_2
          replace X_3 := cell_else (.int .i64 e3) (r := ⟨w6.heap.size, 5, none⟩) (by dsimp only; omega) rfl rfl X_3
          replace X_4 := cell_else (.int .i64 e3) (r := ⟨w6.heap.size, 5, none⟩) (by dsimp only; omega) rfl rfl X_4
          replace Rf0 : (ws14.setCell ⟨w6.heap.size, 5, none⟩ (.int .i64 e3)).frozen? _ = false := (frozen_set _ _ _ _ _).trans Rf0
          replace Rf1 : (ws14.setCell ⟨w6.heap.size, 5, none⟩ (.int .i64 e3)).frozen? _ = false := (frozen_set _ _ _ _ _).trans Rf1
          replace Rf2 : (ws14.setCell ⟨w6.heap.size, 5, none⟩ (.int .i64 e3)).frozen? _ = false := (frozen_set _ _ _ _ _).trans Rf2
          replace Rf3 : (ws14.setCell ⟨w6.heap.size, 5, none⟩ (.int .i64 e3)).frozen? _ = false := (frozen_set _ _ _ _ _).trans Rf3
          replace Rf4 : (ws14.setCell ⟨w6.heap.size, 5, none⟩ (.int .i64 e3)).frozen? _ = false := (frozen_set _ _ _ _ _).trans Rf4
          replace Rf5 : (ws14.setCell ⟨w6.heap.size, 5, none⟩ (.int .i64 e3)).frozen? _ = false := (frozen_set _ _ _ _ _).trans Rf5
          replace Y_f0 : (ws14.setCell ⟨w6.heap.size, 5, none⟩ (.int .i64 e3)).frozen? _ = false := (frozen_set _ _ _ _ _).trans Y_f0
          replace Y_f1 : (ws14.setCell ⟨w6.heap.size, 5, none⟩ (.int .i64 e3)).frozen? _ = false := (frozen_set _ _ _ _ _).trans Y_f1
          replace Y_f2 : (ws14.setCell ⟨w6.heap.size, 5, none⟩ (.int .i64 e3)).frozen? _ = false := (frozen_set _ _ _ _ _).trans Y_f2
          replace Y_f3 : (ws14.setCell ⟨w6.heap.size, 5, none⟩ (.int .i64 e3)).frozen? _ = false := (frozen_set _ _ _ _ _).trans Y_f3
          replace Y_f4 : (ws14.setCell ⟨w6.heap.size, 5, none⟩ (.int .i64 e3)).frozen? _ = false := (frozen_set _ _ _ _ _).trans Y_f4
          replace Y_f5 : (ws14.setCell ⟨w6.heap.size, 5, none⟩ (.int .i64 e3)).frozen? _ = false := (frozen_set _ _ _ _ _).trans Y_f5
          replace X_f0 : (ws14.setCell ⟨w6.heap.size, 5, none⟩ (.int .i64 e3)).frozen? _ = false := (frozen_set _ _ _ _ _).trans X_f0
          replace X_f1 : (ws14.setCell ⟨w6.heap.size, 5, none⟩ (.int .i64 e3)).frozen? _ = false := (frozen_set _ _ _ _ _).trans X_f1
          replace X_f2 : (ws14.setCell ⟨w6.heap.size, 5, none⟩ (.int .i64 e3)).frozen? _ = false := (frozen_set _ _ _ _ _).trans X_f2
          replace X_f3 : (ws14.setCell ⟨w6.heap.size, 5, none⟩ (.int .i64 e3)).frozen? _ = false := (frozen_set _ _ _ _ _).trans X_f3
          replace X_f4 : (ws14.setCell ⟨w6.heap.size, 5, none⟩ (.int .i64 e3)).frozen? _ = false := (frozen_set _ _ _ _ _).trans X_f4
          replace X_f5 : (ws14.setCell ⟨w6.heap.size, 5, none⟩ (.int .i64 e3)).frozen? _ = false := (frozen_set _ _ _ _ _).trans X_f5
          replace X_5 : (ws14.setCell ⟨w6.heap.size, 5, none⟩ (.int .i64 e3)).cell? ⟨w6.heap.size, 5, none⟩ = some (.int .i64 e3) := cell_on _ _ _ _ _ X_5
          replace kw := kw.setNew (p := ⟨w6.heap.size, 5, none⟩) (by dsimp only; omega) (.int .i64 e3)
          replace K := hide ((unhide K).setNew (p := ⟨w6.heap.size, 5, none⟩) (by dsimp only; omega) (.int .i64 e3))
          have zs15 : (ws14.setCell ⟨w6.heap.size, 5, none⟩ (.int .i64 e3)).heap.size = ws14.heap.size := by simp [World.setCell]
          clear sS0
          generalize ws14.setCell ⟨w6.heap.size, 5, none⟩ (.int .i64 e3) = ws15 at *
          refine wpAnyH_ready (rs := [13]) (by kernel_rfl) (by simp) ?_
          refine AllReadyH.cons rfl (fun KK hK => ?_) AllReadyH.nil
          · simp only [List.getElem_toArray, List.getElem_cons_succ, List.getElem_cons_zero]
            rw [if_pos (by rfl)]
            go_simp
            clear hHeld
            refine hK.out _ _ ?_ (fun hHeld => ?_)
            · exact ⟨(cell_aside _ (by have := unhide S0; dsimp only; omega) (cell_aside _ (by have := unhide S0; dsimp only; omega) (cell_aside _ (by have := unhide S0; dsimp only; omega) (cell_aside _ (by have := unhide S0; dsimp only; omega) (cell_aside _ (by have := unhide S0; dsimp only; omega) (cell_aside _ (by have := unhide S0; dsimp only; omega) bp0)))))), (cell_aside _ (by have := unhide S0; dsimp only; omega) (cell_aside _ (by have := unhide S0; dsimp only; omega) (cell_aside _ (by have := unhide S0; dsimp only; omega) (cell_aside _ (by have := unhide S0; dsimp only; omega) (cell_aside _ (by have := unhide S0; dsimp only; omega) (cell_aside _ (by have := unhide S0; dsimp only; omega) bp1)))))), (cell_aside _ (by have := unhide S0; dsimp only; omega) (cell_aside _ (by have := unhide S0; dsimp only; omega) (cell_aside _ (by have := unhide S0; dsimp only; omega) (cell_aside _ (by have := unhide S0; dsimp only; omega) (cell_aside _ (by have := unhide S0; dsimp only; omega) (cell_aside _ (by have := unhide S0; dsimp only; omega) bp2)))))), (cell_aside _ (by have := unhide S0; dsimp only; omega) (cell_aside _ (by have := unhide S0; dsimp only; omega) (cell_aside _ (by have := unhide S0; dsimp only; omega) (cell_aside _ (by have := unhide S0; dsimp only; omega) (cell_aside _ (by have := unhide S0; dsimp only; omega) (cell_aside _ (by have := unhide S0; dsimp only; omega) bp3)))))), (cell_aside _ (by have := unhide S0; dsimp only; omega) (cell_aside _ (by have := unhide S0; dsimp only; omega) (cell_aside _ (by have := unhide S0; dsimp only; omega) (cell_aside _ (by have := unhide S0; dsimp only; omega) (cell_aside _ (by have := unhide S0; dsimp only; omega) (cell_aside _ (by have := unhide S0; dsimp only; omega) bp4)))))), (cell_aside _ (by have := unhide S0; dsimp only; omega) (cell_aside _ (by have := unhide S0; dsimp only; omega) (cell_aside _ (by have := unhide S0; dsimp only; omega) (cell_aside _ (by have := unhide S0; dsimp only; omega) (cell_aside _ (by have := unhide S0; dsimp only; omega) (cell_aside _ (by have := unhide S0; dsimp only; omega) bp5)))))), (cell_aside _ (by have := unhide S0; dsimp only; omega) (cell_aside _ (by have := unhide S0; dsimp only; omega) (cell_aside _ (by have := unhide S0; dsimp only; omega) (cell_aside _ (by have := unhide S0; dsimp only; omega) (cell_aside _ (by have := unhide S0; dsimp only; omega) (cell_aside _ (by have := unhide S0; dsimp only; omega) bq0)))))), (cell_aside _ (by have := unhide S0; dsimp only; omega) (cell_aside _ (by have := unhide S0; dsimp only; omega) (cell_aside _ (by have := unhide S0; dsimp only; omega) (cell_aside _ (by have := unhide S0; dsimp only; omega) (cell_aside _ (by have := unhide S0; dsimp only; omega) (cell_aside _ (by have := unhide S0; dsimp only; omega) bq1)))))), (cell_aside _ (by have := unhide S0; dsimp only; omega) (cell_aside _ (by have := unhide S0; dsimp only; omega) (cell_aside _ (by have := unhide S0; dsimp only; omega) (cell_aside _ (by have := unhide S0; dsimp only; omega) (cell_aside _ (by have := unhide S0; dsimp only; omega) (cell_aside _ (by have := unhide S0; dsimp only; omega) bq2)))))), (cell_aside _ (by have := unhide S0; dsimp only; omega) (cell_aside _ (by have := unhide S0; dsimp only; omega) (cell_aside _ (by have := unhide S0; dsimp only; omega) (cell_aside _ (by have := unhide S0; dsimp only; omega) (cell_aside _ (by have := unhide S0; dsimp only; omega) (cell_aside _ (by have := unhide S0; dsimp only; omega) bq3)))))), (cell_aside _ (by have := unhide S0; dsimp only; omega) (cell_aside _ (by have := unhide S0; dsimp only; omega) (cell_aside _ (by have := unhide S0; dsimp only; omega) (cell_aside _ (by have := unhide S0; dsimp only; omega) (cell_aside _ (by have := unhide S0; dsimp only; omega) (cell_aside _ (by have := unhide S0; dsimp only; omega) bq4)))))), (cell_aside _ (by have := unhide S0; dsimp only; omega) (cell_aside _ (by have := unhide S0; dsimp only; omega) (cell_aside _ (by have := unhide S0; dsimp only; omega) (cell_aside _ (by have := unhide S0; dsimp only; omega) (cell_aside _ (by have := unhide S0; dsimp only; omega) (cell_aside _ (by have := unhide S0; dsimp only; omega) bq5))))))⟩
            clear hK KK
            try simp only [Act.put, List.getElem_toArray, List.getElem_cons_succ, List.getElem_cons_zero, List.setIfInBounds_toArray, List.set_cons_zero, List.set_cons_succ]
            have sS0 := unhide S0
            replace r1 := r1.set_other (p := ⟨wd.heap.size, 0, none⟩) (by dsimp only; omega) (.bool s2)
            replace r2 := r2.set_other (p := ⟨wd.heap.size, 0, none⟩) (by dsimp only; omega) (.bool s2)
            replace r3 := r3.set_other (p := ⟨wd.heap.size, 0, none⟩) (by dsimp only; omega) (.bool s2)
            replace r4 := r4.set_other (p := ⟨wd.heap.size, 0, none⟩) (by dsimp only; omega) (.bool s2)
            replace bp0 := cell_else (.bool s2) (r := ⟨wd.heap.size, 0, none⟩) (by dsimp only; omega) rfl rfl bp0
            replace bp1 := cell_else (.bool s2) (r := ⟨wd.heap.size, 0, none⟩) (by dsimp only; omega) rfl rfl bp1
            replace bp2 := cell_else (.bool s2) (r := ⟨wd.heap.size, 0, none⟩) (by dsimp only; omega) rfl rfl bp2
            replace bp3 := cell_else (.bool s2) (r := ⟨wd.heap.size, 0, none⟩) (by dsimp only; omega) rfl rfl bp3
            replace bp4 := cell_else (.bool s2) (r := ⟨wd.heap.size, 0, none⟩) (by dsimp only; omega) rfl rfl bp4
            replace bp5 := cell_else (.bool s2) (r := ⟨wd.heap.size, 0, none⟩) (by dsimp only; omega) rfl rfl bp5
            replace bq0 := cell_else (.bool s2) (r := ⟨wd.heap.size, 0, none⟩) (by dsimp only; omega) rfl rfl bq0
            replace bq1 := cell_else (.bool s2) (r := ⟨wd.heap.size, 0, none⟩) (by dsimp only; omega) rfl rfl bq1
            replace bq2 := cell_else (.bool s2) (r := ⟨wd.heap.size, 0, none⟩) (by dsimp only; omega) rfl rfl bq2
            replace bq3 := cell_else (.bool s2) (r := ⟨wd.heap.size, 0, none⟩) (by dsimp only; omega) rfl rfl bq3
            replace bq4 := cell_else (.bool s2) (r := ⟨wd.heap.size, 0, none⟩) (by dsimp only; omega) rfl rfl bq4
            replace bq5 := cell_else (.bool s2) (r := ⟨wd.heap.size, 0, none⟩) (by dsimp only; omega) rfl rfl bq5
            replace R0 := cell_else (.bool s2) (r := ⟨wd.heap.size, 0, none⟩) (by dsimp only; omega) rfl rfl R0
            replace R1 := cell_else (.bool s2) (r := ⟨wd.heap.size, 0, none⟩) (by dsimp only; omega) rfl rfl R1
            replace R2 := cell_else (.bool s2) (r := ⟨wd.heap.size, 0, none⟩) (by dsimp only; omega) rfl rfl R2
            replace R3 := cell_else (.bool s2) (r := ⟨wd.heap.size, 0, none⟩) (by dsimp only; omega) rfl rfl R3
            replace R4 := cell_else (.bool s2) (r := ⟨wd.heap.size, 0, none⟩) (by dsimp only; omega) rfl rfl R4
            replace R5 := cell_else (.bool s2) (r := ⟨wd.heap.size, 0, none⟩) (by dsimp only; omega) rfl rfl R5
            replace Y_1 := cell_else (.bool s2) (r := ⟨wd.heap.size, 0, none⟩) (by dsimp only; omega) rfl rfl Y_1
            replace Y_2 := cell_else (.bool s2) (r := ⟨wd.heap.size, 0, none⟩) (by dsimp only; omega) rfl rfl Y_2
            replace Y_3 := cell_else (.bool s2) (r := ⟨wd.heap.size, 0, none⟩) (by dsimp only; omega) rfl rfl Y_3
            replace Y_4 := cell_else (.bool s2) (r := ⟨wd.heap.size, 0, none⟩) (by dsimp only; omega) rfl rfl Y_4
            replace Y_5 := cell_else (.bool s2) (r := ⟨wd.heap.size, 0, none⟩) (by dsimp only; omega) rfl rfl Y_5
            replace X_0 := cell_else (.bool s2) (r := ⟨wd.heap.size, 0, none⟩) (by dsimp only; omega) rfl rfl X_0
            replace X_1 := cell_else (.bool s2) (r := ⟨wd.heap.size, 0, none⟩) (by dsimp only; omega) rfl rfl X_1
            replace X_2 := cell_else (.bool s2) (r := ⟨wd.heap.size, 0, none⟩) (by dsimp only; omega) rfl rfl X_2
            replace X_3 := cell_else (.bool s2) (r := ⟨wd.heap.size, 0, none⟩) (by dsimp only; omega) rfl rfl X_3
            replace X_4 := cell_else (.bool s2) (r := ⟨wd.heap.size, 0, none⟩) (by dsimp only; omega) rfl rfl X_4
            replace X_5 := cell_else (.bool s2) (r := ⟨wd.heap.size, 0, none⟩) (by dsimp only; omega) rfl rfl X_5
            replace Rf0 : (ws15.setCell ⟨wd.heap.size, 0, none⟩ (.bool s2)).frozen? _ = false := (frozen_set _ _ _ _ _).trans Rf0
            replace Rf1 : (ws15.setCell ⟨wd.heap.size, 0, none⟩ (.bool s2)).frozen? _ = false := (frozen_set _ _ _ _ _).trans Rf1
            replace Rf2 : (ws15.setCell ⟨wd.heap.size, 0, none⟩ (.bool s2)).frozen? _ = false := (frozen_set _ _ _ _ _).trans Rf2
            replace Rf3 : (ws15.setCell ⟨wd.heap.size, 0, none⟩ (.bool s2)).frozen? _ = false := (frozen_set _ _ _ _ _).trans Rf3
            replace Rf4 : (ws15.setCell ⟨wd.heap.size, 0, none⟩ (.bool s2)).frozen? _ = false := (frozen_set _ _ _ _ _).trans Rf4
            replace Rf5 : (ws15.setCell ⟨wd.heap.size, 0, none⟩ (.bool s2)).frozen? _ = false := (frozen_set _ _ _ _ _).trans Rf5
            replace Y_f0 : (ws15.setCell ⟨wd.heap.size, 0, none⟩ (.bool s2)).frozen? _ = false := (frozen_set _ _ _ _ _).trans Y_f0
            replace Y_f1 : (ws15.setCell ⟨wd.heap.size, 0, none⟩ (.bool s2)).frozen? _ = false := (frozen_set _ _ _ _ _).trans Y_f1
            replace Y_f2 : (ws15.setCell ⟨wd.heap.size, 0, none⟩ (.bool s2)).frozen? _ = false := (frozen_set _ _ _ _ _).trans Y_f2
            replace Y_f3 : (ws15.setCell ⟨wd.heap.size, 0, none⟩ (.bool s2)).frozen? _ = false := (frozen_set _ _ _ _ _).trans Y_f3
            replace Y_f4 : (ws15.setCell ⟨wd.heap.size, 0, none⟩ (.bool s2)).frozen? _ = false := (frozen_set _ _ _ _ _).trans Y_f4
            replace Y_f5 : (ws15.setCell ⟨wd.heap.size, 0, none⟩ (.bool s2)).frozen? _ = false := (frozen_set _ _ _ _ _).trans Y_f5
            replace X_f0 : (ws15.setCell ⟨wd.heap.size, 0, none⟩ (.bool s2)).frozen? _ = false := (frozen_set _ _ _ _ _).trans X_f0
            replace X_f1 : (ws15.setCell ⟨wd.heap.size, 0, none⟩ (.bool s2)).frozen? _ = false := (frozen_set _ _ _ _ _).trans X_f1
            replace X_f2 : (ws15.setCell ⟨wd.heap.size, 0, none⟩ (.bool s2)).frozen? _ = false := (frozen_set _ _ _ _ _).trans X_f2
            replace X_f3 : (ws15.setCell ⟨wd.heap.size, 0, none⟩ (.bool s2)).frozen? _ = false := (frozen_set _ _ _ _ _).trans X_f3
            replace X_f4 : (ws15.setCell ⟨wd.heap.size, 0, none⟩ (.bool s2)).frozen? _ = false := (frozen_set _ _ _ _ _).trans X_f4
            replace X_f5 : (ws15.setCell ⟨wd.heap.size, 0, none⟩ (.bool s2)).frozen? _ = false := (frozen_set _ _ _ _ _).trans X_f5
            replace Y_0 : (ws15.setCell ⟨wd.heap.size, 0, none⟩ (.bool s2)).cell? ⟨wd.heap.size, 0, none⟩ = some (.bool s2) := cell_on _ _ _ _ _ Y_0
            replace kw := kw.setNew (p := ⟨wd.heap.size, 0, none⟩) (by dsimp only; omega) (.bool s2)
            replace K := hide ((unhide K).setNew (p := ⟨wd.heap.size, 0, none⟩) (by dsimp only; omega) (.bool s2))
            have zs16 : (ws15.setCell ⟨wd.heap.size, 0, none⟩ (.bool s2)).heap.size = ws15.heap.size := by simp [World.setCell]
            clear sS0
            generalize ws15.setCell ⟨wd.heap.size, 0, none⟩ (.bool s2) = ws16 at *
            have sS0 := unhide S0
            replace r1 := r1.set_other (p := ⟨wd.heap.size, 1, none⟩) (by dsimp only; omega) (.slice a2 l2.length c2)
            replace r2 := r2.set_other (p := ⟨wd.heap.size, 1, none⟩) (by dsimp only; omega) (.slice a2 l2.length c2)
            replace r3 := r3.set_other (p := ⟨wd.heap.size, 1, none⟩) (by dsimp only; omega) (.slice a2 l2.length c2)
            replace r4 := r4.set_other (p := ⟨wd.heap.size, 1, none⟩) (by dsimp only; omega) (.slice a2 l2.length c2)
            replace bp0 := cell_else (.slice a2 l2.length c2) (r := ⟨wd.heap.size, 1, none⟩) (by dsimp only; omega) rfl rfl bp0
            replace bp1 := cell_else (.slice a2 l2.length c2) (r := ⟨wd.heap.size, 1, none⟩) (by dsimp only; omega) rfl rfl bp1
            replace bp2 := cell_else (.slice a2 l2.length c2) (r := ⟨wd.heap.size, 1, none⟩) (by dsimp only; omega) rfl rfl bp2
            replace bp3 := cell_else (.slice a2 l2.length c2) (r := ⟨wd.heap.size, 1, none⟩) (by dsimp only; omega) rfl rfl bp3
            replace bp4 := cell_else (.slice a2 l2.length c2) (r := ⟨wd.heap.size, 1, none⟩) (by dsimp only; omega) rfl rfl bp4
            replace bp5 := cell_else (.slice a2 l2.length c2) (r := ⟨wd.heap.size, 1, none⟩) (by dsimp only; omega) rfl rfl bp5
            replace bq0 := cell_else (.slice a2 l2.length c2) (r := ⟨wd.heap.size, 1, none⟩) (by dsimp only; omega) rfl rfl bq0
            replace bq1 := cell_else (.slice a2 l2.length c2) (r := ⟨wd.heap.size, 1, none⟩) (by dsimp only; omega) rfl rfl bq1
            replace bq2 := cell_else (.slice a2 l2.length c2) (r := ⟨wd.heap.size, 1, none⟩) (by dsimp only; omega) rfl rfl bq2
            replace bq3 := cell_else (.slice a2 l2.length c2) (r := ⟨wd.heap.size, 1, none⟩) (by dsimp only; omega) rfl rfl bq3
            replace bq4 := cell_else (.slice a2 l2.length c2) (r := ⟨wd.heap.size, 1, none⟩) (by dsimp only; omega) rfl rfl bq4
            replace bq5 := cell_else (.slice a2 l2.length c2) (r := ⟨wd.heap.size, 1, none⟩) (by dsimp only; omega) rfl rfl bq5
            replace R0 := cell_else (.slice a2 l2.length c2) (r := ⟨wd.heap.size, 1, none⟩) (by dsimp only; omega) rfl rfl R0
            replace R1 := cell_else (.slice a2 l2.length c2) (r := ⟨wd.heap.size, 1, none⟩) (by dsimp only; omega) rfl rfl R1
            replace R2 := cell_else (.slice a2 l2.length c2) (r := ⟨wd.heap.size, 1, none⟩) (by dsimp only; omega) rfl rfl R2
            replace R3 := cell_else (.slice a2 l2.length c2) (r := ⟨wd.heap.size, 1, none⟩) (by dsimp only; omega) rfl rfl R3
            replace R4 := cell_else (.slice a2 l2.length c2) (r := ⟨wd.heap.size, 1, none⟩) (by dsimp only; omega) rfl rfl R4
            replace R5 := cell_else (.slice a2 l2.length c2) (r := ⟨wd.heap.size, 1, none⟩) (by dsimp only; omega) rfl rfl R5
            replace Y_0 := cell_else (.slice a2 l2.length c2) (r := ⟨wd.heap.size, 1, none⟩) (by dsimp only; omega) rfl rfl Y_0
            replace Y_2 := cell_else (.slice a2 l2.length c2) (r := ⟨wd.heap.size, 1, none⟩) (by dsimp only; omega) rfl rfl Y_2
            replace Y_3 := cell_else (.slice a2 l2.length c2) (r := ⟨wd.heap.size, 1, none⟩) (by dsimp only; omega) rfl rfl Y_3
            replace Y_4 := cell_else (.slice a2 l2.length c2) (r := ⟨wd.heap.size, 1, none⟩) (by dsimp only; omega) rfl rfl Y_4
            replace Y_5 := cell_else (.slice a2 l2.length c2) (r := ⟨wd.heap.size, 1, none⟩) (by dsimp only; omega) rfl rfl Y_5
            replace X_0 := cell_else (.slice a2 l2.length c2) (r := ⟨wd.heap.size, 1, none⟩) (by dsimp only; omega) rfl rfl X_0
            replace X_1 := cell_else (.slice a2 l2.length c2) (r := ⟨wd.heap.size, 1, none⟩) (by dsimp only; omega) rfl rfl X_1
            replace X_2 := cell_else (.slice a2 l2.length c2) (r := ⟨wd.heap.size, 1, none⟩) (by dsimp only; omega) rfl rfl X_2
            replace X_3 := cell_else (.slice a2 l2.length c2) (r := ⟨wd.heap.size, 1, none⟩) (by dsimp only; omega) rfl rfl X_3
            replace X_4 := cell_else (.slice a2 l2.length c2) (r := ⟨wd.heap.size, 1, none⟩) (by dsimp only; omega) rfl rfl X_4
            replace X_5 := cell_else (.slice a2 l2.length c2) (r := ⟨wd.heap.size, 1, none⟩) (by dsimp only; omega) rfl rfl X_5
            replace Rf0 : (ws16.setCell ⟨wd.heap.size, 1, none⟩ (.slice a2 l2.length c2)).frozen? _ = false := (frozen_set _ _ _ _ _).trans Rf0
            replace Rf1 : (ws16.setCell ⟨wd.heap.size, 1, none⟩ (.slice a2 l2.length c2)).frozen? _ = false := (frozen_set _ _ _ _ _).trans Rf1
            replace Rf2 : (ws16.setCell ⟨wd.heap.size, 1, none⟩ (.slice a2 l2.length c2)).frozen? _ = false := (frozen_set _ _ _ _ _).trans Rf2
            replace Rf3 : (ws16.setCell ⟨wd.heap.size, 1, none⟩ (.slice a2 l2.length c2)).frozen? _ = false := (frozen_set _ _ _ _ _).trans Rf3
            replace Rf4 : (ws16.setCell ⟨wd.heap.size, 1, none⟩ (.slice a2 l2.length c2)).frozen? _ = false := (frozen_set _ _ _ _ _).trans Rf4
            replace Rf5 : (ws16.setCell ⟨wd.heap.size, 1, none⟩ (.slice a2 l2.length c2)).frozen? _ = false := (frozen_set _ _ _ _ _).trans Rf5
            replace Y_f0 : (ws16.setCell ⟨wd.heap.size, 1, none⟩ (.slice a2 l2.length c2)).frozen? _ = false := (frozen_set _ _ _ _ _).trans Y_f0
            replace Y_f1 : (ws16.setCell ⟨wd.heap.size, 1, none⟩ (.slice a2 l2.length c2)).frozen? _ = false := (frozen_set _ _ _ _ _).trans Y_f1
            replace Y_f2 : (ws16.setCell ⟨wd.heap.size, 1, none⟩ (.slice a2 l2.length c2)).frozen? _ = false := (frozen_set _ _ _ _ _).trans Y_f2
            replace Y_f3 : (ws16.setCell ⟨wd.heap.size, 1, none⟩ (.slice a2 l2.length c2)).frozen? _ = false := (frozen_set _ _ _ _ _).trans Y_f3
            replace Y_f4 : (ws16.setCell ⟨wd.heap.size, 1, none⟩ (.slice a2 l2.length c2)).frozen? _ = false := (frozen_set _ _ _ _ _).trans Y_f4
            replace Y_f5 : (ws16.setCell ⟨wd.heap.size, 1, none⟩ (.slice a2 l2.length c2)).frozen? _ = false := (frozen_set _ _ _ _ _).trans Y_f5
            replace X_f0 : (ws16.setCell ⟨wd.heap.size, 1, none⟩ (.slice a2 l2.length c2)).frozen? _ = false := (frozen_set _ _ _ _ _).trans X_f0
            replace X_f1 : (ws16.setCell ⟨wd.heap.size, 1, none⟩ (.slice a2 l2.length c2)).frozen? _ = false := (frozen_set _ _ _ _ _).trans X_f1
            replace X_f2 : (ws16.setCell ⟨wd.heap.size, 1, none⟩ (.slice a2 l2.length c2)).frozen? _ = false := (frozen_set _ _ _ _ _).trans X_f2
            replace X_f3 : (ws16.setCell ⟨wd.heap.size, 1, none⟩ (.slice a2 l2.length c2)).frozen? _ = false := (frozen_set _ _ _ _ _).trans X_f3
            replace X_f4 : (ws16.setCell ⟨wd.heap.size, 1, none⟩ (.slice a2 l2.length c2)).frozen? _ = false := (frozen_set _ _ _ _ _).trans X_f4
            replace X_f5 : (ws16.setCell ⟨wd.heap.size, 1, none⟩ (.slice a2 l2.length c2)).frozen? _ = false := (frozen_set _ _ _ _ _).trans X_f5
            replace Y_1 : (ws16.setCell ⟨wd.heap.size, 1, none⟩ (.slice a2 l2.length c2)).cell? ⟨wd.heap.size, 1, none⟩ = some (.slice a2 l2.length c2) := cell_on _ _ _ _ _ Y_1
            replace kw := kw.setNew (p := ⟨wd.heap.size, 1, none⟩) (by dsimp only; omega) (.slice a2 l2.length c2)
            replace K := hide ((unhide K).setNew (p := ⟨wd.heap.size, 1, none⟩) (by dsimp only; omega) (.slice a2 l2.length c2))
            have zs17 : (ws16.setCell ⟨wd.heap.size, 1, none⟩ (.slice a2 l2.length c2)).heap.size = ws16.heap.size := by simp [World.setCell]
            clear sS0
            generalize ws16.setCell ⟨wd.heap.size, 1, none⟩ (.slice a2 l2.length c2) = ws17 at *
            have sS0 := unhide S0
            replace r1 := r1.set_other (p := ⟨wd.heap.size, 2, none⟩) (by dsimp only; omega) (.int .i64 e2)
            replace r2 := r2.set_other (p := ⟨wd.heap.size, 2, none⟩) (by dsimp only; omega) (.int .i64 e2)
            replace r3 := r3.set_other (p := ⟨wd.heap.size, 2, none⟩) (by dsimp only; omega) (.int .i64 e2)
            replace r4 := r4.set_other (p := ⟨wd.heap.size, 2, none⟩) (by dsimp only; omega) (.int .i64 e2)
            replace bp0 := cell_else (.int .i64 e2) (r := ⟨wd.heap.size, 2, none⟩) (by dsimp only; omega) rfl rfl bp0
            replace bp1 := cell_else (.int .i64 e2) (r := ⟨wd.heap.size, 2, none⟩) (by dsimp only; omega) rfl rfl bp1
            replace bp2 := cell_else (.int .i64 e2) (r := ⟨wd.heap.size, 2, none⟩) (by dsimp only; omega) rfl rfl bp2
            replace bp3 := cell_else (.int .i64 e2) (r := ⟨wd.heap.size, 2, none⟩) (by dsimp only; omega) rfl rfl bp3
            replace bp4 := cell_else (.int .i64 e2) (r := ⟨wd.heap.size, 2, none⟩) (by dsimp only; omega) rfl rfl bp4
            replace bp5 := cell_else (.int .i64 e2) (r := ⟨wd.heap.size, 2, none⟩) (by dsimp only; omega) rfl rfl bp5
            replace bq0 := cell_else (.int .i64 e2) (r := ⟨wd.heap.size, 2, none⟩) (by dsimp only; omega) rfl rfl bq0
            replace bq1 := cell_else (.int .i64 e2) (r := ⟨wd.heap.size, 2, none⟩) (by dsimp only; omega) rfl rfl bq1
            replace bq2 := cell_else (.int .i64 e2) (r := ⟨wd.heap.size, 2, none⟩) (by dsimp only; omega) rfl rfl bq2
            replace bq3 := cell_else (.int .i64 e2) (r := ⟨wd.heap.size, 2, none⟩) (by dsimp only; omega) rfl rfl bq3
            replace bq4 := cell_else (.int .i64 e2) (r := ⟨wd.heap.size, 2, none⟩) (by dsimp only; omega) rfl rfl bq4
            replace bq5 := cell_else (.int .i64 e2) (r := ⟨wd.heap.size, 2, none⟩) (by dsimp only; omega) rfl rfl bq5
            replace R0 := cell_else (.int .i64 e2) (r := ⟨wd.heap.size, 2, none⟩) (by dsimp only; omega) rfl rfl R0
            replace R1 := cell_else (.int .i64 e2) (r := ⟨wd.heap.size, 2, none⟩) (by dsimp only; omega) rfl rfl R1
            replace R2 := cell_else (.int .i64 e2) (r := ⟨wd.heap.size, 2, none⟩) (by dsimp only; omega) rfl rfl R2
            replace R3 := cell_else (.int .i64 e2) (r := ⟨wd.heap.size, 2, none⟩) (by dsimp only; omega) rfl rfl R3
            replace R4 := cell_else (.int .i64 e2) (r := ⟨wd.heap.size, 2, none⟩) (by dsimp only; omega) rfl rfl R4
            replace R5 := cell_else (.int .i64 e2) (r := ⟨wd.heap.size, 2, none⟩) (by dsimp only; omega) rfl rfl R5
            replace Y_0 := cell_else (.int .i64 e2) (r := ⟨wd.heap.size, 2, none⟩) (by dsimp only; omega) rfl rfl Y_0
            replace Y_1 := cell_else (.int .i64 e2) (r := ⟨wd.heap.size, 2, none⟩) (by dsimp only; omega) rfl rfl Y_1
            replace Y_3 := cell_else (.int .i64 e2) (r := ⟨wd.heap.size, 2, none⟩) (by dsimp only; omega) rfl rfl Y_3
            replace Y_4 := cell_else (.int .i64 e2) (r := ⟨wd.heap.size, 2, none⟩) (by dsimp only; omega) rfl rfl Y_4
            replace Y_5 := cell_else (.int .i64 e2) (r := ⟨wd.heap.size, 2, none⟩) (by dsimp only; omega) rfl rfl Y_5
            replace X_0 := cell_else (.int .i64 e2) (r := ⟨wd.heap.size, 2, none⟩) (by dsimp only; omega) rfl rfl X_0
            replace X_1 := cell_else (.int .i64 e2) (r := ⟨wd.heap.size, 2, none⟩) (by dsimp only; omega) rfl rfl X_1
            replace X_2 := cell_else (.int .i64 e2) (r := ⟨wd.heap.size, 2, none⟩) (by dsimp only; omega) rfl rfl X_2
            replace X_3 := cell_else (.int .i64 e2) (r := ⟨wd.heap.size, 2, none⟩) (by dsimp only; omega) rfl rfl X_3
            replace X_4 := cell_else (.int .i64 e2) (r := ⟨wd.heap.size, 2, none⟩) (by dsimp only; omega) rfl rfl X_4
            replace X_5 := cell_else (.int .i64 e2) (r := ⟨wd.heap.size, 2, none⟩) (by dsimp only; omega) rfl rfl X_5
            replace Rf0 : (ws17.setCell ⟨wd.heap.size, 2, none⟩ (.int .i64 e2)).frozen? _ = false := (frozen_set _ _ _ _ _).trans Rf0
            replace Rf1 : (ws17.setCell ⟨wd.heap.size, 2, none⟩ (.int .i64 e2)).frozen? _ = false := (frozen_set _ _ _ _ _).trans Rf1
            replace Rf2 : (ws17.setCell ⟨wd.heap.size, 2, none⟩ (.int .i64 e2)).frozen? _ = false := (frozen_set _ _ _ _ _).trans Rf2
            replace Rf3 : (ws17.setCell ⟨wd.heap.size, 2, none⟩ (.int .i64 e2)).frozen? _ = false := (frozen_set _ _ _ _ _).trans Rf3
            replace Rf4 : (ws17.setCell ⟨wd.heap.size, 2, none⟩ (.int .i64 e2)).frozen? _ = false := (frozen_set _ _ _ _ _).trans Rf4
            replace Rf5 : (ws17.setCell ⟨wd.heap.size, 2, none⟩ (.int .i64 e2)).frozen? _ = false := (frozen_set _ _ _ _ _).trans Rf5
            replace Y_f0 : (ws17.setCell ⟨wd.heap.size, 2, none⟩ (.int .i64 e2)).frozen? _ = false := (frozen_set _ _ _ _ _).trans Y_f0
            replace Y_f1 : (ws17.setCell ⟨wd.heap.size, 2, none⟩ (.int .i64 e2)).frozen? _ = false := (frozen_set _ _ _ _ _).trans Y_f1
            replace Y_f2 : (ws17.setCell ⟨wd.heap.size, 2, none⟩ (.int .i64 e2)).frozen? _ = false := (frozen_set _ _ _ _ _).trans Y_f2
            replace Y_f3 : (ws17.setCell ⟨wd.heap.size, 2, none⟩ (.int .i64 e2)).frozen? _ = false := (frozen_set _ _ _ _ _).trans Y_f3
            replace Y_f4 : (ws17.setCell ⟨wd.heap.size, 2, none⟩ (.int .i64 e2)).frozen? _ = false := (frozen_set _ _ _ _ _).trans Y_f4
            replace Y_f5 : (ws17.setCell ⟨wd.heap.size, 2, none⟩ (.int .i64 e2)).frozen? _ = false := (frozen_set _ _ _ _ _).trans Y_f5
            replace X_f0 : (ws17.setCell ⟨wd.heap.size, 2, none⟩ (.int .i64 e2)).frozen? _ = false := (frozen_set _ _ _ _ _).trans X_f0
            replace X_f1 : (ws17.setCell ⟨wd.heap.size, 2, none⟩ (.int .i64 e2)).frozen? _ = false := (frozen_set _ _ _ _ _).trans X_f1
            replace X_f2 : (ws17.setCell ⟨wd.heap.size, 2, none⟩ (.int .i64 e2)).frozen? _ = false := (frozen_set _ _ _ _ _).trans X_f2
            replace X_f3 : (ws17.setCell ⟨wd.heap.size, 2, none⟩ (.int .i64 e2)).frozen? _ = false := (frozen_set _ _ _ _ _).trans X_f3
            replace X_f4 : (ws17.setCell ⟨wd.heap.size, 2, none⟩ (.int .i64 e2)).frozen? _ = false := (frozen_set _ _ _ _ _).trans X_f4
            replace X_f5 : (ws17.setCell ⟨wd.heap.size, 2, none⟩ (.int .i64 e2)).frozen? _ = false := (frozen_set _ _ _ _ _).trans X_f5
            replace Y_2 : (ws17.setCell ⟨wd.heap.size, 2, none⟩ (.int .i64 e2)).cell? ⟨wd.heap.size, 2, none⟩ = some (.int .i64 e2) := cell_on _ _ _ _ _ Y_2
            replace kw := kw.setNew (p := ⟨wd.heap.size, 2, none⟩) (by dsimp only; omega) (.int .i64 e2)
            replace K := hide ((unhide K).setNew (p := ⟨wd.heap.size, 2, none⟩) (by dsimp only; omega) (.int .i64 e2))
            have zs18 : (ws17.setCell ⟨wd.heap.size, 2, none⟩ (.int .i64 e2)).heap.size = ws17.heap.size := by simp [World.setCell]
            clear sS0
            generalize ws17.setCell ⟨wd.heap.size, 2, none⟩ (.int .i64 e2) = ws18 at *
            have sS0 := unhide S0
            replace r1 := r1.set_other (p := ⟨wd.heap.size, 3, none⟩) (by dsimp only; omega) (.bool s4)
            replace r2 := r2.set_other (p := ⟨wd.heap.size, 3, none⟩) (by dsimp only; omega) (.bool s4)
            replace r3 := r3.set_other (p := ⟨wd.heap.size, 3, none⟩) (by dsimp only; omega) (.bool s4)
            replace r4 := r4.set_other (p := ⟨wd.heap.size, 3, none⟩) (by dsimp only; omega) (.bool s4)
            replace bp0 := cell_else (.bool s4) (r := ⟨wd.heap.size, 3, none⟩) (by dsimp only; omega) rfl rfl bp0
            replace bp1 := cell_else (.bool s4) (r := ⟨wd.heap.size, 3, none⟩) (by dsimp only; omega) rfl rfl bp1
            replace bp2 := cell_else (.bool s4) (r := ⟨wd.heap.size, 3, none⟩) (by dsimp only; omega) rfl rfl bp2
            replace bp3 := cell_else (.bool s4) (r := ⟨wd.heap.size, 3, none⟩) (by dsimp only; omega) rfl rfl bp3
            replace bp4 := cell_else (.bool s4) (r := ⟨wd.heap.size, 3, none⟩) (by dsimp only; omega) rfl rfl bp4
            replace bp5 := cell_else (.bool s4) (r := ⟨wd.heap.size, 3, none⟩) (by dsimp only; omega) rfl rfl bp5
            replace bq0 := cell_else (.bool s4) (r := ⟨wd.heap.size, 3, none⟩) (by dsimp only; omega) rfl rfl bq0
            replace bq1 := cell_else (.bool s4) (r := ⟨wd.heap.size, 3, none⟩) (by dsimp only; omega) rfl rfl bq1
            replace bq2 := cell_else (.bool s4) (r := ⟨wd.heap.size, 3, none⟩) (by dsimp only; omega) rfl rfl bq2
            replace bq3 := cell_else (.bool s4) (r := ⟨wd.heap.size, 3, none⟩) (by dsimp only; omega) rfl rfl bq3
            replace bq4 := cell_else (.bool s4) (r := ⟨wd.heap.size, 3, none⟩) (by dsimp only; omega) rfl rfl bq4
            replace bq5 := cell_else (.bool s4) (r := ⟨wd.heap.size, 3, none⟩) (by dsimp only; omega) rfl rfl bq5
            replace R0 := cell_else (.bool s4) (r := ⟨wd.heap.size, 3, none⟩) (by dsimp only; omega) rfl rfl R0
            replace R1 := cell_else (.bool s4) (r := ⟨wd.heap.size, 3, none⟩) (by dsimp only; omega) rfl rfl R1
            replace R2 := cell_else (.bool s4) (r := ⟨wd.heap.size, 3, none⟩) (by dsimp only; omega) rfl rfl R2
            replace R3 := cell_else (.bool s4) (r := ⟨wd.heap.size, 3, none⟩) (by dsimp only; omega) rfl rfl R3
            replace R4 := cell_else (.bool s4) (r := ⟨wd.heap.size, 3, none⟩) (by dsimp only; omega) rfl rfl R4
            replace R5 := cell_else (.bool s4) (r := ⟨wd.heap.size, 3, none⟩) (by dsimp only; omega) rfl rfl R5
            replace Y_0 := cell_else (.bool s4) (r := ⟨wd.heap.size, 3, none⟩) (by dsimp only; omega) rfl rfl Y_0
            replace Y_1 := cell_else (.bool s4) (r := ⟨wd.heap.size, 3, none⟩) (by dsimp only; omega) rfl rfl Y_1
            replace Y_2 := cell_else (.bool s4) (r := ⟨wd.heap.size, 3, none⟩) (by dsimp only; omega) rfl rfl Y_2
            replace Y_4 := cell_else (.bool s4) (r := ⟨wd.heap.size, 3, none⟩) (by dsimp only; omega) rfl rfl Y_4
            replace Y_5 := cell_else (.bool s4) (r := ⟨wd.heap.size, 3, none⟩) (by dsimp only; omega) rfl rfl Y_5
            replace X_0 := cell_else (.bool s4) (r := ⟨wd.heap.size, 3, none⟩) (by dsimp only; omega) rfl rfl X_0
            replace X_1 := cell_else (.bool s4) (r := ⟨wd.heap.size, 3, none⟩) (by dsimp only; omega) rfl rfl X_1
            replace X_2 := cell_else (.bool s4) (r := ⟨wd.heap.size, 3, none⟩) (by dsimp only; omega) rfl rfl X_2
            replace X_3 := cell_else (.bool s4) (r := ⟨wd.heap.size, 3, none⟩) (by dsimp only; omega) rfl rfl X_3
            replace X_4 := cell_else (.bool s4) (r := ⟨wd.heap.size, 3, none⟩) (by dsimp only; omega) rfl rfl X_4
            replace X_5 := cell_else (.bool s4) (r := ⟨wd.heap.size, 3, none⟩) (by dsimp only; omega) rfl rfl X_5
            replace Rf0 : (ws18.setCell ⟨wd.heap.size, 3, none⟩ (.bool s4)).frozen? _ = false := (frozen_set _ _ _ _ _).trans Rf0
            replace Rf1 : (ws18.setCell ⟨wd.heap.size, 3, none⟩ (.bool s4)).frozen? _ = false := (frozen_set _ _ _ _ _).trans Rf1
            replace Rf2 : (ws18.setCell ⟨wd.heap.size, 3, none⟩ (.bool s4)).frozen? _ = false := (frozen_set _ _ _ _ _).trans Rf2
            replace Rf3 : (ws18.setCell ⟨wd.heap.size, 3, none⟩ (.bool s4)).frozen? _ = false := (frozen_set _ _ _ _ _).trans Rf3
            replace Rf4 : (ws18.setCell ⟨wd.heap.size, 3, none⟩ (.bool s4)).frozen? _ = false := (frozen_set _ _ _ _ _).trans Rf4
            replace Rf5 : (ws18.setCell ⟨wd.heap.size, 3, none⟩ (.bool s4)).frozen? _ = false := (frozen_set _ _ _ _ _).trans Rf5
            replace Y_f0 : (ws18.setCell ⟨wd.heap.size, 3, none⟩ (.bool s4)).frozen? _ = false := (frozen_set _ _ _ _ _).trans Y_f0
            replace Y_f1 : (ws18.setCell ⟨wd.heap.size, 3, none⟩ (.bool s4)).frozen? _ = false := (frozen_set _ _ _ _ _).trans Y_f1
            replace Y_f2 : (ws18.setCell ⟨wd.heap.size, 3, none⟩ (.bool s4)).frozen? _ = false := (frozen_set _ _ _ _ _).trans Y_f2
            replace Y_f3 : (ws18.setCell ⟨wd.heap.size, 3, none⟩ (.bool s4)).frozen? _ = false := (frozen_set _ _ _ _ _).trans Y_f3
            replace Y_f4 : (ws18.setCell ⟨wd.heap.size, 3, none⟩ (.bool s4)).frozen? _ = false := (frozen_set _ _ _ _ _).trans Y_f4
            replace Y_f5 : (ws18.setCell ⟨wd.heap.size, 3, none⟩ (.bool s4)).frozen? _ = false := (frozen_set _ _ _ _ _).trans Y_f5
            replace X_f0 : (ws18.setCell ⟨wd.heap.size, 3, none⟩ (.bool s4)).frozen? _ = false := (frozen_set _ _ _ _ _).trans X_f0
            replace X_f1 : (ws18.setCell ⟨wd.heap.size, 3, none⟩ (.bool s4)).frozen? _ = false := (frozen_set _ _ _ _ _).trans X_f1
            replace X_f2 : (ws18.setCell ⟨wd.heap.size, 3, none⟩ (.bool s4)).frozen? _ = false := (frozen_set _ _ _ _ _).trans X_f2
            replace X_f3 : (ws18.setCell ⟨wd.heap.size, 3, none⟩ (.bool s4)).frozen? _ = false := (frozen_set _ _ _ _ _).trans X_f3
            replace X_f4 : (ws18.setCell ⟨wd.heap.size, 3, none⟩ (.bool s4)).frozen? _ = false := (frozen_set _ _ _ _ _).trans X_f4
            replace X_f5 : (ws18.setCell ⟨wd.heap.size, 3, none⟩ (.bool s4)).frozen? _ = false := (frozen_set _ _ _ _ _).trans X_f5
            replace Y_3 : (ws18.setCell ⟨wd.heap.size, 3, none⟩ (.bool s4)).cell? ⟨wd.heap.size, 3, none⟩ = some (.bool s4) := cell_on _ _ _ _ _ Y_3
            replace kw := kw.setNew (p := ⟨wd.heap.size, 3, none⟩) (by dsimp only; omega) (.bool s4)
            replace K := hide ((unhide K).setNew (p := ⟨wd.heap.size, 3, none⟩) (by dsimp only; omega) (.bool s4))
            have zs19 : (ws18.setCell ⟨wd.heap.size, 3, none⟩ (.bool s4)).heap.size = ws18.heap.size := by simp [World.setCell]
            clear sS0
            generalize ws18.setCell ⟨wd.heap.size, 3, none⟩ (.bool s4) = ws19 at *
            have sS0 := unhide S0
            replace r1 := r1.set_other (p := ⟨wd.heap.size, 4, none⟩) (by dsimp only; omega) (.slice a4 l4.length c4)
            replace r2 := r2.set_other (p := ⟨wd.heap.size, 4, none⟩) (by dsimp only; omega) (.slice a4 l4.length c4)
            replace r3 := r3.set_other (p := ⟨wd.heap.size, 4, none⟩) (by dsimp only; omega) (.slice a4 l4.length c4)
            replace r4 := r4.set_other (p := ⟨wd.heap.size, 4, none⟩) (by dsimp only; omega) (.slice a4 l4.length c4)
            replace bp0 := cell_else (.slice a4 l4.length c4) (r := ⟨wd.heap.size, 4, none⟩) (by dsimp only; omega) rfl rfl bp0
            replace bp1 := cell_else (.slice a4 l4.length c4) (r := ⟨wd.heap.size, 4, none⟩) (by dsimp only; omega) rfl rfl bp1
            replace bp2 := cell_else (.slice a4 l4.length c4) (r := ⟨wd.heap.size, 4, none⟩) (by dsimp only; omega) rfl rfl bp2
            replace bp3 := cell_else (.slice a4 l4.length c4) (r := ⟨wd.heap.size, 4, none⟩) (by dsimp only; omega) rfl rfl bp3
            replace bp4 := cell_else (.slice a4 l4.length c4) (r := ⟨wd.heap.size, 4, none⟩) (by dsimp only; omega) rfl rfl bp4
            replace bp5 := cell_else (.slice a4 l4.length c4) (r := ⟨wd.heap.size, 4, none⟩) (by dsimp only; omega) rfl rfl bp5
            replace bq0 := cell_else (.slice a4 l4.length c4) (r := ⟨wd.heap.size, 4, none⟩) (by dsimp only; omega) rfl rfl bq0
            replace bq1 := cell_else (.slice a4 l4.length c4) (r := ⟨wd.heap.size, 4, none⟩) (by dsimp only; omega) rfl rfl bq1
            replace bq2 := cell_else (.slice a4 l4.length c4) (r := ⟨wd.heap.size, 4, none⟩) (by dsimp only; omega) rfl rfl bq2
            replace bq3 := cell_else (.slice a4 l4.length c4) (r := ⟨wd.heap.size, 4, none⟩) (by dsimp only; omega) rfl rfl bq3
            replace bq4 := cell_else (.slice a4 l4.length c4) (r := ⟨wd.heap.size, 4, none⟩) (by dsimp only; omega) rfl rfl bq4
            replace bq5 := cell_else (.slice a4 l4.length c4) (r := ⟨wd.heap.size, 4, none⟩) (by dsimp only; omega) rfl rfl bq5
            replace R0 := cell_else (.slice a4 l4.length c4) (r := ⟨wd.heap.size, 4, none⟩) (by dsimp only; omega) rfl rfl R0
            replace R1 := cell_else (.slice a4 l4.length c4) (r := ⟨wd.heap.size, 4, none⟩) (by dsimp only; omega) rfl rfl R1
            replace R2 := cell_else (.slice a4 l4.length c4) (r := ⟨wd.heap.size, 4, none⟩) (by dsimp only; omega) rfl rfl R2
            replace R3 := cell_else (.slice a4 l4.length c4) (r := ⟨wd.heap.size, 4, none⟩) (by dsimp only; omega) rfl rfl R3
            replace R4 := cell_else (.slice a4 l4.length c4) (r := ⟨wd.heap.size, 4, none⟩) (by dsimp only; omega) rfl rfl R4
            replace R5 := cell_else (.slice a4 l4.length c4) (r := ⟨wd.heap.size, 4, none⟩) (by dsimp only; omega) rfl rfl R5
            replace Y_0 := cell_else (.slice a4 l4.length c4) (r := ⟨wd.heap.size, 4, none⟩) (by dsimp only; omega) rfl rfl Y_0
            replace Y_1 := cell_else (.slice a4 l4.length c4) (r := ⟨wd.heap.size, 4, none⟩) (by dsimp only; omega) rfl rfl Y_1
            replace Y_2 := cell_else (.slice a4 l4.length c4) (r := ⟨wd.heap.size, 4, none⟩) (by dsimp only; omega) rfl rfl Y_2
            replace Y_3 := cell_else (.slice a4 l4.length c4) (r := ⟨wd.heap.size, 4, none⟩) (by dsimp only; omega) rfl rfl Y_3
            replace Y_5 := cell_else (.slice a4 l4.length c4) (r := ⟨wd.heap.size, 4, none⟩) (by dsimp only; omega) rfl rfl Y_5
            replace X_0 := cell_else (.slice a4 l4.length c4) (r := ⟨wd.heap.size, 4, none⟩) (by dsimp only; omega) rfl rfl X_0
            replace X_1 := cell_else (.slice a4 l4.length c4) (r := ⟨wd.heap.size, 4, none⟩) (by dsimp only; omega) rfl rfl X_1
            replace X_2 := cell_else (.slice a4 l4.length c4) (r := ⟨wd.heap.size, 4, none⟩) (by dsimp only; omega) rfl rfl X_2
            replace X_3 := cell_else (.slice a4 l4.length c4) (r := ⟨wd.heap.size, 4, none⟩) (by dsimp only; omega) rfl rfl X_3
            replace X_4 := cell_else (.slice a4 l4.length c4) (r := ⟨wd.heap.size, 4, none⟩) (by dsimp only; omega) rfl rfl X_4
            replace X_5 := cell_else (.slice a4 l4.length c4) (r := ⟨wd.heap.size, 4, none⟩) (by dsimp only; omega) rfl rfl X_5
            replace Rf0 : (ws19.setCell ⟨wd.heap.size, 4, none⟩ (.slice a4 l4.length c4)).frozen? _ = false := (frozen_set _ _ _ _ _).trans Rf0
            replace Rf1 : (ws19.setCell ⟨wd.heap.size, 4, none⟩ (.slice a4 l4.length c4)).frozen? _ = false := (frozen_set _ _ _ _ _).trans Rf1
            replace Rf2 : (ws19.setCell ⟨wd.heap.size, 4, none⟩ (.slice a4 l4.length c4)).frozen? _ = false := (frozen_set _ _ _ _ _).trans Rf2
            replace Rf3 : (ws19.setCell ⟨wd.heap.size, 4, none⟩ (.slice a4 l4.length c4)).frozen? _ = false := (frozen_set _ _ _ _ _).trans Rf3
            replace Rf4 : (ws19.setCell ⟨wd.heap.size, 4, none⟩ (.slice a4 l4.length c4)).frozen? _ = false := (frozen_set _ _ _ _ _).trans Rf4
            replace Rf5 : (ws19.setCell ⟨wd.heap.size, 4, none⟩ (.slice a4 l4.length c4)).frozen? _ = false := (frozen_set _ _ _ _ _).trans Rf5
            replace Y_f0 : (ws19.setCell ⟨wd.heap.size, 4, none⟩ (.slice a4 l4.length c4)).frozen? _ = false := (frozen_set _ _ _ _ _).trans Y_f0
            replace Y_f1 : (ws19.setCell ⟨wd.heap.size, 4, none⟩ (.slice a4 l4.length c4)).frozen? _ = false := (frozen_set _ _ _ _ _).trans Y_f1
            replace Y_f2 : (ws19.setCell ⟨wd.heap.size, 4, none⟩ (.slice a4 l4.length c4)).frozen? _ = false := (frozen_set _ _ _ _ _).trans Y_f2
            replace Y_f3 : (ws19.setCell ⟨wd.heap.size, 4, none⟩ (.slice a4 l4.length c4)).frozen? _ = false := (frozen_set _ _ _ _ _).trans Y_f3
            replace Y_f4 : (ws19.setCell ⟨wd.heap.size, 4, none⟩ (.slice a4 l4.length c4)).frozen? _ = false := (frozen_set _ _ _ _ _).trans Y_f4
            replace Y_f5 : (ws19.setCell ⟨wd.heap.size, 4, none⟩ (.slice a4 l4.length c4)).frozen? _ = false := (frozen_set _ _ _ _ _).trans Y_f5
            replace X_f0 : (ws19.setCell ⟨wd.heap.size, 4, none⟩ (.slice a4 l4.length c4)).frozen? _ = false := (frozen_set _ _ _ _ _).trans X_f0
            replace X_f1 : (ws19.setCell ⟨wd.heap.size, 4, none⟩ (.slice a4 l4.length c4)).frozen? _ = false := (frozen_set _ _ _ _ _).trans X_f1
            replace X_f2 : (ws19.setCell ⟨wd.heap.size, 4, none⟩ (.slice a4 l4.length c4)).frozen? _ = false := (frozen_set _ _ _ _ _).trans X_f2
            replace X_f3 : (ws19.setCell ⟨wd.heap.size, 4, none⟩ (.slice a4 l4.length c4)).frozen? _ = false := (frozen_set _ _ _ _ _).trans X_f3
            replace X_f4 : (ws19.setCell ⟨wd.heap.size, 4, none⟩ (.slice a4 l4.length c4)).frozen? _ = false := (frozen_set _ _ _ _ _).trans X_f4
            replace X_f5 : (ws19.setCell ⟨wd.heap.size, 4, none⟩ (.slice a4 l4.length c4)).frozen? _ = false := (frozen_set _ _ _ _ _).trans X_f5
            replace Y_4 : (ws19.setCell ⟨wd.heap.size, 4, none⟩ (.slice a4 l4.length c4)).cell? ⟨wd.heap.size, 4, none⟩ = some (.slice a4 l4.length c4) := cell_on _ _ _ _ _ Y_4
            replace kw := kw.setNew (p := ⟨wd.heap.size, 4, none⟩) (by dsimp only; omega) (.slice a4 l4.length c4)
            replace K := hide ((unhide K).setNew (p := ⟨wd.heap.size, 4, none⟩) (by dsimp only; omega) (.slice a4 l4.length c4))
            have zs20 : (ws19.setCell ⟨wd.heap.size, 4, none⟩ (.slice a4 l4.length c4)).heap.size = ws19.heap.size := by simp [World.setCell]
            clear sS0
            generalize ws19.setCell ⟨wd.heap.size, 4, none⟩ (.slice a4 l4.length c4) = ws20 at *
            have sS0 := unhide S0
            replace r1 := r1.set_other (p := ⟨wd.heap.size, 5, none⟩) (by dsimp only; omega) (.int .i64 e4)
            replace r2 := r2.set_other (p := ⟨wd.heap.size, 5, none⟩) (by dsimp only; omega) (.int .i64 e4)
            replace r3 := r3.set_other (p := ⟨wd.heap.size, 5, none⟩) (by dsimp only; omega) (.int .i64 e4)
            replace r4 := r4.set_other (p := ⟨wd.heap.size, 5, none⟩) (by dsimp only; omega) (.int .i64 e4)
            replace bp0 := cell_else (.int .i64 e4) (r := ⟨wd.heap.size, 5, none⟩) (by dsimp only; omega) rfl rfl bp0
            replace bp1 := cell_else (.int .i64 e4) (r := ⟨wd.heap.size, 5, none⟩) (by dsimp only; omega) rfl rfl bp1
            replace bp2 := cell_else (.int .i64 e4) (r := ⟨wd.heap.size, 5, none⟩) (by dsimp only; omega) rfl rfl bp2
            replace bp3 := cell_else (.int .i64 e4) (r := ⟨wd.heap.size, 5, none⟩) (by dsimp only; omega) rfl rfl bp3
            replace bp4 := cell_else (.int .i64 e4) (r := ⟨wd.heap.size, 5, none⟩) (by dsimp only; omega) rfl rfl bp4
            replace bp5 := cell_else (.int .i64 e4) (r := ⟨wd.heap.size, 5, none⟩) (by dsimp only; omega) rfl rfl bp5
            replace bq0 := cell_else (.int .i64 e4) (r := ⟨wd.heap.size, 5, none⟩) (by dsimp only; omega) rfl rfl bq0
            replace bq1 := cell_else (.int .i64 e4) (r := ⟨wd.heap.size, 5, none⟩) (by dsimp only; omega) rfl rfl bq1
            replace bq2 := cell_else (.int .i64 e4) (r := ⟨wd.heap.size, 5, none⟩) (by dsimp only; omega) rfl rfl bq2
            replace bq3 := cell_else (.int .i64 e4) (r := ⟨wd.heap.size, 5, none⟩) (by dsimp only; omega) rfl rfl bq3
            replace bq4 := cell_else (.int .i64 e4) (r := ⟨wd.heap.size, 5, none⟩) (by dsimp only; omega) rfl rfl bq4
            replace bq5 := cell_else (.int .i64 e4) (r := ⟨wd.heap.size, 5, none⟩) (by dsimp only; omega) rfl rfl bq5
            replace R0 := cell_else (.int .i64 e4) (r := ⟨wd.heap.size, 5, none⟩) (by dsimp only; omega) rfl rfl R0
            replace R1 := cell_else (.int .i64 e4) (r := ⟨wd.heap.size, 5, none⟩) (by dsimp only; omega) rfl rfl R1
            replace R2 := cell_else (.int .i64 e4) (r := ⟨wd.heap.size, 5, none⟩) (by dsimp only; omega) rfl rfl R2
            replace R3 := cell_else (.int .i64 e4) (r := ⟨wd.heap.size, 5, none⟩) (by dsimp only; omega) rfl rfl R3
            replace R4 := cell_else (.int .i64 e4) (r := ⟨wd.heap.size, 5, none⟩) (by dsimp only; omega) rfl rfl R4
            replace R5 := cell_else (.int .i64 e4) (r := ⟨wd.heap.size, 5, none⟩) (by dsimp only; omega) rfl rfl R5
            replace Y_0 := cell_else (.int .i64 e4) (r := ⟨wd.heap.size, 5, none⟩) (by dsimp only; omega) rfl rfl Y_0
            replace Y_1 := cell_else (.int .i64 e4) (r := ⟨wd.heap.size, 5, none⟩) (by dsimp only; omega) rfl rfl Y_1
            replace Y_2 := cell_else (.int .i64 e4) (r := ⟨wd.heap.size, 5, none⟩) (by dsimp only; omega) rfl rfl Y_2
            replace Y_3 := cell_else (.int .i64 e4) (r := ⟨wd.heap.size, 5, none⟩) (by dsimp only; omega) rfl rfl Y_3
            replace Y_4 := cell_else (.int .i64 e4) (r := ⟨wd.heap.size, 5, none⟩) (by dsimp only; omega) rfl rfl Y_4
            replace X_0 := cell_else (.int .i64 e4) (r := ⟨wd.heap.size, 5, none⟩) (by dsimp only; omega) rfl rfl X_0
            replace X_1 := cell_else (.int .i64 e4) (r := ⟨wd.heap.size, 5, none⟩) (by dsimp only; omega) rfl rfl X_1
            replace X_2 := cell_else (.int .i64 e4) (r := ⟨wd.heap.size, 5, none⟩) (by dsimp only; omega) rfl rfl X_2
            replace X_3 := cell_else (.int .i64 e4) (r := ⟨wd.heap.size, 5, none⟩) (by dsimp only; omega) rfl rfl X_3
            replace X_4 := cell_else (.int .i64 e4) (r := ⟨wd.heap.size, 5, none⟩) (by dsimp only; omega) rfl rfl X_4
            replace X_5 := cell_else (.int .i64 e4) (r := ⟨wd.heap.size, 5, none⟩) (by dsimp only; omega) rfl rfl X_5
            replace Rf0 : (ws20.setCell ⟨wd.heap.size, 5, none⟩ (.int .i64 e4)).frozen? _ = false := (frozen_set _ _ _ _ _).trans Rf0
            replace Rf1 : (ws20.setCell ⟨wd.heap.size, 5, none⟩ (.int .i64 e4)).frozen? _ = false := (frozen_set _ _ _ _ _).trans Rf1
            replace Rf2 : (ws20.setCell ⟨wd.heap.size, 5, none⟩ (.int .i64 e4)).frozen? _ = false := (frozen_set _ _ _ _ _).trans Rf2
            replace Rf3 : (ws20.setCell ⟨wd.heap.size, 5, none⟩ (.int .i64 e4)).frozen? _ = false := (frozen_set _ _ _ _ _).trans Rf3
            replace Rf4 : (ws20.setCell ⟨wd.heap.size, 5, none⟩ (.int .i64 e4)).frozen? _ = false := (frozen_set _ _ _ _ _).trans Rf4
            replace Rf5 : (ws20.setCell ⟨wd.heap.size, 5, none⟩ (.int .i64 e4)).frozen? _ = false := (frozen_set _ _ _ _ _).trans Rf5
            replace Y_f0 : (ws20.setCell ⟨wd.heap.size, 5, none⟩ (.int .i64 e4)).frozen? _ = false := (frozen_set _ _ _ _ _).trans Y_f0
            replace Y_f1 : (ws20.setCell ⟨wd.heap.size, 5, none⟩ (.int .i64 e4)).frozen? _ = false := (frozen_set _ _ _ _ _).trans Y_f1
            replace Y_f2 : (ws20.setCell ⟨wd.heap.size, 5, none⟩ (.int .i64 e4)).frozen? _ = false := (frozen_set _ _ _ _ _).trans Y_f2
            replace Y_f3 : (ws20.setCell ⟨wd.heap.size, 5, none⟩ (.int .i64 e4)).frozen? _ = false := (frozen_set _ _ _ _ _).trans Y_f3
            replace Y_f4 : (ws20.setCell ⟨wd.heap.size, 5, none⟩ (.int .i64 e4)).frozen? _ = false := (frozen_set _ _ _ _ _).trans Y_f4
            replace Y_f5 : (ws20.setCell ⟨wd.heap.size, 5, none⟩ (.int .i64 e4)).frozen? _ = false := (frozen_set _ _ _ _ _).trans Y_f5
            replace X_f0 : (ws20.setCell ⟨wd.heap.size, 5, none⟩ (.int .i64 e4)).frozen? _ = false := (frozen_set _ _ _ _ _).trans X_f0
            replace X_f1 : (ws20.setCell ⟨wd.heap.size, 5, none⟩ (.int .i64 e4)).frozen? _ = false := (frozen_set _ _ _ _ _).trans X_f1
            replace X_f2 : (ws20.setCell ⟨wd.heap.size, 5, none⟩ (.int .i64 e4)).frozen? _ = false := (frozen_set _ _ _ _ _).trans X_f2
            replace X_f3 : (ws20.setCell ⟨wd.heap.size, 5, none⟩ (.int .i64 e4)).frozen? _ = false := (frozen_set _ _ _ _ _).trans X_f3
            replace X_f4 : (ws20.setCell ⟨wd.heap.size, 5, none⟩ (.int .i64 e4)).frozen? _ = false := (frozen_set _ _ _ _ _).trans X_f4
            replace X_f5 : (ws20.setCell ⟨wd.heap.size, 5, none⟩ (.int .i64 e4)).frozen? _ = false := (frozen_set _ _ _ _ _).trans X_f5
            replace Y_5 : (ws20.setCell ⟨wd.heap.size, 5, none⟩ (.int .i64 e4)).cell? ⟨wd.heap.size, 5, none⟩ = some (.int .i64 e4) := cell_on _ _ _ _ _ Y_5
            replace kw := kw.setNew (p := ⟨wd.heap.size, 5, none⟩) (by dsimp only; omega) (.int .i64 e4)
            replace K := hide ((unhide K).setNew (p := ⟨wd.heap.size, 5, none⟩) (by dsimp only; omega) (.int .i64 e4))
            have zs21 : (ws20.setCell ⟨wd.heap.size, 5, none⟩ (.int .i64 e4)).heap.size = ws20.heap.size := by simp [World.setCell]
            clear sS0
            generalize ws20.setCell ⟨wd.heap.size, 5, none⟩ (.int .i64 e4) = ws21 at *
            refine wpAnyH_done (by kernel_rfl) ?_ _
            clear hHeld
            go_wp2_with fail
            go_meet
            exact ⟨_, _, rfl, rfl, X_0, X_1, X_2, X_3, X_4, X_5, Y_0, Y_1, Y_2, Y_3, Y_4, Y_5, kw⟩
  case rest =>
    obtain ⟨X, Y, rfl, rfl, X_0, X_1, X_2, X_3, X_4, X_5, Y_0, Y_1, Y_2, Y_3, Y_4, Y_5, kk⟩ := hcut
    replace r1 := r1.kept kk (.inr (.inr (Nat.le_refl 0)))
    replace r2 := r2.kept kk (.inr (.inr (Nat.le_refl 0)))
    replace r3 := r3.kept kk (.inr (.inr (Nat.le_refl 0)))
    replace r4 := r4.kept kk (.inr (.inr (Nat.le_refl 0)))
    replace Rf0 := kk.loose0 (World.block_lt_of_cell? _ _ R0) Rf0
    replace Rf1 := kk.loose0 (World.block_lt_of_cell? _ _ R1) Rf1
    replace Rf2 := kk.loose0 (World.block_lt_of_cell? _ _ R2) Rf2
    replace Rf3 := kk.loose0 (World.block_lt_of_cell? _ _ R3) Rf3
    replace Rf4 := kk.loose0 (World.block_lt_of_cell? _ _ R4) Rf4
    replace Rf5 := kk.loose0 (World.block_lt_of_cell? _ _ R5) Rf5
    replace bp0 := kk.cell0 bp0
    replace bp1 := kk.cell0 bp1
    replace bp2 := kk.cell0 bp2
    replace bp3 := kk.cell0 bp3
    replace bp4 := kk.cell0 bp4
    replace bp5 := kk.cell0 bp5
    replace bq0 := kk.cell0 bq0
    replace bq1 := kk.cell0 bq1
    replace bq2 := kk.cell0 bq2
    replace bq3 := kk.cell0 bq3
    replace bq4 := kk.cell0 bq4
    replace bq5 := kk.cell0 bq5
    replace R0 := kk.cell0 R0
    replace R1 := kk.cell0 R1
    replace R2 := kk.cell0 R2
    replace R3 := kk.cell0 R3
    replace R4 := kk.cell0 R4
    replace R5 := kk.cell0 R5
    replace K := hide ((unhide K).trans kk)
    have z5 := kk.size
    clear kk
    generalize hwc : wc = we6 at *
    clear hwc
    go_wp2_with fail
    have mk := (bothEnds_P s1 s2 s3 s4 e1 e2 e3 e4 38 in_ivadd1 we6 (fun w1 kk => ivadd1_impl s1 e1 hu1 hd1 s3 e3 hu3 hd3 w1 (r1.kept kk (by omega)) (r3.kept kk (by omega)) ((T.kept (unhide K)).kept kk) 3) (fun w1 kk => ivadd1_impl s2 e2 hu2 hd2 s4 e4 hu4 hd4 w1 (r2.kept kk (by omega)) (r4.kept kk (by omega)) ((T.kept (unhide K)).kept kk) 2)).mono (fun e w' h => ivAns_ans (unhide HC) (show (dokB s1 l1 e1 && dokB s3 l3 e3) = true by rw [unhide I1, unhide I3]; rfl) (show (dokB s2 l2 e2 && dokB s4 l4 e4) = true by rw [unhide I2, unhide I4]; rfl) h)
    rw [unhide HCC, unhide HW1, unhide HD1, unhide HQ1, unhide HW2, unhide HD2, unhide HQ2] at mk
    refine (mk).mono ?_
    rintro e w7 h5
    skip
    obtain ⟨q1, y1, M1, q2, y2, M2, vL, vM, mid, rfl, rL, rM, hm1, hm2, k5, hq⟩ := ivAns_open h5
    have HQ := hide hq
    clear hq h5
    replace r1 := r1.kept k5 (.inr (.inr (Nat.le_refl 0)))
    replace r2 := r2.kept k5 (.inr (.inr (Nat.le_refl 0)))
    replace r3 := r3.kept k5 (.inr (.inr (Nat.le_refl 0)))
    replace r4 := r4.kept k5 (.inr (.inr (Nat.le_refl 0)))
    replace Rf0 := k5.loose0 (World.block_lt_of_cell? _ _ R0) Rf0
    replace Rf1 := k5.loose0 (World.block_lt_of_cell? _ _ R1) Rf1
    replace Rf2 := k5.loose0 (World.block_lt_of_cell? _ _ R2) Rf2
    replace Rf3 := k5.loose0 (World.block_lt_of_cell? _ _ R3) Rf3
    replace Rf4 := k5.loose0 (World.block_lt_of_cell? _ _ R4) Rf4
    replace Rf5 := k5.loose0 (World.block_lt_of_cell? _ _ R5) Rf5
    replace bp0 := k5.cell0 bp0
    replace bp1 := k5.cell0 bp1
    replace bp2 := k5.cell0 bp2
    replace bp3 := k5.cell0 bp3
    replace bp4 := k5.cell0 bp4
    replace bp5 := k5.cell0 bp5
    replace bq0 := k5.cell0 bq0
    replace bq1 := k5.cell0 bq1
    replace bq2 := k5.cell0 bq2
    replace bq3 := k5.cell0 bq3
    replace bq4 := k5.cell0 bq4
    replace bq5 := k5.cell0 bq5
    replace R0 := k5.cell0 R0
    replace R1 := k5.cell0 R1
    replace R2 := k5.cell0 R2
    replace R3 := k5.cell0 R3
    replace R4 := k5.cell0 R4
    replace R5 := k5.cell0 R5
    replace X_0 := k5.cell0 X_0
    replace X_1 := k5.cell0 X_1
    replace X_2 := k5.cell0 X_2
    replace X_3 := k5.cell0 X_3
    replace X_4 := k5.cell0 X_4
    replace X_5 := k5.cell0 X_5
    replace Y_0 := k5.cell0 Y_0
    replace Y_1 := k5.cell0 Y_1
    replace Y_2 := k5.cell0 Y_2
    replace Y_3 := k5.cell0 Y_3
    replace Y_4 := k5.cell0 Y_4
    replace Y_5 := k5.cell0 Y_5
    replace K := hide ((unhide K).trans k5)
    have z8 := k5.size
    clear k5
    obtain ⟨aL, dL, hv⟩ := Row.form' rL
    subst hv
    obtain ⟨aM, dM, hv⟩ := Row.form' rM
    subst hv
    have RL := hide ((((((rL.set_other (p := ⟨w.heap.size + 2, 0, none⟩) (.inl (by have := unhide S0; dsimp only; omega)) (.bool q1)).set_other (p := ⟨w.heap.size + 2, 1, none⟩) (.inl (by have := unhide S0; dsimp only; omega)) (.slice aL M1.length dL)).set_other (p := ⟨w.heap.size + 2, 2, none⟩) (.inl (by have := unhide S0; dsimp only; omega)) (.int .i64 y1)).set_other (p := ⟨w.heap.size + 2, 3, none⟩) (.inl (by have := unhide S0; dsimp only; omega)) (.bool q2)).set_other (p := ⟨w.heap.size + 2, 4, none⟩) (.inl (by have := unhide S0; dsimp only; omega)) (.slice aM M2.length dM)).set_other (p := ⟨w.heap.size + 2, 5, none⟩) (.inl (by have := unhide S0; dsimp only; omega)) (.int .i64 y2))
    have RM := hide ((((((rM.set_other (p := ⟨w.heap.size + 2, 0, none⟩) (.inl (by have := unhide S0; dsimp only; omega)) (.bool q1)).set_other (p := ⟨w.heap.size + 2, 1, none⟩) (.inl (by have := unhide S0; dsimp only; omega)) (.slice aL M1.length dL)).set_other (p := ⟨w.heap.size + 2, 2, none⟩) (.inl (by have := unhide S0; dsimp only; omega)) (.int .i64 y1)).set_other (p := ⟨w.heap.size + 2, 3, none⟩) (.inl (by have := unhide S0; dsimp only; omega)) (.bool q2)).set_other (p := ⟨w.heap.size + 2, 4, none⟩) (.inl (by have := unhide S0; dsimp only; omega)) (.slice aM M2.length dM)).set_other (p := ⟨w.heap.size + 2, 5, none⟩) (.inl (by have := unhide S0; dsimp only; omega)) (.int .i64 y2))
    have K7 := hide (((((((unhide K).setNew (p := ⟨w.heap.size + 2, 0, none⟩) (by simp) (.bool q1)).setNew (p := ⟨w.heap.size + 2, 1, none⟩) (by simp) (.slice aL M1.length dL)).setNew (p := ⟨w.heap.size + 2, 2, none⟩) (by simp) (.int .i64 y1)).setNew (p := ⟨w.heap.size + 2, 3, none⟩) (by simp) (.bool q2)).setNew (p := ⟨w.heap.size + 2, 4, none⟩) (by simp) (.slice aM M2.length dM)).setNew (p := ⟨w.heap.size + 2, 5, none⟩) (by simp) (.int .i64 y2))
    clear r1 r2 r3 r4 rL rM K
    go_wp2_with fail
    have sS0 := unhide S0
    exact bodyPost_ret (v := .tuple #[.agg #[.bool q1, .slice aL M1.length dL, .int .i64 y1, .bool q2, .slice aM M2.length dM, .int .i64 y2], .bool CC]) (by simp [results, Tryd.results19, go_sem, R0, R1, R2, R3, R4, R5]) rfl (ivAns_shut (unhide HQ) ((unhide RL).wider (by omega) (Nat.le_refl _)) (unhide RM).tight (by omega) (by simp only [size_set]; omega) (unhide K7))

set_option maxHeartbeats 8000000 in
theorem ivsub_impl {b1 b2 b3 b4 : Bool} {w1l w1h w2l w2h w3l w3h w4l w4h : Nat} {v1 v2 v3 v4 : Value} {l1 l2 l3 l4 : List Int} (s1 : Bool) (e1 : Int) (hu1 : e1 ≤ 9223372036854775807) (hd1 : -9223372036854775808 ≤ e1) (s2 : Bool) (e2 : Int) (hu2 : e2 ≤ 9223372036854775807) (hd2 : -9223372036854775808 ≤ e2) (s3 : Bool) (e3 : Int) (hu3 : e3 ≤ 9223372036854775807) (hd3 : -9223372036854775808 ≤ e3) (s4 : Bool) (e4 : Int) (hu4 : e4 ≤ 9223372036854775807) (hd4 : -9223372036854775808 ≤ e4) (w : World) (r1 : Row .i64 b1 w1l w1h w v1 l1) (r2 : Row .i64 b2 w2l w2h w v2 l2) (r3 : Row .i64 b3 w3l w3h w v3 l3) (r4 : Row .i64 b4 w4l w4h w v4 l4) (T : TabB w) :
    Calls Tryd.prog 21 #[.agg #[.bool s1, v1, .int .i64 e1, .bool s2, v2, .int .i64 e2], .agg #[.bool s3, v3, .int .i64 e3, .bool s4, v4, .int .i64 e4]] w fun e w' => IvAns (ivC (iokB s1 l1 e1 s2 l2 e2 && iokB s3 l3 e3 s4 l4 e4) (wval s1 l1 * 2 ^ (e1 - min e1 e4).toNat - wval s4 l4 * 2 ^ (e4 - min e1 e4).toNat) (min e1 e4) (wval s2 l2 * 2 ^ (e2 - min e2 e3).toNat - wval s3 l3 * 2 ^ (e3 - min e2 e3).toNat) (min e2 e3)) (wsg (wval s1 l1 * 2 ^ (e1 - min e1 e4).toNat - wval s4 l4 * 2 ^ (e4 - min e1 e4).toNat)) (dex (wval s1 l1 * 2 ^ (e1 - min e1 e4).toNat - wval s4 l4 * 2 ^ (e4 - min e1 e4).toNat) (min e1 e4)) (dlm (wval s1 l1 * 2 ^ (e1 - min e1 e4).toNat - wval s4 l4 * 2 ^ (e4 - min e1 e4).toNat)) (wsg (wval s2 l2 * 2 ^ (e2 - min e2 e3).toNat - wval s3 l3 * 2 ^ (e3 - min e2 e3).toNat)) (dex (wval s2 l2 * 2 ^ (e2 - min e2 e3).toNat - wval s3 l3 * 2 ^ (e3 - min e2 e3).toNat) (min e2 e3)) (dlm (wval s2 l2 * 2 ^ (e2 - min e2 e3).toNat - wval s3 l3 * 2 ^ (e3 - min e2 e3).toNat)) w e w' := by
  replace r1 := r1.tight
  replace r2 := r2.tight
  replace r3 := r3.tight
  replace r4 := r4.tight
  obtain ⟨CC, hCC⟩ : ∃ c, ivC (iokB s1 l1 e1 s2 l2 e2 && iokB s3 l3 e3 s4 l4 e4) (wval s1 l1 * 2 ^ (e1 - min e1 e4).toNat - wval s4 l4 * 2 ^ (e4 - min e1 e4).toNat) (min e1 e4) (wval s2 l2 * 2 ^ (e2 - min e2 e3).toNat - wval s3 l3 * 2 ^ (e3 - min e2 e3).toNat) (min e2 e3) = c := ⟨_, rfl⟩
  rw [hCC]
  have HCC := hide hCC
  clear hCC
  obtain ⟨W1, hW1⟩ : ∃ c, wsg (wval s1 l1 * 2 ^ (e1 - min e1 e4).toNat - wval s4 l4 * 2 ^ (e4 - min e1 e4).toNat) = c := ⟨_, rfl⟩
  obtain ⟨D1, hD1⟩ : ∃ c, dex (wval s1 l1 * 2 ^ (e1 - min e1 e4).toNat - wval s4 l4 * 2 ^ (e4 - min e1 e4).toNat) (min e1 e4) = c := ⟨_, rfl⟩
  obtain ⟨Q1, hQ1⟩ : ∃ c, dlm (wval s1 l1 * 2 ^ (e1 - min e1 e4).toNat - wval s4 l4 * 2 ^ (e4 - min e1 e4).toNat) = c := ⟨_, rfl⟩
  obtain ⟨W2, hW2⟩ : ∃ c, wsg (wval s2 l2 * 2 ^ (e2 - min e2 e3).toNat - wval s3 l3 * 2 ^ (e3 - min e2 e3).toNat) = c := ⟨_, rfl⟩
  obtain ⟨D2, hD2⟩ : ∃ c, dex (wval s2 l2 * 2 ^ (e2 - min e2 e3).toNat - wval s3 l3 * 2 ^ (e3 - min e2 e3).toNat) (min e2 e3) = c := ⟨_, rfl⟩
  obtain ⟨Q2, hQ2⟩ : ∃ c, dlm (wval s2 l2 * 2 ^ (e2 - min e2 e3).toNat - wval s3 l3 * 2 ^ (e3 - min e2 e3).toNat) = c := ⟨_, rfl⟩
  try rw [hW1]
  try rw [hD1]
  try rw [hQ1]
  try rw [hW2]
  try rw [hD2]
  try rw [hQ2]
  have HW1 := hide hW1
  clear hW1
  have HD1 := hide hD1
  clear hD1
  have HQ1 := hide hQ1
  clear hQ1
  have HW2 := hide hW2
  clear hW2
  have HD2 := hide hD2
  clear hD2
  have HQ2 := hide hQ2
  clear hQ2
  have k0 : Kept 0 0 w (((w.alloc (.cells #[.bool s1, v1, .int .i64 e1, .bool s2, v2, .int .i64 e2] 36)).alloc (.cells #[.bool s3, v3, .int .i64 e3, .bool s4, v4, .int .i64 e4] 36)).alloc (.cells #[.bool false, .slice none 0 0, .int .i64 0, .bool false, .slice none 0 0, .int .i64 0] 36)) := ((((Kept.refl 0 0 w).alloc (.cells #[.bool s1, v1, .int .i64 e1, .bool s2, v2, .int .i64 e2] 36)).alloc (.cells #[.bool s3, v3, .int .i64 e3, .bool s4, v4, .int .i64 e4] 36)).alloc (.cells #[.bool false, .slice none 0 0, .int .i64 0, .bool false, .slice none 0 0, .int .i64 0] 36))
  have bp0 : (((w.alloc (.cells #[.bool s1, v1, .int .i64 e1, .bool s2, v2, .int .i64 e2] 36)).alloc (.cells #[.bool s3, v3, .int .i64 e3, .bool s4, v4, .int .i64 e4] 36)).alloc (.cells #[.bool false, .slice none 0 0, .int .i64 0, .bool false, .slice none 0 0, .int .i64 0] 36)).cell? ⟨w.heap.size, 0, none⟩ = some (.bool s1) := old_cell _ (old_cell _ (new_cell2 _ _ _ _ _ _ (by simp) rfl))
  have bp1 : (((w.alloc (.cells #[.bool s1, v1, .int .i64 e1, .bool s2, v2, .int .i64 e2] 36)).alloc (.cells #[.bool s3, v3, .int .i64 e3, .bool s4, v4, .int .i64 e4] 36)).alloc (.cells #[.bool false, .slice none 0 0, .int .i64 0, .bool false, .slice none 0 0, .int .i64 0] 36)).cell? ⟨w.heap.size, 1, none⟩ = some (v1) := old_cell _ (old_cell _ (new_cell2 _ _ _ _ _ _ (by simp) rfl))
  have bp2 : (((w.alloc (.cells #[.bool s1, v1, .int .i64 e1, .bool s2, v2, .int .i64 e2] 36)).alloc (.cells #[.bool s3, v3, .int .i64 e3, .bool s4, v4, .int .i64 e4] 36)).alloc (.cells #[.bool false, .slice none 0 0, .int .i64 0, .bool false, .slice none 0 0, .int .i64 0] 36)).cell? ⟨w.heap.size, 2, none⟩ = some (.int .i64 e1) := old_cell _ (old_cell _ (new_cell2 _ _ _ _ _ _ (by simp) rfl))
  have bp3 : (((w.alloc (.cells #[.bool s1, v1, .int .i64 e1, .bool s2, v2, .int .i64 e2] 36)).alloc (.cells #[.bool s3, v3, .int .i64 e3, .bool s4, v4, .int .i64 e4] 36)).alloc (.cells #[.bool false, .slice none 0 0, .int .i64 0, .bool false, .slice none 0 0, .int .i64 0] 36)).cell? ⟨w.heap.size, 3, none⟩ = some (.bool s2) := old_cell _ (old_cell _ (new_cell2 _ _ _ _ _ _ (by simp) rfl))
  have bp4 : (((w.alloc (.cells #[.bool s1, v1, .int .i64 e1, .bool s2, v2, .int .i64 e2] 36)).alloc (.cells #[.bool s3, v3, .int .i64 e3, .bool s4, v4, .int .i64 e4] 36)).alloc (.cells #[.bool false, .slice none 0 0, .int .i64 0, .bool false, .slice none 0 0, .int .i64 0] 36)).cell? ⟨w.heap.size, 4, none⟩ = some (v2) := old_cell _ (old_cell _ (new_cell2 _ _ _ _ _ _ (by simp) rfl))
  have bp5 : (((w.alloc (.cells #[.bool s1, v1, .int .i64 e1, .bool s2, v2, .int .i64 e2] 36)).alloc (.cells #[.bool s3, v3, .int .i64 e3, .bool s4, v4, .int .i64 e4] 36)).alloc (.cells #[.bool false, .slice none 0 0, .int .i64 0, .bool false, .slice none 0 0, .int .i64 0] 36)).cell? ⟨w.heap.size, 5, none⟩ = some (.int .i64 e2) := old_cell _ (old_cell _ (new_cell2 _ _ _ _ _ _ (by simp) rfl))
  have bq0 : (((w.alloc (.cells #[.bool s1, v1, .int .i64 e1, .bool s2, v2, .int .i64 e2] 36)).alloc (.cells #[.bool s3, v3, .int .i64 e3, .bool s4, v4, .int .i64 e4] 36)).alloc (.cells #[.bool false, .slice none 0 0, .int .i64 0, .bool false, .slice none 0 0, .int .i64 0] 36)).cell? ⟨w.heap.size + 1, 0, none⟩ = some (.bool s3) := old_cell _ (new_cell2 _ _ _ _ _ _ (by simp) rfl)
  have bq1 : (((w.alloc (.cells #[.bool s1, v1, .int .i64 e1, .bool s2, v2, .int .i64 e2] 36)).alloc (.cells #[.bool s3, v3, .int .i64 e3, .bool s4, v4, .int .i64 e4] 36)).alloc (.cells #[.bool false, .slice none 0 0, .int .i64 0, .bool false, .slice none 0 0, .int .i64 0] 36)).cell? ⟨w.heap.size + 1, 1, none⟩ = some (v3) := old_cell _ (new_cell2 _ _ _ _ _ _ (by simp) rfl)
  have bq2 : (((w.alloc (.cells #[.bool s1, v1, .int .i64 e1, .bool s2, v2, .int .i64 e2] 36)).alloc (.cells #[.bool s3, v3, .int .i64 e3, .bool s4, v4, .int .i64 e4] 36)).alloc (.cells #[.bool false, .slice none 0 0, .int .i64 0, .bool false, .slice none 0 0, .int .i64 0] 36)).cell? ⟨w.heap.size + 1, 2, none⟩ = some (.int .i64 e3) := old_cell _ (new_cell2 _ _ _ _ _ _ (by simp) rfl)
  have bq3 : (((w.alloc (.cells #[.bool s1, v1, .int .i64 e1, .bool s2, v2, .int .i64 e2] 36)).alloc (.cells #[.bool s3, v3, .int .i64 e3, .bool s4, v4, .int .i64 e4] 36)).alloc (.cells #[.bool false, .slice none 0 0, .int .i64 0, .bool false, .slice none 0 0, .int .i64 0] 36)).cell? ⟨w.heap.size + 1, 3, none⟩ = some (.bool s4) := old_cell _ (new_cell2 _ _ _ _ _ _ (by simp) rfl)
  have bq4 : (((w.alloc (.cells #[.bool s1, v1, .int .i64 e1, .bool s2, v2, .int .i64 e2] 36)).alloc (.cells #[.bool s3, v3, .int .i64 e3, .bool s4, v4, .int .i64 e4] 36)).alloc (.cells #[.bool false, .slice none 0 0, .int .i64 0, .bool false, .slice none 0 0, .int .i64 0] 36)).cell? ⟨w.heap.size + 1, 4, none⟩ = some (v4) := old_cell _ (new_cell2 _ _ _ _ _ _ (by simp) rfl)
  have bq5 : (((w.alloc (.cells #[.bool s1, v1, .int .i64 e1, .bool s2, v2, .int .i64 e2] 36)).alloc (.cells #[.bool s3, v3, .int .i64 e3, .bool s4, v4, .int .i64 e4] 36)).alloc (.cells #[.bool false, .slice none 0 0, .int .i64 0, .bool false, .slice none 0 0, .int .i64 0] 36)).cell? ⟨w.heap.size + 1, 5, none⟩ = some (.int .i64 e4) := old_cell _ (new_cell2 _ _ _ _ _ _ (by simp) rfl)
  have R0 : (((w.alloc (.cells #[.bool s1, v1, .int .i64 e1, .bool s2, v2, .int .i64 e2] 36)).alloc (.cells #[.bool s3, v3, .int .i64 e3, .bool s4, v4, .int .i64 e4] 36)).alloc (.cells #[.bool false, .slice none 0 0, .int .i64 0, .bool false, .slice none 0 0, .int .i64 0] 36)).cell? ⟨w.heap.size + 2, 0, none⟩ = some (.bool false) := new_cell2 _ _ _ _ _ _ (by simp) rfl
  have Rf0 : (((w.alloc (.cells #[.bool s1, v1, .int .i64 e1, .bool s2, v2, .int .i64 e2] 36)).alloc (.cells #[.bool s3, v3, .int .i64 e3, .bool s4, v4, .int .i64 e4] 36)).alloc (.cells #[.bool false, .slice none 0 0, .int .i64 0, .bool false, .slice none 0 0, .int .i64 0] 36)).frozen? ⟨w.heap.size + 2, 0, none⟩ = false := new_loose2 _ _ _ _ _ (by simp)
  have R1 : (((w.alloc (.cells #[.bool s1, v1, .int .i64 e1, .bool s2, v2, .int .i64 e2] 36)).alloc (.cells #[.bool s3, v3, .int .i64 e3, .bool s4, v4, .int .i64 e4] 36)).alloc (.cells #[.bool false, .slice none 0 0, .int .i64 0, .bool false, .slice none 0 0, .int .i64 0] 36)).cell? ⟨w.heap.size + 2, 1, none⟩ = some (.slice none 0 0) := new_cell2 _ _ _ _ _ _ (by simp) rfl
  have Rf1 : (((w.alloc (.cells #[.bool s1, v1, .int .i64 e1, .bool s2, v2, .int .i64 e2] 36)).alloc (.cells #[.bool s3, v3, .int .i64 e3, .bool s4, v4, .int .i64 e4] 36)).alloc (.cells #[.bool false, .slice none 0 0, .int .i64 0, .bool false, .slice none 0 0, .int .i64 0] 36)).frozen? ⟨w.heap.size + 2, 1, none⟩ = false := new_loose2 _ _ _ _ _ (by simp)
  have R2 : (((w.alloc (.cells #[.bool s1, v1, .int .i64 e1, .bool s2, v2, .int .i64 e2] 36)).alloc (.cells #[.bool s3, v3, .int .i64 e3, .bool s4, v4, .int .i64 e4] 36)).alloc (.cells #[.bool false, .slice none 0 0, .int .i64 0, .bool false, .slice none 0 0, .int .i64 0] 36)).cell? ⟨w.heap.size + 2, 2, none⟩ = some (.int .i64 0) := new_cell2 _ _ _ _ _ _ (by simp) rfl
  have Rf2 : (((w.alloc (.cells #[.bool s1, v1, .int .i64 e1, .bool s2, v2, .int .i64 e2] 36)).alloc (.cells #[.bool s3, v3, .int .i64 e3, .bool s4, v4, .int .i64 e4] 36)).alloc (.cells #[.bool false, .slice none 0 0, .int .i64 0, .bool false, .slice none 0 0, .int .i64 0] 36)).frozen? ⟨w.heap.size + 2, 2, none⟩ = false := new_loose2 _ _ _ _ _ (by simp)
  have R3 : (((w.alloc (.cells #[.bool s1, v1, .int .i64 e1, .bool s2, v2, .int .i64 e2] 36)).alloc (.cells #[.bool s3, v3, .int .i64 e3, .bool s4, v4, .int .i64 e4] 36)).alloc (.cells #[.bool false, .slice none 0 0, .int .i64 0, .bool false, .slice none 0 0, .int .i64 0] 36)).cell? ⟨w.heap.size + 2, 3, none⟩ = some (.bool false) := new_cell2 _ _ _ _ _ _ (by simp) rfl
  have Rf3 : (((w.alloc (.cells #[.bool s1, v1, .int .i64 e1, .bool s2, v2, .int .i64 e2] 36)).alloc (.cells #[.bool s3, v3, .int .i64 e3, .bool s4, v4, .int .i64 e4] 36)).alloc (.cells #[.bool false, .slice none 0 0, .int .i64 0, .bool false, .slice none 0 0, .int .i64 0] 36)).frozen? ⟨w.heap.size + 2, 3, none⟩ = false := new_loose2 _ _ _ _ _ (by simp)
  have R4 : (((w.alloc (.cells #[.bool s1, v1, .int .i64 e1, .bool s2, v2, .int .i64 e2] 36)).alloc (.cells #[.bool s3, v3, .int .i64 e3, .bool s4, v4, .int .i64 e4] 36)).alloc (.cells #[.bool false, .slice none 0 0, .int .i64 0, .bool false, .slice none 0 0, .int .i64 0] 36)).cell? ⟨w.heap.size + 2, 4, none⟩ = some (.slice none 0 0) := new_cell2 _ _ _ _ _ _ (by simp) rfl
  have Rf4 : (((w.alloc (.cells #[.bool s1, v1, .int .i64 e1, .bool s2, v2, .int .i64 e2] 36)).alloc (.cells #[.bool s3, v3, .int .i64 e3, .bool s4, v4, .int .i64 e4] 36)).alloc (.cells #[.bool false, .slice none 0 0, .int .i64 0, .bool false, .slice none 0 0, .int .i64 0] 36)).frozen? ⟨w.heap.size + 2, 4, none⟩ = false := new_loose2 _ _ _ _ _ (by simp)
  have R5 : (((w.alloc (.cells #[.bool s1, v1, .int .i64 e1, .bool s2, v2, .int .i64 e2] 36)).alloc (.cells #[.bool s3, v3, .int .i64 e3, .bool s4, v4, .int .i64 e4] 36)).alloc (.cells #[.bool false, .slice none 0 0, .int .i64 0, .bool false, .slice none 0 0, .int .i64 0] 36)).cell? ⟨w.heap.size + 2, 5, none⟩ = some (.int .i64 0) := new_cell2 _ _ _ _ _ _ (by simp) rfl
  have Rf5 : (((w.alloc (.cells #[.bool s1, v1, .int .i64 e1, .bool s2, v2, .int .i64 e2] 36)).alloc (.cells #[.bool s3, v3, .int .i64 e3, .bool s4, v4, .int .i64 e4] 36)).alloc (.cells #[.bool false, .slice none 0 0, .int .i64 0, .bool false, .slice none 0 0, .int .i64 0] 36)).frozen? ⟨w.heap.size + 2, 5, none⟩ = false := new_loose2 _ _ _ _ _ (by simp)
  replace r1 := r1.kept k0 (by omega)
  replace r2 := r2.kept k0 (by omega)
  replace r3 := r3.kept k0 (by omega)
  replace r4 := r4.kept k0 (by omega)
  have s0 : (((w.alloc (.cells #[.bool s1, v1, .int .i64 e1, .bool s2, v2, .int .i64 e2] 36)).alloc (.cells #[.bool s3, v3, .int .i64 e3, .bool s4, v4, .int .i64 e4] 36)).alloc (.cells #[.bool false, .slice none 0 0, .int .i64 0, .bool false, .slice none 0 0, .int .i64 0] 36)).heap.size = w.heap.size + 3 := by simp
  obtain ⟨a1, c1, hv⟩ := Row.form' r1
  subst hv
  obtain ⟨a2, c2, hv⟩ := Row.form' r2
  subst hv
  obtain ⟨a3, c3, hv⟩ := Row.form' r3
  subst hv
  obtain ⟨a4, c4, hv⟩ := Row.form' r4
  subst hv
  have K := hide (k0)
  clear k0
  have S0 := hide s0
  clear s0
  go_enter Tryd.func21, Tryd.ntmps21
  go_wp2_with fail
  generalize (((w.alloc (.cells #[.bool s1, .slice a1 l1.length c1, .int .i64 e1, .bool s2, .slice a2 l2.length c2, .int .i64 e2] 36)).alloc (.cells #[.bool s3, .slice a3 l3.length c3, .int .i64 e3, .bool s4, .slice a4 l4.length c4, .int .i64 e4] 36)).alloc (.cells #[.bool false, .slice none 0 0, .int .i64 0, .bool false, .slice none 0 0, .int .i64 0] 36)) = W at *
  refine (ivok_impl s1 e1 hu1 hd1 s2 e2 hu2 hd2 _ r1 r2).mono ?_
  rintro e w1 ⟨rfl, k1⟩
  replace r1 := r1.kept k1 (.inr (.inr (Nat.le_refl 0)))
  replace r2 := r2.kept k1 (.inr (.inr (Nat.le_refl 0)))
  replace r3 := r3.kept k1 (.inr (.inr (Nat.le_refl 0)))
  replace r4 := r4.kept k1 (.inr (.inr (Nat.le_refl 0)))
  replace Rf0 := k1.loose0 (World.block_lt_of_cell? _ _ R0) Rf0
  replace Rf1 := k1.loose0 (World.block_lt_of_cell? _ _ R1) Rf1
  replace Rf2 := k1.loose0 (World.block_lt_of_cell? _ _ R2) Rf2
  replace Rf3 := k1.loose0 (World.block_lt_of_cell? _ _ R3) Rf3
  replace Rf4 := k1.loose0 (World.block_lt_of_cell? _ _ R4) Rf4
  replace Rf5 := k1.loose0 (World.block_lt_of_cell? _ _ R5) Rf5
  replace bp0 := k1.cell0 bp0
  replace bp1 := k1.cell0 bp1
  replace bp2 := k1.cell0 bp2
  replace bp3 := k1.cell0 bp3
  replace bp4 := k1.cell0 bp4
  replace bp5 := k1.cell0 bp5
  replace bq0 := k1.cell0 bq0
  replace bq1 := k1.cell0 bq1
  replace bq2 := k1.cell0 bq2
  replace bq3 := k1.cell0 bq3
  replace bq4 := k1.cell0 bq4
  replace bq5 := k1.cell0 bq5
  replace R0 := k1.cell0 R0
  replace R1 := k1.cell0 R1
  replace R2 := k1.cell0 R2
  replace R3 := k1.cell0 R3
  replace R4 := k1.cell0 R4
  replace R5 := k1.cell0 R5
  replace K := hide ((unhide K).trans k1)
  have z2 := k1.size
  clear k1
  cases ho : iokB s1 l1 e1 s2 l2 e2
  · have EC : Hid (CC = false) := by show _ = _; rw [← unhide HCC]; exact ivC_no (by rw [ho]; rfl)
    have K7 := hide (((((((unhide K).setNew (p := ⟨w.heap.size + 2, 0, none⟩) (by simp) (.bool false)).setNew (p := ⟨w.heap.size + 2, 1, none⟩) (by simp) (.slice none 0 0)).setNew (p := ⟨w.heap.size + 2, 2, none⟩) (by simp) (.int .i64 0)).setNew (p := ⟨w.heap.size + 2, 3, none⟩) (by simp) (.bool false)).setNew (p := ⟨w.heap.size + 2, 4, none⟩) (by simp) (.slice none 0 0)).setNew (p := ⟨w.heap.size + 2, 5, none⟩) (by simp) (.int .i64 0))
    clear r1 r2 r3 r4 K
    go_wp2_with fail
    exact bodyPost_ret (v := .tuple #[.agg #[.bool false, .slice none 0 0, .int .i64 0, .bool false, .slice none 0 0, .int .i64 0], .bool false]) (by simp [results, Tryd.results21, go_sem, R0, R1, R2, R3, R4, R5]) rfl (by rw [unhide EC]; exact ivAns_no (unhide K7))
  obtain ⟨i1, i2, -⟩ := iok_parts ho
  have I1 := hide i1
  have I2 := hide i2
  have HO := hide ho
  clear ho i1 i2
  go_wp2_with fail
  refine (ivok_impl s3 e3 hu3 hd3 s4 e4 hu4 hd4 _ r3 r4).mono ?_
  rintro e w3 ⟨rfl, k3⟩
  replace r1 := r1.kept k3 (.inr (.inr (Nat.le_refl 0)))
  replace r2 := r2.kept k3 (.inr (.inr (Nat.le_refl 0)))
  replace r3 := r3.kept k3 (.inr (.inr (Nat.le_refl 0)))
  replace r4 := r4.kept k3 (.inr (.inr (Nat.le_refl 0)))
  replace Rf0 := k3.loose0 (World.block_lt_of_cell? _ _ R0) Rf0
  replace Rf1 := k3.loose0 (World.block_lt_of_cell? _ _ R1) Rf1
  replace Rf2 := k3.loose0 (World.block_lt_of_cell? _ _ R2) Rf2
  replace Rf3 := k3.loose0 (World.block_lt_of_cell? _ _ R3) Rf3
  replace Rf4 := k3.loose0 (World.block_lt_of_cell? _ _ R4) Rf4
  replace Rf5 := k3.loose0 (World.block_lt_of_cell? _ _ R5) Rf5
  replace bp0 := k3.cell0 bp0
  replace bp1 := k3.cell0 bp1
  replace bp2 := k3.cell0 bp2
  replace bp3 := k3.cell0 bp3
  replace bp4 := k3.cell0 bp4
  replace bp5 := k3.cell0 bp5
  replace bq0 := k3.cell0 bq0
  replace bq1 := k3.cell0 bq1
  replace bq2 := k3.cell0 bq2
  replace bq3 := k3.cell0 bq3
  replace bq4 := k3.cell0 bq4
  replace bq5 := k3.cell0 bq5
  replace R0 := k3.cell0 R0
  replace R1 := k3.cell0 R1
  replace R2 := k3.cell0 R2
  replace R3 := k3.cell0 R3
  replace R4 := k3.cell0 R4
  replace R5 := k3.cell0 R5
  replace K := hide ((unhide K).trans k3)
  have z4 := k3.size
  clear k3
  cases ho : iokB s3 l3 e3 s4 l4 e4
  · have EC : Hid (CC = false) := by show _ = _; rw [← unhide HCC]; exact ivC_no (by rw [ho, unhide HO]; rfl)
    have K7 := hide (((((((unhide K).setNew (p := ⟨w.heap.size + 2, 0, none⟩) (by simp) (.bool false)).setNew (p := ⟨w.heap.size + 2, 1, none⟩) (by simp) (.slice none 0 0)).setNew (p := ⟨w.heap.size + 2, 2, none⟩) (by simp) (.int .i64 0)).setNew (p := ⟨w.heap.size + 2, 3, none⟩) (by simp) (.bool false)).setNew (p := ⟨w.heap.size + 2, 4, none⟩) (by simp) (.slice none 0 0)).setNew (p := ⟨w.heap.size + 2, 5, none⟩) (by simp) (.int .i64 0))
    clear r1 r2 r3 r4 K
    go_wp2_with fail
    exact bodyPost_ret (v := .tuple #[.agg #[.bool false, .slice none 0 0, .int .i64 0, .bool false, .slice none 0 0, .int .i64 0], .bool false]) (by simp [results, Tryd.results21, go_sem, R0, R1, R2, R3, R4, R5]) rfl (by rw [unhide EC]; exact ivAns_no (unhide K7))
  obtain ⟨i3, i4, -⟩ := iok_parts ho
  have I3 := hide i3
  have I4 := hide i4
  have HC : Hid ((iokB s1 l1 e1 s2 l2 e2 && iokB s3 l3 e3 s4 l4 e4) = true) := by show _ = _; rw [ho, unhide HO]; rfl
  clear ho i3 i4
  go_upto_region 3 with fail
  go_cut [6, 7] (fun p q wx => ∃ X Y, p = .pointer (some ⟨X, 0, none⟩) ∧ q = .pointer (some ⟨Y, 0, none⟩) ∧ wx.cell? ⟨X, 0, none⟩ = some (.bool s1) ∧ wx.cell? ⟨X, 1, none⟩ = some (.slice a1 l1.length c1) ∧ wx.cell? ⟨X, 2, none⟩ = some (.int .i64 e1) ∧ wx.cell? ⟨X, 3, none⟩ = some (.bool s4) ∧ wx.cell? ⟨X, 4, none⟩ = some (.slice a4 l4.length c4) ∧ wx.cell? ⟨X, 5, none⟩ = some (.int .i64 e4) ∧ wx.cell? ⟨Y, 0, none⟩ = some (.bool s2) ∧ wx.cell? ⟨Y, 1, none⟩ = some (.slice a2 l2.length c2) ∧ wx.cell? ⟨Y, 2, none⟩ = some (.int .i64 e2) ∧ wx.cell? ⟨Y, 3, none⟩ = some (.bool s3) ∧ wx.cell? ⟨Y, 4, none⟩ = some (.slice a3 l3.length c3) ∧ wx.cell? ⟨Y, 5, none⟩ = some (.int .i64 e3) ∧ Kept 0 0 w3 wx)
  case first =>
    have kw := Kept.refl 0 0 w3
    have kd := (Kept.refl 0 0 w3).drew
    replace r1 := r1.kept kd (.inr (.inr (Nat.le_refl 0)))
    replace r2 := r2.kept kd (.inr (.inr (Nat.le_refl 0)))
    replace r3 := r3.kept kd (.inr (.inr (Nat.le_refl 0)))
    replace r4 := r4.kept kd (.inr (.inr (Nat.le_refl 0)))
    replace kw := kw.trans kd
    replace Rf0 := kd.loose0 (World.block_lt_of_cell? _ _ R0) Rf0
    replace Rf1 := kd.loose0 (World.block_lt_of_cell? _ _ R1) Rf1
    replace Rf2 := kd.loose0 (World.block_lt_of_cell? _ _ R2) Rf2
    replace Rf3 := kd.loose0 (World.block_lt_of_cell? _ _ R3) Rf3
    replace Rf4 := kd.loose0 (World.block_lt_of_cell? _ _ R4) Rf4
    replace Rf5 := kd.loose0 (World.block_lt_of_cell? _ _ R5) Rf5
    replace bp0 := kd.cell0 bp0
    replace bp1 := kd.cell0 bp1
    replace bp2 := kd.cell0 bp2
    replace bp3 := kd.cell0 bp3
    replace bp4 := kd.cell0 bp4
    replace bp5 := kd.cell0 bp5
    replace bq0 := kd.cell0 bq0
    replace bq1 := kd.cell0 bq1
    replace bq2 := kd.cell0 bq2
    replace bq3 := kd.cell0 bq3
    replace bq4 := kd.cell0 bq4
    replace bq5 := kd.cell0 bq5
    replace R0 := kd.cell0 R0
    replace R1 := kd.cell0 R1
    replace R2 := kd.cell0 R2
    replace R3 := kd.cell0 R3
    replace R4 := kd.cell0 R4
    replace R5 := kd.cell0 R5
    replace K := hide ((unhide K).trans kd)
    have z5 := kd.size
    clear kd
    refine wp_region_held_drew (S := (fun w' => w'.cell? ⟨w.heap.size, 0, none⟩ = some (.bool s1) ∧ w'.cell? ⟨w.heap.size, 1, none⟩ = some (.slice a1 l1.length c1) ∧ w'.cell? ⟨w.heap.size, 2, none⟩ = some (.int .i64 e1) ∧ w'.cell? ⟨w.heap.size, 3, none⟩ = some (.bool s2) ∧ w'.cell? ⟨w.heap.size, 4, none⟩ = some (.slice a2 l2.length c2) ∧ w'.cell? ⟨w.heap.size, 5, none⟩ = some (.int .i64 e2) ∧ w'.cell? ⟨w.heap.size + 1, 0, none⟩ = some (.bool s3) ∧ w'.cell? ⟨w.heap.size + 1, 1, none⟩ = some (.slice a3 l3.length c3) ∧ w'.cell? ⟨w.heap.size + 1, 2, none⟩ = some (.int .i64 e3) ∧ w'.cell? ⟨w.heap.size + 1, 3, none⟩ = some (.bool s4) ∧ w'.cell? ⟨w.heap.size + 1, 4, none⟩ = some (.slice a4 l4.length c4) ∧ w'.cell? ⟨w.heap.size + 1, 5, none⟩ = some (.int .i64 e4))) (by kernel_rfl) ?_ (fun hHeld => ?_)
    · exact ⟨bp0, bp1, bp2, bp3, bp4, bp5, bq0, bq1, bq2, bq3, bq4, bq5⟩
    generalize w3.drew = wd at *
    refine wpAnyH_take (i := 0) (oi := _) (v := .pointer (some ⟨w.heap.size, 0, none⟩)) rfl (by kernel_rfl) (by kernel_rfl) (by kernel_rfl) (fun _ _ _ h => h) (Or.inl ⟨by rfl, ?_⟩) hHeld ?_
    · intro wq hSw
      try dsimp only at hSw
      go_simp
    try simp only [Act.put, List.getElem_toArray, List.getElem_cons_succ, List.getElem_cons_zero, List.setIfInBounds_toArray, List.set_cons_zero, List.set_cons_succ]
    refine wpAnyH_take (i := 1) (oi := _) (v := .agg #[.bool s1, .slice a1 l1.length c1, .int .i64 e1]) rfl (by kernel_rfl) (by kernel_rfl) (by kernel_rfl) (fun _ _ _ h => h) (Or.inl ⟨by rfl, ?_⟩) hHeld ?_
    · intro wq hSw
      try dsimp only at hSw
      go_simp
    try simp only [Act.put, List.getElem_toArray, List.getElem_cons_succ, List.getElem_cons_zero, List.setIfInBounds_toArray, List.set_cons_zero, List.set_cons_succ]
    refine wpAnyH_take (i := 2) (oi := _) (v := .pointer (some ⟨w.heap.size + 1, 3, none⟩)) rfl (by kernel_rfl) (by kernel_rfl) (by kernel_rfl) (fun _ _ _ h => h) (Or.inl ⟨by rfl, ?_⟩) hHeld ?_
    · intro wq hSw
      try dsimp only at hSw
      go_simp
    try simp only [Act.put, List.getElem_toArray, List.getElem_cons_succ, List.getElem_cons_zero, List.setIfInBounds_toArray, List.set_cons_zero, List.set_cons_succ]
    refine wpAnyH_take (i := 3) (oi := _) (v := .agg #[.bool s4, .slice a4 l4.length c4, .int .i64 e4]) rfl (by kernel_rfl) (by kernel_rfl) (by kernel_rfl) (fun _ _ _ h => h) (Or.inl ⟨by rfl, ?_⟩) hHeld ?_
    · intro wq hSw
      try dsimp only at hSw
      go_simp
    try simp only [Act.put, List.getElem_toArray, List.getElem_cons_succ, List.getElem_cons_zero, List.setIfInBounds_toArray, List.set_cons_zero, List.set_cons_succ]
    refine wpAnyH_take (i := 4) (oi := _) (v := .agg #[.bool s1, .slice a1 l1.length c1, .int .i64 e1, .bool s4, .slice a4 l4.length c4, .int .i64 e4]) rfl (by kernel_rfl) (by kernel_rfl) (by kernel_rfl) (fun _ _ _ h => h) (Or.inl ⟨by rfl, ?_⟩) hHeld ?_
    · intro wq hSw
      try dsimp only at hSw
      go_simp
    try simp only [Act.put, List.getElem_toArray, List.getElem_cons_succ, List.getElem_cons_zero, List.setIfInBounds_toArray, List.set_cons_zero, List.set_cons_succ]
    refine wpAnyH_take (i := 5) (oi := _) (v := .pointer (some ⟨w.heap.size, 3, none⟩)) rfl (by kernel_rfl) (by kernel_rfl) (by kernel_rfl) (fun _ _ _ h => h) (Or.inl ⟨by rfl, ?_⟩) hHeld ?_
    · intro wq hSw
      try dsimp only at hSw
      go_simp
    try simp only [Act.put, List.getElem_toArray, List.getElem_cons_succ, List.getElem_cons_zero, List.setIfInBounds_toArray, List.set_cons_zero, List.set_cons_succ]
    refine wpAnyH_take (i := 6) (oi := _) (v := .agg #[.bool s2, .slice a2 l2.length c2, .int .i64 e2]) rfl (by kernel_rfl) (by kernel_rfl) (by kernel_rfl) (fun _ _ _ h => h) (Or.inl ⟨by rfl, ?_⟩) hHeld ?_
    · intro wq hSw
      try dsimp only at hSw
      go_simp
    try simp only [Act.put, List.getElem_toArray, List.getElem_cons_succ, List.getElem_cons_zero, List.setIfInBounds_toArray, List.set_cons_zero, List.set_cons_succ]
    refine wpAnyH_take (i := 7) (oi := _) (v := .pointer (some ⟨w.heap.size + 1, 0, none⟩)) rfl (by kernel_rfl) (by kernel_rfl) (by kernel_rfl) (fun _ _ _ h => h) (Or.inl ⟨by rfl, ?_⟩) hHeld ?_
    · intro wq hSw
      try dsimp only at hSw
      go_simp
    try simp only [Act.put, List.getElem_toArray, List.getElem_cons_succ, List.getElem_cons_zero, List.setIfInBounds_toArray, List.set_cons_zero, List.set_cons_succ]
    refine wpAnyH_take (i := 8) (oi := _) (v := .agg #[.bool s3, .slice a3 l3.length c3, .int .i64 e3]) rfl (by kernel_rfl) (by kernel_rfl) (by kernel_rfl) (fun _ _ _ h => h) (Or.inl ⟨by rfl, ?_⟩) hHeld ?_
    · intro wq hSw
      try dsimp only at hSw
      go_simp
    try simp only [Act.put, List.getElem_toArray, List.getElem_cons_succ, List.getElem_cons_zero, List.setIfInBounds_toArray, List.set_cons_zero, List.set_cons_succ]
    refine wpAnyH_take (i := 9) (oi := _) (v := .agg #[.bool s2, .slice a2 l2.length c2, .int .i64 e2, .bool s3, .slice a3 l3.length c3, .int .i64 e3]) rfl (by kernel_rfl) (by kernel_rfl) (by kernel_rfl) (fun _ _ _ h => h) (Or.inl ⟨by rfl, ?_⟩) hHeld ?_
    · intro wq hSw
      try dsimp only at hSw
      go_simp
    try simp only [Act.put, List.getElem_toArray, List.getElem_cons_succ, List.getElem_cons_zero, List.setIfInBounds_toArray, List.set_cons_zero, List.set_cons_succ]
    refine wpAnyH_ready (rs := [10, 11]) (by kernel_rfl) (by simp) ?_
    refine AllReadyH.cons rfl (fun KK hK => ?_) (AllReadyH.cons rfl (fun KK hK => ?_) AllReadyH.nil)
    · simp only [List.getElem_toArray, List.getElem_cons_succ, List.getElem_cons_zero]
      rw [if_pos (by rfl)]
      go_simp
      have kn := (Kept.refl 0 0 wd).alloc (.cells #[.bool false, .slice none 0 0, .int .i64 0, .bool false, .slice none 0 0, .int .i64 0] 72)
      replace r1 := r1.kept kn (.inr (.inr (Nat.le_refl 0)))
      replace r2 := r2.kept kn (.inr (.inr (Nat.le_refl 0)))
      replace r3 := r3.kept kn (.inr (.inr (Nat.le_refl 0)))
      replace r4 := r4.kept kn (.inr (.inr (Nat.le_refl 0)))
      replace kw := kw.trans kn
      replace Rf0 := kn.loose0 (World.block_lt_of_cell? _ _ R0) Rf0
      replace Rf1 := kn.loose0 (World.block_lt_of_cell? _ _ R1) Rf1
      replace Rf2 := kn.loose0 (World.block_lt_of_cell? _ _ R2) Rf2
      replace Rf3 := kn.loose0 (World.block_lt_of_cell? _ _ R3) Rf3
      replace Rf4 := kn.loose0 (World.block_lt_of_cell? _ _ R4) Rf4
      replace Rf5 := kn.loose0 (World.block_lt_of_cell? _ _ R5) Rf5
      replace bp0 := kn.cell0 bp0
      replace bp1 := kn.cell0 bp1
      replace bp2 := kn.cell0 bp2
      replace bp3 := kn.cell0 bp3
      replace bp4 := kn.cell0 bp4
      replace bp5 := kn.cell0 bp5
      replace bq0 := kn.cell0 bq0
      replace bq1 := kn.cell0 bq1
      replace bq2 := kn.cell0 bq2
      replace bq3 := kn.cell0 bq3
      replace bq4 := kn.cell0 bq4
      replace bq5 := kn.cell0 bq5
      replace R0 := kn.cell0 R0
      replace R1 := kn.cell0 R1
      replace R2 := kn.cell0 R2
      replace R3 := kn.cell0 R3
      replace R4 := kn.cell0 R4
      replace R5 := kn.cell0 R5
      replace K := hide ((unhide K).trans kn)
      have z7 := kn.size
      clear kn
      have szX_ : wd.heap.size < (wd.alloc (.cells #[.bool false, .slice none 0 0, .int .i64 0, .bool false, .slice none 0 0, .int .i64 0] 72)).heap.size := by simp
      have X_0 : (wd.alloc (.cells #[.bool false, .slice none 0 0, .int .i64 0, .bool false, .slice none 0 0, .int .i64 0] 72)).cell? ⟨wd.heap.size, 0, none⟩ = some (.bool false) := new_cell2 _ _ _ _ _ _ rfl rfl
      have X_f0 : (wd.alloc (.cells #[.bool false, .slice none 0 0, .int .i64 0, .bool false, .slice none 0 0, .int .i64 0] 72)).frozen? ⟨wd.heap.size, 0, none⟩ = false := new_loose2 _ _ _ _ _ rfl
      have X_1 : (wd.alloc (.cells #[.bool false, .slice none 0 0, .int .i64 0, .bool false, .slice none 0 0, .int .i64 0] 72)).cell? ⟨wd.heap.size, 1, none⟩ = some (.slice none 0 0) := new_cell2 _ _ _ _ _ _ rfl rfl
      have X_f1 : (wd.alloc (.cells #[.bool false, .slice none 0 0, .int .i64 0, .bool false, .slice none 0 0, .int .i64 0] 72)).frozen? ⟨wd.heap.size, 1, none⟩ = false := new_loose2 _ _ _ _ _ rfl
      have X_2 : (wd.alloc (.cells #[.bool false, .slice none 0 0, .int .i64 0, .bool false, .slice none 0 0, .int .i64 0] 72)).cell? ⟨wd.heap.size, 2, none⟩ = some (.int .i64 0) := new_cell2 _ _ _ _ _ _ rfl rfl
      have X_f2 : (wd.alloc (.cells #[.bool false, .slice none 0 0, .int .i64 0, .bool false, .slice none 0 0, .int .i64 0] 72)).frozen? ⟨wd.heap.size, 2, none⟩ = false := new_loose2 _ _ _ _ _ rfl
      have X_3 : (wd.alloc (.cells #[.bool false, .slice none 0 0, .int .i64 0, .bool false, .slice none 0 0, .int .i64 0] 72)).cell? ⟨wd.heap.size, 3, none⟩ = some (.bool false) := new_cell2 _ _ _ _ _ _ rfl rfl
      have X_f3 : (wd.alloc (.cells #[.bool false, .slice none 0 0, .int .i64 0, .bool false, .slice none 0 0, .int .i64 0] 72)).frozen? ⟨wd.heap.size, 3, none⟩ = false := new_loose2 _ _ _ _ _ rfl
      have X_4 : (wd.alloc (.cells #[.bool false, .slice none 0 0, .int .i64 0, .bool false, .slice none 0 0, .int .i64 0] 72)).cell? ⟨wd.heap.size, 4, none⟩ = some (.slice none 0 0) := new_cell2 _ _ _ _ _ _ rfl rfl
      have X_f4 : (wd.alloc (.cells #[.bool false, .slice none 0 0, .int .i64 0, .bool false, .slice none 0 0, .int .i64 0] 72)).frozen? ⟨wd.heap.size, 4, none⟩ = false := new_loose2 _ _ _ _ _ rfl
      have X_5 : (wd.alloc (.cells #[.bool false, .slice none 0 0, .int .i64 0, .bool false, .slice none 0 0, .int .i64 0] 72)).cell? ⟨wd.heap.size, 5, none⟩ = some (.int .i64 0) := new_cell2 _ _ _ _ _ _ rfl rfl
      have X_f5 : (wd.alloc (.cells #[.bool false, .slice none 0 0, .int .i64 0, .bool false, .slice none 0 0, .int .i64 0] 72)).frozen? ⟨wd.heap.size, 5, none⟩ = false := new_loose2 _ _ _ _ _ rfl
      clear hHeld
      refine hK.out _ _ ?_ (fun hHeld => ?_)
      · exact ⟨bp0, bp1, bp2, bp3, bp4, bp5, bq0, bq1, bq2, bq3, bq4, bq5⟩
      clear hK KK
      try simp only [Act.put, List.getElem_toArray, List.getElem_cons_succ, List.getElem_cons_zero, List.setIfInBounds_toArray, List.set_cons_zero, List.set_cons_succ]
      generalize wd.alloc (.cells #[.bool false, .slice none 0 0, .int .i64 0, .bool false, .slice none 0 0, .int .i64 0] 72) = w6 at *
      refine wpAnyH_ready (rs := [11]) (by kernel_rfl) (by simp) ?_
      refine AllReadyH.cons rfl (fun KK hK => ?_) AllReadyH.nil
      · simp only [List.getElem_toArray, List.getElem_cons_succ, List.getElem_cons_zero]
        rw [if_pos (by rfl)]
        go_simp
        have kn := (Kept.refl 0 0 w6).alloc (.cells #[.bool false, .slice none 0 0, .int .i64 0, .bool false, .slice none 0 0, .int .i64 0] 72)
        replace r1 := r1.kept kn (.inr (.inr (Nat.le_refl 0)))
        replace r2 := r2.kept kn (.inr (.inr (Nat.le_refl 0)))
        replace r3 := r3.kept kn (.inr (.inr (Nat.le_refl 0)))
        replace r4 := r4.kept kn (.inr (.inr (Nat.le_refl 0)))
        replace kw := kw.trans kn
        replace Rf0 := kn.loose0 (World.block_lt_of_cell? _ _ R0) Rf0
        replace Rf1 := kn.loose0 (World.block_lt_of_cell? _ _ R1) Rf1
        replace Rf2 := kn.loose0 (World.block_lt_of_cell? _ _ R2) Rf2
        replace Rf3 := kn.loose0 (World.block_lt_of_cell? _ _ R3) Rf3
        replace Rf4 := kn.loose0 (World.block_lt_of_cell? _ _ R4) Rf4
        replace Rf5 := kn.loose0 (World.block_lt_of_cell? _ _ R5) Rf5
        replace X_f0 := kn.loose0 (World.block_lt_of_cell? _ _ X_0) X_f0
        replace X_f1 := kn.loose0 (World.block_lt_of_cell? _ _ X_1) X_f1
        replace X_f2 := kn.loose0 (World.block_lt_of_cell? _ _ X_2) X_f2
        replace X_f3 := kn.loose0 (World.block_lt_of_cell? _ _ X_3) X_f3
        replace X_f4 := kn.loose0 (World.block_lt_of_cell? _ _ X_4) X_f4
        replace X_f5 := kn.loose0 (World.block_lt_of_cell? _ _ X_5) X_f5
        replace bp0 := kn.cell0 bp0
        replace bp1 := kn.cell0 bp1
        replace bp2 := kn.cell0 bp2
        replace bp3 := kn.cell0 bp3
        replace bp4 := kn.cell0 bp4
        replace bp5 := kn.cell0 bp5
        replace bq0 := kn.cell0 bq0
        replace bq1 := kn.cell0 bq1
        replace bq2 := kn.cell0 bq2
        replace bq3 := kn.cell0 bq3
        replace bq4 := kn.cell0 bq4
        replace bq5 := kn.cell0 bq5
        replace R0 := kn.cell0 R0
        replace R1 := kn.cell0 R1
        replace R2 := kn.cell0 R2
        replace R3 := kn.cell0 R3
        replace R4 := kn.cell0 R4
        replace R5 := kn.cell0 R5
        replace X_0 := kn.cell0 X_0
        replace X_1 := kn.cell0 X_1
        replace X_2 := kn.cell0 X_2
        replace X_3 := kn.cell0 X_3
        replace X_4 := kn.cell0 X_4
        replace X_5 := kn.cell0 X_5
        replace K := hide ((unhide K).trans kn)
        have z9 := kn.size
        clear kn
        have szY_ : w6.heap.size < (w6.alloc (.cells #[.bool false, .slice none 0 0, .int .i64 0, .bool false, .slice none 0 0, .int .i64 0] 72)).heap.size := by simp
        have Y_0 : (w6.alloc (.cells #[.bool false, .slice none 0 0, .int .i64 0, .bool false, .slice none 0 0, .int .i64 0] 72)).cell? ⟨w6.heap.size, 0, none⟩ = some (.bool false) := new_cell2 _ _ _ _ _ _ rfl rfl
        have Y_f0 : (w6.alloc (.cells #[.bool false, .slice none 0 0, .int .i64 0, .bool false, .slice none 0 0, .int .i64 0] 72)).frozen? ⟨w6.heap.size, 0, none⟩ = false := new_loose2 _ _ _ _ _ rfl
        have Y_1 : (w6.alloc (.cells #[.bool false, .slice none 0 0, .int .i64 0, .bool false, .slice none 0 0, .int .i64 0] 72)).cell? ⟨w6.heap.size, 1, none⟩ = some (.slice none 0 0) := new_cell2 _ _ _ _ _ _ rfl rfl
        have Y_f1 : (w6.alloc (.cells #[.bool false, .slice none 0 0, .int .i64 0, .bool false, .slice none 0 0, .int .i64 0] 72)).frozen? ⟨w6.heap.size, 1, none⟩ = false := new_loose2 _ _ _ _ _ rfl
        have Y_2 : (w6.alloc (.cells #[.bool false, .slice none 0 0, .int .i64 0, .bool false, .slice none 0 0, .int .i64 0] 72)).cell? ⟨w6.heap.size, 2, none⟩ = some (.int .i64 0) := new_cell2 _ _ _ _ _ _ rfl rfl
        have Y_f2 : (w6.alloc (.cells #[.bool false, .slice none 0 0, .int .i64 0, .bool false, .slice none 0 0, .int .i64 0] 72)).frozen? ⟨w6.heap.size, 2, none⟩ = false := new_loose2 _ _ _ _ _ rfl
        have Y_3 : (w6.alloc (.cells #[.bool false, .slice none 0 0, .int .i64 0, .bool false, .slice none 0 0, .int .i64 0] 72)).cell? ⟨w6.heap.size, 3, none⟩ = some (.bool false) := new_cell2 _ _ _ _ _ _ rfl rfl
        have Y_f3 : (w6.alloc (.cells #[.bool false, .slice none 0 0, .int .i64 0, .bool false, .slice none 0 0, .int .i64 0] 72)).frozen? ⟨w6.heap.size, 3, none⟩ = false := new_loose2 _ _ _ _ _ rfl
        have Y_4 : (w6.alloc (.cells #[.bool false, .slice none 0 0, .int .i64 0, .bool false, .slice none 0 0, .int .i64 0] 72)).cell? ⟨w6.heap.size, 4, none⟩ = some (.slice none 0 0) := new_cell2 _ _ _ _ _ _ rfl rfl
        have Y_f4 : (w6.alloc (.cells #[.bool false, .slice none 0 0, .int .i64 0, .bool false, .slice none 0 0, .int .i64 0] 72)).frozen? ⟨w6.heap.size, 4, none⟩ = false := new_loose2 _ _ _ _ _ rfl
        have Y_5 : (w6.alloc (.cells #[.bool false, .slice none 0 0, .int .i64 0, .bool false, .slice none 0 0, .int .i64 0] 72)).cell? ⟨w6.heap.size, 5, none⟩ = some (.int .i64 0) := new_cell2 _ _ _ _ _ _ rfl rfl
        have Y_f5 : (w6.alloc (.cells #[.bool false, .slice none 0 0, .int .i64 0, .bool false, .slice none 0 0, .int .i64 0] 72)).frozen? ⟨w6.heap.size, 5, none⟩ = false := new_loose2 _ _ _ _ _ rfl
        clear hHeld
        refine hK.out _ _ ?_ (fun hHeld => ?_)
        · exact ⟨bp0, bp1, bp2, bp3, bp4, bp5, bq0, bq1, bq2, bq3, bq4, bq5⟩
        clear hK KK
        try simp only [Act.put, List.getElem_toArray, List.getElem_cons_succ, List.getElem_cons_zero, List.setIfInBounds_toArray, List.set_cons_zero, List.set_cons_succ]
        generalize w6.alloc (.cells #[.bool false, .slice none 0 0, .int .i64 0, .bool false, .slice none 0 0, .int .i64 0] 72) = w8 at *
        refine wpAnyH_ready (rs := [12]) (by kernel_rfl) (by simp) ?_
        refine AllReadyH.cons rfl (fun KK hK => ?_) AllReadyH.nil
        · simp only [List.getElem_toArray, List.getElem_cons_succ, List.getElem_cons_zero]
          rw [if_pos (by rfl)]
          go_simp
          clear hHeld
          refine hK.out _ _ ?_ (fun hHeld => ?_)
          · exact ⟨(cell_aside _ (by have := unhide S0; dsimp only; omega) (cell_aside _ (by have := unhide S0; dsimp only; omega) (cell_aside _ (by have := unhide S0; dsimp only; omega) (cell_aside _ (by have := unhide S0; dsimp only; omega) (cell_aside _ (by have := unhide S0; dsimp only; omega) (cell_aside _ (by have := unhide S0; dsimp only; omega) bp0)))))), (cell_aside _ (by have := unhide S0; dsimp only; omega) (cell_aside _ (by have := unhide S0; dsimp only; omega) (cell_aside _ (by have := unhide S0; dsimp only; omega) (cell_aside _ (by have := unhide S0; dsimp only; omega) (cell_aside _ (by have := unhide S0; dsimp only; omega) (cell_aside _ (by have := unhide S0; dsimp only; omega) bp1)))))), (cell_aside _ (by have := unhide S0; dsimp only; omega) (cell_aside _ (by have := unhide S0; dsimp only; omega) (cell_aside _ (by have := unhide S0; dsimp only; omega) (cell_aside _ (by have := unhide S0; dsimp only; omega) (cell_aside _ (by have := unhide S0; dsimp only; omega) (cell_aside _ (by have := unhide S0; dsimp only; omega) bp2)))))), (cell_aside _ (by have := unhide S0; dsimp only; omega) (cell_aside _ (by have := unhide S0; dsimp only; omega) (cell_aside _ (by have := unhide S0; dsimp only; omega) (cell_aside _ (by have := unhide S0; dsimp only; omega) (cell_aside _ (by have := unhide S0; dsimp only; omega) (cell_aside _ (by have := unhide S0; dsimp only; omega) bp3)))))), (cell_aside _ (by have := unhide S0; dsimp only; omega) (cell_aside _ (by have := unhide S0; dsimp only; omega) (cell_aside _ (by have := unhide S0; dsimp only; omega) (cell_aside _ (by have := unhide S0; dsimp only; omega) (cell_aside _ (by have := unhide S0; dsimp only; omega) (cell_aside _ (by have := unhide S0; dsimp only; omega) bp4)))))), (cell_aside _ (by have := unhide S0; dsimp only; omega) (cell_aside _ (by have := unhide S0; dsimp only; omega) (cell_aside _ (by have := unhide S0; dsimp only; omega) (cell_aside _ (by have := unhide S0; dsimp only; omega) (cell_aside _ (by have := unhide S0; dsimp only; omega) (cell_aside _ (by have := unhide S0; dsimp only; omega) bp5)))))), (cell_aside _ (by have := unhide S0; dsimp only; omega) (cell_aside _ (by have := unhide S0; dsimp only; omega) (cell_aside _ (by have := unhide S0; dsimp only; omega) (cell_aside _ (by have := unhide S0; dsimp only; omega) (cell_aside _ (by have := unhide S0; dsimp only; omega) (cell_aside _ (by have := unhide S0; dsimp only; omega) bq0)))))), (cell_aside _ (by have := unhide S0; dsimp only; omega) (cell_aside _ (by have := unhide S0; dsimp only; omega) (cell_aside _ (by have := unhide S0; dsimp only; omega) (cell_aside _ (by have := unhide S0; dsimp only; omega) (cell_aside _ (by have := unhide S0; dsimp only; omega) (cell_aside _ (by have := unhide S0; dsimp only; omega) bq1)))))), (cell_aside _ (by have := unhide S0; dsimp only; omega) (cell_aside _ (by have := unhide S0; dsimp only; omega) (cell_aside _ (by have := unhide S0; dsimp only; omega) (cell_aside _ (by have := unhide S0; dsimp only; omega) (cell_aside _ (by have := unhide S0; dsimp only; omega) (cell_aside _ (by have := unhide S0; dsimp only; omega) bq2)))))), (cell_aside _ (by have := unhide S0; dsimp only; omega) (cell_aside _ (by have := unhide S0; dsimp only; omega) (cell_aside _ (by have := unhide S0; dsimp only; omega) (cell_aside _ (by have := unhide S0; dsimp only; omega) (cell_aside _ (by have := unhide S0; dsimp only; omega) (cell_aside _ (by have := unhide S0; dsimp only; omega) bq3)))))), (cell_aside _ (by have := unhide S0; dsimp only; omega) (cell_aside _ (by have := unhide S0; dsimp only; omega) (cell_aside _ (by have := unhide S0; dsimp only; omega) (cell_aside _ (by have := unhide S0; dsimp only; omega) (cell_aside _ (by have := unhide S0; dsimp only; omega) (cell_aside _ (by have := unhide S0; dsimp only; omega) bq4)))))), (cell_aside _ (by have := unhide S0; dsimp only; omega) (cell_aside _ (by have := unhide S0; dsimp only; omega) (cell_aside _ (by have := unhide S0; dsimp only; omega) (cell_aside _ (by have := unhide S0; dsimp only; omega) (cell_aside _ (by have := unhide S0; dsimp only; omega) (cell_aside _ (by have := unhide S0; dsimp only; omega) bq5))))))⟩
          clear hK KK
          try simp only [Act.put, List.getElem_toArray, List.getElem_cons_succ, List.getElem_cons_zero, List.setIfInBounds_toArray, List.set_cons_zero, List.set_cons_succ]
          have sS0 := unhide S0
          replace r1 := r1.set_other (p := ⟨wd.heap.size, 0, none⟩) (by dsimp only; omega) (.bool s1)
          replace r2 := r2.set_other (p := ⟨wd.heap.size, 0, none⟩) (by dsimp only; omega) (.bool s1)
          replace r3 := r3.set_other (p := ⟨wd.heap.size, 0, none⟩) (by dsimp only; omega) (.bool s1)
          replace r4 := r4.set_other (p := ⟨wd.heap.size, 0, none⟩) (by dsimp only; omega) (.bool s1)
          replace bp0 := cell_else (.bool s1) (r := ⟨wd.heap.size, 0, none⟩) (by dsimp only; omega) rfl rfl bp0
          replace bp1 := cell_else (.bool s1) (r := ⟨wd.heap.size, 0, none⟩) (by dsimp only; omega) rfl rfl bp1
          replace bp2 := cell_else (.bool s1) (r := ⟨wd.heap.size, 0, none⟩) (by dsimp only; omega) rfl rfl bp2
          replace bp3 := cell_else (.bool s1) (r := ⟨wd.heap.size, 0, none⟩) (by dsimp only; omega) rfl rfl bp3
          replace bp4 := cell_else (.bool s1) (r := ⟨wd.heap.size, 0, none⟩) (by dsimp only; omega) rfl rfl bp4
          replace bp5 := cell_else (.bool s1) (r := ⟨wd.heap.size, 0, none⟩) (by dsimp only; omega) rfl rfl bp5
          replace bq0 := cell_else (.bool s1) (r := ⟨wd.heap.size, 0, none⟩) (by dsimp only; omega) rfl rfl bq0
          replace bq1 := cell_else (.bool s1) (r := ⟨wd.heap.size, 0, none⟩) (by dsimp only; omega) rfl rfl bq1
          replace bq2 := cell_else (.bool s1) (r := ⟨wd.heap.size, 0, none⟩) (by dsimp only; omega) rfl rfl bq2
          replace bq3 := cell_else (.bool s1) (r := ⟨wd.heap.size, 0, none⟩) (by dsimp only; omega) rfl rfl bq3
          replace bq4 := cell_else (.bool s1) (r := ⟨wd.heap.size, 0, none⟩) (by dsimp only; omega) rfl rfl bq4
          replace bq5 := cell_else (.bool s1) (r := ⟨wd.heap.size, 0, none⟩) (by dsimp only; omega) rfl rfl bq5
          replace R0 := cell_else (.bool s1) (r := ⟨wd.heap.size, 0, none⟩) (by dsimp only; omega) rfl rfl R0
          replace R1 := cell_else (.bool s1) (r := ⟨wd.heap.size, 0, none⟩) (by dsimp only; omega) rfl rfl R1
          replace R2 := cell_else (.bool s1) (r := ⟨wd.heap.size, 0, none⟩) (by dsimp only; omega) rfl rfl R2
          replace R3 := cell_else (.bool s1) (r := ⟨wd.heap.size, 0, none⟩) (by dsimp only; omega) rfl rfl R3
          replace R4 := cell_else (.bool s1) (r := ⟨wd.heap.size, 0, none⟩) (by dsimp only; omega) rfl rfl R4
          replace R5 := cell_else (.bool s1) (r := ⟨wd.heap.size, 0, none⟩) (by dsimp only; omega) rfl rfl R5
          replace X_1 := cell_else (.bool s1) (r := ⟨wd.heap.size, 0, none⟩) (by dsimp only; omega) rfl rfl X_1
          replace X_2 := cell_else (.bool s1) (r := ⟨wd.heap.size, 0, none⟩) (by dsimp only; omega) rfl rfl X_2
          replace X_3 := cell_else (.bool s1) (r := ⟨wd.heap.size, 0, none⟩) (by dsimp only; omega) rfl rfl X_3
          replace X_4 := cell_else (.bool s1) (r := ⟨wd.heap.size, 0, none⟩) (by dsimp only; omega) rfl rfl X_4
          replace X_5 := cell_else (.bool s1) (r := ⟨wd.heap.size, 0, none⟩) (by dsimp only; omega) rfl rfl X_5
          replace Y_0 := cell_else (.bool s1) (r := ⟨wd.heap.size, 0, none⟩) (by dsimp only; omega) rfl rfl Y_0
          replace Y_1 := cell_else (.bool s1) (r := ⟨wd.heap.size, 0, none⟩) (by dsimp only; omega) rfl rfl Y_1
          replace Y_2 := cell_else (.bool s1) (r := ⟨wd.heap.size, 0, none⟩) (by dsimp only; omega) rfl rfl Y_2
          replace Y_3 := cell_else (.bool s1) (r := ⟨wd.heap.size, 0, none⟩) (by dsimp only; omega) rfl rfl Y_3
          replace Y_4 := cell_else (.bool s1) (r := ⟨wd.heap.size, 0, none⟩) (by dsimp only; omega) rfl rfl Y_4
          replace Y_5 := cell_else (.bool s1) (r := ⟨wd.heap.size, 0, none⟩) (by dsimp only; omega) rfl rfl Y_5
          replace Rf0 : (w8.setCell ⟨wd.heap.size, 0, none⟩ (.bool s1)).frozen? _ = false := (frozen_set _ _ _ _ _).trans Rf0
          replace Rf1 : (w8.setCell ⟨wd.heap.size, 0, none⟩ (.bool s1)).frozen? _ = false := (frozen_set _ _ _ _ _).trans Rf1
          replace Rf2 : (w8.setCell ⟨wd.heap.size, 0, none⟩ (.bool s1)).frozen? _ = false := (frozen_set _ _ _ _ _).trans Rf2
          replace Rf3 : (w8.setCell ⟨wd.heap.size, 0, none⟩ (.bool s1)).frozen? _ = false := (frozen_set _ _ _ _ _).trans Rf3
          replace Rf4 : (w8.setCell ⟨wd.heap.size, 0, none⟩ (.bool s1)).frozen? _ = false := (frozen_set _ _ _ _ _).trans Rf4
          replace Rf5 : (w8.setCell ⟨wd.heap.size, 0, none⟩ (.bool s1)).frozen? _ = false := (frozen_set _ _ _ _ _).trans Rf5
          replace X_f0 : (w8.setCell ⟨wd.heap.size, 0, none⟩ (.bool s1)).frozen? _ = false := (frozen_set _ _ _ _ _).trans X_f0
          replace X_f1 : (w8.setCell ⟨wd.heap.size, 0, none⟩ (.bool s1)).frozen? _ = false := (frozen_set _ _ _ _ _).trans X_f1
          replace X_f2 : (w8.setCell ⟨wd.heap.size, 0, none⟩ (.bool s1)).frozen? _ = false := (frozen_set _ _ _ _ _).trans X_f2
          replace X_f3 : (w8.setCell ⟨wd.heap.size, 0, none⟩ (.bool s1)).frozen? _ = false := (frozen_set _ _ _ _ _).trans X_f3
          replace X_f4 : (w8.setCell ⟨wd.heap.size, 0, none⟩ (.bool s1)).frozen? _ = false := (frozen_set _ _ _ _ _).trans X_f4
          replace X_f5 : (w8.setCell ⟨wd.heap.size, 0, none⟩ (.bool s1)).frozen? _ = false := (frozen_set _ _ _ _ _).trans X_f5
          replace Y_f0 : (w8.setCell ⟨wd.heap.size, 0, none⟩ (.bool s1)).frozen? _ = false := (frozen_set _ _ _ _ _).trans Y_f0
          replace Y_f1 : (w8.setCell ⟨wd.heap.size, 0, none⟩ (.bool s1)).frozen? _ = false := (frozen_set _ _ _ _ _).trans Y_f1
          replace Y_f2 : (w8.setCell ⟨wd.heap.size, 0, none⟩ (.bool s1)).frozen? _ = false := (frozen_set _ _ _ _ _).trans Y_f2
          replace Y_f3 : (w8.setCell ⟨wd.heap.size, 0, none⟩ (.bool s1)).frozen? _ = false := (frozen_set _ _ _ _ _).trans Y_f3
          replace Y_f4 : (w8.setCell ⟨wd.heap.size, 0, none⟩ (.bool s1)).frozen? _ = false := (frozen_set _ _ _ _ _).trans Y_f4
          replace Y_f5 : (w8.setCell ⟨wd.heap.size, 0, none⟩ (.bool s1)).frozen? _ = false := (frozen_set _ _ _ _ _).trans Y_f5
          replace X_0 : (w8.setCell ⟨wd.heap.size, 0, none⟩ (.bool s1)).cell? ⟨wd.heap.size, 0, none⟩ = some (.bool s1) := cell_on _ _ _ _ _ X_0
          replace kw := kw.setNew (p := ⟨wd.heap.size, 0, none⟩) (by dsimp only; omega) (.bool s1)
          replace K := hide ((unhide K).setNew (p := ⟨wd.heap.size, 0, none⟩) (by dsimp only; omega) (.bool s1))
          have zs10 : (w8.setCell ⟨wd.heap.size, 0, none⟩ (.bool s1)).heap.size = w8.heap.size := by simp [World.setCell]
          clear sS0
          generalize w8.setCell ⟨wd.heap.size, 0, none⟩ (.bool s1) = ws10 at *
          have sS0 := unhide S0
          replace r1 := r1.set_other (p := ⟨wd.heap.size, 1, none⟩) (by dsimp only; omega) (.slice a1 l1.length c1)
          replace r2 := r2.set_other (p := ⟨wd.heap.size, 1, none⟩) (by dsimp only; omega) (.slice a1 l1.length c1)
          replace r3 := r3.set_other (p := ⟨wd.heap.size, 1, none⟩) (by dsimp only; omega) (.slice a1 l1.length c1)
          replace r4 := r4.set_other (p := ⟨wd.heap.size, 1, none⟩) (by dsimp only; omega) (.slice a1 l1.length c1)
          replace bp0 := cell_else (.slice a1 l1.length c1) (r := ⟨wd.heap.size, 1, none⟩) (by dsimp only; omega) rfl rfl bp0
          replace bp1 := cell_else (.slice a1 l1.length c1) (r := ⟨wd.heap.size, 1, none⟩) (by dsimp only; omega) rfl rfl bp1
          replace bp2 := cell_else (.slice a1 l1.length c1) (r := ⟨wd.heap.size, 1, none⟩) (by dsimp only; omega) rfl rfl bp2
          replace bp3 := cell_else (.slice a1 l1.length c1) (r := ⟨wd.heap.size, 1, none⟩) (by dsimp only; omega) rfl rfl bp3
          replace bp4 := cell_else (.slice a1 l1.length c1) (r := ⟨wd.heap.size, 1, none⟩) (by dsimp only; omega) rfl rfl bp4
          replace bp5 := cell_else (.slice a1 l1.length c1) (r := ⟨wd.heap.size, 1, none⟩) (by dsimp only; omega) rfl rfl bp5
          replace bq0 := cell_else (.slice a1 l1.length c1) (r := ⟨wd.heap.size, 1, none⟩) (by dsimp only; omega) rfl rfl bq0
          replace bq1 := cell_else (.slice a1 l1.length c1) (r := ⟨wd.heap.size, 1, none⟩) (by dsimp only; omega) rfl rfl bq1
          replace bq2 := cell_else (.slice a1 l1.length c1) (r := ⟨wd.heap.size, 1, none⟩) (by dsimp only; omega) rfl rfl bq2
          replace bq3 := cell_else (.slice a1 l1.length c1) (r := ⟨wd.heap.size, 1, none⟩) (by dsimp only; omega) rfl rfl bq3
          replace bq4 := cell_else (.slice a1 l1.length c1) (r := ⟨wd.heap.size, 1, none⟩) (by dsimp only; omega) rfl rfl bq4
          replace bq5 := cell_else (.slice a1 l1.length c1) (r := ⟨wd.heap.size, 1, none⟩) (by dsimp only; omega) rfl rfl bq5
          replace R0 := cell_else (.slice a1 l1.length c1) (r := ⟨wd.heap.size, 1, none⟩) (by dsimp only; omega) rfl rfl R0
          replace R1 := cell_else (.slice a1 l1.length c1) (r := ⟨wd.heap.size, 1, none⟩) (by dsimp only; omega) rfl rfl R1
          replace R2 := cell_else (.slice a1 l1.length c1) (r := ⟨wd.heap.size, 1, none⟩) (by dsimp only; omega) rfl rfl R2
          replace R3 := cell_else (.slice a1 l1.length c1) (r := ⟨wd.heap.size, 1, none⟩) (by dsimp only; omega) rfl rfl R3
          replace R4 := cell_else (.slice a1 l1.length c1) (r := ⟨wd.heap.size, 1, none⟩) (by dsimp only; omega) rfl rfl R4
          replace R5 := cell_else (.slice a1 l1.length c1) (r := ⟨wd.heap.size, 1, none⟩) (by dsimp only; omega) rfl rfl R5
          replace X_0 := cell_else (.slice a1 l1.length c1) (r := ⟨wd.heap.size, 1, none⟩) (by dsimp only; omega) rfl rfl X_0
          replace X_2 := cell_else (.slice a1 l1.length c1) (r := ⟨wd.heap.size, 1, none⟩) (by dsimp only; omega) rfl rfl X_2
          replace X_3 := cell_else (.slice a1 l1.length c1) (r := ⟨wd.heap.size, 1, none⟩) (by dsimp only; omega) rfl rfl X_3
          replace X_4 := cell_else (.slice a1 l1.length c1) (r := ⟨wd.heap.size, 1, none⟩) (by dsimp only; omega) rfl rfl X_4
          replace X_5 := cell_else (.slice a1 l1.length c1) (r := ⟨wd.heap.size, 1, none⟩) (by dsimp only; omega) rfl rfl X_5
          replace Y_0 := cell_else (.slice a1 l1.length c1) (r := ⟨wd.heap.size, 1, none⟩) (by dsimp only; omega) rfl rfl Y_0
          replace Y_1 := cell_else (.slice a1 l1.length c1) (r := ⟨wd.heap.size, 1, none⟩) (by dsimp only; omega) rfl rfl Y_1
          replace Y_2 := cell_else (.slice a1 l1.length c1) (r := ⟨wd.heap.size, 1, none⟩) (by dsimp only; omega) rfl rfl Y_2
          replace Y_3 := cell_else (.slice a1 l1.length c1) (r := ⟨wd.heap.size, 1, none⟩) (by dsimp only; omega) rfl rfl Y_3
          replace Y_4 := cell_else (.slice a1 l1.length c1) (r := ⟨wd.heap.size, 1, none⟩) (by dsimp only; omega) rfl rfl Y_4
          replace Y_5 := cell_else (.slice a1 l1.length c1) (r := ⟨wd.heap.size, 1, none⟩) (by dsimp only; omega) rfl rfl Y_5
          replace Rf0 : (ws10.setCell ⟨wd.heap.size, 1, none⟩ (.slice a1 l1.length c1)).frozen? _ = false := (frozen_set _ _ _ _ _).trans Rf0
          replace Rf1 : (ws10.setCell ⟨wd.heap.size, 1, none⟩ (.slice a1 l1.length c1)).frozen? _ = false := (frozen_set _ _ _ _ _).trans Rf1
          replace Rf2 : (ws10.setCell ⟨wd.heap.size, 1, none⟩ (.slice a1 l1.length c1)).frozen? _ = false := (frozen_set _ _ _ _ _).trans Rf2
          replace Rf3 : (ws10.setCell ⟨wd.heap.size, 1, none⟩ (.slice a1 l1.length c1)).frozen? _ = false := (frozen_set _ _ _ _ _).trans Rf3
          replace Rf4 : (ws10.setCell ⟨wd.heap.size, 1, none⟩ (.slice a1 l1.length c1)).frozen? _ = false := (frozen_set _ _ _ _ _).trans Rf4
          replace Rf5 : (ws10.setCell ⟨wd.heap.size, 1, none⟩ (.slice a1 l1.length c1)).frozen? _ = false := (frozen_set _ _ _ _ _).trans Rf5
          replace X_f0 : (ws10.setCell ⟨wd.heap.size, 1, none⟩ (.slice a1 l1.length c1)).frozen? _ = false := (frozen_set _ _ _ _ _).trans X_f0
          replace X_f1 : (ws10.setCell ⟨wd.heap.size, 1, none⟩ (.slice a1 l1.length c1)).frozen? _ = false := (frozen_set _ _ _ _ _).trans X_f1
          replace X_f2 : (ws10.setCell ⟨wd.heap.size, 1, none⟩ (.slice a1 l1.length c1)).frozen? _ = false := (frozen_set _ _ _ _ _).trans X_f2
          replace X_f3 : (ws10.setCell ⟨wd.heap.size, 1, none⟩ (.slice a1 l1.length c1)).frozen? _ = false := (frozen_set _ _ _ _ _).trans X_f3
          replace X_f4 : (ws10.setCell ⟨wd.heap.size, 1, none⟩ (.slice a1 l1.length c1)).frozen? _ = false := (frozen_set _ _ _ _ _).trans X_f4
          replace X_f5 : (ws10.setCell ⟨wd.heap.size, 1, none⟩ (.slice a1 l1.length c1)).frozen? _ = false := (frozen_set _ _ _ _ _).trans X_f5
          replace Y_f0 : (ws10.setCell ⟨wd.heap.size, 1, none⟩ (.slice a1 l1.length c1)).frozen? _ = false := (frozen_set _ _ _ _ _).trans Y_f0
          replace Y_f1 : (ws10.setCell ⟨wd.heap.size, 1, none⟩ (.slice a1 l1.length c1)).frozen? _ = false := (frozen_set _ _ _ _ _).trans Y_f1
          replace Y_f2 : (ws10.setCell ⟨wd.heap.size, 1, none⟩ (.slice a1 l1.length c1)).frozen? _ = false := (frozen_set _ _ _ _ _).trans Y_f2
          replace Y_f3 : (ws10.setCell ⟨wd.heap.size, 1, none⟩ (.slice a1 l1.length c1)).frozen? _ = false := (frozen_set _ _ _ _ _).trans Y_f3
          replace Y_f4 : (ws10.setCell ⟨wd.heap.size, 1, none⟩ (.slice a1 l1.length c1)).frozen? _ = false := (frozen_set _ _ _ _ _).trans Y_f4
          replace Y_f5 : (ws10.setCell ⟨wd.heap.size, 1, none⟩ (.slice a1 l1.length c1)).frozen? _ = false := (frozen_set _ _ _ _ _).trans Y_f5
          replace X_1 : (ws10.setCell ⟨wd.heap.size, 1, none⟩ (.slice a1 l1.length c1)).cell? ⟨wd.heap.size, 1, none⟩ = some (.slice a1 l1.length c1) := cell_on _ _ _ _ _ X_1
          replace kw := kw.setNew (p := ⟨wd.heap.size, 1, none⟩) (by dsimp only; omega) (.slice a1 l1.length c1)
          replace K := hide ((unhide K).setNew (p := ⟨wd.heap.size, 1, none⟩) (by dsimp only; omega) (.slice a1 l1.length c1))
          have zs11 : (ws10.setCell ⟨wd.heap.size, 1, none⟩ (.slice a1 l1.length c1)).heap.size = ws10.heap.size := by simp [World.setCell]
          clear sS0
          generalize ws10.setCell ⟨wd.heap.size, 1, none⟩ (.slice a1 l1.length c1) = ws11 at *
          have sS0 := unhide S0
          replace r1 := r1.set_other (p := ⟨wd.heap.size, 2, none⟩) (by dsimp only; omega) (.int .i64 e1)
          replace r2 := r2.set_other (p := ⟨wd.heap.size, 2, none⟩) (by dsimp only; omega) (.int .i64 e1)
          replace r3 := r3.set_other (p := ⟨wd.heap.size, 2, none⟩) (by dsimp only; omega) (.int .i64 e1)
          replace r4 := r4.set_other (p := ⟨wd.heap.size, 2, none⟩) (by dsimp only; omega) (.int .i64 e1)
          replace bp0 := cell_else (.int .i64 e1) (r := ⟨wd.heap.size, 2, none⟩) (by dsimp only; omega) rfl rfl bp0
          replace bp1 := cell_else (.int .i64 e1) (r := ⟨wd.heap.size, 2, none⟩) (by dsimp only; omega) rfl rfl bp1
          replace bp2 := cell_else (.int .i64 e1) (r := ⟨wd.heap.size, 2, none⟩) (by dsimp only; omega) rfl rfl bp2
          replace bp3 := cell_else (.int .i64 e1) (r := ⟨wd.heap.size, 2, none⟩) (by dsimp only; omega) rfl rfl bp3
          replace bp4 := cell_else (.int .i64 e1) (r := ⟨wd.heap.size, 2, none⟩) (by dsimp only; omega) rfl rfl bp4
          replace bp5 := cell_else (.int .i64 e1) (r := ⟨wd.heap.size, 2, none⟩) (by dsimp only; omega) rfl rfl bp5
          replace bq0 := cell_else (.int .i64 e1) (r := ⟨wd.heap.size, 2, none⟩) (by dsimp only; omega) rfl rfl bq0
          replace bq1 := cell_else (.int .i64 e1) (r := ⟨wd.heap.size, 2, none⟩) (by dsimp only; omega) rfl rfl bq1
          replace bq2 := cell_else (.int .i64 e1) (r := ⟨wd.heap.size, 2, none⟩) (by dsimp only; omega) rfl rfl bq2
          replace bq3 := cell_else (.int .i64 e1) (r := ⟨wd.heap.size, 2, none⟩) (by dsimp only; omega) rfl rfl bq3
          replace bq4 := cell_else (.int .i64 e1) (r := ⟨wd.heap.size, 2, none⟩) (by dsimp only; omega) rfl rfl bq4
          replace bq5 := cell_else (.int .i64 e1) (r := ⟨wd.heap.size, 2, none⟩) (by dsimp only; omega) rfl rfl bq5
          replace R0 := cell_else (.int .i64 e1) (r := ⟨wd.heap.size, 2, none⟩) (by dsimp only; omega) rfl rfl R0
          replace R1 := cell_else (.int .i64 e1) (r := ⟨wd.heap.size, 2, none⟩) (by dsimp only; omega) rfl rfl R1
          replace R2 := cell_else (.int .i64 e1) (r := ⟨wd.heap.size, 2, none⟩) (by dsimp only; omega) rfl rfl R2
          replace R3 := cell_else (.int .i64 e1) (r := ⟨wd.heap.size, 2, none⟩) (by dsimp only; omega) rfl rfl R3
          replace R4 := cell_else (.int .i64 e1) (r := ⟨wd.heap.size, 2, none⟩) (by dsimp only; omega) rfl rfl R4
          replace R5 := cell_else (.int .i64 e1) (r := ⟨wd.heap.size, 2, none⟩) (by dsimp only; omega) rfl rfl R5
          replace X_0 := cell_else (.int .i64 e1) (r := ⟨wd.heap.size, 2, none⟩) (by dsimp only; omega) rfl rfl X_0
          replace X_1 := cell_else (.int .i64 e1) (r := ⟨wd.heap.size, 2, none⟩) (by dsimp only; omega) rfl rfl X_1
          replace X_3 := cell_else (.int .i64 e1) (r := ⟨wd.heap.size, 2, none⟩) (by dsimp only; omega) rfl rfl X_3
          replace X_4 := cell_else (.int .i64 e1) (r := ⟨wd.heap.size, 2, none⟩) (by dsimp only; omega) rfl rfl X_4
          replace X_5 := cell_else (.int .i64 e1) (r := ⟨wd.heap.size, 2, none⟩) (by dsimp only; omega) rfl rfl X_5
          replace Y_0 := cell_else (.int .i64 e1) (r := ⟨wd.heap.size, 2, none⟩) (by dsimp only; omega) rfl rfl Y_0
          replace Y_1 := cell_else (.int .i64 e1) (r := ⟨wd.heap.size, 2, none⟩) (by dsimp only; omega) rfl rfl Y_1
          replace Y_2 := cell_else (.int .i64 e1) (r := ⟨wd.heap.size, 2, none⟩) (by dsimp only; omega) rfl rfl Y_2
          replace Y_3 := cell_else (.int .i64 e1) (r := ⟨wd.heap.size, 2, none⟩) (by dsimp only; omega) rfl rfl Y_3
          replace Y_4 := cell_else (.int .i64 e1) (r := ⟨wd.heap.size, 2, none⟩) (by dsimp only; omega) rfl rfl Y_4
          replace Y_5 := cell_else (.int .i64 e1) (r := ⟨wd.heap.size, 2, none⟩) (by dsimp only; omega) rfl rfl Y_5
          replace Rf0 : (ws11.setCell ⟨wd.heap.size, 2, none⟩ (.int .i64 e1)).frozen? _ = false := (frozen_set _ _ _ _ _).trans Rf0
          replace Rf1 : (ws11.setCell ⟨wd.heap.size, 2, none⟩ (.int .i64 e1)).frozen? _ = false := (frozen_set _ _ _ _ _).trans Rf1
          replace Rf2 : (ws11.setCell ⟨wd.heap.size, 2, none⟩ (.int .i64 e1)).frozen? _ = false := (frozen_set _ _ _ _ _).trans Rf2
          replace Rf3 : (ws11.setCell ⟨wd.heap.size, 2, none⟩ (.int .i64 e1)).frozen? _ = false := (frozen_set _ _ _ _ _).trans Rf3
          replace Rf4 : (ws11.setCell ⟨wd.heap.size, 2, none⟩ (.int .i64 e1)).frozen? _ = false := (frozen_set _ _ _ _ _).trans Rf4
          replace Rf5 : (ws11.setCell ⟨wd.heap.size, 2, none⟩ (.int .i64 e1)).frozen? _ = false := (frozen_set _ _ _ _ _).trans Rf5
          replace X_f0 : (ws11.setCell ⟨wd.heap.size, 2, none⟩ (.int .i64 e1)).frozen? _ = false := (frozen_set _ _ _ _ _).trans X_f0
          replace X_f1 : (ws11.setCell ⟨wd.heap.size, 2, none⟩ (.int .i64 e1)).frozen? _ = false := (frozen_set _ _ _ _ _).trans X_f1
          replace X_f2 : (ws11.setCell ⟨wd.heap.size, 2, none⟩ (.int .i64 e1)).frozen? _ = false := (frozen_set _ _ _ _ _).trans X_f2
          replace X_f3 : (ws11.setCell ⟨wd.heap.size, 2, none⟩ (.int .i64 e1)).frozen? _ = false := (frozen_set _ _ _ _ _).trans X_f3
          replace X_f4 : (ws11.setCell ⟨wd.heap.size, 2, none⟩ (.int .i64 e1)).frozen? _ = false := (frozen_set _ _ _ _ _).trans X_f4
          replace X_f5 : (ws11.setCell ⟨wd.heap.size, 2, none⟩ (.int .i64 e1)).frozen? _ = false := (frozen_set _ _ _ _ _).trans X_f5
          replace Y_f0 : (ws11.setCell ⟨wd.heap.size, 2, none⟩ (.int .i64 e1)).frozen? _ = false := (frozen_set _ _ _ _ _).trans Y_f0
          replace Y_f1 : (ws11.setCell ⟨wd.heap.size, 2, none⟩ (.int .i64 e1)).frozen? _ = false := (frozen_set _ _ _ _ _).trans Y_f1
          replace Y_f2 : (ws11.setCell ⟨wd.heap.size, 2, none⟩ (.int .i64 e1)).frozen? _ = false := (frozen_set _ _ _ _ _).trans Y_f2
          replace Y_f3 : (ws11.setCell ⟨wd.heap.size, 2, none⟩ (.int .i64 e1)).frozen? _ = false := (frozen_set _ _ _ _ _).trans Y_f3
          replace Y_f4 : (ws11.setCell ⟨wd.heap.size, 2, none⟩ (.int .i64 e1)).frozen? _ = false := (frozen_set _ _ _ _ _).trans Y_f4
          replace Y_f5 : (ws11.setCell ⟨wd.heap.size, 2, none⟩ (.int .i64 e1)).frozen? _ = false := (frozen_set _ _ _ _ _).trans Y_f5
          replace X_2 : (ws11.setCell ⟨wd.heap.size, 2, none⟩ (.int .i64 e1)).cell? ⟨wd.heap.size, 2, none⟩ = some (.int .i64 e1) := cell_on _ _ _ _ _ X_2
          replace kw := kw.setNew (p := ⟨wd.heap.size, 2, none⟩) (by dsimp only; omega) (.int .i64 e1)
          replace K := hide ((unhide K).setNew (p := ⟨wd.heap.size, 2, none⟩) (by dsimp only; omega) (.int .i64 e1))
          have zs12 : (ws11.setCell ⟨wd.heap.size, 2, none⟩ (.int .i64 e1)).heap.size = ws11.heap.size := by simp [World.setCell]
          clear sS0
          generalize ws11.setCell ⟨wd.heap.size, 2, none⟩ (.int .i64 e1) = ws12 at *
          have sS0 := unhide S0
          replace r1 := r1.set_other (p := ⟨wd.heap.size, 3, none⟩) (by dsimp only; omega) (.bool s4)
          replace r2 := r2.set_other (p := ⟨wd.heap.size, 3, none⟩) (by dsimp only; omega) (.bool s4)
          replace r3 := r3.set_other (p := ⟨wd.heap.size, 3, none⟩) (by dsimp only; omega) (.bool s4)
          replace r4 := r4.set_other (p := ⟨wd.heap.size, 3, none⟩) (by dsimp only; omega) (.bool s4)
          replace bp0 := cell_else (.bool s4) (r := ⟨wd.heap.size, 3, none⟩) (by dsimp only; omega) rfl rfl bp0
          replace bp1 := cell_else (.bool s4) (r := ⟨wd.heap.size, 3, none⟩) (by dsimp only; omega) rfl rfl bp1
          replace bp2 := cell_else (.bool s4) (r := ⟨wd.heap.size, 3, none⟩) (by dsimp only; omega) rfl rfl bp2
          replace bp3 := cell_else (.bool s4) (r := ⟨wd.heap.size, 3, none⟩) (by dsimp only; omega) rfl rfl bp3
          replace bp4 := cell_else (.bool s4) (r := ⟨wd.heap.size, 3, none⟩) (by dsimp only; omega) rfl rfl bp4
          replace bp5 := cell_else (.bool s4) (r := ⟨wd.heap.size, 3, none⟩) (by dsimp only; omega) rfl rfl bp5
          replace bq0 := cell_else (.bool s4) (r := ⟨wd.heap.size, 3, none⟩) (by dsimp only; omega) rfl rfl bq0
          replace bq1 := cell_else (.bool s4) (r := ⟨wd.heap.size, 3, none⟩) (by dsimp only; omega) rfl rfl bq1
          replace bq2 := cell_else (.bool s4) (r := ⟨wd.heap.size, 3, none⟩) (by dsimp only; omega) rfl rfl bq2
          replace bq3 := cell_else (.bool s4) (r := ⟨wd.heap.size, 3, none⟩) (by dsimp only; omega) rfl rfl bq3
          replace bq4 := cell_else (.bool s4) (r := ⟨wd.heap.size, 3, none⟩) (by dsimp only; omega) rfl rfl bq4
          replace bq5 := cell_else (.bool s4) (r := ⟨wd.heap.size, 3, none⟩) (by dsimp only; omega) rfl rfl bq5
          replace R0 := cell_else (.bool s4) (r := ⟨wd.heap.size, 3, none⟩) (by dsimp only; omega) rfl rfl R0
          replace R1 := cell_else (.bool s4) (r := ⟨wd.heap.size, 3, none⟩) (by dsimp only; omega) rfl rfl R1
          replace R2 := cell_else (.bool s4) (r := ⟨wd.heap.size, 3, none⟩) (by dsimp only; omega) rfl rfl R2
          replace R3 := cell_else (.bool s4) (r := ⟨wd.heap.size, 3, none⟩) (by dsimp only; omega) rfl rfl R3
          replace R4 := cell_else (.bool s4) (r := ⟨wd.heap.size, 3, none⟩) (by dsimp only; omega) rfl rfl R4
          replace R5 := cell_else (.bool s4) (r := ⟨wd.heap.size, 3, none⟩) (by dsimp only; omega) rfl rfl R5
          replace X_0 := cell_else (.bool s4) (r := ⟨wd.heap.size, 3, none⟩) (by dsimp only; omega) rfl rfl X_0
          replace X_1 := cell_else (.bool s4) (r := ⟨wd.heap.size, 3, none⟩) (by dsimp only; omega) rfl rfl X_1
          replace X_2 := cell_else (.bool s4) (r := ⟨wd.heap.size, 3, none⟩) (by dsimp only; omega) rfl rfl X_2
          replace X_4 := cell_else (.bool s4) (r := ⟨wd.heap.size, 3, none⟩) (by dsimp only; omega) rfl rfl X_4
          replace X_5 := cell_else (.bool s4) (r := ⟨wd.heap.size, 3, none⟩) (by dsimp only; omega) rfl rfl X_5
          replace Y_0 := cell_else (.bool s4) (r := ⟨wd.heap.size, 3, none⟩) (by dsimp only; omega) rfl rfl Y_0
          replace Y_1 := cell_else (.bool s4) (r := ⟨wd.heap.size, 3, none⟩) (by dsimp only; omega) rfl rfl Y_1
          replace Y_2 := cell_else (.bool s4) (r := ⟨wd.heap.size, 3, none⟩) (by dsimp only; omega) rfl rfl Y_2
          replace Y_3 := cell_else (.bool s4) (r := ⟨wd.heap.size, 3, none⟩) (by dsimp only; omega) rfl rfl Y_3
          replace Y_4 := cell_else (.bool s4) (r := ⟨wd.heap.size, 3, none⟩) (by dsimp only; omega) rfl rfl Y_4
          replace Y_5 := cell_else (.bool s4) (r := ⟨wd.heap.size, 3, none⟩) (by dsimp only; omega) rfl rfl Y_5
          replace Rf0 : (ws12.setCell ⟨wd.heap.size, 3, none⟩ (.bool s4)).frozen? _ = false := (frozen_set _ _ _ _ _).trans Rf0
          replace Rf1 : (ws12.setCell ⟨wd.heap.size, 3, none⟩ (.bool s4)).frozen? _ = false := (frozen_set _ _ _ _ _).trans Rf1
          replace Rf2 : (ws12.setCell ⟨wd.heap.size, 3, none⟩ (.bool s4)).frozen? _ = false := (frozen_set _ _ _ _ _).trans Rf2
          replace Rf3 : (ws12.setCell ⟨wd.heap.size, 3, none⟩ (.bool s4)).frozen? _ = false := (frozen_set _ _ _ _ _).trans Rf3
          replace Rf4 : (ws12.setCell ⟨wd.heap.size, 3, none⟩ (.bool s4)).frozen? _ = false := (frozen_set _ _ _ _ _).trans Rf4
          replace Rf5 : (ws12.setCell ⟨wd.heap.size, 3, none⟩ (.bool s4)).frozen? _ = false := (frozen_set _ _ _ _ _).trans Rf5
          replace X_f0 : (ws12.setCell ⟨wd.heap.size, 3, none⟩ (.bool s4)).frozen? _ = false := (frozen_set _ _ _ _ _).trans X_f0
          replace X_f1 : (ws12.setCell ⟨wd.heap.size, 3, none⟩ (.bool s4)).frozen? _ = false := (frozen_set _ _ _ _ _).trans X_f1
          replace X_f2 : (ws12.setCell ⟨wd.heap.size, 3, none⟩ (.bool s4)).frozen? _ = false := (frozen_set _ _ _ _ _).trans X_f2
          replace X_f3 : (ws12.setCell ⟨wd.heap.size, 3, none⟩ (.bool s4)).frozen? _ = false := (frozen_set _ _ _ _ _).trans X_f3
          replace X_f4 : (ws12.setCell ⟨wd.heap.size, 3, none⟩ (.bool s4)).frozen? _ = false := (frozen_set _ _ _ _ _).trans X_f4
          replace X_f5 : (ws12.setCell ⟨wd.heap.size, 3, none⟩ (.bool s4)).frozen? _ = false := (frozen_set _ _ _ _ _).trans X_f5
          replace Y_f0 : (ws12.setCell ⟨wd.heap.size, 3, none⟩ (.bool s4)).frozen? _ = false := (frozen_set _ _ _ _ _).trans Y_f0
          replace Y_f1 : (ws12.setCell ⟨wd.heap.size, 3, none⟩ (.bool s4)).frozen? _ = false := (frozen_set _ _ _ _ _).trans Y_f1
          replace Y_f2 : (ws12.setCell ⟨wd.heap.size, 3, none⟩ (.bool s4)).frozen? _ = false := (frozen_set _ _ _ _ _).trans Y_f2
          replace Y_f3 : (ws12.setCell ⟨wd.heap.size, 3, none⟩ (.bool s4)).frozen? _ = false := (frozen_set _ _ _ _ _).trans Y_f3
          replace Y_f4 : (ws12.setCell ⟨wd.heap.size, 3, none⟩ (.bool s4)).frozen? _ = false := (frozen_set _ _ _ _ _).trans Y_f4
          replace Y_f5 : (ws12.setCell ⟨wd.heap.size, 3, none⟩ (.bool s4)).frozen? _ = false := (frozen_set _ _ _ _ _).trans Y_f5
          replace X_3 : (ws12.setCell ⟨wd.heap.size, 3, none⟩ (.bool s4)).cell? ⟨wd.heap.size, 3, none⟩ = some (.bool s4) := cell_on _ _ _ _ _ X_3
          replace kw := kw.setNew (p := ⟨wd.heap.size, 3, none⟩) (by dsimp only; omega) (.bool s4)
          replace K := hide ((unhide K).setNew (p := ⟨wd.heap.size, 3, none⟩) (by dsimp only; omega) (.bool s4))
          have zs13 : (ws12.setCell ⟨wd.heap.size, 3, none⟩ (.bool s4)).heap.size = ws12.heap.size := by simp [World.setCell]
          clear sS0
          generalize ws12.setCell ⟨wd.heap.size, 3, none⟩ (.bool s4) = ws13 at *
          have sS0 := unhide S0
          replace r1 := r1.set_other (p := ⟨wd.heap.size, 4, none⟩) (by dsimp only; omega) (.slice a4 l4.length c4)
          replace r2 := r2.set_other (p := ⟨wd.heap.size, 4, none⟩) (by dsimp only; omega) (.slice a4 l4.length c4)
          replace r3 := r3.set_other (p := ⟨wd.heap.size, 4, none⟩) (by dsimp only; omega) (.slice a4 l4.length c4)
          replace r4 := r4.set_other (p := ⟨wd.heap.size, 4, none⟩) (by dsimp only; omega) (.slice a4 l4.length c4)
          replace bp0 := cell_else (.slice a4 l4.length c4) (r := ⟨wd.heap.size, 4, none⟩) (by dsimp only; omega) rfl rfl bp0
          replace bp1 := cell_else (.slice a4 l4.length c4) (r := ⟨wd.heap.size, 4, none⟩) (by dsimp only; omega) rfl rfl bp1
          replace bp2 := cell_else (.slice a4 l4.length c4) (r := ⟨wd.heap.size, 4, none⟩) (by dsimp only; omega) rfl rfl bp2
          replace bp3 := cell_else (.slice a4 l4.length c4) (r := ⟨wd.heap.size, 4, none⟩) (by dsimp only; omega) rfl rfl bp3
          replace bp4 := cell_else (.slice a4 l4.length c4) (r := ⟨wd.heap.size, 4, none⟩) (by dsimp only; omega) rfl rfl bp4
          replace bp5 := cell_else (.slice a4 l4.length c4) (r := ⟨wd.heap.size, 4, none⟩) (by dsimp only; omega) rfl rfl bp5
          replace bq0 := cell_else (.slice a4 l4.length c4) (r := ⟨wd.heap.size, 4, none⟩) (by dsimp only; omega) rfl rfl bq0
          replace bq1 := cell_else (.slice a4 l4.length c4) (r := ⟨wd.heap.size, 4, none⟩) (by dsimp only; omega) rfl rfl bq1
          replace bq2 := cell_else (.slice a4 l4.length c4) (r := ⟨wd.heap.size, 4, none⟩) (by dsimp only; omega) rfl rfl bq2
          replace bq3 := cell_else (.slice a4 l4.length c4) (r := ⟨wd.heap.size, 4, none⟩) (by dsimp only; omega) rfl rfl bq3
          replace bq4 := cell_else (.slice a4 l4.length c4) (r := ⟨wd.heap.size, 4, none⟩) (by dsimp only; omega) rfl rfl bq4
          replace bq5 := cell_else (.slice a4 l4.length c4) (r := ⟨wd.heap.size, 4, none⟩) (by dsimp only; omega) rfl rfl bq5
          replace R0 := cell_else (.slice a4 l4.length c4) (r := ⟨wd.heap.size, 4, none⟩) (by dsimp only; omega) rfl rfl R0
          replace R1 := cell_else (.slice a4 l4.length c4) (r := ⟨wd.heap.size, 4, none⟩) (by dsimp only; omega) rfl rfl R1
          replace R2 := cell_else (.slice a4 l4.length c4) (r := ⟨wd.heap.size, 4, none⟩) (by dsimp only; omega) rfl rfl R2
          replace R3 := cell_else (.slice a4 l4.length c4) (r := ⟨wd.heap.size, 4, none⟩) (by dsimp only; omega) rfl rfl R3
          replace R4 := cell_else (.slice a4 l4.length c4) (r := ⟨wd.heap.size, 4, none⟩) (by dsimp only; omega) rfl rfl R4
          replace R5 := cell_else (.slice a4 l4.length c4) (r := ⟨wd.heap.size, 4, none⟩) (by dsimp only; omega) rfl rfl R5
          replace X_0 := cell_else (.slice a4 l4.length c4) (r := ⟨wd.heap.size, 4, none⟩) (by dsimp only; omega) rfl rfl X_0
          replace X_1 := cell_else (.slice a4 l4.length c4) (r := ⟨wd.heap.size, 4, none⟩) (by dsimp only; omega) rfl rfl X_1
          replace X_2 := cell_else (.slice a4 l4.length c4) (r := ⟨wd.heap.size, 4, none⟩) (by dsimp only; omega) rfl rfl X_2
          replace X_3 := cell_else (.slice a4 l4.length c4) (r := ⟨wd.heap.size, 4, none⟩) (by dsimp only; omega) rfl rfl X_3
          replace X_5 := cell_else (.slice a4 l4.length c4) (r := ⟨wd.heap.size, 4, none⟩) (by dsimp only; omega) rfl rfl X_5
          replace Y_0 := cell_else (.slice a4 l4.length c4) (r := ⟨wd.heap.size, 4, none⟩) (by dsimp only; omega) rfl rfl Y_0
          replace Y_1 := cell_else (.slice a4 l4.length c4) (r := ⟨wd.heap.size, 4, none⟩) (by dsimp only; omega) rfl rfl Y_1
          replace Y_2 := cell_else (.slice a4 l4.length c4) (r := ⟨wd.heap.size, 4, none⟩) (by dsimp only; omega) rfl rfl Y_2
          replace Y_3 := cell_else (.slice a4 l4.length c4) (r := ⟨wd.heap.size, 4, none⟩) (by dsimp only; omega) rfl rfl Y_3
          replace Y_4 := cell_else (.slice a4 l4.length c4) (r := ⟨wd.heap.size, 4, none⟩) (by dsimp only; omega) rfl rfl Y_4
          replace Y_5 := cell_else (.slice a4 l4.length c4) (r := ⟨wd.heap.size, 4, none⟩) (by dsimp only; omega) rfl rfl Y_5
          replace Rf0 : (ws13.setCell ⟨wd.heap.size, 4, none⟩ (.slice a4 l4.length c4)).frozen? _ = false := (frozen_set _ _ _ _ _).trans Rf0
          replace Rf1 : (ws13.setCell ⟨wd.heap.size, 4, none⟩ (.slice a4 l4.length c4)).frozen? _ = false := (frozen_set _ _ _ _ _).trans Rf1
          replace Rf2 : (ws13.setCell ⟨wd.heap.size, 4, none⟩ (.slice a4 l4.length c4)).frozen? _ = false := (frozen_set _ _ _ _ _).trans Rf2
          replace Rf3 : (ws13.setCell ⟨wd.heap.size, 4, none⟩ (.slice a4 l4.length c4)).frozen? _ = false := (frozen_set _ _ _ _ _).trans Rf3
          replace Rf4 : (ws13.setCell ⟨wd.heap.size, 4, none⟩ (.slice a4 l4.length c4)).frozen? _ = false := (frozen_set _ _ _ _ _).trans Rf4
          replace Rf5 : (ws13.setCell ⟨wd.heap.size, 4, none⟩ (.slice a4 l4.length c4)).frozen? _ = false := (frozen_set _ _ _ _ _).trans Rf5
          replace X_f0 : (ws13.setCell ⟨wd.heap.size, 4, none⟩ (.slice a4 l4.length c4)).frozen? _ = false := (frozen_set _ _ _ _ _).trans X_f0
          replace X_f1 : (ws13.setCell ⟨wd.heap.size, 4, none⟩ (.slice a4 l4.length c4)).frozen? _ = false := (frozen_set _ _ _ _ _).trans X_f1
          replace X_f2 : (ws13.setCell ⟨wd.heap.size, 4, none⟩ (.slice a4 l4.length c4)).frozen? _ = false := (frozen_set _ _ _ _ _).trans X_f2
          replace X_f3 : (ws13.setCell ⟨wd.heap.size, 4, none⟩ (.slice a4 l4.length c4)).frozen? _ = false := (frozen_set _ _ _ _ _).trans X_f3
          replace X_f4 : (ws13.setCell ⟨wd.heap.size, 4, none⟩ (.slice a4 l4.length c4)).frozen? _ = false := (frozen_set _ _ _ _ _).trans X_f4
          replace X_f5 : (ws13.setCell ⟨wd.heap.size, 4, none⟩ (.slice a4 l4.length c4)).frozen? _ = false := (frozen_set _ _ _ _ _).trans X_f5
          replace Y_f0 : (ws13.setCell ⟨wd.heap.size, 4, none⟩ (.slice a4 l4.length c4)).frozen? _ = false := (frozen_set _ _ _ _ _).trans Y_f0
          replace Y_f1 : (ws13.setCell ⟨wd.heap.size, 4, none⟩ (.slice a4 l4.length c4)).frozen? _ = false := (frozen_set _ _ _ _ _).trans Y_f1
          replace Y_f2 : (ws13.setCell ⟨wd.heap.size, 4, none⟩ (.slice a4 l4.length c4)).frozen? _ = false := (frozen_set _ _ _ _ _).trans Y_f2
          replace Y_f3 : (ws13.setCell ⟨wd.heap.size, 4, none⟩ (.slice a4 l4.length c4)).frozen? _ = false := (frozen_set _ _ _ _ _).trans Y_f3
          replace Y_f4 : (ws13.setCell ⟨wd.heap.size, 4, none⟩ (.slice a4 l4.length c4)).frozen? _ = false := (frozen_set _ _ _ _ _).trans Y_f4
          replace Y_f5 : (ws13.setCell ⟨wd.heap.size, 4, none⟩ (.slice a4 l4.length c4)).frozen? _ = false := (frozen_set _ _ _ _ _).trans Y_f5
          replace X_4 : (ws13.setCell ⟨wd.heap.size, 4, none⟩ (.slice a4 l4.length c4)).cell? ⟨wd.heap.size, 4, none⟩ = some (.slice a4 l4.length c4) := cell_on _ _ _ _ _ X_4
          replace kw := kw.setNew (p := ⟨wd.heap.size, 4, none⟩) (by dsimp only; omega) (.slice a4 l4.length c4)
          replace K := hide ((unhide K).setNew (p := ⟨wd.heap.size, 4, none⟩) (by dsimp only; omega) (.slice a4 l4.length c4))
          have zs14 : (ws13.setCell ⟨wd.heap.size, 4, none⟩ (.slice a4 l4.length c4)).heap.size = ws13.heap.size := by simp [World.setCell]
          clear sS0
          generalize ws13.setCell ⟨wd.heap.size, 4, none⟩ (.slice a4 l4.length c4) = ws14 at *
          have sS0 := unhide S0
          replace r1 := r1.set_other (p := ⟨wd.heap.size, 5, none⟩) (by dsimp only; omega) (.int .i64 e4)
          replace r2 := r2.set_other (p := ⟨wd.heap.size, 5, none⟩) (by dsimp only; omega) (.int .i64 e4)
          replace r3 := r3.set_other (p := ⟨wd.heap.size, 5, none⟩) (by dsimp only; omega) (.int .i64 e4)
          replace r4 := r4.set_other (p := ⟨wd.heap.size, 5, none⟩) (by dsimp only; omega) (.int .i64 e4)
          replace bp0 := cell_else (.int .i64 e4) (r := ⟨wd.heap.size, 5, none⟩) (by dsimp only; omega) rfl rfl bp0
          replace bp1 := cell_else (.int .i64 e4) (r := ⟨wd.heap.size, 5, none⟩) (by dsimp only; omega) rfl rfl bp1
          replace bp2 := cell_else (.int .i64 e4) (r := ⟨wd.heap.size, 5, none⟩) (by dsimp only; omega) rfl rfl bp2
          replace bp3 := cell_else (.int .i64 e4) (r := ⟨wd.heap.size, 5, none⟩) (by dsimp only; omega) rfl rfl bp3
          replace bp4 := cell_else (.int .i64 e4) (r := ⟨wd.heap.size, 5, none⟩) (by dsimp only; omega) rfl rfl bp4
          replace bp5 := cell_else (.int .i64 e4) (r := ⟨wd.heap.size, 5, none⟩) (by dsimp only; omega) rfl rfl bp5
          replace bq0 := cell_else (.int .i64 e4) (r := ⟨wd.heap.size, 5, none⟩) (by dsimp only; omega) rfl rfl bq0
          replace bq1 := cell_else (.int .i64 e4) (r := ⟨wd.heap.size, 5, none⟩) (by dsimp only; omega) rfl rfl bq1
          replace bq2 := cell_else (.int .i64 e4) (r := ⟨wd.heap.size, 5, none⟩) (by dsimp only; omega) rfl rfl bq2
          replace bq3 := cell_else (.int .i64 e4) (r := ⟨wd.heap.size, 5, none⟩) (by dsimp only; omega) rfl rfl bq3
          replace bq4 := cell_else (.int .i64 e4) (r := ⟨wd.heap.size, 5, none⟩) (by dsimp only; omega) rfl rfl bq4
          replace bq5 := cell_else (.int .i64 e4) (r := ⟨wd.heap.size, 5, none⟩) (by dsimp only; omega) rfl rfl bq5
          replace R0 := cell_else (.int .i64 e4) (r := ⟨wd.heap.size, 5, none⟩) (by dsimp only; omega) rfl rfl R0
          replace R1 := cell_else (.int .i64 e4) (r := ⟨wd.heap.size, 5, none⟩) (by dsimp only; omega) rfl rfl R1
          replace R2 := cell_else (.int .i64 e4) (r := ⟨wd.heap.size, 5, none⟩) (by dsimp only; omega) rfl rfl R2
          replace R3 := cell_else (.int .i64 e4) (r := ⟨wd.heap.size, 5, none⟩) (by dsimp only; omega) rfl rfl R3
          replace R4 := cell_else (.int .i64 e4) (r := ⟨wd.heap.size, 5, none⟩) (by dsimp only; omega) rfl rfl R4
          replace R5 := cell_else (.int .i64 e4) (r := ⟨wd.heap.size, 5, none⟩) (by dsimp only; omega) rfl rfl R5
          replace X_0 := cell_else (.int .i64 e4) (r := ⟨wd.heap.size, 5, none⟩) (by dsimp only; omega) rfl rfl X_0
          replace X_1 := cell_else (.int .i64 e4) (r := ⟨wd.heap.size, 5, none⟩) (by dsimp only; omega) rfl rfl X_1
          replace X_2 := cell_else (.int .i64 e4) (r := ⟨wd.heap.size, 5, none⟩) (by dsimp only; omega) rfl rfl X_2
          replace X_3 := cell_else (.int .i64 e4) (r := ⟨wd.heap.size, 5, none⟩) (by dsimp only; omega) rfl rfl X_3
          replace X_4 := cell_else (.int .i64 e4) (r := ⟨wd.heap.size, 5, none⟩) (by dsimp only; omega) rfl rfl X_4
          replace Y_0 := cell_else (.int .i64 e4) (r := ⟨wd.heap.size, 5, none⟩) (by dsimp only; omega) rfl rfl Y_0
          replace Y_1 := cell_else (.int .i64 e4) (r := ⟨wd.heap.size, 5, none⟩) (by dsimp only; omega) rfl rfl Y_1
          replace Y_2 := cell_else (.int .i64 e4) (r := ⟨wd.heap.size, 5, none⟩) (by dsimp only; omega) rfl rfl Y_2
          replace Y_3 := cell_else (.int .i64 e4) (r := ⟨wd.heap.size, 5, none⟩) (by dsimp only; omega) rfl rfl Y_3
          replace Y_4 := cell_else (.int .i64 e4) (r := ⟨wd.heap.size, 5, none⟩) (by dsimp only; omega) rfl rfl Y_4
          replace Y_5 := cell_else (.int .i64 e4) (r := ⟨wd.heap.size, 5, none⟩) (by dsimp only; omega) rfl rfl Y_5
          replace Rf0 : (ws14.setCell ⟨wd.heap.size, 5, none⟩ (.int .i64 e4)).frozen? _ = false := (frozen_set _ _ _ _ _).trans Rf0
          replace Rf1 : (ws14.setCell ⟨wd.heap.size, 5, none⟩ (.int .i64 e4)).frozen? _ = false := (frozen_set _ _ _ _ _).trans Rf1
          replace Rf2 : (ws14.setCell ⟨wd.heap.size, 5, none⟩ (.int .i64 e4)).frozen? _ = false := (frozen_set _ _ _ _ _).trans Rf2
          replace Rf3 : (ws14.setCell ⟨wd.heap.size, 5, none⟩ (.int .i64 e4)).frozen? _ = false := (frozen_set _ _ _ _ _).trans Rf3
          replace Rf4 : (ws14.setCell ⟨wd.heap.size, 5, none⟩ (.int .i64 e4)).frozen? _ = false := (frozen_set _ _ _ _ _).trans Rf4
          replace Rf5 : (ws14.setCell ⟨wd.heap.size, 5, none⟩ (.int .i64 e4)).frozen? _ = false := (frozen_set _ _ _ _ _).trans Rf5
          replace X_f0 : (ws14.setCell ⟨wd.heap.size, 5, none⟩ (.int .i64 e4)).frozen? _ = false := (frozen_set _ _ _ _ _).trans X_f0
          replace X_f1 : (ws14.setCell ⟨wd.heap.size, 5, none⟩ (.int .i64 e4)).frozen? _ = false := (frozen_set _ _ _ _ _).trans X_f1
          replace X_f2 : (ws14.setCell ⟨wd.heap.size, 5, none⟩ (.int .i64 e4)).frozen? _ = false := (frozen_set _ _ _ _ _).trans X_f2
          replace X_f3 : (ws14.setCell ⟨wd.heap.size, 5, none⟩ (.int .i64 e4)).frozen? _ = false := (frozen_set _ _ _ _ _).trans X_f3
          replace X_f4 : (ws14.setCell ⟨wd.heap.size, 5, none⟩ (.int .i64 e4)).frozen? _ = false := (frozen_set _ _ _ _ _).trans X_f4
          replace X_f5 : (ws14.setCell ⟨wd.heap.size, 5, none⟩ (.int .i64 e4)).frozen? _ = false := (frozen_set _ _ _ _ _).trans X_f5
          replace Y_f0 : (ws14.setCell ⟨wd.heap.size, 5, none⟩ (.int .i64 e4)).frozen? _ = false := (frozen_set _ _ _ _ _).trans Y_f0
          replace Y_f1 : (ws14.setCell ⟨wd.heap.size, 5, none⟩ (.int .i64 e4)).frozen? _ = false := (frozen_set _ _ _ _ _).trans Y_f1
          replace Y_f2 : (ws14.setCell ⟨wd.heap.size, 5, none⟩ (.int .i64 e4)).frozen? _ = false := (frozen_set _ _ _ _ _).trans Y_f2
          replace Y_f3 : (ws14.setCell ⟨wd.heap.size, 5, none⟩ (.int .i64 e4)).frozen? _ = false := (frozen_set _ _ _ _ _).trans Y_f3
          replace Y_f4 : (ws14.setCell ⟨wd.heap.size, 5, none⟩ (.int .i64 e4)).frozen? _ = false := (frozen_set _ _ _ _ _).trans Y_f4
          replace Y_f5 : (ws14.setCell ⟨wd.heap.size, 5, none⟩ (.int .i64 e4)).frozen? _ = false := (frozen_set _ _ _ _ _).trans Y_f5
          replace X_5 : (ws14.setCell ⟨wd.heap.size, 5, none⟩ (.int .i64 e4)).cell? ⟨wd.heap.size, 5, none⟩ = some (.int .i64 e4) := cell_on _ _ _ _ _ X_5
          replace kw := kw.setNew (p := ⟨wd.heap.size, 5, none⟩) (by dsimp only; omega) (.int .i64 e4)
          replace K := hide ((unhide K).setNew (p := ⟨wd.heap.size, 5, none⟩) (by dsimp only; omega) (.int .i64 e4))
          have zs15 : (ws14.setCell ⟨wd.heap.size, 5, none⟩ (.int .i64 e4)).heap.size = ws14.heap.size := by simp [World.setCell]
          clear sS0
          generalize ws14.setCell ⟨wd.heap.size, 5, none⟩ (.int .i64 e4) = ws15 at *
          refine wpAnyH_ready (rs := [13]) (by kernel_rfl) (by simp) ?_
          refine AllReadyH.cons rfl (fun KK hK => ?_) AllReadyH.nil
          · simp only [List.getElem_toArray, List.getElem_cons_succ, List.getElem_cons_zero]
            rw [if_pos (by rfl)]
            go_simp
            clear hHeld
            refine hK.out _ _ ?_ (fun hHeld => ?_)
            · exact ⟨(cell_aside _ (by have := unhide S0; dsimp only; omega) (cell_aside _ (by have := unhide S0; dsimp only; omega) (cell_aside _ (by have := unhide S0; dsimp only; omega) (cell_aside _ (by have := unhide S0; dsimp only; omega) (cell_aside _ (by have := unhide S0; dsimp only; omega) (cell_aside _ (by have := unhide S0; dsimp only; omega) bp0)))))), (cell_aside _ (by have := unhide S0; dsimp only; omega) (cell_aside _ (by have := unhide S0; dsimp only; omega) (cell_aside _ (by have := unhide S0; dsimp only; omega) (cell_aside _ (by have := unhide S0; dsimp only; omega) (cell_aside _ (by have := unhide S0; dsimp only; omega) (cell_aside _ (by have := unhide S0; dsimp only; omega) bp1)))))), (cell_aside _ (by have := unhide S0; dsimp only; omega) (cell_aside _ (by have := unhide S0; dsimp only; omega) (cell_aside _ (by have := unhide S0; dsimp only; omega) (cell_aside _ (by have := unhide S0; dsimp only; omega) (cell_aside _ (by have := unhide S0; dsimp only; omega) (cell_aside _ (by have := unhide S0; dsimp only; omega) bp2)))))), (cell_aside _ (by have := unhide S0; dsimp only; omega) (cell_aside _ (by have := unhide S0; dsimp only; omega) (cell_aside _ (by have := unhide S0; dsimp only; omega) (cell_aside _ (by have := unhide S0; dsimp only; omega) (cell_aside _ (by have := unhide S0; dsimp only; omega) (cell_aside _ (by have := unhide S0; dsimp only; omega) bp3)))))), (cell_aside _ (by have := unhide S0; dsimp only; omega) (cell_aside _ (by have := unhide S0; dsimp only; omega) (cell_aside _ (by have := unhide S0; dsimp only; omega) (cell_aside _ (by have := unhide S0; dsimp only; omega) (cell_aside _ (by have := unhide S0; dsimp only; omega) (cell_aside _ (by have := unhide S0; dsimp only; omega) bp4)))))), (cell_aside _ (by have := unhide S0; dsimp only; omega) (cell_aside _ (by have := unhide S0; dsimp only; omega) (cell_aside _ (by have := unhide S0; dsimp only; omega) (cell_aside _ (by have := unhide S0; dsimp only; omega) (cell_aside _ (by have := unhide S0; dsimp only; omega) (cell_aside _ (by have := unhide S0; dsimp only; omega) bp5)))))), (cell_aside _ (by have := unhide S0; dsimp only; omega) (cell_aside _ (by have := unhide S0; dsimp only; omega) (cell_aside _ (by have := unhide S0; dsimp only; omega) (cell_aside _ (by have := unhide S0; dsimp only; omega) (cell_aside _ (by have := unhide S0; dsimp only; omega) (cell_aside _ (by have := unhide S0; dsimp only; omega) bq0)))))), (cell_aside _ (by have := unhide S0; dsimp only; omega) (cell_aside _ (by have := unhide S0; dsimp only; omega) (cell_aside _ (by have := unhide S0; dsimp only; omega) (cell_aside _ (by have := unhide S0; dsimp only; omega) (cell_aside _ (by have := unhide S0; dsimp only; omega) (cell_aside _ (by have := unhide S0; dsimp only; omega) bq1)))))), (cell_aside _ (by have := unhide S0; dsimp only; omega) (cell_aside _ (by have := unhide S0; dsimp only; omega) (cell_aside _ (by have := unhide S0; dsimp only; omega) (cell_aside _ (by have := unhide S0; dsimp only; omega) (cell_aside _ (by have := unhide S0; dsimp only; omega) (cell_aside _ (by have := unhide S0; dsimp only; omega) bq2)))))), (cell_aside _ (by have := unhide S0; dsimp only; omega) (cell_aside _ (by have := unhide S0; dsimp only; omega) (cell_aside _ (by have := unhide S0; dsimp only; omega) (cell_aside _ (by have := unhide S0; dsimp only; omega) (cell_aside _ (by have := unhide S0; dsimp only; omega) (cell_aside _ (by have := unhide S0; dsimp only; omega) bq3)))))), (cell_aside _ (by have := unhide S0; dsimp only; omega) (cell_aside _ (by have := unhide S0; dsimp only; omega) (cell_aside _ (by have := unhide S0; dsimp only; omega) (cell_aside _ (by have := unhide S0; dsimp only; omega) (cell_aside _ (by have := unhide S0; dsimp only; omega) (cell_aside _ (by have := unhide S0; dsimp only; omega) bq4)))))), (cell_aside _ (by have := unhide S0; dsimp only; omega) (cell_aside _ (by have := unhide S0; dsimp only; omega) (cell_aside _ (by have := unhide S0; dsimp only; omega) (cell_aside _ (by have := unhide S0; dsimp only; omega) (cell_aside _ (by have := unhide S0; dsimp only; omega) (cell_aside _ (by have := unhide S0; dsimp only; omega) bq5))))))⟩
            clear hK KK
            try simp only [Act.put, List.getElem_toArray, List.getElem_cons_succ, List.getElem_cons_zero, List.setIfInBounds_toArray, List.set_cons_zero, List.set_cons_succ]
            have sS0 := unhide S0
            replace r1 := r1.set_other (p := ⟨w6.heap.size, 0, none⟩) (by dsimp only; omega) (.bool s2)
            replace r2 := r2.set_other (p := ⟨w6.heap.size, 0, none⟩) (by dsimp only; omega) (.bool s2)
            replace r3 := r3.set_other (p := ⟨w6.heap.size, 0, none⟩) (by dsimp only; omega) (.bool s2)
            replace r4 := r4.set_other (p := ⟨w6.heap.size, 0, none⟩) (by dsimp only; omega) (.bool s2)
            replace bp0 := cell_else (.bool s2) (r := ⟨w6.heap.size, 0, none⟩) (by dsimp only; omega) rfl rfl bp0
            replace bp1 := cell_else (.bool s2) (r := ⟨w6.heap.size, 0, none⟩) (by dsimp only; omega) rfl rfl bp1
            replace bp2 := cell_else (.bool s2) (r := ⟨w6.heap.size, 0, none⟩) (by dsimp only; omega) rfl rfl bp2
            replace bp3 := cell_else (.bool s2) (r := ⟨w6.heap.size, 0, none⟩) (by dsimp only; omega) rfl rfl bp3
            replace bp4 := cell_else (.bool s2) (r := ⟨w6.heap.size, 0, none⟩) (by dsimp only; omega) rfl rfl bp4
            replace bp5 := cell_else (.bool s2) (r := ⟨w6.heap.size, 0, none⟩) (by dsimp only; omega) rfl rfl bp5
            replace bq0 := cell_else (.bool s2) (r := ⟨w6.heap.size, 0, none⟩) (by dsimp only; omega) rfl rfl bq0
            replace bq1 := cell_else (.bool s2) (r := ⟨w6.heap.size, 0, none⟩) (by dsimp only; omega) rfl rfl bq1
            replace bq2 := cell_else (.bool s2) (r := ⟨w6.heap.size, 0, none⟩) (by dsimp only; omega) rfl rfl bq2
            replace bq3 := cell_else (.bool s2) (r := ⟨w6.heap.size, 0, none⟩) (by dsimp only; omega) rfl rfl bq3
            replace bq4 := cell_else (.bool s2) (r := ⟨w6.heap.size, 0, none⟩) (by dsimp only; omega) rfl rfl bq4
            replace bq5 := cell_else (.bool s2) (r := ⟨w6.heap.size, 0, none⟩) (by dsimp only; omega) rfl rfl bq5
            replace R0 := cell_else (.bool s2) (r := ⟨w6.heap.size, 0, none⟩) (by dsimp only; omega) rfl rfl R0
            replace R1 := cell_else (.bool s2) (r := ⟨w6.heap.size, 0, none⟩) (by dsimp only; omega) rfl rfl R1
            replace R2 := cell_else (.bool s2) (r := ⟨w6.heap.size, 0, none⟩) (by dsimp only; omega) rfl rfl R2
            replace R3 := cell_else (.bool s2) (r := ⟨w6.heap.size, 0, none⟩) (by dsimp only; omega) rfl rfl R3
            replace R4 := cell_else (.bool s2) (r := ⟨w6.heap.size, 0, none⟩) (by dsimp only; omega) rfl rfl R4
            replace R5 := cell_else (.bool s2) (r := ⟨w6.heap.size, 0, none⟩) (by dsimp only; omega) rfl rfl R5
            replace X_0 := cell_else (.bool s2) (r := ⟨w6.heap.size, 0, none⟩) (by dsimp only; omega) rfl rfl X_0
            replace X_1 := cell_else (.bool s2) (r := ⟨w6.heap.size, 0, none⟩) (by dsimp only; omega) rfl rfl X_1
            replace X_2 := cell_else (.bool s2) (r := ⟨w6.heap.size, 0, none⟩) (by dsimp only; omega) rfl rfl X_2
            replace X_3 := cell_else (.bool s2) (r := ⟨w6.heap.size, 0, none⟩) (by dsimp only; omega) rfl rfl X_3
            replace X_4 := cell_else (.bool s2) (r := ⟨w6.heap.size, 0, none⟩) (by dsimp only; omega) rfl rfl X_4
            replace X_5 := cell_else (.bool s2) (r := ⟨w6.heap.size, 0, none⟩) (by dsimp only; omega) rfl rfl X_5
            replace Y_1 := cell_else (.bool s2) (r := ⟨w6.heap.size, 0, none⟩) (by dsimp only; omega) rfl rfl Y_1
            replace Y_2 := cell_else (.bool s2) (r := ⟨w6.heap.size, 0, none⟩) (by dsimp only; omega) rfl rfl Y_2
            replace Y_3 := cell_else (.bool s2) (r := ⟨w6.heap.size, 0, none⟩) (by dsimp only; omega) rfl rfl Y_3
            replace Y_4 := cell_else (.bool s2) (r := ⟨w6.heap.size, 0, none⟩) (by dsimp only; omega) rfl rfl Y_4
            replace Y_5 := cell_else (.bool s2) (r := ⟨w6.heap.size, 0, none⟩) (by dsimp only; omega) rfl rfl Y_5
            replace Rf0 : (ws15.setCell ⟨w6.heap.size, 0, none⟩ (.bool s2)).frozen? _ = false := (frozen_set _ _ _ _ _).trans Rf0
            replace Rf1 : (ws15.setCell ⟨w6.heap.size, 0, none⟩ (.bool s2)).frozen? _ = false := (frozen_set _ _ _ _ _).trans Rf1
            replace Rf2 : (ws15.setCell ⟨w6.heap.size, 0, none⟩ (.bool s2)).frozen? _ = false := (frozen_set _ _ _ _ _).trans Rf2
            replace Rf3 : (ws15.setCell ⟨w6.heap.size, 0, none⟩ (.bool s2)).frozen? _ = false := (frozen_set _ _ _ _ _).trans Rf3
            replace Rf4 : (ws15.setCell ⟨w6.heap.size, 0, none⟩ (.bool s2)).frozen? _ = false := (frozen_set _ _ _ _ _).trans Rf4
            replace Rf5 : (ws15.setCell ⟨w6.heap.size, 0, none⟩ (.bool s2)).frozen? _ = false := (frozen_set _ _ _ _ _).trans Rf5
            replace X_f0 : (ws15.setCell ⟨w6.heap.size, 0, none⟩ (.bool s2)).frozen? _ = false := (frozen_set _ _ _ _ _).trans X_f0
            replace X_f1 : (ws15.setCell ⟨w6.heap.size, 0, none⟩ (.bool s2)).frozen? _ = false := (frozen_set _ _ _ _ _).trans X_f1
            replace X_f2 : (ws15.setCell ⟨w6.heap.size, 0, none⟩ (.bool s2)).frozen? _ = false := (frozen_set _ _ _ _ _).trans X_f2
            replace X_f3 : (ws15.setCell ⟨w6.heap.size, 0, none⟩ (.bool s2)).frozen? _ = false := (frozen_set _ _ _ _ _).trans X_f3
            replace X_f4 : (ws15.setCell ⟨w6.heap.size, 0, none⟩ (.bool s2)).frozen? _ = false := (frozen_set _ _ _ _ _).trans X_f4
            replace X_f5 : (ws15.setCell ⟨w6.heap.size, 0, none⟩ (.bool s2)).frozen? _ = false := (frozen_set _ _ _ _ _).trans X_f5
            replace Y_f0 : (ws15.setCell ⟨w6.heap.size, 0, none⟩ (.bool s2)).frozen? _ = false := (frozen_set _ _ _ _ _).trans Y_f0
            replace Y_f1 : (ws15.setCell ⟨w6.heap.size, 0, none⟩ (.bool s2)).frozen? _ = false := (frozen_set _ _ _ _ _).trans Y_f1
            replace Y_f2 : (ws15.setCell ⟨w6.heap.size, 0, none⟩ (.bool s2)).frozen? _ = false := (frozen_set _ _ _ _ _).trans Y_f2
            replace Y_f3 : (ws15.setCell ⟨w6.heap.size, 0, none⟩ (.bool s2)).frozen? _ = false := (frozen_set _ _ _ _ _).trans Y_f3
            replace Y_f4 : (ws15.setCell ⟨w6.heap.size, 0, none⟩ (.bool s2)).frozen? _ = false := (frozen_set _ _ _ _ _).trans Y_f4
            replace Y_f5 : (ws15.setCell ⟨w6.heap.size, 0, none⟩ (.bool s2)).frozen? _ = false := (frozen_set _ _ _ _ _).trans Y_f5
            replace Y_0 : (ws15.setCell ⟨w6.heap.size, 0, none⟩ (.bool s2)).cell? ⟨w6.heap.size, 0, none⟩ = some (.bool s2) := cell_on _ _ _ _ _ Y_0
            replace kw := kw.setNew (p := ⟨w6.heap.size, 0, none⟩) (by dsimp only; omega) (.bool s2)
            replace K := hide ((unhide K).setNew (p := ⟨w6.heap.size, 0, none⟩) (by dsimp only; omega) (.bool s2))
            have zs16 : (ws15.setCell ⟨w6.heap.size, 0, none⟩ (.bool s2)).heap.size = ws15.heap.size := by simp [World.setCell]
            clear sS0
            generalize ws15.setCell ⟨w6.heap.size, 0, none⟩ (.bool s2) = ws16 at *
            have sS0 := unhide S0
            replace r1 := r1.set_other (p := ⟨w6.heap.size, 1, none⟩) (by dsimp only; omega) (.slice a2 l2.length c2)
            replace r2 := r2.set_other (p := ⟨w6.heap.size, 1, none⟩) (by dsimp only; omega) (.slice a2 l2.length c2)
            replace r3 := r3.set_other (p := ⟨w6.heap.size, 1, none⟩) (by dsimp only; omega) (.slice a2 l2.length c2)
            replace r4 := r4.set_other (p := ⟨w6.heap.size, 1, none⟩) (by dsimp only; omega) (.slice a2 l2.length c2)
            replace bp0 := cell_else (.slice a2 l2.length c2) (r := ⟨w6.heap.size, 1, none⟩) (by dsimp only; omega) rfl rfl bp0
            replace bp1 := cell_else (.slice a2 l2.length c2) (r := ⟨w6.heap.size, 1, none⟩) (by dsimp only; omega) rfl rfl bp1
            replace bp2 := cell_else (.slice a2 l2.length c2) (r := ⟨w6.heap.size, 1, none⟩) (by dsimp only; omega) rfl rfl bp2
            replace bp3 := cell_else (.slice a2 l2.length c2) (r := ⟨w6.heap.size, 1, none⟩) (by dsimp only; omega) rfl rfl bp3
            replace bp4 := cell_else (.slice a2 l2.length c2) (r := ⟨w6.heap.size, 1, none⟩) (by dsimp only; omega) rfl rfl bp4
            replace bp5 := cell_else (.slice a2 l2.length c2) (r := ⟨w6.heap.size, 1, none⟩) (by dsimp only; omega) rfl rfl bp5
            replace bq0 := cell_else (.slice a2 l2.length c2) (r := ⟨w6.heap.size, 1, none⟩) (by dsimp only; omega) rfl rfl bq0
            replace bq1 := cell_else (.slice a2 l2.length c2) (r := ⟨w6.heap.size, 1, none⟩) (by dsimp only; omega) rfl rfl bq1
            replace bq2 := cell_else (.slice a2 l2.length c2) (r := ⟨w6.heap.size, 1, none⟩) (by dsimp only; omega) rfl rfl bq2
            replace bq3 := cell_else (.slice a2 l2.length c2) (r := ⟨w6.heap.size, 1, none⟩) (by dsimp only; omega) rfl rfl bq3
            replace bq4 := cell_else (.slice a2 l2.length c2) (r := ⟨w6.heap.size, 1, none⟩) (by dsimp only; omega) rfl rfl bq4
            replace bq5 := cell_else (.slice a2 l2.length c2) (r := ⟨w6.heap.size, 1, none⟩) (by dsimp only; omega) rfl rfl bq5
            replace R0 := cell_else (.slice a2 l2.length c2) (r := ⟨w6.heap.size, 1, none⟩) (by dsimp only; omega) rfl rfl R0
            replace R1 := cell_else (.slice a2 l2.length c2) (r := ⟨w6.heap.size, 1, none⟩) (by dsimp only; omega) rfl rfl R1
            replace R2 := cell_else (.slice a2 l2.length c2) (r := ⟨w6.heap.size, 1, none⟩) (by dsimp only; omega) rfl rfl R2
            replace R3 := cell_else (.slice a2 l2.length c2) (r := ⟨w6.heap.size, 1, none⟩) (by dsimp only; omega) rfl rfl R3
            replace R4 := cell_else (.slice a2 l2.length c2) (r := ⟨w6.heap.size, 1, none⟩) (by dsimp only; omega) rfl rfl R4
            replace R5 := cell_else (.slice a2 l2.length c2) (r := ⟨w6.heap.size, 1, none⟩) (by dsimp only; omega) rfl rfl R5
            replace X_0 := cell_else (.slice a2 l2.length c2) (r := ⟨w6.heap.size, 1, none⟩) (by dsimp only; omega) rfl rfl X_0
            replace X_1 := cell_else (.slice a2 l2.length c2) (r := ⟨w6.heap.size, 1, none⟩) (by dsimp only; omega) rfl rfl X_1
            replace X_2 := cell_else (.slice a2 l2.length c2) (r := ⟨w6.heap.size, 1, none⟩) (by dsimp only; omega) rfl rfl X_2
            replace X_3 := cell_else (.slice a2 l2.length c2) (r := ⟨w6.heap.size, 1, none⟩) (by dsimp only; omega) rfl rfl X_3
            replace X_4 := cell_else (.slice a2 l2.length c2) (r := ⟨w6.heap.size, 1, none⟩) (by dsimp only; omega) rfl rfl X_4
            replace X_5 := cell_else (.slice a2 l2.length c2) (r := ⟨w6.heap.size, 1, none⟩) (by dsimp only; omega) rfl rfl X_5
            replace Y_0 := cell_else (.slice a2 l2.length c2) (r := ⟨w6.heap.size, 1, none⟩) (by dsimp only; omega) rfl rfl Y_0
            replace Y_2 := cell_else (.slice a2 l2.length c2) (r := ⟨w6.heap.size, 1, none⟩) (by dsimp only; omega) rfl rfl Y_2
            replace Y_3 := cell_else (.slice a2 l2.length c2) (r := ⟨w6.heap.size, 1, none⟩) (by dsimp only; omega) rfl rfl Y_3
            replace Y_4 := cell_else (.slice a2 l2.length c2) (r := ⟨w6.heap.size, 1, none⟩) (by dsimp only; omega) rfl rfl Y_4
            replace Y_5 := cell_else (.slice a2 l2.length c2) (r := ⟨w6.heap.size, 1, none⟩) (by dsimp only; omega) rfl rfl Y_5
            replace Rf0 : (ws16.setCell ⟨w6.heap.size, 1, none⟩ (.slice a2 l2.length c2)).frozen? _ = false := (frozen_set _ _ _ _ _).trans Rf0
            replace Rf1 : (ws16.setCell ⟨w6.heap.size, 1, none⟩ (.slice a2 l2.length c2)).frozen? _ = false := (frozen_set _ _ _ _ _).trans Rf1
            replace Rf2 : (ws16.setCell ⟨w6.heap.size, 1, none⟩ (.slice a2 l2.length c2)).frozen? _ = false := (frozen_set _ _ _ _ _).trans Rf2
            replace Rf3 : (ws16.setCell ⟨w6.heap.size, 1, none⟩ (.slice a2 l2.length c2)).frozen? _ = false := (frozen_set _ _ _ _ _).trans Rf3
            replace Rf4 : (ws16.setCell ⟨w6.heap.size, 1, none⟩ (.slice a2 l2.length c2)).frozen? _ = false := (frozen_set _ _ _ _ _).trans Rf4
            replace Rf5 : (ws16.setCell ⟨w6.heap.size, 1, none⟩ (.slice a2 l2.length c2)).frozen? _ = false := (frozen_set _ _ _ _ _).trans Rf5
            replace X_f0 : (ws16.setCell ⟨w6.heap.size, 1, none⟩ (.slice a2 l2.length c2)).frozen? _ = false := (frozen_set _ _ _ _ _).trans X_f0
            replace X_f1 : (ws16.setCell ⟨w6.heap.size, 1, none⟩ (.slice a2 l2.length c2)).frozen? _ = false := (frozen_set _ _ _ _ _).trans X_f1
            replace X_f2 : (ws16.setCell ⟨w6.heap.size, 1, none⟩ (.slice a2 l2.length c2)).frozen? _ = false := (frozen_set _ _ _ _ _).trans X_f2
            replace X_f3 : (ws16.setCell ⟨w6.heap.size, 1, none⟩ (.slice a2 l2.length c2)).frozen? _ = false := (frozen_set _ _ _ _ _).trans X_f3
            replace X_f4 : (ws16.setCell ⟨w6.heap.size, 1, none⟩ (.slice a2 l2.length c2)).frozen? _ = false := (frozen_set _ _ _ _ _).trans X_f4
            replace X_f5 : (ws16.setCell ⟨w6.heap.size, 1, none⟩ (.slice a2 l2.length c2)).frozen? _ = false := (frozen_set _ _ _ _ _).trans X_f5
            replace Y_f0 : (ws16.setCell ⟨w6.heap.size, 1, none⟩ (.slice a2 l2.length c2)).frozen? _ = false := (frozen_set _ _ _ _ _).trans Y_f0
            replace Y_f1 : (ws16.setCell ⟨w6.heap.size, 1, none⟩ (.slice a2 l2.length c2)).frozen? _ = false := (frozen_set _ _ _ _ _).trans Y_f1
            replace Y_f2 : (ws16.setCell ⟨w6.heap.size, 1, none⟩ (.slice a2 l2.length c2)).frozen? _ = false := (frozen_set _ _ _ _ _).trans Y_f2
            replace Y_f3 : (ws16.setCell ⟨w6.heap.size, 1, none⟩ (.slice a2 l2.length c2)).frozen? _ = false := (frozen_set _ _ _ _ _).trans Y_f3
            replace Y_f4 : (ws16.setCell ⟨w6.heap.size, 1, none⟩ (.slice a2 l2.length c2)).frozen? _ = false := (frozen_set _ _ _ _ _).trans Y_f4
            replace Y_f5 : (ws16.setCell ⟨w6.heap.size, 1, none⟩ (.slice a2 l2.length c2)).frozen? _ = false := (frozen_set _ _ _ _ _).trans Y_f5
            replace Y_1 : (ws16.setCell ⟨w6.heap.size, 1, none⟩ (.slice a2 l2.length c2)).cell? ⟨w6.heap.size, 1, none⟩ = some (.slice a2 l2.length c2) := cell_on _ _ _ _ _ Y_1
            replace kw := kw.setNew (p := ⟨w6.heap.size, 1, none⟩) (by dsimp only; omega) (.slice a2 l2.length c2)
            replace K := hide ((unhide K).setNew (p := ⟨w6.heap.size, 1, none⟩) (by dsimp only; omega) (.slice a2 l2.length c2))
            have zs17 : (ws16.setCell ⟨w6.heap.size, 1, none⟩ (.slice a2 l2.length c2)).heap.size = ws16.heap.size := by simp [World.setCell]
            clear sS0
            generalize ws16.setCell ⟨w6.heap.size, 1, none⟩ (.slice a2 l2.length c2) = ws17 at *
            have sS0 := unhide S0
            replace r1 := r1.set_other (p := ⟨w6.heap.size, 2, none⟩) (by dsimp only; omega) (.int .i64 e2)
            replace r2 := r2.set_other (p := ⟨w6.heap.size, 2, none⟩) (by dsimp only; omega) (.int .i64 e2)
            replace r3 := r3.set_other (p := ⟨w6.heap.size, 2, none⟩) (by dsimp only; omega) (.int .i64 e2)
            replace r4 := r4.set_other (p := ⟨w6.heap.size, 2, none⟩) (by dsimp only; omega) (.int .i64 e2)
            replace bp0 := cell_else (.int .i64 e2) (r := ⟨w6.heap.size, 2, none⟩) (by dsimp only; omega) rfl rfl bp0
            replace bp1 := cell_else (.int .i64 e2) (r := ⟨w6.heap.size, 2, none⟩) (by dsimp only; omega) rfl rfl bp1
            replace bp2 := cell_else (.int .i64 e2) (r := ⟨w6.heap.size, 2, none⟩) (by dsimp only; omega) rfl rfl bp2
            replace bp3 := cell_else (.int .i64 e2) (r := ⟨w6.heap.size, 2, none⟩) (by dsimp only; omega) rfl rfl bp3
            replace bp4 := cell_else (.int .i64 e2) (r := ⟨w6.heap.size, 2, none⟩) (by dsimp only; omega) rfl rfl bp4
            replace bp5 := cell_else (.int .i64 e2) (r := ⟨w6.heap.size, 2, none⟩) (by dsimp only; omega) rfl rfl bp5
            replace bq0 := cell_else (.int .i64 e2) (r := ⟨w6.heap.size, 2, none⟩) (by dsimp only; omega) rfl rfl bq0
            replace bq1 := cell_else (.int .i64 e2) (r := ⟨w6.heap.size, 2, none⟩) (by dsimp only; omega) rfl rfl bq1
            replace bq2 := cell_else (.int .i64 e2) (r := ⟨w6.heap.size, 2, none⟩) (by dsimp only; omega) rfl rfl bq2
            replace bq3 := cell_else (.int .i64 e2) (r := ⟨w6.heap.size, 2, none⟩) (by dsimp only; omega) rfl rfl bq3
            replace bq4 := cell_else (.int .i64 e2) (r := ⟨w6.heap.size, 2, none⟩) (by dsimp only; omega) rfl rfl bq4
            replace bq5 := cell_else (.int .i64 e2) (r := ⟨w6.heap.size, 2, none⟩) (by dsimp only; omega) rfl rfl bq5
            replace R0 := cell_else (.int .i64 e2) (r := ⟨w6.heap.size, 2, none⟩) (by dsimp only; omega) rfl rfl R0
            replace R1 := cell_else (.int .i64 e2) (r := ⟨w6.heap.size, 2, none⟩) (by dsimp only; omega) rfl rfl R1
            replace R2 := cell_else (.int .i64 e2) (r := ⟨w6.heap.size, 2, none⟩) (by dsimp only; omega) rfl rfl R2
            replace R3 := cell_else (.int .i64 e2) (r := ⟨w6.heap.size, 2, none⟩) (by dsimp only; omega) rfl rfl R3
            replace R4 := cell_else (.int .i64 e2) (r := ⟨w6.heap.size, 2, none⟩) (by dsimp only; omega) rfl rfl R4
            replace R5 := cell_else (.int .i64 e2) (r := ⟨w6.heap.size, 2, none⟩) (by dsimp only; omega) rfl rfl R5
            replace X_0 := cell_else (.int .i64 e2) (r := ⟨w6.heap.size, 2, none⟩) (by dsimp only; omega) rfl rfl X_0
            replace X_1 := cell_else (.int .i64 e2) (r := ⟨w6.heap.size, 2, none⟩) (by dsimp only; omega) rfl rfl X_1
            replace X_2 := cell_else (.int .i64 e2) (r := ⟨w6.heap.size, 2, none⟩) (by dsimp only; omega) rfl rfl X_2
            replace X_3 := cell_else (.int .i64 e2) (r := ⟨w6.heap.size, 2, none⟩) (by dsimp only; omega) rfl rfl X_3
            replace X_4 := cell_else (.int .i64 e2) (r := ⟨w6.heap.size, 2, none⟩) (by dsimp only; omega) rfl rfl X_4
            replace X_5 := cell_else (.int .i64 e2) (r := ⟨w6.heap.size, 2, none⟩) (by dsimp only; omega) rfl rfl X_5
            replace Y_0 := cell_else (.int .i64 e2) (r := ⟨w6.heap.size, 2, none⟩) (by dsimp only; omega) rfl rfl Y_0
            replace Y_1 := cell_else (.int .i64 e2) (r := ⟨w6.heap.size, 2, none⟩) (by dsimp only; omega) rfl rfl Y_1
            replace Y_3 := cell_else (.int .i64 e2) (r := ⟨w6.heap.size, 2, none⟩) (by dsimp only; omega) rfl rfl Y_3
            replace Y_4 := cell_else (.int .i64 e2) (r := ⟨w6.heap.size, 2, none⟩) (by dsimp only; omega) rfl rfl Y_4
            replace Y_5 := cell_else (.int .i64 e2) (r := ⟨w6.heap.size, 2, none⟩) (by dsimp only; omega) rfl rfl Y_5
            replace Rf0 : (ws17.setCell ⟨w6.heap.size, 2, none⟩ (.int .i64 e2)).frozen? _ = false := (frozen_set _ _ _ _ _).trans Rf0
            replace Rf1 : (ws17.setCell ⟨w6.heap.size, 2, none⟩ (.int .i64 e2)).frozen? _ = false := (frozen_set _ _ _ _ _).trans Rf1
            replace Rf2 : (ws17.setCell ⟨w6.heap.size, 2, none⟩ (.int .i64 e2)).frozen? _ = false := (frozen_set _ _ _ _ _).trans Rf2
            replace Rf3 : (ws17.setCell ⟨w6.heap.size, 2, none⟩ (.int .i64 e2)).frozen? _ = false := (frozen_set _ _ _ _ _).trans Rf3
            replace Rf4 : (ws17.setCell ⟨w6.heap.size, 2, none⟩ (.int .i64 e2)).frozen? _ = false := (frozen_set _ _ _ _ _).trans Rf4
            replace Rf5 : (ws17.setCell ⟨w6.heap.size, 2, none⟩ (.int .i64 e2)).frozen? _ = false := (frozen_set _ _ _ _ _).trans Rf5
            replace X_f0 : (ws17.setCell ⟨w6.heap.size, 2, none⟩ (.int .i64 e2)).frozen? _ = false := (frozen_set _ _ _ _ _).trans X_f0
            replace X_f1 : (ws17.setCell ⟨w6.heap.size, 2, none⟩ (.int .i64 e2)).frozen? _ = false := (frozen_set _ _ _ _ _).trans X_f1
            replace X_f2 : (ws17.setCell ⟨w6.heap.size, 2, none⟩ (.int .i64 e2)).frozen? _ = false := (frozen_set _ _ _ _ _).trans X_f2
            replace X_f3 : (ws17.setCell ⟨w6.heap.size, 2, none⟩ (.int .i64 e2)).frozen? _ = false := (frozen_set _ _ _ _ _).trans X_f3
            replace X_f4 : (ws17.setCell ⟨w6.heap.size, 2, none⟩ (.int .i64 e2)).frozen? _ = false := (frozen_set _ _ _ _ _).trans X_f4
            replace X_f5 : (ws17.setCell ⟨w6.heap.size, 2, none⟩ (.int .i64 e2)).frozen? _ = false := (frozen_set _ _ _ _ _).trans X_f5
            replace Y_f0 : (ws17.setCell ⟨w6.heap.size, 2, none⟩ (.int .i64 e2)).frozen? _ = false := (frozen_set _ _ _ _ _).trans Y_f0
            replace Y_f1 : (ws17.setCell ⟨w6.heap.size, 2, none⟩ (.int .i64 e2)).frozen? _ = false := (frozen_set _ _ _ _ _).trans Y_f1
            replace Y_f2 : (ws17.setCell ⟨w6.heap.size, 2, none⟩ (.int .i64 e2)).frozen? _ = false := (frozen_set _ _ _ _ _).trans Y_f2
            replace Y_f3 : (ws17.setCell ⟨w6.heap.size, 2, none⟩ (.int .i64 e2)).frozen? _ = false := (frozen_set _ _ _ _ _).trans Y_f3
            replace Y_f4 : (ws17.setCell ⟨w6.heap.size, 2, none⟩ (.int .i64 e2)).frozen? _ = false := (frozen_set _ _ _ _ _).trans Y_f4
            replace Y_f5 : (ws17.setCell ⟨w6.heap.size, 2, none⟩ (.int .i64 e2)).frozen? _ = false := (frozen_set _ _ _ _ _).trans Y_f5
            replace Y_2 : (ws17.setCell ⟨w6.heap.size, 2, none⟩ (.int .i64 e2)).cell? ⟨w6.heap.size, 2, none⟩ = some (.int .i64 e2) := cell_on _ _ _ _ _ Y_2
            replace kw := kw.setNew (p := ⟨w6.heap.size, 2, none⟩) (by dsimp only; omega) (.int .i64 e2)
            replace K := hide ((unhide K).setNew (p := ⟨w6.heap.size, 2, none⟩) (by dsimp only; omega) (.int .i64 e2))
            have zs18 : (ws17.setCell ⟨w6.heap.size, 2, none⟩ (.int .i64 e2)).heap.size = ws17.heap.size := by simp [World.setCell]
            clear sS0
            generalize ws17.setCell ⟨w6.heap.size, 2, none⟩ (.int .i64 e2) = ws18 at *
            have sS0 := unhide S0
            replace r1 := r1.set_other (p := ⟨w6.heap.size, 3, none⟩) (by dsimp only; omega) (.bool s3)
            replace r2 := r2.set_other (p := ⟨w6.heap.size, 3, none⟩) (by dsimp only; omega) (.bool s3)
            replace r3 := r3.set_other (p := ⟨w6.heap.size, 3, none⟩) (by dsimp only; omega) (.bool s3)
            replace r4 := r4.set_other (p := ⟨w6.heap.size, 3, none⟩) (by dsimp only; omega) (.bool s3)
            replace bp0 := cell_else (.bool s3) (r := ⟨w6.heap.size, 3, none⟩) (by dsimp only; omega) rfl rfl bp0
            replace bp1 := cell_else (.bool s3) (r := ⟨w6.heap.size, 3, none⟩) (by dsimp only; omega) rfl rfl bp1
            replace bp2 := cell_else (.bool s3) (r := ⟨w6.heap.size, 3, none⟩) (by dsimp only; omega) rfl rfl bp2
            replace bp3 := cell_else (.bool s3) (r := ⟨w6.heap.size, 3, none⟩) (by dsimp only; omega) rfl rfl bp3
            replace bp4 := cell_else (.bool s3) (r := ⟨w6.heap.size, 3, none⟩) (by dsimp only; omega) rfl rfl bp4
            replace bp5 := cell_else (.bool s3) (r := ⟨w6.heap.size, 3, none⟩) (by dsimp only; omega) rfl rfl bp5
            replace bq0 := cell_else (.bool s3) (r := ⟨w6.heap.size, 3, none⟩) (by dsimp only; omega) rfl rfl bq0
            replace bq1 := cell_else (.bool s3) (r := ⟨w6.heap.size, 3, none⟩) (by dsimp only; omega) rfl rfl bq1
            replace bq2 := cell_else (.bool s3) (r := ⟨w6.heap.size, 3, none⟩) (by dsimp only; omega) rfl rfl bq2
            replace bq3 := cell_else (.bool s3) (r := ⟨w6.heap.size, 3, none⟩) (by dsimp only; omega) rfl rfl bq3
            replace bq4 := cell_else (.bool s3) (r := ⟨w6.heap.size, 3, none⟩) (by dsimp only; omega) rfl rfl bq4
            replace bq5 := cell_else (.bool s3) (r := ⟨w6.heap.size, 3, none⟩) (by dsimp only; omega) rfl rfl bq5
            replace R0 := cell_else (.bool s3) (r := ⟨w6.heap.size, 3, none⟩) (by dsimp only; omega) rfl rfl R0
            replace R1 := cell_else (.bool s3) (r := ⟨w6.heap.size, 3, none⟩) (by dsimp only; omega) rfl rfl R1
            replace R2 := cell_else (.bool s3) (r := ⟨w6.heap.size, 3, none⟩) (by dsimp only; omega) rfl rfl R2
            replace R3 := cell_else (.bool s3) (r := ⟨w6.heap.size, 3, none⟩) (by dsimp only; omega) rfl rfl R3
            replace R4 := cell_else (.bool s3) (r := ⟨w6.heap.size, 3, none⟩) (by dsimp only; omega) rfl rfl R4
            replace R5 := cell_else (.bool s3) (r := ⟨w6.heap.size, 3, none⟩) (by dsimp only; omega) rfl rfl R5
            replace X_0 := cell_else (.bool s3) (r := ⟨w6.heap.size, 3, none⟩) (by dsimp only; omega) rfl rfl X_0
            replace X_1 := cell_else (.bool s3) (r := ⟨w6.heap.size, 3, none⟩) (by dsimp only; omega) rfl rfl X_1
            replace X_2 := cell_else (.bool s3) (r := ⟨w6.heap.size, 3, none⟩) (by dsimp only; omega) rfl rfl X_2
            replace X_3 := cell_else (.bool s3) (r := ⟨w6.heap.size, 3, none⟩) (by dsimp only; omega) rfl rfl X_3
            replace X_4 := cell_else (.bool s3) (r := ⟨w6.heap.size, 3, none⟩) (by dsimp only; omega) rfl rfl X_4
            replace X_5 := cell_else (.bool s3) (r := ⟨w6.heap.size, 3, none⟩) (by dsimp only; omega) rfl rfl X_5
            replace Y_0 := cell_else (.bool s3) (r := ⟨w6.heap.size, 3, none⟩) (by dsimp only; omega) rfl rfl Y_0
            replace Y_1 := cell_else (.bool s3) (r := ⟨w6.heap.size, 3, none⟩) (by dsimp only; omega) rfl rfl Y_1
            replace Y_2 := cell_else (.bool s3) (r := ⟨w6.heap.size, 3, none⟩) (by dsimp only; omega) rfl rfl Y_2
            replace Y_4 := cell_else (.bool s3) (r := ⟨w6.heap.size, 3, none⟩) (by dsimp only; omega) rfl rfl Y_4
            replace Y_5 := cell_else (.bool s3) (r := ⟨w6.heap.size, 3, none⟩) (by dsimp only; omega) rfl rfl Y_5
            replace Rf0 : (ws18.setCell ⟨w6.heap.size, 3, none⟩ (.bool s3)).frozen? _ = false := (frozen_set _ _ _ _ _).trans Rf0
            replace Rf1 : (ws18.setCell ⟨w6.heap.size, 3, none⟩ (.bool s3)).frozen? _ = false := (frozen_set _ _ _ _ _).trans Rf1
            replace Rf2 : (ws18.setCell ⟨w6.heap.size, 3, none⟩ (.bool s3)).frozen? _ = false := (frozen_set _ _ _ _ _).trans Rf2
            replace Rf3 : (ws18.setCell ⟨w6.heap.size, 3, none⟩ (.bool s3)).frozen? _ = false := (frozen_set _ _ _ _ _).trans Rf3
            replace Rf4 : (ws18.setCell ⟨w6.heap.size, 3, none⟩ (.bool s3)).frozen? _ = false := (frozen_set _ _ _ _ _).trans Rf4
            replace Rf5 : (ws18.setCell ⟨w6.heap.size, 3, none⟩ (.bool s3)).frozen? _ = false := (frozen_set _ _ _ _ _).trans Rf5
            replace X_f0 : (ws18.setCell ⟨w6.heap.size, 3, none⟩ (.bool s3)).frozen? _ = false := (frozen_set _ _ _ _ _).trans X_f0
            replace X_f1 : (ws18.setCell ⟨w6.heap.size, 3, none⟩ (.bool s3)).frozen? _ = false := (frozen_set _ _ _ _ _).trans X_f1
            replace X_f2 : (ws18.setCell ⟨w6.heap.size, 3, none⟩ (.bool s3)).frozen? _ = false := (frozen_set _ _ _ _ _).trans X_f2
            replace X_f3 : (ws18.setCell ⟨w6.heap.size, 3, none⟩ (.bool s3)).frozen? _ = false := (frozen_set _ _ _ _ _).trans X_f3
            replace X_f4 : (ws18.setCell ⟨w6.heap.size, 3, none⟩ (.bool s3)).frozen? _ = false := (frozen_set _ _ _ _ _).trans X_f4
            replace X_f5 : (ws18.setCell ⟨w6.heap.size, 3, none⟩ (.bool s3)).frozen? _ = false := (frozen_set _ _ _ _ _).trans X_f5
            replace Y_f0 : (ws18.setCell ⟨w6.heap.size, 3, none⟩ (.bool s3)).frozen? _ = false := (frozen_set _ _ _ _ _).trans Y_f0
            replace Y_f1 : (ws18.setCell ⟨w6.heap.size, 3, none⟩ (.bool s3)).frozen? _ = false := (frozen_set _ _ _ _ _).trans Y_f1
            replace Y_f2 : (ws18.setCell ⟨w6.heap.size, 3, none⟩ (.bool s3)).frozen? _ = false := (frozen_set _ _ _ _ _).trans Y_f2
            replace Y_f3 : (ws18.setCell ⟨w6.heap.size, 3, none⟩ (.bool s3)).frozen? _ = false := (frozen_set _ _ _ _ _).trans Y_f3
            replace Y_f4 : (ws18.setCell ⟨w6.heap.size, 3, none⟩ (.bool s3)).frozen? _ = false := (frozen_set _ _ _ _ _).trans Y_f4
            replace Y_f5 : (ws18.setCell ⟨w6.heap.size, 3, none⟩ (.bool s3)).frozen? _ = false := (frozen_set _ _ _ _ _).trans Y_f5
            replace Y_3 : (ws18.setCell ⟨w6.heap.size, 3, none⟩ (.bool s3)).cell? ⟨w6.heap.size, 3, none⟩ = some (.bool s3) := cell_on _ _ _ _ _ Y_3
            replace kw := kw.setNew (p := ⟨w6.heap.size, 3, none⟩) (by dsimp only; omega) (.bool s3)
            replace K := hide ((unhide K).setNew (p := ⟨w6.heap.size, 3, none⟩) (by dsimp only; omega) (.bool s3))
            have zs19 : (ws18.setCell ⟨w6.heap.size, 3, none⟩ (.bool s3)).heap.size = ws18.heap.size := by simp [World.setCell]
            clear sS0
            generalize ws18.setCell ⟨w6.heap.size, 3, none⟩ (.bool s3) = ws19 at *
            have sS0 := unhide S0
            replace r1 := r1.set_other (p := ⟨w6.heap.size, 4, none⟩) (by dsimp only; omega) (.slice a3 l3.length c3)
            replace r2 := r2.set_other (p := ⟨w6.heap.size, 4, none⟩) (by dsimp only; omega) (.slice a3 l3.length c3)
            replace r3 := r3.set_other (p := ⟨w6.heap.size, 4, none⟩) (by dsimp only; omega) (.slice a3 l3.length c3)
            replace r4 := r4.set_other (p := ⟨w6.heap.size, 4, none⟩) (by dsimp only; omega) (.slice a3 l3.length c3)
            replace bp0 := cell_else (.slice a3 l3.length c3) (r := ⟨w6.heap.size, 4, none⟩) (by dsimp only; omega) rfl rfl bp0
            replace bp1 := cell_else (.slice a3 l3.length c3) (r := ⟨w6.heap.size, 4, none⟩) (by dsimp only; omega) rfl rfl bp1
            replace bp2 := cell_else (.slice a3 l3.length c3) (r := ⟨w6.heap.size, 4, none⟩) (by dsimp only; omega) rfl rfl bp2
            replace bp3 := cell_else (.slice a3 l3.length c3) (r := ⟨w6.heap.size, 4, none⟩) (by dsimp only; omega) rfl rfl bp3
            replace bp4 := cell_else (.slice a3 l3.length c3) (r := ⟨w6.heap.size, 4, none⟩) (by dsimp only; omega) rfl rfl bp4
            replace bp5 := cell_else (.slice a3 l3.length c3) (r := ⟨w6.heap.size, 4, none⟩) (by dsimp only; omega) rfl rfl bp5
            replace bq0 := cell_else (.slice a3 l3.length c3) (r := ⟨w6.heap.size, 4, none⟩) (by dsimp only; omega) rfl rfl bq0
            replace bq1 := cell_else (.slice a3 l3.length c3) (r := ⟨w6.heap.size, 4, none⟩) (by dsimp only; omega) rfl rfl bq1
            replace bq2 := cell_else (.slice a3 l3.length c3) (r := ⟨w6.heap.size, 4, none⟩) (by dsimp only; omega) rfl rfl bq2
            replace bq3 := cell_else (.slice a3 l3.length c3) (r := ⟨w6.heap.size, 4, none⟩) (by dsimp only; omega) rfl rfl bq3
            replace bq4 := cell_else (.slice a3 l3.length c3) (r := ⟨w6.heap.size, 4, none⟩) (by dsimp only; omega) rfl rfl bq4
            replace bq5 := cell_else (.slice a3 l3.length c3) (r := ⟨w6.heap.size, 4, none⟩) (by dsimp only; omega) rfl rfl bq5
            replace R0 := cell_else (.slice a3 l3.length c3) (r := ⟨w6.heap.size, 4, none⟩) (by dsimp only; omega) rfl rfl R0
            replace R1 := cell_else (.slice a3 l3.length c3) (r := ⟨w6.heap.size, 4, none⟩) (by dsimp only; omega) rfl rfl R1
            replace R2 := cell_else (.slice a3 l3.length c3) (r := ⟨w6.heap.size, 4, none⟩) (by dsimp only; omega) rfl rfl R2
            replace R3 := cell_else (.slice a3 l3.length c3) (r := ⟨w6.heap.size, 4, none⟩) (by dsimp only; omega) rfl rfl R3
            replace R4 := cell_else (.slice a3 l3.length c3) (r := ⟨w6.heap.size, 4, none⟩) (by dsimp only; omega) rfl rfl R4
            replace R5 := cell_else (.slice a3 l3.length c3) (r := ⟨w6.heap.size, 4, none⟩) (by dsimp only; omega) rfl rfl R5
            replace X_0 := cell_else (.slice a3 l3.length c3) (r := ⟨w6.heap.size, 4, none⟩) (by dsimp only; omega) rfl rfl X_0
            replace X_1 := cell_else (.slice a3 l3.length c3) (r := ⟨w6.heap.size, 4, none⟩) (by dsimp only; omega) rfl rfl X_1
            replace X_2 := cell_else (.slice a3 l3.length c3) (r := ⟨w6.heap.size, 4, none⟩) (by dsimp only; omega) rfl rfl X_2
            replace X_3 := cell_else (.slice a3 l3.length c3) (r := ⟨w6.heap.size, 4, none⟩) (by dsimp only; omega) rfl rfl X_3
            replace X_4 := cell_else (.slice a3 l3.length c3) (r := ⟨w6.heap.size, 4, none⟩) (by dsimp only; omega) rfl rfl X_4
            replace X_5 := cell_else (.slice a3 l3.length c3) (r := ⟨w6.heap.size, 4, none⟩) (by dsimp only; omega) rfl rfl X_5
            replace Y_0 := cell_else (.slice a3 l3.length c3) (r := ⟨w6.heap.size, 4, none⟩) (by dsimp only; omega) rfl rfl Y_0
            replace Y_1 := cell_else (.slice a3 l3.length c3) (r := ⟨w6.heap.size, 4, none⟩) (by dsimp only; omega) rfl rfl Y_1
            replace Y_2 := cell_else (.slice a3 l3.length c3) (r := ⟨w6.heap.size, 4, none⟩) (by dsimp only; omega) rfl rfl Y_2
            replace Y_3 := cell_else (.slice a3 l3.length c3) (r := ⟨w6.heap.size, 4, none⟩) (by dsimp only; omega) rfl rfl Y_3
            replace Y_5 := cell_else (.slice a3 l3.length c3) (r := ⟨w6.heap.size, 4, none⟩) (by dsimp only; omega) rfl rfl Y_5
            replace Rf0 : (ws19.setCell ⟨w6.heap.size, 4, none⟩ (.slice a3 l3.length c3)).frozen? _ = false := (frozen_set _ _ _ _ _).trans Rf0
            replace Rf1 : (ws19.setCell ⟨w6.heap.size, 4, none⟩ (.slice a3 l3.length c3)).frozen? _ = false := (frozen_set _ _ _ _ _).trans Rf1
            replace Rf2 : (ws19.setCell ⟨w6.heap.size, 4, none⟩ (.slice a3 l3.length c3)).frozen? _ = false := (frozen_set _ _ _ _ _).trans Rf2
            replace Rf3 : (ws19.setCell ⟨w6.heap.size, 4, none⟩ (.slice a3 l3.length c3)).frozen? _ = false := (frozen_set _ _ _ _ _).trans Rf3
            replace Rf4 : (ws19.setCell ⟨w6.heap.size, 4, none⟩ (.slice a3 l3.length c3)).frozen? _ = false := (frozen_set _ _ _ _ _).trans Rf4
            replace Rf5 : (ws19.setCell ⟨w6.heap.size, 4, none⟩ (.slice a3 l3.length c3)).frozen? _ = false := (frozen_set _ _ _ _ _).trans Rf5
            replace X_f0 : (ws19.setCell ⟨w6.heap.size, 4, none⟩ (.slice a3 l3.length c3)).frozen? _ = false := (frozen_set _ _ _ _ _).trans X_f0
            replace X_f1 : (ws19.setCell ⟨w6.heap.size, 4, none⟩ (.slice a3 l3.length c3)).frozen? _ = false := (frozen_set _ _ _ _ _).trans X_f1
            replace X_f2 : (ws19.setCell ⟨w6.heap.size, 4, none⟩ (.slice a3 l3.length c3)).frozen? _ = false := (frozen_set _ _ _ _ _).trans X_f2
            replace X_f3 : (ws19.setCell ⟨w6.heap.size, 4, none⟩ (.slice a3 l3.length c3)).frozen? _ = false := (frozen_set _ _ _ _ _).trans X_f3
            replace X_f4 : (ws19.setCell ⟨w6.heap.size, 4, none⟩ (.slice a3 l3.length c3)).frozen? _ = false := (frozen_set _ _ _ _ _).trans X_f4
            replace X_f5 : (ws19.setCell ⟨w6.heap.size, 4, none⟩ (.slice a3 l3.length c3)).frozen? _ = false := (frozen_set _ _ _ _ _).trans X_f5
            replace Y_f0 : (ws19.setCell ⟨w6.heap.size, 4, none⟩ (.slice a3 l3.length c3)).frozen? _ = false := (frozen_set _ _ _ _ _).trans Y_f0
            replace Y_f1 : (ws19.setCell ⟨w6.heap.size, 4, none⟩ (.slice a3 l3.length c3)).frozen? _ = false := (frozen_set _ _ _ _ _).trans Y_f1
            replace Y_f2 : (ws19.setCell ⟨w6.heap.size, 4, none⟩ (.slice a3 l3.length c3)).frozen? _ = false := (frozen_set _ _ _ _ _).trans Y_f2
            replace Y_f3 : (ws19.setCell ⟨w6.heap.size, 4, none⟩ (.slice a3 l3.length c3)).frozen? _ = false := (frozen_set _ _ _ _ _).trans Y_f3
            replace Y_f4 : (ws19.setCell ⟨w6.heap.size, 4, none⟩ (.slice a3 l3.length c3)).frozen? _ = false := (frozen_set _ _ _ _ _).trans Y_f4
            replace Y_f5 : (ws19.setCell ⟨w6.heap.size, 4, none⟩ (.slice a3 l3.length c3)).frozen? _ = false := (frozen_set _ _ _ _ _).trans Y_f5
            replace Y_4 : (ws19.setCell ⟨w6.heap.size, 4, none⟩ (.slice a3 l3.length c3)).cell? ⟨w6.heap.size, 4, none⟩ = some (.slice a3 l3.length c3) := cell_on _ _ _ _ _ Y_4
            replace kw := kw.setNew (p := ⟨w6.heap.size, 4, none⟩) (by dsimp only; omega) (.slice a3 l3.length c3)
            replace K := hide ((unhide K).setNew (p := ⟨w6.heap.size, 4, none⟩) (by dsimp only; omega) (.slice a3 l3.length c3))
            have zs20 : (ws19.setCell ⟨w6.heap.size, 4, none⟩ (.slice a3 l3.length c3)).heap.size = ws19.heap.size := by simp [World.setCell]
            clear sS0
            generalize ws19.setCell ⟨w6.heap.size, 4, none⟩ (.slice a3 l3.length c3) = ws20 at *
            have sS0 := unhide S0
            replace r1 := r1.set_other (p := ⟨w6.heap.size, 5, none⟩) (by dsimp only; omega) (.int .i64 e3)
            replace r2 := r2.set_other (p := ⟨w6.heap.size, 5, none⟩) (by dsimp only; omega) (.int .i64 e3)
            replace r3 := r3.set_other (p := ⟨w6.heap.size, 5, none⟩) (by dsimp only; omega) (.int .i64 e3)
            replace r4 := r4.set_other (p := ⟨w6.heap.size, 5, none⟩) (by dsimp only; omega) (.int .i64 e3)
            replace bp0 := cell_else (.int .i64 e3) (r := ⟨w6.heap.size, 5, none⟩) (by dsimp only; omega) rfl rfl bp0
            replace bp1 := cell_else (.int .i64 e3) (r := ⟨w6.heap.size, 5, none⟩) (by dsimp only; omega) rfl rfl bp1
            replace bp2 := cell_else (.int .i64 e3) (r := ⟨w6.heap.size, 5, none⟩) (by dsimp only; omega) rfl rfl bp2
            replace bp3 := cell_else (.int .i64 e3) (r := ⟨w6.heap.size, 5, none⟩) (by dsimp only; omega) rfl rfl bp3
            replace bp4 := cell_else (.int .i64 e3) (r := ⟨w6.heap.size, 5, none⟩) (by dsimp only; omega) rfl rfl bp4
            replace bp5 := cell_else (.int .i64 e3) (r := ⟨w6.heap.size, 5, none⟩) (by dsimp only; omega) rfl rfl bp5
            replace bq0 := cell_else (.int .i64 e3) (r := ⟨w6.heap.size, 5, none⟩) (by dsimp only; omega) rfl rfl bq0
            replace bq1 := cell_else (.int .i64 e3) (r := ⟨w6.heap.size, 5, none⟩) (by dsimp only; omega) rfl rfl bq1
            replace bq2 := cell_else (.int .i64 e3) (r := ⟨w6.heap.size, 5, none⟩) (by dsimp only; omega) rfl rfl bq2
            replace bq3 := cell_else (.int .i64 e3) (r := ⟨w6.heap.size, 5, none⟩) (by dsimp only; omega) rfl rfl bq3
            replace bq4 := cell_else (.int .i64 e3) (r := ⟨w6.heap.size, 5, none⟩) (by dsimp only; omega) rfl rfl bq4
            replace bq5 := cell_else (.int .i64 e3) (r := ⟨w6.heap.size, 5, none⟩) (by dsimp only; omega) rfl rfl bq5
            replace R0 := cell_else (.int .i64 e3) (r := ⟨w6.heap.size, 5, none⟩) (by dsimp only; omega) rfl rfl R0
            replace R1 := cell_else (.int .i64 e3) (r := ⟨w6.heap.size, 5, none⟩) (by dsimp only; omega) rfl rfl R1
            replace R2 := cell_else (.int .i64 e3) (r := ⟨w6.heap.size, 5, none⟩) (by dsimp only; omega) rfl rfl R2
            replace R3 := cell_else (.int .i64 e3) (r := ⟨w6.heap.size, 5, none⟩) (by dsimp only; omega) rfl rfl R3
            replace R4 := cell_else (.int .i64 e3) (r := ⟨w6.heap.size, 5, none⟩) (by dsimp only; omega) rfl rfl R4
            replace R5 := cell_else (.int .i64 e3) (r := ⟨w6.heap.size, 5, none⟩) (by dsimp only; omega) rfl rfl R5
            replace X_0 := cell_else (.int .i64 e3) (r := ⟨w6.heap.size, 5, none⟩) (by dsimp only; omega) rfl rfl X_0
            replace X_1 := cell_else (.int .i64 e3) (r := ⟨w6.heap.size, 5, none⟩) (by dsimp only; omega) rfl rfl X_1
            replace X_2 := cell_else (.int .i64 e3) (r := ⟨w6.heap.size, 5, none⟩) (by dsimp only; omega) rfl rfl X_2
            replace X_3 := cell_else (.int .i64 e3) (r := ⟨w6.heap.size, 5, none⟩) (by dsimp only; omega) rfl rfl X_3
            replace X_4 := cell_else (.int .i64 e3) (r := ⟨w6.heap.size, 5, none⟩) (by dsimp only; omega) rfl rfl X_4
            replace X_5 := cell_else (.int .i64 e3) (r := ⟨w6.heap.size, 5, none⟩) (by dsimp only; omega) rfl rfl X_5
            replace Y_0 := cell_else (.int .i64 e3) (r := ⟨w6.heap.size, 5, none⟩) (by dsimp only; omega) rfl rfl Y_0
            replace Y_1 := cell_else (.int .i64 e3) (r := ⟨w6.heap.size, 5, none⟩) (by dsimp only; omega) rfl rfl Y_1
            replace Y_2 := cell_else (.int .i64 e3) (r := ⟨w6.heap.size, 5, none⟩) (by dsimp only; omega) rfl rfl Y_2
            replace Y_3 := cell_else (.int .i64 e3) (r := ⟨w6.heap.size, 5, none⟩) (by dsimp only; omega) rfl rfl Y_3
            replace Y_4 := cell_else (.int .i64 e3) (r := ⟨w6.heap.size, 5, none⟩) (by dsimp only; omega) rfl rfl Y_4
            replace Rf0 : (ws20.setCell ⟨w6.heap.size, 5, none⟩ (.int .i64 e3)).frozen? _ = false := (frozen_set _ _ _ _ _).trans Rf0
            replace Rf1 : (ws20.setCell ⟨w6.heap.size, 5, none⟩ (.int .i64 e3)).frozen? _ = false := (frozen_set _ _ _ _ _).trans Rf1
            replace Rf2 : (ws20.setCell ⟨w6.heap.size, 5, none⟩ (.int .i64 e3)).frozen? _ = false := (frozen_set _ _ _ _ _).trans Rf2
            replace Rf3 : (ws20.setCell ⟨w6.heap.size, 5, none⟩ (.int .i64 e3)).frozen? _ = false := (frozen_set _ _ _ _ _).trans Rf3
            replace Rf4 : (ws20.setCell ⟨w6.heap.size, 5, none⟩ (.int .i64 e3)).frozen? _ = false := (frozen_set _ _ _ _ _).trans Rf4
            replace Rf5 : (ws20.setCell ⟨w6.heap.size, 5, none⟩ (.int .i64 e3)).frozen? _ = false := (frozen_set _ _ _ _ _).trans Rf5
            replace X_f0 : (ws20.setCell ⟨w6.heap.size, 5, none⟩ (.int .i64 e3)).frozen? _ = false := (frozen_set _ _ _ _ _).trans X_f0
            replace X_f1 : (ws20.setCell ⟨w6.heap.size, 5, none⟩ (.int .i64 e3)).frozen? _ = false := (frozen_set _ _ _ _ _).trans X_f1
            replace X_f2 : (ws20.setCell ⟨w6.heap.size, 5, none⟩ (.int .i64 e3)).frozen? _ = false := (frozen_set _ _ _ _ _).trans X_f2
            replace X_f3 : (ws20.setCell ⟨w6.heap.size, 5, none⟩ (.int .i64 e3)).frozen? _ = false := (frozen_set _ _ _ _ _).trans X_f3
            replace X_f4 : (ws20.setCell ⟨w6.heap.size, 5, none⟩ (.int .i64 e3)).frozen? _ = false := (frozen_set _ _ _ _ _).trans X_f4
            replace X_f5 : (ws20.setCell ⟨w6.heap.size, 5, none⟩ (.int .i64 e3)).frozen? _ = false := (frozen_set _ _ _ _ _).trans X_f5
            replace Y_f0 : (ws20.setCell ⟨w6.heap.size, 5, none⟩ (.int .i64 e3)).frozen? _ = false := (frozen_set _ _ _ _ _).trans Y_f0
            replace Y_f1 : (ws20.setCell ⟨w6.heap.size, 5, none⟩ (.int .i64 e3)).frozen? _ = false := (frozen_set _ _ _ _ _).trans Y_f1
            replace Y_f2 : (ws20.setCell ⟨w6.heap.size, 5, none⟩ (.int .i64 e3)).frozen? _ = false := (frozen_set _ _ _ _ _).trans Y_f2
            replace Y_f3 : (ws20.setCell ⟨w6.heap.size, 5, none⟩ (.int .i64 e3)).frozen? _ = false := (frozen_set _ _ _ _ _).trans Y_f3
            replace Y_f4 : (ws20.setCell ⟨w6.heap.size, 5, none⟩ (.int .i64 e3)).frozen? _ = false := (frozen_set _ _ _ _ _).trans Y_f4
            replace Y_f5 : (ws20.setCell ⟨w6.heap.size, 5, none⟩ (.int .i64 e3)).frozen? _ = false := (frozen_set _ _ _ _ _).trans Y_f5
            replace Y_5 : (ws20.setCell ⟨w6.heap.size, 5, none⟩ (.int .i64 e3)).cell? ⟨w6.heap.size, 5, none⟩ = some (.int .i64 e3) := cell_on _ _ _ _ _ Y_5
            replace kw := kw.setNew (p := ⟨w6.heap.size, 5, none⟩) (by dsimp only; omega) (.int .i64 e3)
            replace K := hide ((unhide K).setNew (p := ⟨w6.heap.size, 5, none⟩) (by dsimp only; omega) (.int .i64 e3))
            have zs21 : (ws20.setCell ⟨w6.heap.size, 5, none⟩ (.int .i64 e3)).heap.size = ws20.heap.size := by simp [World.setCell]
            clear sS0
            generalize ws20.setCell ⟨w6.heap.size, 5, none⟩ (.int .i64 e3) = ws21 at *
            refine wpAnyH_done (by kernel_rfl) ?_ _
            clear hHeld
            go_wp2_with fail
            go_meet
            exact ⟨_, _, rfl, rfl, X_0, X_1, X_2, X_3, X_4, X_5, Y_0, Y_1, Y_2, Y_3, Y_4, Y_5, kw⟩
    · simp only [List.getElem_toArray, List.getElem_cons_succ, List.getElem_cons_zero]
      rw [if_pos (by rfl)]
      go_simp
      have kn := (Kept.refl 0 0 wd).alloc (.cells #[.bool false, .slice none 0 0, .int .i64 0, .bool false, .slice none 0 0, .int .i64 0] 72)
      replace r1 := r1.kept kn (.inr (.inr (Nat.le_refl 0)))
      replace r2 := r2.kept kn (.inr (.inr (Nat.le_refl 0)))
      replace r3 := r3.kept kn (.inr (.inr (Nat.le_refl 0)))
      replace r4 := r4.kept kn (.inr (.inr (Nat.le_refl 0)))
      replace kw := kw.trans kn
      replace Rf0 := kn.loose0 (World.block_lt_of_cell? _ _ R0) Rf0
      replace Rf1 := kn.loose0 (World.block_lt_of_cell? _ _ R1) Rf1
      replace Rf2 := kn.loose0 (World.block_lt_of_cell? _ _ R2) Rf2
      replace Rf3 := kn.loose0 (World.block_lt_of_cell? _ _ R3) Rf3
      replace Rf4 := kn.loose0 (World.block_lt_of_cell? _ _ R4) Rf4
      replace Rf5 := kn.loose0 (World.block_lt_of_cell? _ _ R5) Rf5
      replace bp0 := kn.cell0 bp0
      replace bp1 := kn.cell0 bp1
      replace bp2 := kn.cell0 bp2
      replace bp3 := kn.cell0 bp3
      replace bp4 := kn.cell0 bp4
      replace bp5 := kn.cell0 bp5
      replace bq0 := kn.cell0 bq0
      replace bq1 := kn.cell0 bq1
      replace bq2 := kn.cell0 bq2
      replace bq3 := kn.cell0 bq3
      replace bq4 := kn.cell0 bq4
      replace bq5 := kn.cell0 bq5
      replace R0 := kn.cell0 R0
      replace R1 := kn.cell0 R1
      replace R2 := kn.cell0 R2
      replace R3 := kn.cell0 R3
      replace R4 := kn.cell0 R4
      replace R5 := kn.cell0 R5
      replace K := hide ((unhide K).trans kn)
      have z7 := kn.size
      clear kn
      have szY_ : wd.heap.size < (wd.alloc (.cells #[.bool false, .slice none 0 0, .int .i64 0, .bool false, .slice none 0 0, .int .i64 0] 72)).heap.size := by simp
      have Y_0 : (wd.alloc (.cells #[.bool false, .slice none 0 0, .int .i64 0, .bool false, .slice none 0 0, .int .i64 0] 72)).cell? ⟨wd.heap.size, 0, none⟩ = some (.bool false) := new_cell2 _ _ _ _ _ _ rfl rfl
      have Y_f0 : (wd.alloc (.cells #[.bool false, .slice none 0 0, .int .i64 0, .bool false, .slice none 0 0, .int .i64 0] 72)).frozen? ⟨wd.heap.size, 0, none⟩ = false := new_loose2 _ _ _ _ _ rfl
      have Y_1 : (wd.alloc (.cells #[.bool false, .slice none 0 0, .int .i64 0, .bool false, .slice none 0 0, .int .i64 0] 72)).cell? ⟨wd.heap.size, 1, none⟩ = some (.slice none 0 0) := new_cell2 _ _ _ _ _ _ rfl rfl
      have Y_f1 : (wd.alloc (.cells #[.bool false, .slice none 0 0, .int .i64 0, .bool false, .slice none 0 0, .int .i64 0] 72)).frozen? ⟨wd.heap.size, 1, none⟩ = false := new_loose2 _ _ _ _ _ rfl
      have Y_2 : (wd.alloc (.cells #[.bool false, .slice none 0 0, .int .i64 0, .bool false, .slice none 0 0, .int .i64 0] 72)).cell? ⟨wd.heap.size, 2, none⟩ = some (.int .i64 0) := new_cell2 _ _ _ _ _ _ rfl rfl
      have Y_f2 : (wd.alloc (.cells #[.bool false, .slice none 0 0, .int .i64 0, .bool false, .slice none 0 0, .int .i64 0] 72)).frozen? ⟨wd.heap.size, 2, none⟩ = false := new_loose2 _ _ _ _ _ rfl
      have Y_3 : (wd.alloc (.cells #[.bool false, .slice none 0 0, .int .i64 0, .bool false, .slice none 0 0, .int .i64 0] 72)).cell? ⟨wd.heap.size, 3, none⟩ = some (.bool false) := new_cell2 _ _ _ _ _ _ rfl rfl
      have Y_f3 : (wd.alloc (.cells #[.bool false, .slice none 0 0, .int .i64 0, .bool false, .slice none 0 0, .int .i64 0] 72)).frozen? ⟨wd.heap.size, 3, none⟩ = false := new_loose2 _ _ _ _ _ rfl
      have Y_4 : (wd.alloc (.cells #[.bool false, .slice none 0 0, .int .i64 0, .bool false, .slice none 0 0, .int .i64 0] 72)).cell? ⟨wd.heap.size, 4, none⟩ = some (.slice none 0 0) := new_cell2 _ _ _ _ _ _ rfl rfl
      have Y_f4 : (wd.alloc (.cells #[.bool false, .slice none 0 0, .int .i64 0, .bool false, .slice none 0 0, .int .i64 0] 72)).frozen? ⟨wd.heap.size, 4, none⟩ = false := new_loose2 _ _ _ _ _ rfl
      have Y_5 : (wd.alloc (.cells #[.bool false, .slice none 0 0, .int .i64 0, .bool false, .slice none 0 0, .int .i64 0] 72)).cell? ⟨wd.heap.size, 5, none⟩ = some (.int .i64 0) := new_cell2 _ _ _ _ _ _ rfl rfl
      have Y_f5 : (wd.alloc (.cells #[.bool false, .slice none 0 0, .int .i64 0, .bool false, .slice none 0 0, .int .i64 0] 72)).frozen? ⟨wd.heap.size, 5, none⟩ = false := new_loose2 _ _ _ _ _ rfl
      clear hHeld
      refine hK.out _ _ ?_ (fun hHeld => ?_)
      · exact ⟨bp0, bp1, bp2, bp3, bp4, bp5, bq0, bq1, bq2, bq3, bq4, bq5⟩
      clear hK KK
      try simp only [Act.put, List.getElem_toArray, List.getElem_cons_succ, List.getElem_cons_zero, List.setIfInBounds_toArray, List.set_cons_zero, List.set_cons_succ]
      generalize wd.alloc (.cells #[.bool false, .slice none 0 0, .int .i64 0, .bool false, .slice none 0 0, .int .i64 0] 72) = w6 at *
      refine wpAnyH_ready (rs := [10]) (by kernel_rfl) (by simp) ?_
      refine AllReadyH.cons rfl (fun KK hK => ?_) AllReadyH.nil
      · simp only [List.getElem_toArray, List.getElem_cons_succ, List.getElem_cons_zero]
        rw [if_pos (by rfl)]
        go_simp
        have kn := (Kept.refl 0 0 w6).alloc (.cells #[.bool false, .slice none 0 0, .int .i64 0, .bool false, .slice none 0 0, .int .i64 0] 72)
        replace r1 := r1.kept kn (.inr (.inr (Nat.le_refl 0)))
        replace r2 := r2.kept kn (.inr (.inr (Nat.le_refl 0)))
        replace r3 := r3.kept kn (.inr (.inr (Nat.le_refl 0)))
        replace r4 := r4.kept kn (.inr (.inr (Nat.le_refl 0)))
        replace kw := kw.trans kn
        replace Rf0 := kn.loose0 (World.block_lt_of_cell? _ _ R0) Rf0
        replace Rf1 := kn.loose0 (World.block_lt_of_cell? _ _ R1) Rf1
        replace Rf2 := kn.loose0 (World.block_lt_of_cell? _ _ R2) Rf2
        replace Rf3 := kn.loose0 (World.block_lt_of_cell? _ _ R3) Rf3
        replace Rf4 := kn.loose0 (World.block_lt_of_cell? _ _ R4) Rf4
        replace Rf5 := kn.loose0 (World.block_lt_of_cell? _ _ R5) Rf5
        replace Y_f0 := kn.loose0 (World.block_lt_of_cell? _ _ Y_0) Y_f0
        replace Y_f1 := kn.loose0 (World.block_lt_of_cell? _ _ Y_1) Y_f1
        replace Y_f2 := kn.loose0 (World.block_lt_of_cell? _ _ Y_2) Y_f2
        replace Y_f3 := kn.loose0 (World.block_lt_of_cell? _ _ Y_3) Y_f3
        replace Y_f4 := kn.loose0 (World.block_lt_of_cell? _ _ Y_4) Y_f4
        replace Y_f5 := kn.loose0 (World.block_lt_of_cell? _ _ Y_5) Y_f5
        replace bp0 := kn.cell0 bp0
        replace bp1 := kn.cell0 bp1
        replace bp2 := kn.cell0 bp2
        replace bp3 := kn.cell0 bp3
        replace bp4 := kn.cell0 bp4
        replace bp5 := kn.cell0 bp5
        replace bq0 := kn.cell0 bq0
        replace bq1 := kn.cell0 bq1
        replace bq2 := kn.cell0 bq2
        replace bq3 := kn.cell0 bq3
        replace bq4 := kn.cell0 bq4
        replace bq5 := kn.cell0 bq5
        replace R0 := kn.cell0 R0
        replace R1 := kn.cell0 R1
        replace R2 := kn.cell0 R2
        replace R3 := kn.cell0 R3
        replace R4 := kn.cell0 R4
        replace R5 := kn.cell0 R5
        replace Y_0 := kn.cell0 Y_0
        replace Y_1 := kn.cell0 Y_1
        replace Y_2 := kn.cell0 Y_2
        replace Y_3 := kn.cell0 Y_3
        replace Y_4 := kn.cell0 Y_4
        replace Y_5 := kn.cell0 Y_5
        replace K := hide ((unhide K).trans kn)
        have z9 := kn.size
        clear kn
        have szX_ : w6.heap.size < (w6.alloc (.cells #[.bool false, .slice none 0 0, .int .i64 0, .bool false, .slice none 0 0, .int .i64 0] 72)).heap.size := by simp
        have X_0 : (w6.alloc (.cells #[.bool false, .slice none 0 0, .int .i64 0, .bool false, .slice none 0 0, .int .i64 0] 72)).cell? ⟨w6.heap.size, 0, none⟩ = some (.bool false) := new_cell2 _ _ _ _ _ _ rfl rfl
        have X_f0 : (w6.alloc (.cells #[.bool false, .slice none 0 0, .int .i64 0, .bool false, .slice none 0 0, .int .i64 0] 72)).frozen? ⟨w6.heap.size, 0, none⟩ = false := new_loose2 _ _ _ _ _ rfl
        have X_1 : (w6.alloc (.cells #[.bool false, .slice none 0 0, .int .i64 0, .bool false, .slice none 0 0, .int .i64 0] 72)).cell? ⟨w6.heap.size, 1, none⟩ = some (.slice none 0 0) := new_cell2 _ _ _ _ _ _ rfl rfl
        have X_f1 : (w6.alloc (.cells #[.bool false, .slice none 0 0, .int .i64 0, .bool false, .slice none 0 0, .int .i64 0] 72)).frozen? ⟨w6.heap.size, 1, none⟩ = false := new_loose2 _ _ _ _ _ rfl
        have X_2 : (w6.alloc (.cells #[.bool false, .slice none 0 0, .int .i64 0, .bool false, .slice none 0 0, .int .i64 0] 72)).cell? ⟨w6.heap.size, 2, none⟩ = some (.int .i64 0) := new_cell2 _ _ _ _ _ _ rfl rfl
        have X_f2 : (w6.alloc (.cells #[.bool false, .slice none 0 0, .int .i64 0, .bool false, .slice none 0 0, .int .i64 0] 72)).frozen? ⟨w6.heap.size, 2, none⟩ = false := new_loose2 _ _ _ _ _ rfl
        have X_3 : (w6.alloc (.cells #[.bool false, .slice none 0 0, .int .i64 0, .bool false, .slice none 0 0, .int .i64 0] 72)).cell? ⟨w6.heap.size, 3, none⟩ = some (.bool false) := new_cell2 _ _ _ _ _ _ rfl rfl
        have X_f3 : (w6.alloc (.cells #[.bool false, .slice none 0 0, .int .i64 0, .bool false, .slice none 0 0, .int .i64 0] 72)).frozen? ⟨w6.heap.size, 3, none⟩ = false := new_loose2 _ _ _ _ _ rfl
        have X_4 : (w6.alloc (.cells #[.bool false, .slice none 0 0, .int .i64 0, .bool false, .slice none 0 0, .int .i64 0] 72)).cell? ⟨w6.heap.size, 4, none⟩ = some (.slice none 0 0) := new_cell2 _ _ _ _ _ _ rfl rfl
        have X_f4 : (w6.alloc (.cells #[.bool false, .slice none 0 0, .int .i64 0, .bool false, .slice none 0 0, .int .i64 0] 72)).frozen? ⟨w6.heap.size, 4, none⟩ = false := new_loose2 _ _ _ _ _ rfl
        have X_5 : (w6.alloc (.cells #[.bool false, .slice none 0 0, .int .i64 0, .bool false, .slice none 0 0, .int .i64 0] 72)).cell? ⟨w6.heap.size, 5, none⟩ = some (.int .i64 0) := new_cell2 _ _ _ _ _ _ rfl rfl
        have X_f5 : (w6.alloc (.cells #[.bool false, .slice none 0 0, .int .i64 0, .bool false, .slice none 0 0, .int .i64 0] 72)).frozen? ⟨w6.heap.size, 5, none⟩ = false := new_loose2 _ _ _ _ _ rfl
        clear hHeld
        refine hK.out _ _ ?_ (fun hHeld => ?_)
        · exact ⟨bp0, bp1, bp2, bp3, bp4, bp5, bq0, bq1, bq2, bq3, bq4, bq5⟩
        clear hK KK
        try simp only [Act.put, List.getElem_toArray, List.getElem_cons_succ, List.getElem_cons_zero, List.setIfInBounds_toArray, List.set_cons_zero, List.set_cons_succ]
        generalize w6.alloc (.cells #[.bool false, .slice none 0 0, .int .i64 0, .bool false, .slice none 0 0, .int .i64 0] 72) = w8 at *
        refine wpAnyH_ready (rs := [12]) (by kernel_rfl) (by simp) ?_
        refine AllReadyH.cons rfl (fun KK hK => ?_) AllReadyH.nil
        · simp only [List.getElem_toArray, List.getElem_cons_succ, List.getElem_cons_zero]
          rw [if_pos (by rfl)]
          go_simp
          clear hHeld
          refine hK.out _ _ ?_ (fun hHeld => ?_)
          · exact ⟨(cell_aside _ (by have := unhide S0; dsimp only; omega) (cell_aside _ (by have := unhide S0; dsimp only; omega) (cell_aside _ (by have := unhide S0; dsimp only; omega) (cell_aside _ (by have := unhide S0; dsimp only; omega) (cell_aside _ (by have := unhide S0; dsimp only; omega) (cell_aside _ (by have := unhide S0; dsimp only; omega) bp0)))))), (cell_aside _ (by have := unhide S0; dsimp only; omega) (cell_aside _ (by have := unhide S0; dsimp only; omega) (cell_aside _ (by have := unhide S0; dsimp only; omega) (cell_aside _ (by have := unhide S0; dsimp only; omega) (cell_aside _ (by have := unhide S0; dsimp only; omega) (cell_aside _ (by have := unhide S0; dsimp only; omega) bp1)))))), (cell_aside _ (by have := unhide S0; dsimp only; omega) (cell_aside _ (by have := unhide S0; dsimp only; omega) (cell_aside _ (by have := unhide S0; dsimp only; omega) (cell_aside _ (by have := unhide S0; dsimp only; omega) (cell_aside _ (by have := unhide S0; dsimp only; omega) (cell_aside _ (by have := unhide S0; dsimp only; omega) bp2)))))), (cell_aside _ (by have := unhide S0; dsimp only; omega) (cell_aside _ (by have := unhide S0; dsimp only; omega) (cell_aside _ (by have := unhide S0; dsimp only; omega) (cell_aside _ (by have := unhide S0; dsimp only; omega) (cell_aside _ (by have := unhide S0; dsimp only; omega) (cell_aside _ (by have := unhide S0; dsimp only; omega) bp3)))))), (cell_aside _ (by have := unhide S0; dsimp only; omega) (cell_aside _ (by have := unhide S0; dsimp only; omega) (cell_aside _ (by have := unhide S0; dsimp only; omega) (cell_aside _ (by have := unhide S0; dsimp only; omega) (cell_aside _ (by have := unhide S0; dsimp only; omega) (cell_aside _ (by have := unhide S0; dsimp only; omega) bp4)))))), (cell_aside _ (by have := unhide S0; dsimp only; omega) (cell_aside _ (by have := unhide S0; dsimp only; omega) (cell_aside _ (by have := unhide S0; dsimp only; omega) (cell_aside _ (by have := unhide S0; dsimp only; omega) (cell_aside _ (by have := unhide S0; dsimp only; omega) (cell_aside _ (by have := unhide S0; dsimp only; omega) bp5)))))), (cell_aside _ (by have := unhide S0; dsimp only; omega) (cell_aside _ (by have := unhide S0; dsimp only; omega) (cell_aside _ (by have := unhide S0; dsimp only; omega) (cell_aside _ (by have := unhide S0; dsimp only; omega) (cell_aside _ (by have := unhide S0; dsimp only; omega) (cell_aside _ (by have := unhide S0; dsimp only; omega) bq0)))))), (cell_aside _ (by have := unhide S0; dsimp only; omega) (cell_aside _ (by have := unhide S0; dsimp only; omega) (cell_aside _ (by have := unhide S0; dsimp only; omega) (cell_aside _ (by have := unhide S0; dsimp only; omega) (cell_aside _ (by have := unhide S0; dsimp only; omega) (cell_aside _ (by have := unhide S0; dsimp only; omega) bq1)))))), (cell_aside _ (by have := unhide S0; dsimp only; omega) (cell_aside _ (by have := unhide S0; dsimp only; omega) (cell_aside _ (by have := unhide S0; dsimp only; omega) (cell_aside _ (by have := unhide S0; dsimp only; omega) (cell_aside _ (by have := unhide S0; dsimp only; omega) (cell_aside _ (by have := unhide S0; dsimp only; omega) bq2)))))), (cell_aside _ (by have := unhide S0; dsimp only; omega) (cell_aside _ (by have := unhide S0; dsimp only; omega) (cell_aside _ (by have := unhide S0; dsimp only; omega) (cell_aside _ (by have := unhide S0; dsimp only; omega) (cell_aside _ (by have := unhide S0; dsimp only; omega) (cell_aside _ (by have := unhide S0; dsimp only; omega) bq3)))))), (cell_aside _ (by have := unhide S0; dsimp only; omega) (cell_aside _ (by have := unhide S0; dsimp only; omega) (cell_aside _ (by have := unhide S0; dsimp only; omega) (cell_aside _ (by have := unhide S0; dsimp only; omega) (cell_aside _ (by have := unhide S0; dsimp only; omega) (cell_aside _ (by have := unhide S0; dsimp only; omega) bq4)))))), (cell_aside _ (by have := unhide S0; dsimp only; omega) (cell_aside _ (by have := unhide S0; dsimp only; omega) (cell_aside _ (by have := unhide S0; dsimp only; omega) (cell_aside _ (by have := unhide S0; dsimp only; omega) (cell_aside _ (by have := unhide S0; dsimp only; omega) (cell_aside _ (by have := unhide S0; dsimp only; omega) bq5))))))⟩
          clear hK KK
          try simp only [Act.put, List.getElem_toArray, List.getElem_cons_succ, List.getElem_cons_zero, List.setIfInBounds_toArray, List.set_cons_zero, List.set_cons_succ]
          have sS0 := unhide S0
          replace r1 := r1.set_other (p := ⟨w6.heap.size, 0, none⟩) (by dsimp only; omega) (.bool s1)
          replace r2 := r2.set_other (p := ⟨w6.heap.size, 0, none⟩) (by dsimp only; omega) (.bool s1)
          replace r3 := r3.set_other (p := ⟨w6.heap.size, 0, none⟩) (by dsimp only; omega) (.bool s1)
          replace r4 := r4.set_other (p := ⟨w6.heap.size, 0, none⟩) (by dsimp only; omega) (.bool s1)
          replace bp0 := cell_else (.bool s1) (r := ⟨w6.heap.size, 0, none⟩) (by dsimp only; omega) rfl rfl bp0
          replace bp1 := cell_else (.bool s1) (r := ⟨w6.heap.size, 0, none⟩) (by dsimp only; omega) rfl rfl bp1
          replace bp2 := cell_else (.bool s1) (r := ⟨w6.heap.size, 0, none⟩) (by dsimp only; omega) rfl rfl bp2
          replace bp3 := cell_else (.bool s1) (r := ⟨w6.heap.size, 0, none⟩) (by dsimp only; omega) rfl rfl bp3
          replace bp4 := cell_else (.bool s1) (r := ⟨w6.heap.size, 0, none⟩) (by dsimp only; omega) rfl rfl bp4
          replace bp5 := cell_else (.bool s1) (r := ⟨w6.heap.size, 0, none⟩) (by dsimp only; omega) rfl rfl bp5
          replace bq0 := cell_else (.bool s1) (r := ⟨w6.heap.size, 0, none⟩) (by dsimp only; omega) rfl rfl bq0
          replace bq1 := cell_else (.bool s1) (r := ⟨w6.heap.size, 0, none⟩) (by dsimp only; omega) rfl rfl bq1
          replace bq2 := cell_else (.bool s1) (r := ⟨w6.heap.size, 0, none⟩) (by dsimp only; omega) rfl rfl bq2
          replace bq3 := cell_else (.bool s1) (r := ⟨w6.heap.size, 0, none⟩) (by dsimp only; omega) rfl rfl bq3
          replace bq4 := cell_else (.bool s1) (r := ⟨w6.heap.size, 0, none⟩) (by dsimp only; omega) rfl rfl bq4
          replace bq5 := cell_else (.bool s1) (r := ⟨w6.heap.size, 0, none⟩) (by dsimp only; omega) rfl rfl bq5
          replace R0 := cell_else (.bool s1) (r := ⟨w6.heap.size, 0, none⟩) (by dsimp only; omega) rfl rfl R0
          replace R1 := cell_else (.bool s1) (r := ⟨w6.heap.size, 0, none⟩) (by dsimp only; omega) rfl rfl R1
          replace R2 := cell_else (.bool s1) (r := ⟨w6.heap.size, 0, none⟩) (by dsimp only; omega) rfl rfl R2
          replace R3 := cell_else (.bool s1) (r := ⟨w6.heap.size, 0, none⟩) (by dsimp only; omega) rfl rfl R3
          replace R4 := cell_else (.bool s1) (r := ⟨w6.heap.size, 0, none⟩) (by dsimp only; omega) rfl rfl R4
          replace R5 := cell_else (.bool s1) (r := ⟨w6.heap.size, 0, none⟩) (by dsimp only; omega) rfl rfl R5
          replace Y_0 := cell_else (.bool s1) (r := ⟨w6.heap.size, 0, none⟩) (by dsimp only; omega) rfl rfl Y_0
          replace Y_1 := cell_else (.bool s1) (r := ⟨w6.heap.size, 0, none⟩) (by dsimp only; omega) rfl rfl Y_1
          replace Y_2 := cell_else (.bool s1) (r := ⟨w6.heap.size, 0, none⟩) (by dsimp only; omega) rfl rfl Y_2
          replace Y_3 := cell_else (.bool s1) (r := ⟨w6.heap.size, 0, none⟩) (by dsimp only; omega) rfl rfl Y_3
          replace Y_4 := cell_else (.bool s1) (r := ⟨w6.heap.size, 0, none⟩) (by dsimp only; omega) rfl rfl Y_4
          replace Y_5 := cell_else (.bool s1) (r := ⟨w6.heap.size, 0, none⟩) (by dsimp only; omega) rfl rfl Y_5
          replace X_1 := cell_else (.bool s1) (r := ⟨w6.heap.size, 0, none⟩) (by dsimp only; omega) rfl rfl X_1
          replace X_2 := cell_else (.bool s1) (r := ⟨w6.heap.size, 0, none⟩) (by dsimp only; omega) rfl rfl X_2
          replace X_3 := cell_else (.bool s1) (r := ⟨w6.heap.size, 0, none⟩) (by dsimp only; omega) rfl rfl X_3
          replace X_4 := cell_else (.bool s1) (r := ⟨w6.heap.size, 0, none⟩) (by dsimp only; omega) rfl rfl X_4
          replace X_5 := cell_else (.bool s1) (r := ⟨w6.heap.size, 0, none⟩) (by dsimp only; omega) rfl rfl X_5
          replace Rf0 : (w8.setCell ⟨w6.heap.size, 0, none⟩ (.bool s1)).frozen? _ = false := (frozen_set _ _ _ _ _).trans Rf0
          replace Rf1 : (w8.setCell ⟨w6.heap.size, 0, none⟩ (.bool s1)).frozen? _ = false := (frozen_set _ _ _ _ _).trans Rf1
          replace Rf2 : (w8.setCell ⟨w6.heap.size, 0, none⟩ (.bool s1)).frozen? _ = false := (frozen_set _ _ _ _ _).trans Rf2
          replace Rf3 : (w8.setCell ⟨w6.heap.size, 0, none⟩ (.bool s1)).frozen? _ = false := (frozen_set _ _ _ _ _).trans Rf3
          replace Rf4 : (w8.setCell ⟨w6.heap.size, 0, none⟩ (.bool s1)).frozen? _ = false := (frozen_set _ _ _ _ _).trans Rf4
          replace Rf5 : (w8.setCell ⟨w6.heap.size, 0, none⟩ (.bool s1)).frozen? _ = false := (frozen_set _ _ _ _ _).trans Rf5
          replace Y_f0 : (w8.setCell ⟨w6.heap.size, 0, none⟩ (.bool s1)).frozen? _ = false := (frozen_set _ _ _ _ _).trans Y_f0
          replace Y_f1 : (w8.setCell ⟨w6.heap.size, 0, none⟩ (.bool s1)).frozen? _ = false := (frozen_set _ _ _ _ _).trans Y_f1
          replace Y_f2 : (w8.setCell ⟨w6.heap.size, 0, none⟩ (.bool s1)).frozen? _ = false := (frozen_set _ _ _ _ _).trans Y_f2
          replace Y_f3 : (w8.setCell ⟨w6.heap.size, 0, none⟩ (.bool s1)).frozen? _ = false := (frozen_set _ _ _ _ _).trans Y_f3
          replace Y_f4 : (w8.setCell ⟨w6.heap.size, 0, none⟩ (.bool s1)).frozen? _ = false := (frozen_set _ _ _ _ _).trans Y_f4
          replace Y_f5 : (w8.setCell ⟨w6.heap.size, 0, none⟩ (.bool s1)).frozen? _ = false := (frozen_set _ _ _ _ _).trans Y_f5
          replace X_f0 : (w8.setCell ⟨w6.heap.size, 0, none⟩ (.bool s1)).frozen? _ = false := (frozen_set _ _ _ _ _).trans X_f0
          replace X_f1 : (w8.setCell ⟨w6.heap.size, 0, none⟩ (.bool s1)).frozen? _ = false := (frozen_set _ _ _ _ _).trans X_f1
          replace X_f2 : (w8.setCell ⟨w6.heap.size, 0, none⟩ (.bool s1)).frozen? _ = false := (frozen_set _ _ _ _ _).trans X_f2
          replace X_f3 : (w8.setCell ⟨w6.heap.size, 0, none⟩ (.bool s1)).frozen? _ = false := (frozen_set _ _ _ _ _).trans X_f3
          replace X_f4 : (w8.setCell ⟨w6.heap.size, 0, none⟩ (.bool s1)).frozen? _ = false := (frozen_set _ _ _ _ _).trans X_f4
          replace X_f5 : (w8.setCell ⟨w6.heap.size, 0, none⟩ (.bool s1)).frozen? _ = false := (frozen_set _ _ _ _ _).trans X_f5
          replace X_0 : (w8.setCell ⟨w6.heap.size, 0, none⟩ (.bool s1)).cell? ⟨w6.heap.size, 0, none⟩ = some (.bool s1) := cell_on _ _ _ _ _ X_0
          replace kw := kw.setNew (p := ⟨w6.heap.size, 0, none⟩) (by dsimp only; omega) (.bool s1)
          replace K := hide ((unhide K).setNew (p := ⟨w6.heap.size, 0, none⟩) (by dsimp only; omega) (.bool s1))
          have zs10 : (w8.setCell ⟨w6.heap.size, 0, none⟩ (.bool s1)).heap.size = w8.heap.size := by simp [World.setCell]
          clear sS0
          generalize w8.setCell ⟨w6.heap.size, 0, none⟩ (.bool s1) = ws10 at *
          have sS0 := unhide S0
          replace r1 := r1.set_other (p := ⟨w6.heap.size, 1, none⟩) (by dsimp only; omega) (.slice a1 l1.length c1)
          replace r2 := r2.set_other (p := ⟨w6.heap.size, 1, none⟩) (by dsimp only; omega) (.slice a1 l1.length c1)
          replace r3 := r3.set_other (p := ⟨w6.heap.size, 1, none⟩) (by dsimp only; omega) (.slice a1 l1.length c1)
          replace r4 := r4.set_other (p := ⟨w6.heap.size, 1, none⟩) (by dsimp only; omega) (.slice a1 l1.length c1)
          replace bp0 := cell_else (.slice a1 l1.length c1) (r := ⟨w6.heap.size, 1, none⟩) (by dsimp only; omega) rfl rfl bp0
          replace bp1 := cell_else (.slice a1 l1.length c1) (r := ⟨w6.heap.size, 1, none⟩) (by dsimp only; omega) rfl rfl bp1
          replace bp2 := cell_else (.slice a1 l1.length c1) (r := ⟨w6.heap.size, 1, none⟩) (by dsimp only; omega) rfl rfl bp2
          replace bp3 := cell_else (.slice a1 l1.length c1) (r := ⟨w6.heap.size, 1, none⟩) (by dsimp only; omega) rfl rfl bp3
          replace bp4 := cell_else (.slice a1 l1.length c1) (r := ⟨w6.heap.size, 1, none⟩) (by dsimp only; omega) rfl rfl bp4
          replace bp5 := cell_else (.slice a1 l1.length c1) (r := ⟨w6.heap.size, 1, none⟩) (by dsimp only; omega) rfl rfl bp5
          replace bq0 := cell_else (.slice a1 l1.length c1) (r := ⟨w6.heap.size, 1, none⟩) (by dsimp only; omega) rfl rfl bq0
          replace bq1 := cell_else (.slice a1 l1.length c1) (r := ⟨w6.heap.size, 1, none⟩) (by dsimp only; omega) rfl rfl bq1
          replace bq2 := cell_else (.slice a1 l1.length c1) (r := ⟨w6.heap.size, 1, none⟩) (by dsimp only; omega) rfl rfl bq2
          replace bq3 := cell_else (.slice a1 l1.length c1) (r := ⟨w6.heap.size, 1, none⟩) (by dsimp only; omega) rfl rfl bq3
          replace bq4 := cell_else (.slice a1 l1.length c1) (r := ⟨w6.heap.size, 1, none⟩) (by dsimp only; omega) rfl rfl bq4
          replace bq5 := cell_else (.slice a1 l1.length c1) (r := ⟨w6.heap.size, 1, none⟩) (by dsimp only; omega) rfl rfl bq5
          replace R0 := cell_else (.slice a1 l1.length c1) (r := ⟨w6.heap.size, 1, none⟩) (by dsimp only; omega) rfl rfl R0
          replace R1 := cell_else (.slice a1 l1.length c1) (r := ⟨w6.heap.size, 1, none⟩) (by dsimp only; omega) rfl rfl R1
          replace R2 := cell_else (.slice a1 l1.length c1) (r := ⟨w6.heap.size, 1, none⟩) (by dsimp only; omega) rfl rfl R2
          replace R3 := cell_else (.slice a1 l1.length c1) (r := ⟨w6.heap.size, 1, none⟩) (by dsimp only; omega) rfl rfl R3
          replace R4 := cell_else (.slice a1 l1.length c1) (r := ⟨w6.heap.size, 1, none⟩) (by dsimp only; omega) rfl rfl R4
          replace R5 := cell_else (.slice a1 l1.length c1) (r := ⟨w6.heap.size, 1, none⟩) (by dsimp only; omega) rfl rfl R5
          replace Y_0 := cell_else (.slice a1 l1.length c1) (r := ⟨w6.heap.size, 1, none⟩) (by dsimp only; omega) rfl rfl Y_0
          replace Y_1 := cell_else (.slice a1 l1.length c1) (r := ⟨w6.heap.size, 1, none⟩) (by dsimp only; omega) rfl rfl Y_1
          replace Y_2 := cell_else (.slice a1 l1.length c1) (r := ⟨w6.heap.size, 1, none⟩) (by dsimp only; omega) rfl rfl Y_2
          replace Y_3 := cell_else (.slice a1 l1.length c1) (r := ⟨w6.heap.size, 1, none⟩) (by dsimp only; omega) rfl rfl Y_3
          replace Y_4 := cell_else (.slice a1 l1.length c1) (r := ⟨w6.heap.size, 1, none⟩) (by dsimp only; omega) rfl rfl Y_4
          replace Y_5 := cell_else (.slice a1 l1.length c1) (r := ⟨w6.heap.size, 1, none⟩) (by dsimp only; omega) rfl rfl Y_5
          replace X_0 := cell_else (.slice a1 l1.length c1) (r := ⟨w6.heap.size, 1, none⟩) (by dsimp only; omega) rfl rfl X_0
          replace X_2 := cell_else (.slice a1 l1.length c1) (r := ⟨w6.heap.size, 1, none⟩) (by dsimp only; omega) rfl rfl X_2
          replace X_3 := cell_else (.slice a1 l1.length c1) (r := ⟨w6.heap.size, 1, none⟩) (by dsimp only; omega) rfl rfl X_3
          replace X_4 := cell_else (.slice a1 l1.length c1) (r := ⟨w6.heap.size, 1, none⟩) (by dsimp only; omega) rfl rfl X_4
          replace X_5 := cell_else (.slice a1 l1.length c1) (r := ⟨w6.heap.size, 1, none⟩) (by dsimp only; omega) rfl rfl X_5
          replace Rf0 : (ws10.setCell ⟨w6.heap.size, 1, none⟩ (.slice a1 l1.length c1)).frozen? _ = false := (frozen_set _ _ _ _ _).trans Rf0
          replace Rf1 : (ws10.setCell ⟨w6.heap.size, 1, none⟩ (.slice a1 l1.length c1)).frozen? _ = false := (frozen_set _ _ _ _ _).trans Rf1
          replace Rf2 : (ws10.setCell ⟨w6.heap.size, 1, none⟩ (.slice a1 l1.length c1)).frozen? _ = false := (frozen_set _ _ _ _ _).trans Rf2
          replace Rf3 : (ws10.setCell ⟨w6.heap.size, 1, none⟩ (.slice a1 l1.length c1)).frozen? _ = false := (frozen_set _ _ _ _ _).trans Rf3
          replace Rf4 : (ws10.setCell ⟨w6.heap.size, 1, none⟩ (.slice a1 l1.length c1)).frozen? _ = false := (frozen_set _ _ _ _ _).trans Rf4
          replace Rf5 : (ws10.setCell ⟨w6.heap.size, 1, none⟩ (.slice a1 l1.length c1)).frozen? _ = false := (frozen_set _ _ _ _ _).trans Rf5
          replace Y_f0 : (ws10.setCell ⟨w6.heap.size, 1, none⟩ (.slice a1 l1.length c1)).frozen? _ = false := (frozen_set _ _ _ _ _).trans Y_f0
          replace Y_f1 : (ws10.setCell ⟨w6.heap.size, 1, none⟩ (.slice a1 l1.length c1)).frozen? _ = false := (frozen_set _ _ _ _ _).trans Y_f1
          replace Y_f2 : (ws10.setCell ⟨w6.heap.size, 1, none⟩ (.slice a1 l1.length c1)).frozen? _ = false := (frozen_set _ _ _ _ _).trans Y_f2
          replace Y_f3 : (ws10.setCell ⟨w6.heap.size, 1, none⟩ (.slice a1 l1.length c1)).frozen? _ = false := (frozen_set _ _ _ _ _).trans Y_f3
          replace Y_f4 : (ws10.setCell ⟨w6.heap.size, 1, none⟩ (.slice a1 l1.length c1)).frozen? _ = false := (frozen_set _ _ _ _ _).trans Y_f4
          replace Y_f5 : (ws10.setCell ⟨w6.heap.size, 1, none⟩ (.slice a1 l1.length c1)).frozen? _ = false := (frozen_set _ _ _ _ _).trans Y_f5
          replace X_f0 : (ws10.setCell ⟨w6.heap.size, 1, none⟩ (.slice a1 l1.length c1)).frozen? _ = false := (frozen_set _ _ _ _ _).trans X_f0
          replace X_f1 : (ws10.setCell ⟨w6.heap.size, 1, none⟩ (.slice a1 l1.length c1)).frozen? _ = false := (frozen_set _ _ _ _ _).trans X_f1
          replace X_f2 : (ws10.setCell ⟨w6.heap.size, 1, none⟩ (.slice a1 l1.length c1)).frozen? _ = false := (frozen_set _ _ _ _ _).trans X_f2
          replace X_f3 : (ws10.setCell ⟨w6.heap.size, 1, none⟩ (.slice a1 l1.length c1)).frozen? _ = false := (frozen_set _ _ _ _ _).trans X_f3
          replace X_f4 : (ws10.setCell ⟨w6.heap.size, 1, none⟩ (.slice a1 l1.length c1)).frozen? _ = false := (frozen_set _ _ _ _ _).trans X_f4
          replace X_f5 : (ws10.setCell ⟨w6.heap.size, 1, none⟩ (.slice a1 l1.length c1)).frozen? _ = false := (frozen_set _ _ _ _ _).trans X_f5
          replace X_1 : (ws10.setCell ⟨w6.heap.size, 1, none⟩ (.slice a1 l1.length c1)).cell? ⟨w6.heap.size, 1, none⟩ = some (.slice a1 l1.length c1) := cell_on _ _ _ _ _ X_1
          replace kw := kw.setNew (p := ⟨w6.heap.size, 1, none⟩) (by dsimp only; omega) (.slice a1 l1.length c1)
          replace K := hide ((unhide K).setNew (p := ⟨w6.heap.size, 1, none⟩) (by dsimp only; omega) (.slice a1 l1.length c1))
          have zs11 : (ws10.setCell ⟨w6.heap.size, 1, none⟩ (.slice a1 l1.length c1)).heap.size = ws10.heap.size := by simp [World.setCell]
          clear sS0
          generalize ws10.setCell ⟨w6.heap.size, 1, none⟩ (.slice a1 l1.length c1) = ws11 at *
          have sS0 := unhide S0
          replace r1 := r1.set_other (p := ⟨w6.heap.size, 2, none⟩) (by dsimp only; omega) (.int .i64 e1)
          replace r2 := r2.set_other (p := ⟨w6.heap.size, 2, none⟩) (by dsimp only; omega) (.int .i64 e1)
          replace r3 := r3.set_other (p := ⟨w6.heap.size, 2, none⟩) (by dsimp only; omega) (.int .i64 e1)
          replace r4 := r4.set_other (p := ⟨w6.heap.size, 2, none⟩) (by dsimp only; omega) (.int .i64 e1)
          replace bp0 := cell_else (.int .i64 e1) (r := ⟨w6.heap.size, 2, none⟩) (by dsimp only; omega) rfl rfl bp0
          replace bp1 := cell_else (.int .i64 e1) (r := ⟨w6.heap.size, 2, none⟩) (by dsimp only; omega) rfl rfl bp1
          replace bp2 := cell_else (.int .i64 e1) (r := ⟨w6.heap.size, 2, none⟩) (by dsimp only; omega) rfl rfl bp2
          replace bp3 := cell_else (.int .i64 e1) (r := ⟨w6.heap.size, 2, none⟩) (by dsimp only; omega) rfl rfl bp3
          replace bp4 := cell_else (.int .i64 e1) (r := ⟨w6.heap.size, 2, none⟩) (by dsimp only; omega) rfl rfl bp4
          replace bp5 := cell_else (.int .i64 e1) (r := ⟨w6.heap.size, 2, none⟩) (by dsimp only; omega) rfl rfl bp5
          replace bq0 := cell_else (.int .i64 e1) (r := ⟨w6.heap.size, 2, none⟩) (by dsimp only; omega) rfl rfl bq0
          replace bq1 := cell_else (.int .i64 e1) (r := ⟨w6.heap.size, 2, none⟩) (by dsimp only; omega) rfl rfl bq1
          replace bq2 := cell_else (.int .i64 e1) (r := ⟨w6.heap.size, 2, none⟩) (by dsimp only; omega) rfl rfl bq2
          replace bq3 := cell_else (.int .i64 e1) (r := ⟨w6.heap.size, 2, none⟩) (by dsimp only; omega) rfl rfl bq3
          replace bq4 := cell_else (.int .i64 e1) (r := ⟨w6.heap.size, 2, none⟩) (by dsimp only; omega) rfl rfl bq4
          replace bq5 := cell_else (.int .i64 e1) (r := ⟨w6.heap.size, 2, none⟩) (by dsimp only; omega) rfl rfl bq5
          replace R0 := cell_else (.int .i64 e1) (r := ⟨w6.heap.size, 2, none⟩) (by dsimp only; omega) rfl rfl R0
          replace R1 := cell_else (.int .i64 e1) (r := ⟨w6.heap.size, 2, none⟩) (by dsimp only; omega) rfl rfl R1
          replace R2 := cell_else (.int .i64 e1) (r := ⟨w6.heap.size, 2, none⟩) (by dsimp only; omega) rfl rfl R2
          replace R3 := cell_else (.int .i64 e1) (r := ⟨w6.heap.size, 2, none⟩) (by dsimp only; omega) rfl rfl R3
          replace R4 := cell_else (.int .i64 e1) (r := ⟨w6.heap.size, 2, none⟩) (by dsimp only; omega) rfl rfl R4
          replace R5 := cell_else (.int .i64 e1) (r := ⟨w6.heap.size, 2, none⟩) (by dsimp only; omega) rfl rfl R5
          replace Y_0 := cell_else (.int .i64 e1) (r := ⟨w6.heap.size, 2, none⟩) (by dsimp only; omega) rfl rfl Y_0
          replace Y_1 := cell_else (.int .i64 e1) (r := ⟨w6.heap.size, 2, none⟩) (by dsimp only; omega) rfl rfl Y_1
          replace Y_2 := cell_else (.int .i64 e1) (r := ⟨w6.heap.size, 2, none⟩) (by dsimp only; omega) rfl rfl Y_2
          replace Y_3 := cell_else (.int .i64 e1) (r := ⟨w6.heap.size, 2, none⟩) (by dsimp only; omega) rfl rfl Y_3
          replace Y_4 := cell_else (.int .i64 e1) (r := ⟨w6.heap.size, 2, none⟩) (by dsimp only; omega) rfl rfl Y_4
          replace Y_5 := cell_else (.int .i64 e1) (r := ⟨w6.heap.size, 2, none⟩) (by dsimp only; omega) rfl rfl Y_5
          replace X_0 := cell_else (.int .i64 e1) (r := ⟨w6.heap.size, 2, none⟩) (by dsimp only; omega) rfl rfl X_0
          replace X_1 := cell_else (.int .i64 e1) (r := ⟨w6.heap.size, 2, none⟩) (by dsimp only; omega) rfl rfl X_1
          replace X_3 := cell_else (.int .i64 e1) (r := ⟨w6.heap.size, 2, none⟩) (by dsimp only; omega) rfl rfl X_3
          replace X_4 := cell_else (.int .i64 e1) (r := ⟨w6.heap.size, 2, none⟩) (by dsimp only; omega) rfl rfl X_4
          replace X_5 := cell_else (.int .i64 e1) (r := ⟨w6.heap.size, 2, none⟩) (by dsimp only; omega) rfl rfl X_5
          replace Rf0 : (ws11.setCell ⟨w6.heap.size, 2, none⟩ (.int .i64 e1)).frozen? _ = false := (frozen_set _ _ _ _ _).trans Rf0
          replace Rf1 : (ws11.setCell ⟨w6.heap.size, 2, none⟩ (.int .i64 e1)).frozen? _ = false := (frozen_set _ _ _ _ _).trans Rf1
          replace Rf2 : (ws11.setCell ⟨w6.heap.size, 2, none⟩ (.int .i64 e1)).frozen? _ = false := (frozen_set _ _ _ _ _).trans Rf2
          replace Rf3 : (ws11.setCell ⟨w6.heap.size, 2, none⟩ (.int .i64 e1)).frozen? _ = false := (frozen_set _ _ _ _ _).trans Rf3
          replace Rf4 : (ws11.setCell ⟨w6.heap.size, 2, none⟩ (.int .i64 e1)).frozen? _ = false := (frozen_set _ _ _ _ _).trans Rf4
          replace Rf5 : (ws11.setCell ⟨w6.heap.size, 2, none⟩ (.int .i64 e1)).frozen? _ = false := (frozen_set _ _ _ _ _).trans Rf5
          replace Y_f0 : (ws11.setCell ⟨w6.heap.size, 2, none⟩ (.int .i64 e1)).frozen? _ = false := (frozen_set _ _ _ _ _).trans Y_f0
          replace Y_f1 : (ws11.setCell ⟨w6.heap.size, 2, none⟩ (.int .i64 e1)).frozen? _ = false := (frozen_set _ _ _ _ _).trans Y_f1
          replace Y_f2 : (ws11.setCell ⟨w6.heap.size, 2, none⟩ (.int .i64 e1)).frozen? _ = false := (frozen_set _ _ _ _ _).trans Y_f2
          replace Y_f3 : (ws11.setCell ⟨w6.heap.size, 2, none⟩ (.int .i64 e1)).frozen? _ = false := (frozen_set _ _ _ _ _).trans Y_f3
          replace Y_f4 : (ws11.setCell ⟨w6.heap.size, 2, none⟩ (.int .i64 e1)).frozen? _ = false := (frozen_set _ _ _ _ _).trans Y_f4
          replace Y_f5 : (ws11.setCell ⟨w6.heap.size, 2, none⟩ (.int .i64 e1)).frozen? _ = false := (frozen_set _ _ _ _ _).trans Y_f5
          replace X_f0 : (ws11.setCell ⟨w6.heap.size, 2, none⟩ (.int .i64 e1)).frozen? _ = false := (frozen_set _ _ _ _ _).trans X_f0
          replace X_f1 : (ws11.setCell ⟨w6.heap.size, 2, none⟩ (.int .i64 e1)).frozen? _ = false := (frozen_set _ _ _ _ _).trans X_f1
          replace X_f2 : (ws11.setCell ⟨w6.heap.size, 2, none⟩ (.int .i64 e1)).frozen? _ = false := (frozen_set _ _ _ _ _).trans X_f2
          replace X_f3 : (ws11.setCell ⟨w6.heap.size, 2, none⟩ (.int .i64 e1)).frozen? _ = false := (frozen_set _ _ _ _ _).trans X_f3
          replace X_f4 : (ws11.setCell ⟨w6.heap.size, 2, none⟩ (.int .i64 e1)).frozen? _ = false := (frozen_set _ _ _ _ _).trans X_f4
          replace X_f5 : (ws11.setCell ⟨w6.heap.size, 2, none⟩ (.int .i64 e1)).frozen? _ = false := (frozen_set _ _ _ _ _).trans X_f5
          replace X_2 : (ws11.setCell ⟨w6.heap.size, 2, none⟩ (.int .i64 e1)).cell? ⟨w6.heap.size, 2, none⟩ = some (.int .i64 e1) := cell_on _ _ _ _ _ X_2
          replace kw := kw.setNew (p := ⟨w6.heap.size, 2, none⟩) (by dsimp only; omega) (.int .i64 e1)
          replace K := hide ((unhide K).setNew (p := ⟨w6.heap.size, 2, none⟩) (by dsimp only; omega) (.int .i64 e1))
          have zs12 : (ws11.setCell ⟨w6.heap.size, 2, none⟩ (.int .i64 e1)).heap.size = ws11.heap.size := by simp [World.setCell]
          clear sS0
          generalize ws11.setCell ⟨w6.heap.size, 2, none⟩ (.int .i64 e1) = ws12 at *
          have sS0 := unhide S0
          replace r1 := r1.set_other (p := ⟨w6.heap.size, 3, none⟩) (by dsimp only; omega) (.bool s4)
          replace r2 := r2.set_other (p := ⟨w6.heap.size, 3, none⟩) (by dsimp only; omega) (.bool s4)
          replace r3 := r3.set_other (p := ⟨w6.heap.size, 3, none⟩) (by dsimp only; omega) (.bool s4)
          replace r4 := r4.set_other (p := ⟨w6.heap.size, 3, none⟩) (by dsimp only; omega) (.bool s4)
          replace bp0 := cell_else (.bool s4) (r := ⟨w6.heap.size, 3, none⟩) (by dsimp only; omega) rfl rfl bp0
          replace bp1 := cell_else (.bool s4) (r := ⟨w6.heap.size, 3, none⟩) (by dsimp only; omega) rfl rfl bp1
          replace bp2 := cell_else (.bool s4) (r := ⟨w6.heap.size, 3, none⟩) (by dsimp only; omega) rfl rfl bp2
          replace bp3 := cell_else (.bool s4) (r := ⟨w6.heap.size, 3, none⟩) (by dsimp only; omega) rfl rfl bp3
          replace bp4 := cell_else (.bool s4) (r := ⟨w6.heap.size, 3, none⟩) (by dsimp only; omega) rfl rfl bp4
          replace bp5 := cell_else (.bool s4) (r := ⟨w6.heap.size, 3, none⟩) (by dsimp only; omega) rfl rfl bp5
          replace bq0 := cell_else (.bool s4) (r := ⟨w6.heap.size, 3, none⟩) (by dsimp only; omega) rfl rfl bq0
          replace bq1 := cell_else (.bool s4) (r := ⟨w6.heap.size, 3, none⟩) (by dsimp only; omega) rfl rfl bq1
          replace bq2 := cell_else (.bool s4) (r := ⟨w6.heap.size, 3, none⟩) (by dsimp only; omega) rfl rfl bq2
          replace bq3 := cell_else (.bool s4) (r := ⟨w6.heap.size, 3, none⟩) (by dsimp only; omega) rfl rfl bq3
          replace bq4 := cell_else (.bool s4) (r := ⟨w6.heap.size, 3, none⟩) (by dsimp only; omega) rfl rfl bq4
          replace bq5 := cell_else (.bool s4) (r := ⟨w6.heap.size, 3, none⟩) (by dsimp only; omega) rfl rfl bq5
          replace R0 := cell_else (.bool s4) (r := ⟨w6.heap.size, 3, none⟩) (by dsimp only; omega) rfl rfl R0
          replace R1 := cell_else (.bool s4) (r := ⟨w6.heap.size, 3, none⟩) (by dsimp only; omega) rfl rfl R1
          replace R2 := cell_else (.bool s4) (r := ⟨w6.heap.size, 3, none⟩) (by dsimp only; omega) rfl rfl R2
          replace R3 := cell_else (.bool s4) (r := ⟨w6.heap.size, 3, none⟩) (by dsimp only; omega) rfl rfl R3
          replace R4 := cell_else (.bool s4) (r := ⟨w6.heap.size, 3, none⟩) (by dsimp only; omega) rfl rfl R4
          replace R5 := cell_else (.bool s4) (r := ⟨w6.heap.size, 3, none⟩) (by dsimp only; omega) rfl rfl R5
          replace Y_0 := cell_else (.bool s4) (r := ⟨w6.heap.size, 3, none⟩) (by dsimp only; omega) rfl rfl Y_0
          replace Y_1 := cell_else (.bool s4) (r := ⟨w6.heap.size, 3, none⟩) (by dsimp only; omega) rfl rfl Y_1
          replace Y_2 := cell_else (.bool s4) (r := ⟨w6.heap.size, 3, none⟩) (by dsimp only; omega) rfl rfl Y_2
          replace Y_3 := cell_else (.bool s4) (r := ⟨w6.heap.size, 3, none⟩) (by dsimp only; omega) rfl rfl Y_3
          replace Y_4 := cell_else (.bool s4) (r := ⟨w6.heap.size, 3, none⟩) (by dsimp only; omega) rfl rfl Y_4
          replace Y_5 := cell_else (.bool s4) (r := ⟨w6.heap.size, 3, none⟩) (by dsimp only; omega) rfl rfl Y_5
          replace X_0 := cell_else (.bool s4) (r := ⟨w6.heap.size, 3, none⟩) (by dsimp only; omega) rfl rfl X_0
          replace X_1 := cell_else (.bool s4) (r := ⟨w6.heap.size, 3, none⟩) (by dsimp only; omega) rfl rfl X_1
          replace X_2 := cell_else (.bool s4) (r := ⟨w6.heap.size, 3, none⟩) (by dsimp only; omega) rfl rfl X_2
          replace X_4 := cell_else (.bool s4) (r := ⟨w6.heap.size, 3, none⟩) (by dsimp only; omega) rfl rfl X_4
          replace X_5 := cell_else (.bool s4) (r := ⟨w6.heap.size, 3, none⟩) (by dsimp only; omega) rfl rfl X_5
          replace Rf0 : (ws12.setCell ⟨w6.heap.size, 3, none⟩ (.bool s4)).frozen? _ = false := (frozen_set _ _ _ _ _).trans Rf0
          replace Rf1 : (ws12.setCell ⟨w6.heap.size, 3, none⟩ (.bool s4)).frozen? _ = false := (frozen_set _ _ _ _ _).trans Rf1
          replace Rf2 : (ws12.setCell ⟨w6.heap.size, 3, none⟩ (.bool s4)).frozen? _ = false := (frozen_set _ _ _ _ _).trans Rf2
          replace Rf3 : (ws12.setCell ⟨w6.heap.size, 3, none⟩ (.bool s4)).frozen? _ = false := (frozen_set _ _ _ _ _).trans Rf3
          replace Rf4 : (ws12.setCell ⟨w6.heap.size, 3, none⟩ (.bool s4)).frozen? _ = false := (frozen_set _ _ _ _ _).trans Rf4
          replace Rf5 : (ws12.setCell ⟨w6.heap.size, 3, none⟩ (.bool s4)).frozen? _ = false := (frozen_set _ _ _ _ _).trans Rf5
          replace Y_f0 : (ws12.setCell ⟨w6.heap.size, 3, none⟩ (.bool s4)).frozen? _ = false := (frozen_set _ _ _ _ _).trans Y_f0
          replace Y_f1 : (ws12.setCell ⟨w6.heap.size, 3, none⟩ (.bool s4)).frozen? _ = false := (frozen_set _ _ _ _ _).trans Y_f1
          replace Y_f2 : (ws12.setCell ⟨w6.heap.size, 3, none⟩ (.bool s4)).frozen? _ = false := (frozen_set _ _ _ _ _).trans Y_f2
          replace Y_f3 : (ws12.setCell ⟨w6.heap.size, 3, none⟩ (.bool s4)).frozen? _ = false := (frozen_set _ _ _ _ _).trans Y_f3
          replace Y_f4 : (ws12.setCell ⟨w6.heap.size, 3, none⟩ (.bool s4)).frozen? _ = false := (frozen_set _ _ _ _ _).trans Y_f4
          replace Y_f5 : (ws12.setCell ⟨w6.heap.size, 3, none⟩ (.bool s4)).frozen? _ = false := (frozen_set _ _ _ _ _).trans Y_f5
          replace X_f0 : (ws12.setCell ⟨w6.heap.size, 3, none⟩ (.bool s4)).frozen? _ = false := (frozen_set _ _ _ _ _).trans X_f0
          replace X_f1 : (ws12.setCell ⟨w6.heap.size, 3, none⟩ (.bool s4)).frozen? _ = false := (frozen_set _ _ _ _ _).trans X_f1
          replace X_f2 : (ws12.setCell ⟨w6.heap.size, 3, none⟩ (.bool s4)).frozen? _ = false := (frozen_set _ _ _ _ _).trans X_f2
          replace X_f3 : (ws12.setCell ⟨w6.heap.size, 3, none⟩ (.bool s4)).frozen? _ = false := (frozen_set _ _ _ _ _).trans X_f3
          replace X_f4 : (ws12.setCell ⟨w6.heap.size, 3, none⟩ (.bool s4)).frozen? _ = false := (frozen_set _ _ _ _ _).trans X_f4
          replace X_f5 : (ws12.setCell ⟨w6.heap.size, 3, none⟩ (.bool s4)).frozen? _ = false := (frozen_set _ _ _ _ _).trans X_f5
          replace X_3 : (ws12.setCell ⟨w6.heap.size, 3, none⟩ (.bool s4)).cell? ⟨w6.heap.size, 3, none⟩ = some (.bool s4) := cell_on _ _ _ _ _ X_3
          replace kw := kw.setNew (p := ⟨w6.heap.size, 3, none⟩) (by dsimp only; omega) (.bool s4)
          replace K := hide ((unhide K).setNew (p := ⟨w6.heap.size, 3, none⟩) (by dsimp only; omega) (.bool s4))
          have zs13 : (ws12.setCell ⟨w6.heap.size, 3, none⟩ (.bool s4)).heap.size = ws12.heap.size := by simp [World.setCell]
          clear sS0
          generalize ws12.setCell ⟨w6.heap.size, 3, none⟩ (.bool s4) = ws13 at *
          have sS0 := unhide S0
          replace r1 := r1.set_other (p := ⟨w6.heap.size, 4, none⟩) (by dsimp only; omega) (.slice a4 l4.length c4)
          replace r2 := r2.set_other (p := ⟨w6.heap.size, 4, none⟩) (by dsimp only; omega) (.slice a4 l4.length c4)
          replace r3 := r3.set_other (p := ⟨w6.heap.size, 4, none⟩) (by dsimp only; omega) (.slice a4 l4.length c4)
          replace r4 := r4.set_other (p := ⟨w6.heap.size, 4, none⟩) (by dsimp only; omega) (.slice a4 l4.length c4)
          replace bp0 := cell_else (.slice a4 l4.length c4) (r := ⟨w6.heap.size, 4, none⟩) (by dsimp only; omega) rfl rfl bp0
          replace bp1 := cell_else (.slice a4 l4.length c4) (r := ⟨w6.heap.size, 4, none⟩) (by dsimp only; omega) rfl rfl bp1
          replace bp2 := cell_else (.slice a4 l4.length c4) (r := ⟨w6.heap.size, 4, none⟩) (by dsimp only; omega) rfl rfl bp2
          replace bp3 := cell_else (.slice a4 l4.length c4) (r := ⟨w6.heap.size, 4, none⟩) (by dsimp only; omega) rfl rfl bp3
          replace bp4 := cell_else (.slice a4 l4.length c4) (r := ⟨w6.heap.size, 4, none⟩) (by dsimp only; omega) rfl rfl bp4
          replace bp5 := cell_else (.slice a4 l4.length c4) (r := ⟨w6.heap.size, 4, none⟩) (by dsimp only; omega) rfl rfl bp5
          replace bq0 := cell_else (.slice a4 l4.length c4) (r := ⟨w6.heap.size, 4, none⟩) (by dsimp only; omega) rfl rfl bq0
          replace bq1 := cell_else (.slice a4 l4.length c4) (r := ⟨w6.heap.size, 4, none⟩) (by dsimp only; omega) rfl rfl bq1
          replace bq2 := cell_else (.slice a4 l4.length c4) (r := ⟨w6.heap.size, 4, none⟩) (by dsimp only; omega) rfl rfl bq2
          replace bq3 := cell_else (.slice a4 l4.length c4) (r := ⟨w6.heap.size, 4, none⟩) (by dsimp only; omega) rfl rfl bq3
          replace bq4 := cell_else (.slice a4 l4.length c4) (r := ⟨w6.heap.size, 4, none⟩) (by dsimp only; omega) rfl rfl bq4
          replace bq5 := cell_else (.slice a4 l4.length c4) (r := ⟨w6.heap.size, 4, none⟩) (by dsimp only; omega) rfl rfl bq5
          replace R0 := cell_else (.slice a4 l4.length c4) (r := ⟨w6.heap.size, 4, none⟩) (by dsimp only; omega) rfl rfl R0
          replace R1 := cell_else (.slice a4 l4.length c4) (r := ⟨w6.heap.size, 4, none⟩) (by dsimp only; omega) rfl rfl R1
          replace R2 := cell_else (.slice a4 l4.length c4) (r := ⟨w6.heap.size, 4, none⟩) (by dsimp only; omega) rfl rfl R2
          replace R3 := cell_else (.slice a4 l4.length c4) (r := ⟨w6.heap.size, 4, none⟩) (by dsimp only; omega) rfl rfl R3
          replace R4 := cell_else (.slice a4 l4.length c4) (r := ⟨w6.heap.size, 4, none⟩) (by dsimp only; omega) rfl rfl R4
          replace R5 := cell_else (.slice a4 l4.length c4) (r := ⟨w6.heap.size, 4, none⟩) (by dsimp only; omega) rfl rfl R5
          replace Y_0 := cell_else (.slice a4 l4.length c4) (r := ⟨w6.heap.size, 4, none⟩) (by dsimp only; omega) rfl rfl Y_0
          replace Y_1 := cell_else (.slice a4 l4.length c4) (r := ⟨w6.heap.size, 4, none⟩) (by dsimp only; omega) rfl rfl Y_1
          replace Y_2 := cell_else (.slice a4 l4.length c4) (r := ⟨w6.heap.size, 4, none⟩) (by dsimp only; omega) rfl rfl Y_2
          replace Y_3 := cell_else (.slice a4 l4.length c4) (r := ⟨w6.heap.size, 4, none⟩) (by dsimp only; omega) rfl rfl Y_3
          replace Y_4 := cell_else (.slice a4 l4.length c4) (r := ⟨w6.heap.size, 4, none⟩) (by dsimp only; omega) rfl rfl Y_4
          replace Y_5 := cell_else (.slice a4 l4.length c4) (r := ⟨w6.heap.size, 4, none⟩) (by dsimp only; omega) rfl rfl Y_5
          replace X_0 := cell_else (.slice a4 l4.length c4) (r := ⟨w6.heap.size, 4, none⟩) (by dsimp only; omega) rfl rfl X_0
          replace X_1 := cell_else (.slice a4 l4.length c4) (r := ⟨w6.heap.size, 4, none⟩) (by dsimp only; omega) rfl rfl X_1
          replace X_2 := cell_else (.slice a4 l4.length c4) (r := ⟨w6.heap.size, 4, none⟩) (by dsimp only; omega) rfl rfl X_2
          replace X_3 := cell_else (.slice a4 l4.length c4) (r := ⟨w6.heap.size, 4, none⟩) (by dsimp only; omega) rfl rfl X_3
          replace X_5 := cell_else (.slice a4 l4.length c4) (r := ⟨w6.heap.size, 4, none⟩) (by dsimp only; omega) rfl rfl X_5
          replace Rf0 : (ws13.setCell ⟨w6.heap.size, 4, none⟩ (.slice a4 l4.length c4)).frozen? _ = false := (frozen_set _ _ _ _ _).trans Rf0
          replace Rf1 : (ws13.setCell ⟨w6.heap.size, 4, none⟩ (.slice a4 l4.length c4)).frozen? _ = false := (frozen_set _ _ _ _ _).trans Rf1
          replace Rf2 : (ws13.setCell ⟨w6.heap.size, 4, none⟩ (.slice a4 l4.length c4)).frozen? _ = false := (frozen_set _ _ _ _ _).trans Rf2
          replace Rf3 : (ws13.setCell ⟨w6.heap.size, 4, none⟩ (.slice a4 l4.length c4)).frozen? _ = false := (frozen_set _ _ _ _ _).trans Rf3
          replace Rf4 : (ws13.setCell ⟨w6.heap.size, 4, none⟩ (.slice a4 l4.length c4)).frozen? _ = false := (frozen_set _ _ _ _ _).trans Rf4
          replace Rf5 : (ws13.setCell ⟨w6.heap.size, 4, none⟩ (.slice a4 l4.length c4)).frozen? _ = false := (frozen_set _ _ _ _ _).trans Rf5
          replace Y_f0 : (ws13.setCell ⟨w6.heap.size, 4, none⟩ (.slice a4 l4.length c4)).frozen? _ = false := (frozen_set _ _ _ _ _).trans Y_f0
          replace Y_f1 : (ws13.setCell ⟨w6.heap.size, 4, none⟩ (.slice a4 l4.length c4)).frozen? _ = false := (frozen_set _ _ _ _ _).trans Y_f1
          replace Y_f2 : (ws13.setCell ⟨w6.heap.size, 4, none⟩ (.slice a4 l4.length c4)).frozen? _ = false := (frozen_set _ _ _ _ _).trans Y_f2
          replace Y_f3 : (ws13.setCell ⟨w6.heap.size, 4, none⟩ (.slice a4 l4.length c4)).frozen? _ = false := (frozen_set _ _ _ _ _).trans Y_f3
          replace Y_f4 : (ws13.setCell ⟨w6.heap.size, 4, none⟩ (.slice a4 l4.length c4)).frozen? _ = false := (frozen_set _ _ _ _ _).trans Y_f4
          replace Y_f5 : (ws13.setCell ⟨w6.heap.size, 4, none⟩ (.slice a4 l4.length c4)).frozen? _ = false := (frozen_set _ _ _ _ _).trans Y_f5
          replace X_f0 : (ws13.setCell ⟨w6.heap.size, 4, none⟩ (.slice a4 l4.length c4)).frozen? _ = false := (frozen_set _ _ _ _ _).trans X_f0
          replace X_f1 : (ws13.setCell ⟨w6.heap.size, 4, none⟩ (.slice a4 l4.length c4)).frozen? _ = false := (frozen_set _ _ _ _ _).trans X_f1
          replace X_f2 : (ws13.setCell ⟨w6.heap.size, 4, none⟩ (.slice a4 l4.length c4)).frozen? _ = false := (frozen_set _ _ _ _ _).trans X_f2
          replace X_f3 : (ws13.setCell ⟨w6.heap.size, 4, none⟩ (.slice a4 l4.length c4)).frozen? _ = false := (frozen_set _ _ _ _ _).trans X_f3
          replace X_f4 : (ws13.setCell ⟨w6.heap.size, 4, none⟩ (.slice a4 l4.length c4)).frozen? _ = false := (frozen_set _ _ _ _ _).trans X_f4
          replace X_f5 : (ws13.setCell ⟨w6.heap.size, 4, none⟩ (.slice a4 l4.length c4)).frozen? _ = false := (frozen_set _ _ _ _ _).trans X_f5
          replace X_4 : (ws13.setCell ⟨w6.heap.size, 4, none⟩ (.slice a4 l4.length c4)).cell? ⟨w6.heap.size, 4, none⟩ = some (.slice a4 l4.length c4) := cell_on _ _ _ _ _ X_4
          replace kw := kw.setNew (p := ⟨w6.heap.size, 4, none⟩) (by dsimp only; omega) (.slice a4 l4.length c4)
          replace K := hide ((unhide K).setNew (p := ⟨w6.heap.size, 4, none⟩) (by dsimp only; omega) (.slice a4 l4.length c4))
          have zs14 : (ws13.setCell ⟨w6.heap.size, 4, none⟩ (.slice a4 l4.length c4)).heap.size = ws13.heap.size := by simp [World.setCell]
          clear sS0
          generalize ws13.setCell ⟨w6.heap.size, 4, none⟩ (.slice a4 l4.length c4) = ws14 at *
          have sS0 := unhide S0
          replace r1 := r1.set_other (p := ⟨w6.heap.size, 5, none⟩) (by dsimp only; omega) (.int .i64 e4)
          replace r2 := r2.set_other (p := ⟨w6.heap.size, 5, none⟩) (by dsimp only; omega) (.int .i64 e4)
          replace r3 := r3.set_other (p := ⟨w6.heap.size, 5, none⟩) (by dsimp only; omega) (.int .i64 e4)
          replace r4 := r4.set_other (p := ⟨w6.heap.size, 5, none⟩) (by dsimp only; omega) (.int .i64 e4)
          replace bp0 := cell_else (.int .i64 e4) (r := ⟨w6.heap.size, 5, none⟩) (by dsimp only; omega) rfl rfl bp0
          replace bp1 := cell_else (.int .i64 e4) (r := ⟨w6.heap.size, 5, none⟩) (by dsimp only; omega) rfl rfl bp1
          replace bp2 := cell_else (.int .i64 e4) (r := ⟨w6.heap.size, 5, none⟩) (by dsimp only; omega) rfl rfl bp2
          replace bp3 := cell_else (.int .i64 e4) (r := ⟨w6.heap.size, 5, none⟩) (by dsimp only; omega) rfl rfl bp3
          replace bp4 := cell_else (.int .i64 e4) (r := ⟨w6.heap.size, 5, none⟩) (by dsimp only; omega) rfl rfl bp4
          replace bp5 := cell_else (.int .i64 e4) (r := ⟨w6.heap.size, 5, none⟩) (by dsimp only; omega) rfl rfl bp5
          replace bq0 := cell_else (.int .i64 e4) (r := ⟨w6.heap.size, 5, none⟩) (by dsimp only; omega) rfl rfl bq0
          replace bq1 := cell_else (.int .i64 e4) (r := ⟨w6.heap.size, 5, none⟩) (by dsimp only; omega) rfl rfl bq1
          replace bq2 := cell_else (.int .i64 e4) (r := ⟨w6.heap.size, 5, none⟩) (by dsimp only; omega) rfl rfl bq2
          replace bq3 := cell_else (.int .i64 e4) (r := ⟨w6.heap.size, 5, none⟩) (by dsimp only; omega) rfl rfl bq3
          replace bq4 := cell_else (.int .i64 e4) (r := ⟨w6.heap.size, 5, none⟩) (by dsimp only; omega) rfl rfl bq4
          replace bq5 := cell_else (.int .i64 e4) (r := ⟨w6.heap.size, 5, none⟩) (by dsimp only; omega) rfl rfl bq5
          replace R0 := cell_else (.int .i64 e4) (r := ⟨w6.heap.size, 5, none⟩) (by dsimp only; omega) rfl rfl R0
          replace R1 := cell_else (.int .i64 e4) (r := ⟨w6.heap.size, 5, none⟩) (by dsimp only; omega) rfl rfl R1
          replace R2 := cell_else (.int .i64 e4) (r := ⟨w6.heap.size, 5, none⟩) (by dsimp only; omega) rfl rfl R2
          replace R3 := cell_else (.int .i64 e4) (r := ⟨w6.heap.size, 5, none⟩) (by dsimp only; omega) rfl rfl R3
          replace R4 := cell_else (.int .i64 e4) (r := ⟨w6.heap.size, 5, none⟩) (by dsimp only; omega) rfl rfl R4
          replace R5 := cell_else (.int .i64 e4) (r := ⟨w6.heap.size, 5, none⟩) (by dsimp only; omega) rfl rfl R5
          replace Y_0 := cell_else (.int .i64 e4) (r := ⟨w6.heap.size, 5, none⟩) (by dsimp only; omega) rfl rfl Y_0
          replace Y_1 := cell_else (.int .i64 e4) (r := ⟨w6.heap.size, 5, none⟩) (by dsimp only; omega) rfl rfl Y_1
          replace Y_2 := cell_else (.int .i64 e4) (r := ⟨w6.heap.size, 5, none⟩) (by dsimp only; omega) rfl rfl Y_2
          replace Y_3 := cell_else (.int .i64 e4) (r := ⟨w6.heap.size, 5, none⟩) (by dsimp only; omega) rfl rfl Y_3
          replace Y_4 := cell_else (.int .i64 e4) (r := ⟨w6.heap.size, 5, none⟩) (by dsimp only; omega) rfl rfl Y_4
          replace Y_5 := cell_else (.int .i64 e4) (r := ⟨w6.heap.size, 5, none⟩) (by dsimp only; omega) rfl rfl Y_5
          replace X_0 := cell_else (.int .i64 e4) (r := ⟨w6.heap.size, 5, none⟩) (by dsimp only; omega) rfl rfl X_0
          replace X_1 := cell_else (.int .i64 e4) (r := ⟨w6.heap.size, 5, none⟩) (by dsimp only; omega) rfl rfl X_1
          replace X_2 := cell_else (.int .i64 e4) (r := ⟨w6.heap.size, 5, none⟩) (by dsimp only; omega) rfl rfl X_2
          replace X_3 := cell_else (.int .i64 e4) (r := ⟨w6.heap.size, 5, none⟩) (by dsimp only; omega) rfl rfl X_3
          replace X_4 := cell_else (.int .i64 e4) (r := ⟨w6.heap.size, 5, none⟩) (by dsimp only; omega) rfl rfl X_4
          replace Rf0 : (ws14.setCell ⟨w6.heap.size, 5, none⟩ (.int .i64 e4)).frozen? _ = false := (frozen_set _ _ _ _ _).trans Rf0
          replace Rf1 : (ws14.setCell ⟨w6.heap.size, 5, none⟩ (.int .i64 e4)).frozen? _ = false := (frozen_set _ _ _ _ _).trans Rf1
          replace Rf2 : (ws14.setCell ⟨w6.heap.size, 5, none⟩ (.int .i64 e4)).frozen? _ = false := (frozen_set _ _ _ _ _).trans Rf2
          replace Rf3 : (ws14.setCell ⟨w6.heap.size, 5, none⟩ (.int .i64 e4)).frozen? _ = false := (frozen_set _ _ _ _ _).trans Rf3
          replace Rf4 : (ws14.setCell ⟨w6.heap.size, 5, none⟩ (.int .i64 e4)).frozen? _ = false := (frozen_set _ _ _ _ _).trans Rf4
          replace Rf5 : (ws14.setCell ⟨w6.heap.size, 5, none⟩ (.int .i64 e4)).frozen? _ = false := (frozen_set _ _ _ _ _).trans Rf5
          replace Y_f0 : (ws14.setCell ⟨w6.heap.size, 5, none⟩ (.int .i64 e4)).frozen? _ = false := (frozen_set _ _ _ _ _).trans Y_f0
          replace Y_f1 : (ws14.setCell ⟨w6.heap.size, 5, none⟩ (.int .i64 e4)).frozen? _ = false := (frozen_set _ _ _ _ _).trans Y_f1
          replace Y_f2 : (ws14.setCell ⟨w6.heap.size, 5, none⟩ (.int .i64 e4)).frozen? _ = false := (frozen_set _ _ _ _ _).trans Y_f2
          replace Y_f3 : (ws14.setCell ⟨w6.heap.size, 5, none⟩ (.int .i64 e4)).frozen? _ = false := (frozen_set _ _ _ _ _).trans Y_f3
          replace Y_f4 : (ws14.setCell ⟨w6.heap.size, 5, none⟩ (.int .i64 e4)).frozen? _ = false := (frozen_set _ _ _ _ _).trans Y_f4
          replace Y_f5 : (ws14.setCell ⟨w6.heap.size, 5, none⟩ (.int .i64 e4)).frozen? _ = false := (frozen_set _ _ _ _ _).trans Y_f5
          replace X_f0 : (ws14.setCell ⟨w6.heap.size, 5, none⟩ (.int .i64 e4)).frozen? _ = false := (frozen_set _ _ _ _ _).trans X_f0
          replace X_f1 : (ws14.setCell ⟨w6.heap.size, 5, none⟩ (.int .i64 e4)).frozen? _ = false := (frozen_set _ _ _ _ _).trans X_f1
          replace X_f2 : (ws14.setCell ⟨w6.heap.size, 5, none⟩ (.int .i64 e4)).frozen? _ = false := (frozen_set _ _ _ _ _).trans X_f2
          replace X_f3 : (ws14.setCell ⟨w6.heap.size, 5, none⟩ (.int .i64 e4)).frozen? _ = false := (frozen_set _ _ _ _ _).trans X_f3
          replace X_f4 : (ws14.setCell ⟨w6.heap.size, 5, none⟩ (.int .i64 e4)).frozen? _ = false := (frozen_set _ _ _ _ _).trans X_f4
          replace X_f5 : (ws14.setCell ⟨w6.heap.size, 5, none⟩ (.int .i64 e4)).frozen? _ = false := (frozen_set _ _ _ _ _).trans X_f5
          replace X_5 : (ws14.setCell ⟨w6.heap.size, 5, none⟩ (.int .i64 e4)).cell? ⟨w6.heap.size, 5, none⟩ = some (.int .i64 e4) := cell_on _ _ _ _ _ X_5
          replace kw := kw.setNew (p := ⟨w6.heap.size, 5, none⟩) (by dsimp only; omega) (.int .i64 e4)
          replace K := hide ((unhide K).setNew (p := ⟨w6.heap.size, 5, none⟩) (by dsimp only; omega) (.int .i64 e4))
          have zs15 : (ws14.setCell ⟨w6.heap.size, 5, none⟩ (.int .i64 e4)).heap.size = ws14.heap.size := by simp [World.setCell]
          clear sS0
          generalize ws14.setCell ⟨w6.heap.size, 5, none⟩ (.int .i64 e4) = ws15 at *
          refine wpAnyH_ready (rs := [13]) (by kernel_rfl) (by simp) ?_
          refine AllReadyH.cons rfl (fun KK hK => ?_) AllReadyH.nil
          · simp only [List.getElem_toArray, List.getElem_cons_succ, List.getElem_cons_zero]
            rw [if_pos (by rfl)]
            go_simp
            clear hHeld
            refine hK.out _ _ ?_ (fun hHeld => ?_)
            · exact ⟨(cell_aside _ (by have := unhide S0; dsimp only; omega) (cell_aside _ (by have := unhide S0; dsimp only; omega) (cell_aside _ (by have := unhide S0; dsimp only; omega) (cell_aside _ (by have := unhide S0; dsimp only; omega) (cell_aside _ (by have := unhide S0; dsimp only; omega) (cell_aside _ (by have := unhide S0; dsimp only; omega) bp0)))))), (cell_aside _ (by have := unhide S0; dsimp only; omega) (cell_aside _ (by have := unhide S0; dsimp only; omega) (cell_aside _ (by have := unhide S0; dsimp only; omega) (cell_aside _ (by have := unhide S0; dsimp only; omega) (cell_aside _ (by have := unhide S0; dsimp only; omega) (cell_aside _ (by have := unhide S0; dsimp only; omega) bp1)))))), (cell_aside _ (by have := unhide S0; dsimp only; omega) (cell_aside _ (by have := unhide S0; dsimp only; omega) (cell_aside _ (by have := unhide S0; dsimp only; omega) (cell_aside _ (by have := unhide S0; dsimp only; omega) (cell_aside _ (by have := unhide S0; dsimp only; omega) (cell_aside _ (by have := unhide S0; dsimp only; omega) bp2)))))), (cell_aside _ (by have := unhide S0; dsimp only; omega) (cell_aside _ (by have := unhide S0; dsimp only; omega) (cell_aside _ (by have := unhide S0; dsimp only; omega) (cell_aside _ (by have := unhide S0; dsimp only; omega) (cell_aside _ (by have := unhide S0; dsimp only; omega) (cell_aside _ (by have := unhide S0; dsimp only; omega) bp3)))))), (cell_aside _ (by have := unhide S0; dsimp only; omega) (cell_aside _ (by have := unhide S0; dsimp only; omega) (cell_aside _ (by have := unhide S0; dsimp only; omega) (cell_aside _ (by have := unhide S0; dsimp only; omega) (cell_aside _ (by have := unhide S0; dsimp only; omega) (cell_aside _ (by have := unhide S0; dsimp only; omega) bp4)))))), (cell_aside _ (by have := unhide S0; dsimp only; omega) (cell_aside _ (by have := unhide S0; dsimp only; omega) (cell_aside _ (by have := unhide S0; dsimp only; omega) (cell_aside _ (by have := unhide S0; dsimp only; omega) (cell_aside _ (by have := unhide S0; dsimp only; omega) (cell_aside _ (by have := unhide S0; dsimp only; omega) bp5)))))), (cell_aside _ (by have := unhide S0; dsimp only; omega) (cell_aside _ (by have := unhide S0; dsimp only; omega) (cell_aside _ (by have := unhide S0; dsimp only; omega) (cell_aside _ (by have := unhide S0; dsimp only; omega) (cell_aside _ (by have := unhide S0; dsimp only; omega) (cell_aside _ (by have := unhide S0; dsimp only; omega) bq0)))))), (cell_aside _ (by have := unhide S0; dsimp only; omega) (cell_aside _ (by have := unhide S0; dsimp only; omega) (cell_aside _ (by have := unhide S0; dsimp only; omega) (cell_aside _ (by have := unhide S0; dsimp only; omega) (cell_aside _ (by have := unhide S0; dsimp only; omega) (cell_aside _ (by have := unhide S0; dsimp only; omega) bq1)))))), (cell_aside _ (by have := unhide S0; dsimp only; omega) (cell_aside _ (by have := unhide S0; dsimp only; omega) (cell_aside _ (by have := unhide S0; dsimp only; omega) (cell_aside _ (by have := unhide S0; dsimp only; omega) (cell_aside _ (by have := unhide S0; dsimp only; omega) (cell_aside _ (by have := unhide S0; dsimp only; omega) bq2)))))), (cell_aside _ (by have := unhide S0; dsimp only; omega) (cell_aside _ (by have := unhide S0; dsimp only; omega) (cell_aside _ (by have := unhide S0; dsimp only; omega) (cell_aside _ (by have := unhide S0; dsimp only; omega) (cell_aside _ (by have := unhide S0; dsimp only; omega) (cell_aside _ (by have := unhide S0; dsimp only; omega) bq3)))))), (cell_aside _ (by have := unhide S0; dsimp only; omega) (cell_aside _ (by have := unhide S0; dsimp only; omega) (cell_aside _ (by have := unhide S0; dsimp only; omega) (cell_aside _ (by have := unhide S0; dsimp only; omega) (cell_aside _ (by have := unhide S0; dsimp only; omega) (cell_aside _ (by have := unhide S0; dsimp only; omega) bq4)))))), (cell_aside _ (by have := unhide S0; dsimp only; omega) (cell_aside _ (by have := unhide S0; dsimp only; omega) (cell_aside _ (by have := unhide S0; dsimp only; omega) (cell_aside _ (by have := unhide S0; dsimp only; omega) (cell_aside _ (by have := unhide S0; dsimp only; omega) (cell_aside _ (by have := unhide S0; dsimp only; omega) bq5))))))⟩
            clear hK KK
            try simp only [Act.put, List.getElem_toArray, List.getElem_cons_succ, List.getElem_cons_zero, List.setIfInBounds_toArray, List.set_cons_zero, List.set_cons_succ]
            have sS0 := unhide S0
            replace r1 := r1.set_other (p := ⟨wd.heap.size, 0, none⟩) (by dsimp only; omega) (.bool s2)
            replace r2 := r2.set_other (p := ⟨wd.heap.size, 0, none⟩) (by dsimp only; omega) (.bool s2)
            replace r3 := r3.set_other (p := ⟨wd.heap.size, 0, none⟩) (by dsimp only; omega) (.bool s2)
            replace r4 := r4.set_other (p := ⟨wd.heap.size, 0, none⟩) (by dsimp only; omega) (.bool s2)
            replace bp0 := cell_else (.bool s2) (r := ⟨wd.heap.size, 0, none⟩) (by dsimp only; omega) rfl rfl bp0
            replace bp1 := cell_else (.bool s2) (r := ⟨wd.heap.size, 0, none⟩) (by dsimp only; omega) rfl rfl bp1
            replace bp2 := cell_else (.bool s2) (r := ⟨wd.heap.size, 0, none⟩) (by dsimp only; omega) rfl rfl bp2
            replace bp3 := cell_else (.bool s2) (r := ⟨wd.heap.size, 0, none⟩) (by dsimp only; omega) rfl rfl bp3
            replace bp4 := cell_else (.bool s2) (r := ⟨wd.heap.size, 0, none⟩) (by dsimp only; omega) rfl rfl bp4
            replace bp5 := cell_else (.bool s2) (r := ⟨wd.heap.size, 0, none⟩) (by dsimp only; omega) rfl rfl bp5
            replace bq0 := cell_else (.bool s2) (r := ⟨wd.heap.size, 0, none⟩) (by dsimp only; omega) rfl rfl bq0
            replace bq1 := cell_else (.bool s2) (r := ⟨wd.heap.size, 0, none⟩) (by dsimp only; omega) rfl rfl bq1
            replace bq2 := cell_else (.bool s2) (r := ⟨wd.heap.size, 0, none⟩) (by dsimp only; omega) rfl rfl bq2
            replace bq3 := cell_else (.bool s2) (r := ⟨wd.heap.size, 0, none⟩) (by dsimp only; omega) rfl rfl bq3
            replace bq4 := cell_else (.bool s2) (r := ⟨wd.heap.size, 0, none⟩) (by dsimp only; omega) rfl rfl bq4
            replace bq5 := cell_else (.bool s2) (r := ⟨wd.heap.size, 0, none⟩) (by dsimp only; omega) rfl rfl bq5
            replace R0 := cell_else (.bool s2) (r := ⟨wd.heap.size, 0, none⟩) (by dsimp only; omega) rfl rfl R0
            replace R1 := cell_else (.bool s2) (r := ⟨wd.heap.size, 0, none⟩) (by dsimp only; omega) rfl rfl R1
            replace R2 := cell_else (.bool s2) (r := ⟨wd.heap.size, 0, none⟩) (by dsimp only; omega) rfl rfl R2
            replace R3 := cell_else (.bool s2) (r := ⟨wd.heap.size, 0, none⟩) (by dsimp only; omega) rfl rfl R3
            replace R4 := cell_else (.bool s2) (r := ⟨wd.heap.size, 0, none⟩) (by dsimp only; omega) rfl rfl R4
            replace R5 := cell_else (.bool s2) (r := ⟨wd.heap.size, 0, none⟩) (by dsimp only; omega) rfl rfl R5
            replace Y_1 := cell_else (.bool s2) (r := ⟨wd.heap.size, 0, none⟩) (by dsimp only; omega) rfl rfl Y_1
            replace Y_2 := cell_else (.bool s2) (r := ⟨wd.heap.size, 0, none⟩) (by dsimp only; omega) rfl rfl Y_2
            replace Y_3 := cell_else (.bool s2) (r := ⟨wd.heap.size, 0, none⟩) (by dsimp only; omega) rfl rfl Y_3
            replace Y_4 := cell_else (.bool s2) (r := ⟨wd.heap.size, 0, none⟩) (by dsimp only; omega) rfl rfl Y_4
            replace Y_5 := cell_else (.bool s2) (r := ⟨wd.heap.size, 0, none⟩) (by dsimp only; omega) rfl rfl Y_5
            replace X_0 := cell_else (.bool s2) (r := ⟨wd.heap.size, 0, none⟩) (by dsimp only; omega) rfl rfl X_0
            replace X_1 := cell_else (.bool s2) (r := ⟨wd.heap.size, 0, none⟩) (by dsimp only; omega) rfl rfl X_1
            replace X_2 := cell_else (.bool s2) (r := ⟨wd.heap.size, 0, none⟩) (by dsimp only; omega) rfl rfl X_2
            replace X_3 := cell_else (.bool s2) (r := ⟨wd.heap.size, 0, none⟩) (by dsimp only; omega) rfl rfl X_3
            replace X_4 := cell_else (.bool s2) (r := ⟨wd.heap.size, 0, none⟩) (by dsimp only; omega) rfl rfl X_4
            replace X_5 := cell_else (.bool s2) (r := ⟨wd.heap.size, 0, none⟩) (by dsimp only; omega) rfl rfl X_5
            replace Rf0 : (ws15.setCell ⟨wd.heap.size, 0, none⟩ (.bool s2)).frozen? _ = false := (frozen_set _ _ _ _ _).trans Rf0
            replace Rf1 : (ws15.setCell ⟨wd.heap.size, 0, none⟩ (.bool s2)).frozen? _ = false := (frozen_set _ _ _ _ _).trans Rf1
            replace Rf2 : (ws15.setCell ⟨wd.heap.size, 0, none⟩ (.bool s2)).frozen? _ = false := (frozen_set _ _ _ _ _).trans Rf2
            replace Rf3 : (ws15.setCell ⟨wd.heap.size, 0, none⟩ (.bool s2)).frozen? _ = false := (frozen_set _ _ _ _ _).trans Rf3
            replace Rf4 : (ws15.setCell ⟨wd.heap.size, 0, none⟩ (.bool s2)).frozen? _ = false := (frozen_set _ _ _ _ _).trans Rf4
            replace Rf5 : (ws15.setCell ⟨wd.heap.size, 0, none⟩ (.bool s2)).frozen? _ = false := (frozen_set _ _ _ _ _).trans Rf5
            replace Y_f0 : (ws15.setCell ⟨wd.heap.size, 0, none⟩ (.bool s2)).frozen? _ = false := (frozen_set _ _ _ _ _).trans Y_f0
            replace Y_f1 : (ws15.setCell ⟨wd.heap.size, 0, none⟩ (.bool s2)).frozen? _ = false := (frozen_set _ _ _ _ _).trans Y_f1
            replace Y_f2 : (ws15.setCell ⟨wd.heap.size, 0, none⟩ (.bool s2)).frozen? _ = false := (frozen_set _ _ _ _ _).trans Y_f2
            replace Y_f3 : (ws15.setCell ⟨wd.heap.size, 0, none⟩ (.bool s2)).frozen? _ = false := (frozen_set _ _ _ _ _).trans Y_f3
            replace Y_f4 : (ws15.setCell ⟨wd.heap.size, 0, none⟩ (.bool s2)).frozen? _ = false := (frozen_set _ _ _ _ _).trans Y_f4
            replace Y_f5 : (ws15.setCell ⟨wd.heap.size, 0, none⟩ (.bool s2)).frozen? _ = false := (frozen_set _ _ _ _ _).trans Y_f5
            replace X_f0 : (ws15.setCell ⟨wd.heap.size, 0, none⟩ (.bool s2)).frozen? _ = false := (frozen_set _ _ _ _ _).trans X_f0
            replace X_f1 : (ws15.setCell ⟨wd.heap.size, 0, none⟩ (.bool s2)).frozen? _ = false := (frozen_set _ _ _ _ _).trans X_f1
            replace X_f2 : (ws15.setCell ⟨wd.heap.size, 0, none⟩ (.bool s2)).frozen? _ = false := (frozen_set _ _ _ _ _).trans X_f2
            replace X_f3 : (ws15.setCell ⟨wd.heap.size, 0, none⟩ (.bool s2)).frozen? _ = false := (frozen_set _ _ _ _ _).trans X_f3
            replace X_f4 : (ws15.setCell ⟨wd.heap.size, 0, none⟩ (.bool s2)).frozen? _ = false := (frozen_set _ _ _ _ _).trans X_f4
            replace X_f5 : (ws15.setCell ⟨wd.heap.size, 0, none⟩ (.bool s2)).frozen? _ = false := (frozen_set _ _ _ _ _).trans X_f5
            replace Y_0 : (ws15.setCell ⟨wd.heap.size, 0, none⟩ (.bool s2)).cell? ⟨wd.heap.size, 0, none⟩ = some (.bool s2) := cell_on _ _ _ _ _ Y_0
            replace kw := kw.setNew (p := ⟨wd.heap.size, 0, none⟩) (by dsimp only; omega) (.bool s2)
            replace K := hide ((unhide K).setNew (p := ⟨wd.heap.size, 0, none⟩) (by dsimp only; omega) (.bool s2))
            have zs16 : (ws15.setCell ⟨wd.heap.size, 0, none⟩ (.bool s2)).heap.size = ws15.heap.size := by simp [World.setCell]
            clear sS0
            generalize ws15.setCell ⟨wd.heap.size, 0, none⟩ (.bool s2) = ws16 at *
            have sS0 := unhide S0
            replace r1 := r1.set_other (p := ⟨wd.heap.size, 1, none⟩) (by dsimp only; omega) (.slice a2 l2.length c2)
            replace r2 := r2.set_other (p := ⟨wd.heap.size, 1, none⟩) (by dsimp only; omega) (.slice a2 l2.length c2)
            replace r3 := r3.set_other (p := ⟨wd.heap.size, 1, none⟩) (by dsimp only; omega) (.slice a2 l2.length c2)
            replace r4 := r4.set_other (p := ⟨wd.heap.size, 1, none⟩) (by dsimp only; omega) (.slice a2 l2.length c2)
            replace bp0 := cell_else (.slice a2 l2.length c2) (r := ⟨wd.heap.size, 1, none⟩) (by dsimp only; omega) rfl rfl bp0
            replace bp1 := cell_else (.slice a2 l2.length c2) (r := ⟨wd.heap.size, 1, none⟩) (by dsimp only; omega) rfl rfl bp1
            replace bp2 := cell_else (.slice a2 l2.length c2) (r := ⟨wd.heap.size, 1, none⟩) (by dsimp only; omega) rfl rfl bp2
            replace bp3 := cell_else (.slice a2 l2.length c2) (r := ⟨wd.heap.size, 1, none⟩) (by dsimp only; omega) rfl rfl bp3
            replace bp4 := cell_else (.slice a2 l2.length c2) (r := ⟨wd.heap.size, 1, none⟩) (by dsimp only; omega) rfl rfl bp4
            replace bp5 := cell_else (.slice a2 l2.length c2) (r := ⟨wd.heap.size, 1, none⟩) (by dsimp only; omega) rfl rfl bp5
            replace bq0 := cell_else (.slice a2 l2.length c2) (r := ⟨wd.heap.size, 1, none⟩) (by dsimp only; omega) rfl rfl bq0
            replace bq1 := cell_else (.slice a2 l2.length c2) (r := ⟨wd.heap.size, 1, none⟩) (by dsimp only; omega) rfl rfl bq1
            replace bq2 := cell_else (.slice a2 l2.length c2) (r := ⟨wd.heap.size, 1, none⟩) (by dsimp only; omega) rfl rfl bq2
            replace bq3 := cell_else (.slice a2 l2.length c2) (r := ⟨wd.heap.size, 1, none⟩) (by dsimp only; omega) rfl rfl bq3
            replace bq4 := cell_else (.slice a2 l2.length c2) (r := ⟨wd.heap.size, 1, none⟩) (by dsimp only; omega) rfl rfl bq4
            replace bq5 := cell_else (.slice a2 l2.length c2) (r := ⟨wd.heap.size, 1, none⟩) (by dsimp only; omega) rfl rfl bq5
            replace R0 := cell_else (.slice a2 l2.length c2) (r := ⟨wd.heap.size, 1, none⟩) (by dsimp only; omega) rfl rfl R0
            replace R1 := cell_else (.slice a2 l2.length c2) (r := ⟨wd.heap.size, 1, none⟩) (by dsimp only; omega) rfl rfl R1
            replace R2 := cell_else (.slice a2 l2.length c2) (r := ⟨wd.heap.size, 1, none⟩) (by dsimp only; omega) rfl rfl R2
            replace R3 := cell_else (.slice a2 l2.length c2) (r := ⟨wd.heap.size, 1, none⟩) (by dsimp only; omega) rfl rfl R3
            replace R4 := cell_else (.slice a2 l2.length c2) (r := ⟨wd.heap.size, 1, none⟩) (by dsimp only; omega) rfl rfl R4
            replace R5 := cell_else (.slice a2 l2.length c2) (r := ⟨wd.heap.size, 1, none⟩) (by dsimp only; omega) rfl rfl R5
            replace Y_0 := cell_else (.slice a2 l2.length c2) (r := ⟨wd.heap.size, 1, none⟩) (by dsimp only; omega) rfl rfl Y_0
            replace Y_2 := cell_else (.slice a2 l2.length c2) (r := ⟨wd.heap.size, 1, none⟩) (by dsimp only; omega) rfl rfl Y_2
            replace Y_3 := cell_else (.slice a2 l2.length c2) (r := ⟨wd.heap.size, 1, none⟩) (by dsimp only; omega) rfl rfl Y_3
            replace Y_4 := cell_else (.slice a2 l2.length c2) (r := ⟨wd.heap.size, 1, none⟩) (by dsimp only; omega) rfl rfl Y_4
            replace Y_5 := cell_else (.slice a2 l2.length c2) (r := ⟨wd.heap.size, 1, none⟩) (by dsimp only; omega) rfl rfl Y_5
            replace X_0 := cell_else (.slice a2 l2.length c2) (r := ⟨wd.heap.size, 1, none⟩) (by dsimp only; omega) rfl rfl X_0
            replace X_1 := cell_else (.slice a2 l2.length c2) (r := ⟨wd.heap.size, 1, none⟩) (by dsimp only; omega) rfl rfl X_1
            replace X_2 := cell_else (.slice a2 l2.length c2) (r := ⟨wd.heap.size, 1, none⟩) (by dsimp only; omega) rfl rfl X_2
            replace X_3 := cell_else (.slice a2 l2.length c2) (r := ⟨wd.heap.size, 1, none⟩) (by dsimp only; omega) rfl rfl X_3
            replace X_4 := cell_else (.slice a2 l2.length c2) (r := ⟨wd.heap.size, 1, none⟩) (by dsimp only; omega) rfl rfl X_4
            replace X_5 := cell_else (.slice a2 l2.length c2) (r := ⟨wd.heap.size, 1, none⟩) (by dsimp only; omega) rfl rfl X_5
            replace Rf0 : (ws16.setCell ⟨wd.heap.size, 1, none⟩ (.slice a2 l2.length c2)).frozen? _ = false := (frozen_set _ _ _ _ _).trans Rf0
            replace Rf1 : (ws16.setCell ⟨wd.heap.size, 1, none⟩ (.slice a2 l2.length c2)).frozen? _ = false := (frozen_set _ _ _ _ _).trans Rf1
            replace Rf2 : (ws16.setCell ⟨wd.heap.size, 1, none⟩ (.slice a2 l2.length c2)).frozen? _ = false := (frozen_set _ _ _ _ _).trans Rf2
            replace Rf3 : (ws16.setCell ⟨wd.heap.size, 1, none⟩ (.slice a2 l2.length c2)).frozen? _ = false := (frozen_set _ _ _ _ _).trans Rf3
            replace Rf4 : (ws16.setCell ⟨wd.heap.size, 1, none⟩ (.slice a2 l2.length c2)).frozen? _ = false := (frozen_set _ _ _ _ _).trans Rf4
            replace Rf5 : (ws16.setCell ⟨wd.heap.size, 1, none⟩ (.slice a2 l2.length c2)).frozen? _ = false := (frozen_set _ _ _ _ _).trans Rf5
            replace Y_f0 : (ws16.setCell ⟨wd.heap.size, 1, none⟩ (.slice a2 l2.length c2)).frozen? _ = false := (frozen_set _ _ _ _ _).trans Y_f0
            replace Y_f1 : (ws16.setCell ⟨wd.heap.size, 1, none⟩ (.slice a2 l2.length c2)).frozen? _ = false := (frozen_set _ _ _ _ _).trans Y_f1
            replace Y_f2 : (ws16.setCell ⟨wd.heap.size, 1, none⟩ (.slice a2 l2.length c2)).frozen? _ = false := (frozen_set _ _ _ _ _).trans Y_f2
            replace Y_f3 : (ws16.setCell ⟨wd.heap.size, 1, none⟩ (.slice a2 l2.length c2)).frozen? _ = false := (frozen_set _ _ _ _ _).trans Y_f3
            replace Y_f4 : (ws16.setCell ⟨wd.heap.size, 1, none⟩ (.slice a2 l2.length c2)).frozen? _ = false := (frozen_set _ _ _ _ _).trans Y_f4
            replace Y_f5 : (ws16.setCell ⟨wd.heap.size, 1, none⟩ (.slice a2 l2.length c2)).frozen? _ = false := (frozen_set _ _ _ _ _).trans Y_f5
            replace X_f0 : (ws16.setCell ⟨wd.heap.size, 1, none⟩ (.slice a2 l2.length c2)).frozen? _ = false := (frozen_set _ _ _ _ _).trans X_f0
            replace X_f1 : (ws16.setCell ⟨wd.heap.size, 1, none⟩ (.slice a2 l2.length c2)).frozen? _ = false := (frozen_set _ _ _ _ _).trans X_f1
            replace X_f2 : (ws16.setCell ⟨wd.heap.size, 1, none⟩ (.slice a2 l2.length c2)).frozen? _ = false := (frozen_set _ _ _ _ _).trans X_f2
            replace X_f3 : (ws16.setCell ⟨wd.heap.size, 1, none⟩ (.slice a2 l2.length c2)).frozen? _ = false := (frozen_set _ _ _ _ _).trans X_f3
            replace X_f4 : (ws16.setCell ⟨wd.heap.size, 1, none⟩ (.slice a2 l2.length c2)).frozen? _ = false := (frozen_set _ _ _ _ _).trans X_f4
            replace X_f5 : (ws16.setCell ⟨wd.heap.size, 1, none⟩ (.slice a2 l2.length c2)).frozen? _ = false := (frozen_set _ _ _ _ _).trans X_f5
            replace Y_1 : (ws16.setCell ⟨wd.heap.size, 1, none⟩ (.slice a2 l2.length c2)).cell? ⟨wd.heap.size, 1, none⟩ = some (.slice a2 l2.length c2) := cell_on _ _ _ _ _ Y_1
            replace kw := kw.setNew (p := ⟨wd.heap.size, 1, none⟩) (by dsimp only; omega) (.slice a2 l2.length c2)
            replace K := hide ((unhide K).setNew (p := ⟨wd.heap.size, 1, none⟩) (by dsimp only; omega) (.slice a2 l2.length c2))
            have zs17 : (ws16.setCell ⟨wd.heap.size, 1, none⟩ (.slice a2 l2.length c2)).heap.size = ws16.heap.size := by simp [World.setCell]
            clear sS0
            generalize ws16.setCell ⟨wd.heap.size, 1, none⟩ (.slice a2 l2.length c2) = ws17 at *
            have sS0 := unhide S0
            replace r1 := r1.set_other (p := ⟨wd.heap.size, 2, none⟩) (by dsimp only; omega) (.int .i64 e2)
            replace r2 := r2.set_other (p := ⟨wd.heap.size, 2, none⟩) (by dsimp only; omega) (.int .i64 e2)
            replace r3 := r3.set_other (p := ⟨wd.heap.size, 2, none⟩) (by dsimp only; omega) (.int .i64 e2)
            replace r4 := r4.set_other (p := ⟨wd.heap.size, 2, none⟩) (by dsimp only; omega) (.int .i64 e2)
            replace bp0 := cell_else (.int .i64 e2) (r := ⟨wd.heap.size, 2, none⟩) (by dsimp only; omega) rfl rfl bp0
            replace bp1 := cell_else (.int .i64 e2) (r := ⟨wd.heap.size, 2, none⟩) (by dsimp only; omega) rfl rfl bp1
            replace bp2 := cell_else (.int .i64 e2) (r := ⟨wd.heap.size, 2, none⟩) (by dsimp only; omega) rfl rfl bp2
            replace bp3 := cell_else (.int .i64 e2) (r := ⟨wd.heap.size, 2, none⟩) (by dsimp only; omega) rfl rfl bp3
            replace bp4 := cell_else (.int .i64 e2) (r := ⟨wd.heap.size, 2, none⟩) (by dsimp only; omega) rfl rfl bp4
            replace bp5 := cell_else (.int .i64 e2) (r := ⟨wd.heap.size, 2, none⟩) (by dsimp only; omega) rfl rfl bp5
            replace bq0 := cell_else (.int .i64 e2) (r := ⟨wd.heap.size, 2, none⟩) (by dsimp only; omega) rfl rfl bq0
            replace bq1 := cell_else (.int .i64 e2) (r := ⟨wd.heap.size, 2, none⟩) (by dsimp only; omega) rfl rfl bq1
            replace bq2 := cell_else (.int .i64 e2) (r := ⟨wd.heap.size, 2, none⟩) (by dsimp only; omega) rfl rfl bq2
            replace bq3 := cell_else (.int .i64 e2) (r := ⟨wd.heap.size, 2, none⟩) (by dsimp only; omega) rfl rfl bq3
            replace bq4 := cell_else (.int .i64 e2) (r := ⟨wd.heap.size, 2, none⟩) (by dsimp only; omega) rfl rfl bq4
            replace bq5 := cell_else (.int .i64 e2) (r := ⟨wd.heap.size, 2, none⟩) (by dsimp only; omega) rfl rfl bq5
            replace R0 := cell_else (.int .i64 e2) (r := ⟨wd.heap.size, 2, none⟩) (by dsimp only; omega) rfl rfl R0
            replace R1 := cell_else (.int .i64 e2) (r := ⟨wd.heap.size, 2, none⟩) (by dsimp only; omega) rfl rfl R1
            replace R2 := cell_else (.int .i64 e2) (r := ⟨wd.heap.size, 2, none⟩) (by dsimp only; omega) rfl rfl R2
            replace R3 := cell_else (.int .i64 e2) (r := ⟨wd.heap.size, 2, none⟩) (by dsimp only; omega) rfl rfl R3
            replace R4 := cell_else (.int .i64 e2) (r := ⟨wd.heap.size, 2, none⟩) (by dsimp only; omega) rfl rfl R4
            replace R5 := cell_else (.int .i64 e2) (r := ⟨wd.heap.size, 2, none⟩) (by dsimp only; omega) rfl rfl R5
            replace Y_0 := cell_else (.int .i64 e2) (r := ⟨wd.heap.size, 2, none⟩) (by dsimp only; omega) rfl rfl Y_0
            replace Y_1 := cell_else (.int .i64 e2) (r := ⟨wd.heap.size, 2, none⟩) (by dsimp only; omega) rfl rfl Y_1
            replace Y_3 := cell_else (.int .i64 e2) (r := ⟨wd.heap.size, 2, none⟩) (by dsimp only; omega) rfl rfl Y_3
            replace Y_4 := cell_else (.int .i64 e2) (r := ⟨wd.heap.size, 2, none⟩) (by dsimp only; omega) rfl rfl Y_4
            replace Y_5 := cell_else (.int .i64 e2) (r := ⟨wd.heap.size, 2, none⟩) (by dsimp only; omega) rfl rfl Y_5
            replace X_0 := cell_else (.int .i64 e2) (r := ⟨wd.heap.size, 2, none⟩) (by dsimp only; omega) rfl rfl X_0
            replace X_1 := cell_else (.int .i64 e2) (r := ⟨wd.heap.size, 2, none⟩) (by dsimp only; omega) rfl rfl X_1
            replace X_2 := cell_else (.int .i64 e2) (r := ⟨wd.heap.size, 2, none⟩) (by dsimp only; omega) rfl rfl X_2
            replace X_3 := cell_else (.int .i64 e2) (r := ⟨wd.heap.size, 2, none⟩) (by dsimp only; omega) rfl rfl X_3
            replace X_4 := cell_else (.int .i64 e2) (r := ⟨wd.heap.size, 2, none⟩) (by dsimp only; omega) rfl rfl X_4
            replace X_5 := cell_else (.int .i64 e2) (r := ⟨wd.heap.size, 2, none⟩) (by dsimp only; omega) rfl rfl X_5
            replace Rf0 : (ws17.setCell ⟨wd.heap.size, 2, none⟩ (.int .i64 e2)).frozen? _ = false := (frozen_set _ _ _ _ _).trans Rf0
            replace Rf1 : (ws17.setCell ⟨wd.heap.size, 2, none⟩ (.int .i64 e2)).frozen? _ = false := (frozen_set _ _ _ _ _).trans Rf1
            replace Rf2 : (ws17.setCell ⟨wd.heap.size, 2, none⟩ (.int .i64 e2)).frozen? _ = false := (frozen_set _ _ _ _ _).trans Rf2
            replace Rf3 : (ws17.setCell ⟨wd.heap.size, 2, none⟩ (.int .i64 e2)).frozen? _ = false := (frozen_set _ _ _ _ _).trans Rf3
            replace Rf4 : (ws17.setCell ⟨wd.heap.size, 2, none⟩ (.int .i64 e2)).frozen? _ = false := (frozen_set _ _ _ _ _).trans Rf4
            replace Rf5 : (ws17.setCell ⟨wd.heap.size, 2, none⟩ (.int .i64 e2)).frozen? _ = false := (frozen_set _ _ _ _ _).trans Rf5
            replace Y_f0 : (ws17.setCell ⟨wd.heap.size, 2, none⟩ (.int .i64 e2)).frozen? _ = false := (frozen_set _ _ _ _ _).trans Y_f0
            replace Y_f1 : (ws17.setCell ⟨wd.heap.size, 2, none⟩ (.int .i64 e2)).frozen? _ = false := (frozen_set _ _ _ _ _).trans Y_f1
            replace Y_f2 : (ws17.setCell ⟨wd.heap.size, 2, none⟩ (.int .i64 e2)).frozen? _ = false := (frozen_set _ _ _ _ _).trans Y_f2
            replace Y_f3 : (ws17.setCell ⟨wd.heap.size, 2, none⟩ (.int .i64 e2)).frozen? _ = false := (frozen_set _ _ _ _ _).trans Y_f3
            replace Y_f4 : (ws17.setCell ⟨wd.heap.size, 2, none⟩ (.int .i64 e2)).frozen? _ = false := (frozen_set _ _ _ _ _).trans Y_f4
            replace Y_f5 : (ws17.setCell ⟨wd.heap.size, 2, none⟩ (.int .i64 e2)).frozen? _ = false := (frozen_set _ _ _ _ _).trans Y_f5
            replace X_f0 : (ws17.setCell ⟨wd.heap.size, 2, none⟩ (.int .i64 e2)).frozen? _ = false := (frozen_set _ _ _ _ _).trans X_f0
            replace X_f1 : (ws17.setCell ⟨wd.heap.size, 2, none⟩ (.int .i64 e2)).frozen? _ = false := (frozen_set _ _ _ _ _).trans X_f1
            replace X_f2 : (ws17.setCell ⟨wd.heap.size, 2, none⟩ (.int .i64 e2)).frozen? _ = false := (frozen_set _ _ _ _ _).trans X_f2
            replace X_f3 : (ws17.setCell ⟨wd.heap.size, 2, none⟩ (.int .i64 e2)).frozen? _ = false := (frozen_set _ _ _ _ _).trans X_f3
            replace X_f4 : (ws17.setCell ⟨wd.heap.size, 2, none⟩ (.int .i64 e2)).frozen? _ = false := (frozen_set _ _ _ _ _).trans X_f4
            replace X_f5 : (ws17.setCell ⟨wd.heap.size, 2, none⟩ (.int .i64 e2)).frozen? _ = false := (frozen_set _ _ _ _ _).trans X_f5
            replace Y_2 : (ws17.setCell ⟨wd.heap.size, 2, none⟩ (.int .i64 e2)).cell? ⟨wd.heap.size, 2, none⟩ = some (.int .i64 e2) := cell_on _ _ _ _ _ Y_2
            replace kw := kw.setNew (p := ⟨wd.heap.size, 2, none⟩) (by dsimp only; omega) (.int .i64 e2)
            replace K := hide ((unhide K).setNew (p := ⟨wd.heap.size, 2, none⟩) (by dsimp only; omega) (.int .i64 e2))
            have zs18 : (ws17.setCell ⟨wd.heap.size, 2, none⟩ (.int .i64 e2)).heap.size = ws17.heap.size := by simp [World.setCell]
            clear sS0
            generalize ws17.setCell ⟨wd.heap.size, 2, none⟩ (.int .i64 e2) = ws18 at *
            have sS0 := unhide S0
            replace r1 := r1.set_other (p := ⟨wd.heap.size, 3, none⟩) (by dsimp only; omega) (.bool s3)
            replace r2 := r2.set_other (p := ⟨wd.heap.size, 3, none⟩) (by dsimp only; omega) (.bool s3)
            replace r3 := r3.set_other (p := ⟨wd.heap.size, 3, none⟩) (by dsimp only; omega) (.bool s3)
            replace r4 := r4.set_other (p := ⟨wd.heap.size, 3, none⟩) (by dsimp only; omega) (.bool s3)
            replace bp0 := cell_else (.bool s3) (r := ⟨wd.heap.size, 3, none⟩) (by dsimp only; omega) rfl rfl bp0
            replace bp1 := cell_else (.bool s3) (r := ⟨wd.heap.size, 3, none⟩) (by dsimp only; omega) rfl rfl bp1
            replace bp2 := cell_else (.bool s3) (r := ⟨wd.heap.size, 3, none⟩) (by dsimp only; omega) rfl rfl bp2
            replace bp3 := cell_else (.bool s3) (r := ⟨wd.heap.size, 3, none⟩) (by dsimp only; omega) rfl rfl bp3
            replace bp4 := cell_else (.bool s3) (r := ⟨wd.heap.size, 3, none⟩) (by dsimp only; omega) rfl rfl bp4
            replace bp5 := cell_else (.bool s3) (r := ⟨wd.heap.size, 3, none⟩) (by dsimp only; omega) rfl rfl bp5
            replace bq0 := cell_else (.bool s3) (r := ⟨wd.heap.size, 3, none⟩) (by dsimp only; omega) rfl rfl bq0
            replace bq1 := cell_else (.bool s3) (r := ⟨wd.heap.size, 3, none⟩) (by dsimp only; omega) rfl rfl bq1
            replace bq2 := cell_else (.bool s3) (r := ⟨wd.heap.size, 3, none⟩) (by dsimp only; omega) rfl rfl bq2
            replace bq3 := cell_else (.bool s3) (r := ⟨wd.heap.size, 3, none⟩) (by dsimp only; omega) rfl rfl bq3
            replace bq4 := cell_else (.bool s3) (r := ⟨wd.heap.size, 3, none⟩) (by dsimp only; omega) rfl rfl bq4
            replace bq5 := cell_else (.bool s3) (r := ⟨wd.heap.size, 3, none⟩) (by dsimp only; omega) rfl rfl bq5
            replace R0 := cell_else (.bool s3) (r := ⟨wd.heap.size, 3, none⟩) (by dsimp only; omega) rfl rfl R0
            replace R1 := cell_else (.bool s3) (r := ⟨wd.heap.size, 3, none⟩) (by dsimp only; omega) rfl rfl R1
            replace R2 := cell_else (.bool s3) (r := ⟨wd.heap.size, 3, none⟩) (by dsimp only; omega) rfl rfl R2
            replace R3 := cell_else (.bool s3) (r := ⟨wd.heap.size, 3, none⟩) (by dsimp only; omega) rfl rfl R3
            replace R4 := cell_else (.bool s3) (r := ⟨wd.heap.size, 3, none⟩) (by dsimp only; omega) rfl rfl R4
            replace R5 := cell_else (.bool s3) (r := ⟨wd.heap.size, 3, none⟩) (by dsimp only; omega) rfl rfl R5
            replace Y_0 := cell_else (.bool s3) (r := ⟨wd.heap.size, 3, none⟩) (by dsimp only; omega) rfl rfl Y_0
            replace Y_1 := cell_else (.bool s3) (r := ⟨wd.heap.size, 3, none⟩) (by dsimp only; omega) rfl rfl Y_1
            replace Y_2 := cell_else (.bool s3) (r := ⟨wd.heap.size, 3, none⟩) (by dsimp only; omega) rfl rfl Y_2
            replace Y_4 := cell_else (.bool s3) (r := ⟨wd.heap.size, 3, none⟩) (by dsimp only; omega) rfl rfl Y_4
            replace Y_5 := cell_else (.bool s3) (r := ⟨wd.heap.size, 3, none⟩) (by dsimp only; omega) rfl rfl Y_5
            replace X_0 := cell_else (.bool s3) (r := ⟨wd.heap.size, 3, none⟩) (by dsimp only; omega) rfl rfl X_0
            replace X_1 := cell_else (.bool s3) (r := ⟨wd.heap.size, 3, none⟩) (by dsimp only; omega) rfl rfl X_1
            replace X_2 := cell_else (.bool s3) (r := ⟨wd.heap.size, 3, none⟩) (by dsimp only; omega) rfl rfl X_2
            replace X_3 := cell_else (.bool s3) (r := ⟨wd.heap.size, 3, none⟩) (by dsimp only; omega) rfl rfl X_3
            replace X_4 := cell_else (.bool s3) (r := ⟨wd.heap.size, 3, none⟩) (by dsimp only; omega) rfl rfl X_4
            replace X_5 := cell_else (.bool s3) (r := ⟨wd.heap.size, 3, none⟩) (by dsimp only; omega) rfl rfl X_5
            replace Rf0 : (ws18.setCell ⟨wd.heap.size, 3, none⟩ (.bool s3)).frozen? _ = false := (frozen_set _ _ _ _ _).trans Rf0
            replace Rf1 : (ws18.setCell ⟨wd.heap.size, 3, none⟩ (.bool s3)).frozen? _ = false := (frozen_set _ _ _ _ _).trans Rf1
            replace Rf2 : (ws18.setCell ⟨wd.heap.size, 3, none⟩ (.bool s3)).frozen? _ = false := (frozen_set _ _ _ _ _).trans Rf2
            replace Rf3 : (ws18.setCell ⟨wd.heap.size, 3, none⟩ (.bool s3)).frozen? _ = false := (frozen_set _ _ _ _ _).trans Rf3
            replace Rf4 : (ws18.setCell ⟨wd.heap.size, 3, none⟩ (.bool s3)).frozen? _ = false := (frozen_set _ _ _ _ _).trans Rf4
            replace Rf5 : (ws18.setCell ⟨wd.heap.size, 3, none⟩ (.bool s3)).frozen? _ = false := (frozen_set _ _ _ _ _).trans Rf5
            replace Y_f0 : (ws18.setCell ⟨wd.heap.size, 3, none⟩ (.bool s3)).frozen? _ = false := (frozen_set _ _ _ _ _).trans Y_f0
            replace Y_f1 : (ws18.setCell ⟨wd.heap.size, 3, none⟩ (.bool s3)).frozen? _ = false := (frozen_set _ _ _ _ _).trans Y_f1
            replace Y_f2 : (ws18.setCell ⟨wd.heap.size, 3, none⟩ (.bool s3)).frozen? _ = false := (frozen_set _ _ _ _ _).trans Y_f2
            replace Y_f3 : (ws18.setCell ⟨wd.heap.size, 3, none⟩ (.bool s3)).frozen? _ = false := (frozen_set _ _ _ _ _).trans Y_f3
            replace Y_f4 : (ws18.setCell ⟨wd.heap.size, 3, none⟩ (.bool s3)).frozen? _ = false := (frozen_set _ _ _ _ _).trans Y_f4
            replace Y_f5 : (ws18.setCell ⟨wd.heap.size, 3, none⟩ (.bool s3)).frozen? _ = false := (frozen_set _ _ _ _ _).trans Y_f5
            replace X_f0 : (ws18.setCell ⟨wd.heap.size, 3, none⟩ (.bool s3)).frozen? _ = false := (frozen_set _ _ _ _ _).trans X_f0
            replace X_f1 : (ws18.setCell ⟨wd.heap.size, 3, none⟩ (.bool s3)).frozen? _ = false := (frozen_set _ _ _ _ _).trans X_f1
            replace X_f2 : (ws18.setCell ⟨wd.heap.size, 3, none⟩ (.bool s3)).frozen? _ = false := (frozen_set _ _ _ _ _).trans X_f2
            replace X_f3 : (ws18.setCell ⟨wd.heap.size, 3, none⟩ (.bool s3)).frozen? _ = false := (frozen_set _ _ _ _ _).trans X_f3
            replace X_f4 : (ws18.setCell ⟨wd.heap.size, 3, none⟩ (.bool s3)).frozen? _ = false := (frozen_set _ _ _ _ _).trans X_f4
            replace X_f5 : (ws18.setCell ⟨wd.heap.size, 3, none⟩ (.bool s3)).frozen? _ = false := (frozen_set _ _ _ _ _).trans X_f5
            replace Y_3 : (ws18.setCell ⟨wd.heap.size, 3, none⟩ (.bool s3)).cell? ⟨wd.heap.size, 3, none⟩ = some (.bool s3) := cell_on _ _ _ _ _ Y_3
            replace kw := kw.setNew (p := ⟨wd.heap.size, 3, none⟩) (by dsimp only; omega) (.bool s3)
            replace K := hide ((unhide K).setNew (p := ⟨wd.heap.size, 3, none⟩) (by dsimp only; omega) (.bool s3))
            have zs19 : (ws18.setCell ⟨wd.heap.size, 3, none⟩ (.bool s3)).heap.size = ws18.heap.size := by simp [World.setCell]
            clear sS0
            generalize ws18.setCell ⟨wd.heap.size, 3, none⟩ (.bool s3) = ws19 at *
            have sS0 := unhide S0
            replace r1 := r1.set_other (p := ⟨wd.heap.size, 4, none⟩) (by dsimp only; omega) (.slice a3 l3.length c3)
            replace r2 := r2.set_other (p := ⟨wd.heap.size, 4, none⟩) (by dsimp only; omega) (.slice a3 l3.length c3)
            replace r3 := r3.set_other (p := ⟨wd.heap.size, 4, none⟩) (by dsimp only; omega) (.slice a3 l3.length c3)
            replace r4 := r4.set_other (p := ⟨wd.heap.size, 4, none⟩) (by dsimp only; omega) (.slice a3 l3.length c3)
            replace bp0 := cell_else (.slice a3 l3.length c3) (r := ⟨wd.heap.size, 4, none⟩) (by dsimp only; omega) rfl rfl bp0
            replace bp1 := cell_else (.slice a3 l3.length c3) (r := ⟨wd.heap.size, 4, none⟩) (by dsimp only; omega) rfl rfl bp1
            replace bp2 := cell_else (.slice a3 l3.length c3) (r := ⟨wd.heap.size, 4, none⟩) (by dsimp only; omega) rfl rfl bp2
            replace bp3 := cell_else (.slice a3 l3.length c3) (r := ⟨wd.heap.size, 4, none⟩) (by dsimp only; omega) rfl rfl bp3
            replace bp4 := cell_else (.slice a3 l3.length c3) (r := ⟨wd.heap.size, 4, none⟩) (by dsimp only; omega) rfl rfl bp4
            replace bp5 := cell_else (.slice a3 l3.length c3) (r := ⟨wd.heap.size, 4, none⟩) (by dsimp only; omega) rfl rfl bp5
            replace bq0 := cell_else (.slice a3 l3.length c3) (r := ⟨wd.heap.size, 4, none⟩) (by dsimp only; omega) rfl rfl bq0
            replace bq1 := cell_else (.slice a3 l3.length c3) (r := ⟨wd.heap.size, 4, none⟩) (by dsimp only; omega) rfl rfl bq1
            replace bq2 := cell_else (.slice a3 l3.length c3) (r := ⟨wd.heap.size, 4, none⟩) (by dsimp only; omega) rfl rfl bq2
            replace bq3 := cell_else (.slice a3 l3.length c3) (r := ⟨wd.heap.size, 4, none⟩) (by dsimp only; omega) rfl rfl bq3
            replace bq4 := cell_else (.slice a3 l3.length c3) (r := ⟨wd.heap.size, 4, none⟩) (by dsimp only; omega) rfl rfl bq4
            replace bq5 := cell_else (.slice a3 l3.length c3) (r := ⟨wd.heap.size, 4, none⟩) (by dsimp only; omega) rfl rfl bq5
            replace R0 := cell_else (.slice a3 l3.length c3) (r := ⟨wd.heap.size, 4, none⟩) (by dsimp only; omega) rfl rfl R0
            replace R1 := cell_else (.slice a3 l3.length c3) (r := ⟨wd.heap.size, 4, none⟩) (by dsimp only; omega) rfl rfl R1
            replace R2 := cell_else (.slice a3 l3.length c3) (r := ⟨wd.heap.size, 4, none⟩) (by dsimp only; omega) rfl rfl R2
            replace R3 := cell_else (.slice a3 l3.length c3) (r := ⟨wd.heap.size, 4, none⟩) (by dsimp only; omega) rfl rfl R3
            replace R4 := cell_else (.slice a3 l3.length c3) (r := ⟨wd.heap.size, 4, none⟩) (by dsimp only; omega) rfl rfl R4
            replace R5 := cell_else (.slice a3 l3.length c3) (r := ⟨wd.heap.size, 4, none⟩) (by dsimp only; omega) rfl rfl R5
            replace Y_0 := cell_else (.slice a3 l3.length c3) (r := ⟨wd.heap.size, 4, none⟩) (by dsimp only; omega) rfl rfl Y_0
            replace Y_1 := cell_else (.slice a3 l3.length c3) (r := ⟨wd.heap.size, 4, none⟩) (by dsimp only; omega) rfl rfl Y_1
            replace Y_2 := cell_else (.slice a3 l3.length c3) (r := ⟨wd.heap.size, 4, none⟩) (by dsimp only; omega) rfl rfl Y_2
            replace Y_3 := cell_else (.slice a3 l3.length c3) (r := ⟨wd.heap.size, 4, none⟩) (by dsimp only; omega) rfl rfl Y_3
            replace Y_5 := cell_else (.slice a3 l3.length c3) (r := ⟨wd.heap.size, 4, none⟩) (by dsimp only; omega) rfl rfl Y_5
            replace X_0 := cell_else (.slice a3 l3.length c3) (r := ⟨wd.heap.size, 4, none⟩) (by dsimp only; omega) rfl rfl X_0
            replace X_1 := cell_else (.slice a3 l3.length c3) (r := ⟨wd.heap.size, 4, none⟩) (by dsimp only; omega) rfl rfl X_1
            replace X_2 := cell_else (.slice a3 l3.length c3) (r := ⟨wd.heap.size, 4, none⟩) (by dsimp only; omega) rfl rfl X_2
            replace X_3 := cell_else (.slice a3 l3.length c3) (r := ⟨wd.heap.size, 4, none⟩) (by dsimp only; omega) rfl rfl X_3
            replace X_4 := cell_else (.slice a3 l3.length c3) (r := ⟨wd.heap.size, 4, none⟩) (by dsimp only; omega) rfl rfl X_4
            replace X_5 := cell_else (.slice a3 l3.length c3) (r := ⟨wd.heap.size, 4, none⟩) (by dsimp only; omega) rfl rfl X_5
            replace Rf0 : (ws19.setCell ⟨wd.heap.size, 4, none⟩ (.slice a3 l3.length c3)).frozen? _ = false := (frozen_set _ _ _ _ _).trans Rf0
            replace Rf1 : (ws19.setCell ⟨wd.heap.size, 4, none⟩ (.slice a3 l3.length c3)).frozen? _ = false := (frozen_set _ _ _ _ _).trans Rf1
            replace Rf2 : (ws19.setCell ⟨wd.heap.size, 4, none⟩ (.slice a3 l3.length c3)).frozen? _ = false := (frozen_set _ _ _ _ _).trans Rf2
            replace Rf3 : (ws19.setCell ⟨wd.heap.size, 4, none⟩ (.slice a3 l3.length c3)).frozen? _ = false := (frozen_set _ _ _ _ _).trans Rf3
            replace Rf4 : (ws19.setCell ⟨wd.heap.size, 4, none⟩ (.slice a3 l3.length c3)).frozen? _ = false := (frozen_set _ _ _ _ _).trans Rf4
            replace Rf5 : (ws19.setCell ⟨wd.heap.size, 4, none⟩ (.slice a3 l3.length c3)).frozen? _ = false := (frozen_set _ _ _ _ _).trans Rf5
            replace Y_f0 : (ws19.setCell ⟨wd.heap.size, 4, none⟩ (.slice a3 l3.length c3)).frozen? _ = false := (frozen_set _ _ _ _ _).trans Y_f0
            replace Y_f1 : (ws19.setCell ⟨wd.heap.size, 4, none⟩ (.slice a3 l3.length c3)).frozen? _ = false := (frozen_set _ _ _ _ _).trans Y_f1
            replace Y_f2 : (ws19.setCell ⟨wd.heap.size, 4, none⟩ (.slice a3 l3.length c3)).frozen? _ = false := (frozen_set _ _ _ _ _).trans Y_f2
            replace Y_f3 : (ws19.setCell ⟨wd.heap.size, 4, none⟩ (.slice a3 l3.length c3)).frozen? _ = false := (frozen_set _ _ _ _ _).trans Y_f3
            replace Y_f4 : (ws19.setCell ⟨wd.heap.size, 4, none⟩ (.slice a3 l3.length c3)).frozen? _ = false := (frozen_set _ _ _ _ _).trans Y_f4
            replace Y_f5 : (ws19.setCell ⟨wd.heap.size, 4, none⟩ (.slice a3 l3.length c3)).frozen? _ = false := (frozen_set _ _ _ _ _).trans Y_f5
            replace X_f0 : (ws19.setCell ⟨wd.heap.size, 4, none⟩ (.slice a3 l3.length c3)).frozen? _ = false := (frozen_set _ _ _ _ _).trans X_f0
            replace X_f1 : (ws19.setCell ⟨wd.heap.size, 4, none⟩ (.slice a3 l3.length c3)).frozen? _ = false := (frozen_set _ _ _ _ _).trans X_f1
            replace X_f2 : (ws19.setCell ⟨wd.heap.size, 4, none⟩ (.slice a3 l3.length c3)).frozen? _ = false := (frozen_set _ _ _ _ _).trans X_f2
            replace X_f3 : (ws19.setCell ⟨wd.heap.size, 4, none⟩ (.slice a3 l3.length c3)).frozen? _ = false := (frozen_set _ _ _ _ _).trans X_f3
            replace X_f4 : (ws19.setCell ⟨wd.heap.size, 4, none⟩ (.slice a3 l3.length c3)).frozen? _ = false := (frozen_set _ _ _ _ _).trans X_f4
            replace X_f5 : (ws19.setCell ⟨wd.heap.size, 4, none⟩ (.slice a3 l3.length c3)).frozen? _ = false := (frozen_set _ _ _ _ _).trans X_f5
            replace Y_4 : (ws19.setCell ⟨wd.heap.size, 4, none⟩ (.slice a3 l3.length c3)).cell? ⟨wd.heap.size, 4, none⟩ = some (.slice a3 l3.length c3) := cell_on _ _ _ _ _ Y_4
            replace kw := kw.setNew (p := ⟨wd.heap.size, 4, none⟩) (by dsimp only; omega) (.slice a3 l3.length c3)
            replace K := hide ((unhide K).setNew (p := ⟨wd.heap.size, 4, none⟩) (by dsimp only; omega) (.slice a3 l3.length c3))
            have zs20 : (ws19.setCell ⟨wd.heap.size, 4, none⟩ (.slice a3 l3.length c3)).heap.size = ws19.heap.size := by simp [World.setCell]
            clear sS0
            generalize ws19.setCell ⟨wd.heap.size, 4, none⟩ (.slice a3 l3.length c3) = ws20 at *
            have sS0 := unhide S0
            replace r1 := r1.set_other (p := ⟨wd.heap.size, 5, none⟩) (by dsimp only; omega) (.int .i64 e3)
            replace r2 := r2.set_other (p := ⟨wd.heap.size, 5, none⟩) (by dsimp only; omega) (.int .i64 e3)
            replace r3 := r3.set_other (p := ⟨wd.heap.size, 5, none⟩) (by dsimp only; omega) (.int .i64 e3)
            replace r4 := r4.set_other (p := ⟨wd.heap.size, 5, none⟩) (by dsimp only; omega) (.int .i64 e3)
            replace bp0 := cell_else (.int .i64 e3) (r := ⟨wd.heap.size, 5, none⟩) (by dsimp only; omega) rfl rfl bp0
            replace bp1 := cell_else (.int .i64 e3) (r := ⟨wd.heap.size, 5, none⟩) (by dsimp only; omega) rfl rfl bp1
            replace bp2 := cell_else (.int .i64 e3) (r := ⟨wd.heap.size, 5, none⟩) (by dsimp only; omega) rfl rfl bp2
            replace bp3 := cell_else (.int .i64 e3) (r := ⟨wd.heap.size, 5, none⟩) (by dsimp only; omega) rfl rfl bp3
            replace bp4 := cell_else (.int .i64 e3) (r := ⟨wd.heap.size, 5, none⟩) (by dsimp only; omega) rfl rfl bp4
            replace bp5 := cell_else (.int .i64 e3) (r := ⟨wd.heap.size, 5, none⟩) (by dsimp only; omega) rfl rfl bp5
            replace bq0 := cell_else (.int .i64 e3) (r := ⟨wd.heap.size, 5, none⟩) (by dsimp only; omega) rfl rfl bq0
            replace bq1 := cell_else (.int .i64 e3) (r := ⟨wd.heap.size, 5, none⟩) (by dsimp only; omega) rfl rfl bq1
            replace bq2 := cell_else (.int .i64 e3) (r := ⟨wd.heap.size, 5, none⟩) (by dsimp only; omega) rfl rfl bq2
            replace bq3 := cell_else (.int .i64 e3) (r := ⟨wd.heap.size, 5, none⟩) (by dsimp only; omega) rfl rfl bq3
            replace bq4 := cell_else (.int .i64 e3) (r := ⟨wd.heap.size, 5, none⟩) (by dsimp only; omega) rfl rfl bq4
            replace bq5 := cell_else (.int .i64 e3) (r := ⟨wd.heap.size, 5, none⟩) (by dsimp only; omega) rfl rfl bq5
            replace R0 := cell_else (.int .i64 e3) (r := ⟨wd.heap.size, 5, none⟩) (by dsimp only; omega) rfl rfl R0
            replace R1 := cell_else (.int .i64 e3) (r := ⟨wd.heap.size, 5, none⟩) (by dsimp only; omega) rfl rfl R1
            replace R2 := cell_else (.int .i64 e3) (r := ⟨wd.heap.size, 5, none⟩) (by dsimp only; omega) rfl rfl R2
            replace R3 := cell_else (.int .i64 e3) (r := ⟨wd.heap.size, 5, none⟩) (by dsimp only; omega) rfl rfl R3
            replace R4 := cell_else (.int .i64 e3) (r := ⟨wd.heap.size, 5, none⟩) (by dsimp only; omega) rfl rfl R4
            replace R5 := cell_else (.int .i64 e3) (r := ⟨wd.heap.size, 5, none⟩) (by dsimp only; omega) rfl rfl R5
            replace Y_0 := cell_else (.int .i64 e3) (r := ⟨wd.heap.size, 5, none⟩) (by dsimp only; omega) rfl rfl Y_0
            replace Y_1 := cell_else (.int .i64 e3) (r := ⟨wd.heap.size, 5, none⟩) (by dsimp only; omega) rfl rfl Y_1
            replace Y_2 := cell_else (.int .i64 e3) (r := ⟨wd.heap.size, 5, none⟩) (by dsimp only; omega) rfl rfl Y_2
            replace Y_3 := cell_else (.int .i64 e3) (r := ⟨wd.heap.size, 5, none⟩) (by dsimp only; omega) rfl rfl Y_3
            replace Y_4 := cell_else (.int .i64 e3) (r := ⟨wd.heap.size, 5, none⟩) (by dsimp only; omega) rfl rfl Y_4
            replace X_0 := cell_else (.int .i64 e3) (r := ⟨wd.heap.size, 5, none⟩) (by dsimp only; omega) rfl rfl X_0
            replace X_1 := cell_else (.int .i64 e3) (r := ⟨wd.heap.size, 5, none⟩) (by dsimp only; omega) rfl rfl X_1
            replace X_2 := cell_else (.int .i64 e3) (r := ⟨wd.heap.size, 5, none⟩) (by dsimp only; omega) rfl rfl X_2
            replace X_3 := cell_else (.int .i64 e3) (r := ⟨wd.heap.size, 5, none⟩) (by dsimp only; omega) rfl rfl X_3
            replace X_4 := cell_else (.int .i64 e3) (r := ⟨wd.heap.size, 5, none⟩) (by dsimp only; omega) rfl rfl X_4
            replace X_5 := cell_else (.int .i64 e3) (r := ⟨wd.heap.size, 5, none⟩) (by dsimp only; omega) rfl rfl X_5
            replace Rf0 : (ws20.setCell ⟨wd.heap.size, 5, none⟩ (.int .i64 e3)).frozen? _ = false := (frozen_set _ _ _ _ _).trans Rf0
            replace Rf1 : (ws20.setCell ⟨wd.heap.size, 5, none⟩ (.int .i64 e3)).frozen? _ = false := (frozen_set _ _ _ _ _).trans Rf1
            replace Rf2 : (ws20.setCell ⟨wd.heap.size, 5, none⟩ (.int .i64 e3)).frozen? _ = false := (frozen_set _ _ _ _ _).trans Rf2
            replace Rf3 : (ws20.setCell ⟨wd.heap.size, 5, none⟩ (.int .i64 e3)).frozen? _ = false := (frozen_set _ _ _ _ _).trans Rf3
            replace Rf4 : (ws20.setCell ⟨wd.heap.size, 5, none⟩ (.int .i64 e3)).frozen? _ = false := (frozen_set _ _ _ _ _).trans Rf4
            replace Rf5 : (ws20.setCell ⟨wd.heap.size, 5, none⟩ (.int .i64 e3)).frozen? _ = false := (frozen_set _ _ _ _ _).trans Rf5
            replace Y_f0 : (ws20.setCell ⟨wd.heap.size, 5, none⟩ (.int .i64 e3)).frozen? _ = false := (frozen_set _ _ _ _ _).trans Y_f0
            replace Y_f1 : (ws20.setCell ⟨wd.heap.size, 5, none⟩ (.int .i64 e3)).frozen? _ = false := (frozen_set _ _ _ _ _).trans Y_f1
            replace Y_f2 : (ws20.setCell ⟨wd.heap.size, 5, none⟩ (.int .i64 e3)).frozen? _ = false := (frozen_set _ _ _ _ _).trans Y_f2
            replace Y_f3 : (ws20.setCell ⟨wd.heap.size, 5, none⟩ (.int .i64 e3)).frozen? _ = false := (frozen_set _ _ _ _ _).trans Y_f3
            replace Y_f4 : (ws20.setCell ⟨wd.heap.size, 5, none⟩ (.int .i64 e3)).frozen? _ = false := (frozen_set _ _ _ _ _).trans Y_f4
            replace Y_f5 : (ws20.setCell ⟨wd.heap.size, 5, none⟩ (.int .i64 e3)).frozen? _ = false := (frozen_set _ _ _ _ _).trans Y_f5
            replace X_f0 : (ws20.setCell ⟨wd.heap.size, 5, none⟩ (.int .i64 e3)).frozen? _ = false := (frozen_set _ _ _ _ _).trans X_f0
            replace X_f1 : (ws20.setCell ⟨wd.heap.size, 5, none⟩ (.int .i64 e3)).frozen? _ = false := (frozen_set _ _ _ _ _).trans X_f1
            replace X_f2 : (ws20.setCell ⟨wd.heap.size, 5, none⟩ (.int .i64 e3)).frozen? _ = false := (frozen_set _ _ _ _ _).trans X_f2
            replace X_f3 : (ws20.setCell ⟨wd.heap.size, 5, none⟩ (.int .i64 e3)).frozen? _ = false := (frozen_set _ _ _ _ _).trans X_f3
            replace X_f4 : (ws20.setCell ⟨wd.heap.size, 5, none⟩ (.int .i64 e3)).frozen? _ = false := (frozen_set _ _ _ _ _).trans X_f4
            replace X_f5 : (ws20.setCell ⟨wd.heap.size, 5, none⟩ (.int .i64 e3)).frozen? _ = false := (frozen_set _ _ _ _ _).trans X_f5
            replace Y_5 : (ws20.setCell ⟨wd.heap.size, 5, none⟩ (.int .i64 e3)).cell? ⟨wd.heap.size, 5, none⟩ = some (.int .i64 e3) := cell_on _ _ _ _ _ Y_5
            replace kw := kw.setNew (p := ⟨wd.heap.size, 5, none⟩) (by dsimp only; omega) (.int .i64 e3)
            replace K := hide ((unhide K).setNew (p := ⟨wd.heap.size, 5, none⟩) (by dsimp only; omega) (.int .i64 e3))
            have zs21 : (ws20.setCell ⟨wd.heap.size, 5, none⟩ (.int .i64 e3)).heap.size = ws20.heap.size := by simp [World.setCell]
            clear sS0
            generalize ws20.setCell ⟨wd.heap.size, 5, none⟩ (.int .i64 e3) = ws21 at *
            refine wpAnyH_done (by kernel_rfl) ?_ _
            clear hHeld
            go_wp2_with fail
            go_meet
            exact ⟨_, _, rfl, rfl, X_0, X_1, X_2, X_3, X_4, X_5, Y_0, Y_1, Y_2, Y_3, Y_4, Y_5, kw⟩
  case rest =>
    obtain ⟨X, Y, rfl, rfl, X_0, X_1, X_2, X_3, X_4, X_5, Y_0, Y_1, Y_2, Y_3, Y_4, Y_5, kk⟩ := hcut
    replace r1 := r1.kept kk (.inr (.inr (Nat.le_refl 0)))
    replace r2 := r2.kept kk (.inr (.inr (Nat.le_refl 0)))
    replace r3 := r3.kept kk (.inr (.inr (Nat.le_refl 0)))
    replace r4 := r4.kept kk (.inr (.inr (Nat.le_refl 0)))
    replace Rf0 := kk.loose0 (World.block_lt_of_cell? _ _ R0) Rf0
    replace Rf1 := kk.loose0 (World.block_lt_of_cell? _ _ R1) Rf1
    replace Rf2 := kk.loose0 (World.block_lt_of_cell? _ _ R2) Rf2
    replace Rf3 := kk.loose0 (World.block_lt_of_cell? _ _ R3) Rf3
    replace Rf4 := kk.loose0 (World.block_lt_of_cell? _ _ R4) Rf4
    replace Rf5 := kk.loose0 (World.block_lt_of_cell? _ _ R5) Rf5
    replace bp0 := kk.cell0 bp0
    replace bp1 := kk.cell0 bp1
    replace bp2 := kk.cell0 bp2
    replace bp3 := kk.cell0 bp3
    replace bp4 := kk.cell0 bp4
    replace bp5 := kk.cell0 bp5
    replace bq0 := kk.cell0 bq0
    replace bq1 := kk.cell0 bq1
    replace bq2 := kk.cell0 bq2
    replace bq3 := kk.cell0 bq3
    replace bq4 := kk.cell0 bq4
    replace bq5 := kk.cell0 bq5
    replace R0 := kk.cell0 R0
    replace R1 := kk.cell0 R1
    replace R2 := kk.cell0 R2
    replace R3 := kk.cell0 R3
    replace R4 := kk.cell0 R4
    replace R5 := kk.cell0 R5
    replace K := hide ((unhide K).trans kk)
    have z5 := kk.size
    clear kk
    generalize hwc : wc = we6 at *
    clear hwc
    go_wp2_with fail
    have mk := (bothEnds_P s1 s2 s4 s3 e1 e2 e4 e3 41 in_ivsub1 we6 (fun w1 kk => ivsub1_impl s1 e1 hu1 hd1 s4 e4 hu4 hd4 w1 (r1.kept kk (by omega)) (r4.kept kk (by omega)) ((T.kept (unhide K)).kept kk) 3) (fun w1 kk => ivsub1_impl s2 e2 hu2 hd2 s3 e3 hu3 hd3 w1 (r2.kept kk (by omega)) (r3.kept kk (by omega)) ((T.kept (unhide K)).kept kk) 2)).mono (fun e w' h => ivAns_ans (unhide HC) (show (dokB s1 l1 e1 && dokB s4 l4 e4) = true by rw [unhide I1, unhide I4]; rfl) (show (dokB s2 l2 e2 && dokB s3 l3 e3) = true by rw [unhide I2, unhide I3]; rfl) h)
    rw [unhide HCC, unhide HW1, unhide HD1, unhide HQ1, unhide HW2, unhide HD2, unhide HQ2] at mk
    refine (mk).mono ?_
    rintro e w7 h5
    skip
    obtain ⟨q1, y1, M1, q2, y2, M2, vL, vM, mid, rfl, rL, rM, hm1, hm2, k5, hq⟩ := ivAns_open h5
    have HQ := hide hq
    clear hq h5
    replace r1 := r1.kept k5 (.inr (.inr (Nat.le_refl 0)))
    replace r2 := r2.kept k5 (.inr (.inr (Nat.le_refl 0)))
    replace r3 := r3.kept k5 (.inr (.inr (Nat.le_refl 0)))
    replace r4 := r4.kept k5 (.inr (.inr (Nat.le_refl 0)))
    replace Rf0 := k5.loose0 (World.block_lt_of_cell? _ _ R0) Rf0
    replace Rf1 := k5.loose0 (World.block_lt_of_cell? _ _ R1) Rf1
    replace Rf2 := k5.loose0 (World.block_lt_of_cell? _ _ R2) Rf2
    replace Rf3 := k5.loose0 (World.block_lt_of_cell? _ _ R3) Rf3
    replace Rf4 := k5.loose0 (World.block_lt_of_cell? _ _ R4) Rf4
    replace Rf5 := k5.loose0 (World.block_lt_of_cell? _ _ R5) Rf5
    replace bp0 := k5.cell0 bp0
    replace bp1 := k5.cell0 bp1
    replace bp2 := k5.cell0 bp2
    replace bp3 := k5.cell0 bp3
    replace bp4 := k5.cell0 bp4
    replace bp5 := k5.cell0 bp5
    replace bq0 := k5.cell0 bq0
    replace bq1 := k5.cell0 bq1
    replace bq2 := k5.cell0 bq2
    replace bq3 := k5.cell0 bq3
    replace bq4 := k5.cell0 bq4
    replace bq5 := k5.cell0 bq5
    replace R0 := k5.cell0 R0
    replace R1 := k5.cell0 R1
    replace R2 := k5.cell0 R2
    replace R3 := k5.cell0 R3
    replace R4 := k5.cell0 R4
    replace R5 := k5.cell0 R5
    replace X_0 := k5.cell0 X_0
    replace X_1 := k5.cell0 X_1
    replace X_2 := k5.cell0 X_2
    replace X_3 := k5.cell0 X_3
    replace X_4 := k5.cell0 X_4
    replace X_5 := k5.cell0 X_5
    replace Y_0 := k5.cell0 Y_0
    replace Y_1 := k5.cell0 Y_1
    replace Y_2 := k5.cell0 Y_2
    replace Y_3 := k5.cell0 Y_3
    replace Y_4 := k5.cell0 Y_4
    replace Y_5 := k5.cell0 Y_5
    replace K := hide ((unhide K).trans k5)
    have z8 := k5.size
    clear k5
    obtain ⟨aL, dL, hv⟩ := Row.form' rL
    subst hv
    obtain ⟨aM, dM, hv⟩ := Row.form' rM
    subst hv
    have RL := hide ((((((rL.set_other (p := ⟨w.heap.size + 2, 0, none⟩) (.inl (by have := unhide S0; dsimp only; omega)) (.bool q1)).set_other (p := ⟨w.heap.size + 2, 1, none⟩) (.inl (by have := unhide S0; dsimp only; omega)) (.slice aL M1.length dL)).set_other (p := ⟨w.heap.size + 2, 2, none⟩) (.inl (by have := unhide S0; dsimp only; omega)) (.int .i64 y1)).set_other (p := ⟨w.heap.size + 2, 3, none⟩) (.inl (by have := unhide S0; dsimp only; omega)) (.bool q2)).set_other (p := ⟨w.heap.size + 2, 4, none⟩) (.inl (by have := unhide S0; dsimp only; omega)) (.slice aM M2.length dM)).set_other (p := ⟨w.heap.size + 2, 5, none⟩) (.inl (by have := unhide S0; dsimp only; omega)) (.int .i64 y2))
    have RM := hide ((((((rM.set_other (p := ⟨w.heap.size + 2, 0, none⟩) (.inl (by have := unhide S0; dsimp only; omega)) (.bool q1)).set_other (p := ⟨w.heap.size + 2, 1, none⟩) (.inl (by have := unhide S0; dsimp only; omega)) (.slice aL M1.length dL)).set_other (p := ⟨w.heap.size + 2, 2, none⟩) (.inl (by have := unhide S0; dsimp only; omega)) (.int .i64 y1)).set_other (p := ⟨w.heap.size + 2, 3, none⟩) (.inl (by have := unhide S0; dsimp only; omega)) (.bool q2)).set_other (p := ⟨w.heap.size + 2, 4, none⟩) (.inl (by have := unhide S0; dsimp only; omega)) (.slice aM M2.length dM)).set_other (p := ⟨w.heap.size + 2, 5, none⟩) (.inl (by have := unhide S0; dsimp only; omega)) (.int .i64 y2))
    have K7 := hide (((((((unhide K).setNew (p := ⟨w.heap.size + 2, 0, none⟩) (by simp) (.bool q1)).setNew (p := ⟨w.heap.size + 2, 1, none⟩) (by simp) (.slice aL M1.length dL)).setNew (p := ⟨w.heap.size + 2, 2, none⟩) (by simp) (.int .i64 y1)).setNew (p := ⟨w.heap.size + 2, 3, none⟩) (by simp) (.bool q2)).setNew (p := ⟨w.heap.size + 2, 4, none⟩) (by simp) (.slice aM M2.length dM)).setNew (p := ⟨w.heap.size + 2, 5, none⟩) (by simp) (.int .i64 y2))
    clear r1 r2 r3 r4 rL rM K
    go_wp2_with fail
    have sS0 := unhide S0
    exact bodyPost_ret (v := .tuple #[.agg #[.bool q1, .slice aL M1.length dL, .int .i64 y1, .bool q2, .slice aM M2.length dM, .int .i64 y2], .bool CC]) (by simp [results, Tryd.results21, go_sem, R0, R1, R2, R3, R4, R5]) rfl (ivAns_shut (unhide HQ) ((unhide RL).wider (by omega) (Nat.le_refl _)) (unhide RM).tight (by omega) (by simp only [size_set]; omega) (unhide K7))

set_option maxHeartbeats 2000000 in
theorem ivwide_impl {b1 b2 : Bool} {w1l w1h w2l w2h : Nat} {v1 v2 : Value} {l1 l2 : List Int} (s1 : Bool) (e1 : Int) (hu1 : e1 ≤ 9223372036854775807) (hd1 : -9223372036854775808 ≤ e1) (s2 : Bool) (e2 : Int) (hu2 : e2 ≤ 9223372036854775807) (hd2 : -9223372036854775808 ≤ e2) (w : World) (r1 : Row .i64 b1 w1l w1h w v1 l1) (r2 : Row .i64 b2 w2l w2h w v2 l2) (T : TabB w) :
    Calls Tryd.prog 23 #[.agg #[.bool s1, v1, .int .i64 e1, .bool s2, v2, .int .i64 e2]] w fun e w' => ∃ v', e = .returned (.tuple #[.agg #[.bool (ansDS (iokB s1 l1 e1 s2 l2 e2) (wval s2 l2 * 2 ^ (e2 - min e2 e1).toNat - wval s1 l1 * 2 ^ (e1 - min e2 e1).toNat) (min e2 e1)), v', .int .i64 (ansDE (iokB s1 l1 e1 s2 l2 e2) (wval s2 l2 * 2 ^ (e2 - min e2 e1).toNat - wval s1 l1 * 2 ^ (e1 - min e2 e1).toNat) (min e2 e1))], .bool (ansDB (iokB s1 l1 e1 s2 l2 e2) (wval s2 l2 * 2 ^ (e2 - min e2 e1).toNat - wval s1 l1 * 2 ^ (e1 - min e2 e1).toNat) (min e2 e1))]) ∧ Row .i64 true w.heap.size w'.heap.size w' v' (ansDL (iokB s1 l1 e1 s2 l2 e2) (wval s2 l2 * 2 ^ (e2 - min e2 e1).toNat - wval s1 l1 * 2 ^ (e1 - min e2 e1).toNat) (min e2 e1)) ∧ Kept 0 0 w w' := by
  obtain ⟨GS, hGS⟩ : ∃ y, ansDS (iokB s1 l1 e1 s2 l2 e2) (wval s2 l2 * 2 ^ (e2 - min e2 e1).toNat - wval s1 l1 * 2 ^ (e1 - min e2 e1).toNat) (min e2 e1) = y := ⟨_, rfl⟩
  obtain ⟨GL, hGL⟩ : ∃ y, ansDL (iokB s1 l1 e1 s2 l2 e2) (wval s2 l2 * 2 ^ (e2 - min e2 e1).toNat - wval s1 l1 * 2 ^ (e1 - min e2 e1).toNat) (min e2 e1) = y := ⟨_, rfl⟩
  obtain ⟨GE, hGE⟩ : ∃ y, ansDE (iokB s1 l1 e1 s2 l2 e2) (wval s2 l2 * 2 ^ (e2 - min e2 e1).toNat - wval s1 l1 * 2 ^ (e1 - min e2 e1).toNat) (min e2 e1) = y := ⟨_, rfl⟩
  obtain ⟨GB, hGB⟩ : ∃ y, ansDB (iokB s1 l1 e1 s2 l2 e2) (wval s2 l2 * 2 ^ (e2 - min e2 e1).toNat - wval s1 l1 * 2 ^ (e1 - min e2 e1).toNat) (min e2 e1) = y := ⟨_, rfl⟩
  try rw [hGS]
  try rw [hGL]
  try rw [hGE]
  try rw [hGB]
  have HGS := hide hGS
  have HGL := hide hGL
  have HGE := hide hGE
  have HGB := hide hGB
  clear hGS hGL hGE hGB
  have k0 : Kept 0 0 w ((w.alloc (.cells #[.bool s1, v1, .int .i64 e1, .bool s2, v2, .int .i64 e2] 36)).alloc (.cells #[.bool false, .slice none 0 0, .int .i64 0] 34)) := (((Kept.refl 0 0 w).alloc (.cells #[.bool s1, v1, .int .i64 e1, .bool s2, v2, .int .i64 e2] 36)).alloc (.cells #[.bool false, .slice none 0 0, .int .i64 0] 34))
  have bp0 : ((w.alloc (.cells #[.bool s1, v1, .int .i64 e1, .bool s2, v2, .int .i64 e2] 36)).alloc (.cells #[.bool false, .slice none 0 0, .int .i64 0] 34)).cell? ⟨w.heap.size, 0, none⟩ = some (.bool s1) := old_cell _ (new_cell2 _ _ _ _ _ _ (by simp) rfl)
  have bp1 : ((w.alloc (.cells #[.bool s1, v1, .int .i64 e1, .bool s2, v2, .int .i64 e2] 36)).alloc (.cells #[.bool false, .slice none 0 0, .int .i64 0] 34)).cell? ⟨w.heap.size, 1, none⟩ = some (v1) := old_cell _ (new_cell2 _ _ _ _ _ _ (by simp) rfl)
  have bp2 : ((w.alloc (.cells #[.bool s1, v1, .int .i64 e1, .bool s2, v2, .int .i64 e2] 36)).alloc (.cells #[.bool false, .slice none 0 0, .int .i64 0] 34)).cell? ⟨w.heap.size, 2, none⟩ = some (.int .i64 e1) := old_cell _ (new_cell2 _ _ _ _ _ _ (by simp) rfl)
  have bp3 : ((w.alloc (.cells #[.bool s1, v1, .int .i64 e1, .bool s2, v2, .int .i64 e2] 36)).alloc (.cells #[.bool false, .slice none 0 0, .int .i64 0] 34)).cell? ⟨w.heap.size, 3, none⟩ = some (.bool s2) := old_cell _ (new_cell2 _ _ _ _ _ _ (by simp) rfl)
  have bp4 : ((w.alloc (.cells #[.bool s1, v1, .int .i64 e1, .bool s2, v2, .int .i64 e2] 36)).alloc (.cells #[.bool false, .slice none 0 0, .int .i64 0] 34)).cell? ⟨w.heap.size, 4, none⟩ = some (v2) := old_cell _ (new_cell2 _ _ _ _ _ _ (by simp) rfl)
  have bp5 : ((w.alloc (.cells #[.bool s1, v1, .int .i64 e1, .bool s2, v2, .int .i64 e2] 36)).alloc (.cells #[.bool false, .slice none 0 0, .int .i64 0] 34)).cell? ⟨w.heap.size, 5, none⟩ = some (.int .i64 e2) := old_cell _ (new_cell2 _ _ _ _ _ _ (by simp) rfl)
  have q0 : ((w.alloc (.cells #[.bool s1, v1, .int .i64 e1, .bool s2, v2, .int .i64 e2] 36)).alloc (.cells #[.bool false, .slice none 0 0, .int .i64 0] 34)).cell? ⟨w.heap.size + 1, 0, none⟩ = some (.bool false) := new_cell2 _ _ _ _ _ _ (by simp) rfl
  have qf0 : ((w.alloc (.cells #[.bool s1, v1, .int .i64 e1, .bool s2, v2, .int .i64 e2] 36)).alloc (.cells #[.bool false, .slice none 0 0, .int .i64 0] 34)).frozen? ⟨w.heap.size + 1, 0, none⟩ = false := new_loose2 _ _ _ _ _ (by simp)
  have q1 : ((w.alloc (.cells #[.bool s1, v1, .int .i64 e1, .bool s2, v2, .int .i64 e2] 36)).alloc (.cells #[.bool false, .slice none 0 0, .int .i64 0] 34)).cell? ⟨w.heap.size + 1, 1, none⟩ = some (.slice none 0 0) := new_cell2 _ _ _ _ _ _ (by simp) rfl
  have qf1 : ((w.alloc (.cells #[.bool s1, v1, .int .i64 e1, .bool s2, v2, .int .i64 e2] 36)).alloc (.cells #[.bool false, .slice none 0 0, .int .i64 0] 34)).frozen? ⟨w.heap.size + 1, 1, none⟩ = false := new_loose2 _ _ _ _ _ (by simp)
  have q2 : ((w.alloc (.cells #[.bool s1, v1, .int .i64 e1, .bool s2, v2, .int .i64 e2] 36)).alloc (.cells #[.bool false, .slice none 0 0, .int .i64 0] 34)).cell? ⟨w.heap.size + 1, 2, none⟩ = some (.int .i64 0) := new_cell2 _ _ _ _ _ _ (by simp) rfl
  have qf2 : ((w.alloc (.cells #[.bool s1, v1, .int .i64 e1, .bool s2, v2, .int .i64 e2] 36)).alloc (.cells #[.bool false, .slice none 0 0, .int .i64 0] 34)).frozen? ⟨w.heap.size + 1, 2, none⟩ = false := new_loose2 _ _ _ _ _ (by simp)
  replace r1 := r1.kept k0 (by omega)
  replace r2 := r2.kept k0 (by omega)
  have s0 : ((w.alloc (.cells #[.bool s1, v1, .int .i64 e1, .bool s2, v2, .int .i64 e2] 36)).alloc (.cells #[.bool false, .slice none 0 0, .int .i64 0] 34)).heap.size = w.heap.size + 2 := by simp
  obtain ⟨a1, c1, hv⟩ := Row.form' r1
  subst hv
  obtain ⟨a2, c2, hv⟩ := Row.form' r2
  subst hv
  have K := hide (k0)
  clear k0
  have S0 := hide s0
  clear s0
  go_enter Tryd.func23, Tryd.ntmps23
  go_wp2_with fail
  generalize ((w.alloc (.cells #[.bool s1, .slice a1 l1.length c1, .int .i64 e1, .bool s2, .slice a2 l2.length c2, .int .i64 e2] 36)).alloc (.cells #[.bool false, .slice none 0 0, .int .i64 0] 34)) = W at *
  refine (ivok_impl s1 e1 hu1 hd1 s2 e2 hu2 hd2 _ r1 r2).mono ?_
  rintro e w1 ⟨rfl, k1⟩
  replace r1 := r1.kept k1 (.inr (.inr (Nat.le_refl 0)))
  replace r2 := r2.kept k1 (.inr (.inr (Nat.le_refl 0)))
  replace qf0 := k1.loose0 (World.block_lt_of_cell? _ _ q0) qf0
  replace qf1 := k1.loose0 (World.block_lt_of_cell? _ _ q1) qf1
  replace qf2 := k1.loose0 (World.block_lt_of_cell? _ _ q2) qf2
  replace bp0 := k1.cell0 bp0
  replace bp1 := k1.cell0 bp1
  replace bp2 := k1.cell0 bp2
  replace bp3 := k1.cell0 bp3
  replace bp4 := k1.cell0 bp4
  replace bp5 := k1.cell0 bp5
  replace q0 := k1.cell0 q0
  replace q1 := k1.cell0 q1
  replace q2 := k1.cell0 q2
  replace K := hide ((unhide K).trans k1)
  have z2 := k1.size
  clear k1
  cases ho : iokB s1 l1 e1 s2 l2 e2
  · have HO := hide ho
    clear ho
    have HF : Hid (GS = false ∧ GL = [] ∧ GE = 0 ∧ GB = false) := by
      have hno : GB = false := by rw [← unhide HGB]; exact ansDB_no (unhide HO)
      have hno' := hno
      rw [← unhide HGB] at hno'
      obtain ⟨b1, b2, b3⟩ := ansD_no hno'
      exact ⟨by rw [← unhide HGS, b1], by rw [← unhide HGL, b2], by rw [← unhide HGE, b3], hno⟩
    have KF := hide ((((unhide K).setNew (p := ⟨w.heap.size + 1, 0, none⟩) (by simp) (.bool false)).setNew (p := ⟨w.heap.size + 1, 1, none⟩) (by simp) (.slice none 0 0)).setNew (p := ⟨w.heap.size + 1, 2, none⟩) (by simp) (.int .i64 0))
    clear r1 r2 K
    go_wp2_with fail
    exact bodyPost_ret (v := .tuple #[.agg #[.bool false, .slice none 0 0, .int .i64 0], .bool false]) (by simp [results, Tryd.results23, go_sem, q0, q1, q2]) rfl ⟨_, by rw [(unhide HF).1, (unhide HF).2.2.1, (unhide HF).2.2.2], by rw [(unhide HF).2.1]; exact Row.nil _ _ _ _ _, unhide KF⟩
  obtain ⟨i1, i2, -⟩ := iok_parts ho
  have HC : Hid ((dokB s2 l2 e2 && dokB s1 l1 e1) = (iokB s1 l1 e1 s2 l2 e2)) := by show _ = _; rw [i1, i2, ho]; rfl
  clear ho i1 i2
  go_wp2_with fail
  have mk := dsub_impl s2 s1 e2 e1 hu2 hd2 hu1 hd1 w1 r2 r1 (T.kept (unhide K))
  rw [unhide HC, unhide HGS, unhide HGL, unhide HGE, unhide HGB] at mk
  refine (mk).mono ?_
  rintro e w3 ⟨v7, rfl, r7, k3⟩
  replace r1 := r1.kept k3 (.inr (.inr (Nat.le_refl 0)))
  replace r2 := r2.kept k3 (.inr (.inr (Nat.le_refl 0)))
  replace qf0 := k3.loose0 (World.block_lt_of_cell? _ _ q0) qf0
  replace qf1 := k3.loose0 (World.block_lt_of_cell? _ _ q1) qf1
  replace qf2 := k3.loose0 (World.block_lt_of_cell? _ _ q2) qf2
  replace bp0 := k3.cell0 bp0
  replace bp1 := k3.cell0 bp1
  replace bp2 := k3.cell0 bp2
  replace bp3 := k3.cell0 bp3
  replace bp4 := k3.cell0 bp4
  replace bp5 := k3.cell0 bp5
  replace q0 := k3.cell0 q0
  replace q1 := k3.cell0 q1
  replace q2 := k3.cell0 q2
  replace K := hide ((unhide K).trans k3)
  have z4 := k3.size
  clear k3
  clear mk
  obtain ⟨a7, c7, hv⟩ := Row.form' r7
  subst hv
  have R := hide ((((r7.set_other (p := ⟨w.heap.size + 1, 0, none⟩) (.inl (by have := unhide S0; dsimp only; omega)) (.bool GS)).set_other (p := ⟨w.heap.size + 1, 1, none⟩) (.inl (by have := unhide S0; dsimp only; omega)) (.slice a7 GL.length c7)).set_other (p := ⟨w.heap.size + 1, 2, none⟩) (.inl (by have := unhide S0; dsimp only; omega)) (.int .i64 GE)).tight.wider (lo' := w.heap.size) (by have := unhide S0; omega) (Nat.le_refl _))
  have K7 := hide ((((unhide K).setNew (p := ⟨w.heap.size + 1, 0, none⟩) (by simp) (.bool GS)).setNew (p := ⟨w.heap.size + 1, 1, none⟩) (by simp) (.slice a7 GL.length c7)).setNew (p := ⟨w.heap.size + 1, 2, none⟩) (by simp) (.int .i64 GE))
  clear r1 r2 r7 K 
  go_wp2_with fail
  exact bodyPost_ret (v := .tuple #[.agg #[.bool GS, .slice a7 GL.length c7, .int .i64 GE], .bool GB]) (by simp [results, Tryd.results23, go_sem, q0, q1, q2]) rfl ⟨_, rfl, unhide R, unhide K7⟩

end Go.Proofs.YtbihbloknmjfjaaDoor
