/-
  MatScale of the model: what l8scale makes, told where every number may be.
-/
import Derived.Test.YtagaofpkfpfilaaDoorMs3
namespace Go.Proofs.YtagaofpkfpfilaaDoor
open Go.RowKit
set_option linter.unusedVariables false
set_option maxRecDepth 8000
set_option linter.unusedSimpArgs false

theorem wn_dlm8 (m : Int) : WN (wsg m) (dlm m) := ⟨limbs_nrm _, fun h => by
  by_cases h0 : m = 0
  · subst h0; cases h
  · exact (dlm_pos h0).1⟩
theorem dlm_len8 {m : Int} {A n : Nat} (h : m.natAbs < 2 ^ A) (hn : A ≤ 16 * n) : (dlm m).length ≤ n := by
  have h1 := wlm_len h hn
  have h2 : m.natAbs / 2 ^ tz m.natAbs ≤ m.natAbs := Nat.div_le_self _ _
  refine (limbs_length_le _ _).2 ?_
  have h3 := (limbs_length_le m.natAbs n).1 h1
  omega
theorem pE_facts {d a : DE} (h1 : dokB a.1 a.2.1 a.2.2 = true) (h2 : dokB d.1 d.2.1 d.2.2 = true) :
    ((pE d a).2.2 ≤ 9223372036854775807 ∧ -9223372036854775808 ≤ (pE d a).2.2) ∧ WN (pE d a).1 (pE d a).2.1 ∧ (pE d a).2.1.length ≤ 1000000 ∧ mB d a = dOkE (pE d a) ∧ (mB d a = true → mE d a = pE d a) := by
  obtain ⟨w1', f1, f2, -, -⟩ := dok_parts h1
  obtain ⟨w2', f3, f4, -, -⟩ := dok_parts h2
  obtain ⟨-, -, lx, hx⟩ := wok_int w1'
  obtain ⟨-, -, ly, hy⟩ := wok_int w2'
  have hm : (wval a.1 a.2.1 * wval d.1 d.2.1).natAbs < 2 ^ (16 * a.2.1.length + 16 * d.2.1.length) := mul_lt (wval_lt hx.1) (wval_lt hy.1)
  have hB : mB d a = dOkE (pE d a) := by unfold mB ansDB; rw [h1, h2]; rfl
  refine ⟨dex_range _ _ (by omega) (by omega) hm (by omega), wn_dlm8 _, dlm_len8 hm (by omega), hB, fun hb => ?_⟩
  obtain ⟨y1, y2, y3⟩ := ansD_yes hb
  unfold mE pE
  rw [y1, y2, y3]

theorem scl_fit {n : Int} {ds : List DE} {d : DE} (h1 : mokB n ds = true) (h2 : dokB d.1 d.2.1 d.2.2 = true) :
    sclB n ds d = mokB n ((List.range ds.length).map fun i => pE d (ds.getD i de0)) ∧ (sclB n ds d = true → sclL n ds d = (List.range ds.length).map fun i => pE d (ds.getD i de0)) := by
  obtain ⟨t1, t2, t3⟩ := scl_tel h1 h2
  obtain ⟨u1, u2, u3, U⟩ := mok_partsA h1
  have hB : allB (fun i => mB d (ds.getD i de0)) ds.length = ((List.range ds.length).map fun i => pE d (ds.getD i de0)).all dOkE := by
    unfold allB
    rw [List.all_map]
    apply Bool.eq_iff_iff.2
    rw [List.all_eq_true, List.all_eq_true]
    constructor
    · intro h i hi
      have := h i hi
      rw [(pE_facts (U i (List.mem_range.1 hi)) h2).2.2.2.1] at this
      exact this
    · intro h i hi
      have := h i hi
      rw [(pE_facts (U i (List.mem_range.1 hi)) h2).2.2.2.1]
      exact this
  refine ⟨?_, fun hb => ?_⟩
  · rw [t1, hB]
    unfold mokB
    rw [decide_eq_true u1, decide_eq_true u2, List.length_map, List.length_range, decide_eq_true u3]
    simp
  · unfold sclL
    rw [if_pos hb]
    rw [t1] at hb
    unfold allB at hb
    rw [List.all_eq_true] at hb
    apply List.map_congr_left
    intro i hi
    exact (pE_facts (U i (List.mem_range.1 hi)) h2).2.2.2.2 (hb i hi)

def fitB (m : Int) (ds : List DE) : Bool := mokB m ds
def fitN (m : Int) (ds : List DE) : Int := if mokB m ds = true then m else 0
def fitL (m : Int) (ds : List DE) : List DE := if mokB m ds = true then ds else []
theorem fit_yes {m : Int} {ds : List DE} (h : mokB m ds = true) : fitB m ds = true ∧ fitN m ds = m ∧ fitL m ds = ds := by
  unfold fitB fitN fitL; rw [if_pos h, if_pos h]; exact ⟨h, rfl, rfl⟩
theorem fit_no {m : Int} {ds : List DE} (h : mokB m ds = false) : fitB m ds = false ∧ fitN m ds = 0 ∧ fitL m ds = [] := by
  unfold fitB fitN fitL; rw [if_neg (by rw [h]; simp), if_neg (by rw [h]; simp)]; exact ⟨h, rfl, rfl⟩

set_option maxHeartbeats 4000000 in
theorem fits8_spec {lo hi : Nat} {v : Value} {ds : List DE} (m : Int) (w : World) (hn : ds.length ≤ 100) (hw : WfD ds) (hwn : AllWN ds) (r : Dys lo hi w v ds) :
    Calls Tryd.prog 49 #[.agg #[.int .i64 m, v]] w fun e w' => ∃ v', e = .returned (.tuple #[.agg #[.int .i64 (fitN m ds), v'], .bool (fitB m ds)]) ∧ DysO w.heap.size w'.heap.size w' v' (fitL m ds) ∧ Kept 0 0 w w' := by
  obtain ⟨W, hW⟩ : ∃ W, W = (w.alloc (.cells #[.int .i64 m, v] 37)).alloc (.cells #[.int .i64 0, .slice none 0 0] 37) := ⟨_, rfl⟩
  have k0 : Kept 0 0 w W := by rw [hW]; exact ((Kept.refl 0 0 w).alloc _).alloc _
  have c0 : W.cell? ⟨w.heap.size, 0, none⟩ = some (.int .i64 m) := by rw [hW]; exact old_cell _ (new_cell2 _ _ _ _ _ _ (by simp) rfl)
  have c1 : W.cell? ⟨w.heap.size, 1, none⟩ = some v := by rw [hW]; exact old_cell _ (new_cell2 _ _ _ _ _ _ (by simp) rfl)
  have q0 : W.cell? ⟨w.heap.size + 1, 0, none⟩ = some (.int .i64 0) := by rw [hW]; exact new_cell2 _ _ _ _ _ _ (by simp) rfl
  have q1 : W.cell? ⟨w.heap.size + 1, 1, none⟩ = some (.slice none 0 0) := by rw [hW]; exact new_cell2 _ _ _ _ _ _ (by simp) rfl
  have f0 : W.frozen? ⟨w.heap.size + 1, 0, none⟩ = false := by rw [hW]; exact new_loose2 _ _ _ _ _ (by simp)
  have f1 : W.frozen? ⟨w.heap.size + 1, 1, none⟩ = false := by rw [hW]; exact new_loose2 _ _ _ _ _ (by simp)
  have sW : W.heap.size = w.heap.size + 2 := by rw [hW]; simp
  have r0 := r.kept k0 (by omega)
  have ho := matOk_spec m W hw r0
  obtain ⟨a, c, rfl, -, -⟩ := r.form
  rw [hW] at ho
  clear r
  go_enter Tryd.func49, Tryd.ntmps49
  go_wp2_with fail
  rw [← hW] at ho ⊢
  clear hW
  refine ho.mono ?_
  rintro e w1 ⟨rfl, k1⟩
  replace f0 := k1.loose0 (World.block_lt_of_cell? _ _ q0) f0
  replace f1 := k1.loose0 (World.block_lt_of_cell? _ _ q1) f1
  replace c0 := k1.cell0 c0
  replace c1 := k1.cell0 c1
  replace q0 := k1.cell0 q0
  replace q1 := k1.cell0 q1
  replace r0 := r0.kept k1 (by omega)
  have K1 := hide (k0.trans k1)
  have z1 := k1.size
  clear ho k0 k1
  cases hk : mokB m ds
  · have K7 := hide (((unhide K1).setNew (p := ⟨w.heap.size + 1, 0, none⟩) (by simp) (.int .i64 0)).setNew (p := ⟨w.heap.size + 1, 1, none⟩) (by simp) (.slice none 0 0))
    have HK := hide hk
    clear r0 K1 hk
    go_wp2
    exact bodyPost_ret (v := .tuple #[.agg #[.int .i64 0, .slice none 0 0], .bool false]) (by simp [results, Tryd.results49, go_sem, q0, q1]) rfl ⟨.slice none 0 0, by rw [(fit_no (unhide HK)).1, (fit_no (unhide HK)).2.1], by rw [(fit_no (unhide HK)).2.2]; exact DysO.void _ _ _, unhide K7⟩
  have hown := own8_spec m w1 hn hwn r0
  have HK := hide hk
  clear hk
  go_wp2_with fail
  refine hown.mono ?_
  rintro e w2 ⟨v2, rfl, r2, k2⟩
  obtain ⟨a2, d2, hv2⟩ := r2.form'
  subst hv2
  replace f0 := k2.loose0 (World.block_lt_of_cell? _ _ q0) f0
  replace f1 := k2.loose0 (World.block_lt_of_cell? _ _ q1) f1
  replace q0 := k2.cell0 q0
  replace q1 := k2.cell0 q1
  have K7 := hide ((((unhide K1).trans k2).setNew (p := ⟨w.heap.size + 1, 0, none⟩) (by simp) (.int .i64 m)).setNew (p := ⟨w.heap.size + 1, 1, none⟩) (by simp) (.slice a2 ds.length d2))
  have ks : Kept (w.heap.size + 1) (w.heap.size + 2) w2 ((w2.setCell ⟨w.heap.size + 1, 0, none⟩ (.int .i64 m)).setCell ⟨w.heap.size + 1, 1, none⟩ (.slice a2 ds.length d2)) :=
    ((Kept.refl _ _ _).setCell (p := ⟨w.heap.size + 1, 0, none⟩) (Nat.le_refl _) (Nat.lt_succ_self _) _).setCell (p := ⟨w.heap.size + 1, 1, none⟩) (Nat.le_refl _) (Nat.lt_succ_self _) _
  have hsz : ((w2.setCell ⟨w.heap.size + 1, 0, none⟩ (.int .i64 m)).setCell ⟨w.heap.size + 1, 1, none⟩ (.slice a2 ds.length d2)).heap.size = w2.heap.size := by rw [size_set, size_set]
  have R7 := hide ((r2.kept ks (by omega)).wider (lo' := w.heap.size) (hi' := ((w2.setCell ⟨w.heap.size + 1, 0, none⟩ (.int .i64 m)).setCell ⟨w.heap.size + 1, 1, none⟩ (.slice a2 ds.length d2)).heap.size) (by omega) (by omega))
  clear hown r2 k2 ks hsz c0 c1 K1 r0
  go_wp2
  exact bodyPost_ret (v := .tuple #[.agg #[.int .i64 m, .slice a2 ds.length d2], .bool true]) (by simp [results, Tryd.results49, go_sem, q0, q1]) rfl ⟨.slice a2 ds.length d2, by rw [(fit_yes (unhide HK)).1, (fit_yes (unhide HK)).2.1], by rw [(fit_yes (unhide HK)).2.2]; exact unhide R7, unhide K7⟩

set_option maxHeartbeats 8000000 in
theorem matScale_spec {lo hi l2 h2 : Nat} {bd : Bool} {v vd : Value} {ds : List DE} {zd : List Int} (n : Int) (sd : Bool) (yd : Int) (hy1 : yd ≤ 9223372036854775807) (hy0 : -9223372036854775808 ≤ yd) (w : World) (hw : WfD ds) (r : Dys lo hi w v ds) (rd : Row .i64 bd l2 h2 w vd zd) :
    Calls Tryd.prog 22 #[.agg #[.int .i64 n, v], .agg #[.bool sd, vd, .int .i64 yd]] w fun e w' => ∃ v', e = .returned (.tuple #[.agg #[.int .i64 (sclN n ds (sd, zd, yd)), v'], .bool (sclB n ds (sd, zd, yd))]) ∧ DysO w.heap.size w'.heap.size w' v' (sclL n ds (sd, zd, yd)) ∧ Kept 0 0 w w' := by
  obtain ⟨W, hW⟩ : ∃ W, W = ((w.alloc (.cells #[.int .i64 n, v] 37)).alloc (.cells #[.bool sd, vd, .int .i64 yd] 32)).alloc (.cells #[.int .i64 0, .slice none 0 0] 37) := ⟨_, rfl⟩
  have k0 : Kept 0 0 w W := by rw [hW]; exact (((Kept.refl 0 0 w).alloc _).alloc _).alloc _
  have c0 : W.cell? ⟨w.heap.size, 0, none⟩ = some (.int .i64 n) := by rw [hW]; exact old_cell _ (old_cell _ (new_cell2 _ _ _ _ _ _ (by simp) rfl))
  have c1 : W.cell? ⟨w.heap.size, 1, none⟩ = some v := by rw [hW]; exact old_cell _ (old_cell _ (new_cell2 _ _ _ _ _ _ (by simp) rfl))
  have d0 : W.cell? ⟨w.heap.size + 1, 0, none⟩ = some (.bool sd) := by rw [hW]; exact old_cell _ (new_cell2 _ _ _ _ _ _ (by simp) rfl)
  have d1 : W.cell? ⟨w.heap.size + 1, 1, none⟩ = some vd := by rw [hW]; exact old_cell _ (new_cell2 _ _ _ _ _ _ (by simp) rfl)
  have d2 : W.cell? ⟨w.heap.size + 1, 2, none⟩ = some (.int .i64 yd) := by rw [hW]; exact old_cell _ (new_cell2 _ _ _ _ _ _ (by simp) rfl)
  have q0 : W.cell? ⟨w.heap.size + 1 + 1, 0, none⟩ = some (.int .i64 0) := by rw [hW]; exact new_cell2 _ _ _ _ _ _ (by simp) rfl
  have q1 : W.cell? ⟨w.heap.size + 1 + 1, 1, none⟩ = some (.slice none 0 0) := by rw [hW]; exact new_cell2 _ _ _ _ _ _ (by simp) rfl
  have f0 : W.frozen? ⟨w.heap.size + 1 + 1, 0, none⟩ = false := by rw [hW]; exact new_loose2 _ _ _ _ _ (by simp)
  have f1 : W.frozen? ⟨w.heap.size + 1 + 1, 1, none⟩ = false := by rw [hW]; exact new_loose2 _ _ _ _ _ (by simp)
  have sW : W.heap.size = w.heap.size + 3 := by rw [hW]; simp
  have r0 := r.kept k0 (by omega)
  have rd0 := rd.kept k0 (by omega)
  have ho := matOk_spec n W hw r0
  obtain ⟨a, c, rfl, -, -⟩ := r.form
  obtain ⟨ad, cd, rfl⟩ := Row.form' rd
  rw [hW] at ho
  clear r rd
  go_enter Tryd.func22, Tryd.ntmps22
  go_wp2_with fail
  rw [← hW] at ho ⊢
  clear hW
  refine ho.mono ?_
  rintro e w1 ⟨rfl, k1⟩
  replace f0 := k1.loose0 (World.block_lt_of_cell? _ _ q0) f0
  replace f1 := k1.loose0 (World.block_lt_of_cell? _ _ q1) f1
  replace c0 := k1.cell0 c0
  replace c1 := k1.cell0 c1
  replace d0 := k1.cell0 d0
  replace d1 := k1.cell0 d1
  replace d2 := k1.cell0 d2
  replace q0 := k1.cell0 q0
  replace q1 := k1.cell0 q1
  replace r0 := r0.kept k1 (by omega)
  replace rd0 := rd0.kept k1 (by omega)
  have K1 := hide (k0.trans k1)
  have z1 := k1.size
  clear ho k0 k1
  cases hk : mokB n ds
  · have HB : Hid (sclB n ds (sd, zd, yd) = false) := by show _ = _; unfold sclB; rw [hk]; rfl
    have K7 := hide (((unhide K1).setNew (p := ⟨w.heap.size + 1 + 1, 0, none⟩) (by dsimp only; omega) (.int .i64 0)).setNew (p := ⟨w.heap.size + 1 + 1, 1, none⟩) (by dsimp only; omega) (.slice none 0 0))
    clear r0 K1 hk rd0
    go_wp2
    exact bodyPost_ret (v := .tuple #[.agg #[.int .i64 0, .slice none 0 0], .bool false]) (by simp [results, Tryd.results22, go_sem, q0, q1]) rfl ⟨.slice none 0 0, by rw [(scl_no (unhide HB)).2, unhide HB], by rw [(scl_no (unhide HB)).1]; exact DysO.void _ _ _, unhide K7⟩
  have hdk := dok_spec sd yd hy1 hy0 w1 rd0
  have HK := hide hk
  clear hk
  go_wp2_with fail
  refine hdk.mono ?_
  rintro e w2 ⟨rfl, k2⟩
  replace f0 := k2.loose0 (World.block_lt_of_cell? _ _ q0) f0
  replace f1 := k2.loose0 (World.block_lt_of_cell? _ _ q1) f1
  replace c0 := k2.cell0 c0
  replace c1 := k2.cell0 c1
  replace d0 := k2.cell0 d0
  replace d1 := k2.cell0 d1
  replace d2 := k2.cell0 d2
  replace q0 := k2.cell0 q0
  replace q1 := k2.cell0 q1
  replace r0 := r0.kept k2 (by omega)
  replace rd0 := rd0.kept k2 (by omega)
  have K2 := hide ((unhide K1).trans k2)
  have z2 := k2.size
  clear hdk k2 K1
  cases hk2 : dokB sd zd yd
  · have HB : Hid (sclB n ds (sd, zd, yd) = false) := by show _ = _; unfold sclB; dsimp only; rw [hk2]; simp
    have K7 := hide (((unhide K2).setNew (p := ⟨w.heap.size + 1 + 1, 0, none⟩) (by dsimp only; omega) (.int .i64 0)).setNew (p := ⟨w.heap.size + 1 + 1, 1, none⟩) (by dsimp only; omega) (.slice none 0 0))
    clear r0 K2 hk2 rd0
    go_wp2
    exact bodyPost_ret (v := .tuple #[.agg #[.int .i64 0, .slice none 0 0], .bool false]) (by simp [results, Tryd.results22, go_sem, q0, q1]) rfl ⟨.slice none 0 0, by rw [(scl_no (unhide HB)).2, unhide HB], by rw [(scl_no (unhide HB)).1]; exact DysO.void _ _ _, unhide K7⟩
  obtain ⟨t1, t2⟩ := scl_fit (d := (sd, zd, yd)) (unhide HK) hk2
  obtain ⟨u1, u2, u3, U⟩ := mok_partsA (unhide HK)
  obtain ⟨k, rfl⟩ := Int.eq_ofNat_of_zero_le (show 0 ≤ n by omega)
  have hlen : ds.length = k * k := by rw [← Int.natCast_mul] at u3; omega
  have h16 : k * k ≤ 4 * 4 := Nat.mul_le_mul (by omega) (by omega)
  have hsc := scale8_spec sd yd w2 (by omega) hlen U hk2 r0 rd0
  obtain ⟨PL, hPL⟩ : ∃ PL, PL = (List.range ds.length).map fun i => pE (sd, zd, yd) (ds.getD i de0) := ⟨_, rfl⟩
  have hpl : PL.length = ds.length := by rw [hPL]; simp
  have hpw : WfD PL := fun i hi => by rw [hPL, map_at _ _ _ (by omega)]; exact (pE_facts (U i (by omega)) hk2).1
  have hpn : AllWN PL := fun i hi => by rw [hPL, map_at _ _ _ (by omega)]; exact ⟨(pE_facts (U i (by omega)) hk2).2.1, (pE_facts (U i (by omega)) hk2).2.2.1⟩
  rw [← hPL] at hsc t1 t2
  have hfin : fitN (k : Int) PL = sclN k ds (sd, zd, yd) ∧ fitB (k : Int) PL = sclB k ds (sd, zd, yd) ∧ fitL (k : Int) PL = sclL k ds (sd, zd, yd) := by
    unfold fitN fitB fitL
    rw [← t1]
    refine ⟨rfl, rfl, ?_⟩
    by_cases hb : sclB k ds (sd, zd, yd) = true
    · rw [if_pos hb, t2 hb]
    · rw [if_neg hb]; unfold sclL; rw [if_neg hb]
  obtain ⟨h1, h2', h3⟩ := hfin
  have hpl100 : PL.length ≤ 100 := by omega
  have HPW := hide hpw
  have HPN := hide hpn
  have H1 := hide h1
  have H2 := hide h2'
  have H3 := hide h3
  have HP100 := hide hpl100
  clear t1 t2 u1 u2 u3 U hlen h16 hk2 hpw hpn hPL hpl h1 h2' h3 hpl100 r0 rd0 hw
  go_wp2_with fail
  refine hsc.mono ?_
  rintro e w3 ⟨v3, rfl, r3, k3⟩
  obtain ⟨a3, d3, hv3⟩ := r3.form'
  subst hv3
  replace f0 := k3.loose0 (World.block_lt_of_cell? _ _ q0) f0
  replace f1 := k3.loose0 (World.block_lt_of_cell? _ _ q1) f1
  replace q0 := k3.cell0 q0
  replace q1 := k3.cell0 q1
  have K3 := hide ((unhide K2).trans k3)
  have z3 := k3.size
  have hft := fits8_spec (k : Int) w3 (unhide HP100) (unhide HPW) (unhide HPN) r3.read
  rw [unhide H1, unhide H2, unhide H3] at hft
  obtain ⟨BB, hBB⟩ : ∃ q, q = sclB k ds (sd, zd, yd) := ⟨_, rfl⟩
  obtain ⟨LL, hLL⟩ : ∃ q, q = sclL k ds (sd, zd, yd) := ⟨_, rfl⟩
  obtain ⟨NN, hNN⟩ : ∃ q, q = sclN k ds (sd, zd, yd) := ⟨_, rfl⟩
  rw [← hBB, ← hLL, ← hNN] at hft
  have HBB := hide hBB
  have HLL := hide hLL
  have HNN := hide hNN
  clear hBB hLL hNN hsc r3 k3 K2 H1 H2 H3 c0 c1 d0 d1 d2
  go_wp2_with fail
  refine hft.mono ?_
  rintro e w4 ⟨v4, rfl, r4, k4⟩
  obtain ⟨a4, d4, hv4⟩ := r4.form'
  subst hv4
  replace f0 := k4.loose0 (World.block_lt_of_cell? _ _ q0) f0
  replace f1 := k4.loose0 (World.block_lt_of_cell? _ _ q1) f1
  replace q0 := k4.cell0 q0
  replace q1 := k4.cell0 q1
  have K7 := hide ((((unhide K3).trans k4).setNew (p := ⟨w.heap.size + 1 + 1, 0, none⟩) (by dsimp only; omega) (.int .i64 NN)).setNew (p := ⟨w.heap.size + 1 + 1, 1, none⟩) (by dsimp only; omega) (.slice a4 LL.length d4))
  have ks : Kept (w.heap.size + 2) (w.heap.size + 3) w4 ((w4.setCell ⟨w.heap.size + 1 + 1, 0, none⟩ (.int .i64 NN)).setCell ⟨w.heap.size + 1 + 1, 1, none⟩ (.slice a4 LL.length d4)) :=
    ((Kept.refl _ _ _).setCell (p := ⟨w.heap.size + 1 + 1, 0, none⟩) (Nat.le_refl _) (Nat.lt_succ_self _) _).setCell (p := ⟨w.heap.size + 1 + 1, 1, none⟩) (Nat.le_refl _) (Nat.lt_succ_self _) _
  have hsz : ((w4.setCell ⟨w.heap.size + 1 + 1, 0, none⟩ (.int .i64 NN)).setCell ⟨w.heap.size + 1 + 1, 1, none⟩ (.slice a4 LL.length d4)).heap.size = w4.heap.size := by rw [size_set, size_set]
  have R7 := hide ((r4.kept ks (by omega)).wider (lo' := w.heap.size) (hi' := ((w4.setCell ⟨w.heap.size + 1 + 1, 0, none⟩ (.int .i64 NN)).setCell ⟨w.heap.size + 1 + 1, 1, none⟩ (.slice a4 LL.length d4)).heap.size) (by omega) (by omega))
  clear hft r4 k4 ks hsz K3
  go_wp2
  exact bodyPost_ret (v := .tuple #[.agg #[.int .i64 NN, .slice a4 LL.length d4], .bool BB]) (by simp [results, Tryd.results22, go_sem, q0, q1]) rfl ⟨.slice a4 LL.length d4, by rw [← unhide HNN, ← unhide HBB], by rw [← unhide HLL]; exact unhide R7, unhide K7⟩

end Go.Proofs.YtagaofpkfpfilaaDoor
