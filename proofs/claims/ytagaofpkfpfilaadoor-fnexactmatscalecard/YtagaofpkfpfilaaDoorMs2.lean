/-
  MatScale of the program: each number times one number, told or refused.
-/
import Derived.Test.YtagaofpkfpfilaaDoorMs1
namespace Go.Proofs.YtagaofpkfpfilaaDoor
open Go.RowKit
set_option linter.unusedVariables false
set_option maxRecDepth 8000
set_option linter.unusedSimpArgs false

/-- A product that is told. -/
def mE (d a : DE) : DE := (ansDS (dokB a.1 a.2.1 a.2.2 && dokB d.1 d.2.1 d.2.2) (wval a.1 a.2.1 * wval d.1 d.2.1) (a.2.2 + d.2.2), ansDL (dokB a.1 a.2.1 a.2.2 && dokB d.1 d.2.1 d.2.2) (wval a.1 a.2.1 * wval d.1 d.2.1) (a.2.2 + d.2.2), ansDE (dokB a.1 a.2.1 a.2.2 && dokB d.1 d.2.1 d.2.2) (wval a.1 a.2.1 * wval d.1 d.2.1) (a.2.2 + d.2.2))
def mB (d a : DE) : Bool := ansDB (dokB a.1 a.2.1 a.2.2 && dokB d.1 d.2.1 d.2.2) (wval a.1 a.2.1 * wval d.1 d.2.1) (a.2.2 + d.2.2)
/-- May MatScale be told? -/
def sclB (n : Int) (ds : List DE) (d : DE) : Bool := mokB n ds && (dokB d.1 d.2.1 d.2.2 && allB (fun i => mB d (ds.getD i de0)) ds.length)
def sclL (n : Int) (ds : List DE) (d : DE) : List DE := if sclB n ds d = true then (List.range ds.length).map (fun i => mE d (ds.getD i de0)) else []
def sclN (n : Int) (ds : List DE) (d : DE) : Int := if sclB n ds d = true then n else 0
theorem scl_no {n : Int} {ds : List DE} {d : DE} (h : sclB n ds d = false) : sclL n ds d = [] ∧ sclN n ds d = 0 := by unfold sclL sclN; rw [h]; exact ⟨rfl, rfl⟩
theorem scl_tel {n : Int} {ds : List DE} {d : DE} (h1 : mokB n ds = true) (h2 : dokB d.1 d.2.1 d.2.2 = true) :
    sclB n ds d = allB (fun i => mB d (ds.getD i de0)) ds.length ∧ sclL n ds d = telL (fun i => mE d (ds.getD i de0)) (fun i => mB d (ds.getD i de0)) ds.length ∧ sclN n ds d = telN (fun i => mB d (ds.getD i de0)) ds.length n := by
  have h : sclB n ds d = allB (fun i => mB d (ds.getD i de0)) ds.length := by unfold sclB; rw [h1, h2]; rfl
  refine ⟨h, ?_, ?_⟩
  · unfold sclL telL; rw [h]
  · unfold sclN telN; rw [h]

set_option maxHeartbeats 4000000 in
theorem scale1_impl {b1 b2 : Bool} {l1 h1 l2 h2 Bd : Nat} {v1 v2 : Value} {xs ys : List Int} (s1 s2 : Bool) (x1 x2 : Int) (hx1 : x1 ≤ 9223372036854775807) (hx0 : -9223372036854775808 ≤ x1) (hy1 : x2 ≤ 9223372036854775807) (hy0 : -9223372036854775808 ≤ x2) (w : World)
    (d0 : w.cell? ⟨Bd, 0, none⟩ = some (.bool s2)) (d1 : w.cell? ⟨Bd, 1, none⟩ = some v2) (d2 : w.cell? ⟨Bd, 2, none⟩ = some (.int .i64 x2)) (r1 : Row .i64 b1 l1 h1 w v1 xs) (r2 : Row .i64 b2 l2 h2 w v2 ys) (T : TabB w) :
    Calls Tryd.prog 54 #[.agg #[.bool s1, v1, .int .i64 x1], .pointer (some ⟨Bd, 0, none⟩)] w fun e w' => ∃ v', e = .returned (.tuple #[.agg #[.bool (mE (s2, ys, x2) (s1, xs, x1)).1, v', .int .i64 (mE (s2, ys, x2) (s1, xs, x1)).2.2], .bool (mB (s2, ys, x2) (s1, xs, x1))]) ∧ Row .i64 true w.heap.size w'.heap.size w' v' (mE (s2, ys, x2) (s1, xs, x1)).2.1 ∧ Kept 0 0 w w' := by
  obtain ⟨W, hW⟩ : ∃ W, W = (w.alloc (.cells #[.bool s1, v1, .int .i64 x1] 32)).alloc (.cells #[.bool false, .slice none 0 0, .int .i64 0] 32) := ⟨_, rfl⟩
  have k0 : Kept 0 0 w W := by rw [hW]; exact ((Kept.refl 0 0 w).alloc _).alloc _
  have c0 : W.cell? ⟨w.heap.size, 0, none⟩ = some (.bool s1) := by rw [hW]; exact old_cell _ (new_cell2 _ _ _ _ _ _ (by simp) rfl)
  have c1 : W.cell? ⟨w.heap.size, 1, none⟩ = some v1 := by rw [hW]; exact old_cell _ (new_cell2 _ _ _ _ _ _ (by simp) rfl)
  have c2 : W.cell? ⟨w.heap.size, 2, none⟩ = some (.int .i64 x1) := by rw [hW]; exact old_cell _ (new_cell2 _ _ _ _ _ _ (by simp) rfl)
  have q0 : W.cell? ⟨w.heap.size + 1, 0, none⟩ = some (.bool false) := by rw [hW]; exact new_cell2 _ _ _ _ _ _ (by simp) rfl
  have q1 : W.cell? ⟨w.heap.size + 1, 1, none⟩ = some (.slice none 0 0) := by rw [hW]; exact new_cell2 _ _ _ _ _ _ (by simp) rfl
  have q2 : W.cell? ⟨w.heap.size + 1, 2, none⟩ = some (.int .i64 0) := by rw [hW]; exact new_cell2 _ _ _ _ _ _ (by simp) rfl
  have f0 : W.frozen? ⟨w.heap.size + 1, 0, none⟩ = false := by rw [hW]; exact new_loose2 _ _ _ _ _ (by simp)
  have f1 : W.frozen? ⟨w.heap.size + 1, 1, none⟩ = false := by rw [hW]; exact new_loose2 _ _ _ _ _ (by simp)
  have f2 : W.frozen? ⟨w.heap.size + 1, 2, none⟩ = false := by rw [hW]; exact new_loose2 _ _ _ _ _ (by simp)
  have sW : W.heap.size = w.heap.size + 2 := by rw [hW]; simp
  have e0 := k0.cell0 d0
  have e1 := k0.cell0 d1
  have e2 := k0.cell0 d2
  have hm := dmul_impl s1 s2 x1 x2 hx1 hx0 hy1 hy0 W (r1.kept k0 (by omega)) (r2.kept k0 (by omega)) (T.kept k0)
  obtain ⟨a1, n1, rfl⟩ := Row.form' r1
  obtain ⟨a2, n2, rfl⟩ := Row.form' r2
  obtain ⟨⟨GS, GL, GE⟩, hG⟩ : ∃ q, q = mE (s2, ys, x2) (s1, xs, x1) := ⟨_, rfl⟩
  have hG' : ((ansDS (dokB s1 xs x1 && dokB s2 ys x2) (wval s1 xs * wval s2 ys) (x1 + x2)), (ansDL (dokB s1 xs x1 && dokB s2 ys x2) (wval s1 xs * wval s2 ys) (x1 + x2)), (ansDE (dokB s1 xs x1 && dokB s2 ys x2) (wval s1 xs * wval s2 ys) (x1 + x2))) = (GS, GL, GE) := by rw [hG]; rfl
  obtain ⟨GB, hB⟩ : ∃ q, q = mB (s2, ys, x2) (s1, xs, x1) := ⟨_, rfl⟩
  have hB' : ansDB (dokB s1 xs x1 && dokB s2 ys x2) (wval s1 xs * wval s2 ys) (x1 + x2) = GB := by rw [hB]; rfl
  simp only [Prod.mk.injEq] at hG'
  obtain ⟨g1, g2, g3⟩ := hG'
  rw [g1, g2, g3, hB'] at hm
  rw [← hG, ← hB]
  clear g1 g2 g3 hB' hG hB r1 r2 T d0 d1 d2
  rw [hW] at hm c0 c1 c2 e0 e1 e2
  go_enter Tryd.func54, Tryd.ntmps54
  go_wp2_with fail
  refine hm.mono ?_
  rw [← hW]
  rintro e w3 ⟨v3, rfl, r3, k3⟩
  obtain ⟨a3, d3, hv3⟩ := Row.form' r3
  subst hv3
  have F0 := k3.loose0 (World.block_lt_of_cell? _ _ q0) f0
  have F1 := k3.loose0 (World.block_lt_of_cell? _ _ q1) f1
  have F2 := k3.loose0 (World.block_lt_of_cell? _ _ q2) f2
  have Q0 := k3.cell0 q0
  have Q1 := k3.cell0 q1
  have Q2 := k3.cell0 q2
  have K3 := hide (k0.trans k3)
  have K7 := hide ((((unhide K3).setNew (p := ⟨w.heap.size + 1, 0, none⟩) (by simp) (.bool GS)).setNew (p := ⟨w.heap.size + 1, 1, none⟩) (by simp) (.slice a3 GL.length d3)).setNew (p := ⟨w.heap.size + 1, 2, none⟩) (by simp) (.int .i64 GE))
  have ks : Kept (w.heap.size + 1) (w.heap.size + 2) w3 (((w3.setCell ⟨w.heap.size + 1, 0, none⟩ (.bool GS)).setCell ⟨w.heap.size + 1, 1, none⟩ (.slice a3 GL.length d3)).setCell ⟨w.heap.size + 1, 2, none⟩ (.int .i64 GE)) :=
    (((Kept.refl _ _ _).setCell (p := ⟨w.heap.size + 1, 0, none⟩) (Nat.le_refl _) (Nat.lt_succ_self _) _).setCell (p := ⟨w.heap.size + 1, 1, none⟩) (Nat.le_refl _) (Nat.lt_succ_self _) _).setCell (p := ⟨w.heap.size + 1, 2, none⟩) (Nat.le_refl _) (Nat.lt_succ_self _) _
  have R7 := hide ((r3.kept ks (by omega)).tight.wider (lo' := w.heap.size) (by omega) (Nat.le_refl _))
  clear hm r3 k3 K3 ks q0 q1 q2 f0 f1 f2 sW k0 c0 c1 c2 e0 e1 e2 hW
  go_wp2
  exact bodyPost_ret (v := .tuple #[.agg #[.bool GS, .slice a3 GL.length d3, .int .i64 GE], .bool GB]) (by simp [results, Tryd.results54, go_sem, Q0, Q1, Q2]) rfl ⟨.slice a3 GL.length d3, rfl, unhide R7, unhide K7⟩

set_option maxHeartbeats 8000000 in
theorem matScale_impl {lo hi l2 h2 : Nat} {bd : Bool} {v vd : Value} {ds : List DE} {zd : List Int} (n : Int) (sd : Bool) (yd : Int) (hy1 : yd ≤ 9223372036854775807) (hy0 : -9223372036854775808 ≤ yd) (w : World) (hw : WfD ds) (r : Dys lo hi w v ds) (rd : Row .i64 bd l2 h2 w vd zd) (T : TabB w) :
    Calls Tryd.prog 24 #[.agg #[.int .i64 n, v], .agg #[.bool sd, vd, .int .i64 yd]] w fun e w' => ∃ v', e = .returned (.tuple #[.agg #[.int .i64 (sclN n ds (sd, zd, yd)), v'], .bool (sclB n ds (sd, zd, yd))]) ∧ DysO w.heap.size w'.heap.size w' v' (sclL n ds (sd, zd, yd)) ∧ Kept 0 0 w w' := by
  obtain ⟨W, hW⟩ : ∃ W, W = ((w.alloc (.cells #[.int .i64 n, v] 37)).alloc (.cells #[.bool sd, vd, .int .i64 yd] 32)).alloc (.cells #[.int .i64 0, .slice none 0 0] 37) := ⟨_, rfl⟩
  have k0 : Kept 0 0 w W := by rw [hW]; exact (((Kept.refl 0 0 w).alloc _).alloc _).alloc _
  have c0 : W.cell? ⟨w.heap.size, 0, none⟩ = some (.int .i64 n) := by rw [hW]; exact old_cell _ (old_cell _ (new_cell2 _ _ _ _ _ _ (by simp) rfl))
  have c1 : W.cell? ⟨w.heap.size, 1, none⟩ = some v := by rw [hW]; exact old_cell _ (old_cell _ (new_cell2 _ _ _ _ _ _ (by simp) rfl))
  have d0 : W.cell? ⟨w.heap.size + 1, 0, none⟩ = some (.bool sd) := by rw [hW]; exact old_cell _ (new_cell2 _ _ _ _ _ _ (by simp) rfl)
  have d1 : W.cell? ⟨w.heap.size + 1, 1, none⟩ = some vd := by rw [hW]; exact old_cell _ (new_cell2 _ _ _ _ _ _ (by simp) rfl)
  have d2 : W.cell? ⟨w.heap.size + 1, 2, none⟩ = some (.int .i64 yd) := by rw [hW]; exact old_cell _ (new_cell2 _ _ _ _ _ _ (by simp) rfl)
  have q0 : W.cell? ⟨w.heap.size + 1 + 1, 0, none⟩ = some (.int .i64 0) := by rw [hW]; exact new_cell2 _ _ _ _ _ _ (by simp) rfl
  have q1 : W.cell? ⟨w.heap.size + 1 + 1, 1, none⟩ = some (.slice none 0 0) := by rw [hW]; exact new_cell2 _ _ _ _ _ _ (by simp) rfl
  have f0 : W.frozen? ⟨w.heap.size + 1 + 1, 0, none⟩ = false := by rw [hW]; exact new_loose2 _ _ _ _ _ (by simp)
  have f1 : W.frozen? ⟨w.heap.size + 1 + 1, 1, none⟩ = false := by rw [hW]; exact new_loose2 _ _ _ _ _ (by simp)
  have sW : W.heap.size = w.heap.size + 3 := by rw [hW]; simp
  have r0 := r.kept k0 (by omega)
  have rd0 := rd.kept k0 (by omega)
  have ho := matOk_impl n W hw r0
  obtain ⟨a, c, rfl, -, -⟩ := r.form
  obtain ⟨ad, cd, rfl⟩ := Row.form' rd
  obtain ⟨d, hd⟩ : ∃ d : DE, d = (sd, zd, yd) := ⟨_, rfl⟩
  have HD := hide hd
  rw [hW] at ho
  clear r rd
  go_enter Tryd.func24, Tryd.ntmps24
  go_wp2_with fail
  rw [← hW] at ho ⊢
  clear hW
  refine ho.mono ?_
  rintro e w1 ⟨rfl, k1⟩
  replace f0 := k1.loose0 (World.block_lt_of_cell? _ _ q0) f0
  replace f1 := k1.loose0 (World.block_lt_of_cell? _ _ q1) f1
  replace c0 := k1.cell0 c0
  replace c1 := k1.cell0 c1
  replace d0 := k1.cell0 d0
  replace d1 := k1.cell0 d1
  replace d2 := k1.cell0 d2
  replace q0 := k1.cell0 q0
  replace q1 := k1.cell0 q1
  replace r0 := r0.kept k1 (by omega)
  replace rd0 := rd0.kept k1 (by omega)
  have K1 := hide (k0.trans k1)
  have z1 := k1.size
  clear ho k0 k1
  cases hk : mokB n ds
  · have HB : Hid (sclB n ds (sd, zd, yd) = false) := by show _ = _; unfold sclB; rw [hk]; rfl
    have K7 := hide (((unhide K1).setNew (p := ⟨w.heap.size + 1 + 1, 0, none⟩) (by dsimp only; omega) (.int .i64 0)).setNew (p := ⟨w.heap.size + 1 + 1, 1, none⟩) (by dsimp only; omega) (.slice none 0 0))
    clear r0 K1 hk rd0
    go_wp2
    exact bodyPost_ret (v := .tuple #[.agg #[.int .i64 0, .slice none 0 0], .bool false]) (by simp [results, Tryd.results24, go_sem, q0, q1]) rfl ⟨.slice none 0 0, by rw [(scl_no (unhide HB)).2, unhide HB], by rw [(scl_no (unhide HB)).1]; exact DysO.void _ _ _, unhide K7⟩
  have hdk := dok_impl sd yd hy1 hy0 w1 rd0
  have HK := hide hk
  clear hk
  go_wp2_with fail
  refine hdk.mono ?_
  rintro e w2 ⟨rfl, k2⟩
  replace f0 := k2.loose0 (World.block_lt_of_cell? _ _ q0) f0
  replace f1 := k2.loose0 (World.block_lt_of_cell? _ _ q1) f1
  replace c0 := k2.cell0 c0
  replace c1 := k2.cell0 c1
  replace d0 := k2.cell0 d0
  replace d1 := k2.cell0 d1
  replace d2 := k2.cell0 d2
  replace q0 := k2.cell0 q0
  replace q1 := k2.cell0 q1
  replace r0 := r0.kept k2 (by omega)
  replace rd0 := rd0.kept k2 (by omega)
  have K2 := hide ((unhide K1).trans k2)
  have z2 := k2.size
  clear hdk k2 K1
  cases hk2 : dokB sd zd yd
  · have HB : Hid (sclB n ds (sd, zd, yd) = false) := by show _ = _; unfold sclB; dsimp only; rw [hk2]; simp
    have K7 := hide (((unhide K2).setNew (p := ⟨w.heap.size + 1 + 1, 0, none⟩) (by dsimp only; omega) (.int .i64 0)).setNew (p := ⟨w.heap.size + 1 + 1, 1, none⟩) (by dsimp only; omega) (.slice none 0 0))
    clear r0 K2 hk2 rd0
    go_wp2
    exact bodyPost_ret (v := .tuple #[.agg #[.int .i64 0, .slice none 0 0], .bool false]) (by simp [results, Tryd.results24, go_sem, q0, q1]) rfl ⟨.slice none 0 0, by rw [(scl_no (unhide HB)).2, unhide HB], by rw [(scl_no (unhide HB)).1]; exact DysO.void _ _ _, unhide K7⟩
  obtain ⟨t1, t2, t3⟩ := scl_tel (d := (sd, zd, yd)) (unhide HK) hk2
  obtain ⟨u1, u2, u3, U⟩ := mok_partsA (unhide HK)
  have hlen : ds.length ≤ 100 := by
    have h5 : n = 1 ∨ n = 2 ∨ n = 3 ∨ n = 4 := by omega
    rcases h5 with h | h | h | h <;> subst h <;> omega
  have ht := toldMatD_impl (Bd := w.heap.size + 1) n (fun i => mE (sd, zd, yd) (ds.getD i de0)) (fun i => mB (sd, zd, yd) (ds.getD i de0)) w2 hlen r0 (fun i w' b l c' hi k rr => by
    obtain ⟨dd, hdd⟩ : ∃ q, q = ds.getD i de0 := ⟨_, rfl⟩
    have hq := hw i hi
    rw [← hdd] at rr hq ⊢
    exact scale1_impl dd.1 sd dd.2.2 yd hq.1 hq.2 hy1 hy0 w' (k.cell0 d0) (k.cell0 d1) (k.cell0 d2) rr (rd0.kept k (by omega)) (T.kept ((unhide K2).trans k)))
  rw [← t1, ← t2, ← t3] at ht
  obtain ⟨BB, hBB⟩ : ∃ q, q = sclB n ds (sd, zd, yd) := ⟨_, rfl⟩
  obtain ⟨LL, hLL⟩ : ∃ q, q = sclL n ds (sd, zd, yd) := ⟨_, rfl⟩
  obtain ⟨NN, hNN⟩ : ∃ q, q = sclN n ds (sd, zd, yd) := ⟨_, rfl⟩
  rw [← hBB, ← hLL, ← hNN] at ht
  have HBB := hide hBB
  have HLL := hide hLL
  have HNN := hide hNN
  clear t1 t2 t3 u1 u2 u3 U hlen hk2 hBB hLL hNN r0 rd0 hw T
  go_wp2_with fail
  refine ht.mono ?_
  rintro e w3 ⟨v3, rfl, r3, k3⟩
  obtain ⟨a3, d3, hv3⟩ := r3.form'
  subst hv3
  replace f0 := k3.loose0 (World.block_lt_of_cell? _ _ q0) f0
  replace f1 := k3.loose0 (World.block_lt_of_cell? _ _ q1) f1
  replace q0 := k3.cell0 q0
  replace q1 := k3.cell0 q1
  have K7 := hide ((((unhide K2).trans k3).setNew (p := ⟨w.heap.size + 1 + 1, 0, none⟩) (by dsimp only; omega) (.int .i64 NN)).setNew (p := ⟨w.heap.size + 1 + 1, 1, none⟩) (by dsimp only; omega) (.slice a3 LL.length d3))
  have ks : Kept (w.heap.size + 2) (w.heap.size + 3) w3 ((w3.setCell ⟨w.heap.size + 1 + 1, 0, none⟩ (.int .i64 NN)).setCell ⟨w.heap.size + 1 + 1, 1, none⟩ (.slice a3 LL.length d3)) :=
    ((Kept.refl _ _ _).setCell (p := ⟨w.heap.size + 1 + 1, 0, none⟩) (Nat.le_refl _) (Nat.lt_succ_self _) _).setCell (p := ⟨w.heap.size + 1 + 1, 1, none⟩) (Nat.le_refl _) (Nat.lt_succ_self _) _
  have hsz : ((w3.setCell ⟨w.heap.size + 1 + 1, 0, none⟩ (.int .i64 NN)).setCell ⟨w.heap.size + 1 + 1, 1, none⟩ (.slice a3 LL.length d3)).heap.size = w3.heap.size := by rw [size_set, size_set]
  have R7 := hide ((r3.kept ks (by omega)).wider (lo' := w.heap.size) (hi' := ((w3.setCell ⟨w.heap.size + 1 + 1, 0, none⟩ (.int .i64 NN)).setCell ⟨w.heap.size + 1 + 1, 1, none⟩ (.slice a3 LL.length d3)).heap.size) (by omega) (by omega))
  clear ht r3 k3 ks hsz c0 c1 d0 d1 d2 K2
  go_wp2
  exact bodyPost_ret (v := .tuple #[.agg #[.int .i64 NN, .slice a3 LL.length d3], .bool BB]) (by simp [results, Tryd.results24, go_sem, q0, q1]) rfl ⟨.slice a3 LL.length d3, by rw [← unhide HNN, ← unhide HBB], by rw [← unhide HLL]; exact unhide R7, unhide K7⟩

end Go.Proofs.YtagaofpkfpfilaaDoor
