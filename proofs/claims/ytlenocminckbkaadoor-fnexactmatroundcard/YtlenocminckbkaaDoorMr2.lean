/-
  MatRound of the program: each number rounded, told or refused.
-/
import Derived.Test.YtlenocminckbkaaDoorMr0
namespace Go.Proofs.YtlenocminckbkaaDoor
open Go.RowKit
set_option linter.unusedVariables false
set_option maxRecDepth 8000
set_option linter.unusedSimpArgs false

set_option maxHeartbeats 4000000 in
theorem round1_impl {b1 : Bool} {l1 h1 Bl Bm : Nat} {v1 : Value} {xs : List Int} (s1 : Bool) (x1 : Int) (hx1 : x1 ≤ 9223372036854775807) (hx0 : -9223372036854775808 ≤ x1) (low mode : Int) (w : World)
    (d0 : w.cell? ⟨Bl, 0, none⟩ = some (.int .i64 low)) (d1 : w.cell? ⟨Bm, 0, none⟩ = some (.int .i64 mode)) (r1 : Row .i64 b1 l1 h1 w v1 xs) (T : TabB w) :
    Calls Tryd.prog 19 #[.agg #[.bool s1, v1, .int .i64 x1], .pointer (some ⟨Bl, 0, none⟩), .pointer (some ⟨Bm, 0, none⟩)] w fun e w' => ∃ v', e = .returned (.tuple #[.agg #[.bool (rdE low mode (s1, xs, x1)).1, v', .int .i64 (rdE low mode (s1, xs, x1)).2.2], .bool (rdB low mode (s1, xs, x1))]) ∧ Row .i64 true w.heap.size w'.heap.size w' v' (rdE low mode (s1, xs, x1)).2.1 ∧ Kept 0 0 w w' := by
  obtain ⟨W, hW⟩ : ∃ W, W = (w.alloc (.cells #[.bool s1, v1, .int .i64 x1] 48)).alloc (.cells #[.bool false, .slice none 0 0, .int .i64 0] 48) := ⟨_, rfl⟩
  have k0 : Kept 0 0 w W := by rw [hW]; exact ((Kept.refl 0 0 w).alloc _).alloc _
  have c0 : W.cell? ⟨w.heap.size, 0, none⟩ = some (.bool s1) := by rw [hW]; exact old_cell _ (new_cell2 _ _ _ _ _ _ (by simp) rfl)
  have c1 : W.cell? ⟨w.heap.size, 1, none⟩ = some v1 := by rw [hW]; exact old_cell _ (new_cell2 _ _ _ _ _ _ (by simp) rfl)
  have c2 : W.cell? ⟨w.heap.size, 2, none⟩ = some (.int .i64 x1) := by rw [hW]; exact old_cell _ (new_cell2 _ _ _ _ _ _ (by simp) rfl)
  have q0 : W.cell? ⟨w.heap.size + 1, 0, none⟩ = some (.bool false) := by rw [hW]; exact new_cell2 _ _ _ _ _ _ (by simp) rfl
  have q1 : W.cell? ⟨w.heap.size + 1, 1, none⟩ = some (.slice none 0 0) := by rw [hW]; exact new_cell2 _ _ _ _ _ _ (by simp) rfl
  have q2 : W.cell? ⟨w.heap.size + 1, 2, none⟩ = some (.int .i64 0) := by rw [hW]; exact new_cell2 _ _ _ _ _ _ (by simp) rfl
  have f0 : W.frozen? ⟨w.heap.size + 1, 0, none⟩ = false := by rw [hW]; exact new_loose2 _ _ _ _ _ (by simp)
  have f1 : W.frozen? ⟨w.heap.size + 1, 1, none⟩ = false := by rw [hW]; exact new_loose2 _ _ _ _ _ (by simp)
  have f2 : W.frozen? ⟨w.heap.size + 1, 2, none⟩ = false := by rw [hW]; exact new_loose2 _ _ _ _ _ (by simp)
  have sW : W.heap.size = w.heap.size + 2 := by rw [hW]; simp
  have e0 := k0.cell0 d0
  have e1 := k0.cell0 d1
  have hm := dround_impl s1 x1 hx1 hx0 low mode W (r1.kept k0 (by omega)) (T.kept k0)
  obtain ⟨a1, n1, rfl⟩ := Row.form' r1
  obtain ⟨GX, hX⟩ : ∃ q, ((dokB s1 xs x1 && mayR low mode) && rndX (scN (val xs).toNat (x1 - (low - 1))) (scL (val xs).toNat (x1 - (low - 1)))) = q := ⟨_, rfl⟩
  obtain ⟨⟨GS, GL, GE⟩, hG⟩ : ∃ q, q = rdE low mode (s1, xs, x1) := ⟨_, rfl⟩
  have hG' : ((ansDS (dokB s1 xs x1 && mayR low mode) (rndM mode.toNat s1 (val xs).toNat (x1 - (low - 1))) low), (ansDL (dokB s1 xs x1 && mayR low mode) (rndM mode.toNat s1 (val xs).toNat (x1 - (low - 1))) low), (ansDE (dokB s1 xs x1 && mayR low mode) (rndM mode.toNat s1 (val xs).toNat (x1 - (low - 1))) low)) = (GS, GL, GE) := by rw [hG]; rfl
  obtain ⟨GB, hB⟩ : ∃ q, q = rdB low mode (s1, xs, x1) := ⟨_, rfl⟩
  have hB' : ansDB (dokB s1 xs x1 && mayR low mode) (rndM mode.toNat s1 (val xs).toNat (x1 - (low - 1))) low = GB := by rw [hB]; rfl
  simp only [Prod.mk.injEq] at hG'
  obtain ⟨g1, g2, g3⟩ := hG'
  rw [hX, g1, g2, g3, hB'] at hm
  rw [← hG, ← hB]
  clear g1 g2 g3 hB' hG hB hX r1 T d0 d1
  rw [hW] at hm c0 c1 c2 e0 e1
  go_enter Tryd.func19, Tryd.ntmps19
  go_wp2_with fail
  refine hm.mono ?_
  rw [← hW]
  rintro e w3 ⟨v3, rfl, r3, k3⟩
  obtain ⟨a3, d3, hv3⟩ := Row.form' r3
  subst hv3
  have kn := (Kept.refl 0 0 w3).alloc (.cells #[.bool GS, .slice a3 GL.length d3, .int .i64 GE] 48)
  have n0 : (w3.alloc (.cells #[.bool GS, .slice a3 GL.length d3, .int .i64 GE] 48)).cell? ⟨w3.heap.size, 0, none⟩ = some (.bool GS) := new_cell2 _ _ _ _ _ _ rfl rfl
  have n1' : (w3.alloc (.cells #[.bool GS, .slice a3 GL.length d3, .int .i64 GE] 48)).cell? ⟨w3.heap.size, 1, none⟩ = some (.slice a3 GL.length d3) := new_cell2 _ _ _ _ _ _ rfl rfl
  have n2 : (w3.alloc (.cells #[.bool GS, .slice a3 GL.length d3, .int .i64 GE] 48)).cell? ⟨w3.heap.size, 2, none⟩ = some (.int .i64 GE) := new_cell2 _ _ _ _ _ _ rfl rfl
  have k4 := k3.trans kn
  have F0 := k4.loose0 (World.block_lt_of_cell? _ _ q0) f0
  have F1 := k4.loose0 (World.block_lt_of_cell? _ _ q1) f1
  have F2 := k4.loose0 (World.block_lt_of_cell? _ _ q2) f2
  have Q0 := k4.cell0 q0
  have Q1 := k4.cell0 q1
  have Q2 := k4.cell0 q2
  have r4 := r3.kept kn (by omega)
  have K3 := hide (k0.trans k4)
  have K7 := hide ((((unhide K3).setNew (p := ⟨w.heap.size + 1, 0, none⟩) (by simp) (.bool GS)).setNew (p := ⟨w.heap.size + 1, 1, none⟩) (by simp) (.slice a3 GL.length d3)).setNew (p := ⟨w.heap.size + 1, 2, none⟩) (by simp) (.int .i64 GE))
  have ks : Kept (w.heap.size + 1) (w.heap.size + 2) (w3.alloc (.cells #[.bool GS, .slice a3 GL.length d3, .int .i64 GE] 48)) ((((w3.alloc (.cells #[.bool GS, .slice a3 GL.length d3, .int .i64 GE] 48)).setCell ⟨w.heap.size + 1, 0, none⟩ (.bool GS)).setCell ⟨w.heap.size + 1, 1, none⟩ (.slice a3 GL.length d3)).setCell ⟨w.heap.size + 1, 2, none⟩ (.int .i64 GE)) :=
    (((Kept.refl _ _ _).setCell (p := ⟨w.heap.size + 1, 0, none⟩) (Nat.le_refl _) (Nat.lt_succ_self _) _).setCell (p := ⟨w.heap.size + 1, 1, none⟩) (Nat.le_refl _) (Nat.lt_succ_self _) _).setCell (p := ⟨w.heap.size + 1, 2, none⟩) (Nat.le_refl _) (Nat.lt_succ_self _) _
  have R7 := hide ((r4.kept ks (by omega)).tight.wider (lo' := w.heap.size) (by omega) (Nat.le_refl _))
  clear hm r3 r4 k3 k4 kn K3 ks q0 q1 q2 f0 f1 f2 sW k0 c0 c1 c2 e0 e1 hW
  go_wp2
  exact bodyPost_ret (v := .tuple #[.agg #[.bool GS, .slice a3 GL.length d3, .int .i64 GE], .bool GB]) (by simp [results, Tryd.results19, go_sem, Q0, Q1, Q2]) rfl ⟨.slice a3 GL.length d3, rfl, unhide R7, unhide K7⟩

set_option maxHeartbeats 8000000 in
theorem matRound_impl {lo hi : Nat} {v : Value} {ds : List DE} (n : Int) (low mode : Int) (w : World) (hw : WfD ds) (r : Dys lo hi w v ds) (T : TabB w) :
    Calls Tryd.prog 7 #[.agg #[.int .i64 n, v], .int .i64 low, .int .i64 mode] w fun e w' => ∃ v', e = .returned (.tuple #[.agg #[.int .i64 (rouN n ds low mode), v'], .bool (rouB n ds low mode)]) ∧ DysO w.heap.size w'.heap.size w' v' (rouL n ds low mode) ∧ Kept 0 0 w w' := by
  obtain ⟨W, hW⟩ : ∃ W, W = (((w.alloc (.cells #[.int .i64 n, v] 28)).alloc (.cells #[.int .i64 low] 3)).alloc (.cells #[.int .i64 mode] 3)).alloc (.cells #[.int .i64 0, .slice none 0 0] 28) := ⟨_, rfl⟩
  have k0 : Kept 0 0 w W := by rw [hW]; exact ((((Kept.refl 0 0 w).alloc _).alloc _).alloc _).alloc _
  have c0 : W.cell? ⟨w.heap.size, 0, none⟩ = some (.int .i64 n) := by rw [hW]; exact old_cell _ (old_cell _ (old_cell _ (new_cell2 _ _ _ _ _ _ (by simp) rfl)))
  have c1 : W.cell? ⟨w.heap.size, 1, none⟩ = some v := by rw [hW]; exact old_cell _ (old_cell _ (old_cell _ (new_cell2 _ _ _ _ _ _ (by simp) rfl)))
  have d0 : W.cell? ⟨w.heap.size + 1, 0, none⟩ = some (.int .i64 low) := by rw [hW]; exact old_cell _ (old_cell _ (new_cell2 _ _ _ _ _ _ (by simp) rfl))
  have d1 : W.cell? ⟨w.heap.size + 1 + 1, 0, none⟩ = some (.int .i64 mode) := by rw [hW]; exact old_cell _ (new_cell2 _ _ _ _ _ _ (by simp) rfl)
  have q0 : W.cell? ⟨w.heap.size + 1 + 1 + 1, 0, none⟩ = some (.int .i64 0) := by rw [hW]; exact new_cell2 _ _ _ _ _ _ (by simp) rfl
  have q1 : W.cell? ⟨w.heap.size + 1 + 1 + 1, 1, none⟩ = some (.slice none 0 0) := by rw [hW]; exact new_cell2 _ _ _ _ _ _ (by simp) rfl
  have f0 : W.frozen? ⟨w.heap.size + 1 + 1 + 1, 0, none⟩ = false := by rw [hW]; exact new_loose2 _ _ _ _ _ (by simp)
  have f1 : W.frozen? ⟨w.heap.size + 1 + 1 + 1, 1, none⟩ = false := by rw [hW]; exact new_loose2 _ _ _ _ _ (by simp)
  have sW : W.heap.size = w.heap.size + 4 := by rw [hW]; simp
  have r0 := r.kept k0 (by omega)
  have ho := matOk_impl n W hw r0
  obtain ⟨a, c, rfl, -, -⟩ := r.form
  rw [hW] at ho
  clear r
  go_enter Tryd.func7, Tryd.ntmps7
  go_wp2_with fail
  rw [← hW] at ho ⊢
  clear hW
  refine ho.mono ?_
  rintro e w1 ⟨rfl, k1⟩
  replace f0 := k1.loose0 (World.block_lt_of_cell? _ _ q0) f0
  replace f1 := k1.loose0 (World.block_lt_of_cell? _ _ q1) f1
  replace c0 := k1.cell0 c0
  replace c1 := k1.cell0 c1
  replace d0 := k1.cell0 d0
  replace d1 := k1.cell0 d1
  replace q0 := k1.cell0 q0
  replace q1 := k1.cell0 q1
  replace r0 := r0.kept k1 (by omega)
  have K1 := hide (k0.trans k1)
  have z1 := k1.size
  clear ho k0 k1
  cases hk : mokB n ds
  · have HB : Hid (rouB n ds low mode = false) := by show _ = _; unfold rouB; rw [hk]; rfl
    have K7 := hide (((unhide K1).setNew (p := ⟨w.heap.size + 1 + 1 + 1, 0, none⟩) (by dsimp only; omega) (.int .i64 0)).setNew (p := ⟨w.heap.size + 1 + 1 + 1, 1, none⟩) (by dsimp only; omega) (.slice none 0 0))
    clear r0 K1 hk
    go_wp2
    exact bodyPost_ret (v := .tuple #[.agg #[.int .i64 0, .slice none 0 0], .bool false]) (by simp [results, Tryd.results7, go_sem, q0, q1]) rfl ⟨.slice none 0 0, by rw [(rou_no (unhide HB)).2, unhide HB], by rw [(rou_no (unhide HB)).1]; exact DysO.void _ _ _, unhide K7⟩
  obtain ⟨t1, t2, t3⟩ := rou_tel low mode hk
  obtain ⟨u1, u2, u3, U⟩ := mok_partsA hk
  have hlen : ds.length ≤ 100 := by
    have h5 : n = 1 ∨ n = 2 ∨ n = 3 ∨ n = 4 := by omega
    rcases h5 with h | h | h | h <;> subst h <;> omega
  have ht := toldMatD_impl (Bl := w.heap.size + 1) (Bm := w.heap.size + 1 + 1) n (fun i => rdE low mode (ds.getD i de0)) (fun i => rdB low mode (ds.getD i de0)) w1 hlen r0 (fun i w' b l c' hi k rr => by
    obtain ⟨dd, hdd⟩ : ∃ q, q = ds.getD i de0 := ⟨_, rfl⟩
    have hq := hw i hi
    rw [← hdd] at rr hq ⊢
    exact round1_impl dd.1 dd.2.2 hq.1 hq.2 low mode w' (k.cell0 d0) (k.cell0 d1) rr (T.kept ((unhide K1).trans k)))
  rw [← t1, ← t2, ← t3] at ht
  obtain ⟨BB, hBB⟩ : ∃ q, q = rouB n ds low mode := ⟨_, rfl⟩
  obtain ⟨LL, hLL⟩ : ∃ q, q = rouL n ds low mode := ⟨_, rfl⟩
  obtain ⟨NN, hNN⟩ : ∃ q, q = rouN n ds low mode := ⟨_, rfl⟩
  rw [← hBB, ← hLL, ← hNN] at ht
  have HBB := hide hBB
  have HLL := hide hLL
  have HNN := hide hNN
  clear t1 t2 t3 u1 u2 u3 U hlen hk hBB hLL hNN r0 hw T
  go_wp2_with fail
  refine ht.mono ?_
  rintro e w3 ⟨v3, rfl, r3, k3⟩
  obtain ⟨a3, d3, hv3⟩ := r3.form'
  subst hv3
  replace f0 := k3.loose0 (World.block_lt_of_cell? _ _ q0) f0
  replace f1 := k3.loose0 (World.block_lt_of_cell? _ _ q1) f1
  replace q0 := k3.cell0 q0
  replace q1 := k3.cell0 q1
  have K7 := hide ((((unhide K1).trans k3).setNew (p := ⟨w.heap.size + 1 + 1 + 1, 0, none⟩) (by dsimp only; omega) (.int .i64 NN)).setNew (p := ⟨w.heap.size + 1 + 1 + 1, 1, none⟩) (by dsimp only; omega) (.slice a3 LL.length d3))
  have ks : Kept (w.heap.size + 3) (w.heap.size + 4) w3 ((w3.setCell ⟨w.heap.size + 1 + 1 + 1, 0, none⟩ (.int .i64 NN)).setCell ⟨w.heap.size + 1 + 1 + 1, 1, none⟩ (.slice a3 LL.length d3)) :=
    ((Kept.refl _ _ _).setCell (p := ⟨w.heap.size + 1 + 1 + 1, 0, none⟩) (Nat.le_refl _) (Nat.lt_succ_self _) _).setCell (p := ⟨w.heap.size + 1 + 1 + 1, 1, none⟩) (Nat.le_refl _) (Nat.lt_succ_self _) _
  have hsz : ((w3.setCell ⟨w.heap.size + 1 + 1 + 1, 0, none⟩ (.int .i64 NN)).setCell ⟨w.heap.size + 1 + 1 + 1, 1, none⟩ (.slice a3 LL.length d3)).heap.size = w3.heap.size := by rw [size_set, size_set]
  have R7 := hide ((r3.kept ks (by omega)).wider (lo' := w.heap.size) (hi' := ((w3.setCell ⟨w.heap.size + 1 + 1 + 1, 0, none⟩ (.int .i64 NN)).setCell ⟨w.heap.size + 1 + 1 + 1, 1, none⟩ (.slice a3 LL.length d3)).heap.size) (by omega) (by omega))
  clear ht r3 k3 ks hsz c0 c1 d0 d1 K1
  go_wp2
  exact bodyPost_ret (v := .tuple #[.agg #[.int .i64 NN, .slice a3 LL.length d3], .bool BB]) (by simp [results, Tryd.results7, go_sem, q0, q1]) rfl ⟨.slice a3 LL.length d3, by rw [← unhide HNN, ← unhide HBB], by rw [← unhide HLL]; exact unhide R7, unhide K7⟩

end Go.Proofs.YtlenocminckbkaaDoor
