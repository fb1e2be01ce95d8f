/-
  MatTurn of the model.
-/
import Derived.Test.YtagaofpkfpfilaaDoorMu1
namespace Go.Proofs.YtagaofpkfpfilaaDoor
open Go.RowKit
set_option linter.unusedVariables false
set_option maxRecDepth 8000
set_option linter.unusedSimpArgs false

/-- What MatTurn tells. -/
def tuN (n : Int) (ds : List DE) : Int := if mokB n ds = true then n else 0
def tuL (n : Int) (ds : List DE) : List DE := if mokB n ds = true then turL n.toNat ds else []
def tuB (n : Int) (ds : List DE) : Bool := mokB n ds
theorem tu_no {n : Int} {ds : List DE} (h : mokB n ds = false) : tuN n ds = 0 ∧ tuL n ds = [] ∧ tuB n ds = false := by unfold tuN tuL tuB; rw [h]; exact ⟨rfl, rfl, rfl⟩
theorem tu_yes {k : Nat} {ds : List DE} (h : mokB (k : Int) ds = true) : tuN k ds = k ∧ tuL k ds = turL k ds ∧ tuB k ds = true := by unfold tuN tuL tuB; rw [if_pos h, if_pos h]; exact ⟨rfl, rfl, h⟩
theorem tur_len (k : Nat) (ds : List DE) : (turL k ds).length = k * k := by unfold turL; simp
theorem tur_dok {k : Nat} {ds : List DE} (hl : ds.length = k * k) (U : ∀ i, i < ds.length → dokB (ds.getD i de0).1 (ds.getD i de0).2.1 (ds.getD i de0).2.2 = true) : ∀ i, i < (turL k ds).length → dokB ((turL k ds).getD i de0).1 ((turL k ds).getD i de0).2.1 ((turL k ds).getD i de0).2.2 = true := by
  intro i hi
  rw [tur_len] at hi
  have hk : 0 < k := by rcases Nat.eq_zero_or_pos k with e | e; (subst e; simp at hi); exact e
  have h1 := Nat.mod_lt i hk
  have h2 : i / k < k := Nat.div_lt_of_lt_mul hi
  have h3 := place_lt8 h1 h2
  unfold turL
  rw [map_at _ _ _ hi]
  exact U _ (by omega)
theorem tur_wn {k : Nat} {ds : List DE} (hl : ds.length = k * k) (U : ∀ i, i < ds.length → dokB (ds.getD i de0).1 (ds.getD i de0).2.1 (ds.getD i de0).2.2 = true) : AllWN (turL k ds) := fun i hi => by
  obtain ⟨w1', -, -, -, -⟩ := dok_parts (tur_dok hl U i hi)
  obtain ⟨-, -, lx, hx⟩ := wok_int w1'
  exact ⟨wok_wn w1', by omega⟩

set_option maxHeartbeats 8000000 in
theorem matTurn_spec {lo hi : Nat} {v : Value} {ds : List DE} (n : Int) (w : World) (hw : WfD ds) (r : Dys lo hi w v ds) :
    Calls Tryd.prog 16 #[.agg #[.int .i64 n, v]] w fun e w' => ∃ v', e = .returned (.tuple #[.agg #[.int .i64 (tuN n ds), v'], .bool (tuB n ds)]) ∧ DysO w.heap.size w'.heap.size w' v' (tuL n ds) ∧ Kept 0 0 w w' := by
  obtain ⟨W, hW⟩ : ∃ W, W = (w.alloc (.cells #[.int .i64 n, v] 37)).alloc (.cells #[.int .i64 0, .slice none 0 0] 37) := ⟨_, rfl⟩
  have k0 : Kept 0 0 w W := by rw [hW]; exact ((Kept.refl 0 0 w).alloc _).alloc _
  have c0 : W.cell? ⟨w.heap.size, 0, none⟩ = some (.int .i64 n) := by rw [hW]; exact old_cell _ (new_cell2 _ _ _ _ _ _ (by simp) rfl)
  have c1 : W.cell? ⟨w.heap.size, 1, none⟩ = some v := by rw [hW]; exact old_cell _ (new_cell2 _ _ _ _ _ _ (by simp) rfl)
  have q0 : W.cell? ⟨w.heap.size + 1, 0, none⟩ = some (.int .i64 0) := by rw [hW]; exact new_cell2 _ _ _ _ _ _ (by simp) rfl
  have q1 : W.cell? ⟨w.heap.size + 1, 1, none⟩ = some (.slice none 0 0) := by rw [hW]; exact new_cell2 _ _ _ _ _ _ (by simp) rfl
  have f0 : W.frozen? ⟨w.heap.size + 1, 0, none⟩ = false := by rw [hW]; exact new_loose2 _ _ _ _ _ (by simp)
  have f1 : W.frozen? ⟨w.heap.size + 1, 1, none⟩ = false := by rw [hW]; exact new_loose2 _ _ _ _ _ (by simp)
  have sW : W.heap.size = w.heap.size + 2 := by rw [hW]; simp
  have r0 := r.kept k0 (by omega)
  have ho := matOk_spec n W hw r0
  obtain ⟨a, c, rfl, -, -⟩ := r.form
  rw [hW] at ho
  clear r
  go_enter Tryd.func16, Tryd.ntmps16
  go_wp2_with fail
  rw [← hW] at ho ⊢
  clear hW
  refine ho.mono ?_
  rintro e w1 ⟨rfl, k1⟩
  replace f0 := k1.loose0 (World.block_lt_of_cell? _ _ q0) f0
  replace f1 := k1.loose0 (World.block_lt_of_cell? _ _ q1) f1
  replace c0 := k1.cell0 c0
  replace c1 := k1.cell0 c1
  replace q0 := k1.cell0 q0
  replace q1 := k1.cell0 q1
  replace r0 := r0.kept k1 (by omega)
  have K1 := hide (k0.trans k1)
  have z1 := k1.size
  clear ho k0 k1
  cases hk : mokB n ds
  · have HB := hide (tu_no hk)
    have K7 := hide (((unhide K1).setNew (p := ⟨w.heap.size + 1, 0, none⟩) (by simp) (.int .i64 0)).setNew (p := ⟨w.heap.size + 1, 1, none⟩) (by simp) (.slice none 0 0))
    clear r0 K1 hk
    go_wp2
    exact bodyPost_ret (v := .tuple #[.agg #[.int .i64 0, .slice none 0 0], .bool false]) (by simp [results, Tryd.results16, go_sem, q0, q1]) rfl ⟨.slice none 0 0, by rw [(unhide HB).1, (unhide HB).2.2], by rw [(unhide HB).2.1]; exact DysO.void _ _ _, unhide K7⟩
  obtain ⟨u1, u2, u3, U⟩ := mok_partsA hk
  obtain ⟨k, rfl⟩ := Int.eq_ofNat_of_zero_le (show 0 ≤ n by omega)
  have hlen : ds.length = k * k := by rw [← Int.natCast_mul] at u3; omega
  have h16 : k * k ≤ 4 * 4 := Nat.mul_le_mul (by omega) (by omega)
  have hsc := turn8_spec w1 (by omega) hlen r0
  have HB := hide (tu_yes hk)
  have HWN := hide (tur_wn hlen U)
  have HL := hide (show (turL k ds).length ≤ 100 by rw [tur_len]; omega)
  clear u1 u2 u3 U hlen h16 hk r0 hw
  obtain ⟨TL, hTL⟩ : ∃ q, q = turL k ds := ⟨_, rfl⟩
  rw [← hTL] at hsc HWN HL HB
  clear hTL
  go_wp2_with fail
  refine hsc.mono ?_
  rintro e w3 ⟨v3, rfl, r3, k3⟩
  have hft := own8_spec (k : Int) w3 (unhide HL) (unhide HWN) r3
  obtain ⟨a3, d3, hv3⟩ := r3.form'
  subst hv3
  replace f0 := k3.loose0 (World.block_lt_of_cell? _ _ q0) f0
  replace f1 := k3.loose0 (World.block_lt_of_cell? _ _ q1) f1
  replace q0 := k3.cell0 q0
  replace q1 := k3.cell0 q1
  have K3 := hide ((unhide K1).trans k3)
  have z3 := k3.size
  clear hsc r3 k3 K1 c0 c1
  go_wp2_with fail
  refine hft.mono ?_
  rintro e w4 ⟨v4, rfl, r4, k4⟩
  obtain ⟨a4, d4, hv4⟩ := r4.form'
  subst hv4
  replace f0 := k4.loose0 (World.block_lt_of_cell? _ _ q0) f0
  replace f1 := k4.loose0 (World.block_lt_of_cell? _ _ q1) f1
  replace q0 := k4.cell0 q0
  replace q1 := k4.cell0 q1
  have K7 := hide ((((unhide K3).trans k4).setNew (p := ⟨w.heap.size + 1, 0, none⟩) (by simp) (.int .i64 (k : Int))).setNew (p := ⟨w.heap.size + 1, 1, none⟩) (by simp) (.slice a4 TL.length d4))
  have ks : Kept (w.heap.size + 1) (w.heap.size + 2) w4 ((w4.setCell ⟨w.heap.size + 1, 0, none⟩ (.int .i64 (k : Int))).setCell ⟨w.heap.size + 1, 1, none⟩ (.slice a4 TL.length d4)) :=
    ((Kept.refl _ _ _).setCell (p := ⟨w.heap.size + 1, 0, none⟩) (Nat.le_refl _) (Nat.lt_succ_self _) _).setCell (p := ⟨w.heap.size + 1, 1, none⟩) (Nat.le_refl _) (Nat.lt_succ_self _) _
  have hsz : ((w4.setCell ⟨w.heap.size + 1, 0, none⟩ (.int .i64 (k : Int))).setCell ⟨w.heap.size + 1, 1, none⟩ (.slice a4 TL.length d4)).heap.size = w4.heap.size := by rw [size_set, size_set]
  have R7 := hide ((r4.kept ks (by omega)).wider (lo' := w.heap.size) (hi' := ((w4.setCell ⟨w.heap.size + 1, 0, none⟩ (.int .i64 (k : Int))).setCell ⟨w.heap.size + 1, 1, none⟩ (.slice a4 TL.length d4)).heap.size) (by omega) (by omega))
  clear hft r4 k4 ks hsz K3
  go_wp2
  exact bodyPost_ret (v := .tuple #[.agg #[.int .i64 (k : Int), .slice a4 TL.length d4], .bool true]) (by simp [results, Tryd.results16, go_sem, q0, q1]) rfl ⟨.slice a4 TL.length d4, by rw [(unhide HB).1, (unhide HB).2.2], by rw [(unhide HB).2.1]; exact unhide R7, unhide K7⟩

end Go.Proofs.YtagaofpkfpfilaaDoor
