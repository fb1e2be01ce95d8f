/-
  MatTurn of the program.
-/
import Derived.Test.YtagaofpkfpfilaaDoorTsq
import Derived.Test.YtagaofpkfpfilaaDoorMt0
import Derived.Test.YtagaofpkfpfilaaDoorMu2
import Derived.Test.YtagaofpkfpfilaaDoorMs5
namespace Go.Proofs.YtagaofpkfpfilaaDoor
open Go.RowKit
set_option linter.unusedVariables false
set_option maxRecDepth 8000
set_option linter.unusedSimpArgs false

theorem dok_len {s : Bool} {z : List Int} {y : Int} (h : dokB s z y = true) : z.length ≤ 100 ∧ Nrm z ∧ -3000 ≤ y ∧ y ≤ 3000 := by
  obtain ⟨h1, h2, h3, -, -⟩ := dok_parts h
  exact ⟨(wok_int h1).2.2.1, (wok_int h1).2.2.2, h2, h3⟩

set_option maxHeartbeats 8000000 in
theorem matTurn_impl {lo hi : Nat} {v : Value} {ds : List DE} (n : Int) (w : World) (hw : WfD ds) (r : Dys lo hi w v ds) (T : TabB w) :
    Calls Tryd.prog 17 #[.agg #[.int .i64 n, v]] w fun e w' => ∃ v', e = .returned (.tuple #[.agg #[.int .i64 (tuN n ds), v'], .bool (tuB n ds)]) ∧ DysO w.heap.size w'.heap.size w' v' (tuL n ds) ∧ Kept 0 0 w w' := by
  obtain ⟨W, hW⟩ : ∃ W, W = (w.alloc (.cells #[.int .i64 n, v] 37)).alloc (.cells #[.int .i64 0, .slice none 0 0] 37) := ⟨_, rfl⟩
  have k0 : Kept 0 0 w W := by rw [hW]; exact ((Kept.refl 0 0 w).alloc _).alloc _
  have c0 : W.cell? ⟨w.heap.size, 0, none⟩ = some (.int .i64 n) := by rw [hW]; exact old_cell _ (new_cell2 _ _ _ _ _ _ (by simp) rfl)
  have c1 : W.cell? ⟨w.heap.size, 1, none⟩ = some v := by rw [hW]; exact old_cell _ (new_cell2 _ _ _ _ _ _ (by simp) rfl)
  have q0 : W.cell? ⟨w.heap.size + 1, 0, none⟩ = some (.int .i64 0) := by rw [hW]; exact new_cell2 _ _ _ _ _ _ (by simp) rfl
  have q1 : W.cell? ⟨w.heap.size + 1, 1, none⟩ = some (.slice none 0 0) := by rw [hW]; exact new_cell2 _ _ _ _ _ _ (by simp) rfl
  have f0 : W.frozen? ⟨w.heap.size + 1, 0, none⟩ = false := by rw [hW]; exact new_loose2 _ _ _ _ _ (by simp)
  have f1 : W.frozen? ⟨w.heap.size + 1, 1, none⟩ = false := by rw [hW]; exact new_loose2 _ _ _ _ _ (by simp)
  have sW : W.heap.size = w.heap.size + 2 := by rw [hW]; simp
  have r0 := r.kept k0 (by omega)
  have ho := matOk_impl n W hw r0
  obtain ⟨a, c, rfl, -, -⟩ := r.form
  rw [hW] at ho
  have TT := hide T
  have hT := World.block_lt_of_cell? _ _ (T 0 (by decide))
  have HT := hide hT
  clear r T hT
  go_enter Tryd.func17, Tryd.ntmps17
  go_wp2_with fail
  rw [← hW] at ho ⊢
  clear hW
  refine ho.mono ?_
  rintro e w1 ⟨rfl, k1⟩
  replace f0 := k1.loose0 (World.block_lt_of_cell? _ _ q0) f0
  replace f1 := k1.loose0 (World.block_lt_of_cell? _ _ q1) f1
  replace c0 := k1.cell0 c0
  replace c1 := k1.cell0 c1
  replace q0 := k1.cell0 q0
  replace q1 := k1.cell0 q1
  replace r0 := r0.kept k1 (by omega)
  have K1 := hide (k0.trans k1)
  have z1 := k1.size
  clear ho k0 k1
  cases hk : mokB n ds
  · have HB := hide (tu_no hk)
    have K7 := hide (((unhide K1).setNew (p := ⟨w.heap.size + 1, 0, none⟩) (by simp) (.int .i64 0)).setNew (p := ⟨w.heap.size + 1, 1, none⟩) (by simp) (.slice none 0 0))
    clear r0 K1 hk
    go_wp2
    exact bodyPost_ret (v := .tuple #[.agg #[.int .i64 0, .slice none 0 0], .bool false]) (by simp [results, Tryd.results17, go_sem, q0, q1]) rfl ⟨.slice none 0 0, by rw [(unhide HB).1, (unhide HB).2.2], by rw [(unhide HB).2.1]; exact DysO.void _ _ _, unhide K7⟩
  obtain ⟨u1, u2, u3, U⟩ := mok_partsA hk
  obtain ⟨k, rfl⟩ := Int.eq_ofNat_of_zero_le (show 0 ≤ n by omega)
  have hlen : ds.length = k * k := by rw [← Int.natCast_mul] at u3; omega
  have h16 : k * k ≤ 4 * 4 := Nat.mul_le_mul (by omega) (by omega)
  have hsc := squareOf_impl w1 (show k ≤ 1000 by omega) hlen (fun q hq => by have := (dok_len (U q hq)).1; omega) r0
  have HB := hide (tu_yes hk)
  have HU := hide U
  have HLEN := hide hlen
  have hk1 : 0 < k := by omega
  have hk4 : k ≤ 4 := by omega
  have HK := hide (show 0 < k ∧ k ≤ 4 from ⟨hk1, hk4⟩)
  clear u1 u2 u3 U hlen h16 hk r0 hw hk1 hk4
  go_wp2_with fail
  refine hsc.mono ?_
  rintro e w3 ⟨R3, G3, S3, rfl, sq3, nm3, hS3, k3⟩
  have htu := turned_impl w3 (by have := (unhide HK).2; omega) sq3 nm3
  replace f0 := k3.loose0 (World.block_lt_of_cell? _ _ q0) f0
  replace f1 := k3.loose0 (World.block_lt_of_cell? _ _ q1) f1
  replace q0 := k3.cell0 q0
  replace q1 := k3.cell0 q1
  have K3 := hide ((unhide K1).trans k3)
  have z3 := k3.size
  have K1s := hide (unhide K1).size
  clear hsc k3 K1 c0 c1 sq3 nm3 hS3
  go_wp2_with fail
  refine htu.mono ?_
  rintro e w4 ⟨R4, G4, S4, rfl, sq4, nm4, hS4, k4⟩
  have K4 := hide ((unhide K3).trans k4)
  have hF : ∀ p, p < k * k → tdB (ds.getD (turP k p) de0) = true ∧ tdE (ds.getD (turP k p) de0) = ds.getD (turP k p) de0 ∧ TelOk (ds.getD (turP k p) de0) := fun p hp => by
    have hd := unhide HU _ (by rw [unhide HLEN]; exact turP_lt hp)
    obtain ⟨b1, b2, b3, b4⟩ := ans_back hd
    obtain ⟨d1, d2, d3, d4⟩ := dok_len hd
    exact ⟨b4, by unfold tdE; rw [b1, b2, b3], d2, by omega, by omega, by omega⟩
  have hts := toldSquare_impl (unhide HK).1 (by have := (unhide HK).2; omega) w4 sq4 nm4 (fun p hp => (hF p hp).2.2) (fun q hq => (unhide K4).cell0 (unhide TT q hq)) (by have h1 := unhide HT; have h2 := unhide K1s; exact Nat.lt_of_lt_of_le h1 (by omega))
  have e1 : allB (fun p => tdB (ds.getD (turP k p) de0)) (k * k) = true := allB_yes (fun p hp => (hF p hp).1)
  have e2 : telN (fun p => tdB (ds.getD (turP k p) de0)) (k * k) (k : Int) = (k : Int) := by unfold telN; rw [if_pos e1]
  have e3 : telL (fun p => tdE (ds.getD (turP k p) de0)) (fun p => tdB (ds.getD (turP k p) de0)) (k * k) = turL k ds := by
    unfold telL turL
    rw [if_pos e1]
    exact List.map_congr_left (fun p hp => (hF p (List.mem_range.1 hp)).2.1)
  rw [e1, e2, e3] at hts
  obtain ⟨TL, hTL⟩ : ∃ q, q = turL k ds := ⟨_, rfl⟩
  rw [← hTL] at hts HB
  replace f0 := k4.loose0 (World.block_lt_of_cell? _ _ q0) f0
  replace f1 := k4.loose0 (World.block_lt_of_cell? _ _ q1) f1
  replace q0 := k4.cell0 q0
  replace q1 := k4.cell0 q1
  have z4 := k4.size
  have hs1 : w.heap.size + 2 ≤ w1.heap.size := by omega
  clear htu k4 K3 sq4 nm4 hS4 hF e1 e2 e3 hTL HU HLEN HK TT HT K1s
  go_wp2_with fail
  refine hts.mono ?_
  rintro e w5 ⟨v5, rfl, r5, k5⟩
  obtain ⟨a5, d5, hv5⟩ := r5.form'
  subst hv5
  replace f0 := k5.looseOut (a := ⟨w.heap.size + 1, 0, none⟩) (.inl (by dsimp only; omega)) (World.block_lt_of_cell? _ _ q0) f0
  replace f1 := k5.looseOut (a := ⟨w.heap.size + 1, 1, none⟩) (.inl (by dsimp only; omega)) (World.block_lt_of_cell? _ _ q1) f1
  replace q0 := k5.cellOut (a := ⟨w.heap.size + 1, 0, none⟩) (.inl (by dsimp only; omega)) q0
  replace q1 := k5.cellOut (a := ⟨w.heap.size + 1, 1, none⟩) (.inl (by dsimp only; omega)) q1
  have z5 := k5.size
  have K7 := hide ((((unhide K4).wide k5 (by omega)).setNew (p := ⟨w.heap.size + 1, 0, none⟩) (by simp) (.int .i64 (k : Int))).setNew (p := ⟨w.heap.size + 1, 1, none⟩) (by simp) (.slice a5 TL.length d5))
  have ks : Kept (w.heap.size + 1) (w.heap.size + 2) w5 ((w5.setCell ⟨w.heap.size + 1, 0, none⟩ (.int .i64 (k : Int))).setCell ⟨w.heap.size + 1, 1, none⟩ (.slice a5 TL.length d5)) :=
    ((Kept.refl _ _ _).setCell (p := ⟨w.heap.size + 1, 0, none⟩) (Nat.le_refl _) (Nat.lt_succ_self _) _).setCell (p := ⟨w.heap.size + 1, 1, none⟩) (Nat.le_refl _) (Nat.lt_succ_self _) _
  have hsz : ((w5.setCell ⟨w.heap.size + 1, 0, none⟩ (.int .i64 (k : Int))).setCell ⟨w.heap.size + 1, 1, none⟩ (.slice a5 TL.length d5)).heap.size = w5.heap.size := by rw [size_set, size_set]
  have R7 := hide ((r5.kept ks (by omega)).wider (lo' := w.heap.size) (hi' := ((w5.setCell ⟨w.heap.size + 1, 0, none⟩ (.int .i64 (k : Int))).setCell ⟨w.heap.size + 1, 1, none⟩ (.slice a5 TL.length d5)).heap.size) (by omega) (by omega))
  clear hts r5 k5 ks hsz K4
  go_wp2
  exact bodyPost_ret (v := .tuple #[.agg #[.int .i64 (k : Int), .slice a5 TL.length d5], .bool true]) (by simp [results, Tryd.results17, go_sem, q0, q1]) rfl ⟨.slice a5 TL.length d5, by rw [(unhide HB).1, (unhide HB).2.2], by rw [(unhide HB).2.1]; exact unhide R7, unhide K7⟩

theorem tur_mok {k : Nat} {ds : List DE} (h : mokB (k : Int) ds = true) : mokB (k : Int) (turL k ds) = true := by
  obtain ⟨u1, u2, u3, U⟩ := mok_partsA h
  have hlen : ds.length = k * k := by rw [← Int.natCast_mul] at u3; omega
  rw [mok_yes (by simp; omega) (by rw [tur_len]; simp)]
  exact all_done (fun i hi => tur_dok hlen U i hi)
theorem tu_sz (n : Int) (ds : List DE) : szT (tuL n ds) ≤ 2000 := by
  cases h : mokB n ds
  · rw [(tu_no h).2.1]; decide
  obtain ⟨u1, u2, u3, U⟩ := mok_partsA h
  obtain ⟨k, rfl⟩ := Int.eq_ofNat_of_zero_le (show 0 ≤ n by omega)
  rw [(tu_yes h).2.1]
  exact mok_sz (tur_mok h)

end Go.Proofs.YtagaofpkfpfilaaDoor
