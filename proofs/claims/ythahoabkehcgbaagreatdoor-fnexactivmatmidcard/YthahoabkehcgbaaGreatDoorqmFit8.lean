/-
  The model's l8new and l8fits; a matrix as a law's answer.
-/
import Derived.Test.YthahoabkehcgbaaGreatDoorqmBX
import Derived.Test.YthahoabkehcgbaaGreatDoorqmBW
import Derived.Test.YthahoabkehcgbaaGreatDoorqmMs1
import Derived.Test.YthahoabkehcgbaaGreatDoorqmBJ
import Derived.Test.YthahoabkehcgbaaGreatDoorqmDys4
namespace Go.Proofs.YthahoabkehcgbaaGreatDoor
open Go.RowKit
set_option linter.unusedVariables false
set_option maxRecDepth 8000
set_option linter.unusedSimpArgs false

theorem Fill.keptW {lo g n l h : Nat} {ds : List DE} {w w' : World} (f : Fill lo g n ds 0 w) (k : Kept l h w w') (hg : g < l ∨ h ≤ g) : Fill lo g n ds 0 w' := by
  have hb := k.block g f.lt hg
  exact ⟨Nat.lt_of_lt_of_le f.lt k.size, ⟨fun _ => 0, fun i hi => by omega, fun i i' _ hi => by omega⟩, fun q hq => by obtain ⟨x, hx⟩ := f.cell q hq; exact ⟨x, (World.cell?_of_block (w := w) (a := ⟨g, q, none⟩) hb).trans hx⟩, fun q hq => (World.frozen?_of_block (w := w) (a := ⟨g, q, none⟩) hb).trans (f.loose q hq)⟩

set_option maxHeartbeats 4000000 in
theorem new8_spec {k : Nat} (hk : k ≤ 4) (w : World) (EL : List DE) :
    Calls Tryz.prog 134 #[.int .i64 (k : Int)] w fun e w' => ∃ g, e = .returned (.agg #[.int .i64 (k : Int), .slice (some ⟨g, 0, none⟩) (k * k) (k * k)]) ∧ Fill 0 g (k * k) EL 0 w' ∧ w.heap.size ≤ g ∧ Kept 0 0 w w' := by
  obtain ⟨W, hW⟩ : ∃ W, W = w.alloc (.cells #[.int .i64 0, .slice none 0 0] 59) := ⟨_, rfl⟩
  have k0 : Kept 0 0 w W := by rw [hW]; exact (Kept.refl 0 0 w).alloc _
  have R0 : W.cell? ⟨w.heap.size, 0, none⟩ = some (.int .i64 0) := by rw [hW]; exact new_cell2 _ _ _ _ _ _ rfl rfl
  have R1 : W.cell? ⟨w.heap.size, 1, none⟩ = some (.slice none 0 0) := by rw [hW]; exact new_cell2 _ _ _ _ _ _ rfl rfl
  have Rf0 : W.frozen? ⟨w.heap.size, 0, none⟩ = false := by rw [hW]; exact new_loose2 _ _ _ _ _ rfl
  have Rf1 : W.frozen? ⟨w.heap.size, 1, none⟩ = false := by rw [hW]; exact new_loose2 _ _ _ _ _ rfl
  have sW : W.heap.size = w.heap.size + 1 := by rw [hW]; simp
  have h16 : k * k ≤ 4 * 4 := Nat.mul_le_mul hk hk
  have hwr : IntKind.i64.wrap ((k : Int) * (k : Int)) = ((k * k : Nat) : Int) := by rw [IntKind.wrap_i64, ← Int.natCast_mul]; omega
  obtain ⟨n, hn⟩ : ∃ n, n = k * k := ⟨_, rfl⟩
  rw [← hn] at hwr h16 ⊢
  obtain ⟨i0, hi0, hz0, hz1, hz2⟩ := info_parts Tryz.infoDy
  have hb0 : i0.bytes * n ≤ 281474976710656 := by rw [hz2]; omega
  have hm0 : n ≤ maxLen := by unfold maxLen; omega
  have SW := hide sW
  clear hn sW
  go_enter Tryz.func134, Tryz.ntmps134
  go_wp2_with (at_make; rw [← hW]; refine wpList_make_full _ rfl _ _ 57 rfl W.heap.size 52 i0 (.agg #[.bool false, .slice none 0 0, .int .i64 0]) 3 Tryz.underlying57 hi0 hz0 hz1 .i64 .i64 _ _ n rfl rfl rfl rfl hb0 hm0 (Nat.le_refl _) ?_; intro w1 hown hgrow; have R0' := R0; have k1 : Kept 0 0 W w1 := ⟨hgrow.os, hgrow.tape, hgrow.output, hgrow.size, fun i hi _ => hgrow.block i hi (by simp)⟩; replace R0' := k1.cell0 R0; have R1' := k1.cell0 R1; have Rf0' := k1.loose0 (World.block_lt_of_cell? _ _ R0) Rf0; have Rf1' := k1.loose0 (World.block_lt_of_cell? _ _ R1) Rf1; have F0 := hide (made_fill (w := W) (lo := 0) (ds := EL) hown); clear hown hgrow)
  have sW := unhide SW
  rw [sW] at F0
  have ks : Kept w.heap.size (w.heap.size + 1) w1 ((w1.setCell ⟨w.heap.size, 0, none⟩ (.int .i64 (k : Int))).setCell ⟨w.heap.size, 1, none⟩ (.slice (some ⟨w.heap.size + 1, 0, none⟩) n n)) :=
    ((Kept.refl _ _ _).setCell (p := ⟨w.heap.size, 0, none⟩) (Nat.le_refl _) (Nat.lt_succ_self _) _).setCell (p := ⟨w.heap.size, 1, none⟩) (Nat.le_refl _) (Nat.lt_succ_self _) _
  have F1 := hide ((unhide F0).keptW ks (by omega))
  have K7 := hide ((k0.trans k1).wide ks (Nat.le_refl _))
  have G0 := cell_off _ _ _ 1 (.slice (some ⟨w.heap.size + 1, 0, none⟩) n n) _ (cell_on _ _ _ (.int .i64 (k : Int)) _ R0') (show (0 : Nat) ≠ 1 by omega)
  have G1 := cell_on _ _ _ (.slice (some ⟨w.heap.size + 1, 0, none⟩) n n) _ (cell_off _ _ _ 0 (.int .i64 (k : Int)) _ R1' (show (1 : Nat) ≠ 0 by omega))
  exact bodyPost_ret (v := .agg #[.int .i64 (k : Int), .slice (some ⟨w.heap.size + 1, 0, none⟩) n n]) (by simp [results, Tryz.results134, go_sem, G0, G1]) rfl ⟨w.heap.size + 1, rfl, unhide F1, by omega, unhide K7⟩

def fitB (m : Int) (ds : List DE) : Bool := mokB m ds
def fitN (m : Int) (ds : List DE) : Int := if mokB m ds = true then m else 0
def fitL (m : Int) (ds : List DE) : List DE := if mokB m ds = true then ds else []
theorem fit_yes {m : Int} {ds : List DE} (h : mokB m ds = true) : fitB m ds = true ∧ fitN m ds = m ∧ fitL m ds = ds := by
  unfold fitB fitN fitL; rw [if_pos h, if_pos h]; exact ⟨h, rfl, rfl⟩
theorem fit_no {m : Int} {ds : List DE} (h : mokB m ds = false) : fitB m ds = false ∧ fitN m ds = 0 ∧ fitL m ds = [] := by
  unfold fitB fitN fitL; rw [if_neg (by rw [h]; simp), if_neg (by rw [h]; simp)]; exact ⟨h, rfl, rfl⟩

set_option maxHeartbeats 4000000 in
theorem fits8_spec {lo hi : Nat} {v : Value} {ds : List DE} (m : Int) (w : World) (hn : ds.length ≤ 100) (hw : WfD ds) (hwn : AllWN ds) (r : Dys lo hi w v ds) :
    Calls Tryz.prog 68 #[.agg #[.int .i64 m, v]] w fun e w' => ∃ v', e = .returned (.tuple #[.agg #[.int .i64 (fitN m ds), v'], .bool (fitB m ds)]) ∧ DysO w.heap.size w'.heap.size w' v' (fitL m ds) ∧ Kept 0 0 w w' := by
  obtain ⟨W, hW⟩ : ∃ W, W = (w.alloc (.cells #[.int .i64 m, v] 59)).alloc (.cells #[.int .i64 0, .slice none 0 0] 59) := ⟨_, rfl⟩
  have k0 : Kept 0 0 w W := by rw [hW]; exact ((Kept.refl 0 0 w).alloc _).alloc _
  have c0 : W.cell? ⟨w.heap.size, 0, none⟩ = some (.int .i64 m) := by rw [hW]; exact old_cell _ (new_cell2 _ _ _ _ _ _ (by simp) rfl)
  have c1 : W.cell? ⟨w.heap.size, 1, none⟩ = some v := by rw [hW]; exact old_cell _ (new_cell2 _ _ _ _ _ _ (by simp) rfl)
  have q0 : W.cell? ⟨w.heap.size + 1, 0, none⟩ = some (.int .i64 0) := by rw [hW]; exact new_cell2 _ _ _ _ _ _ (by simp) rfl
  have q1 : W.cell? ⟨w.heap.size + 1, 1, none⟩ = some (.slice none 0 0) := by rw [hW]; exact new_cell2 _ _ _ _ _ _ (by simp) rfl
  have f0 : W.frozen? ⟨w.heap.size + 1, 0, none⟩ = false := by rw [hW]; exact new_loose2 _ _ _ _ _ (by simp)
  have f1 : W.frozen? ⟨w.heap.size + 1, 1, none⟩ = false := by rw [hW]; exact new_loose2 _ _ _ _ _ (by simp)
  have sW : W.heap.size = w.heap.size + 2 := by rw [hW]; simp
  have r0 := r.kept k0 (by omega)
  have ho := matOk_spec m W hw r0
  obtain ⟨a, c, rfl, -, -⟩ := r.form
  rw [hW] at ho
  clear r
  go_enter Tryz.func68, Tryz.ntmps68
  go_wp2_with fail
  rw [← hW] at ho ⊢
  clear hW
  refine ho.mono ?_
  rintro e w1 ⟨rfl, k1⟩
  replace f0 := k1.loose0 (World.block_lt_of_cell? _ _ q0) f0
  replace f1 := k1.loose0 (World.block_lt_of_cell? _ _ q1) f1
  replace c0 := k1.cell0 c0
  replace c1 := k1.cell0 c1
  replace q0 := k1.cell0 q0
  replace q1 := k1.cell0 q1
  replace r0 := r0.kept k1 (by omega)
  have K1 := hide (k0.trans k1)
  have z1 := k1.size
  clear ho k0 k1
  cases hk : mokB m ds
  · have K7 := hide (((unhide K1).setNew (p := ⟨w.heap.size + 1, 0, none⟩) (by simp) (.int .i64 0)).setNew (p := ⟨w.heap.size + 1, 1, none⟩) (by simp) (.slice none 0 0))
    have HK := hide hk
    clear r0 K1 hk
    go_wp2
    exact bodyPost_ret (v := .tuple #[.agg #[.int .i64 0, .slice none 0 0], .bool false]) (by simp [results, Tryz.results68, go_sem, q0, q1]) rfl ⟨.slice none 0 0, by rw [(fit_no (unhide HK)).1, (fit_no (unhide HK)).2.1], by rw [(fit_no (unhide HK)).2.2]; exact DysO.void _ _ _, unhide K7⟩
  have hown := own8_spec m w1 hn hwn r0
  have HK := hide hk
  clear hk
  go_wp2_with fail
  refine hown.mono ?_
  rintro e w2 ⟨v2, rfl, r2, k2⟩
  obtain ⟨a2, d2, hv2⟩ := r2.form'
  subst hv2
  replace f0 := k2.loose0 (World.block_lt_of_cell? _ _ q0) f0
  replace f1 := k2.loose0 (World.block_lt_of_cell? _ _ q1) f1
  replace q0 := k2.cell0 q0
  replace q1 := k2.cell0 q1
  have K7 := hide ((((unhide K1).trans k2).setNew (p := ⟨w.heap.size + 1, 0, none⟩) (by simp) (.int .i64 m)).setNew (p := ⟨w.heap.size + 1, 1, none⟩) (by simp) (.slice a2 ds.length d2))
  have ks : Kept (w.heap.size + 1) (w.heap.size + 2) w2 ((w2.setCell ⟨w.heap.size + 1, 0, none⟩ (.int .i64 m)).setCell ⟨w.heap.size + 1, 1, none⟩ (.slice a2 ds.length d2)) :=
    ((Kept.refl _ _ _).setCell (p := ⟨w.heap.size + 1, 0, none⟩) (Nat.le_refl _) (Nat.lt_succ_self _) _).setCell (p := ⟨w.heap.size + 1, 1, none⟩) (Nat.le_refl _) (Nat.lt_succ_self _) _
  have hsz : ((w2.setCell ⟨w.heap.size + 1, 0, none⟩ (.int .i64 m)).setCell ⟨w.heap.size + 1, 1, none⟩ (.slice a2 ds.length d2)).heap.size = w2.heap.size := by rw [size_set, size_set]
  have R7 := hide ((r2.kept ks (by omega)).wider (lo' := w.heap.size) (hi' := ((w2.setCell ⟨w.heap.size + 1, 0, none⟩ (.int .i64 m)).setCell ⟨w.heap.size + 1, 1, none⟩ (.slice a2 ds.length d2)).heap.size) (by omega) (by omega))
  clear hown r2 k2 ks hsz c0 c1 K1 r0
  go_wp2
  exact bodyPost_ret (v := .tuple #[.agg #[.int .i64 m, .slice a2 ds.length d2], .bool true]) (by simp [results, Tryz.results68, go_sem, q0, q1]) rfl ⟨.slice a2 ds.length d2, by rw [(fit_yes (unhide HK)).1, (fit_yes (unhide HK)).2.1], by rw [(fit_yes (unhide HK)).2.2]; exact unhide R7, unhide K7⟩

theorem limT_le (ds : List DE) (h : ∀ i, i < ds.length → (ds.getD i de0).2.1.length ≤ 100) : ∀ j, j ≤ ds.length → limT ds j ≤ 100 * j
  | 0, _ => Nat.le_refl _
  | j + 1, hj => by
    have h1 := limT_le ds h j (by omega)
    have h2 := h j (by omega)
    show limT ds j + _ ≤ _
    omega
theorem mok_sz {n : Int} {ds : List DE} (h : mokB n ds = true) : szT ds ≤ 2000 := by
  obtain ⟨u1, u2, u3, U⟩ := mok_partsA h
  obtain ⟨k, rfl⟩ := Int.eq_ofNat_of_zero_le (show 0 ≤ n by omega)
  have hlen : ds.length = k * k := by rw [← Int.natCast_mul] at u3; omega
  have h16 : k * k ≤ 4 * 4 := Nat.mul_le_mul (by omega) (by omega)
  have h1 := limT_le ds (fun i hi => by
    obtain ⟨w1', -, -, -, -⟩ := dok_parts (U i hi)
    obtain ⟨-, -, lx, hx⟩ := wok_int w1'
    omega) ds.length (Nat.le_refl _)
  unfold szT
  omega
end Go.Proofs.YthahoabkehcgbaaGreatDoor

