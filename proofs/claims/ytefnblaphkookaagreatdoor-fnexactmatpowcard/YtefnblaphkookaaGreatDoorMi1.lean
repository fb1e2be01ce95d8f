/-
  A number on the way down of a square: the program's scalar; MatId of the program.
-/
import Derived.Test.YtefnblaphkookaaGreatDoorAg
import Derived.Test.YtefnblaphkookaaGreatDoorTsq
import Derived.Test.YtefnblaphkookaaGreatDoorMt0
import Derived.Test.YtefnblaphkookaaGreatDoorBI
namespace Go.Proofs.YtefnblaphkookaaGreatDoor
open Go.RowKit
set_option linter.unusedVariables false
set_option maxRecDepth 8000
set_option linter.unusedSimpArgs false

theorem new_dyp {w0 w : World} {u : Value} {xs : List Int} (s : Bool) (x : Int) (t : TypeId) (k : Kept 0 0 w0 w) (O : w.ownsRow w0.heap.size 3 1 u xs.length (xs.map (Value.int .i64))) :
    DyP (fun y => y < w0.heap.size) (w.alloc (.cells #[u, .bool s, .int .i64 x] t)) w.heap.size (s, xs, x) := by
  obtain ⟨n1, s1, x1⟩ := new_dya s x t O
  have := k.size
  exact ⟨_, n1.less (Nat.zero_le _), s1, x1, by omega, fun q hq => by have := (O.lt q hq).1; omega⟩

theorem in_scalar1 : ∀ (w : World) (args : Array Value), (callFunc 61 args).run Tryz.prog w = .ok (.enter 61 args) w := enters Tryz.func61 (by decide) (fun h => by cases h)

set_option maxHeartbeats 4000000 in
theorem scalar1_impl {B i j : Nat} {u : Value} {zs : List Int} {s : Bool} {x : Int} (w : World) (hi : i ≤ 1000) (hj : j ≤ 1000) (n : Num 0 w B u zs) (sd : Sd w B s) (ex : Ex w B x) (hl : zs.length ≤ 1000000) :
    Calls Tryz.prog 61 #[.int .i64 (i : Int), .int .i64 (j : Int), .pointer (some ⟨B, 0, none⟩)] w fun e w' => ∃ g, e = .returned (.pointer (some ⟨g, 0, none⟩)) ∧ DyP (fun y => y < w.heap.size) w' g (if i = j then (s, zs, x) else de0) ∧ Kept 0 0 w w' := by
  by_cases hij : i = j
  · subst hij
    rw [if_pos rfl]
    have ha := again_impl w n sd ex hl
    clear n sd ex
    go_enter Tryz.func61, Tryz.ntmps61
    go_wp2_with fail
    refine ha.mono ?_
    rintro e w1 ⟨v1, rfl, o1, k1⟩
    obtain ⟨a1, d1, hv1⟩ := own_slice o1
    subst hv1
    have D := hide (new_dyp s x 77 k1 o1)
    have K1 := hide (k1.alloc (.cells #[.slice a1 zs.length d1, .bool s, .int .i64 x] 77))
    clear ha o1 k1
    go_wp2
    go_ret
    exact ⟨_, rfl, unhide D, unhide K1⟩
  · rw [if_neg hij]
    have hne : ¬ (i : Int) = (j : Int) := by omega
    have D := hide (new_dyp (w0 := w) (xs := []) false 0 77 (Kept.refl 0 0 w) (World.ownsRow_nil w w.heap.size 3 1))
    clear n sd ex
    go_enter Tryz.func61, Tryz.ntmps61
    go_wp2
    go_ret
    exact ⟨_, rfl, unhide D, (Kept.refl 0 0 w).alloc _⟩

/-- d on the way down, noughts else. -/
def scaF (n : Nat) (d : DE) (p : Nat) : DE := if p / n = p % n then d else de0
theorem scaF_at {n i j : Nat} (d : DE) (hj : j < n) : scaF n d (i * n + j) = if i = j then d else de0 := by
  unfold scaF
  rw [Nat.mul_comm i n, Nat.mul_add_mod, Nat.mod_eq_of_lt hj, Nat.mul_add_div (by omega), Nat.div_eq_of_lt hj, Nat.add_zero]

set_option maxHeartbeats 4000000 in
theorem scalar_impl {n : Nat} {v : Value} {zs : List Int} (s : Bool) (x : Int) (w : World) (hn : n ≤ 1000) (own : w.ownsRow 0 3 1 v zs.length (zs.map (Value.int .i64))) (hl : zs.length ≤ 1000000) :
    Calls Tryz.prog 35 #[.int .i64 (n : Int), .agg #[v, .bool s, .int .i64 x]] w fun e w' => ∃ R G S, e = .returned (.agg #[.slice (some ⟨R, 0, none⟩) n n]) ∧ SqG S w' R n n G ∧ Nums w.heap.size S w' (n * n) G (scaF n (s, zs, x)) ∧ (∀ x, S x → w.heap.size ≤ x ∧ x < w'.heap.size) ∧ Kept 0 0 w w' := by
  obtain ⟨a, c, hv⟩ := own_slice own
  subst hv
  obtain ⟨W, hW⟩ : ∃ W, W = (w.alloc (.cells #[.slice a zs.length c, .bool s, .int .i64 x] 77)).alloc (.cells #[.slice none 0 0] 69) := ⟨_, rfl⟩
  have k0 : Kept 0 0 w W := by rw [hW]; exact ((Kept.refl 0 0 w).alloc _).alloc _
  obtain ⟨n1, s1, x1⟩ := new_dya s x 77 own
  have kA := (Kept.refl 0 0 (w.alloc (.cells #[.slice a zs.length c, .bool s, .int .i64 x] 77))).alloc (.cells #[.slice none 0 0] 69)
  have n2 : Num 0 W w.heap.size (.slice a zs.length c) zs := by rw [hW]; exact n1.kept kA
  have s2 : Sd W w.heap.size s := by rw [hW]; exact ⟨kA.cell0 s1.1, kA.loose0 (a := ⟨w.heap.size, 1, none⟩) n1.lt s1.2⟩
  have x2 : Ex W w.heap.size x := by rw [hW]; exact ⟨kA.cell0 x1.1, kA.loose0 (a := ⟨w.heap.size, 2, none⟩) n1.lt x1.2⟩
  have q0 : W.cell? ⟨w.heap.size + 1, 0, none⟩ = some (.slice none 0 0) := by rw [hW]; exact new_cell2 _ _ _ _ _ _ (by simp) rfl
  have qf : W.frozen? ⟨w.heap.size + 1, 0, none⟩ = false := by rw [hW]; exact new_loose2 _ _ _ _ _ (by simp)
  have sW : W.heap.size = w.heap.size + 2 := by rw [hW]; simp
  have hm := makeSquare_new (n := n) hn 61 in_scalar1 #[.pointer (some ⟨w.heap.size, 0, none⟩)] (scaF n (s, zs, x)) W (fun i j w' hi hj k => by
    rw [scaF_at _ hj]
    have hb := n2.lt
    exact scalar1_impl (B := w.heap.size) w' (by omega) (by omega) (n2.kept k) ⟨k.cell0 s2.1, k.loose0 (a := ⟨w.heap.size, 1, none⟩) hb s2.2⟩ ⟨k.cell0 x2.1, k.loose0 (a := ⟨w.heap.size, 2, none⟩) hb x2.2⟩ hl)
  rw [hW] at hm
  have SW := hide sW
  clear n1 s1 x1 n2 s2 x2 kA sW own
  go_enter Tryz.func35, Tryz.ntmps35
  go_wp2_with fail
  refine hm.mono ?_
  rw [← hW]
  rintro e w1 ⟨R, G, S, rfl, sq, nm, hS, hR, k1⟩
  have q1 := k1.cell0 q0
  have qf1 := k1.loose0 (World.block_lt_of_cell? _ _ q0) qf
  have sW := unhide SW
  have E1 := cell_on w1 (w.heap.size + 1) 0 (.slice (some ⟨R, 0, none⟩) n n) _ q1
  have ks : Kept (w.heap.size + 1) (w.heap.size + 2) w1 (w1.setCell ⟨w.heap.size + 1, 0, none⟩ (.slice (some ⟨R, 0, none⟩) n n)) := (Kept.refl _ _ _).setCell (p := ⟨w.heap.size + 1, 0, none⟩) (Nat.le_refl _) (Nat.lt_succ_self _) _
  have S2 : Hid (SqG S (w1.setCell ⟨w.heap.size + 1, 0, none⟩ (.slice (some ⟨R, 0, none⟩) n n)) R n n G ∧ Nums w.heap.size S (w1.setCell ⟨w.heap.size + 1, 0, none⟩ (.slice (some ⟨R, 0, none⟩) n n)) (n * n) G (scaF n (s, zs, x)) ∧ (∀ x, S x → w.heap.size ≤ x ∧ x < (w1.setCell ⟨w.heap.size + 1, 0, none⟩ (.slice (some ⟨R, 0, none⟩) n n)).heap.size)) :=
    ⟨sq.keptY ks (by omega), (nm.win ks (by omega)).less (by omega), fun x hx => by (have := hS x hx; rw [size_set]; omega)⟩
  have K2 := hide ((k0.trans k1).wide ks (by omega))
  clear hm sq nm hS hR k1 ks sW q0 qf
  go_wp2
  exact bodyPost_ret (v := .agg #[.slice (some ⟨R, 0, none⟩) n n]) (by simp [results, Tryz.results35, go_sem, E1]) rfl ⟨R, G, S, rfl, (unhide S2).1, (unhide S2).2.1, (unhide S2).2.2, unhide K2⟩

/-- What MatId answers. -/
def idB (n : Int) : Bool := decide (1 ≤ n) && decide (n ≤ 4)
def oneL (k : Nat) : List DE := (List.range (k * k)).map (scaF k (false, [1], 0))
def idN (n : Int) : Int := if idB n = true then n else 0
def idL (n : Int) : List DE := if idB n = true then oneL n.toNat else []
theorem id_no {n : Int} (h : idB n = false) : idN n = 0 ∧ idL n = [] ∧ idB n = false := by unfold idN idL; rw [h]; exact ⟨rfl, rfl, rfl⟩
theorem id_yes {k : Nat} (h : idB (k : Int) = true) : idN k = k ∧ idL k = oneL k ∧ idB k = true := by unfold idN idL; rw [if_pos h, if_pos h]; exact ⟨rfl, rfl, h⟩
theorem sca_dok (k p : Nat) : dokB (scaF k (false, [1], 0) p).1 (scaF k (false, [1], 0) p).2.1 (scaF k (false, [1], 0) p).2.2 = true := by
  unfold scaF
  split
  · decide
  · decide
theorem sca_tel (k p : Nat) : tdB (scaF k (false, [1], 0) p) = true ∧ tdE (scaF k (false, [1], 0) p) = scaF k (false, [1], 0) p ∧ TelOk (scaF k (false, [1], 0) p) := by
  have hd := sca_dok k p
  obtain ⟨b1, b2, b3, b4⟩ := ans_back hd
  obtain ⟨h1, h2, h3, -, -⟩ := dok_parts hd
  have h5 := (wok_int h1).2.2
  exact ⟨b4, by unfold tdE; rw [b1, b2, b3], h5.2, by have := h5.1; omega, by omega, by omega⟩

set_option maxHeartbeats 8000000 in
theorem matId_impl (n : Int) (hn1 : n ≤ 9223372036854775807) (hn0 : -9223372036854775808 ≤ n) (w : World) (T : TabB w) :
    Calls Tryz.prog 18 #[.int .i64 n] w fun e w' => ∃ v', e = .returned (.tuple #[.agg #[.int .i64 (idN n), v'], .bool (idB n)]) ∧ DysO w.heap.size w'.heap.size w' v' (idL n) ∧ Kept 0 0 w w' := by
  obtain ⟨W, hW⟩ : ∃ W, W = w.alloc (.cells #[.int .i64 0, .slice none 0 0] 28) := ⟨_, rfl⟩
  have k0 : Kept 0 0 w W := by rw [hW]; exact (Kept.refl 0 0 w).alloc _
  have q0 : W.cell? ⟨w.heap.size, 0, none⟩ = some (.int .i64 0) := by rw [hW]; exact new_cell2 _ _ _ _ _ _ (by simp) rfl
  have q1 : W.cell? ⟨w.heap.size, 1, none⟩ = some (.slice none 0 0) := by rw [hW]; exact new_cell2 _ _ _ _ _ _ (by simp) rfl
  have f0 : W.frozen? ⟨w.heap.size, 0, none⟩ = false := by rw [hW]; exact new_loose2 _ _ _ _ _ (by simp)
  have f1 : W.frozen? ⟨w.heap.size, 1, none⟩ = false := by rw [hW]; exact new_loose2 _ _ _ _ _ (by simp)
  have sW : W.heap.size = w.heap.size + 1 := by rw [hW]; simp
  have ho := isSide_impl n W
  rw [hW] at ho
  have HT := hide (World.block_lt_of_cell? _ _ (T 0 (by decide)))
  have TT := hide T
  clear T
  go_enter Tryz.func18, Tryz.ntmps18
  go_wp2_with fail
  rw [← hW] at ho ⊢
  clear hW
  refine ho.mono ?_
  rintro e w1 ⟨rfl, rfl⟩
  have hid : (decide (1 ≤ n) && decide (n ≤ 4)) = idB n := rfl
  rw [hid]
  clear ho hid
  cases hk : idB n
  · have HB := hide (id_no hk)
    have K7 := hide ((k0.setNew (p := ⟨w.heap.size, 0, none⟩) (by simp) (.int .i64 0)).setNew (p := ⟨w.heap.size, 1, none⟩) (by simp) (.slice none 0 0))
    clear k0 hk
    go_wp2
    exact bodyPost_ret (v := .tuple #[.agg #[.int .i64 0, .slice none 0 0], .bool false]) (by simp [results, Tryz.results18, go_sem, q0, q1]) rfl ⟨.slice none 0 0, by rw [(unhide HB).1, (unhide HB).2.2], by rw [(unhide HB).2.1]; exact DysO.void _ _ _, unhide K7⟩
  have hk2 := hk
  unfold idB at hk2
  simp only [Bool.and_eq_true, decide_eq_true_eq] at hk2
  obtain ⟨k, rfl⟩ := Int.eq_ofNat_of_zero_le (show 0 ≤ n by omega)
  have hs := signedOfInt_impl 1 (by decide) (by decide) w1
  rw [show wsg 1 = false by decide, show wlm 1 = [1] by decide] at hs
  have HB := hide (id_yes hk)
  have HK := hide (show 0 < k ∧ k ≤ 4 by omega)
  have SW := hide sW
  have K0 := hide k0
  clear hk hk2 sW k0 hn1 hn0
  go_wp2_with fail
  refine hs.mono ?_
  rintro e w2 ⟨v2, rfl, o2, k2⟩
  have hsc := scalar_impl (n := k) (zs := [1]) false 0 w2 (by have := (unhide HK).2; omega) (own_less o2 (Nat.zero_le _)) (by decide)
  obtain ⟨a2, d2, hv2⟩ := own_slice o2
  subst hv2
  replace f0 := k2.loose0 (World.block_lt_of_cell? _ _ q0) f0
  replace f1 := k2.loose0 (World.block_lt_of_cell? _ _ q1) f1
  replace q0 := k2.cell0 q0
  replace q1 := k2.cell0 q1
  have K2 := hide ((unhide K0).trans k2)
  have z2 := k2.size
  clear hs o2 k2 K0
  go_wp2_with fail
  refine hsc.mono ?_
  rintro e w4 ⟨R4, G4, S4, rfl, sq4, nm4, hS4, k4⟩
  have K4 := hide ((unhide K2).trans k4)
  have ss := unhide SW
  have K2s := (unhide K2).size
  have hts := toldSquare_impl (unhide HK).1 (by have := (unhide HK).2; omega) w4 sq4 nm4 (fun p hp => (sca_tel k p).2.2) (fun q hq => (unhide K4).cell0 (unhide TT q hq)) (Nat.lt_of_lt_of_le (unhide HT) (by omega))
  have e1 : allB (fun p => tdB (scaF k (false, [1], 0) p)) (k * k) = true := allB_yes (fun p hp => (sca_tel k p).1)
  have e2 : telN (fun p => tdB (scaF k (false, [1], 0) p)) (k * k) (k : Int) = (k : Int) := by unfold telN; rw [if_pos e1]
  have e3 : telL (fun p => tdE (scaF k (false, [1], 0) p)) (fun p => tdB (scaF k (false, [1], 0) p)) (k * k) = oneL k := by
    unfold telL oneL
    rw [if_pos e1]
    exact List.map_congr_left (fun p hp => (sca_tel k p).2.1)
  rw [e1, e2, e3] at hts
  obtain ⟨TL, hTL⟩ : ∃ q, q = oneL k := ⟨_, rfl⟩
  rw [← hTL] at hts HB
  replace f0 := k4.loose0 (World.block_lt_of_cell? _ _ q0) f0
  replace f1 := k4.loose0 (World.block_lt_of_cell? _ _ q1) f1
  replace q0 := k4.cell0 q0
  replace q1 := k4.cell0 q1
  have z4 := k4.size
  clear hsc k4 K2 sq4 nm4 hS4 e1 e2 e3 hTL HK TT HT K2s SW
  go_wp2_with fail
  refine hts.mono ?_
  rintro e w5 ⟨v5, rfl, r5, k5⟩
  obtain ⟨a5, d5, hv5⟩ := r5.form'
  subst hv5
  replace f0 := k5.looseOut (a := ⟨w.heap.size, 0, none⟩) (.inl (by dsimp only; omega)) (World.block_lt_of_cell? _ _ q0) f0
  replace f1 := k5.looseOut (a := ⟨w.heap.size, 1, none⟩) (.inl (by dsimp only; omega)) (World.block_lt_of_cell? _ _ q1) f1
  replace q0 := k5.cellOut (a := ⟨w.heap.size, 0, none⟩) (.inl (by dsimp only; omega)) q0
  replace q1 := k5.cellOut (a := ⟨w.heap.size, 1, none⟩) (.inl (by dsimp only; omega)) q1
  have z5 := k5.size
  have K7 := hide ((((unhide K4).wide k5 (by omega)).setNew (p := ⟨w.heap.size, 0, none⟩) (by simp) (.int .i64 (k : Int))).setNew (p := ⟨w.heap.size, 1, none⟩) (by simp) (.slice a5 TL.length d5))
  have ks : Kept w.heap.size (w.heap.size + 1) w5 ((w5.setCell ⟨w.heap.size, 0, none⟩ (.int .i64 (k : Int))).setCell ⟨w.heap.size, 1, none⟩ (.slice a5 TL.length d5)) :=
    ((Kept.refl _ _ _).setCell (p := ⟨w.heap.size, 0, none⟩) (Nat.le_refl _) (Nat.lt_succ_self _) _).setCell (p := ⟨w.heap.size, 1, none⟩) (Nat.le_refl _) (Nat.lt_succ_self _) _
  have hsz : ((w5.setCell ⟨w.heap.size, 0, none⟩ (.int .i64 (k : Int))).setCell ⟨w.heap.size, 1, none⟩ (.slice a5 TL.length d5)).heap.size = w5.heap.size := by rw [size_set, size_set]
  have R7 := hide ((r5.kept ks (by omega)).wider (lo' := w.heap.size) (hi' := ((w5.setCell ⟨w.heap.size, 0, none⟩ (.int .i64 (k : Int))).setCell ⟨w.heap.size, 1, none⟩ (.slice a5 TL.length d5)).heap.size) (by omega) (by omega))
  clear hts r5 k5 ks hsz K4
  go_wp2
  exact bodyPost_ret (v := .tuple #[.agg #[.int .i64 (k : Int), .slice a5 TL.length d5], .bool true]) (by simp [results, Tryz.results18, go_sem, q0, q1]) rfl ⟨.slice a5 TL.length d5, by rw [(unhide HB).1, (unhide HB).2.2], by rw [(unhide HB).2.1]; exact unhide R7, unhide K7⟩

end Go.Proofs.YtefnblaphkookaaGreatDoor
