/-
  MatId of the model: l8new with noughts, l8id.
-/
import Derived.Test.YtefnblaphkookaaGreatDoorMi1
import Derived.Test.YtefnblaphkookaaGreatDoorDy6
import Derived.Test.YtefnblaphkookaaGreatDoorBE
namespace Go.Proofs.YtefnblaphkookaaGreatDoor
open Go.RowKit
set_option linter.unusedVariables false
set_option maxRecDepth 8000
set_option linter.unusedSimpArgs false

theorem Fill.keptZ {lo g n l h : Nat} {ds : List DE} {w w' : World} (f : Fill lo g n ds 0 w) (k : Kept l h w w') (hg : g < l ∨ h ≤ g) : Fill lo g n ds 0 w' := by
  have hb := k.block g f.lt hg
  exact ⟨Nat.lt_of_lt_of_le f.lt k.size, ⟨fun _ => 0, fun i hi => by omega, fun i i' _ hi => by omega⟩, fun q hq => by obtain ⟨x, hx⟩ := f.cell q hq; exact ⟨x, (World.cell?_of_block (w := w) (a := ⟨g, q, none⟩) hb).trans hx⟩, fun q hq => (World.frozen?_of_block (w := w) (a := ⟨g, q, none⟩) hb).trans (f.loose q hq)⟩
/-- The number q of the list in g is a nought. -/
def Zr (w : World) (g q : Nat) : Prop := w.cell? ⟨g, q * 3, none⟩ = some (.bool false) ∧ w.cell? ⟨g, q * 3 + 1, none⟩ = some (.slice none 0 0) ∧ w.cell? ⟨g, q * 3 + 2, none⟩ = some (.int .i64 0)
theorem Zr.kept {w w' : World} {g q l h : Nat} (z : Zr w g q) (k : Kept l h w w') (hg : g < l ∨ h ≤ g) : Zr w' g q :=
  ⟨k.cellOut (a := ⟨g, q * 3, none⟩) hg z.1, k.cellOut (a := ⟨g, q * 3 + 1, none⟩) hg z.2.1, k.cellOut (a := ⟨g, q * 3 + 2, none⟩) hg z.2.2⟩
theorem Zr.set {w : World} {g q p : Nat} {x : Value} (z : Zr w g q) (h : p < q * 3) : Zr (w.setCell ⟨g, p, none⟩ x) g q :=
  ⟨cell_off _ _ _ _ _ _ z.1 (by omega), cell_off _ _ _ _ _ _ z.2.1 (by omega), cell_off _ _ _ _ _ _ z.2.2 (by omega)⟩
theorem made_zr {w w1 : World} {n : Nat} (hown : w1.ownsRow w.heap.size 58 3 (.slice (some ⟨w.heap.size, 0, none⟩) n n) n (madeCells (Value.agg #[.bool false, .slice none 0 0, .int .i64 0]).cells (n * 3)).toList) : ∀ q, q < n → Zr w1 w.heap.size q := by
  intro q hq
  obtain ⟨h1, h2⟩ := own3 hown
  have e : (Value.agg #[.bool false, .slice none 0 0, .int .i64 0]).cells = #[.bool false, .slice none 0 0, .int .i64 0] := rfl
  have m : ∀ j, j < 3 → (madeCells (Value.agg #[.bool false, .slice none 0 0, .int .i64 0]).cells (n * 3)).toList[q * 3 + j]? = some ((#[.bool false, .slice none 0 0, .int .i64 0] : Array Value)[j]!) := fun j hj => by
    rw [e]
    have h5 : (q * 3 + j) % 3 = j := by omega
    have h6 : q * 3 + j < n * 3 := by omega
    simp [madeCells, h6, h5]
  refine ⟨(h2 (q * 3) _ (m 0 (by decide))).1, (h2 (q * 3 + 1) _ (m 1 (by decide))).1, (h2 (q * 3 + 2) _ (m 2 (by decide))).1⟩
/-- A nought that was there from the first. -/
theorem Fill.zero {lo g n j : Nat} {ds : List DE} {w : World} (h : Fill lo g n ds j w) (he : ds.getD j de0 = de0) (z : Zr w g j) : Fill lo g n ds (j + 1) w := by
  obtain ⟨hlt, ⟨b, hb, hmono⟩, hcell, hloose⟩ := h
  refine ⟨hlt, ⟨b, fun i hi => ?_, fun i i' h1 h2 e1 e2 => ?_⟩, hcell, hloose⟩
  · by_cases e : i = j
    · subst e
      rw [he]
      exact ⟨fun h => absurd rfl h, .slice none 0 0, z.1, z.2.1, z.2.2, Row.nil _ _ _ _ _⟩
    · exact hb i (by omega)
  · by_cases e : i' = j
    · subst e
      rw [he] at e2
      exact absurd rfl e2
    · exact hmono i i' h1 (by omega) e1 e2
theorem Fill.zeros {lo g n j : Nat} {ds : List DE} {w : World} (h : Fill lo g n ds j w) (m : Nat) (he : ∀ q, j ≤ q → q < j + m → ds.getD q de0 = de0 ∧ Zr w g q) : Fill lo g n ds (j + m) w := by
  induction m with
  | zero => exact h
  | succ m ih => exact (ih (fun q h1 h2 => he q h1 (by omega))).zero (he (j + m) (by omega) (by omega)).1 (he (j + m) (by omega) (by omega)).2

set_option maxHeartbeats 4000000 in
theorem new8z_spec {k : Nat} (hk : k ≤ 4) (w : World) (EL : List DE) :
    Calls Tryz.prog 25 #[.int .i64 (k : Int)] w fun e w' => ∃ g, e = .returned (.agg #[.int .i64 (k : Int), .slice (some ⟨g, 0, none⟩) (k * k) (k * k)]) ∧ Fill 0 g (k * k) EL 0 w' ∧ (∀ q, q < k * k → Zr w' g q) ∧ w.heap.size ≤ g ∧ Kept 0 0 w w' := by
  obtain ⟨W, hW⟩ : ∃ W, W = w.alloc (.cells #[.int .i64 0, .slice none 0 0] 28) := ⟨_, rfl⟩
  have k0 : Kept 0 0 w W := by rw [hW]; exact (Kept.refl 0 0 w).alloc _
  have R0 : W.cell? ⟨w.heap.size, 0, none⟩ = some (.int .i64 0) := by rw [hW]; exact new_cell2 _ _ _ _ _ _ rfl rfl
  have R1 : W.cell? ⟨w.heap.size, 1, none⟩ = some (.slice none 0 0) := by rw [hW]; exact new_cell2 _ _ _ _ _ _ rfl rfl
  have Rf0 : W.frozen? ⟨w.heap.size, 0, none⟩ = false := by rw [hW]; exact new_loose2 _ _ _ _ _ rfl
  have Rf1 : W.frozen? ⟨w.heap.size, 1, none⟩ = false := by rw [hW]; exact new_loose2 _ _ _ _ _ rfl
  have sW : W.heap.size = w.heap.size + 1 := by rw [hW]; simp
  have h16 : k * k ≤ 4 * 4 := Nat.mul_le_mul hk hk
  have hwr : IntKind.i64.wrap ((k : Int) * (k : Int)) = ((k * k : Nat) : Int) := by rw [IntKind.wrap_i64, ← Int.natCast_mul]; omega
  obtain ⟨n, hn⟩ : ∃ n, n = k * k := ⟨_, rfl⟩
  rw [← hn] at hwr h16 ⊢
  obtain ⟨i0, hi0, hz0, hz1, hz2⟩ := info_parts Tryz.infoDy
  have hb0 : i0.bytes * n ≤ 281474976710656 := by rw [hz2]; omega
  have hm0 : n ≤ maxLen := by unfold maxLen; omega
  have SW := hide sW
  clear hn sW
  go_enter Tryz.func25, Tryz.ntmps25
  go_wp2_with (at_make; rw [← hW]; refine wpList_make_full _ rfl _ _ 26 rfl W.heap.size 58 i0 (.agg #[.bool false, .slice none 0 0, .int .i64 0]) 3 Tryz.underlying26 hi0 hz0 hz1 .i64 .i64 _ _ n rfl rfl rfl rfl hb0 hm0 (Nat.le_refl _) ?_; intro w1 hown hgrow; have R0' := R0; have k1 : Kept 0 0 W w1 := ⟨hgrow.os, hgrow.tape, hgrow.output, hgrow.size, fun i hi _ => hgrow.block i hi (by simp)⟩; replace R0' := k1.cell0 R0; have R1' := k1.cell0 R1; have Rf0' := k1.loose0 (World.block_lt_of_cell? _ _ R0) Rf0; have Rf1' := k1.loose0 (World.block_lt_of_cell? _ _ R1) Rf1; have F0 := hide (made_fill (w := W) (lo := 0) (ds := EL) hown); have Z0 := hide (made_zr hown); clear hown hgrow)
  have sW := unhide SW
  rw [sW] at F0 Z0
  have ks : Kept w.heap.size (w.heap.size + 1) w1 ((w1.setCell ⟨w.heap.size, 0, none⟩ (.int .i64 (k : Int))).setCell ⟨w.heap.size, 1, none⟩ (.slice (some ⟨w.heap.size + 1, 0, none⟩) n n)) :=
    ((Kept.refl _ _ _).setCell (p := ⟨w.heap.size, 0, none⟩) (Nat.le_refl _) (Nat.lt_succ_self _) _).setCell (p := ⟨w.heap.size, 1, none⟩) (Nat.le_refl _) (Nat.lt_succ_self _) _
  have F1 := hide ((unhide F0).keptZ ks (by omega))
  have Z1 : Hid (∀ q, q < n → Zr ((w1.setCell ⟨w.heap.size, 0, none⟩ (.int .i64 (k : Int))).setCell ⟨w.heap.size, 1, none⟩ (.slice (some ⟨w.heap.size + 1, 0, none⟩) n n)) (w.heap.size + 1) q) := fun q hq => (unhide Z0 q hq).kept ks (by omega)
  have K7 := hide ((k0.trans k1).wide ks (Nat.le_refl _))
  have G0 := cell_off _ _ _ 1 (.slice (some ⟨w.heap.size + 1, 0, none⟩) n n) _ (cell_on _ _ _ (.int .i64 (k : Int)) _ R0') (show (0 : Nat) ≠ 1 by omega)
  have G1 := cell_on _ _ _ (.slice (some ⟨w.heap.size + 1, 0, none⟩) n n) _ (cell_off _ _ _ 0 (.int .i64 (k : Int)) _ R1' (show (1 : Nat) ≠ 0 by omega))
  exact bodyPost_ret (v := .agg #[.int .i64 (k : Int), .slice (some ⟨w.heap.size + 1, 0, none⟩) n n]) (by simp [results, Tryz.results25, go_sem, G0, G1]) rfl ⟨w.heap.size + 1, rfl, unhide F1, unhide Z1, by omega, unhide K7⟩

theorem one_at {k q : Nat} (h : q < k * k) : (oneL k).getD q de0 = scaF k (false, [1], 0) q := map_at _ _ _ h
theorem one_off {k q i : Nat} (h : q < k * k) (h1 : i * (k + 1) < q) (h2 : q < (i + 1) * (k + 1)) : (oneL k).getD q de0 = de0 := by
  rw [one_at h]
  unfold scaF
  refine if_neg (fun e => ?_)
  have h3 := Nat.div_add_mod q k
  rw [← e] at h3
  have h4 : q = (q / k) * (k + 1) := by rw [Nat.mul_succ, Nat.mul_comm]; exact h3.symm
  rcases Nat.lt_or_ge (q / k) (i + 1) with h5 | h5
  · have := Nat.mul_le_mul_right (k + 1) (Nat.le_of_lt_succ h5)
    omega
  · have := Nat.mul_le_mul_right (k + 1) h5
    omega
theorem one_on {k i : Nat} (h : i < k) : (oneL k).getD (i * k + i) de0 = (false, [1], 0) := by
  rw [one_at (place_lt h h), scaF_at _ h, if_pos rfl]

theorem in_l3ofI : ∀ (w : World) (args : Array Value), (callFunc 27 args).run Tryz.prog w = .ok (.enter 27 args) w := enters Tryz.func27 (by decide) (fun h => by cases h)

theorem in_l4makeI : ∀ (w : World) (args : Array Value), (callFunc 26 args).run Tryz.prog w = .ok (.enter 26 args) w := enters Tryz.func26 (by decide) (fun h => by cases h)

set_option maxHeartbeats 16000000 in
theorem id8_spec {k : Nat} (hk : k ≤ 4) (w : World) :
    Calls Tryz.prog 13 #[.int .i64 (k : Int)] w fun e w' => ∃ v', e = .returned (.agg #[.int .i64 (k : Int), v']) ∧ DysO w.heap.size w'.heap.size w' v' (oneL k) ∧ Kept 0 0 w w' := by
  obtain ⟨W, hW⟩ : ∃ W, W = w.alloc (.cells #[.int .i64 0, .slice none 0 0] 28) := ⟨_, rfl⟩
  have k0 : Kept 0 0 w W := by rw [hW]; exact (Kept.refl 0 0 w).alloc _
  have q0 : W.cell? ⟨w.heap.size, 0, none⟩ = some (.int .i64 0) := by rw [hW]; exact new_cell2 _ _ _ _ _ _ rfl rfl
  have q1 : W.cell? ⟨w.heap.size, 1, none⟩ = some (.slice none 0 0) := by rw [hW]; exact new_cell2 _ _ _ _ _ _ rfl rfl
  have f0 : W.frozen? ⟨w.heap.size, 0, none⟩ = false := by rw [hW]; exact new_loose2 _ _ _ _ _ rfl
  have f1 : W.frozen? ⟨w.heap.size, 1, none⟩ = false := by rw [hW]; exact new_loose2 _ _ _ _ _ rfl
  have sW : W.heap.size = w.heap.size + 1 := by rw [hW]; simp
  have hnew := new8z_spec hk W (oneL k)
  have h16 : k * k ≤ 4 * 4 := Nat.mul_le_mul hk hk
  obtain ⟨n, hn⟩ : ∃ n, n = k * k := ⟨_, rfl⟩
  rw [← hn] at hnew h16
  have HN := hide hn
  have SW := hide sW
  clear hn sW
  go_enter Tryz.func13, Tryz.ntmps13
  go_wp2_with fail
  rw [← hW]
  clear hW
  refine hnew.mono ?_
  rintro e w1 ⟨g, rfl, F0, Z0, hg, k1⟩
  have k2 := (Kept.refl 0 0 w1).alloc (.cells #[.int .i64 (k : Int), .slice (some ⟨g, 0, none⟩) n n] 28)
  obtain ⟨O, hO⟩ : ∃ O, O = w1.heap.size := ⟨_, rfl⟩
  have o0 : (w1.alloc (.cells #[.int .i64 (k : Int), .slice (some ⟨g, 0, none⟩) n n] 28)).cell? ⟨O, 0, none⟩ = some (.int .i64 (k : Int)) := new_cell2 _ _ _ _ _ _ hO rfl
  have o1 : (w1.alloc (.cells #[.int .i64 (k : Int), .slice (some ⟨g, 0, none⟩) n n] 28)).cell? ⟨O, 1, none⟩ = some (.slice (some ⟨g, 0, none⟩) n n) := new_cell2 _ _ _ _ _ _ hO rfl
  have kk := k1.trans k2
  have hgO : g < O := by have := F0.lt; omega
  have q0' := kk.cell0 q0
  have q1' := kk.cell0 q1
  have f0' := kk.loose0 (World.block_lt_of_cell? _ _ q0) f0
  have f1' := kk.loose0 (World.block_lt_of_cell? _ _ q1) f1
  have sW := unhide SW
  have hgw : w.heap.size + 1 ≤ g := by omega
  have F1 := hide (F0.keptZ k2 (.inr (Nat.zero_le _)))
  have Z1 : Hid (∀ q, q < n → Zr (w1.alloc (.cells #[.int .i64 (k : Int), .slice (some ⟨g, 0, none⟩) n n] 28)) g q) := fun q hq => (Z0 q hq).kept k2 (.inr (Nat.zero_le _))
  have K2 := hide (k0.trans kk)
  have HGW := hide hgw
  have HGO := hide hgO
  clear F0 Z0 k0 k1 k2 kk q0 q1 f0 f1 hg sW hgw hnew
  go_wp2_with fail
  rw [← hO]
  generalize (w1.alloc (.cells #[.int .i64 (k : Int), .slice (some ⟨g, 0, none⟩) n n] 28)) = w2 at *
  clear hO
  go_loopw [4] (fun s4 wr => ∃ i : Nat, s4 = .int .i64 i ∧ i ≤ k ∧ Hid (Fill 0 g n (oneL k) (min (i * (k + 1)) n) wr) ∧ Hid (∀ q, i * (k + 1) ≤ q → q < n → Zr wr g q) ∧ Hid (Kept 0 0 w wr) ∧ Hid (Kept g (g + 1) w2 wr)) (fun s4 _ => k - (intOf s4).toNat)
  case atStart => exact ⟨0, rfl, Nat.zero_le _, by rw [Nat.zero_mul, Nat.zero_min]; exact F1, fun q _ hq => unhide Z1 q hq, K2, Kept.refl _ _ _⟩
  case round =>
    clear F1 Z1 K2
    obtain ⟨i, rfl, hi', hF, hZ, kw, kg⟩ := hrel
    have hwi : IntKind.i64.wrap ((i : Int) + 1) = ((i + 1 : Nat) : Int) := by rw [IntKind.wrap_i64]; omega
    have hgw := unhide HGW
    have hgo := unhide HGO
    have kgd := (unhide kg).drew
    have O0 := kgd.cellOut (a := ⟨O, 0, none⟩) (by dsimp only; omega) o0
    have O1 := kgd.cellOut (a := ⟨O, 1, none⟩) (by dsimp only; omega) o1
    by_cases hlt : i < k
    · have hp := place_lt hlt hlt
      obtain ⟨p, hpp⟩ : ∃ p, p = i * k + i := ⟨_, rfl⟩
      have hpn : p < n := by rw [unhide HN]; omega
      have hps : i * (k + 1) = p := by rw [Nat.mul_succ, hpp]
      have hmin : min (i * (k + 1)) n = p := by rw [hps]; omega
      have hw1 : IntKind.i64.wrap ((i : Int) * (k : Int)) = (((i * k : Nat)) : Int) := by rw [IntKind.wrap_i64, ← Int.natCast_mul]; omega
      have hw2 : IntKind.i64.wrap ((((i * k : Nat)) : Int) + (i : Int)) = (p : Int) := by rw [IntKind.wrap_i64, hpp]; omega
      have HE : Hid ((oneL k).getD p de0 = (false, [1], 0)) := by show _ = _; rw [hpp]; exact one_on hlt
      have HPS := hide hps
      obtain ⟨ik, hik⟩ : ∃ im : Nat, i * k = im := ⟨_, rfl⟩
      rw [hik] at hw1 hw2
      rw [hmin] at hF
      have k3d := (unhide kw).drew
      have hFd := (unhide hF).kept ((Kept.refl 0 0 wr).drew)
      have FD := hide hFd
      have h3o := of3_spec 1 (by decide) (by decide) wr.drew
      rw [show wsg 1 = false by decide, show wlm 1 = [1] by decide] at h3o
      have KD := hide k3d
      have KGD := hide kgd
      clear hpp hps hmin hik hp k3d kgd hFd hF kw kg
      go_wp2_with fail
      refine wp_region_held_drew (S := (fun w' => w'.cell? ⟨O, 1, none⟩ = some (.slice (some ⟨g, 0, none⟩) n n))) (by kernel_rfl) ?_ (fun hHeld => ?_)
      · exact O1
      refine wpAnyH_take (i := 0) (oi := _) (v := .pointer (some ⟨O, 1, none⟩)) rfl (by kernel_rfl) (by kernel_rfl) (by kernel_rfl) (fun _ _ _ h => h) (Or.inl ⟨by rfl, ?_⟩) hHeld ?_
      · intro wq hSw
        try dsimp only at hSw
        go_simp
      try simp only [Act.put, List.getElem_toArray, List.getElem_cons_succ, List.getElem_cons_zero, List.setIfInBounds_toArray, List.set_cons_zero, List.set_cons_succ]
      refine wpAnyH_take (i := 1) (oi := _) (v := .slice (some ⟨g, 0, none⟩) n n) rfl (by kernel_rfl) (by kernel_rfl) (by kernel_rfl) (fun _ _ _ h => h) (Or.inl ⟨by rfl, ?_⟩) hHeld ?_
      · intro wq hSw
        try dsimp only at hSw
        go_simp
      try simp only [Act.put, List.getElem_toArray, List.getElem_cons_succ, List.getElem_cons_zero, List.setIfInBounds_toArray, List.set_cons_zero, List.set_cons_succ]
      refine wpAnyH_take (i := 2) (oi := _) (v := .int .i64 (i : Int)) rfl (by kernel_rfl) (by kernel_rfl) (by kernel_rfl) (fun _ _ _ h => h) (Or.inl ⟨by rfl, ?_⟩) hHeld ?_
      · intro wq hSw
        try dsimp only at hSw
        go_simp
      try simp only [Act.put, List.getElem_toArray, List.getElem_cons_succ, List.getElem_cons_zero, List.setIfInBounds_toArray, List.set_cons_zero, List.set_cons_succ]
      refine wpAnyH_take (i := 3) (oi := _) (v := .int .i64 (k : Int)) rfl (by kernel_rfl) (by kernel_rfl) (by kernel_rfl) (fun _ _ _ h => h) (Or.inl ⟨by rfl, ?_⟩) hHeld ?_
      · intro wq hSw
        try dsimp only at hSw
        go_simp
      try simp only [Act.put, List.getElem_toArray, List.getElem_cons_succ, List.getElem_cons_zero, List.setIfInBounds_toArray, List.set_cons_zero, List.set_cons_succ]
      refine wpAnyH_take (i := 4) (oi := _) (v := .int .i64 (ik : Int)) rfl (by kernel_rfl) (by kernel_rfl) (by kernel_rfl) (fun _ _ _ h => h) (Or.inl ⟨by rfl, ?_⟩) hHeld ?_
      · intro wq hSw
        try dsimp only at hSw
        go_simp
      try simp only [Act.put, List.getElem_toArray, List.getElem_cons_succ, List.getElem_cons_zero, List.setIfInBounds_toArray, List.set_cons_zero, List.set_cons_succ]
      refine wpAnyH_take (i := 5) (oi := _) (v := .int .i64 (i : Int)) rfl (by kernel_rfl) (by kernel_rfl) (by kernel_rfl) (fun _ _ _ h => h) (Or.inl ⟨by rfl, ?_⟩) hHeld ?_
      · intro wq hSw
        try dsimp only at hSw
        go_simp
      try simp only [Act.put, List.getElem_toArray, List.getElem_cons_succ, List.getElem_cons_zero, List.setIfInBounds_toArray, List.set_cons_zero, List.set_cons_succ]
      refine wpAnyH_take (i := 6) (oi := _) (v := .int .i64 (p : Int)) rfl (by kernel_rfl) (by kernel_rfl) (by kernel_rfl) (fun _ _ _ h => h) (Or.inl ⟨by rfl, ?_⟩) hHeld ?_
      · intro wq hSw
        try dsimp only at hSw
        go_simp
      try simp only [Act.put, List.getElem_toArray, List.getElem_cons_succ, List.getElem_cons_zero, List.setIfInBounds_toArray, List.set_cons_zero, List.set_cons_succ]
      refine wpAnyH_ready (rs := [7]) (by kernel_rfl) (by simp) ?_
      refine AllReadyH.cons rfl (fun KK hK => ?_) AllReadyH.nil
      simp only [List.getElem_toArray, List.getElem_cons_succ, List.getElem_cons_zero]
      rw [if_pos (by rfl)]
      refine wps1 27 (.const (.int .i64 1)) _ rfl in_l3ofI (.int .i64 1) rfl h3o ?_
      rintro e w3 ⟨v3, rfl, r3, k3⟩
      refine ⟨_, rfl, ?_⟩
      obtain ⟨a3, d3, hv3⟩ := Row.form' r3
      subst hv3
      have h4m := make4_spec false 0 1 (by decide) (by decide) (by decide) w3 r3 (wok_wn (dok_parts (show dokB false [1] 0 = true by decide)).1) (by decide)
      rw [show wsg 1 = false by decide, show dlm 1 = [1] by decide, show dex 1 0 = 0 by decide] at h4m
      replace O0 := k3.cell0 O0
      replace O1 := k3.cell0 O1
      have K3 := hide k3
      clear h3o k3
      clear hHeld
      refine hK.out _ _ ?_ (fun hHeld => ?_)
      · exact O1
      clear hK KK
      try simp only [Act.put, List.getElem_toArray, List.getElem_cons_succ, List.getElem_cons_zero, List.setIfInBounds_toArray, List.set_cons_zero, List.set_cons_succ]
      refine wpAnyH_ready (rs := [8]) (by kernel_rfl) (by simp) ?_
      refine AllReadyH.cons rfl (fun KK hK => ?_) AllReadyH.nil
      simp only [List.getElem_toArray, List.getElem_cons_succ, List.getElem_cons_zero]
      rw [if_pos (by rfl)]
      refine wps2 26 (.tmp 19) (.const (.int .i64 0)) _ rfl in_l4makeI (.agg #[.bool false, .slice a3 [(1 : Int)].length d3]) (.int .i64 0) rfl rfl h4m ?_
      rintro e w4 ⟨v4, rfl, r4, k4⟩
      refine ⟨_, rfl, ?_⟩
      obtain ⟨a4, d4, hv4⟩ := Row.form' r4
      subst hv4
      replace O0 := k4.cell0 O0
      replace O1 := k4.cell0 O1
      have k5 := (unhide K3).trans k4
      have z3 := (unhide K3).size
      have r5 := r4.wider (lo' := wr.heap.size) (hi' := w4.heap.size) z3 (Nat.le_refl _)
      have F5 := hide ((unhide FD).step hpn k5 r5 (unhide HE))
      obtain ⟨x0, hx0⟩ := (unhide FD).cell (p * 3) (by omega)
      obtain ⟨x1, hx1⟩ := (unhide FD).cell (p * 3 + 1) (by omega)
      obtain ⟨x2, hx2⟩ := (unhide FD).cell (p * 3 + 2) (by omega)
      have hFl := (unhide FD).lt
      have fg0 := k5.loose0 (a := ⟨g, p * 3, none⟩) hFl ((unhide FD).loose (p * 3) (by omega))
      have fg1 := k5.loose0 (a := ⟨g, p * 3 + 1, none⟩) hFl ((unhide FD).loose (p * 3 + 1) (by omega))
      have fg2 := k5.loose0 (a := ⟨g, p * 3 + 2, none⟩) hFl ((unhide FD).loose (p * 3 + 2) (by omega))
      replace hx0 := k5.cell0 hx0
      replace hx1 := k5.cell0 hx1
      replace hx2 := k5.cell0 hx2
      have K5 := hide ((unhide KD).trans k5)
      have KG5 := hide ((unhide KGD).trans k5.any)
      have Z5 : Hid (∀ q, p + 1 ≤ q → q < n → Zr w4 g q) := fun q h1 h2 => ((unhide hZ q (by rw [unhide HPS]; omega) h2).kept ((Kept.refl 0 0 wr).drew) (.inr (Nat.zero_le _))).kept k5 (.inr (Nat.zero_le _))
      clear h4m r3 r4 r5 k4 k5 z3 FD K3 KD KGD hFl
      clear hHeld
      refine hK.out _ _ ?_ (fun hHeld => ?_)
      · exact O1
      clear hK KK
      try simp only [Act.put, List.getElem_toArray, List.getElem_cons_succ, List.getElem_cons_zero, List.setIfInBounds_toArray, List.set_cons_zero, List.set_cons_succ]
      refine wpAnyH_take (i := 9) (oi := _) (v := .pointer (some ⟨g, p * 3, none⟩)) rfl (by kernel_rfl) (by kernel_rfl) (by kernel_rfl) (fun _ _ _ h => h) (Or.inl ⟨by rfl, ?_⟩) hHeld ?_
      · intro wq hSw
        try dsimp only at hSw
        go_simp
      try simp only [Act.put, List.getElem_toArray, List.getElem_cons_succ, List.getElem_cons_zero, List.setIfInBounds_toArray, List.set_cons_zero, List.set_cons_succ]
      refine wpAnyH_ready (rs := [10]) (by kernel_rfl) (by simp) ?_
      refine AllReadyH.cons rfl (fun KK hK => ?_) AllReadyH.nil
      simp only [List.getElem_toArray, List.getElem_cons_succ, List.getElem_cons_zero]
      rw [if_pos (by rfl)]
      go_simp
      clear hHeld
      refine hK.out _ _ ?_ (fun hHeld => ?_)
      · exact cell_aside _ (by dsimp only; omega) (cell_aside _ (by dsimp only; omega) (cell_aside _ (by dsimp only; omega) O1))
      clear hK KK
      try simp only [Act.put, List.getElem_toArray, List.getElem_cons_succ, List.getElem_cons_zero, List.setIfInBounds_toArray, List.set_cons_zero, List.set_cons_succ]
      refine wpAnyH_done (by kernel_rfl) ?_ _
      clear hHeld
      have ks : Kept g (g + 1) w4 (((w4.setCell ⟨g, p * 3, none⟩ (.bool false)).setCell ⟨g, p * 3 + 1, none⟩ (.slice a4 [(1 : Int)].length d4)).setCell ⟨g, p * 3 + 2, none⟩ (.int .i64 0)) := (((Kept.refl _ _ _).setCell (p := ⟨g, p * 3, none⟩) (Nat.le_refl _) (Nat.lt_succ_self _) _).setCell (p := ⟨g, p * 3 + 1, none⟩) (Nat.le_refl _) (Nat.lt_succ_self _) _).setCell (p := ⟨g, p * 3 + 2, none⟩) (Nat.le_refl _) (Nat.lt_succ_self _) _
      have Z6 : Hid (∀ q, p + 1 ≤ q → q < n → Zr (((w4.setCell ⟨g, p * 3, none⟩ (.bool false)).setCell ⟨g, p * 3 + 1, none⟩ (.slice a4 [(1 : Int)].length d4)).setCell ⟨g, p * 3 + 2, none⟩ (.int .i64 0)) g q) := fun q h1 h2 => (((unhide Z5 q h1 h2).set (by omega)).set (by omega)).set (by omega)
      have hst : (i + 1) * (k + 1) = p + (k + 1) := by rw [Nat.succ_mul, unhide HPS]
      have F6 : Hid (Fill 0 g n (oneL k) (min ((i + 1) * (k + 1)) n) (((w4.setCell ⟨g, p * 3, none⟩ (.bool false)).setCell ⟨g, p * 3 + 1, none⟩ (.slice a4 [(1 : Int)].length d4)).setCell ⟨g, p * 3 + 2, none⟩ (.int .i64 0))) := by
        have := (unhide F5).zeros (min ((i + 1) * (k + 1)) n - (p + 1)) (fun q h1 h2 => ⟨one_off (i := i) (by rw [← unhide HN]; omega) (by rw [unhide HPS]; omega) (by omega), unhide Z6 q h1 (by omega)⟩)
        rw [show p + 1 + (min ((i + 1) * (k + 1)) n - (p + 1)) = min ((i + 1) * (k + 1)) n by omega] at this
        exact this
      have Z7 : Hid (∀ q, (i + 1) * (k + 1) ≤ q → q < n → Zr (((w4.setCell ⟨g, p * 3, none⟩ (.bool false)).setCell ⟨g, p * 3 + 1, none⟩ (.slice a4 [(1 : Int)].length d4)).setCell ⟨g, p * 3 + 2, none⟩ (.int .i64 0)) g q) := fun q h1 h2 => unhide Z6 q (by omega) h2
      have K6 := hide ((unhide K5).wide ks (by omega))
      have KG6 := hide ((unhide KG5).trans ks)
      clear F5 Z5 Z6 ks hst K5 KG5 hZ hgw hgo O0 O1 hx0 hx1 hx2 fg0 fg1 fg2 hw1 hw2
      go_wp2
      go_roundw
      case rel => exact ⟨i + 1, by simp, hlt, F6, Z7, K6, KG6⟩
      case measure => simp [intOf]; omega
    · have hik : i = k := by omega
      subst hik
      have hmin : min (i * (i + 1)) n = n := by rw [Nat.mul_succ, ← unhide HN]; omega
      rw [hmin] at hF
      have D := (unhide hF).done (by rw [unhide HN]; unfold oneL; simp) (by unfold maxLen; omega)
      have Q0 := (unhide kg).cellOut (a := ⟨w.heap.size, 0, none⟩) (by dsimp only; omega) q0'
      have Q1 := (unhide kg).cellOut (a := ⟨w.heap.size, 1, none⟩) (by dsimp only; omega) q1'
      have Qf0 := (unhide kg).looseOut (a := ⟨w.heap.size, 0, none⟩) (by dsimp only; omega) (World.block_lt_of_cell? _ _ q0') f0'
      have Qf1 := (unhide kg).looseOut (a := ⟨w.heap.size, 1, none⟩) (by dsimp only; omega) (World.block_lt_of_cell? _ _ q1') f1'
      replace O0 := (unhide kg).cellOut (a := ⟨O, 0, none⟩) (by dsimp only; omega) o0
      replace O1 := (unhide kg).cellOut (a := ⟨O, 1, none⟩) (by dsimp only; omega) o1
      have ks : Kept w.heap.size (w.heap.size + 1) wr ((wr.setCell ⟨w.heap.size, 0, none⟩ (.int .i64 (i : Int))).setCell ⟨w.heap.size, 1, none⟩ (.slice (some ⟨g, 0, none⟩) n n)) :=
        ((Kept.refl _ _ _).setCell (p := ⟨w.heap.size, 0, none⟩) (Nat.le_refl _) (Nat.lt_succ_self _) _).setCell (p := ⟨w.heap.size, 1, none⟩) (Nat.le_refl _) (Nat.lt_succ_self _) _
      have hsz : ((wr.setCell ⟨w.heap.size, 0, none⟩ (.int .i64 (i : Int))).setCell ⟨w.heap.size, 1, none⟩ (.slice (some ⟨g, 0, none⟩) n n)).heap.size = wr.heap.size := by rw [size_set, size_set]
      have DD := hide ((D.kept ks (by omega)).wider (lo' := w.heap.size) (hi' := ((wr.setCell ⟨w.heap.size, 0, none⟩ (.int .i64 (i : Int))).setCell ⟨w.heap.size, 1, none⟩ (.slice (some ⟨g, 0, none⟩) n n)).heap.size) (by omega) (by omega))
      have K7 := hide ((unhide kw).wide ks (Nat.le_refl _))
      have G0 := cell_off _ _ _ 1 (.slice (some ⟨g, 0, none⟩) n n) _ (cell_on _ _ _ (.int .i64 (i : Int)) _ Q0) (show (0 : Nat) ≠ 1 by omega)
      have G1 := cell_on _ _ _ (.slice (some ⟨g, 0, none⟩) n n) _ (cell_off _ _ _ 0 (.int .i64 (i : Int)) _ Q1 (show (1 : Nat) ≠ 0 by omega))
      clear hF hZ kw kg D ks hsz hgw hgo kgd hmin
      go_wp2
      exact bodyPost_ret (v := .agg #[.int .i64 (i : Int), .slice (some ⟨g, 0, none⟩) n n]) (by simp [results, Tryz.results13, go_sem, G0, G1]) rfl ⟨.slice (some ⟨g, 0, none⟩) n n, rfl, unhide DD, unhide K7⟩

theorem limT_one (k : Nat) (hk : k ≤ 4) (h0 : 0 < k) : mokB (k : Int) (oneL k) = true := by
  have hl : (oneL k).length = k * k := by unfold oneL; simp
  rw [mok_yes (by simp; omega) (by rw [hl]; simp)]
  exact all_done (fun i hi => by rw [one_at (by rw [← hl]; exact hi)]; exact sca_dok k i)

end Go.Proofs.YtefnblaphkookaaGreatDoor
