/-
  A matrix turned: l8turn of the model.
-/
import Derived.Test.YtagaofpkfpfilaaDoorMs5
import Derived.Test.YtagaofpkfpfilaaDoorDys6
namespace Go.Proofs.YtagaofpkfpfilaaDoor
open Go.RowKit
set_option linter.unusedVariables false
set_option maxRecDepth 8000
set_option linter.unusedSimpArgs false

theorem FillP.mono {B g n : Nat} {ds : List DE} {P P' : Nat → Prop} {w : World} (f : FillP B g n ds P w) (h : ∀ i, i < n → P' i → P i) : FillP B g n ds P' w :=
  ⟨f.lt, f.lb, fun i hi hp => f.got i hi (h i hi hp), f.cell, f.loose⟩
theorem place_lt8 {i j n : Nat} (hi : i < n) (hj : j < n) : i * n + j < n * n := by
  have h1 : (i + 1) * n ≤ n * n := Nat.mul_le_mul_right n hi
  have h2 : (i + 1) * n = i * n + n := Nat.succ_mul i n
  omega
/-- A matrix of n * n numbers, turned. -/
def turL (n : Nat) (ds : List DE) : List DE := (List.range (n * n)).map fun q => ds.getD (q % n * n + q / n) de0
theorem tur_at {n i j : Nat} (ds : List DE) (hi : i < n) (hj : j < n) : (turL n ds).getD (j * n + i) de0 = ds.getD (i * n + j) de0 := by
  have h := place_lt8 hj hi
  unfold turL
  rw [map_at _ _ _ h]
  have h1 : (j * n + i) % n = i := by rw [Nat.mul_comm j n, Nat.mul_add_mod]; exact Nat.mod_eq_of_lt hi
  have h2 : (j * n + i) / n = j := by rw [Nat.mul_comm j n, Nat.mul_add_div (by omega), Nat.div_eq_of_lt hi, Nat.add_zero]
  rw [h1, h2]

set_option maxHeartbeats 16000000 in
theorem turn8_spec {k lo hi : Nat} {v : Value} {ds : List DE} (w : World) (hk : k ≤ 4) (hlen : ds.length = k * k) (r : Dys lo hi w v ds) :
    Calls Tryd.prog 39 #[.agg #[.int .i64 (k : Int), v]] w fun e w' => ∃ v', e = .returned (.agg #[.int .i64 (k : Int), v']) ∧ Dys 0 w'.heap.size w' v' (turL k ds) ∧ Kept 0 0 w w' := by
  obtain ⟨W, hW⟩ : ∃ W, W = (w.alloc (.cells #[.int .i64 (k : Int), v] 37)).alloc (.cells #[.int .i64 0, .slice none 0 0] 37) := ⟨_, rfl⟩
  have k0 : Kept 0 0 w W := by rw [hW]; exact ((Kept.refl 0 0 w).alloc _).alloc _
  have c0 : W.cell? ⟨w.heap.size, 0, none⟩ = some (.int .i64 (k : Int)) := by rw [hW]; exact old_cell _ (new_cell2 _ _ _ _ _ _ (by simp) rfl)
  have c1 : W.cell? ⟨w.heap.size, 1, none⟩ = some v := by rw [hW]; exact old_cell _ (new_cell2 _ _ _ _ _ _ (by simp) rfl)
  have q0 : W.cell? ⟨w.heap.size + 1, 0, none⟩ = some (.int .i64 0) := by rw [hW]; exact new_cell2 _ _ _ _ _ _ (by simp) rfl
  have q1 : W.cell? ⟨w.heap.size + 1, 1, none⟩ = some (.slice none 0 0) := by rw [hW]; exact new_cell2 _ _ _ _ _ _ (by simp) rfl
  have f0 : W.frozen? ⟨w.heap.size + 1, 0, none⟩ = false := by rw [hW]; exact new_loose2 _ _ _ _ _ (by simp)
  have f1 : W.frozen? ⟨w.heap.size + 1, 1, none⟩ = false := by rw [hW]; exact new_loose2 _ _ _ _ _ (by simp)
  have sW : W.heap.size = w.heap.size + 2 := by rw [hW]; simp
  have h16 : k * k ≤ 4 * 4 := Nat.mul_le_mul hk hk
  obtain ⟨TL, hTL⟩ : ∃ TL, TL = turL k ds := ⟨_, rfl⟩
  have hn8 := new8_spec hk W TL
  obtain ⟨a, c, rfl, -, -⟩ := r.form
  obtain ⟨n, hnn⟩ : ∃ n, n = ds.length := ⟨_, rfl⟩
  have R := hide (show Dys lo hi w (.slice a n c) ds by rw [hnn]; exact r)
  rw [← hnn] at c1 hlen
  have HL := hide hlen
  have HNN := hide hnn
  have H16 := hide h16
  rw [← hlen] at hn8
  rw [← hTL]
  have HTL := hide hTL
  have SW := hide sW
  have hW2 : W = (w.alloc (.cells #[.int .i64 (k : Int), .slice a n c] 37)).alloc (.cells #[.int .i64 0, .slice none 0 0] 37) := by rw [hW, ← hnn]
  rw [← hnn]
  clear r hTL hnn sW hW hlen h16
  rw [hW2] at hn8
  go_enter Tryd.func39, Tryd.ntmps39
  go_wp2_with fail
  refine hn8.mono ?_
  rw [← hW2]
  rintro e w1 ⟨g, rfl, F0, hg, k1⟩
  clear hn8 hW2
  obtain ⟨O, hO⟩ : ∃ O, O = w1.heap.size := ⟨_, rfl⟩
  have o0 : (w1.alloc (.cells #[.int .i64 (k : Int), .slice (some ⟨g, 0, none⟩) n n] 37)).cell? ⟨O, 0, none⟩ = some (.int .i64 (k : Int)) := new_cell2 _ _ _ _ _ _ hO rfl
  have o1 : (w1.alloc (.cells #[.int .i64 (k : Int), .slice (some ⟨g, 0, none⟩) n n] 37)).cell? ⟨O, 1, none⟩ = some (.slice (some ⟨g, 0, none⟩) n n) := new_cell2 _ _ _ _ _ _ hO rfl
  have k2 := (Kept.refl 0 0 w1).alloc (.cells #[.int .i64 (k : Int), .slice (some ⟨g, 0, none⟩) n n] 37)
  have hgO : g < O := by have := F0.lt; omega
  have kk := k1.trans k2
  have c0' := kk.cell0 c0
  have c1' := kk.cell0 c1
  have q0' := kk.cell0 q0
  have q1' := kk.cell0 q1
  have f0' := kk.loose0 (World.block_lt_of_cell? _ _ q0) f0
  have f1' := kk.loose0 (World.block_lt_of_cell? _ _ q1) f1
  have sW := unhide SW
  have hgw : w.heap.size + 2 ≤ g := by omega
  have F1 := hide (Fill.toP (ds' := TL) (B := w.heap.size) (P := fun q => q % k < 0) (F0.kept k2) (by omega) (fun i _ h => by omega))
  have K2 := hide (k0.trans kk)
  have HGW := hide hgw
  clear F0 k0 k1 k2 kk c0 c1 q0 q1 f0 f1 hg sW hgw
  go_wp2_with fail
  rw [← hO]
  generalize (w1.alloc (.cells #[.int .i64 (k : Int), .slice (some ⟨g, 0, none⟩) n n] 37)) = w2 at *
  clear hO
  go_loopw [4] (fun s4 wr => ∃ i : Nat, s4 = .int .i64 i ∧ i ≤ k ∧ Hid (FillP w.heap.size g n TL (fun q => q % k < i) wr) ∧ Hid (Kept 0 0 w wr) ∧ Hid (Kept g (g + 1) w2 wr)) (fun s4 _ => k - (intOf s4).toNat)
  case atStart => exact ⟨0, rfl, Nat.zero_le _, F1, K2, Kept.refl _ _ _⟩
  case round =>
    clear F1 K2
    obtain ⟨i, rfl, hi', hF, kw, kg⟩ := hrel
    obtain ⟨wo, hwo⟩ : ∃ wo, wo = wr := ⟨_, rfl⟩
    subst hwo
    have hwi : IntKind.i64.wrap ((i : Int) + 1) = ((i + 1 : Nat) : Int) := by rw [IntKind.wrap_i64]; omega
    have hgw := unhide HGW
    have C0 := (unhide kg).cellOut (a := ⟨w.heap.size, 0, none⟩) (by dsimp only; omega) c0'
    by_cases hlt : i < k
    · have HF0 := hide ((unhide hF).mono (P' := fun q => q % k < i ∨ (q % k = i ∧ q / k < 0)) (fun q _ h => by rcases h with h | h; exact h; exact absurd h.2 (Nat.not_lt_zero _)))
      clear hF hgw
      go_wp2_with fail
      clear C0
      go_loopw [5] (fun s5 wx => ∃ j : Nat, s5 = .int .i64 j ∧ j ≤ k ∧ Hid (FillP w.heap.size g n TL (fun q => q % k < i ∨ (q % k = i ∧ q / k < j)) wx) ∧ Hid (Kept 0 0 w wx) ∧ Hid (Kept g (g + 1) w2 wx)) (fun s5 _ => k - (intOf s5).toNat)
      case atStart => exact ⟨0, rfl, Nat.zero_le _, HF0, kw, kg⟩
      case round =>
        clear HF0 kw kg
        obtain ⟨j, rfl, hj', hF, kw, kg⟩ := hrel
        have hwj : IntKind.i64.wrap ((j : Int) + 1) = ((j + 1 : Nat) : Int) := by rw [IntKind.wrap_i64]; omega
        have hgw := unhide HGW
        have C0 := (unhide kg).cellOut (a := ⟨w.heap.size, 0, none⟩) (by dsimp only; omega) c0'
        by_cases hltj : j < k
        · have hp := place_lt8 hlt hltj
          have hp2 := place_lt8 hltj hlt
          have hL := unhide HL
          have h16 := unhide H16
          obtain ⟨p, hpp⟩ : ∃ p, p = i * k + j := ⟨_, rfl⟩
          obtain ⟨p2, hpp2⟩ : ∃ p2, p2 = j * k + i := ⟨_, rfl⟩
          have hpl : p < ds.length := by rw [← unhide HNN]; omega
          have hpn : p < n := by omega
          have hpn2 : p2 < n := by omega
          have hw1 : IntKind.i64.wrap ((i : Int) * (k : Int)) = (((i * k : Nat)) : Int) := by rw [IntKind.wrap_i64, ← Int.natCast_mul]; omega
          have hw2 : IntKind.i64.wrap ((((i * k : Nat)) : Int) + (j : Int)) = (p : Int) := by rw [IntKind.wrap_i64, hpp]; omega
          have hw3 : IntKind.i64.wrap ((j : Int) * (k : Int)) = (((j * k : Nat)) : Int) := by rw [IntKind.wrap_i64, ← Int.natCast_mul]; omega
          have hw4 : IntKind.i64.wrap ((((j * k : Nat)) : Int) + (i : Int)) = (p2 : Int) := by rw [IntKind.wrap_i64, hpp2]; omega
          have HT : Hid (TL.getD p2 de0 = ds.getD p de0) := by show _ = _; rw [unhide HTL, hpp2, hpp]; exact tur_at ds hlt hltj
          have HP : Hid (∀ q, (q % k < i ∨ (q % k = i ∧ q / k < j + 1)) → q = p2 ∨ (q % k < i ∨ (q % k = i ∧ q / k < j))) := fun q h => by
            rcases h with h | ⟨h1, h2⟩
            · exact .inr (.inl h)
            · by_cases e : q / k < j
              · exact .inr (.inr ⟨h1, e⟩)
              · have e' : q / k = j := by omega
                have := Nat.div_add_mod q k
                rw [e', h1, Nat.mul_comm] at this
                exact .inl (by omega)
          obtain ⟨ik, hik⟩ : ∃ im : Nat, i * k = im := ⟨_, rfl⟩
          obtain ⟨jk, hjk⟩ : ∃ im : Nat, j * k = im := ⟨_, rfl⟩
          rw [hik] at hw1 hw2
          rw [hjk] at hw3 hw4
          have kgd := (unhide kg).drew
          have kd := (unhide kw).drew
          have O1 := kgd.cellOut (a := ⟨O, 1, none⟩) (by dsimp only; omega) o1
          have A1 := kgd.cellOut (a := ⟨w.heap.size, 1, none⟩) (by dsimp only; omega) c1'
          have A0 := kgd.cellOut (a := ⟨w.heap.size, 0, none⟩) (by dsimp only; omega) c0'
          obtain ⟨gA, off, ln, rfl, -, -, hgA, b, kk, e0, e1, e2, hln, rr⟩ := (unhide R).at (i := p) hpl
          replace e0 := kd.cell0 e0
          replace e1 := kd.cell0 e1
          replace e2 := kd.cell0 e2
          replace rr := rr.tight.kept kd (by omega)
          obtain ⟨s0, hs0'⟩ : ∃ q, q = (ds.getD p de0).1 := ⟨_, rfl⟩
          obtain ⟨y0, hy0⟩ : ∃ q, q = (ds.getD p de0).2.2 := ⟨_, rfl⟩
          obtain ⟨z0, hz0⟩ : ∃ q, q = (ds.getD p de0).2.1 := ⟨_, rfl⟩
          rw [← hs0'] at e0
          rw [← hy0] at e2
          rw [← hz0] at rr hln
          have hFd := hide ((unhide hF).kept ((Kept.refl 0 0 wr).drew))
          have F4 := hide ((unhide hFd).step (P' := fun q => q % k < i ∨ (q % k = i ∧ q / k < j + 1)) hpn2 (Kept.refl 0 0 wr.drew) rr (fun _ => .inr (Nat.le_refl _)) (show TL.getD p2 de0 = (s0, z0, y0) by rw [unhide HT, hs0', hy0, hz0]) (unhide HP))
          have hFl := (unhide hFd).lt
          obtain ⟨x0, hx0⟩ := (unhide hFd).cell (p2 * 3) (by omega)
          have g0 := (unhide hFd).loose (p2 * 3) (by omega)
          obtain ⟨x1, hx1⟩ := (unhide hFd).cell (p2 * 3 + 1) (by omega)
          have g1 := (unhide hFd).loose (p2 * 3 + 1) (by omega)
          obtain ⟨x2, hx2⟩ := (unhide hFd).cell (p2 * 3 + 2) (by omega)
          have g2 := (unhide hFd).loose (p2 * 3 + 2) (by omega)
          have ks : Kept g (g + 1) wr.drew (((wr.drew.setCell ⟨g, p2 * 3, none⟩ (.bool s0)).setCell ⟨g, p2 * 3 + 1, none⟩ (.slice b ln kk)).setCell ⟨g, p2 * 3 + 2, none⟩ (.int .i64 y0)) := (((Kept.refl _ _ _).setCell (p := ⟨g, p2 * 3, none⟩) (Nat.le_refl _) (Nat.lt_succ_self _) _).setCell (p := ⟨g, p2 * 3 + 1, none⟩) (Nat.le_refl _) (Nat.lt_succ_self _) _).setCell (p := ⟨g, p2 * 3 + 2, none⟩) (Nat.le_refl _) (Nat.lt_succ_self _) _
          have K5 := hide (kd.wide ks (by omega))
          have KG5 := hide (kgd.trans ks)
          have HGL := hide hgA
          have KS := hide ks
          clear ks hs0' hy0 hz0 hln rr hpp hpp2 hik hjk hp hp2 hL h16 HT HP hF hFd kw kg kd kgd hFl hpl hgA hgw
          go_wp2_with fail
          refine wp_region_held_drew (S := (fun w' => w'.cell? ⟨O, 1, none⟩ = some (.slice (some ⟨g, 0, none⟩) n n) ∧ w'.cell? ⟨w.heap.size, 0, none⟩ = some (.int .i64 (k : Int)) ∧ w'.cell? ⟨w.heap.size, 1, none⟩ = some (.slice (some ⟨gA, off, none⟩) n c) ∧ w'.cell? ⟨gA, off + p * 3, none⟩ = some (.bool s0) ∧ w'.cell? ⟨gA, off + p * 3 + 1, none⟩ = some (.slice b ln kk) ∧ w'.cell? ⟨gA, off + p * 3 + 2, none⟩ = some (.int .i64 y0))) (by kernel_rfl) ?_ (fun hHeld => ?_)
          · exact ⟨O1, A0, A1, e0, e1, e2⟩
          generalize wr.drew = wd at *
          refine wpAnyH_take (i := 0) (oi := _) (v := .pointer (some ⟨O, 1, none⟩)) rfl (by kernel_rfl) (by kernel_rfl) (by kernel_rfl) (fun _ _ _ h => h) (Or.inl ⟨by rfl, ?_⟩) hHeld ?_
          · intro wq hSw
            try dsimp only at hSw
            go_simp
          try simp only [Act.put, List.getElem_toArray, List.getElem_cons_succ, List.getElem_cons_zero, List.setIfInBounds_toArray, List.set_cons_zero, List.set_cons_succ]
          refine wpAnyH_take (i := 1) (oi := _) (v := .slice (some ⟨g, 0, none⟩) n n) rfl (by kernel_rfl) (by kernel_rfl) (by kernel_rfl) (fun _ _ _ h => h) (Or.inl ⟨by rfl, ?_⟩) hHeld ?_
          · intro wq hSw
            try dsimp only at hSw
            go_simp
          try simp only [Act.put, List.getElem_toArray, List.getElem_cons_succ, List.getElem_cons_zero, List.setIfInBounds_toArray, List.set_cons_zero, List.set_cons_succ]
          refine wpAnyH_take (i := 2) (oi := _) (v := .int .i64 (j : Int)) rfl (by kernel_rfl) (by kernel_rfl) (by kernel_rfl) (fun _ _ _ h => h) (Or.inl ⟨by rfl, ?_⟩) hHeld ?_
          · intro wq hSw
            try dsimp only at hSw
            go_simp
          try simp only [Act.put, List.getElem_toArray, List.getElem_cons_succ, List.getElem_cons_zero, List.setIfInBounds_toArray, List.set_cons_zero, List.set_cons_succ]
          refine wpAnyH_take (i := 3) (oi := _) (v := .pointer (some ⟨w.heap.size, 0, none⟩)) rfl (by kernel_rfl) (by kernel_rfl) (by kernel_rfl) (fun _ _ _ h => h) (Or.inl ⟨by rfl, ?_⟩) hHeld ?_
          · intro wq hSw
            try dsimp only at hSw
            go_simp
          try simp only [Act.put, List.getElem_toArray, List.getElem_cons_succ, List.getElem_cons_zero, List.setIfInBounds_toArray, List.set_cons_zero, List.set_cons_succ]
          refine wpAnyH_take (i := 4) (oi := _) (v := .int .i64 (k : Int)) rfl (by kernel_rfl) (by kernel_rfl) (by kernel_rfl) (fun _ _ _ h => h) (Or.inl ⟨by rfl, ?_⟩) hHeld ?_
          · intro wq hSw
            try dsimp only at hSw
            go_simp
          try simp only [Act.put, List.getElem_toArray, List.getElem_cons_succ, List.getElem_cons_zero, List.setIfInBounds_toArray, List.set_cons_zero, List.set_cons_succ]
          refine wpAnyH_take (i := 5) (oi := _) (v := .int .i64 (jk : Int)) rfl (by kernel_rfl) (by kernel_rfl) (by kernel_rfl) (fun _ _ _ h => h) (Or.inl ⟨by rfl, ?_⟩) hHeld ?_
          · intro wq hSw
            try dsimp only at hSw
            go_simp
          try simp only [Act.put, List.getElem_toArray, List.getElem_cons_succ, List.getElem_cons_zero, List.setIfInBounds_toArray, List.set_cons_zero, List.set_cons_succ]
          refine wpAnyH_take (i := 6) (oi := _) (v := .int .i64 (i : Int)) rfl (by kernel_rfl) (by kernel_rfl) (by kernel_rfl) (fun _ _ _ h => h) (Or.inl ⟨by rfl, ?_⟩) hHeld ?_
          · intro wq hSw
            try dsimp only at hSw
            go_simp
          try simp only [Act.put, List.getElem_toArray, List.getElem_cons_succ, List.getElem_cons_zero, List.setIfInBounds_toArray, List.set_cons_zero, List.set_cons_succ]
          refine wpAnyH_take (i := 7) (oi := _) (v := .int .i64 (p2 : Int)) rfl (by kernel_rfl) (by kernel_rfl) (by kernel_rfl) (fun _ _ _ h => h) (Or.inl ⟨by rfl, ?_⟩) hHeld ?_
          · intro wq hSw
            try dsimp only at hSw
            go_simp
          try simp only [Act.put, List.getElem_toArray, List.getElem_cons_succ, List.getElem_cons_zero, List.setIfInBounds_toArray, List.set_cons_zero, List.set_cons_succ]
          refine wpAnyH_take (i := 8) (oi := _) (v := .pointer (some ⟨w.heap.size, 1, none⟩)) rfl (by kernel_rfl) (by kernel_rfl) (by kernel_rfl) (fun _ _ _ h => h) (Or.inl ⟨by rfl, ?_⟩) hHeld ?_
          · intro wq hSw
            try dsimp only at hSw
            go_simp
          try simp only [Act.put, List.getElem_toArray, List.getElem_cons_succ, List.getElem_cons_zero, List.setIfInBounds_toArray, List.set_cons_zero, List.set_cons_succ]
          refine wpAnyH_take (i := 9) (oi := _) (v := .slice (some ⟨gA, off, none⟩) n c) rfl (by kernel_rfl) (by kernel_rfl) (by kernel_rfl) (fun _ _ _ h => h) (Or.inl ⟨by rfl, ?_⟩) hHeld ?_
          · intro wq hSw
            try dsimp only at hSw
            go_simp
          try simp only [Act.put, List.getElem_toArray, List.getElem_cons_succ, List.getElem_cons_zero, List.setIfInBounds_toArray, List.set_cons_zero, List.set_cons_succ]
          refine wpAnyH_take (i := 10) (oi := _) (v := .int .i64 (i : Int)) rfl (by kernel_rfl) (by kernel_rfl) (by kernel_rfl) (fun _ _ _ h => h) (Or.inl ⟨by rfl, ?_⟩) hHeld ?_
          · intro wq hSw
            try dsimp only at hSw
            go_simp
          try simp only [Act.put, List.getElem_toArray, List.getElem_cons_succ, List.getElem_cons_zero, List.setIfInBounds_toArray, List.set_cons_zero, List.set_cons_succ]
          refine wpAnyH_take (i := 11) (oi := _) (v := .pointer (some ⟨w.heap.size, 0, none⟩)) rfl (by kernel_rfl) (by kernel_rfl) (by kernel_rfl) (fun _ _ _ h => h) (Or.inl ⟨by rfl, ?_⟩) hHeld ?_
          · intro wq hSw
            try dsimp only at hSw
            go_simp
          try simp only [Act.put, List.getElem_toArray, List.getElem_cons_succ, List.getElem_cons_zero, List.setIfInBounds_toArray, List.set_cons_zero, List.set_cons_succ]
          refine wpAnyH_take (i := 12) (oi := _) (v := .int .i64 (k : Int)) rfl (by kernel_rfl) (by kernel_rfl) (by kernel_rfl) (fun _ _ _ h => h) (Or.inl ⟨by rfl, ?_⟩) hHeld ?_
          · intro wq hSw
            try dsimp only at hSw
            go_simp
          try simp only [Act.put, List.getElem_toArray, List.getElem_cons_succ, List.getElem_cons_zero, List.setIfInBounds_toArray, List.set_cons_zero, List.set_cons_succ]
          refine wpAnyH_take (i := 13) (oi := _) (v := .int .i64 (ik : Int)) rfl (by kernel_rfl) (by kernel_rfl) (by kernel_rfl) (fun _ _ _ h => h) (Or.inl ⟨by rfl, ?_⟩) hHeld ?_
          · intro wq hSw
            try dsimp only at hSw
            go_simp
          try simp only [Act.put, List.getElem_toArray, List.getElem_cons_succ, List.getElem_cons_zero, List.setIfInBounds_toArray, List.set_cons_zero, List.set_cons_succ]
          refine wpAnyH_take (i := 14) (oi := _) (v := .int .i64 (j : Int)) rfl (by kernel_rfl) (by kernel_rfl) (by kernel_rfl) (fun _ _ _ h => h) (Or.inl ⟨by rfl, ?_⟩) hHeld ?_
          · intro wq hSw
            try dsimp only at hSw
            go_simp
          try simp only [Act.put, List.getElem_toArray, List.getElem_cons_succ, List.getElem_cons_zero, List.setIfInBounds_toArray, List.set_cons_zero, List.set_cons_succ]
          refine wpAnyH_take (i := 15) (oi := _) (v := .int .i64 (p : Int)) rfl (by kernel_rfl) (by kernel_rfl) (by kernel_rfl) (fun _ _ _ h => h) (Or.inl ⟨by rfl, ?_⟩) hHeld ?_
          · intro wq hSw
            try dsimp only at hSw
            go_simp
          try simp only [Act.put, List.getElem_toArray, List.getElem_cons_succ, List.getElem_cons_zero, List.setIfInBounds_toArray, List.set_cons_zero, List.set_cons_succ]
          refine wpAnyH_take (i := 16) (oi := _) (v := .pointer (some ⟨gA, off + p * 3, none⟩)) rfl (by kernel_rfl) (by kernel_rfl) (by kernel_rfl) (fun _ _ _ h => h) (Or.inl ⟨by rfl, ?_⟩) hHeld ?_
          · intro wq hSw
            try dsimp only at hSw
            go_simp
          try simp only [Act.put, List.getElem_toArray, List.getElem_cons_succ, List.getElem_cons_zero, List.setIfInBounds_toArray, List.set_cons_zero, List.set_cons_succ]
          refine wpAnyH_take (i := 17) (oi := _) (v := .agg #[.bool s0, .slice b ln kk, .int .i64 y0]) rfl (by kernel_rfl) (by kernel_rfl) (by kernel_rfl) (fun _ _ _ h => h) (Or.inl ⟨by rfl, ?_⟩) hHeld ?_
          · intro wq hSw
            try dsimp only at hSw
            go_simp
          try simp only [Act.put, List.getElem_toArray, List.getElem_cons_succ, List.getElem_cons_zero, List.setIfInBounds_toArray, List.set_cons_zero, List.set_cons_succ]
          refine wpAnyH_take (i := 18) (oi := _) (v := .pointer (some ⟨g, p2 * 3, none⟩)) rfl (by kernel_rfl) (by kernel_rfl) (by kernel_rfl) (fun _ _ _ h => h) (Or.inl ⟨by rfl, ?_⟩) hHeld ?_
          · intro wq hSw
            try dsimp only at hSw
            go_simp
          try simp only [Act.put, List.getElem_toArray, List.getElem_cons_succ, List.getElem_cons_zero, List.setIfInBounds_toArray, List.set_cons_zero, List.set_cons_succ]
          refine wpAnyH_ready (rs := [19]) (by kernel_rfl) (by simp) ?_
          refine AllReadyH.cons rfl (fun KK hK => ?_) AllReadyH.nil
          simp only [List.getElem_toArray, List.getElem_cons_succ, List.getElem_cons_zero]
          rw [if_pos (by rfl)]
          go_simp
          have ks := unhide KS
          replace O1 := ks.cellOut (by have := unhide HGL; have := unhide HGW; dsimp only; omega) O1
          replace A0 := ks.cellOut (by have := unhide HGL; have := unhide HGW; dsimp only; omega) A0
          replace A1 := ks.cellOut (by have := unhide HGL; have := unhide HGW; dsimp only; omega) A1
          replace e0 := ks.cellOut (by have := unhide HGL; have := unhide HGW; dsimp only; omega) e0
          replace e1 := ks.cellOut (by have := unhide HGL; have := unhide HGW; dsimp only; omega) e1
          replace e2 := ks.cellOut (by have := unhide HGL; have := unhide HGW; dsimp only; omega) e2
          clear hHeld
          refine hK.out _ _ ?_ (fun hHeld => ?_)
          · exact ⟨O1, A0, A1, e0, e1, e2⟩
          clear hK KK ks
          try simp only [Act.put, List.getElem_toArray, List.getElem_cons_succ, List.getElem_cons_zero, List.setIfInBounds_toArray, List.set_cons_zero, List.set_cons_succ]
          refine wpAnyH_done (by kernel_rfl) ?_ _
          clear hHeld O1 A0 A1 e0 e1 e2 hx0 hx1 hx2 g0 g1 g2
          go_wp2
          go_roundw
          case rel => exact ⟨j + 1, by simp, hltj, F4, K5, KG5⟩
          case measure => simp [intOf]; omega
        · have hjn : j = k := by omega
          subst hjn
          have F5 := hide ((unhide hF).mono (P' := fun q => q % j < i + 1) (fun q hq h => by
            have hL := unhide HL
            have : q / j < j := Nat.div_lt_of_lt_mul (by omega)
            omega))
          clear hF hgw
          go_wp2
          go_roundw
          case rel => exact ⟨i + 1, by simp, hlt, F5, kw, kg⟩
          case measure => simp [intOf]; omega
    · have hin : i = k := by omega
      subst hin
      have O0 := (unhide kg).cellOut (a := ⟨O, 0, none⟩) (by dsimp only; omega) o0
      have O1 := (unhide kg).cellOut (a := ⟨O, 1, none⟩) (by dsimp only; omega) o1
      have Q0 := (unhide kg).cellOut (a := ⟨w.heap.size + 1, 0, none⟩) (by dsimp only; omega) q0'
      have Q1 := (unhide kg).cellOut (a := ⟨w.heap.size + 1, 1, none⟩) (by dsimp only; omega) q1'
      have Qf0 := (unhide kg).looseOut (a := ⟨w.heap.size + 1, 0, none⟩) (by dsimp only; omega) (World.block_lt_of_cell? _ _ q0') f0'
      have Qf1 := (unhide kg).looseOut (a := ⟨w.heap.size + 1, 1, none⟩) (by dsimp only; omega) (World.block_lt_of_cell? _ _ q1') f1'
      have ks : Kept (w.heap.size + 1) (w.heap.size + 1 + 1) wo ((wo.setCell ⟨w.heap.size + 1, 0, none⟩ (.int .i64 (i : Int))).setCell ⟨w.heap.size + 1, 1, none⟩ (.slice (some ⟨g, 0, none⟩) n n)) :=
        ((Kept.refl _ _ _).setCell (p := ⟨w.heap.size + 1, 0, none⟩) (Nat.le_refl _) (Nat.lt_succ_self _) _).setCell (p := ⟨w.heap.size + 1, 1, none⟩) (Nat.le_refl _) (Nat.lt_succ_self _) _
      have hL := unhide HL
      have h16 := unhide H16
      have DD := hide (((unhide hF).keptW ks (by omega) (by omega)).done (fun q hq => Nat.mod_lt _ (by
        rcases Nat.eq_zero_or_pos i with e | e
        · subst e; simp at hL; omega
        · exact e)) (by rw [unhide HTL]; unfold turL; simp [hL]) (by unfold maxLen; omega))
      have K7 := hide ((unhide kw).wide ks (by omega))
      have G0 := cell_off _ _ _ 1 (.slice (some ⟨g, 0, none⟩) n n) _ (cell_on _ _ _ (.int .i64 (i : Int)) _ Q0) (show (0 : Nat) ≠ 1 by omega)
      have G1 := cell_on _ _ _ (.slice (some ⟨g, 0, none⟩) n n) _ (cell_off _ _ _ 0 (.int .i64 (i : Int)) _ Q1 (show (1 : Nat) ≠ 0 by omega))
      clear hF kw kg ks hgw hL h16
      go_wp2
      exact bodyPost_ret (v := .agg #[.int .i64 (i : Int), .slice (some ⟨g, 0, none⟩) n n]) (by simp [results, Tryd.results39, go_sem, G0, G1]) rfl ⟨_, rfl, unhide DD, unhide K7⟩

end Go.Proofs.YtagaofpkfpfilaaDoor
