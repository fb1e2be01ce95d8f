/-
  The contract of the model's l2shr.
-/
import Derived.Test.YtbihbloknmjfjaaDoorNat11
import Derived.Deep.RegionWith
namespace Go.Proofs.YtbihbloknmjfjaaDoor
open Go.RowKit
set_option linter.unusedVariables false
set_option maxRecDepth 8000
set_option linter.unusedSimpArgs false

set_option maxHeartbeats 4000000 in
theorem shr_spec {bw : Bool} {lo hi : Nat} {v : Value} {xs : List Int} (w : World) (r : Row .i64 bw lo hi w v xs) (hx : Lim xs) (nx : xs.length ≤ 100000) (k : Nat) (hk : (k : Int) ≤ 9223372036854775807) :
    Calls Tryd.prog 86 #[.agg #[v], .int .i64 (k : Int)] w fun e w' => ∃ v', e = .returned (.agg #[v']) ∧ Row .i64 true w.heap.size w'.heap.size w' v' (limbs ((val xs).toNat / 2 ^ k)) ∧ Kept 0 0 w w' := by
  have rr := r.read.tight
  obtain ⟨M, hM⟩ : ∃ M, M = xs.length := ⟨_, rfl⟩
  obtain ⟨a1, c1, e1, q1, m1, q3⟩ := r
  rw [← hM] at e1 q1 nx
  subst e1
  unfold maxLen at m1
  clear q3
  obtain ⟨q, s, hs, rfl⟩ : ∃ q s : Nat, s < 16 ∧ k = 16 * q + s := ⟨k / 16, k % 16, by omega, by omega⟩
  have ed : (((16 * q + s : Nat) : Int)).tdiv 16 = q := by rw [Int.tdiv_eq_ediv_of_nonneg (by omega)]; omega
  have et : (((16 * q + s : Nat) : Int)).tmod 16 = s := by rw [Int.tmod_eq_emod_of_nonneg (by omega)]; omega
  have hqr : (q : Int) ≤ 9223372036854775807 := by omega
  by_cases hq : (M : Int) ≤ (q : Int)
  · have e0 : (val xs).toNat / 2 ^ (16 * q + s) = 0 := by
      have h1 := val_lt hx
      have h2 := val_nonneg hx
      rw [pow_limb] at h1
      have h3 : 2 ^ (16 * xs.length) ≤ 2 ^ (16 * q + s) := Nat.pow_le_pow_right (by decide) (by omega)
      exact Nat.div_eq_of_lt (by omega)
    rw [e0, limbs_zero]
    generalize hI : (((16 * q + s : Nat) : Int)) = I at *
    clear e0 rr hI hM
    go_enter Tryd.func86, Tryd.ntmps86
    go_wp2
    exact bodyPost_ret (v := .agg #[.slice none 0 0]) (by simp [results, Tryd.results86, go_sem]) rfl ⟨_, rfl, Row.nil _ _ _ _ _, ((Kept.refl _ _ _).alloc _).alloc _⟩
  · have hat := (row_cell rr).2.2.2 q (by omega)
    obtain ⟨g, off, rfl, -⟩ := hat
    have hv := shr_val hx q s (by omega)
    have r2 := rr.drop q (by omega)
    have k2 := ((Kept.refl 0 0 w).alloc (.cells #[.slice (some ⟨g, off, none⟩) M c1] 30)).alloc (.cells #[.slice none 0 0] 30)
    have r3 := r2.kept k2 (by omega)
    have hp : (1 : Int) ≤ ((2 ^ s : Nat) : Int) ∧ ((2 ^ s : Nat) : Int) ≤ 32768 := by
      have h1 : 2 ^ s ≤ 2 ^ 15 := Nat.pow_le_pow_right (by decide) (by omega)
      have h2 : 0 < 2 ^ s := Nat.pow_pos (by decide)
      omega
    have hlm := hx.drop q
    have hln : (xs.drop q).length ≤ 100000 := by simp; omega
    have hq0 : (q : Int) < (M : Int) := by omega
    rw [← hv]
    have e2s : ((2 ^ s : Nat) : Int) = (2 : Int) ^ s := by simp
    rw [e2s] at hp ⊢
    generalize hI : (((16 * q + s : Nat) : Int)) = I at *
    have HR := hide r3
    have KK := hide k2
    clear hv rr r2 r3 k2 hI hM hq
    go_enter Tryd.func86, Tryd.ntmps86
    go_wp2
    have hb1 : ((w.alloc (.cells #[.slice (some ⟨g, off, none⟩) M c1] 30)).alloc (.cells #[.slice none 0 0] 30)).cell? ⟨w.heap.size, 0, none⟩ = some (.slice (some ⟨g, off, none⟩) M c1) := old_cell _ (new_cell_at _ _ _ _ rfl)
    have hb2 : ((w.alloc (.cells #[.slice (some ⟨g, off, none⟩) M c1] 30)).alloc (.cells #[.slice none 0 0] 30)).cell? ⟨w.heap.size + 1, 0, none⟩ = some (.slice none 0 0) := new_cell_at _ _ _ _ (by simp)
    have hf2 : ((w.alloc (.cells #[.slice (some ⟨g, off, none⟩) M c1] 30)).alloc (.cells #[.slice none 0 0] 30)).frozen? ⟨w.heap.size + 1, 0, none⟩ = false := new_loose _ _ _ _ (by simp)
    have hs2 : ((w.alloc (.cells #[.slice (some ⟨g, off, none⟩) M c1] 30)).alloc (.cells #[.slice none 0 0] 30)).heap.size = w.heap.size + 2 := by simp
    have HS2 := hide hs2
    clear hs2
    generalize (w.alloc (.cells #[.slice (some ⟨g, off, none⟩) M c1] 30)).alloc (.cells #[.slice none 0 0] 30) = W2 at *
    have hq2 : (q : Int) ≤ (M : Int) := by omega
    have hq3 : q ≤ M := by omega
    have hq4 : (0 : Int) ≤ (q : Int) := by omega
    have hq5 : (M : Int) ≤ (c1 : Int) := by omega
    have hq6 : IntKind.i64.wrap (q : Int) = q := by rw [IntKind.wrap_i64]; omega
    have hb3 : (W2.alloc (.cells #[.slice none 0 0] 30)).cell? ⟨w.heap.size, 0, none⟩ = some (.slice (some ⟨g, off, none⟩) M c1) := old_cell _ hb1
    have hq7 : ¬ c1 = q := by omega
    have hq8 : IntKind.i64.wrap ((2 : Int) ^ s) = (2 : Int) ^ s := by rw [IntKind.wrap_i64]; omega
    have HX : Hid (∀ wx wn v' L, Kept 0 0 W2 wx → Kept 0 0 wx wn → Row .i64 true wx.heap.size wn.heap.size wn v' L → wn.cell? ⟨w.heap.size + 1, 0, none⟩ = some (.slice none 0 0) ∧ wn.frozen? ⟨w.heap.size + 1, 0, none⟩ = false ∧ Kept 0 0 w wn ∧ Row .i64 true (w.heap.size + 2) wn.heap.size wn v' L) := fun wx wn v' L h1 h2 h3 => by
      have h12 := h1.trans h2
      have hb := h12.block (w.heap.size + 1) (by have := unhide HS2; omega) (by omega)
      refine ⟨by rw [← hb2]; exact World.cell?_of_block hb, by simpa [World.frozen?, hb] using hf2, (unhide KK).trans h12, h3.wider ?_ (Nat.le_refl _)⟩
      have := unhide HS2
      have := h1.size
      omega
    go_region_with (go_at_call 106; first
      | (refine (small_spec W2.drew ((unhide HR).kept (Kept.refl 0 0 W2).drew (by omega)) hlm hln ((2 : Int) ^ s) (by omega) (by omega)).mono ?_
         rintro e wn ⟨v', rfl, rn, kn⟩
         obtain ⟨x1, x2, x3, x4⟩ := unhide HX _ _ _ _ (Kept.refl 0 0 W2).drew kn rn
         obtain ⟨a', c', rfl, -, -, -⟩ := id rn
         have X3 := hide x3
         have X4 := hide x4
         have y1 : ∀ o, (wn.alloc o).cell? ⟨w.heap.size + 1, 0, none⟩ = some (.slice none 0 0) := fun o => old_cell o x1
         have y2 : w.heap.size + 1 < wn.heap.size := World.block_lt_of_cell? _ _ x1
         have y3 : ¬ w.heap.size + 1 = wn.heap.size := by omega
         have y4 : ¬ wn.heap.size = w.heap.size + 1 := by omega
         clear x3 x4 rn kn)
      | (refine (small_spec (W2.alloc (.cells #[.slice none 0 0] 30)).drew ((unhide HR).kept ((Kept.refl 0 0 W2).alloc _).drew (by omega)) hlm hln ((2 : Int) ^ s) (by omega) (by omega)).mono ?_
         rintro e wn ⟨v', rfl, rn, kn⟩
         obtain ⟨x1, x2, x3, x4⟩ := unhide HX _ _ _ _ ((Kept.refl 0 0 W2).alloc _).drew kn rn
         have hnb : wn.heap[W2.heap.size]? = some (.cells #[.slice none 0 0] 30) := (kn.block W2.heap.size (by simp [World.drew]) (by omega)).trans (heap_alloc_new W2 _)
         have x5 : wn.cell? ⟨W2.heap.size, 0, none⟩ = some (.slice none 0 0) := by simp only [World.cell?, hnb]; rfl
         have x6 : wn.frozen? ⟨W2.heap.size, 0, none⟩ = false := by simp only [World.frozen?, hnb]; rfl
         obtain ⟨a', c', rfl, -, -, -⟩ := id rn
         have X3 := hide x3
         have X4 := hide (rn.wider (lo' := W2.heap.size + 1) (by simp [World.drew]) (Nat.le_refl _))
         have y2 : w.heap.size + 1 < W2.heap.size := by have := unhide HS2; omega
         have y3 : ¬ w.heap.size + 1 = W2.heap.size := by omega
         have y4 : ¬ W2.heap.size = w.heap.size + 1 := by omega
         clear x3 x4 rn kn hnb)
      | (trace_state; fail))
    all_goals clear HX HR KK
    all_goals go_wp2
    all_goals first
      | (have z0 := y1
         have z1 : ∀ o, ((wn.setCell ⟨w.heap.size + 1, 0, none⟩ (.slice a' (limbs (val (xs.drop q) / 2 ^ s).toNat).length c')).alloc o).cell? ⟨w.heap.size + 1, 0, none⟩ = some (.slice a' (limbs (val (xs.drop q) / 2 ^ s).toNat).length c') := fun o => old_cell o (cell_on _ _ _ _ _ x1)
         exact bodyPost_ret (v := .agg #[.slice a' (limbs (val (xs.drop q) / 2 ^ s).toNat).length c']) (by simp [results, Tryd.results86, go_sem, z1]) rfl ⟨_, rfl, (((unhide X4).kept ((Kept.refl (w.heap.size + 1) (w.heap.size + 2) wn).setCell (p := ⟨w.heap.size + 1, 0, none⟩) (Nat.le_refl _) (Nat.lt_succ_self _) _) (by omega)).kept ((Kept.refl 0 0 _).alloc _) (by omega)).tight.wider (by omega) (Nat.le_refl _), ((unhide X3).setNew (p := ⟨w.heap.size + 1, 0, none⟩) (Nat.le_succ _) _).alloc _⟩)
      | exact bodyPost_ret (v := .agg #[.slice a' (limbs (val (xs.drop q) / 2 ^ s).toNat).length c']) (by simp [results, Tryd.results86, go_sem, x1, x5, y3, y4, cell_far]) rfl ⟨_, rfl, (((unhide X4).kept ((Kept.refl W2.heap.size (W2.heap.size + 1) wn).setCell (p := ⟨W2.heap.size, 0, none⟩) (Nat.le_refl _) (Nat.lt_succ_self _) _) (by omega)).kept ((Kept.refl (w.heap.size + 1) (w.heap.size + 2) _).setCell (p := ⟨w.heap.size + 1, 0, none⟩) (Nat.le_refl _) (Nat.lt_succ_self _) _) (by omega)).tight.wider (by omega) (Nat.le_refl _), ((unhide X3).setNew (p := ⟨W2.heap.size, 0, none⟩) (by show _ ≤ W2.heap.size; omega) _).setNew (p := ⟨w.heap.size + 1, 0, none⟩) (Nat.le_succ _) _⟩

end Go.Proofs.YtbihbloknmjfjaaDoor
