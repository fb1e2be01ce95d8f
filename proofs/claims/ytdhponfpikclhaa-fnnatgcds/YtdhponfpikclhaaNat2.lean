/-
  The contract of the model's l2norm: the limbs of the number that a list of limbs stands for, in new memory.
-/
import Derived.Test.YtdhponfpikclhaaNat1
import Derived.Test.YtdhponfpikclhaaOwn
import Derived.Lib.AppendZeros
namespace Go.Proofs.Ytdhponfpikclhaa
open Go.RowKit
set_option linter.unusedVariables false
set_option maxRecDepth 8000

theorem Try.info3 : (Try.prog.info? 3).map (fun i => (i.zero, i.size, i.bytes)) = some (some (.int .i64 0), 1, 8) := by kernel_rfl

set_option maxHeartbeats 2000000 in
theorem norm_spec {bw : Bool} {lo hi : Nat} {v : Value} {zs : List Int} (w : World) (r : Row .i64 bw lo hi w v zs) (hl : Lim zs) (hlen : zs.length ≤ 1000000) :
    Calls Try.prog 148 #[v] w fun e w' => ∃ v', e = .returned (.agg #[v']) ∧ Row .i64 true w.heap.size w'.heap.size w' v' (limbs (val zs).toNat) ∧ Kept 0 0 w w' := by
  have rr := r.read.tight
  obtain ⟨a, c, rfl, q1, m1, q3⟩ := r
  unfold maxLen at m1
  obtain ⟨i0, hi0, hz0, hz1, hz2⟩ := info_parts Try.info3
  clear q3
  go_enter Try.func148, Try.ntmps148
  go_wp2
  have r1 := rr.kept ((Kept.refl 0 0 w).alloc (.cells #[.slice none 0 0] 26)) (by omega)
  have hat := (row_cell r1).2.2.2
  have hs1 : (w.alloc (.cells #[.slice none 0 0] 26)).heap.size = w.heap.size + 1 := by simp
  have HS1 := hide hs1
  clear hs1
  go_loop [3] (fun n => ∃ k : Nat, k ≤ zs.length ∧ n = .int .i64 k ∧ Hid (∀ i, k ≤ i → i < zs.length → zs.getD i 0 = 0)) (fun n => (intOf n).toNat)
  case atStart => exact ⟨zs.length, Nat.le_refl _, rfl, fun i h1 h2 => by omega⟩
  case round =>
    obtain ⟨k, hk, rfl, hall⟩ := hrel
    by_cases hk0 : k = 0
    · subst hk0
      have ht := take_limbs zs hl 0 (Nat.zero_le _) (fun i h1 h2 => hall.out i h1 h2) (.inl rfl)
      rw [List.take_zero] at ht
      have HT := hide ht
      clear ht hat hall
      have hrun := fun ty => run_append_zero (P := Try.prog) ((w.alloc (.cells #[.slice none 0 0] 26)).alloc (.cells #[] 3)) 24 ty 3 i0 Try.underlying24 hi0 ⟨w.heap.size + 1, 0, none⟩ a 0 0 c (Nat.le_refl _)
      have HRUN := hide hrun
      clear hrun
      go_wp2_with (at_builtin; refine Lib.wpList_append_run _ rfl _ _ _ _ rfl _ _ rfl rfl _ _ (unhide HRUN _) ?_)
      refine bodyPost_ret (v := .agg #[.slice (some ⟨w.heap.size + 1, 0, none⟩) 0 0]) (by simp [results, Try.results148, go_sem]) rfl ⟨_, rfl, ?_, ((Kept.refl _ _ _).alloc _).alloc _⟩
      rw [← unhide HT]
      exact Row.empty _ _ _ _ _ _ _ (Nat.zero_le _)
    · obtain ⟨g, off, rfl, hc⟩ := hat (k - 1) (by omega)
      have hk1 : 1 ≤ k := by omega
      have hpos : (0 : Int) < (k : Int) := by omega
      by_cases hz : zs.getD (k - 1) 0 = 0
      · have hbz : (zs.getD (k - 1) 0 == 0) = true := beq_iff_eq.2 hz
        have HZ := hide hz
        generalize zs.getD (k - 1) 0 = z at hc hbz
        clear hat hz
        go_wp2
        go_round
        case rel => exact ⟨k - 1, by omega, by go_num, fun i h1 h2 => by
          rcases Nat.lt_or_ge i k with h | h
          · have : i = k - 1 := by omega
            subst this; exact unhide HZ
          · exact hall.out i h h2⟩
        case measure => simp [intOf]; omega
      · have hbz : (zs.getD (k - 1) 0 == 0) = false := beq_eq_false_iff_ne.2 hz
        have ht := take_limbs zs hl k hk (fun i h1 h2 => hall.out i h1 h2) (.inr hz)
        have HT := hide ht
        have hne : zs ≠ [] := by intro e; subst e; simp at hk; omega
        obtain ⟨g', o', c', e', -, -, hnews⟩ := (r1.kept ((Kept.refl 0 0 _).alloc (.cells #[] 3)) (by omega)).news hne
        cases e'
        have hnk : ∀ j u, ((zs.take k).map (Value.int .i64))[j]? = some u → ((w.alloc (.cells #[.slice none 0 0] 26)).alloc (.cells #[] 3)).cell? ((⟨g, off, none⟩ : Addr).add j) = some u := fun j u hj => hnews j u (by
          rw [List.map_take, List.getElem?_take] at hj
          split at hj
          · exact hj
          · cases hj)
        have hown0 := own_nil_at (w.alloc (.cells #[.slice none 0 0] 26)) 3 (w.heap.size + 1) (w.heap.size + 1) (unhide HS1).symm (Nat.le_refl _)
        have hlk : ((zs.take k).map (Value.int .i64)).length = k * 1 := by simp; omega
        generalize zs.getD (k - 1) 0 = z at hc hbz
        have HN := hide hnk
        have HB : Hid (w.heap.size + 1 ≤ ((w.alloc (.cells #[.slice none 0 0] 26)).alloc (.cells #[] 3)).heap.size) := by show _ ≤ _; simp
        clear hat hz ht hnews hnk hall hne
        go_wp2_with (at_builtin; refine wpList_append_own _ rfl _ _ 24 rfl (w.heap.size + 1) 3 i0 (.int .i64 0) 1 8 Try.underlying24 hi0 hz0 hz1 hz2 rfl (by decide) _ _ _ rfl hown0 ⟨g, off, none⟩ k c ((zs.take k).map (Value.int .i64)) rfl hlk (unhide HN) (ints_one _ _) ?c3 ?c4 (unhide HB) ?_)
        case c3 => unfold maxLen; omega
        case c4 => omega
        intro v4 w4 hown4 hgrow _
        obtain ⟨a4, c4, hv4⟩ := own_slice hown4
        subst hv4
        have hcr : w4.cell? ⟨w.heap.size, 0, none⟩ = some (.slice none 0 0) := by
          have h1 : ((w.alloc (.cells #[.slice none 0 0] 26)).alloc (.cells #[] 3)).cell? ⟨w.heap.size, 0, none⟩ = some (.slice none 0 0) := old_cell _ (new_cell_at _ _ _ _ rfl)
          exact hgrow.cell h1 (by simp [Value.ownBlock])
        have hfr : w4.frozen? ⟨w.heap.size, 0, none⟩ = false := by
          have hb := hgrow.block w.heap.size (by simp; omega) (by simp [Value.ownBlock])
          have h1 : ((w.alloc (.cells #[.slice none 0 0] 26)).alloc (.cells #[] 3)).heap[w.heap.size]? = some (.cells #[.slice none 0 0] 26) := by
            rw [Below.heap_alloc _ _ _ (by simp)]; exact heap_alloc_new w _
          rw [h1] at hb
          simp [World.frozen?, hb]
        have kk : Kept 0 0 w (w4.setCell ⟨w.heap.size, 0, none⟩ (.slice a4 k c4)) := ((((Kept.refl 0 0 w).alloc _).alloc _).growNew hgrow (fun q hq => by simp [Value.ownBlock] at hq; omega)).setNew (p := ⟨w.heap.size, 0, none⟩) (Nat.le_refl _) (.slice a4 k c4)
        have ho5 := ownsRow_setCell_below hown4 (a := ⟨w.heap.size, 0, none⟩) (Nat.lt_succ_self _) (.slice a4 k c4)
        have hr5 : Row .i64 true w.heap.size (w4.setCell ⟨w.heap.size, 0, none⟩ (.slice a4 k c4)).heap.size (w4.setCell ⟨w.heap.size, 0, none⟩ (.slice a4 k c4)) (.slice a4 k c4) (limbs (val zs).toNat) := by
          have h5 : (w4.setCell ⟨w.heap.size, 0, none⟩ (.slice a4 k c4)).ownsRow (w.heap.size + 1) 3 1 (.slice a4 k c4) k ((limbs (val zs).toNat).map (Value.int .i64)) := by
            rw [← unhide HT]; simpa using ho5
          exact (Row.own h5).wider (Nat.le_succ _) (Nat.le_refl _)
        clear hown4 hgrow ho5 hown0 HN HB hlk hbz hc hi0 hz0 hz1 hz2 HT rr r1
        go_wp2
        exact bodyPost_ret (v := .agg #[(.slice a4 k c4)]) (by simp [results, Try.results148, go_sem, hcr]) rfl ⟨_, rfl, hr5, kk⟩

end Go.Proofs.Ytdhponfpikclhaa
