/-
  What the laws over two natural numbers share: an answer that is put into a new cell, or into one that was made before.
-/
import Derived.Test.YtdhponfpikclhaaPair
import Derived.Deep.DeepCutAuto
namespace Go.Proofs.Ytdhponfpikclhaa
open Go.RowKit
set_option linter.unusedVariables false
set_option maxRecDepth 8000

theorem toNat_kept {bw : Bool} {lo hi : Nat} {v : Value} {zs : List Int} {w0 w : World} (hn : zs.length ≤ 1099511627776) (r : Row .i64 bw lo hi w0 v zs) (k : Kept 0 0 w0 w) :
    Calls Try.prog 60 #[.agg #[v]] w fun e w' => ∃ v', e = .returned (.agg #[v']) ∧ Row .i64 true w.heap.size w'.heap.size w' v' zs ∧ Kept 0 0 w w' := toNat_any _ hn (r.kept k (by omega))

theorem law_new {cur w9 : World} {v : Value} {zs : List Int} {b hi : Nat} (t : TypeId) (k : Kept 0 0 cur w9) (r : Row .i64 true b hi w9 v zs) (hb : cur.heap.size ≤ b) :
    (w9.alloc (.cells #[v] t)).cell? ⟨w9.heap.size, 0, none⟩ = some v ∧ Row .i64 true cur.heap.size (w9.alloc (.cells #[v] t)).heap.size (w9.alloc (.cells #[v] t)) v zs ∧ cur.heap.size ≤ w9.heap.size ∧ w9.heap.size < (w9.alloc (.cells #[v] t)).heap.size ∧ Kept 0 0 cur (w9.alloc (.cells #[v] t)) :=
  ⟨new_cell_at _ _ _ _ rfl, ((r.kept ((Kept.refl 0 0 w9).alloc _) (by omega)).tight.wider hb (Nat.le_refl _)), k.size, by simp, k.alloc _⟩
theorem law_set {cur w9 : World} {X : Nat} {v z : Value} {zs : List Int} {b hi : Nat} (k : Kept 0 0 cur w9) (c : w9.cell? ⟨X, 0, none⟩ = some z) (r : Row .i64 true b hi w9 v zs) (hX : cur.heap.size ≤ X) (hb : X < b) :
    (w9.setCell ⟨X, 0, none⟩ v).cell? ⟨X, 0, none⟩ = some v ∧ Row .i64 true cur.heap.size (w9.setCell ⟨X, 0, none⟩ v).heap.size (w9.setCell ⟨X, 0, none⟩ v) v zs ∧ cur.heap.size ≤ X ∧ X < (w9.setCell ⟨X, 0, none⟩ v).heap.size ∧ Kept 0 0 cur (w9.setCell ⟨X, 0, none⟩ v) :=
  ⟨cell_on _ _ _ _ _ c, ((r.set_other (p := ⟨X, 0, none⟩) (.inl hb) v).tight.wider (by omega) (Nat.le_refl _)), hX, by have := World.block_lt_of_cell? _ _ c; simpa [World.setCell] using this, k.setNew (p := ⟨X, 0, none⟩) hX v⟩

set_option maxHeartbeats 400000 in
theorem markIntS_wide {lo hi : Nat} {v : Value} {zs : List Int} (w : World) (s : Int) (hs0 : 0 ≤ s) (hs1 : s ≤ 1000000000) (hn : zs.length ≤ 1099511627776) (r : Row .i64 true lo hi w v zs) :
    Calls Try.prog 122 #[v, .int .i64 s] w fun e w' => e = .returned (.int .i64 (s + zs.length)) ∧ Row .i64 true lo hi w' v (marks .i64 s zs.length) ∧ Kept lo hi w w' ∧ w'.heap.size = w.heap.size := by
  by_cases hz : zs = []
  · subst hz
    obtain ⟨a, c, rfl, q1, m1, q3⟩ := r
    go_enter Try.func122, Try.ntmps122
    go_wp2
    go_loop [1, 5] (fun kk i => kk = .int .i64 s ∧ i = .int .i64 0) (fun _ _ => 0)
    case atStart => exact ⟨rfl, rfl⟩
    case round =>
      obtain ⟨rfl, rfl⟩ := hrel
      go_wp2
      go_ret
      exact ⟨by simp, ⟨a, c, rfl, q1, m1, fun e => absurd rfl e⟩, Kept.refl _ _ _, rfl⟩
  · obtain ⟨a, c, rfl, q1, m1, q3⟩ := r
    obtain ⟨g, off, rfl, rest⟩ := q3 hz
    have r : Row .i64 true lo hi w (.slice (some ⟨g, off, none⟩) zs.length c) zs := ⟨_, _, rfl, q1, m1, q3⟩
    clear q3 rest
    have hpos : 0 < zs.length := List.length_pos_iff.2 hz
    have r0 : Row .i64 true lo hi w (.slice (some ⟨g, off, none⟩) zs.length c) (marks .i64 s 0 ++ zs.drop 0) := by simpa [marks] using r
    clear r hz q1 m1
    go_enter Try.func122, Try.ntmps122
    go_wp2
    go_loopw [1, 5] (fun kk i wr => ∃ j : Nat, j ≤ zs.length ∧ i = .int .i64 j ∧ kk = .int .i64 (s + j) ∧ Row .i64 true lo hi wr (.slice (some ⟨g, off, none⟩) zs.length c) (marks .i64 s j ++ zs.drop j) ∧ Kept lo hi w wr ∧ wr.heap.size = w.heap.size) (fun _ i _ => zs.length - (intOf i).toNat)
    case atStart => exact ⟨0, Nat.zero_le _, rfl, by simp, r0, Kept.refl _ _ _, rfl⟩
    case round =>
      clear r0
      obtain ⟨j, hj, rfl, rfl, hr, hk, hsz⟩ := hrel
      by_cases hlt : j < zs.length
      · obtain ⟨hc, hf, hl, hh, hgs, -⟩ := hr.at hlt
        generalize (marks .i64 s j ++ zs.drop j).getD j 0 = z at hc
        have HSZ : Hid (wr.heap.size = w.heap.size) := hsz
        clear hsz
        go_wp2
        have ew : IntKind.i64.wrap (s + j) = s + j := wrap_small _ (by omega) (by omega)
        have e2 : (marks .i64 s j ++ zs.drop j).set j (s + j) = marks .i64 s (j + 1) ++ zs.drop (j + 1) := by rw [← marks_step _ _ _ _ hlt, ew]
        have hs := hr.set j hpos (s + j)
        rw [e2] at hs
        have hk' := hk.setCell (p := ⟨g, off + j, none⟩) hl hh (.int .i64 (s + j))
        go_roundw
        case rel => exact ⟨j + 1, by omega, by go_num, by go_num, hs, hk', by simpa [World.setCell] using HSZ.out⟩
        case measure => simp [intOf]; omega
      · have e : j = zs.length := by omega
        subst e
        rw [marks_all] at hr
        have HSZ : Hid (wr.heap.size = w.heap.size) := hsz
        clear hsz
        go_wp2
        go_ret
        exact ⟨rfl, hr, hk, HSZ.out⟩

set_option maxHeartbeats 1000000 in
theorem markNat_wide {lo hi : Nat} {v : Value} {zs : List Int} (w : World) (s : Int) (hs0 : 0 ≤ s) (hs1 : s ≤ 1000000000) (hn : zs.length ≤ 1099511627776) (r : Row .i64 true lo hi w v zs) :
    Calls Try.prog 62 #[.agg #[v], .int .i64 s] w fun e w' => e = .returned (.int .i64 (s + zs.length)) ∧ Row .i64 true lo hi w' v (marks .i64 s zs.length) ∧ Kept lo hi w w' := by
  have s1 := r.kept ((Kept.refl 0 0 w).alloc (.cells #[v] 26)) (by omega)
  obtain ⟨a1, c1, rfl, -⟩ := r
  go_enter Try.func62, Try.ntmps62
  go_wp2_with fail
  refine (markIntS_wide _ s hs0 hs1 hn s1).mono ?_
  rintro e w6 ⟨rfl, r6, k6, -⟩
  have R6 := hide r6
  have K6 := hide (((Kept.refl lo hi w).alloc _).trans k6)
  clear s1 r6 k6
  go_wp2
  go_ret
  exact ⟨rfl, unhide R6, unhide K6⟩

end Go.Proofs.Ytdhponfpikclhaa
