/-
  slices.Reverse over bytes: the same row, the other way round.
-/
import Derived.Test.YtmmlembpfmichaaBA
import Derived.Deep.LoopGhost
import Derived.Shelf.RegionOpenPlain
import Derived.Lib.Walk
namespace Go.Proofs.Ytmmlembpfmichaa
open Go.RowKit
set_option linter.unusedVariables false
set_option maxRecDepth 8000

theorem rev_of {zs ys : List Int} {i : Nat} (hl : ys.length = zs.length) (hi : zs.length ≤ 2 * i + 1)
    (h : ∀ p, p < zs.length → ys.getD p 0 = if p < i ∨ zs.length - 1 - p < i then zs.getD (zs.length - 1 - p) 0 else zs.getD p 0) : ys = zs.reverse := by
  apply List.ext_getElem (by simp [hl])
  intro p h1 h2
  have hp : p < zs.length := by omega
  have e := h p hp
  have e1 : ys.getD p 0 = ys[p] := by simp [List.getD, h1]
  have e2 : zs.getD (zs.length - 1 - p) 0 = zs.reverse[p] := by
    rw [List.getElem_reverse]
    simp [List.getD, show zs.length - 1 - p < zs.length by omega]
  rw [← e1, ← e2, e]
  split
  · rfl
  · rw [show zs.length - 1 - p = p by omega]

set_option maxHeartbeats 4000000 in
theorem reverse_impl {lo hi g off c : Nat} {zs : List Int} (w : World) (r : Row .u8 true lo hi w (.slice (some ⟨g, off, none⟩) zs.length c) zs) (hz : 0 < zs.length) :
    Calls Try.prog 28 #[.slice (some ⟨g, off, none⟩) zs.length c] w fun e w' => e = .returned (.tuple #[]) ∧ Row .u8 true lo hi w' (.slice (some ⟨g, off, none⟩) zs.length c) zs.reverse ∧ Kept g (g + 1) w w' := by
  obtain ⟨M, hM⟩ : ∃ M, zs.length = M := ⟨_, rfl⟩
  have hm := r.len
  unfold maxLen at hm
  rw [hM] at r hz hm ⊢
  have hg : lo ≤ g ∧ g < hi := by have := (r.at (j := 0) hz).2.2; omega
  have HM := hide hM
  have R := hide r
  clear hM r
  go_enter Try.func28, Try.ntmps28
  go_wp2
  go_loopg [2, 3] M (fun k s2 s3 wr => ∃ (i : Nat) (ys : List Int), s2 = .int .i64 i ∧ s3 = .int .i64 ((M : Int) - 1 - i) ∧ M - i ≤ k ∧ 2 * i ≤ M ∧ Hid (ys.length = M) ∧ Row .u8 true lo hi wr (.slice (some ⟨g, off, none⟩) M c) ys ∧ Kept g (g + 1) w wr ∧
    Hid (∀ p, p < M → ys.getD p 0 = if p < i ∨ M - 1 - p < i then zs.getD (M - 1 - p) 0 else zs.getD p 0))
  case atStart => exact ⟨0, zs, rfl, by simp, by omega, by omega, HM, unhide R, Kept.refl _ _ _, fun p hp => by simp⟩
  case round =>
    obtain ⟨i, ys, rfl, rfl, hk, hi2, hyl, ry, kw, hv⟩ := hrel
    by_cases hlt : (i : Int) < (M : Int) - 1 - i
    · obtain ⟨j, hj⟩ : ∃ j : Nat, (M : Int) - 1 - i = (j : Int) := ⟨M - 1 - i, by omega⟩
      rw [hj]
      obtain ⟨ci, fi, -⟩ := ry.at (j := i) (by omega)
      obtain ⟨cj, fj, -⟩ := ry.at (j := j) (by omega)
      have R2 := hide ry
      clear ry
      have hij : i < j := by omega
      have hiM : i < M := by omega
      have mixed : Try.prog.follows Departure.mixedOrders = true := by kernel_rfl
      have hjM : j < M := by omega
      go_wp2_with fail
      go_region_o
      have ej : ys[j]?.getD 0 = ys.getD j 0 := rfl
      have ei : ys[i]?.getD 0 = ys.getD i 0 := rfl
      have R3 := hide ((((unhide R2).set i hz (ys.getD j 0)).set j hz (ys.getD i 0)).kept ((Kept.refl 0 0 _).drew) (by omega))
      have K3 := hide (((kw.setCell (p := ⟨g, off + i, none⟩) (Nat.le_refl _) (Nat.lt_succ_self _) (.int .u8 (ys.getD j 0))).setCell (p := ⟨g, off + j, none⟩) (Nat.le_refl _) (Nat.lt_succ_self _) (.int .u8 (ys.getD i 0))).drew)
      rw [ej, ei]
      generalize (((wr.setCell ⟨g, off + i, none⟩ (.int .u8 (ys.getD j 0))).setCell ⟨g, off + j, none⟩ (.int .u8 (ys.getD i 0))).drew) = W3 at *
      have V3 : Hid (∀ p, p < M → ((ys.set i (ys.getD j 0)).set j (ys.getD i 0)).getD p 0 = if p < i + 1 ∨ M - 1 - p < i + 1 then zs.getD (M - 1 - p) 0 else zs.getD p 0) := by
        intro p hp
        have hyl' := unhide hyl
        have hv' := unhide hv
        rw [getD_set _ p j _ (by rw [List.length_set]; omega), getD_set _ p i _ (by omega)]
        by_cases e1 : p = j
        · rw [if_pos e1, hv' i hiM, if_neg (by omega), if_pos (by omega)]
          congr 1; omega
        · rw [if_neg e1]
          by_cases e2 : p = i
          · rw [if_pos e2, hv' j hjM, if_neg (by omega), if_pos (by omega)]
            congr 1; omega
          · rw [if_neg e2, hv' p hp]
            by_cases e3 : p < i ∨ M - 1 - p < i
            · rw [if_pos e3, if_pos (by omega)]
            · rw [if_neg e3, if_neg (by omega)]
      have hw1 : IntKind.i64.wrap ((j : Int) - 1) = (M : Int) - 1 - ((i + 1 : Nat) : Int) := by rw [IntKind.wrap_i64]; omega
      have hw2 : IntKind.i64.wrap ((i : Int) + 1) = ((i + 1 : Nat) : Int) := by rw [IntKind.wrap_i64]; omega
      go_wp2
      go_roundg (M - (i + 1))
      case measure => omega
      case rel => exact ⟨i + 1, (ys.set i (ys.getD j 0)).set j (ys.getD i 0), by simp, rfl, Nat.le_refl _, by omega, by show _ = _; rw [List.length_set, List.length_set]; exact unhide hyl, unhide R3, unhide K3, V3⟩
    · go_wp2
      go_end0
      have HM' := unhide HM
      have e := rev_of (zs := zs) (ys := ys) (i := i) (by rw [unhide hyl, HM']) (by omega) (fun p hp => by rw [HM'] at *; exact unhide hv p hp)
      exact ⟨rfl, e ▸ ry, kw⟩

end Go.Proofs.Ytmmlembpfmichaa
