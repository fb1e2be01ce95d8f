/-
  slices.Insert of one byte into a row of bytes of which the room behind is known; slices.Reverse leaves that room as it is.
-/
import Derived.Test.YtfikfmkhmojpfaaInsB
import Derived.Test.YtfikfmkhmojpfaaBT
namespace Go.Proofs.Ytfikfmkhmojpfaa
open Go.RowKit Go.Lib Go.Shelf
set_option linter.unusedVariables false
set_option linter.unusedSimpArgs false
set_option maxRecDepth 8000

/-- The cells of a row, and the room behind them, are there and may be written. -/
structure Room (w : World) (g off c : Nat) : Prop where
  some : ∀ j, j < c → (w.cell? ⟨g, off + j, none⟩).isSome = true
  loose : ∀ j, j < c → w.frozen? ⟨g, off + j, none⟩ = false
/-- What was there in block g is there, and may be written as it might. -/
def Same (g : Nat) (w w' : World) : Prop := (∀ o, (w.cell? ⟨g, o, none⟩).isSome = true → (w'.cell? ⟨g, o, none⟩).isSome = true) ∧ (∀ o, w'.frozen? ⟨g, o, none⟩ = w.frozen? ⟨g, o, none⟩)
theorem Same.refl (g : Nat) (w : World) : Same g w w := ⟨fun _ h => h, fun _ => rfl⟩
theorem Same.set {g : Nat} {w w' : World} (h : Same g w w') (p : Nat) (u : Value) : Same g w (w'.setCell ⟨g, p, none⟩ u) := by
  refine ⟨fun o ho => ?_, fun o => (frozen_set _ _ _ _ _).trans (h.2 o)⟩
  have h1 := h.1 o ho
  by_cases e : o = p
  · subst e
    rw [World.cell?_setCell_same' _ _ _ h1]
    rfl
  · obtain ⟨v, hv⟩ := Option.isSome_iff_exists.1 h1
    rw [cell_off w' g o p u v hv e]
    rfl
theorem Same.drew {g : Nat} {w w' : World} (h : Same g w w') : Same g w w'.drew := h
theorem Room.same {w w' : World} {g off c : Nat} (h : Room w g off c) (k : Same g w w') : Room w' g off c := ⟨fun j hj => k.1 _ (h.some j hj), fun j hj => (k.2 _).trans (h.loose j hj)⟩
theorem Room.kept {w w' : World} {g off c : Nat} (h : Room w g off c) (k : Kept 0 0 w w') (h0 : 0 < c) : Room w' g off c := by
  have hb : g < w.heap.size := by
    obtain ⟨v, hv⟩ := Option.isSome_iff_exists.1 (h.some 0 h0)
    exact World.block_lt_of_cell? _ _ hv
  refine ⟨fun j hj => ?_, fun j hj => k.loose0 hb (h.loose j hj)⟩
  obtain ⟨v, hv⟩ := Option.isSome_iff_exists.1 (h.some j hj)
  rw [k.cell0 hv]
  rfl
theorem Room.keptR {w w' : World} {g off c lo hi : Nat} (h : Room w g off c) (k : Kept lo hi w w') (hg : g < lo ∨ hi ≤ g) (h0 : 0 < c) : Room w' g off c := by
  have hb : g < w.heap.size := by
    obtain ⟨v, hv⟩ := Option.isSome_iff_exists.1 (h.some 0 h0)
    exact World.block_lt_of_cell? _ _ hv
  have hk := k.block g hb hg
  refine ⟨fun j hj => ?_, fun j hj => (World.frozen?_of_block (w := w) (a := ⟨g, off + j, none⟩) hk).trans (h.loose j hj)⟩
  rw [World.cell?_of_block (w := w) (a := ⟨g, off + j, none⟩) hk]
  exact h.some j hj
theorem own_cap {w : World} {b : Nat} {e : TypeId} {g n c : Nat} {xs : List Value} (h : w.ownsRow b e 1 (.slice (some ⟨g, 0, none⟩) n c) n xs) : n ≤ c := by
  obtain ⟨-, ⟨h1, -⟩ | ⟨g', cap, cur, hv, hb, hp, hn, hm, hs, ht⟩⟩ := h
  · cases h1
  · injection hv with e1 e2 e3
    omega
theorem room_own {w : World} {b : Nat} {e : TypeId} {g n c : Nat} {xs : List Value} (h : w.ownsRow b e 1 (.slice (some ⟨g, 0, none⟩) n c) n xs) : Room w g 0 c := by
  obtain ⟨-, ⟨h1, -⟩ | ⟨g', cap, cur, hv, hb, hp, hn, hm, hs, ht⟩⟩ := h
  · cases h1
  · injection hv with e1 e2 e3
    injection e1 with e4
    injection e4 with e5 e6 e7
    subst e5
    subst e3
    refine ⟨fun j hj => ?_, fun j hj => ?_⟩
    · have : j < cur.size := by omega
      simp [World.cell?, hp, this]
    · simp [World.frozen?, hp]

set_option maxHeartbeats 4000000 in
theorem reverse_room {lo hi g off c : Nat} {zs : List Int} (w : World) (r : Row .u8 true lo hi w (.slice (some ⟨g, off, none⟩) zs.length c) zs) (hz : 0 < zs.length) :
    Calls Try.prog 95 #[.slice (some ⟨g, off, none⟩) zs.length c] w fun e w' => e = .returned (.tuple #[]) ∧ Row .u8 true lo hi w' (.slice (some ⟨g, off, none⟩) zs.length c) zs.reverse ∧ Kept g (g + 1) w w' ∧ Same g w w' := by
  obtain ⟨M, hM⟩ : ∃ M, zs.length = M := ⟨_, rfl⟩
  have hm := r.len
  unfold maxLen at hm
  rw [hM] at r hz hm ⊢
  have hg : lo ≤ g ∧ g < hi := by have := (r.at (j := 0) hz).2.2; omega
  have HM := hide hM
  have R := hide r
  clear hM r
  go_enter Try.func95, Try.ntmps95
  go_wp2
  go_loopg [2, 3] M (fun k s2 s3 wr => ∃ (i : Nat) (ys : List Int), s2 = .int .i64 i ∧ s3 = .int .i64 ((M : Int) - 1 - i) ∧ M - i ≤ k ∧ 2 * i ≤ M ∧ Hid (ys.length = M) ∧ Row .u8 true lo hi wr (.slice (some ⟨g, off, none⟩) M c) ys ∧ Kept g (g + 1) w wr ∧ Hid (Same g w wr) ∧
    Hid (∀ p, p < M → ys.getD p 0 = if p < i ∨ M - 1 - p < i then zs.getD (M - 1 - p) 0 else zs.getD p 0))
  case atStart => exact ⟨0, zs, rfl, by simp, by omega, by omega, HM, unhide R, Kept.refl _ _ _, Same.refl _ _, fun p hp => by simp⟩
  case round =>
    obtain ⟨i, ys, rfl, rfl, hk, hi2, hyl, ry, kw, sw, hv⟩ := hrel
    by_cases hlt : (i : Int) < (M : Int) - 1 - i
    · obtain ⟨j, hj⟩ : ∃ j : Nat, (M : Int) - 1 - i = (j : Int) := ⟨M - 1 - i, by omega⟩
      rw [hj]
      obtain ⟨ci, fi, -⟩ := ry.at (j := i) (by omega)
      obtain ⟨cj, fj, -⟩ := ry.at (j := j) (by omega)
      have R2 := hide ry
      clear ry
      have hij : i < j := by omega
      have hiM : i < M := by omega
      have mixed : Try.prog.follows Departure.mixedOrders = true := by kernel_rfl
      have hjM : j < M := by omega
      go_wp2_with fail
      go_region_o
      have ej : ys[j]?.getD 0 = ys.getD j 0 := rfl
      have ei : ys[i]?.getD 0 = ys.getD i 0 := rfl
      have R3 := hide ((((unhide R2).set i hz (ys.getD j 0)).set j hz (ys.getD i 0)).kept ((Kept.refl 0 0 _).drew) (by omega))
      have K3 := hide (((kw.setCell (p := ⟨g, off + i, none⟩) (Nat.le_refl _) (Nat.lt_succ_self _) (.int .u8 (ys.getD j 0))).setCell (p := ⟨g, off + j, none⟩) (Nat.le_refl _) (Nat.lt_succ_self _) (.int .u8 (ys.getD i 0))).drew)
      have S3 := hide (((unhide sw).set (off + i) (.int .u8 (ys.getD j 0))).set (off + j) (.int .u8 (ys.getD i 0))).drew
      rw [ej, ei]
      generalize (((wr.setCell ⟨g, off + i, none⟩ (.int .u8 (ys.getD j 0))).setCell ⟨g, off + j, none⟩ (.int .u8 (ys.getD i 0))).drew) = W3 at *
      have V3 : Hid (∀ p, p < M → ((ys.set i (ys.getD j 0)).set j (ys.getD i 0)).getD p 0 = if p < i + 1 ∨ M - 1 - p < i + 1 then zs.getD (M - 1 - p) 0 else zs.getD p 0) := by
        intro p hp
        have hyl' := unhide hyl
        have hv' := unhide hv
        rw [getD_set _ p j _ (by rw [List.length_set]; omega), getD_set _ p i _ (by omega)]
        by_cases e1 : p = j
        · rw [if_pos e1, hv' i hiM, if_neg (by omega), if_pos (by omega)]
          congr 1; omega
        · rw [if_neg e1]
          by_cases e2 : p = i
          · rw [if_pos e2, hv' j hjM, if_neg (by omega), if_pos (by omega)]
            congr 1; omega
          · rw [if_neg e2, hv' p hp]
            by_cases e3 : p < i ∨ M - 1 - p < i
            · rw [if_pos e3, if_pos (by omega)]
            · rw [if_neg e3, if_neg (by omega)]
      have hw1 : IntKind.i64.wrap ((j : Int) - 1) = (M : Int) - 1 - ((i + 1 : Nat) : Int) := by rw [IntKind.wrap_i64]; omega
      have hw2 : IntKind.i64.wrap ((i : Int) + 1) = ((i + 1 : Nat) : Int) := by rw [IntKind.wrap_i64]; omega
      go_wp2
      go_roundg (M - (i + 1))
      case measure => omega
      case rel => exact ⟨i + 1, (ys.set i (ys.getD j 0)).set j (ys.getD i 0), by simp, rfl, Nat.le_refl _, by omega, by show _ = _; rw [List.length_set, List.length_set]; exact unhide hyl, unhide R3, unhide K3, S3, V3⟩
    · go_wp2
      go_end0
      have HM' := unhide HM
      have e := rev_of (zs := zs) (ys := ys) (i := i) (by rw [unhide hyl, HM']) (by omega) (fun p hp => by rw [HM'] at *; exact unhide hv p hp)
      exact ⟨rfl, e ▸ ry, kw, unhide sw⟩

end Go.Proofs.Ytfikfmkhmojpfaa
