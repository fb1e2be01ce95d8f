/-
  The laws' more: two bytes ahead of a code.
-/
import Derived.Test.YtedknfciomoofaaDoorLB
namespace Go.Proofs.YtedknfciomoofaaDoor
open Go.RowKit
set_option linter.unusedVariables false
set_option maxRecDepth 8000
set_option linter.unusedSimpArgs false

theorem bytes_more {zs : List Int} (h : Bytes zs) : Bytes (1 :: 7 :: zs) := fun z hz => by
  rcases List.mem_cons.1 hz with e | hz
  · subst e; decide
  rcases List.mem_cons.1 hz with e | hz
  · subst e; decide
  exact h z hz

set_option maxHeartbeats 2000000 in
theorem more_any {bw : Bool} {lo hi : Nat} {v : Value} {bs : List Int} (w : World) (r : Row .u8 bw lo hi w v bs) (hl : bs.length ≤ 140737488351232) :
    Calls Tryd.prog 6 #[v, .int .i64 1] w fun e w' => ∃ v', e = .returned v' ∧ Row .u8 true w.heap.size w'.heap.size w' v' (1 :: 7 :: bs) ∧ Kept 0 0 w w' := by
  obtain ⟨i0, hi0, hz0, hz1, hz2⟩ := info_parts Tryd.info5
  have o1 := own_lit .u8 w 5 w.heap.size (Nat.le_refl _) [1, 7] (by simp [maxLen])
  simp at o1
  obtain ⟨a, c, hv⟩ := Row.form' r
  subst hv
  by_cases hz : bs = []
  · subst hz
    have hrun := fun ty => run_append_zero (P := Tryd.prog) (w.alloc (.cells #[.int .u8 1, .int .u8 7] 5)) 22 ty 5 i0 Tryd.underlying22 hi0 ⟨w.heap.size, 0, none⟩ a 2 2 c (Nat.le_refl _)
    have HRUN := hide hrun
    have O1 := hide o1
    clear hrun o1 r
    go_enter Tryd.func6, Tryd.ntmps6
    go_wp2_with (at_builtin; refine Lib.wpList_append_run _ rfl _ _ _ _ rfl _ _ rfl rfl _ _ (unhide HRUN _) ?_)
    go_ret
    exact ⟨_, rfl, Row.own (unhide O1), (Kept.refl _ _ _).alloc _⟩
  · obtain ⟨g, off, c', e', -, -, hnews⟩ := (r.kept ((Kept.refl 0 0 w).alloc (.cells #[.int .u8 1, .int .u8 7] 5)) (by omega)).news hz
    cases e'
    have hlk : (bs.map (Value.int .u8)).length = bs.length * 1 := by simp
    have HN := hide hnews
    have HB : Hid (w.heap.size ≤ (w.alloc (.cells #[.int .u8 1, .int .u8 7] 5)).heap.size) := by show _ ≤ _; simp
    have c3 : 2 + bs.length ≤ maxLen := by unfold maxLen; omega
    have c4 : (2 + bs.length) * 1 ≤ 140737488355328 := by omega
    have C3 := hide c3
    have C4 := hide c4
    clear hnews r hz c3 c4 hl
    go_enter Tryd.func6, Tryd.ntmps6
    go_wp2_with (at_builtin; refine wpList_append_own _ rfl _ _ 22 rfl w.heap.size 5 i0 (.int .u8 0) 1 1 Tryd.underlying22 hi0 hz0 hz1 hz2 rfl (by decide) _ _ _ rfl o1 ⟨g, off, none⟩ bs.length c (bs.map (Value.int .u8)) rfl hlk (unhide HN) (ints_one _ _) (unhide C3) (unhide C4) (unhide HB) ?_)
    intro v4 w4 hown4 hgrow _
    have O4 : Hid (w4.ownsRow w.heap.size 5 1 v4 (1 :: 7 :: bs).length ((1 :: 7 :: bs).map (Value.int .u8))) := by
      show World.ownsRow _ _ _ _ _ _ _
      have := hown4
      rw [show (1 :: 7 :: bs : List Int).length = 2 + bs.length by simp; omega]
      exact this
    have K4 := hide (((Kept.refl 0 0 w).alloc _).growNew hgrow (fun q hq => by simp [Value.ownBlock] at hq; omega))
    clear hown4 hgrow o1 hlk
    go_wp2
    go_ret
    exact ⟨_, rfl, Row.own (unhide O4), unhide K4⟩

end Go.Proofs.YtedknfciomoofaaDoor

