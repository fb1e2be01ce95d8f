/-
  Contracts of the program's limbsOf, told, limbsOfInt: a number copied to be worked on, told, made of an int.
-/
import Derived.Test.YtdhponfpikclhaaINum
namespace Go.Proofs.Ytdhponfpikclhaa
open Go.RowKit
set_option linter.unusedVariables false
set_option maxRecDepth 8000

/-- What is told of a number: itself, if it is not too long. -/
def tell (zs : List Int) : List Int := if zs.length ≤ 100 then zs else []

set_option maxHeartbeats 1000000 in
theorem limbsOf_impl {bw : Bool} {lo hi : Nat} {v : Value} {zs : List Int} (w : World) (r : Row .i64 bw lo hi w v zs) (hlen : zs.length ≤ 1000000) :
    Calls Try.prog 87 #[.agg #[v]] w fun e w' => ∃ v', e = .returned (.agg #[v']) ∧ w'.ownsRow w.heap.size 3 1 v' zs.length (zs.map (Value.int .i64)) ∧ Kept 0 0 w w' := by
  have s1 := r.kept (((Kept.refl 0 0 w).alloc (.cells #[v] 26)).alloc (.cells #[.slice none 0 0] 76)) (by omega)
  obtain ⟨a1, c1, rfl⟩ : ∃ a c, v = .slice a zs.length c := by obtain ⟨a, c, h, -⟩ := r; exact ⟨a, c, h⟩
  clear r
  go_enter Try.func87, Try.ntmps87
  go_wp2_with fail
  generalize hW : (w.alloc (.cells #[.slice a1 zs.length c1] 26)).alloc (.cells #[.slice none 0 0] 76) = W at *
  have c2' : W.cell? ⟨w.heap.size + 1, 0, none⟩ = some (.slice none 0 0) := by rw [← hW]; exact new_cell_at _ _ _ _ (by simp)
  have f2' : W.frozen? ⟨w.heap.size + 1, 0, none⟩ = false := by rw [← hW]; exact new_loose _ _ _ _ (by simp)
  have hs : W.heap.size = w.heap.size + 2 := by rw [← hW]; simp
  have hk : Kept 0 0 w W := by rw [← hW]; exact ((Kept.refl 0 0 w).alloc _).alloc _
  clear hW
  refine (clone_impl _ s1 hlen).mono ?_
  rintro e w6 ⟨v6, rfl, o6, k6⟩
  have c4 := k6.cell0 c2'
  have f4 := k6.loose0 (by simp; omega) f2'
  have O : Hid ((w6.setCell ⟨w.heap.size + 1, 0, none⟩ v6).ownsRow w.heap.size 3 1 v6 zs.length (zs.map (Value.int .i64))) := own_less (ownsRow_setCell_below o6 (a := ⟨w.heap.size + 1, 0, none⟩) (by simp; omega) v6) (by omega)
  have K : Hid (Kept 0 0 w (w6.setCell ⟨w.heap.size + 1, 0, none⟩ v6)) := (hk.trans k6).setNew (p := ⟨w.heap.size + 1, 0, none⟩) (by simp) _
  obtain ⟨a6, c6, rfl⟩ := own_slice o6
  clear s1 c2' f2' hs hk k6 o6
  go_wp2
  exact bodyPost_ret (v := .agg #[.slice a6 zs.length c6]) (by simp [results, Try.results87, go_sem, c4]) rfl ⟨_, rfl, unhide O, unhide K⟩

set_option maxHeartbeats 1000000 in
theorem told_impl {b g : Nat} {v : Value} {zs : List Int} (w : World) (h : Num b w g v zs) :
    Calls Try.prog 89 #[.pointer (some ⟨g, 0, none⟩)] w fun e w' => ∃ v', e = .returned (.tuple #[.agg #[v'], .bool (decide (zs.length ≤ 100))]) ∧ Row .i64 true w.heap.size w'.heap.size w' v' (tell zs) ∧ Kept 0 0 w w' := by
  obtain ⟨a1, c1, rfl⟩ := h.form
  have rr := h.row
  have hm := rr.len
  unfold maxLen at hm
  have hlt := h.lt
  have hc := h.cell
  obtain ⟨i0, hi0, hz0, hz1, hz2⟩ := info_parts Try.info3'
  have hne : ¬ g = w.heap.size := by omega
  have hne' : ¬ w.heap.size = g := by omega
  by_cases hbig : 100 < (zs.length : Int)
  · have hn : ¬ zs.length ≤ 100 := by omega
    rw [decide_eq_false hn]
    have e0 : tell zs = [] := by unfold tell; rw [if_neg hn]
    rw [e0]
    clear h rr
    go_enter Try.func89, Try.ntmps89
    go_wp2
    exact bodyPost_ret (v := .tuple #[.agg #[.slice none 0 0], .bool false]) (by simp [results, Try.results89, go_sem]) rfl ⟨_, rfl, Row.nil _ _ _ _ _, (Kept.refl _ _ _).alloc _⟩
  · have hn : zs.length ≤ 100 := by omega
    rw [decide_eq_true hn]
    have e0 : tell zs = zs := by unfold tell; rw [if_pos hn]
    rw [e0]
    by_cases hz : zs = []
    · subst hz
      have hrun := fun ty => run_append_nil_zero (P := Try.prog) (w.alloc (.cells #[.slice none 0 0] 26)) 24 ty 3 i0 Try.underlying24 hi0 a1 c1
      have HRUN := hide hrun
      clear hrun h rr
      go_enter Try.func89, Try.ntmps89
      go_wp2_with (at_builtin; refine Lib.wpList_append_run _ rfl _ _ _ _ rfl _ _ rfl rfl _ _ (unhide HRUN _) ?_)
      exact bodyPost_ret (v := .tuple #[.agg #[.slice none 0 0], .bool true]) (by simp [results, Try.results89, go_sem]) rfl ⟨_, rfl, Row.nil _ _ _ _ _, (Kept.refl _ _ _).alloc _⟩
    · obtain ⟨g1, off, c', e', -, -, hnews⟩ := (rr.kept ((Kept.refl 0 0 w).alloc (.cells #[.slice none 0 0] 26)) (by omega)).news hz
      cases e'
      have hown0 : (w.alloc (.cells #[.slice none 0 0] 26)).ownsRow (w.heap.size + 1) 3 1 (.slice none 0 0) 0 [] := World.ownsRow_nil _ _ _ _
      have hlk : (zs.map (Value.int .i64)).length = zs.length * 1 := by simp
      have HN := hide hnews
      have HB : Hid (w.heap.size + 1 ≤ (w.alloc (.cells #[.slice none 0 0] 26)).heap.size) := by show _ ≤ _; simp
      have c3 : 0 + zs.length ≤ maxLen := by unfold maxLen; omega
      have c4 : (0 + zs.length) * 8 ≤ 140737488355328 := by omega
      have C3 := hide c3
      have C4 := hide c4
      have cr : (w.alloc (.cells #[.slice none 0 0] 26)).cell? ⟨w.heap.size, 0, none⟩ = some (.slice none 0 0) := new_cell_at _ _ _ _ rfl
      have fr : (w.alloc (.cells #[.slice none 0 0] 26)).frozen? ⟨w.heap.size, 0, none⟩ = false := new_loose _ _ _ _ rfl
      have CR := hide cr
      have FR := hide fr
      clear hnews rr hz c3 c4 h cr fr
      go_enter Try.func89, Try.ntmps89
      go_wp2_with (at_builtin; refine wpList_append_own _ rfl _ _ 24 rfl (w.heap.size + 1) 3 i0 (.int .i64 0) 1 8 Try.underlying24 hi0 hz0 hz1 hz2 rfl (by decide) _ _ _ rfl hown0 ⟨g1, off, none⟩ zs.length c1 (zs.map (Value.int .i64)) rfl hlk (unhide HN) (ints_one _ _) (unhide C3) (unhide C4) (unhide HB) ?_)
      intro v4 w4 hown4 hgrow _
      have k4 := ((Kept.refl 0 0 w).alloc _).growNew hgrow (fun q hq => by simp [Value.ownBlock] at hq)
      have k4' : Kept 0 0 (w.alloc (.cells #[.slice none 0 0] 26)) w4 := (Kept.refl 0 0 _).growNew hgrow (fun q hq => by simp [Value.ownBlock] at hq)
      have cr := k4'.cell0 (unhide CR)
      have fr := k4'.loose0 (by simp) (unhide FR)
      try simp only [Nat.zero_add, List.nil_append] at hown4
      obtain ⟨a4, c4, rfl⟩ := own_slice hown4
      have K : Hid (Kept 0 0 w (w4.setCell ⟨w.heap.size, 0, none⟩ (.slice a4 zs.length c4))) := k4.setNew (p := ⟨w.heap.size, 0, none⟩) (Nat.le_refl _) _
      have R : Hid (Row .i64 true w.heap.size (w4.setCell ⟨w.heap.size, 0, none⟩ (.slice a4 zs.length c4)).heap.size (w4.setCell ⟨w.heap.size, 0, none⟩ (.slice a4 zs.length c4)) (.slice a4 zs.length c4) zs) := (Row.own (ownsRow_setCell_below hown4 (a := ⟨w.heap.size, 0, none⟩) (by simp) _)).wider (by omega) (Nat.le_refl _)
      clear hown4 hgrow hown0 hlk k4 k4' HN HB CR FR
      go_wp2
      exact bodyPost_ret (v := .tuple #[.agg #[.slice a4 zs.length c4], .bool true]) (by simp [results, Try.results89, go_sem, cr]) rfl ⟨_, rfl, unhide R, unhide K⟩

end Go.Proofs.Ytdhponfpikclhaa
