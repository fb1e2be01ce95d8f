/-
  The model's DrawNatShl.
-/
import Derived.Test.YtkifpodnljlhiaaDoorDrawN5
namespace Go.Proofs.YtkifpodnljlhiaaDoor
open Go.RowKit
set_option linter.unusedVariables false
set_option maxRecDepth 8000
set_option linter.unusedSimpArgs false

set_option maxHeartbeats 4000000 in
theorem drawShl_any {bw : Bool} {lo hi : Nat} {v : Value} {bs : List Int} (w : World) (r : Row .u8 bw lo hi w v bs) (b : Bytes bs) :
    Calls Tryd.prog 4 #[v] w fun e w' => ∃ v1 k, e = .returned (.tuple #[.agg #[v1], .int .i64 k]) ∧ (-1 ≤ k ∧ k ≤ 4611686018427387904) ∧ AnyN w w' v1 ∧ Kept 0 0 w w' := by
  have k0 := (Kept.refl 0 0 w).alloc (.cells #[.slice none 0 0] 25)
  have q := r.kept k0 (by omega)
  have c1 : (w.alloc (.cells #[.slice none 0 0] 25)).cell? ⟨w.heap.size, 0, none⟩ = some (.slice none 0 0) := new_cell_at _ _ _ _ rfl
  have f1 : (w.alloc (.cells #[.slice none 0 0] 25)).frozen? ⟨w.heap.size, 0, none⟩ = false := new_loose _ _ _ _ rfl
  have hs : (w.alloc (.cells #[.slice none 0 0] 25)).heap.size = w.heap.size + 1 := by simp
  obtain ⟨a0, d0, rfl⟩ := Row.form' r
  clear r
  go_enter Tryd.func4, Tryd.ntmps4
  go_wp2_with fail
  generalize w.alloc (.cells #[.slice none 0 0] 25) = W at *
  refine (l1New_any _ q b).mono ?_
  rintro e w1 ⟨g, rfl, hg, cu, k1⟩
  replace f1 := k1.loose0 (World.block_lt_of_cell? _ _ c1) f1
  replace c1 := k1.cell0 c1
  replace k0 := k0.trans k1
  have hg2 : w.heap.size + 1 ≤ g := by omega
  clear k1 q hs hg
  generalize hLO : W.heap.size = LO at *
  clear hLO
  go_wp2_with fail
  refine (bent_any g LO _ cu).mono ?_
  rintro e w2 ⟨v2, rfl, zs, o2, hz, hl, d2⟩
  obtain ⟨a2, e2, ev⟩ := own_slice o2
  subst ev
  have hgl : g < w1.heap.size := cu.1
  have hgl2 : g < w2.heap.size := d2.1.1
  have lt1 := World.block_lt_of_cell? _ _ c1
  dsimp only at lt1
  have rA := Row.own o2
  replace f1 := d2.2.looseOut' (a := ⟨w.heap.size, 0, none⟩) (.inl (show w.heap.size < g by omega)) lt1 f1
  replace c1 := d2.2.cellOut (.inl (show w.heap.size < g by omega)) c1
  replace k0 := k0.newer' d2.2 (by omega)
  have cu2 := d2.1
  clear o2 d2 cu
  go_wp2_with fail
  have hr := Row.lit .i64 w2 3 [0, 1, 15, 16, 17, 33, 100, 1599, 1600, 1601, -1, 4611686018427387904] (by simp [maxLen])
  refine (l1PickInt_any g LO _ (cu2.kept ((Kept.refl 0 0 w2).alloc _) (by omega)) hr (by simp) (by omega)).mono ?_
  rintro e w3 ⟨x, rfl, hx, d3⟩
  have hx2 : -1 ≤ x ∧ x ≤ 4611686018427387904 := by
    simp only [List.mem_cons, List.not_mem_nil, or_false] at hx
    omega
  have k23 := (((Kept.refl 0 0 w2).alloc (.cells ([0, 1, 15, 16, 17, 33, 100, 1599, 1600, 1601, -1, 4611686018427387904].map (Value.int .i64)).toArray 3)).any (lo := g) (hi := g + 1)).trans d3.2.1
  replace rA := rA.kept k23 (by omega)
  have lt2 := World.block_lt_of_cell? _ _ c1
  replace f1 := k23.looseOut' (a := ⟨w.heap.size, 0, none⟩) (.inl (show w.heap.size < g by omega)) lt2 f1
  replace c1 := k23.cellOut (.inl (show w.heap.size < g by omega)) c1
  replace k0 := k0.newer' k23 (by omega)
  have R : Hid (AnyN w (w3.setCell ⟨w.heap.size, 0, none⟩ (.slice a2 zs.length e2)) (.slice a2 zs.length e2)) := ⟨zs, ((rA.set_other (p := ⟨w.heap.size, 0, none⟩) (.inl (show w.heap.size < w1.heap.size by omega)) _).tight.wider (by omega) (Nat.le_refl _))⟩
  have K := hide (k0.setNew (p := ⟨w.heap.size, 0, none⟩) (Nat.le_refl _) (.slice a2 zs.length e2))
  clear hx hr d3 k23 rA k0 cu2
  go_wp2_with fail
  exact bodyPost_ret (v := .tuple #[.agg #[.slice a2 zs.length e2], .int .i64 x]) (by simp [results, Tryd.results4, go_sem, c1]) rfl ⟨_, x, rfl, hx2, unhide R, unhide K⟩

end Go.Proofs.YtkifpodnljlhiaaDoor
