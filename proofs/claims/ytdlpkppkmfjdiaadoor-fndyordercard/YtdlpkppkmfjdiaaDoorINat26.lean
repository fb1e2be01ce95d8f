/-
  The program's copied, and the squares that a closure makes one by one.
-/
import Derived.Test.YtdlpkppkmfjdiaaDoorINat22
import Derived.Test.YtdlpkppkmfjdiaaDoorBC
namespace Go.Proofs.YtdlpkppkmfjdiaaDoor
open Go.RowKit
set_option linter.unusedVariables false
set_option maxRecDepth 8000

set_option maxHeartbeats 1000000 in
theorem copied_impl {b g : Nat} {v : Value} {zs : List Int} (w : World) (h : Num b w g v zs) (hlen : zs.length ≤ 1000000) :
    Calls Tryd.prog 114 #[.pointer (some ⟨g, 0, none⟩)] w fun e w' => ∃ v', e = .returned (.agg #[v']) ∧ w'.ownsRow w.heap.size 3 1 v' zs.length (zs.map (Value.int .i64)) ∧ Kept 0 0 w w' := by
  have s1 := h.row.kept ((Kept.refl 0 0 w).alloc (.cells #[.slice none 0 0] 78)) (by omega)
  obtain ⟨a1, c1, rfl⟩ := h.form
  have hce := old_cell (.cells #[.slice none 0 0] 78) h.cell
  clear h
  go_enter Tryd.func114, Tryd.ntmps114
  go_wp2_with fail
  generalize hW : w.alloc (.cells #[.slice none 0 0] 78) = W at *
  have c2' : W.cell? ⟨w.heap.size, 0, none⟩ = some (.slice none 0 0) := by rw [← hW]; exact new_cell_at _ _ _ _ rfl
  have f2' : W.frozen? ⟨w.heap.size, 0, none⟩ = false := by rw [← hW]; exact new_loose _ _ _ _ rfl
  have hs : W.heap.size = w.heap.size + 1 := by rw [← hW]; simp
  have hk : Kept 0 0 w W := by rw [← hW]; exact (Kept.refl 0 0 w).alloc _
  clear hW
  refine (clone_impl _ s1 hlen).mono ?_
  rintro e w6 ⟨v6, rfl, o6, k6⟩
  have c4 := k6.cell0 c2'
  have f4 := k6.loose0 (by simp; omega) f2'
  have O : Hid ((w6.setCell ⟨w.heap.size, 0, none⟩ v6).ownsRow w.heap.size 3 1 v6 zs.length (zs.map (Value.int .i64))) := own_less (ownsRow_setCell_below o6 (a := ⟨w.heap.size, 0, none⟩) (by simp; omega) v6) (by omega)
  have K : Hid (Kept 0 0 w (w6.setCell ⟨w.heap.size, 0, none⟩ v6)) := (hk.trans k6).setNew (p := ⟨w.heap.size, 0, none⟩) (by simp) _
  obtain ⟨a6, c6, rfl⟩ := own_slice o6
  clear s1 c2' f2' hs hk k6 o6 hce
  go_wp2
  exact bodyPost_ret (v := .agg #[.slice a6 zs.length c6]) (by simp [results, Tryd.results114, go_sem, c4]) rfl ⟨_, rfl, unhide O, unhide K⟩

/-- What the next square is, behind zs: the number itself at first. -/
def nextSq (xs zs : List Int) : List Int := if zs.length = 0 then xs else limbs (val zs * val zs).toNat

set_option maxHeartbeats 4000000 in
theorem square_impl {b1 bn g1 gp gn : Nat} {v1 vn : Value} {zs xs : List Int} (w : World) (h1 : Num b1 w g1 v1 zs) (hp : w.cell? ⟨gp, 0, none⟩ = some (.pointer (some ⟨gn, 0, none⟩))) (hn : Num bn w gn vn xs) (hz : Lim zs) (lz : zs.length ≤ 100000) (lx : xs.length ≤ 100000) :
    Calls Tryd.prog 152 #[.pointer (some ⟨g1, 0, none⟩), .pointer (some ⟨gp, 0, none⟩)] w fun e w' => ∃ u, e = .returned (.agg #[u]) ∧ Num w.heap.size w' g1 u (nextSq xs zs) ∧ Mod (fun i => i = g1) w w' := by
  have k0 := (Kept.refl 0 0 w).alloc (.cells #[.slice none 0 0] 78)
  have m1 := h1.kept k0
  have mn := hn.kept k0
  have hp1 := k0.cell0 hp
  have cr : (w.alloc (.cells #[.slice none 0 0] 78)).cell? ⟨w.heap.size, 0, none⟩ = some (.slice none 0 0) := new_cell_at _ _ _ _ rfl
  have fr : (w.alloc (.cells #[.slice none 0 0] 78)).frozen? ⟨w.heap.size, 0, none⟩ = false := new_loose _ _ _ _ rfl
  have hs : (w.alloc (.cells #[.slice none 0 0] 78)).heap.size = w.heap.size + 1 := by simp
  have hg1 := h1.lt
  have hap := h1.apart
  clear h1 hn hp
  go_enter Tryd.func152, Tryd.ntmps152
  go_wp2_with fail
  generalize w.alloc (.cells #[.slice none 0 0] 78) = W at *
  refine (isZero_impl _ m1).mono ?_
  rintro e w1 ⟨rfl, rfl⟩
  by_cases h0 : zs.length = 0
  · rw [decide_eq_true h0]
    have e0 : nextSq xs zs = xs := by unfold nextSq; rw [if_pos h0]
    have E0 := hide e0
    clear e0
    go_wp2_with fail
    refine (copied_impl _ mn (by omega)).mono ?_
    rintro e w2 ⟨v2, rfl, o2, k2⟩
    have c1 := k2.cell0 m1.cell
    have f1 := k2.loose0 m1.lt m1.loose
    have cr2 := k2.cell0 cr
    have fr2 := k2.loose0 (World.block_lt_of_cell? _ _ cr) fr
    have s2 := k2.size
    have hne : ¬ g1 = w.heap.size := by omega
    have hne' : ¬ w.heap.size = g1 := by omega
    have hN : Num w.heap.size ((w2.setCell ⟨g1, 0, none⟩ v2).setCell ⟨w.heap.size, 0, none⟩ v2) g1 v2 xs := by
      have o3 := own_apart o2 (p := ⟨g1, 0, none⟩) (fun e => by have := (o2.lt _ e).1; simp at this; omega) v2
      have o4 := own_apart o3 (p := ⟨w.heap.size, 0, none⟩) (fun e => by have := (o2.lt _ e).1; simp at this; omega) v2
      refine ⟨cell_aside _ (p := ⟨g1, 0, none⟩) (r := ⟨w.heap.size, 0, none⟩) (by simpa using hne') (cell_on _ _ _ _ _ c1), by rw [frozen_set, frozen_set]; exact f1, own_less o4 (by omega), fun e => by have := (o2.lt _ e).1; omega⟩
    have hM : Mod (fun i => i = g1) w ((w2.setCell ⟨g1, 0, none⟩ v2).setCell ⟨w.heap.size, 0, none⟩ v2) := Mod.set (Mod.set (S := fun i => i = g1) (k0.trans k2).toMod (p := ⟨g1, 0, none⟩) (.inl rfl) v2) (p := ⟨w.heap.size, 0, none⟩) (.inr (Nat.le_refl _)) v2
    have HN := hide hN
    have HM := hide hM
    have cr3 := cell_aside v2 (p := ⟨w.heap.size, 0, none⟩) (r := ⟨g1, 0, none⟩) hne cr2
    obtain ⟨a2, c2, rfl⟩ := own_slice o2
    clear hN hM k2 o2 m1 mn k0
    go_wp2_with fail
    exact bodyPost_ret (v := .agg #[.slice a2 xs.length c2]) (by simp [results, Tryd.results152, go_sem, cr3]) rfl ⟨_, rfl, by rw [unhide E0]; exact unhide HN, unhide HM⟩
  · rw [decide_eq_false h0]
    have e0 : nextSq xs zs = limbs (val zs * val zs).toNat := by unfold nextSq; rw [if_neg h0]
    have E0 := hide e0
    clear e0
    go_wp2_with fail
    refine (multiply_impl _ m1 m1 hz hz lz lz).mono ?_
    rintro e w2 ⟨⟨r2, rfl⟩, u2, n2, mm⟩
    have hne : ¬ g1 = w.heap.size := by omega
    have hne' : ¬ w.heap.size = g1 := by omega
    have cr2 := mm.cellAt (show ¬ w.heap.size = g1 from hne') cr
    have fr2 := mm.looseAt (show ¬ w.heap.size = g1 from hne') (World.block_lt_of_cell? _ _ cr) fr
    have c1 := n2.cell
    generalize hzz : limbs (val zs * val zs).toNat = zz at *
    obtain ⟨a2, c2, rfl⟩ := n2.form
    have hN : Num w.heap.size (w2.setCell ⟨w.heap.size, 0, none⟩ (.slice a2 zz.length c2)) g1 (.slice a2 zz.length c2) zz :=
      ⟨cell_aside _ (p := ⟨g1, 0, none⟩) (r := ⟨w.heap.size, 0, none⟩) (by simpa using hne') c1, by rw [frozen_set]; exact n2.loose, own_less (own_apart n2.own (p := ⟨w.heap.size, 0, none⟩) (fun e => by have := (n2.own.lt _ e).1; simp at this; omega) _) (by omega), n2.apart⟩
    have hM : Mod (fun i => i = g1) w (w2.setCell ⟨w.heap.size, 0, none⟩ (.slice a2 zz.length c2)) := Mod.set ((Kept.toMod k0).trans mm) (p := ⟨w.heap.size, 0, none⟩) (.inr (Nat.le_refl _)) _
    have HN := hide hN
    have HM := hide hM
    clear hN hM n2 mm m1 mn k0 hzz
    go_wp2_with fail
    exact bodyPost_ret (v := .agg #[.slice a2 zz.length c2]) (by simp [results, Tryd.results152, go_sem, cr2]) rfl ⟨_, rfl, by rw [unhide E0]; exact unhide HN, unhide HM⟩

end Go.Proofs.YtdlpkppkmfjdiaaDoor
