/-
  The model's DrawNatCmp: two drawn lists.
-/
import Derived.Test.YtkdapefddhbjdaaDrawN4
import Derived.Test.YtkdapefddhbjdaaNat13
namespace Go.Proofs.Ytkdapefddhbjdaa
open Go.RowKit
set_option linter.unusedVariables false
set_option maxRecDepth 8000
set_option linter.unusedSimpArgs false

theorem below_enter (w : World) (args : Array Value) : (callFunc 46 args).run Try.prog w = .ok (.enter 46 args) w := callFunc_enters Try.func46 (by decide) (fun h => by cases h) w args
theorem bent_enter (w : World) (args : Array Value) : (callFunc 42 args).run Try.prog w = .ok (.enter 42 args) w := callFunc_enters Try.func42 (by decide) (fun h => by cases h) w args
theorem l2add_enters (w : World) (args : Array Value) : (callFunc 44 args).run Try.prog w = .ok (.enter 44 args) w := callFunc_enters Try.func44 (by decide) (fun h => by cases h) w args

theorem bent_at {zs : List Int} (h : ∀ z ∈ zs, -1 ≤ z ∧ z ≤ 65536) (i : Nat) : -1 ≤ zs.getD i 0 ∧ zs.getD i 0 ≤ 65536 := by
  by_cases hi : i < zs.length
  · have := h zs[i] (List.getElem_mem hi)
    simpa [List.getD, hi] using this
  · simp [List.getD, List.getElem?_eq_none (Nat.le_of_not_lt hi)]
theorem lim_at {zs : List Int} (h : Lim zs) (i : Nat) : -1 ≤ zs.getD i 0 ∧ zs.getD i 0 ≤ 65536 := by have := h.at i; omega
theorem Kept.newer' {lo hi : Nat} {a b c : World} (h : Kept 0 0 a b) (k : Kept lo hi b c) (hl : a.heap.size ≤ lo) : Kept 0 0 a c :=
  ⟨k.os.trans h.os, k.tape.trans h.tape, k.output.trans h.output, Nat.le_trans h.size k.size, fun i hi' ho => (k.block i (Nat.lt_of_lt_of_le hi' h.size) (.inl (by omega))).trans (h.block i hi' ho)⟩
theorem Kept.looseOut' {lo hi : Nat} {W w' : World} (k : Kept lo hi W w') {a : Addr} (ho : a.block < lo ∨ hi ≤ a.block) (hb : a.block < W.heap.size) (h : W.frozen? a = false) : w'.frozen? a = false := by
  rw [← h]; exact World.frozen?_of_block (k.block _ hb ho)
theorem limbs_small (x : Int) (h : x ≤ 9223372036854775807) : (limbs x.toNat).length ≤ 100000 := by
  have := (limbs_length_le x.toNat 4).2 (by
    have : (65536 : Int) ^ 4 = 18446744073709551616 := by decide
    omega)
  omega
/-- Two results are told. -/
theorem any_two {w W : World} {v1 v2 : Value} {zs1 zs2 : List Int} {lo1 hi1 lo2 hi2 : Nat} (k : Kept 0 0 w W) (r1 : Row .i64 true lo1 hi1 W v1 zs1) (r2 : Row .i64 true lo2 hi2 W v2 zs2) (h1 : w.heap.size + 2 ≤ lo1) (h2 : w.heap.size + 2 ≤ lo2) :
    AnyN w ((W.setCell ⟨w.heap.size, 0, none⟩ v1).setCell ⟨w.heap.size + 1, 0, none⟩ v2) v1 ∧ AnyN w ((W.setCell ⟨w.heap.size, 0, none⟩ v1).setCell ⟨w.heap.size + 1, 0, none⟩ v2) v2 ∧ Kept 0 0 w ((W.setCell ⟨w.heap.size, 0, none⟩ v1).setCell ⟨w.heap.size + 1, 0, none⟩ v2) :=
  ⟨⟨zs1, (((r1.set_other (p := ⟨w.heap.size, 0, none⟩) (.inl (show w.heap.size < lo1 by omega)) v1).set_other (p := ⟨w.heap.size + 1, 0, none⟩) (.inl (show w.heap.size + 1 < lo1 by omega)) v2).tight.wider (by omega) (Nat.le_refl _))⟩,
   ⟨zs2, (((r2.set_other (p := ⟨w.heap.size, 0, none⟩) (.inl (show w.heap.size < lo2 by omega)) v1).set_other (p := ⟨w.heap.size + 1, 0, none⟩) (.inl (show w.heap.size + 1 < lo2 by omega)) v2).tight.wider (by omega) (Nat.le_refl _))⟩,
   (k.setNew (p := ⟨w.heap.size, 0, none⟩) (Nat.le_refl _) v1).setNew (p := ⟨w.heap.size + 1, 0, none⟩) (by simp) v2⟩

theorem any_two' {w W : World} {v1 v2 : Value} {zs1 zs2 : List Int} {lo1 hi1 lo2 hi2 : Nat} (k : Kept 0 0 w W) (r1 : Row .i64 true lo1 hi1 W v1 zs1) (r2 : Row .i64 true lo2 hi2 W v2 zs2) (h1 : w.heap.size + 2 ≤ lo1) (h2 : w.heap.size + 2 ≤ lo2) :
    AnyN w ((W.setCell ⟨w.heap.size + 1, 0, none⟩ v2).setCell ⟨w.heap.size, 0, none⟩ v1) v1 ∧ AnyN w ((W.setCell ⟨w.heap.size + 1, 0, none⟩ v2).setCell ⟨w.heap.size, 0, none⟩ v1) v2 ∧ Kept 0 0 w ((W.setCell ⟨w.heap.size + 1, 0, none⟩ v2).setCell ⟨w.heap.size, 0, none⟩ v1) :=
  ⟨⟨zs1, (((r1.set_other (p := ⟨w.heap.size + 1, 0, none⟩) (.inl (show w.heap.size + 1 < lo1 by omega)) v2).set_other (p := ⟨w.heap.size, 0, none⟩) (.inl (show w.heap.size < lo1 by omega)) v1).tight.wider (by omega) (Nat.le_refl _))⟩,
   ⟨zs2, (((r2.set_other (p := ⟨w.heap.size + 1, 0, none⟩) (.inl (show w.heap.size + 1 < lo2 by omega)) v2).set_other (p := ⟨w.heap.size, 0, none⟩) (.inl (show w.heap.size < lo2 by omega)) v1).tight.wider (by omega) (Nat.le_refl _))⟩,
   (k.setNew (p := ⟨w.heap.size + 1, 0, none⟩) (by simp) v2).setNew (p := ⟨w.heap.size, 0, none⟩) (Nat.le_refl _) v1⟩
theorem two_cells {W : World} {R : Nat} {v1 v2 z1 z2 : Value} (c1 : W.cell? ⟨R, 0, none⟩ = some z1) (c2 : W.cell? ⟨R + 1, 0, none⟩ = some z2) :
    ((W.setCell ⟨R, 0, none⟩ v1).setCell ⟨R + 1, 0, none⟩ v2).cell? ⟨R, 0, none⟩ = some v1 ∧ ((W.setCell ⟨R, 0, none⟩ v1).setCell ⟨R + 1, 0, none⟩ v2).cell? ⟨R + 1, 0, none⟩ = some v2 :=
  ⟨cell_aside v2 (p := ⟨R, 0, none⟩) (r := ⟨R + 1, 0, none⟩) (by simp) (cell_on _ _ _ _ _ c1), cell_on _ _ _ _ _ (cell_aside v1 (p := ⟨R + 1, 0, none⟩) (r := ⟨R, 0, none⟩) (by simp) c2)⟩
theorem two_cells' {W : World} {R : Nat} {v1 v2 z1 z2 : Value} (c1 : W.cell? ⟨R, 0, none⟩ = some z1) (c2 : W.cell? ⟨R + 1, 0, none⟩ = some z2) :
    ((W.setCell ⟨R + 1, 0, none⟩ v2).setCell ⟨R, 0, none⟩ v1).cell? ⟨R, 0, none⟩ = some v1 ∧ ((W.setCell ⟨R + 1, 0, none⟩ v2).setCell ⟨R, 0, none⟩ v1).cell? ⟨R + 1, 0, none⟩ = some v2 :=
  ⟨cell_on _ _ _ _ _ (cell_aside v2 (p := ⟨R, 0, none⟩) (r := ⟨R + 1, 0, none⟩) (by simp) c1), cell_aside v1 (p := ⟨R + 1, 0, none⟩) (r := ⟨R, 0, none⟩) (by simp) (cell_on _ _ _ _ _ c2)⟩

set_option maxHeartbeats 4000000 in
theorem drawCmp_any {bw : Bool} {lo hi : Nat} {v : Value} {bs : List Int} (w : World) (r : Row .u8 bw lo hi w v bs) (b : Bytes bs) :
    Calls Try.prog 25 #[v] w fun e w' => ∃ v1 v2, e = .returned (.tuple #[.agg #[v1], .agg #[v2]]) ∧ AnyN w w' v1 ∧ AnyN w w' v2 ∧ Kept 0 0 w w' := by
  have k0 := ((Kept.refl 0 0 w).alloc (.cells #[.slice none 0 0] 26)).alloc (.cells #[.slice none 0 0] 26)
  have q := r.kept k0 (by omega)
  have c1 : ((w.alloc (.cells #[.slice none 0 0] 26)).alloc (.cells #[.slice none 0 0] 26)).cell? ⟨w.heap.size, 0, none⟩ = some (.slice none 0 0) := old_cell _ (new_cell_at _ _ _ _ rfl)
  have f1 : ((w.alloc (.cells #[.slice none 0 0] 26)).alloc (.cells #[.slice none 0 0] 26)).frozen? ⟨w.heap.size, 0, none⟩ = false := loose_old (by simp) (new_loose _ _ _ _ rfl)
  have c2 : ((w.alloc (.cells #[.slice none 0 0] 26)).alloc (.cells #[.slice none 0 0] 26)).cell? ⟨w.heap.size + 1, 0, none⟩ = some (.slice none 0 0) := new_cell_at _ _ _ _ (by simp)
  have f2 : ((w.alloc (.cells #[.slice none 0 0] 26)).alloc (.cells #[.slice none 0 0] 26)).frozen? ⟨w.heap.size + 1, 0, none⟩ = false := new_loose _ _ _ _ (by simp)
  have hs : ((w.alloc (.cells #[.slice none 0 0] 26)).alloc (.cells #[.slice none 0 0] 26)).heap.size = w.heap.size + 2 := by simp
  obtain ⟨a0, d0, rfl⟩ := Row.form' r
  clear r
  go_enter Try.func25, Try.ntmps25
  go_wp2_with fail
  generalize (w.alloc (.cells #[.slice none 0 0] 26)).alloc (.cells #[.slice none 0 0] 26) = W at *
  refine (l1New_any _ q b).mono ?_
  rintro e w1 ⟨g, rfl, hg, cu, k1⟩
  replace f1 := k1.loose0 (World.block_lt_of_cell? _ _ c1) f1
  replace f2 := k1.loose0 (World.block_lt_of_cell? _ _ c2) f2
  replace c1 := k1.cell0 c1
  replace c2 := k1.cell0 c2
  replace k0 := k0.trans k1
  have hs1 : w.heap.size + 2 ≤ w1.heap.size := by have := k1.size; omega
  have hg2 : w.heap.size + 2 ≤ g := by omega
  clear k1 q hs hg
  generalize hLO : W.heap.size = LO at *
  clear hLO
  go_wp2_with fail
  refine (bent_any g LO _ cu).mono ?_
  rintro e w2 ⟨v2, rfl, zs, o2, hz, hl, d2⟩
  obtain ⟨a2, e2, ev⟩ := own_slice o2
  subst ev
  have kA := (Kept.refl 0 0 w2).alloc (.cells #[.slice a2 zs.length e2] 26)
  have cA : (w2.alloc (.cells #[.slice a2 zs.length e2] 26)).cell? ⟨w2.heap.size, 0, none⟩ = some (.slice a2 zs.length e2) := new_cell_at _ _ _ _ rfl
  have hA : g < w2.heap.size := d2.1.1
  have hgl : g < w1.heap.size := cu.1
  have rA := (Row.own o2).kept kA (by omega)
  have k2 := d2.2.trans kA.any
  have cu2 := d2.1.kept kA (by omega)
  have s2 := d2.2.size
  have lt1 : w.heap.size < w1.heap.size := by omega
  replace f1 := k2.looseOut' (a := ⟨w.heap.size, 0, none⟩) (.inl (show w.heap.size < g by omega)) lt1 f1
  replace f2 := k2.looseOut' (a := ⟨w.heap.size + 1, 0, none⟩) (.inl (show w.heap.size + 1 < g by omega)) (show w.heap.size + 1 < w1.heap.size by omega) f2
  replace c1 := k2.cellOut (.inl (show w.heap.size < g by omega)) c1
  replace c2 := k2.cellOut (.inl (show w.heap.size + 1 < g by omega)) c2
  replace k0 := k0.newer' k2 (by omega)
  clear o2 d2 kA k2 cu
  go_wp2_with fail
  generalize w2.alloc (.cells #[.slice a2 zs.length e2] 26) = w3 at *
  generalize w2.heap.size = A at *
  refine (l1Once_any g LO _ cu2 3).mono ?_
  rintro e w4 ⟨bb, rfl, d4⟩
  replace f1 := d4.2.1.looseOut' (a := ⟨w.heap.size, 0, none⟩) (.inl (show w.heap.size < g by omega)) (World.block_lt_of_cell? _ _ c1) f1
  replace f2 := d4.2.1.looseOut' (a := ⟨w.heap.size + 1, 0, none⟩) (.inl (show w.heap.size + 1 < g by omega)) (World.block_lt_of_cell? _ _ c2) f2
  replace c1 := d4.2.1.cellOut (.inl (show w.heap.size < g by omega)) c1
  replace c2 := d4.2.1.cellOut (.inl (show w.heap.size + 1 < g by omega)) c2
  replace cA := d4.2.1.cellOut (.inr (show g + 1 ≤ A by omega)) cA
  replace k0 := k0.newer' d4.2.1 (by omega)
  replace rA := rA.kept d4.2.1 (by omega)
  have cu4 := d4.1
  generalize hLA : w1.heap.size = LA at *
  have HLA := hide hLA
  clear d4 cu2 hLA
  have cu5 := cu4.kept (Kept.refl 0 0 w4).drew (by omega)
  have n1 : ¬ w.heap.size = w.heap.size + 1 := by omega
  have lt4a := World.block_lt_of_cell? _ _ c1
  have lt4b := World.block_lt_of_cell? _ _ c2
  cases bb
  · go_wp2_with fail
    go_region_law (first
      | (refine step_call1 rfl 42 (.tmp 19) _ rfl (bent_enter _) (.pointer (some ⟨g, 0, none⟩)) rfl (bent_any g LO _ cu5) ?_
         rintro e w5 ⟨v5, rfl, zs5, o5, hz5, hl5, d5⟩
         refine ⟨_, rfl, ?_⟩
         have cA5 := d5.2.cellOut (.inr (show g + 1 ≤ A from hA)) cA
         have c15 := d5.2.cellOut (.inl (show w.heap.size < g from Nat.lt_of_lt_of_le (Nat.lt_succ_of_lt (Nat.lt_succ_self _)) hg2)) c1
         have c25 := d5.2.cellOut (.inl (show w.heap.size + 1 < g from Nat.lt_of_lt_of_le (Nat.lt_succ_self _) hg2)) c2
         have f15 := d5.2.looseOut' (a := ⟨w.heap.size, 0, none⟩) (.inl (show w.heap.size < g from Nat.lt_of_lt_of_le (Nat.lt_succ_of_lt (Nat.lt_succ_self _)) hg2)) lt4a f1
         have f25 := d5.2.looseOut' (a := ⟨w.heap.size + 1, 0, none⟩) (.inl (show w.heap.size + 1 < g from Nat.lt_of_lt_of_le (Nat.lt_succ_self _) hg2)) lt4b f2
         have hv5 := own_slice o5
         obtain ⟨a5, e5, ev5⟩ := hv5
         subst ev5))
    all_goals
      have k5 := (k0.drewN 1).newer' d5.2 (by omega)
      have rA5 := (rA.drewN 1).kept d5.2 (by omega)
      have r5 := Row.own o5
      have s4 : w.heap.size + 2 ≤ w4.drew.heap.size := by show _ ≤ w4.heap.size; omega
      have F1 := hide (any_two k5 rA5 r5 hs1 s4)
      have F2 := hide (any_two' k5 rA5 r5 hs1 s4)
      have G1 := hide (two_cells (v1 := .slice a2 zs.length e2) (v2 := .slice a5 zs5.length e5) c15 c25)
      have G2 := hide (two_cells' (v1 := .slice a2 zs.length e2) (v2 := .slice a5 zs5.length e5) c15 c25)
      clear k5 rA5 r5
      go_wp2_with fail
      first
        | (have g1 := (unhide G1).1; have g2 := (unhide G1).2; exact bodyPost_ret (v := .tuple #[.agg #[.slice a2 zs.length e2], .agg #[.slice a5 zs5.length e5]]) (by simp [results, Try.results25, go_sem, g1, g2]) rfl ⟨_, _, rfl, unhide F1⟩)
        | (have g1 := (unhide G2).1; have g2 := (unhide G2).2; exact bodyPost_ret (v := .tuple #[.agg #[.slice a2 zs.length e2], .agg #[.slice a5 zs5.length e5]]) (by simp [results, Try.results25, go_sem, g1, g2]) rfl ⟨_, _, rfl, unhide F2⟩)
  · have hz2 : ∀ i, -1 ≤ zs.getD i 0 ∧ zs.getD i 0 ≤ 65536 := bent_at hz
    have hl2 : zs.length ≤ 100000 := by omega
    have h2p : (0 : Int) < 2 := by decide
    go_wp2_with fail
    go_region_law (first
      | (refine step_call2 rfl 46 (.tmp 14) (.const (.int .i64 2)) _ rfl (below_enter _) (.pointer (some ⟨g, 0, none⟩)) (.int .i64 2) rfl rfl (l1Below_any g LO _ cu5 2) ?_
         rintro e w5 ⟨x, rfl, -, hx, d5⟩
         refine ⟨_, rfl, ?_⟩
         have hx2 := hx h2p
         have hx63 : x ≤ 9223372036854775807 := Int.le_of_lt (Int.lt_of_lt_of_le hx2.2 (by decide))
         have cA5 := d5.2.1.cellOut (.inr (show g + 1 ≤ A from hA)) cA)
      | (refine step_call1 rfl 45 (.tmp 15) _ rfl (l2of_enter _) (.int .i64 x) rfl (of_spec _ x hx63) ?_
         rintro e w6 ⟨v6, rfl, r6, k6⟩
         refine ⟨_, rfl, ?_⟩
         have cA6 := k6.cell0 cA5)
      | (refine step_call2 rfl 44 (.tmp 13) (.tmp 16) _ rfl (l2add_enters _) (.agg #[.slice a2 zs.length e2]) (.agg #[v6]) rfl rfl (add_any _ (((rA.drewN 1).kept d5.2.1 (Or.inr (Or.inl hgl))).kept k6 (Or.inr (Or.inr (Nat.le_refl _)))) r6 hz2 (lim_at (limbs_lim _)) hl2 (limbs_small x hx63)) ?_
         rintro e w7 ⟨v7, rfl, ⟨zs5, r7⟩, k7⟩
         refine ⟨_, rfl, ?_⟩
         have k57 := d5.2.1.trans (k6.trans k7).any
         have cA7 := k7.cell0 cA6
         have c15 := k57.cellOut (.inl (show w.heap.size < g from Nat.lt_of_lt_of_le (Nat.lt_succ_of_lt (Nat.lt_succ_self _)) hg2)) c1
         have c25 := k57.cellOut (.inl (show w.heap.size + 1 < g from Nat.lt_of_lt_of_le (Nat.lt_succ_self _) hg2)) c2
         have f15 := k57.looseOut' (a := ⟨w.heap.size, 0, none⟩) (.inl (show w.heap.size < g from Nat.lt_of_lt_of_le (Nat.lt_succ_of_lt (Nat.lt_succ_self _)) hg2)) lt4a f1
         have f25 := k57.looseOut' (a := ⟨w.heap.size + 1, 0, none⟩) (.inl (show w.heap.size + 1 < g from Nat.lt_of_lt_of_le (Nat.lt_succ_self _) hg2)) lt4b f2
         have hv7 := Row.form' r7
         obtain ⟨a5, e5, ev5⟩ := hv7
         subst ev5))
    all_goals
      have k5 := (k0.drewN 1).newer' k57 (by omega)
      have rA5 := (rA.drewN 1).kept k57 (by omega)
      have r5 := r7
      have s4 : w.heap.size + 2 ≤ w6.heap.size := by have q1 := d5.2.1.size; have q2 := k6.size; have q3 : w4.drew.heap.size = w4.heap.size := rfl; omega
      have F1 := hide (any_two k5 rA5 r5 hs1 s4)
      have F2 := hide (any_two' k5 rA5 r5 hs1 s4)
      have G1 := hide (two_cells (v1 := .slice a2 zs.length e2) (v2 := .slice a5 zs5.length e5) c15 c25)
      have G2 := hide (two_cells' (v1 := .slice a2 zs.length e2) (v2 := .slice a5 zs5.length e5) c15 c25)
      clear k5 rA5 r5
      go_wp2_with fail
      first
        | (have g1 := (unhide G1).1; have g2 := (unhide G1).2; exact bodyPost_ret (v := .tuple #[.agg #[.slice a2 zs.length e2], .agg #[.slice a5 zs5.length e5]]) (by simp [results, Try.results25, go_sem, g1, g2]) rfl ⟨_, _, rfl, unhide F1⟩)
        | (have g1 := (unhide G2).1; have g2 := (unhide G2).2; exact bodyPost_ret (v := .tuple #[.agg #[.slice a2 zs.length e2], .agg #[.slice a5 zs5.length e5]]) (by simp [results, Try.results25, go_sem, g1, g2]) rfl ⟨_, _, rfl, unhide F2⟩)

end Go.Proofs.Ytkdapefddhbjdaa
