/-
  The model's l2add over lists that need not be numbers.
-/
import Derived.Test.YthglchilgjcloaaDoorDrawN3
namespace Go.Proofs.YthglchilgjcloaaDoor
open Go.RowKit
set_option linter.unusedVariables false
set_option maxRecDepth 8000

/-- A list in new memory. -/
def AnyN (w w' : World) (v : Value) : Prop := ∃ zs, Row .i64 true w.heap.size w'.heap.size w' v zs
theorem tdiv_small {x : Int} (h0 : -2 ≤ x) (h1 : x ≤ 131074) : 0 ≤ x.tdiv 65536 ∧ x.tdiv 65536 ≤ 2 := by
  by_cases h : x < 0
  · obtain rfl | rfl : x = -1 ∨ x = -2 := by omega
    · decide
    · decide
  · rw [Int.tdiv_eq_ediv_of_nonneg (by omega)]
    omega
theorem tdiv_zero {x : Int} (h0 : 0 ≤ x) (h1 : x ≤ 2) : x.tdiv 65536 = 0 := by
  rw [Int.tdiv_eq_ediv_of_nonneg h0]
  omega

set_option maxHeartbeats 4000000 in
theorem add_any {b1 b2 : Bool} {l1 h1 l2 h2 : Nat} {v1 v2 : Value} {xs ys : List Int} (w : World) (r1 : Row .i64 b1 l1 h1 w v1 xs) (r2 : Row .i64 b2 l2 h2 w v2 ys) (hx : ∀ i, -1 ≤ xs.getD i 0 ∧ xs.getD i 0 ≤ 65536) (hy : ∀ i, -1 ≤ ys.getD i 0 ∧ ys.getD i 0 ≤ 65536) (nx : xs.length ≤ 100000) (ny : ys.length ≤ 100000) :
    Calls Tryd.prog 45 #[.agg #[v1], .agg #[v2]] w fun e w' => ∃ v', e = .returned (.agg #[v']) ∧ AnyN w w' v' ∧ Kept 0 0 w w' := by
  have rr1 := r1
  have rr2 := r2
  obtain ⟨M, hM⟩ : ∃ M, M = xs.length := ⟨_, rfl⟩
  obtain ⟨N, hN⟩ : ∃ N, N = ys.length := ⟨_, rfl⟩
  obtain ⟨a1, c1, e1, q1, m1, q3⟩ := r1
  obtain ⟨a2, c2, e2, q2, m2, q4⟩ := r2
  rw [← hM] at e1 q1 nx
  rw [← hN] at e2 q2 ny
  subst e1 e2
  unfold maxLen at m1 m2
  clear q3 q4
  have HM := hide hM
  have HN := hide hN
  have k1 := (((Kept.refl 0 0 w).alloc (.cells #[.slice a1 M c1] 25)).alloc (.cells #[.slice a2 N c2] 25))
  have hat1 := (row_cell (rr1.kept k1 (by omega))).2.2.2
  have hat2 := (row_cell (rr2.kept k1 (by omega))).2.2.2
  rw [← hM] at hat1
  rw [← hN] at hat2
  have hs1 : ((w.alloc (.cells #[.slice a1 M c1] 25)).alloc (.cells #[.slice a2 N c2] 25)).heap.size = w.heap.size + 2 := by simp
  have hb1 : ((w.alloc (.cells #[.slice a1 M c1] 25)).alloc (.cells #[.slice a2 N c2] 25)).cell? ⟨w.heap.size, 0, none⟩ = some (.slice a1 M c1) := old_cell _ (new_cell_at _ _ _ _ rfl)
  have hb2 : ((w.alloc (.cells #[.slice a1 M c1] 25)).alloc (.cells #[.slice a2 N c2] 25)).cell? ⟨w.heap.size + 1, 0, none⟩ = some (.slice a2 N c2) := new_cell_at _ _ _ _ (by simp)
  have k2 := (Kept.refl 0 0 ((w.alloc (.cells #[.slice a1 M c1] 25)).alloc (.cells #[.slice a2 N c2] 25))).alloc (.cells #[.slice none 0 0] 25)
  have hg0 := Grow.start (b := w.heap.size + 2) (Nat.le_of_eq hs1) (by simp) k2 (new_cell_at _ _ _ _ hs1.symm) (new_loose _ _ _ _ hs1.symm)
  clear rr1 rr2 hM hN k2
  have KK := hide k1
  have H1 := hide hs1
  have HB1 := hide hb1
  have HB2 := hide hb2
  have HG := hide hg0
  have HA1 := hide hat1
  have HA2 := hide hat2
  clear k1 hs1 hb1 hb2 hg0 hat1 hat2
  go_enter Tryd.func45, Tryd.ntmps45
  go_wp2
  generalize ((w.alloc (.cells #[.slice a1 M c1] 25)).alloc (.cells #[.slice a2 N c2] 25)) = W0 at *
  generalize W0.alloc (.cells #[.slice none 0 0] 25) = W1 at *
  go_loopw [5, 6, 7] (fun l cc ii wr => ∃ (out : List Int) (c : Int) (i : Nat), cc = .int .i64 c ∧ ii = .int .i64 i ∧ 0 ≤ c ∧ c ≤ 2 ∧ (i ≤ max M N ∨ (i = max M N + 1 ∧ c = 0)) ∧ out.length = i ∧ Grow (w.heap.size + 2) W0 wr l out) (fun _ _ ii _ => max M N + 1 - (intOf ii).toNat)
  case atStart => exact ⟨[], 0, 0, rfl, rfl, by omega, by omega, .inl (Nat.zero_le _), rfl, unhide HG⟩
  case round =>
    obtain ⟨out, cr, i, rfl, rfl, hc0, hc1, hi, ho, hg⟩ := hrel
    have hk := hg.2.2.2.1
    have hcl : ∀ (a : Addr) u, W0.cell? a = some u → wr.cell? a = some u := fun a u h => by
      rw [← h]; exact World.cell?_of_block (hk.block a.block (World.block_lt_of_cell? _ _ h) (by omega))
    have hb1 := hcl _ _ (unhide HB1)
    have hb2 := hcl _ _ (unhide HB2)
    have hx0 := hx i
    have hy0 := hy i
    have hlen : out.length ≤ 1000000 := by omega
    clear hk
    by_cases hA : i < M
    · by_cases hB : i < N
      · have hi1 : (i : Int) < (M : Int) := by omega
        obtain ⟨g1, o1, rfl, x1⟩ := unhide HA1 i (by omega)
        replace x1 := hcl _ _ x1
        have hi2 : (i : Int) < (N : Int) := by omega
        obtain ⟨g2, o2, rfl, x2⟩ := unhide HA2 i (by omega)
        replace x2 := hcl _ _ x2
        generalize xs.getD i 0 = a at *
        generalize ys.getD i 0 = b at *
        have hmax : i ≤ max M N := by omega
        have HCL := hide hcl
        have hdiv : 0 ≤ (cr + a + b).tdiv 65536 ∧ (cr + a + b).tdiv 65536 ≤ 2 := tdiv_small (by omega) (by omega)
        have HFIN : Hid (i + 1 ≤ max M N ∨ (i + 1 = max M N + 1 ∧ (cr + a + b).tdiv 65536 = 0)) := by show _ ∨ _; omega
        have hxr : -2 ≤ (cr + a + b) ∧ (cr + a + b) ≤ 200000 := by omega
        have hg' := hg.alloc (.cells #[.int .i64 ((cr + a + b).tmod 65536)] 3)
        clear hcl hi
        go_wp2_with (at_builtin; refine wpList_grow rfl _ _ rfl rfl _ rfl ((cr + a + b).tmod 65536) (new_cell_at _ _ _ _ rfl) hg' hlen ?_)
        intro v' w' hg2
        clear hg' hg
        go_wp2
        go_roundw
        case rel => exact ⟨out ++ [(cr + a + b).tmod 65536], (cr + a + b).tdiv 65536, i + 1, by go_num, by go_num, hdiv.1, hdiv.2, unhide HFIN, by simp [ho], hg2⟩
        case measure => simp [intOf]; omega
      · have hi1 : (i : Int) < (M : Int) := by omega
        obtain ⟨g1, o1, rfl, x1⟩ := unhide HA1 i (by omega)
        replace x1 := hcl _ _ x1
        have hi2 : ¬ (i : Int) < (N : Int) := by omega
        have hi2' : decide ((i : Int) < (N : Int)) = false := decide_eq_false hi2
        have z2 : ys.getD i 0 = 0 := by have := unhide HN; simp [List.getD, List.getElem?_eq_none (show ys.length ≤ i from by omega)]
        generalize xs.getD i 0 = a at *
        have hmax : i ≤ max M N := by omega
        have HCL := hide hcl
        have hdiv : 0 ≤ (cr + a).tdiv 65536 ∧ (cr + a).tdiv 65536 ≤ 2 := tdiv_small (by omega) (by omega)
        have HFIN : Hid (i + 1 ≤ max M N ∨ (i + 1 = max M N + 1 ∧ (cr + a).tdiv 65536 = 0)) := by show _ ∨ _; omega
        have hxr : -2 ≤ (cr + a) ∧ (cr + a) ≤ 200000 := by omega
        have hg' := hg.alloc (.cells #[.int .i64 ((cr + a).tmod 65536)] 3)
        clear hcl hi
        go_wp2_with (at_builtin; refine wpList_grow rfl _ _ rfl rfl _ rfl ((cr + a).tmod 65536) (new_cell_at _ _ _ _ rfl) hg' hlen ?_)
        intro v' w' hg2
        clear hg' hg
        go_wp2
        go_roundw
        case rel => exact ⟨out ++ [(cr + a).tmod 65536], (cr + a).tdiv 65536, i + 1, by go_num, by go_num, hdiv.1, hdiv.2, unhide HFIN, by simp [ho], hg2⟩
        case measure => simp [intOf]; omega
    · by_cases hB : i < N
      · have hi1 : ¬ (i : Int) < (M : Int) := by omega
        have hi1' : decide ((i : Int) < (M : Int)) = false := decide_eq_false hi1
        have z1 : xs.getD i 0 = 0 := by have := unhide HM; simp [List.getD, List.getElem?_eq_none (show xs.length ≤ i from by omega)]
        have hi2 : (i : Int) < (N : Int) := by omega
        obtain ⟨g2, o2, rfl, x2⟩ := unhide HA2 i (by omega)
        replace x2 := hcl _ _ x2
        generalize ys.getD i 0 = b at *
        have hmax : i ≤ max M N := by omega
        have HCL := hide hcl
        have hdiv : 0 ≤ (cr + b).tdiv 65536 ∧ (cr + b).tdiv 65536 ≤ 2 := tdiv_small (by omega) (by omega)
        have HFIN : Hid (i + 1 ≤ max M N ∨ (i + 1 = max M N + 1 ∧ (cr + b).tdiv 65536 = 0)) := by show _ ∨ _; omega
        have hxr : -2 ≤ (cr + b) ∧ (cr + b) ≤ 200000 := by omega
        have hg' := hg.alloc (.cells #[.int .i64 ((cr + b).tmod 65536)] 3)
        clear hcl hi
        go_wp2_with (at_builtin; refine wpList_grow rfl _ _ rfl rfl _ rfl ((cr + b).tmod 65536) (new_cell_at _ _ _ _ rfl) hg' hlen ?_)
        intro v' w' hg2
        clear hg' hg
        go_wp2
        go_roundw
        case rel => exact ⟨out ++ [(cr + b).tmod 65536], (cr + b).tdiv 65536, i + 1, by go_num, by go_num, hdiv.1, hdiv.2, unhide HFIN, by simp [ho], hg2⟩
        case measure => simp [intOf]; omega
      · by_cases hC : cr = 0
        · have hC0 := hC
          have hC' : ¬ (0 : Int) < cr := by omega
          have hi1 : ¬ (i : Int) < (M : Int) := by omega
          have hi1' : decide ((i : Int) < (M : Int)) = false := decide_eq_false hi1
          have hi2 : ¬ (i : Int) < (N : Int) := by omega
          have hi2' : decide ((i : Int) < (N : Int)) = false := decide_eq_false hi2
          have HC := hide hC
          clear hcl hA hB
          go_wp2_with fail
          refine (norm_own wr hg.row hlen).mono ?_
          rintro e wn ⟨v', rfl, ⟨zs', o', -, -⟩, kn⟩
          obtain ⟨t1, t2, t3, t4⟩ := hg.tail kn (Row.own o')
          obtain ⟨a', c', e'⟩ := own_slice o'
          subst e'
          have k9 := (unhide KK).trans t3
          have r9 := t4.wider (lo' := w.heap.size) (by have := unhide H1; omega) (Nat.le_refl _)
          have K9 := hide k9
          have R9 : Hid (AnyN w (wn.setCell ⟨w.heap.size + 2, 0, none⟩ (.slice a' zs'.length c')) (.slice a' zs'.length c')) := ⟨zs', r9⟩
          clear k9 r9 t3 t4 hg hb1 hb2 o'
          go_wp2
          exact bodyPost_ret (v := .agg #[.slice a' zs'.length c']) (by simp [results, Tryd.results45, go_sem, t1]) rfl ⟨_, rfl, unhide R9, unhide K9⟩
        · have hC' : (0 : Int) < cr := by omega
          have hi1 : ¬ (i : Int) < (M : Int) := by omega
          have hi1' : decide ((i : Int) < (M : Int)) = false := decide_eq_false hi1
          have z1 : xs.getD i 0 = 0 := by have := unhide HM; simp [List.getD, List.getElem?_eq_none (show xs.length ≤ i from by omega)]
          have hi2 : ¬ (i : Int) < (N : Int) := by omega
          have hi2' : decide ((i : Int) < (N : Int)) = false := decide_eq_false hi2
          have z2 : ys.getD i 0 = 0 := by have := unhide HN; simp [List.getD, List.getElem?_eq_none (show ys.length ≤ i from by omega)]
          have hmax : i ≤ max M N := by omega
          have HCL := hide hcl
          have et : cr.tmod 65536 = cr := by rw [Int.tmod_eq_emod_of_nonneg (by omega)]; omega
          have ed : cr.tdiv 65536 = 0 := tdiv_zero (by omega) (by omega)
          have HFIN : Hid (i + 1 ≤ max M N ∨ (i + 1 = max M N + 1 ∧ (0 : Int) = 0)) := by show _ ∨ _; omega
          have hxr : -2 ≤ (cr) ∧ (cr) ≤ 200000 := by omega
          have hg' := hg.alloc (.cells #[.int .i64 (cr)] 3)
          clear hcl hi
          go_wp2_with (at_builtin; refine wpList_grow rfl _ _ rfl rfl _ rfl (cr) (new_cell_at _ _ _ _ rfl) hg' hlen ?_)
          intro v' w' hg2
          clear hg' hg
          go_wp2
          go_roundw
          case rel => exact ⟨out ++ [cr], 0, i + 1, by go_num, by go_num, by omega, by omega, by have := unhide HFIN; omega, by simp [ho], hg2⟩
          case measure => simp [intOf]; omega

end Go.Proofs.YthglchilgjcloaaDoor
