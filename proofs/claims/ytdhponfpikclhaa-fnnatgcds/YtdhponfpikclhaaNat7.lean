/-
  The contract of the model's l2sub.
-/
import Derived.Test.YtdhponfpikclhaaNat6
namespace Go.Proofs.Ytdhponfpikclhaa
open Go.RowKit
set_option linter.unusedVariables false
set_option maxRecDepth 8000

set_option maxHeartbeats 4000000 in
theorem sub_spec {b1 b2 : Bool} {l1 h1 l2 h2 : Nat} {v1 v2 : Value} {xs ys : List Int} (w : World) (r1 : Row .i64 b1 l1 h1 w v1 xs) (r2 : Row .i64 b2 l2 h2 w v2 ys) (hx : Lim xs) (hy : Lim ys) (nx : xs.length ≤ 100000) (ny : ys.length ≤ xs.length) (hle : val ys ≤ val xs) :
    Calls Try.prog 160 #[.agg #[v1], .agg #[v2]] w fun e w' => ∃ v', e = .returned (.agg #[v']) ∧ Row .i64 true w.heap.size w'.heap.size w' v' (limbs (val xs - val ys).toNat) ∧ Kept 0 0 w w' := by
  have rr1 := r1
  have rr2 := r2
  obtain ⟨M, hM⟩ : ∃ M, M = xs.length := ⟨_, rfl⟩
  obtain ⟨N, hN⟩ : ∃ N, N = ys.length := ⟨_, rfl⟩
  obtain ⟨a1, c1, e1, q1, m1, q3⟩ := r1
  obtain ⟨a2, c2, e2, q2, m2, q4⟩ := r2
  rw [← hM] at e1 q1 nx
  rw [← hN] at e2 q2
  rw [← hN, ← hM] at ny
  subst e1 e2
  unfold maxLen at m1 m2
  clear q3 q4
  have HM := hide hM
  have HN := hide hN
  have k1 := (((Kept.refl 0 0 w).alloc (.cells #[.slice a1 M c1] 26)).alloc (.cells #[.slice a2 N c2] 26))
  have hat1 := (row_cell (rr1.kept k1 (by omega))).2.2.2
  have hat2 := (row_cell (rr2.kept k1 (by omega))).2.2.2
  rw [← hM] at hat1
  rw [← hN] at hat2
  have hs1 : ((w.alloc (.cells #[.slice a1 M c1] 26)).alloc (.cells #[.slice a2 N c2] 26)).heap.size = w.heap.size + 2 := by simp
  have hb1 : ((w.alloc (.cells #[.slice a1 M c1] 26)).alloc (.cells #[.slice a2 N c2] 26)).cell? ⟨w.heap.size, 0, none⟩ = some (.slice a1 M c1) := old_cell _ (new_cell_at _ _ _ _ rfl)
  have hb2 : ((w.alloc (.cells #[.slice a1 M c1] 26)).alloc (.cells #[.slice a2 N c2] 26)).cell? ⟨w.heap.size + 1, 0, none⟩ = some (.slice a2 N c2) := new_cell_at _ _ _ _ (by simp)
  have k2 := (Kept.refl 0 0 ((w.alloc (.cells #[.slice a1 M c1] 26)).alloc (.cells #[.slice a2 N c2] 26))).alloc (.cells #[.slice none 0 0] 26)
  have hg0 := Grow.start (b := w.heap.size + 2) (Nat.le_of_eq hs1) (by simp) k2 (new_cell_at _ _ _ _ hs1.symm) (new_loose _ _ _ _ hs1.symm)
  generalize hS : (val xs - val ys) = S
  have HS := hide hS
  clear rr1 rr2 hM hN hS k2
  have KK := hide k1
  have H1 := hide hs1
  have HB1 := hide hb1
  have HB2 := hide hb2
  have HG := hide hg0
  have HA1 := hide hat1
  have HA2 := hide hat2
  clear k1 hs1 hb1 hb2 hg0 hat1 hat2
  go_enter Try.func160, Try.ntmps160
  go_wp2
  generalize ((w.alloc (.cells #[.slice a1 M c1] 26)).alloc (.cells #[.slice a2 N c2] 26)) = W0 at *
  generalize W0.alloc (.cells #[.slice none 0 0] 26) = W1 at *
  go_loopw [5, 6, 7] (fun l cc ii wr => ∃ (out : List Int) (c : Int) (i : Nat), cc = .int .i64 c ∧ ii = .int .i64 i ∧ 0 ≤ c ∧ c ≤ 1 ∧ i ≤ M ∧ out.length = i ∧ Lim out ∧ Hid (val out + 65536 ^ i * (val (xs.drop i) - val (ys.drop i) - c) = S) ∧ Grow (w.heap.size + 2) W0 wr l out) (fun _ _ ii _ => M - (intOf ii).toNat)
  case atStart => exact ⟨[], 0, 0, rfl, rfl, by omega, by omega, Nat.zero_le _, rfl, Lim.nil, by have := unhide HS; show _ = _; simpa [val] using this, unhide HG⟩
  case round =>
    obtain ⟨out, cr, i, rfl, rfl, hc0, hc1, hi, ho, hlo, hS, hg⟩ := hrel
    have hk := hg.2.2.2.1
    have hcl : ∀ (a : Addr) u, W0.cell? a = some u → wr.cell? a = some u := fun a u h => by
      rw [← h]; exact World.cell?_of_block (hk.block a.block (World.block_lt_of_cell? _ _ h) (by omega))
    have hb1 := hcl _ _ (unhide HB1)
    have hb2 := hcl _ _ (unhide HB2)
    have hst := fun x q hq => sub_step out i ho cr (val (xs.drop i)) (val (ys.drop i)) (xs.getD i 0) (ys.getD i 0) (val (xs.drop (i + 1))) (val (ys.drop (i + 1))) S x q (val_drop xs i) (val_drop ys i) hq (unhide hS)
    have hx0 := hx.at i
    have hy0 := hy.at i
    have hlen : out.length ≤ 1000000 := by omega
    clear hk
    by_cases hA : i < M
    · have hi1 : (i : Int) < (M : Int) := by omega
      obtain ⟨g1, o1, rfl, x1⟩ := unhide HA1 i (by omega)
      replace x1 := hcl _ _ x1
      by_cases hB : i < N
      · have hi2 : (i : Int) < (N : Int) := by omega
        obtain ⟨g2, o2, rfl, x2⟩ := unhide HA2 i (by omega)
        replace x2 := hcl _ _ x2
        generalize ys.getD i 0 = b at *
        generalize xs.getD i 0 = a at *
        by_cases hL : (a - cr - b) < 0
        · have hst2 := hst ((a - cr - b) + 65536) 1 (by omega)
          have HST := hide hst2
          have HCL := hide hcl
          have hmod : 0 ≤ ((a - cr - b) + 65536) ∧ ((a - cr - b) + 65536) ≤ 65535 := by omega
          have hg' := hg.alloc (.cells #[.int .i64 ((a - cr - b) + 65536)] 3)
          clear hst hst2 hcl hi
          go_wp2_with (at_builtin; refine wpList_grow rfl _ _ rfl rfl _ rfl ((a - cr - b) + 65536) (new_cell_at _ _ _ _ rfl) hg' hlen ?_)
          intro v' w' hg2
          clear hg' hg
          go_wp2
          go_roundw
          case rel => exact ⟨out ++ [((a - cr - b) + 65536)], 1, i + 1, by first | rfl | go_num, by go_num, by omega, by omega, hA, by simp [ho], hlo.snoc hmod.1 hmod.2, unhide HST, hg2⟩
          case measure => simp [intOf]; omega
        · have hst2 := hst (a - cr - b) 0 (by omega)
          have HST := hide hst2
          have HCL := hide hcl
          have hmod : 0 ≤ (a - cr - b) ∧ (a - cr - b) ≤ 65535 := by omega
          have hg' := hg.alloc (.cells #[.int .i64 (a - cr - b)] 3)
          clear hst hst2 hcl hi
          go_wp2_with (at_builtin; refine wpList_grow rfl _ _ rfl rfl _ rfl (a - cr - b) (new_cell_at _ _ _ _ rfl) hg' hlen ?_)
          intro v' w' hg2
          clear hg' hg
          go_wp2
          go_roundw
          case rel => exact ⟨out ++ [(a - cr - b)], 0, i + 1, by first | rfl | go_num, by go_num, by omega, by omega, hA, by simp [ho], hlo.snoc hmod.1 hmod.2, unhide HST, hg2⟩
          case measure => simp [intOf]; omega
      · have hi2 : ¬ (i : Int) < (N : Int) := by omega
        have z2 : ys.getD i 0 = 0 := by have := unhide HN; simp [List.getD, List.getElem?_eq_none (show ys.length ≤ i from by omega)]
        rw [z2] at hst
        generalize xs.getD i 0 = a at *
        by_cases hL : (a - cr) < 0
        · have hst2 := hst ((a - cr) + 65536) 1 (by omega)
          have HST := hide hst2
          have HCL := hide hcl
          have hmod : 0 ≤ ((a - cr) + 65536) ∧ ((a - cr) + 65536) ≤ 65535 := by omega
          have hg' := hg.alloc (.cells #[.int .i64 ((a - cr) + 65536)] 3)
          clear hst hst2 hcl hi
          go_wp2_with (at_builtin; refine wpList_grow rfl _ _ rfl rfl _ rfl ((a - cr) + 65536) (new_cell_at _ _ _ _ rfl) hg' hlen ?_)
          intro v' w' hg2
          clear hg' hg
          go_wp2
          go_roundw
          case rel => exact ⟨out ++ [((a - cr) + 65536)], 1, i + 1, by first | rfl | go_num, by go_num, by omega, by omega, hA, by simp [ho], hlo.snoc hmod.1 hmod.2, unhide HST, hg2⟩
          case measure => simp [intOf]; omega
        · have hst2 := hst (a - cr) 0 (by omega)
          have HST := hide hst2
          have HCL := hide hcl
          have hmod : 0 ≤ (a - cr) ∧ (a - cr) ≤ 65535 := by omega
          have hg' := hg.alloc (.cells #[.int .i64 (a - cr)] 3)
          clear hst hst2 hcl hi
          go_wp2_with (at_builtin; refine wpList_grow rfl _ _ rfl rfl _ rfl (a - cr) (new_cell_at _ _ _ _ rfl) hg' hlen ?_)
          intro v' w' hg2
          clear hg' hg
          go_wp2
          go_roundw
          case rel => exact ⟨out ++ [(a - cr)], 0, i + 1, by first | rfl | go_num, by go_num, by omega, by omega, hA, by simp [ho], hlo.snoc hmod.1 hmod.2, unhide HST, hg2⟩
          case measure => simp [intOf]; omega
    · have hS' := unhide hS
      have hM := unhide HM
      have hN := unhide HN
      have hiM : i = M := by omega
      rw [drop_end xs i (by omega), drop_end ys i (by omega)] at hS'
      have hv := val_lt hlo
      rw [ho] at hv
      have hC : cr = 0 := by
        have hS0 := unhide HS
        rcases (show cr = 0 ∨ cr = 1 from by omega) with h | h
        · exact h
        · rw [h] at hS'
          simp only [Int.sub_zero, Int.zero_sub, Int.mul_neg, Int.mul_one] at hS'
          omega
      rw [hC] at hS'
      simp only [Int.sub_zero, Int.mul_zero, Int.add_zero] at hS'
      have hi1 : ¬ (i : Int) < (M : Int) := by omega
      have HC := hide hC
      clear hst hM hN hC hcl hA hv
      go_wp2_with fail
      refine (norm_spec wr hg.row hlo hlen).mono ?_
      rintro e wn ⟨v', rfl, rn, kn⟩
      rw [hS'] at rn
      obtain ⟨t1, t2, t3, t4⟩ := hg.tail kn rn
      obtain ⟨a', c', rfl, -, -, -⟩ := rn
      have k9 := (unhide KK).trans t3
      have r9 := t4.wider (lo' := w.heap.size) (by have := unhide H1; omega) (Nat.le_refl _)
      have K9 := hide k9
      have R9 := hide r9
      clear k9 r9 t3 t4 hg hb1 hb2
      go_wp2
      exact bodyPost_ret (v := .agg #[.slice a' (limbs S.toNat).length c']) (by simp [results, Try.results160, go_sem, t1]) rfl ⟨_, rfl, unhide R9, unhide K9⟩

end Go.Proofs.Ytdhponfpikclhaa
