/-
  The contract of the model's l2add.
-/
import Derived.Test.YtdhponfpikclhaaNat5
import Derived.Test.YtdhponfpikclhaaNat2
namespace Go.Proofs.Ytdhponfpikclhaa
open Go.RowKit
set_option linter.unusedVariables false
set_option maxRecDepth 8000

theorem Grow.tail {b : Nat} {w wr wn : World} {v v' : Value} {zs L : List Int} (h : Grow b w wr v zs) (k : Kept 0 0 wr wn) (r : Row .i64 true wr.heap.size wn.heap.size wn v' L) :
    wn.cell? ⟨b, 0, none⟩ = some (.slice none 0 0) ∧ wn.frozen? ⟨b, 0, none⟩ = false ∧ Kept 0 0 w (wn.setCell ⟨b, 0, none⟩ v') ∧ Row .i64 true w.heap.size (wn.setCell ⟨b, 0, none⟩ v').heap.size (wn.setCell ⟨b, 0, none⟩ v') v' L := by
  have h' := h.kept k
  obtain ⟨h1, h2, h3, h4, h5, h6⟩ := h
  obtain ⟨g1, g2, g3, g4, g5, g6⟩ := h'
  refine ⟨g5, g6, g4.setNew (p := ⟨b, 0, none⟩) h2 v', ?_⟩
  have := r.kept ((Kept.refl b (b + 1) wn).setCell (p := ⟨b, 0, none⟩) (Nat.le_refl _) (Nat.lt_succ_self _) v') (by omega)
  exact this.tight.wider (by omega) (Nat.le_refl _)

/-- What is left of a row behind its end is nought. -/
theorem drop_end (xs : List Int) (i : Nat) (h : xs.length ≤ i) : val (xs.drop i) = 0 := by rw [List.drop_of_length_le h]; rfl

set_option maxHeartbeats 4000000 in
theorem add_spec {b1 b2 : Bool} {l1 h1 l2 h2 : Nat} {v1 v2 : Value} {xs ys : List Int} (w : World) (r1 : Row .i64 b1 l1 h1 w v1 xs) (r2 : Row .i64 b2 l2 h2 w v2 ys) (hx : Lim xs) (hy : Lim ys) (nx : xs.length ≤ 100000) (ny : ys.length ≤ 100000) :
    Calls Try.prog 138 #[.agg #[v1], .agg #[v2]] w fun e w' => ∃ v', e = .returned (.agg #[v']) ∧ Row .i64 true w.heap.size w'.heap.size w' v' (limbs (val xs + val ys).toNat) ∧ Kept 0 0 w w' := by
  have rr1 := r1
  have rr2 := r2
  obtain ⟨M, hM⟩ : ∃ M, M = xs.length := ⟨_, rfl⟩
  obtain ⟨N, hN⟩ : ∃ N, N = ys.length := ⟨_, rfl⟩
  obtain ⟨a1, c1, e1, q1, m1, q3⟩ := r1
  obtain ⟨a2, c2, e2, q2, m2, q4⟩ := r2
  rw [← hM] at e1 q1 nx
  rw [← hN] at e2 q2 ny
  subst e1 e2
  unfold maxLen at m1 m2
  clear q3 q4
  have HM := hide hM
  have HN := hide hN
  have k1 := (((Kept.refl 0 0 w).alloc (.cells #[.slice a1 M c1] 26)).alloc (.cells #[.slice a2 N c2] 26))
  have hat1 := (row_cell (rr1.kept k1 (by omega))).2.2.2
  have hat2 := (row_cell (rr2.kept k1 (by omega))).2.2.2
  rw [← hM] at hat1
  rw [← hN] at hat2
  have hs1 : ((w.alloc (.cells #[.slice a1 M c1] 26)).alloc (.cells #[.slice a2 N c2] 26)).heap.size = w.heap.size + 2 := by simp
  have hb1 : ((w.alloc (.cells #[.slice a1 M c1] 26)).alloc (.cells #[.slice a2 N c2] 26)).cell? ⟨w.heap.size, 0, none⟩ = some (.slice a1 M c1) := old_cell _ (new_cell_at _ _ _ _ rfl)
  have hb2 : ((w.alloc (.cells #[.slice a1 M c1] 26)).alloc (.cells #[.slice a2 N c2] 26)).cell? ⟨w.heap.size + 1, 0, none⟩ = some (.slice a2 N c2) := new_cell_at _ _ _ _ (by simp)
  have k2 := (Kept.refl 0 0 ((w.alloc (.cells #[.slice a1 M c1] 26)).alloc (.cells #[.slice a2 N c2] 26))).alloc (.cells #[.slice none 0 0] 26)
  have hg0 := Grow.start (b := w.heap.size + 2) (Nat.le_of_eq hs1) (by simp) k2 (new_cell_at _ _ _ _ hs1.symm) (new_loose _ _ _ _ hs1.symm)
  generalize hS : (val xs + val ys) = S
  have HS := hide hS
  clear rr1 rr2 hM hN hS k2
  have KK := hide k1
  have H1 := hide hs1
  have HB1 := hide hb1
  have HB2 := hide hb2
  have HG := hide hg0
  have HA1 := hide hat1
  have HA2 := hide hat2
  clear k1 hs1 hb1 hb2 hg0 hat1 hat2
  go_enter Try.func138, Try.ntmps138
  go_wp2
  generalize ((w.alloc (.cells #[.slice a1 M c1] 26)).alloc (.cells #[.slice a2 N c2] 26)) = W0 at *
  generalize W0.alloc (.cells #[.slice none 0 0] 26) = W1 at *
  go_loopw [5, 6, 7] (fun l cc ii wr => ∃ (out : List Int) (c : Int) (i : Nat), cc = .int .i64 c ∧ ii = .int .i64 i ∧ 0 ≤ c ∧ c ≤ 1 ∧ (i ≤ max M N ∨ (i = max M N + 1 ∧ c = 0)) ∧ out.length = i ∧ Lim out ∧ Hid (val out + 65536 ^ i * (c + val (xs.drop i) + val (ys.drop i)) = S) ∧ Grow (w.heap.size + 2) W0 wr l out) (fun _ _ ii _ => max M N + 1 - (intOf ii).toNat)
  case atStart => exact ⟨[], 0, 0, rfl, rfl, by omega, by omega, .inl (Nat.zero_le _), rfl, Lim.nil, by have := unhide HS; show _ = _; simpa [val] using this, unhide HG⟩
  case round =>
    obtain ⟨out, cr, i, rfl, rfl, hc0, hc1, hi, ho, hlo, hS, hg⟩ := hrel
    have hk := hg.2.2.2.1
    have hcl : ∀ (a : Addr) u, W0.cell? a = some u → wr.cell? a = some u := fun a u h => by
      rw [← h]; exact World.cell?_of_block (hk.block a.block (World.block_lt_of_cell? _ _ h) (by omega))
    have hb1 := hcl _ _ (unhide HB1)
    have hb2 := hcl _ _ (unhide HB2)
    have hst := add_step out i ho cr (val (xs.drop i)) (val (ys.drop i)) (xs.getD i 0) (ys.getD i 0) (val (xs.drop (i + 1))) (val (ys.drop (i + 1))) S (val_drop xs i) (val_drop ys i) (unhide hS)
    have hx0 := hx.at i
    have hy0 := hy.at i
    have hlen : out.length ≤ 1000000 := by omega
    clear hk
    by_cases hA : i < M
    · by_cases hB : i < N
      · have hi1 : (i : Int) < (M : Int) := by omega
        obtain ⟨g1, o1, rfl, x1⟩ := unhide HA1 i (by omega)
        replace x1 := hcl _ _ x1
        have hi2 : (i : Int) < (N : Int) := by omega
        obtain ⟨g2, o2, rfl, x2⟩ := unhide HA2 i (by omega)
        replace x2 := hcl _ _ x2
        generalize xs.getD i 0 = a at *
        generalize ys.getD i 0 = b at *
        have hmax : i ≤ max M N := by omega
        have HST := hide hst
        have HCL := hide hcl
        have hmod : 0 ≤ (cr + a + b) % 65536 ∧ (cr + a + b) % 65536 ≤ 65535 := by omega
        have hdiv : 0 ≤ (cr + a + b) / 65536 ∧ (cr + a + b) / 65536 ≤ 1 := by omega
        have HFIN : Hid (i + 1 ≤ max M N ∨ (i + 1 = max M N + 1 ∧ (cr + a + b) / 65536 = 0)) := by show _ ∨ _; omega
        have et : (cr + a + b).tmod 65536 = (cr + a + b) % 65536 := by rw [Int.tmod_eq_emod_of_nonneg (by omega)]
        have ed : (cr + a + b).tdiv 65536 = (cr + a + b) / 65536 := by rw [Int.tdiv_eq_ediv_of_nonneg (by omega)]
        have hxr : 0 ≤ (cr + a + b) ∧ (cr + a + b) ≤ 200000 := by omega
        have hg' := hg.alloc (.cells #[.int .i64 ((cr + a + b) % 65536)] 3)
        clear hst hcl hi
        go_wp2_with (at_builtin; refine wpList_grow rfl _ _ rfl rfl _ rfl ((cr + a + b) % 65536) (new_cell_at _ _ _ _ rfl) hg' hlen ?_)
        intro v' w' hg2
        clear hg' hg
        go_wp2
        go_roundw
        case rel => exact ⟨out ++ [(cr + a + b) % 65536], (cr + a + b) / 65536, i + 1, by go_num, by go_num, hdiv.1, hdiv.2, unhide HFIN, by simp [ho], hlo.snoc hmod.1 hmod.2, unhide HST, hg2⟩
        case measure => simp [intOf]; omega
      · have hi1 : (i : Int) < (M : Int) := by omega
        obtain ⟨g1, o1, rfl, x1⟩ := unhide HA1 i (by omega)
        replace x1 := hcl _ _ x1
        have hi2 : ¬ (i : Int) < (N : Int) := by omega
        have hi2' : decide ((i : Int) < (N : Int)) = false := decide_eq_false hi2
        have z2 : ys.getD i 0 = 0 := by have := unhide HN; simp [List.getD, List.getElem?_eq_none (show ys.length ≤ i from by omega)]
        rw [z2] at hst
        try simp only [Int.add_zero] at hst
        generalize xs.getD i 0 = a at *
        have hmax : i ≤ max M N := by omega
        have HST := hide hst
        have HCL := hide hcl
        have hmod : 0 ≤ (cr + a) % 65536 ∧ (cr + a) % 65536 ≤ 65535 := by omega
        have hdiv : 0 ≤ (cr + a) / 65536 ∧ (cr + a) / 65536 ≤ 1 := by omega
        have HFIN : Hid (i + 1 ≤ max M N ∨ (i + 1 = max M N + 1 ∧ (cr + a) / 65536 = 0)) := by show _ ∨ _; omega
        have et : (cr + a).tmod 65536 = (cr + a) % 65536 := by rw [Int.tmod_eq_emod_of_nonneg (by omega)]
        have ed : (cr + a).tdiv 65536 = (cr + a) / 65536 := by rw [Int.tdiv_eq_ediv_of_nonneg (by omega)]
        have hxr : 0 ≤ (cr + a) ∧ (cr + a) ≤ 200000 := by omega
        have hg' := hg.alloc (.cells #[.int .i64 ((cr + a) % 65536)] 3)
        clear hst hcl hi
        go_wp2_with (at_builtin; refine wpList_grow rfl _ _ rfl rfl _ rfl ((cr + a) % 65536) (new_cell_at _ _ _ _ rfl) hg' hlen ?_)
        intro v' w' hg2
        clear hg' hg
        go_wp2
        go_roundw
        case rel => exact ⟨out ++ [(cr + a) % 65536], (cr + a) / 65536, i + 1, by go_num, by go_num, hdiv.1, hdiv.2, unhide HFIN, by simp [ho], hlo.snoc hmod.1 hmod.2, unhide HST, hg2⟩
        case measure => simp [intOf]; omega
    · by_cases hB : i < N
      · have hi1 : ¬ (i : Int) < (M : Int) := by omega
        have hi1' : decide ((i : Int) < (M : Int)) = false := decide_eq_false hi1
        have z1 : xs.getD i 0 = 0 := by have := unhide HM; simp [List.getD, List.getElem?_eq_none (show xs.length ≤ i from by omega)]
        rw [z1] at hst
        have hi2 : (i : Int) < (N : Int) := by omega
        obtain ⟨g2, o2, rfl, x2⟩ := unhide HA2 i (by omega)
        replace x2 := hcl _ _ x2
        try simp only [Int.add_zero] at hst
        generalize ys.getD i 0 = b at *
        have hmax : i ≤ max M N := by omega
        have HST := hide hst
        have HCL := hide hcl
        have hmod : 0 ≤ (cr + b) % 65536 ∧ (cr + b) % 65536 ≤ 65535 := by omega
        have hdiv : 0 ≤ (cr + b) / 65536 ∧ (cr + b) / 65536 ≤ 1 := by omega
        have HFIN : Hid (i + 1 ≤ max M N ∨ (i + 1 = max M N + 1 ∧ (cr + b) / 65536 = 0)) := by show _ ∨ _; omega
        have et : (cr + b).tmod 65536 = (cr + b) % 65536 := by rw [Int.tmod_eq_emod_of_nonneg (by omega)]
        have ed : (cr + b).tdiv 65536 = (cr + b) / 65536 := by rw [Int.tdiv_eq_ediv_of_nonneg (by omega)]
        have hxr : 0 ≤ (cr + b) ∧ (cr + b) ≤ 200000 := by omega
        have hg' := hg.alloc (.cells #[.int .i64 ((cr + b) % 65536)] 3)
        clear hst hcl hi
        go_wp2_with (at_builtin; refine wpList_grow rfl _ _ rfl rfl _ rfl ((cr + b) % 65536) (new_cell_at _ _ _ _ rfl) hg' hlen ?_)
        intro v' w' hg2
        clear hg' hg
        go_wp2
        go_roundw
        case rel => exact ⟨out ++ [(cr + b) % 65536], (cr + b) / 65536, i + 1, by go_num, by go_num, hdiv.1, hdiv.2, unhide HFIN, by simp [ho], hlo.snoc hmod.1 hmod.2, unhide HST, hg2⟩
        case measure => simp [intOf]; omega
      · by_cases hC : cr = 0
        · have hS' := unhide hS
          have hM := unhide HM
          have hN := unhide HN
          rw [hC, drop_end xs i (by omega), drop_end ys i (by omega)] at hS'
          simp only [Int.add_zero, Int.mul_zero] at hS'
          have hC' : ¬ (0 : Int) < cr := by omega
          have hi1 : ¬ (i : Int) < (M : Int) := by omega
          have hi1' : decide ((i : Int) < (M : Int)) = false := decide_eq_false hi1
          have hi2 : ¬ (i : Int) < (N : Int) := by omega
          have hi2' : decide ((i : Int) < (N : Int)) = false := decide_eq_false hi2
          have HC := hide hC
          clear hst hM hN hC hcl hA hB
          go_wp2_with fail
          refine (norm_spec wr hg.row hlo hlen).mono ?_
          rintro e wn ⟨v', rfl, rn, kn⟩
          rw [hS'] at rn
          obtain ⟨t1, t2, t3, t4⟩ := hg.tail kn rn
          obtain ⟨a', c', rfl, -, -, -⟩ := rn
          have k9 := (unhide KK).trans t3
          have r9 := t4.wider (lo' := w.heap.size) (by have := unhide H1; omega) (Nat.le_refl _)
          have K9 := hide k9
          have R9 := hide r9
          clear k9 r9 t3 t4 hg hb1 hb2
          go_wp2
          exact bodyPost_ret (v := .agg #[.slice a' (limbs S.toNat).length c']) (by simp [results, Try.results138, go_sem, t1]) rfl ⟨_, rfl, unhide R9, unhide K9⟩
        · have hC' : (0 : Int) < cr := by omega
          have hi1 : ¬ (i : Int) < (M : Int) := by omega
          have hi1' : decide ((i : Int) < (M : Int)) = false := decide_eq_false hi1
          have z1 : xs.getD i 0 = 0 := by have := unhide HM; simp [List.getD, List.getElem?_eq_none (show xs.length ≤ i from by omega)]
          rw [z1] at hst
          have hi2 : ¬ (i : Int) < (N : Int) := by omega
          have hi2' : decide ((i : Int) < (N : Int)) = false := decide_eq_false hi2
          have z2 : ys.getD i 0 = 0 := by have := unhide HN; simp [List.getD, List.getElem?_eq_none (show ys.length ≤ i from by omega)]
          rw [z2] at hst
          try simp only [Int.add_zero] at hst
          have hmax : i ≤ max M N := by omega
          have HST := hide hst
          have HCL := hide hcl
          have hmod : 0 ≤ (cr) % 65536 ∧ (cr) % 65536 ≤ 65535 := by omega
          have hdiv : 0 ≤ (cr) / 65536 ∧ (cr) / 65536 ≤ 1 := by omega
          have HFIN : Hid (i + 1 ≤ max M N ∨ (i + 1 = max M N + 1 ∧ (cr) / 65536 = 0)) := by show _ ∨ _; omega
          have et : (cr).tmod 65536 = (cr) % 65536 := by rw [Int.tmod_eq_emod_of_nonneg (by omega)]
          have ed : (cr).tdiv 65536 = (cr) / 65536 := by rw [Int.tdiv_eq_ediv_of_nonneg (by omega)]
          have hxr : 0 ≤ (cr) ∧ (cr) ≤ 200000 := by omega
          have hg' := hg.alloc (.cells #[.int .i64 ((cr) % 65536)] 3)
          clear hst hcl hi
          go_wp2_with (at_builtin; refine wpList_grow rfl _ _ rfl rfl _ rfl ((cr) % 65536) (new_cell_at _ _ _ _ rfl) hg' hlen ?_)
          intro v' w' hg2
          clear hg' hg
          go_wp2
          go_roundw
          case rel => exact ⟨out ++ [(cr) % 65536], (cr) / 65536, i + 1, by go_num, by go_num, hdiv.1, hdiv.2, unhide HFIN, by simp [ho], hlo.snoc hmod.1 hmod.2, unhide HST, hg2⟩
          case measure => simp [intOf]; omega

end Go.Proofs.Ytdhponfpikclhaa
