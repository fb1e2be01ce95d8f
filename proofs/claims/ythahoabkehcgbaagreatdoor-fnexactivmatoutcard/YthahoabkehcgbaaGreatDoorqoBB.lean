/-
  Contracts that the proofs of this seat share: Nat6, Nat7, Nat8, Nat9, MulNum, ShlNum.
-/
import Derived.Test.YthahoabkehcgbaaGreatDoorqoBA
import Derived.OwnWalk
import Derived.Deep.QuietTactic
import Derived.BigQuiet
import Derived.RegionTactic
namespace Go.Proofs.YthahoabkehcgbaaGreatDoor
open Go.RowKit
set_option linter.unusedVariables false
set_option maxRecDepth 8000

theorem Grow.tail {b : Nat} {w wr wn : World} {v v' : Value} {zs L : List Int} (h : Grow b w wr v zs) (k : Kept 0 0 wr wn) (r : Row .i64 true wr.heap.size wn.heap.size wn v' L) :
    wn.cell? ⟨b, 0, none⟩ = some (.slice none 0 0) ∧ wn.frozen? ⟨b, 0, none⟩ = false ∧ Kept 0 0 w (wn.setCell ⟨b, 0, none⟩ v') ∧ Row .i64 true w.heap.size (wn.setCell ⟨b, 0, none⟩ v').heap.size (wn.setCell ⟨b, 0, none⟩ v') v' L := by
  have h' := h.kept k
  obtain ⟨h1, h2, h3, h4, h5, h6⟩ := h
  obtain ⟨g1, g2, g3, g4, g5, g6⟩ := h'
  refine ⟨g5, g6, g4.setNew (p := ⟨b, 0, none⟩) h2 v', ?_⟩
  have := r.kept ((Kept.refl b (b + 1) wn).setCell (p := ⟨b, 0, none⟩) (Nat.le_refl _) (Nat.lt_succ_self _) v') (by omega)
  exact this.tight.wider (by omega) (Nat.le_refl _)

/-- What is left of a row behind its end is nought. -/
theorem drop_end (xs : List Int) (i : Nat) (h : xs.length ≤ i) : val (xs.drop i) = 0 := by rw [List.drop_of_length_le h]; rfl

set_option maxHeartbeats 4000000 in
theorem add_spec {b1 b2 : Bool} {l1 h1 l2 h2 : Nat} {v1 v2 : Value} {xs ys : List Int} (w : World) (r1 : Row .i64 b1 l1 h1 w v1 xs) (r2 : Row .i64 b2 l2 h2 w v2 ys) (hx : Lim xs) (hy : Lim ys) (nx : xs.length ≤ 100000) (ny : ys.length ≤ 100000) :
    Calls Tryz.prog 161 #[.agg #[v1], .agg #[v2]] w fun e w' => ∃ v', e = .returned (.agg #[v']) ∧ Row .i64 true w.heap.size w'.heap.size w' v' (limbs (val xs + val ys).toNat) ∧ Kept 0 0 w w' := by
  have rr1 := r1
  have rr2 := r2
  obtain ⟨M, hM⟩ : ∃ M, M = xs.length := ⟨_, rfl⟩
  obtain ⟨N, hN⟩ : ∃ N, N = ys.length := ⟨_, rfl⟩
  obtain ⟨a1, c1, e1, q1, m1, q3⟩ := r1
  obtain ⟨a2, c2, e2, q2, m2, q4⟩ := r2
  rw [← hM] at e1 q1 nx
  rw [← hN] at e2 q2 ny
  subst e1 e2
  unfold maxLen at m1 m2
  clear q3 q4
  have HM := hide hM
  have HN := hide hN
  have k1 := (((Kept.refl 0 0 w).alloc (.cells #[.slice a1 M c1] 48)).alloc (.cells #[.slice a2 N c2] 48))
  have hat1 := (row_cell (rr1.kept k1 (by omega))).2.2.2
  have hat2 := (row_cell (rr2.kept k1 (by omega))).2.2.2
  rw [← hM] at hat1
  rw [← hN] at hat2
  have hs1 : ((w.alloc (.cells #[.slice a1 M c1] 48)).alloc (.cells #[.slice a2 N c2] 48)).heap.size = w.heap.size + 2 := by simp
  have hb1 : ((w.alloc (.cells #[.slice a1 M c1] 48)).alloc (.cells #[.slice a2 N c2] 48)).cell? ⟨w.heap.size, 0, none⟩ = some (.slice a1 M c1) := old_cell _ (new_cell_at _ _ _ _ rfl)
  have hb2 : ((w.alloc (.cells #[.slice a1 M c1] 48)).alloc (.cells #[.slice a2 N c2] 48)).cell? ⟨w.heap.size + 1, 0, none⟩ = some (.slice a2 N c2) := new_cell_at _ _ _ _ (by simp)
  have k2 := (Kept.refl 0 0 ((w.alloc (.cells #[.slice a1 M c1] 48)).alloc (.cells #[.slice a2 N c2] 48))).alloc (.cells #[.slice none 0 0] 48)
  have hg0 := Grow.start (b := w.heap.size + 2) (Nat.le_of_eq hs1) (by simp) k2 (new_cell_at _ _ _ _ hs1.symm) (new_loose _ _ _ _ hs1.symm)
  generalize hS : (val xs + val ys) = S
  have HS := hide hS
  clear rr1 rr2 hM hN hS k2
  have KK := hide k1
  have H1 := hide hs1
  have HB1 := hide hb1
  have HB2 := hide hb2
  have HG := hide hg0
  have HA1 := hide hat1
  have HA2 := hide hat2
  clear k1 hs1 hb1 hb2 hg0 hat1 hat2
  go_enter Tryz.func161, Tryz.ntmps161
  go_wp2
  generalize ((w.alloc (.cells #[.slice a1 M c1] 48)).alloc (.cells #[.slice a2 N c2] 48)) = W0 at *
  generalize W0.alloc (.cells #[.slice none 0 0] 48) = W1 at *
  go_loopw [5, 6, 7] (fun l cc ii wr => ∃ (out : List Int) (c : Int) (i : Nat), cc = .int .i64 c ∧ ii = .int .i64 i ∧ 0 ≤ c ∧ c ≤ 1 ∧ (i ≤ max M N ∨ (i = max M N + 1 ∧ c = 0)) ∧ out.length = i ∧ Lim out ∧ Hid (val out + 65536 ^ i * (c + val (xs.drop i) + val (ys.drop i)) = S) ∧ Grow (w.heap.size + 2) W0 wr l out) (fun _ _ ii _ => max M N + 1 - (intOf ii).toNat)
  case atStart => exact ⟨[], 0, 0, rfl, rfl, by omega, by omega, .inl (Nat.zero_le _), rfl, Lim.nil, by have := unhide HS; show _ = _; simpa [val] using this, unhide HG⟩
  case round =>
    obtain ⟨out, cr, i, rfl, rfl, hc0, hc1, hi, ho, hlo, hS, hg⟩ := hrel
    have hk := hg.2.2.2.1
    have hcl : ∀ (a : Addr) u, W0.cell? a = some u → wr.cell? a = some u := fun a u h => by
      rw [← h]; exact World.cell?_of_block (hk.block a.block (World.block_lt_of_cell? _ _ h) (by omega))
    have hb1 := hcl _ _ (unhide HB1)
    have hb2 := hcl _ _ (unhide HB2)
    have hst := add_step out i ho cr (val (xs.drop i)) (val (ys.drop i)) (xs.getD i 0) (ys.getD i 0) (val (xs.drop (i + 1))) (val (ys.drop (i + 1))) S (val_drop xs i) (val_drop ys i) (unhide hS)
    have hx0 := hx.at i
    have hy0 := hy.at i
    have hlen : out.length ≤ 1000000 := by omega
    clear hk
    by_cases hA : i < M
    · by_cases hB : i < N
      · have hi1 : (i : Int) < (M : Int) := by omega
        obtain ⟨g1, o1, rfl, x1⟩ := unhide HA1 i (by omega)
        replace x1 := hcl _ _ x1
        have hi2 : (i : Int) < (N : Int) := by omega
        obtain ⟨g2, o2, rfl, x2⟩ := unhide HA2 i (by omega)
        replace x2 := hcl _ _ x2
        generalize xs.getD i 0 = a at *
        generalize ys.getD i 0 = b at *
        have hmax : i ≤ max M N := by omega
        have HST := hide hst
        have HCL := hide hcl
        have hmod : 0 ≤ (cr + a + b) % 65536 ∧ (cr + a + b) % 65536 ≤ 65535 := by omega
        have hdiv : 0 ≤ (cr + a + b) / 65536 ∧ (cr + a + b) / 65536 ≤ 1 := by omega
        have HFIN : Hid (i + 1 ≤ max M N ∨ (i + 1 = max M N + 1 ∧ (cr + a + b) / 65536 = 0)) := by show _ ∨ _; omega
        have et : (cr + a + b).tmod 65536 = (cr + a + b) % 65536 := by rw [Int.tmod_eq_emod_of_nonneg (by omega)]
        have ed : (cr + a + b).tdiv 65536 = (cr + a + b) / 65536 := by rw [Int.tdiv_eq_ediv_of_nonneg (by omega)]
        have hxr : 0 ≤ (cr + a + b) ∧ (cr + a + b) ≤ 200000 := by omega
        have hg' := hg.alloc (.cells #[.int .i64 ((cr + a + b) % 65536)] 3)
        clear hst hcl hi
        go_wp2_with (at_builtin; refine wpList_grow rfl _ _ rfl rfl _ rfl ((cr + a + b) % 65536) (new_cell_at _ _ _ _ rfl) hg' hlen ?_)
        intro v' w' hg2
        clear hg' hg
        go_wp2
        go_roundw
        case rel => exact ⟨out ++ [(cr + a + b) % 65536], (cr + a + b) / 65536, i + 1, by go_num, by go_num, hdiv.1, hdiv.2, unhide HFIN, by simp [ho], hlo.snoc hmod.1 hmod.2, unhide HST, hg2⟩
        case measure => simp [intOf]; omega
      · have hi1 : (i : Int) < (M : Int) := by omega
        obtain ⟨g1, o1, rfl, x1⟩ := unhide HA1 i (by omega)
        replace x1 := hcl _ _ x1
        have hi2 : ¬ (i : Int) < (N : Int) := by omega
        have hi2' : decide ((i : Int) < (N : Int)) = false := decide_eq_false hi2
        have z2 : ys.getD i 0 = 0 := by have := unhide HN; simp [List.getD, List.getElem?_eq_none (show ys.length ≤ i from by omega)]
        rw [z2] at hst
        try simp only [Int.add_zero] at hst
        generalize xs.getD i 0 = a at *
        have hmax : i ≤ max M N := by omega
        have HST := hide hst
        have HCL := hide hcl
        have hmod : 0 ≤ (cr + a) % 65536 ∧ (cr + a) % 65536 ≤ 65535 := by omega
        have hdiv : 0 ≤ (cr + a) / 65536 ∧ (cr + a) / 65536 ≤ 1 := by omega
        have HFIN : Hid (i + 1 ≤ max M N ∨ (i + 1 = max M N + 1 ∧ (cr + a) / 65536 = 0)) := by show _ ∨ _; omega
        have et : (cr + a).tmod 65536 = (cr + a) % 65536 := by rw [Int.tmod_eq_emod_of_nonneg (by omega)]
        have ed : (cr + a).tdiv 65536 = (cr + a) / 65536 := by rw [Int.tdiv_eq_ediv_of_nonneg (by omega)]
        have hxr : 0 ≤ (cr + a) ∧ (cr + a) ≤ 200000 := by omega
        have hg' := hg.alloc (.cells #[.int .i64 ((cr + a) % 65536)] 3)
        clear hst hcl hi
        go_wp2_with (at_builtin; refine wpList_grow rfl _ _ rfl rfl _ rfl ((cr + a) % 65536) (new_cell_at _ _ _ _ rfl) hg' hlen ?_)
        intro v' w' hg2
        clear hg' hg
        go_wp2
        go_roundw
        case rel => exact ⟨out ++ [(cr + a) % 65536], (cr + a) / 65536, i + 1, by go_num, by go_num, hdiv.1, hdiv.2, unhide HFIN, by simp [ho], hlo.snoc hmod.1 hmod.2, unhide HST, hg2⟩
        case measure => simp [intOf]; omega
    · by_cases hB : i < N
      · have hi1 : ¬ (i : Int) < (M : Int) := by omega
        have hi1' : decide ((i : Int) < (M : Int)) = false := decide_eq_false hi1
        have z1 : xs.getD i 0 = 0 := by have := unhide HM; simp [List.getD, List.getElem?_eq_none (show xs.length ≤ i from by omega)]
        rw [z1] at hst
        have hi2 : (i : Int) < (N : Int) := by omega
        obtain ⟨g2, o2, rfl, x2⟩ := unhide HA2 i (by omega)
        replace x2 := hcl _ _ x2
        try simp only [Int.add_zero] at hst
        generalize ys.getD i 0 = b at *
        have hmax : i ≤ max M N := by omega
        have HST := hide hst
        have HCL := hide hcl
        have hmod : 0 ≤ (cr + b) % 65536 ∧ (cr + b) % 65536 ≤ 65535 := by omega
        have hdiv : 0 ≤ (cr + b) / 65536 ∧ (cr + b) / 65536 ≤ 1 := by omega
        have HFIN : Hid (i + 1 ≤ max M N ∨ (i + 1 = max M N + 1 ∧ (cr + b) / 65536 = 0)) := by show _ ∨ _; omega
        have et : (cr + b).tmod 65536 = (cr + b) % 65536 := by rw [Int.tmod_eq_emod_of_nonneg (by omega)]
        have ed : (cr + b).tdiv 65536 = (cr + b) / 65536 := by rw [Int.tdiv_eq_ediv_of_nonneg (by omega)]
        have hxr : 0 ≤ (cr + b) ∧ (cr + b) ≤ 200000 := by omega
        have hg' := hg.alloc (.cells #[.int .i64 ((cr + b) % 65536)] 3)
        clear hst hcl hi
        go_wp2_with (at_builtin; refine wpList_grow rfl _ _ rfl rfl _ rfl ((cr + b) % 65536) (new_cell_at _ _ _ _ rfl) hg' hlen ?_)
        intro v' w' hg2
        clear hg' hg
        go_wp2
        go_roundw
        case rel => exact ⟨out ++ [(cr + b) % 65536], (cr + b) / 65536, i + 1, by go_num, by go_num, hdiv.1, hdiv.2, unhide HFIN, by simp [ho], hlo.snoc hmod.1 hmod.2, unhide HST, hg2⟩
        case measure => simp [intOf]; omega
      · by_cases hC : cr = 0
        · have hS' := unhide hS
          have hM := unhide HM
          have hN := unhide HN
          rw [hC, drop_end xs i (by omega), drop_end ys i (by omega)] at hS'
          simp only [Int.add_zero, Int.mul_zero] at hS'
          have hC' : ¬ (0 : Int) < cr := by omega
          have hi1 : ¬ (i : Int) < (M : Int) := by omega
          have hi1' : decide ((i : Int) < (M : Int)) = false := decide_eq_false hi1
          have hi2 : ¬ (i : Int) < (N : Int) := by omega
          have hi2' : decide ((i : Int) < (N : Int)) = false := decide_eq_false hi2
          have HC := hide hC
          clear hst hM hN hC hcl hA hB
          go_wp2_with fail
          refine (norm_spec wr hg.row hlo hlen).mono ?_
          rintro e wn ⟨v', rfl, rn, kn⟩
          rw [hS'] at rn
          obtain ⟨t1, t2, t3, t4⟩ := hg.tail kn rn
          obtain ⟨a', c', rfl, -, -, -⟩ := rn
          have k9 := (unhide KK).trans t3
          have r9 := t4.wider (lo' := w.heap.size) (by have := unhide H1; omega) (Nat.le_refl _)
          have K9 := hide k9
          have R9 := hide r9
          clear k9 r9 t3 t4 hg hb1 hb2
          go_wp2
          exact bodyPost_ret (v := .agg #[.slice a' (limbs S.toNat).length c']) (by simp [results, Tryz.results161, go_sem, t1]) rfl ⟨_, rfl, unhide R9, unhide K9⟩
        · have hC' : (0 : Int) < cr := by omega
          have hi1 : ¬ (i : Int) < (M : Int) := by omega
          have hi1' : decide ((i : Int) < (M : Int)) = false := decide_eq_false hi1
          have z1 : xs.getD i 0 = 0 := by have := unhide HM; simp [List.getD, List.getElem?_eq_none (show xs.length ≤ i from by omega)]
          rw [z1] at hst
          have hi2 : ¬ (i : Int) < (N : Int) := by omega
          have hi2' : decide ((i : Int) < (N : Int)) = false := decide_eq_false hi2
          have z2 : ys.getD i 0 = 0 := by have := unhide HN; simp [List.getD, List.getElem?_eq_none (show ys.length ≤ i from by omega)]
          rw [z2] at hst
          try simp only [Int.add_zero] at hst
          have hmax : i ≤ max M N := by omega
          have HST := hide hst
          have HCL := hide hcl
          have hmod : 0 ≤ (cr) % 65536 ∧ (cr) % 65536 ≤ 65535 := by omega
          have hdiv : 0 ≤ (cr) / 65536 ∧ (cr) / 65536 ≤ 1 := by omega
          have HFIN : Hid (i + 1 ≤ max M N ∨ (i + 1 = max M N + 1 ∧ (cr) / 65536 = 0)) := by show _ ∨ _; omega
          have et : (cr).tmod 65536 = (cr) % 65536 := by rw [Int.tmod_eq_emod_of_nonneg (by omega)]
          have ed : (cr).tdiv 65536 = (cr) / 65536 := by rw [Int.tdiv_eq_ediv_of_nonneg (by omega)]
          have hxr : 0 ≤ (cr) ∧ (cr) ≤ 200000 := by omega
          have hg' := hg.alloc (.cells #[.int .i64 ((cr) % 65536)] 3)
          clear hst hcl hi
          go_wp2_with (at_builtin; refine wpList_grow rfl _ _ rfl rfl _ rfl ((cr) % 65536) (new_cell_at _ _ _ _ rfl) hg' hlen ?_)
          intro v' w' hg2
          clear hg' hg
          go_wp2
          go_roundw
          case rel => exact ⟨out ++ [(cr) % 65536], (cr) / 65536, i + 1, by go_num, by go_num, hdiv.1, hdiv.2, unhide HFIN, by simp [ho], hlo.snoc hmod.1 hmod.2, unhide HST, hg2⟩
          case measure => simp [intOf]; omega

end Go.Proofs.YthahoabkehcgbaaGreatDoor

namespace Go.Proofs.YthahoabkehcgbaaGreatDoor
open Go.RowKit
set_option linter.unusedVariables false
set_option maxRecDepth 8000

end Go.Proofs.YthahoabkehcgbaaGreatDoor

namespace Go.Proofs.YthahoabkehcgbaaGreatDoor
open Go.RowKit
set_option linter.unusedVariables false
set_option maxRecDepth 8000

theorem Grow.cell {b : Nat} {w wr : World} {g n c : Nat} {zs : List Int} (h : Grow b w wr (.slice (some ⟨g, 0, none⟩) n c) zs) (j : Nat) (hj : j < zs.length) :
    wr.cell? ⟨g, j, none⟩ = some (.int .i64 (zs.getD j 0)) ∧ wr.frozen? ⟨g, j, none⟩ = false ∧ b < g ∧ n = zs.length := by
  have h1 := h.1
  obtain ⟨a', c', e⟩ := own_slice h1
  simp only [Value.slice.injEq] at e
  obtain ⟨rfl, rfl, rfl⟩ := e
  have h2 := own_cell h1 j hj
  obtain ⟨g', cap', e', hb, -⟩ := own_form h1 (by omega)
  cases e'
  exact ⟨h2.1, h2.2, hb, rfl⟩
theorem Grow.put {b : Nat} {w wr : World} {g n c : Nat} {zs : List Int} (h : Grow b w wr (.slice (some ⟨g, 0, none⟩) n c) zs) (j : Nat) (hj : j < zs.length) (z : Int) :
    Grow b w (wr.setCell ⟨g, j, none⟩ (.int .i64 z)) (.slice (some ⟨g, 0, none⟩) n c) (zs.set j z) := by
  obtain ⟨-, -, hbg, rfl⟩ := h.cell j hj
  obtain ⟨h1, h2, h3, h4, h5, h6⟩ := h
  refine ⟨own_set h1 j z, h2, by rw [size_set]; exact h3, h4.setNew (p := ⟨g, j, none⟩) (by show _ ≤ g; omega) _, ?_, ?_⟩
  · rw [cell_far _ _ _ _ _ (show b ≠ g by omega)]; exact h5
  · rw [frozen_set]; exact h6

/-- A list of noughts is made. -/
theorem wpList_made {ops : Array Oper} {rest : List Oper} {o : Oper} {a : Act} {Q : Exit → Act → World → Prop} {b : Nat} {w wr : World} (hgd : o.guard = none) (l c : Operand)
    (ho : o.op = Op.makeSlice 39 l c) (L C : Int) (n : Nat) (hl : a.eval l = .int .i64 L) (hc : a.eval c = .int .i64 C) (hL : L = (n : Int)) (hC : C = (n : Int)) (hn : n ≤ 1000000)
    (hg : Grow b w wr (.slice none 0 0) [])
    (h : ∀ g w', Grow b w w' (.slice (some ⟨g, 0, none⟩) n n) (List.replicate n 0) → wpList Tryz.prog ops Q rest (a.put o.dst (.slice (some ⟨g, 0, none⟩) n n)) w') : wpList Tryz.prog ops Q (o :: rest) a wr := by
  obtain ⟨i0, hi0, hz0, hz1, hz2⟩ := info_parts Tryz.info3'
  obtain ⟨h1, h2, h3, h4, h5, h6⟩ := hg
  refine wpList_make_full wr hgd l c 39 ho (b + 1) 3 i0 (.int .i64 0) 1 Tryz.underlying39 hi0 hz0 hz1 .i64 .i64 L C n hl hc hL hC (by rw [hz2]; omega) (by unfold maxLen; omega) h3 ?_
  intro w' hown hgrow
  rw [made_zero] at hown
  have hk : Kept 0 0 wr w' := ⟨hgrow.os, hgrow.tape, hgrow.output, hgrow.size, fun i hi _ => hgrow.block i hi (by simp)⟩
  have hb := hk.block b h3 (by omega)
  refine h _ w' ⟨by simpa using hown, h2, Nat.lt_of_lt_of_le h3 hk.size, h4.trans hk, ?_, ?_⟩
  · rw [← h5]; exact World.cell?_of_block hb
  · simpa [World.frozen?, hb] using h6

theorem set_drop (out : List Int) (j : Nat) (q : Int) (h : j < out.length) : val ((out.set j q).drop j) = q + 65536 * val (out.drop (j + 1)) := by
  rw [val_drop, getD_set _ _ _ _ h, if_pos rfl, List.drop_set_of_lt (by omega)]
theorem div_unique {A Q d r : Int} (hd : 0 < d) (h : A = Q * d + r) (h0 : 0 ≤ r) (h1 : r < d) : A / d = Q ∧ A % d = r := by
  have e1 : A / d = Q := by
    rw [h, Int.add_comm, Int.add_mul_ediv_right _ _ (by omega), Int.ediv_eq_zero_of_lt h0 h1]; omega
  have e2 := Int.mul_ediv_add_emod A d
  rw [e1] at e2
  refine ⟨e1, ?_⟩
  have : d * Q = Q * d := Int.mul_comm _ _
  omega

set_option maxHeartbeats 4000000 in
theorem small_spec {bw : Bool} {lo hi : Nat} {v : Value} {xs : List Int} (w : World) (r : Row .i64 bw lo hi w v xs) (hx : Lim xs) (nx : xs.length ≤ 100000) (d : Int) (hd0 : 0 < d) (hd1 : d ≤ 65536) :
    Calls Tryz.prog 200 #[.agg #[v], .int .i64 d] w fun e w' => ∃ v', e = .returned (.tuple #[.agg #[v'], .int .i64 (val xs % d)]) ∧ Row .i64 true w.heap.size w'.heap.size w' v' (limbs (val xs / d).toNat) ∧ Kept 0 0 w w' := by
  have rr := r
  obtain ⟨M, hM⟩ : ∃ M, M = xs.length := ⟨_, rfl⟩
  obtain ⟨a1, c1, e1, q1, m1, q3⟩ := r
  rw [← hM] at e1 q1 nx
  subst e1
  unfold maxLen at m1
  clear q3
  have HM := hide hM
  have k1 := ((Kept.refl 0 0 w).alloc (.cells #[.slice a1 M c1] 48))
  have hat1 := (row_cell (rr.kept k1 (by omega))).2.2.2
  rw [← hM] at hat1
  have hs1 : (w.alloc (.cells #[.slice a1 M c1] 48)).heap.size = w.heap.size + 1 := by simp
  have hb1 : (w.alloc (.cells #[.slice a1 M c1] 48)).cell? ⟨w.heap.size, 0, none⟩ = some (.slice a1 M c1) := new_cell_at _ _ _ _ rfl
  have k2 := (Kept.refl 0 0 (w.alloc (.cells #[.slice a1 M c1] 48))).alloc (.cells #[.slice none 0 0] 48)
  have hg0 := Grow.start (b := w.heap.size + 1) (Nat.le_of_eq hs1) (by simp) k2 (new_cell_at _ _ _ _ hs1.symm) (new_loose _ _ _ _ hs1.symm)
  generalize hS : val xs = S
  have HS := hide hS
  clear rr hM hS k2
  have KK := hide k1
  have H1 := hide hs1
  have HB1 := hide hb1
  have HG := hide hg0
  have HA1 := hide hat1
  clear k1 hs1 hb1 hg0 hat1
  have hn : M ≤ 1000000 := by omega
  go_enter Tryz.func200, Tryz.ntmps200
  go_wp2_with (at_make; refine wpList_made rfl _ _ rfl _ _ M rfl rfl rfl rfl hn (unhide HG) ?_)
  intro g w2 hg1
  have HG1 := hide hg1
  have hb1 : w2.cell? ⟨w.heap.size, 0, none⟩ = some (.slice a1 M c1) := by
    rw [← unhide HB1]; exact World.cell?_of_block (hg1.2.2.2.1.block w.heap.size (by simp) (by omega))
  clear hg1
  generalize (w.alloc (.cells #[.slice a1 M c1] 48)) = W0 at *
  go_wp2
  clear hb1
  go_loopw [7, 8] (fun rr ii wr => ∃ (out : List Int) (q : Int) (k : Nat), rr = .int .i64 q ∧ ii = .int .i64 ((k : Int) - 1) ∧ 0 ≤ q ∧ q < d ∧ k ≤ M ∧ out.length = M ∧ Lim out ∧ Hid (val (xs.drop k) = val (out.drop k) * d + q) ∧ Grow (w.heap.size + 1) W0 wr (.slice (some ⟨g, 0, none⟩) M M) out) (fun _ ii _ => (intOf ii + 1).toNat)
  case atStart => exact ⟨List.replicate M 0, 0, M, rfl, rfl, by omega, by omega, Nat.le_refl _, by simp, Lim.zeros M, by have := unhide HM; show _ = _; rw [drop_end _ _ (by omega), drop_end _ _ (by simp)]; omega, unhide HG1⟩
  case round =>
    obtain ⟨out, q, k, rfl, rfl, hq0, hq1, hk, ho, hlo, hS, hg⟩ := hrel
    have hkk := hg.2.2.2.1
    have hcl : ∀ (a : Addr) u, W0.cell? a = some u → wr.cell? a = some u := fun a u h => by
      rw [← h]; exact World.cell?_of_block (hkk.block a.block (World.block_lt_of_cell? _ _ h) (by omega))
    have hb1 := hcl _ _ (unhide HB1)
    clear hkk
    by_cases h0 : k = 0
    · subst h0
      have hS' := unhide hS
      simp only [List.drop_zero] at hS'
      rw [unhide HS] at hS'
      obtain ⟨eq1, eq2⟩ := div_unique hd0 hS' hq0 hq1
      have EQ2 := hide eq2
      clear hcl hS' eq2
      go_wp2_with fail
      refine (norm_spec wr hg.row hlo (by omega)).mono ?_
      rintro e wn ⟨v', rfl, rn, kn⟩
      rw [← eq1] at rn
      obtain ⟨t1, t2, t3, t4⟩ := hg.tail kn rn
      obtain ⟨a', c', rfl, -, -, -⟩ := rn
      have k9 := (unhide KK).trans t3
      have r9 := t4.wider (lo' := w.heap.size) (by have := unhide H1; omega) (Nat.le_refl _)
      have K9 := hide k9
      have R9 := hide r9
      clear k9 r9 t3 t4 hg hb1 eq1
      go_wp2
      exact bodyPost_ret (v := .tuple #[.agg #[.slice a' (limbs (S / d).toNat).length c'], .int .i64 q]) (by simp [results, Tryz.results200, go_sem, t1]) rfl ⟨_, by rw [unhide EQ2], unhide R9, unhide K9⟩
    · obtain ⟨j, rfl⟩ : ∃ j, k = j + 1 := ⟨k - 1, by omega⟩
      obtain ⟨g1, o1, rfl, x1⟩ := unhide HA1 j (by omega)
      replace x1 := hcl _ _ x1
      have hx0 := hx.at j
      have hd := val_drop xs j
      obtain ⟨s1, s2, s3, s4⟩ := small_step _ (xs.getD j 0) d q (val (out.drop (j + 1))) _ hd0 hd (unhide hS) hq0 hq1 hx0.1
      have s5 := small_lt (xs.getD j 0) d q hq1 hq0 hd0 hx0.2
      obtain ⟨y1, y2, y3, -⟩ := hg.cell j (by omega)
      have e1 : ((j + 1 : Nat) : Int) - 1 = j := by omega
      rw [e1]
      have hj1 : (j : Int) < (M : Int) := by omega
      generalize xs.getD j 0 = a at *
      have hxx : 0 ≤ q * 65536 + a ∧ q * 65536 + a ≤ 4294967296 := by omega
      have et : (q * 65536 + a).tmod d = (q * 65536 + a) % d := by rw [Int.tmod_eq_emod_of_nonneg (by omega)]
      have ed : (q * 65536 + a).tdiv d = (q * 65536 + a) / d := by rw [Int.tdiv_eq_ediv_of_nonneg (by omega)]
      have hdd : (d == 0) = false := beq_eq_false_iff_ne.2 (by omega)
      have hp := hg.put j (by omega) ((q * 65536 + a) / d)
      have sd := set_drop out j ((q * 65536 + a) / d) (by omega)
      have HST : Hid (val (xs.drop j) = val ((out.set j ((q * 65536 + a) / d)).drop j) * d + (q * 65536 + a) % d) := by show _ = _; rw [sd, s1]
      have HP := hide hp
      have hlim := hlo.set j s4 s5
      generalize hQ : (q * 65536 + a) / d = Q1 at *
      generalize hR : (q * 65536 + a) % d = R1 at *
      have hr1 : Q1 ≤ 4294967296 := by omega
      clear hd s1 sd hcl hp hQ hR
      go_wp2
      go_roundw
      case rel => exact ⟨out.set j Q1, R1, j, by first | rfl | go_num, by go_num, s2, s3, by omega, by simp [ho], hlim, HST, unhide HP⟩
      case measure => simp [intOf]

end Go.Proofs.YthahoabkehcgbaaGreatDoor

namespace Go.Proofs.YthahoabkehcgbaaGreatDoor
open Go.RowKit
set_option linter.unusedVariables false
set_option maxRecDepth 8000

theorem top_zero {zs : List Int} (h : Lim zs) (j : Nat) (hv : val zs < 65536 ^ j) : zs.getD j 0 = 0 := by
  by_cases hj : j < zs.length
  · have e := val_take_drop zs j (by omega)
    have e2 := val_drop zs j
    have h1 := val_nonneg (h.take j)
    have h2 := val_nonneg (h.drop (j + 1))
    have h3 := h.at j
    have hp : (0 : Int) < 65536 ^ j := Int.pow_pos (by decide)
    rcases (show 0 < zs.getD j 0 ∨ zs.getD j 0 ≤ 0 from by omega) with hz | hz
    · have : (65536 : Int) ^ j * 1 ≤ 65536 ^ j * val (zs.drop j) := Int.mul_le_mul_of_nonneg_left (by omega) (by omega)
      omega
    · omega
  · simp [List.getD, List.getElem?_eq_none (show zs.length ≤ j from by omega)]
theorem take_mul_lt {xs ys : List Int} (hx : Lim xs) (hy : Lim ys) (i : Nat) (hi : i ≤ xs.length) : val (xs.take i) * val ys < 65536 ^ (i + ys.length) := by
  have h1 := val_lt (hx.take i)
  have h2 := val_lt hy
  have h3 := val_nonneg (hx.take i)
  have h4 := val_nonneg hy
  rw [List.length_take, Nat.min_eq_left hi] at h1
  rw [Int.pow_add]
  rcases (show 0 < val (xs.take i) ∨ val (xs.take i) ≤ 0 from by omega) with h | h
  · exact Int.lt_of_lt_of_le (Int.mul_lt_mul_of_pos_left h2 h) (Int.mul_le_mul_of_nonneg_right (by omega) (by omega))
  · have : val (xs.take i) = 0 := by omega
    rw [this, Int.zero_mul]
    exact Int.mul_pos (Int.pow_pos (by decide)) (Int.pow_pos (by decide))
theorem limb_mul {a b : Int} (ha : 0 ≤ a ∧ a ≤ 65535) (hb : 0 ≤ b ∧ b ≤ 65535) : 0 ≤ a * b ∧ a * b ≤ 4294836225 := by
  refine ⟨Int.mul_nonneg ha.1 hb.1, ?_⟩
  exact Int.le_trans (Int.mul_le_mul_of_nonneg_right ha.2 hb.1) (by omega)

set_option maxHeartbeats 4000000 in
theorem mul_spec {b1 b2 : Bool} {l1 h1 l2 h2 : Nat} {v1 v2 : Value} {xs ys : List Int} (w : World) (r1 : Row .i64 b1 l1 h1 w v1 xs) (r2 : Row .i64 b2 l2 h2 w v2 ys) (hx : Lim xs) (hy : Lim ys) (nx : xs.length ≤ 100000) (ny : ys.length ≤ 100000) :
    Calls Tryz.prog 221 #[.agg #[v1], .agg #[v2]] w fun e w' => ∃ v', e = .returned (.agg #[v']) ∧ Row .i64 true w.heap.size w'.heap.size w' v' (limbs (val xs * val ys).toNat) ∧ Kept 0 0 w w' := by
  have rr1 := r1
  have rr2 := r2
  obtain ⟨M, hM⟩ : ∃ M, M = xs.length := ⟨_, rfl⟩
  obtain ⟨N, hN⟩ : ∃ N, N = ys.length := ⟨_, rfl⟩
  obtain ⟨a1, c1, e1, q1, m1, q3⟩ := r1
  obtain ⟨a2, c2, e2, q2, m2, q4⟩ := r2
  rw [← hM] at e1 q1 nx
  rw [← hN] at e2 q2 ny
  subst e1 e2
  unfold maxLen at m1 m2
  clear q3 q4
  have HM := hide hM
  have HN := hide hN
  have k1 := (((Kept.refl 0 0 w).alloc (.cells #[.slice a1 M c1] 48)).alloc (.cells #[.slice a2 N c2] 48))
  have hat1 := (row_cell (rr1.kept k1 (by omega))).2.2.2
  have hat2 := (row_cell (rr2.kept k1 (by omega))).2.2.2
  rw [← hM] at hat1
  rw [← hN] at hat2
  have hs1 : ((w.alloc (.cells #[.slice a1 M c1] 48)).alloc (.cells #[.slice a2 N c2] 48)).heap.size = w.heap.size + 2 := by simp
  have hb1 : ((w.alloc (.cells #[.slice a1 M c1] 48)).alloc (.cells #[.slice a2 N c2] 48)).cell? ⟨w.heap.size, 0, none⟩ = some (.slice a1 M c1) := old_cell _ (new_cell_at _ _ _ _ rfl)
  have hb2 : ((w.alloc (.cells #[.slice a1 M c1] 48)).alloc (.cells #[.slice a2 N c2] 48)).cell? ⟨w.heap.size + 1, 0, none⟩ = some (.slice a2 N c2) := new_cell_at _ _ _ _ (by simp)
  have k2 := (Kept.refl 0 0 ((w.alloc (.cells #[.slice a1 M c1] 48)).alloc (.cells #[.slice a2 N c2] 48))).alloc (.cells #[.slice none 0 0] 48)
  have hg0 := Grow.start (b := w.heap.size + 2) (Nat.le_of_eq hs1) (by simp) k2 (new_cell_at _ _ _ _ hs1.symm) (new_loose _ _ _ _ hs1.symm)
  generalize hS : (val xs * val ys) = S
  have HS := hide hS
  clear rr1 rr2 hM hN hS k2
  have KK := hide k1
  have H1 := hide hs1
  have HB1 := hide hb1
  have HB2 := hide hb2
  have HG := hide hg0
  have HA1 := hide hat1
  have HA2 := hide hat2
  clear k1 hs1 hb1 hb2 hg0 hat1 hat2
  have hn : M + N ≤ 1000000 := by omega
  go_enter Tryz.func221, Tryz.ntmps221
  go_wp2_with (at_make; refine wpList_made rfl _ _ rfl _ _ (M + N) rfl rfl (Int.natCast_add M N).symm (Int.natCast_add M N).symm hn (unhide HG) ?_)
  intro g w2 hg1
  have HG1 := hide hg1
  have hb1 : w2.cell? ⟨w.heap.size, 0, none⟩ = some (.slice a1 M c1) := by
    rw [← unhide HB1]; exact World.cell?_of_block (hg1.2.2.2.1.block w.heap.size (by simp; omega) (by omega))
  clear hg1
  generalize ((w.alloc (.cells #[.slice a1 M c1] 48)).alloc (.cells #[.slice a2 N c2] 48)) = W0 at *
  go_wp2
  clear hb1
  go_loopw [6] (fun ii wr => ∃ (out : List Int) (i : Nat), ii = .int .i64 (i : Int) ∧ i ≤ M ∧ out.length = M + N ∧ Lim out ∧ Hid (val out = val (xs.take i) * val ys) ∧ Grow (w.heap.size + 2) W0 wr (.slice (some ⟨g, 0, none⟩) (M + N) (M + N)) out) (fun ii _ => M - (intOf ii).toNat)
  case atStart => exact ⟨List.replicate (M + N) 0, 0, rfl, Nat.zero_le _, by simp, Lim.zeros _, by show _ = _; rw [val_zeros]; simp [val], unhide HG1⟩
  case round =>
    obtain ⟨out, i, rfl, hi, ho, hlo, hV, hg⟩ := hrel
    have hkk := hg.2.2.2.1
    have hcl : ∀ (a : Addr) u, W0.cell? a = some u → wr.cell? a = some u := fun a u h => by
      rw [← h]; exact World.cell?_of_block (hkk.block a.block (World.block_lt_of_cell? _ _ h) (by omega))
    have hb1 := hcl _ _ (unhide HB1)
    have hb2 := hcl _ _ (unhide HB2)
    clear hkk
    by_cases hA : i < M
    · have hi1 : (i : Int) < (M : Int) := by omega
      have hz : out.getD (i + N) 0 = 0 := top_zero hlo _ (by rw [unhide hV, unhide HN]; exact take_mul_lt hx hy i (by rw [← unhide HM]; omega))
      have hx0 := hx.at i
      obtain ⟨g1, o1, rfl, x1⟩ := unhide HA1 i (by omega)
      have X1 := hide x1
      have HZ := hide hz
      have HG2 := hide hg
      have HV := hide hV
      have hts := val_take_succ xs i (by rw [← unhide HM]; omega)
      have HTS := hide hts
      generalize hva : xs.getD i 0 = va at *
      have HVA := hide hva
      clear hcl hz hV hva x1 hts
      go_wp2
      clear hg hb1 hb2
      go_loopw [7, 8] (fun cc kk wr => ∃ (out' : List Int) (c : Int) (k : Nat), cc = .int .i64 c ∧ kk = .int .i64 (k : Int) ∧ k ≤ N ∧ 0 ≤ c ∧ c ≤ 65535 ∧ out'.length = M + N ∧ Lim out' ∧ out'.getD (i + N) 0 = 0 ∧ Hid (val out' + 65536 ^ (i + k) * c = val (xs.take i) * val ys + 65536 ^ i * (va * val (ys.take k))) ∧ Grow (w.heap.size + 2) W0 wr (.slice (some ⟨g, 0, none⟩) (M + N) (M + N)) out') (fun _ kk _ => N - (intOf kk).toNat)
      case atStart => exact ⟨out, 0, 0, rfl, rfl, Nat.zero_le _, by omega, by omega, ho, hlo, unhide HZ, by show _ = _; rw [unhide (unhide HV)]; simp [val], unhide HG2⟩
      case round =>
        clear HG2 HZ HV ho hlo
        obtain ⟨out, c, k, rfl, rfl, hk, hc0, hc1, ho, hlo, hz, hT, hg⟩ := hrel
        have hkk := hg.2.2.2.1
        have hcl : ∀ (a : Addr) u, W0.cell? a = some u → wr.cell? a = some u := fun a u h => by
          rw [← h]; exact World.cell?_of_block (hkk.block a.block (World.block_lt_of_cell? _ _ h) (by omega))
        have hb1 := hcl _ _ (unhide HB1)
        have hb2 := hcl _ _ (unhide HB2)
        have x1 := hcl _ _ (unhide X1)
        clear hkk
        by_cases hB : k < N
        · obtain ⟨g2, o2, rfl, x2⟩ := unhide HA2 k (by omega)
          replace x2 := hcl _ _ x2
          have hy0 := hy.at k
          obtain ⟨y1, y2, y3, -⟩ := hg.cell (i + k) (by omega)
          have hT2 := mul_step out (i + k) (by omega) c va (ys.getD k 0) (out.getD (i + k) 0) _ rfl (unhide hT)
          have hks := val_take_succ ys k (by rw [← unhide HN]; omega)
          have hl0 := hlo.at (i + k)
          generalize hvb : ys.getD k 0 = vb at *
          have hp := limb_mul hx0 hy0
          have hi2 : (k : Int) < (N : Int) := by omega
          have hij : (i : Int) + (k : Int) < ((M + N : Nat) : Int) := by omega
          have hij0 : 0 ≤ (i : Int) + (k : Int) := by omega
          have hpt := fun n => (hg.drewN n).put (i + k) (by omega) ((out.getD (i + k) 0 + va * vb + c) % 65536)
          have hgs : (out.set (i + k) ((out.getD (i + k) 0 + va * vb + c) % 65536)).getD (i + N) 0 = 0 := by
            rw [getD_set _ _ _ _ (by omega), if_neg (by omega)]; exact hz
          have HT2 : Hid (val (out.set (i + k) ((out.getD (i + k) 0 + va * vb + c) % 65536)) + 65536 ^ (i + (k + 1)) * ((out.getD (i + k) 0 + va * vb + c) / 65536) = val (xs.take i) * val ys + 65536 ^ i * (va * val (ys.take (k + 1)))) := by
            show _ = _
            rw [show i + (k + 1) = i + k + 1 from rfl, hT2, hks, Int.mul_add va, Int.mul_add, Int.pow_add, Int.mul_assoc (65536 ^ i), Int.mul_left_comm va, Int.add_assoc]
          have hl1 := hlo.set (i + k) (x := (out.getD (i + k) 0 + va * vb + c) % 65536) (by omega) (by omega)
          generalize hvo : out.getD (i + k) 0 = vo at *
          have hX : 0 ≤ vo + va * vb + c ∧ vo + va * vb + c ≤ 4294967295 := by omega
          have hX1 : 0 ≤ vo + va * vb ∧ vo + va * vb ≤ 4294967295 := by omega
          have et : (vo + va * vb + c).tmod 65536 = (vo + va * vb + c) % 65536 := by rw [Int.tmod_eq_emod_of_nonneg (by omega)]
          have ed : (vo + va * vb + c).tdiv 65536 = (vo + va * vb + c) / 65536 := by rw [Int.tdiv_eq_ediv_of_nonneg (by omega)]
          have hdv : 0 ≤ (vo + va * vb + c) / 65536 ∧ (vo + va * vb + c) / 65536 ≤ 65535 := by omega
          have HPT := hide hpt
          have HGS := hide hgs
          have hnn : (((M + N : Nat)) : Int) = (M : Int) + (N : Int) := by omega
          clear hcl hT hT2 hks hpt hgs hz hvb hvo hg
          go_wp2
          go_quiet (fail)
          go_wp2
          go_roundw
          case rel => exact ⟨_, (vo + va * vb + c) / 65536, k + 1, by first | rfl | go_num, by go_num, by omega, hdv.1, hdv.2, by simpa using ho, hl1, unhide HGS, HT2, unhide HPT _⟩
          case measure => simp [intOf]; omega
        · have hkN : k = N := by omega
          subst hkN
          obtain ⟨y1, y2, y3, -⟩ := hg.cell (i + k) (by omega)
          rw [hz] at y1
          have hpt := fun n => (hg.drewN n).put (i + k) (by omega) c
          have hl1 := hlo.set (i + k) (x := c) hc0 hc1
          have HT2 : Hid (val (out.set (i + k) c) = val (xs.take (i + 1)) * val ys) := by
            show _ = _
            have e := unhide hT
            rw [List.take_of_length_le (Nat.le_of_eq (unhide HN).symm)] at e
            rw [val_set _ _ _ (by omega), hz, Int.sub_zero, e, unhide HTS, Int.add_mul, Int.mul_assoc]
          have hi2 : ¬ (k : Int) < (k : Int) := by omega
          have hij : (i : Int) + (k : Int) < (M : Int) + (k : Int) := by omega
          have hij0 : 0 ≤ (i : Int) + (k : Int) := by omega
          have HPT := hide hpt
          have hnn : (((M + k : Nat)) : Int) = (M : Int) + (k : Int) := by omega
          clear hcl hT hpt hz hg
          go_wp2
          go_region
          go_wp2
          go_roundw
          case rel => exact ⟨_, i + 1, by go_num, by omega, by simpa using ho, hl1, HT2, unhide HPT _⟩
          case measure => simp [intOf]; omega
    · have hiM : i = M := by omega
      have hV' := unhide hV
      rw [List.take_of_length_le (by rw [← unhide HM]; omega), unhide HS] at hV'
      have hi1 : ¬ (i : Int) < (M : Int) := by omega
      have hlen : out.length ≤ 1000000 := by omega
      clear hcl hV
      go_wp2_with fail
      refine (norm_spec wr hg.row hlo hlen).mono ?_
      rintro e wn ⟨v', rfl, rn, kn⟩
      rw [hV'] at rn
      obtain ⟨t1, t2, t3, t4⟩ := hg.tail kn rn
      obtain ⟨a', c', rfl, -, -, -⟩ := rn
      have k9 := (unhide KK).trans t3
      have r9 := t4.wider (lo' := w.heap.size) (by have := unhide H1; omega) (Nat.le_refl _)
      have K9 := hide k9
      have R9 := hide r9
      clear k9 r9 t3 t4 hg hb1 hb2
      go_wp2
      exact bodyPost_ret (v := .agg #[.slice a' (limbs S.toNat).length c']) (by simp [results, Tryz.results221, go_sem, t1]) rfl ⟨_, rfl, unhide R9, unhide K9⟩

end Go.Proofs.YthahoabkehcgbaaGreatDoor

namespace Go.Proofs.YthahoabkehcgbaaGreatDoor
open Go.RowKit
set_option linter.unusedVariables false

/-- Every number of the list lies in 0 .. B. -/
def Bnd (B : Int) (zs : List Int) : Prop := ∀ k, 0 ≤ zs.getD k 0 ∧ zs.getD k 0 ≤ B
theorem getD_set_ne (zs : List Int) (i j : Nat) (z : Int) (h : i ≠ j) : (zs.set j z).getD i 0 = zs.getD i 0 := by
  simp only [List.getD, List.getElem?_set]
  rw [if_neg (fun e => h e.symm)]
theorem getD_set_eq (zs : List Int) (i : Nat) (z : Int) (h : i < zs.length) : (zs.set i z).getD i 0 = z := by rw [getD_set _ _ _ _ h, if_pos rfl]
theorem Bnd.zeros (n : Nat) : Bnd 0 (List.replicate n 0) := fun k => by
  simp only [List.getD, List.getElem?_replicate]
  split <;> simp
theorem Bnd.set {B B' : Int} {zs : List Int} (h : Bnd B zs) (hB : B ≤ B') (j : Nat) (hj : j < zs.length) {z : Int} (h0 : 0 ≤ z) (h1 : z ≤ B') : Bnd B' (zs.set j z) := fun k => by
  by_cases e : k = j
  · subst e; rw [getD_set_eq _ _ _ hj]; exact ⟨h0, h1⟩
  · rw [getD_set_ne _ _ _ _ e]; have := h k; omega
theorem Bnd.more {B B' : Int} {zs : List Int} (h : Bnd B zs) (hB : B ≤ B') : Bnd B' zs := fun k => by have := h k; omega
end Go.Proofs.YthahoabkehcgbaaGreatDoor

namespace Go.Proofs.YthahoabkehcgbaaGreatDoor
open Go.RowKit
set_option linter.unusedVariables false

theorem shl_limb {D E x : Int} (hD : 0 < D) (hE : D * E = 65536) (hx : 0 ≤ x ∧ x ≤ 65535) : 0 ≤ x * D % 65536 ∧ x * D % 65536 ≤ 65536 - D ∧ 0 ≤ x * D / 65536 ∧ x * D / 65536 ≤ D - 1 ∧ x * D ≤ 65535 * D := by
  have hE0 : 0 < E := by
    rcases Int.lt_or_le 0 E with h | h
    · exact h
    · have : D * E ≤ 0 := Int.mul_nonpos_of_nonneg_of_nonpos (by omega) h
      omega
  have e1 : x * D % 65536 = x % E * D := by rw [← hE, Int.mul_comm D E, Int.mul_comm x D, Int.mul_comm E D, Int.mul_emod_mul_of_pos _ _ hD, Int.mul_comm]
  have e2 : x * D / 65536 = x / E := by rw [← hE, Int.mul_comm x D, Int.mul_ediv_mul_of_pos _ _ hD]
  have h1 := Int.emod_nonneg x (show E ≠ 0 by omega)
  have h2 := Int.emod_lt_of_pos x hE0
  have h3 : x % E * D ≤ (E - 1) * D := Int.mul_le_mul_of_nonneg_right (by omega) (by omega)
  have h4 : (E - 1) * D = 65536 - D := by rw [Int.sub_mul, Int.mul_comm E D, hE, Int.one_mul]
  have h5 : x / E < D := Int.ediv_lt_of_lt_mul hE0 (by omega)
  have h6 : 0 ≤ x / E := Int.ediv_nonneg hx.1 (by omega)
  have h7 : 0 ≤ x % E * D := Int.mul_nonneg h1 (by omega)
  have h8 : x * D ≤ 65535 * D := Int.mul_le_mul_of_nonneg_right hx.2 (by omega)
  rw [e1, e2]
  omega

/-- One limb more is put in. -/
theorem shl_put (zs xs : List Int) (q i : Nat) (D x : Int) (hi : i < xs.length) (hl : q + i + 1 < zs.length) (hx : xs.getD i 0 = x) (h1 : zs.getD (q + i + 1) 0 = 0) (h : val zs = 65536 ^ q * (val (xs.take i) * D)) :
    val ((zs.set (q + i) (zs.getD (q + i) 0 + x * D % 65536)).set (q + i + 1) (x * D / 65536)) = 65536 ^ q * (val (xs.take (i + 1)) * D) := by
  have e0 : (zs.set (q + i) (zs.getD (q + i) 0 + x * D % 65536)).getD (q + i + 1) 0 = 0 := by rw [getD_set_ne _ _ _ _ (by omega)]; exact h1
  rw [val_set _ _ _ (by rw [List.length_set]; exact hl), e0, val_set _ _ _ (by omega), h, val_take_succ xs i hi, hx]
  have e1 : zs.getD (q + i) 0 + x * D % 65536 - zs.getD (q + i) 0 = x * D % 65536 := by omega
  have e2 : x * D % 65536 + 65536 * (x * D / 65536 - 0) = x * D := by omega
  rw [e1, Int.pow_succ, Int.add_assoc]
  have key : ∀ P A B : Int, P * A + P * 65536 * B = P * (A + 65536 * B) := fun P A B => by rw [Int.mul_add, Int.mul_assoc]
  rw [key, e2, Int.add_mul, Int.mul_add, Int.pow_add, Int.mul_assoc (65536 ^ i), Int.mul_assoc (65536 ^ q)]
theorem shl_total (xs : List Int) (h : Lim xs) (q s : Nat) : (65536 ^ q * (val xs * ((2 ^ s : Nat) : Int)) : Int) = (((val xs).toNat * 2 ^ (16 * q + s) : Nat) : Int) := by
  obtain ⟨u, eu⟩ : ∃ u : Nat, val xs = u := ⟨(val xs).toNat, by have := val_nonneg h; omega⟩
  rw [eu, Int.toNat_natCast, pow_limb, Nat.pow_add, ← Int.natCast_mul, ← Int.natCast_mul, Nat.mul_left_comm]

end Go.Proofs.YthahoabkehcgbaaGreatDoor

