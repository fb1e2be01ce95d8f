/-
  Lists of limbs that are made and written; the contract of the model's l2small.
-/
import Derived.Test.YtdhponfpikclhaaNat6
import Derived.OwnWalk
namespace Go.Proofs.Ytdhponfpikclhaa
open Go.RowKit
set_option linter.unusedVariables false
set_option maxRecDepth 8000

theorem Grow.cell {b : Nat} {w wr : World} {g n c : Nat} {zs : List Int} (h : Grow b w wr (.slice (some ⟨g, 0, none⟩) n c) zs) (j : Nat) (hj : j < zs.length) :
    wr.cell? ⟨g, j, none⟩ = some (.int .i64 (zs.getD j 0)) ∧ wr.frozen? ⟨g, j, none⟩ = false ∧ b < g ∧ n = zs.length := by
  have h1 := h.1
  obtain ⟨a', c', e⟩ := own_slice h1
  simp only [Value.slice.injEq] at e
  obtain ⟨rfl, rfl, rfl⟩ := e
  have h2 := own_cell h1 j hj
  obtain ⟨g', cap', e', hb, -⟩ := own_form h1 (by omega)
  cases e'
  exact ⟨h2.1, h2.2, hb, rfl⟩
theorem Grow.put {b : Nat} {w wr : World} {g n c : Nat} {zs : List Int} (h : Grow b w wr (.slice (some ⟨g, 0, none⟩) n c) zs) (j : Nat) (hj : j < zs.length) (z : Int) :
    Grow b w (wr.setCell ⟨g, j, none⟩ (.int .i64 z)) (.slice (some ⟨g, 0, none⟩) n c) (zs.set j z) := by
  obtain ⟨-, -, hbg, rfl⟩ := h.cell j hj
  obtain ⟨h1, h2, h3, h4, h5, h6⟩ := h
  refine ⟨own_set h1 j z, h2, by rw [size_set]; exact h3, h4.setNew (p := ⟨g, j, none⟩) (by show _ ≤ g; omega) _, ?_, ?_⟩
  · rw [cell_far _ _ _ _ _ (show b ≠ g by omega)]; exact h5
  · rw [frozen_set]; exact h6

/-- A list of noughts is made. -/
theorem wpList_made {ops : Array Oper} {rest : List Oper} {o : Oper} {a : Act} {Q : Exit → Act → World → Prop} {b : Nat} {w wr : World} (hgd : o.guard = none) (l c : Operand)
    (ho : o.op = Op.makeSlice 24 l c) (L C : Int) (n : Nat) (hl : a.eval l = .int .i64 L) (hc : a.eval c = .int .i64 C) (hL : L = (n : Int)) (hC : C = (n : Int)) (hn : n ≤ 1000000)
    (hg : Grow b w wr (.slice none 0 0) [])
    (h : ∀ g w', Grow b w w' (.slice (some ⟨g, 0, none⟩) n n) (List.replicate n 0) → wpList Try.prog ops Q rest (a.put o.dst (.slice (some ⟨g, 0, none⟩) n n)) w') : wpList Try.prog ops Q (o :: rest) a wr := by
  obtain ⟨i0, hi0, hz0, hz1, hz2⟩ := info_parts Try.info3'
  obtain ⟨h1, h2, h3, h4, h5, h6⟩ := hg
  refine wpList_make_full wr hgd l c 24 ho (b + 1) 3 i0 (.int .i64 0) 1 Try.underlying24 hi0 hz0 hz1 .i64 .i64 L C n hl hc hL hC (by rw [hz2]; omega) (by unfold maxLen; omega) h3 ?_
  intro w' hown hgrow
  rw [made_zero] at hown
  have hk : Kept 0 0 wr w' := ⟨hgrow.os, hgrow.tape, hgrow.output, hgrow.size, fun i hi _ => hgrow.block i hi (by simp)⟩
  have hb := hk.block b h3 (by omega)
  refine h _ w' ⟨by simpa using hown, h2, Nat.lt_of_lt_of_le h3 hk.size, h4.trans hk, ?_, ?_⟩
  · rw [← h5]; exact World.cell?_of_block hb
  · simpa [World.frozen?, hb] using h6

theorem set_drop (out : List Int) (j : Nat) (q : Int) (h : j < out.length) : val ((out.set j q).drop j) = q + 65536 * val (out.drop (j + 1)) := by
  rw [val_drop, getD_set _ _ _ _ h, if_pos rfl, List.drop_set_of_lt (by omega)]
theorem div_unique {A Q d r : Int} (hd : 0 < d) (h : A = Q * d + r) (h0 : 0 ≤ r) (h1 : r < d) : A / d = Q ∧ A % d = r := by
  have e1 : A / d = Q := by
    rw [h, Int.add_comm, Int.add_mul_ediv_right _ _ (by omega), Int.ediv_eq_zero_of_lt h0 h1]; omega
  have e2 := Int.mul_ediv_add_emod A d
  rw [e1] at e2
  refine ⟨e1, ?_⟩
  have : d * Q = Q * d := Int.mul_comm _ _
  omega

set_option maxHeartbeats 4000000 in
theorem small_spec {bw : Bool} {lo hi : Nat} {v : Value} {xs : List Int} (w : World) (r : Row .i64 bw lo hi w v xs) (hx : Lim xs) (nx : xs.length ≤ 100000) (d : Int) (hd0 : 0 < d) (hd1 : d ≤ 65536) :
    Calls Try.prog 155 #[.agg #[v], .int .i64 d] w fun e w' => ∃ v', e = .returned (.tuple #[.agg #[v'], .int .i64 (val xs % d)]) ∧ Row .i64 true w.heap.size w'.heap.size w' v' (limbs (val xs / d).toNat) ∧ Kept 0 0 w w' := by
  have rr := r
  obtain ⟨M, hM⟩ : ∃ M, M = xs.length := ⟨_, rfl⟩
  obtain ⟨a1, c1, e1, q1, m1, q3⟩ := r
  rw [← hM] at e1 q1 nx
  subst e1
  unfold maxLen at m1
  clear q3
  have HM := hide hM
  have k1 := ((Kept.refl 0 0 w).alloc (.cells #[.slice a1 M c1] 26))
  have hat1 := (row_cell (rr.kept k1 (by omega))).2.2.2
  rw [← hM] at hat1
  have hs1 : (w.alloc (.cells #[.slice a1 M c1] 26)).heap.size = w.heap.size + 1 := by simp
  have hb1 : (w.alloc (.cells #[.slice a1 M c1] 26)).cell? ⟨w.heap.size, 0, none⟩ = some (.slice a1 M c1) := new_cell_at _ _ _ _ rfl
  have k2 := (Kept.refl 0 0 (w.alloc (.cells #[.slice a1 M c1] 26))).alloc (.cells #[.slice none 0 0] 26)
  have hg0 := Grow.start (b := w.heap.size + 1) (Nat.le_of_eq hs1) (by simp) k2 (new_cell_at _ _ _ _ hs1.symm) (new_loose _ _ _ _ hs1.symm)
  generalize hS : val xs = S
  have HS := hide hS
  clear rr hM hS k2
  have KK := hide k1
  have H1 := hide hs1
  have HB1 := hide hb1
  have HG := hide hg0
  have HA1 := hide hat1
  clear k1 hs1 hb1 hg0 hat1
  have hn : M ≤ 1000000 := by omega
  go_enter Try.func155, Try.ntmps155
  go_wp2_with (at_make; refine wpList_made rfl _ _ rfl _ _ M rfl rfl rfl rfl hn (unhide HG) ?_)
  intro g w2 hg1
  have HG1 := hide hg1
  have hb1 : w2.cell? ⟨w.heap.size, 0, none⟩ = some (.slice a1 M c1) := by
    rw [← unhide HB1]; exact World.cell?_of_block (hg1.2.2.2.1.block w.heap.size (by simp) (by omega))
  clear hg1
  generalize (w.alloc (.cells #[.slice a1 M c1] 26)) = W0 at *
  go_wp2
  clear hb1
  go_loopw [7, 8] (fun rr ii wr => ∃ (out : List Int) (q : Int) (k : Nat), rr = .int .i64 q ∧ ii = .int .i64 ((k : Int) - 1) ∧ 0 ≤ q ∧ q < d ∧ k ≤ M ∧ out.length = M ∧ Lim out ∧ Hid (val (xs.drop k) = val (out.drop k) * d + q) ∧ Grow (w.heap.size + 1) W0 wr (.slice (some ⟨g, 0, none⟩) M M) out) (fun _ ii _ => (intOf ii + 1).toNat)
  case atStart => exact ⟨List.replicate M 0, 0, M, rfl, rfl, by omega, by omega, Nat.le_refl _, by simp, Lim.zeros M, by have := unhide HM; show _ = _; rw [drop_end _ _ (by omega), drop_end _ _ (by simp)]; omega, unhide HG1⟩
  case round =>
    obtain ⟨out, q, k, rfl, rfl, hq0, hq1, hk, ho, hlo, hS, hg⟩ := hrel
    have hkk := hg.2.2.2.1
    have hcl : ∀ (a : Addr) u, W0.cell? a = some u → wr.cell? a = some u := fun a u h => by
      rw [← h]; exact World.cell?_of_block (hkk.block a.block (World.block_lt_of_cell? _ _ h) (by omega))
    have hb1 := hcl _ _ (unhide HB1)
    clear hkk
    by_cases h0 : k = 0
    · subst h0
      have hS' := unhide hS
      simp only [List.drop_zero] at hS'
      rw [unhide HS] at hS'
      obtain ⟨eq1, eq2⟩ := div_unique hd0 hS' hq0 hq1
      have EQ2 := hide eq2
      clear hcl hS' eq2
      go_wp2_with fail
      refine (norm_spec wr hg.row hlo (by omega)).mono ?_
      rintro e wn ⟨v', rfl, rn, kn⟩
      rw [← eq1] at rn
      obtain ⟨t1, t2, t3, t4⟩ := hg.tail kn rn
      obtain ⟨a', c', rfl, -, -, -⟩ := rn
      have k9 := (unhide KK).trans t3
      have r9 := t4.wider (lo' := w.heap.size) (by have := unhide H1; omega) (Nat.le_refl _)
      have K9 := hide k9
      have R9 := hide r9
      clear k9 r9 t3 t4 hg hb1 eq1
      go_wp2
      exact bodyPost_ret (v := .tuple #[.agg #[.slice a' (limbs (S / d).toNat).length c'], .int .i64 q]) (by simp [results, Try.results155, go_sem, t1]) rfl ⟨_, by rw [unhide EQ2], unhide R9, unhide K9⟩
    · obtain ⟨j, rfl⟩ : ∃ j, k = j + 1 := ⟨k - 1, by omega⟩
      obtain ⟨g1, o1, rfl, x1⟩ := unhide HA1 j (by omega)
      replace x1 := hcl _ _ x1
      have hx0 := hx.at j
      have hd := val_drop xs j
      obtain ⟨s1, s2, s3, s4⟩ := small_step _ (xs.getD j 0) d q (val (out.drop (j + 1))) _ hd0 hd (unhide hS) hq0 hq1 hx0.1
      have s5 := small_lt (xs.getD j 0) d q hq1 hq0 hd0 hx0.2
      obtain ⟨y1, y2, y3, -⟩ := hg.cell j (by omega)
      have e1 : ((j + 1 : Nat) : Int) - 1 = j := by omega
      rw [e1]
      have hj1 : (j : Int) < (M : Int) := by omega
      generalize xs.getD j 0 = a at *
      have hxx : 0 ≤ q * 65536 + a ∧ q * 65536 + a ≤ 4294967296 := by omega
      have et : (q * 65536 + a).tmod d = (q * 65536 + a) % d := by rw [Int.tmod_eq_emod_of_nonneg (by omega)]
      have ed : (q * 65536 + a).tdiv d = (q * 65536 + a) / d := by rw [Int.tdiv_eq_ediv_of_nonneg (by omega)]
      have hdd : (d == 0) = false := beq_eq_false_iff_ne.2 (by omega)
      have hp := hg.put j (by omega) ((q * 65536 + a) / d)
      have sd := set_drop out j ((q * 65536 + a) / d) (by omega)
      have HST : Hid (val (xs.drop j) = val ((out.set j ((q * 65536 + a) / d)).drop j) * d + (q * 65536 + a) % d) := by show _ = _; rw [sd, s1]
      have HP := hide hp
      have hlim := hlo.set j s4 s5
      generalize hQ : (q * 65536 + a) / d = Q1 at *
      generalize hR : (q * 65536 + a) % d = R1 at *
      have hr1 : Q1 ≤ 4294967296 := by omega
      clear hd s1 sd hcl hp hQ hR
      go_wp2
      go_roundw
      case rel => exact ⟨out.set j Q1, R1, j, by first | rfl | go_num, by go_num, s2, s3, by omega, by simp [ho], hlim, HST, unhide HP⟩
      case measure => simp [intOf]

end Go.Proofs.Ytdhponfpikclhaa
