/-
  The contract of the model's l2mul.
-/
import Derived.Test.YtdhponfpikclhaaNat8
import Derived.Deep.QuietTactic
import Derived.BigQuiet
import Derived.RegionTactic
namespace Go.Proofs.Ytdhponfpikclhaa
open Go.RowKit
set_option linter.unusedVariables false
set_option maxRecDepth 8000

theorem top_zero {zs : List Int} (h : Lim zs) (j : Nat) (hv : val zs < 65536 ^ j) : zs.getD j 0 = 0 := by
  by_cases hj : j < zs.length
  · have e := val_take_drop zs j (by omega)
    have e2 := val_drop zs j
    have h1 := val_nonneg (h.take j)
    have h2 := val_nonneg (h.drop (j + 1))
    have h3 := h.at j
    have hp : (0 : Int) < 65536 ^ j := Int.pow_pos (by decide)
    rcases (show 0 < zs.getD j 0 ∨ zs.getD j 0 ≤ 0 from by omega) with hz | hz
    · have : (65536 : Int) ^ j * 1 ≤ 65536 ^ j * val (zs.drop j) := Int.mul_le_mul_of_nonneg_left (by omega) (by omega)
      omega
    · omega
  · simp [List.getD, List.getElem?_eq_none (show zs.length ≤ j from by omega)]
theorem take_mul_lt {xs ys : List Int} (hx : Lim xs) (hy : Lim ys) (i : Nat) (hi : i ≤ xs.length) : val (xs.take i) * val ys < 65536 ^ (i + ys.length) := by
  have h1 := val_lt (hx.take i)
  have h2 := val_lt hy
  have h3 := val_nonneg (hx.take i)
  have h4 := val_nonneg hy
  rw [List.length_take, Nat.min_eq_left hi] at h1
  rw [Int.pow_add]
  rcases (show 0 < val (xs.take i) ∨ val (xs.take i) ≤ 0 from by omega) with h | h
  · exact Int.lt_of_lt_of_le (Int.mul_lt_mul_of_pos_left h2 h) (Int.mul_le_mul_of_nonneg_right (by omega) (by omega))
  · have : val (xs.take i) = 0 := by omega
    rw [this, Int.zero_mul]
    exact Int.mul_pos (Int.pow_pos (by decide)) (Int.pow_pos (by decide))
theorem limb_mul {a b : Int} (ha : 0 ≤ a ∧ a ≤ 65535) (hb : 0 ≤ b ∧ b ≤ 65535) : 0 ≤ a * b ∧ a * b ≤ 4294836225 := by
  refine ⟨Int.mul_nonneg ha.1 hb.1, ?_⟩
  exact Int.le_trans (Int.mul_le_mul_of_nonneg_right ha.2 hb.1) (by omega)

set_option maxHeartbeats 4000000 in
theorem mul_spec {b1 b2 : Bool} {l1 h1 l2 h2 : Nat} {v1 v2 : Value} {xs ys : List Int} (w : World) (r1 : Row .i64 b1 l1 h1 w v1 xs) (r2 : Row .i64 b2 l2 h2 w v2 ys) (hx : Lim xs) (hy : Lim ys) (nx : xs.length ≤ 100000) (ny : ys.length ≤ 100000) :
    Calls Try.prog 98 #[.agg #[v1], .agg #[v2]] w fun e w' => ∃ v', e = .returned (.agg #[v']) ∧ Row .i64 true w.heap.size w'.heap.size w' v' (limbs (val xs * val ys).toNat) ∧ Kept 0 0 w w' := by
  have rr1 := r1
  have rr2 := r2
  obtain ⟨M, hM⟩ : ∃ M, M = xs.length := ⟨_, rfl⟩
  obtain ⟨N, hN⟩ : ∃ N, N = ys.length := ⟨_, rfl⟩
  obtain ⟨a1, c1, e1, q1, m1, q3⟩ := r1
  obtain ⟨a2, c2, e2, q2, m2, q4⟩ := r2
  rw [← hM] at e1 q1 nx
  rw [← hN] at e2 q2 ny
  subst e1 e2
  unfold maxLen at m1 m2
  clear q3 q4
  have HM := hide hM
  have HN := hide hN
  have k1 := (((Kept.refl 0 0 w).alloc (.cells #[.slice a1 M c1] 26)).alloc (.cells #[.slice a2 N c2] 26))
  have hat1 := (row_cell (rr1.kept k1 (by omega))).2.2.2
  have hat2 := (row_cell (rr2.kept k1 (by omega))).2.2.2
  rw [← hM] at hat1
  rw [← hN] at hat2
  have hs1 : ((w.alloc (.cells #[.slice a1 M c1] 26)).alloc (.cells #[.slice a2 N c2] 26)).heap.size = w.heap.size + 2 := by simp
  have hb1 : ((w.alloc (.cells #[.slice a1 M c1] 26)).alloc (.cells #[.slice a2 N c2] 26)).cell? ⟨w.heap.size, 0, none⟩ = some (.slice a1 M c1) := old_cell _ (new_cell_at _ _ _ _ rfl)
  have hb2 : ((w.alloc (.cells #[.slice a1 M c1] 26)).alloc (.cells #[.slice a2 N c2] 26)).cell? ⟨w.heap.size + 1, 0, none⟩ = some (.slice a2 N c2) := new_cell_at _ _ _ _ (by simp)
  have k2 := (Kept.refl 0 0 ((w.alloc (.cells #[.slice a1 M c1] 26)).alloc (.cells #[.slice a2 N c2] 26))).alloc (.cells #[.slice none 0 0] 26)
  have hg0 := Grow.start (b := w.heap.size + 2) (Nat.le_of_eq hs1) (by simp) k2 (new_cell_at _ _ _ _ hs1.symm) (new_loose _ _ _ _ hs1.symm)
  generalize hS : (val xs * val ys) = S
  have HS := hide hS
  clear rr1 rr2 hM hN hS k2
  have KK := hide k1
  have H1 := hide hs1
  have HB1 := hide hb1
  have HB2 := hide hb2
  have HG := hide hg0
  have HA1 := hide hat1
  have HA2 := hide hat2
  clear k1 hs1 hb1 hb2 hg0 hat1 hat2
  have hn : M + N ≤ 1000000 := by omega
  go_enter Try.func98, Try.ntmps98
  go_wp2_with (at_make; refine wpList_made rfl _ _ rfl _ _ (M + N) rfl rfl (Int.natCast_add M N).symm (Int.natCast_add M N).symm hn (unhide HG) ?_)
  intro g w2 hg1
  have HG1 := hide hg1
  have hb1 : w2.cell? ⟨w.heap.size, 0, none⟩ = some (.slice a1 M c1) := by
    rw [← unhide HB1]; exact World.cell?_of_block (hg1.2.2.2.1.block w.heap.size (by simp; omega) (by omega))
  clear hg1
  generalize ((w.alloc (.cells #[.slice a1 M c1] 26)).alloc (.cells #[.slice a2 N c2] 26)) = W0 at *
  go_wp2
  clear hb1
  go_loopw [6] (fun ii wr => ∃ (out : List Int) (i : Nat), ii = .int .i64 (i : Int) ∧ i ≤ M ∧ out.length = M + N ∧ Lim out ∧ Hid (val out = val (xs.take i) * val ys) ∧ Grow (w.heap.size + 2) W0 wr (.slice (some ⟨g, 0, none⟩) (M + N) (M + N)) out) (fun ii _ => M - (intOf ii).toNat)
  case atStart => exact ⟨List.replicate (M + N) 0, 0, rfl, Nat.zero_le _, by simp, Lim.zeros _, by show _ = _; rw [val_zeros]; simp [val], unhide HG1⟩
  case round =>
    obtain ⟨out, i, rfl, hi, ho, hlo, hV, hg⟩ := hrel
    have hkk := hg.2.2.2.1
    have hcl : ∀ (a : Addr) u, W0.cell? a = some u → wr.cell? a = some u := fun a u h => by
      rw [← h]; exact World.cell?_of_block (hkk.block a.block (World.block_lt_of_cell? _ _ h) (by omega))
    have hb1 := hcl _ _ (unhide HB1)
    have hb2 := hcl _ _ (unhide HB2)
    clear hkk
    by_cases hA : i < M
    · have hi1 : (i : Int) < (M : Int) := by omega
      have hz : out.getD (i + N) 0 = 0 := top_zero hlo _ (by rw [unhide hV, unhide HN]; exact take_mul_lt hx hy i (by rw [← unhide HM]; omega))
      have hx0 := hx.at i
      obtain ⟨g1, o1, rfl, x1⟩ := unhide HA1 i (by omega)
      have X1 := hide x1
      have HZ := hide hz
      have HG2 := hide hg
      have HV := hide hV
      have hts := val_take_succ xs i (by rw [← unhide HM]; omega)
      have HTS := hide hts
      generalize hva : xs.getD i 0 = va at *
      have HVA := hide hva
      clear hcl hz hV hva x1 hts
      go_wp2
      clear hg hb1 hb2
      go_loopw [7, 8] (fun cc kk wr => ∃ (out' : List Int) (c : Int) (k : Nat), cc = .int .i64 c ∧ kk = .int .i64 (k : Int) ∧ k ≤ N ∧ 0 ≤ c ∧ c ≤ 65535 ∧ out'.length = M + N ∧ Lim out' ∧ out'.getD (i + N) 0 = 0 ∧ Hid (val out' + 65536 ^ (i + k) * c = val (xs.take i) * val ys + 65536 ^ i * (va * val (ys.take k))) ∧ Grow (w.heap.size + 2) W0 wr (.slice (some ⟨g, 0, none⟩) (M + N) (M + N)) out') (fun _ kk _ => N - (intOf kk).toNat)
      case atStart => exact ⟨out, 0, 0, rfl, rfl, Nat.zero_le _, by omega, by omega, ho, hlo, unhide HZ, by show _ = _; rw [unhide (unhide HV)]; simp [val], unhide HG2⟩
      case round =>
        clear HG2 HZ HV ho hlo
        obtain ⟨out, c, k, rfl, rfl, hk, hc0, hc1, ho, hlo, hz, hT, hg⟩ := hrel
        have hkk := hg.2.2.2.1
        have hcl : ∀ (a : Addr) u, W0.cell? a = some u → wr.cell? a = some u := fun a u h => by
          rw [← h]; exact World.cell?_of_block (hkk.block a.block (World.block_lt_of_cell? _ _ h) (by omega))
        have hb1 := hcl _ _ (unhide HB1)
        have hb2 := hcl _ _ (unhide HB2)
        have x1 := hcl _ _ (unhide X1)
        clear hkk
        by_cases hB : k < N
        · obtain ⟨g2, o2, rfl, x2⟩ := unhide HA2 k (by omega)
          replace x2 := hcl _ _ x2
          have hy0 := hy.at k
          obtain ⟨y1, y2, y3, -⟩ := hg.cell (i + k) (by omega)
          have hT2 := mul_step out (i + k) (by omega) c va (ys.getD k 0) (out.getD (i + k) 0) _ rfl (unhide hT)
          have hks := val_take_succ ys k (by rw [← unhide HN]; omega)
          have hl0 := hlo.at (i + k)
          generalize hvb : ys.getD k 0 = vb at *
          have hp := limb_mul hx0 hy0
          have hi2 : (k : Int) < (N : Int) := by omega
          have hij : (i : Int) + (k : Int) < ((M + N : Nat) : Int) := by omega
          have hij0 : 0 ≤ (i : Int) + (k : Int) := by omega
          have hpt := fun n => (hg.drewN n).put (i + k) (by omega) ((out.getD (i + k) 0 + va * vb + c) % 65536)
          have hgs : (out.set (i + k) ((out.getD (i + k) 0 + va * vb + c) % 65536)).getD (i + N) 0 = 0 := by
            rw [getD_set _ _ _ _ (by omega), if_neg (by omega)]; exact hz
          have HT2 : Hid (val (out.set (i + k) ((out.getD (i + k) 0 + va * vb + c) % 65536)) + 65536 ^ (i + (k + 1)) * ((out.getD (i + k) 0 + va * vb + c) / 65536) = val (xs.take i) * val ys + 65536 ^ i * (va * val (ys.take (k + 1)))) := by
            show _ = _
            rw [show i + (k + 1) = i + k + 1 from rfl, hT2, hks, Int.mul_add va, Int.mul_add, Int.pow_add, Int.mul_assoc (65536 ^ i), Int.mul_left_comm va, Int.add_assoc]
          have hl1 := hlo.set (i + k) (x := (out.getD (i + k) 0 + va * vb + c) % 65536) (by omega) (by omega)
          generalize hvo : out.getD (i + k) 0 = vo at *
          have hX : 0 ≤ vo + va * vb + c ∧ vo + va * vb + c ≤ 4294967295 := by omega
          have hX1 : 0 ≤ vo + va * vb ∧ vo + va * vb ≤ 4294967295 := by omega
          have et : (vo + va * vb + c).tmod 65536 = (vo + va * vb + c) % 65536 := by rw [Int.tmod_eq_emod_of_nonneg (by omega)]
          have ed : (vo + va * vb + c).tdiv 65536 = (vo + va * vb + c) / 65536 := by rw [Int.tdiv_eq_ediv_of_nonneg (by omega)]
          have hdv : 0 ≤ (vo + va * vb + c) / 65536 ∧ (vo + va * vb + c) / 65536 ≤ 65535 := by omega
          have HPT := hide hpt
          have HGS := hide hgs
          have hnn : (((M + N : Nat)) : Int) = (M : Int) + (N : Int) := by omega
          clear hcl hT hT2 hks hpt hgs hz hvb hvo hg
          go_wp2
          go_quiet (fail)
          go_wp2
          go_roundw
          case rel => exact ⟨_, (vo + va * vb + c) / 65536, k + 1, by first | rfl | go_num, by go_num, by omega, hdv.1, hdv.2, by simpa using ho, hl1, unhide HGS, HT2, unhide HPT _⟩
          case measure => simp [intOf]; omega
        · have hkN : k = N := by omega
          subst hkN
          obtain ⟨y1, y2, y3, -⟩ := hg.cell (i + k) (by omega)
          rw [hz] at y1
          have hpt := fun n => (hg.drewN n).put (i + k) (by omega) c
          have hl1 := hlo.set (i + k) (x := c) hc0 hc1
          have HT2 : Hid (val (out.set (i + k) c) = val (xs.take (i + 1)) * val ys) := by
            show _ = _
            have e := unhide hT
            rw [List.take_of_length_le (Nat.le_of_eq (unhide HN).symm)] at e
            rw [val_set _ _ _ (by omega), hz, Int.sub_zero, e, unhide HTS, Int.add_mul, Int.mul_assoc]
          have hi2 : ¬ (k : Int) < (k : Int) := by omega
          have hij : (i : Int) + (k : Int) < (M : Int) + (k : Int) := by omega
          have hij0 : 0 ≤ (i : Int) + (k : Int) := by omega
          have HPT := hide hpt
          have hnn : (((M + k : Nat)) : Int) = (M : Int) + (k : Int) := by omega
          clear hcl hT hpt hz hg
          go_wp2
          go_region
          go_wp2
          go_roundw
          case rel => exact ⟨_, i + 1, by go_num, by omega, by simpa using ho, hl1, HT2, unhide HPT _⟩
          case measure => simp [intOf]; omega
    · have hiM : i = M := by omega
      have hV' := unhide hV
      rw [List.take_of_length_le (by rw [← unhide HM]; omega), unhide HS] at hV'
      have hi1 : ¬ (i : Int) < (M : Int) := by omega
      have hlen : out.length ≤ 1000000 := by omega
      clear hcl hV
      go_wp2_with fail
      refine (norm_spec wr hg.row hlo hlen).mono ?_
      rintro e wn ⟨v', rfl, rn, kn⟩
      rw [hV'] at rn
      obtain ⟨t1, t2, t3, t4⟩ := hg.tail kn rn
      obtain ⟨a', c', rfl, -, -, -⟩ := rn
      have k9 := (unhide KK).trans t3
      have r9 := t4.wider (lo' := w.heap.size) (by have := unhide H1; omega) (Nat.le_refl _)
      have K9 := hide k9
      have R9 := hide r9
      clear k9 r9 t3 t4 hg hb1 hb2
      go_wp2
      exact bodyPost_ret (v := .agg #[.slice a' (limbs S.toNat).length c']) (by simp [results, Try.results98, go_sem, t1]) rfl ⟨_, rfl, unhide R9, unhide K9⟩

end Go.Proofs.Ytdhponfpikclhaa
