/-
  The contract of the program's divideAt.
-/
import Derived.Test.YtpeaghaojfbbnaaIDiv2
namespace Go.Proofs.Ytpeaghaojfbbnaa
open Go.RowKit
set_option linter.unusedVariables false
set_option maxRecDepth 8000
set_option linter.unusedSimpArgs false

/-- qs is what is left of zs when the divisor is taken off at the place p as often as it goes in. -/
structure DivAt (b : Nat) (w w' : World) (g gb : Nat) (v : Value) (zs qs ys : List Int) (p : Nat) : Prop where
  num : Num b w' g v qs
  len : qs.length = zs.length
  lim : Lim qs
  sum : val qs = val zs - val (zs.drop p) / val ys * (65536 ^ p * val ys)
  md : Mod (fun i => i = gb) w w'

set_option maxHeartbeats 8000000 in
theorem divideAt_impl {b b2 g1 g2 gb L cap p : Nat} {v2 : Value} {zs ys : List Int} (w : World) (n1 : Num b w g1 (.slice (some ⟨gb, 0, none⟩) L cap) zs) (n2 : Num b2 w g2 v2 ys) (h1 : gb ≠ g2) (h2 : v2.ownBlock ≠ some gb)
    (hL : zs.length = L) (hp : p + ys.length < L) (nL : L ≤ 200000) (hz : Lim zs) (hy : Nrm ys) (hne : ys ≠ []) (hR : val (zs.drop p) < 65536 * val ys) :
    Calls Try.prog 44 #[.pointer (some ⟨g1, 0, none⟩), .pointer (some ⟨g2, 0, none⟩), .int .i64 (p : Int)] w fun e w' => e = .returned (.int .i64 (val (zs.drop p) / val ys)) ∧ ∃ qs, DivAt b w w' g1 gb (.slice (some ⟨gb, 0, none⟩) L cap) zs qs ys p := by
  obtain ⟨M, hM⟩ : ∃ M, M = ys.length := ⟨_, rfl⟩
  have hM0 : 0 < M := by rw [hM]; exact List.length_pos_iff.2 hne
  obtain ⟨a2, c2, hv2⟩ := n2.form
  rw [← hM] at hv2
  subst hv2
  obtain ⟨gy, oy, ey, cy⟩ := (row_cell n2.row).2.2.2 (M - 1) (by omega)
  cases ey
  have hgy : gy ≠ gb := fun e => h2 (by simp [Value.ownBlock, e])
  have hgb : gb ≠ g1 := fun e => n1.apart (by simp [Value.ownBlock, e])
  have hY : 0 < val ys := by
    have e1 := nrm_pow hy hne
    have : (0 : Int) < 65536 ^ (ys.length - 1) := Int.pow_pos (by decide)
    omega
  have hYM := val_lt hy.1
  rw [← hM] at hYM
  have h0 : val (zs.drop (p + ys.length + 1)) = 0 := above_zero hz (by omega) (by rw [Int.pow_succ, ← hM]; omega)
  have hgs := guess_ok hz hy hne (by omega) h0
  rw [← hM] at hgs h0 hp
  have hlast : 0 < ys.getD (M - 1) 0 := by
    have h1 := hy.1.at (M - 1)
    have hl : ys.length - 1 < ys.length := by omega
    have h2 := hy.2 (ys.getD (M - 1) 0) (by rw [hM, List.getLast?_eq_getElem?]; simp [List.getD, hl])
    omega
  have hly := (hy.1.at (M - 1)).2
  obtain ⟨gt, capt, et, xt, ft, -⟩ := n1.at (p + M) (by omega)
  have eg : gb = gt := by simp at et; exact et.1
  subst eg
  clear et
  obtain ⟨gt, capt, et, xu, fu, -⟩ := n1.at (p + M - 1) (by omega)
  have eg : gb = gt := by simp at et; exact et.1
  subst eg
  clear et
  have ht0 := hz.at (p + M)
  have hu0 := hz.at (p + M - 1)
  have hR0 := val_nonneg (hz.drop p)
  obtain ⟨q, hq⟩ : ∃ q : Nat, (q : Int) = val (zs.drop p) / val ys := ⟨(val (zs.drop p) / val ys).toNat, by have := Int.ediv_nonneg hR0 (Int.le_of_lt hY); omega⟩
  rw [← hq] at hgs
  have hq6 : q ≤ 65535 := by
    have : val (zs.drop p) / val ys < 65536 := Int.ediv_lt_of_lt_mul hY (by omega)
    omega
  rw [← hq]
  generalize hT : zs.getD (p + M) 0 = T at *
  generalize hU : zs.getD (p + M - 1) 0 = U at *
  generalize hyv : ys.getD (M - 1) 0 = y at *
  have hH : 0 ≤ T * 65536 + U ∧ T * 65536 + U ≤ 4294967295 := by omega
  have hdv : (T * 65536 + U).tdiv y = (T * 65536 + U) / y := by rw [Int.tdiv_eq_ediv_of_nonneg (by omega)]
  have hdv0 : 0 ≤ (T * 65536 + U) / y := Int.ediv_nonneg (by omega) (by omega)
  have hdv1 : (T * 65536 + U) / y ≤ 4294967295 := Int.le_trans (Int.ediv_le_self _ (by omega)) (by omega)
  have hy0 : (y == 0) = false := beq_eq_false_iff_ne.2 (by omega)
  have hi1 : (p : Int) + (M : Int) < (L : Int) := by omega
  have hi2 : (p : Int) + (M : Int) - 1 < (L : Int) := by omega
  have hi3 : 0 ≤ (p : Int) + (M : Int) - 1 := by omega
  have hi4 : 0 ≤ (p : Int) + (M : Int) := by omega
  have hi5 : (M : Int) - 1 < (M : Int) := by omega
  have hi6 : 0 ≤ (M : Int) - 1 := by omega
  have e1 : ((p : Int) + (M : Int)).toNat = p + M := by omega
  have e2 : ((p : Int) + (M : Int) - 1).toNat = p + M - 1 := by omega
  have e3 : ((M : Int) - 1).toNat = M - 1 := by omega
  have c1 := n1.cell
  have c2' := n2.cell
  have N1 := hide n1
  have N2 := hide n2
  have HM := hide hM
  have HT := hide hT
  have HL := hide hL
  have H0 := hide h0
  have HQ := hide hq
  have HGS := hide hgs
  clear n1 n2 hM hT hU hyv hL h0 hq hgs hM0
  go_enter Try.func44, Try.ntmps44
  go_wp2
  go_quiet (fail)
  go_wp2
  go_quiet (fail)
  go_wp2_with fail
  obtain ⟨G, hG⟩ : ∃ G : Nat, min ((T * 65536 + U) / y) 65535 = (G : Int) := ⟨(min ((T * 65536 + U) / y) 65535).toNat, by omega⟩
  have hGq : q ≤ G ∧ G ≤ 65535 := by have := unhide HGS; omega
  rw [hG]
  clear hG HGS hdv hdv0 hdv1 hy0 hH xt xu ft fu cy hlast hly c1 c2' hi2 hi3 hi5 hi6 e2 e3
  refine (addTimes_impl _ ((unhide N1).kept ((Kept.refl 0 0 w).drewN _)) ((unhide N2).kept ((Kept.refl 0 0 w).drewN _)) h1 h2 (unhide HL) (by rw [← unhide HM]; exact hp) nL hy.1 (fun j _ _ => hz.at j) (by have := hz.at (p + ys.length); omega) (-(G : Int)) (by omega) (by omega)).mono ?_
  rintro e w3 ⟨⟨r3, rfl⟩, qs3, A3⟩
  have W3 := (win_start (m := ys.length) hz).added A3 (by have := unhide HL; have := unhide HM; omega)
  rw [show val (zs.drop p) + -(G : Int) * val ys = val (zs.drop p) - (G : Int) * val ys from by rw [Int.neg_mul]; omega] at W3
  have HW3 := hide W3
  have HN3 := hide A3.num
  have HM3 := hide (((Kept.refl 0 0 w).drewN _).toMod.trans A3.md)
  clear W3 A3
  go_wp2_with fail
  go_loopw [9] (fun gg wr => ∃ (g : Nat) (qs : List Int), gg = .int .i64 (g : Int) ∧ q ≤ g ∧ g ≤ 65535 ∧ Hid (Win zs qs p ys.length (val (zs.drop p) - (g : Int) * val ys)) ∧ Num b wr g1 (.slice (some ⟨gb, 0, none⟩) L cap) qs ∧ Mod (fun i => i = gb) w wr) (fun gg _ => (intOf gg).toNat)
  case atStart => exact ⟨G, qs3, rfl, hGq.1, hGq.2, HW3, unhide HN3, unhide HM3⟩
  case round =>
    clear HW3 HN3 HM3
    obtain ⟨g, qs, rfl, hg0, hg1, hW, n, md⟩ := hrel
    have hlen : qs.length = L := (unhide hW).len.trans (unhide HL)
    obtain ⟨lo, hlo0, hlo1, hlo2⟩ := (unhide hW).top (by have := unhide HL; have := unhide HM; omega) (by rw [← unhide HM]; exact unhide H0)
    rw [← unhide HM] at hlo1 hlo2
    have hP : (0 : Int) < 65536 ^ M := Int.pow_pos (by decide)
    have hgY : (g : Int) * val ys ≤ 65535 * val ys := Int.mul_le_mul_of_nonneg_right (by omega) (by omega)
    have hgY0 : 0 ≤ (g : Int) * val ys := Int.mul_nonneg (by omega) (by omega)
    have htr := top_range hP hlo0 hlo1 hlo2 (by omega) (by omega)
    have htn := top_neg hP hlo0 hlo1 hlo2
    have hqv := unhide HQ
    obtain ⟨gt, capt, et, xt, ft, -⟩ := n.at (p + M) (by omega)
    have eg : gb = gt := by simp at et; exact et.1
    subst eg
    clear et
    have c1 := n.cell
    have HTR : Hid (∀ z, qs.getD (p + M) 0 = z → -1099511627776 ≤ z ∧ z ≤ 1099511627776) := fun z e => by rw [← e]; omega
    generalize hT' : qs.getD (p + M) 0 = T' at *
    by_cases hneg : T' < 0
    · have hS : val (zs.drop p) - (g : Int) * val ys < 0 := htn.1 hneg
      have hgq : q + 1 ≤ g := by
        rcases Nat.lt_or_ge q g with h | h
        · exact h
        · exfalso
          have e1 : g = q := by omega
          have e2 := Int.ediv_mul_le (val (zs.drop p)) (show val ys ≠ 0 by omega)
          rw [← hqv] at e2
          rw [e1] at hS
          omega
      have HWW := hW
      have HNN := hide n
      have HMM := hide md
      have HT'' := hide hT'
      clear hW n md htr htn hlo2 hlo1 hlo0 hgY hgY0 hS hqv hT'
      go_wp2_with fail
      refine (addTimes_impl _ (unhide HNN) ((unhide N2).mod (unhide HMM) (fun e => h1 e.symm) (fun i e e' => h2 (by rw [e, e']))) h1 h2 hlen (by rw [← unhide HM]; exact hp) nL hy.1 (unhide HWW).mid (by rw [← unhide HM, unhide HT'']; exact unhide HTR T' rfl) 1 (by omega) (by omega)).mono ?_
      rintro e w5 ⟨⟨r5, rfl⟩, qs5, A5⟩
      have W5 := (unhide HWW).added A5 (by have := unhide HL; have := unhide HM; omega)
      obtain ⟨g', rfl⟩ : ∃ g', g = g' + 1 := ⟨g - 1, by omega⟩
      rw [show val (zs.drop p) - ((g' + 1 : Nat) : Int) * val ys + 1 * val ys = val (zs.drop p) - (g' : Int) * val ys from by rw [Int.natCast_add, Int.add_mul]; simp; omega] at W5
      have HW5 := hide W5
      have HN5 := hide A5.num
      have HM5 := hide ((unhide HMM).trans A5.md)
      clear W5 A5 HWW HNN HMM HT'' xt ft c1 HTR
      go_wp2
      go_roundw
      case rel => exact ⟨g', qs5, by go_num, by omega, by omega, HW5, unhide HN5, unhide HM5⟩
      case measure => simp [intOf]
    · have hS : 0 ≤ val (zs.drop p) - (g : Int) * val ys := by
        rcases Int.lt_or_le (val (zs.drop p) - (g : Int) * val ys) 0 with h | h
        · exact absurd (htn.2 h) hneg
        · exact h
      have hgq : g = q := by
        have e1 : (g : Int) ≤ val (zs.drop p) / val ys := (Int.le_ediv_iff_mul_le hY).2 (by omega)
        rw [← hqv] at e1
        omega
      subst hgq
      have hSY : val (zs.drop p) - (g : Int) * val ys < val ys := by
        have e1 := Int.mul_ediv_add_emod (val (zs.drop p)) (val ys)
        have e2 := Int.emod_lt_of_pos (val (zs.drop p)) hY
        rw [← hqv, Int.mul_comm] at e1
        omega
      have hD : DivAt b w wr g1 gb (.slice (some ⟨gb, 0, none⟩) L cap) zs qs ys p := by
        have e1 := unhide HM
        have e2 := unhide HL
        have W := unhide hW
        refine ⟨n, W.len, W.done hz (by omega) (by rw [← e1]; exact unhide H0) hS (by rw [← e1]; omega), ?_, md⟩
        have a1 := val_take_drop qs p (by omega)
        have a2 := val_take_drop zs p (by omega)
        rw [W.win, take_same W.len p (fun j h => W.out j (.inl h))] at a1
        rw [a1, a2, ← hqv, Int.mul_sub]
        have : (65536 : Int) ^ p * ((g : Int) * val ys) = (g : Int) * (65536 ^ p * val ys) := by rw [← Int.mul_assoc, Int.mul_comm (65536 ^ p) (g : Int), Int.mul_assoc]
        omega
      have HD := hide hD
      clear hD hW n md htr htn hlo2 hlo1 hlo0 hgY hgY0 hS hSY hqv hT' HTR
      go_wp2_with fail
      go_ret
      exact ⟨rfl, _, unhide HD⟩

end Go.Proofs.Ytpeaghaojfbbnaa
