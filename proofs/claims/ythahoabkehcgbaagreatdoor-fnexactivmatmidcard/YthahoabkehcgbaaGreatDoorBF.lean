/-
  Contracts that the proofs of this seat share: INat5, INat6, INat7, INat9, INat11, INat14, INat15, INat17.
-/
import Derived.Test.YthahoabkehcgbaaGreatDoorBC
import Derived.Test.YthahoabkehcgbaaGreatDoorBE
import Derived.Lib.Strings
import Derived.Lib.Slices
import Derived.Lib.Small
import Derived.Lib.Walk
import Derived.Lib.BitFns
import Derived.Deep.QuietTactic
import Derived.BigQuiet
import Derived.Deep.RegionHeld3
import Derived.BigRegion
import Derived.Test.YthahoabkehcgbaaGreatDoorBB
import Derived.Deep.RegionLaw
namespace Go.Proofs.YthahoabkehcgbaaGreatDoor
open Go.RowKit
set_option linter.unusedVariables false
set_option maxRecDepth 8000

theorem bitLen_eq : ∀ n : Nat, n < 65536 → Lib.bitLen n = bitsN n := by
  intro n
  induction n using Nat.strongRecOn with
  | ind n ih =>
    intro h
    by_cases h0 : n = 0
    · subst h0; rfl
    · rw [Lib.bitLen_half n h0 (by omega), bitsN_half n (by omega), ih (n / 2) (by omega) (by omega)]
      omega

theorem wrap64_id (n : Int) (h0 : -9223372036854775808 ≤ n) (h1 : n ≤ 9223372036854775807) : wrap64 n = n := by
  unfold wrap64
  omega
theorem tab_all : ∀ n : Fin 256, (Lib.len8tab.data.toList.getD n.val 0).toNat = bitsN n.val := by decide +kernel
theorem tab_size : Lib.len8tab.size = 256 := by decide +kernel
theorem tab_at (k : Nat) (h : k < Lib.len8tab.size) : (Lib.len8tab[k]'h).toNat = bitsN k := by
  have h' : k < 256 := by rw [← tab_size]; exact h
  have := tab_all ⟨k, h'⟩
  rw [← this]
  have hk : k < Lib.len8tab.data.size := h
  show (Lib.len8tab.data[k]'hk).toNat = _
  simp [List.getD, Array.getElem?_eq_getElem hk]

set_option maxRecDepth 100000 in
set_option maxHeartbeats 4000000 in
theorem len64_impl (x : Int) (w : World) (h0 : 0 ≤ x) (h1 : x ≤ 65535) :
    Calls Tryz.prog 236 #[.int .u64 x] w fun e w' => e = .returned (.int .i64 (bitsN x.toNat)) ∧ w' = w := by
  have n1 : ¬ (4294967296 ≤ x) := by omega
  have n2 : ¬ (65536 ≤ x) := by omega
  have hz := tab_size
  have HZ := hide hz
  by_cases hb : 256 ≤ x
  · have i1 : x / 256 < (Lib.len8tab.size : Int) := by omega
    have i2 : 0 ≤ x / 256 := by omega
    clear hz
    go_enter Tryz.func236, Tryz.ntmps236
    go_wp2
    go_ret
    refine ⟨congrArg Ending.returned (congrArg (Value.int IntKind.i64) ?_), rfl⟩
    rw [tab_at]
    have e : (x / 256).toNat = x.toNat / 256 := by omega
    have l : bitsN (x.toNat / 256) ≤ 8 := (bitsN_le _ 8).2 (by omega)
    have s := Lib.bitLen_shift8 x.toNat (by omega) (by omega)
    rw [bitLen_eq _ (by omega), bitLen_eq _ (by omega)] at s
    rw [e]
    have w1 : wrap64 ((bitsN (x.toNat / 256) : Nat) : Int) = (bitsN (x.toNat / 256) : Nat) := wrap64_id _ (by omega) (by omega)
    rw [w1, s]
    rw [wrap64_id _ (by omega) (by omega)]
    omega
  · have i1 : x < (Lib.len8tab.size : Int) := by omega
    clear hz
    go_enter Tryz.func236, Tryz.ntmps236
    go_wp2
    go_ret
    refine ⟨congrArg Ending.returned (congrArg (Value.int IntKind.i64) ?_), rfl⟩
    rw [tab_at]
    have l : bitsN x.toNat ≤ 8 := (bitsN_le _ 8).2 (by omega)
    have w1 : wrap64 ((bitsN x.toNat : Nat) : Int) = (bitsN x.toNat : Nat) := wrap64_id _ (by omega) (by omega)
    rw [w1, w1]

set_option maxHeartbeats 1000000 in
theorem len_impl (x : Int) (w : World) (h0 : 0 ≤ x) (h1 : x ≤ 65535) :
    Calls Tryz.prog 232 #[.int .u64 x] w fun e w' => e = .returned (.int .i64 (bitsN x.toNat)) ∧ w' = w := by
  go_enter Tryz.func232, Tryz.ntmps232
  go_wp2_with (go_at_call 236; refine (len64_impl _ _ (by omega) (by omega)).mono ?_; rintro e w' ⟨rfl, rfl⟩)
  go_ret
  exact ⟨rfl, rfl⟩

end Go.Proofs.YthahoabkehcgbaaGreatDoor

namespace Go.Proofs.YthahoabkehcgbaaGreatDoor
open Go.RowKit
set_option linter.unusedVariables false
set_option maxRecDepth 8000

/-- What a number's limbs stand for, if it is well made; else nought. -/
def numOf (zs : List Int) : Nat := if okB zs = true then (val zs).toNat else 0
theorem numOf_ok {zs : List Int} (h : okB zs = true) : numOf zs = (val zs).toNat := by unfold numOf; rw [if_pos h]
theorem numOf_bad {zs : List Int} (h : okB zs = false) : numOf zs = 0 := by unfold numOf; rw [if_neg (by simp [h])]

theorem Num.at {b g : Nat} {w : World} {v : Value} {zs : List Int} (h : Num b w g v zs) : ∀ j, j < zs.length → ∃ g1 c, v = .slice (some ⟨g1, 0, none⟩) zs.length c ∧ w.cell? ⟨g1, j, none⟩ = some (.int .i64 (zs.getD j 0)) ∧ w.frozen? ⟨g1, j, none⟩ = false ∧ g1 ≠ g := by
  intro j hj
  obtain ⟨g1, cap, hv, -⟩ := own_form h.own (by omega)
  subst hv
  have := own_cell h.own j hj
  exact ⟨g1, cap, rfl, this.1, this.2, fun e => h.apart (by simp [Value.ownBlock, e])⟩

set_option maxHeartbeats 1000000 in
theorem bitsM_impl {b g : Nat} {v : Value} {zs : List Int} (w : World) (h : Num b w g v zs) (hl : Nrm zs) (hlen : zs.length ≤ 1000000) :
    Calls Tryz.prog 222 #[.pointer (some ⟨g, 0, none⟩)] w fun e w' => e = .returned (.int .i64 (bitsN (val zs).toNat)) ∧ Kept 0 0 w w' := by
  have hc := h.cell
  obtain ⟨a1, c1, rfl⟩ := h.form
  by_cases h0 : zs = []
  · subst h0
    have e0 : bitsN (val []).toNat = 0 := rfl
    rw [e0]
    clear h
    go_enter Tryz.func222, Tryz.ntmps222
    go_wp2
    go_ret
    exact ⟨rfl, Kept.refl _ _ _⟩
  · have h1 : 0 < zs.length := List.length_pos_iff.2 h0
    obtain ⟨n, hn⟩ : ∃ n, zs.length = n + 1 := ⟨zs.length - 1, by omega⟩
    have htop : zs.getD n 0 ≠ 0 := hl.2 _ (by rw [List.getLast?_eq_getElem?, hn]; simp [List.getD, hn])
    have hb := hl.1.at n
    have e1 := bitsN_val hl.1 n hn (by omega)
    obtain ⟨g1, c', e', hx, -, -⟩ := h.at n (by omega)
    cases e'
    obtain ⟨t, et⟩ : ∃ t : Nat, zs.getD n 0 = t := ⟨(zs.getD n 0).toNat, by omega⟩
    rw [et] at hx e1 hb
    rw [Int.toNat_natCast] at e1
    have hne : (((n + 1 : Nat) : Int) == 0) = false := beq_eq_false_iff_ne.2 (by omega)
    have hbt : bitsN t ≤ 16 := (bitsN_le t 16).2 (by omega)
    have hm := h.row.len
    unfold maxLen at hm
    rw [e1]
    rw [hn] at hc hm hlen
    have hn' : n ≤ 999999 := by omega
    have ht5 : (t : Int) ≤ 65535 := hb.2
    have hlen1 := fun w => len_impl (t : Int) w (by omega) ht5
    rw [Int.toNat_natCast] at hlen1
    have hn1 : zs.length = n + 1 := hn
    generalize bitsN t = R at *
    have HL := hide hlen1
    have HN := hide hn1
    clear h hl e1 et htop h0 h1 hlen1 hn hn1 hb
    go_enter Tryz.func222, Tryz.ntmps222
    go_wp2_with (first
      | (go_at_call 232; refine (unhide HL _).mono ?_; rintro e w' ⟨rfl, rfl⟩)
      | go_in)
    go_ret
    exact ⟨by go_num, Kept.refl _ _ _⟩

set_option maxHeartbeats 1000000 in
theorem at_impl {b g : Nat} {v : Value} {zs : List Int} (w : World) (h : Num b w g v zs) (i : Nat) (hi : (i : Int) ≤ 9223372036854775807) :
    Calls Tryz.prog 204 #[.pointer (some ⟨g, 0, none⟩), .int .i64 i] w fun e w' => e = .returned (.int .i64 (zs.getD i 0)) ∧ w' = w := by
  have hc := h.cell
  have hm := h.row.len
  unfold maxLen at hm
  by_cases hlt : i < zs.length
  · obtain ⟨g1, c', rfl, hx, -, -⟩ := h.at i hlt
    have hlt' : (i : Int) < (zs.length : Int) := by omega
    generalize zs.getD i 0 = z at *
    clear h
    go_enter Tryz.func204, Tryz.ntmps204
    go_wp2
    go_ret
    exact ⟨rfl, rfl⟩
  · have e0 : zs.getD i 0 = 0 := by simp [List.getD, List.getElem?_eq_none (Nat.le_of_not_lt hlt)]
    rw [e0]
    have hlt' : ¬ (i : Int) < (zs.length : Int) := by omega
    obtain ⟨a1, c1, rfl⟩ := h.form
    clear h
    go_enter Tryz.func204, Tryz.ntmps204
    go_wp2
    go_ret
    exact ⟨rfl, rfl⟩

/-- The bit i of a number. -/
def bitAt (n : Nat) (i : Int) : Int := if i < 0 then 0 else ((n / 2 ^ i.toNat % 2 : Nat) : Int)

set_option maxHeartbeats 1000000 in
theorem bitM_impl {b g : Nat} {v : Value} {zs : List Int} (w : World) (h : Num b w g v zs) (hl : Lim zs) (i : Int) (hi0 : 0 ≤ i) (hi1 : i ≤ 9223372036854775807) :
    Calls Tryz.prog 208 #[.pointer (some ⟨g, 0, none⟩), .int .i64 i] w fun e w' => e = .returned (.int .i64 (bitAt (val zs).toNat i)) ∧ w' = w := by
  obtain ⟨q, s, hs, e⟩ : ∃ q s : Nat, s < 16 ∧ i = ((16 * q + s : Nat) : Int) := ⟨(i / 16).toNat, (i % 16).toNat, by omega, by omega⟩
  have hq := hl.at q
  have e1 := bit_limb hl q s hs
  have eI : i.toNat = 16 * q + s := by omega
  have eB : bitAt (val zs).toNat i = (((zs.getD q 0).toNat / 2 ^ s % 2 : Nat) : Int) := by
    unfold bitAt; rw [if_neg (by omega), eI, e1]
  rw [eB]
  obtain ⟨t, et⟩ : ∃ t : Nat, zs.getD q 0 = t := ⟨(zs.getD q 0).toNat, by omega⟩
  rw [et, Int.toNat_natCast]
  have e3 : i.tdiv 16 = (q : Int) := by rw [Int.tdiv_eq_ediv_of_nonneg (by omega)]; omega
  have e4 : i.tmod 16 = (s : Int) := by rw [Int.tmod_eq_emod_of_nonneg (by omega)]; omega
  have hat := at_impl w h q (by omega)
  rw [et] at hat hq
  have HA := hide hat
  have hw1 : ¬ ((s : Int) < 0) := by omega
  have hs64 : (s : Int) < 64 := by omega
  have hqr : (q : Int) ≤ 9223372036854775807 := by omega
  clear h hl eB e1 eI hat et e
  go_enter Tryz.func208, Tryz.ntmps208
  go_wp2_with (go_at_call 204; refine (unhide HA).mono ?_; rintro e w' ⟨rfl, rfl⟩)
  go_ret
  exact ⟨ret_int (by rw [and_one]; simp), rfl⟩

end Go.Proofs.YthahoabkehcgbaaGreatDoor

namespace Go.Proofs.YthahoabkehcgbaaGreatDoor
open Go.RowKit
set_option linter.unusedVariables false
set_option maxRecDepth 8000

set_option maxHeartbeats 1000000 in
theorem cmp_impl (a b : Int) (w : World) :
    Calls Tryz.prog 231 #[.int .i64 a, .int .i64 b] w fun e w' => e = .returned (.int .i64 (cmpI a b)) ∧ w' = w := by
  have ha : (a != a) = false := by simp
  have hb : (b != b) = false := by simp
  by_cases h1 : a < b
  · rw [cmpI_lt h1]
    go_enter Tryz.func231, Tryz.ntmps231
    go_wp2
    go_ret
    exact ⟨rfl, rfl⟩
  by_cases h2 : b < a
  · rw [cmpI_gt h2]
    go_enter Tryz.func231, Tryz.ntmps231
    go_wp2
    go_ret
    exact ⟨rfl, rfl⟩
  · rw [cmpI_eq (by omega)]
    go_enter Tryz.func231, Tryz.ntmps231
    go_wp2
    go_ret
    exact ⟨rfl, rfl⟩

set_option maxHeartbeats 2000000 in
theorem compare_impl {b1 b2 g1 g2 : Nat} {v1 v2 : Value} {xs ys : List Int} (w : World) (n1 : Num b1 w g1 v1 xs) (n2 : Num b2 w g2 v2 ys) (hx : Nrm xs) (hy : Nrm ys) :
    Calls Tryz.prog 218 #[.pointer (some ⟨g1, 0, none⟩), .pointer (some ⟨g2, 0, none⟩)] w fun e w' => e = .returned (.int .i64 (cmpI (val xs) (val ys))) ∧ Kept 0 0 w w' := by
  obtain ⟨M, hM⟩ : ∃ M, M = xs.length := ⟨_, rfl⟩
  obtain ⟨N, hN⟩ : ∃ N, N = ys.length := ⟨_, rfl⟩
  have hc1 := n1.cell
  have hc2 := n2.cell
  have m1 := n1.row.len
  have m2 := n2.row.len
  unfold maxLen at m1 m2
  rw [← hM] at m1
  rw [← hN] at m2
  by_cases hlen : M = N
  · subst hlen
    generalize hR : cmpI (val xs) (val ys) = R
    have HR := hide hR
    clear hR
    have hat1 := n1.at
    have hat2 := n2.at
    obtain ⟨a1, c1, rfl⟩ := n1.form
    obtain ⟨a2, c2, rfl⟩ := n2.form
    rw [← hM] at hc1 hat1
    rw [← hN] at hc2 hat2
    have hbe : ((M : Int) != (M : Int)) = false := by simp
    have HM := hide hM
    have HN := hide hN
    clear n1 n2 hM hN
    go_enter Tryz.func218, Tryz.ntmps218
    go_wp2
    go_quiet (fail)
    go_wp2
    go_loopw [5] (fun i wr => ∃ k n : Nat, k ≤ M ∧ i = .int .i64 ((k : Int) - 1) ∧ Hid (val (xs.drop k) = val (ys.drop k)) ∧ wr = w.drewN n) (fun i _ => (intOf i + 1).toNat)
    case atStart => exact ⟨M, _, Nat.le_refl _, rfl, by
      have h1 := unhide HM
      have h2 := unhide HN
      show _ = _
      rw [List.drop_of_length_le (by omega), List.drop_of_length_le (by omega)], rfl⟩
    case round =>
      obtain ⟨k, n, hk, rfl, heq, rfl⟩ := hrel
      by_cases h0 : k = 0
      · subst h0
        have hR := unhide HR
        rw [cmpI_eq (by simpa using unhide heq)] at hR
        subst hR
        clear hat1 hat2
        go_wp2
        go_ret
        exact ⟨rfl, (Kept.refl 0 0 w).drewN n⟩
      · obtain ⟨j, rfl⟩ : ∃ j, k = j + 1 := ⟨k - 1, by omega⟩
        obtain ⟨y1, d1, e1, x1, -, -⟩ := hat1 j (by omega)
        obtain ⟨y2, d2, e2, x2, -, -⟩ := hat2 j (by omega)
        cases e1
        cases e2
        have e1 : ((j + 1 : Nat) : Int) - 1 = j := by omega
        rw [e1]
        have hd1 := val_drop xs j
        have hd2 := val_drop ys j
        have heq' := unhide heq
        have hlen : xs.length = ys.length := by rw [← unhide HM, ← unhide HN]
        have hlt := val_lt_of_drop hx.1 hy.1 hlen j (by have := unhide HM; omega)
        have hgt := val_lt_of_drop hy.1 hx.1 hlen.symm j (by have := unhide HN; omega)
        generalize hz1 : xs.getD j 0 = z1 at *
        generalize hz2 : ys.getD j 0 = z2 at *
        have hj1 : (j : Int) < (M : Int) := by omega
        clear hlen hat1 hat2 heq hz1 hz2
        by_cases ce : z1 = z2
        · have HE : Hid (val (xs.drop j) = val (ys.drop j)) := by show _ = _; omega
          have hne : (z1 != z2) = false := by simp [ce]
          clear hd1 hd2 hlt hgt heq' ce
          go_wp2
          go_quiet (fail)
          go_wp2
          go_roundw
          case rel => exact ⟨j, _, by omega, by go_num, HE, rfl⟩
          case measure => simp [intOf]
        · have hne : (z1 != z2) = true := by simp [ce]
          have hRz : cmpI z1 z2 = R := by
            rw [← unhide HR]
            by_cases hc : z1 < z2
            · rw [cmpI_lt hc, cmpI_lt (hlt (by omega))]
            · rw [cmpI_gt (by omega), cmpI_gt (hgt (by omega))]
          have HRZ := hide hRz
          have hcl := fun w => cmp_impl z1 z2 w
          have HC := hide hcl
          clear hd1 hd2 hlt hgt heq' ce hRz hcl
          go_wp2
          go_quiet (fail)
          go_wp2
          go_quiet ((go_at_call 231; exact (unhide HC _).mono (fun e w' h => ⟨h.1, _, h.2⟩)))
          go_wp2
          go_ret
          exact ⟨by rw [← unhide HRZ]; rfl, (((Kept.refl 0 0 w).drewN _).drewN _).drewN _⟩
  · have hne : ((M : Int) != (N : Int)) = true := by simp; omega
    have hR : cmpI (M : Int) (N : Int) = cmpI (val xs) (val ys) := by
      by_cases hlt : M < N
      · rw [cmpI_lt (val_lt_of_len hx.1 hy (by omega)), cmpI_lt (by omega)]
      · rw [cmpI_gt (val_lt_of_len hy.1 hx (by omega)), cmpI_gt (by omega)]
    obtain ⟨a1, c1, rfl⟩ := n1.form
    obtain ⟨a2, c2, rfl⟩ := n2.form
    rw [← hM] at hc1
    rw [← hN] at hc2
    rw [← hR]
    have hcl := fun w => cmp_impl (M : Int) (N : Int) w
    have HC := hide hcl
    clear n1 n2 hM hN hcl hR hlen
    go_enter Tryz.func218, Tryz.ntmps218
    go_wp2
    go_quiet (fail)
    go_wp2
    go_quiet ((go_at_call 231; exact (unhide HC _).mono (fun e w' h => ⟨h.1, _, h.2⟩)))
    go_wp2
    go_ret
    exact ⟨rfl, ((Kept.refl 0 0 w).drewN _).drewN _⟩

end Go.Proofs.YthahoabkehcgbaaGreatDoor

namespace Go.Proofs.YthahoabkehcgbaaGreatDoor
open Go.RowKit
set_option linter.unusedVariables false
set_option maxRecDepth 8000
set_option linter.unusedSimpArgs false

/-- What NatCmp tells. -/
def cmpN (xs ys : List Int) : Int := if okB xs = true ∧ okB ys = true then cmpI (val xs) (val ys) else 0
theorem cmpN_bad1 {xs ys : List Int} (h : okB xs = false) : cmpN xs ys = 0 := by unfold cmpN; rw [if_neg (fun e => by rw [h] at e; cases e.1)]
theorem cmpN_bad2 {xs ys : List Int} (h : okB ys = false) : cmpN xs ys = 0 := by unfold cmpN; rw [if_neg (fun e => by rw [h] at e; cases e.2)]
theorem cmpN_ok {xs ys : List Int} (h1 : okB xs = true) (h2 : okB ys = true) : cmpN xs ys = cmpI (val xs) (val ys) := by unfold cmpN; rw [if_pos ⟨h1, h2⟩]

theorem compare_two {w0 W : World} {g1 g2 : Nat} {xs ys : List Int} (h : ∃ u1 u2, Two w0 W g1 g2 u1 u2 xs ys) (hx : Nrm xs) (hy : Nrm ys) :
    Calls Tryz.prog 218 #[.pointer (some ⟨g1, 0, none⟩), .pointer (some ⟨g2, 0, none⟩)] W fun e w' => e = .returned (.int .i64 (cmpI (val xs) (val ys))) ∧ (∃ u1 u2, Two w0 w' g1 g2 u1 u2 xs ys) := by
  obtain ⟨u1, u2, t⟩ := h
  refine (compare_impl W t.n1 t.n2 hx hy).mono ?_
  rintro e w' ⟨rfl, k⟩
  exact ⟨rfl, u1, u2, t.n1.kept k, t.n2.kept k, t.ne, t.o12, t.o21, t.oo, t.k.trans k, t.b1, t.b2⟩

end Go.Proofs.YthahoabkehcgbaaGreatDoor

namespace Go.Proofs.YthahoabkehcgbaaGreatDoor
open Go.RowKit
set_option linter.unusedVariables false
set_option maxRecDepth 8000

theorem nrm_of_le {zs : List Int} (h : Lim zs) (hv : zs = [] ∨ (65536 : Int) ^ (zs.length - 1) ≤ val zs) : Nrm zs := by
  refine ⟨h, fun z hz e => ?_⟩
  subst e
  rcases hv with rfl | hv
  · simp at hz
  · have hne : zs ≠ [] := by intro e; subst e; simp at hz
    have hl : 0 < zs.length := List.length_pos_iff.2 hne
    have e1 := val_take_succ zs (zs.length - 1) (by omega)
    rw [show zs.length - 1 + 1 = zs.length by omega, List.take_length] at e1
    have e2 : zs.getD (zs.length - 1) 0 = 0 := by
      rw [List.getLast?_eq_getElem?] at hz
      simp [List.getD, hz]
    have e3 := val_lt (h.take (zs.length - 1))
    rw [List.length_take, Nat.min_eq_left (by omega)] at e3
    rw [e2, Int.mul_zero] at e1
    omega
theorem limbs_of_le {zs : List Int} (h : Lim zs) (hv : zs = [] ∨ (65536 : Int) ^ (zs.length - 1) ≤ val zs) : zs = limbs (val zs).toNat := nrm_limbs (nrm_of_le h hv)
theorem drop_pos {ys : List Int} (hy : Nrm ys) (j : Nat) (hj : j < ys.length) : 1 ≤ val (ys.drop j) := by
  have hl : Nrm (ys.drop j) := ⟨hy.1.drop j, fun z hz => hy.2 z (by rw [List.getLast?_drop, if_neg (by omega)] at hz; exact hz)⟩
  rcases Int.lt_or_le 0 (val (ys.drop j)) with h | h
  · omega
  · have h0 : val (ys.drop j) = 0 := by have := val_nonneg hl.1; omega
    have := congrArg List.length (nrm_nil hl h0)
    simp at this
    omega

theorem Two.kept {w0 W w' : World} {g1 g2 : Nat} {u1 u2 : Value} {xs ys : List Int} (t : Two w0 W g1 g2 u1 u2 xs ys) (k : Kept 0 0 W w') : Two w0 w' g1 g2 u1 u2 xs ys :=
  ⟨t.n1.kept k, t.n2.kept k, t.ne, t.o12, t.o21, t.oo, t.k.trans k, t.b1, t.b2⟩
theorem Two.put {w0 wr : World} {g1 g2 gb cap j : Nat} {u2 : Value} {zs ys : List Int} {n : Nat} (t : Two w0 wr g1 g2 (.slice (some ⟨gb, 0, none⟩) n cap) u2 zs ys) (hn : zs.length = n) (z : Int) :
    Two w0 (wr.setCell ⟨gb, j, none⟩ (.int .i64 z)) g1 g2 (.slice (some ⟨gb, 0, none⟩) n cap) u2 (zs.set j z) ys := by
  subst hn
  have n1 : gb ≠ g1 := fun e => t.n1.apart (by simp [Value.ownBlock, e])
  have n2 : gb ≠ g2 := fun e => t.o12 (by simp [Value.ownBlock, e])
  have n3 : u2.ownBlock ≠ some gb := t.oo gb rfl
  have hb := (t.n1.own.lt gb rfl).1
  refine ⟨⟨cell_aside _ (p := ⟨g1, 0, none⟩) (r := ⟨gb, j, none⟩) n1 t.n1.cell, by rw [frozen_set]; exact t.n1.loose, own_set t.n1.own j z, t.n1.apart⟩,
    ⟨cell_aside _ (p := ⟨g2, 0, none⟩) (r := ⟨gb, j, none⟩) n2 t.n2.cell, by rw [frozen_set]; exact t.n2.loose, own_apart t.n2.own (p := ⟨gb, j, none⟩) n3 _, t.n2.apart⟩,
    t.ne, t.o12, t.o21, t.oo, t.k.setNew (p := ⟨gb, j, none⟩) hb _, t.b1, t.b2⟩
theorem Two.snoc {w0 w w' : World} {g1 g2 : Nat} {v v' u2 : Value} {zs ys qs : List Int} (t : Two w0 w g1 g2 v u2 zs ys) (o : Obj) (hg : (w.alloc o).grownBy w' v.ownBlock) (hat : v'.ownBlock = v.ownBlock ∨ v'.ownBlock = some (w.heap.size + 1))
    (hown : w'.ownsRow w0.heap.size 3 1 v' qs.length (qs.map (Value.int .i64))) :
    w'.cell? ⟨g1, 0, none⟩ = some v ∧ w'.frozen? ⟨g1, 0, none⟩ = false ∧ Two w0 (w'.setCell ⟨g1, 0, none⟩ v') g1 g2 v' u2 qs ys := by
  obtain ⟨d1, d2, d3, d4⟩ := t.n1.snoc o hg hat hown
  have hlt := t.n2.lt
  have hS2 : ¬ Own1 g1 v g2 := fun e => e.elim (fun e => t.ne e.symm) t.o12
  have hSo : ∀ i, u2.ownBlock = some i → ¬ Own1 g1 v i := fun i hi e => e.elim (fun e => t.o21 (by rw [hi, e])) (fun e => t.oo i e hi)
  refine ⟨d1, d2, d3, t.n2.mod d4 hS2 hSo, t.ne, ?_, t.o21, ?_, t.k.mod d4 (fun i hi => hi.elim (fun e => by rw [e]; exact t.b1) (fun e => (t.n1.own.lt i e).1)), t.b1, t.b2⟩
  · rcases hat with e | e
    · rw [e]; exact t.o12
    · rw [e]; simp; omega
  · intro k hk
    rcases hat with e | e
    · exact t.oo k (by rw [← e]; exact hk)
    · rw [e] at hk
      simp at hk
      intro e2
      have := (t.n2.own.lt k e2).2
      omega

theorem add_put (zs ys : List Int) (i : Nat) (hi : i < zs.length) (c S z y : Int) (hz : zs.getD i 0 = z) (hy : val (ys.drop i) = y + 65536 * val (ys.drop (i + 1))) (h : val zs + 65536 ^ i * (c + val (ys.drop i)) = S) :
    val (zs.set i ((z + y + c) % 65536)) + 65536 ^ (i + 1) * ((z + y + c) / 65536 + val (ys.drop (i + 1))) = S := by
  rw [val_set _ _ _ hi, hz, ← h, Int.pow_succ, hy]
  have e : (z + y + c) % 65536 - z + 65536 * ((z + y + c) / 65536 + val (ys.drop (i + 1))) = c + (y + 65536 * val (ys.drop (i + 1))) := by omega
  have key : ∀ P A B : Int, P * A + P * 65536 * B = P * (A + 65536 * B) := fun P A B => by rw [Int.mul_add, Int.mul_assoc]
  rw [← e, ← key, Int.add_assoc]

set_option maxHeartbeats 4000000 in
theorem add_two {w0 w : World} {g1 g2 : Nat} {xs ys : List Int} (h : ∃ u1 u2, Two w0 w g1 g2 u1 u2 xs ys) (hx : Nrm xs) (hy : Nrm ys) (hl1 : xs.length ≤ 100000) (hl2 : ys.length ≤ 100000) :
    Calls Tryz.prog 170 #[.pointer (some ⟨g1, 0, none⟩), .pointer (some ⟨g2, 0, none⟩)] w fun e w' => (∃ r, e = .returned r) ∧ ∃ u1 u2, Two w0 w' g1 g2 u1 u2 (limbs (val xs + val ys).toNat) ys := by
  obtain ⟨u1, u2, t0⟩ := h
  obtain ⟨a2, c2, rfl⟩ := t0.n2.form
  generalize hS : val xs + val ys = S
  have h0 := val_nonneg hx.1
  have h0' := val_nonneg hy.1
  obtain ⟨M0, hM0⟩ : ∃ M0 : Nat, M0 = 100000 := ⟨_, rfl⟩
  obtain ⟨M, hMM⟩ : ∃ M : Nat, M = M0 + 1 := ⟨_, rfl⟩
  have hSb : S < 65536 ^ M := by
    have e1 := val_lt hx.1
    have e2 := val_lt hy.1
    have e3 := pow_mono (a := xs.length) (b := M0) (by omega)
    have e4 := pow_mono (a := ys.length) (b := M0) (by omega)
    have e5 : (65536 : Int) ^ M = 65536 ^ M0 * 65536 := by rw [hMM]; exact Int.pow_succ _ _
    have e6 : (0 : Int) < 65536 ^ M0 := Int.pow_pos (by decide)
    generalize (65536 : Int) ^ M0 = P at *
    omega
  have HMM : Hid (M = 100001) := by show _ = _; omega
  clear hMM hM0
  have hSt : Hid (xs = [] ∨ (65536 : Int) ^ (xs.length - 1) ≤ S) := by
    by_cases e : xs = []
    · exact .inl e
    · exact .inr (by have := nrm_pow hx e; omega)
  have HSB := hide hSb
  have HY := hide hy
  have HS0 : Hid (val xs + 65536 ^ 0 * (0 + val (ys.drop 0)) = S) := by show _ = _; simp; exact hS
  have hylim := hy.1
  have hSpos : 0 ≤ S := by omega
  clear hSb hS hy h0 h0'
  go_enter Tryz.func170, Tryz.ntmps170
  go_wp2
  go_loopw [4, 5] (fun cc ii wr => ∃ (zs : List Int) (c i : Nat) (v : Value), cc = .int .i64 c ∧ ii = .int .i64 i ∧ c ≤ 1 ∧ i ≤ 100001 ∧ i ≤ zs.length ∧ Lim zs ∧ Hid (val zs + 65536 ^ i * (c + val (ys.drop i)) = S) ∧ Hid (zs = [] ∨ (65536 : Int) ^ (zs.length - 1) ≤ S) ∧ Two w0 wr g1 g2 v (.slice a2 ys.length c2) zs ys) (fun _ ii _ => 100002 - (intOf ii).toNat)
  case atStart => exact ⟨xs, 0, 0, u1, rfl, rfl, by omega, by omega, by omega, hx.1, HS0, hSt, t0⟩
  case round =>
    clear t0 HS0 hSt
    obtain ⟨zs, c, i, v, rfl, rfl, hc1, hi1, hiz, hlim, hval, htop, t⟩ := hrel
    have hce2 := t.n2.cell
    by_cases hgo : i < ys.length ∨ 0 < c
    · have hD : 1 ≤ (c : Int) + val (ys.drop i) := by
        rcases hgo with h | h
        · have := drop_pos (unhide HY) i h; omega
        · have := val_nonneg ((unhide HY).1.drop i); omega
      have hSi : (65536 : Int) ^ i ≤ S := by
        have e1 := unhide hval
        have e2 := val_nonneg hlim
        have e3 : (65536 : Int) ^ i * 1 ≤ 65536 ^ i * (c + val (ys.drop i)) := Int.mul_le_mul_of_nonneg_left hD (Int.le_of_lt (Int.pow_pos (by decide)))
        omega
      have hi2 : i ≤ 100000 := by
        rcases Nat.lt_or_ge 100000 i with h | h
        · have := pow_mono (a := M) (b := i) (by have := unhide HMM; omega)
          have := unhide HSB
          omega
        · exact h
      have hzl : zs.length ≤ 100001 := by
        rcases unhide htop with e | e
        · rw [e]; simp
        · rcases Nat.lt_or_ge 100001 zs.length with h | h
          · have := pow_mono (a := M) (b := zs.length - 1) (by have := unhide HMM; omega)
            have := unhide HSB
            omega
          · exact h
      have HSI := hide hSi
      clear hSi hD
      by_cases hi : i < zs.length
      · have hne : ((i : Int) == (zs.length : Int)) = false := beq_eq_false_iff_ne.2 (by omega)
        have hiL := hi
        have hlimL := hlim
        have hvalL := hval
        have htopL := htop
        obtain ⟨gb, cap, rfl, hxz, hfz, hgb⟩ := t.n1.at i hiL
        have hce1 := t.n1.cell
        rcases hgo with hgo | hgo
        · have hgo' : (i : Int) < (ys.length : Int) := by omega
          go_wp2
          have hzr := hlimL.at i
          have hyr := hylim.at i
          have hyd := val_drop ys i
          have hput := add_put (zs) ys i hiL c S _ _ rfl hyd (unhide hvalL)
          have hsetl := fun z (h0 : 0 ≤ z) (h1 : z ≤ 65535) => hlimL.set i h0 h1
          have hatc := fun n => at_impl (wr.drewN n) (t.n2.kept ((Kept.refl 0 0 _).drewN n)) i (by omega)
          have HAT := hide hatc
          have tp := fun n z => (t.kept ((Kept.refl 0 0 _).drewN n)).put (j := i) rfl z
          have TP := hide tp
          have HSL := hide hsetl
          have hlen : (zs).length = zs.length := rfl
          try rw [hlen] at hce1
          have hlenset : ∀ z, ((zs).set i z).length = zs.length := fun z => by rw [List.length_set, hlen]
          have HLS := hide hlenset
          generalize hz : (zs).getD i 0 = z at *
          generalize hy2 : ys.getD i 0 = y at *
          have HP := hide hput
          have hs0 : 0 ≤ z + y + c ∧ z + y + c ≤ 131071 := by omega
          have em : (z + y + (c : Int)).tmod 65536 = (z + y + c) % 65536 := by rw [Int.tmod_eq_emod_of_nonneg (by omega)]
          have ed : (z + y + (c : Int)).tdiv 65536 = (z + y + c) / 65536 := by rw [Int.tdiv_eq_ediv_of_nonneg (by omega)]
          have hlt2 : (i : Int) < ((zs.length : Nat) : Int) := by omega
          obtain ⟨c', hc'⟩ : ∃ c' : Nat, (z + y + (c : Int)) / 65536 = c' := ⟨((z + y + (c : Int)) / 65536).toNat, by omega⟩
          clear hatc tp hput hyd hz hy2 t hlimL hvalL hsetl hlenset hlen
          go_quiet ((go_at_call 204; exact (unhide HAT _).mono (fun e w' h => ⟨h.1, _, h.2⟩)))
          go_wp2
          go_roundw
          case rel => exact ⟨(zs).set i ((z + y + c) % 65536), c', i + 1, _, rfl, by go_num, by omega, by omega, by rw [unhide HLS]; omega, unhide HSL _ (by omega) (by omega), by have := unhide HP; rw [hc'] at this; exact this, by rcases unhide htopL with e | e; exact .inl (by rw [e]; rfl); exact .inr (by rw [unhide HLS]; exact e), unhide TP _ _⟩
          case measure => simp [intOf]; omega
        · by_cases hgo2 : i < ys.length
          · have hgo' : (i : Int) < (ys.length : Int) := by omega
            go_wp2
            have hzr := hlimL.at i
            have hyr := hylim.at i
            have hyd := val_drop ys i
            have hput := add_put (zs) ys i hiL c S _ _ rfl hyd (unhide hvalL)
            have hsetl := fun z (h0 : 0 ≤ z) (h1 : z ≤ 65535) => hlimL.set i h0 h1
            have hatc := fun n => at_impl (wr.drewN n) (t.n2.kept ((Kept.refl 0 0 _).drewN n)) i (by omega)
            have HAT := hide hatc
            have tp := fun n z => (t.kept ((Kept.refl 0 0 _).drewN n)).put (j := i) rfl z
            have TP := hide tp
            have HSL := hide hsetl
            have hlen : (zs).length = zs.length := rfl
            try rw [hlen] at hce1
            have hlenset : ∀ z, ((zs).set i z).length = zs.length := fun z => by rw [List.length_set, hlen]
            have HLS := hide hlenset
            generalize hz : (zs).getD i 0 = z at *
            generalize hy2 : ys.getD i 0 = y at *
            have HP := hide hput
            have hs0 : 0 ≤ z + y + c ∧ z + y + c ≤ 131071 := by omega
            have em : (z + y + (c : Int)).tmod 65536 = (z + y + c) % 65536 := by rw [Int.tmod_eq_emod_of_nonneg (by omega)]
            have ed : (z + y + (c : Int)).tdiv 65536 = (z + y + c) / 65536 := by rw [Int.tdiv_eq_ediv_of_nonneg (by omega)]
            have hlt2 : (i : Int) < ((zs.length : Nat) : Int) := by omega
            obtain ⟨c', hc'⟩ : ∃ c' : Nat, (z + y + (c : Int)) / 65536 = c' := ⟨((z + y + (c : Int)) / 65536).toNat, by omega⟩
            clear hatc tp hput hyd hz hy2 t hlimL hvalL hsetl hlenset hlen
            go_quiet ((go_at_call 204; exact (unhide HAT _).mono (fun e w' h => ⟨h.1, _, h.2⟩)))
            go_wp2
            go_roundw
            case rel => exact ⟨(zs).set i ((z + y + c) % 65536), c', i + 1, _, rfl, by go_num, by omega, by omega, by rw [unhide HLS]; omega, unhide HSL _ (by omega) (by omega), by have := unhide HP; rw [hc'] at this; exact this, by rcases unhide htopL with e | e; exact .inl (by rw [e]; rfl); exact .inr (by rw [unhide HLS]; exact e), unhide TP _ _⟩
            case measure => simp [intOf]; omega
          · have hgo' : ¬ (i : Int) < (ys.length : Int) := by omega
            have hgo3 : (0 : Int) < (c : Int) := by omega
            go_wp2
            have hzr := hlimL.at i
            have hyr := hylim.at i
            have hyd := val_drop ys i
            have hput := add_put (zs) ys i hiL c S _ _ rfl hyd (unhide hvalL)
            have hsetl := fun z (h0 : 0 ≤ z) (h1 : z ≤ 65535) => hlimL.set i h0 h1
            have hatc := fun n => at_impl (wr.drewN n) (t.n2.kept ((Kept.refl 0 0 _).drewN n)) i (by omega)
            have HAT := hide hatc
            have tp := fun n z => (t.kept ((Kept.refl 0 0 _).drewN n)).put (j := i) rfl z
            have TP := hide tp
            have HSL := hide hsetl
            have hlen : (zs).length = zs.length := rfl
            try rw [hlen] at hce1
            have hlenset : ∀ z, ((zs).set i z).length = zs.length := fun z => by rw [List.length_set, hlen]
            have HLS := hide hlenset
            generalize hz : (zs).getD i 0 = z at *
            generalize hy2 : ys.getD i 0 = y at *
            have HP := hide hput
            have hs0 : 0 ≤ z + y + c ∧ z + y + c ≤ 131071 := by omega
            have em : (z + y + (c : Int)).tmod 65536 = (z + y + c) % 65536 := by rw [Int.tmod_eq_emod_of_nonneg (by omega)]
            have ed : (z + y + (c : Int)).tdiv 65536 = (z + y + c) / 65536 := by rw [Int.tdiv_eq_ediv_of_nonneg (by omega)]
            have hlt2 : (i : Int) < ((zs.length : Nat) : Int) := by omega
            obtain ⟨c', hc'⟩ : ∃ c' : Nat, (z + y + (c : Int)) / 65536 = c' := ⟨((z + y + (c : Int)) / 65536).toNat, by omega⟩
            clear hatc tp hput hyd hz hy2 t hlimL hvalL hsetl hlenset hlen
            go_quiet ((go_at_call 204; exact (unhide HAT _).mono (fun e w' h => ⟨h.1, _, h.2⟩)))
            go_wp2
            go_roundw
            case rel => exact ⟨(zs).set i ((z + y + c) % 65536), c', i + 1, _, rfl, by go_num, by omega, by omega, by rw [unhide HLS]; omega, unhide HSL _ (by omega) (by omega), by have := unhide HP; rw [hc'] at this; exact this, by rcases unhide htopL with e | e; exact .inl (by rw [e]; rfl); exact .inr (by rw [unhide HLS]; exact e), unhide TP _ _⟩
            case measure => simp [intOf]; omega
      · have hie : i = zs.length := by omega
        have hne : ((i : Int) == (zs.length : Int)) = true := by simp [hie]
        obtain ⟨a1, d1, rfl⟩ := t.n1.form
        have hce1 := t.n1.cell
        have hlo1 := t.n1.loose
        have hown' := own_kept t.n1.own ((Kept.refl 0 0 wr).alloc (.cells #[.int .i64 0] 3))
        have hl' : zs.length ≤ 1000000 := by omega
        have hbb : w0.heap.size ≤ (wr.alloc (.cells #[.int .i64 0] 3)).heap.size := by have := t.k.size; simp; omega
        have HBB := hide hbb
        have hcc : (wr.alloc (.cells #[.int .i64 0] 3)).cell? ⟨wr.heap.size, 0, none⟩ = some (.int .i64 0) := new_cell_at _ _ _ _ rfl
        have HE := hide hie
        clear hbb hie
        by_cases hgo2 : i < ys.length
        · have hgo' : (i : Int) < (ys.length : Int) := by omega
          go_wp2_with (at_builtin; refine wpList_snoc rfl _ _ rfl rfl _ rfl 0 hcc hown' hl' (unhide HBB) ?_)
          intro v' w' hown2 hgrow hat
          unfold OwnL at hown2
          replace hat := unhide hat
          obtain ⟨d1', d2', t2⟩ := t.snoc _ hgrow hat hown2
          have hie := unhide HE
          have hlenA : (zs ++ [(0 : Int)]).length = i + 1 := by simp [hie]
          have hiL : i < (zs ++ [(0 : Int)]).length := by omega
          have hlimL : Lim (zs ++ [(0 : Int)]) := hlim.snoc (by omega) (by omega)
          have hvalL : Hid (val (zs ++ [(0 : Int)]) + 65536 ^ i * (c + val (ys.drop i)) = S) := by have := unhide hval; show _ = _; rw [val_snoc]; simpa using this
          obtain ⟨gb, cap, hvv, hxz, hfz, hgb⟩ := t2.n1.at i hiL
          rw [hlenA] at hvv
          subst hvv
          have hce1' := t2.n1.cell
          have hce2' := t2.n2.cell
          have X1 := hide hce1'
          have X2 := hide hce2'
          have X3 := hide hxz
          have X4 := hide hfz
          generalize hwx : w'.setCell ⟨g1, 0, none⟩ (.slice (some ⟨gb, 0, none⟩) (i + 1) cap) = wx at *
          clear hown' hown2 hgrow hat hce1' hce2' hxz hfz hcc t hce1 hlo1 hlim hval hie hl' hce2
          go_wp2
          have hce1 := unhide X1
          have hce2 := unhide X2
          have hxz := unhide X3
          have hfz := unhide X4
          try rw [hwx]
          have hzr := hlimL.at i
          have hyr := hylim.at i
          have hyd := val_drop ys i
          have hput := add_put (zs ++ [(0 : Int)]) ys i hiL c S _ _ rfl hyd (unhide hvalL)
          have hsetl := fun z (h0 : 0 ≤ z) (h1 : z ≤ 65535) => hlimL.set i h0 h1
          have hatc := fun n => at_impl (wx.drewN n) (t2.n2.kept ((Kept.refl 0 0 _).drewN n)) i (by omega)
          have HAT := hide hatc
          have tp := fun n z => (t2.kept ((Kept.refl 0 0 _).drewN n)).put (j := i) hlenA z
          have TP := hide tp
          have HSL := hide hsetl
          have hlen : (zs ++ [(0 : Int)]).length = (i + 1) := hlenA
          try rw [hlen] at hce1
          have hlenset : ∀ z, ((zs ++ [(0 : Int)]).set i z).length = (i + 1) := fun z => by rw [List.length_set, hlen]
          have HLS := hide hlenset
          generalize hz : (zs ++ [(0 : Int)]).getD i 0 = z at *
          generalize hy2 : ys.getD i 0 = y at *
          have HP := hide hput
          have hs0 : 0 ≤ z + y + c ∧ z + y + c ≤ 131071 := by omega
          have em : (z + y + (c : Int)).tmod 65536 = (z + y + c) % 65536 := by rw [Int.tmod_eq_emod_of_nonneg (by omega)]
          have ed : (z + y + (c : Int)).tdiv 65536 = (z + y + c) / 65536 := by rw [Int.tdiv_eq_ediv_of_nonneg (by omega)]
          have hlt2 : (i : Int) < (((i + 1) : Nat) : Int) := by omega
          obtain ⟨c', hc'⟩ : ∃ c' : Nat, (z + y + (c : Int)) / 65536 = c' := ⟨((z + y + (c : Int)) / 65536).toNat, by omega⟩
          clear hatc tp hput hyd hz hy2 t2 hlimL hvalL hsetl hlenset hlen
          go_quiet ((go_at_call 204; exact (unhide HAT _).mono (fun e w' h => ⟨h.1, _, h.2⟩)))
          go_wp2
          go_roundw
          case rel => exact ⟨(zs ++ [(0 : Int)]).set i ((z + y + c) % 65536), c', i + 1, _, rfl, by go_num, by omega, by omega, by rw [unhide HLS]; omega, unhide HSL _ (by omega) (by omega), by have := unhide HP; rw [hc'] at this; exact this, by refine .inr ?_; rw [unhide HLS]; exact unhide HSI, unhide TP _ _⟩
          case measure => simp [intOf]; omega
        · have hgo' : ¬ (i : Int) < (ys.length : Int) := by omega
          have hgo3 : (0 : Int) < (c : Int) := by omega
          go_wp2_with (at_builtin; refine wpList_snoc rfl _ _ rfl rfl _ rfl 0 hcc hown' hl' (unhide HBB) ?_)
          intro v' w' hown2 hgrow hat
          unfold OwnL at hown2
          replace hat := unhide hat
          obtain ⟨d1', d2', t2⟩ := t.snoc _ hgrow hat hown2
          have hie := unhide HE
          have hlenA : (zs ++ [(0 : Int)]).length = i + 1 := by simp [hie]
          have hiL : i < (zs ++ [(0 : Int)]).length := by omega
          have hlimL : Lim (zs ++ [(0 : Int)]) := hlim.snoc (by omega) (by omega)
          have hvalL : Hid (val (zs ++ [(0 : Int)]) + 65536 ^ i * (c + val (ys.drop i)) = S) := by have := unhide hval; show _ = _; rw [val_snoc]; simpa using this
          obtain ⟨gb, cap, hvv, hxz, hfz, hgb⟩ := t2.n1.at i hiL
          rw [hlenA] at hvv
          subst hvv
          have hce1' := t2.n1.cell
          have hce2' := t2.n2.cell
          have X1 := hide hce1'
          have X2 := hide hce2'
          have X3 := hide hxz
          have X4 := hide hfz
          generalize hwx : w'.setCell ⟨g1, 0, none⟩ (.slice (some ⟨gb, 0, none⟩) (i + 1) cap) = wx at *
          clear hown' hown2 hgrow hat hce1' hce2' hxz hfz hcc t hce1 hlo1 hlim hval hie hl' hce2
          go_wp2
          have hce1 := unhide X1
          have hce2 := unhide X2
          have hxz := unhide X3
          have hfz := unhide X4
          try rw [hwx]
          have hzr := hlimL.at i
          have hyr := hylim.at i
          have hyd := val_drop ys i
          have hput := add_put (zs ++ [(0 : Int)]) ys i hiL c S _ _ rfl hyd (unhide hvalL)
          have hsetl := fun z (h0 : 0 ≤ z) (h1 : z ≤ 65535) => hlimL.set i h0 h1
          have hatc := fun n => at_impl (wx.drewN n) (t2.n2.kept ((Kept.refl 0 0 _).drewN n)) i (by omega)
          have HAT := hide hatc
          have tp := fun n z => (t2.kept ((Kept.refl 0 0 _).drewN n)).put (j := i) hlenA z
          have TP := hide tp
          have HSL := hide hsetl
          have hlen : (zs ++ [(0 : Int)]).length = (i + 1) := hlenA
          try rw [hlen] at hce1
          have hlenset : ∀ z, ((zs ++ [(0 : Int)]).set i z).length = (i + 1) := fun z => by rw [List.length_set, hlen]
          have HLS := hide hlenset
          generalize hz : (zs ++ [(0 : Int)]).getD i 0 = z at *
          generalize hy2 : ys.getD i 0 = y at *
          have HP := hide hput
          have hs0 : 0 ≤ z + y + c ∧ z + y + c ≤ 131071 := by omega
          have em : (z + y + (c : Int)).tmod 65536 = (z + y + c) % 65536 := by rw [Int.tmod_eq_emod_of_nonneg (by omega)]
          have ed : (z + y + (c : Int)).tdiv 65536 = (z + y + c) / 65536 := by rw [Int.tdiv_eq_ediv_of_nonneg (by omega)]
          have hlt2 : (i : Int) < (((i + 1) : Nat) : Int) := by omega
          obtain ⟨c', hc'⟩ : ∃ c' : Nat, (z + y + (c : Int)) / 65536 = c' := ⟨((z + y + (c : Int)) / 65536).toNat, by omega⟩
          clear hatc tp hput hyd hz hy2 t2 hlimL hvalL hsetl hlenset hlen
          go_quiet ((go_at_call 204; exact (unhide HAT _).mono (fun e w' h => ⟨h.1, _, h.2⟩)))
          go_wp2
          go_roundw
          case rel => exact ⟨(zs ++ [(0 : Int)]).set i ((z + y + c) % 65536), c', i + 1, _, rfl, by go_num, by omega, by omega, by rw [unhide HLS]; omega, unhide HSL _ (by omega) (by omega), by have := unhide HP; rw [hc'] at this; exact this, by refine .inr ?_; rw [unhide HLS]; exact unhide HSI, unhide TP _ _⟩
          case measure => simp [intOf]; omega
    · have hgo1 : ¬ (i : Int) < (ys.length : Int) := by omega
      have hc0 : c = 0 := by omega
      subst hc0
      have e1 := unhide hval
      rw [List.drop_of_length_le (by omega)] at e1
      simp [val] at e1
      have e2 := limbs_of_le hlim (by have := unhide htop; rw [e1]; exact this)
      rw [e1] at e2
      rw [e2] at t
      have T1 := hide t
      clear t e2 e1 hval htop hlim
      go_wp2
      exact bodyPost_end (v := .tuple #[]) (by simp [results, Tryz.results170, go_sem]) rfl ⟨⟨_, rfl⟩, _, _, unhide T1⟩

end Go.Proofs.YthahoabkehcgbaaGreatDoor

namespace Go.Proofs.YthahoabkehcgbaaGreatDoor
open Go.RowKit
set_option linter.unusedVariables false
set_option maxRecDepth 8000

theorem Num.cut {b g gb cap : Nat} {w : World} {zs : List Int} {n : Nat} (h : Num b w g (.slice (some ⟨gb, 0, none⟩) n cap) zs) (hn : n = zs.length) (j : Nat) (hj : j ≤ zs.length) :
    Num b (w.setCell ⟨g, 0, none⟩ (.slice (some ⟨gb, 0, none⟩) j cap)) g (.slice (some ⟨gb, 0, none⟩) j cap) (zs.take j) := by
  subst hn
  exact ⟨cell_on _ _ _ _ _ h.cell, by rw [frozen_set]; exact h.loose, own_apart (own_take h.own j hj) (p := ⟨g, 0, none⟩) (fun e => h.apart e) _, fun e => h.apart e⟩

/-- How long the list is that the cell g holds. -/
def lenAt (w : World) (g : Nat) : Nat := match w.cell? ⟨g, 0, none⟩ with
  | some (.slice _ n _) => n
  | _ => 0
theorem lenAt_of {w : World} {g : Nat} {a : Option Addr} {n c : Nat} (h : w.cell? ⟨g, 0, none⟩ = some (.slice a n c)) : lenAt w g = n := by unfold lenAt; rw [h]

set_option maxHeartbeats 4000000 in
theorem trim_impl {b g : Nat} {v : Value} {zs : List Int} (w : World) (h : Num b w g v zs) (hl : Lim zs) :
    Calls Tryz.prog 215 #[.pointer (some ⟨g, 0, none⟩)] w fun e w' => (∃ r, e = .returned r) ∧ ∃ u, Num b w' g u (limbs (val zs).toNat) ∧ u.ownBlock = v.ownBlock ∧ Mod (fun i => i = g) w w' := by
  have hm := h.row.len
  unfold maxLen at hm
  have HL := hide hl
  clear hl
  go_enter Tryz.func215, Tryz.ntmps215
  go_wp2
  go_loopw [] (fun wr => ∃ (m : Nat) (u : Value), m ≤ zs.length ∧ Hid (∀ i, m ≤ i → i < zs.length → zs.getD i 0 = 0) ∧ Num b wr g u (zs.take m) ∧ Hid (u.ownBlock = v.ownBlock) ∧ Mod (fun i => i = g) w wr) (fun wr => lenAt wr g)
  case atStart => exact ⟨zs.length, v, Nat.le_refl _, hide (fun i h1 h2 => by omega), by rw [List.take_length]; exact h, hide rfl, Mod.refl _ _⟩
  case round =>
    clear h
    obtain ⟨m, u, hmz, hz, n, ho, hmod⟩ := hrel
    have hlen : (zs.take m).length = m := by simp; omega
    have hlo := n.loose
    by_cases h0 : m = 0
    · subst h0
      obtain ⟨a1, c1, hv⟩ := n.form
      rw [hlen] at hv
      subst hv
      have hce := n.cell
      have e1 := take_limbs zs (unhide HL) 0 (by omega) (unhide hz) (.inl rfl)
      rw [e1] at n
      have NN := hide n
      have MM := hide hmod
      have hd : decide ((0 : Int) < ((0 : Nat) : Int)) = false := rfl
      clear e1 n hmod hlen hz
      go_wp2
      go_quiet (fail)
      go_wp2
      exact bodyPost_end (v := .tuple #[]) (by simp [results, Tryz.results215, go_sem]) rfl ⟨⟨_, rfl⟩, _, (unhide NN).kept ((Kept.refl 0 0 _).drewN _), unhide ho, (unhide MM).drewN _⟩
    · obtain ⟨gb, cap, hv, hxz, hfz, hgb⟩ := n.at (m - 1) (by omega)
      rw [hlen] at hv
      subst hv
      have hce := n.cell
      have hz1 : (zs.take m).getD (m - 1) 0 = zs.getD (m - 1) 0 := by
        simp only [List.getD, List.getElem?_take]
        rw [if_pos (by omega)]
      rw [hz1] at hxz
      have hpos : (0 : Int) < (m : Int) := by omega
      have hposN : 0 < m := by omega
      have h1m : (1 : Int) ≤ (m : Int) := by omega
      have hcap : (m : Int) - 1 ≤ (cap : Int) := by
        have h5 := n.own
        rw [hlen] at h5
        obtain ⟨g5, cap5, e5, -, h6, -⟩ := own_form h5 (by omega)
        cases e5
        omega
      have ew : IntKind.i64.wrap ((m : Int) - 1) = (m : Int) - 1 := wrap_small _ (by omega) (by omega)
      have et : ((m : Int) - 1).toNat = m - 1 := by omega
      have hi0 : (0 : Int) ≤ (m : Int) - 1 := by omega
      have hi1 : (m : Int) - 1 < (m : Int) := by omega
      have hz1' : ∀ z, zs.getD (m - 1) 0 = z → (z = 0 → ∀ i, m - 1 ≤ i → i < zs.length → zs.getD i 0 = 0) ∧ (z ≠ 0 → zs.take m = limbs (val zs).toNat) := by
        intro z e
        refine ⟨fun e0 i h1 h2 => ?_, fun e0 => take_limbs zs (unhide HL) m (by omega) (unhide hz) (.inr (by rw [e]; exact e0))⟩
        by_cases h3 : i = m - 1
        · rw [h3, e, e0]
        · exact unhide hz i (by omega) h2
      generalize zs.getD (m - 1) 0 = zl at *
      obtain ⟨hza, hzb⟩ := hz1' zl rfl
      clear hz1' hz
      by_cases hzz : zl = 0
      · subst hzz
        have HZ := hide (hza rfl)
        have NC := hide (fun k => (n.kept ((Kept.refl 0 0 _).drewN k)).cut hlen.symm (m - 1) (by omega))
        have MC := hide (fun k => (hmod.drewN k).set (p := ⟨g, 0, none⟩) (.inl rfl) (.slice (some ⟨gb, 0, none⟩) (m - 1) cap))
        have e1 : (zs.take m).take (m - 1) = zs.take (m - 1) := by rw [List.take_take, Nat.min_eq_left (by omega)]
        have E1 := hide e1
        clear hza hzb n hmod hlen e1
        go_wp2
        go_quiet (fail)
        go_wp2
        go_region
        go_wp2
        go_roundw
        case rel => exact ⟨m - 1, .slice (some ⟨gb, 0, none⟩) (m - 1) cap, by omega, HZ, by rw [← unhide E1]; exact unhide NC _, hide (unhide ho), unhide MC _⟩
        case measure => rw [lenAt_of hce, lenAt_of (unhide NC _).cell]; omega
      · have e1 := hzb hzz
        rw [e1] at n
        have NN := hide n
        have MM := hide hmod
        have hb : (zl == 0) = false := beq_eq_false_iff_ne.2 hzz
        clear e1 n hmod hlen hza hzb
        go_wp2
        go_quiet (fail)
        go_wp2
        exact bodyPost_end (v := .tuple #[]) (by simp [results, Tryz.results215, go_sem]) rfl ⟨⟨_, rfl⟩, _, (unhide NN).kept ((Kept.refl 0 0 _).drewN _), unhide ho, (unhide MM).drewN _⟩

end Go.Proofs.YthahoabkehcgbaaGreatDoor

namespace Go.Proofs.YthahoabkehcgbaaGreatDoor
open Go.RowKit
set_option linter.unusedVariables false
set_option maxRecDepth 8000

theorem Two.mod1 {w0 W w' : World} {g1 g2 : Nat} {u1 u1' u2 : Value} {xs ys zs : List Int} (t : Two w0 W g1 g2 u1 u2 xs ys) (n : Num w0.heap.size w' g1 u1' zs) (ho : u1'.ownBlock = u1.ownBlock) (m : Mod (fun i => i = g1) W w') : Two w0 w' g1 g2 u1' u2 zs ys :=
  ⟨n, t.n2.mod m (fun e => t.ne e.symm) (fun i hi e => t.o21 (by rw [hi, e])), t.ne, by rw [ho]; exact t.o12, t.o21, by rw [ho]; exact t.oo, t.k.mod m (fun i e => by rw [e]; exact t.b1), t.b1, t.b2⟩

theorem sub_put (zs ys : List Int) (i : Nat) (hi : i < zs.length) (c c' l D y : Int) (hy : val (ys.drop i) = y + 65536 * val (ys.drop (i + 1))) (hl : l = zs.getD i 0 - y - c + 65536 * c') (h : val zs - 65536 ^ i * (c + val (ys.drop i)) = D) :
    val (zs.set i l) - 65536 ^ (i + 1) * (c' + val (ys.drop (i + 1))) = D := by
  rw [val_set _ _ _ hi, ← h, Int.pow_succ, hy]
  have e : l - zs.getD i 0 - 65536 * (c' + val (ys.drop (i + 1))) = - (c + (y + 65536 * val (ys.drop (i + 1)))) := by omega
  have key : ∀ P A B : Int, P * A - P * 65536 * B = P * (A - 65536 * B) := fun P A B => by rw [Int.mul_sub, Int.mul_assoc]
  have e2 := key (65536 ^ i) (l - zs.getD i 0) (c' + val (ys.drop (i + 1)))
  rw [e, Int.mul_neg] at e2
  omega

set_option maxHeartbeats 4000000 in
theorem subtract_two {w0 w : World} {g1 g2 : Nat} {xs ys : List Int} (h : ∃ u1 u2, Two w0 w g1 g2 u1 u2 xs ys) (hx : Nrm xs) (hy : Nrm ys) (hl1 : xs.length ≤ 100000) (hle : val ys ≤ val xs) :
    Calls Tryz.prog 220 #[.pointer (some ⟨g1, 0, none⟩), .pointer (some ⟨g2, 0, none⟩)] w fun e w' => (∃ r, e = .returned r) ∧ ∃ u1 u2, Two w0 w' g1 g2 u1 u2 (limbs (val xs - val ys).toNat) ys := by
  obtain ⟨u1, u2, t0⟩ := h
  obtain ⟨a2, c2, rfl⟩ := t0.n2.form
  generalize hD : val xs - val ys = D
  have HD0 : Hid (0 ≤ D) := by show _ ≤ _; omega
  have HY := hide hy
  have HS0 : Hid (val xs - 65536 ^ 0 * (0 + val (ys.drop 0)) = D) := by show _ = _; simp; exact hD
  have hylim := hy.1
  have hM := t0.n2.row.len
  unfold maxLen at hM
  clear hD hy hle
  go_enter Tryz.func220, Tryz.ntmps220
  go_wp2
  go_loopw [4, 5] (fun cc ii wr => ∃ (zs : List Int) (c i : Nat) (v : Value), cc = .int .i64 c ∧ ii = .int .i64 i ∧ c ≤ 1 ∧ i ≤ zs.length ∧ zs.length = xs.length ∧ Lim zs ∧ Hid (val zs - 65536 ^ i * (c + val (ys.drop i)) = D) ∧ Two w0 wr g1 g2 v (.slice a2 ys.length c2) zs ys) (fun _ ii _ => xs.length + 1 - (intOf ii).toNat)
  case atStart => exact ⟨xs, 0, 0, u1, rfl, rfl, by omega, by omega, rfl, hx.1, HS0, t0⟩
  case round =>
    clear t0 HS0
    obtain ⟨zs, c, i, v, rfl, rfl, hc1, hiz, hzx, hlim, hval, t⟩ := hrel
    have hce2 := t.n2.cell
    by_cases hgo : i < ys.length ∨ 0 < c
    · have hi : i < zs.length := by
        have hD : 1 ≤ (c : Int) + val (ys.drop i) := by
          rcases hgo with h | h
          · have := drop_pos (unhide HY) i h; omega
          · have := val_nonneg ((unhide HY).1.drop i); omega
        have e1 := unhide hval
        have e2 := val_lt hlim
        have e3 : (65536 : Int) ^ i * 1 ≤ 65536 ^ i * (c + val (ys.drop i)) := Int.mul_le_mul_of_nonneg_left hD (Int.le_of_lt (Int.pow_pos (by decide)))
        have e4 := unhide HD0
        rcases Nat.lt_or_ge i zs.length with h | h
        · exact h
        · have := pow_mono (a := zs.length) (b := i) h
          omega
      have HZX := hide hzx
      have hzl : zs.length ≤ 100000 := by omega
      clear hzx
      obtain ⟨gb, cap, rfl, hxz, hfz, hgb⟩ := t.n1.at i hi
      have hce1 := t.n1.cell
      by_cases hgo2 : i < ys.length
      · have hgo' : (i : Int) < (ys.length : Int) := by omega
        go_wp2
        have hzr := hlim.at i
        have hyr := hylim.at i
        have hyd := val_drop ys i
        have hput := fun (c' l : Int) (h : l = zs.getD i 0 - ys.getD i 0 - c + 65536 * c') => sub_put zs ys i hi c c' l D _ hyd h (unhide hval)
        have hsetl := fun z (h0 : 0 ≤ z) (h1 : z ≤ 65535) => hlim.set i h0 h1
        have hatc := fun n => at_impl (wr.drewN n) (t.n2.kept ((Kept.refl 0 0 _).drewN n)) i (by omega)
        have HAT := hide hatc
        have tp := fun n z => (t.kept ((Kept.refl 0 0 _).drewN n)).put (j := i) rfl z
        have TP := hide tp
        have HSL := hide hsetl
        have hlenset : ∀ z, (zs.set i z).length = zs.length := fun z => by rw [List.length_set]
        have HLS := hide hlenset
        generalize hz : zs.getD i 0 = z at *
        generalize hy2 : ys.getD i 0 = y at *
        have HP := hide hput
        have hlt2 : (i : Int) < ((zs.length : Nat) : Int) := by omega
        clear hatc tp hput hyd hz hy2 t hlim hval hsetl hlenset
        by_cases hneg : z - y - (c : Int) < 0
        · go_quiet ((go_at_call 204; exact (unhide HAT _).mono (fun e w' h => ⟨h.1, _, h.2⟩)))
          go_wp2
          go_roundw
          case rel => exact ⟨zs.set i (z - y - c + 65536), 1, i + 1, _, rfl, by go_num, by omega, by rw [unhide HLS]; omega, by rw [unhide HLS]; exact unhide HZX, unhide HSL _ (by omega) (by omega), unhide HP 1 _ (by omega), unhide TP _ _⟩
          case measure => have := unhide HZX; simp [intOf]; omega
        · go_quiet ((go_at_call 204; exact (unhide HAT _).mono (fun e w' h => ⟨h.1, _, h.2⟩)))
          go_wp2
          go_roundw
          case rel => exact ⟨zs.set i (z - y - c), 0, i + 1, _, rfl, by go_num, by omega, by rw [unhide HLS]; omega, by rw [unhide HLS]; exact unhide HZX, unhide HSL _ (by omega) (by omega), unhide HP 0 _ (by omega), unhide TP _ _⟩
          case measure => have := unhide HZX; simp [intOf]; omega
      · have hgo' : ¬ (i : Int) < (ys.length : Int) := by omega
        have hgo3 : (0 : Int) < (c : Int) := by omega
        go_wp2
        have hzr := hlim.at i
        have hyr := hylim.at i
        have hyd := val_drop ys i
        have hput := fun (c' l : Int) (h : l = zs.getD i 0 - ys.getD i 0 - c + 65536 * c') => sub_put zs ys i hi c c' l D _ hyd h (unhide hval)
        have hsetl := fun z (h0 : 0 ≤ z) (h1 : z ≤ 65535) => hlim.set i h0 h1
        have hatc := fun n => at_impl (wr.drewN n) (t.n2.kept ((Kept.refl 0 0 _).drewN n)) i (by omega)
        have HAT := hide hatc
        have tp := fun n z => (t.kept ((Kept.refl 0 0 _).drewN n)).put (j := i) rfl z
        have TP := hide tp
        have HSL := hide hsetl
        have hlenset : ∀ z, (zs.set i z).length = zs.length := fun z => by rw [List.length_set]
        have HLS := hide hlenset
        generalize hz : zs.getD i 0 = z at *
        generalize hy2 : ys.getD i 0 = y at *
        have HP := hide hput
        have hlt2 : (i : Int) < ((zs.length : Nat) : Int) := by omega
        clear hatc tp hput hyd hz hy2 t hlim hval hsetl hlenset
        by_cases hneg : z - y - (c : Int) < 0
        · go_quiet ((go_at_call 204; exact (unhide HAT _).mono (fun e w' h => ⟨h.1, _, h.2⟩)))
          go_wp2
          go_roundw
          case rel => exact ⟨zs.set i (z - y - c + 65536), 1, i + 1, _, rfl, by go_num, by omega, by rw [unhide HLS]; omega, by rw [unhide HLS]; exact unhide HZX, unhide HSL _ (by omega) (by omega), unhide HP 1 _ (by omega), unhide TP _ _⟩
          case measure => have := unhide HZX; simp [intOf]; omega
        · go_quiet ((go_at_call 204; exact (unhide HAT _).mono (fun e w' h => ⟨h.1, _, h.2⟩)))
          go_wp2
          go_roundw
          case rel => exact ⟨zs.set i (z - y - c), 0, i + 1, _, rfl, by go_num, by omega, by rw [unhide HLS]; omega, by rw [unhide HLS]; exact unhide HZX, unhide HSL _ (by omega) (by omega), unhide HP 0 _ (by omega), unhide TP _ _⟩
          case measure => have := unhide HZX; simp [intOf]; omega
    · have hgo1 : ¬ (i : Int) < (ys.length : Int) := by omega
      have hc0 : c = 0 := by omega
      subst hc0
      have e1 := unhide hval
      rw [List.drop_of_length_le (by omega)] at e1
      simp [val] at e1
      have n1 := t.n1
      obtain ⟨a1, d1, rfl⟩ := n1.form
      have TT := hide t
      have HE := hide e1
      clear t hval e1
      go_wp2_with fail
      refine (trim_impl _ n1 hlim).mono ?_
      rintro e w6 ⟨⟨r6, rfl⟩, u6, n6, ho6, m6⟩
      have T6 := hide ((unhide TT).mod1 n6 ho6 m6)
      rw [unhide HE] at T6
      clear n1 n6 ho6 m6 TT
      go_wp2
      exact bodyPost_end (v := .tuple #[]) (by simp [results, Tryz.results220, go_sem]) rfl ⟨⟨_, rfl⟩, _, _, unhide T6⟩

end Go.Proofs.YthahoabkehcgbaaGreatDoor

namespace Go.Proofs.YthahoabkehcgbaaGreatDoor
open Go.RowKit
set_option linter.unusedVariables false
set_option maxRecDepth 8000

/-- A list of the call's own, newer than w; nothing that was there has changed. -/
structure Fresh (w wr : World) (v : Value) (zs : List Int) : Prop where
  own : wr.ownsRow w.heap.size 3 1 v zs.length (zs.map (Value.int .i64))
  k : Kept 0 0 w wr

theorem Fresh.drewN {w wr : World} {v : Value} {zs : List Int} (h : Fresh w wr v zs) (n : Nat) : Fresh w (wr.drewN n) v zs := ⟨own_kept h.own ((Kept.refl 0 0 wr).drewN n), h.k.drewN n⟩
theorem Fresh.put {w wr : World} {g n c : Nat} {zs : List Int} (h : Fresh w wr (.slice (some ⟨g, 0, none⟩) n c) zs) (hn : n = zs.length) (j : Nat) (z : Int) : Fresh w (wr.setCell ⟨g, j, none⟩ (.int .i64 z)) (.slice (some ⟨g, 0, none⟩) n c) (zs.set j z) := by
  subst hn
  exact ⟨own_set h.own j z, h.k.setNew (p := ⟨g, j, none⟩) (h.own.lt g rfl).1 _⟩
theorem Fresh.at {w wr : World} {g n c : Nat} {zs : List Int} (h : Fresh w wr (.slice (some ⟨g, 0, none⟩) n c) zs) (hn : n = zs.length) (j : Nat) (hj : j < n) :
    wr.cell? ⟨g, j, none⟩ = some (.int .i64 (zs.getD j 0)) ∧ wr.frozen? ⟨g, j, none⟩ = false := by
  subst hn
  exact own_cell h.own j hj
theorem made_fresh {w wr w' : World} {n : Nat} (k : Kept 0 0 w wr) (hown : w'.ownsRow w.heap.size 3 1 (.slice (some ⟨wr.heap.size, 0, none⟩) n n) n (madeCells (Value.int .i64 0).cells (n * 1)).toList) (hgrow : wr.grownBy w' none) : Fresh w w' (.slice (some ⟨wr.heap.size, 0, none⟩) n n) (List.replicate n 0) := by
  rw [made_zero] at hown
  exact ⟨by simpa using hown, k.trans ⟨hgrow.os, hgrow.tape, hgrow.output, hgrow.size, fun i hi _ => hgrow.block i hi (by simp)⟩⟩

set_option maxHeartbeats 8000000 in
theorem multiply_impl {b1 b2 g1 g2 : Nat} {v1 v2 : Value} {xs ys : List Int} (w : World) (n1 : Num b1 w g1 v1 xs) (n2 : Num b2 w g2 v2 ys) (hx : Lim xs) (hy : Lim ys) (nx : xs.length ≤ 100000) (ny : ys.length ≤ 100000) :
    Calls Tryz.prog 255 #[.pointer (some ⟨g1, 0, none⟩), .pointer (some ⟨g2, 0, none⟩)] w fun e w' => (∃ r, e = .returned r) ∧ ∃ u, Num w.heap.size w' g1 u (limbs (val xs * val ys).toNat) ∧ Mod (fun i => i = g1) w w' := by
  obtain ⟨M, hM⟩ : ∃ M, M = xs.length := ⟨_, rfl⟩
  obtain ⟨N, hN⟩ : ∃ N, N = ys.length := ⟨_, rfl⟩
  obtain ⟨a1, c1, hv1⟩ := n1.form
  obtain ⟨a2, c2, hv2⟩ := n2.form
  rw [← hM] at hv1
  rw [← hN] at hv2
  subst hv1
  subst hv2
  have hnx : M ≤ 100000 := by omega
  have hny : N ≤ 100000 := by omega
  have HM := hide hM
  have HN := hide hN
  have N1 := hide n1
  have N2 := hide n2
  clear hM hN nx ny n1 n2
  obtain ⟨P, HP⟩ : ∃ P, Hid (val xs * val ys = P) := ⟨_, rfl⟩
  obtain ⟨T, hT⟩ : ∃ T, T = M + N := ⟨_, rfl⟩
  have hnT : T ≤ 200000 := by omega
  have HT := hide hT
  have hTT : (M : Int) + (N : Int) = (T : Int) := by omega
  have HA1 := hide ((row_cell (unhide N1).row).2.2.2)
  have HA2 := hide ((row_cell (unhide N2).row).2.2.2)
  clear hT
  obtain ⟨i0, hi0, hz0, hz1, hz2⟩ := info_parts Tryz.info3'
  obtain ⟨w2, hrun, hown2, hgrow2⟩ := run_make_full (P := Tryz.prog) w.drew w.heap.size 39 3 i0 (.int .i64 0) 1 Tryz.underlying39 hi0 hz0 hz1 .i64 .i64 T (by rw [hz2]; omega) (by unfold maxLen; omega) (Nat.le_refl _)
  have hf0 := made_fresh (Kept.refl 0 0 w).drew hown2 hgrow2
  have HF := hide hf0
  have hce1 := hf0.k.cell0 (unhide N1).cell
  have hce2 := hf0.k.cell0 (unhide N2).cell
  have hce1w := (unhide N1).cell
  have hce2w := (unhide N2).cell
  obtain ⟨G, hG0⟩ : ∃ G, G = w.drew.heap.size := ⟨_, rfl⟩
  rw [← hG0] at hrun HF
  clear hown2 hgrow2 hf0 hG0 hi0 hz0 hz1 hz2
  go_enter Tryz.func255, Tryz.ntmps255
  go_wp2
  go_region
  clear hrun
  go_wp2
  clear hce1 hce2 hce1w hce2w
  go_loopw [29] (fun ii wr => ∃ (ss : List Int) (i : Nat), ii = .int .i64 (i : Int) ∧ i ≤ M ∧ ss.length = T ∧ Bnd ((i : Int) * 4294836225) ss ∧ Hid (val ss = val (xs.take i) * val ys) ∧ Fresh w wr (.slice (some ⟨G, 0, none⟩) T T) ss) (fun ii _ => M - (intOf ii).toNat)
  case atStart => exact ⟨List.replicate T 0, 0, rfl, Nat.zero_le _, by simp, by simpa using Bnd.zeros T, by show _ = _; rw [val_zeros]; simp [val], unhide HF⟩
  case round =>
    clear HF
    obtain ⟨ss, i, rfl, hi, hs, hb, hV, hf⟩ := hrel
    have hce2 := hf.k.cell0 (unhide N2).cell
    by_cases hA : i < M
    · have hi1 : (i : Int) < (M : Int) := by omega
      have hx0 := hx.at i
      obtain ⟨gA, oA, rfl, x1⟩ := unhide HA1 i (by have := unhide HM; omega)
      have x1' := hf.k.cell0 x1
      have hts := val_take_succ xs i (by rw [← unhide HM]; omega)
      have HTS := hide hts
      have HF2 := hide hf
      have HV := hide (unhide hV)
      have HB := hide hb
      generalize hva : xs.getD i 0 = va at *
      have HVA := hide hva
      clear hts hV hva x1 hf hb
      go_wp2
      clear hce2 x1'
      go_loopw [39] (fun kk wr => ∃ (ss' : List Int) (k : Nat), kk = .int .i64 (k : Int) ∧ k ≤ N ∧ ss'.length = T ∧ Hid (Bnd ((i : Int) * 4294836225 + 4294836225) ss') ∧ Hid (∀ q, i + k ≤ q → ss'.getD q 0 ≤ (i : Int) * 4294836225) ∧ Hid (val ss' = val (xs.take i) * val ys + 65536 ^ i * (va * val (ys.take k))) ∧ Fresh w wr (.slice (some ⟨G, 0, none⟩) T T) ss') (fun kk _ => N - (intOf kk).toNat)
      case atStart => exact ⟨ss, 0, rfl, Nat.zero_le _, hs, hide ((unhide HB).more (by omega)), hide (fun q _ => (unhide HB q).2), by show _ = _; rw [unhide HV]; simp [val], unhide HF2⟩
      case round =>
        clear HF2 HV HB hs ss
        obtain ⟨ss, k, rfl, hk, hs, hb, hq, hV, hf⟩ := hrel
        by_cases hB : k < N
        · obtain ⟨gB, oB, rfl, x2⟩ := unhide HA2 k (by have := unhide HN; omega)
          replace x2 := hf.k.cell0 x2
          have hy0 := hy.at k
          have hik : i + k < T := by have := unhide HT; omega
          obtain ⟨y1, y2⟩ := hf.at hs.symm (i + k) hik
          have hV2 := msum_step ss ys i k (by omega) va _ (by rw [← unhide HN]; omega) (unhide hV)
          have hvo0 := (unhide hb (i + k)).1
          have hvo1 := unhide hq (i + k) (Nat.le_refl _)
          generalize hvb : ys.getD k 0 = vb at *
          generalize hvo : ss.getD (i + k) 0 = vo at *
          have hp := limb_mul hx0 hy0
          have hb2 := (unhide hb).set (Int.le_refl _) (i + k) (by omega) (z := vo + va * vb) (by omega) (by omega)
          have HB2 := hide hb2
          have HQ2 : Hid (∀ q, i + (k + 1) ≤ q → (ss.set (i + k) (vo + va * vb)).getD q 0 ≤ (i : Int) * 4294836225) := fun q h => by rw [getD_set_ne _ _ _ _ (by omega)]; exact unhide hq q (by omega)
          have HV2 := hide hV2
          have hi2 : (k : Int) < (N : Int) := by omega
          have hij : (i : Int) + (k : Int) < (T : Int) := by omega
          have hij0 : 0 ≤ (i : Int) + (k : Int) := by omega
          have hX : 0 ≤ vo + va * vb ∧ vo + va * vb ≤ 4294836225 * 100001 := by omega
          have hls : (ss.set (i + k) (vo + va * vb)).length = T := by simpa using hs
          have HLS := hide hls
          have hpt := hide (fun n => (hf.drewN n).put hs.symm (i + k) (vo + va * vb))
          have hp0 := hide (hf.put hs.symm (i + k) (vo + va * vb))
          clear hV hV2 hb hb2 hq hvb hvo hf hs hls
          go_wp2
          go_roundw
          case rel => exact ⟨_, k + 1, by go_num, by omega, unhide HLS, HB2, HQ2, HV2, by first | exact unhide hp0 | exact unhide hpt _⟩
          case measure => simp [intOf]; omega
        · have hkN : k = N := by omega
          subst hkN
          have HV2 : Hid (val ss = val (xs.take (i + 1)) * val ys) := by
            show _ = _
            have e := unhide hV
            rw [List.take_of_length_le (Nat.le_of_eq (unhide HN).symm)] at e
            rw [e, unhide HTS, Int.add_mul, Int.mul_assoc]
          have hi2 : ¬ (k : Int) < (k : Int) := by omega
          have HB2 : Hid (Bnd (((i + 1 : Nat) : Int) * 4294836225) ss) := by
            have e : ((i + 1 : Nat) : Int) * 4294836225 = (i : Int) * 4294836225 + 4294836225 := by omega
            rw [e]; exact unhide hb
          have HF3 := hide hf
          clear hV hb hq hf
          go_wp2
          go_roundw
          case rel => exact ⟨ss, i + 1, by go_num, by omega, hs, unhide HB2, HV2, unhide HF3⟩
          case measure => simp [intOf]; omega
    · have hiM : i = M := by omega
      have hV' := unhide hV
      rw [List.take_of_length_le (by rw [← unhide HM]; omega)] at hV'
      have hi1 : ¬ (i : Int) < (M : Int) := by omega
      have HB3 := hide (hb.more (B' := 429483622500000) (by omega))
      have HV3 : Hid (val ss + 65536 ^ 0 * 0 = P) := by show _ = _; rw [hV', unhide HP]; simp
      have HF3 := hide hf
      clear hV hV' hb hf hiM hce2
      go_wp2
      go_loopw [9, 59] (fun cc ii wr => ∃ (zs : List Int) (c : Int) (i : Nat), cc = .int .i64 c ∧ ii = .int .i64 (i : Int) ∧ i ≤ T ∧ 0 ≤ c ∧ c ≤ 1000000000000000 ∧ zs.length = T ∧ Hid (Bnd 429483622500000 zs) ∧ Hid (∀ q, q < i → zs.getD q 0 ≤ 65535) ∧ Hid (val zs + 65536 ^ i * c = P) ∧ Fresh w wr (.slice (some ⟨G, 0, none⟩) T T) zs) (fun _ ii _ => T - (intOf ii).toNat)
      case atStart => exact ⟨ss, 0, 0, rfl, rfl, Nat.zero_le _, Int.le_refl _, by omega, hs, HB3, hide (fun q h => by omega), HV3, unhide HF3⟩
      case round =>
        clear HF3 HV3 HB3 hs ss hi1 hA hi
        obtain ⟨zs, c, i, rfl, rfl, hi, hc0, hc1, hs, hb, hq, hV, hf⟩ := hrel
        by_cases hB : i < T
        · obtain ⟨y1, y2⟩ := hf.at hs.symm i hB
          have hV2 := carry_step zs i (by omega) c P _ rfl (unhide hV)
          have hz0 := unhide hb i
          generalize hzz : zs.getD i 0 = z at *
          have hb2 := (unhide hb).set (Int.le_refl _) i (by omega) (z := (z + c) % 65536) (by omega) (by omega)
          have HB2 := hide hb2
          have HQ2 : Hid (∀ q, q < i + 1 → (zs.set i ((z + c) % 65536)).getD q 0 ≤ 65535) := fun q h => by
            by_cases e : q = i
            · subst e; rw [getD_set_eq _ _ _ (by omega)]; omega
            · rw [getD_set_ne _ _ _ _ e]; exact unhide hq q (by omega)
          have HV2 := hide hV2
          have hi2 : (i : Int) < (T : Int) := by omega
          have hX : 0 ≤ z + c ∧ z + c ≤ 1429483622500000 := by omega
          have et : (z + c).tmod 65536 = (z + c) % 65536 := by rw [Int.tmod_eq_emod_of_nonneg (by omega)]
          have ed : (z + c).tdiv 65536 = (z + c) / 65536 := by rw [Int.tdiv_eq_ediv_of_nonneg (by omega)]
          have hls : (zs.set i ((z + c) % 65536)).length = T := by simpa using hs
          have HLS := hide hls
          have hdv : 0 ≤ (z + c) / 65536 ∧ (z + c) / 65536 ≤ 1000000000000000 := by omega
          have hpt := hide (fun n => (hf.drewN n).put hs.symm i ((z + c) % 65536))
          have hp0 := hide (hf.put hs.symm i ((z + c) % 65536))
          clear hV hV2 hb hb2 hq hzz hf hs hls
          go_wp2
          go_roundw
          case rel => exact ⟨_, (z + c) / 65536, i + 1, by first | rfl | go_num, by go_num, by omega, hdv.1, hdv.2, unhide HLS, HB2, HQ2, HV2, by first | exact unhide hp0 | exact unhide hpt _⟩
          case measure => simp [intOf]; omega
        · have hiT : i = T := by omega
          subst hiT
          have hlim : Lim zs := lim_of_at (fun q h => ⟨(unhide hb q).1, unhide hq q (by omega)⟩)
          have hv := carry_end hlim hc0 (P := P) (by rw [hs, unhide HT, unhide HM, unhide HN, ← unhide HP]; exact mul_lt_pow hx hy) (by rw [hs]; exact unhide hV)
          have hi2 : ¬ (i : Int) < (i : Int) := by omega
          have hlt1 := (unhide N1).lt
          have hG := (hf.own.lt G rfl).1
          have hc1' := hf.k.cell0 (unhide N1).cell
          have hf1' := hf.k.loose0 (a := ⟨g1, 0, none⟩) hlt1 (unhide N1).loose
          have hown := hf.own
          rw [hs] at hown
          have hnum : Num w.heap.size (wr.setCell ⟨g1, 0, none⟩ (.slice (some ⟨G, 0, none⟩) i i)) g1 (.slice (some ⟨G, 0, none⟩) i i) zs :=
            ⟨cell_on _ _ _ _ _ hc1', by rw [frozen_set]; exact hf1', by rw [hs]; exact own_apart hown (p := ⟨g1, 0, none⟩) (by simp [Value.ownBlock]; omega) _, by simp [Value.ownBlock]; omega⟩
          have hmod : Mod (fun i => i = g1) w (wr.setCell ⟨g1, 0, none⟩ (.slice (some ⟨G, 0, none⟩) i i)) := Mod.set (S := fun i => i = g1) hf.k.toMod (p := ⟨g1, 0, none⟩) (.inl rfl) _
          have NU := hide hnum
          have MO := hide hmod
          have HVV := hide hv
          have HLI := hide hlim
          clear hnum hmod hv hlim hown hf hb hq hV
          go_wp2_with fail
          refine (trim_impl _ (unhide NU) (unhide HLI)).mono ?_
          rintro e w6 ⟨⟨r6, rfl⟩, u6, n6, ho6, m6⟩
          have N6 := hide n6
          rw [unhide HVV, ← unhide HP] at N6
          have M6 := hide ((unhide MO).trans m6)
          clear n6 ho6 m6
          go_wp2
          exact bodyPost_end (v := .tuple #[]) (by simp [results, Tryz.results255, go_sem]) rfl ⟨⟨_, rfl⟩, _, unhide N6, unhide M6⟩

end Go.Proofs.YthahoabkehcgbaaGreatDoor
