/-
  The program's root of a list that may begin behind its block's first cell.
-/
import Derived.Test.YtadbdchjhglldaaGreatDoorBO
import Derived.Test.YtadbdchjhglldaaGreatDoorBN
import Derived.Test.YtadbdchjhglldaaGreatDoorFlW
import Derived.Test.YtadbdchjhglldaaGreatDoorBI
import Derived.Test.YtadbdchjhglldaaGreatDoorBC
import Derived.Test.YtadbdchjhglldaaGreatDoorBF
import Derived.Deep.DeepCutAuto
namespace Go.Proofs.YtadbdchjhglldaaGreatDoor
open Go.RowKit
set_option linter.unusedVariables false
set_option maxRecDepth 8000
set_option linter.unusedSimpArgs false

set_option maxHeartbeats 1000000 in
theorem copied_work {b g : Nat} {v : Value} {zs : List Int} (w : World) (h : Work b w g v zs) (hlen : zs.length ≤ 1000000) :
    Calls Tryz.prog 64 #[.pointer (some ⟨g, 0, none⟩)] w fun e w' => ∃ v', e = .returned (.agg #[v']) ∧ w'.ownsRow w.heap.size 3 1 v' zs.length (zs.map (Value.int .i64)) ∧ Kept 0 0 w w' := by
  have s1 := h.row.kept ((Kept.refl 0 0 w).alloc (.cells #[.slice none 0 0] 65)) (by omega)
  obtain ⟨a1, c1, rfl⟩ := h.form
  have hce := old_cell (.cells #[.slice none 0 0] 65) h.cell
  clear h
  go_enter Tryz.func64, Tryz.ntmps64
  go_wp2_with fail
  generalize hW : w.alloc (.cells #[.slice none 0 0] 65) = W at *
  have c2' : W.cell? ⟨w.heap.size, 0, none⟩ = some (.slice none 0 0) := by rw [← hW]; exact new_cell_at _ _ _ _ rfl
  have f2' : W.frozen? ⟨w.heap.size, 0, none⟩ = false := by rw [← hW]; exact new_loose _ _ _ _ rfl
  have hs : W.heap.size = w.heap.size + 1 := by rw [← hW]; simp
  have hk : Kept 0 0 w W := by rw [← hW]; exact (Kept.refl 0 0 w).alloc _
  clear hW
  refine (clone_impl _ s1 hlen).mono ?_
  rintro e w6 ⟨v6, rfl, o6, k6⟩
  have c4 := k6.cell0 c2'
  have f4 := k6.loose0 (by simp; omega) f2'
  have O : Hid ((w6.setCell ⟨w.heap.size, 0, none⟩ v6).ownsRow w.heap.size 3 1 v6 zs.length (zs.map (Value.int .i64))) := own_less (ownsRow_setCell_below o6 (a := ⟨w.heap.size, 0, none⟩) (by simp; omega) v6) (by omega)
  have K : Hid (Kept 0 0 w (w6.setCell ⟨w.heap.size, 0, none⟩ v6)) := (hk.trans k6).setNew (p := ⟨w.heap.size, 0, none⟩) (by simp) _
  obtain ⟨a6, c6, rfl⟩ := own_slice o6
  clear s1 c2' f2' hs hk k6 o6 hce
  go_wp2
  exact bodyPost_ret (v := .agg #[.slice a6 zs.length c6]) (by simp [results, Tryz.results64, go_sem, c4]) rfl ⟨_, rfl, unhide O, unhide K⟩

set_option maxHeartbeats 4000000 in
theorem compare_work {b1 b2 g1 g2 : Nat} {v1 v2 : Value} {xs ys : List Int} (w : World) (n1 : Num b1 w g1 v1 xs) (n2 : Work b2 w g2 v2 ys) (hx : Nrm xs) (hy : Nrm ys) :
    Calls Tryz.prog 66 #[.pointer (some ⟨g1, 0, none⟩), .pointer (some ⟨g2, 0, none⟩)] w fun e w' => e = .returned (.int .i64 (cmpI (val xs) (val ys))) ∧ Kept 0 0 w w' := by
  obtain ⟨M, hM⟩ : ∃ M, M = xs.length := ⟨_, rfl⟩
  obtain ⟨N, hN⟩ : ∃ N, N = ys.length := ⟨_, rfl⟩
  have hc1 := n1.cell
  have hc2 := n2.cell
  have m1 := n1.row.len
  have m2 := n2.row.len
  unfold maxLen at m1 m2
  rw [← hM] at m1
  rw [← hN] at m2
  by_cases hlen : M = N
  · subst hlen
    generalize hR : cmpI (val xs) (val ys) = R
    have HR := hide hR
    clear hR
    have hat1 := n1.at
    have hat2 := n2.at
    obtain ⟨a1, c1, rfl⟩ := n1.form
    obtain ⟨a2, c2, rfl⟩ := n2.form
    rw [← hM] at hc1 hat1
    rw [← hN] at hc2 hat2
    have hbe : ((M : Int) != (M : Int)) = false := by simp
    have HM := hide hM
    have HN := hide hN
    clear n1 n2 hM hN
    go_enter Tryz.func66, Tryz.ntmps66
    go_wp2
    go_quiet (fail)
    go_wp2
    go_loopw [5] (fun i wr => ∃ k n : Nat, k ≤ M ∧ i = .int .i64 ((k : Int) - 1) ∧ Hid (val (xs.drop k) = val (ys.drop k)) ∧ wr = w.drewN n) (fun i _ => (intOf i + 1).toNat)
    case atStart => exact ⟨M, _, Nat.le_refl _, rfl, by
      have h1 := unhide HM
      have h2 := unhide HN
      show _ = _
      rw [List.drop_of_length_le (by omega), List.drop_of_length_le (by omega)], rfl⟩
    case round =>
      obtain ⟨k, n, hk, rfl, heq, rfl⟩ := hrel
      by_cases h0 : k = 0
      · subst h0
        have hR := unhide HR
        rw [cmpI_eq (by simpa using unhide heq)] at hR
        subst hR
        clear hat1 hat2
        go_wp2
        go_ret
        exact ⟨rfl, (Kept.refl 0 0 w).drewN n⟩
      · obtain ⟨j, rfl⟩ : ∃ j, k = j + 1 := ⟨k - 1, by omega⟩
        obtain ⟨y1, d1, e1, x1, -, -⟩ := hat1 j (by omega)
        obtain ⟨y2, o2, d2, e2, -, x2, -, -, -⟩ := hat2 j (by omega)
        cases e1
        cases e2
        have e1 : ((j + 1 : Nat) : Int) - 1 = j := by omega
        rw [e1]
        have hd1 := val_drop xs j
        have hd2 := val_drop ys j
        have heq' := unhide heq
        have hlen : xs.length = ys.length := by rw [← unhide HM, ← unhide HN]
        have hlt := val_lt_of_drop hx.1 hy.1 hlen j (by have := unhide HM; omega)
        have hgt := val_lt_of_drop hy.1 hx.1 hlen.symm j (by have := unhide HN; omega)
        generalize hz1 : xs.getD j 0 = z1 at *
        generalize hz2 : ys.getD j 0 = z2 at *
        have hj1 : (j : Int) < (M : Int) := by omega
        clear hlen hat1 hat2 heq hz1 hz2
        by_cases ce : z1 = z2
        · have HE : Hid (val (xs.drop j) = val (ys.drop j)) := by show _ = _; omega
          have hne : (z1 != z2) = false := by simp [ce]
          clear hd1 hd2 hlt hgt heq' ce
          go_wp2
          go_quiet (fail)
          go_wp2
          go_roundw
          case rel => exact ⟨j, _, by omega, by go_num, HE, rfl⟩
          case measure => simp [intOf]
        · have hne : (z1 != z2) = true := by simp [ce]
          have hRz : cmpI z1 z2 = R := by
            rw [← unhide HR]
            by_cases hc : z1 < z2
            · rw [cmpI_lt hc, cmpI_lt (hlt (by omega))]
            · rw [cmpI_gt (by omega), cmpI_gt (hgt (by omega))]
          have HRZ := hide hRz
          have hcl := fun w => cmp_impl z1 z2 w
          have HC := hide hcl
          clear hd1 hd2 hlt hgt heq' ce hRz hcl
          go_wp2
          go_quiet (fail)
          go_wp2
          go_quiet ((go_at_call 97; exact (unhide HC _).mono (fun e w' h => ⟨h.1, _, h.2⟩)))
          go_wp2
          go_ret
          exact ⟨by rw [← unhide HRZ]; rfl, (((Kept.refl 0 0 w).drewN _).drewN _).drewN _⟩
  · have hne : ((M : Int) != (N : Int)) = true := by simp; omega
    have hR : cmpI (M : Int) (N : Int) = cmpI (val xs) (val ys) := by
      by_cases hlt : M < N
      · rw [cmpI_lt (val_lt_of_len hx.1 hy (by omega)), cmpI_lt (by omega)]
      · rw [cmpI_gt (val_lt_of_len hy.1 hx (by omega)), cmpI_gt (by omega)]
    obtain ⟨a1, c1, rfl⟩ := n1.form
    obtain ⟨a2, c2, rfl⟩ := n2.form
    rw [← hM] at hc1
    rw [← hN] at hc2
    rw [← hR]
    have hcl := fun w => cmp_impl (M : Int) (N : Int) w
    have HC := hide hcl
    clear n1 n2 hM hN hcl hR hlen
    go_enter Tryz.func66, Tryz.ntmps66
    go_wp2
    go_quiet (fail)
    go_wp2
    go_quiet ((go_at_call 97; exact (unhide HC _).mono (fun e w' h => ⟨h.1, _, h.2⟩)))
    go_wp2
    go_ret
    exact ⟨rfl, ((Kept.refl 0 0 w).drewN _).drewN _⟩

theorem Num.setTo {b b' g : Nat} {w : World} {v v' : Value} {zs ys : List Int} (h : Num b w g v zs) (o : w.ownsRow b' 3 1 v' ys.length (ys.map (Value.int .i64))) (ha : v'.ownBlock ≠ some g) : Num b' (w.setCell ⟨g, 0, none⟩ v') g v' ys :=
  ⟨cell_on _ _ _ _ _ h.cell, by rw [frozen_set]; exact h.loose, own_apart o (p := ⟨g, 0, none⟩) ha _, ha⟩

set_option maxHeartbeats 8000000 in
theorem root_work {b g : Nat} {v : Value} {xs : List Int} (w : World) (n0 : Work b w g v xs) (hx : Nrm xs) (nx : xs.length ≤ 1000) :
    Calls Tryz.prog 63 #[.pointer (some ⟨g, 0, none⟩)] w fun e w' => ∃ v', e = .returned (.agg #[v']) ∧ w'.ownsRow w.heap.size 3 1 v' (limbs (rootN (val xs).toNat)).length ((limbs (rootN (val xs).toNat)).map (Value.int .i64)) ∧ Kept 0 0 w w' := by
  obtain ⟨N, hN⟩ : ∃ N : Nat, N = (val xs).toNat := ⟨_, rfl⟩
  rw [← hN]
  have hb := nrm_bits hx nx
  rw [← hN] at hb
  have hv0 := val_nonneg hx.1
  have HN := hide hN
  clear hN
  have k0 : Kept 0 0 w (w.alloc (.cells #[.slice none 0 0] 65)) := (Kept.refl 0 0 w).alloc _
  have cR : (w.alloc (.cells #[.slice none 0 0] 65)).cell? ⟨w.heap.size, 0, none⟩ = some (.slice none 0 0) := new_cell_at _ _ _ _ rfl
  have fR : (w.alloc (.cells #[.slice none 0 0] 65)).frozen? ⟨w.heap.size, 0, none⟩ = false := new_loose _ _ _ _ rfl
  have hsz : (w.alloc (.cells #[.slice none 0 0] 65)).heap.size = w.heap.size + 1 := by simp
  have HS := hide hsz
  clear hsz
  have n := n0.kept k0
  have hz := isZero_work _ n
  have hlt := n0.lt
  clear n0
  go_enter Tryz.func63, Tryz.ntmps63
  by_cases hl0 : xs.length = 0
  · rw [decide_eq_true hl0] at hz
    have HZ := hide hz
    have e0 : Hid (rootN N = 0) := by
      show _ = _
      have : N = 0 := by rw [unhide HN, List.length_eq_zero_iff.1 hl0]; rfl
      rw [this]
      rfl
    have K := hide k0
    clear hz n k0 hl0
    go_wp2_with (go_at_call 91; refine (unhide HZ).mono ?_; rintro e w' ⟨rfl, rfl⟩)
    exact bodyPost_ret (v := .agg #[.slice none 0 0]) (by simp [results, Tryz.results63, go_sem, cR]) rfl ⟨_, rfl, by rw [unhide e0, limbs_zero]; exact World.ownsRow_nil _ _ _ _, unhide K⟩
  rw [decide_eq_false hl0] at hz
  have HZ := hide hz
  clear hz
  have hNp : 0 < N := by
    have e1 := nrm_pow hx (List.length_pos_iff.1 (show 0 < xs.length by omega))
    have : (0 : Int) < 65536 ^ (xs.length - 1) := Int.pow_pos (by decide)
    have := unhide HN
    omega
  have hRt : Hid (rootN N = newt N (above N)) := by show _ = _; unfold rootN; rw [if_neg (by omega)]
  obtain ⟨S, hS⟩ : ∃ S : Nat, S = (bitsN N + 1) / 2 := ⟨_, rfl⟩
  obtain ⟨B, hbb⟩ : ∃ B : Nat, B = bitsN N := ⟨_, rfl⟩
  rw [← hbb] at hS hb
  have hSb : S ≤ 8000 := by omega
  have eS : IntKind.i64.wrap ((B : Int) + 1) = (B : Int) + 1 := wrap_small _ (by omega) (by omega)
  have eS2 : ((B : Int) + 1).tdiv 2 = (S : Int) := by rw [Int.tdiv_eq_ediv_of_nonneg (by omega)]; omega
  have eS3 : IntKind.i64.wrap (S : Int) = (S : Int) := wrap_small _ (by omega) (by omega)
  have eA : Hid (limbs ((val (limbs (1 : Int).toNat)).toNat * 2 ^ S) = limbs (above N)) := by
    show _ = _
    rw [limbs_val, hS, hbb]
    unfold above
    simp
  have HB := hide hbb
  clear hbb hS
  obtain ⟨za, hza⟩ : ∃ za, limbs (above N) = za := ⟨_, rfl⟩
  have HA := hide hza
  have lza := above_len (N := N) (K := 1000) (by have := unhide HB; omega) (by decide)
  rw [hza] at lza
  clear hza
  rw [unhide HA] at eA
  have l1e : (limbs (1 : Int).toNat).length ≤ 50000 := by have := limbs_int_length' 1 (by decide); omega
  have l1n : limbs (1 : Int).toNat ≠ [] := fun e => by have := limbs_eq_nil.1 e; simp at this
  obtain ⟨L1, hL1⟩ : ∃ L, limbs (1 : Int).toNat = L := ⟨_, rfl⟩
  have lim1 : Lim L1 := by rw [← hL1]; exact limbs_lim _
  rw [hL1] at eA l1e l1n
  have HL1 := hide hL1
  clear hL1
  have hN1 := hide n
  have hK0 := hide k0
  have hR0 := hide (And.intro cR fR)
  clear k0 cR fR hl0
  go_wp2_with (go_at_call 91; refine (unhide HZ).mono ?_; rintro e w' ⟨rfl, rfl⟩)
  generalize w.alloc (.cells #[.slice none 0 0] 65) = W1 at *
  have mk := limbsOfInt_impl W1 1 (by decide)
  rw [unhide HL1] at mk
  refine mk.mono ?_
  clear mk
  rintro e w2 ⟨v2, rfl, o2, k2⟩
  obtain ⟨a2, c2, hv⟩ := own_slice o2
  subst hv
  have kX := (Kept.refl 0 0 w2).alloc (.cells #[.slice a2 L1.length c2] 65)
  have nX := (Num.new 65 o2)
  have k1 := k2.trans kX
  have hX := k2.size
  clear kX o2 k2 n HZ
  go_wp2_with fail
  generalize w2.alloc (.cells #[.slice a2 L1.length c2] 65) = w3 at *
  generalize w2.heap.size = X at *
  refine (bits_work _ ((unhide hN1).kept k1) hx (by omega)).mono ?_
  rintro e w4 ⟨rfl, k4⟩
  rw [← unhide HN, ← unhide HB]
  replace k1 := k1.trans k4
  replace nX := nX.kept k4
  clear k4
  go_wp2_with fail
  refine (shiftUp_impl _ nX lim1 l1n l1e S (by omega)).mono ?_
  rintro e w5 ⟨⟨r5, rfl⟩, u5, n5, m5⟩
  have nX0 : W1.heap.size ≤ w4.heap.size := by have := nX.lt; omega
  rw [unhide eA] at n5
  replace k1 := k1.mod m5 (fun i e => by omega)
  replace n5 := n5.less (b' := W1.heap.size) (by have := nX0; omega)
  have nza : Nrm za := by rw [← unhide HA]; exact limbs_nrm _
  have vza : val za = (above N : Int) := by rw [← unhide HA]; exact limbs_val _
  have pza : 0 < above N := Nat.pow_pos (by decide)
  have I0 := hide (show newt N (val za).toNat = newt N (above N) by rw [vza, Int.toNat_natCast])
  have HN5 := hide n5
  have HK5 := hide k1
  clear n5 k1 nX m5 eS eS2 eS3 eA l1e l1n hSb nX0
  go_wp2_with fail
  go_loopw [] (fun wr => ∃ u zs, Num W1.heap.size wr X u zs ∧ Kept 0 0 W1 wr ∧ Nrm zs ∧ 0 < val zs ∧ zs.length ≤ 1000 ∧ Hid (newt N (val zs).toNat = newt N (above N))) (fun wr => valAt wr X)
  case atStart => exact ⟨_, _, unhide HN5, unhide HK5, nza, by omega, lza, I0⟩
  case round =>
    clear HN5 HK5 I0 nza vza
    obtain ⟨u, zs, nX, kw, hz, hz0, lz, hI⟩ := hrel
    have HV := hide (valAt_of nX.cell nX.row)
    obtain ⟨x, hx1⟩ : ∃ x : Nat, x = (val zs).toNat := ⟨_, rfl⟩
    have hxi : val zs = (x : Int) := by omega
    have hNi : val xs = (N : Int) := by have := unhide HN; omega
    rw [← hx1] at hI HV
    have hq : Hid ((val xs / val zs).toNat = N / x) := by show _ = _; rw [hxi, hNi, ← Int.natCast_ediv, Int.toNat_natCast]
    have e5 : Hid ((val (limbs (N / x)) + val zs).toNat = x + N / x) := by show _ = _; rw [limbs_val, hxi]; generalize N / x = d; omega
    have e6 : Hid ((val (limbs (x + N / x))).toNat / 2 ^ 1 = (x + N / x) / 2) := by show _ = _; rw [limbs_val, Int.toNat_natCast]
    have lq : (limbs (N / x)).length ≤ 1000 := by
      have e := limbs_len_mono (Nat.div_le_self N x)
      have e2 := nrm_limbs hx
      rw [← unhide HN] at e2
      rw [← e2] at e
      omega
    have ls : (limbs (x + N / x)).length ≤ 1001 := sum_len (K := 1000) (by rw [hx1, ← nrm_limbs hz]; exact lz) lq
    have ls0 : 0 < (limbs (x + N / x)).length := List.length_pos_iff.2 (fun e => by have e2 := limbs_eq_nil.1 e; generalize N / x = d at e2; omega)
    have hyp := newt_next (x := x) hNp (by omega)
    obtain ⟨y, hy⟩ : ∃ y, y = (x + N / x) / 2 := ⟨_, rfl⟩
    rw [← hy] at e6 hyp
    have HY := hide hy
    clear hy
    obtain ⟨qq, hqq⟩ : ∃ l, limbs (N / x) = l := ⟨_, rfl⟩
    obtain ⟨ss, hss⟩ : ∃ l, limbs (x + N / x) = l := ⟨_, rfl⟩
    obtain ⟨yy, hyy⟩ : ∃ l, limbs y = l := ⟨_, rfl⟩
    have nyy : Nrm yy := by rw [← hyy]; exact limbs_nrm _
    have vyy : val yy = (y : Int) := by rw [← hyy]; exact limbs_val _
    have qnrm : Nrm qq := by rw [← hqq]; exact limbs_nrm _
    have slim : Lim ss := by rw [← hss]; exact limbs_lim _
    rw [hqq] at lq e5
    rw [hss] at ls e6 ls0
    have EQQ := hide hqq
    have ESS := hide hss
    have EYY := hide hyy
    clear hqq hss hyy hx1
    obtain ⟨c, hc⟩ : ∃ c, cmpI (val yy) (val zs) = c := ⟨_, rfl⟩
    have HC := hide hc
    have hcc : (y < x → c = -1) ∧ (¬ y < x → 0 ≤ c) := by
      rw [← hc, vyy, hxi]
      unfold cmpI
      refine ⟨fun h => ?_, fun h => ?_⟩
      · rw [if_pos (by omega)]
      · rw [if_neg (by omega)]; split <;> decide
    clear hc
    have hzne : zs ≠ [] := fun e => by rw [e] at hz0; simp [val] at hz0
    have lX := nX.lt
    have oX := nX.own.lt
    have hkw := kw.size
    go_wp2_with fail
    refine (copied_work _ ((unhide hN1).kept kw) (by omega)).mono ?_
    rintro e w6 ⟨v6, rfl, o6, k6⟩
    obtain ⟨a6, c6, hv⟩ := own_slice o6
    subst hv
    have l6 := o6.lt
    have kL := (Kept.refl 0 0 w6).alloc (.cells #[.slice a6 xs.length c6] 65)
    have nL := Num.new 65 o6
    have h6 := k6.size
    replace kw := (kw.trans k6).trans kL
    replace nX := (nX.kept k6).kept kL
    have lL := nL.lt
    clear k6 kL o6
    go_wp2_with fail
    generalize w6.alloc (.cells #[.slice a6 xs.length c6] 65) = w7 at *
    generalize w6.heap.size = Lb at *
    have mk := divide_impl w7 nL nX (by omega) hx hz hzne (by omega) (by omega)
    rw [unhide hq, unhide EQQ] at mk
    refine mk.mono ?_
    rintro e w8 ⟨vq, rfl, dd⟩
    clear mk
    have hO : ∀ i, Own1 Lb (.slice a6 xs.length c6) i → wr.heap.size ≤ i ∧ i < w7.heap.size := fun i e => e.elim (fun h => by omega) (fun h => by have := l6 i h; omega)
    replace nX := nX.mod dd.md (fun e => by have := hO _ e; omega) (fun i e e' => by have := hO _ e'; have := oX i e; omega)
    replace kw := kw.mod dd.md (fun i e => by have := hO i e; omega)
    have oq := dd.q
    have h8 := dd.md.size
    clear dd nL hO
    obtain ⟨a8, c8, hv⟩ := own_slice oq
    subst hv
    have lq8 := oq.lt
    have kQ := (Kept.refl 0 0 w8).alloc (.cells #[.slice a8 qq.length c8] 65)
    have nQ := Num.new 65 oq
    replace kw := kw.trans kQ
    replace nX := nX.kept kQ
    have lQ := nQ.lt
    clear kQ oq
    go_wp2_with fail
    generalize w8.alloc (.cells #[.slice a8 qq.length c8] 65) = w9 at *
    generalize w8.heap.size = Q at *
    have tw : Two W1 w9 Q X (.slice a8 qq.length c8) u qq zs := ⟨nQ.less (by omega), nX, by omega, fun e => by have := lq8 _ e; omega, fun e => by have := oX _ e; omega, fun k e1 e2 => by have := lq8 _ e1; have := oX _ e2; omega, kw, by omega, hX⟩
    have mk := add_two ⟨_, _, tw⟩ qnrm hz (by omega) (by omega)
    rw [unhide e5, unhide ESS] at mk
    clear nQ nX kw tw
    refine mk.mono ?_
    rintro e w10 ⟨⟨r10, rfl⟩, u1, u2, t⟩
    clear mk
    go_wp2_with fail
    have mk := shiftDown_num w10 t.n1 slim ls0 (by omega) 1 (by decide)
    rw [unhide e6, unhide EYY] at mk
    refine mk.mono ?_
    rintro e w11 ⟨⟨r11, rfl⟩, u3, nQ, o3, m11, -⟩
    clear mk
    have nX := t.n2.mod m11 (fun e => e.elim (fun h => t.ne h.symm) (fun h => t.o12 h)) (fun i e e' => e'.elim (fun h => t.o21 (by rw [e, h])) (fun h => t.oo i h e))
    have kw := t.k.mod m11 (fun i e => e.elim (fun h => by rw [h]; exact t.b1) (fun h => (t.n1.own.lt i h).1))
    have hu3 : u3.ownBlock ≠ some X := fun e => t.o12 (by rw [← o3]; exact e)
    clear t m11 o3
    go_wp2_with fail
    have mk := compare_impl w11 nQ nX nyy hz
    rw [unhide HC] at mk
    refine mk.mono ?_
    rintro e w12 ⟨rfl, k12⟩
    clear mk
    replace nQ := nQ.kept k12
    replace nX := nX.kept k12
    replace kw := kw.trans k12
    clear k12
    obtain ⟨a3, c3, hv⟩ := nQ.form
    subst hv
    obtain ⟨a4, c4, hv⟩ := nX.form
    subst hv
    have cQ := nQ.cell
    have cX := nX.cell
    have fX := nX.loose
    by_cases hlt' : y < x
    · have hc0 : c = -1 := hcc.1 hlt'
      subst hc0
      have N' := nX.setTo nQ.own hu3
      have K' := kw.setNew (p := ⟨X, 0, none⟩) hX (.slice a3 yy.length c3)
      have HN' := hide N'
      have HK' := hide K'
      clear hcc N' K' nQ nX kw
      go_wp2_with fail
      have N' := unhide HN'
      refine ⟨⟨_, yy, N', unhide HK', nyy, by omega, ?_, ?_⟩, ?_⟩
      · have e := limbs_len_mono (Nat.le_of_lt hlt')
        rw [unhide EYY] at e
        have e2 := nrm_limbs hz
        rw [hxi, Int.toNat_natCast] at e2
        rw [← e2] at e
        omega
      · show _ = _
        have hl := unhide HY
        rw [vyy, Int.toNat_natCast, ← unhide hI]
        have e := newt_less (N := N) (x := x) (by rw [← hl]; exact hlt')
        rw [← hl] at e
        exact e.symm
      · rw [valAt_of N'.cell N'.row, unhide HV, vyy]
        omega
    · have hc0 : 0 ≤ c := hcc.2 hlt'
      have hRR : Hid (zs = limbs (rootN N)) := by
        show _ = _
        have hl := unhide HY
        have e2 := nrm_limbs hz
        rw [hxi, Int.toNat_natCast] at e2
        rw [unhide hRt, ← unhide hI, newt_stay (by rw [← hl]; exact hlt')]
        exact e2
      have cR := kw.cell0 (unhide hR0).1
      have fR := kw.loose0 (World.block_lt_of_cell? _ _ (unhide hR0).1) (unhide hR0).2
      have O := hide (own_less (base' := w.heap.size) (own_apart nX.own (p := ⟨w.heap.size, 0, none⟩) (fun e => by have h1 : W1.heap.size ≤ w.heap.size := (nX.own.lt _ e).1; have := unhide HS; omega) (.slice a4 zs.length c4)) (by have := unhide HS; omega))
      have K := hide (((unhide hK0).trans kw).setNew (p := ⟨w.heap.size, 0, none⟩) (by simp) (.slice a4 zs.length c4))
      clear nQ nX kw cQ fX hcc
      go_wp2_with fail
      exact bodyPost_ret (v := .agg #[.slice a4 zs.length c4]) (by simp [results, Tryz.results63, go_sem, cR]) rfl ⟨_, rfl, by rw [← unhide hRR]; exact unhide O, unhide K⟩

end Go.Proofs.YtadbdchjhglldaaGreatDoor

