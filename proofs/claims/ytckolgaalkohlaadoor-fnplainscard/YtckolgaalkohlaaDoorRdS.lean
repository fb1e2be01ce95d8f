/-
  The program's appendDigit and readDigits, with what stands behind the number's list.
-/
import Derived.Test.YtckolgaalkohlaaDoorINat25
import Derived.Test.YtckolgaalkohlaaDoorBH
namespace Go.Proofs.YtckolgaalkohlaaDoor
open Go.RowKit
set_option linter.unusedVariables false
set_option maxRecDepth 8000
set_option linter.unusedSimpArgs false

set_option maxHeartbeats 8000000 in
theorem appendDigit_side {b g : Nat} {v : Value} {xs : List Int} (w : World) (h : Num b w g v xs) (hb : b ≤ w.heap.size) (hx : Nrm xs) (nx : xs.length ≤ 100000) (d : Int) (hd : 0 ≤ d ∧ d ≤ 9) :
    Calls Tryd.prog 34 #[.pointer (some ⟨g, 0, none⟩), .int .i64 d] w fun e w' => (∃ r, e = .returned r) ∧ ∃ u, Num b w' g u (limbs (10 * val xs + d).toNat) ∧ Mod (Own1 g v) w w' ∧ SameSide g w w' := by
  obtain ⟨M, hM⟩ : ∃ M, M = xs.length := ⟨_, rfl⟩
  obtain ⟨a1, c1, hv1⟩ := h.form
  rw [← hM] at hv1
  subst hv1
  generalize hS : 10 * val xs + d = S
  have hSx : xs = [] ∨ (65536 : Int) ^ (xs.length - 1) ≤ S := by
    by_cases e : xs = []
    · exact .inl e
    · have h1 := nrm_pow hx e
      have h2 := val_nonneg hx.1
      exact .inr (by omega)
  have HSX := hide hSx
  have HS0 : Hid (val [] + 65536 ^ 0 * (d + 10 * val (xs.drop 0)) = S) := by show _ = _; simp [val]; omega
  have hce := h.cell
  have HM := hide hM
  have N0 := hide h
  have hxl := hx.1
  have hnx : M ≤ 100000 := by omega
  clear hM hS hSx h nx hx
  go_enter Tryd.func34, Tryd.ntmps34
  go_wp2
  clear hce
  go_loopw [4, 14] (fun cc ii wr => ∃ (p : List Int) (c : Int) (i : Nat), cc = .int .i64 c ∧ ii = .int .i64 (i : Int) ∧ i ≤ M ∧ 0 ≤ c ∧ c ≤ 9 ∧ p.length = i ∧ Lim p ∧ Hid (val p + 65536 ^ i * (c + 10 * val (xs.drop i)) = S) ∧ Num b wr g (.slice a1 M c1) (p ++ xs.drop i) ∧ Mod (Own1 g (.slice a1 M c1)) w wr ∧ SameSide g w wr) (fun _ ii _ => M - (intOf ii).toNat)
  case atStart => exact ⟨[], d, 0, rfl, rfl, Nat.zero_le _, hd.1, hd.2, rfl, Lim.nil, HS0, by simpa using unhide N0, Mod.refl _ _, SameSide.refl _ _⟩
  case round =>
    clear N0 HS0
    obtain ⟨p, c, i, rfl, rfl, hi, hc0, hc1, hp, hpl, hV, n, md, sd⟩ := hrel
    have hlen : (p ++ xs.drop i).length = M := by have := unhide HM; simp; omega
    by_cases hA : i < M
    · have hi1 : (i : Int) < (M : Int) := by omega
      obtain ⟨gb, cap, e5, x1, f1, hg1⟩ := n.at i (by omega)
      rw [hlen] at e5
      cases e5
      have hce := n.cell
      rw [mix_at _ _ _ hp] at x1
      have hx0 := hxl.at i
      have hV2 := dig_step p xs i _ c S hp (by have := unhide HM; omega) rfl (unhide hV)
      have hput := fun z => n.put (j := i) hlen.symm z
      have hmd := fun u => md.set (p := ⟨gb, i, none⟩) (.inl (.inr rfl)) u
      generalize hva : xs.getD i 0 = x at *
      have hset := mix_set p xs i ((10 * x + c) % 65536) hp (by have := unhide HM; omega)
      have HPUT := hide (hput ((10 * x + c) % 65536))
      rw [hset] at HPUT
      have HMD := hide (hmd (.int .i64 ((10 * x + c) % 65536)))
      have ng : gb ≠ g := fun e => n.apart (by simp [Value.ownBlock, e])
      have HSD := hide (sd.far (o := i) ng (.int .i64 ((10 * x + c) % 65536)))
      clear ng sd
      have HV2 := hide hV2
      have hX : 0 ≤ 10 * x + c ∧ 10 * x + c ≤ 655359 := by omega
      have et : (10 * x + c).tmod 65536 = (10 * x + c) % 65536 := by rw [Int.tmod_eq_emod_of_nonneg (by omega)]
      have ed : (10 * x + c).tdiv 65536 = (10 * x + c) / 65536 := by rw [Int.tdiv_eq_ediv_of_nonneg (by omega)]
      have hl2 := hpl.snoc (x := (10 * x + c) % 65536) (by omega) (by omega)
      clear hV hV2 hput hmd n md hset hva hlen
      go_wp2
      go_roundw
      case rel => exact ⟨p ++ [(10 * x + c) % 65536], (10 * x + c) / 65536, i + 1, by first | rfl | go_num, by go_num, by omega, by omega, by omega, by simp [hp], hl2, HV2, unhide HPUT, unhide HMD, unhide HSD⟩
      case measure => simp [intOf]; omega
    · have hi1 : ¬ (i : Int) < (M : Int) := by omega
      have hiM : i = M := by omega
      have hdrop : xs.drop i = [] := List.drop_of_length_le (by have := unhide HM; omega)
      have hv := unhide hV
      rw [hdrop] at hv n
      rw [List.append_nil] at n
      simp only [val, Int.mul_zero, Int.add_zero] at hv
      have hce := n.cell
      have hlo := n.loose
      by_cases hc : 0 < c
      · have hown' := own_kept n.own ((Kept.refl 0 0 wr).alloc (.cells #[.int .i64 c] 3))
        have hl' : p.length ≤ 1000000 := by omega
        have hbb : b ≤ (wr.alloc (.cells #[.int .i64 c] 3)).heap.size := by have := md.size; simp; omega
        have HBB := hide hbb
        have hcc : (wr.alloc (.cells #[.int .i64 c] 3)).cell? ⟨wr.heap.size, 0, none⟩ = some (.int .i64 c) := new_cell_at _ _ _ _ rfl
        have hval : val (p ++ [c]) = S := by rw [val_snoc, hp]; exact hv
        have hlim : Lim (p ++ [c]) := hpl.snoc (by omega) (by omega)
        have heq : p ++ [c] = limbs S.toNat := by
          have := limbs_of_le hlim (.inr (by
            rw [hval, ← hv]
            have e0 := val_nonneg hpl
            have e1 : (65536 : Int) ^ i * 1 ≤ 65536 ^ i * c := Int.mul_le_mul_of_nonneg_left (by omega) (Int.le_of_lt (Int.pow_pos (by decide)))
            have e2 : (p ++ [c]).length - 1 = i := by simp [hp]
            rw [e2]
            omega))
          rw [hval] at this
          exact this
        have HEQ := hide heq
        clear hbb hval hlim heq hv hV hdrop hiM hlen
        go_wp2_with (at_builtin; refine wpList_snoc rfl _ _ rfl rfl _ rfl c hcc hown' hl' (unhide HBB) ?_)
        intro v' w' hown2 hgrow hat
        unfold OwnL at hown2
        replace hat := unhide hat
        obtain ⟨a3, c3, hv3⟩ := own_slice hown2
        have hl3 : (p ++ [c]).length = i + 1 := by simp [hp]
        rw [hl3] at hv3
        obtain ⟨d1, d2, d3, d4⟩ := n.snoc _ hgrow hat hown2
        subst hv3
        clear hl3
        rw [unhide HEQ] at d3
        have D3 := hide d3
        have D4 := hide (md.trans d4)
        have D5 := hide (((sd.trans (((Kept.refl 0 0 wr).alloc (.cells #[.int .i64 c] 3)).side n.lt)).trans (SameSide.ofBlock (hgrow.block g (by have := n.lt; simp; omega) (fun e => n.apart e.symm)))).set0 (.slice a3 (i + 1) c3))
        clear sd
        clear hown' hown2 hgrow hat hcc n md d3 d4 hce hlo
        go_wp2
        exact bodyPost_end (v := .tuple #[]) (by simp [results, Tryd.results34, go_sem]) rfl ⟨⟨_, rfl⟩, _, unhide D3, unhide D4, unhide D5⟩
      · have hc00 : c = 0 := by omega
        subst hc00
        have hval : val p = S := by rw [← hv]; simp
        have heq : p = limbs S.toNat := by
          have := limbs_of_le hpl (by
            rw [hval]
            rcases unhide HSX with e | e
            · left
              have : M = 0 := by have := unhide HM; rw [e] at this; simpa using this
              exact List.length_eq_zero_iff.1 (by omega)
            · right
              have e2 : p.length = xs.length := by have := unhide HM; omega
              rw [e2]; exact e)
          rw [hval] at this
          exact this
        rw [heq] at n
        have NN := hide n
        have MM := hide md
        have SDD := hide sd
        clear sd
        clear n md heq hval hv hV hdrop hiM hlen hce hlo
        go_wp2
        exact bodyPost_end (v := .tuple #[]) (by simp [results, Tryd.results34, go_sem]) rfl ⟨⟨_, rfl⟩, ⟨_, unhide NN⟩, unhide MM, unhide SDD⟩

set_option maxHeartbeats 8000000 in
theorem readDigits_side {w0 w : World} {b g : Nat} {bw : Bool} {lo hi : Nat} {v u : Value} {bs : List Int} (r : Row .u8 bw lo hi w0 v bs) (k : Kept 0 0 w0 w) (n : Num b w g u []) (hg : w0.heap.size ≤ g) (hb : w0.heap.size ≤ b) (hsz : b ≤ w.heap.size) (hlen : bs.length ≤ 400) :
    Calls Tryd.prog 23 #[.pointer (some ⟨g, 0, none⟩), v] w fun e w' => e = .returned (.bool (isDig bs)) ∧ DigOk (isDig bs) b w' g (limbs (digN bs)) ∧ Kept 0 0 w0 w' ∧ SameSide g w w' := by
  obtain ⟨a, c, rfl⟩ := Row.form' r
  have hm := r.len
  unfold maxLen at hm
  have HAT0 := hide ((row_cell r).2.2.2)
  obtain ⟨D, hD⟩ : ∃ D, isDig bs = D := ⟨_, rfl⟩
  rw [hD]
  have HD := hide hD
  have N0 := hide n
  have HK0 := hide k
  clear r n k hD
  go_enter Tryd.func23, Tryd.ntmps23
  go_wp2_with fail
  go_loopw [9] (fun ii wr => ∃ (i : Nat) (u : Value), ii = .int .i64 (i : Int) ∧ i ≤ bs.length ∧ Hid (∀ j, j < i → 48 ≤ bs.getD j 0 ∧ bs.getD j 0 ≤ 57) ∧ Num b wr g u (limbs (digN (bs.take i))) ∧ (limbs (digN (bs.take i))).length ≤ i ∧ b ≤ wr.heap.size ∧ Kept 0 0 w0 wr ∧ SameSide g w wr) (fun ii _ => bs.length - (intOf ii).toNat)
  case atStart => exact ⟨0, _, rfl, Nat.zero_le _, hide (fun j h => by omega), by simpa [digN, limbs_zero] using unhide N0, by simp [digN, limbs_zero], hsz, unhide HK0, SameSide.refl _ _⟩
  case round =>
    clear N0 HK0
    obtain ⟨i, u, rfl, hi, hp, n, hln, hsz, kk, sd⟩ := hrel
    by_cases hA : i < bs.length
    · have hi1 : (i : Int) < (bs.length : Int) := by omega
      obtain ⟨gB, oB, rfl, xb⟩ := unhide HAT0 i hA
      replace xb := kk.cell0 xb
      by_cases hd : 48 ≤ bs.getD i 0 ∧ bs.getD i 0 ≤ 57
      · have hfold := dig_fold bs i hA hd
        have hln2 := limbs_ten (digN (bs.take i)) i (bs.getD i 0 - 48).toNat hln (by omega)
        rw [← digN_step bs i hA] at hln2
        have HP2 : Hid (∀ j, j < i + 1 → 48 ≤ bs.getD j 0 ∧ bs.getD j 0 ≤ 57) := fun j h => by
          by_cases e : j = i
          · subst e; exact hd
          · exact unhide hp j (by omega)
        have HLN2 := hide hln2
        generalize hz : bs.getD i 0 = z at *
        have h1 : ¬ z < 48 := by omega
        have h2 : ¬ 57 < z := by omega
        have hw8 : IntKind.u8.wrap (z - 48) = z - 48 := by rw [IntKind.wrap_u8]; omega
        have hw6 : IntKind.i64.wrap (z - 48) = z - 48 := wrap_small _ (by omega) (by omega)
        have N1 := hide n
        clear hz hln2 hp n
        go_wp2_with fail
        refine (appendDigit_side _ (unhide N1) hsz (limbs_nrm _) (by omega) (z - 48) (by omega)).mono ?_
        rintro e w5 ⟨⟨r5, rfl⟩, u5, n5, m5, s5⟩
        rw [hfold] at n5
        have k5 := kk.mod m5 (fun i e => e.elim (fun e => by omega) (fun e => by have := ((unhide N1).own.lt i e).1; omega))
        have z5 := m5.size
        replace s5 := hide (sd.trans s5)
        clear m5 kk N1 sd
        go_wp2
        go_roundw
        case rel => exact ⟨i + 1, u5, by go_num, by omega, HP2, n5, unhide HLN2, by omega, k5, unhide s5⟩
        case measure => simp [intOf]; omega
      · have hF : D = false := by rw [← unhide HD]; exact isDig_not i hA hd
        subst hF
        have K0 := hide kk
        have SD := hide sd
        clear sd
        by_cases h1 : bs.getD i 0 < 48
        · generalize bs.getD i 0 = z at *
          clear hp n kk
          go_wp2_with fail
          go_ret
          exact ⟨rfl, (fun h => by cases h), unhide K0, unhide SD⟩
        · have h2 : 57 < bs.getD i 0 := by omega
          generalize bs.getD i 0 = z at *
          clear hp n kk
          go_wp2_with fail
          go_ret
          exact ⟨rfl, (fun h => by cases h), unhide K0, unhide SD⟩
    · have hi1 : ¬ (i : Int) < (bs.length : Int) := by omega
      rw [List.take_of_length_le (by omega)] at n hln
      by_cases hne : bs.length = 0
      · have hF : D = false := by rw [← unhide HD]; exact isDig_nil hne
        subst hF
        have hbs : bs = [] := List.length_eq_zero_iff.1 hne
        subst hbs
        have K0 := hide kk
        have SD := hide sd
        clear sd
        clear hp n kk HAT0 hne
        go_wp2_with fail
        go_ret
        exact ⟨rfl, (fun h => by cases h), unhide K0, unhide SD⟩
      · have hT : D = true := by rw [← unhide HD]; exact isDig_of hne (fun j hj => unhide hp j (by omega))
        subst hT
        have hpos : (0 : Int) < (bs.length : Int) := by omega
        have K0 := hide kk
        have SD := hide sd
        clear sd
        have N1 := hide n
        clear hp n kk HAT0
        go_wp2_with fail
        go_ret
        exact ⟨by simp; omega, (fun _ => ⟨u, unhide N1⟩), unhide K0, unhide SD⟩

end Go.Proofs.YtckolgaalkohlaaDoor
