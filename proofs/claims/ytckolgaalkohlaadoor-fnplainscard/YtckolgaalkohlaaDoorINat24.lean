/-
  The program's appendDigit: ten times a number, and a digit.
-/
import Derived.Test.YtckolgaalkohlaaDoorBF
import Derived.Test.YtckolgaalkohlaaDoorBB
namespace Go.Proofs.YtckolgaalkohlaaDoor
open Go.RowKit
set_option linter.unusedVariables false
set_option maxRecDepth 8000

theorem Num.put {b g gb cap j n : Nat} {w : World} {zs : List Int} (h : Num b w g (.slice (some ⟨gb, 0, none⟩) n cap) zs) (hn : n = zs.length) (z : Int) :
    Num b (w.setCell ⟨gb, j, none⟩ (.int .i64 z)) g (.slice (some ⟨gb, 0, none⟩) n cap) (zs.set j z) := by
  subst hn
  have n1 : gb ≠ g := fun e => h.apart (by simp [Value.ownBlock, e])
  exact ⟨cell_aside _ (p := ⟨g, 0, none⟩) (r := ⟨gb, j, none⟩) n1 h.cell, by rw [frozen_set]; exact h.loose, own_set h.own j z, h.apart⟩
theorem dig_step (p xs : List Int) (i : Nat) (x c S : Int) (hp : p.length = i) (hi : i < xs.length) (hx : xs.getD i 0 = x) (h : val p + 65536 ^ i * (c + 10 * val (xs.drop i)) = S) :
    val (p ++ [(10 * x + c) % 65536]) + 65536 ^ (i + 1) * ((10 * x + c) / 65536 + 10 * val (xs.drop (i + 1))) = S := by
  rw [val_snoc, hp, ← h, val_drop xs i, hx, Int.pow_succ]
  have e : (10 * x + c) % 65536 + 65536 * ((10 * x + c) / 65536 + 10 * val (xs.drop (i + 1))) = c + 10 * (x + 65536 * val (xs.drop (i + 1))) := by omega
  have key : ∀ P A B : Int, P * A + P * 65536 * B = P * (A + 65536 * B) := fun P A B => by rw [Int.mul_add, Int.mul_assoc]
  rw [← e, ← key, Int.add_assoc]
theorem mix_set (p xs : List Int) (i : Nat) (z : Int) (hp : p.length = i) (hi : i < xs.length) : (p ++ xs.drop i).set i z = (p ++ [z]) ++ xs.drop (i + 1) := by
  rw [List.set_append_right _ _ (by omega), hp, Nat.sub_self, List.drop_eq_getElem_cons hi, List.set_cons_zero, List.append_assoc]
  rfl
theorem mix_at (p xs : List Int) (i : Nat) (hp : p.length = i) : (p ++ xs.drop i).getD i 0 = xs.getD i 0 := by
  simp only [List.getD]
  rw [List.getElem?_append_right (by omega), hp, Nat.sub_self, List.getElem?_drop, Nat.add_zero]

set_option maxHeartbeats 8000000 in
theorem appendDigit_impl {b g : Nat} {v : Value} {xs : List Int} (w : World) (h : Num b w g v xs) (hb : b ≤ w.heap.size) (hx : Nrm xs) (nx : xs.length ≤ 100000) (d : Int) (hd : 0 ≤ d ∧ d ≤ 9) :
    Calls Tryd.prog 34 #[.pointer (some ⟨g, 0, none⟩), .int .i64 d] w fun e w' => (∃ r, e = .returned r) ∧ ∃ u, Num b w' g u (limbs (10 * val xs + d).toNat) ∧ Mod (Own1 g v) w w' := by
  obtain ⟨M, hM⟩ : ∃ M, M = xs.length := ⟨_, rfl⟩
  obtain ⟨a1, c1, hv1⟩ := h.form
  rw [← hM] at hv1
  subst hv1
  generalize hS : 10 * val xs + d = S
  have hSx : xs = [] ∨ (65536 : Int) ^ (xs.length - 1) ≤ S := by
    by_cases e : xs = []
    · exact .inl e
    · have h1 := nrm_pow hx e
      have h2 := val_nonneg hx.1
      exact .inr (by omega)
  have HSX := hide hSx
  have HS0 : Hid (val [] + 65536 ^ 0 * (d + 10 * val (xs.drop 0)) = S) := by show _ = _; simp [val]; omega
  have hce := h.cell
  have HM := hide hM
  have N0 := hide h
  have hxl := hx.1
  have hnx : M ≤ 100000 := by omega
  clear hM hS hSx h nx hx
  go_enter Tryd.func34, Tryd.ntmps34
  go_wp2
  clear hce
  go_loopw [4, 14] (fun cc ii wr => ∃ (p : List Int) (c : Int) (i : Nat), cc = .int .i64 c ∧ ii = .int .i64 (i : Int) ∧ i ≤ M ∧ 0 ≤ c ∧ c ≤ 9 ∧ p.length = i ∧ Lim p ∧ Hid (val p + 65536 ^ i * (c + 10 * val (xs.drop i)) = S) ∧ Num b wr g (.slice a1 M c1) (p ++ xs.drop i) ∧ Mod (Own1 g (.slice a1 M c1)) w wr) (fun _ ii _ => M - (intOf ii).toNat)
  case atStart => exact ⟨[], d, 0, rfl, rfl, Nat.zero_le _, hd.1, hd.2, rfl, Lim.nil, HS0, by simpa using unhide N0, Mod.refl _ _⟩
  case round =>
    clear N0 HS0
    obtain ⟨p, c, i, rfl, rfl, hi, hc0, hc1, hp, hpl, hV, n, md⟩ := hrel
    have hlen : (p ++ xs.drop i).length = M := by have := unhide HM; simp; omega
    by_cases hA : i < M
    · have hi1 : (i : Int) < (M : Int) := by omega
      obtain ⟨gb, cap, e5, x1, f1, hg1⟩ := n.at i (by omega)
      rw [hlen] at e5
      cases e5
      have hce := n.cell
      rw [mix_at _ _ _ hp] at x1
      have hx0 := hxl.at i
      have hV2 := dig_step p xs i _ c S hp (by have := unhide HM; omega) rfl (unhide hV)
      have hput := fun z => n.put (j := i) hlen.symm z
      have hmd := fun u => md.set (p := ⟨gb, i, none⟩) (.inl (.inr rfl)) u
      generalize hva : xs.getD i 0 = x at *
      have hset := mix_set p xs i ((10 * x + c) % 65536) hp (by have := unhide HM; omega)
      have HPUT := hide (hput ((10 * x + c) % 65536))
      rw [hset] at HPUT
      have HMD := hide (hmd (.int .i64 ((10 * x + c) % 65536)))
      have HV2 := hide hV2
      have hX : 0 ≤ 10 * x + c ∧ 10 * x + c ≤ 655359 := by omega
      have et : (10 * x + c).tmod 65536 = (10 * x + c) % 65536 := by rw [Int.tmod_eq_emod_of_nonneg (by omega)]
      have ed : (10 * x + c).tdiv 65536 = (10 * x + c) / 65536 := by rw [Int.tdiv_eq_ediv_of_nonneg (by omega)]
      have hl2 := hpl.snoc (x := (10 * x + c) % 65536) (by omega) (by omega)
      clear hV hV2 hput hmd n md hset hva hlen
      go_wp2
      go_roundw
      case rel => exact ⟨p ++ [(10 * x + c) % 65536], (10 * x + c) / 65536, i + 1, by first | rfl | go_num, by go_num, by omega, by omega, by omega, by simp [hp], hl2, HV2, unhide HPUT, unhide HMD⟩
      case measure => simp [intOf]; omega
    · have hi1 : ¬ (i : Int) < (M : Int) := by omega
      have hiM : i = M := by omega
      have hdrop : xs.drop i = [] := List.drop_of_length_le (by have := unhide HM; omega)
      have hv := unhide hV
      rw [hdrop] at hv n
      rw [List.append_nil] at n
      simp only [val, Int.mul_zero, Int.add_zero] at hv
      have hce := n.cell
      have hlo := n.loose
      by_cases hc : 0 < c
      · have hown' := own_kept n.own ((Kept.refl 0 0 wr).alloc (.cells #[.int .i64 c] 3))
        have hl' : p.length ≤ 1000000 := by omega
        have hbb : b ≤ (wr.alloc (.cells #[.int .i64 c] 3)).heap.size := by have := md.size; simp; omega
        have HBB := hide hbb
        have hcc : (wr.alloc (.cells #[.int .i64 c] 3)).cell? ⟨wr.heap.size, 0, none⟩ = some (.int .i64 c) := new_cell_at _ _ _ _ rfl
        have hval : val (p ++ [c]) = S := by rw [val_snoc, hp]; exact hv
        have hlim : Lim (p ++ [c]) := hpl.snoc (by omega) (by omega)
        have heq : p ++ [c] = limbs S.toNat := by
          have := limbs_of_le hlim (.inr (by
            rw [hval, ← hv]
            have e0 := val_nonneg hpl
            have e1 : (65536 : Int) ^ i * 1 ≤ 65536 ^ i * c := Int.mul_le_mul_of_nonneg_left (by omega) (Int.le_of_lt (Int.pow_pos (by decide)))
            have e2 : (p ++ [c]).length - 1 = i := by simp [hp]
            rw [e2]
            omega))
          rw [hval] at this
          exact this
        have HEQ := hide heq
        clear hbb hval hlim heq hv hV hdrop hiM hlen
        go_wp2_with (at_builtin; refine wpList_snoc rfl _ _ rfl rfl _ rfl c hcc hown' hl' (unhide HBB) ?_)
        intro v' w' hown2 hgrow hat
        unfold OwnL at hown2
        replace hat := unhide hat
        obtain ⟨a3, c3, hv3⟩ := own_slice hown2
        have hl3 : (p ++ [c]).length = i + 1 := by simp [hp]
        rw [hl3] at hv3
        obtain ⟨d1, d2, d3, d4⟩ := n.snoc _ hgrow hat hown2
        subst hv3
        clear hl3
        rw [unhide HEQ] at d3
        have D3 := hide d3
        have D4 := hide (md.trans d4)
        clear hown' hown2 hgrow hat hcc n md d3 d4 hce hlo
        go_wp2
        exact bodyPost_end (v := .tuple #[]) (by simp [results, Tryd.results34, go_sem]) rfl ⟨⟨_, rfl⟩, _, unhide D3, unhide D4⟩
      · have hc00 : c = 0 := by omega
        subst hc00
        have hval : val p = S := by rw [← hv]; simp
        have heq : p = limbs S.toNat := by
          have := limbs_of_le hpl (by
            rw [hval]
            rcases unhide HSX with e | e
            · left
              have : M = 0 := by have := unhide HM; rw [e] at this; simpa using this
              exact List.length_eq_zero_iff.1 (by omega)
            · right
              have e2 : p.length = xs.length := by have := unhide HM; omega
              rw [e2]; exact e)
          rw [hval] at this
          exact this
        rw [heq] at n
        have NN := hide n
        have MM := hide md
        clear n md heq hval hv hV hdrop hiM hlen hce hlo
        go_wp2
        exact bodyPost_end (v := .tuple #[]) (by simp [results, Tryd.results34, go_sem]) rfl ⟨⟨_, rfl⟩, ⟨_, unhide NN⟩, unhide MM⟩

end Go.Proofs.YtckolgaalkohlaaDoor
