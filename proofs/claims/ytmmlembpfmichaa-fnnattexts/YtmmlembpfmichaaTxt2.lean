/-
  The program's takeDigit: a number without its lowest decimal digit, and that digit.
-/
import Derived.Test.YtmmlembpfmichaaINat24
import Derived.Test.YtmmlembpfmichaaBF
import Derived.Test.YtmmlembpfmichaaBB
namespace Go.Proofs.Ytmmlembpfmichaa
open Go.RowKit
set_option linter.unusedVariables false
set_option maxRecDepth 8000
set_option linter.unusedSimpArgs false

theorem digit_step (zs ys : List Int) (p : Nat) (r : Int) (hp : p < ys.length) (hr : 0 ≤ r) (hx : 0 ≤ zs.getD p 0) (h : val (zs.drop (p + 1)) = 10 * val (ys.drop (p + 1)) + r) :
    val (zs.drop p) = 10 * val ((ys.set p ((r * 65536 + zs.getD p 0) / 10)).drop p) + (r * 65536 + zs.getD p 0) % 10 := by
  rw [val_drop zs p, h, set_drop ys p _ hp]
  generalize zs.getD p 0 = x at *
  generalize val (ys.drop (p + 1)) = Y at *
  omega
theorem set_take (zs ys : List Int) (p : Nat) (z : Int) (h : ys.take (p + 1) = zs.take (p + 1)) : (ys.set p z).take p = zs.take p := by
  have h2 := congrArg (List.take p) h
  rw [List.take_take, List.take_take, Nat.min_eq_left (by omega)] at h2
  rw [← h2]
  exact List.take_set_of_le (Nat.le_refl p)
theorem getD_take {zs ys : List Int} {p : Nat} (h : ys.take (p + 1) = zs.take (p + 1)) : ys.getD p 0 = zs.getD p 0 := by
  have h2 := congrArg (fun l : List Int => l.getD p 0) h
  simpa [List.getD, List.getElem?_take] using h2

set_option maxHeartbeats 8000000 in
theorem takeDigit_impl {b g : Nat} {v : Value} {zs : List Int} (w : World) (h : Num b w g v zs) (hx : Lim zs) (nx : zs.length ≤ 100000) :
    Calls Try.prog 37 #[.pointer (some ⟨g, 0, none⟩)] w fun e w' => e = .returned (.int .i64 (val zs % 10)) ∧ ∃ u, Num b w' g u (limbs (val zs / 10).toNat) ∧ u.ownBlock = v.ownBlock ∧ Mod (Own1 g v) w w' := by
  obtain ⟨M, hM⟩ : ∃ M, M = zs.length := ⟨_, rfl⟩
  obtain ⟨a1, c1, hv1⟩ := h.form
  rw [← hM] at hv1
  subst hv1
  obtain ⟨S, hS⟩ : ∃ S, val zs = S := ⟨_, rfl⟩
  rw [hS]
  have hce := h.cell
  have HM := hide hM
  have HS := hide hS
  have N0 := hide h
  have hnx : M ≤ 100000 := by omega
  have hwm : IntKind.i64.wrap ((M : Int) - 1) = (M : Int) - 1 := by rw [IntKind.wrap_i64]; omega
  have HL := hide hx
  have HZ0 : Hid (val (zs.drop M) = 10 * val (zs.drop M) + 0) := by show _ = _; rw [List.drop_of_length_le (by rw [hM]; exact Nat.le_refl _)]; simp [val]
  clear hM hS h nx hx
  go_enter Try.func37, Try.ntmps37
  go_wp2
  clear hce
  go_loopw [3, 4] (fun rr ii wr => ∃ (ys : List Int) (r : Int) (p : Nat), rr = .int .i64 r ∧ ii = .int .i64 ((p : Int) - 1) ∧ p ≤ M ∧ 0 ≤ r ∧ r ≤ 9 ∧ ys.length = M ∧ Lim ys ∧ Hid (ys.take p = zs.take p) ∧ Hid (val (zs.drop p) = 10 * val (ys.drop p) + r) ∧ Num b wr g (.slice a1 M c1) ys ∧ Mod (Own1 g (.slice a1 M c1)) w wr) (fun _ ii _ => (intOf ii + 1).toNat)
  case atStart => exact ⟨zs, 0, M, rfl, rfl, Nat.le_refl _, Int.le_refl _, by decide, (unhide HM).symm, unhide HL, hide rfl, HZ0, unhide N0, Mod.refl _ _⟩
  case round =>
    clear N0 HZ0
    obtain ⟨ys, r, p, rfl, rfl, hp, hr0, hr1, hyl, hyL, hT, hV, n, md⟩ := hrel
    by_cases hA : 0 < p
    · obtain ⟨q, rfl⟩ : ∃ q, p = q + 1 := ⟨p - 1, by omega⟩
      have hq1 : ((q + 1 : Nat) : Int) - 1 = (q : Int) := by omega
      rw [hq1]
      obtain ⟨gb, cap, e5, x1, f1, hg1⟩ := n.at q (by omega)
      rw [hyl] at e5
      cases e5
      have hce := n.cell
      rw [getD_take (unhide hT)] at x1
      have hx0 := (unhide HL).at q
      have hV2 := digit_step zs ys q r (by omega) hr0 hx0.1 (unhide hV)
      have hT2 := fun z => set_take zs ys q z (unhide hT)
      have hput := fun z => n.put (j := q) hyl.symm z
      have hmd := fun u => md.set (p := ⟨gb, q, none⟩) (.inl (.inr rfl)) u
      generalize hva : zs.getD q 0 = x at *
      have hX : 0 ≤ r * 65536 + x ∧ r * 65536 + x ≤ 655359 := by omega
      have hw0 : IntKind.i64.wrap (r * 65536) = r * 65536 := by rw [IntKind.wrap_i64]; omega
      have hw1 : IntKind.i64.wrap (r * 65536 + x) = r * 65536 + x := by rw [IntKind.wrap_i64]; omega
      have et : (r * 65536 + x).tmod 10 = (r * 65536 + x) % 10 := by rw [Int.tmod_eq_emod_of_nonneg (by omega)]
      have ed : (r * 65536 + x).tdiv 10 = (r * 65536 + x) / 10 := by rw [Int.tdiv_eq_ediv_of_nonneg (by omega)]
      have hwq : IntKind.i64.wrap ((q : Int) - 1) = (q : Int) - 1 := by rw [IntKind.wrap_i64]; omega
      have hqi0 : (0 : Int) ≤ (q : Int) := by omega
      have hqi1 : (q : Int) < (M : Int) := by omega
      have hl2 := hyL.set q (x := (r * 65536 + x) / 10) (by omega) (by omega)
      have hyl2 : (ys.set q ((r * 65536 + x) / 10)).length = M := by rw [List.length_set]; exact hyl
      have HPUT := hide (hput ((r * 65536 + x) / 10))
      have HMD := hide (hmd (.int .i64 ((r * 65536 + x) / 10)))
      have HV2 := hide hV2
      have HT2 := hide (hT2 ((r * 65536 + x) / 10))
      have hR : 0 ≤ (r * 65536 + x) % 10 ∧ (r * 65536 + x) % 10 ≤ 9 := by omega
      have hQb : 0 ≤ (r * 65536 + x) / 10 ∧ (r * 65536 + x) / 10 ≤ 65535 := by omega
      generalize hQ : (r * 65536 + x) / 10 = Q at *
      generalize hRR : (r * 65536 + x) % 10 = R at *
      clear hV hV2 hput hmd n md hva hT hT2 hq1 hQ hRR
      go_wp2
      go_roundw
      case rel => exact ⟨_, R, q, rfl, rfl, by omega, hR.1, hR.2, hyl2, hl2, HT2, HV2, unhide HPUT, unhide HMD⟩
      case measure => simp [intOf]
    · have hp0 : p = 0 := by omega
      have hi1 : ¬ (0 : Int) ≤ (p : Int) - 1 := by omega
      have hv := unhide hV
      rw [hp0, List.drop_zero, List.drop_zero, unhide HS] at hv
      have hy0 := val_nonneg hyL
      have hdiv : S / 10 = val ys := by omega
      have hmod : S % 10 = r := by omega
      have HQ := hide hdiv
      have HR := hide hmod
      clear hV hT hv hp0 hdiv hmod
      go_wp2_with fail
      refine (trim_impl _ n hyL).mono ?_
      rintro e w6 ⟨⟨r6, rfl⟩, u6, n6, ho6, m6⟩
      have N6 := hide n6
      have M6 := hide (md.then m6 (fun i e => .inl (.inl e)))
      have O6 := hide ho6
      clear n6 ho6 m6 md n
      go_wp2
      go_ret
      exact ⟨by rw [unhide HR]; rfl, _, by rw [unhide HQ]; exact unhide N6, unhide O6, unhide M6⟩

end Go.Proofs.Ytmmlembpfmichaa
