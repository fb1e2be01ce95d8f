/-
  Contracts that the proofs of this seat share: INat24, IDiv1, IDiv2, IDiv3, INat26, IDiv4, PowNum, IDiv5.
-/
import Derived.Test.YtkifpodnljlhiaaDoorBF
import Derived.Test.YtkifpodnljlhiaaDoorBB
import Derived.Test.YtkifpodnljlhiaaDoorBM
import Derived.Test.YtkifpodnljlhiaaDoorBE
import Derived.Deep.QuietTactic
import Derived.BigQuiet
import Derived.BigRegion
import Derived.Test.YtkifpodnljlhiaaDoorINat22
import Derived.Test.YtkifpodnljlhiaaDoorBC
import Derived.Test.YtkifpodnljlhiaaDoorBG
import Derived.Test.YtkifpodnljlhiaaDoorBA
namespace Go.Proofs.YtkifpodnljlhiaaDoor
open Go.RowKit
set_option linter.unusedVariables false
set_option maxRecDepth 8000

theorem Num.put {b g gb cap j n : Nat} {w : World} {zs : List Int} (h : Num b w g (.slice (some ⟨gb, 0, none⟩) n cap) zs) (hn : n = zs.length) (z : Int) :
    Num b (w.setCell ⟨gb, j, none⟩ (.int .i64 z)) g (.slice (some ⟨gb, 0, none⟩) n cap) (zs.set j z) := by
  subst hn
  have n1 : gb ≠ g := fun e => h.apart (by simp [Value.ownBlock, e])
  exact ⟨cell_aside _ (p := ⟨g, 0, none⟩) (r := ⟨gb, j, none⟩) n1 h.cell, by rw [frozen_set]; exact h.loose, own_set h.own j z, h.apart⟩
theorem dig_step (p xs : List Int) (i : Nat) (x c S : Int) (hp : p.length = i) (hi : i < xs.length) (hx : xs.getD i 0 = x) (h : val p + 65536 ^ i * (c + 10 * val (xs.drop i)) = S) :
    val (p ++ [(10 * x + c) % 65536]) + 65536 ^ (i + 1) * ((10 * x + c) / 65536 + 10 * val (xs.drop (i + 1))) = S := by
  rw [val_snoc, hp, ← h, val_drop xs i, hx, Int.pow_succ]
  have e : (10 * x + c) % 65536 + 65536 * ((10 * x + c) / 65536 + 10 * val (xs.drop (i + 1))) = c + 10 * (x + 65536 * val (xs.drop (i + 1))) := by omega
  have key : ∀ P A B : Int, P * A + P * 65536 * B = P * (A + 65536 * B) := fun P A B => by rw [Int.mul_add, Int.mul_assoc]
  rw [← e, ← key, Int.add_assoc]
theorem mix_set (p xs : List Int) (i : Nat) (z : Int) (hp : p.length = i) (hi : i < xs.length) : (p ++ xs.drop i).set i z = (p ++ [z]) ++ xs.drop (i + 1) := by
  rw [List.set_append_right _ _ (by omega), hp, Nat.sub_self, List.drop_eq_getElem_cons hi, List.set_cons_zero, List.append_assoc]
  rfl
theorem mix_at (p xs : List Int) (i : Nat) (hp : p.length = i) : (p ++ xs.drop i).getD i 0 = xs.getD i 0 := by
  simp only [List.getD]
  rw [List.getElem?_append_right (by omega), hp, Nat.sub_self, List.getElem?_drop, Nat.add_zero]

end Go.Proofs.YtkifpodnljlhiaaDoor

namespace Go.Proofs.YtkifpodnljlhiaaDoor
open Go.RowKit
set_option linter.unusedVariables false
set_option maxRecDepth 8000
set_option linter.unusedSimpArgs false

/-- zs' is zs with t times ys added at the place p. -/
structure Added (b : Nat) (w w' : World) (g gb : Nat) (v : Value) (zs zs' ys : List Int) (p : Nat) (t : Int) : Prop where
  num : Num b w' g v zs'
  len : zs'.length = zs.length
  sum : val zs' = val zs + t * (65536 ^ p * val ys)
  mid : ∀ j, p ≤ j → j < p + ys.length → 0 ≤ zs'.getD j 0 ∧ zs'.getD j 0 ≤ 65535
  out : ∀ j, (j < p ∨ p + ys.length < j) → zs'.getD j 0 = zs.getD j 0
  top : -65536 ≤ zs'.getD (p + ys.length) 0 - zs.getD (p + ys.length) 0 ∧ zs'.getD (p + ys.length) 0 - zs.getD (p + ys.length) 0 ≤ 65536
  md : Mod (fun i => i = gb) w w'

set_option maxHeartbeats 8000000 in
theorem addTimes_impl {b b2 g1 g2 gb L cap p : Nat} {v2 : Value} {zs ys : List Int} (w : World) (n1 : Num b w g1 (.slice (some ⟨gb, 0, none⟩) L cap) zs) (n2 : Num b2 w g2 v2 ys) (h1 : gb ≠ g2) (h2 : v2.ownBlock ≠ some gb)
    (hL : zs.length = L) (hp : p + ys.length < L) (nL : L ≤ 200000) (hy : Lim ys) (hz : ∀ j, p ≤ j → j < p + ys.length → 0 ≤ zs.getD j 0 ∧ zs.getD j 0 ≤ 65535) (ht : -1099511627776 ≤ zs.getD (p + ys.length) 0 ∧ zs.getD (p + ys.length) 0 ≤ 1099511627776) (t : Int) (t0 : -65535 ≤ t) (t1 : t ≤ 65535) :
    Calls Tryd.prog 51 #[.pointer (some ⟨g1, 0, none⟩), .int .i64 t, .pointer (some ⟨g2, 0, none⟩), .int .i64 (p : Int)] w fun e w' => (∃ r, e = .returned r) ∧ ∃ zs', Added b w w' g1 gb (.slice (some ⟨gb, 0, none⟩) L cap) zs zs' ys p t := by
  obtain ⟨M, hM⟩ : ∃ M, M = ys.length := ⟨_, rfl⟩
  obtain ⟨a2, c2, hv2⟩ := n2.form
  rw [← hM] at hv2
  subst hv2
  have hgb : gb ≠ g1 := fun e => n1.apart (by simp [Value.ownBlock, e])
  have HA2 := hide ((row_cell n2.row).2.2.2)
  have N1 := hide n1
  have N2 := hide n2
  have HM := hide hM
  have hMp : p + M < L := by omega
  have HZ := hide hz
  have HT := hide ht
  have c1w := n1.cell
  have c2w := n2.cell
  have HL := hide hL
  clear n1 n2 hz ht hM hp hL
  go_enter Tryd.func51, Tryd.ntmps51
  go_wp2
  clear c1w c2w
  go_loopw [8, 17] (fun cc ii wr => ∃ (qs : List Int) (c : Int) (i : Nat), cc = .int .i64 c ∧ ii = .int .i64 (i : Int) ∧ i ≤ M ∧ -65536 ≤ c ∧ c ≤ 65536 ∧ qs.length = L ∧ Hid (val qs + 65536 ^ (p + i) * c = val zs + t * (65536 ^ p * val (ys.take i))) ∧ Hid (∀ j, p ≤ j → j < p + i → 0 ≤ qs.getD j 0 ∧ qs.getD j 0 ≤ 65535) ∧ Hid (∀ j, (j < p ∨ p + i ≤ j) → qs.getD j 0 = zs.getD j 0) ∧ Num b wr g1 (.slice (some ⟨gb, 0, none⟩) L cap) qs ∧ Mod (fun i => i = gb) w wr) (fun _ ii _ => M - (intOf ii).toNat)
  case atStart => exact ⟨zs, 0, 0, rfl, rfl, Nat.zero_le _, by omega, by omega, unhide HL, by show _ = _; simp [val], hide (fun j h h' => by omega), hide (fun j h => rfl), unhide N1, Mod.refl _ _⟩
  case round =>
    clear N1
    obtain ⟨qs, c, i, rfl, rfl, hi, hc0, hc1, hq, hV, hmid, hout, n, md⟩ := hrel
    have c1 := n.cell
    have c2 := md.cellAt (fun e => h1 e.symm) (unhide N2).cell
    by_cases hA : i < M
    · have hi1 : (i : Int) < (M : Int) := by omega
      obtain ⟨gB, oB, rfl, x2⟩ := unhide HA2 i (by have := unhide HM; omega)
      have hgB : gB ≠ gb := fun e => h2 (by simp [Value.ownBlock, e])
      replace x2 := md.cellAt (fun e => hgB e) x2
      obtain ⟨gb', cap', e', x1, f1, -⟩ := n.at (p + i) (by omega)
      have eg : gb = gb' := by simp at e'; exact e'.1
      subst eg
      clear e'
      have hy0 := hy.at i
      have hz0 := unhide HZ (p + i) (by omega) (by have := unhide HM; omega)
      have he := unhide hout (p + i) (.inr (by omega))
      rw [he] at x1
      have hst := times_step qs ys p i (by omega) (by have := unhide HM; omega) _ t c _ he (unhide hV)
      generalize hzz : zs.getD (p + i) 0 = z at *
      generalize hyy : ys.getD i 0 = y at *
      have hm := times_bound t y t0 t1 hy0.1 hy0.2
      have hand : bits .and .i64 (z + t * y + c) 65535 = (z + t * y + c) % 65536 := and_i64 _ 16 (by decide)
      have hij : (p : Int) + (i : Int) < (L : Int) := by omega
      have hij0 : 0 ≤ (p : Int) + (i : Int) := by omega
      have ep : ((p : Int) + (i : Int)).toNat = p + i := by omega
      have hlen2 : (qs.set (p + i) ((z + t * y + c) % 65536)).length = L := by simpa using hq
      have HV2 := hide hst
      have HN2 := hide (n.put (j := p + i) hq.symm ((z + t * y + c) % 65536))
      have HM2 := hide (Mod.set (S := fun i => i = gb) md (p := ⟨gb, p + i, none⟩) (.inl rfl) (.int .i64 ((z + t * y + c) % 65536)))
      have HMI : Hid (∀ j, p ≤ j → j < p + (i + 1) → 0 ≤ (qs.set (p + i) ((z + t * y + c) % 65536)).getD j 0 ∧ (qs.set (p + i) ((z + t * y + c) % 65536)).getD j 0 ≤ 65535) := fun j h1 h2 => by
        by_cases e : j = p + i
        · subst e; rw [getD_set_eq _ _ _ (by omega)]; omega
        · rw [getD_set_ne _ _ _ _ e]; exact unhide hmid j h1 (by omega)
      have HOU : Hid (∀ j, (j < p ∨ p + (i + 1) ≤ j) → (qs.set (p + i) ((z + t * y + c) % 65536)).getD j 0 = zs.getD j 0) := fun j h => by
        rw [getD_set_ne _ _ _ _ (by omega)]; exact unhide hout j (by omega)
      have HLL := hide hlen2
      have hcb : -65536 ≤ (z + t * y + c) / 65536 ∧ (z + t * y + c) / 65536 ≤ 65536 := by omega
      clear hV hst hmid hout n md hlen2 hzz hyy he
      go_wp2
      go_roundw
      case rel => exact ⟨_, (z + t * y + c) / 65536, i + 1, rfl, by go_num, by omega, hcb.1, hcb.2, unhide HLL, HV2, HMI, HOU, unhide HN2, unhide HM2⟩
      case measure => simp [intOf]; omega
    · have hiM : i = M := by omega
      subst hiM
      have hi1 : ¬ (i : Int) < (i : Int) := by omega
      obtain ⟨gb', cap', e', x1, f1, -⟩ := n.at (p + i) (by omega)
      have eg : gb = gb' := by simp at e'; exact e'.1
      subst eg
      clear e'
      have he := unhide hout (p + i) (.inr (by omega))
      have hV' := unhide hV
      rw [List.take_of_length_le (by have := unhide HM; omega)] at hV'
      have hend := times_end qs ys p (by have := unhide HM; omega) t c (val zs) (by rw [← unhide HM]; exact hV')
      rw [← unhide HM] at hend
      have hbt := unhide HT
      rw [← unhide HM] at hbt
      have hqb : qs.getD (p + i) 0 = zs.getD (p + i) 0 := he
      generalize hzz : qs.getD (p + i) 0 = z at *
      rw [← hqb] at hbt
      have hij : (p : Int) + (i : Int) < (L : Int) := by omega
      have hij0 : 0 ≤ (p : Int) + (i : Int) := by omega
      have ep : ((p : Int) + (i : Int)).toNat = p + i := by omega
      have hwp : IntKind.i64.wrap ((p : Int) + (i : Int)) = (p : Int) + (i : Int) := wrap_small _ (by omega) (by omega)
      have HADD : Hid (∀ k, Added b w ((wr.drewN k).setCell ⟨gb, p + i, none⟩ (.int .i64 (z + c))) g1 gb (.slice (some ⟨gb, 0, none⟩) L cap) zs (qs.set (p + i) (z + c)) ys p t) := fun k => by
        have e1 := unhide HM
        have e2 := unhide HL
        refine ⟨(n.kept ((Kept.refl 0 0 _).drewN k)).put (j := p + i) hq.symm (z + c), by simp; omega, hend, fun j h1 h2 => ?_, fun j h => ?_, ?_, Mod.set (S := fun i => i = gb) (md.drewN k) (p := ⟨gb, p + i, none⟩) (.inl rfl) _⟩
        · rw [getD_set_ne _ _ _ _ (by omega)]; exact unhide hmid j h1 (by omega)
        · rw [getD_set_ne _ _ _ _ (by omega)]; exact unhide hout j (by omega)
        · rw [← e1, getD_set_eq _ _ _ (by omega), ← hqb]; omega
      clear hV hV' hend hmid hout n md hzz he hqb
      go_wp2
      go_region
      go_wp2
      exact bodyPost_end (v := .tuple #[]) (by simp [results, Tryd.results51, go_sem]) rfl ⟨⟨_, rfl⟩, _, unhide HADD 1⟩

end Go.Proofs.YtkifpodnljlhiaaDoor

namespace Go.Proofs.YtkifpodnljlhiaaDoor
open Go.RowKit
set_option linter.unusedVariables false
set_option maxRecDepth 8000
set_option linter.unusedSimpArgs false

theorem win_val (zs : List Int) (p m : Nat) (h : p + m < zs.length) : val (zs.drop p) = val ((zs.drop p).take m) + 65536 ^ m * (zs.getD (p + m) 0 + 65536 * val (zs.drop (p + m + 1))) := by
  rw [val_take_drop (zs.drop p) m (by simp; omega), List.drop_drop, val_drop zs (p + m)]
theorem getD_drop (zs : List Int) (p j : Nat) : (zs.drop p).getD j 0 = zs.getD (p + j) 0 := by simp [List.getD]
theorem getD_take (zs : List Int) (m j : Nat) (h : j < m) : (zs.take m).getD j 0 = zs.getD j 0 := by simp [List.getD, List.getElem?_take, h]
theorem mid_lim (zs : List Int) (p m : Nat) (h : p + m ≤ zs.length) (hm : ∀ j, p ≤ j → j < p + m → 0 ≤ zs.getD j 0 ∧ zs.getD j 0 ≤ 65535) : Lim ((zs.drop p).take m) := by
  refine lim_of_getD (fun j hj => ?_)
  have hl : ((zs.drop p).take m).length = m := by simp; omega
  rw [getD_take _ _ _ (by omega), getD_drop]
  exact hm _ (by omega) (by omega)
theorem mid_val (zs : List Int) (p m : Nat) (h : p + m ≤ zs.length) (hm : ∀ j, p ≤ j → j < p + m → 0 ≤ zs.getD j 0 ∧ zs.getD j 0 ≤ 65535) : 0 ≤ val ((zs.drop p).take m) ∧ val ((zs.drop p).take m) < 65536 ^ m := by
  have hl : ((zs.drop p).take m).length = m := by simp; omega
  have h1 := mid_lim zs p m h hm
  have h2 := val_lt h1
  rw [hl] at h2
  exact ⟨val_nonneg h1, h2⟩
theorem list_same {xs ys : List Int} (hl : xs.length = ys.length) (h : ∀ j, j < xs.length → xs.getD j 0 = ys.getD j 0) : xs = ys := by
  apply List.ext_getElem hl
  intro i h1 h2
  have := h i h1
  simpa [List.getD, h1, h2] using this
theorem drop_same {xs ys : List Int} (hl : xs.length = ys.length) (n : Nat) (h : ∀ j, n ≤ j → xs.getD j 0 = ys.getD j 0) : xs.drop n = ys.drop n :=
  list_same (by simp [hl]) (fun j hj => by rw [getD_drop, getD_drop]; exact h _ (by omega))
theorem take_same {xs ys : List Int} (hl : xs.length = ys.length) (n : Nat) (h : ∀ j, j < n → xs.getD j 0 = ys.getD j 0) : xs.take n = ys.take n :=
  list_same (by simp [hl]) (fun j hj => by
    have hj' : j < n := by simp at hj; omega
    rw [getD_take _ _ _ hj', getD_take _ _ _ hj']; exact h _ hj')

/-- qs is zs but for the limbs from p up to p + m, and is S from p on. -/
structure Win (zs qs : List Int) (p m : Nat) (S : Int) : Prop where
  len : qs.length = zs.length
  mid : ∀ j, p ≤ j → j < p + m → 0 ≤ qs.getD j 0 ∧ qs.getD j 0 ≤ 65535
  out : ∀ j, (j < p ∨ p + m < j) → qs.getD j 0 = zs.getD j 0
  win : val (qs.drop p) = S

theorem Win.added {b g gb p : Nat} {w w' : World} {v : Value} {zs qs qs' ys : List Int} {S t : Int} (W : Win zs qs p ys.length S) (A : Added b w w' g gb v qs qs' ys p t) (hp : p + ys.length < zs.length) : Win zs qs' p ys.length (S + t * val ys) := by
  have hl : qs'.length = zs.length := A.len.trans W.len
  refine ⟨hl, A.mid, fun j h => (A.out j h).trans (W.out j h), ?_⟩
  have e1 := val_take_drop qs' p (by omega)
  have e2 := val_take_drop qs p (by have := W.len; omega)
  have e3 : qs'.take p = qs.take p := take_same A.len p (fun j h => A.out j (.inl h))
  have e4 := A.sum
  rw [e1, e2, e3, W.win] at e4
  have hP : (0 : Int) < 65536 ^ p := Int.pow_pos (by decide)
  generalize (65536 : Int) ^ p = P at *
  have e5 : P * val (qs'.drop p) = P * (S + t * val ys) := by
    rw [Int.mul_add]
    have : t * (P * val ys) = P * (t * val ys) := by rw [← Int.mul_assoc, Int.mul_comm t P, Int.mul_assoc]
    omega
  exact Int.eq_of_mul_eq_mul_left (by omega) e5
theorem Win.top {zs qs : List Int} {p m : Nat} {S : Int} (W : Win zs qs p m S) (hp : p + m < zs.length) (h0 : val (zs.drop (p + m + 1)) = 0) :
    ∃ lo : Int, 0 ≤ lo ∧ lo < 65536 ^ m ∧ S = lo + 65536 ^ m * qs.getD (p + m) 0 := by
  have hl := W.len
  have e1 := win_val qs p m (by omega)
  have e2 : qs.drop (p + m + 1) = zs.drop (p + m + 1) := drop_same hl _ (fun j h => W.out j (.inr (by omega)))
  rw [W.win, e2, h0, Int.mul_zero, Int.add_zero] at e1
  obtain ⟨h1, h2⟩ := mid_val qs p m (by omega) W.mid
  exact ⟨_, h1, h2, e1⟩
theorem top_neg {S lo P T : Int} (hP : 0 < P) (h0 : 0 ≤ lo) (h1 : lo < P) (h : S = lo + P * T) : (T < 0 ↔ S < 0) := by
  constructor
  · intro ht
    have : P * T ≤ P * (-1) := Int.mul_le_mul_of_nonneg_left (by omega) (by omega)
    omega
  · intro hs
    rcases Int.lt_or_le T 0 with h2 | h2
    · exact h2
    · have := Int.mul_nonneg (Int.le_of_lt hP) h2
      omega
theorem top_range {S lo P T : Int} (hP : 0 < P) (h0 : 0 ≤ lo) (h1 : lo < P) (h : S = lo + P * T) (hS : - (65536 * P) ≤ S) (hS1 : S < 65536 * P) : -65537 ≤ T ∧ T ≤ 65536 := by
  constructor
  · rcases Int.lt_or_le T (-65537) with h2 | h2
    · have : P * T ≤ P * (-65538) := Int.mul_le_mul_of_nonneg_left (by omega) (by omega)
      omega
    · exact h2
  · rcases Int.lt_or_le 65536 T with h2 | h2
    · have : P * 65537 ≤ P * T := Int.mul_le_mul_of_nonneg_left (by omega) (by omega)
      omega
    · exact h2
theorem win_zero {S lo P T : Int} (hP : 0 < P) (h0 : 0 ≤ lo) (h1 : lo < P) (h : S = lo + P * T) (hS : 0 ≤ S) (hS1 : S < P) : T = 0 := by
  have a := (top_neg hP h0 h1 h)
  rcases Int.lt_or_le T 1 with h2 | h2
  · have : ¬ T < 0 := fun e => by have := a.1 e; omega
    omega
  · have : P * 1 ≤ P * T := Int.mul_le_mul_of_nonneg_left h2 (by omega)
    omega
/-- All is limbs again where what is left is less than the divisor. -/
theorem Win.done {zs qs : List Int} {p m : Nat} {S : Int} (W : Win zs qs p m S) (hz : Lim zs) (hp : p + m < zs.length) (h0 : val (zs.drop (p + m + 1)) = 0) (hS : 0 ≤ S) (hS1 : S < 65536 ^ m) : Lim qs := by
  obtain ⟨lo, h1, h2, h3⟩ := W.top hp h0
  have ht := win_zero (Int.pow_pos (by decide)) h1 h2 h3 hS hS1
  refine lim_of_getD (fun j hj => ?_)
  by_cases e1 : j < p ∨ p + m < j
  · rw [W.out j e1]; exact hz.at j
  · by_cases e2 : j = p + m
    · subst e2; rw [ht]; omega
    · exact W.mid j (by omega) (by omega)
theorem win_start {zs : List Int} {p m : Nat} (hz : Lim zs) : Win zs zs p m (val (zs.drop p)) := ⟨rfl, fun j _ _ => hz.at j, fun j _ => rfl, rfl⟩
/-- What is above the window is nought, where the window is less than 65536 times the divisor. -/
theorem above_zero {zs : List Int} {p m : Nat} (hz : Lim zs) (hp : p + m < zs.length) (hR : val (zs.drop p) < 65536 ^ (m + 1)) : val (zs.drop (p + m + 1)) = 0 := by
  have e := val_take_drop (zs.drop p) (m + 1) (by simp; omega)
  rw [List.drop_drop, ← Nat.add_assoc] at e
  have h1 := val_nonneg ((hz.drop p).take (m + 1))
  have h2 := val_nonneg (hz.drop (p + m + 1))
  rcases Int.lt_or_le (val (zs.drop (p + m + 1))) 1 with h | h
  · omega
  · have : (65536 : Int) ^ (m + 1) * 1 ≤ 65536 ^ (m + 1) * val (zs.drop (p + m + 1)) := Int.mul_le_mul_of_nonneg_left h (Int.le_of_lt (Int.pow_pos (by decide)))
    omega
/-- The guess is not too small. -/
theorem guess_ok {zs ys : List Int} {p : Nat} (hz : Lim zs) (hy : Nrm ys) (hne : ys ≠ []) (hp : p + ys.length < zs.length) (h0 : val (zs.drop (p + ys.length + 1)) = 0) :
    val (zs.drop p) / val ys ≤ (zs.getD (p + ys.length) 0 * 65536 + zs.getD (p + ys.length - 1) 0) / ys.getD (ys.length - 1) 0 := by
  have hm : 0 < ys.length := List.length_pos_iff.2 hne
  obtain ⟨m, hm1⟩ : ∃ m, ys.length = m + 1 := ⟨ys.length - 1, by omega⟩
  have hY : 0 < val ys := by
    have h1 := nrm_pow hy hne
    have : (0 : Int) < 65536 ^ (ys.length - 1) := Int.pow_pos (by decide)
    omega
  have hlast : 0 < ys.getD (ys.length - 1) 0 := by
    have h1 := hy.1.at (ys.length - 1)
    have hl : ys.length - 1 < ys.length := by omega
    have h2 := hy.2 (ys.getD (ys.length - 1) 0) (by rw [List.getLast?_eq_getElem?]; simp [List.getD, hl])
    omega
  have eY := val_take_succ ys m (by omega)
  rw [← hm1, List.take_length] at eY
  have hYl := val_nonneg (hy.1.take m)
  have eR := win_val zs p m (by omega)
  have hlo := mid_val zs p m (by omega) (fun j _ _ => hz.at j)
  have e2 := val_drop zs (p + m + 1)
  rw [show p + m + 1 + 1 = p + ys.length + 1 by omega, h0, Int.mul_zero, Int.add_zero] at e2
  rw [e2] at eR
  rw [hm1, show m + 1 - 1 = m by omega, show p + (m + 1) - 1 = p + m by omega, show p + (m + 1) = p + m + 1 by omega]
  rw [hm1, show m + 1 - 1 = m by omega] at hlast
  refine guess_ge (val (zs.drop p)) (val ys) _ (65536 ^ m) _ _ (val ((zs.drop p).take m)) (Int.pow_pos (by decide)) hlast ?_ hlo.2 ?_ (Int.ediv_nonneg (val_nonneg (hz.drop p)) (Int.le_of_lt hY)) (Int.ediv_mul_le _ (by omega))
  · rw [eR, Int.mul_comm (zs.getD (p + m + 1) 0 * 65536 + zs.getD (p + m) 0), Int.add_comm (val ((zs.drop p).take m))]
    congr 2
    rw [Int.mul_comm 65536, Int.add_comm]
  · rw [eY, Int.mul_comm]; omega

end Go.Proofs.YtkifpodnljlhiaaDoor

namespace Go.Proofs.YtkifpodnljlhiaaDoor
open Go.RowKit
set_option linter.unusedVariables false
set_option maxRecDepth 8000
set_option linter.unusedSimpArgs false

/-- qs is what is left of zs when the divisor is taken off at the place p as often as it goes in. -/
structure DivAt (b : Nat) (w w' : World) (g gb : Nat) (v : Value) (zs qs ys : List Int) (p : Nat) : Prop where
  num : Num b w' g v qs
  len : qs.length = zs.length
  lim : Lim qs
  sum : val qs = val zs - val (zs.drop p) / val ys * (65536 ^ p * val ys)
  md : Mod (fun i => i = gb) w w'

set_option maxHeartbeats 8000000 in
theorem divideAt_impl {b b2 g1 g2 gb L cap p : Nat} {v2 : Value} {zs ys : List Int} (w : World) (n1 : Num b w g1 (.slice (some ⟨gb, 0, none⟩) L cap) zs) (n2 : Num b2 w g2 v2 ys) (h1 : gb ≠ g2) (h2 : v2.ownBlock ≠ some gb)
    (hL : zs.length = L) (hp : p + ys.length < L) (nL : L ≤ 200000) (hz : Lim zs) (hy : Nrm ys) (hne : ys ≠ []) (hR : val (zs.drop p) < 65536 * val ys) :
    Calls Tryd.prog 43 #[.pointer (some ⟨g1, 0, none⟩), .pointer (some ⟨g2, 0, none⟩), .int .i64 (p : Int)] w fun e w' => e = .returned (.int .i64 (val (zs.drop p) / val ys)) ∧ ∃ qs, DivAt b w w' g1 gb (.slice (some ⟨gb, 0, none⟩) L cap) zs qs ys p := by
  obtain ⟨M, hM⟩ : ∃ M, M = ys.length := ⟨_, rfl⟩
  have hM0 : 0 < M := by rw [hM]; exact List.length_pos_iff.2 hne
  obtain ⟨a2, c2, hv2⟩ := n2.form
  rw [← hM] at hv2
  subst hv2
  obtain ⟨gy, oy, ey, cy⟩ := (row_cell n2.row).2.2.2 (M - 1) (by omega)
  cases ey
  have hgy : gy ≠ gb := fun e => h2 (by simp [Value.ownBlock, e])
  have hgb : gb ≠ g1 := fun e => n1.apart (by simp [Value.ownBlock, e])
  have hY : 0 < val ys := by
    have e1 := nrm_pow hy hne
    have : (0 : Int) < 65536 ^ (ys.length - 1) := Int.pow_pos (by decide)
    omega
  have hYM := val_lt hy.1
  rw [← hM] at hYM
  have h0 : val (zs.drop (p + ys.length + 1)) = 0 := above_zero hz (by omega) (by rw [Int.pow_succ, ← hM]; omega)
  have hgs := guess_ok hz hy hne (by omega) h0
  rw [← hM] at hgs h0 hp
  have hlast : 0 < ys.getD (M - 1) 0 := by
    have h1 := hy.1.at (M - 1)
    have hl : ys.length - 1 < ys.length := by omega
    have h2 := hy.2 (ys.getD (M - 1) 0) (by rw [hM, List.getLast?_eq_getElem?]; simp [List.getD, hl])
    omega
  have hly := (hy.1.at (M - 1)).2
  obtain ⟨gt, capt, et, xt, ft, -⟩ := n1.at (p + M) (by omega)
  have eg : gb = gt := by simp at et; exact et.1
  subst eg
  clear et
  obtain ⟨gt, capt, et, xu, fu, -⟩ := n1.at (p + M - 1) (by omega)
  have eg : gb = gt := by simp at et; exact et.1
  subst eg
  clear et
  have ht0 := hz.at (p + M)
  have hu0 := hz.at (p + M - 1)
  have hR0 := val_nonneg (hz.drop p)
  obtain ⟨q, hq⟩ : ∃ q : Nat, (q : Int) = val (zs.drop p) / val ys := ⟨(val (zs.drop p) / val ys).toNat, by have := Int.ediv_nonneg hR0 (Int.le_of_lt hY); omega⟩
  rw [← hq] at hgs
  have hq6 : q ≤ 65535 := by
    have : val (zs.drop p) / val ys < 65536 := Int.ediv_lt_of_lt_mul hY (by omega)
    omega
  rw [← hq]
  generalize hT : zs.getD (p + M) 0 = T at *
  generalize hU : zs.getD (p + M - 1) 0 = U at *
  generalize hyv : ys.getD (M - 1) 0 = y at *
  have hH : 0 ≤ T * 65536 + U ∧ T * 65536 + U ≤ 4294967295 := by omega
  have hdv : (T * 65536 + U).tdiv y = (T * 65536 + U) / y := by rw [Int.tdiv_eq_ediv_of_nonneg (by omega)]
  have hdv0 : 0 ≤ (T * 65536 + U) / y := Int.ediv_nonneg (by omega) (by omega)
  have hdv1 : (T * 65536 + U) / y ≤ 4294967295 := Int.le_trans (Int.ediv_le_self _ (by omega)) (by omega)
  have hy0 : (y == 0) = false := beq_eq_false_iff_ne.2 (by omega)
  have hi1 : (p : Int) + (M : Int) < (L : Int) := by omega
  have hi2 : (p : Int) + (M : Int) - 1 < (L : Int) := by omega
  have hi3 : 0 ≤ (p : Int) + (M : Int) - 1 := by omega
  have hi4 : 0 ≤ (p : Int) + (M : Int) := by omega
  have hi5 : (M : Int) - 1 < (M : Int) := by omega
  have hi6 : 0 ≤ (M : Int) - 1 := by omega
  have e1 : ((p : Int) + (M : Int)).toNat = p + M := by omega
  have e2 : ((p : Int) + (M : Int) - 1).toNat = p + M - 1 := by omega
  have e3 : ((M : Int) - 1).toNat = M - 1 := by omega
  have c1 := n1.cell
  have c2' := n2.cell
  have N1 := hide n1
  have N2 := hide n2
  have HM := hide hM
  have HT := hide hT
  have HL := hide hL
  have H0 := hide h0
  have HQ := hide hq
  have HGS := hide hgs
  clear n1 n2 hM hT hU hyv hL h0 hq hgs hM0
  go_enter Tryd.func43, Tryd.ntmps43
  go_wp2
  go_quiet (fail)
  go_wp2
  go_quiet (fail)
  go_wp2_with fail
  obtain ⟨G, hG⟩ : ∃ G : Nat, min ((T * 65536 + U) / y) 65535 = (G : Int) := ⟨(min ((T * 65536 + U) / y) 65535).toNat, by omega⟩
  have hGq : q ≤ G ∧ G ≤ 65535 := by have := unhide HGS; omega
  rw [hG]
  clear hG HGS hdv hdv0 hdv1 hy0 hH xt xu ft fu cy hlast hly c1 c2' hi2 hi3 hi5 hi6 e2 e3
  refine (addTimes_impl _ ((unhide N1).kept ((Kept.refl 0 0 w).drewN _)) ((unhide N2).kept ((Kept.refl 0 0 w).drewN _)) h1 h2 (unhide HL) (by rw [← unhide HM]; exact hp) nL hy.1 (fun j _ _ => hz.at j) (by have := hz.at (p + ys.length); omega) (-(G : Int)) (by omega) (by omega)).mono ?_
  rintro e w3 ⟨⟨r3, rfl⟩, qs3, A3⟩
  have W3 := (win_start (m := ys.length) hz).added A3 (by have := unhide HL; have := unhide HM; omega)
  rw [show val (zs.drop p) + -(G : Int) * val ys = val (zs.drop p) - (G : Int) * val ys from by rw [Int.neg_mul]; omega] at W3
  have HW3 := hide W3
  have HN3 := hide A3.num
  have HM3 := hide (((Kept.refl 0 0 w).drewN _).toMod.trans A3.md)
  clear W3 A3
  go_wp2_with fail
  go_loopw [9] (fun gg wr => ∃ (g : Nat) (qs : List Int), gg = .int .i64 (g : Int) ∧ q ≤ g ∧ g ≤ 65535 ∧ Hid (Win zs qs p ys.length (val (zs.drop p) - (g : Int) * val ys)) ∧ Num b wr g1 (.slice (some ⟨gb, 0, none⟩) L cap) qs ∧ Mod (fun i => i = gb) w wr) (fun gg _ => (intOf gg).toNat)
  case atStart => exact ⟨G, qs3, rfl, hGq.1, hGq.2, HW3, unhide HN3, unhide HM3⟩
  case round =>
    clear HW3 HN3 HM3
    obtain ⟨g, qs, rfl, hg0, hg1, hW, n, md⟩ := hrel
    have hlen : qs.length = L := (unhide hW).len.trans (unhide HL)
    obtain ⟨lo, hlo0, hlo1, hlo2⟩ := (unhide hW).top (by have := unhide HL; have := unhide HM; omega) (by rw [← unhide HM]; exact unhide H0)
    rw [← unhide HM] at hlo1 hlo2
    have hP : (0 : Int) < 65536 ^ M := Int.pow_pos (by decide)
    have hgY : (g : Int) * val ys ≤ 65535 * val ys := Int.mul_le_mul_of_nonneg_right (by omega) (by omega)
    have hgY0 : 0 ≤ (g : Int) * val ys := Int.mul_nonneg (by omega) (by omega)
    have htr := top_range hP hlo0 hlo1 hlo2 (by omega) (by omega)
    have htn := top_neg hP hlo0 hlo1 hlo2
    have hqv := unhide HQ
    obtain ⟨gt, capt, et, xt, ft, -⟩ := n.at (p + M) (by omega)
    have eg : gb = gt := by simp at et; exact et.1
    subst eg
    clear et
    have c1 := n.cell
    have HTR : Hid (∀ z, qs.getD (p + M) 0 = z → -1099511627776 ≤ z ∧ z ≤ 1099511627776) := fun z e => by rw [← e]; omega
    generalize hT' : qs.getD (p + M) 0 = T' at *
    by_cases hneg : T' < 0
    · have hS : val (zs.drop p) - (g : Int) * val ys < 0 := htn.1 hneg
      have hgq : q + 1 ≤ g := by
        rcases Nat.lt_or_ge q g with h | h
        · exact h
        · exfalso
          have e1 : g = q := by omega
          have e2 := Int.ediv_mul_le (val (zs.drop p)) (show val ys ≠ 0 by omega)
          rw [← hqv] at e2
          rw [e1] at hS
          omega
      have HWW := hW
      have HNN := hide n
      have HMM := hide md
      have HT'' := hide hT'
      clear hW n md htr htn hlo2 hlo1 hlo0 hgY hgY0 hS hqv hT'
      go_wp2_with fail
      refine (addTimes_impl _ (unhide HNN) ((unhide N2).mod (unhide HMM) (fun e => h1 e.symm) (fun i e e' => h2 (by rw [e, e']))) h1 h2 hlen (by rw [← unhide HM]; exact hp) nL hy.1 (unhide HWW).mid (by rw [← unhide HM, unhide HT'']; exact unhide HTR T' rfl) 1 (by omega) (by omega)).mono ?_
      rintro e w5 ⟨⟨r5, rfl⟩, qs5, A5⟩
      have W5 := (unhide HWW).added A5 (by have := unhide HL; have := unhide HM; omega)
      obtain ⟨g', rfl⟩ : ∃ g', g = g' + 1 := ⟨g - 1, by omega⟩
      rw [show val (zs.drop p) - ((g' + 1 : Nat) : Int) * val ys + 1 * val ys = val (zs.drop p) - (g' : Int) * val ys from by rw [Int.natCast_add, Int.add_mul]; simp; omega] at W5
      have HW5 := hide W5
      have HN5 := hide A5.num
      have HM5 := hide ((unhide HMM).trans A5.md)
      clear W5 A5 HWW HNN HMM HT'' xt ft c1 HTR
      go_wp2
      go_roundw
      case rel => exact ⟨g', qs5, by go_num, by omega, by omega, HW5, unhide HN5, unhide HM5⟩
      case measure => simp [intOf]
    · have hS : 0 ≤ val (zs.drop p) - (g : Int) * val ys := by
        rcases Int.lt_or_le (val (zs.drop p) - (g : Int) * val ys) 0 with h | h
        · exact absurd (htn.2 h) hneg
        · exact h
      have hgq : g = q := by
        have e1 : (g : Int) ≤ val (zs.drop p) / val ys := (Int.le_ediv_iff_mul_le hY).2 (by omega)
        rw [← hqv] at e1
        omega
      subst hgq
      have hSY : val (zs.drop p) - (g : Int) * val ys < val ys := by
        have e1 := Int.mul_ediv_add_emod (val (zs.drop p)) (val ys)
        have e2 := Int.emod_lt_of_pos (val (zs.drop p)) hY
        rw [← hqv, Int.mul_comm] at e1
        omega
      have hD : DivAt b w wr g1 gb (.slice (some ⟨gb, 0, none⟩) L cap) zs qs ys p := by
        have e1 := unhide HM
        have e2 := unhide HL
        have W := unhide hW
        refine ⟨n, W.len, W.done hz (by omega) (by rw [← e1]; exact unhide H0) hS (by rw [← e1]; omega), ?_, md⟩
        have a1 := val_take_drop qs p (by omega)
        have a2 := val_take_drop zs p (by omega)
        rw [W.win, take_same W.len p (fun j h => W.out j (.inl h))] at a1
        rw [a1, a2, ← hqv, Int.mul_sub]
        have : (65536 : Int) ^ p * ((g : Int) * val ys) = (g : Int) * (65536 ^ p * val ys) := by rw [← Int.mul_assoc, Int.mul_comm (65536 ^ p) (g : Int), Int.mul_assoc]
        omega
      have HD := hide hD
      clear hD hW n md htr htn hlo2 hlo1 hlo0 hgY hgY0 hS hSY hqv hT' HTR
      go_wp2_with fail
      go_ret
      exact ⟨rfl, _, unhide HD⟩

end Go.Proofs.YtkifpodnljlhiaaDoor

namespace Go.Proofs.YtkifpodnljlhiaaDoor
open Go.RowKit
set_option linter.unusedVariables false
set_option maxRecDepth 8000

set_option maxHeartbeats 1000000 in
theorem copied_impl {b g : Nat} {v : Value} {zs : List Int} (w : World) (h : Num b w g v zs) (hlen : zs.length ≤ 1000000) :
    Calls Tryd.prog 42 #[.pointer (some ⟨g, 0, none⟩)] w fun e w' => ∃ v', e = .returned (.agg #[v']) ∧ w'.ownsRow w.heap.size 3 1 v' zs.length (zs.map (Value.int .i64)) ∧ Kept 0 0 w w' := by
  have s1 := h.row.kept ((Kept.refl 0 0 w).alloc (.cells #[.slice none 0 0] 45)) (by omega)
  obtain ⟨a1, c1, rfl⟩ := h.form
  have hce := old_cell (.cells #[.slice none 0 0] 45) h.cell
  clear h
  go_enter Tryd.func42, Tryd.ntmps42
  go_wp2_with fail
  generalize hW : w.alloc (.cells #[.slice none 0 0] 45) = W at *
  have c2' : W.cell? ⟨w.heap.size, 0, none⟩ = some (.slice none 0 0) := by rw [← hW]; exact new_cell_at _ _ _ _ rfl
  have f2' : W.frozen? ⟨w.heap.size, 0, none⟩ = false := by rw [← hW]; exact new_loose _ _ _ _ rfl
  have hs : W.heap.size = w.heap.size + 1 := by rw [← hW]; simp
  have hk : Kept 0 0 w W := by rw [← hW]; exact (Kept.refl 0 0 w).alloc _
  clear hW
  refine (clone_impl _ s1 hlen).mono ?_
  rintro e w6 ⟨v6, rfl, o6, k6⟩
  have c4 := k6.cell0 c2'
  have f4 := k6.loose0 (by simp; omega) f2'
  have O : Hid ((w6.setCell ⟨w.heap.size, 0, none⟩ v6).ownsRow w.heap.size 3 1 v6 zs.length (zs.map (Value.int .i64))) := own_less (ownsRow_setCell_below o6 (a := ⟨w.heap.size, 0, none⟩) (by simp; omega) v6) (by omega)
  have K : Hid (Kept 0 0 w (w6.setCell ⟨w.heap.size, 0, none⟩ v6)) := (hk.trans k6).setNew (p := ⟨w.heap.size, 0, none⟩) (by simp) _
  obtain ⟨a6, c6, rfl⟩ := own_slice o6
  clear s1 c2' f2' hs hk k6 o6 hce
  go_wp2
  exact bodyPost_ret (v := .agg #[.slice a6 zs.length c6]) (by simp [results, Tryd.results42, go_sem, c4]) rfl ⟨_, rfl, unhide O, unhide K⟩

/-- What the next square is, behind zs: the number itself at first. -/
def nextSq (xs zs : List Int) : List Int := if zs.length = 0 then xs else limbs (val zs * val zs).toNat

set_option maxHeartbeats 4000000 in
theorem square_impl {b1 bn g1 gp gn : Nat} {v1 vn : Value} {zs xs : List Int} (w : World) (h1 : Num b1 w g1 v1 zs) (hp : w.cell? ⟨gp, 0, none⟩ = some (.pointer (some ⟨gn, 0, none⟩))) (hn : Num bn w gn vn xs) (hz : Lim zs) (lz : zs.length ≤ 100000) (lx : xs.length ≤ 100000) :
    Calls Tryd.prog 50 #[.pointer (some ⟨g1, 0, none⟩), .pointer (some ⟨gp, 0, none⟩)] w fun e w' => ∃ u, e = .returned (.agg #[u]) ∧ Num w.heap.size w' g1 u (nextSq xs zs) ∧ Mod (fun i => i = g1) w w' := by
  have k0 := (Kept.refl 0 0 w).alloc (.cells #[.slice none 0 0] 45)
  have m1 := h1.kept k0
  have mn := hn.kept k0
  have hp1 := k0.cell0 hp
  have cr : (w.alloc (.cells #[.slice none 0 0] 45)).cell? ⟨w.heap.size, 0, none⟩ = some (.slice none 0 0) := new_cell_at _ _ _ _ rfl
  have fr : (w.alloc (.cells #[.slice none 0 0] 45)).frozen? ⟨w.heap.size, 0, none⟩ = false := new_loose _ _ _ _ rfl
  have hs : (w.alloc (.cells #[.slice none 0 0] 45)).heap.size = w.heap.size + 1 := by simp
  have hg1 := h1.lt
  have hap := h1.apart
  clear h1 hn hp
  go_enter Tryd.func50, Tryd.ntmps50
  go_wp2_with fail
  generalize w.alloc (.cells #[.slice none 0 0] 45) = W at *
  refine (isZero_impl _ m1).mono ?_
  rintro e w1 ⟨rfl, rfl⟩
  by_cases h0 : zs.length = 0
  · rw [decide_eq_true h0]
    have e0 : nextSq xs zs = xs := by unfold nextSq; rw [if_pos h0]
    have E0 := hide e0
    clear e0
    go_wp2_with fail
    refine (copied_impl _ mn (by omega)).mono ?_
    rintro e w2 ⟨v2, rfl, o2, k2⟩
    have c1 := k2.cell0 m1.cell
    have f1 := k2.loose0 m1.lt m1.loose
    have cr2 := k2.cell0 cr
    have fr2 := k2.loose0 (World.block_lt_of_cell? _ _ cr) fr
    have s2 := k2.size
    have hne : ¬ g1 = w.heap.size := by omega
    have hne' : ¬ w.heap.size = g1 := by omega
    have hN : Num w.heap.size ((w2.setCell ⟨g1, 0, none⟩ v2).setCell ⟨w.heap.size, 0, none⟩ v2) g1 v2 xs := by
      have o3 := own_apart o2 (p := ⟨g1, 0, none⟩) (fun e => by have := (o2.lt _ e).1; simp at this; omega) v2
      have o4 := own_apart o3 (p := ⟨w.heap.size, 0, none⟩) (fun e => by have := (o2.lt _ e).1; simp at this; omega) v2
      refine ⟨cell_aside _ (p := ⟨g1, 0, none⟩) (r := ⟨w.heap.size, 0, none⟩) (by simpa using hne') (cell_on _ _ _ _ _ c1), by rw [frozen_set, frozen_set]; exact f1, own_less o4 (by omega), fun e => by have := (o2.lt _ e).1; omega⟩
    have hM : Mod (fun i => i = g1) w ((w2.setCell ⟨g1, 0, none⟩ v2).setCell ⟨w.heap.size, 0, none⟩ v2) := Mod.set (Mod.set (S := fun i => i = g1) (k0.trans k2).toMod (p := ⟨g1, 0, none⟩) (.inl rfl) v2) (p := ⟨w.heap.size, 0, none⟩) (.inr (Nat.le_refl _)) v2
    have HN := hide hN
    have HM := hide hM
    have cr3 := cell_aside v2 (p := ⟨w.heap.size, 0, none⟩) (r := ⟨g1, 0, none⟩) hne cr2
    obtain ⟨a2, c2, rfl⟩ := own_slice o2
    clear hN hM k2 o2 m1 mn k0
    go_wp2_with fail
    exact bodyPost_ret (v := .agg #[.slice a2 xs.length c2]) (by simp [results, Tryd.results50, go_sem, cr3]) rfl ⟨_, rfl, by rw [unhide E0]; exact unhide HN, unhide HM⟩
  · rw [decide_eq_false h0]
    have e0 : nextSq xs zs = limbs (val zs * val zs).toNat := by unfold nextSq; rw [if_neg h0]
    have E0 := hide e0
    clear e0
    go_wp2_with fail
    refine (multiply_impl _ m1 m1 hz hz lz lz).mono ?_
    rintro e w2 ⟨⟨r2, rfl⟩, u2, n2, mm⟩
    have hne : ¬ g1 = w.heap.size := by omega
    have hne' : ¬ w.heap.size = g1 := by omega
    have cr2 := mm.cellAt (show ¬ w.heap.size = g1 from hne') cr
    have fr2 := mm.looseAt (show ¬ w.heap.size = g1 from hne') (World.block_lt_of_cell? _ _ cr) fr
    have c1 := n2.cell
    generalize hzz : limbs (val zs * val zs).toNat = zz at *
    obtain ⟨a2, c2, rfl⟩ := n2.form
    have hN : Num w.heap.size (w2.setCell ⟨w.heap.size, 0, none⟩ (.slice a2 zz.length c2)) g1 (.slice a2 zz.length c2) zz :=
      ⟨cell_aside _ (p := ⟨g1, 0, none⟩) (r := ⟨w.heap.size, 0, none⟩) (by simpa using hne') c1, by rw [frozen_set]; exact n2.loose, own_less (own_apart n2.own (p := ⟨w.heap.size, 0, none⟩) (fun e => by have := (n2.own.lt _ e).1; simp at this; omega) _) (by omega), n2.apart⟩
    have hM : Mod (fun i => i = g1) w (w2.setCell ⟨w.heap.size, 0, none⟩ (.slice a2 zz.length c2)) := Mod.set ((Kept.toMod k0).trans mm) (p := ⟨w.heap.size, 0, none⟩) (.inr (Nat.le_refl _)) _
    have HN := hide hN
    have HM := hide hM
    clear hN hM n2 mm m1 mn k0 hzz
    go_wp2_with fail
    exact bodyPost_ret (v := .agg #[.slice a2 zz.length c2]) (by simp [results, Tryd.results50, go_sem, cr2]) rfl ⟨_, rfl, by rw [unhide E0]; exact unhide HN, unhide HM⟩

end Go.Proofs.YtkifpodnljlhiaaDoor

namespace Go.Proofs.YtkifpodnljlhiaaDoor
open Go.RowKit
set_option linter.unusedVariables false
set_option maxRecDepth 8000
set_option linter.unusedSimpArgs false

theorem Num.same {b g : Nat} {w : World} {v : Value} {xs : List Int} (h : Num b w g v xs) : Num b (w.setCell ⟨g, 0, none⟩ v) g v xs :=
  ⟨cell_on _ _ _ _ _ h.cell, by rw [frozen_set]; exact h.loose, own_apart h.own (p := ⟨g, 0, none⟩) (fun e => h.apart e) _, h.apart⟩

set_option maxHeartbeats 8000000 in
theorem shiftDown_num {b g : Nat} {v : Value} {xs : List Int} (w : World) (h : Num b w g v xs) (hx : Lim xs) (hne : 0 < xs.length) (nx : xs.length ≤ 100000) (s : Nat) (hs : s < 16) :
    Calls Tryd.prog 25 #[.pointer (some ⟨g, 0, none⟩), .int .i64 (s : Int)] w fun e w' => (∃ r, e = .returned r) ∧ ∃ u, Num b w' g u (limbs ((val xs).toNat / 2 ^ s)) ∧ u.ownBlock = v.ownBlock ∧ Mod (Own1 g v) w w' := by
  obtain ⟨K, hK⟩ : ∃ K : Int, K = (s : Int) := ⟨_, rfl⟩
  have e3 : K.tdiv 16 = 0 := by rw [Int.tdiv_eq_ediv_of_nonneg (by omega)]; omega
  have e4 : K.tmod 16 = (s : Int) := by rw [Int.tmod_eq_emod_of_nonneg (by omega)]; omega
  have hKK : 0 ≤ K ∧ K ≤ 9223372036854775807 := by omega
  rw [← hK]
  generalize hA : (val xs).toNat / 2 ^ s = A
  have HA := hide hA
  clear hK hA
  have hce := h.cell
  have hlo := h.loose
  have hs0 : ¬ ((s : Int) < 0) := by omega
  have hs64 : (s : Int) < 64 := by omega
  obtain ⟨m, hm⟩ : ∃ m, m = xs.length := ⟨_, rfl⟩
  have hmin : min (0 : Int) (m : Int) = 0 := by omega
  obtain ⟨gb, cap, hv, -⟩ := h.at 0 hne
  rw [← hm] at hv
  subst hv
  have hq2 : (m : Int) ≤ (cap : Int) := by obtain ⟨a', c', e', hm1, hm2, -⟩ := h.row; cases e'; omega
  have hcq : ¬ cap = 0 := by omega
  have wl := h.same.kept (Kept.refl 0 0 _).drew
  have ml := ((Mod.refl (Own1 g (.slice (some ⟨gb, 0, none⟩) m cap)) w).set (p := ⟨g, 0, none⟩) (.inl (.inl rfl)) (.slice (some ⟨gb, 0, none⟩) m cap)).kept (Kept.refl 0 0 _).drew
  have hAv : Hid (limbs (val (sdn ((2 ^ s : Nat) : Int) xs)).toNat = limbs A) := by
    show _ = _
    rw [sdn_val s (by omega) hx, ← unhide HA]
    have := val_nonneg hx
    generalize val xs = X at *
    congr 1
    obtain ⟨N, rfl⟩ : ∃ N : Nat, X = (N : Int) := ⟨X.toNat, by omega⟩
    rw [← Int.natCast_ediv, Int.toNat_natCast, Int.toNat_natCast]
  have WL := hide wl
  have ML := hide ml
  have HM := hide hm
  have hm63 : (m : Int) ≤ 100000 := by omega
  clear h HA wl ml hm hne nx
  go_enter Tryd.func25, Tryd.ntmps25
  go_wp2
  go_region
  have wl := unhide WL
  have ml := unhide ML
  generalize (w.setCell ⟨g, 0, none⟩ (.slice (some ⟨gb, 0, none⟩) m cap)).drew = W at *
  have hce5 := wl.cell
  clear hce hlo WL ML
  go_wp2
  clear hce5
  go_loopw [32] (fun ii wr => ∃ i : Nat, ii = .int .i64 (i : Int) ∧ i ≤ m ∧ Num b wr g (.slice (some ⟨gb, 0, none⟩) m cap) ((sdn ((2 ^ s : Nat) : Int) xs).take i ++ xs.drop i) ∧ Mod (Own1 g (.slice (some ⟨gb, 0, none⟩) m cap)) w wr) (fun ii _ => m - (intOf ii).toNat)
  case atStart => exact ⟨0, rfl, Nat.zero_le _, by simpa using wl, ml⟩
  case round =>
    clear wl ml
    obtain ⟨i, rfl, hi, wk, md⟩ := hrel
    have hYl := (unhide HM).symm
    have hsl := sdn_length ((2 ^ s : Nat) : Int) xs
    have hlen : ((sdn ((2 ^ s : Nat) : Int) xs).take i ++ xs.drop i).length = m := by rw [sdn_len _ _ _ (by omega)]; exact hYl
    by_cases hB : i < m
    · have hcc := wk.cell
      obtain ⟨g1, c5, e5, hx1, hf1, hg1⟩ := wk.at i (by omega)
      rw [hlen] at e5
      cases e5
      rw [sdn_mix _ _ _ _ (Nat.le_refl _) (by omega)] at hx1
      have hat := fun n => at_work _ (wk.kept ((Kept.refl 0 0 wr).drewN n)).work (i + 1) (by omega)
      rw [sdn_mix _ _ _ _ (by omega) (by omega)] at hat
      have hput := fun n => (wk.kept ((Kept.refl 0 0 wr).drewN n)).put (j := i) hlen.symm ((sdn ((2 ^ s : Nat) : Int) xs).getD i 0)
      rw [sdn_put _ _ _ (by omega)] at hput
      have hmd := fun n u => ((md.drewN n).set (p := ⟨gb, i, none⟩) (.inl (.inr rfl)) u)
      have hv := sdn_at ((2 ^ s : Nat) : Int) xs i (by omega)
      have h0 := hx.at i
      have h1 := hx.at (i + 1)
      generalize xs.getD i 0 = y0 at *
      generalize xs.getD (i + 1) 0 = y1 at *
      have ep : ((2 ^ s : Nat) : Int) = (2 : Int) ^ s := by simp
      rw [ep] at hv
      have hv2 : ((y1 * 65536 + y0) / 2 ^ s).tmod 65536 = (sdn ((2 ^ s : Nat) : Int) xs).getD i 0 := by
        rw [ep, Int.tmod_eq_emod_of_nonneg (Int.ediv_nonneg (by omega) (Int.le_of_lt (Int.pow_pos (by decide))))]
        rw [ep] at *
        exact hv.symm
      generalize (sdn ((2 ^ s : Nat) : Int) xs).getD i 0 = zi at *
      have HAT := hide hat
      have HPUT := hide hput
      have HV2 := hide hv2
      have HMD := hide hmd
      have hi2 : (i : Int) < (m : Int) := by omega
      have hwi : IntKind.i64.wrap ((i : Int) + 1) = (i : Int) + 1 := wrap_small _ (by omega) (by omega)
      have hb0 : 0 ≤ y1 * 65536 + y0 ∧ y1 * 65536 + y0 ≤ 4294967295 := by omega
      have hb1 : 0 ≤ y1 * 65536 ∧ y1 * 65536 ≤ 4294967295 := by omega
      have hw1 : IntKind.i64.wrap (y1 * 65536) = y1 * 65536 := wrap_small _ (by omega) (by omega)
      have hw2 : IntKind.i64.wrap (y1 * 65536 + y0) = y1 * 65536 + y0 := wrap_small _ (by omega) (by omega)
      clear hat hput hmd hv hv2 wk md hlen hsl ep hYl
      go_wp2
      go_region_law (refine step_call_pure rfl 39 (.tmp 42) (.tmp 44) _ rfl (at_enter _) _ _ _ (by simp [Act.eval, Act.put]) (by simp [Act.eval, Act.put, hwi]) (unhide HAT 1) ?_)
      all_goals
        rw [unhide HV2]
        go_wp2
        go_roundw
        case rel => exact ⟨i + 1, by go_num, by omega, unhide HPUT 1, unhide HMD 1 _⟩
        case measure => simp [intOf]; omega
    · have hi2 : ¬ (i : Int) < (m : Int) := by omega
      have him : i = m := by omega
      rw [him, List.take_of_length_le (by omega), List.drop_of_length_le (by omega), List.append_nil] at wk
      clear hlen hsl him hYl
      go_wp2_with fail
      refine (trim_impl _ wk (sdn_lim _ _)).mono ?_
      rintro e w6 ⟨⟨r6, rfl⟩, u6, n6, o6, m6⟩
      rw [unhide hAv] at n6
      have N6 := hide n6
      have O6 := hide o6
      have M6 := hide (md.then m6 (fun i e => .inl (.inl e)))
      clear n6 m6 wk md o6
      go_wp2
      exact bodyPost_end (v := .tuple #[]) (by simp [results, Tryd.results25, go_sem]) rfl ⟨⟨_, rfl⟩, _, unhide N6, unhide O6, unhide M6⟩

end Go.Proofs.YtkifpodnljlhiaaDoor

namespace Go.Proofs.YtkifpodnljlhiaaDoor
open Go.RowKit
set_option linter.unusedVariables false

theorem limbs_len_two (n j : Nat) : (limbs n).length ≤ j ↔ n < 2 ^ (16 * j) := by
  rw [limbs_length_le, pow_limb]
  omega
theorem bits_low {X B : Nat} (h : bitsN X = B) (h0 : 0 < B) : 2 ^ (B - 1) ≤ X := by
  rcases Nat.lt_or_ge X (2 ^ (B - 1)) with h1 | h1
  · have := (bitsN_le X (B - 1)).2 h1
    omega
  · exact h1
theorem bits_high (X : Nat) : X < 2 ^ bitsN X := (bitsN_le X _).1 (Nat.le_refl _)
theorem pow_big {X k : Nat} (h : 1600 ≤ ((bitsN X : Int) - 1) * (k : Int)) : 100 < (limbs (X ^ k)).length := by
  rcases Nat.lt_or_ge 100 (limbs (X ^ k)).length with h1 | h1
  · exact h1
  · exfalso
    have h2 := (limbs_len_two _ _).1 h1
    obtain ⟨B, hB⟩ : ∃ B, bitsN X = B := ⟨_, rfl⟩
    rw [hB] at h
    rcases Nat.eq_zero_or_pos B with hz | hz
    · subst hz
      have : ((0 : Nat) : Int) - 1 = -1 := by omega
      rw [this] at h
      omega
    · have h3 := bits_low hB hz
      have h4 : (2 ^ (B - 1)) ^ k ≤ X ^ k := Nat.pow_le_pow_left h3 k
      rw [← Nat.pow_mul] at h4
      have h5 : 1600 ≤ (B - 1) * k := by
        have e : (B : Int) - 1 = ((B - 1 : Nat) : Int) := by omega
        rw [e, ← Int.natCast_mul] at h
        omega
      obtain ⟨E, hE⟩ : ∃ E : Nat, E = 16 * 100 := ⟨_, rfl⟩
      rw [← hE] at h2
      have h6 : 2 ^ E ≤ 2 ^ ((B - 1) * k) := Nat.pow_le_pow_right (by decide) (by omega)
      exact Nat.lt_irrefl _ (Nat.lt_of_le_of_lt (Nat.le_trans h6 h4) h2)
theorem pow_small {X k : Nat} (h : ((bitsN X : Int) - 1) * (k : Int) < 1600) (m : Nat) (hm : m ≤ k) : (limbs (X ^ m)).length ≤ 100000 := by
  have h1 := bits_high X
  obtain ⟨B, hB⟩ : ∃ B, bitsN X = B := ⟨_, rfl⟩
  rw [hB] at h h1
  rcases Nat.lt_or_ge B 2 with hs | hs
  · have hX : X ≤ 1 := by
      have := Nat.pow_le_pow_right (n := 2) (by decide) (show B ≤ 1 by omega)
      omega
    have h2 : X ^ m ≤ 1 ^ m := Nat.pow_le_pow_left hX m
    rw [Nat.one_pow] at h2
    have := (limbs_length_le (X ^ m) 1).2 (by omega)
    omega
  · have h2 : X ^ m ≤ (2 ^ B) ^ m := Nat.pow_le_pow_left (by omega) m
    rw [← Nat.pow_mul] at h2
    have e : (B : Int) - 1 = ((B - 1 : Nat) : Int) := by omega
    rw [e, ← Int.natCast_mul] at h
    have h3 : B * m ≤ B * k := Nat.mul_le_mul_left _ hm
    have h4 : B * k ≤ 2 * (B - 1) * k := Nat.mul_le_mul_right _ (by omega)
    rw [Nat.mul_assoc] at h4
    have h5 : B * m < 3200 := by omega
    obtain ⟨E, hE⟩ : ∃ E : Nat, E = 16 * 201 := ⟨_, rfl⟩
    have h6 : 2 ^ (B * m) < 2 ^ E := Nat.pow_lt_pow_right (by decide) (by omega)
    have := (limbs_len_two (X ^ m) 201).2 (by rw [← hE]; exact Nat.lt_of_le_of_lt h2 h6)
    omega
theorem pow_long {X i k : Nat} (hi : i ≤ k) (h0 : 0 < i) (h : 100 < (limbs (X ^ i)).length) : 100 < (limbs (X ^ k)).length := by
  rcases Nat.eq_zero_or_pos X with hX | hX
  · subst hX
    rw [Nat.zero_pow h0, limbs_zero] at h
    simp at h
  · rcases Nat.lt_or_ge 100 (limbs (X ^ k)).length with h1 | h1
    · exact h1
    · have h2 := (limbs_len_two _ _).1 h1
      have h3 := Nat.pow_le_pow_right hX hi
      have := (limbs_len_two (X ^ i) 100).2 (Nat.lt_of_le_of_lt h3 h2)
      omega

end Go.Proofs.YtkifpodnljlhiaaDoor

namespace Go.Proofs.YtkifpodnljlhiaaDoor
open Go.RowKit
set_option linter.unusedVariables false
set_option maxRecDepth 8000
set_option linter.unusedSimpArgs false

theorem wps3 {P : Program} {o : Oper} {a : Act} {w : World} {K : Act → World → Prop} {Q : Exit → Act → World → Prop} {R : Ending → World → Prop}
    (n : FuncId) (x y z : Operand) (ts : Array TypeId) (hop : o.op = Op.call { callee := Callee.value (Operand.func n), args := #[x, y, z], argTypes := ts })
    (hcf : ∀ (w : World) (args : Array Value), (callFunc n args).run P w = .ok (.enter n args) w) (vx vy vz : Value) (hx : a.eval x = vx) (hy : a.eval y = vy) (hz : a.eval z = vz) (hc : Calls P n #[vx, vy, vz] w R) (hK : ∀ e w', R e w' → ∃ v, e = .returned v ∧ K (a.put o.dst v) w') :
    Oper.wp P o a w K Q := by
  unfold Oper.wp
  have hrun : (execOp a.eval o).run P w = .ok (.enter n #[vx, vy, vz]) w := by
    have hfn : a.eval (.func n) = .func (.func n) #[] #[] := rfl
    simp [execOp, hop, resolve, invoke, hx, hy, hz, hfn, Deferred.ofValue, Result.andThen, hcf]
  rw [hrun, Oper.upon_enter]
  refine hc.mono ?_
  intro e w' h
  obtain ⟨v, rfl, h2⟩ := hK e w' h
  exact h2
/-- What stands behind n rounds fewer of a division: qs is left of S, ql is told of the quotient so far. -/
structure Dvd (qs ql ys : List Int) (L P n : Nat) (S : Int) : Prop where
  len : qs.length = L
  lim : Lim qs
  qlen : ql.length = P
  qlim : Lim ql
  low : ∀ j, j < n → ql.getD j 0 = 0
  sum : val qs + val ys * val ql = S
  lt : val qs < val ys * 65536 ^ n
theorem Dvd.window {qs ql ys : List Int} {L P i : Nat} {S : Int} (h : Dvd qs ql ys L P (i + 1) S) (hi : i ≤ L) : val (qs.drop i) < 65536 * val ys := by
  have h1 := val_take_drop qs i (by rw [h.len]; exact hi)
  have h2 := val_nonneg (h.lim.take i)
  have h3 := h.lt
  have hP : (0 : Int) < 65536 ^ i := Int.pow_pos (by decide)
  rcases Int.lt_or_le (val (qs.drop i)) (65536 * val ys) with h4 | h4
  · exact h4
  · exfalso
    have h5 := Int.mul_le_mul_of_nonneg_left h4 (Int.le_of_lt hP)
    have h6 : (65536 : Int) ^ i * (65536 * val ys) = val ys * 65536 ^ (i + 1) := by rw [Int.pow_succ, ← Int.mul_assoc, Int.mul_comm]
    omega
theorem Dvd.step {qs qs' ql ys : List Int} {L P i : Nat} {S : Int} (h : Dvd qs ql ys L P (i + 1) S) (hi : i ≤ L) (hP : i < P) (hY : 0 < val ys) (hl : qs'.length = qs.length) (hq : Lim qs') (hs : val qs' = val qs - val (qs.drop i) / val ys * (65536 ^ i * val ys)) :
    Dvd qs' (ql.set i (val (qs.drop i) / val ys)) ys L P i S := by
  have hw := h.window hi
  have h0 := val_nonneg (h.lim.drop i)
  have hd0 := Int.ediv_nonneg h0 (Int.le_of_lt hY)
  have hd1 : val (qs.drop i) / val ys < 65536 := Int.ediv_lt_of_lt_mul hY (by omega)
  have hv := val_set ql i (val (qs.drop i) / val ys) (by rw [h.qlen]; exact hP)
  rw [h.low i (by omega), Int.sub_zero] at hv
  have ht := val_take_drop qs i (by rw [h.len]; exact hi)
  have htl := val_lt (h.lim.take i)
  rw [List.length_take, Nat.min_eq_left (by rw [h.len]; exact hi)] at htl
  have hm := Int.mul_ediv_add_emod (val (qs.drop i)) (val ys)
  have hmy := Int.emod_lt_of_pos (val (qs.drop i)) hY
  have hsum := h.sum
  generalize val (qs.drop i) / val ys = D at *
  generalize val (qs.drop i) % val ys = R at *
  have hp : (0 : Int) < 65536 ^ i := Int.pow_pos (by decide)
  generalize hQ : (65536 : Int) ^ i = Q at *
  have e1 : val ys * (val ql + Q * D) = val ys * val ql + D * (Q * val ys) := by
    rw [Int.mul_add]
    congr 1
    rw [← Int.mul_assoc, Int.mul_comm, Int.mul_comm (val ys) Q]
  refine ⟨by rw [hl, h.len], hq, by rw [List.length_set, h.qlen], h.qlim.set i hd0 (by omega), fun j hj => ?_, by rw [hv, hs, e1]; omega, ?_⟩
  · rw [List.getD_eq_getElem?_getD, List.getElem?_set_ne (by omega), ← List.getD_eq_getElem?_getD]
    exact h.low j (by omega)
  · rw [hs, ht, ← hm]
    have e2 : Q * (val ys * D + R) = D * (Q * val ys) + Q * R := by
      rw [Int.mul_add]
      congr 1
      rw [← Int.mul_assoc, Int.mul_comm]
    have e3 : Q * (R + 1) ≤ Q * val ys := Int.mul_le_mul_of_nonneg_left (by omega) (Int.le_of_lt hp)
    rw [Int.mul_add, Int.mul_one] at e3
    rw [e2, show val ys * (65536 : Int) ^ i = (65536 : Int) ^ i * val ys from Int.mul_comm _ _, hQ]
    omega
theorem Dvd.start {xs ys : List Int} {L : Nat} (hx : Lim xs) (hy : Nrm ys) (hne : ys ≠ []) (hL : xs.length + 1 = L) : Dvd (xs ++ [0]) (List.replicate (L - ys.length) 0) ys L (L - ys.length) (L - ys.length) (val xs) := by
  have h1 := val_lt hx
  have h2 := nrm_pow hy hne
  have h3 : 0 < ys.length := List.length_pos_iff.2 hne
  refine ⟨by simp; omega, hx.snoc (by decide) (by decide), by simp, Lim.zeros _, fun j _ => by have := Bnd.zeros (L - ys.length) j; omega, by rw [val_snoc, val_zeros]; simp, ?_⟩
  rw [val_snoc, Int.mul_zero, Int.add_zero]
  have h4 : (65536 : Int) ^ xs.length ≤ 65536 ^ (ys.length - 1) * 65536 ^ (L - ys.length) := by
    rw [← Int.pow_add]
    have := Nat.pow_le_pow_right (n := 65536) (by decide) (show xs.length ≤ ys.length - 1 + (L - ys.length) by omega)
    have h5 : ∀ n : Nat, (65536 : Int) ^ n = ((65536 ^ n : Nat) : Int) := fun n => by simp
    rw [h5, h5]
    omega
  have hp : (0 : Int) < 65536 ^ (L - ys.length) := Int.pow_pos (by decide)
  have h6 := Int.mul_le_mul_of_nonneg_right h2 (Int.le_of_lt hp)
  omega
theorem Dvd.done {qs ql ys : List Int} {L P s : Nat} {X Y : Int} (h : Dvd qs ql ys L P 0 (X * 2 ^ s)) (hX : 0 ≤ X) (hY : 0 < Y) (hys : val ys = Y * 2 ^ s) : val ql = X / Y ∧ (val qs).toNat / 2 ^ s = (X % Y).toNat := by
  have h1 := h.lt
  have h2 := h.sum
  have h3 := val_nonneg h.lim
  have hp : (0 : Int) < 2 ^ s := Int.pow_pos (by decide)
  have hn : ((2 ^ s : Nat) : Int) = (2 : Int) ^ s := by simp
  rw [Int.pow_zero, Int.mul_one, hys] at h1
  rw [hys] at h2
  generalize val ql = Q at *
  generalize val qs = R at *
  have e1 : R = (X - Y * Q) * 2 ^ s := by rw [Int.sub_mul]; rw [Int.mul_right_comm] at h2; omega
  have e2 : 0 ≤ X - Y * Q := by
    rcases Int.lt_or_le (X - Y * Q) 0 with h | h
    · have := Int.mul_neg_of_neg_of_pos h hp; omega
    · exact h
  have e3 : X - Y * Q < Y := by
    rw [e1] at h1
    exact Int.lt_of_mul_lt_mul_right h1 (Int.le_of_lt hp)
  have e4 : Q = X / Y := by
    have := Int.ediv_emod_unique (a := X) (b := Y) (r := X - Y * Q) (q := Q) hY
    exact ((this.2 ⟨by omega, e2, e3⟩).1).symm
  have e5 : X % Y = X - Y * Q := by have := Int.mul_ediv_add_emod X Y; rw [← e4] at this; omega
  refine ⟨e4, ?_⟩
  rw [e5, e1]
  obtain ⟨N, hN⟩ : ∃ N : Nat, X - Y * Q = (N : Int) := ⟨(X - Y * Q).toNat, by omega⟩
  rw [hN, ← hn, ← Int.natCast_mul, Int.toNat_natCast, Int.toNat_natCast]
  exact Nat.mul_div_cancel _ (Nat.pow_pos (by decide))
theorem room_ok {ys : List Int} (hy : Nrm ys) (hne : ys ≠ []) : ∃ s : Nat, s < 16 ∧ (16 : Int) * (ys.length : Int) - (bitsN (val ys).toNat : Int) = (s : Int) := by
  have h3 : 0 < ys.length := List.length_pos_iff.2 hne
  have h0 := val_nonneg hy.1
  have e1 : bitsN (val ys).toNat ≤ 16 * ys.length := (bitsN_le _ _).2 ((limbs_len_two _ _).1 (by rw [← nrm_limbs hy]; omega))
  have e2 : 16 * ys.length - 16 < bitsN (val ys).toNat := by
    rcases Nat.lt_or_ge (16 * ys.length - 16) (bitsN (val ys).toNat) with h | h
    · exact h
    · have := (limbs_len_two (val ys).toNat (ys.length - 1)).2 (by have := (bitsN_le (val ys).toNat (16 * (ys.length - 1))).1 (by omega); exact this)
      rw [← nrm_limbs hy] at this
      omega
  exact ⟨16 * ys.length - bitsN (val ys).toNat, by omega, by omega⟩
/-- What a division leaves: the quotient in a new list, the remainder in the number's place. -/
structure Divd (b : Nat) (w w' : World) (g : Nat) (v vq : Value) (qs rs : List Int) : Prop where
  q : w'.ownsRow w.heap.size 3 1 vq qs.length (qs.map (Value.int .i64))
  r : ∃ u, Num b w' g u rs ∧ (∀ k, vq.ownBlock = some k → u.ownBlock ≠ some k) ∧ (∀ k, u.ownBlock = some k → v.ownBlock = some k ∨ w.heap.size ≤ k)
  md : Mod (Own1 g v) w w'

/-- The blocks of a division: the result, the divisor, the quotient, the lists. -/
structure DvC (R g1 gb s4 Y Q : Nat) (v1 u4 uq : Value) : Prop where
  g : g1 < R
  y0 : R < Y
  y1 : Y < s4
  y2 : ∀ k, u4.ownBlock = some k → Y < k ∧ k < s4
  b1 : (v1.ownBlock = some gb ∧ gb < R) ∨ s4 ≤ gb
  b2 : gb ≠ g1
  b3 : gb < Q
  b4 : s4 ≤ Q
  q1 : ∀ k, uq.ownBlock = some k → Q < k
/-- What a division works on. -/
structure DvW (b : Nat) (w wr : World) (g1 gb cap L : Nat) (v1 : Value) (Y : Nat) (u4 : Value) (ys : List Int) (Q : Nat) (uq : Value) (qs ql : List Int) : Prop where
  n : Num b wr g1 (.slice (some ⟨gb, 0, none⟩) L cap) qs
  y : Num w.heap.size wr Y u4 ys
  q : Num w.heap.size wr Q uq ql
  cR : wr.cell? ⟨w.heap.size, 0, none⟩ = some (.slice none 0 0)
  fR : wr.frozen? ⟨w.heap.size, 0, none⟩ = false
  md : Mod (Own1 g1 v1) w wr
theorem DvW.drewN {b : Nat} {w wr : World} {g1 gb cap L : Nat} {v1 : Value} {Y : Nat} {u4 : Value} {ys : List Int} {Q : Nat} {uq : Value} {qs ql : List Int} (h : DvW b w wr g1 gb cap L v1 Y u4 ys Q uq qs ql) (m : Nat) : DvW b w (wr.drewN m) g1 gb cap L v1 Y u4 ys Q uq qs ql := by
  have k := (Kept.refl 0 0 wr).drewN m
  exact ⟨h.n.kept k, h.y.kept k, h.q.kept k, k.cell0 h.cR, k.loose0 (World.block_lt_of_cell? _ _ h.cR) h.fR, h.md.drewN m⟩
theorem DvW.dived {b : Nat} {w wr w' : World} {g1 gb cap L : Nat} {v1 : Value} {Y : Nat} {u4 : Value} {ys : List Int} {Q s4 : Nat} {uq : Value} {qs qs' ql : List Int} {p : Nat} (h : DvW b w wr g1 gb cap L v1 Y u4 ys Q uq qs ql) (c : DvC w.heap.size g1 gb s4 Y Q v1 u4 uq)
    (d : DivAt b wr w' g1 gb (.slice (some ⟨gb, 0, none⟩) L cap) qs qs' ys p) : DvW b w w' g1 gb cap L v1 Y u4 ys Q uq qs' ql := by
  obtain ⟨c1, c2, c3, c4, c5, c6, c7, c8, c9⟩ := c
  have m := d.md
  have hb : gb < w.heap.size ∨ s4 ≤ gb := c5.elim (fun e => .inl e.2) .inr
  exact ⟨d.num, h.y.mod m (fun e => by omega) (fun i e e' => by have := c4 i e; omega), h.q.mod m (fun e => by omega) (fun i e e' => by have := c9 i e; omega), m.cellAt (fun e => by omega) h.cR, m.looseAt (fun e => by omega) (World.block_lt_of_cell? _ _ h.cR) h.fR,
    h.md.then m (fun i e => c5.elim (fun h => .inl (.inr (by rw [e]; exact h.1))) (fun h => .inr (by omega)))⟩
theorem DvW.put {b : Nat} {w wr : World} {g1 gb cap L gz P cz : Nat} {v1 : Value} {Y : Nat} {u4 : Value} {ys : List Int} {Q s4 : Nat} {qs ql : List Int} (h : DvW b w wr g1 gb cap L v1 Y u4 ys Q (.slice (some ⟨gz, 0, none⟩) P cz) qs ql) (c : DvC w.heap.size g1 gb s4 Y Q v1 u4 (.slice (some ⟨gz, 0, none⟩) P cz))
    (hP : P = ql.length) (j : Nat) (z : Int) : DvW b w (wr.setCell ⟨gz, j, none⟩ (.int .i64 z)) g1 gb cap L v1 Y u4 ys Q (.slice (some ⟨gz, 0, none⟩) P cz) qs (ql.set j z) := by
  obtain ⟨c1, c2, c3, c4, c5, c6, c7, c8, c9⟩ := c
  have hz := c9 gz rfl
  have m : Mod (fun i => i = gz) wr (wr.setCell ⟨gz, j, none⟩ (.int .i64 z)) := (Mod.refl (fun i => i = gz) wr).set (p := ⟨gz, j, none⟩) (.inl rfl) _
  exact ⟨h.n.mod m (fun e => by omega) (fun i e e' => by simp [Value.ownBlock] at e; omega), h.y.mod m (fun e => by omega) (fun i e e' => by have := c4 i e; omega), h.q.put hP z, m.cellAt (fun e => by omega) h.cR, m.looseAt (fun e => by omega) (World.block_lt_of_cell? _ _ h.cR) h.fR, h.md.then m (fun i e => .inr (by omega))⟩
theorem shiftUp_any {b g : Nat} {v : Value} {xs : List Int} (w : World) (h : Num b w g v xs) (hb : b ≤ w.heap.size) (hx : Lim xs) (nx : xs.length ≤ 50000) (k : Nat) (hk : k ≤ 800000) :
    Calls Tryd.prog 21 #[.pointer (some ⟨g, 0, none⟩), .int .i64 (k : Int)] w fun e w' => (∃ r, e = .returned r) ∧ ∃ u, Num b w' g u (limbs ((val xs).toNat * 2 ^ k)) ∧ (∀ i, u.ownBlock = some i → v.ownBlock = some i ∨ w.heap.size ≤ i) ∧ Mod (fun i => i = g) w w' := by
  by_cases hne : xs = []
  · subst hne
    refine (shiftUp_zero w h (k : Int)).mono ?_
    rintro e w' ⟨h1, rfl⟩
    refine ⟨h1, v, ?_, fun i e => .inl e, Mod.refl _ _⟩
    rw [show (val []).toNat * 2 ^ k = 0 from by simp [val], limbs_zero]
    exact h
  · refine (shiftUp_impl w h hx hne nx k hk).mono ?_
    rintro e w' ⟨h1, u, n, m⟩
    exact ⟨h1, u, n.less hb, fun i e => .inr (n.own.lt i e).1, m⟩
theorem shl_len {xs : List Int} (hx : Lim xs) (s : Nat) (hs : s < 16) : (limbs ((val xs).toNat * 2 ^ s)).length ≤ xs.length + 1 := by
  have h0 := val_nonneg hx
  have h1 := val_lt hx
  rw [pow_limb] at h1
  refine (limbs_len_two _ _).2 ?_
  have h2 : (val xs).toNat < 2 ^ (16 * xs.length) := by omega
  have h3 := Nat.pow_le_pow_right (n := 2) (by decide) (show s ≤ 16 by omega)
  have e : 2 ^ (16 * (xs.length + 1)) = 2 ^ (16 * xs.length) * 2 ^ 16 := by rw [← Nat.pow_add]; congr 1
  rw [e]
  exact Nat.lt_of_lt_of_le (Nat.mul_lt_mul_of_pos_right h2 (Nat.pow_pos (by decide))) (Nat.mul_le_mul_left _ h3)
theorem shl_int {xs : List Int} (hx : Lim xs) (s : Nat) : val (limbs ((val xs).toNat * 2 ^ s)) = val xs * 2 ^ s := by
  have h0 := val_nonneg hx
  rw [limbs_val, Int.natCast_mul, Int.toNat_of_nonneg h0]
  simp

theorem in_bits : ∀ (w : World) (args : Array Value), (callFunc 23 args).run Tryd.prog w = .ok (.enter 23 args) w := enters Tryd.func23 (by decide) (fun h => by cases h)

theorem in_divideAt : ∀ (w : World) (args : Array Value), (callFunc 43 args).run Tryd.prog w = .ok (.enter 43 args) w := enters Tryd.func43 (by decide) (fun h => by cases h)

set_option maxHeartbeats 8000000 in
theorem divide_impl {b1 b2 g1 g2 : Nat} {v1 v2 : Value} {xs ys : List Int} (w : World) (n1 : Num b1 w g1 v1 xs) (n2 : Num b2 w g2 v2 ys) (hb : b1 ≤ w.heap.size) (hx : Nrm xs) (hy : Nrm ys) (hne : ys ≠ []) (nx : xs.length ≤ 40000) (ny : ys.length ≤ 40000) :
    Calls Tryd.prog 27 #[.pointer (some ⟨g1, 0, none⟩), .pointer (some ⟨g2, 0, none⟩)] w fun e w' => ∃ vq, e = .returned (.agg #[vq]) ∧ Divd b1 w w' g1 v1 vq (limbs (val xs / val ys).toNat) (limbs (val xs % val ys).toNat) := by
  obtain ⟨M, hM⟩ : ∃ M, M = ys.length := ⟨_, rfl⟩
  obtain ⟨a2, c2, hv2⟩ := n2.form
  rw [← hM] at hv2
  subst hv2
  have nM : M ≤ 40000 := by omega
  obtain ⟨s, hs, hroom⟩ := room_ok hy hne
  rw [← hM] at hroom
  have k0 : Kept 0 0 w (w.alloc (.cells #[.slice none 0 0] 45)) := (Kept.refl 0 0 w).alloc _
  have cR : (w.alloc (.cells #[.slice none 0 0] 45)).cell? ⟨w.heap.size, 0, none⟩ = some (.slice none 0 0) := new_cell_at _ _ _ _ rfl
  have fR : (w.alloc (.cells #[.slice none 0 0] 45)).frozen? ⟨w.heap.size, 0, none⟩ = false := new_loose _ _ _ _ rfl
  have hsz : (w.alloc (.cells #[.slice none 0 0] 45)).heap.size = w.heap.size + 1 := by simp
  have l1 := n1.lt
  have m1 := n1.kept k0
  have m2 := n2.kept k0
  obtain ⟨B, hB⟩ : ∃ B : Nat, B = bitsN (val ys).toNat := ⟨_, rfl⟩
  rw [← hB] at hroom
  have hw1 : IntKind.i64.wrap (16 * (M : Int)) = 16 * (M : Int) := wrap_small _ (by omega) (by omega)
  have hw2 : IntKind.i64.wrap (16 * (M : Int) - (B : Int)) = (s : Int) := by rw [hroom]; exact wrap_small _ (by omega) (by omega)
  have HM := hide hM
  have HB := hide hB
  have HR := hide hroom
  have mc := m2.cell
  clear n2 hM hB hroom
  go_enter Tryd.func27, Tryd.ntmps27
  go_wp2_with fail
  generalize w.alloc (.cells #[.slice none 0 0] 45) = W at *
  refine wp_region_held_drew (S := (fun wz => wz.cell? ⟨g2, 0, none⟩ = some (.slice a2 M c2))) (by kernel_rfl) ?_ (fun hHeld => ?_)
  · exact ((Kept.refl 0 0 W).drew).cell0 m2.cell
  replace m1 := m1.kept (Kept.refl 0 0 W).drew
  replace m2 := m2.kept (Kept.refl 0 0 W).drew
  replace k0 := k0.trans (Kept.refl 0 0 W).drew
  replace cR := ((Kept.refl 0 0 W).drew).cell0 cR
  replace fR := ((Kept.refl 0 0 W).drew).loose0 (by simp; omega) fR
  replace hsz : W.drew.heap.size = w.heap.size + 1 := hsz
  generalize W.drew = W1 at *
  refine wpAnyH_take (i := 0) (oi := _) (v := .pointer (some ⟨g2, 0, none⟩)) rfl (by kernel_rfl) (by kernel_rfl) (by kernel_rfl) (fun _ _ _ h => h) (Or.inl ⟨by rfl, ?_⟩) hHeld ?_
  · intro wq hSw
    try dsimp only at hSw
    go_simp
  try simp only [Act.put, List.getElem_toArray, List.getElem_cons_succ, List.getElem_cons_zero, List.setIfInBounds_toArray, List.set_cons_zero, List.set_cons_succ]
  refine wpAnyH_take (i := 1) (oi := _) (v := .pointer (some ⟨g2, 0, none⟩)) rfl (by kernel_rfl) (by kernel_rfl) (by kernel_rfl) (fun _ _ _ h => h) (Or.inl ⟨by rfl, ?_⟩) hHeld ?_
  · intro wq hSw
    try dsimp only at hSw
    go_simp
  try simp only [Act.put, List.getElem_toArray, List.getElem_cons_succ, List.getElem_cons_zero, List.setIfInBounds_toArray, List.set_cons_zero, List.set_cons_succ]
  refine wpAnyH_take (i := 2) (oi := _) (v := .pointer (some ⟨g2, 0, none⟩)) rfl (by kernel_rfl) (by kernel_rfl) (by kernel_rfl) (fun _ _ _ h => h) (Or.inl ⟨by rfl, ?_⟩) hHeld ?_
  · intro wq hSw
    try dsimp only at hSw
    go_simp
  try simp only [Act.put, List.getElem_toArray, List.getElem_cons_succ, List.getElem_cons_zero, List.setIfInBounds_toArray, List.set_cons_zero, List.set_cons_succ]
  refine wpAnyH_take (i := 3) (oi := _) (v := .slice a2 M c2) rfl (by kernel_rfl) (by kernel_rfl) (by kernel_rfl) (fun _ _ _ h => h) (Or.inl ⟨by rfl, ?_⟩) hHeld ?_
  · intro wq hSw
    try dsimp only at hSw
    go_simp
  try simp only [Act.put, List.getElem_toArray, List.getElem_cons_succ, List.getElem_cons_zero, List.setIfInBounds_toArray, List.set_cons_zero, List.set_cons_succ]
  refine wpAnyH_take (i := 4) (oi := _) (v := .int .i64 (M : Int)) rfl (by kernel_rfl) (by kernel_rfl) (by kernel_rfl) (fun _ _ _ h => h) (Or.inl ⟨by rfl, ?_⟩) hHeld ?_
  · intro wq hSw
    try dsimp only at hSw
    go_simp
  try simp only [Act.put, List.getElem_toArray, List.getElem_cons_succ, List.getElem_cons_zero, List.setIfInBounds_toArray, List.set_cons_zero, List.set_cons_succ]
  refine wpAnyH_take (i := 5) (oi := _) (v := .int .i64 (16 * (M : Int))) rfl (by kernel_rfl) (by kernel_rfl) (by kernel_rfl) (fun _ _ _ h => h) (Or.inl ⟨by rfl, ?_⟩) hHeld ?_
  · intro wq hSw
    try dsimp only at hSw
    go_simp
  try simp only [Act.put, List.getElem_toArray, List.getElem_cons_succ, List.getElem_cons_zero, List.setIfInBounds_toArray, List.set_cons_zero, List.set_cons_succ]
  refine wpAnyH_take (i := 6) (oi := _) (v := .pointer (some ⟨g2, 0, none⟩)) rfl (by kernel_rfl) (by kernel_rfl) (by kernel_rfl) (fun _ _ _ h => h) (Or.inl ⟨by rfl, ?_⟩) hHeld ?_
  · intro wq hSw
    try dsimp only at hSw
    go_simp
  try simp only [Act.put, List.getElem_toArray, List.getElem_cons_succ, List.getElem_cons_zero, List.setIfInBounds_toArray, List.set_cons_zero, List.set_cons_succ]
  refine wpAnyH_ready (rs := [7]) (by kernel_rfl) (by simp) ?_
  refine AllReadyH.cons rfl (fun KK hK => ?_) AllReadyH.nil
  simp only [List.getElem_toArray, List.getElem_cons_succ, List.getElem_cons_zero]
  rw [if_pos (by rfl)]
  refine wps1 23 (.tmp 16) _ rfl in_bits (.pointer (some ⟨g2, 0, none⟩)) rfl (bitsM_impl _ m2 hy (by omega)) ?_
  rintro e w2 ⟨rfl, k2⟩
  refine ⟨_, rfl, ?_⟩
  rw [← unhide HB]
  replace m1 := m1.kept k2
  replace m2 := m2.kept k2
  replace k0 := k0.trans k2
  replace cR := k2.cell0 cR
  replace fR := k2.loose0 (by simp; omega) fR
  have z2 := k2.size
  clear k2
  clear hHeld
  refine hK.out _ _ ?_ (fun hHeld => ?_)
  · exact m2.cell
  clear hK KK
  try simp only [Act.put, List.getElem_toArray, List.getElem_cons_succ, List.getElem_cons_zero, List.setIfInBounds_toArray, List.set_cons_zero, List.set_cons_succ]
  refine wpAnyH_take (i := 8) (oi := _) (v := .int .i64 (s : Int)) rfl (by kernel_rfl) (by kernel_rfl) (by kernel_rfl) (fun _ _ _ h => h) (Or.inl ⟨by rfl, ?_⟩) hHeld ?_
  · intro wq hSw
    try dsimp only at hSw
    go_simp
  try simp only [Act.put, List.getElem_toArray, List.getElem_cons_succ, List.getElem_cons_zero, List.setIfInBounds_toArray, List.set_cons_zero, List.set_cons_succ]
  refine wpAnyH_take (i := 9) (oi := _) (v := .int .i64 (s : Int)) rfl (by kernel_rfl) (by kernel_rfl) (by kernel_rfl) (fun _ _ _ h => h) (Or.inl ⟨by rfl, ?_⟩) hHeld ?_
  · intro wq hSw
    try dsimp only at hSw
    go_simp
  try simp only [Act.put, List.getElem_toArray, List.getElem_cons_succ, List.getElem_cons_zero, List.setIfInBounds_toArray, List.set_cons_zero, List.set_cons_succ]
  refine wpAnyH_done (by kernel_rfl) ?_ _
  clear hHeld hw1 hw2 HR
  go_wp2_with fail
  have H2 := hide hsz
  clear mc hsz
  refine (copied_impl _ m2 (by omega)).mono ?_
  rintro e w3 ⟨v3, rfl, o3, k3⟩
  replace m1 := m1.kept k3
  replace k0 := k0.trans k3
  replace cR := k3.cell0 cR
  replace fR := k3.loose0 (by have := unhide H2; dsimp only; omega) fR
  have z3 := k3.size
  clear k3 m2
  obtain ⟨a3, c3, hv⟩ := own_slice o3
  subst hv
  have l3 := o3.lt
  have kA := (Kept.refl 0 0 w3).alloc (.cells #[.slice a3 ys.length c3] 45)
  have nY := (Num.new 45 o3).less (b' := w.heap.size) (by have := unhide H2; omega)
  have hRY : w.heap.size < w3.heap.size := by have := unhide H2; omega
  replace m1 := m1.kept kA
  replace k0 := k0.trans kA
  replace cR := kA.cell0 cR
  replace fR := kA.loose0 (by dsimp only; omega) fR
  have z3' : w3.heap.size < (w3.alloc (.cells #[.slice a3 ys.length c3] 45)).heap.size := by simp
  clear kA o3
  go_wp2_with fail
  generalize w3.alloc (.cells #[.slice a3 ys.length c3] 45) = WB at *
  refine (shiftUp_impl _ nY hy.1 hne (by omega) s (by omega)).mono ?_
  rintro e w4 ⟨⟨r4, rfl⟩, u4, n4, m4⟩
  replace m1 := m1.mod m4 (fun e => by omega) (fun i e e' => by have := n1.own.lt _ e; omega)
  replace k0 := k0.mod m4 (fun i e => by omega)
  replace cR := m4.cellAt (fun e => by omega) cR
  replace fR := m4.looseAt (fun e => by omega) (by omega) fR
  have z4 := m4.size
  have l4 := n4.own.lt
  clear m4 nY
  go_wp2_with fail
  refine (shiftUp_any _ m1 (by omega) hx.1 (by omega) s (by omega)).mono ?_
  rintro e w5 ⟨⟨r5, rfl⟩, u5, n5, o5, m5⟩
  replace n4 := n4.mod m5 (fun e => by omega) (fun i e e' => by have := l4 i e; omega)
  have md : Mod (Own1 g1 v1) w w5 := k0.toMod.then m5 (fun i e => .inl (.inl e))
  replace cR := m5.cellAt (fun e => by omega) cR
  replace fR := m5.looseAt (fun e => by omega) (by omega) fR
  have z5 := m5.size
  clear m5 m1 k0
  have hX := shl_int hx.1 s
  have hYv := shl_int hy.1 s
  have hXl := limbs_lim ((val xs).toNat * 2 ^ s)
  have hYn := limbs_nrm ((val ys).toNat * 2 ^ s)
  have hXn := shl_len hx.1 s hs
  have hYnn := shl_len hy.1 s hs
  generalize limbs ((val xs).toNat * 2 ^ s) = X at *
  generalize limbs ((val ys).toNat * 2 ^ s) = Y at *
  have hx0 := val_nonneg hx.1
  have hy0 : 0 < val ys := by have e1 := nrm_pow hy hne; have : (0 : Int) < 65536 ^ (ys.length - 1) := Int.pow_pos (by decide); omega
  have hYp : 0 < val Y := by rw [hYv]; exact Int.mul_pos hy0 (Int.pow_pos (by decide))
  have hYne : Y ≠ [] := fun e => by rw [e] at hYp; simp [val] at hYp
  have DV0 := hide (Dvd.start hXl hYn hYne rfl)
  rw [hX] at DV0
  have HYV := hide hYv
  clear hX hYv
  obtain ⟨a5, c5, hv⟩ := n5.form
  subst hv
  have hce := n5.cell
  have hlo := n5.loose
  have hown' := own_kept n5.own ((Kept.refl 0 0 w5).alloc (.cells #[.int .i64 0] 3))
  have hl' : X.length ≤ 1000000 := by omega
  have hbb : b1 ≤ (w5.alloc (.cells #[.int .i64 0] 3)).heap.size := by simp; omega
  have HBB := hide hbb
  have hcc : (w5.alloc (.cells #[.int .i64 0] 3)).cell? ⟨w5.heap.size, 0, none⟩ = some (.int .i64 0) := new_cell_at _ _ _ _ rfl
  clear hbb
  go_wp2_with (at_builtin; refine wpList_snoc rfl _ _ rfl rfl _ rfl 0 hcc hown' hl' (unhide HBB) ?_)
  intro v6 w6 hown6 hgrow hat
  unfold OwnL at hown6
  replace hat := unhide hat
  obtain ⟨d1, d2, d3, d4⟩ := n5.snoc _ hgrow hat hown6
  have hl5 : ∀ i, Own1 g1 (.slice a5 X.length c5) i → i = g1 ∨ (v1.ownBlock = some i ∧ i < w.heap.size ∧ i ≠ g1) ∨ w4.heap.size ≤ i := fun i e => e.elim .inl (fun e => .inr ((o5 i e).elim (fun e1 => .inl ⟨e1, (n1.own.lt i e1).2, fun e2 => n1.apart (by rw [e1, e2])⟩) .inr))
  replace n4 := n4.mod d4 (fun e => by have := hl5 _ e; omega) (fun i e e' => by have := hl5 _ e'; have := l4 i e; omega)
  replace cR := d4.cellAt (fun e => by have := hl5 _ e; omega) cR
  replace fR := d4.looseAt (fun e => by have := hl5 _ e; omega) (by omega) fR
  replace md := md.then d4 (fun i e => (hl5 i e).elim (fun h => .inl (.inl h)) (fun h => h.elim (fun h => .inl (.inr h.1)) (fun h => .inr (by omega))))
  have z6 := d4.size
  obtain ⟨gb, cap, e6, -⟩ := d3.at 0 (by simp)
  rw [List.length_append, List.length_singleton] at e6
  obtain ⟨Lx, hLx⟩ : ∃ Lx, Lx = X.length + 1 := ⟨_, rfl⟩
  rw [← hLx] at e6 DV0
  subst e6
  have hgb : (v1.ownBlock = some gb ∧ gb < w.heap.size ∧ gb ≠ g1) ∨ w4.heap.size ≤ gb := hat.elim (fun e => ((hl5 gb (.inr e.symm)).elim (fun h => absurd (by rw [h]; rfl : (Value.slice (some ⟨gb, 0, none⟩) Lx cap).ownBlock = some g1) d3.apart) id)) (fun e => .inr (by simp [Value.ownBlock] at e; omega))
  have lgb : gb < w6.heap.size := by have := (d3.own.lt gb rfl).2; rw [size_set] at this; exact this
  rw [size_set] at z6
  obtain ⟨P, hP⟩ : ∃ P, P = Lx - Y.length := ⟨_, rfl⟩
  rw [← hP] at DV0
  have HLx := hide hLx
  have HP := hide hP
  have hLn : Lx ≤ 60000 := by omega
  have hYl : Y.length ≤ 60000 := by omega
  clear hLx hP hown6 hgrow hat d4 n5 o5 hce hlo hown' hcc hl5
  have kQ := (Kept.refl 0 0 (w6.setCell ⟨g1, 0, none⟩ (.slice (some ⟨gb, 0, none⟩) Lx cap))).alloc (.cells #[.slice none 0 0] 45)
  have nQ : Num w.heap.size ((w6.setCell ⟨g1, 0, none⟩ (.slice (some ⟨gb, 0, none⟩) Lx cap)).alloc (.cells #[.slice none 0 0] 45)) w6.heap.size (.slice none 0 0) [] := by have := Num.new (b := w.heap.size) (zs := []) (w := w6.setCell ⟨g1, 0, none⟩ (.slice (some ⟨gb, 0, none⟩) Lx cap)) 45 (World.ownsRow_nil _ _ _ _); rw [size_set] at this; exact this
  obtain ⟨a4, c4, hv4⟩ := n4.form
  subst hv4
  replace n4 := n4.kept kQ
  replace d3 := d3.kept kQ
  replace cR := kQ.cell0 cR
  replace fR := kQ.loose0 (by rw [size_set]; dsimp only; omega) fR
  replace md := md.kept kQ
  have cg := d3.cell
  have cy := n4.cell
  have hne1 : ¬ g1 = w6.heap.size := by omega
  clear kQ
  go_wp2_with fail
  generalize hQ : w6.heap.size = Q at *
  generalize (w6.setCell ⟨g1, 0, none⟩ (.slice (some ⟨gb, 0, none⟩) Lx cap)).alloc (.cells #[.slice none 0 0] 45) = W7 at *
  clear d1 d2 hQ hne1
  go_quiet (fail)
  have hQ6 := nQ.lt
  replace d3 := d3.kept ((Kept.refl 0 0 W7).drewN nq)
  replace n4 := n4.kept ((Kept.refl 0 0 W7).drewN nq)
  replace nQ := nQ.kept ((Kept.refl 0 0 W7).drewN nq)
  replace cR := ((Kept.refl 0 0 W7).drewN nq).cell0 cR
  have hQ7 := nQ.lt
  replace fR := ((Kept.refl 0 0 W7).drewN nq).loose0 (by dsimp only; omega) fR
  replace md := md.drewN nq
  replace hQ7 := nQ.lt
  clear cg cy
  generalize W7.drewN nq = W8 at *
  have n4' := n4.less (b' := w.heap.size) (by omega)
  clear n4
  by_cases hlt : Y.length < Lx
  · have hPn : P ≤ 60000 := by have := unhide HP; omega
    have hPp : 0 < P := by have := unhide HP; omega
    have hPi : (Lx : Int) - (Y.length : Int) = (P : Int) := by have := unhide HP; omega
    obtain ⟨i0, hi0, hz0, hz1, hz2⟩ := info_parts Tryd.info3'
    have hb0 : i0.bytes * P ≤ 281474976710656 := by rw [hz2]; have := unhide HP; omega
    have hm0 : P ≤ maxLen := by unfold maxLen; have := unhide HP; omega
    have cq := nQ.cell
    have fq := nQ.loose
    go_wp2_with (at_make; refine wpList_make_full _ rfl _ _ 23 rfl W8.heap.size 3 i0 (.int .i64 0) 1 Tryd.underlying23 hi0 hz0 hz1 .i64 .i64 _ _ P rfl rfl hPi hPi hb0 hm0 (Nat.le_refl _) ?_)
    intro w9 hown hgrow
    rw [show (madeCells #[Value.int IntKind.i64 0] P).toList = (List.replicate P (0 : Int)).map (Value.int .i64) from by have := made_zero .i64 P; simpa [Value.cells] using this] at hown
    have kn : Kept 0 0 W8 w9 := ⟨hgrow.os, hgrow.tape, hgrow.output, hgrow.size, fun i hi _ => hgrow.block i hi (by simp)⟩
    replace cq := kn.cell0 cq
    replace fq := kn.loose0 hQ7 fq
    have m9 : Mod (fun i => i = Q) W8 (w9.setCell ⟨Q, 0, none⟩ (.slice (some ⟨W8.heap.size, 0, none⟩) P P)) := Mod.set (S := fun i => i = Q) kn.toMod (p := ⟨Q, 0, none⟩) (.inl rfl) _
    have dc : DvC w.heap.size g1 gb w4.heap.size w3.heap.size Q v1 (.slice a4 Y.length c4) (.slice (some ⟨W8.heap.size, 0, none⟩) P P) := ⟨l1, hRY, by omega, fun k e => by have := l4 k e; omega, hgb.elim (fun h => .inl ⟨h.1, h.2.1⟩) .inr, by omega, lgb, by omega, fun k e => by simp [Value.ownBlock] at e; omega⟩
    have hb1 := dc.b1
    have hb3 := dc.b3
    have dw : DvW b1 w (w9.setCell ⟨Q, 0, none⟩ (.slice (some ⟨W8.heap.size, 0, none⟩) P P)) g1 gb cap Lx v1 w3.heap.size (.slice a4 Y.length c4) Y Q (.slice (some ⟨W8.heap.size, 0, none⟩) P P) (X ++ [0]) (List.replicate P 0) := ⟨d3.mod m9 (fun e => by omega) (fun i e e' => by simp [Value.ownBlock] at e; omega), n4'.mod m9 (fun e => by omega) (fun i e e' => by have := l4 i e; omega), ⟨cell_on _ _ _ _ _ cq, by rw [frozen_set]; exact fq, own_less (own_apart (by simpa using hown) (p := ⟨Q, 0, none⟩) (fun e => by simp [Value.ownBlock] at e; omega) _) (by omega), fun e => by simp [Value.ownBlock] at e; omega⟩, m9.cellAt (fun e => by omega) cR, m9.looseAt (fun e => by omega) (World.block_lt_of_cell? _ _ cR) fR, md.then m9 (fun i e => .inr (by omega))⟩
    have cq9 := dw.q.cell
    clear hown hgrow kn m9 hi0 hz0 hz1 hz2 hb0 hm0 d3 n4' nQ md cR fR hb1 hb3 hPi l4 lgb hgb
    go_wp2_with fail
    clear cq fq cq9
    generalize w9.setCell ⟨Q, 0, none⟩ (.slice (some ⟨W8.heap.size, 0, none⟩) P P) = W9 at *
    have HDC := hide dc
    have HDW := hide dw
    clear dc dw
    go_loopw [9] (fun ii wr => ∃ (k : Nat) (qs ql : List Int), ii = .int .i64 ((k : Int) - 1) ∧ k ≤ P ∧ Dvd qs ql Y Lx P k (val xs * 2 ^ s) ∧ DvW b1 w wr g1 gb cap Lx v1 w3.heap.size (.slice a4 Y.length c4) Y Q (.slice (some ⟨W8.heap.size, 0, none⟩) P P) qs ql) (fun ii _ => (intOf ii + 1).toNat)
    case atStart => exact ⟨P, _, _, by go_num, Nat.le_refl _, unhide DV0, unhide HDW⟩
    case round =>
      clear HDW
      obtain ⟨k, qs, ql, rfl, hk, dv, dw⟩ := hrel
      have hlen := dv.len
      by_cases hk0 : 0 < k
      · obtain ⟨i, rfl⟩ : ∃ i, k = i + 1 := ⟨k - 1, by omega⟩
        have ei : ((i + 1 : Nat) : Int) - 1 = (i : Int) := by omega
        rw [ei]
        obtain ⟨gz, cz, ez, xz, fz, -⟩ := dw.q.at i (by have := dv.qlen; omega)
        rw [dv.qlen] at ez
        have hi2 : (i : Int) < (P : Int) := by omega
        have HDV := hide dv
        have HDW := hide dw
        have cq := dw.q.cell
        clear dv dw
        have egz : gz = W8.heap.size := by simp at ez; exact ez.1.symm
        subst egz
        clear ez
        go_wp2_with fail
        refine wp_region_held_drew (S := (fun wz => wz.cell? ⟨Q, 0, none⟩ = some (.slice (some ⟨W8.heap.size, 0, none⟩) P P))) (by kernel_rfl) ?_ (fun hHeld => ?_)
        · exact ((Kept.refl 0 0 wr).drew).cell0 cq
        have dw := (unhide HDW).drewN 1
        have dv := unhide HDV
        replace fz := ((Kept.refl 0 0 wr).drewN 1).loose0 (World.block_lt_of_cell? _ _ xz) fz
        replace xz := ((Kept.refl 0 0 wr).drewN 1).cell0 xz
        change DvW _ _ wr.drew _ _ _ _ _ _ _ _ _ _ _ _ at dw
        generalize wr.drew = wd at *
        clear HDW HDV cq
        refine wpAnyH_take (i := 0) (oi := _) (v := .pointer (some ⟨Q, 0, none⟩)) rfl (by kernel_rfl) (by kernel_rfl) (by kernel_rfl) (fun _ _ _ h => h) (Or.inl ⟨by rfl, ?_⟩) hHeld ?_
        · intro wq hSw
          try dsimp only at hSw
          go_simp
        try simp only [Act.put, List.getElem_toArray, List.getElem_cons_succ, List.getElem_cons_zero, List.setIfInBounds_toArray, List.set_cons_zero, List.set_cons_succ]
        refine wpAnyH_take (i := 1) (oi := _) (v := (.slice (some ⟨W8.heap.size, 0, none⟩) P P)) rfl (by kernel_rfl) (by kernel_rfl) (by kernel_rfl) (fun _ _ _ h => h) (Or.inl ⟨by rfl, ?_⟩) hHeld ?_
        · intro wq hSw
          try dsimp only at hSw
          go_simp
        try simp only [Act.put, List.getElem_toArray, List.getElem_cons_succ, List.getElem_cons_zero, List.setIfInBounds_toArray, List.set_cons_zero, List.set_cons_succ]
        refine wpAnyH_take (i := 2) (oi := _) (v := .int .i64 (i : Int)) rfl (by kernel_rfl) (by kernel_rfl) (by kernel_rfl) (fun _ _ _ h => h) (Or.inl ⟨by rfl, ?_⟩) hHeld ?_
        · intro wq hSw
          try dsimp only at hSw
          go_simp
        try simp only [Act.put, List.getElem_toArray, List.getElem_cons_succ, List.getElem_cons_zero, List.setIfInBounds_toArray, List.set_cons_zero, List.set_cons_succ]
        refine wpAnyH_take (i := 3) (oi := _) (v := .pointer (some ⟨g1, 0, none⟩)) rfl (by kernel_rfl) (by kernel_rfl) (by kernel_rfl) (fun _ _ _ h => h) (Or.inl ⟨by rfl, ?_⟩) hHeld ?_
        · intro wq hSw
          try dsimp only at hSw
          go_simp
        try simp only [Act.put, List.getElem_toArray, List.getElem_cons_succ, List.getElem_cons_zero, List.setIfInBounds_toArray, List.set_cons_zero, List.set_cons_succ]
        refine wpAnyH_take (i := 4) (oi := _) (v := .int .i64 (i : Int)) rfl (by kernel_rfl) (by kernel_rfl) (by kernel_rfl) (fun _ _ _ h => h) (Or.inl ⟨by rfl, ?_⟩) hHeld ?_
        · intro wq hSw
          try dsimp only at hSw
          go_simp
        try simp only [Act.put, List.getElem_toArray, List.getElem_cons_succ, List.getElem_cons_zero, List.setIfInBounds_toArray, List.set_cons_zero, List.set_cons_succ]
        refine wpAnyH_ready (rs := [5]) (by kernel_rfl) (by simp) ?_
        refine AllReadyH.cons rfl (fun KK hK => ?_) AllReadyH.nil
        simp only [List.getElem_toArray, List.getElem_cons_succ, List.getElem_cons_zero]
        rw [if_pos (by rfl)]
        have dc := unhide HDC
        refine wps3 43 (.tmp 60) (.tmp 6) (.tmp 61) _ rfl in_divideAt (.pointer (some ⟨g1, 0, none⟩)) (.pointer (some ⟨w3.heap.size, 0, none⟩)) (.int .i64 (i : Int)) rfl rfl rfl (divideAt_impl _ dw.n dw.y (fun e => by have := dc.b1; have := dc.y0; have := dc.y1; omega) (fun e => by have := dc.y2 _ e; have := dc.b1; have := dc.y0; omega) hlen (by have := unhide HP; omega) (by omega) dv.lim hYn hYne (dv.window (by have := unhide HP; omega))) ?_
        rintro e w10 ⟨rfl, qs2, da⟩
        refine ⟨_, rfl, ?_⟩
        have dv2 := dv.step (by have := unhide HP; omega) (by omega) hYp da.len da.lim da.sum
        have dw2 := dw.dived dc da
        have dw3 := dw2.put dc dv.qlen.symm i (val (qs.drop i) / val Y)
        obtain ⟨gz, cz, ez, xz2, fz2, -⟩ := dw2.q.at i (by have := dv.qlen; omega)
        have egz : gz = W8.heap.size := by simp [Value.slice.injEq] at ez; exact ez.1.symm
        subst egz
        clear ez
        generalize val (qs.drop i) / val Y = z at *
        clear hHeld
        refine hK.out _ _ ?_ (fun hHeld => ?_)
        · exact dw2.q.cell
        clear hK KK
        try simp only [Act.put, List.getElem_toArray, List.getElem_cons_succ, List.getElem_cons_zero, List.setIfInBounds_toArray, List.set_cons_zero, List.set_cons_succ]
        refine wpAnyH_take (i := 6) (oi := _) (v := .pointer (some ⟨W8.heap.size, i, none⟩)) rfl (by kernel_rfl) (by kernel_rfl) (by kernel_rfl) (fun _ _ _ h => h) (Or.inl ⟨by rfl, ?_⟩) hHeld ?_
        · intro wq hSw
          try dsimp only at hSw
          go_simp
        try simp only [Act.put, List.getElem_toArray, List.getElem_cons_succ, List.getElem_cons_zero, List.setIfInBounds_toArray, List.set_cons_zero, List.set_cons_succ]
        refine wpAnyH_ready (rs := [7]) (by kernel_rfl) (by simp) ?_
        refine AllReadyH.cons rfl (fun KK hK => ?_) AllReadyH.nil
        simp only [List.getElem_toArray, List.getElem_cons_succ, List.getElem_cons_zero]
        rw [if_pos (by rfl)]
        go_simp
        clear hHeld
        refine hK.out _ _ ?_ (fun hHeld => ?_)
        · exact dw3.q.cell
        clear hK KK
        try simp only [Act.put, List.getElem_toArray, List.getElem_cons_succ, List.getElem_cons_zero, List.setIfInBounds_toArray, List.set_cons_zero, List.set_cons_succ]
        refine wpAnyH_done (by kernel_rfl) ?_ _
        clear hHeld
        have DV := hide dv2
        have DW := hide dw3
        clear dv2 dw3 dw2 dw dv da dc xz fz xz2 fz2
        have hii : (i : Int) ≤ 60000 := by omega
        go_wp2_with fail
        go_roundw
        case rel => exact ⟨i, _, _, by go_num, by omega, unhide DV, unhide DW⟩
        case measure => simp [intOf]
      · have hk1 : k = 0 := by omega
        subst hk1
        have ei : ((0 : Nat) : Int) - 1 = -1 := by omega
        rw [ei]
        obtain ⟨eq, er⟩ := dv.done hx0 hy0 (unhide HYV)
        have dc := unhide HDC
        have ql2 := dv.qlim
        have qs2 := dv.lim
        go_wp2_with fail
        refine (trim_impl _ dw.q ql2).mono ?_
        rintro e w11 ⟨⟨r11, rfl⟩, u11, n11, o11, m11⟩
        rw [eq] at n11
        have nn := dw.n.mod m11 (fun e => by have := dc.g; have := dc.b4; have := dc.y0; have := dc.y1; omega) (fun i e e' => by have := dc.b3; simp [Value.ownBlock] at e; omega)
        have cR' := m11.cellAt (fun e => by have := dc.b4; have := dc.y0; have := dc.y1; omega) dw.cR
        have fR' := m11.looseAt (g := w.heap.size) (o := 0) (fun e => by have := dc.b4; have := dc.y0; have := dc.y1; omega) (World.block_lt_of_cell? _ _ dw.cR) dw.fR
        have md' := dw.md.then m11 (fun i e => .inr (by have := dc.b4; have := dc.y0; have := dc.y1; omega))
        clear m11 dw dv
        go_wp2_with fail
        refine (shiftDown_num _ nn qs2 (by have := unhide HLx; omega) (by omega) s hs).mono ?_
        rintro e w12 ⟨⟨r12, rfl⟩, u12, n12, o12, m12⟩
        rw [er] at n12
        have hO : ∀ i, Own1 g1 (.slice (some ⟨gb, 0, none⟩) Lx cap) i → i = g1 ∨ i = gb := fun i e => e.elim .inl (fun e => .inr (by simp [Value.ownBlock] at e; exact e.symm))
        replace n11 := n11.mod m12 (fun e => by have := hO _ e; have := dc.g; have := dc.b3; have := dc.b4; have := dc.y0; have := dc.y1; omega) (fun i e e' => by rw [o11] at e; have := dc.q1 i e; have := hO _ e'; have := dc.g; have := dc.b3; have := dc.b4; have := dc.y0; have := dc.y1; omega)
        have lR : w.heap.size < w11.heap.size := World.block_lt_of_cell? _ _ cR'
        replace cR' := m12.cellAt (g := w.heap.size) (o := 0) (fun e => by have := hO _ e; have := dc.g; have := dc.b1; have := dc.y0; have := dc.y1; omega) cR'
        replace fR' := m12.looseAt (g := w.heap.size) (o := 0) (fun e => by have := hO _ e; have := dc.g; have := dc.b1; have := dc.y0; have := dc.y1; omega) lR fR'
        replace md' := md'.then m12 (fun i e => (hO i e).elim (fun h => .inl (.inl h)) (fun h => dc.b1.elim (fun h1 => .inl (.inr (by rw [h]; exact h1.1))) (fun h1 => .inr (by have := dc.y0; have := dc.y1; omega))))
        clear m12 nn
        obtain ⟨aq, cq, hvq⟩ := n11.form
        subst hvq
        have mR : Mod (fun i => i = w.heap.size) w12 (w12.setCell ⟨w.heap.size, 0, none⟩ (.slice aq (limbs (val xs / val ys).toNat).length cq)) := (Mod.refl (fun i => i = w.heap.size) w12).set (p := ⟨w.heap.size, 0, none⟩) (.inl rfl) _
        have hq : Divd b1 w (w12.setCell ⟨w.heap.size, 0, none⟩ (.slice aq (limbs (val xs / val ys).toNat).length cq)) g1 v1 (.slice aq (limbs (val xs / val ys).toNat).length cq) (limbs (val xs / val ys).toNat) (limbs (val xs % val ys).toNat) := ⟨mR.own n11.own (fun i e e' => by rw [o11] at e; have := dc.q1 i e; have := dc.b4; have := dc.y0; have := dc.y1; omega), ⟨u12, n12.mod mR (fun e => by have := dc.g; omega) (fun i e e' => by rw [o12] at e; simp [Value.ownBlock] at e; have := dc.b1; have := dc.y0; have := dc.y1; omega), fun i e e' => by rw [o11] at e; rw [o12] at e'; simp [Value.ownBlock] at e'; have := dc.q1 i e; have := dc.b3; omega, fun i e => by rw [o12] at e; simp [Value.ownBlock] at e; subst e; exact dc.b1.elim (fun h => .inl h.1) (fun h => .inr (by have := dc.y0; have := dc.y1; omega))⟩, md'.then mR (fun i e => .inr (by omega))⟩
        have HQ := hide hq
        have cQ := n11.cell
        clear hq mR n11 n12 md' o11 o12 dc
        generalize (limbs (val xs / val ys).toNat).length = nl at *
        go_wp2_with fail
        exact bodyPost_ret (v := .agg #[.slice aq nl cq]) (by simp [results, Tryd.results27, go_sem, cR']) rfl ⟨_, rfl, unhide HQ⟩
  · have hP0 : P = 0 := by have := unhide HP; omega
    subst hP0
    have dc : DvC w.heap.size g1 gb w4.heap.size w3.heap.size Q v1 (.slice a4 Y.length c4) (.slice none 0 0) := ⟨l1, hRY, by omega, fun k e => by have := l4 k e; omega, hgb.elim (fun h => .inl ⟨h.1, h.2.1⟩) .inr, by omega, lgb, by omega, fun k e => by simp [Value.ownBlock] at e⟩
    have dw : DvW b1 w W8 g1 gb cap Lx v1 w3.heap.size (.slice a4 Y.length c4) Y Q (.slice none 0 0) (X ++ [0]) (List.replicate 0 0) := ⟨d3, n4', nQ, cR, fR, md⟩
    have cq := nQ.cell
    clear d3 n4' nQ md cR fR l4 lgb hgb
    go_wp2_with fail
    clear cq
    have HDC := hide dc
    have HDW := hide dw
    clear dc dw
    go_loopw [9] (fun ii wr => ∃ (k : Nat) (qs ql : List Int), ii = .int .i64 ((k : Int) - 1) ∧ k ≤ 0 ∧ Dvd qs ql Y Lx 0 k (val xs * 2 ^ s) ∧ DvW b1 w wr g1 gb cap Lx v1 w3.heap.size (.slice a4 Y.length c4) Y Q (.slice none 0 0) qs ql) (fun ii _ => (intOf ii + 1).toNat)
    case atStart => exact ⟨0, _, _, rfl, Nat.le_refl _, unhide DV0, unhide HDW⟩
    case round =>
      clear HDW
      obtain ⟨k, qs, ql, rfl, hk, dv, dw⟩ := hrel
      have hlen := dv.len
      by_cases hk0 : 0 < k
      · obtain ⟨i, rfl⟩ : ∃ i, k = i + 1 := ⟨k - 1, by omega⟩
        have ei : ((i + 1 : Nat) : Int) - 1 = (i : Int) := by omega
        rw [ei]
        obtain ⟨gz, cz, ez, xz, fz, -⟩ := dw.q.at i (by have := dv.qlen; omega)
        rw [dv.qlen] at ez
        have hi2 : (i : Int) < (0 : Int) := by omega
        have HDV := hide dv
        have HDW := hide dw
        have cq := dw.q.cell
        clear dv dw
        omega
      · have hk1 : k = 0 := by omega
        subst hk1
        have ei : ((0 : Nat) : Int) - 1 = -1 := by omega
        rw [ei]
        obtain ⟨eq, er⟩ := dv.done hx0 hy0 (unhide HYV)
        have dc := unhide HDC
        have ql2 := dv.qlim
        have qs2 := dv.lim
        go_wp2_with fail
        refine (trim_impl _ dw.q ql2).mono ?_
        rintro e w11 ⟨⟨r11, rfl⟩, u11, n11, o11, m11⟩
        rw [eq] at n11
        have nn := dw.n.mod m11 (fun e => by have := dc.g; have := dc.b4; have := dc.y0; have := dc.y1; omega) (fun i e e' => by have := dc.b3; simp [Value.ownBlock] at e; omega)
        have cR' := m11.cellAt (fun e => by have := dc.b4; have := dc.y0; have := dc.y1; omega) dw.cR
        have fR' := m11.looseAt (g := w.heap.size) (o := 0) (fun e => by have := dc.b4; have := dc.y0; have := dc.y1; omega) (World.block_lt_of_cell? _ _ dw.cR) dw.fR
        have md' := dw.md.then m11 (fun i e => .inr (by have := dc.b4; have := dc.y0; have := dc.y1; omega))
        clear m11 dw dv
        go_wp2_with fail
        refine (shiftDown_num _ nn qs2 (by have := unhide HLx; omega) (by omega) s hs).mono ?_
        rintro e w12 ⟨⟨r12, rfl⟩, u12, n12, o12, m12⟩
        rw [er] at n12
        have hO : ∀ i, Own1 g1 (.slice (some ⟨gb, 0, none⟩) Lx cap) i → i = g1 ∨ i = gb := fun i e => e.elim .inl (fun e => .inr (by simp [Value.ownBlock] at e; exact e.symm))
        replace n11 := n11.mod m12 (fun e => by have := hO _ e; have := dc.g; have := dc.b3; have := dc.b4; have := dc.y0; have := dc.y1; omega) (fun i e e' => by rw [o11] at e; have := dc.q1 i e; have := hO _ e'; have := dc.g; have := dc.b3; have := dc.b4; have := dc.y0; have := dc.y1; omega)
        have lR : w.heap.size < w11.heap.size := World.block_lt_of_cell? _ _ cR'
        replace cR' := m12.cellAt (g := w.heap.size) (o := 0) (fun e => by have := hO _ e; have := dc.g; have := dc.b1; have := dc.y0; have := dc.y1; omega) cR'
        replace fR' := m12.looseAt (g := w.heap.size) (o := 0) (fun e => by have := hO _ e; have := dc.g; have := dc.b1; have := dc.y0; have := dc.y1; omega) lR fR'
        replace md' := md'.then m12 (fun i e => (hO i e).elim (fun h => .inl (.inl h)) (fun h => dc.b1.elim (fun h1 => .inl (.inr (by rw [h]; exact h1.1))) (fun h1 => .inr (by have := dc.y0; have := dc.y1; omega))))
        clear m12 nn
        obtain ⟨aq, cq, hvq⟩ := n11.form
        subst hvq
        have mR : Mod (fun i => i = w.heap.size) w12 (w12.setCell ⟨w.heap.size, 0, none⟩ (.slice aq (limbs (val xs / val ys).toNat).length cq)) := (Mod.refl (fun i => i = w.heap.size) w12).set (p := ⟨w.heap.size, 0, none⟩) (.inl rfl) _
        have hq : Divd b1 w (w12.setCell ⟨w.heap.size, 0, none⟩ (.slice aq (limbs (val xs / val ys).toNat).length cq)) g1 v1 (.slice aq (limbs (val xs / val ys).toNat).length cq) (limbs (val xs / val ys).toNat) (limbs (val xs % val ys).toNat) := ⟨mR.own n11.own (fun i e e' => by rw [o11] at e; have := dc.q1 i e; have := dc.b4; have := dc.y0; have := dc.y1; omega), ⟨u12, n12.mod mR (fun e => by have := dc.g; omega) (fun i e e' => by rw [o12] at e; simp [Value.ownBlock] at e; have := dc.b1; have := dc.y0; have := dc.y1; omega), fun i e e' => by rw [o11] at e; rw [o12] at e'; simp [Value.ownBlock] at e'; have := dc.q1 i e; have := dc.b3; omega, fun i e => by rw [o12] at e; simp [Value.ownBlock] at e; subst e; exact dc.b1.elim (fun h => .inl h.1) (fun h => .inr (by have := dc.y0; have := dc.y1; omega))⟩, md'.then mR (fun i e => .inr (by omega))⟩
        have HQ := hide hq
        have cQ := n11.cell
        clear hq mR n11 n12 md' o11 o12 dc
        generalize (limbs (val xs / val ys).toNat).length = nl at *
        go_wp2_with fail
        exact bodyPost_ret (v := .agg #[.slice aq nl cq]) (by simp [results, Tryd.results27, go_sem, cR']) rfl ⟨_, rfl, unhide HQ⟩

end Go.Proofs.YtkifpodnljlhiaaDoor
