/-
  The program's addTimes: a multiple of a number added at a place.
-/
import Derived.Test.YtpeaghaojfbbnaaINat24
import Derived.Test.YtpeaghaojfbbnaaDivNum
import Derived.Test.YtpeaghaojfbbnaaBE
import Derived.Deep.QuietTactic
import Derived.BigQuiet
import Derived.BigRegion
namespace Go.Proofs.Ytpeaghaojfbbnaa
open Go.RowKit
set_option linter.unusedVariables false
set_option maxRecDepth 8000
set_option linter.unusedSimpArgs false

/-- zs' is zs with t times ys added at the place p. -/
structure Added (b : Nat) (w w' : World) (g gb : Nat) (v : Value) (zs zs' ys : List Int) (p : Nat) (t : Int) : Prop where
  num : Num b w' g v zs'
  len : zs'.length = zs.length
  sum : val zs' = val zs + t * (65536 ^ p * val ys)
  mid : ∀ j, p ≤ j → j < p + ys.length → 0 ≤ zs'.getD j 0 ∧ zs'.getD j 0 ≤ 65535
  out : ∀ j, (j < p ∨ p + ys.length < j) → zs'.getD j 0 = zs.getD j 0
  top : -65536 ≤ zs'.getD (p + ys.length) 0 - zs.getD (p + ys.length) 0 ∧ zs'.getD (p + ys.length) 0 - zs.getD (p + ys.length) 0 ≤ 65536
  md : Mod (fun i => i = gb) w w'

set_option maxHeartbeats 8000000 in
theorem addTimes_impl {b b2 g1 g2 gb L cap p : Nat} {v2 : Value} {zs ys : List Int} (w : World) (n1 : Num b w g1 (.slice (some ⟨gb, 0, none⟩) L cap) zs) (n2 : Num b2 w g2 v2 ys) (h1 : gb ≠ g2) (h2 : v2.ownBlock ≠ some gb)
    (hL : zs.length = L) (hp : p + ys.length < L) (nL : L ≤ 200000) (hy : Lim ys) (hz : ∀ j, p ≤ j → j < p + ys.length → 0 ≤ zs.getD j 0 ∧ zs.getD j 0 ≤ 65535) (ht : -1099511627776 ≤ zs.getD (p + ys.length) 0 ∧ zs.getD (p + ys.length) 0 ≤ 1099511627776) (t : Int) (t0 : -65535 ≤ t) (t1 : t ≤ 65535) :
    Calls Try.prog 54 #[.pointer (some ⟨g1, 0, none⟩), .int .i64 t, .pointer (some ⟨g2, 0, none⟩), .int .i64 (p : Int)] w fun e w' => (∃ r, e = .returned r) ∧ ∃ zs', Added b w w' g1 gb (.slice (some ⟨gb, 0, none⟩) L cap) zs zs' ys p t := by
  obtain ⟨M, hM⟩ : ∃ M, M = ys.length := ⟨_, rfl⟩
  obtain ⟨a2, c2, hv2⟩ := n2.form
  rw [← hM] at hv2
  subst hv2
  have hgb : gb ≠ g1 := fun e => n1.apart (by simp [Value.ownBlock, e])
  have HA2 := hide ((row_cell n2.row).2.2.2)
  have N1 := hide n1
  have N2 := hide n2
  have HM := hide hM
  have hMp : p + M < L := by omega
  have HZ := hide hz
  have HT := hide ht
  have c1w := n1.cell
  have c2w := n2.cell
  have HL := hide hL
  clear n1 n2 hz ht hM hp hL
  go_enter Try.func54, Try.ntmps54
  go_wp2
  clear c1w c2w
  go_loopw [8, 17] (fun cc ii wr => ∃ (qs : List Int) (c : Int) (i : Nat), cc = .int .i64 c ∧ ii = .int .i64 (i : Int) ∧ i ≤ M ∧ -65536 ≤ c ∧ c ≤ 65536 ∧ qs.length = L ∧ Hid (val qs + 65536 ^ (p + i) * c = val zs + t * (65536 ^ p * val (ys.take i))) ∧ Hid (∀ j, p ≤ j → j < p + i → 0 ≤ qs.getD j 0 ∧ qs.getD j 0 ≤ 65535) ∧ Hid (∀ j, (j < p ∨ p + i ≤ j) → qs.getD j 0 = zs.getD j 0) ∧ Num b wr g1 (.slice (some ⟨gb, 0, none⟩) L cap) qs ∧ Mod (fun i => i = gb) w wr) (fun _ ii _ => M - (intOf ii).toNat)
  case atStart => exact ⟨zs, 0, 0, rfl, rfl, Nat.zero_le _, by omega, by omega, unhide HL, by show _ = _; simp [val], hide (fun j h h' => by omega), hide (fun j h => rfl), unhide N1, Mod.refl _ _⟩
  case round =>
    clear N1
    obtain ⟨qs, c, i, rfl, rfl, hi, hc0, hc1, hq, hV, hmid, hout, n, md⟩ := hrel
    have c1 := n.cell
    have c2 := md.cellAt (fun e => h1 e.symm) (unhide N2).cell
    by_cases hA : i < M
    · have hi1 : (i : Int) < (M : Int) := by omega
      obtain ⟨gB, oB, rfl, x2⟩ := unhide HA2 i (by have := unhide HM; omega)
      have hgB : gB ≠ gb := fun e => h2 (by simp [Value.ownBlock, e])
      replace x2 := md.cellAt (fun e => hgB e) x2
      obtain ⟨gb', cap', e', x1, f1, -⟩ := n.at (p + i) (by omega)
      have eg : gb = gb' := by simp at e'; exact e'.1
      subst eg
      clear e'
      have hy0 := hy.at i
      have hz0 := unhide HZ (p + i) (by omega) (by have := unhide HM; omega)
      have he := unhide hout (p + i) (.inr (by omega))
      rw [he] at x1
      have hst := times_step qs ys p i (by omega) (by have := unhide HM; omega) _ t c _ he (unhide hV)
      generalize hzz : zs.getD (p + i) 0 = z at *
      generalize hyy : ys.getD i 0 = y at *
      have hm := times_bound t y t0 t1 hy0.1 hy0.2
      have hand : bits .and .i64 (z + t * y + c) 65535 = (z + t * y + c) % 65536 := and_i64 _ 16 (by decide)
      have hij : (p : Int) + (i : Int) < (L : Int) := by omega
      have hij0 : 0 ≤ (p : Int) + (i : Int) := by omega
      have ep : ((p : Int) + (i : Int)).toNat = p + i := by omega
      have hlen2 : (qs.set (p + i) ((z + t * y + c) % 65536)).length = L := by simpa using hq
      have HV2 := hide hst
      have HN2 := hide (n.put (j := p + i) hq.symm ((z + t * y + c) % 65536))
      have HM2 := hide (Mod.set (S := fun i => i = gb) md (p := ⟨gb, p + i, none⟩) (.inl rfl) (.int .i64 ((z + t * y + c) % 65536)))
      have HMI : Hid (∀ j, p ≤ j → j < p + (i + 1) → 0 ≤ (qs.set (p + i) ((z + t * y + c) % 65536)).getD j 0 ∧ (qs.set (p + i) ((z + t * y + c) % 65536)).getD j 0 ≤ 65535) := fun j h1 h2 => by
        by_cases e : j = p + i
        · subst e; rw [getD_set_eq _ _ _ (by omega)]; omega
        · rw [getD_set_ne _ _ _ _ e]; exact unhide hmid j h1 (by omega)
      have HOU : Hid (∀ j, (j < p ∨ p + (i + 1) ≤ j) → (qs.set (p + i) ((z + t * y + c) % 65536)).getD j 0 = zs.getD j 0) := fun j h => by
        rw [getD_set_ne _ _ _ _ (by omega)]; exact unhide hout j (by omega)
      have HLL := hide hlen2
      have hcb : -65536 ≤ (z + t * y + c) / 65536 ∧ (z + t * y + c) / 65536 ≤ 65536 := by omega
      clear hV hst hmid hout n md hlen2 hzz hyy he
      go_wp2
      go_roundw
      case rel => exact ⟨_, (z + t * y + c) / 65536, i + 1, rfl, by go_num, by omega, hcb.1, hcb.2, unhide HLL, HV2, HMI, HOU, unhide HN2, unhide HM2⟩
      case measure => simp [intOf]; omega
    · have hiM : i = M := by omega
      subst hiM
      have hi1 : ¬ (i : Int) < (i : Int) := by omega
      obtain ⟨gb', cap', e', x1, f1, -⟩ := n.at (p + i) (by omega)
      have eg : gb = gb' := by simp at e'; exact e'.1
      subst eg
      clear e'
      have he := unhide hout (p + i) (.inr (by omega))
      have hV' := unhide hV
      rw [List.take_of_length_le (by have := unhide HM; omega)] at hV'
      have hend := times_end qs ys p (by have := unhide HM; omega) t c (val zs) (by rw [← unhide HM]; exact hV')
      rw [← unhide HM] at hend
      have hbt := unhide HT
      rw [← unhide HM] at hbt
      have hqb : qs.getD (p + i) 0 = zs.getD (p + i) 0 := he
      generalize hzz : qs.getD (p + i) 0 = z at *
      rw [← hqb] at hbt
      have hij : (p : Int) + (i : Int) < (L : Int) := by omega
      have hij0 : 0 ≤ (p : Int) + (i : Int) := by omega
      have ep : ((p : Int) + (i : Int)).toNat = p + i := by omega
      have hwp : IntKind.i64.wrap ((p : Int) + (i : Int)) = (p : Int) + (i : Int) := wrap_small _ (by omega) (by omega)
      have HADD : Hid (∀ k, Added b w ((wr.drewN k).setCell ⟨gb, p + i, none⟩ (.int .i64 (z + c))) g1 gb (.slice (some ⟨gb, 0, none⟩) L cap) zs (qs.set (p + i) (z + c)) ys p t) := fun k => by
        have e1 := unhide HM
        have e2 := unhide HL
        refine ⟨(n.kept ((Kept.refl 0 0 _).drewN k)).put (j := p + i) hq.symm (z + c), by simp; omega, hend, fun j h1 h2 => ?_, fun j h => ?_, ?_, Mod.set (S := fun i => i = gb) (md.drewN k) (p := ⟨gb, p + i, none⟩) (.inl rfl) _⟩
        · rw [getD_set_ne _ _ _ _ (by omega)]; exact unhide hmid j h1 (by omega)
        · rw [getD_set_ne _ _ _ _ (by omega)]; exact unhide hout j (by omega)
        · rw [← e1, getD_set_eq _ _ _ (by omega), ← hqb]; omega
      clear hV hV' hend hmid hout n md hzz he hqb
      go_wp2
      go_region
      go_wp2
      exact bodyPost_end (v := .tuple #[]) (by simp [results, Try.results54, go_sem]) rfl ⟨⟨_, rfl⟩, _, unhide HADD 1⟩

end Go.Proofs.Ytpeaghaojfbbnaa
