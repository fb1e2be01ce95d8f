/-
  The program's subtract: a difference that is not below nought, written into the first number.
-/
import Derived.Test.YtbihbloknmjfjaaDoorINat14
namespace Go.Proofs.YtbihbloknmjfjaaDoor
open Go.RowKit
set_option linter.unusedVariables false
set_option maxRecDepth 8000

theorem Two.mod1 {w0 W w' : World} {g1 g2 : Nat} {u1 u1' u2 : Value} {xs ys zs : List Int} (t : Two w0 W g1 g2 u1 u2 xs ys) (n : Num w0.heap.size w' g1 u1' zs) (ho : u1'.ownBlock = u1.ownBlock) (m : Mod (fun i => i = g1) W w') : Two w0 w' g1 g2 u1' u2 zs ys :=
  ⟨n, t.n2.mod m (fun e => t.ne e.symm) (fun i hi e => t.o21 (by rw [hi, e])), t.ne, by rw [ho]; exact t.o12, t.o21, by rw [ho]; exact t.oo, t.k.mod m (fun i e => by rw [e]; exact t.b1), t.b1, t.b2⟩

theorem sub_put (zs ys : List Int) (i : Nat) (hi : i < zs.length) (c c' l D y : Int) (hy : val (ys.drop i) = y + 65536 * val (ys.drop (i + 1))) (hl : l = zs.getD i 0 - y - c + 65536 * c') (h : val zs - 65536 ^ i * (c + val (ys.drop i)) = D) :
    val (zs.set i l) - 65536 ^ (i + 1) * (c' + val (ys.drop (i + 1))) = D := by
  rw [val_set _ _ _ hi, ← h, Int.pow_succ, hy]
  have e : l - zs.getD i 0 - 65536 * (c' + val (ys.drop (i + 1))) = - (c + (y + 65536 * val (ys.drop (i + 1)))) := by omega
  have key : ∀ P A B : Int, P * A - P * 65536 * B = P * (A - 65536 * B) := fun P A B => by rw [Int.mul_sub, Int.mul_assoc]
  have e2 := key (65536 ^ i) (l - zs.getD i 0) (c' + val (ys.drop (i + 1)))
  rw [e, Int.mul_neg] at e2
  omega

set_option maxHeartbeats 4000000 in
theorem subtract_two {w0 w : World} {g1 g2 : Nat} {xs ys : List Int} (h : ∃ u1 u2, Two w0 w g1 g2 u1 u2 xs ys) (hx : Nrm xs) (hy : Nrm ys) (hl1 : xs.length ≤ 100000) (hle : val ys ≤ val xs) :
    Calls Tryd.prog 103 #[.pointer (some ⟨g1, 0, none⟩), .pointer (some ⟨g2, 0, none⟩)] w fun e w' => (∃ r, e = .returned r) ∧ ∃ u1 u2, Two w0 w' g1 g2 u1 u2 (limbs (val xs - val ys).toNat) ys := by
  obtain ⟨u1, u2, t0⟩ := h
  obtain ⟨a2, c2, rfl⟩ := t0.n2.form
  generalize hD : val xs - val ys = D
  have HD0 : Hid (0 ≤ D) := by show _ ≤ _; omega
  have HY := hide hy
  have HS0 : Hid (val xs - 65536 ^ 0 * (0 + val (ys.drop 0)) = D) := by show _ = _; simp; exact hD
  have hylim := hy.1
  have hM := t0.n2.row.len
  unfold maxLen at hM
  clear hD hy hle
  go_enter Tryd.func103, Tryd.ntmps103
  go_wp2
  go_loopw [4, 5] (fun cc ii wr => ∃ (zs : List Int) (c i : Nat) (v : Value), cc = .int .i64 c ∧ ii = .int .i64 i ∧ c ≤ 1 ∧ i ≤ zs.length ∧ zs.length = xs.length ∧ Lim zs ∧ Hid (val zs - 65536 ^ i * (c + val (ys.drop i)) = D) ∧ Two w0 wr g1 g2 v (.slice a2 ys.length c2) zs ys) (fun _ ii _ => xs.length + 1 - (intOf ii).toNat)
  case atStart => exact ⟨xs, 0, 0, u1, rfl, rfl, by omega, by omega, rfl, hx.1, HS0, t0⟩
  case round =>
    clear t0 HS0
    obtain ⟨zs, c, i, v, rfl, rfl, hc1, hiz, hzx, hlim, hval, t⟩ := hrel
    have hce2 := t.n2.cell
    by_cases hgo : i < ys.length ∨ 0 < c
    · have hi : i < zs.length := by
        have hD : 1 ≤ (c : Int) + val (ys.drop i) := by
          rcases hgo with h | h
          · have := drop_pos (unhide HY) i h; omega
          · have := val_nonneg ((unhide HY).1.drop i); omega
        have e1 := unhide hval
        have e2 := val_lt hlim
        have e3 : (65536 : Int) ^ i * 1 ≤ 65536 ^ i * (c + val (ys.drop i)) := Int.mul_le_mul_of_nonneg_left hD (Int.le_of_lt (Int.pow_pos (by decide)))
        have e4 := unhide HD0
        rcases Nat.lt_or_ge i zs.length with h | h
        · exact h
        · have := pow_mono (a := zs.length) (b := i) h
          omega
      have HZX := hide hzx
      have hzl : zs.length ≤ 100000 := by omega
      clear hzx
      obtain ⟨gb, cap, rfl, hxz, hfz, hgb⟩ := t.n1.at i hi
      have hce1 := t.n1.cell
      by_cases hgo2 : i < ys.length
      · have hgo' : (i : Int) < (ys.length : Int) := by omega
        go_wp2
        have hzr := hlim.at i
        have hyr := hylim.at i
        have hyd := val_drop ys i
        have hput := fun (c' l : Int) (h : l = zs.getD i 0 - ys.getD i 0 - c + 65536 * c') => sub_put zs ys i hi c c' l D _ hyd h (unhide hval)
        have hsetl := fun z (h0 : 0 ≤ z) (h1 : z ≤ 65535) => hlim.set i h0 h1
        have hatc := fun n => at_impl (wr.drewN n) (t.n2.kept ((Kept.refl 0 0 _).drewN n)) i (by omega)
        have HAT := hide hatc
        have tp := fun n z => (t.kept ((Kept.refl 0 0 _).drewN n)).put (j := i) rfl z
        have TP := hide tp
        have HSL := hide hsetl
        have hlenset : ∀ z, (zs.set i z).length = zs.length := fun z => by rw [List.length_set]
        have HLS := hide hlenset
        generalize hz : zs.getD i 0 = z at *
        generalize hy2 : ys.getD i 0 = y at *
        have HP := hide hput
        have hlt2 : (i : Int) < ((zs.length : Nat) : Int) := by omega
        clear hatc tp hput hyd hz hy2 t hlim hval hsetl hlenset
        by_cases hneg : z - y - (c : Int) < 0
        · go_quiet ((go_at_call 97; exact (unhide HAT _).mono (fun e w' h => ⟨h.1, _, h.2⟩)))
          go_wp2
          go_roundw
          case rel => exact ⟨zs.set i (z - y - c + 65536), 1, i + 1, _, rfl, by go_num, by omega, by rw [unhide HLS]; omega, by rw [unhide HLS]; exact unhide HZX, unhide HSL _ (by omega) (by omega), unhide HP 1 _ (by omega), unhide TP _ _⟩
          case measure => have := unhide HZX; simp [intOf]; omega
        · go_quiet ((go_at_call 97; exact (unhide HAT _).mono (fun e w' h => ⟨h.1, _, h.2⟩)))
          go_wp2
          go_roundw
          case rel => exact ⟨zs.set i (z - y - c), 0, i + 1, _, rfl, by go_num, by omega, by rw [unhide HLS]; omega, by rw [unhide HLS]; exact unhide HZX, unhide HSL _ (by omega) (by omega), unhide HP 0 _ (by omega), unhide TP _ _⟩
          case measure => have := unhide HZX; simp [intOf]; omega
      · have hgo' : ¬ (i : Int) < (ys.length : Int) := by omega
        have hgo3 : (0 : Int) < (c : Int) := by omega
        go_wp2
        have hzr := hlim.at i
        have hyr := hylim.at i
        have hyd := val_drop ys i
        have hput := fun (c' l : Int) (h : l = zs.getD i 0 - ys.getD i 0 - c + 65536 * c') => sub_put zs ys i hi c c' l D _ hyd h (unhide hval)
        have hsetl := fun z (h0 : 0 ≤ z) (h1 : z ≤ 65535) => hlim.set i h0 h1
        have hatc := fun n => at_impl (wr.drewN n) (t.n2.kept ((Kept.refl 0 0 _).drewN n)) i (by omega)
        have HAT := hide hatc
        have tp := fun n z => (t.kept ((Kept.refl 0 0 _).drewN n)).put (j := i) rfl z
        have TP := hide tp
        have HSL := hide hsetl
        have hlenset : ∀ z, (zs.set i z).length = zs.length := fun z => by rw [List.length_set]
        have HLS := hide hlenset
        generalize hz : zs.getD i 0 = z at *
        generalize hy2 : ys.getD i 0 = y at *
        have HP := hide hput
        have hlt2 : (i : Int) < ((zs.length : Nat) : Int) := by omega
        clear hatc tp hput hyd hz hy2 t hlim hval hsetl hlenset
        by_cases hneg : z - y - (c : Int) < 0
        · go_quiet ((go_at_call 97; exact (unhide HAT _).mono (fun e w' h => ⟨h.1, _, h.2⟩)))
          go_wp2
          go_roundw
          case rel => exact ⟨zs.set i (z - y - c + 65536), 1, i + 1, _, rfl, by go_num, by omega, by rw [unhide HLS]; omega, by rw [unhide HLS]; exact unhide HZX, unhide HSL _ (by omega) (by omega), unhide HP 1 _ (by omega), unhide TP _ _⟩
          case measure => have := unhide HZX; simp [intOf]; omega
        · go_quiet ((go_at_call 97; exact (unhide HAT _).mono (fun e w' h => ⟨h.1, _, h.2⟩)))
          go_wp2
          go_roundw
          case rel => exact ⟨zs.set i (z - y - c), 0, i + 1, _, rfl, by go_num, by omega, by rw [unhide HLS]; omega, by rw [unhide HLS]; exact unhide HZX, unhide HSL _ (by omega) (by omega), unhide HP 0 _ (by omega), unhide TP _ _⟩
          case measure => have := unhide HZX; simp [intOf]; omega
    · have hgo1 : ¬ (i : Int) < (ys.length : Int) := by omega
      have hc0 : c = 0 := by omega
      subst hc0
      have e1 := unhide hval
      rw [List.drop_of_length_le (by omega)] at e1
      simp [val] at e1
      have n1 := t.n1
      obtain ⟨a1, d1, rfl⟩ := n1.form
      have TT := hide t
      have HE := hide e1
      clear t hval e1
      go_wp2_with fail
      refine (trim_impl _ n1 hlim).mono ?_
      rintro e w6 ⟨⟨r6, rfl⟩, u6, n6, ho6, m6⟩
      have T6 := hide ((unhide TT).mod1 n6 ho6 m6)
      rw [unhide HE] at T6
      clear n1 n6 ho6 m6 TT
      go_wp2
      exact bodyPost_end (v := .tuple #[]) (by simp [results, Tryd.results103, go_sem]) rfl ⟨⟨_, rfl⟩, _, _, unhide T6⟩

end Go.Proofs.YtbihbloknmjfjaaDoor
