/-
  Contracts of Clean, the model's and the program's: at most 400 bytes, and nowhere the bad rune of one byte.
-/
import Derived.Test.YtbcojphjohpmdaaRunes
namespace Go.Proofs.Ytbcojphjohpmdaa
open Go.RowKit
set_option linter.unusedVariables false

def cleanL (zs : List Int) : Nat → Nat → Bool
  | 0, _ => true
  | f + 1, p => if p < zs.length then (if drune zs p = (65533, 1) then false else cleanL zs f (p + (drune zs p).2.toNat)) else true
def clean (zs : List Int) : Bool := if 400 < zs.length then false else cleanL zs zs.length 0
theorem cleanL_end (zs : List Int) (f p : Nat) (h : ¬ p < zs.length) : cleanL zs f p = true := by cases f <;> simp [cleanL, h]
theorem cleanL_bad (zs : List Int) (f p : Nat) (h : p < zs.length) (hb : drune zs p = (65533, 1)) : cleanL zs (f + 1) p = false := by simp [cleanL, h, hb]
theorem cleanL_step (zs : List Int) (f p : Nat) (h : p < zs.length) (hb : ¬ drune zs p = (65533, 1)) : cleanL zs (f + 1) p = cleanL zs f (p + (drune zs p).2.toNat) := by simp [cleanL, h, hb]

set_option maxHeartbeats 1000000 in
theorem clean_spec {bw : Bool} {lo hi : Nat} {v : Value} {zs : List Int} (w : World) (r : Row .u8 bw lo hi w v zs) (hb : Bytes zs) :
    Calls Try.prog 28 #[v] w fun e w' => e = .returned (.bool (clean zs)) ∧ w' = w := by
  have r' := r
  obtain ⟨a, c, rfl, q1, m1, q3⟩ := r
  clear q1 m1 q3
  by_cases hbig : 400 < (zs.length : Int)
  · have hr : clean zs = false := by unfold clean; rw [if_pos (by omega)]
    rw [hr]
    go_enter Try.func28, Try.ntmps28
    go_wp2
    go_ret
    exact ⟨rfl, rfl⟩
  · have hr : clean zs = cleanL zs zs.length 0 := by unfold clean; rw [if_neg (by omega)]
    rw [hr]
    clear hr
    have h400 : zs.length ≤ 400 := by omega
    generalize hT : cleanL zs zs.length 0 = T
    have HT := hide hT
    clear hT
    go_enter Try.func28, Try.ntmps28
    go_wp2
    go_loop [3] (fun i => ∃ p f : Nat, p ≤ zs.length ∧ zs.length ≤ p + f ∧ i = .int .i64 p ∧ Hid (cleanL zs f p = T)) (fun i => zs.length - (intOf i).toNat)
    case atStart => exact ⟨0, zs.length, Nat.zero_le _, by omega, rfl, HT⟩
    case round =>
      obtain ⟨p, f, hp, hf, rfl, hacc⟩ := hrel
      by_cases hlt : p < zs.length
      · have hlt' : (p : Int) < (zs.length : Int) := by omega
        obtain ⟨wd1, wd2, wd3⟩ := drune_width zs p hlt
        obtain ⟨md1, md2⟩ := mayB_bd (drune_may zs hb p)
        obtain ⟨f, rfl⟩ : ∃ f', f = f' + 1 := ⟨f - 1, by omega⟩
        have HC := hide (l1rune_any w r' hb p hlt (by omega))
        by_cases hbad : drune zs p = (65533, 1)
        · have hs := cleanL_bad zs f p hlt hbad
          rw [hbad] at HC
          rw [hacc.out] at hs
          subst hs
          clear hbad wd1 wd2 wd3 md1 md2 HT
          go_wp2_with (go_at_call 39; refine (unhide HC).mono ?_; rintro e w' ⟨rfl, rfl⟩)
          go_ret
          exact ⟨rfl, rfl⟩
        · have hs := cleanL_step zs f p hlt hbad
          rw [hacc.out] at hs
          generalize drune zs p = F at *
          obtain ⟨F1, F2⟩ := F
          simp only [Prod.mk.injEq] at wd1 wd2 wd3 md1 md2 hs hbad
          obtain ⟨W, rfl⟩ := Int.eq_ofNat_of_zero_le (by omega : 0 ≤ F2)
          simp only [Int.toNat_natCast] at hs
          have HS := hide hs
          clear hs
          by_cases h1 : F1 = 65533
          · have h2 : ((W : Int) == 1) = false := by simp; intro e; exact hbad ⟨h1, by omega⟩
            subst h1
            clear hbad
            go_wp2_with (go_at_call 39; refine (unhide HC).mono ?_; rintro e w' ⟨rfl, rfl⟩)
            go_round
            case rel => exact ⟨p + W, f, by omega, by omega, by go_num, (unhide HS).symm⟩
            case measure => simp [intOf]; omega
          · have h2 : (F1 == 65533) = false := by simp [h1]
            clear hbad h1
            go_wp2_with (go_at_call 39; refine (unhide HC).mono ?_; rintro e w' ⟨rfl, rfl⟩)
            go_round
            case rel => exact ⟨p + W, f, by omega, by omega, by go_num, (unhide HS).symm⟩
            case measure => simp [intOf]; omega
      · have hlt' : ¬ (p : Int) < (zs.length : Int) := by omega
        have hs := cleanL_end zs f p hlt
        rw [hacc.out] at hs
        subst hs
        go_wp2
        go_ret
        exact ⟨rfl, rfl⟩

set_option maxHeartbeats 1000000 in
theorem clean_impl {bw : Bool} {lo hi : Nat} {v : Value} {zs : List Int} (w : World) (r : Row .u8 bw lo hi w v zs) (hb : Bytes zs) :
    Calls Try.prog 13 #[v] w fun e w' => e = .returned (.bool (clean zs)) ∧ Kept 0 0 w w' := by
  have hcv := row_string (P := Try.prog) w 22 5 9 Try.underlying22 Try.underlying5 Try.underlying9 r
  have r' := r.read.tight
  obtain ⟨a, c, rfl, q1, m1, q3⟩ := r
  clear q1 m1 q3
  by_cases hbig : 400 < (zs.length : Int)
  · have hr : clean zs = false := by unfold clean; rw [if_pos (by omega)]
    rw [hr]
    go_enter Try.func13, Try.ntmps13
    go_wp2
    go_ret
    exact ⟨rfl, Kept.refl _ _ _⟩
  · have hr : clean zs = cleanL zs zs.length 0 := by unfold clean; rw [if_neg (by omega)]
    rw [hr]
    clear hr
    have h400 : zs.length ≤ 400 := by omega
    generalize hT : cleanL zs zs.length 0 = T
    have HT := hide hT
    have hdec := fun p (hp : p < zs.length) => decode_drune zs hb p hp
    have hssz := str_size zs
    generalize strOfNums zs = s at *
    have HSZ := hide hssz
    have HDEC := hide hdec
    clear hssz hdec hT
    go_enter Try.func13, Try.ntmps13
    go_wp2
    clear hcv
    go_loopw [] (fun wr => ∃ p f : Nat, p ≤ zs.length ∧ zs.length ≤ p + f ∧ wr.heap[w.heap.size]? = some (.stringIter s p) ∧ Hid (cleanL zs f p = T) ∧ Below w.heap.size w wr) (fun wr => zs.length - wr.iterPos w.heap.size)
    case atStart => exact ⟨0, zs.length, Nat.zero_le _, by omega, World.iter_heap _ _ _, HT, (Below.refl _ _).alloc (Nat.le_refl _) _⟩
    case round =>
      obtain ⟨p, f, hp, hf, hit, hacc, hbel⟩ := hrel
      by_cases hlt : p < zs.length
      · have hps : p < s.size := by rw [unhide HSZ]; exact hlt
        obtain ⟨wd1, wd2, wd3⟩ := drune_width zs p hlt
        obtain ⟨md1, md2⟩ := mayB_bd (drune_may zs hb p)
        obtain ⟨f, rfl⟩ : ∃ f', f = f' + 1 := ⟨f - 1, by omega⟩
        have hd := unhide HDEC p hlt
        have HN : Hid (∀ ty, (Instr.next (.pointer (some ⟨w.heap.size, 0, none⟩)) true ty).run Try.prog wr = _) := fun ty => Lib.run_next_any_at (P := Try.prog) wr w.heap.size s p ty hit hps
        have hb1 := cleanL_bad zs f p hlt
        have hb2 := cleanL_step zs f p hlt
        rw [hacc.out] at hb1 hb2
        have HA := hide (arune_at zs p hlt)
        rw [← hd] at wd1 wd2 wd3 md1 md2 hb1 hb2 HA
        simp only [Int.toNat_natCast] at wd1 wd2 wd3 md1 md2 hb1 hb2
        generalize (Utf8.decode s p).1 = R at *
        generalize (Utf8.decode s p).2 = W at *
        have hnx := HN.out
        have hb0 : Below w.heap.size w (wr.iterAt w.heap.size s (p + W)) := Lib.below_iterAt hbel (Nat.le_refl _) s (p + W)
        have hit0 := Lib.iterAt_heap wr w.heap.size s p (p + W) hit
        generalize wr.iterAt w.heap.size s (p + W) = w0 at *
        have HIT0 := hide hit0
        have HIT := hide hit
        have HB1 := hide hb1
        have HB2 := hide hb2
        clear hd hit hit0 HN hb1 hb2
        by_cases hR : (R : Int) = 65533
        · have hR2 : (((R : Int)) != 65533) = false := by simp [hR]
          have r0 := r'.kept (Kept.pure (B := 0) hb0) (by omega)
          have HC := hide (runeAt_impl w0 r0 hb (p : Int) (by omega))
          rw [unhide HA] at HC
          by_cases hW : (W : Int) = 1
          · have hTf := unhide HB1 (by rw [hR, hW])
            subst hTf
            have hW2 : ((W : Int) == 1) = true := by simp [hW]
            have HR := hide hR
            have HW := hide hW
            clear hR hW HT
            go_wp2_with (go_at_call 15; refine (unhide HC).mono ?_; rintro e w1 ⟨rfl, k1⟩)
            go_ret
            exact ⟨rfl, Kept.pure (below_step hb0 k1 (Nat.le_refl _) (by omega))⟩
          · have hTs := hide (unhide HB2 (by simp; intro _; exact hW))
            have hW2 : ((W : Int) == 1) = false := by simp [hW]
            have HR := hide hR
            clear hR hW
            go_wp2_with (go_at_call 15; refine (unhide HC).mono ?_; rintro e w1 ⟨rfl, k1⟩)
            have hb3 := below_step hb0 k1 (Nat.le_refl _) (by omega)
            have hKs : w.heap.size < w0.heap.size := (Array.getElem?_eq_some_iff.1 (unhide HIT0)).1
            have hit2 := (k1.block w.heap.size hKs (by omega)).trans (unhide HIT0)
            go_roundw
            case rel => exact ⟨p + W, f, by omega, by omega, hit2, (unhide hTs).symm, hb3⟩
            case measure =>
              rw [iterPos_of hit2, iterPos_of (unhide HIT)]
              omega
        · have hR2 : (((R : Int)) != 65533) = true := by simp [hR]
          have hTs := hide (unhide HB2 (by simp; intro e; exact absurd e hR))
          clear hR
          go_wp2
          go_roundw
          case rel => exact ⟨p + W, f, by omega, by omega, unhide HIT0, (unhide hTs).symm, hb0⟩
          case measure =>
            rw [iterPos_of (unhide HIT0), iterPos_of (unhide HIT)]
            omega
      · have hps : ¬ p < s.size := by rw [unhide HSZ]; exact hlt
        have hnx : ∀ ty, (Instr.next (.pointer (some ⟨w.heap.size, 0, none⟩)) true ty).run Try.prog wr = _ := fun ty => Lib.run_next_end_at (P := Try.prog) wr w.heap.size s p ty hit hps
        have hs := cleanL_end zs f p hlt
        rw [hacc.out] at hs
        subst hs
        clear hit
        go_wp2
        go_ret
        exact ⟨rfl, Kept.pure hbel⟩
end Go.Proofs.Ytbcojphjohpmdaa
