/-
  Contracts that the proofs of this seat share: RB, Spec1, Spec2, Impl1, Runes, Digit.
-/
import Derived.Test.YtckolgaalkohlaaDoorBA
import Derived.Test.YtckolgaalkohlaaDoorBE
import Derived.Laws.Cover4
import Derived.WalkSpells
import Derived.WalkLawsBesides
import Derived.Lib.OthersKept
import Derived.WalkSmall
namespace Go.Proofs.YtckolgaalkohlaaDoor
open Go.RowKit

/-- The bytes of a number that may be. -/
def rb (r : Int) : List Int :=
  if mayB r = false then [] else
  if r < 128 then [r] else
  if r < 2048 then [192 + r / 64, 128 + r % 64] else
  if r < 65536 then [224 + r / 4096, 128 + r / 64 % 64, 128 + r % 64] else
  [240 + r / 262144, 128 + r / 4096 % 64, 128 + r / 64 % 64, 128 + r % 64]

theorem rb_length (r : Int) : (rb r).length ≤ 4 := by
  unfold rb; repeat' split
  all_goals simp

theorem may_impl (r : Int) (w : World) : Calls Tryd.prog 29 #[.int .i64 r] w fun e w' => e = .returned (.bool (mayB r)) ∧ w' = w := by
  by_cases h1 : 0 ≤ r
  · by_cases h2 : r ≤ 1114111
    · by_cases h3 : r < 55296
      · have e : mayB r = true := by simp [mayB, h1, h2, h3]
        go_enter Tryd.func29, Tryd.ntmps29; go_wp2; go_ret; exact ⟨by first | (simp; done) | simp [e], rfl⟩
      · by_cases h4 : 57343 < r
        · have e : mayB r = true := by simp [mayB, h1, h2, h4]
          go_enter Tryd.func29, Tryd.ntmps29; go_wp2; go_ret; exact ⟨by first | (simp; done) | simp [e], rfl⟩
        · have e : mayB r = false := by simp [mayB, h3, h4]
          go_enter Tryd.func29, Tryd.ntmps29; go_wp2; go_ret; exact ⟨by first | (simp; done) | simp [e], rfl⟩
    · have e : mayB r = false := by simp [mayB, h2]
      go_enter Tryd.func29, Tryd.ntmps29; go_wp2; go_ret; exact ⟨by first | (simp; done) | simp [e], rfl⟩
  · have e : mayB r = false := by simp [mayB, h1]
    go_enter Tryd.func29, Tryd.ntmps29; go_wp2; go_ret; exact ⟨by first | (simp; done) | simp [e], rfl⟩

theorem may_spec (r : Int) (w : World) : Calls Tryd.prog 33 #[.int .i64 r] w fun e w' => e = .returned (.bool (mayB r)) ∧ w' = w := by
  by_cases h1 : 0 ≤ r
  · by_cases h2 : r ≤ 1114111
    · by_cases h3 : r < 55296
      · have e : mayB r = true := by simp [mayB, h1, h2, h3]
        go_enter Tryd.func33, Tryd.ntmps33; go_wp2; go_ret; exact ⟨by first | (simp; done) | simp [e], rfl⟩
      · by_cases h4 : 57343 < r
        · have e : mayB r = true := by simp [mayB, h1, h2, h4]
          go_enter Tryd.func33, Tryd.ntmps33; go_wp2; go_ret; exact ⟨by first | (simp; done) | simp [e], rfl⟩
        · have e : mayB r = false := by simp [mayB, h3, h4]
          go_enter Tryd.func33, Tryd.ntmps33; go_wp2; go_ret; exact ⟨by first | (simp; done) | simp [e], rfl⟩
    · have e : mayB r = false := by simp [mayB, h2]
      go_enter Tryd.func33, Tryd.ntmps33; go_wp2; go_ret; exact ⟨by first | (simp; done) | simp [e], rfl⟩
  · have e : mayB r = false := by simp [mayB, h1]
    go_enter Tryd.func33, Tryd.ntmps33; go_wp2; go_ret; exact ⟨by first | (simp; done) | simp [e], rfl⟩

theorem rb_spec (r : Int) (w : World) : Calls Tryd.prog 21 #[.int .i64 r] w fun e w' => ∃ v, e = .returned v ∧ Row .u8 true w.heap.size w'.heap.size w' v (rb r) ∧ Kept 0 0 w w' := by
  by_cases hm : mayB r = false
  · have e0 : rb r = [] := by simp [rb, hm]
    rw [e0]
    go_enter Tryd.func21, Tryd.ntmps21
    go_wp2_with (go_at_call 33; refine (may_spec _ _).mono ?_; rintro e w' ⟨rfl, rfl⟩)
    go_ret
    exact ⟨_, rfl, Row.nil _ _ _ _ _, Kept.refl _ _ _⟩
  · have hm' : mayB r = true := by simpa using hm
    have hb : 0 ≤ r ∧ r ≤ 1114111 := by simp [mayB] at hm'; omega
    obtain ⟨b0, b1⟩ := hb
    by_cases h1 : r < 128
    · have e0 : rb r = [r] := by simp [rb, hm', h1]
      rw [e0]
      clear hm e0
      go_enter Tryd.func21, Tryd.ntmps21
      go_wp2_with (go_at_call 33; refine (may_spec _ _).mono ?_; rintro e w' ⟨rfl, rfl⟩)
      go_ret
      exact ⟨.slice (some ⟨w'.heap.size, 0, none⟩) 1 1, rfl, Row.lit .u8 w' 5 [r] (by simp [maxLen]), (Kept.refl _ _ _).alloc _⟩
    by_cases h2 : r < 2048
    · have e0 : rb r = [192 + r / 64, 128 + r % 64] := by simp [rb, hm', h1, h2]
      rw [e0]
      clear hm e0
      go_enter Tryd.func21, Tryd.ntmps21
      go_wp2_with (go_at_call 33; refine (may_spec _ _).mono ?_; rintro e w' ⟨rfl, rfl⟩)
      go_ret
      exact ⟨.slice (some ⟨w'.heap.size, 0, none⟩) 2 2, rfl, Row.lit .u8 w' 5 [192 + r / 64, 128 + r % 64] (by simp [maxLen]), (Kept.refl _ _ _).alloc _⟩
    by_cases h3 : r < 65536
    · have e0 : rb r = [224 + r / 4096, 128 + r / 64 % 64, 128 + r % 64] := by simp [rb, hm', h1, h2, h3]
      rw [e0]
      clear hm e0
      go_enter Tryd.func21, Tryd.ntmps21
      go_wp2_with (go_at_call 33; refine (may_spec _ _).mono ?_; rintro e w' ⟨rfl, rfl⟩)
      go_ret
      exact ⟨.slice (some ⟨w'.heap.size, 0, none⟩) 3 3, rfl, Row.lit .u8 w' 5 [224 + r / 4096, 128 + r / 64 % 64, 128 + r % 64] (by simp [maxLen]), (Kept.refl _ _ _).alloc _⟩
    · have e0 : rb r = [240 + r / 262144, 128 + r / 4096 % 64, 128 + r / 64 % 64, 128 + r % 64] := by simp [rb, hm', h1, h2, h3]
      rw [e0]
      clear hm e0
      go_enter Tryd.func21, Tryd.ntmps21
      go_wp2_with (go_at_call 33; refine (may_spec _ _).mono ?_; rintro e w' ⟨rfl, rfl⟩)
      go_ret
      exact ⟨.slice (some ⟨w'.heap.size, 0, none⟩) 4 4, rfl, Row.lit .u8 w' 5 [240 + r / 262144, 128 + r / 4096 % 64, 128 + r / 64 % 64, 128 + r % 64] (by simp [maxLen]), (Kept.refl _ _ _).alloc _⟩

/-- The bytes that the model's own conversion writes. -/
theorem rb_encode (r : Int) (hm : mayB r = true) : bytesOf (Utf8.encode r) = rb r := by
  have hb : (0 ≤ r ∧ r ≤ 1114111) ∧ (r < 55296 ∨ 57343 < r) := by simpa [mayB] using hm
  have hv : Utf8.valid r = true := by simp [Utf8.valid]; omega
  obtain ⟨c, rfl⟩ := Int.eq_ofNat_of_zero_le hb.1.1
  have hc : c ≤ 1114111 := by omega
  unfold Utf8.encode rb bytesOf
  simp only [hv, hm, if_true, Int.toNat_natCast]
  by_cases h1 : c < 128
  · have h1' : (c : Int) < 128 := by omega
    simp [h1, h1']; omega
  have h1' : ¬ (c : Int) < 128 := by omega
  by_cases h2 : c < 2048
  · have h2' : (c : Int) < 2048 := by omega
    simp [h1, h1', h2, h2']; omega
  have h2' : ¬ (c : Int) < 2048 := by omega
  by_cases h3 : c < 65536
  · have h3' : (c : Int) < 65536 := by omega
    simp [h1, h1', h2, h2', h3, h3']; omega
  have h3' : ¬ (c : Int) < 65536 := by omega
  simp [h1, h1', h2, h2', h3, h3']; omega

theorem rb_impl (r : Int) (w : World) : Calls Tryd.prog 16 #[.int .i64 r] w fun e w' => ∃ v, e = .returned v ∧ Row .u8 true w.heap.size w'.heap.size w' v (rb r) ∧ Kept 0 0 w w' := by
  by_cases hm : mayB r = false
  · have e0 : rb r = [] := by simp [rb, hm]
    rw [e0]
    go_enter Tryd.func16, Tryd.ntmps16
    go_wp2_with (go_at_call 29; refine (may_impl _ _).mono ?_; rintro e w' ⟨rfl, rfl⟩)
    go_ret
    exact ⟨_, rfl, Row.nil _ _ _ _ _, Kept.refl _ _ _⟩
  · have hm' : mayB r = true := by simpa using hm
    have hb : 0 ≤ r ∧ r ≤ 1114111 := by simp [mayB] at hm'; omega
    obtain ⟨b0, b1⟩ := hb
    have hcv := fun wx => run_bytes_of_string (P := Tryd.prog) wx 9 22 5 (Utf8.encode r) Tryd.underlying9 Tryd.underlying22 Tryd.underlying5
    clear hm
    go_enter Tryd.func16, Tryd.ntmps16
    go_wp2_with (go_at_call 29; refine (may_impl _ _).mono ?_; rintro e w' ⟨rfl, rfl⟩)
    go_ret
    have hr := Row.conv w' 5 (Utf8.encode r) (grownCap w' (Utf8.encode r).size 0 5) (grownCap_ge _ _ _ _) (grownCap_le_maxLen _ _ _ _ (by have := encode_size_le r; unfold maxLen; omega))
    rw [rb_encode r hm'] at hr
    exact ⟨_, rfl, hr, ((Kept.refl _ _ _).alloc _).drew⟩
end Go.Proofs.YtckolgaalkohlaaDoor

namespace Go.Proofs.YtckolgaalkohlaaDoor
open Go.RowKit

end Go.Proofs.YtckolgaalkohlaaDoor

namespace Go.Proofs.YtckolgaalkohlaaDoor
open Go.RowKit

theorem ret_pair {a b c d : Int} (h : (a, b) = (c, d)) : Ending.returned (.tuple #[.int .i64 a, .int .i64 b]) = .returned (.tuple #[.int .i64 c, .int .i64 d]) := by
  simp only [Prod.mk.injEq] at h; rw [h.1, h.2]

theorem drune_case {zs : List Int} {p : Nat} (h : ¬ zs.getD p 0 < 128) :
    (194 ≤ zs.getD p 0 ∧ zs.getD p 0 ≤ 223 ∧ drune zs p = fin zs p 2 (zs.getD p 0 % 32) 128) ∨
    (224 ≤ zs.getD p 0 ∧ zs.getD p 0 ≤ 239 ∧ drune zs p = fin zs p 3 (zs.getD p 0 % 16) 2048) ∨
    (240 ≤ zs.getD p 0 ∧ zs.getD p 0 ≤ 244 ∧ drune zs p = fin zs p 4 (zs.getD p 0 % 8) 65536) ∨
    ((zs.getD p 0 < 194 ∨ 244 < zs.getD p 0) ∧ drune zs p = (65533, 1)) := by
  unfold drune
  rw [if_neg h]
  by_cases h2 : 194 ≤ zs.getD p 0 ∧ zs.getD p 0 ≤ 223
  · rw [if_pos h2]; exact .inl ⟨h2.1, h2.2, rfl⟩
  rw [if_neg h2]
  by_cases h3 : 224 ≤ zs.getD p 0 ∧ zs.getD p 0 ≤ 239
  · rw [if_pos h3]; exact .inr (.inl ⟨h3.1, h3.2, rfl⟩)
  rw [if_neg h3]
  by_cases h4 : 240 ≤ zs.getD p 0 ∧ zs.getD p 0 ≤ 244
  · rw [if_pos h4]; exact .inr (.inr (.inl ⟨h4.1, h4.2, rfl⟩))
  rw [if_neg h4]
  exact .inr (.inr (.inr ⟨by omega, rfl⟩))

end Go.Proofs.YtckolgaalkohlaaDoor

namespace Go.Proofs.YtckolgaalkohlaaDoor
open Go.RowKit
set_option linter.unusedVariables false

/-- The rune at a place that may lie outside. -/
def arune (zs : List Int) (p : Int) : Int × Int := if 0 ≤ p ∧ p < zs.length then drune zs p.toNat else (0, 0)

theorem arune_at (zs : List Int) (p : Nat) (h : p < zs.length) : arune zs (p : Int) = drune zs p := by unfold arune; rw [if_pos (by omega)]; rfl

end Go.Proofs.YtckolgaalkohlaaDoor

namespace Go.Proofs.YtckolgaalkohlaaDoor
open Go.RowKit
set_option linter.unusedVariables false

/-- The runes from a place on; the first number bounds how many. -/
def runesL (zs : List Int) : Nat → Nat → List Int
  | 0, _ => []
  | f + 1, p => if p < zs.length then (drune zs p).1 :: runesL zs f (p + (drune zs p).2.toNat) else []
def runes (zs : List Int) : List Int := if 400 < zs.length then [] else runesL zs zs.length 0

theorem runesL_end (zs : List Int) (f p : Nat) (h : ¬ p < zs.length) : runesL zs f p = [] := by cases f <;> simp [runesL, h]
theorem runesL_step (zs : List Int) (f p : Nat) (h : p < zs.length) : runesL zs (f + 1) p = (drune zs p).1 :: runesL zs f (p + (drune zs p).2.toNat) := by simp [runesL, h]
theorem runesL_length (zs : List Int) : ∀ f p, (runesL zs f p).length ≤ f
  | 0, _ => by simp [runesL]
  | f + 1, p => by
    unfold runesL
    split
    · have := runesL_length zs f (p + (drune zs p).2.toNat)
      simp; omega
    · simp
theorem runes_length (zs : List Int) : (runes zs).length ≤ 400 := by
  unfold runes
  split
  · simp
  · have := runesL_length zs zs.length 0; omega
theorem row_string {P : Program} {bw : Bool} {lo hi : Nat} {v : Value} {zs : List Int} (w : World) (ts e tt : TypeId) (h1 : P.underlying ts = some (.slice e)) (h2 : P.underlying e = some (.int .u8)) (h3 : P.underlying tt = some .string)
    (r : Row .u8 bw lo hi w v zs) : (convert ts tt v).run P w = .ok (.string (strOfNums zs)) w := by
  obtain ⟨a, c, rfl, q1, m1, q3⟩ := r
  by_cases hz : zs = []
  · subst hz
    cases a with
    | none => exact run_convert_bytes_nil w ts e h1 h2 _ _ tt h3
    | some a =>
      rw [run_convert_bytes_string w ts tt e _ _ _ h1 h2 h3]
      show (Conv.bytesToString (.slice (some a) 0 c)).run P w = _
      rw [run_bytesToString w a 0 c [] (by have := run_loadCells_list (P := P) w a [] (fun j u hj => by simp at hj); simpa using this)]
      rfl
  · obtain ⟨g, off, rfl, _, _, _, hc, _⟩ := q3 hz
    exact run_convert_bytes_arg w ts e h1 h2 g off zs.length c zs rfl hc tt h3
theorem Tryd.info3r : (Tryd.prog.info? 3).map (fun i => (i.zero, i.size, i.bytes)) = some (some (.int .i64 0), 1, 8) := by kernel_rfl

set_option maxHeartbeats 1000000 in
theorem runes_impl {bw : Bool} {lo hi : Nat} {v : Value} {zs : List Int} (w : World) (r : Row .u8 bw lo hi w v zs) (hb : Bytes zs) :
    Calls Tryd.prog 8 #[v] w fun e w' => ∃ v', e = .returned v' ∧ Row .i64 true w.heap.size w'.heap.size w' v' (runes zs) ∧ Kept 0 0 w w' := by
  have hcv := row_string (P := Tryd.prog) w 22 5 9 Tryd.underlying22 Tryd.underlying5 Tryd.underlying9 r
  obtain ⟨a, c, rfl, q1, m1, q3⟩ := r
  clear q1 m1 q3
  by_cases hbig : 400 < (zs.length : Int)
  · have hr : runes zs = [] := by unfold runes; rw [if_pos (by omega)]
    rw [hr]
    go_enter Tryd.func8, Tryd.ntmps8
    go_wp2
    go_ret
    exact ⟨_, rfl, Row.nil _ _ _ _ _, Kept.refl _ _ _⟩
  · have hr : runes zs = runesL zs zs.length 0 := by unfold runes; rw [if_neg (by omega)]
    rw [hr]
    clear hr
    have h400 : zs.length ≤ 400 := by omega
    have hdec := fun p (hp : p < zs.length) => decode_drune zs hb p hp
    have hssz := str_size zs
    generalize strOfNums zs = s at *
    have HSZ := hide hssz
    have HDEC := hide hdec
    clear hssz hdec
    obtain ⟨i0, hi0, hz0, hz1, hz2⟩ := info_parts Tryd.info3r
    go_enter Tryd.func8, Tryd.ntmps8
    go_wp2
    clear hcv
    go_loopw [3] (fun vv wr => ∃ (p f : Nat) (acc : List Int), p ≤ zs.length ∧ zs.length ≤ p + f ∧ wr.heap[w.heap.size]? = some (.stringIter s p) ∧ wr.ownsRow (w.heap.size + 1) 3 1 vv acc.length (acc.map (Value.int .i64)) ∧ acc.length ≤ p ∧ Hid (acc ++ runesL zs f p = runesL zs zs.length 0) ∧ Below w.heap.size w wr) (fun _ wr => zs.length - wr.iterPos w.heap.size)
    case atStart => exact ⟨0, zs.length, [], Nat.zero_le _, by omega, World.iter_heap _ _ _, World.ownsRow_nil _ _ _ _, Nat.zero_le _, rfl, (Below.refl _ _).alloc (Nat.le_refl _) _⟩
    case round =>
      obtain ⟨p, f, acc, hp, hf, hit, hown, hal, hacc, hbel⟩ := hrel
      have hKs : w.heap.size < wr.heap.size := (Array.getElem?_eq_some_iff.1 hit).1
      by_cases hlt : p < zs.length
      · have hps : p < s.size := by rw [unhide HSZ]; exact hlt
        obtain ⟨wd1, wd2, wd3⟩ := drune_width zs p hlt
        obtain ⟨md1, md2⟩ := mayB_bd (drune_may zs hb p)
        obtain ⟨f, rfl⟩ : ∃ f', f = f' + 1 := ⟨f - 1, by omega⟩
        have hs := runesL_step zs f p hlt
        have hd := unhide HDEC p hlt
        have HN : Hid (∀ ty, (Instr.next (.pointer (some ⟨w.heap.size, 0, none⟩)) true ty).run Tryd.prog wr = _) := fun ty => Lib.run_next_any_at (P := Tryd.prog) wr w.heap.size s p ty hit hps
        rw [← hd] at wd1 wd2 wd3 md1 md2 hs
        simp only [Int.toNat_natCast] at wd1 wd2 wd3 md1 md2 hs
        generalize (Utf8.decode s p).1 = R at *
        generalize (Utf8.decode s p).2 = W at *
        have HS := hide hs
        have hnx := HN.out
        have hown0 := ownsRow_iterAt hown (k := w.heap.size) (by omega) s (p + W)
        have hb0 : Below w.heap.size w (wr.iterAt w.heap.size s (p + W)) := Lib.below_iterAt hbel (Nat.le_refl _) s (p + W)
        have hit0 := Lib.iterAt_heap wr w.heap.size s p (p + W) hit
        have hsz0 := Lib.iterAt_size wr w.heap.size s (p + W)
        generalize wr.iterAt w.heap.size s (p + W) = w0 at *
        have HSZ0 := hide hsz0
        have HIT0 := hide hit0
        have HIT := hide hit
        clear hd hs hsz0 hit hit0
        go_wp2_with (at_builtin; refine wpList_append_own _ rfl _ _ 24 rfl (w.heap.size + 1) 3 i0 (.int .i64 0) 1 8 Tryd.underlying24 hi0 hz0 hz1 hz2 rfl (by decide) _ _ _ rfl (hown0.alloc _) ⟨w0.heap.size, 0, none⟩ 1 1 [.int .i64 (R : Int)] rfl rfl ?c1 ?c2 ?c3 ?c4 ?c5 ?_)
        case c1 =>
          intro j u hj
          match j, hj with
          | 0, hj => simp at hj; subst hj; simp [Addr.add]
        case c2 => intro u hu; simp at hu; subst hu; rfl
        case c3 => unfold maxLen; omega
        case c4 => omega
        case c5 => have := unhide HSZ0; simp; omega
        · intro v' w1 hown' hgrow _
          have hs0 := unhide HSZ0
          have hbel' : Below w.heap.size w w1 := (hb0.alloc (by omega) _).grown hgrow (by simp; omega) (fun k hk => by have := (hown0.lt k hk).1; omega)
          have hown2 : w1.ownsRow (w.heap.size + 1) 3 1 v' (acc ++ [(R : Int)]).length ((acc ++ [(R : Int)]).map (Value.int .i64)) := by simpa using hown'
          have hit2 : w1.heap[w.heap.size]? = some (.stringIter s (p + W)) := by
            rw [hgrow.block w.heap.size (by simp; omega) (fun e => by have := (hown0.lt _ e.symm).1; omega), Below.heap_alloc _ _ _ (by omega)]
            exact unhide HIT0
          have hit1 := unhide HIT
          have HIT2 := hide hit2
          clear hown' hgrow hown hown0 hbel hi0 hz0 hz1 hz2 hb0 hnx HN hit2 hit1 hs0
          go_wp2
          go_roundw
          case rel => exact ⟨p + W, f, acc ++ [(R : Int)], by omega, by omega, unhide HIT2, hown2, by simp; omega, by show _ = _; rw [← hacc.out, HS.out]; simp, hbel'⟩
          case measure =>
            rw [iterPos_of (unhide HIT2), iterPos_of (unhide HIT)]
            omega
      · have hps : ¬ p < s.size := by rw [unhide HSZ]; exact hlt
        have hnx : ∀ ty, (Instr.next (.pointer (some ⟨w.heap.size, 0, none⟩)) true ty).run Tryd.prog wr = _ := fun ty => Lib.run_next_end_at (P := Tryd.prog) wr w.heap.size s p ty hit hps
        have hacc' := hacc.out
        rw [runesL_end zs f p hlt, List.append_nil] at hacc'
        subst hacc'
        have hrow := (Row.own hown).wider (Nat.le_succ _) (Nat.le_refl _)
        clear hi0 hz0 hz1 hz2 hown hit
        go_wp2
        go_ret
        exact ⟨_, rfl, hrow, Kept.pure hbel⟩
end Go.Proofs.YtckolgaalkohlaaDoor

namespace Go.Proofs.YtckolgaalkohlaaDoor
open Go.RowKit
set_option linter.unusedVariables false

def digs : List Int → Int → Int
  | [], _ => -1
  | n :: t, r => if n ≤ r ∧ r ≤ n + 9 then r - n else digs t r
/-- The digit that a number means; -1: none. -/
def dig (r : Int) : Int := digs [48, 1632, 1776, 2406, 65296] r
theorem digs_yes {n : Int} {t : List Int} {r : Int} (h1 : n ≤ r) (h2 : r ≤ n + 9) : digs (n :: t) r = r - n := by simp [digs, h1, h2]
theorem digs_no {n : Int} {t : List Int} {r : Int} (h : r < n ∨ n + 9 < r) : digs (n :: t) r = digs t r := by
  show (if n ≤ r ∧ r ≤ n + 9 then r - n else digs t r) = digs t r
  rw [if_neg (by omega)]
theorem dig_range (r : Int) : -1 ≤ dig r ∧ dig r ≤ 9 := by
  unfold dig digs digs digs digs digs digs
  repeat' split
  all_goals omega

/-- The program's table of noughts, as its text lays it. -/
def Tab (w : World) : Prop := ∃ t fz, w.heap[0]? = some (.cells #[.int .i64 48, .int .i64 1632, .int .i64 1776, .int .i64 2406, .int .i64 65296] t fz)
theorem Tab.kept {w w' : World} {lo hi : Nat} (h : Tab w) (q : Kept lo hi w w') (hd : 0 < lo ∨ hi ≤ lo) : Tab w' := by
  obtain ⟨t, fz, h⟩ := h
  exact ⟨t, fz, (q.block 0 (Array.getElem?_eq_some_iff.1 h).1 (by omega)).trans h⟩
theorem Tab.drewN {w : World} (h : Tab w) (n : Nat) : Tab (w.drewN n) := h

theorem ix0 (w : World) : (Instr.index 50 (.agg #[.int .i64 48, .int .i64 1632, .int .i64 1776, .int .i64 2406, .int .i64 65296]) (.int .i64 0)).run Tryd.prog w = .ok (.int .i64 48) w := by kernel_rfl
theorem ix1 (w : World) : (Instr.index 50 (.agg #[.int .i64 48, .int .i64 1632, .int .i64 1776, .int .i64 2406, .int .i64 65296]) (.int .i64 1)).run Tryd.prog w = .ok (.int .i64 1632) w := by kernel_rfl
theorem ix2 (w : World) : (Instr.index 50 (.agg #[.int .i64 48, .int .i64 1632, .int .i64 1776, .int .i64 2406, .int .i64 65296]) (.int .i64 2)).run Tryd.prog w = .ok (.int .i64 1776) w := by kernel_rfl
theorem ix3 (w : World) : (Instr.index 50 (.agg #[.int .i64 48, .int .i64 1632, .int .i64 1776, .int .i64 2406, .int .i64 65296]) (.int .i64 3)).run Tryd.prog w = .ok (.int .i64 2406) w := by kernel_rfl
theorem ix4 (w : World) : (Instr.index 50 (.agg #[.int .i64 48, .int .i64 1632, .int .i64 1776, .int .i64 2406, .int .i64 65296]) (.int .i64 4)).run Tryd.prog w = .ok (.int .i64 65296) w := by kernel_rfl

set_option maxHeartbeats 1000000 in
theorem digit_impl (r : Int) (w : World) (ht : Tab w) : Calls Tryd.prog 9 #[.int .i64 r] w fun e w' => e = .returned (.int .i64 (dig r)) ∧ w' = w := by
  obtain ⟨tt, fz, hg⟩ := ht
  have j0 := ix0
  have j1 := ix1
  have j2 := ix2
  have j3 := ix3
  have j4 := ix4
  generalize hD : dig r = D
  have HD : Hid (digs [48, 1632, 1776, 2406, 65296] r = D) := hD
  clear hD
  go_enter Tryd.func9, Tryd.ntmps9
  go_wp2_with (refine wpList_load_row rfl 50 _ rfl 0 rfl tt _ fz _ hg Tryd.underlying50 rfl (by kernel_rfl) ?_)
  clear hg
  go_loop [6] (fun i => (i = .int .i64 0 ∧ Hid (digs [48, 1632, 1776, 2406, 65296] r = D)) ∨ (i = .int .i64 1 ∧ Hid (digs [1632, 1776, 2406, 65296] r = D)) ∨ (i = .int .i64 2 ∧ Hid (digs [1776, 2406, 65296] r = D)) ∨ (i = .int .i64 3 ∧ Hid (digs [2406, 65296] r = D)) ∨ (i = .int .i64 4 ∧ Hid (digs [65296] r = D)) ∨ (i = .int .i64 5 ∧ Hid (digs [] r = D))) (fun i => 5 - (intOf i).toNat)
  case atStart => exact .inl ⟨rfl, HD⟩
  case round =>
    clear HD
    rcases hrel with ⟨rfl, h⟩ | ⟨rfl, h⟩ | ⟨rfl, h⟩ | ⟨rfl, h⟩ | ⟨rfl, h⟩ | ⟨rfl, h⟩
    · by_cases a : r < 48
      · go_wp2
        go_round
        case rel => exact .inr (.inl ⟨rfl, (digs_no (by omega)).symm.trans h.out⟩)
        case measure => decide
      by_cases b : 57 < r
      · go_wp2
        go_round
        case rel => exact .inr (.inl ⟨rfl, (digs_no (by omega)).symm.trans h.out⟩)
        case measure => decide
      · have e := h.out
        rw [digs_yes (by omega) (by omega)] at e
        subst e
        go_wp2
        go_ret
        exact ⟨rfl, rfl⟩
    · by_cases a : r < 1632
      · go_wp2
        go_round
        case rel => exact .inr (.inr (.inl ⟨rfl, (digs_no (by omega)).symm.trans h.out⟩))
        case measure => decide
      by_cases b : 1641 < r
      · go_wp2
        go_round
        case rel => exact .inr (.inr (.inl ⟨rfl, (digs_no (by omega)).symm.trans h.out⟩))
        case measure => decide
      · have e := h.out
        rw [digs_yes (by omega) (by omega)] at e
        subst e
        go_wp2
        go_ret
        exact ⟨rfl, rfl⟩
    · by_cases a : r < 1776
      · go_wp2
        go_round
        case rel => exact .inr (.inr (.inr (.inl ⟨rfl, (digs_no (by omega)).symm.trans h.out⟩)))
        case measure => decide
      by_cases b : 1785 < r
      · go_wp2
        go_round
        case rel => exact .inr (.inr (.inr (.inl ⟨rfl, (digs_no (by omega)).symm.trans h.out⟩)))
        case measure => decide
      · have e := h.out
        rw [digs_yes (by omega) (by omega)] at e
        subst e
        go_wp2
        go_ret
        exact ⟨rfl, rfl⟩
    · by_cases a : r < 2406
      · go_wp2
        go_round
        case rel => exact .inr (.inr (.inr (.inr (.inl ⟨rfl, (digs_no (by omega)).symm.trans h.out⟩))))
        case measure => decide
      by_cases b : 2415 < r
      · go_wp2
        go_round
        case rel => exact .inr (.inr (.inr (.inr (.inl ⟨rfl, (digs_no (by omega)).symm.trans h.out⟩))))
        case measure => decide
      · have e := h.out
        rw [digs_yes (by omega) (by omega)] at e
        subst e
        go_wp2
        go_ret
        exact ⟨rfl, rfl⟩
    · by_cases a : r < 65296
      · go_wp2
        go_round
        case rel => exact .inr (.inr (.inr (.inr (.inr (⟨rfl, (digs_no (by omega)).symm.trans h.out⟩)))))
        case measure => decide
      by_cases b : 65305 < r
      · go_wp2
        go_round
        case rel => exact .inr (.inr (.inr (.inr (.inr (⟨rfl, (digs_no (by omega)).symm.trans h.out⟩)))))
        case measure => decide
      · have e := h.out
        rw [digs_yes (by omega) (by omega)] at e
        subst e
        go_wp2
        go_ret
        exact ⟨rfl, rfl⟩
    · have e := h.out
      subst e
      go_wp2
      go_ret
      exact ⟨rfl, rfl⟩

/-- The sign that a number means. -/
def sgn (r : Int) : Int := if r = 43 ∨ r = 65291 then 1 else if r = 45 ∨ r = 8722 ∨ r = 65293 then -1 else 0
def blankB (r : Int) : Bool := decide (r = 32 ∨ r = 9 ∨ r = 160 ∨ r = 8201 ∨ r = 12288)

set_option maxHeartbeats 400000 in
theorem sign_impl (r : Int) (w : World) : Calls Tryd.prog 11 #[.int .i64 r] w fun e w' => e = .returned (.int .i64 (sgn r)) ∧ w' = w := by
  by_cases h0 : r = 43
  · subst h0; go_enter Tryd.func11, Tryd.ntmps11; go_wp2; go_ret; exact ⟨rfl, rfl⟩
  by_cases h1 : r = 65291
  · subst h1; go_enter Tryd.func11, Tryd.ntmps11; go_wp2; go_ret; exact ⟨rfl, rfl⟩
  by_cases h2 : r = 45
  · subst h2; go_enter Tryd.func11, Tryd.ntmps11; go_wp2; go_ret; exact ⟨rfl, rfl⟩
  by_cases h3 : r = 8722
  · subst h3; go_enter Tryd.func11, Tryd.ntmps11; go_wp2; go_ret; exact ⟨rfl, rfl⟩
  by_cases h4 : r = 65293
  · subst h4; go_enter Tryd.func11, Tryd.ntmps11; go_wp2; go_ret; exact ⟨rfl, rfl⟩
  have e : sgn r = 0 := by simp [sgn, h0, h1, h2, h3, h4]
  rw [e]
  replace h0 := beq_eq_false_iff_ne.2 h0
  replace h1 := beq_eq_false_iff_ne.2 h1
  replace h2 := beq_eq_false_iff_ne.2 h2
  replace h3 := beq_eq_false_iff_ne.2 h3
  replace h4 := beq_eq_false_iff_ne.2 h4
  go_enter Tryd.func11, Tryd.ntmps11; go_wp2; go_ret; exact ⟨rfl, rfl⟩

set_option maxHeartbeats 400000 in
theorem blank_impl (r : Int) (w : World) : Calls Tryd.prog 10 #[.int .i64 r] w fun e w' => e = .returned (.bool (blankB r)) ∧ w' = w := by
  by_cases h0 : r = 32
  · subst h0; go_enter Tryd.func10, Tryd.ntmps10; go_wp2; go_ret; exact ⟨rfl, rfl⟩
  by_cases h1 : r = 9
  · subst h1; go_enter Tryd.func10, Tryd.ntmps10; go_wp2; go_ret; exact ⟨rfl, rfl⟩
  by_cases h2 : r = 160
  · subst h2; go_enter Tryd.func10, Tryd.ntmps10; go_wp2; go_ret; exact ⟨rfl, rfl⟩
  by_cases h3 : r = 8201
  · subst h3; go_enter Tryd.func10, Tryd.ntmps10; go_wp2; go_ret; exact ⟨rfl, rfl⟩
  by_cases h4 : r = 12288
  · subst h4; go_enter Tryd.func10, Tryd.ntmps10; go_wp2; go_ret; exact ⟨rfl, rfl⟩
  have e : blankB r = false := by simp [blankB, h0, h1, h2, h3, h4]
  rw [e]
  replace h0 := beq_eq_false_iff_ne.2 h0
  replace h1 := beq_eq_false_iff_ne.2 h1
  replace h2 := beq_eq_false_iff_ne.2 h2
  replace h3 := beq_eq_false_iff_ne.2 h3
  replace h4 := beq_eq_false_iff_ne.2 h4
  go_enter Tryd.func10, Tryd.ntmps10; go_wp2; go_ret; exact ⟨rfl, rfl⟩

end Go.Proofs.YtckolgaalkohlaaDoor
