/-
  Contracts of RuneBytes, the program's and the model's: both answer the bytes of a number that may be, in new memory, and nothing for any other.
-/
import Derived.Test.YtbcojphjohpmdaaHelp
import Derived.Test.YtbcojphjohpmdaaDec
import Derived.Laws.Cover4
namespace Go.Proofs.Ytbcojphjohpmdaa
open Go.RowKit

/-- The bytes of a number that may be. -/
def rb (r : Int) : List Int :=
  if mayB r = false then [] else
  if r < 128 then [r] else
  if r < 2048 then [192 + r / 64, 128 + r % 64] else
  if r < 65536 then [224 + r / 4096, 128 + r / 64 % 64, 128 + r % 64] else
  [240 + r / 262144, 128 + r / 4096 % 64, 128 + r / 64 % 64, 128 + r % 64]

theorem rb_length (r : Int) : (rb r).length ≤ 4 := by
  unfold rb; repeat' split
  all_goals simp

theorem may_impl (r : Int) (w : World) : Calls Try.prog 35 #[.int .i64 r] w fun e w' => e = .returned (.bool (mayB r)) ∧ w' = w := by
  by_cases h1 : 0 ≤ r
  · by_cases h2 : r ≤ 1114111
    · by_cases h3 : r < 55296
      · have e : mayB r = true := by simp [mayB, h1, h2, h3]
        go_enter Try.func35, Try.ntmps35; go_wp2; go_ret; exact ⟨by first | (simp; done) | simp [e], rfl⟩
      · by_cases h4 : 57343 < r
        · have e : mayB r = true := by simp [mayB, h1, h2, h4]
          go_enter Try.func35, Try.ntmps35; go_wp2; go_ret; exact ⟨by first | (simp; done) | simp [e], rfl⟩
        · have e : mayB r = false := by simp [mayB, h3, h4]
          go_enter Try.func35, Try.ntmps35; go_wp2; go_ret; exact ⟨by first | (simp; done) | simp [e], rfl⟩
    · have e : mayB r = false := by simp [mayB, h2]
      go_enter Try.func35, Try.ntmps35; go_wp2; go_ret; exact ⟨by first | (simp; done) | simp [e], rfl⟩
  · have e : mayB r = false := by simp [mayB, h1]
    go_enter Try.func35, Try.ntmps35; go_wp2; go_ret; exact ⟨by first | (simp; done) | simp [e], rfl⟩

theorem may_spec (r : Int) (w : World) : Calls Try.prog 40 #[.int .i64 r] w fun e w' => e = .returned (.bool (mayB r)) ∧ w' = w := by
  by_cases h1 : 0 ≤ r
  · by_cases h2 : r ≤ 1114111
    · by_cases h3 : r < 55296
      · have e : mayB r = true := by simp [mayB, h1, h2, h3]
        go_enter Try.func40, Try.ntmps40; go_wp2; go_ret; exact ⟨by first | (simp; done) | simp [e], rfl⟩
      · by_cases h4 : 57343 < r
        · have e : mayB r = true := by simp [mayB, h1, h2, h4]
          go_enter Try.func40, Try.ntmps40; go_wp2; go_ret; exact ⟨by first | (simp; done) | simp [e], rfl⟩
        · have e : mayB r = false := by simp [mayB, h3, h4]
          go_enter Try.func40, Try.ntmps40; go_wp2; go_ret; exact ⟨by first | (simp; done) | simp [e], rfl⟩
    · have e : mayB r = false := by simp [mayB, h2]
      go_enter Try.func40, Try.ntmps40; go_wp2; go_ret; exact ⟨by first | (simp; done) | simp [e], rfl⟩
  · have e : mayB r = false := by simp [mayB, h1]
    go_enter Try.func40, Try.ntmps40; go_wp2; go_ret; exact ⟨by first | (simp; done) | simp [e], rfl⟩

theorem rb_spec (r : Int) (w : World) : Calls Try.prog 26 #[.int .i64 r] w fun e w' => ∃ v, e = .returned v ∧ Row .u8 true w.heap.size w'.heap.size w' v (rb r) ∧ Kept 0 0 w w' := by
  by_cases hm : mayB r = false
  · have e0 : rb r = [] := by simp [rb, hm]
    rw [e0]
    go_enter Try.func26, Try.ntmps26
    go_wp2_with (go_at_call 40; refine (may_spec _ _).mono ?_; rintro e w' ⟨rfl, rfl⟩)
    go_ret
    exact ⟨_, rfl, Row.nil _ _ _ _ _, Kept.refl _ _ _⟩
  · have hm' : mayB r = true := by simpa using hm
    have hb : 0 ≤ r ∧ r ≤ 1114111 := by simp [mayB] at hm'; omega
    obtain ⟨b0, b1⟩ := hb
    by_cases h1 : r < 128
    · have e0 : rb r = [r] := by simp [rb, hm', h1]
      rw [e0]
      clear hm e0
      go_enter Try.func26, Try.ntmps26
      go_wp2_with (go_at_call 40; refine (may_spec _ _).mono ?_; rintro e w' ⟨rfl, rfl⟩)
      go_ret
      exact ⟨.slice (some ⟨w'.heap.size, 0, none⟩) 1 1, rfl, Row.lit .u8 w' 5 [r] (by simp [maxLen]), (Kept.refl _ _ _).alloc _⟩
    by_cases h2 : r < 2048
    · have e0 : rb r = [192 + r / 64, 128 + r % 64] := by simp [rb, hm', h1, h2]
      rw [e0]
      clear hm e0
      go_enter Try.func26, Try.ntmps26
      go_wp2_with (go_at_call 40; refine (may_spec _ _).mono ?_; rintro e w' ⟨rfl, rfl⟩)
      go_ret
      exact ⟨.slice (some ⟨w'.heap.size, 0, none⟩) 2 2, rfl, Row.lit .u8 w' 5 [192 + r / 64, 128 + r % 64] (by simp [maxLen]), (Kept.refl _ _ _).alloc _⟩
    by_cases h3 : r < 65536
    · have e0 : rb r = [224 + r / 4096, 128 + r / 64 % 64, 128 + r % 64] := by simp [rb, hm', h1, h2, h3]
      rw [e0]
      clear hm e0
      go_enter Try.func26, Try.ntmps26
      go_wp2_with (go_at_call 40; refine (may_spec _ _).mono ?_; rintro e w' ⟨rfl, rfl⟩)
      go_ret
      exact ⟨.slice (some ⟨w'.heap.size, 0, none⟩) 3 3, rfl, Row.lit .u8 w' 5 [224 + r / 4096, 128 + r / 64 % 64, 128 + r % 64] (by simp [maxLen]), (Kept.refl _ _ _).alloc _⟩
    · have e0 : rb r = [240 + r / 262144, 128 + r / 4096 % 64, 128 + r / 64 % 64, 128 + r % 64] := by simp [rb, hm', h1, h2, h3]
      rw [e0]
      clear hm e0
      go_enter Try.func26, Try.ntmps26
      go_wp2_with (go_at_call 40; refine (may_spec _ _).mono ?_; rintro e w' ⟨rfl, rfl⟩)
      go_ret
      exact ⟨.slice (some ⟨w'.heap.size, 0, none⟩) 4 4, rfl, Row.lit .u8 w' 5 [240 + r / 262144, 128 + r / 4096 % 64, 128 + r / 64 % 64, 128 + r % 64] (by simp [maxLen]), (Kept.refl _ _ _).alloc _⟩

/-- The bytes that the model's own conversion writes. -/
theorem rb_encode (r : Int) (hm : mayB r = true) : bytesOf (Utf8.encode r) = rb r := by
  have hb : (0 ≤ r ∧ r ≤ 1114111) ∧ (r < 55296 ∨ 57343 < r) := by simpa [mayB] using hm
  have hv : Utf8.valid r = true := by simp [Utf8.valid]; omega
  obtain ⟨c, rfl⟩ := Int.eq_ofNat_of_zero_le hb.1.1
  have hc : c ≤ 1114111 := by omega
  unfold Utf8.encode rb bytesOf
  simp only [hv, hm, if_true, Int.toNat_natCast]
  by_cases h1 : c < 128
  · have h1' : (c : Int) < 128 := by omega
    simp [h1, h1']; omega
  have h1' : ¬ (c : Int) < 128 := by omega
  by_cases h2 : c < 2048
  · have h2' : (c : Int) < 2048 := by omega
    simp [h1, h1', h2, h2']; omega
  have h2' : ¬ (c : Int) < 2048 := by omega
  by_cases h3 : c < 65536
  · have h3' : (c : Int) < 65536 := by omega
    simp [h1, h1', h2, h2', h3, h3']; omega
  have h3' : ¬ (c : Int) < 65536 := by omega
  simp [h1, h1', h2, h2', h3, h3']; omega

theorem rb_impl (r : Int) (w : World) : Calls Try.prog 14 #[.int .i64 r] w fun e w' => ∃ v, e = .returned v ∧ Row .u8 true w.heap.size w'.heap.size w' v (rb r) ∧ Kept 0 0 w w' := by
  by_cases hm : mayB r = false
  · have e0 : rb r = [] := by simp [rb, hm]
    rw [e0]
    go_enter Try.func14, Try.ntmps14
    go_wp2_with (go_at_call 35; refine (may_impl _ _).mono ?_; rintro e w' ⟨rfl, rfl⟩)
    go_ret
    exact ⟨_, rfl, Row.nil _ _ _ _ _, Kept.refl _ _ _⟩
  · have hm' : mayB r = true := by simpa using hm
    have hb : 0 ≤ r ∧ r ≤ 1114111 := by simp [mayB] at hm'; omega
    obtain ⟨b0, b1⟩ := hb
    have hcv := fun wx => run_bytes_of_string (P := Try.prog) wx 9 22 5 (Utf8.encode r) Try.underlying9 Try.underlying22 Try.underlying5
    clear hm
    go_enter Try.func14, Try.ntmps14
    go_wp2_with (go_at_call 35; refine (may_impl _ _).mono ?_; rintro e w' ⟨rfl, rfl⟩)
    go_ret
    have hr := Row.conv w' 5 (Utf8.encode r) (grownCap w' (Utf8.encode r).size 0 5) (grownCap_ge _ _ _ _) (grownCap_le_maxLen _ _ _ _ (by have := encode_size_le r; unfold maxLen; omega))
    rw [rb_encode r hm'] at hr
    exact ⟨_, rfl, hr, ((Kept.refl _ _ _).alloc _).drew⟩
end Go.Proofs.Ytbcojphjohpmdaa
