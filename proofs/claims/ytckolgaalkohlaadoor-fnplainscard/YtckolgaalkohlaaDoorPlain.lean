/-
  Contracts of Plain, the model's and the program's: each rune written in one way.
-/
import Derived.Test.YtckolgaalkohlaaDoorBX
namespace Go.Proofs.YtckolgaalkohlaaDoor
open Go.RowKit
set_option linter.unusedVariables false

/-- The number that a rune is written as. -/
def pr (r : Int) : Int := if 0 ≤ dig r then 48 + dig r else if 0 < sgn r then 43 else if sgn r < 0 then 45 else if blankB r = true then 32 else r
/-- The bytes of the runes from place k on, written in one way. -/
def plainL : List Int → List Int
  | [] => []
  | r :: t => rb (pr r) ++ plainL t
theorem plainL_length (xs : List Int) : (plainL xs).length ≤ 4 * xs.length := by
  induction xs with
  | nil => simp [plainL]
  | cons r t ih => have := rb_length (pr r); simp [plainL]; omega
theorem plainL_snoc (xs : List Int) (r : Int) : plainL (xs ++ [r]) = plainL xs ++ rb (pr r) := by
  induction xs with
  | nil => simp [plainL]
  | cons a t ih => simp [plainL, ih]
theorem plainL_take (xs : List Int) (k : Nat) (h : k < xs.length) : plainL (xs.take (k + 1)) = plainL (xs.take k) ++ rb (pr (xs.getD k 0)) := by
  rw [take_step xs k h, plainL_snoc]
theorem rb_small {r : Int} (h0 : 0 ≤ r) (h1 : r < 128) : rb r = [r] := by
  have hm : mayB r = true := by simp [mayB]; omega
  unfold rb; rw [if_neg (by rw [hm]; decide), if_pos h1]

theorem sgn_three (r : Int) : sgn r = 1 ∨ sgn r = -1 ∨ sgn r = 0 := by
  unfold sgn
  repeat' split
  all_goals simp

/-- A number that is none of the three is not turned. -/
theorem dig_sgn {r : Int} (h : 0 ≤ dig r) : sgn r = 0 ∧ blankB r = false := by
  unfold dig digs digs digs digs digs digs at h
  constructor
  · unfold sgn
    repeat' split at h
    all_goals (first | (rw [if_neg (by omega), if_neg (by omega)]) | omega)
  · simp only [blankB, decide_eq_false_iff_not]
    repeat' split at h
    all_goals omega

set_option maxHeartbeats 1000000 in
theorem plainRune_any (r : Int) (w : World) (ht : Tab w) : Calls Tryd.prog 17 #[.int .i64 r] w fun e w' => e = .returned (.int .i64 (pr r)) ∧ w' = w := by
  obtain ⟨d0, d1⟩ := dig_range r
  have HD := hide (digit_impl r w ht)
  have HB := hide (blank_impl r w)
  have HS := hide (sign_impl r w)
  have hp : pr r = if 0 ≤ dig r then 48 + dig r else if 0 < sgn r then 43 else if sgn r < 0 then 45 else if blankB r = true then 32 else r := rfl
  have hsr := sgn_three r
  have hbs : blankB r = true → sgn r = 0 := by
    intro hb
    simp only [blankB, decide_eq_true_eq] at hb
    unfold sgn; rw [if_neg (by omega), if_neg (by omega)]
  clear ht
  by_cases h1 : 0 ≤ dig r
  · rw [if_pos h1] at hp
    rw [hp]
    clear hp hsr hbs HB HS
    generalize dig r = d at *
    go_enter Tryd.func17, Tryd.ntmps17
    go_wp2_with (go_at_call 9; refine (unhide HD).mono ?_; rintro e w' ⟨rfl, rfl⟩)
    go_ret
    exact ⟨rfl, rfl⟩
  rw [if_neg h1] at hp
  cases hb : blankB r
  · rw [hb] at hp HB
    rcases hsr with hs | hs | hs
    · rw [hs] at hp HS
      simp at hp
      rw [hp]
      clear hp hbs hb hs
      generalize dig r = d at *
      go_enter Tryd.func17, Tryd.ntmps17
      go_wp2_with (first | (go_at_call 9; refine (unhide HD).mono ?_; rintro e w' ⟨rfl, rfl⟩) | (go_at_call 10; refine (unhide HB).mono ?_; rintro e w' ⟨rfl, rfl⟩) | (go_at_call 11; refine (unhide HS).mono ?_; rintro e w' ⟨rfl, rfl⟩))
      go_ret
      exact ⟨rfl, rfl⟩
    · rw [hs] at hp HS
      simp at hp
      rw [hp]
      clear hp hbs hb hs
      generalize dig r = d at *
      go_enter Tryd.func17, Tryd.ntmps17
      go_wp2_with (first | (go_at_call 9; refine (unhide HD).mono ?_; rintro e w' ⟨rfl, rfl⟩) | (go_at_call 10; refine (unhide HB).mono ?_; rintro e w' ⟨rfl, rfl⟩) | (go_at_call 11; refine (unhide HS).mono ?_; rintro e w' ⟨rfl, rfl⟩))
      go_ret
      exact ⟨rfl, rfl⟩
    · rw [hs] at hp HS
      simp at hp
      rw [hp]
      clear hp hbs hb hs
      generalize dig r = d at *
      go_enter Tryd.func17, Tryd.ntmps17
      go_wp2_with (first | (go_at_call 9; refine (unhide HD).mono ?_; rintro e w' ⟨rfl, rfl⟩) | (go_at_call 10; refine (unhide HB).mono ?_; rintro e w' ⟨rfl, rfl⟩) | (go_at_call 11; refine (unhide HS).mono ?_; rintro e w' ⟨rfl, rfl⟩))
      go_ret
      exact ⟨rfl, rfl⟩
  · rw [hb] at hp HB
    rw [hbs hb] at hp
    simp at hp
    rw [hp]
    clear hp hbs hb hsr
    generalize dig r = d at *
    go_enter Tryd.func17, Tryd.ntmps17
    go_wp2_with (first | (go_at_call 9; refine (unhide HD).mono ?_; rintro e w' ⟨rfl, rfl⟩) | (go_at_call 10; refine (unhide HB).mono ?_; rintro e w' ⟨rfl, rfl⟩))
    go_ret
    exact ⟨rfl, rfl⟩

theorem runesL_may (zs : List Int) (hb : Bytes zs) : ∀ f p, ∀ x ∈ runesL zs f p, mayB x = true
  | 0, _, x, hx => by simp [runesL] at hx
  | f + 1, p, x, hx => by
    unfold runesL at hx
    split at hx
    · rcases List.mem_cons.1 hx with h | h
      · rw [h]; exact drune_may zs hb p
      · exact runesL_may zs hb f _ x h
    · simp at hx
theorem runes_may (zs : List Int) (hb : Bytes zs) : ∀ x ∈ runes zs, mayB x = true := by
  unfold runes
  split
  · intro x hx; simp at hx
  · exact runesL_may zs hb _ _
theorem getD_may {xs : List Int} (h : ∀ x ∈ xs, mayB x = true) {k : Nat} (hk : k < xs.length) : mayB (xs.getD k 0) = true := by
  have e : xs.getD k 0 = xs[k] := by simp [List.getD, hk]
  rw [e]; exact h _ (List.getElem_mem hk)
theorem pr_may {r : Int} (h : mayB r = true) : mayB (pr r) = true := by
  have hd := dig_range r
  unfold pr
  by_cases h1 : 0 ≤ dig r
  · rw [if_pos h1]; generalize dig r = d at *; simp [mayB]; omega
  rw [if_neg h1]
  repeat' split
  · decide
  · decide
  · decide
  · exact h
theorem rb_ne {r : Int} (h : mayB r = true) : rb r ≠ [] := by
  intro e
  unfold rb at e
  rw [if_neg (by rw [h]; decide)] at e
  repeat' split at e
  all_goals cases e

set_option maxHeartbeats 2000000 in
theorem plain_impl {bw : Bool} {lo hi : Nat} {v : Value} {zs : List Int} (w : World) (r : Row .u8 bw lo hi w v zs) (hb : Bytes zs) (ht : Tab w) :
    Calls Tryd.prog 5 #[v] w fun e w' => ∃ v', e = .returned v' ∧ Row .u8 true w.heap.size w'.heap.size w' v' (plainL (runes zs)) ∧ Kept 0 0 w w' := by
  have hmay := runes_may zs hb
  have hlen := runes_length zs
  generalize hxs : runes zs = xs at *
  have HX := hide hxs
  clear hxs
  obtain ⟨i0, hi0, hz0, hz1, hz2⟩ := info_parts Tryd.info5
  go_enter Tryd.func5, Tryd.ntmps5
  go_wp2_with fail
  refine (runes_impl _ r hb).mono ?_
  rintro e w1 ⟨v1, rfl, r1, k1⟩
  have ht1 := ht.kept k1 (by omega)
  have s1 := k1.size
  clear r ht
  rw [unhide HX] at r1
  clear HX
  have rl := r1.read.tight
  obtain ⟨a1, c1, rfl, -, -, -⟩ := r1
  go_wp2
  go_loopw [3, 9] (fun vv i wr => ∃ k : Nat, k ≤ xs.length ∧ i = .int .i64 k ∧ wr.ownsRow w1.heap.size 5 1 vv (plainL (xs.take k)).length ((plainL (xs.take k)).map (Value.int .u8)) ∧ Below w1.heap.size w1 wr) (fun _ i _ => xs.length - (intOf i).toNat)
  case atStart => exact ⟨0, Nat.zero_le _, rfl, World.ownsRow_nil _ _ _ _, Below.refl _ _⟩
  case round =>
    obtain ⟨k, hk, rfl, hown, hbel⟩ := hrel
    by_cases hlt : k < xs.length
    · have hlt' : (k : Int) < (xs.length : Int) := by omega
      have rk := rl.kept (Kept.pure (B := 0) hbel) (by omega)
      obtain ⟨g, off, rfl, hc⟩ := (row_cell rk).2.2.2 k hlt
      have hpl := plainL_take xs k hlt
      have hl4 := plainL_length (xs.take k)
      have hlk : (xs.take k).length = k := by simp; omega
      have hm := pr_may (getD_may hmay hlt)
      have HP := hide hpl
      have htr := ht1.kept (Kept.pure (B := 0) hbel) (by omega)
      generalize xs.getD k 0 = x at *
      generalize plainL (xs.take k) = old at *
      have hrl := rb_length (pr x)
      clear hpl rk
      go_wp2_with fail
      refine (plainRune_any x _ htr).mono ?_
      rintro e w2 ⟨rfl, rfl⟩
      go_wp2_with fail
      refine (rb_impl (pr x) _).mono ?_
      rintro e w3 ⟨v3, rfl, r3, k3⟩
      obtain ⟨g3, o3, c3, rfl, -, -, hnews⟩ := r3.news (rb_ne hm)
      have hown3 := own_kept hown k3
      have hbel3 := below_step hbel k3 (Nat.le_refl _) (by omega)
      have HN := hide hnews
      clear hnews r3 hown hbel k3 htr
      go_wp2_with (at_builtin; refine wpList_append_own _ rfl _ _ 22 rfl w1.heap.size 5 i0 (.int .u8 0) 1 1 Tryd.underlying22 hi0 hz0 hz1 hz2 rfl (by decide) _ _ _ rfl hown3 ⟨g3, o3, none⟩ (rb (pr x)).length c3 ((rb (pr x)).map (Value.int .u8)) rfl (by simp) (unhide HN) (ints_one _ _) ?c3 ?c4 ?c5 ?_)
      case c3 => unfold maxLen; omega
      case c4 => omega
      case c5 => exact hbel3.size
      intro v4 w4 hown4 hgrow _
      have hbel4 := hbel3.grown hgrow hbel3.size (fun j hj => (hown3.lt j hj).1)
      have hown5 : w4.ownsRow w1.heap.size 5 1 v4 (plainL (xs.take (k + 1))).length ((plainL (xs.take (k + 1))).map (Value.int .u8)) := by
        rw [unhide HP]; simpa using hown4
      clear hown4 hgrow hown3 hbel3 hi0 hz0 hz1 hz2 HN HP
      go_wp2
      go_roundw
      case rel => exact ⟨k + 1, by omega, by go_num, hown5, hbel4⟩
      case measure => simp [intOf]; omega
    · have hlt' : ¬ (k : Int) < (xs.length : Int) := by omega
      have hk' : k = xs.length := by omega
      subst hk'
      rw [List.take_length] at hown
      have hrow := (Row.own hown).wider s1 (Nat.le_refl _)
      have hb2 := (k1.toBelow).trans (hbel.mono s1)
      clear hown hi0 hz0 hz1 hz2 rl ht1
      go_wp2
      go_ret
      exact ⟨_, rfl, hrow, Kept.pure hb2⟩

end Go.Proofs.YtckolgaalkohlaaDoor
