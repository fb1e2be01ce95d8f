/-
  The walk of the law FnDyRing: it returns true at every code.
-/
import Derived.Test.YtedknfciomoofaaDoorMore
import Derived.Test.YtedknfciomoofaaDoorLB
import Derived.Test.YtedknfciomoofaaDoorIdadd
import Derived.Test.YtedknfciomoofaaDoorIdmul
import Derived.Test.YtedknfciomoofaaDoorIdsub
import Derived.Test.YtedknfciomoofaaDoorLA
import Derived.Test.YtedknfciomoofaaDoorBE
namespace Go.Proofs.YtedknfciomoofaaDoor
open Go.RowKit
set_option linter.unusedVariables false
set_option maxRecDepth 8000
set_option linter.unusedSimpArgs false

theorem tz_back (n : Nat) : n / 2 ^ tz n * 2 ^ tz n = n := by
  by_cases h : n = 0
  · subst h; simp
  · obtain ⟨q, hq⟩ := tz_form h
    exact Nat.div_mul_cancel ⟨2 * q + 1, hq⟩
theorem dlm_back (m : Int) : wval (wsg m) (dlm m) * 2 ^ tz m.natAbs = m := by
  have h1 : wval (wsg m) (dlm m) = if wsg m = true then -((m.natAbs / 2 ^ tz m.natAbs : Nat) : Int) else ((m.natAbs / 2 ^ tz m.natAbs : Nat) : Int) := wval_limbs _ _
  have h2 : (((m.natAbs / 2 ^ tz m.natAbs : Nat) : Int)) * 2 ^ tz m.natAbs = (m.natAbs : Int) := by
    have := congrArg (fun n : Nat => (n : Int)) (tz_back m.natAbs)
    simp only [Int.natCast_mul, Int.natCast_pow] at this
    exact this
  rw [h1]
  unfold wsg
  by_cases hm : m < 0
  · rw [if_pos (decide_eq_true hm), Int.neg_mul, h2]; omega
  · rw [if_neg (by simp; omega), h2]; omega
theorem nE_worth {V L : Int} (hL : L ≤ 0) : L ≤ dex V L ∧ wval (wsg V) (dlm V) * 2 ^ (dex V L - L).toNat = V := by
  by_cases h : V = 0
  · subst h
    refine ⟨hL, ?_⟩
    rw [dlm_zero, wval_nil, Int.zero_mul]
  · have e : dex V L = L + (tz V.natAbs : Int) := by unfold dex; rw [if_neg h]
    refine ⟨by omega, ?_⟩
    rw [e, show (L + (tz V.natAbs : Int) - L).toNat = tz V.natAbs by omega]
    exact dlm_back V
theorem ans_all {c c' : Bool} {m x m' x' : Int} (hc : c = c') (k : Nat) (hm : m * 2 ^ k = m') (hx : x - k = x') : ansDB c m x = ansDB c' m' x' ∧ ansDS c m x = ansDS c' m' x' ∧ ansDL c m x = ansDL c' m' x' ∧ ansDE c m x = ansDE c' m' x' := by
  subst hc hm hx
  obtain ⟨a1, a2, a3, a4⟩ := ansD_shift c m x k
  exact ⟨a1.symm, a2.symm, a3.symm, a4.symm⟩
/-- The worth of a number, in units of 2 to the power -9000. -/
def wd (s : Bool) (z : List Int) (x : Int) : Int := wval s z * 2 ^ (x + 9000).toNat
theorem wd_add {s1 s2 : Bool} {xs ys : List Int} {x1 x2 : Int} (c : Bool) (h1 : -9000 ≤ x1) (h2 : -9000 ≤ x2) :
    ansDB c (wval s1 xs * 2 ^ (x1 - min x1 x2).toNat + wval s2 ys * 2 ^ (x2 - min x1 x2).toNat) (min x1 x2) = ansDB c (wd s1 xs x1 + wd s2 ys x2) (-9000) ∧ ansDS c (wval s1 xs * 2 ^ (x1 - min x1 x2).toNat + wval s2 ys * 2 ^ (x2 - min x1 x2).toNat) (min x1 x2) = ansDS c (wd s1 xs x1 + wd s2 ys x2) (-9000) ∧ ansDL c (wval s1 xs * 2 ^ (x1 - min x1 x2).toNat + wval s2 ys * 2 ^ (x2 - min x1 x2).toNat) (min x1 x2) = ansDL c (wd s1 xs x1 + wd s2 ys x2) (-9000) ∧ ansDE c (wval s1 xs * 2 ^ (x1 - min x1 x2).toNat + wval s2 ys * 2 ^ (x2 - min x1 x2).toNat) (min x1 x2) = ansDE c (wd s1 xs x1 + wd s2 ys x2) (-9000) := by
  refine ans_all rfl (min x1 x2 + 9000).toNat ?_ (by omega)
  unfold wd
  rw [Int.add_mul, Int.mul_assoc, Int.mul_assoc, ← Int.pow_add, ← Int.pow_add, show (x1 - min x1 x2).toNat + (min x1 x2 + 9000).toNat = (x1 + 9000).toNat by omega, show (x2 - min x1 x2).toNat + (min x1 x2 + 9000).toNat = (x2 + 9000).toNat by omega]
theorem wd_sub {s1 s2 : Bool} {xs ys : List Int} {x1 x2 : Int} (c : Bool) (h1 : -9000 ≤ x1) (h2 : -9000 ≤ x2) :
    ansDB c (wval s1 xs * 2 ^ (x1 - min x1 x2).toNat - wval s2 ys * 2 ^ (x2 - min x1 x2).toNat) (min x1 x2) = ansDB c (wd s1 xs x1 - wd s2 ys x2) (-9000) ∧ ansDS c (wval s1 xs * 2 ^ (x1 - min x1 x2).toNat - wval s2 ys * 2 ^ (x2 - min x1 x2).toNat) (min x1 x2) = ansDS c (wd s1 xs x1 - wd s2 ys x2) (-9000) ∧ ansDL c (wval s1 xs * 2 ^ (x1 - min x1 x2).toNat - wval s2 ys * 2 ^ (x2 - min x1 x2).toNat) (min x1 x2) = ansDL c (wd s1 xs x1 - wd s2 ys x2) (-9000) ∧ ansDE c (wval s1 xs * 2 ^ (x1 - min x1 x2).toNat - wval s2 ys * 2 ^ (x2 - min x1 x2).toNat) (min x1 x2) = ansDE c (wd s1 xs x1 - wd s2 ys x2) (-9000) := by
  refine ans_all rfl (min x1 x2 + 9000).toNat ?_ (by omega)
  unfold wd
  rw [Int.sub_mul, Int.mul_assoc, Int.mul_assoc, ← Int.pow_add, ← Int.pow_add, show (x1 - min x1 x2).toNat + (min x1 x2 + 9000).toNat = (x1 + 9000).toNat by omega, show (x2 - min x1 x2).toNat + (min x1 x2 + 9000).toNat = (x2 + 9000).toNat by omega]
theorem wd_mul {s1 s2 : Bool} {xs ys : List Int} {x1 x2 : Int} (c : Bool) (h1 : -9000 ≤ x1) (h2 : -9000 ≤ x2) :
    ansDB c (wval s1 xs * wval s2 ys) (x1 + x2) = ansDB c (wd s1 xs x1 * wd s2 ys x2) (-18000) ∧ ansDS c (wval s1 xs * wval s2 ys) (x1 + x2) = ansDS c (wd s1 xs x1 * wd s2 ys x2) (-18000) ∧ ansDL c (wval s1 xs * wval s2 ys) (x1 + x2) = ansDL c (wd s1 xs x1 * wd s2 ys x2) (-18000) ∧ ansDE c (wval s1 xs * wval s2 ys) (x1 + x2) = ansDE c (wd s1 xs x1 * wd s2 ys x2) (-18000) := by
  refine ans_all rfl ((x1 + 9000).toNat + (x2 + 9000).toNat) ?_ (by omega)
  unfold wd
  rw [Int.pow_add]
  ac_rfl
/-- What is told of a number that may be told: it is told, and it is worth the same. -/
theorem told_all {V L : Int} (hL : L ≤ 0) {B S : Bool} {Z : List Int} {E : Int} (hb : ansDB true V L = B) (hs : ansDS true V L = S) (hl : ansDL true V L = Z) (he : ansDE true V L = E) (h : B = true) : dokB S Z E = true ∧ wval S Z * 2 ^ (E - L).toNat = V ∧ L ≤ E := by
  subst h
  obtain ⟨e1, e2, e3⟩ := ansD_yes hb
  have hd : dokB (wsg V) (dlm V) (dex V L) = true := by unfold ansDB at hb; rwa [Bool.true_and] at hb
  subst hs hl he
  rw [e1, e2, e3]
  have hv := nE_worth (V := V) hL
  exact ⟨hd, hv.2, hv.1⟩
theorem back_all {s : Bool} {z : List Int} {x : Int} (h : dokB s z x = true) : ansDB true (wd s z x) (-9000) = true ∧ ansDS true (wd s z x) (-9000) = s ∧ ansDL true (wd s z x) (-9000) = z ∧ ansDE true (wd s z x) (-9000) = x := by
  obtain ⟨h1, h2, h3, -, -⟩ := dok_parts h
  obtain ⟨e1, -, -, hn⟩ := wok_int h1
  obtain ⟨b0, b1, b2, b3⟩ := d_ok h (wval s z) (wval_abs hn.1)
  obtain ⟨a1, a2, a3, a4⟩ := ans_all (c := true) (c' := true) (m := wval s z) (x := x) (m' := wd s z x) (x' := -9000) rfl (x + 9000).toNat rfl (by omega)
  exact ⟨a1 ▸ b0, a2 ▸ (b1.trans e1.symm), a3 ▸ b2, a4 ▸ b3⟩
theorem dok_rng {s : Bool} {z : List Int} {x : Int} (h : dokB s z x = true) : -3000 ≤ x ∧ x ≤ 3000 := by
  obtain ⟨-, h2, h3, -, -⟩ := dok_parts h
  exact ⟨h2, h3⟩
theorem ansDE_rng (c : Bool) (m x : Int) : -3000 ≤ ansDE c m x ∧ ansDE c m x ≤ 3000 := by
  cases h : ansDB c m x
  · rw [(ansD_no h).2.2]; omega
  · rw [(ansD_yes h).2.2]
    unfold ansDB at h
    rw [Bool.and_eq_true] at h
    exact dok_rng h.2
/-- The four answers at once. -/
def Ans (c : Bool) (m x : Int) (B S : Bool) (Z : List Int) (E : Int) : Prop := ansDB c m x = B ∧ ansDS c m x = S ∧ ansDL c m x = Z ∧ ansDE c m x = E
theorem ring_sub {s1 s2 S : Bool} {xs ys Z : List Int} {x1 x2 E : Int} (o1 : dokB s1 xs x1 = true) (o2 : dokB s2 ys x2 = true)
    (h : Ans (dokB s1 xs x1 && dokB s2 ys x2) (wval s1 xs * 2 ^ (x1 - min x1 x2).toNat + wval s2 ys * 2 ^ (x2 - min x1 x2).toNat) (min x1 x2) true S Z E) :
    dokB S Z E = true ∧ Ans (dokB S Z E && dokB s2 ys x2) (wval S Z * 2 ^ (E - min E x2).toNat - wval s2 ys * 2 ^ (x2 - min E x2).toNat) (min E x2) true s1 xs x1 := by
  have r1 := dok_rng o1
  have r2 := dok_rng o2
  obtain ⟨b0, b1, b2, b3⟩ := h
  obtain ⟨a0, a1, a2, a3⟩ := wd_add (s1 := s1) (s2 := s2) (xs := xs) (ys := ys) (c := dokB s1 xs x1 && dokB s2 ys x2) (show -9000 ≤ x1 by omega) (show -9000 ≤ x2 by omega)
  rw [a0, o1, o2] at b0
  rw [a1, o1, o2] at b1
  rw [a2, o1, o2] at b2
  rw [a3, o1, o2] at b3
  obtain ⟨od, wv, hE⟩ := told_all (by decide) b0 b1 b2 b3 rfl
  refine ⟨od, ?_⟩
  obtain ⟨d0, d1, d2, d3⟩ := wd_sub (s1 := S) (s2 := s2) (xs := Z) (ys := ys) (c := dokB S Z E && dokB s2 ys x2) (show -9000 ≤ E by omega) (show -9000 ≤ x2 by omega)
  have ew : wd S Z E - wd s2 ys x2 = wd s1 xs x1 := by
    have : wd S Z E = wd s1 xs x1 + wd s2 ys x2 := by rw [← wv]; unfold wd; rw [show E - -9000 = E + 9000 by omega]
    omega
  obtain ⟨k0, k1, k2, k3⟩ := back_all o1
  unfold Ans
  rw [d0, d1, d2, d3, ew, od, o2]
  exact ⟨k0, k1, k2, k3⟩
theorem mul_told {s1 s2 S : Bool} {xs ys Z : List Int} {x1 x2 E : Int} (h1 : -9000 ≤ x1) (h2 : -9000 ≤ x2) {c : Bool} (h : Ans c (wval s1 xs * wval s2 ys) (x1 + x2) true S Z E) : c = true ∧ dokB S Z E = true ∧ wd S Z E * 2 ^ 9000 = wd s1 xs x1 * wd s2 ys x2 := by
  obtain ⟨b0, b1, b2, b3⟩ := h
  have hc : c = true := by
    cases c
    · rw [ansDB_no rfl] at b0; cases b0
    · rfl
  subst hc
  obtain ⟨a0, a1, a2, a3⟩ := wd_mul (s1 := s1) (s2 := s2) (xs := xs) (ys := ys) (c := true) h1 h2
  rw [a0] at b0
  rw [a1] at b1
  rw [a2] at b2
  rw [a3] at b3
  obtain ⟨od, wv, hE⟩ := told_all (by decide) b0 b1 b2 b3 rfl
  have r := dok_rng od
  refine ⟨rfl, od, ?_⟩
  rw [← wv]
  obtain ⟨K, hK⟩ : ∃ K : Nat, K = 9000 := ⟨_, rfl⟩
  rw [← hK]
  unfold wd
  rw [Int.mul_assoc, ← Int.pow_add, show (E + 9000).toNat + K = (E - -18000).toNat by omega]
theorem ring_dist {s1 s2 s3 SS XS YS ZS US : Bool} {xs ys zs SL XL YL ZL UL : List Int} {x1 x2 x3 SE XE YE ZE UE : Int} (o1 : dokB s1 xs x1 = true) (o2 : dokB s2 ys x2 = true)
    (hs : Ans (dokB s1 xs x1 && dokB s2 ys x2) (wval s1 xs * 2 ^ (x1 - min x1 x2).toNat + wval s2 ys * 2 ^ (x2 - min x1 x2).toNat) (min x1 x2) true SS SL SE)
    (hx : Ans (dokB SS SL SE && dokB s3 zs x3) (wval SS SL * wval s3 zs) (SE + x3) true XS XL XE)
    (hy : Ans (dokB s1 xs x1 && dokB s3 zs x3) (wval s1 xs * wval s3 zs) (x1 + x3) true YS YL YE)
    (hz : Ans (dokB s2 ys x2 && dokB s3 zs x3) (wval s2 ys * wval s3 zs) (x2 + x3) true ZS ZL ZE)
    (hu : Ans (dokB YS YL YE && dokB ZS ZL ZE) (wval YS YL * 2 ^ (YE - min YE ZE).toNat + wval ZS ZL * 2 ^ (ZE - min YE ZE).toNat) (min YE ZE) true US UL UE) :
    XS = US ∧ XL = UL ∧ XE = UE := by
  have r1 := dok_rng o1
  have r2 := dok_rng o2
  have o3 : dokB s3 zs x3 = true := by
    have := hx.1
    cases h : dokB s3 zs x3
    · rw [h, Bool.and_false, ansDB_no rfl] at this; cases this
    · rfl
  have r3 := dok_rng o3
  obtain ⟨b0, b1, b2, b3⟩ := hs
  obtain ⟨a0, a1, a2, a3⟩ := wd_add (s1 := s1) (s2 := s2) (xs := xs) (ys := ys) (c := dokB s1 xs x1 && dokB s2 ys x2) (show -9000 ≤ x1 by omega) (show -9000 ≤ x2 by omega)
  rw [a0, o1, o2] at b0
  rw [a1, o1, o2] at b1
  rw [a2, o1, o2] at b2
  rw [a3, o1, o2] at b3
  obtain ⟨od, wv, hE⟩ := told_all (by decide) b0 b1 b2 b3 rfl
  have eS : wd SS SL SE = wd s1 xs x1 + wd s2 ys x2 := by rw [← wv]; unfold wd; rw [show SE - -9000 = SE + 9000 by omega]
  have rS := dok_rng od
  obtain ⟨-, oX, eX⟩ := mul_told (by omega) (by omega) hx
  obtain ⟨-, oY, eY⟩ := mul_told (by omega) (by omega) hy
  obtain ⟨-, oZ, eZ⟩ := mul_told (by omega) (by omega) hz
  have rY := dok_rng oY
  have rZ := dok_rng oZ
  obtain ⟨u0, u1, u2, u3⟩ := hu
  obtain ⟨c0, c1, c2, c3⟩ := wd_add (s1 := YS) (s2 := ZS) (xs := YL) (ys := ZL) (c := dokB YS YL YE && dokB ZS ZL ZE) (show -9000 ≤ YE by omega) (show -9000 ≤ ZE by omega)
  have e : wd YS YL YE + wd ZS ZL ZE = wd XS XL XE := by
    obtain ⟨K, hK⟩ : ∃ K : Nat, K = 9000 := ⟨_, rfl⟩
    rw [← hK] at eX eY eZ
    have hp : (2 : Int) ^ K ≠ 0 := Int.pow_ne_zero (by decide)
    apply Int.eq_of_mul_eq_mul_right hp
    rw [Int.add_mul, eY, eZ, eX, eS, Int.add_mul]
  obtain ⟨k0, k1, k2, k3⟩ := back_all oX
  rw [c1, e, oY, oZ] at u1
  rw [c2, e, oY, oZ] at u2
  rw [c3, e, oY, oZ] at u3
  exact ⟨k1.symm.trans u1, k2.symm.trans u2, k3.symm.trans u3⟩

theorem sameDy_same {b1 b2 : Bool} {l1 h1 l2 h2 : Nat} {v1 v2 : Value} {xs : List Int} (s : Bool) (x : Int) (w : World) (r1 : Row .i64 b1 l1 h1 w v1 xs) (r2 : Row .i64 b2 l2 h2 w v2 xs) :
    Calls Tryd.prog 9 #[.agg #[.bool s, v1, .int .i64 x], .agg #[.bool s, v2, .int .i64 x]] w fun e w' => e = .returned (.bool true) ∧ Kept 0 0 w w' := by
  have mk := sameDy_any s s x x w r1 r2
  rw [show sameDB s xs x s xs x = true by unfold sameDB; rw [decide_eq_true rfl, show sameL xs xs = true from decide_eq_true rfl]; cases s <;> rfl] at mk
  exact mk

theorem dy_one (e : Int) (he : e = -1 ∨ e = 0 ∨ e = 1) (w : World) : Calls Tryd.prog 13 #[.int .i64 1, .int .i64 e] w fun r w' => ∃ v', r = .returned (.agg #[.bool false, v', .int .i64 e]) ∧ Row .i64 true w.heap.size w'.heap.size w' v' [1] ∧ Kept 0 0 w w' := by
  have mk := dy_any 1 e (by decide) (by decide) w
  obtain ⟨h1, h2, h3⟩ := dy_form (n := 1) (e := e) (dok_small 1 e (.inl rfl) (by omega) (by omega))
  rw [h1, h2, h3] at mk
  exact mk

theorem in_dy_c : ∀ (w : World) (args : Array Value), (callFunc 13 args).run Tryd.prog w = .ok (.enter 13 args) w := enters Tryd.func13 (by decide) (fun h => by cases h)

theorem in_sameDy_c : ∀ (w : World) (args : Array Value), (callFunc 9 args).run Tryd.prog w = .ok (.enter 9 args) w := enters Tryd.func9 (by decide) (fun h => by cases h)

theorem dys_small : Ans (dokB false [1] (-1) && dokB false [1] (-1)) (wval false [1] * 2 ^ ((-1 : Int) - min (-1) (-1)).toNat + wval false [1] * 2 ^ ((-1 : Int) - min (-1) (-1)).toNat) (min (-1) (-1)) true false [1] 0 := by
  unfold Ans
  decide

theorem four_small : Ans (wokB false [4] && l4eB (-1)) (wval false [4]) (-1) true false [1] 1 := by
  unfold Ans
  decide

set_option maxHeartbeats 4000000 in
theorem dys_any (w : World) (T : TabB w) : Calls Tryd.prog 4 #[] w fun e w' => e = .returned (.bool true) ∧ Kept 0 0 w w' := by
  have s0 : w.heap.size = w.heap.size := rfl
  have K := hide (Kept.refl 0 0 w)
  have S0 := hide s0
  clear s0
  have HT := hide T
  clear T
  go_enter Tryd.func4, Tryd.ntmps4
  go_wp2_with fail
  refine (dy_one (-1) (.inl rfl) _).mono ?_
  rintro e w1 ⟨v1, rfl, r1, k1⟩
  replace K := hide ((unhide K).trans k1)
  have z2 := k1.size
  clear k1
  go_wp2_with fail
  refine (dy_one (-1) (.inl rfl) _).mono ?_
  rintro e w3 ⟨v2, rfl, r2, k3⟩
  replace r1 := r1.kept k3 (.inr (.inr (Nat.le_refl 0)))
  replace K := hide ((unhide K).trans k3)
  have z4 := k3.size
  clear k3
  go_wp2_with fail
  have mk := dadd_impl false false (-1) (-1) (by decide) (by decide) (by decide) (by decide) w3 r1 r2 ((unhide HT).kept (unhide K))
  rw [dys_small.1, dys_small.2.1, dys_small.2.2.1, dys_small.2.2.2] at mk
  refine (mk).mono ?_
  rintro e w5 ⟨v3, rfl, r3, k5⟩
  replace r1 := r1.kept k5 (.inr (.inr (Nat.le_refl 0)))
  replace r2 := r2.kept k5 (.inr (.inr (Nat.le_refl 0)))
  replace K := hide ((unhide K).trans k5)
  have z6 := k5.size
  clear k5
  clear mk
  clear r1 r2
  obtain ⟨a3, c3, hv⟩ := Row.form' r3
  subst hv
  have kn := (Kept.refl 0 0 w5).alloc (.cells #[.bool false, .slice a3 1 c3, .int .i64 0] 30)
  have cs0 : (w5.alloc (.cells #[.bool false, .slice a3 1 c3, .int .i64 0] 30)).cell? ⟨w5.heap.size, 0, none⟩ = some (.bool false) := new_cell2 _ _ _ _ _ _ (by simp) rfl
  have cs1 : (w5.alloc (.cells #[.bool false, .slice a3 1 c3, .int .i64 0] 30)).cell? ⟨w5.heap.size, 1, none⟩ = some (.slice a3 1 c3) := new_cell2 _ _ _ _ _ _ (by simp) rfl
  have cs2 : (w5.alloc (.cells #[.bool false, .slice a3 1 c3, .int .i64 0] 30)).cell? ⟨w5.heap.size, 2, none⟩ = some (.int .i64 0) := new_cell2 _ _ _ _ _ _ (by simp) rfl
  replace r3 := r3.kept kn (.inr (.inr (Nat.le_refl 0)))
  replace K := hide ((unhide K).trans kn)
  have z8 := kn.size
  clear kn
  go_upto_region 2 with fail
  generalize (w5.alloc (.cells #[.bool false, .slice a3 1 c3, .int .i64 0] 30)) = wn9 at *
  have kd := (Kept.refl 0 0 wn9).drew
  replace r3 := r3.kept kd (.inr (.inr (Nat.le_refl 0)))
  replace cs0 := kd.cell0 cs0
  replace cs1 := kd.cell0 cs1
  replace cs2 := kd.cell0 cs2
  replace K := hide ((unhide K).trans kd)
  have z10 := kd.size
  clear kd
  refine wp_region_held_drew (S := (fun w' => w'.cell? ⟨w5.heap.size, 0, none⟩ = some (.bool false) ∧ w'.cell? ⟨w5.heap.size, 1, none⟩ = some (.slice a3 1 c3) ∧ w'.cell? ⟨w5.heap.size, 2, none⟩ = some (.int .i64 0))) (by kernel_rfl) ?_ (fun hHeld => ?_)
  · exact ⟨cs0, cs1, cs2⟩
  refine wpAnyH_take (i := 0) (oi := _) (v := .bool true) rfl (by kernel_rfl) (by kernel_rfl) (by kernel_rfl) (fun _ _ _ h => h) (Or.inl ⟨by rfl, ?_⟩) hHeld ?_
  · intro wq hSw
    try dsimp only at hSw
    go_simp
  try simp only [Act.put, List.getElem_toArray, List.getElem_cons_succ, List.getElem_cons_zero, List.setIfInBounds_toArray, List.set_cons_zero, List.set_cons_succ]
  refine wpAnyH_take (i := 1) (oi := _) (v := .bool true) rfl (by kernel_rfl) (by kernel_rfl) (by kernel_rfl) (fun _ _ _ h => h) (Or.inl ⟨by rfl, ?_⟩) hHeld ?_
  · intro wq hSw
    try dsimp only at hSw
    go_simp
  try simp only [Act.put, List.getElem_toArray, List.getElem_cons_succ, List.getElem_cons_zero, List.setIfInBounds_toArray, List.set_cons_zero, List.set_cons_succ]
  refine wpAnyH_take (i := 2) (oi := _) (v := .agg #[.bool false, .slice a3 1 c3, .int .i64 0]) rfl (by kernel_rfl) (by kernel_rfl) (by kernel_rfl) (fun _ _ _ h => h) (Or.inl ⟨by rfl, ?_⟩) hHeld ?_
  · intro wq hSw
    try dsimp only at hSw
    go_simp
  try simp only [Act.put, List.getElem_toArray, List.getElem_cons_succ, List.getElem_cons_zero, List.setIfInBounds_toArray, List.set_cons_zero, List.set_cons_succ]
  refine wpAnyH_ready (rs := [3]) (by kernel_rfl) (by simp) ?_
  refine AllReadyH.cons rfl (fun KK hK => ?_) AllReadyH.nil
  simp only [List.getElem_toArray, List.getElem_cons_succ, List.getElem_cons_zero]
  rw [if_pos (by rfl)]
  refine wps2 13 (.const (.int .i64 1)) (.const (.int .i64 0)) _ rfl in_dy_c (.int .i64 1) (.int .i64 0) rfl rfl (dy_one 0 (.inr (.inl rfl)) _) ?_
  rintro e w11 ⟨v4, rfl, r4, k11⟩
  refine ⟨_, rfl, ?_⟩
  replace r3 := r3.kept k11 (.inr (.inr (Nat.le_refl 0)))
  replace cs0 := k11.cell0 cs0
  replace cs1 := k11.cell0 cs1
  replace cs2 := k11.cell0 cs2
  replace K := hide ((unhide K).trans k11)
  have z12 := k11.size
  clear k11
  clear hHeld
  refine hK.out _ _ ?_ (fun hHeld => ?_)
  · exact ⟨cs0, cs1, cs2⟩
  clear hK KK
  try simp only [Act.put, List.getElem_toArray, List.getElem_cons_succ, List.getElem_cons_zero, List.setIfInBounds_toArray, List.set_cons_zero, List.set_cons_succ]
  obtain ⟨a4, c4, hv⟩ := Row.form' r4
  subst hv
  refine wpAnyH_ready (rs := [4]) (by kernel_rfl) (by simp) ?_
  refine AllReadyH.cons rfl (fun KK hK => ?_) AllReadyH.nil
  simp only [List.getElem_toArray, List.getElem_cons_succ, List.getElem_cons_zero]
  rw [if_pos (by rfl)]
  refine wps2 9 (.tmp 11) (.tmp 12) _ rfl in_sameDy_c (.agg #[.bool false, .slice a3 1 c3, .int .i64 0]) (.agg #[.bool false, .slice a4 [(1 : Int)].length c4, .int .i64 0]) rfl rfl (sameDy_same false 0 _ r3 r4) ?_
  rintro e w13 ⟨rfl, k13⟩
  refine ⟨_, rfl, ?_⟩
  replace r3 := r3.kept k13 (.inr (.inr (Nat.le_refl 0)))
  replace r4 := r4.kept k13 (.inr (.inr (Nat.le_refl 0)))
  replace cs0 := k13.cell0 cs0
  replace cs1 := k13.cell0 cs1
  replace cs2 := k13.cell0 cs2
  replace K := hide ((unhide K).trans k13)
  have z14 := k13.size
  clear k13
  clear hHeld
  refine hK.out _ _ ?_ (fun hHeld => ?_)
  · exact ⟨cs0, cs1, cs2⟩
  clear hK KK
  try simp only [Act.put, List.getElem_toArray, List.getElem_cons_succ, List.getElem_cons_zero, List.setIfInBounds_toArray, List.set_cons_zero, List.set_cons_succ]
  refine wpAnyH_take (i := 5) (oi := _) (v := .bool true) rfl (by kernel_rfl) (by kernel_rfl) (by kernel_rfl) (fun _ _ _ h => h) (Or.inl ⟨by rfl, ?_⟩) hHeld ?_
  · intro wq hSw
    try dsimp only at hSw
    go_simp
  try simp only [Act.put, List.getElem_toArray, List.getElem_cons_succ, List.getElem_cons_zero, List.setIfInBounds_toArray, List.set_cons_zero, List.set_cons_succ]
  refine wpAnyH_take (i := 6) (oi := _) (v := .bool true) rfl (by kernel_rfl) (by kernel_rfl) (by kernel_rfl) (fun _ _ _ h => h) (Or.inl ⟨by rfl, ?_⟩) hHeld ?_
  · intro wq hSw
    try dsimp only at hSw
    go_simp
  try simp only [Act.put, List.getElem_toArray, List.getElem_cons_succ, List.getElem_cons_zero, List.setIfInBounds_toArray, List.set_cons_zero, List.set_cons_succ]
  refine wpAnyH_done (by kernel_rfl) ?_ _
  clear hHeld
  try go_wp2_with fail
  go_ret
  exact ⟨rfl, unhide K⟩

set_option maxHeartbeats 8000000 in
theorem drawDyAdd_any {bw : Bool} {lo hi : Nat} {v : Value} {bs : List Int} (w : World) (r : Row .u8 bw lo hi w v bs) (b : Bytes bs) :
    Calls Tryd.prog 5 #[v] w fun e w' => ∃ v1 s1 x1 zs v2 s2 x2 ys, e = .returned (.tuple #[.agg #[.bool s1, v1, .int .i64 x1], .agg #[.bool s2, v2, .int .i64 x2]]) ∧ Row .i64 true w.heap.size w'.heap.size w' v1 zs ∧ Row .i64 true w.heap.size w'.heap.size w' v2 ys ∧ -9223372036854775808 ≤ x1 ∧ x1 ≤ 9223372036854775807 ∧ -9223372036854775808 ≤ x2 ∧ x2 ≤ 9223372036854775807 ∧ Kept 0 0 w w' := by
  have k0 : Kept 0 0 w ((w.alloc (.cells #[.bool false, .slice none 0 0, .int .i64 0] 30)).alloc (.cells #[.bool false, .slice none 0 0, .int .i64 0] 30)) := (((Kept.refl 0 0 w).alloc (.cells #[.bool false, .slice none 0 0, .int .i64 0] 30)).alloc (.cells #[.bool false, .slice none 0 0, .int .i64 0] 30))
  have q0 : ((w.alloc (.cells #[.bool false, .slice none 0 0, .int .i64 0] 30)).alloc (.cells #[.bool false, .slice none 0 0, .int .i64 0] 30)).cell? ⟨w.heap.size, 0, none⟩ = some (.bool false) := old_cell _ (new_cell2 _ _ _ _ _ _ (by simp) rfl)
  have qf0 : ((w.alloc (.cells #[.bool false, .slice none 0 0, .int .i64 0] 30)).alloc (.cells #[.bool false, .slice none 0 0, .int .i64 0] 30)).frozen? ⟨w.heap.size, 0, none⟩ = false := loose_old (by simp <;> omega) (new_loose2 _ _ _ _ _ (by simp))
  have q1 : ((w.alloc (.cells #[.bool false, .slice none 0 0, .int .i64 0] 30)).alloc (.cells #[.bool false, .slice none 0 0, .int .i64 0] 30)).cell? ⟨w.heap.size, 1, none⟩ = some (.slice none 0 0) := old_cell _ (new_cell2 _ _ _ _ _ _ (by simp) rfl)
  have qf1 : ((w.alloc (.cells #[.bool false, .slice none 0 0, .int .i64 0] 30)).alloc (.cells #[.bool false, .slice none 0 0, .int .i64 0] 30)).frozen? ⟨w.heap.size, 1, none⟩ = false := loose_old (by simp <;> omega) (new_loose2 _ _ _ _ _ (by simp))
  have q2 : ((w.alloc (.cells #[.bool false, .slice none 0 0, .int .i64 0] 30)).alloc (.cells #[.bool false, .slice none 0 0, .int .i64 0] 30)).cell? ⟨w.heap.size, 2, none⟩ = some (.int .i64 0) := old_cell _ (new_cell2 _ _ _ _ _ _ (by simp) rfl)
  have qf2 : ((w.alloc (.cells #[.bool false, .slice none 0 0, .int .i64 0] 30)).alloc (.cells #[.bool false, .slice none 0 0, .int .i64 0] 30)).frozen? ⟨w.heap.size, 2, none⟩ = false := loose_old (by simp <;> omega) (new_loose2 _ _ _ _ _ (by simp))
  have p0 : ((w.alloc (.cells #[.bool false, .slice none 0 0, .int .i64 0] 30)).alloc (.cells #[.bool false, .slice none 0 0, .int .i64 0] 30)).cell? ⟨w.heap.size + 1, 0, none⟩ = some (.bool false) := new_cell2 _ _ _ _ _ _ (by simp) rfl
  have pf0 : ((w.alloc (.cells #[.bool false, .slice none 0 0, .int .i64 0] 30)).alloc (.cells #[.bool false, .slice none 0 0, .int .i64 0] 30)).frozen? ⟨w.heap.size + 1, 0, none⟩ = false := new_loose2 _ _ _ _ _ (by simp)
  have p1 : ((w.alloc (.cells #[.bool false, .slice none 0 0, .int .i64 0] 30)).alloc (.cells #[.bool false, .slice none 0 0, .int .i64 0] 30)).cell? ⟨w.heap.size + 1, 1, none⟩ = some (.slice none 0 0) := new_cell2 _ _ _ _ _ _ (by simp) rfl
  have pf1 : ((w.alloc (.cells #[.bool false, .slice none 0 0, .int .i64 0] 30)).alloc (.cells #[.bool false, .slice none 0 0, .int .i64 0] 30)).frozen? ⟨w.heap.size + 1, 1, none⟩ = false := new_loose2 _ _ _ _ _ (by simp)
  have p2 : ((w.alloc (.cells #[.bool false, .slice none 0 0, .int .i64 0] 30)).alloc (.cells #[.bool false, .slice none 0 0, .int .i64 0] 30)).cell? ⟨w.heap.size + 1, 2, none⟩ = some (.int .i64 0) := new_cell2 _ _ _ _ _ _ (by simp) rfl
  have pf2 : ((w.alloc (.cells #[.bool false, .slice none 0 0, .int .i64 0] 30)).alloc (.cells #[.bool false, .slice none 0 0, .int .i64 0] 30)).frozen? ⟨w.heap.size + 1, 2, none⟩ = false := new_loose2 _ _ _ _ _ (by simp)
  have s0 : ((w.alloc (.cells #[.bool false, .slice none 0 0, .int .i64 0] 30)).alloc (.cells #[.bool false, .slice none 0 0, .int .i64 0] 30)).heap.size = w.heap.size + 2 := by simp
  have K := hide (k0)
  clear k0
  have S0 := hide s0
  clear s0
  replace r := r.kept (unhide K) (by omega)
  obtain ⟨a0, c0, hv⟩ := Row.form' r
  subst hv
  go_enter Tryd.func5, Tryd.ntmps5
  go_wp2_with fail
  generalize ((w.alloc (.cells #[.bool false, .slice none 0 0, .int .i64 0] 30)).alloc (.cells #[.bool false, .slice none 0 0, .int .i64 0] 30)) = W at *
  refine (drawDyCmp_any _ r b).mono ?_
  rintro e w1 ⟨v5, s1, x1, zs, v6, s2, x2, ys, rfl, r5, r6, g1, g2, g3, g4, k1⟩
  replace qf0 := k1.loose0 (World.block_lt_of_cell? _ _ q0) qf0
  replace qf1 := k1.loose0 (World.block_lt_of_cell? _ _ q1) qf1
  replace qf2 := k1.loose0 (World.block_lt_of_cell? _ _ q2) qf2
  replace pf0 := k1.loose0 (World.block_lt_of_cell? _ _ p0) pf0
  replace pf1 := k1.loose0 (World.block_lt_of_cell? _ _ p1) pf1
  replace pf2 := k1.loose0 (World.block_lt_of_cell? _ _ p2) pf2
  replace q0 := k1.cell0 q0
  replace q1 := k1.cell0 q1
  replace q2 := k1.cell0 q2
  replace p0 := k1.cell0 p0
  replace p1 := k1.cell0 p1
  replace p2 := k1.cell0 p2
  replace K := hide ((unhide K).trans k1)
  have z2 := k1.size
  clear k1
  clear r
  obtain ⟨a5, c5, hv⟩ := Row.form' r5
  subst hv
  obtain ⟨a6, c6, hv⟩ := Row.form' r6
  subst hv
  have R1 := hide (((((((r5.set_other (p := ⟨w.heap.size, 0, none⟩) (.inl (by have := unhide S0; dsimp only; omega)) (.bool s1)).set_other (p := ⟨w.heap.size, 1, none⟩) (.inl (by have := unhide S0; dsimp only; omega)) (.slice a5 zs.length c5)).set_other (p := ⟨w.heap.size, 2, none⟩) (.inl (by have := unhide S0; dsimp only; omega)) (.int .i64 x1)).set_other (p := ⟨w.heap.size + 1, 0, none⟩) (.inl (by have := unhide S0; dsimp only; omega)) (.bool s2)).set_other (p := ⟨w.heap.size + 1, 1, none⟩) (.inl (by have := unhide S0; dsimp only; omega)) (.slice a6 ys.length c6)).set_other (p := ⟨w.heap.size + 1, 2, none⟩) (.inl (by have := unhide S0; dsimp only; omega)) (.int .i64 x2)).tight.wider (lo' := w.heap.size) (by have := unhide S0; omega) (Nat.le_refl _))
  have R2 := hide (((((((r6.set_other (p := ⟨w.heap.size, 0, none⟩) (.inl (by have := unhide S0; dsimp only; omega)) (.bool s1)).set_other (p := ⟨w.heap.size, 1, none⟩) (.inl (by have := unhide S0; dsimp only; omega)) (.slice a5 zs.length c5)).set_other (p := ⟨w.heap.size, 2, none⟩) (.inl (by have := unhide S0; dsimp only; omega)) (.int .i64 x1)).set_other (p := ⟨w.heap.size + 1, 0, none⟩) (.inl (by have := unhide S0; dsimp only; omega)) (.bool s2)).set_other (p := ⟨w.heap.size + 1, 1, none⟩) (.inl (by have := unhide S0; dsimp only; omega)) (.slice a6 ys.length c6)).set_other (p := ⟨w.heap.size + 1, 2, none⟩) (.inl (by have := unhide S0; dsimp only; omega)) (.int .i64 x2)).tight.wider (lo' := w.heap.size) (by have := unhide S0; omega) (Nat.le_refl _))
  have K7 := hide (((((((unhide K).setNew (p := ⟨w.heap.size, 0, none⟩) (by simp) (.bool s1)).setNew (p := ⟨w.heap.size, 1, none⟩) (by simp) (.slice a5 zs.length c5)).setNew (p := ⟨w.heap.size, 2, none⟩) (by simp) (.int .i64 x1)).setNew (p := ⟨w.heap.size + 1, 0, none⟩) (by simp) (.bool s2)).setNew (p := ⟨w.heap.size + 1, 1, none⟩) (by simp) (.slice a6 ys.length c6)).setNew (p := ⟨w.heap.size + 1, 2, none⟩) (by simp) (.int .i64 x2))
  have Gq0 := hide (cell_aside (r := ⟨w.heap.size + 1, 2, none⟩) (.int .i64 x2) (by dsimp only; omega) (cell_aside (r := ⟨w.heap.size + 1, 1, none⟩) (.slice a6 ys.length c6) (by dsimp only; omega) (cell_aside (r := ⟨w.heap.size + 1, 0, none⟩) (.bool s2) (by dsimp only; omega) (cell_off _ _ _ 2 (.int .i64 x1) _ (cell_off _ _ _ 1 (.slice a5 zs.length c5) _ (cell_on _ _ _ (.bool s1) _ q0) (by decide)) (by decide)))))
  have Gq1 := hide (cell_aside (r := ⟨w.heap.size + 1, 2, none⟩) (.int .i64 x2) (by dsimp only; omega) (cell_aside (r := ⟨w.heap.size + 1, 1, none⟩) (.slice a6 ys.length c6) (by dsimp only; omega) (cell_aside (r := ⟨w.heap.size + 1, 0, none⟩) (.bool s2) (by dsimp only; omega) (cell_off _ _ _ 2 (.int .i64 x1) _ (cell_on _ _ _ (.slice a5 zs.length c5) _ (cell_off _ _ _ 0 (.bool s1) _ q1 (by decide))) (by decide)))))
  have Gq2 := hide (cell_aside (r := ⟨w.heap.size + 1, 2, none⟩) (.int .i64 x2) (by dsimp only; omega) (cell_aside (r := ⟨w.heap.size + 1, 1, none⟩) (.slice a6 ys.length c6) (by dsimp only; omega) (cell_aside (r := ⟨w.heap.size + 1, 0, none⟩) (.bool s2) (by dsimp only; omega) (cell_on _ _ _ (.int .i64 x1) _ (cell_off _ _ _ 1 (.slice a5 zs.length c5) _ (cell_off _ _ _ 0 (.bool s1) _ q2 (by decide)) (by decide))))))
  have Gp0 := hide (cell_off _ _ _ 2 (.int .i64 x2) _ (cell_off _ _ _ 1 (.slice a6 ys.length c6) _ (cell_on _ _ _ (.bool s2) _ (cell_aside (r := ⟨w.heap.size, 2, none⟩) (.int .i64 x1) (by dsimp only; omega) (cell_aside (r := ⟨w.heap.size, 1, none⟩) (.slice a5 zs.length c5) (by dsimp only; omega) (cell_aside (r := ⟨w.heap.size, 0, none⟩) (.bool s1) (by dsimp only; omega) p0)))) (by decide)) (by decide))
  have Gp1 := hide (cell_off _ _ _ 2 (.int .i64 x2) _ (cell_on _ _ _ (.slice a6 ys.length c6) _ (cell_off _ _ _ 0 (.bool s2) _ (cell_aside (r := ⟨w.heap.size, 2, none⟩) (.int .i64 x1) (by dsimp only; omega) (cell_aside (r := ⟨w.heap.size, 1, none⟩) (.slice a5 zs.length c5) (by dsimp only; omega) (cell_aside (r := ⟨w.heap.size, 0, none⟩) (.bool s1) (by dsimp only; omega) p1))) (by decide))) (by decide))
  have Gp2 := hide (cell_on _ _ _ (.int .i64 x2) _ (cell_off _ _ _ 1 (.slice a6 ys.length c6) _ (cell_off _ _ _ 0 (.bool s2) _ (cell_aside (r := ⟨w.heap.size, 2, none⟩) (.int .i64 x1) (by dsimp only; omega) (cell_aside (r := ⟨w.heap.size, 1, none⟩) (.slice a5 zs.length c5) (by dsimp only; omega) (cell_aside (r := ⟨w.heap.size, 0, none⟩) (.bool s1) (by dsimp only; omega) p2))) (by decide)) (by decide)))
  clear r5 r6 K
  go_wp2_with fail
  have hq0 := unhide Gq0
  have hq1 := unhide Gq1
  have hq2 := unhide Gq2
  have hp0 := unhide Gp0
  have hp1 := unhide Gp1
  have hp2 := unhide Gp2
  exact bodyPost_ret (v := .tuple #[.agg #[.bool s1, .slice a5 zs.length c5, .int .i64 x1], .agg #[.bool s2, .slice a6 ys.length c6, .int .i64 x2]]) (by simp [results, Tryd.results5, go_sem, hq0, hq1, hq2, hp0, hp1, hp2]) rfl ⟨_, _, _, _, _, _, _, _, rfl, unhide R1, unhide R2, g1, g2, g3, g4, unhide K7⟩

set_option maxHeartbeats 8000000 in
theorem law_DyRing {v : Value} {zs : List Int} {w : World} (r : Row .u8 false 0 w.heap.size w v zs) (hb0 : ∀ z ∈ zs, (Lit.int .u8 z).wf = true) (T : TabB w) (hr : zs.length ≤ 140737488351232) :
    Calls Tryd.prog 3 #[v] w fun e w' => e = .returned (.bool true) ∧ Below w.heap.size w w' := by
  have hb := bytes_of_wf hb0
  clear hb0
  have hB := hide hb
  clear hb
  have hR := hide hr
  clear hr
  have HT := hide T
  clear T
  have s0 : w.heap.size = w.heap.size := rfl
  obtain ⟨a0, c0, hv⟩ := r.form'
  subst hv
  have K := hide (Kept.refl 0 0 w)
  have S0 := hide s0
  clear s0
  go_enter Tryd.func3, Tryd.ntmps3
  go_wp2_with fail
  refine (dys_any _ ((unhide HT).kept (unhide K))).mono ?_
  rintro e w1 ⟨rfl, k1⟩
  replace r := r.kept k1 (.inr (.inr (Nat.le_refl 0)))
  replace K := hide ((unhide K).trans k1)
  have z2 := k1.size
  clear k1
  go_wp2_with fail
  refine (drawDyAdd_any _ r (unhide hB)).mono ?_
  rintro e w3 ⟨v1, s1, x1, xs, v2, s2, x2, ys, rfl, r1, r2, f1, f2, f3, f4, k3⟩
  replace r := r.kept k3 (.inr (.inr (Nat.le_refl 0)))
  replace K := hide ((unhide K).trans k3)
  have z4 := k3.size
  clear k3
  obtain ⟨a1, c1, hv⟩ := Row.form' r1
  subst hv
  obtain ⟨a2, c2, hv⟩ := Row.form' r2
  subst hv
  have kn := (Kept.refl 0 0 w3).alloc (.cells #[.bool s1, .slice a1 xs.length c1, .int .i64 x1] 30)
  have ca0 : (w3.alloc (.cells #[.bool s1, .slice a1 xs.length c1, .int .i64 x1] 30)).cell? ⟨w3.heap.size, 0, none⟩ = some (.bool s1) := new_cell2 _ _ _ _ _ _ (by simp) rfl
  have ca1 : (w3.alloc (.cells #[.bool s1, .slice a1 xs.length c1, .int .i64 x1] 30)).cell? ⟨w3.heap.size, 1, none⟩ = some (.slice a1 xs.length c1) := new_cell2 _ _ _ _ _ _ (by simp) rfl
  have ca2 : (w3.alloc (.cells #[.bool s1, .slice a1 xs.length c1, .int .i64 x1] 30)).cell? ⟨w3.heap.size, 2, none⟩ = some (.int .i64 x1) := new_cell2 _ _ _ _ _ _ (by simp) rfl
  have sz5 : w3.heap.size + 1 ≤ (w3.alloc (.cells #[.bool s1, .slice a1 xs.length c1, .int .i64 x1] 30)).heap.size := by simp
  replace r := r.kept kn (.inr (.inr (Nat.le_refl 0)))
  replace r1 := r1.kept kn (.inr (.inr (Nat.le_refl 0)))
  replace r2 := r2.kept kn (.inr (.inr (Nat.le_refl 0)))
  replace K := hide ((unhide K).trans kn)
  have z6 := kn.size
  clear kn
  have kn := (Kept.refl 0 0 (w3.alloc (.cells #[.bool s1, .slice a1 xs.length c1, .int .i64 x1] 30))).alloc (.cells #[.bool s2, .slice a2 ys.length c2, .int .i64 x2] 30)
  have cb0 : ((w3.alloc (.cells #[.bool s1, .slice a1 xs.length c1, .int .i64 x1] 30)).alloc (.cells #[.bool s2, .slice a2 ys.length c2, .int .i64 x2] 30)).cell? ⟨w3.heap.size + 1, 0, none⟩ = some (.bool s2) := new_cell2 _ _ _ _ _ _ (by simp) rfl
  have cb1 : ((w3.alloc (.cells #[.bool s1, .slice a1 xs.length c1, .int .i64 x1] 30)).alloc (.cells #[.bool s2, .slice a2 ys.length c2, .int .i64 x2] 30)).cell? ⟨w3.heap.size + 1, 1, none⟩ = some (.slice a2 ys.length c2) := new_cell2 _ _ _ _ _ _ (by simp) rfl
  have cb2 : ((w3.alloc (.cells #[.bool s1, .slice a1 xs.length c1, .int .i64 x1] 30)).alloc (.cells #[.bool s2, .slice a2 ys.length c2, .int .i64 x2] 30)).cell? ⟨w3.heap.size + 1, 2, none⟩ = some (.int .i64 x2) := new_cell2 _ _ _ _ _ _ (by simp) rfl
  have sz7 : (w3.alloc (.cells #[.bool s1, .slice a1 xs.length c1, .int .i64 x1] 30)).heap.size + 1 ≤ ((w3.alloc (.cells #[.bool s1, .slice a1 xs.length c1, .int .i64 x1] 30)).alloc (.cells #[.bool s2, .slice a2 ys.length c2, .int .i64 x2] 30)).heap.size := by simp
  replace r := r.kept kn (.inr (.inr (Nat.le_refl 0)))
  replace r1 := r1.kept kn (.inr (.inr (Nat.le_refl 0)))
  replace r2 := r2.kept kn (.inr (.inr (Nat.le_refl 0)))
  replace ca0 := kn.cell0 ca0
  replace ca1 := kn.cell0 ca1
  replace ca2 := kn.cell0 ca2
  replace K := hide ((unhide K).trans kn)
  have z8 := kn.size
  clear kn
  go_wp2_with fail
  generalize ((w3.alloc (.cells #[.bool s1, .slice a1 xs.length c1, .int .i64 x1] 30)).alloc (.cells #[.bool s2, .slice a2 ys.length c2, .int .i64 x2] 30)) = wn9 at *
  refine (more_any _ r (unhide hR)).mono ?_
  rintro e w10 ⟨v3, rfl, r3, k10⟩
  replace r := r.kept k10 (.inr (.inr (Nat.le_refl 0)))
  replace r1 := r1.kept k10 (.inr (.inr (Nat.le_refl 0)))
  replace r2 := r2.kept k10 (.inr (.inr (Nat.le_refl 0)))
  replace ca0 := k10.cell0 ca0
  replace ca1 := k10.cell0 ca1
  replace ca2 := k10.cell0 ca2
  replace cb0 := k10.cell0 cb0
  replace cb1 := k10.cell0 cb1
  replace cb2 := k10.cell0 cb2
  replace K := hide ((unhide K).trans k10)
  have z11 := k10.size
  clear k10
  clear r
  obtain ⟨a3, c3, hv⟩ := Row.form' r3
  subst hv
  go_wp2_with fail
  refine (drawDyAdd_any _ r3 (bytes_more (unhide hB))).mono ?_
  rintro e w12 ⟨v4, s3, x3, cs, v5, s5, x5, es, rfl, r4, r5, f5, f6, f7, f8, k12⟩
  replace r1 := r1.kept k12 (.inr (.inr (Nat.le_refl 0)))
  replace r2 := r2.kept k12 (.inr (.inr (Nat.le_refl 0)))
  replace r3 := r3.kept k12 (.inr (.inr (Nat.le_refl 0)))
  replace ca0 := k12.cell0 ca0
  replace ca1 := k12.cell0 ca1
  replace ca2 := k12.cell0 ca2
  replace cb0 := k12.cell0 cb0
  replace cb1 := k12.cell0 cb1
  replace cb2 := k12.cell0 cb2
  replace K := hide ((unhide K).trans k12)
  have z13 := k12.size
  clear k12
  clear r3
  obtain ⟨a4, c4, hv⟩ := Row.form' r4
  subst hv
  obtain ⟨a5, c5, hv⟩ := Row.form' r5
  subst hv
  have kn := (Kept.refl 0 0 w12).alloc (.cells #[.bool s3, .slice a4 cs.length c4, .int .i64 x3] 30)
  have cc0 : (w12.alloc (.cells #[.bool s3, .slice a4 cs.length c4, .int .i64 x3] 30)).cell? ⟨w12.heap.size, 0, none⟩ = some (.bool s3) := new_cell2 _ _ _ _ _ _ (by simp) rfl
  have cc1 : (w12.alloc (.cells #[.bool s3, .slice a4 cs.length c4, .int .i64 x3] 30)).cell? ⟨w12.heap.size, 1, none⟩ = some (.slice a4 cs.length c4) := new_cell2 _ _ _ _ _ _ (by simp) rfl
  have cc2 : (w12.alloc (.cells #[.bool s3, .slice a4 cs.length c4, .int .i64 x3] 30)).cell? ⟨w12.heap.size, 2, none⟩ = some (.int .i64 x3) := new_cell2 _ _ _ _ _ _ (by simp) rfl
  have sz14 : w12.heap.size + 1 ≤ (w12.alloc (.cells #[.bool s3, .slice a4 cs.length c4, .int .i64 x3] 30)).heap.size := by simp
  replace r1 := r1.kept kn (.inr (.inr (Nat.le_refl 0)))
  replace r2 := r2.kept kn (.inr (.inr (Nat.le_refl 0)))
  replace r4 := r4.kept kn (.inr (.inr (Nat.le_refl 0)))
  replace r5 := r5.kept kn (.inr (.inr (Nat.le_refl 0)))
  replace ca0 := kn.cell0 ca0
  replace ca1 := kn.cell0 ca1
  replace ca2 := kn.cell0 ca2
  replace cb0 := kn.cell0 cb0
  replace cb1 := kn.cell0 cb1
  replace cb2 := kn.cell0 cb2
  replace K := hide ((unhide K).trans kn)
  have z15 := kn.size
  clear kn
  have kn := (Kept.refl 0 0 (w12.alloc (.cells #[.bool s3, .slice a4 cs.length c4, .int .i64 x3] 30))).alloc (.cells #[.bool s5, .slice a5 es.length c5, .int .i64 x5] 30)
  have cd0 : ((w12.alloc (.cells #[.bool s3, .slice a4 cs.length c4, .int .i64 x3] 30)).alloc (.cells #[.bool s5, .slice a5 es.length c5, .int .i64 x5] 30)).cell? ⟨w12.heap.size + 1, 0, none⟩ = some (.bool s5) := new_cell2 _ _ _ _ _ _ (by simp) rfl
  have cd1 : ((w12.alloc (.cells #[.bool s3, .slice a4 cs.length c4, .int .i64 x3] 30)).alloc (.cells #[.bool s5, .slice a5 es.length c5, .int .i64 x5] 30)).cell? ⟨w12.heap.size + 1, 1, none⟩ = some (.slice a5 es.length c5) := new_cell2 _ _ _ _ _ _ (by simp) rfl
  have cd2 : ((w12.alloc (.cells #[.bool s3, .slice a4 cs.length c4, .int .i64 x3] 30)).alloc (.cells #[.bool s5, .slice a5 es.length c5, .int .i64 x5] 30)).cell? ⟨w12.heap.size + 1, 2, none⟩ = some (.int .i64 x5) := new_cell2 _ _ _ _ _ _ (by simp) rfl
  have sz16 : (w12.alloc (.cells #[.bool s3, .slice a4 cs.length c4, .int .i64 x3] 30)).heap.size + 1 ≤ ((w12.alloc (.cells #[.bool s3, .slice a4 cs.length c4, .int .i64 x3] 30)).alloc (.cells #[.bool s5, .slice a5 es.length c5, .int .i64 x5] 30)).heap.size := by simp
  replace r1 := r1.kept kn (.inr (.inr (Nat.le_refl 0)))
  replace r2 := r2.kept kn (.inr (.inr (Nat.le_refl 0)))
  replace r4 := r4.kept kn (.inr (.inr (Nat.le_refl 0)))
  replace r5 := r5.kept kn (.inr (.inr (Nat.le_refl 0)))
  replace ca0 := kn.cell0 ca0
  replace ca1 := kn.cell0 ca1
  replace ca2 := kn.cell0 ca2
  replace cb0 := kn.cell0 cb0
  replace cb1 := kn.cell0 cb1
  replace cb2 := kn.cell0 cb2
  replace cc0 := kn.cell0 cc0
  replace cc1 := kn.cell0 cc1
  replace cc2 := kn.cell0 cc2
  replace K := hide ((unhide K).trans kn)
  have z17 := kn.size
  clear kn
  go_wp2_with fail
  generalize ((w12.alloc (.cells #[.bool s3, .slice a4 cs.length c4, .int .i64 x3] 30)).alloc (.cells #[.bool s5, .slice a5 es.length c5, .int .i64 x5] 30)) = wn18 at *
  clear r5
  have mk := dadd_impl s1 s2 x1 x2 (by omega) (by omega) (by omega) (by omega) wn18 r1 r2 ((unhide HT).kept (unhide K))
  obtain ⟨SB, hSB⟩ : ∃ y, ansDB (dokB s1 xs x1 && dokB s2 ys x2) (wval s1 xs * 2 ^ (x1 - min x1 x2).toNat + wval s2 ys * 2 ^ (x2 - min x1 x2).toNat) (min x1 x2) = y := ⟨_, rfl⟩
  obtain ⟨SS, hSS⟩ : ∃ y, ansDS (dokB s1 xs x1 && dokB s2 ys x2) (wval s1 xs * 2 ^ (x1 - min x1 x2).toNat + wval s2 ys * 2 ^ (x2 - min x1 x2).toNat) (min x1 x2) = y := ⟨_, rfl⟩
  obtain ⟨SL, hSL⟩ : ∃ y, ansDL (dokB s1 xs x1 && dokB s2 ys x2) (wval s1 xs * 2 ^ (x1 - min x1 x2).toNat + wval s2 ys * 2 ^ (x2 - min x1 x2).toNat) (min x1 x2) = y := ⟨_, rfl⟩
  obtain ⟨SE, hSE⟩ : ∃ y, ansDE (dokB s1 xs x1 && dokB s2 ys x2) (wval s1 xs * 2 ^ (x1 - min x1 x2).toNat + wval s2 ys * 2 ^ (x2 - min x1 x2).toNat) (min x1 x2) = y := ⟨_, rfl⟩
  have gS := ansDE_rng (dokB s1 xs x1 && dokB s2 ys x2) (wval s1 xs * 2 ^ (x1 - min x1 x2).toNat + wval s2 ys * 2 ^ (x2 - min x1 x2).toNat) (min x1 x2)
  rw [hSE] at gS
  rw [hSB, hSS, hSL, hSE] at mk
  have HS : Hid (Ans (dokB s1 xs x1 && dokB s2 ys x2) (wval s1 xs * 2 ^ (x1 - min x1 x2).toNat + wval s2 ys * 2 ^ (x2 - min x1 x2).toNat) (min x1 x2) SB SS SL SE) := ⟨hSB, hSS, hSL, hSE⟩
  clear hSB hSS hSL hSE
  refine (mk).mono ?_
  rintro e w19 ⟨v6, rfl, r6, k19⟩
  replace r1 := r1.kept k19 (.inr (.inr (Nat.le_refl 0)))
  replace r2 := r2.kept k19 (.inr (.inr (Nat.le_refl 0)))
  replace r4 := r4.kept k19 (.inr (.inr (Nat.le_refl 0)))
  replace ca0 := k19.cell0 ca0
  replace ca1 := k19.cell0 ca1
  replace ca2 := k19.cell0 ca2
  replace cb0 := k19.cell0 cb0
  replace cb1 := k19.cell0 cb1
  replace cb2 := k19.cell0 cb2
  replace cc0 := k19.cell0 cc0
  replace cc1 := k19.cell0 cc1
  replace cc2 := k19.cell0 cc2
  replace cd0 := k19.cell0 cd0
  replace cd1 := k19.cell0 cd1
  replace cd2 := k19.cell0 cd2
  replace K := hide ((unhide K).trans k19)
  have z20 := k19.size
  clear k19
  clear mk
  obtain ⟨a6, c6, hv⟩ := Row.form' r6
  subst hv
  have kn := (Kept.refl 0 0 w19).alloc (.cells #[.bool SS, .slice a6 SL.length c6, .int .i64 SE] 30)
  have n60 : (w19.alloc (.cells #[.bool SS, .slice a6 SL.length c6, .int .i64 SE] 30)).cell? ⟨w19.heap.size, 0, none⟩ = some (.bool SS) := new_cell2 _ _ _ _ _ _ (by simp) rfl
  have n61 : (w19.alloc (.cells #[.bool SS, .slice a6 SL.length c6, .int .i64 SE] 30)).cell? ⟨w19.heap.size, 1, none⟩ = some (.slice a6 SL.length c6) := new_cell2 _ _ _ _ _ _ (by simp) rfl
  have n62 : (w19.alloc (.cells #[.bool SS, .slice a6 SL.length c6, .int .i64 SE] 30)).cell? ⟨w19.heap.size, 2, none⟩ = some (.int .i64 SE) := new_cell2 _ _ _ _ _ _ (by simp) rfl
  have sz21 : w19.heap.size + 1 ≤ (w19.alloc (.cells #[.bool SS, .slice a6 SL.length c6, .int .i64 SE] 30)).heap.size := by simp
  replace r1 := r1.kept kn (.inr (.inr (Nat.le_refl 0)))
  replace r2 := r2.kept kn (.inr (.inr (Nat.le_refl 0)))
  replace r4 := r4.kept kn (.inr (.inr (Nat.le_refl 0)))
  replace r6 := r6.kept kn (.inr (.inr (Nat.le_refl 0)))
  replace ca0 := kn.cell0 ca0
  replace ca1 := kn.cell0 ca1
  replace ca2 := kn.cell0 ca2
  replace cb0 := kn.cell0 cb0
  replace cb1 := kn.cell0 cb1
  replace cb2 := kn.cell0 cb2
  replace cc0 := kn.cell0 cc0
  replace cc1 := kn.cell0 cc1
  replace cc2 := kn.cell0 cc2
  replace cd0 := kn.cell0 cd0
  replace cd1 := kn.cell0 cd1
  replace cd2 := kn.cell0 cd2
  replace K := hide ((unhide K).trans kn)
  have z22 := kn.size
  clear kn
  go_wp2_with fail
  generalize (w19.alloc (.cells #[.bool SS, .slice a6 SL.length c6, .int .i64 SE] 30)) = wn23 at *
  have mk := dadd_impl s2 s1 x2 x1 (by omega) (by omega) (by omega) (by omega) wn23 r2 r1 ((unhide HT).kept (unhide K))
  rw [Bool.and_comm, Int.add_comm, Int.min_comm, (unhide HS).1, (unhide HS).2.1, (unhide HS).2.2.1, (unhide HS).2.2.2] at mk
  refine (mk).mono ?_
  rintro e w24 ⟨v7, rfl, r7, k24⟩
  replace r1 := r1.kept k24 (.inr (.inr (Nat.le_refl 0)))
  replace r2 := r2.kept k24 (.inr (.inr (Nat.le_refl 0)))
  replace r4 := r4.kept k24 (.inr (.inr (Nat.le_refl 0)))
  replace r6 := r6.kept k24 (.inr (.inr (Nat.le_refl 0)))
  replace ca0 := k24.cell0 ca0
  replace ca1 := k24.cell0 ca1
  replace ca2 := k24.cell0 ca2
  replace cb0 := k24.cell0 cb0
  replace cb1 := k24.cell0 cb1
  replace cb2 := k24.cell0 cb2
  replace cc0 := k24.cell0 cc0
  replace cc1 := k24.cell0 cc1
  replace cc2 := k24.cell0 cc2
  replace cd0 := k24.cell0 cd0
  replace cd1 := k24.cell0 cd1
  replace cd2 := k24.cell0 cd2
  replace n60 := k24.cell0 n60
  replace n61 := k24.cell0 n61
  replace n62 := k24.cell0 n62
  replace K := hide ((unhide K).trans k24)
  have z25 := k24.size
  clear k24
  clear mk
  obtain ⟨a7, c7, hv⟩ := Row.form' r7
  subst hv
  have kn := (Kept.refl 0 0 w24).alloc (.cells #[.bool SS, .slice a7 SL.length c7, .int .i64 SE] 30)
  have n70 : (w24.alloc (.cells #[.bool SS, .slice a7 SL.length c7, .int .i64 SE] 30)).cell? ⟨w24.heap.size, 0, none⟩ = some (.bool SS) := new_cell2 _ _ _ _ _ _ (by simp) rfl
  have n71 : (w24.alloc (.cells #[.bool SS, .slice a7 SL.length c7, .int .i64 SE] 30)).cell? ⟨w24.heap.size, 1, none⟩ = some (.slice a7 SL.length c7) := new_cell2 _ _ _ _ _ _ (by simp) rfl
  have n72 : (w24.alloc (.cells #[.bool SS, .slice a7 SL.length c7, .int .i64 SE] 30)).cell? ⟨w24.heap.size, 2, none⟩ = some (.int .i64 SE) := new_cell2 _ _ _ _ _ _ (by simp) rfl
  have sz26 : w24.heap.size + 1 ≤ (w24.alloc (.cells #[.bool SS, .slice a7 SL.length c7, .int .i64 SE] 30)).heap.size := by simp
  replace r1 := r1.kept kn (.inr (.inr (Nat.le_refl 0)))
  replace r2 := r2.kept kn (.inr (.inr (Nat.le_refl 0)))
  replace r4 := r4.kept kn (.inr (.inr (Nat.le_refl 0)))
  replace r6 := r6.kept kn (.inr (.inr (Nat.le_refl 0)))
  replace r7 := r7.kept kn (.inr (.inr (Nat.le_refl 0)))
  replace ca0 := kn.cell0 ca0
  replace ca1 := kn.cell0 ca1
  replace ca2 := kn.cell0 ca2
  replace cb0 := kn.cell0 cb0
  replace cb1 := kn.cell0 cb1
  replace cb2 := kn.cell0 cb2
  replace cc0 := kn.cell0 cc0
  replace cc1 := kn.cell0 cc1
  replace cc2 := kn.cell0 cc2
  replace cd0 := kn.cell0 cd0
  replace cd1 := kn.cell0 cd1
  replace cd2 := kn.cell0 cd2
  replace n60 := kn.cell0 n60
  replace n61 := kn.cell0 n61
  replace n62 := kn.cell0 n62
  replace K := hide ((unhide K).trans kn)
  have z27 := kn.size
  clear kn
  go_wp2_with fail
  generalize (w24.alloc (.cells #[.bool SS, .slice a7 SL.length c7, .int .i64 SE] 30)) = wn28 at *
  have mk := dmul_impl s1 s2 x1 x2 (by omega) (by omega) (by omega) (by omega) wn28 r1 r2 ((unhide HT).kept (unhide K))
  obtain ⟨PB, hPB⟩ : ∃ y, ansDB (dokB s1 xs x1 && dokB s2 ys x2) (wval s1 xs * wval s2 ys) (x1 + x2) = y := ⟨_, rfl⟩
  obtain ⟨PS, hPS⟩ : ∃ y, ansDS (dokB s1 xs x1 && dokB s2 ys x2) (wval s1 xs * wval s2 ys) (x1 + x2) = y := ⟨_, rfl⟩
  obtain ⟨PL, hPL⟩ : ∃ y, ansDL (dokB s1 xs x1 && dokB s2 ys x2) (wval s1 xs * wval s2 ys) (x1 + x2) = y := ⟨_, rfl⟩
  obtain ⟨PE, hPE⟩ : ∃ y, ansDE (dokB s1 xs x1 && dokB s2 ys x2) (wval s1 xs * wval s2 ys) (x1 + x2) = y := ⟨_, rfl⟩
  have gP := ansDE_rng (dokB s1 xs x1 && dokB s2 ys x2) (wval s1 xs * wval s2 ys) (x1 + x2)
  rw [hPE] at gP
  rw [hPB, hPS, hPL, hPE] at mk
  have HP : Hid (Ans (dokB s1 xs x1 && dokB s2 ys x2) (wval s1 xs * wval s2 ys) (x1 + x2) PB PS PL PE) := ⟨hPB, hPS, hPL, hPE⟩
  clear hPB hPS hPL hPE
  refine (mk).mono ?_
  rintro e w29 ⟨v8, rfl, r8, k29⟩
  replace r1 := r1.kept k29 (.inr (.inr (Nat.le_refl 0)))
  replace r2 := r2.kept k29 (.inr (.inr (Nat.le_refl 0)))
  replace r4 := r4.kept k29 (.inr (.inr (Nat.le_refl 0)))
  replace r6 := r6.kept k29 (.inr (.inr (Nat.le_refl 0)))
  replace r7 := r7.kept k29 (.inr (.inr (Nat.le_refl 0)))
  replace ca0 := k29.cell0 ca0
  replace ca1 := k29.cell0 ca1
  replace ca2 := k29.cell0 ca2
  replace cb0 := k29.cell0 cb0
  replace cb1 := k29.cell0 cb1
  replace cb2 := k29.cell0 cb2
  replace cc0 := k29.cell0 cc0
  replace cc1 := k29.cell0 cc1
  replace cc2 := k29.cell0 cc2
  replace cd0 := k29.cell0 cd0
  replace cd1 := k29.cell0 cd1
  replace cd2 := k29.cell0 cd2
  replace n60 := k29.cell0 n60
  replace n61 := k29.cell0 n61
  replace n62 := k29.cell0 n62
  replace n70 := k29.cell0 n70
  replace n71 := k29.cell0 n71
  replace n72 := k29.cell0 n72
  replace K := hide ((unhide K).trans k29)
  have z30 := k29.size
  clear k29
  clear mk
  obtain ⟨a8, c8, hv⟩ := Row.form' r8
  subst hv
  have kn := (Kept.refl 0 0 w29).alloc (.cells #[.bool PS, .slice a8 PL.length c8, .int .i64 PE] 30)
  have n80 : (w29.alloc (.cells #[.bool PS, .slice a8 PL.length c8, .int .i64 PE] 30)).cell? ⟨w29.heap.size, 0, none⟩ = some (.bool PS) := new_cell2 _ _ _ _ _ _ (by simp) rfl
  have n81 : (w29.alloc (.cells #[.bool PS, .slice a8 PL.length c8, .int .i64 PE] 30)).cell? ⟨w29.heap.size, 1, none⟩ = some (.slice a8 PL.length c8) := new_cell2 _ _ _ _ _ _ (by simp) rfl
  have n82 : (w29.alloc (.cells #[.bool PS, .slice a8 PL.length c8, .int .i64 PE] 30)).cell? ⟨w29.heap.size, 2, none⟩ = some (.int .i64 PE) := new_cell2 _ _ _ _ _ _ (by simp) rfl
  have sz31 : w29.heap.size + 1 ≤ (w29.alloc (.cells #[.bool PS, .slice a8 PL.length c8, .int .i64 PE] 30)).heap.size := by simp
  replace r1 := r1.kept kn (.inr (.inr (Nat.le_refl 0)))
  replace r2 := r2.kept kn (.inr (.inr (Nat.le_refl 0)))
  replace r4 := r4.kept kn (.inr (.inr (Nat.le_refl 0)))
  replace r6 := r6.kept kn (.inr (.inr (Nat.le_refl 0)))
  replace r7 := r7.kept kn (.inr (.inr (Nat.le_refl 0)))
  replace r8 := r8.kept kn (.inr (.inr (Nat.le_refl 0)))
  replace ca0 := kn.cell0 ca0
  replace ca1 := kn.cell0 ca1
  replace ca2 := kn.cell0 ca2
  replace cb0 := kn.cell0 cb0
  replace cb1 := kn.cell0 cb1
  replace cb2 := kn.cell0 cb2
  replace cc0 := kn.cell0 cc0
  replace cc1 := kn.cell0 cc1
  replace cc2 := kn.cell0 cc2
  replace cd0 := kn.cell0 cd0
  replace cd1 := kn.cell0 cd1
  replace cd2 := kn.cell0 cd2
  replace n60 := kn.cell0 n60
  replace n61 := kn.cell0 n61
  replace n62 := kn.cell0 n62
  replace n70 := kn.cell0 n70
  replace n71 := kn.cell0 n71
  replace n72 := kn.cell0 n72
  replace K := hide ((unhide K).trans kn)
  have z32 := kn.size
  clear kn
  go_wp2_with fail
  generalize (w29.alloc (.cells #[.bool PS, .slice a8 PL.length c8, .int .i64 PE] 30)) = wn33 at *
  have mk := dmul_impl s2 s1 x2 x1 (by omega) (by omega) (by omega) (by omega) wn33 r2 r1 ((unhide HT).kept (unhide K))
  rw [Bool.and_comm, Int.mul_comm, Int.add_comm x2 x1, (unhide HP).1, (unhide HP).2.1, (unhide HP).2.2.1, (unhide HP).2.2.2] at mk
  refine (mk).mono ?_
  rintro e w34 ⟨v9, rfl, r9, k34⟩
  replace r1 := r1.kept k34 (.inr (.inr (Nat.le_refl 0)))
  replace r2 := r2.kept k34 (.inr (.inr (Nat.le_refl 0)))
  replace r4 := r4.kept k34 (.inr (.inr (Nat.le_refl 0)))
  replace r6 := r6.kept k34 (.inr (.inr (Nat.le_refl 0)))
  replace r7 := r7.kept k34 (.inr (.inr (Nat.le_refl 0)))
  replace r8 := r8.kept k34 (.inr (.inr (Nat.le_refl 0)))
  replace ca0 := k34.cell0 ca0
  replace ca1 := k34.cell0 ca1
  replace ca2 := k34.cell0 ca2
  replace cb0 := k34.cell0 cb0
  replace cb1 := k34.cell0 cb1
  replace cb2 := k34.cell0 cb2
  replace cc0 := k34.cell0 cc0
  replace cc1 := k34.cell0 cc1
  replace cc2 := k34.cell0 cc2
  replace cd0 := k34.cell0 cd0
  replace cd1 := k34.cell0 cd1
  replace cd2 := k34.cell0 cd2
  replace n60 := k34.cell0 n60
  replace n61 := k34.cell0 n61
  replace n62 := k34.cell0 n62
  replace n70 := k34.cell0 n70
  replace n71 := k34.cell0 n71
  replace n72 := k34.cell0 n72
  replace n80 := k34.cell0 n80
  replace n81 := k34.cell0 n81
  replace n82 := k34.cell0 n82
  replace K := hide ((unhide K).trans k34)
  have z35 := k34.size
  clear k34
  clear mk
  obtain ⟨a9, c9, hv⟩ := Row.form' r9
  subst hv
  have kn := (Kept.refl 0 0 w34).alloc (.cells #[.bool PS, .slice a9 PL.length c9, .int .i64 PE] 30)
  have n90 : (w34.alloc (.cells #[.bool PS, .slice a9 PL.length c9, .int .i64 PE] 30)).cell? ⟨w34.heap.size, 0, none⟩ = some (.bool PS) := new_cell2 _ _ _ _ _ _ (by simp) rfl
  have n91 : (w34.alloc (.cells #[.bool PS, .slice a9 PL.length c9, .int .i64 PE] 30)).cell? ⟨w34.heap.size, 1, none⟩ = some (.slice a9 PL.length c9) := new_cell2 _ _ _ _ _ _ (by simp) rfl
  have n92 : (w34.alloc (.cells #[.bool PS, .slice a9 PL.length c9, .int .i64 PE] 30)).cell? ⟨w34.heap.size, 2, none⟩ = some (.int .i64 PE) := new_cell2 _ _ _ _ _ _ (by simp) rfl
  have sz36 : w34.heap.size + 1 ≤ (w34.alloc (.cells #[.bool PS, .slice a9 PL.length c9, .int .i64 PE] 30)).heap.size := by simp
  replace r1 := r1.kept kn (.inr (.inr (Nat.le_refl 0)))
  replace r2 := r2.kept kn (.inr (.inr (Nat.le_refl 0)))
  replace r4 := r4.kept kn (.inr (.inr (Nat.le_refl 0)))
  replace r6 := r6.kept kn (.inr (.inr (Nat.le_refl 0)))
  replace r7 := r7.kept kn (.inr (.inr (Nat.le_refl 0)))
  replace r8 := r8.kept kn (.inr (.inr (Nat.le_refl 0)))
  replace r9 := r9.kept kn (.inr (.inr (Nat.le_refl 0)))
  replace ca0 := kn.cell0 ca0
  replace ca1 := kn.cell0 ca1
  replace ca2 := kn.cell0 ca2
  replace cb0 := kn.cell0 cb0
  replace cb1 := kn.cell0 cb1
  replace cb2 := kn.cell0 cb2
  replace cc0 := kn.cell0 cc0
  replace cc1 := kn.cell0 cc1
  replace cc2 := kn.cell0 cc2
  replace cd0 := kn.cell0 cd0
  replace cd1 := kn.cell0 cd1
  replace cd2 := kn.cell0 cd2
  replace n60 := kn.cell0 n60
  replace n61 := kn.cell0 n61
  replace n62 := kn.cell0 n62
  replace n70 := kn.cell0 n70
  replace n71 := kn.cell0 n71
  replace n72 := kn.cell0 n72
  replace n80 := kn.cell0 n80
  replace n81 := kn.cell0 n81
  replace n82 := kn.cell0 n82
  replace K := hide ((unhide K).trans kn)
  have z37 := kn.size
  clear kn
  go_wp2_with fail
  generalize (w34.alloc (.cells #[.bool PS, .slice a9 PL.length c9, .int .i64 PE] 30)) = wn38 at *
  have eSB : (SB != SB) = false := by cases SB <;> rfl
  have ePB : (PB != PB) = false := by cases PB <;> rfl
  have fSB : (!(SB == SB)) = false := by cases SB <;> rfl
  have fPB : (!(PB == PB)) = false := by cases PB <;> rfl
  go_wp2_with fail
  have mk := sameDy_same SS SE wn38 r6 r7
  refine (mk).mono ?_
  rintro e w39 ⟨rfl, k39⟩
  replace r1 := r1.kept k39 (.inr (.inr (Nat.le_refl 0)))
  replace r2 := r2.kept k39 (.inr (.inr (Nat.le_refl 0)))
  replace r4 := r4.kept k39 (.inr (.inr (Nat.le_refl 0)))
  replace r6 := r6.kept k39 (.inr (.inr (Nat.le_refl 0)))
  replace r7 := r7.kept k39 (.inr (.inr (Nat.le_refl 0)))
  replace r8 := r8.kept k39 (.inr (.inr (Nat.le_refl 0)))
  replace r9 := r9.kept k39 (.inr (.inr (Nat.le_refl 0)))
  replace ca0 := k39.cell0 ca0
  replace ca1 := k39.cell0 ca1
  replace ca2 := k39.cell0 ca2
  replace cb0 := k39.cell0 cb0
  replace cb1 := k39.cell0 cb1
  replace cb2 := k39.cell0 cb2
  replace cc0 := k39.cell0 cc0
  replace cc1 := k39.cell0 cc1
  replace cc2 := k39.cell0 cc2
  replace cd0 := k39.cell0 cd0
  replace cd1 := k39.cell0 cd1
  replace cd2 := k39.cell0 cd2
  replace n60 := k39.cell0 n60
  replace n61 := k39.cell0 n61
  replace n62 := k39.cell0 n62
  replace n70 := k39.cell0 n70
  replace n71 := k39.cell0 n71
  replace n72 := k39.cell0 n72
  replace n80 := k39.cell0 n80
  replace n81 := k39.cell0 n81
  replace n82 := k39.cell0 n82
  replace n90 := k39.cell0 n90
  replace n91 := k39.cell0 n91
  replace n92 := k39.cell0 n92
  replace K := hide ((unhide K).trans k39)
  have z40 := k39.size
  clear k39
  clear mk
  go_wp2_with fail
  have mk := sameDy_same PS PE w39 r8 r9
  refine (mk).mono ?_
  rintro e w41 ⟨rfl, k41⟩
  replace r1 := r1.kept k41 (.inr (.inr (Nat.le_refl 0)))
  replace r2 := r2.kept k41 (.inr (.inr (Nat.le_refl 0)))
  replace r4 := r4.kept k41 (.inr (.inr (Nat.le_refl 0)))
  replace r6 := r6.kept k41 (.inr (.inr (Nat.le_refl 0)))
  replace r7 := r7.kept k41 (.inr (.inr (Nat.le_refl 0)))
  replace r8 := r8.kept k41 (.inr (.inr (Nat.le_refl 0)))
  replace r9 := r9.kept k41 (.inr (.inr (Nat.le_refl 0)))
  replace ca0 := k41.cell0 ca0
  replace ca1 := k41.cell0 ca1
  replace ca2 := k41.cell0 ca2
  replace cb0 := k41.cell0 cb0
  replace cb1 := k41.cell0 cb1
  replace cb2 := k41.cell0 cb2
  replace cc0 := k41.cell0 cc0
  replace cc1 := k41.cell0 cc1
  replace cc2 := k41.cell0 cc2
  replace cd0 := k41.cell0 cd0
  replace cd1 := k41.cell0 cd1
  replace cd2 := k41.cell0 cd2
  replace n60 := k41.cell0 n60
  replace n61 := k41.cell0 n61
  replace n62 := k41.cell0 n62
  replace n70 := k41.cell0 n70
  replace n71 := k41.cell0 n71
  replace n72 := k41.cell0 n72
  replace n80 := k41.cell0 n80
  replace n81 := k41.cell0 n81
  replace n82 := k41.cell0 n82
  replace n90 := k41.cell0 n90
  replace n91 := k41.cell0 n91
  replace n92 := k41.cell0 n92
  replace K := hide ((unhide K).trans k41)
  have z42 := k41.size
  clear k41
  clear mk
  go_wp2_with fail
  clear r7 r8 r9
  clear eSB ePB fSB fPB
  have mo := dok_spec s1 x1 (by omega) (by omega) w41 r1
  refine (mo).mono ?_
  rintro e w43 ⟨rfl, k43⟩
  replace r1 := r1.kept k43 (.inr (.inr (Nat.le_refl 0)))
  replace r2 := r2.kept k43 (.inr (.inr (Nat.le_refl 0)))
  replace r4 := r4.kept k43 (.inr (.inr (Nat.le_refl 0)))
  replace r6 := r6.kept k43 (.inr (.inr (Nat.le_refl 0)))
  replace ca0 := k43.cell0 ca0
  replace ca1 := k43.cell0 ca1
  replace ca2 := k43.cell0 ca2
  replace cb0 := k43.cell0 cb0
  replace cb1 := k43.cell0 cb1
  replace cb2 := k43.cell0 cb2
  replace cc0 := k43.cell0 cc0
  replace cc1 := k43.cell0 cc1
  replace cc2 := k43.cell0 cc2
  replace cd0 := k43.cell0 cd0
  replace cd1 := k43.cell0 cd1
  replace cd2 := k43.cell0 cd2
  replace n60 := k43.cell0 n60
  replace n61 := k43.cell0 n61
  replace n62 := k43.cell0 n62
  replace n70 := k43.cell0 n70
  replace n71 := k43.cell0 n71
  replace n72 := k43.cell0 n72
  replace n80 := k43.cell0 n80
  replace n81 := k43.cell0 n81
  replace n82 := k43.cell0 n82
  replace n90 := k43.cell0 n90
  replace n91 := k43.cell0 n91
  replace n92 := k43.cell0 n92
  replace K := hide ((unhide K).trans k43)
  have z44 := k43.size
  clear k43
  clear mo
  cases ho1 : dokB s1 xs x1
  · have hs : SB = false := by rw [← (unhide HS).1, ho1]; simp [ansDB]
    subst hs
    clear ho1
    go_wp2_with fail
    have mo := wOf_spec 4 (by decide) (by decide) w43
    rw [show wsg 4 = false by decide, show wlm 4 = [4] by decide] at mo
    refine (mo).mono ?_
    rintro e w45 ⟨vi, rfl, ri, k45⟩
    replace r1 := r1.kept k45 (.inr (.inr (Nat.le_refl 0)))
    replace r2 := r2.kept k45 (.inr (.inr (Nat.le_refl 0)))
    replace r4 := r4.kept k45 (.inr (.inr (Nat.le_refl 0)))
    replace r6 := r6.kept k45 (.inr (.inr (Nat.le_refl 0)))
    replace ca0 := k45.cell0 ca0
    replace ca1 := k45.cell0 ca1
    replace ca2 := k45.cell0 ca2
    replace cb0 := k45.cell0 cb0
    replace cb1 := k45.cell0 cb1
    replace cb2 := k45.cell0 cb2
    replace cc0 := k45.cell0 cc0
    replace cc1 := k45.cell0 cc1
    replace cc2 := k45.cell0 cc2
    replace cd0 := k45.cell0 cd0
    replace cd1 := k45.cell0 cd1
    replace cd2 := k45.cell0 cd2
    replace n60 := k45.cell0 n60
    replace n61 := k45.cell0 n61
    replace n62 := k45.cell0 n62
    replace n70 := k45.cell0 n70
    replace n71 := k45.cell0 n71
    replace n72 := k45.cell0 n72
    replace n80 := k45.cell0 n80
    replace n81 := k45.cell0 n81
    replace n82 := k45.cell0 n82
    replace n90 := k45.cell0 n90
    replace n91 := k45.cell0 n91
    replace n92 := k45.cell0 n92
    replace K := hide ((unhide K).trans k45)
    have z46 := k45.size
    clear k45
    clear mo
    go_wp2_with fail
    have mo := dof_impl false (-1) w45 ri ((unhide HT).kept (unhide K))
    rw [four_small.1, four_small.2.1, four_small.2.2.1, four_small.2.2.2] at mo
    refine (mo).mono ?_
    rintro e w47 ⟨vj, rfl, rj, k47⟩
    replace r1 := r1.kept k47 (.inr (.inr (Nat.le_refl 0)))
    replace r2 := r2.kept k47 (.inr (.inr (Nat.le_refl 0)))
    replace r4 := r4.kept k47 (.inr (.inr (Nat.le_refl 0)))
    replace r6 := r6.kept k47 (.inr (.inr (Nat.le_refl 0)))
    replace ri := ri.kept k47 (.inr (.inr (Nat.le_refl 0)))
    replace ca0 := k47.cell0 ca0
    replace ca1 := k47.cell0 ca1
    replace ca2 := k47.cell0 ca2
    replace cb0 := k47.cell0 cb0
    replace cb1 := k47.cell0 cb1
    replace cb2 := k47.cell0 cb2
    replace cc0 := k47.cell0 cc0
    replace cc1 := k47.cell0 cc1
    replace cc2 := k47.cell0 cc2
    replace cd0 := k47.cell0 cd0
    replace cd1 := k47.cell0 cd1
    replace cd2 := k47.cell0 cd2
    replace n60 := k47.cell0 n60
    replace n61 := k47.cell0 n61
    replace n62 := k47.cell0 n62
    replace n70 := k47.cell0 n70
    replace n71 := k47.cell0 n71
    replace n72 := k47.cell0 n72
    replace n80 := k47.cell0 n80
    replace n81 := k47.cell0 n81
    replace n82 := k47.cell0 n82
    replace n90 := k47.cell0 n90
    replace n91 := k47.cell0 n91
    replace n92 := k47.cell0 n92
    replace K := hide ((unhide K).trans k47)
    have z48 := k47.size
    clear k47
    clear mo
    obtain ⟨aj, cj, hv⟩ := Row.form' rj
    subst hv
    have kn := (Kept.refl 0 0 w47).alloc (.cells #[.bool false, .slice aj 1 cj, .int .i64 1] 30)
    have cj0 : (w47.alloc (.cells #[.bool false, .slice aj 1 cj, .int .i64 1] 30)).cell? ⟨w47.heap.size, 0, none⟩ = some (.bool false) := new_cell2 _ _ _ _ _ _ (by simp) rfl
    have cj1 : (w47.alloc (.cells #[.bool false, .slice aj 1 cj, .int .i64 1] 30)).cell? ⟨w47.heap.size, 1, none⟩ = some (.slice aj 1 cj) := new_cell2 _ _ _ _ _ _ (by simp) rfl
    have cj2 : (w47.alloc (.cells #[.bool false, .slice aj 1 cj, .int .i64 1] 30)).cell? ⟨w47.heap.size, 2, none⟩ = some (.int .i64 1) := new_cell2 _ _ _ _ _ _ (by simp) rfl
    replace r1 := r1.kept kn (.inr (.inr (Nat.le_refl 0)))
    replace r2 := r2.kept kn (.inr (.inr (Nat.le_refl 0)))
    replace r4 := r4.kept kn (.inr (.inr (Nat.le_refl 0)))
    replace r6 := r6.kept kn (.inr (.inr (Nat.le_refl 0)))
    replace ri := ri.kept kn (.inr (.inr (Nat.le_refl 0)))
    replace rj := rj.kept kn (.inr (.inr (Nat.le_refl 0)))
    replace ca0 := kn.cell0 ca0
    replace ca1 := kn.cell0 ca1
    replace ca2 := kn.cell0 ca2
    replace cb0 := kn.cell0 cb0
    replace cb1 := kn.cell0 cb1
    replace cb2 := kn.cell0 cb2
    replace cc0 := kn.cell0 cc0
    replace cc1 := kn.cell0 cc1
    replace cc2 := kn.cell0 cc2
    replace cd0 := kn.cell0 cd0
    replace cd1 := kn.cell0 cd1
    replace cd2 := kn.cell0 cd2
    replace n60 := kn.cell0 n60
    replace n61 := kn.cell0 n61
    replace n62 := kn.cell0 n62
    replace n70 := kn.cell0 n70
    replace n71 := kn.cell0 n71
    replace n72 := kn.cell0 n72
    replace n80 := kn.cell0 n80
    replace n81 := kn.cell0 n81
    replace n82 := kn.cell0 n82
    replace n90 := kn.cell0 n90
    replace n91 := kn.cell0 n91
    replace n92 := kn.cell0 n92
    replace K := hide ((unhide K).trans kn)
    have z50 := kn.size
    clear kn
    go_upto_region 13 with fail
    generalize (w47.alloc (.cells #[.bool false, .slice aj 1 cj, .int .i64 1] 30)) = wn51 at *
    have kd := (Kept.refl 0 0 wn51).drew
    replace r1 := r1.kept kd (.inr (.inr (Nat.le_refl 0)))
    replace r2 := r2.kept kd (.inr (.inr (Nat.le_refl 0)))
    replace r4 := r4.kept kd (.inr (.inr (Nat.le_refl 0)))
    replace r6 := r6.kept kd (.inr (.inr (Nat.le_refl 0)))
    replace ri := ri.kept kd (.inr (.inr (Nat.le_refl 0)))
    replace rj := rj.kept kd (.inr (.inr (Nat.le_refl 0)))
    replace ca0 := kd.cell0 ca0
    replace ca1 := kd.cell0 ca1
    replace ca2 := kd.cell0 ca2
    replace cb0 := kd.cell0 cb0
    replace cb1 := kd.cell0 cb1
    replace cb2 := kd.cell0 cb2
    replace cc0 := kd.cell0 cc0
    replace cc1 := kd.cell0 cc1
    replace cc2 := kd.cell0 cc2
    replace cd0 := kd.cell0 cd0
    replace cd1 := kd.cell0 cd1
    replace cd2 := kd.cell0 cd2
    replace n60 := kd.cell0 n60
    replace n61 := kd.cell0 n61
    replace n62 := kd.cell0 n62
    replace n70 := kd.cell0 n70
    replace n71 := kd.cell0 n71
    replace n72 := kd.cell0 n72
    replace n80 := kd.cell0 n80
    replace n81 := kd.cell0 n81
    replace n82 := kd.cell0 n82
    replace n90 := kd.cell0 n90
    replace n91 := kd.cell0 n91
    replace n92 := kd.cell0 n92
    replace cj0 := kd.cell0 cj0
    replace cj1 := kd.cell0 cj1
    replace cj2 := kd.cell0 cj2
    replace K := hide ((unhide K).trans kd)
    have z52 := kd.size
    clear kd
    refine wp_region_held_drew (S := (fun w' => w'.cell? ⟨w47.heap.size, 0, none⟩ = some (.bool false) ∧ w'.cell? ⟨w47.heap.size, 1, none⟩ = some (.slice aj 1 cj) ∧ w'.cell? ⟨w47.heap.size, 2, none⟩ = some (.int .i64 1))) (by kernel_rfl) ?_ (fun hHeld => ?_)
    · exact ⟨cj0, cj1, cj2⟩
    refine wpAnyH_take (i := 0) (oi := _) (v := .bool false) rfl (by kernel_rfl) (by kernel_rfl) (by kernel_rfl) (fun _ _ _ h => h) (Or.inl ⟨by rfl, ?_⟩) hHeld ?_
    · intro wq hSw
      try dsimp only at hSw
      go_simp
    try simp only [Act.put, List.getElem_toArray, List.getElem_cons_succ, List.getElem_cons_zero, List.setIfInBounds_toArray, List.set_cons_zero, List.set_cons_succ]
    refine wpAnyH_take (i := 1) (oi := _) (v := .bool true) rfl (by kernel_rfl) (by kernel_rfl) (by kernel_rfl) (fun _ _ _ h => h) (Or.inl ⟨by rfl, ?_⟩) hHeld ?_
    · intro wq hSw
      try dsimp only at hSw
      go_simp
    try simp only [Act.put, List.getElem_toArray, List.getElem_cons_succ, List.getElem_cons_zero, List.setIfInBounds_toArray, List.set_cons_zero, List.set_cons_succ]
    refine wpAnyH_take (i := 2) (oi := _) (v := .bool true) rfl (by kernel_rfl) (by kernel_rfl) (by kernel_rfl) (fun _ _ _ h => h) (Or.inl ⟨by rfl, ?_⟩) hHeld ?_
    · intro wq hSw
      try dsimp only at hSw
      go_simp
    try simp only [Act.put, List.getElem_toArray, List.getElem_cons_succ, List.getElem_cons_zero, List.setIfInBounds_toArray, List.set_cons_zero, List.set_cons_succ]
    refine wpAnyH_take (i := 3) (oi := _) (v := .bool true) rfl (by kernel_rfl) (by kernel_rfl) (by kernel_rfl) (fun _ _ _ h => h) (Or.inl ⟨by rfl, ?_⟩) hHeld ?_
    · intro wq hSw
      try dsimp only at hSw
      go_simp
    try simp only [Act.put, List.getElem_toArray, List.getElem_cons_succ, List.getElem_cons_zero, List.setIfInBounds_toArray, List.set_cons_zero, List.set_cons_succ]
    refine wpAnyH_take (i := 4) (oi := _) (v := .bool true) rfl (by kernel_rfl) (by kernel_rfl) (by kernel_rfl) (fun _ _ _ h => h) (Or.inl ⟨by rfl, ?_⟩) hHeld ?_
    · intro wq hSw
      try dsimp only at hSw
      go_simp
    try simp only [Act.put, List.getElem_toArray, List.getElem_cons_succ, List.getElem_cons_zero, List.setIfInBounds_toArray, List.set_cons_zero, List.set_cons_succ]
    refine wpAnyH_take (i := 5) (oi := _) (v := .bool true) rfl (by kernel_rfl) (by kernel_rfl) (by kernel_rfl) (fun _ _ _ h => h) (Or.inl ⟨by rfl, ?_⟩) hHeld ?_
    · intro wq hSw
      try dsimp only at hSw
      go_simp
    try simp only [Act.put, List.getElem_toArray, List.getElem_cons_succ, List.getElem_cons_zero, List.setIfInBounds_toArray, List.set_cons_zero, List.set_cons_succ]
    refine wpAnyH_take (i := 6) (oi := _) (v := .agg #[.bool false, .slice aj 1 cj, .int .i64 1]) rfl (by kernel_rfl) (by kernel_rfl) (by kernel_rfl) (fun _ _ _ h => h) (Or.inl ⟨by rfl, ?_⟩) hHeld ?_
    · intro wq hSw
      try dsimp only at hSw
      go_simp
    try simp only [Act.put, List.getElem_toArray, List.getElem_cons_succ, List.getElem_cons_zero, List.setIfInBounds_toArray, List.set_cons_zero, List.set_cons_succ]
    refine wpAnyH_ready (rs := [7]) (by kernel_rfl) (by simp) ?_
    refine AllReadyH.cons rfl (fun KK hK => ?_) AllReadyH.nil
    simp only [List.getElem_toArray, List.getElem_cons_succ, List.getElem_cons_zero]
    rw [if_pos (by rfl)]
    refine wps2 13 (.const (.int .i64 1)) (.const (.int .i64 1)) _ rfl in_dy_c (.int .i64 1) (.int .i64 1) rfl rfl (dy_one 1 (.inr (.inr rfl)) _) ?_
    rintro e w53 ⟨vl, rfl, rl, k53⟩
    refine ⟨_, rfl, ?_⟩
    replace r1 := r1.kept k53 (.inr (.inr (Nat.le_refl 0)))
    replace r2 := r2.kept k53 (.inr (.inr (Nat.le_refl 0)))
    replace r4 := r4.kept k53 (.inr (.inr (Nat.le_refl 0)))
    replace r6 := r6.kept k53 (.inr (.inr (Nat.le_refl 0)))
    replace ri := ri.kept k53 (.inr (.inr (Nat.le_refl 0)))
    replace rj := rj.kept k53 (.inr (.inr (Nat.le_refl 0)))
    replace ca0 := k53.cell0 ca0
    replace ca1 := k53.cell0 ca1
    replace ca2 := k53.cell0 ca2
    replace cb0 := k53.cell0 cb0
    replace cb1 := k53.cell0 cb1
    replace cb2 := k53.cell0 cb2
    replace cc0 := k53.cell0 cc0
    replace cc1 := k53.cell0 cc1
    replace cc2 := k53.cell0 cc2
    replace cd0 := k53.cell0 cd0
    replace cd1 := k53.cell0 cd1
    replace cd2 := k53.cell0 cd2
    replace n60 := k53.cell0 n60
    replace n61 := k53.cell0 n61
    replace n62 := k53.cell0 n62
    replace n70 := k53.cell0 n70
    replace n71 := k53.cell0 n71
    replace n72 := k53.cell0 n72
    replace n80 := k53.cell0 n80
    replace n81 := k53.cell0 n81
    replace n82 := k53.cell0 n82
    replace n90 := k53.cell0 n90
    replace n91 := k53.cell0 n91
    replace n92 := k53.cell0 n92
    replace cj0 := k53.cell0 cj0
    replace cj1 := k53.cell0 cj1
    replace cj2 := k53.cell0 cj2
    replace K := hide ((unhide K).trans k53)
    have z54 := k53.size
    clear k53
    clear hHeld
    refine hK.out _ _ ?_ (fun hHeld => ?_)
    · exact ⟨cj0, cj1, cj2⟩
    clear hK KK
    try simp only [Act.put, List.getElem_toArray, List.getElem_cons_succ, List.getElem_cons_zero, List.setIfInBounds_toArray, List.set_cons_zero, List.set_cons_succ]
    obtain ⟨al, cl, hv⟩ := Row.form' rl
    subst hv
    refine wpAnyH_ready (rs := [8]) (by kernel_rfl) (by simp) ?_
    refine AllReadyH.cons rfl (fun KK hK => ?_) AllReadyH.nil
    simp only [List.getElem_toArray, List.getElem_cons_succ, List.getElem_cons_zero]
    rw [if_pos (by rfl)]
    refine wps2 9 (.tmp 103) (.tmp 104) _ rfl in_sameDy_c (.agg #[.bool false, .slice aj 1 cj, .int .i64 1]) (.agg #[.bool false, .slice al [(1 : Int)].length cl, .int .i64 1]) rfl rfl (sameDy_same false 1 _ rj rl) ?_
    rintro e w55 ⟨rfl, k55⟩
    refine ⟨_, rfl, ?_⟩
    replace r1 := r1.kept k55 (.inr (.inr (Nat.le_refl 0)))
    replace r2 := r2.kept k55 (.inr (.inr (Nat.le_refl 0)))
    replace r4 := r4.kept k55 (.inr (.inr (Nat.le_refl 0)))
    replace r6 := r6.kept k55 (.inr (.inr (Nat.le_refl 0)))
    replace ri := ri.kept k55 (.inr (.inr (Nat.le_refl 0)))
    replace rj := rj.kept k55 (.inr (.inr (Nat.le_refl 0)))
    replace rl := rl.kept k55 (.inr (.inr (Nat.le_refl 0)))
    replace ca0 := k55.cell0 ca0
    replace ca1 := k55.cell0 ca1
    replace ca2 := k55.cell0 ca2
    replace cb0 := k55.cell0 cb0
    replace cb1 := k55.cell0 cb1
    replace cb2 := k55.cell0 cb2
    replace cc0 := k55.cell0 cc0
    replace cc1 := k55.cell0 cc1
    replace cc2 := k55.cell0 cc2
    replace cd0 := k55.cell0 cd0
    replace cd1 := k55.cell0 cd1
    replace cd2 := k55.cell0 cd2
    replace n60 := k55.cell0 n60
    replace n61 := k55.cell0 n61
    replace n62 := k55.cell0 n62
    replace n70 := k55.cell0 n70
    replace n71 := k55.cell0 n71
    replace n72 := k55.cell0 n72
    replace n80 := k55.cell0 n80
    replace n81 := k55.cell0 n81
    replace n82 := k55.cell0 n82
    replace n90 := k55.cell0 n90
    replace n91 := k55.cell0 n91
    replace n92 := k55.cell0 n92
    replace cj0 := k55.cell0 cj0
    replace cj1 := k55.cell0 cj1
    replace cj2 := k55.cell0 cj2
    replace K := hide ((unhide K).trans k55)
    have z56 := k55.size
    clear k55
    clear hHeld
    refine hK.out _ _ ?_ (fun hHeld => ?_)
    · exact ⟨cj0, cj1, cj2⟩
    clear hK KK
    try simp only [Act.put, List.getElem_toArray, List.getElem_cons_succ, List.getElem_cons_zero, List.setIfInBounds_toArray, List.set_cons_zero, List.set_cons_succ]
    refine wpAnyH_take (i := 9) (oi := _) (v := .bool true) rfl (by kernel_rfl) (by kernel_rfl) (by kernel_rfl) (fun _ _ _ h => h) (Or.inl ⟨by rfl, ?_⟩) hHeld ?_
    · intro wq hSw
      try dsimp only at hSw
      go_simp
    try simp only [Act.put, List.getElem_toArray, List.getElem_cons_succ, List.getElem_cons_zero, List.setIfInBounds_toArray, List.set_cons_zero, List.set_cons_succ]
    refine wpAnyH_take (i := 10) (oi := _) (v := .bool true) rfl (by kernel_rfl) (by kernel_rfl) (by kernel_rfl) (fun _ _ _ h => h) (Or.inl ⟨by rfl, ?_⟩) hHeld ?_
    · intro wq hSw
      try dsimp only at hSw
      go_simp
    try simp only [Act.put, List.getElem_toArray, List.getElem_cons_succ, List.getElem_cons_zero, List.setIfInBounds_toArray, List.set_cons_zero, List.set_cons_succ]
    refine wpAnyH_done (by kernel_rfl) ?_ _
    clear hHeld
    try go_wp2_with fail
    go_ret
    exact ⟨rfl, (unhide K).toBelow⟩
  have HO1 := hide ho1
  clear ho1
  go_wp2_with fail
  have mo := dok_spec s2 x2 (by omega) (by omega) w43 r2
  refine (mo).mono ?_
  rintro e w45 ⟨rfl, k45⟩
  replace r1 := r1.kept k45 (.inr (.inr (Nat.le_refl 0)))
  replace r2 := r2.kept k45 (.inr (.inr (Nat.le_refl 0)))
  replace r4 := r4.kept k45 (.inr (.inr (Nat.le_refl 0)))
  replace r6 := r6.kept k45 (.inr (.inr (Nat.le_refl 0)))
  replace ca0 := k45.cell0 ca0
  replace ca1 := k45.cell0 ca1
  replace ca2 := k45.cell0 ca2
  replace cb0 := k45.cell0 cb0
  replace cb1 := k45.cell0 cb1
  replace cb2 := k45.cell0 cb2
  replace cc0 := k45.cell0 cc0
  replace cc1 := k45.cell0 cc1
  replace cc2 := k45.cell0 cc2
  replace cd0 := k45.cell0 cd0
  replace cd1 := k45.cell0 cd1
  replace cd2 := k45.cell0 cd2
  replace n60 := k45.cell0 n60
  replace n61 := k45.cell0 n61
  replace n62 := k45.cell0 n62
  replace n70 := k45.cell0 n70
  replace n71 := k45.cell0 n71
  replace n72 := k45.cell0 n72
  replace n80 := k45.cell0 n80
  replace n81 := k45.cell0 n81
  replace n82 := k45.cell0 n82
  replace n90 := k45.cell0 n90
  replace n91 := k45.cell0 n91
  replace n92 := k45.cell0 n92
  replace K := hide ((unhide K).trans k45)
  have z46 := k45.size
  clear k45
  clear mo
  cases ho2 : dokB s2 ys x2
  · have hs : SB = false := by rw [← (unhide HS).1, ho2]; simp [ansDB]
    subst hs
    clear ho2
    go_wp2_with fail
    have mo := wOf_spec 4 (by decide) (by decide) w45
    rw [show wsg 4 = false by decide, show wlm 4 = [4] by decide] at mo
    refine (mo).mono ?_
    rintro e w47 ⟨vi, rfl, ri, k47⟩
    replace r1 := r1.kept k47 (.inr (.inr (Nat.le_refl 0)))
    replace r2 := r2.kept k47 (.inr (.inr (Nat.le_refl 0)))
    replace r4 := r4.kept k47 (.inr (.inr (Nat.le_refl 0)))
    replace r6 := r6.kept k47 (.inr (.inr (Nat.le_refl 0)))
    replace ca0 := k47.cell0 ca0
    replace ca1 := k47.cell0 ca1
    replace ca2 := k47.cell0 ca2
    replace cb0 := k47.cell0 cb0
    replace cb1 := k47.cell0 cb1
    replace cb2 := k47.cell0 cb2
    replace cc0 := k47.cell0 cc0
    replace cc1 := k47.cell0 cc1
    replace cc2 := k47.cell0 cc2
    replace cd0 := k47.cell0 cd0
    replace cd1 := k47.cell0 cd1
    replace cd2 := k47.cell0 cd2
    replace n60 := k47.cell0 n60
    replace n61 := k47.cell0 n61
    replace n62 := k47.cell0 n62
    replace n70 := k47.cell0 n70
    replace n71 := k47.cell0 n71
    replace n72 := k47.cell0 n72
    replace n80 := k47.cell0 n80
    replace n81 := k47.cell0 n81
    replace n82 := k47.cell0 n82
    replace n90 := k47.cell0 n90
    replace n91 := k47.cell0 n91
    replace n92 := k47.cell0 n92
    replace K := hide ((unhide K).trans k47)
    have z48 := k47.size
    clear k47
    clear mo
    go_wp2_with fail
    have mo := dof_impl false (-1) w47 ri ((unhide HT).kept (unhide K))
    rw [four_small.1, four_small.2.1, four_small.2.2.1, four_small.2.2.2] at mo
    refine (mo).mono ?_
    rintro e w49 ⟨vj, rfl, rj, k49⟩
    replace r1 := r1.kept k49 (.inr (.inr (Nat.le_refl 0)))
    replace r2 := r2.kept k49 (.inr (.inr (Nat.le_refl 0)))
    replace r4 := r4.kept k49 (.inr (.inr (Nat.le_refl 0)))
    replace r6 := r6.kept k49 (.inr (.inr (Nat.le_refl 0)))
    replace ri := ri.kept k49 (.inr (.inr (Nat.le_refl 0)))
    replace ca0 := k49.cell0 ca0
    replace ca1 := k49.cell0 ca1
    replace ca2 := k49.cell0 ca2
    replace cb0 := k49.cell0 cb0
    replace cb1 := k49.cell0 cb1
    replace cb2 := k49.cell0 cb2
    replace cc0 := k49.cell0 cc0
    replace cc1 := k49.cell0 cc1
    replace cc2 := k49.cell0 cc2
    replace cd0 := k49.cell0 cd0
    replace cd1 := k49.cell0 cd1
    replace cd2 := k49.cell0 cd2
    replace n60 := k49.cell0 n60
    replace n61 := k49.cell0 n61
    replace n62 := k49.cell0 n62
    replace n70 := k49.cell0 n70
    replace n71 := k49.cell0 n71
    replace n72 := k49.cell0 n72
    replace n80 := k49.cell0 n80
    replace n81 := k49.cell0 n81
    replace n82 := k49.cell0 n82
    replace n90 := k49.cell0 n90
    replace n91 := k49.cell0 n91
    replace n92 := k49.cell0 n92
    replace K := hide ((unhide K).trans k49)
    have z50 := k49.size
    clear k49
    clear mo
    obtain ⟨aj, cj, hv⟩ := Row.form' rj
    subst hv
    have kn := (Kept.refl 0 0 w49).alloc (.cells #[.bool false, .slice aj 1 cj, .int .i64 1] 30)
    have cj0 : (w49.alloc (.cells #[.bool false, .slice aj 1 cj, .int .i64 1] 30)).cell? ⟨w49.heap.size, 0, none⟩ = some (.bool false) := new_cell2 _ _ _ _ _ _ (by simp) rfl
    have cj1 : (w49.alloc (.cells #[.bool false, .slice aj 1 cj, .int .i64 1] 30)).cell? ⟨w49.heap.size, 1, none⟩ = some (.slice aj 1 cj) := new_cell2 _ _ _ _ _ _ (by simp) rfl
    have cj2 : (w49.alloc (.cells #[.bool false, .slice aj 1 cj, .int .i64 1] 30)).cell? ⟨w49.heap.size, 2, none⟩ = some (.int .i64 1) := new_cell2 _ _ _ _ _ _ (by simp) rfl
    replace r1 := r1.kept kn (.inr (.inr (Nat.le_refl 0)))
    replace r2 := r2.kept kn (.inr (.inr (Nat.le_refl 0)))
    replace r4 := r4.kept kn (.inr (.inr (Nat.le_refl 0)))
    replace r6 := r6.kept kn (.inr (.inr (Nat.le_refl 0)))
    replace ri := ri.kept kn (.inr (.inr (Nat.le_refl 0)))
    replace rj := rj.kept kn (.inr (.inr (Nat.le_refl 0)))
    replace ca0 := kn.cell0 ca0
    replace ca1 := kn.cell0 ca1
    replace ca2 := kn.cell0 ca2
    replace cb0 := kn.cell0 cb0
    replace cb1 := kn.cell0 cb1
    replace cb2 := kn.cell0 cb2
    replace cc0 := kn.cell0 cc0
    replace cc1 := kn.cell0 cc1
    replace cc2 := kn.cell0 cc2
    replace cd0 := kn.cell0 cd0
    replace cd1 := kn.cell0 cd1
    replace cd2 := kn.cell0 cd2
    replace n60 := kn.cell0 n60
    replace n61 := kn.cell0 n61
    replace n62 := kn.cell0 n62
    replace n70 := kn.cell0 n70
    replace n71 := kn.cell0 n71
    replace n72 := kn.cell0 n72
    replace n80 := kn.cell0 n80
    replace n81 := kn.cell0 n81
    replace n82 := kn.cell0 n82
    replace n90 := kn.cell0 n90
    replace n91 := kn.cell0 n91
    replace n92 := kn.cell0 n92
    replace K := hide ((unhide K).trans kn)
    have z52 := kn.size
    clear kn
    go_upto_region 13 with fail
    generalize (w49.alloc (.cells #[.bool false, .slice aj 1 cj, .int .i64 1] 30)) = wn53 at *
    have kd := (Kept.refl 0 0 wn53).drew
    replace r1 := r1.kept kd (.inr (.inr (Nat.le_refl 0)))
    replace r2 := r2.kept kd (.inr (.inr (Nat.le_refl 0)))
    replace r4 := r4.kept kd (.inr (.inr (Nat.le_refl 0)))
    replace r6 := r6.kept kd (.inr (.inr (Nat.le_refl 0)))
    replace ri := ri.kept kd (.inr (.inr (Nat.le_refl 0)))
    replace rj := rj.kept kd (.inr (.inr (Nat.le_refl 0)))
    replace ca0 := kd.cell0 ca0
    replace ca1 := kd.cell0 ca1
    replace ca2 := kd.cell0 ca2
    replace cb0 := kd.cell0 cb0
    replace cb1 := kd.cell0 cb1
    replace cb2 := kd.cell0 cb2
    replace cc0 := kd.cell0 cc0
    replace cc1 := kd.cell0 cc1
    replace cc2 := kd.cell0 cc2
    replace cd0 := kd.cell0 cd0
    replace cd1 := kd.cell0 cd1
    replace cd2 := kd.cell0 cd2
    replace n60 := kd.cell0 n60
    replace n61 := kd.cell0 n61
    replace n62 := kd.cell0 n62
    replace n70 := kd.cell0 n70
    replace n71 := kd.cell0 n71
    replace n72 := kd.cell0 n72
    replace n80 := kd.cell0 n80
    replace n81 := kd.cell0 n81
    replace n82 := kd.cell0 n82
    replace n90 := kd.cell0 n90
    replace n91 := kd.cell0 n91
    replace n92 := kd.cell0 n92
    replace cj0 := kd.cell0 cj0
    replace cj1 := kd.cell0 cj1
    replace cj2 := kd.cell0 cj2
    replace K := hide ((unhide K).trans kd)
    have z54 := kd.size
    clear kd
    refine wp_region_held_drew (S := (fun w' => w'.cell? ⟨w49.heap.size, 0, none⟩ = some (.bool false) ∧ w'.cell? ⟨w49.heap.size, 1, none⟩ = some (.slice aj 1 cj) ∧ w'.cell? ⟨w49.heap.size, 2, none⟩ = some (.int .i64 1))) (by kernel_rfl) ?_ (fun hHeld => ?_)
    · exact ⟨cj0, cj1, cj2⟩
    refine wpAnyH_take (i := 0) (oi := _) (v := .bool false) rfl (by kernel_rfl) (by kernel_rfl) (by kernel_rfl) (fun _ _ _ h => h) (Or.inl ⟨by rfl, ?_⟩) hHeld ?_
    · intro wq hSw
      try dsimp only at hSw
      go_simp
    try simp only [Act.put, List.getElem_toArray, List.getElem_cons_succ, List.getElem_cons_zero, List.setIfInBounds_toArray, List.set_cons_zero, List.set_cons_succ]
    refine wpAnyH_take (i := 1) (oi := _) (v := .bool true) rfl (by kernel_rfl) (by kernel_rfl) (by kernel_rfl) (fun _ _ _ h => h) (Or.inl ⟨by rfl, ?_⟩) hHeld ?_
    · intro wq hSw
      try dsimp only at hSw
      go_simp
    try simp only [Act.put, List.getElem_toArray, List.getElem_cons_succ, List.getElem_cons_zero, List.setIfInBounds_toArray, List.set_cons_zero, List.set_cons_succ]
    refine wpAnyH_take (i := 2) (oi := _) (v := .bool true) rfl (by kernel_rfl) (by kernel_rfl) (by kernel_rfl) (fun _ _ _ h => h) (Or.inl ⟨by rfl, ?_⟩) hHeld ?_
    · intro wq hSw
      try dsimp only at hSw
      go_simp
    try simp only [Act.put, List.getElem_toArray, List.getElem_cons_succ, List.getElem_cons_zero, List.setIfInBounds_toArray, List.set_cons_zero, List.set_cons_succ]
    refine wpAnyH_take (i := 3) (oi := _) (v := .bool true) rfl (by kernel_rfl) (by kernel_rfl) (by kernel_rfl) (fun _ _ _ h => h) (Or.inl ⟨by rfl, ?_⟩) hHeld ?_
    · intro wq hSw
      try dsimp only at hSw
      go_simp
    try simp only [Act.put, List.getElem_toArray, List.getElem_cons_succ, List.getElem_cons_zero, List.setIfInBounds_toArray, List.set_cons_zero, List.set_cons_succ]
    refine wpAnyH_take (i := 4) (oi := _) (v := .bool true) rfl (by kernel_rfl) (by kernel_rfl) (by kernel_rfl) (fun _ _ _ h => h) (Or.inl ⟨by rfl, ?_⟩) hHeld ?_
    · intro wq hSw
      try dsimp only at hSw
      go_simp
    try simp only [Act.put, List.getElem_toArray, List.getElem_cons_succ, List.getElem_cons_zero, List.setIfInBounds_toArray, List.set_cons_zero, List.set_cons_succ]
    refine wpAnyH_take (i := 5) (oi := _) (v := .bool true) rfl (by kernel_rfl) (by kernel_rfl) (by kernel_rfl) (fun _ _ _ h => h) (Or.inl ⟨by rfl, ?_⟩) hHeld ?_
    · intro wq hSw
      try dsimp only at hSw
      go_simp
    try simp only [Act.put, List.getElem_toArray, List.getElem_cons_succ, List.getElem_cons_zero, List.setIfInBounds_toArray, List.set_cons_zero, List.set_cons_succ]
    refine wpAnyH_take (i := 6) (oi := _) (v := .agg #[.bool false, .slice aj 1 cj, .int .i64 1]) rfl (by kernel_rfl) (by kernel_rfl) (by kernel_rfl) (fun _ _ _ h => h) (Or.inl ⟨by rfl, ?_⟩) hHeld ?_
    · intro wq hSw
      try dsimp only at hSw
      go_simp
    try simp only [Act.put, List.getElem_toArray, List.getElem_cons_succ, List.getElem_cons_zero, List.setIfInBounds_toArray, List.set_cons_zero, List.set_cons_succ]
    refine wpAnyH_ready (rs := [7]) (by kernel_rfl) (by simp) ?_
    refine AllReadyH.cons rfl (fun KK hK => ?_) AllReadyH.nil
    simp only [List.getElem_toArray, List.getElem_cons_succ, List.getElem_cons_zero]
    rw [if_pos (by rfl)]
    refine wps2 13 (.const (.int .i64 1)) (.const (.int .i64 1)) _ rfl in_dy_c (.int .i64 1) (.int .i64 1) rfl rfl (dy_one 1 (.inr (.inr rfl)) _) ?_
    rintro e w55 ⟨vl, rfl, rl, k55⟩
    refine ⟨_, rfl, ?_⟩
    replace r1 := r1.kept k55 (.inr (.inr (Nat.le_refl 0)))
    replace r2 := r2.kept k55 (.inr (.inr (Nat.le_refl 0)))
    replace r4 := r4.kept k55 (.inr (.inr (Nat.le_refl 0)))
    replace r6 := r6.kept k55 (.inr (.inr (Nat.le_refl 0)))
    replace ri := ri.kept k55 (.inr (.inr (Nat.le_refl 0)))
    replace rj := rj.kept k55 (.inr (.inr (Nat.le_refl 0)))
    replace ca0 := k55.cell0 ca0
    replace ca1 := k55.cell0 ca1
    replace ca2 := k55.cell0 ca2
    replace cb0 := k55.cell0 cb0
    replace cb1 := k55.cell0 cb1
    replace cb2 := k55.cell0 cb2
    replace cc0 := k55.cell0 cc0
    replace cc1 := k55.cell0 cc1
    replace cc2 := k55.cell0 cc2
    replace cd0 := k55.cell0 cd0
    replace cd1 := k55.cell0 cd1
    replace cd2 := k55.cell0 cd2
    replace n60 := k55.cell0 n60
    replace n61 := k55.cell0 n61
    replace n62 := k55.cell0 n62
    replace n70 := k55.cell0 n70
    replace n71 := k55.cell0 n71
    replace n72 := k55.cell0 n72
    replace n80 := k55.cell0 n80
    replace n81 := k55.cell0 n81
    replace n82 := k55.cell0 n82
    replace n90 := k55.cell0 n90
    replace n91 := k55.cell0 n91
    replace n92 := k55.cell0 n92
    replace cj0 := k55.cell0 cj0
    replace cj1 := k55.cell0 cj1
    replace cj2 := k55.cell0 cj2
    replace K := hide ((unhide K).trans k55)
    have z56 := k55.size
    clear k55
    clear hHeld
    refine hK.out _ _ ?_ (fun hHeld => ?_)
    · exact ⟨cj0, cj1, cj2⟩
    clear hK KK
    try simp only [Act.put, List.getElem_toArray, List.getElem_cons_succ, List.getElem_cons_zero, List.setIfInBounds_toArray, List.set_cons_zero, List.set_cons_succ]
    obtain ⟨al, cl, hv⟩ := Row.form' rl
    subst hv
    refine wpAnyH_ready (rs := [8]) (by kernel_rfl) (by simp) ?_
    refine AllReadyH.cons rfl (fun KK hK => ?_) AllReadyH.nil
    simp only [List.getElem_toArray, List.getElem_cons_succ, List.getElem_cons_zero]
    rw [if_pos (by rfl)]
    refine wps2 9 (.tmp 103) (.tmp 104) _ rfl in_sameDy_c (.agg #[.bool false, .slice aj 1 cj, .int .i64 1]) (.agg #[.bool false, .slice al [(1 : Int)].length cl, .int .i64 1]) rfl rfl (sameDy_same false 1 _ rj rl) ?_
    rintro e w57 ⟨rfl, k57⟩
    refine ⟨_, rfl, ?_⟩
    replace r1 := r1.kept k57 (.inr (.inr (Nat.le_refl 0)))
    replace r2 := r2.kept k57 (.inr (.inr (Nat.le_refl 0)))
    replace r4 := r4.kept k57 (.inr (.inr (Nat.le_refl 0)))
    replace r6 := r6.kept k57 (.inr (.inr (Nat.le_refl 0)))
    replace ri := ri.kept k57 (.inr (.inr (Nat.le_refl 0)))
    replace rj := rj.kept k57 (.inr (.inr (Nat.le_refl 0)))
    replace rl := rl.kept k57 (.inr (.inr (Nat.le_refl 0)))
    replace ca0 := k57.cell0 ca0
    replace ca1 := k57.cell0 ca1
    replace ca2 := k57.cell0 ca2
    replace cb0 := k57.cell0 cb0
    replace cb1 := k57.cell0 cb1
    replace cb2 := k57.cell0 cb2
    replace cc0 := k57.cell0 cc0
    replace cc1 := k57.cell0 cc1
    replace cc2 := k57.cell0 cc2
    replace cd0 := k57.cell0 cd0
    replace cd1 := k57.cell0 cd1
    replace cd2 := k57.cell0 cd2
    replace n60 := k57.cell0 n60
    replace n61 := k57.cell0 n61
    replace n62 := k57.cell0 n62
    replace n70 := k57.cell0 n70
    replace n71 := k57.cell0 n71
    replace n72 := k57.cell0 n72
    replace n80 := k57.cell0 n80
    replace n81 := k57.cell0 n81
    replace n82 := k57.cell0 n82
    replace n90 := k57.cell0 n90
    replace n91 := k57.cell0 n91
    replace n92 := k57.cell0 n92
    replace cj0 := k57.cell0 cj0
    replace cj1 := k57.cell0 cj1
    replace cj2 := k57.cell0 cj2
    replace K := hide ((unhide K).trans k57)
    have z58 := k57.size
    clear k57
    clear hHeld
    refine hK.out _ _ ?_ (fun hHeld => ?_)
    · exact ⟨cj0, cj1, cj2⟩
    clear hK KK
    try simp only [Act.put, List.getElem_toArray, List.getElem_cons_succ, List.getElem_cons_zero, List.setIfInBounds_toArray, List.set_cons_zero, List.set_cons_succ]
    refine wpAnyH_take (i := 9) (oi := _) (v := .bool true) rfl (by kernel_rfl) (by kernel_rfl) (by kernel_rfl) (fun _ _ _ h => h) (Or.inl ⟨by rfl, ?_⟩) hHeld ?_
    · intro wq hSw
      try dsimp only at hSw
      go_simp
    try simp only [Act.put, List.getElem_toArray, List.getElem_cons_succ, List.getElem_cons_zero, List.setIfInBounds_toArray, List.set_cons_zero, List.set_cons_succ]
    refine wpAnyH_take (i := 10) (oi := _) (v := .bool true) rfl (by kernel_rfl) (by kernel_rfl) (by kernel_rfl) (fun _ _ _ h => h) (Or.inl ⟨by rfl, ?_⟩) hHeld ?_
    · intro wq hSw
      try dsimp only at hSw
      go_simp
    try simp only [Act.put, List.getElem_toArray, List.getElem_cons_succ, List.getElem_cons_zero, List.setIfInBounds_toArray, List.set_cons_zero, List.set_cons_succ]
    refine wpAnyH_done (by kernel_rfl) ?_ _
    clear hHeld
    try go_wp2_with fail
    go_ret
    exact ⟨rfl, (unhide K).toBelow⟩
  have HO2 := hide ho2
  clear ho2
  go_wp2_with fail
  cases hsb : SB
  · subst hsb
    have mk := dsub_impl SS s2 SE x2 (by omega) (by omega) (by omega) (by omega) w45 r6 r2 ((unhide HT).kept (unhide K))
    obtain ⟨DB, hDB⟩ : ∃ y, ansDB (dokB SS SL SE && dokB s2 ys x2) (wval SS SL * 2 ^ (SE - min SE x2).toNat - wval s2 ys * 2 ^ (x2 - min SE x2).toNat) (min SE x2) = y := ⟨_, rfl⟩
    obtain ⟨DS, hDS⟩ : ∃ y, ansDS (dokB SS SL SE && dokB s2 ys x2) (wval SS SL * 2 ^ (SE - min SE x2).toNat - wval s2 ys * 2 ^ (x2 - min SE x2).toNat) (min SE x2) = y := ⟨_, rfl⟩
    obtain ⟨DL, hDL⟩ : ∃ y, ansDL (dokB SS SL SE && dokB s2 ys x2) (wval SS SL * 2 ^ (SE - min SE x2).toNat - wval s2 ys * 2 ^ (x2 - min SE x2).toNat) (min SE x2) = y := ⟨_, rfl⟩
    obtain ⟨DE, hDE⟩ : ∃ y, ansDE (dokB SS SL SE && dokB s2 ys x2) (wval SS SL * 2 ^ (SE - min SE x2).toNat - wval s2 ys * 2 ^ (x2 - min SE x2).toNat) (min SE x2) = y := ⟨_, rfl⟩
    have gD := ansDE_rng (dokB SS SL SE && dokB s2 ys x2) (wval SS SL * 2 ^ (SE - min SE x2).toNat - wval s2 ys * 2 ^ (x2 - min SE x2).toNat) (min SE x2)
    rw [hDE] at gD
    rw [hDB, hDS, hDL, hDE] at mk
    have HD : Hid (Ans (dokB SS SL SE && dokB s2 ys x2) (wval SS SL * 2 ^ (SE - min SE x2).toNat - wval s2 ys * 2 ^ (x2 - min SE x2).toNat) (min SE x2) DB DS DL DE) := ⟨hDB, hDS, hDL, hDE⟩
    clear hDB hDS hDL hDE
    refine (mk).mono ?_
    rintro e w47 ⟨vd, rfl, rd, k47⟩
    replace r1 := r1.kept k47 (.inr (.inr (Nat.le_refl 0)))
    replace r2 := r2.kept k47 (.inr (.inr (Nat.le_refl 0)))
    replace r4 := r4.kept k47 (.inr (.inr (Nat.le_refl 0)))
    replace r6 := r6.kept k47 (.inr (.inr (Nat.le_refl 0)))
    replace ca0 := k47.cell0 ca0
    replace ca1 := k47.cell0 ca1
    replace ca2 := k47.cell0 ca2
    replace cb0 := k47.cell0 cb0
    replace cb1 := k47.cell0 cb1
    replace cb2 := k47.cell0 cb2
    replace cc0 := k47.cell0 cc0
    replace cc1 := k47.cell0 cc1
    replace cc2 := k47.cell0 cc2
    replace cd0 := k47.cell0 cd0
    replace cd1 := k47.cell0 cd1
    replace cd2 := k47.cell0 cd2
    replace n60 := k47.cell0 n60
    replace n61 := k47.cell0 n61
    replace n62 := k47.cell0 n62
    replace n70 := k47.cell0 n70
    replace n71 := k47.cell0 n71
    replace n72 := k47.cell0 n72
    replace n80 := k47.cell0 n80
    replace n81 := k47.cell0 n81
    replace n82 := k47.cell0 n82
    replace n90 := k47.cell0 n90
    replace n91 := k47.cell0 n91
    replace n92 := k47.cell0 n92
    replace K := hide ((unhide K).trans k47)
    have z48 := k47.size
    clear k47
    clear mk
    obtain ⟨ad, cd, hv⟩ := Row.form' rd
    subst hv
    have kn := (Kept.refl 0 0 w47).alloc (.cells #[.bool DS, .slice ad DL.length cd, .int .i64 DE] 30)
    have nd0 : (w47.alloc (.cells #[.bool DS, .slice ad DL.length cd, .int .i64 DE] 30)).cell? ⟨w47.heap.size, 0, none⟩ = some (.bool DS) := new_cell2 _ _ _ _ _ _ (by simp) rfl
    have nd1 : (w47.alloc (.cells #[.bool DS, .slice ad DL.length cd, .int .i64 DE] 30)).cell? ⟨w47.heap.size, 1, none⟩ = some (.slice ad DL.length cd) := new_cell2 _ _ _ _ _ _ (by simp) rfl
    have nd2 : (w47.alloc (.cells #[.bool DS, .slice ad DL.length cd, .int .i64 DE] 30)).cell? ⟨w47.heap.size, 2, none⟩ = some (.int .i64 DE) := new_cell2 _ _ _ _ _ _ (by simp) rfl
    have sz49 : w47.heap.size + 1 ≤ (w47.alloc (.cells #[.bool DS, .slice ad DL.length cd, .int .i64 DE] 30)).heap.size := by simp
    replace r1 := r1.kept kn (.inr (.inr (Nat.le_refl 0)))
    replace r2 := r2.kept kn (.inr (.inr (Nat.le_refl 0)))
    replace r4 := r4.kept kn (.inr (.inr (Nat.le_refl 0)))
    replace r6 := r6.kept kn (.inr (.inr (Nat.le_refl 0)))
    replace rd := rd.kept kn (.inr (.inr (Nat.le_refl 0)))
    replace ca0 := kn.cell0 ca0
    replace ca1 := kn.cell0 ca1
    replace ca2 := kn.cell0 ca2
    replace cb0 := kn.cell0 cb0
    replace cb1 := kn.cell0 cb1
    replace cb2 := kn.cell0 cb2
    replace cc0 := kn.cell0 cc0
    replace cc1 := kn.cell0 cc1
    replace cc2 := kn.cell0 cc2
    replace cd0 := kn.cell0 cd0
    replace cd1 := kn.cell0 cd1
    replace cd2 := kn.cell0 cd2
    replace n60 := kn.cell0 n60
    replace n61 := kn.cell0 n61
    replace n62 := kn.cell0 n62
    replace n70 := kn.cell0 n70
    replace n71 := kn.cell0 n71
    replace n72 := kn.cell0 n72
    replace n80 := kn.cell0 n80
    replace n81 := kn.cell0 n81
    replace n82 := kn.cell0 n82
    replace n90 := kn.cell0 n90
    replace n91 := kn.cell0 n91
    replace n92 := kn.cell0 n92
    replace K := hide ((unhide K).trans kn)
    have z50 := kn.size
    clear kn
    go_wp2_with fail
    generalize (w47.alloc (.cells #[.bool DS, .slice ad DL.length cd, .int .i64 DE] 30)) = wn51 at *
    have mk := dmul_impl SS s3 SE x3 (by omega) (by omega) (by omega) (by omega) wn51 r6 r4 ((unhide HT).kept (unhide K))
    obtain ⟨XB, hXB⟩ : ∃ y, ansDB (dokB SS SL SE && dokB s3 cs x3) (wval SS SL * wval s3 cs) (SE + x3) = y := ⟨_, rfl⟩
    obtain ⟨XS, hXS⟩ : ∃ y, ansDS (dokB SS SL SE && dokB s3 cs x3) (wval SS SL * wval s3 cs) (SE + x3) = y := ⟨_, rfl⟩
    obtain ⟨XL, hXL⟩ : ∃ y, ansDL (dokB SS SL SE && dokB s3 cs x3) (wval SS SL * wval s3 cs) (SE + x3) = y := ⟨_, rfl⟩
    obtain ⟨XE, hXE⟩ : ∃ y, ansDE (dokB SS SL SE && dokB s3 cs x3) (wval SS SL * wval s3 cs) (SE + x3) = y := ⟨_, rfl⟩
    have gX := ansDE_rng (dokB SS SL SE && dokB s3 cs x3) (wval SS SL * wval s3 cs) (SE + x3)
    rw [hXE] at gX
    rw [hXB, hXS, hXL, hXE] at mk
    have HX : Hid (Ans (dokB SS SL SE && dokB s3 cs x3) (wval SS SL * wval s3 cs) (SE + x3) XB XS XL XE) := ⟨hXB, hXS, hXL, hXE⟩
    clear hXB hXS hXL hXE
    refine (mk).mono ?_
    rintro e w52 ⟨vx, rfl, rx, k52⟩
    replace r1 := r1.kept k52 (.inr (.inr (Nat.le_refl 0)))
    replace r2 := r2.kept k52 (.inr (.inr (Nat.le_refl 0)))
    replace r4 := r4.kept k52 (.inr (.inr (Nat.le_refl 0)))
    replace r6 := r6.kept k52 (.inr (.inr (Nat.le_refl 0)))
    replace rd := rd.kept k52 (.inr (.inr (Nat.le_refl 0)))
    replace ca0 := k52.cell0 ca0
    replace ca1 := k52.cell0 ca1
    replace ca2 := k52.cell0 ca2
    replace cb0 := k52.cell0 cb0
    replace cb1 := k52.cell0 cb1
    replace cb2 := k52.cell0 cb2
    replace cc0 := k52.cell0 cc0
    replace cc1 := k52.cell0 cc1
    replace cc2 := k52.cell0 cc2
    replace cd0 := k52.cell0 cd0
    replace cd1 := k52.cell0 cd1
    replace cd2 := k52.cell0 cd2
    replace n60 := k52.cell0 n60
    replace n61 := k52.cell0 n61
    replace n62 := k52.cell0 n62
    replace n70 := k52.cell0 n70
    replace n71 := k52.cell0 n71
    replace n72 := k52.cell0 n72
    replace n80 := k52.cell0 n80
    replace n81 := k52.cell0 n81
    replace n82 := k52.cell0 n82
    replace n90 := k52.cell0 n90
    replace n91 := k52.cell0 n91
    replace n92 := k52.cell0 n92
    replace nd0 := k52.cell0 nd0
    replace nd1 := k52.cell0 nd1
    replace nd2 := k52.cell0 nd2
    replace K := hide ((unhide K).trans k52)
    have z53 := k52.size
    clear k52
    clear mk
    obtain ⟨ax, cx, hv⟩ := Row.form' rx
    subst hv
    have kn := (Kept.refl 0 0 w52).alloc (.cells #[.bool XS, .slice ax XL.length cx, .int .i64 XE] 30)
    have nx0 : (w52.alloc (.cells #[.bool XS, .slice ax XL.length cx, .int .i64 XE] 30)).cell? ⟨w52.heap.size, 0, none⟩ = some (.bool XS) := new_cell2 _ _ _ _ _ _ (by simp) rfl
    have nx1 : (w52.alloc (.cells #[.bool XS, .slice ax XL.length cx, .int .i64 XE] 30)).cell? ⟨w52.heap.size, 1, none⟩ = some (.slice ax XL.length cx) := new_cell2 _ _ _ _ _ _ (by simp) rfl
    have nx2 : (w52.alloc (.cells #[.bool XS, .slice ax XL.length cx, .int .i64 XE] 30)).cell? ⟨w52.heap.size, 2, none⟩ = some (.int .i64 XE) := new_cell2 _ _ _ _ _ _ (by simp) rfl
    have sz54 : w52.heap.size + 1 ≤ (w52.alloc (.cells #[.bool XS, .slice ax XL.length cx, .int .i64 XE] 30)).heap.size := by simp
    replace r1 := r1.kept kn (.inr (.inr (Nat.le_refl 0)))
    replace r2 := r2.kept kn (.inr (.inr (Nat.le_refl 0)))
    replace r4 := r4.kept kn (.inr (.inr (Nat.le_refl 0)))
    replace r6 := r6.kept kn (.inr (.inr (Nat.le_refl 0)))
    replace rd := rd.kept kn (.inr (.inr (Nat.le_refl 0)))
    replace rx := rx.kept kn (.inr (.inr (Nat.le_refl 0)))
    replace ca0 := kn.cell0 ca0
    replace ca1 := kn.cell0 ca1
    replace ca2 := kn.cell0 ca2
    replace cb0 := kn.cell0 cb0
    replace cb1 := kn.cell0 cb1
    replace cb2 := kn.cell0 cb2
    replace cc0 := kn.cell0 cc0
    replace cc1 := kn.cell0 cc1
    replace cc2 := kn.cell0 cc2
    replace cd0 := kn.cell0 cd0
    replace cd1 := kn.cell0 cd1
    replace cd2 := kn.cell0 cd2
    replace n60 := kn.cell0 n60
    replace n61 := kn.cell0 n61
    replace n62 := kn.cell0 n62
    replace n70 := kn.cell0 n70
    replace n71 := kn.cell0 n71
    replace n72 := kn.cell0 n72
    replace n80 := kn.cell0 n80
    replace n81 := kn.cell0 n81
    replace n82 := kn.cell0 n82
    replace n90 := kn.cell0 n90
    replace n91 := kn.cell0 n91
    replace n92 := kn.cell0 n92
    replace nd0 := kn.cell0 nd0
    replace nd1 := kn.cell0 nd1
    replace nd2 := kn.cell0 nd2
    replace K := hide ((unhide K).trans kn)
    have z55 := kn.size
    clear kn
    go_wp2_with fail
    generalize (w52.alloc (.cells #[.bool XS, .slice ax XL.length cx, .int .i64 XE] 30)) = wn56 at *
    have mk := dmul_impl s1 s3 x1 x3 (by omega) (by omega) (by omega) (by omega) wn56 r1 r4 ((unhide HT).kept (unhide K))
    obtain ⟨YB, hYB⟩ : ∃ y, ansDB (dokB s1 xs x1 && dokB s3 cs x3) (wval s1 xs * wval s3 cs) (x1 + x3) = y := ⟨_, rfl⟩
    obtain ⟨YS, hYS⟩ : ∃ y, ansDS (dokB s1 xs x1 && dokB s3 cs x3) (wval s1 xs * wval s3 cs) (x1 + x3) = y := ⟨_, rfl⟩
    obtain ⟨YL, hYL⟩ : ∃ y, ansDL (dokB s1 xs x1 && dokB s3 cs x3) (wval s1 xs * wval s3 cs) (x1 + x3) = y := ⟨_, rfl⟩
    obtain ⟨YE, hYE⟩ : ∃ y, ansDE (dokB s1 xs x1 && dokB s3 cs x3) (wval s1 xs * wval s3 cs) (x1 + x3) = y := ⟨_, rfl⟩
    have gY := ansDE_rng (dokB s1 xs x1 && dokB s3 cs x3) (wval s1 xs * wval s3 cs) (x1 + x3)
    rw [hYE] at gY
    rw [hYB, hYS, hYL, hYE] at mk
    have HY : Hid (Ans (dokB s1 xs x1 && dokB s3 cs x3) (wval s1 xs * wval s3 cs) (x1 + x3) YB YS YL YE) := ⟨hYB, hYS, hYL, hYE⟩
    clear hYB hYS hYL hYE
    refine (mk).mono ?_
    rintro e w57 ⟨vy, rfl, ry, k57⟩
    replace r1 := r1.kept k57 (.inr (.inr (Nat.le_refl 0)))
    replace r2 := r2.kept k57 (.inr (.inr (Nat.le_refl 0)))
    replace r4 := r4.kept k57 (.inr (.inr (Nat.le_refl 0)))
    replace r6 := r6.kept k57 (.inr (.inr (Nat.le_refl 0)))
    replace rd := rd.kept k57 (.inr (.inr (Nat.le_refl 0)))
    replace rx := rx.kept k57 (.inr (.inr (Nat.le_refl 0)))
    replace ca0 := k57.cell0 ca0
    replace ca1 := k57.cell0 ca1
    replace ca2 := k57.cell0 ca2
    replace cb0 := k57.cell0 cb0
    replace cb1 := k57.cell0 cb1
    replace cb2 := k57.cell0 cb2
    replace cc0 := k57.cell0 cc0
    replace cc1 := k57.cell0 cc1
    replace cc2 := k57.cell0 cc2
    replace cd0 := k57.cell0 cd0
    replace cd1 := k57.cell0 cd1
    replace cd2 := k57.cell0 cd2
    replace n60 := k57.cell0 n60
    replace n61 := k57.cell0 n61
    replace n62 := k57.cell0 n62
    replace n70 := k57.cell0 n70
    replace n71 := k57.cell0 n71
    replace n72 := k57.cell0 n72
    replace n80 := k57.cell0 n80
    replace n81 := k57.cell0 n81
    replace n82 := k57.cell0 n82
    replace n90 := k57.cell0 n90
    replace n91 := k57.cell0 n91
    replace n92 := k57.cell0 n92
    replace nd0 := k57.cell0 nd0
    replace nd1 := k57.cell0 nd1
    replace nd2 := k57.cell0 nd2
    replace nx0 := k57.cell0 nx0
    replace nx1 := k57.cell0 nx1
    replace nx2 := k57.cell0 nx2
    replace K := hide ((unhide K).trans k57)
    have z58 := k57.size
    clear k57
    clear mk
    obtain ⟨ay, cy, hv⟩ := Row.form' ry
    subst hv
    have kn := (Kept.refl 0 0 w57).alloc (.cells #[.bool YS, .slice ay YL.length cy, .int .i64 YE] 30)
    have ny0 : (w57.alloc (.cells #[.bool YS, .slice ay YL.length cy, .int .i64 YE] 30)).cell? ⟨w57.heap.size, 0, none⟩ = some (.bool YS) := new_cell2 _ _ _ _ _ _ (by simp) rfl
    have ny1 : (w57.alloc (.cells #[.bool YS, .slice ay YL.length cy, .int .i64 YE] 30)).cell? ⟨w57.heap.size, 1, none⟩ = some (.slice ay YL.length cy) := new_cell2 _ _ _ _ _ _ (by simp) rfl
    have ny2 : (w57.alloc (.cells #[.bool YS, .slice ay YL.length cy, .int .i64 YE] 30)).cell? ⟨w57.heap.size, 2, none⟩ = some (.int .i64 YE) := new_cell2 _ _ _ _ _ _ (by simp) rfl
    have sz59 : w57.heap.size + 1 ≤ (w57.alloc (.cells #[.bool YS, .slice ay YL.length cy, .int .i64 YE] 30)).heap.size := by simp
    replace r1 := r1.kept kn (.inr (.inr (Nat.le_refl 0)))
    replace r2 := r2.kept kn (.inr (.inr (Nat.le_refl 0)))
    replace r4 := r4.kept kn (.inr (.inr (Nat.le_refl 0)))
    replace r6 := r6.kept kn (.inr (.inr (Nat.le_refl 0)))
    replace rd := rd.kept kn (.inr (.inr (Nat.le_refl 0)))
    replace rx := rx.kept kn (.inr (.inr (Nat.le_refl 0)))
    replace ry := ry.kept kn (.inr (.inr (Nat.le_refl 0)))
    replace ca0 := kn.cell0 ca0
    replace ca1 := kn.cell0 ca1
    replace ca2 := kn.cell0 ca2
    replace cb0 := kn.cell0 cb0
    replace cb1 := kn.cell0 cb1
    replace cb2 := kn.cell0 cb2
    replace cc0 := kn.cell0 cc0
    replace cc1 := kn.cell0 cc1
    replace cc2 := kn.cell0 cc2
    replace cd0 := kn.cell0 cd0
    replace cd1 := kn.cell0 cd1
    replace cd2 := kn.cell0 cd2
    replace n60 := kn.cell0 n60
    replace n61 := kn.cell0 n61
    replace n62 := kn.cell0 n62
    replace n70 := kn.cell0 n70
    replace n71 := kn.cell0 n71
    replace n72 := kn.cell0 n72
    replace n80 := kn.cell0 n80
    replace n81 := kn.cell0 n81
    replace n82 := kn.cell0 n82
    replace n90 := kn.cell0 n90
    replace n91 := kn.cell0 n91
    replace n92 := kn.cell0 n92
    replace nd0 := kn.cell0 nd0
    replace nd1 := kn.cell0 nd1
    replace nd2 := kn.cell0 nd2
    replace nx0 := kn.cell0 nx0
    replace nx1 := kn.cell0 nx1
    replace nx2 := kn.cell0 nx2
    replace K := hide ((unhide K).trans kn)
    have z60 := kn.size
    clear kn
    go_wp2_with fail
    generalize (w57.alloc (.cells #[.bool YS, .slice ay YL.length cy, .int .i64 YE] 30)) = wn61 at *
    have mk := dmul_impl s2 s3 x2 x3 (by omega) (by omega) (by omega) (by omega) wn61 r2 r4 ((unhide HT).kept (unhide K))
    obtain ⟨ZB, hZB⟩ : ∃ y, ansDB (dokB s2 ys x2 && dokB s3 cs x3) (wval s2 ys * wval s3 cs) (x2 + x3) = y := ⟨_, rfl⟩
    obtain ⟨ZS, hZS⟩ : ∃ y, ansDS (dokB s2 ys x2 && dokB s3 cs x3) (wval s2 ys * wval s3 cs) (x2 + x3) = y := ⟨_, rfl⟩
    obtain ⟨ZL, hZL⟩ : ∃ y, ansDL (dokB s2 ys x2 && dokB s3 cs x3) (wval s2 ys * wval s3 cs) (x2 + x3) = y := ⟨_, rfl⟩
    obtain ⟨ZE, hZE⟩ : ∃ y, ansDE (dokB s2 ys x2 && dokB s3 cs x3) (wval s2 ys * wval s3 cs) (x2 + x3) = y := ⟨_, rfl⟩
    have gZ := ansDE_rng (dokB s2 ys x2 && dokB s3 cs x3) (wval s2 ys * wval s3 cs) (x2 + x3)
    rw [hZE] at gZ
    rw [hZB, hZS, hZL, hZE] at mk
    have HZ : Hid (Ans (dokB s2 ys x2 && dokB s3 cs x3) (wval s2 ys * wval s3 cs) (x2 + x3) ZB ZS ZL ZE) := ⟨hZB, hZS, hZL, hZE⟩
    clear hZB hZS hZL hZE
    refine (mk).mono ?_
    rintro e w62 ⟨vz, rfl, rz, k62⟩
    replace r1 := r1.kept k62 (.inr (.inr (Nat.le_refl 0)))
    replace r2 := r2.kept k62 (.inr (.inr (Nat.le_refl 0)))
    replace r4 := r4.kept k62 (.inr (.inr (Nat.le_refl 0)))
    replace r6 := r6.kept k62 (.inr (.inr (Nat.le_refl 0)))
    replace rd := rd.kept k62 (.inr (.inr (Nat.le_refl 0)))
    replace rx := rx.kept k62 (.inr (.inr (Nat.le_refl 0)))
    replace ry := ry.kept k62 (.inr (.inr (Nat.le_refl 0)))
    replace ca0 := k62.cell0 ca0
    replace ca1 := k62.cell0 ca1
    replace ca2 := k62.cell0 ca2
    replace cb0 := k62.cell0 cb0
    replace cb1 := k62.cell0 cb1
    replace cb2 := k62.cell0 cb2
    replace cc0 := k62.cell0 cc0
    replace cc1 := k62.cell0 cc1
    replace cc2 := k62.cell0 cc2
    replace cd0 := k62.cell0 cd0
    replace cd1 := k62.cell0 cd1
    replace cd2 := k62.cell0 cd2
    replace n60 := k62.cell0 n60
    replace n61 := k62.cell0 n61
    replace n62 := k62.cell0 n62
    replace n70 := k62.cell0 n70
    replace n71 := k62.cell0 n71
    replace n72 := k62.cell0 n72
    replace n80 := k62.cell0 n80
    replace n81 := k62.cell0 n81
    replace n82 := k62.cell0 n82
    replace n90 := k62.cell0 n90
    replace n91 := k62.cell0 n91
    replace n92 := k62.cell0 n92
    replace nd0 := k62.cell0 nd0
    replace nd1 := k62.cell0 nd1
    replace nd2 := k62.cell0 nd2
    replace nx0 := k62.cell0 nx0
    replace nx1 := k62.cell0 nx1
    replace nx2 := k62.cell0 nx2
    replace ny0 := k62.cell0 ny0
    replace ny1 := k62.cell0 ny1
    replace ny2 := k62.cell0 ny2
    replace K := hide ((unhide K).trans k62)
    have z63 := k62.size
    clear k62
    clear mk
    obtain ⟨az, cz, hv⟩ := Row.form' rz
    subst hv
    have kn := (Kept.refl 0 0 w62).alloc (.cells #[.bool ZS, .slice az ZL.length cz, .int .i64 ZE] 30)
    have nz0 : (w62.alloc (.cells #[.bool ZS, .slice az ZL.length cz, .int .i64 ZE] 30)).cell? ⟨w62.heap.size, 0, none⟩ = some (.bool ZS) := new_cell2 _ _ _ _ _ _ (by simp) rfl
    have nz1 : (w62.alloc (.cells #[.bool ZS, .slice az ZL.length cz, .int .i64 ZE] 30)).cell? ⟨w62.heap.size, 1, none⟩ = some (.slice az ZL.length cz) := new_cell2 _ _ _ _ _ _ (by simp) rfl
    have nz2 : (w62.alloc (.cells #[.bool ZS, .slice az ZL.length cz, .int .i64 ZE] 30)).cell? ⟨w62.heap.size, 2, none⟩ = some (.int .i64 ZE) := new_cell2 _ _ _ _ _ _ (by simp) rfl
    have sz64 : w62.heap.size + 1 ≤ (w62.alloc (.cells #[.bool ZS, .slice az ZL.length cz, .int .i64 ZE] 30)).heap.size := by simp
    replace r1 := r1.kept kn (.inr (.inr (Nat.le_refl 0)))
    replace r2 := r2.kept kn (.inr (.inr (Nat.le_refl 0)))
    replace r4 := r4.kept kn (.inr (.inr (Nat.le_refl 0)))
    replace r6 := r6.kept kn (.inr (.inr (Nat.le_refl 0)))
    replace rd := rd.kept kn (.inr (.inr (Nat.le_refl 0)))
    replace rx := rx.kept kn (.inr (.inr (Nat.le_refl 0)))
    replace ry := ry.kept kn (.inr (.inr (Nat.le_refl 0)))
    replace rz := rz.kept kn (.inr (.inr (Nat.le_refl 0)))
    replace ca0 := kn.cell0 ca0
    replace ca1 := kn.cell0 ca1
    replace ca2 := kn.cell0 ca2
    replace cb0 := kn.cell0 cb0
    replace cb1 := kn.cell0 cb1
    replace cb2 := kn.cell0 cb2
    replace cc0 := kn.cell0 cc0
    replace cc1 := kn.cell0 cc1
    replace cc2 := kn.cell0 cc2
    replace cd0 := kn.cell0 cd0
    replace cd1 := kn.cell0 cd1
    replace cd2 := kn.cell0 cd2
    replace n60 := kn.cell0 n60
    replace n61 := kn.cell0 n61
    replace n62 := kn.cell0 n62
    replace n70 := kn.cell0 n70
    replace n71 := kn.cell0 n71
    replace n72 := kn.cell0 n72
    replace n80 := kn.cell0 n80
    replace n81 := kn.cell0 n81
    replace n82 := kn.cell0 n82
    replace n90 := kn.cell0 n90
    replace n91 := kn.cell0 n91
    replace n92 := kn.cell0 n92
    replace nd0 := kn.cell0 nd0
    replace nd1 := kn.cell0 nd1
    replace nd2 := kn.cell0 nd2
    replace nx0 := kn.cell0 nx0
    replace nx1 := kn.cell0 nx1
    replace nx2 := kn.cell0 nx2
    replace ny0 := kn.cell0 ny0
    replace ny1 := kn.cell0 ny1
    replace ny2 := kn.cell0 ny2
    replace K := hide ((unhide K).trans kn)
    have z65 := kn.size
    clear kn
    go_wp2_with fail
    generalize (w62.alloc (.cells #[.bool ZS, .slice az ZL.length cz, .int .i64 ZE] 30)) = wn66 at *
    have mk := dadd_impl YS ZS YE ZE (by omega) (by omega) (by omega) (by omega) wn66 ry rz ((unhide HT).kept (unhide K))
    obtain ⟨UB, hUB⟩ : ∃ y, ansDB (dokB YS YL YE && dokB ZS ZL ZE) (wval YS YL * 2 ^ (YE - min YE ZE).toNat + wval ZS ZL * 2 ^ (ZE - min YE ZE).toNat) (min YE ZE) = y := ⟨_, rfl⟩
    obtain ⟨US, hUS⟩ : ∃ y, ansDS (dokB YS YL YE && dokB ZS ZL ZE) (wval YS YL * 2 ^ (YE - min YE ZE).toNat + wval ZS ZL * 2 ^ (ZE - min YE ZE).toNat) (min YE ZE) = y := ⟨_, rfl⟩
    obtain ⟨UL, hUL⟩ : ∃ y, ansDL (dokB YS YL YE && dokB ZS ZL ZE) (wval YS YL * 2 ^ (YE - min YE ZE).toNat + wval ZS ZL * 2 ^ (ZE - min YE ZE).toNat) (min YE ZE) = y := ⟨_, rfl⟩
    obtain ⟨UE, hUE⟩ : ∃ y, ansDE (dokB YS YL YE && dokB ZS ZL ZE) (wval YS YL * 2 ^ (YE - min YE ZE).toNat + wval ZS ZL * 2 ^ (ZE - min YE ZE).toNat) (min YE ZE) = y := ⟨_, rfl⟩
    have gU := ansDE_rng (dokB YS YL YE && dokB ZS ZL ZE) (wval YS YL * 2 ^ (YE - min YE ZE).toNat + wval ZS ZL * 2 ^ (ZE - min YE ZE).toNat) (min YE ZE)
    rw [hUE] at gU
    rw [hUB, hUS, hUL, hUE] at mk
    have HU : Hid (Ans (dokB YS YL YE && dokB ZS ZL ZE) (wval YS YL * 2 ^ (YE - min YE ZE).toNat + wval ZS ZL * 2 ^ (ZE - min YE ZE).toNat) (min YE ZE) UB US UL UE) := ⟨hUB, hUS, hUL, hUE⟩
    clear hUB hUS hUL hUE
    refine (mk).mono ?_
    rintro e w67 ⟨vu, rfl, ru, k67⟩
    replace r1 := r1.kept k67 (.inr (.inr (Nat.le_refl 0)))
    replace r2 := r2.kept k67 (.inr (.inr (Nat.le_refl 0)))
    replace r4 := r4.kept k67 (.inr (.inr (Nat.le_refl 0)))
    replace r6 := r6.kept k67 (.inr (.inr (Nat.le_refl 0)))
    replace rd := rd.kept k67 (.inr (.inr (Nat.le_refl 0)))
    replace rx := rx.kept k67 (.inr (.inr (Nat.le_refl 0)))
    replace ry := ry.kept k67 (.inr (.inr (Nat.le_refl 0)))
    replace rz := rz.kept k67 (.inr (.inr (Nat.le_refl 0)))
    replace ca0 := k67.cell0 ca0
    replace ca1 := k67.cell0 ca1
    replace ca2 := k67.cell0 ca2
    replace cb0 := k67.cell0 cb0
    replace cb1 := k67.cell0 cb1
    replace cb2 := k67.cell0 cb2
    replace cc0 := k67.cell0 cc0
    replace cc1 := k67.cell0 cc1
    replace cc2 := k67.cell0 cc2
    replace cd0 := k67.cell0 cd0
    replace cd1 := k67.cell0 cd1
    replace cd2 := k67.cell0 cd2
    replace n60 := k67.cell0 n60
    replace n61 := k67.cell0 n61
    replace n62 := k67.cell0 n62
    replace n70 := k67.cell0 n70
    replace n71 := k67.cell0 n71
    replace n72 := k67.cell0 n72
    replace n80 := k67.cell0 n80
    replace n81 := k67.cell0 n81
    replace n82 := k67.cell0 n82
    replace n90 := k67.cell0 n90
    replace n91 := k67.cell0 n91
    replace n92 := k67.cell0 n92
    replace nd0 := k67.cell0 nd0
    replace nd1 := k67.cell0 nd1
    replace nd2 := k67.cell0 nd2
    replace nx0 := k67.cell0 nx0
    replace nx1 := k67.cell0 nx1
    replace nx2 := k67.cell0 nx2
    replace ny0 := k67.cell0 ny0
    replace ny1 := k67.cell0 ny1
    replace ny2 := k67.cell0 ny2
    replace nz0 := k67.cell0 nz0
    replace nz1 := k67.cell0 nz1
    replace nz2 := k67.cell0 nz2
    replace K := hide ((unhide K).trans k67)
    have z68 := k67.size
    clear k67
    clear mk
    obtain ⟨au, cu, hv⟩ := Row.form' ru
    subst hv
    have kn := (Kept.refl 0 0 w67).alloc (.cells #[.bool US, .slice au UL.length cu, .int .i64 UE] 30)
    have nu0 : (w67.alloc (.cells #[.bool US, .slice au UL.length cu, .int .i64 UE] 30)).cell? ⟨w67.heap.size, 0, none⟩ = some (.bool US) := new_cell2 _ _ _ _ _ _ (by simp) rfl
    have nu1 : (w67.alloc (.cells #[.bool US, .slice au UL.length cu, .int .i64 UE] 30)).cell? ⟨w67.heap.size, 1, none⟩ = some (.slice au UL.length cu) := new_cell2 _ _ _ _ _ _ (by simp) rfl
    have nu2 : (w67.alloc (.cells #[.bool US, .slice au UL.length cu, .int .i64 UE] 30)).cell? ⟨w67.heap.size, 2, none⟩ = some (.int .i64 UE) := new_cell2 _ _ _ _ _ _ (by simp) rfl
    have sz69 : w67.heap.size + 1 ≤ (w67.alloc (.cells #[.bool US, .slice au UL.length cu, .int .i64 UE] 30)).heap.size := by simp
    replace r1 := r1.kept kn (.inr (.inr (Nat.le_refl 0)))
    replace r2 := r2.kept kn (.inr (.inr (Nat.le_refl 0)))
    replace r4 := r4.kept kn (.inr (.inr (Nat.le_refl 0)))
    replace r6 := r6.kept kn (.inr (.inr (Nat.le_refl 0)))
    replace rd := rd.kept kn (.inr (.inr (Nat.le_refl 0)))
    replace rx := rx.kept kn (.inr (.inr (Nat.le_refl 0)))
    replace ry := ry.kept kn (.inr (.inr (Nat.le_refl 0)))
    replace rz := rz.kept kn (.inr (.inr (Nat.le_refl 0)))
    replace ru := ru.kept kn (.inr (.inr (Nat.le_refl 0)))
    replace ca0 := kn.cell0 ca0
    replace ca1 := kn.cell0 ca1
    replace ca2 := kn.cell0 ca2
    replace cb0 := kn.cell0 cb0
    replace cb1 := kn.cell0 cb1
    replace cb2 := kn.cell0 cb2
    replace cc0 := kn.cell0 cc0
    replace cc1 := kn.cell0 cc1
    replace cc2 := kn.cell0 cc2
    replace cd0 := kn.cell0 cd0
    replace cd1 := kn.cell0 cd1
    replace cd2 := kn.cell0 cd2
    replace n60 := kn.cell0 n60
    replace n61 := kn.cell0 n61
    replace n62 := kn.cell0 n62
    replace n70 := kn.cell0 n70
    replace n71 := kn.cell0 n71
    replace n72 := kn.cell0 n72
    replace n80 := kn.cell0 n80
    replace n81 := kn.cell0 n81
    replace n82 := kn.cell0 n82
    replace n90 := kn.cell0 n90
    replace n91 := kn.cell0 n91
    replace n92 := kn.cell0 n92
    replace nd0 := kn.cell0 nd0
    replace nd1 := kn.cell0 nd1
    replace nd2 := kn.cell0 nd2
    replace nx0 := kn.cell0 nx0
    replace nx1 := kn.cell0 nx1
    replace nx2 := kn.cell0 nx2
    replace ny0 := kn.cell0 ny0
    replace ny1 := kn.cell0 ny1
    replace ny2 := kn.cell0 ny2
    replace nz0 := kn.cell0 nz0
    replace nz1 := kn.cell0 nz1
    replace nz2 := kn.cell0 nz2
    replace K := hide ((unhide K).trans kn)
    have z70 := kn.size
    clear kn
    go_wp2_with fail
    generalize (w67.alloc (.cells #[.bool US, .slice au UL.length cu, .int .i64 UE] 30)) = wn71 at *
    try go_wp2_with fail
    go_ret
    exact ⟨rfl, (unhide K).toBelow⟩
  subst hsb
  have RS := ring_sub (unhide HO1) (unhide HO2) (unhide HS)
  have HRS := hide RS.1
  have HDS := hide RS.2
  clear RS
  have mk := dsub_impl SS s2 SE x2 (by omega) (by omega) (by omega) (by omega) w45 r6 r2 ((unhide HT).kept (unhide K))
  rw [(unhide HDS).1, (unhide HDS).2.1, (unhide HDS).2.2.1, (unhide HDS).2.2.2] at mk
  clear HDS
  refine (mk).mono ?_
  rintro e w47 ⟨vd, rfl, rd, k47⟩
  replace r1 := r1.kept k47 (.inr (.inr (Nat.le_refl 0)))
  replace r2 := r2.kept k47 (.inr (.inr (Nat.le_refl 0)))
  replace r4 := r4.kept k47 (.inr (.inr (Nat.le_refl 0)))
  replace r6 := r6.kept k47 (.inr (.inr (Nat.le_refl 0)))
  replace ca0 := k47.cell0 ca0
  replace ca1 := k47.cell0 ca1
  replace ca2 := k47.cell0 ca2
  replace cb0 := k47.cell0 cb0
  replace cb1 := k47.cell0 cb1
  replace cb2 := k47.cell0 cb2
  replace cc0 := k47.cell0 cc0
  replace cc1 := k47.cell0 cc1
  replace cc2 := k47.cell0 cc2
  replace cd0 := k47.cell0 cd0
  replace cd1 := k47.cell0 cd1
  replace cd2 := k47.cell0 cd2
  replace n60 := k47.cell0 n60
  replace n61 := k47.cell0 n61
  replace n62 := k47.cell0 n62
  replace n70 := k47.cell0 n70
  replace n71 := k47.cell0 n71
  replace n72 := k47.cell0 n72
  replace n80 := k47.cell0 n80
  replace n81 := k47.cell0 n81
  replace n82 := k47.cell0 n82
  replace n90 := k47.cell0 n90
  replace n91 := k47.cell0 n91
  replace n92 := k47.cell0 n92
  replace K := hide ((unhide K).trans k47)
  have z48 := k47.size
  clear k47
  clear mk
  obtain ⟨ad, cd, hv⟩ := Row.form' rd
  subst hv
  have kn := (Kept.refl 0 0 w47).alloc (.cells #[.bool s1, .slice ad xs.length cd, .int .i64 x1] 30)
  have nd0 : (w47.alloc (.cells #[.bool s1, .slice ad xs.length cd, .int .i64 x1] 30)).cell? ⟨w47.heap.size, 0, none⟩ = some (.bool s1) := new_cell2 _ _ _ _ _ _ (by simp) rfl
  have nd1 : (w47.alloc (.cells #[.bool s1, .slice ad xs.length cd, .int .i64 x1] 30)).cell? ⟨w47.heap.size, 1, none⟩ = some (.slice ad xs.length cd) := new_cell2 _ _ _ _ _ _ (by simp) rfl
  have nd2 : (w47.alloc (.cells #[.bool s1, .slice ad xs.length cd, .int .i64 x1] 30)).cell? ⟨w47.heap.size, 2, none⟩ = some (.int .i64 x1) := new_cell2 _ _ _ _ _ _ (by simp) rfl
  have sz49 : w47.heap.size + 1 ≤ (w47.alloc (.cells #[.bool s1, .slice ad xs.length cd, .int .i64 x1] 30)).heap.size := by simp
  replace r1 := r1.kept kn (.inr (.inr (Nat.le_refl 0)))
  replace r2 := r2.kept kn (.inr (.inr (Nat.le_refl 0)))
  replace r4 := r4.kept kn (.inr (.inr (Nat.le_refl 0)))
  replace r6 := r6.kept kn (.inr (.inr (Nat.le_refl 0)))
  replace rd := rd.kept kn (.inr (.inr (Nat.le_refl 0)))
  replace ca0 := kn.cell0 ca0
  replace ca1 := kn.cell0 ca1
  replace ca2 := kn.cell0 ca2
  replace cb0 := kn.cell0 cb0
  replace cb1 := kn.cell0 cb1
  replace cb2 := kn.cell0 cb2
  replace cc0 := kn.cell0 cc0
  replace cc1 := kn.cell0 cc1
  replace cc2 := kn.cell0 cc2
  replace cd0 := kn.cell0 cd0
  replace cd1 := kn.cell0 cd1
  replace cd2 := kn.cell0 cd2
  replace n60 := kn.cell0 n60
  replace n61 := kn.cell0 n61
  replace n62 := kn.cell0 n62
  replace n70 := kn.cell0 n70
  replace n71 := kn.cell0 n71
  replace n72 := kn.cell0 n72
  replace n80 := kn.cell0 n80
  replace n81 := kn.cell0 n81
  replace n82 := kn.cell0 n82
  replace n90 := kn.cell0 n90
  replace n91 := kn.cell0 n91
  replace n92 := kn.cell0 n92
  replace K := hide ((unhide K).trans kn)
  have z50 := kn.size
  clear kn
  go_wp2_with fail
  generalize (w47.alloc (.cells #[.bool s1, .slice ad xs.length cd, .int .i64 x1] 30)) = wn51 at *
  have mk := sameDy_same s1 x1 wn51 rd r1
  refine (mk).mono ?_
  rintro e w52 ⟨rfl, k52⟩
  replace r1 := r1.kept k52 (.inr (.inr (Nat.le_refl 0)))
  replace r2 := r2.kept k52 (.inr (.inr (Nat.le_refl 0)))
  replace r4 := r4.kept k52 (.inr (.inr (Nat.le_refl 0)))
  replace r6 := r6.kept k52 (.inr (.inr (Nat.le_refl 0)))
  replace rd := rd.kept k52 (.inr (.inr (Nat.le_refl 0)))
  replace ca0 := k52.cell0 ca0
  replace ca1 := k52.cell0 ca1
  replace ca2 := k52.cell0 ca2
  replace cb0 := k52.cell0 cb0
  replace cb1 := k52.cell0 cb1
  replace cb2 := k52.cell0 cb2
  replace cc0 := k52.cell0 cc0
  replace cc1 := k52.cell0 cc1
  replace cc2 := k52.cell0 cc2
  replace cd0 := k52.cell0 cd0
  replace cd1 := k52.cell0 cd1
  replace cd2 := k52.cell0 cd2
  replace n60 := k52.cell0 n60
  replace n61 := k52.cell0 n61
  replace n62 := k52.cell0 n62
  replace n70 := k52.cell0 n70
  replace n71 := k52.cell0 n71
  replace n72 := k52.cell0 n72
  replace n80 := k52.cell0 n80
  replace n81 := k52.cell0 n81
  replace n82 := k52.cell0 n82
  replace n90 := k52.cell0 n90
  replace n91 := k52.cell0 n91
  replace n92 := k52.cell0 n92
  replace nd0 := k52.cell0 nd0
  replace nd1 := k52.cell0 nd1
  replace nd2 := k52.cell0 nd2
  replace K := hide ((unhide K).trans k52)
  have z53 := k52.size
  clear k52
  clear mk
  go_wp2_with fail
  have mo := dok_impl SS SE (by omega) (by omega) w52 r6
  rw [unhide HRS] at mo
  refine (mo).mono ?_
  rintro e w54 ⟨rfl, k54⟩
  replace r1 := r1.kept k54 (.inr (.inr (Nat.le_refl 0)))
  replace r2 := r2.kept k54 (.inr (.inr (Nat.le_refl 0)))
  replace r4 := r4.kept k54 (.inr (.inr (Nat.le_refl 0)))
  replace r6 := r6.kept k54 (.inr (.inr (Nat.le_refl 0)))
  replace rd := rd.kept k54 (.inr (.inr (Nat.le_refl 0)))
  replace ca0 := k54.cell0 ca0
  replace ca1 := k54.cell0 ca1
  replace ca2 := k54.cell0 ca2
  replace cb0 := k54.cell0 cb0
  replace cb1 := k54.cell0 cb1
  replace cb2 := k54.cell0 cb2
  replace cc0 := k54.cell0 cc0
  replace cc1 := k54.cell0 cc1
  replace cc2 := k54.cell0 cc2
  replace cd0 := k54.cell0 cd0
  replace cd1 := k54.cell0 cd1
  replace cd2 := k54.cell0 cd2
  replace n60 := k54.cell0 n60
  replace n61 := k54.cell0 n61
  replace n62 := k54.cell0 n62
  replace n70 := k54.cell0 n70
  replace n71 := k54.cell0 n71
  replace n72 := k54.cell0 n72
  replace n80 := k54.cell0 n80
  replace n81 := k54.cell0 n81
  replace n82 := k54.cell0 n82
  replace n90 := k54.cell0 n90
  replace n91 := k54.cell0 n91
  replace n92 := k54.cell0 n92
  replace nd0 := k54.cell0 nd0
  replace nd1 := k54.cell0 nd1
  replace nd2 := k54.cell0 nd2
  replace K := hide ((unhide K).trans k54)
  have z55 := k54.size
  clear k54
  clear mo
  go_wp2_with fail
  clear rd
  have mk := dmul_impl SS s3 SE x3 (by omega) (by omega) (by omega) (by omega) w54 r6 r4 ((unhide HT).kept (unhide K))
  obtain ⟨XB, hXB⟩ : ∃ y, ansDB (dokB SS SL SE && dokB s3 cs x3) (wval SS SL * wval s3 cs) (SE + x3) = y := ⟨_, rfl⟩
  obtain ⟨XS, hXS⟩ : ∃ y, ansDS (dokB SS SL SE && dokB s3 cs x3) (wval SS SL * wval s3 cs) (SE + x3) = y := ⟨_, rfl⟩
  obtain ⟨XL, hXL⟩ : ∃ y, ansDL (dokB SS SL SE && dokB s3 cs x3) (wval SS SL * wval s3 cs) (SE + x3) = y := ⟨_, rfl⟩
  obtain ⟨XE, hXE⟩ : ∃ y, ansDE (dokB SS SL SE && dokB s3 cs x3) (wval SS SL * wval s3 cs) (SE + x3) = y := ⟨_, rfl⟩
  have gX := ansDE_rng (dokB SS SL SE && dokB s3 cs x3) (wval SS SL * wval s3 cs) (SE + x3)
  rw [hXE] at gX
  rw [hXB, hXS, hXL, hXE] at mk
  have HX : Hid (Ans (dokB SS SL SE && dokB s3 cs x3) (wval SS SL * wval s3 cs) (SE + x3) XB XS XL XE) := ⟨hXB, hXS, hXL, hXE⟩
  clear hXB hXS hXL hXE
  refine (mk).mono ?_
  rintro e w56 ⟨vx, rfl, rx, k56⟩
  replace r1 := r1.kept k56 (.inr (.inr (Nat.le_refl 0)))
  replace r2 := r2.kept k56 (.inr (.inr (Nat.le_refl 0)))
  replace r4 := r4.kept k56 (.inr (.inr (Nat.le_refl 0)))
  replace r6 := r6.kept k56 (.inr (.inr (Nat.le_refl 0)))
  replace ca0 := k56.cell0 ca0
  replace ca1 := k56.cell0 ca1
  replace ca2 := k56.cell0 ca2
  replace cb0 := k56.cell0 cb0
  replace cb1 := k56.cell0 cb1
  replace cb2 := k56.cell0 cb2
  replace cc0 := k56.cell0 cc0
  replace cc1 := k56.cell0 cc1
  replace cc2 := k56.cell0 cc2
  replace cd0 := k56.cell0 cd0
  replace cd1 := k56.cell0 cd1
  replace cd2 := k56.cell0 cd2
  replace n60 := k56.cell0 n60
  replace n61 := k56.cell0 n61
  replace n62 := k56.cell0 n62
  replace n70 := k56.cell0 n70
  replace n71 := k56.cell0 n71
  replace n72 := k56.cell0 n72
  replace n80 := k56.cell0 n80
  replace n81 := k56.cell0 n81
  replace n82 := k56.cell0 n82
  replace n90 := k56.cell0 n90
  replace n91 := k56.cell0 n91
  replace n92 := k56.cell0 n92
  replace nd0 := k56.cell0 nd0
  replace nd1 := k56.cell0 nd1
  replace nd2 := k56.cell0 nd2
  replace K := hide ((unhide K).trans k56)
  have z57 := k56.size
  clear k56
  clear mk
  obtain ⟨ax, cx, hv⟩ := Row.form' rx
  subst hv
  have kn := (Kept.refl 0 0 w56).alloc (.cells #[.bool XS, .slice ax XL.length cx, .int .i64 XE] 30)
  have nx0 : (w56.alloc (.cells #[.bool XS, .slice ax XL.length cx, .int .i64 XE] 30)).cell? ⟨w56.heap.size, 0, none⟩ = some (.bool XS) := new_cell2 _ _ _ _ _ _ (by simp) rfl
  have nx1 : (w56.alloc (.cells #[.bool XS, .slice ax XL.length cx, .int .i64 XE] 30)).cell? ⟨w56.heap.size, 1, none⟩ = some (.slice ax XL.length cx) := new_cell2 _ _ _ _ _ _ (by simp) rfl
  have nx2 : (w56.alloc (.cells #[.bool XS, .slice ax XL.length cx, .int .i64 XE] 30)).cell? ⟨w56.heap.size, 2, none⟩ = some (.int .i64 XE) := new_cell2 _ _ _ _ _ _ (by simp) rfl
  have sz58 : w56.heap.size + 1 ≤ (w56.alloc (.cells #[.bool XS, .slice ax XL.length cx, .int .i64 XE] 30)).heap.size := by simp
  replace r1 := r1.kept kn (.inr (.inr (Nat.le_refl 0)))
  replace r2 := r2.kept kn (.inr (.inr (Nat.le_refl 0)))
  replace r4 := r4.kept kn (.inr (.inr (Nat.le_refl 0)))
  replace r6 := r6.kept kn (.inr (.inr (Nat.le_refl 0)))
  replace rx := rx.kept kn (.inr (.inr (Nat.le_refl 0)))
  replace ca0 := kn.cell0 ca0
  replace ca1 := kn.cell0 ca1
  replace ca2 := kn.cell0 ca2
  replace cb0 := kn.cell0 cb0
  replace cb1 := kn.cell0 cb1
  replace cb2 := kn.cell0 cb2
  replace cc0 := kn.cell0 cc0
  replace cc1 := kn.cell0 cc1
  replace cc2 := kn.cell0 cc2
  replace cd0 := kn.cell0 cd0
  replace cd1 := kn.cell0 cd1
  replace cd2 := kn.cell0 cd2
  replace n60 := kn.cell0 n60
  replace n61 := kn.cell0 n61
  replace n62 := kn.cell0 n62
  replace n70 := kn.cell0 n70
  replace n71 := kn.cell0 n71
  replace n72 := kn.cell0 n72
  replace n80 := kn.cell0 n80
  replace n81 := kn.cell0 n81
  replace n82 := kn.cell0 n82
  replace n90 := kn.cell0 n90
  replace n91 := kn.cell0 n91
  replace n92 := kn.cell0 n92
  replace nd0 := kn.cell0 nd0
  replace nd1 := kn.cell0 nd1
  replace nd2 := kn.cell0 nd2
  replace K := hide ((unhide K).trans kn)
  have z59 := kn.size
  clear kn
  go_wp2_with fail
  generalize (w56.alloc (.cells #[.bool XS, .slice ax XL.length cx, .int .i64 XE] 30)) = wn60 at *
  have mk := dmul_impl s1 s3 x1 x3 (by omega) (by omega) (by omega) (by omega) wn60 r1 r4 ((unhide HT).kept (unhide K))
  obtain ⟨YB, hYB⟩ : ∃ y, ansDB (dokB s1 xs x1 && dokB s3 cs x3) (wval s1 xs * wval s3 cs) (x1 + x3) = y := ⟨_, rfl⟩
  obtain ⟨YS, hYS⟩ : ∃ y, ansDS (dokB s1 xs x1 && dokB s3 cs x3) (wval s1 xs * wval s3 cs) (x1 + x3) = y := ⟨_, rfl⟩
  obtain ⟨YL, hYL⟩ : ∃ y, ansDL (dokB s1 xs x1 && dokB s3 cs x3) (wval s1 xs * wval s3 cs) (x1 + x3) = y := ⟨_, rfl⟩
  obtain ⟨YE, hYE⟩ : ∃ y, ansDE (dokB s1 xs x1 && dokB s3 cs x3) (wval s1 xs * wval s3 cs) (x1 + x3) = y := ⟨_, rfl⟩
  have gY := ansDE_rng (dokB s1 xs x1 && dokB s3 cs x3) (wval s1 xs * wval s3 cs) (x1 + x3)
  rw [hYE] at gY
  rw [hYB, hYS, hYL, hYE] at mk
  have HY : Hid (Ans (dokB s1 xs x1 && dokB s3 cs x3) (wval s1 xs * wval s3 cs) (x1 + x3) YB YS YL YE) := ⟨hYB, hYS, hYL, hYE⟩
  clear hYB hYS hYL hYE
  refine (mk).mono ?_
  rintro e w61 ⟨vy, rfl, ry, k61⟩
  replace r1 := r1.kept k61 (.inr (.inr (Nat.le_refl 0)))
  replace r2 := r2.kept k61 (.inr (.inr (Nat.le_refl 0)))
  replace r4 := r4.kept k61 (.inr (.inr (Nat.le_refl 0)))
  replace r6 := r6.kept k61 (.inr (.inr (Nat.le_refl 0)))
  replace rx := rx.kept k61 (.inr (.inr (Nat.le_refl 0)))
  replace ca0 := k61.cell0 ca0
  replace ca1 := k61.cell0 ca1
  replace ca2 := k61.cell0 ca2
  replace cb0 := k61.cell0 cb0
  replace cb1 := k61.cell0 cb1
  replace cb2 := k61.cell0 cb2
  replace cc0 := k61.cell0 cc0
  replace cc1 := k61.cell0 cc1
  replace cc2 := k61.cell0 cc2
  replace cd0 := k61.cell0 cd0
  replace cd1 := k61.cell0 cd1
  replace cd2 := k61.cell0 cd2
  replace n60 := k61.cell0 n60
  replace n61 := k61.cell0 n61
  replace n62 := k61.cell0 n62
  replace n70 := k61.cell0 n70
  replace n71 := k61.cell0 n71
  replace n72 := k61.cell0 n72
  replace n80 := k61.cell0 n80
  replace n81 := k61.cell0 n81
  replace n82 := k61.cell0 n82
  replace n90 := k61.cell0 n90
  replace n91 := k61.cell0 n91
  replace n92 := k61.cell0 n92
  replace nd0 := k61.cell0 nd0
  replace nd1 := k61.cell0 nd1
  replace nd2 := k61.cell0 nd2
  replace nx0 := k61.cell0 nx0
  replace nx1 := k61.cell0 nx1
  replace nx2 := k61.cell0 nx2
  replace K := hide ((unhide K).trans k61)
  have z62 := k61.size
  clear k61
  clear mk
  obtain ⟨ay, cy, hv⟩ := Row.form' ry
  subst hv
  have kn := (Kept.refl 0 0 w61).alloc (.cells #[.bool YS, .slice ay YL.length cy, .int .i64 YE] 30)
  have ny0 : (w61.alloc (.cells #[.bool YS, .slice ay YL.length cy, .int .i64 YE] 30)).cell? ⟨w61.heap.size, 0, none⟩ = some (.bool YS) := new_cell2 _ _ _ _ _ _ (by simp) rfl
  have ny1 : (w61.alloc (.cells #[.bool YS, .slice ay YL.length cy, .int .i64 YE] 30)).cell? ⟨w61.heap.size, 1, none⟩ = some (.slice ay YL.length cy) := new_cell2 _ _ _ _ _ _ (by simp) rfl
  have ny2 : (w61.alloc (.cells #[.bool YS, .slice ay YL.length cy, .int .i64 YE] 30)).cell? ⟨w61.heap.size, 2, none⟩ = some (.int .i64 YE) := new_cell2 _ _ _ _ _ _ (by simp) rfl
  have sz63 : w61.heap.size + 1 ≤ (w61.alloc (.cells #[.bool YS, .slice ay YL.length cy, .int .i64 YE] 30)).heap.size := by simp
  replace r1 := r1.kept kn (.inr (.inr (Nat.le_refl 0)))
  replace r2 := r2.kept kn (.inr (.inr (Nat.le_refl 0)))
  replace r4 := r4.kept kn (.inr (.inr (Nat.le_refl 0)))
  replace r6 := r6.kept kn (.inr (.inr (Nat.le_refl 0)))
  replace rx := rx.kept kn (.inr (.inr (Nat.le_refl 0)))
  replace ry := ry.kept kn (.inr (.inr (Nat.le_refl 0)))
  replace ca0 := kn.cell0 ca0
  replace ca1 := kn.cell0 ca1
  replace ca2 := kn.cell0 ca2
  replace cb0 := kn.cell0 cb0
  replace cb1 := kn.cell0 cb1
  replace cb2 := kn.cell0 cb2
  replace cc0 := kn.cell0 cc0
  replace cc1 := kn.cell0 cc1
  replace cc2 := kn.cell0 cc2
  replace cd0 := kn.cell0 cd0
  replace cd1 := kn.cell0 cd1
  replace cd2 := kn.cell0 cd2
  replace n60 := kn.cell0 n60
  replace n61 := kn.cell0 n61
  replace n62 := kn.cell0 n62
  replace n70 := kn.cell0 n70
  replace n71 := kn.cell0 n71
  replace n72 := kn.cell0 n72
  replace n80 := kn.cell0 n80
  replace n81 := kn.cell0 n81
  replace n82 := kn.cell0 n82
  replace n90 := kn.cell0 n90
  replace n91 := kn.cell0 n91
  replace n92 := kn.cell0 n92
  replace nd0 := kn.cell0 nd0
  replace nd1 := kn.cell0 nd1
  replace nd2 := kn.cell0 nd2
  replace nx0 := kn.cell0 nx0
  replace nx1 := kn.cell0 nx1
  replace nx2 := kn.cell0 nx2
  replace K := hide ((unhide K).trans kn)
  have z64 := kn.size
  clear kn
  go_wp2_with fail
  generalize (w61.alloc (.cells #[.bool YS, .slice ay YL.length cy, .int .i64 YE] 30)) = wn65 at *
  have mk := dmul_impl s2 s3 x2 x3 (by omega) (by omega) (by omega) (by omega) wn65 r2 r4 ((unhide HT).kept (unhide K))
  obtain ⟨ZB, hZB⟩ : ∃ y, ansDB (dokB s2 ys x2 && dokB s3 cs x3) (wval s2 ys * wval s3 cs) (x2 + x3) = y := ⟨_, rfl⟩
  obtain ⟨ZS, hZS⟩ : ∃ y, ansDS (dokB s2 ys x2 && dokB s3 cs x3) (wval s2 ys * wval s3 cs) (x2 + x3) = y := ⟨_, rfl⟩
  obtain ⟨ZL, hZL⟩ : ∃ y, ansDL (dokB s2 ys x2 && dokB s3 cs x3) (wval s2 ys * wval s3 cs) (x2 + x3) = y := ⟨_, rfl⟩
  obtain ⟨ZE, hZE⟩ : ∃ y, ansDE (dokB s2 ys x2 && dokB s3 cs x3) (wval s2 ys * wval s3 cs) (x2 + x3) = y := ⟨_, rfl⟩
  have gZ := ansDE_rng (dokB s2 ys x2 && dokB s3 cs x3) (wval s2 ys * wval s3 cs) (x2 + x3)
  rw [hZE] at gZ
  rw [hZB, hZS, hZL, hZE] at mk
  have HZ : Hid (Ans (dokB s2 ys x2 && dokB s3 cs x3) (wval s2 ys * wval s3 cs) (x2 + x3) ZB ZS ZL ZE) := ⟨hZB, hZS, hZL, hZE⟩
  clear hZB hZS hZL hZE
  refine (mk).mono ?_
  rintro e w66 ⟨vz, rfl, rz, k66⟩
  replace r1 := r1.kept k66 (.inr (.inr (Nat.le_refl 0)))
  replace r2 := r2.kept k66 (.inr (.inr (Nat.le_refl 0)))
  replace r4 := r4.kept k66 (.inr (.inr (Nat.le_refl 0)))
  replace r6 := r6.kept k66 (.inr (.inr (Nat.le_refl 0)))
  replace rx := rx.kept k66 (.inr (.inr (Nat.le_refl 0)))
  replace ry := ry.kept k66 (.inr (.inr (Nat.le_refl 0)))
  replace ca0 := k66.cell0 ca0
  replace ca1 := k66.cell0 ca1
  replace ca2 := k66.cell0 ca2
  replace cb0 := k66.cell0 cb0
  replace cb1 := k66.cell0 cb1
  replace cb2 := k66.cell0 cb2
  replace cc0 := k66.cell0 cc0
  replace cc1 := k66.cell0 cc1
  replace cc2 := k66.cell0 cc2
  replace cd0 := k66.cell0 cd0
  replace cd1 := k66.cell0 cd1
  replace cd2 := k66.cell0 cd2
  replace n60 := k66.cell0 n60
  replace n61 := k66.cell0 n61
  replace n62 := k66.cell0 n62
  replace n70 := k66.cell0 n70
  replace n71 := k66.cell0 n71
  replace n72 := k66.cell0 n72
  replace n80 := k66.cell0 n80
  replace n81 := k66.cell0 n81
  replace n82 := k66.cell0 n82
  replace n90 := k66.cell0 n90
  replace n91 := k66.cell0 n91
  replace n92 := k66.cell0 n92
  replace nd0 := k66.cell0 nd0
  replace nd1 := k66.cell0 nd1
  replace nd2 := k66.cell0 nd2
  replace nx0 := k66.cell0 nx0
  replace nx1 := k66.cell0 nx1
  replace nx2 := k66.cell0 nx2
  replace ny0 := k66.cell0 ny0
  replace ny1 := k66.cell0 ny1
  replace ny2 := k66.cell0 ny2
  replace K := hide ((unhide K).trans k66)
  have z67 := k66.size
  clear k66
  clear mk
  obtain ⟨az, cz, hv⟩ := Row.form' rz
  subst hv
  have kn := (Kept.refl 0 0 w66).alloc (.cells #[.bool ZS, .slice az ZL.length cz, .int .i64 ZE] 30)
  have nz0 : (w66.alloc (.cells #[.bool ZS, .slice az ZL.length cz, .int .i64 ZE] 30)).cell? ⟨w66.heap.size, 0, none⟩ = some (.bool ZS) := new_cell2 _ _ _ _ _ _ (by simp) rfl
  have nz1 : (w66.alloc (.cells #[.bool ZS, .slice az ZL.length cz, .int .i64 ZE] 30)).cell? ⟨w66.heap.size, 1, none⟩ = some (.slice az ZL.length cz) := new_cell2 _ _ _ _ _ _ (by simp) rfl
  have nz2 : (w66.alloc (.cells #[.bool ZS, .slice az ZL.length cz, .int .i64 ZE] 30)).cell? ⟨w66.heap.size, 2, none⟩ = some (.int .i64 ZE) := new_cell2 _ _ _ _ _ _ (by simp) rfl
  have sz68 : w66.heap.size + 1 ≤ (w66.alloc (.cells #[.bool ZS, .slice az ZL.length cz, .int .i64 ZE] 30)).heap.size := by simp
  replace r1 := r1.kept kn (.inr (.inr (Nat.le_refl 0)))
  replace r2 := r2.kept kn (.inr (.inr (Nat.le_refl 0)))
  replace r4 := r4.kept kn (.inr (.inr (Nat.le_refl 0)))
  replace r6 := r6.kept kn (.inr (.inr (Nat.le_refl 0)))
  replace rx := rx.kept kn (.inr (.inr (Nat.le_refl 0)))
  replace ry := ry.kept kn (.inr (.inr (Nat.le_refl 0)))
  replace rz := rz.kept kn (.inr (.inr (Nat.le_refl 0)))
  replace ca0 := kn.cell0 ca0
  replace ca1 := kn.cell0 ca1
  replace ca2 := kn.cell0 ca2
  replace cb0 := kn.cell0 cb0
  replace cb1 := kn.cell0 cb1
  replace cb2 := kn.cell0 cb2
  replace cc0 := kn.cell0 cc0
  replace cc1 := kn.cell0 cc1
  replace cc2 := kn.cell0 cc2
  replace cd0 := kn.cell0 cd0
  replace cd1 := kn.cell0 cd1
  replace cd2 := kn.cell0 cd2
  replace n60 := kn.cell0 n60
  replace n61 := kn.cell0 n61
  replace n62 := kn.cell0 n62
  replace n70 := kn.cell0 n70
  replace n71 := kn.cell0 n71
  replace n72 := kn.cell0 n72
  replace n80 := kn.cell0 n80
  replace n81 := kn.cell0 n81
  replace n82 := kn.cell0 n82
  replace n90 := kn.cell0 n90
  replace n91 := kn.cell0 n91
  replace n92 := kn.cell0 n92
  replace nd0 := kn.cell0 nd0
  replace nd1 := kn.cell0 nd1
  replace nd2 := kn.cell0 nd2
  replace nx0 := kn.cell0 nx0
  replace nx1 := kn.cell0 nx1
  replace nx2 := kn.cell0 nx2
  replace ny0 := kn.cell0 ny0
  replace ny1 := kn.cell0 ny1
  replace ny2 := kn.cell0 ny2
  replace K := hide ((unhide K).trans kn)
  have z69 := kn.size
  clear kn
  go_wp2_with fail
  generalize (w66.alloc (.cells #[.bool ZS, .slice az ZL.length cz, .int .i64 ZE] 30)) = wn70 at *
  have mk := dadd_impl YS ZS YE ZE (by omega) (by omega) (by omega) (by omega) wn70 ry rz ((unhide HT).kept (unhide K))
  obtain ⟨UB, hUB⟩ : ∃ y, ansDB (dokB YS YL YE && dokB ZS ZL ZE) (wval YS YL * 2 ^ (YE - min YE ZE).toNat + wval ZS ZL * 2 ^ (ZE - min YE ZE).toNat) (min YE ZE) = y := ⟨_, rfl⟩
  obtain ⟨US, hUS⟩ : ∃ y, ansDS (dokB YS YL YE && dokB ZS ZL ZE) (wval YS YL * 2 ^ (YE - min YE ZE).toNat + wval ZS ZL * 2 ^ (ZE - min YE ZE).toNat) (min YE ZE) = y := ⟨_, rfl⟩
  obtain ⟨UL, hUL⟩ : ∃ y, ansDL (dokB YS YL YE && dokB ZS ZL ZE) (wval YS YL * 2 ^ (YE - min YE ZE).toNat + wval ZS ZL * 2 ^ (ZE - min YE ZE).toNat) (min YE ZE) = y := ⟨_, rfl⟩
  obtain ⟨UE, hUE⟩ : ∃ y, ansDE (dokB YS YL YE && dokB ZS ZL ZE) (wval YS YL * 2 ^ (YE - min YE ZE).toNat + wval ZS ZL * 2 ^ (ZE - min YE ZE).toNat) (min YE ZE) = y := ⟨_, rfl⟩
  have gU := ansDE_rng (dokB YS YL YE && dokB ZS ZL ZE) (wval YS YL * 2 ^ (YE - min YE ZE).toNat + wval ZS ZL * 2 ^ (ZE - min YE ZE).toNat) (min YE ZE)
  rw [hUE] at gU
  rw [hUB, hUS, hUL, hUE] at mk
  have HU : Hid (Ans (dokB YS YL YE && dokB ZS ZL ZE) (wval YS YL * 2 ^ (YE - min YE ZE).toNat + wval ZS ZL * 2 ^ (ZE - min YE ZE).toNat) (min YE ZE) UB US UL UE) := ⟨hUB, hUS, hUL, hUE⟩
  clear hUB hUS hUL hUE
  refine (mk).mono ?_
  rintro e w71 ⟨vu, rfl, ru, k71⟩
  replace r1 := r1.kept k71 (.inr (.inr (Nat.le_refl 0)))
  replace r2 := r2.kept k71 (.inr (.inr (Nat.le_refl 0)))
  replace r4 := r4.kept k71 (.inr (.inr (Nat.le_refl 0)))
  replace r6 := r6.kept k71 (.inr (.inr (Nat.le_refl 0)))
  replace rx := rx.kept k71 (.inr (.inr (Nat.le_refl 0)))
  replace ry := ry.kept k71 (.inr (.inr (Nat.le_refl 0)))
  replace rz := rz.kept k71 (.inr (.inr (Nat.le_refl 0)))
  replace ca0 := k71.cell0 ca0
  replace ca1 := k71.cell0 ca1
  replace ca2 := k71.cell0 ca2
  replace cb0 := k71.cell0 cb0
  replace cb1 := k71.cell0 cb1
  replace cb2 := k71.cell0 cb2
  replace cc0 := k71.cell0 cc0
  replace cc1 := k71.cell0 cc1
  replace cc2 := k71.cell0 cc2
  replace cd0 := k71.cell0 cd0
  replace cd1 := k71.cell0 cd1
  replace cd2 := k71.cell0 cd2
  replace n60 := k71.cell0 n60
  replace n61 := k71.cell0 n61
  replace n62 := k71.cell0 n62
  replace n70 := k71.cell0 n70
  replace n71 := k71.cell0 n71
  replace n72 := k71.cell0 n72
  replace n80 := k71.cell0 n80
  replace n81 := k71.cell0 n81
  replace n82 := k71.cell0 n82
  replace n90 := k71.cell0 n90
  replace n91 := k71.cell0 n91
  replace n92 := k71.cell0 n92
  replace nd0 := k71.cell0 nd0
  replace nd1 := k71.cell0 nd1
  replace nd2 := k71.cell0 nd2
  replace nx0 := k71.cell0 nx0
  replace nx1 := k71.cell0 nx1
  replace nx2 := k71.cell0 nx2
  replace ny0 := k71.cell0 ny0
  replace ny1 := k71.cell0 ny1
  replace ny2 := k71.cell0 ny2
  replace nz0 := k71.cell0 nz0
  replace nz1 := k71.cell0 nz1
  replace nz2 := k71.cell0 nz2
  replace K := hide ((unhide K).trans k71)
  have z72 := k71.size
  clear k71
  clear mk
  obtain ⟨au, cu, hv⟩ := Row.form' ru
  subst hv
  cases XB
  · have kn := (Kept.refl 0 0 w71).alloc (.cells #[.bool US, .slice au UL.length cu, .int .i64 UE] 30)
    have nu0 : (w71.alloc (.cells #[.bool US, .slice au UL.length cu, .int .i64 UE] 30)).cell? ⟨w71.heap.size, 0, none⟩ = some (.bool US) := new_cell2 _ _ _ _ _ _ (by simp) rfl
    have nu1 : (w71.alloc (.cells #[.bool US, .slice au UL.length cu, .int .i64 UE] 30)).cell? ⟨w71.heap.size, 1, none⟩ = some (.slice au UL.length cu) := new_cell2 _ _ _ _ _ _ (by simp) rfl
    have nu2 : (w71.alloc (.cells #[.bool US, .slice au UL.length cu, .int .i64 UE] 30)).cell? ⟨w71.heap.size, 2, none⟩ = some (.int .i64 UE) := new_cell2 _ _ _ _ _ _ (by simp) rfl
    have sz73 : w71.heap.size + 1 ≤ (w71.alloc (.cells #[.bool US, .slice au UL.length cu, .int .i64 UE] 30)).heap.size := by simp
    replace r1 := r1.kept kn (.inr (.inr (Nat.le_refl 0)))
    replace r2 := r2.kept kn (.inr (.inr (Nat.le_refl 0)))
    replace r4 := r4.kept kn (.inr (.inr (Nat.le_refl 0)))
    replace r6 := r6.kept kn (.inr (.inr (Nat.le_refl 0)))
    replace rx := rx.kept kn (.inr (.inr (Nat.le_refl 0)))
    replace ry := ry.kept kn (.inr (.inr (Nat.le_refl 0)))
    replace rz := rz.kept kn (.inr (.inr (Nat.le_refl 0)))
    replace ru := ru.kept kn (.inr (.inr (Nat.le_refl 0)))
    replace ca0 := kn.cell0 ca0
    replace ca1 := kn.cell0 ca1
    replace ca2 := kn.cell0 ca2
    replace cb0 := kn.cell0 cb0
    replace cb1 := kn.cell0 cb1
    replace cb2 := kn.cell0 cb2
    replace cc0 := kn.cell0 cc0
    replace cc1 := kn.cell0 cc1
    replace cc2 := kn.cell0 cc2
    replace cd0 := kn.cell0 cd0
    replace cd1 := kn.cell0 cd1
    replace cd2 := kn.cell0 cd2
    replace n60 := kn.cell0 n60
    replace n61 := kn.cell0 n61
    replace n62 := kn.cell0 n62
    replace n70 := kn.cell0 n70
    replace n71 := kn.cell0 n71
    replace n72 := kn.cell0 n72
    replace n80 := kn.cell0 n80
    replace n81 := kn.cell0 n81
    replace n82 := kn.cell0 n82
    replace n90 := kn.cell0 n90
    replace n91 := kn.cell0 n91
    replace n92 := kn.cell0 n92
    replace nd0 := kn.cell0 nd0
    replace nd1 := kn.cell0 nd1
    replace nd2 := kn.cell0 nd2
    replace nx0 := kn.cell0 nx0
    replace nx1 := kn.cell0 nx1
    replace nx2 := kn.cell0 nx2
    replace ny0 := kn.cell0 ny0
    replace ny1 := kn.cell0 ny1
    replace ny2 := kn.cell0 ny2
    replace nz0 := kn.cell0 nz0
    replace nz1 := kn.cell0 nz1
    replace nz2 := kn.cell0 nz2
    replace K := hide ((unhide K).trans kn)
    have z74 := kn.size
    clear kn
    go_wp2_with fail
    generalize (w71.alloc (.cells #[.bool US, .slice au UL.length cu, .int .i64 UE] 30)) = wn75 at *
    try go_wp2_with fail
    go_ret
    exact ⟨rfl, (unhide K).toBelow⟩
  cases YB
  · have kn := (Kept.refl 0 0 w71).alloc (.cells #[.bool US, .slice au UL.length cu, .int .i64 UE] 30)
    have nu0 : (w71.alloc (.cells #[.bool US, .slice au UL.length cu, .int .i64 UE] 30)).cell? ⟨w71.heap.size, 0, none⟩ = some (.bool US) := new_cell2 _ _ _ _ _ _ (by simp) rfl
    have nu1 : (w71.alloc (.cells #[.bool US, .slice au UL.length cu, .int .i64 UE] 30)).cell? ⟨w71.heap.size, 1, none⟩ = some (.slice au UL.length cu) := new_cell2 _ _ _ _ _ _ (by simp) rfl
    have nu2 : (w71.alloc (.cells #[.bool US, .slice au UL.length cu, .int .i64 UE] 30)).cell? ⟨w71.heap.size, 2, none⟩ = some (.int .i64 UE) := new_cell2 _ _ _ _ _ _ (by simp) rfl
    have sz73 : w71.heap.size + 1 ≤ (w71.alloc (.cells #[.bool US, .slice au UL.length cu, .int .i64 UE] 30)).heap.size := by simp
    replace r1 := r1.kept kn (.inr (.inr (Nat.le_refl 0)))
    replace r2 := r2.kept kn (.inr (.inr (Nat.le_refl 0)))
    replace r4 := r4.kept kn (.inr (.inr (Nat.le_refl 0)))
    replace r6 := r6.kept kn (.inr (.inr (Nat.le_refl 0)))
    replace rx := rx.kept kn (.inr (.inr (Nat.le_refl 0)))
    replace ry := ry.kept kn (.inr (.inr (Nat.le_refl 0)))
    replace rz := rz.kept kn (.inr (.inr (Nat.le_refl 0)))
    replace ru := ru.kept kn (.inr (.inr (Nat.le_refl 0)))
    replace ca0 := kn.cell0 ca0
    replace ca1 := kn.cell0 ca1
    replace ca2 := kn.cell0 ca2
    replace cb0 := kn.cell0 cb0
    replace cb1 := kn.cell0 cb1
    replace cb2 := kn.cell0 cb2
    replace cc0 := kn.cell0 cc0
    replace cc1 := kn.cell0 cc1
    replace cc2 := kn.cell0 cc2
    replace cd0 := kn.cell0 cd0
    replace cd1 := kn.cell0 cd1
    replace cd2 := kn.cell0 cd2
    replace n60 := kn.cell0 n60
    replace n61 := kn.cell0 n61
    replace n62 := kn.cell0 n62
    replace n70 := kn.cell0 n70
    replace n71 := kn.cell0 n71
    replace n72 := kn.cell0 n72
    replace n80 := kn.cell0 n80
    replace n81 := kn.cell0 n81
    replace n82 := kn.cell0 n82
    replace n90 := kn.cell0 n90
    replace n91 := kn.cell0 n91
    replace n92 := kn.cell0 n92
    replace nd0 := kn.cell0 nd0
    replace nd1 := kn.cell0 nd1
    replace nd2 := kn.cell0 nd2
    replace nx0 := kn.cell0 nx0
    replace nx1 := kn.cell0 nx1
    replace nx2 := kn.cell0 nx2
    replace ny0 := kn.cell0 ny0
    replace ny1 := kn.cell0 ny1
    replace ny2 := kn.cell0 ny2
    replace nz0 := kn.cell0 nz0
    replace nz1 := kn.cell0 nz1
    replace nz2 := kn.cell0 nz2
    replace K := hide ((unhide K).trans kn)
    have z74 := kn.size
    clear kn
    go_wp2_with fail
    generalize (w71.alloc (.cells #[.bool US, .slice au UL.length cu, .int .i64 UE] 30)) = wn75 at *
    try go_wp2_with fail
    go_ret
    exact ⟨rfl, (unhide K).toBelow⟩
  cases ZB
  · have kn := (Kept.refl 0 0 w71).alloc (.cells #[.bool US, .slice au UL.length cu, .int .i64 UE] 30)
    have nu0 : (w71.alloc (.cells #[.bool US, .slice au UL.length cu, .int .i64 UE] 30)).cell? ⟨w71.heap.size, 0, none⟩ = some (.bool US) := new_cell2 _ _ _ _ _ _ (by simp) rfl
    have nu1 : (w71.alloc (.cells #[.bool US, .slice au UL.length cu, .int .i64 UE] 30)).cell? ⟨w71.heap.size, 1, none⟩ = some (.slice au UL.length cu) := new_cell2 _ _ _ _ _ _ (by simp) rfl
    have nu2 : (w71.alloc (.cells #[.bool US, .slice au UL.length cu, .int .i64 UE] 30)).cell? ⟨w71.heap.size, 2, none⟩ = some (.int .i64 UE) := new_cell2 _ _ _ _ _ _ (by simp) rfl
    have sz73 : w71.heap.size + 1 ≤ (w71.alloc (.cells #[.bool US, .slice au UL.length cu, .int .i64 UE] 30)).heap.size := by simp
    replace r1 := r1.kept kn (.inr (.inr (Nat.le_refl 0)))
    replace r2 := r2.kept kn (.inr (.inr (Nat.le_refl 0)))
    replace r4 := r4.kept kn (.inr (.inr (Nat.le_refl 0)))
    replace r6 := r6.kept kn (.inr (.inr (Nat.le_refl 0)))
    replace rx := rx.kept kn (.inr (.inr (Nat.le_refl 0)))
    replace ry := ry.kept kn (.inr (.inr (Nat.le_refl 0)))
    replace rz := rz.kept kn (.inr (.inr (Nat.le_refl 0)))
    replace ru := ru.kept kn (.inr (.inr (Nat.le_refl 0)))
    replace ca0 := kn.cell0 ca0
    replace ca1 := kn.cell0 ca1
    replace ca2 := kn.cell0 ca2
    replace cb0 := kn.cell0 cb0
    replace cb1 := kn.cell0 cb1
    replace cb2 := kn.cell0 cb2
    replace cc0 := kn.cell0 cc0
    replace cc1 := kn.cell0 cc1
    replace cc2 := kn.cell0 cc2
    replace cd0 := kn.cell0 cd0
    replace cd1 := kn.cell0 cd1
    replace cd2 := kn.cell0 cd2
    replace n60 := kn.cell0 n60
    replace n61 := kn.cell0 n61
    replace n62 := kn.cell0 n62
    replace n70 := kn.cell0 n70
    replace n71 := kn.cell0 n71
    replace n72 := kn.cell0 n72
    replace n80 := kn.cell0 n80
    replace n81 := kn.cell0 n81
    replace n82 := kn.cell0 n82
    replace n90 := kn.cell0 n90
    replace n91 := kn.cell0 n91
    replace n92 := kn.cell0 n92
    replace nd0 := kn.cell0 nd0
    replace nd1 := kn.cell0 nd1
    replace nd2 := kn.cell0 nd2
    replace nx0 := kn.cell0 nx0
    replace nx1 := kn.cell0 nx1
    replace nx2 := kn.cell0 nx2
    replace ny0 := kn.cell0 ny0
    replace ny1 := kn.cell0 ny1
    replace ny2 := kn.cell0 ny2
    replace nz0 := kn.cell0 nz0
    replace nz1 := kn.cell0 nz1
    replace nz2 := kn.cell0 nz2
    replace K := hide ((unhide K).trans kn)
    have z74 := kn.size
    clear kn
    go_wp2_with fail
    generalize (w71.alloc (.cells #[.bool US, .slice au UL.length cu, .int .i64 UE] 30)) = wn75 at *
    try go_wp2_with fail
    go_ret
    exact ⟨rfl, (unhide K).toBelow⟩
  cases UB
  · have kn := (Kept.refl 0 0 w71).alloc (.cells #[.bool US, .slice au UL.length cu, .int .i64 UE] 30)
    have nu0 : (w71.alloc (.cells #[.bool US, .slice au UL.length cu, .int .i64 UE] 30)).cell? ⟨w71.heap.size, 0, none⟩ = some (.bool US) := new_cell2 _ _ _ _ _ _ (by simp) rfl
    have nu1 : (w71.alloc (.cells #[.bool US, .slice au UL.length cu, .int .i64 UE] 30)).cell? ⟨w71.heap.size, 1, none⟩ = some (.slice au UL.length cu) := new_cell2 _ _ _ _ _ _ (by simp) rfl
    have nu2 : (w71.alloc (.cells #[.bool US, .slice au UL.length cu, .int .i64 UE] 30)).cell? ⟨w71.heap.size, 2, none⟩ = some (.int .i64 UE) := new_cell2 _ _ _ _ _ _ (by simp) rfl
    have sz73 : w71.heap.size + 1 ≤ (w71.alloc (.cells #[.bool US, .slice au UL.length cu, .int .i64 UE] 30)).heap.size := by simp
    replace r1 := r1.kept kn (.inr (.inr (Nat.le_refl 0)))
    replace r2 := r2.kept kn (.inr (.inr (Nat.le_refl 0)))
    replace r4 := r4.kept kn (.inr (.inr (Nat.le_refl 0)))
    replace r6 := r6.kept kn (.inr (.inr (Nat.le_refl 0)))
    replace rx := rx.kept kn (.inr (.inr (Nat.le_refl 0)))
    replace ry := ry.kept kn (.inr (.inr (Nat.le_refl 0)))
    replace rz := rz.kept kn (.inr (.inr (Nat.le_refl 0)))
    replace ru := ru.kept kn (.inr (.inr (Nat.le_refl 0)))
    replace ca0 := kn.cell0 ca0
    replace ca1 := kn.cell0 ca1
    replace ca2 := kn.cell0 ca2
    replace cb0 := kn.cell0 cb0
    replace cb1 := kn.cell0 cb1
    replace cb2 := kn.cell0 cb2
    replace cc0 := kn.cell0 cc0
    replace cc1 := kn.cell0 cc1
    replace cc2 := kn.cell0 cc2
    replace cd0 := kn.cell0 cd0
    replace cd1 := kn.cell0 cd1
    replace cd2 := kn.cell0 cd2
    replace n60 := kn.cell0 n60
    replace n61 := kn.cell0 n61
    replace n62 := kn.cell0 n62
    replace n70 := kn.cell0 n70
    replace n71 := kn.cell0 n71
    replace n72 := kn.cell0 n72
    replace n80 := kn.cell0 n80
    replace n81 := kn.cell0 n81
    replace n82 := kn.cell0 n82
    replace n90 := kn.cell0 n90
    replace n91 := kn.cell0 n91
    replace n92 := kn.cell0 n92
    replace nd0 := kn.cell0 nd0
    replace nd1 := kn.cell0 nd1
    replace nd2 := kn.cell0 nd2
    replace nx0 := kn.cell0 nx0
    replace nx1 := kn.cell0 nx1
    replace nx2 := kn.cell0 nx2
    replace ny0 := kn.cell0 ny0
    replace ny1 := kn.cell0 ny1
    replace ny2 := kn.cell0 ny2
    replace nz0 := kn.cell0 nz0
    replace nz1 := kn.cell0 nz1
    replace nz2 := kn.cell0 nz2
    replace K := hide ((unhide K).trans kn)
    have z74 := kn.size
    clear kn
    go_wp2_with fail
    generalize (w71.alloc (.cells #[.bool US, .slice au UL.length cu, .int .i64 UE] 30)) = wn75 at *
    try go_wp2_with fail
    go_ret
    exact ⟨rfl, (unhide K).toBelow⟩
  obtain ⟨h1, h2, h3⟩ := ring_dist (unhide HO1) (unhide HO2) (unhide HS) (unhide HX) (unhide HY) (unhide HZ) (unhide HU)
  subst h1 h2 h3
  have kn := (Kept.refl 0 0 w71).alloc (.cells #[.bool XS, .slice au XL.length cu, .int .i64 XE] 30)
  have nu0 : (w71.alloc (.cells #[.bool XS, .slice au XL.length cu, .int .i64 XE] 30)).cell? ⟨w71.heap.size, 0, none⟩ = some (.bool XS) := new_cell2 _ _ _ _ _ _ (by simp) rfl
  have nu1 : (w71.alloc (.cells #[.bool XS, .slice au XL.length cu, .int .i64 XE] 30)).cell? ⟨w71.heap.size, 1, none⟩ = some (.slice au XL.length cu) := new_cell2 _ _ _ _ _ _ (by simp) rfl
  have nu2 : (w71.alloc (.cells #[.bool XS, .slice au XL.length cu, .int .i64 XE] 30)).cell? ⟨w71.heap.size, 2, none⟩ = some (.int .i64 XE) := new_cell2 _ _ _ _ _ _ (by simp) rfl
  have sz73 : w71.heap.size + 1 ≤ (w71.alloc (.cells #[.bool XS, .slice au XL.length cu, .int .i64 XE] 30)).heap.size := by simp
  replace r1 := r1.kept kn (.inr (.inr (Nat.le_refl 0)))
  replace r2 := r2.kept kn (.inr (.inr (Nat.le_refl 0)))
  replace r4 := r4.kept kn (.inr (.inr (Nat.le_refl 0)))
  replace r6 := r6.kept kn (.inr (.inr (Nat.le_refl 0)))
  replace rx := rx.kept kn (.inr (.inr (Nat.le_refl 0)))
  replace ry := ry.kept kn (.inr (.inr (Nat.le_refl 0)))
  replace rz := rz.kept kn (.inr (.inr (Nat.le_refl 0)))
  replace ru := ru.kept kn (.inr (.inr (Nat.le_refl 0)))
  replace ca0 := kn.cell0 ca0
  replace ca1 := kn.cell0 ca1
  replace ca2 := kn.cell0 ca2
  replace cb0 := kn.cell0 cb0
  replace cb1 := kn.cell0 cb1
  replace cb2 := kn.cell0 cb2
  replace cc0 := kn.cell0 cc0
  replace cc1 := kn.cell0 cc1
  replace cc2 := kn.cell0 cc2
  replace cd0 := kn.cell0 cd0
  replace cd1 := kn.cell0 cd1
  replace cd2 := kn.cell0 cd2
  replace n60 := kn.cell0 n60
  replace n61 := kn.cell0 n61
  replace n62 := kn.cell0 n62
  replace n70 := kn.cell0 n70
  replace n71 := kn.cell0 n71
  replace n72 := kn.cell0 n72
  replace n80 := kn.cell0 n80
  replace n81 := kn.cell0 n81
  replace n82 := kn.cell0 n82
  replace n90 := kn.cell0 n90
  replace n91 := kn.cell0 n91
  replace n92 := kn.cell0 n92
  replace nd0 := kn.cell0 nd0
  replace nd1 := kn.cell0 nd1
  replace nd2 := kn.cell0 nd2
  replace nx0 := kn.cell0 nx0
  replace nx1 := kn.cell0 nx1
  replace nx2 := kn.cell0 nx2
  replace ny0 := kn.cell0 ny0
  replace ny1 := kn.cell0 ny1
  replace ny2 := kn.cell0 ny2
  replace nz0 := kn.cell0 nz0
  replace nz1 := kn.cell0 nz1
  replace nz2 := kn.cell0 nz2
  replace K := hide ((unhide K).trans kn)
  have z74 := kn.size
  clear kn
  go_wp2_with fail
  generalize (w71.alloc (.cells #[.bool XS, .slice au XL.length cu, .int .i64 XE] 30)) = wn75 at *
  have mk := sameDy_same XS XE wn75 rx ru
  refine (mk).mono ?_
  rintro e w76 ⟨rfl, k76⟩
  replace r1 := r1.kept k76 (.inr (.inr (Nat.le_refl 0)))
  replace r2 := r2.kept k76 (.inr (.inr (Nat.le_refl 0)))
  replace r4 := r4.kept k76 (.inr (.inr (Nat.le_refl 0)))
  replace r6 := r6.kept k76 (.inr (.inr (Nat.le_refl 0)))
  replace rx := rx.kept k76 (.inr (.inr (Nat.le_refl 0)))
  replace ry := ry.kept k76 (.inr (.inr (Nat.le_refl 0)))
  replace rz := rz.kept k76 (.inr (.inr (Nat.le_refl 0)))
  replace ru := ru.kept k76 (.inr (.inr (Nat.le_refl 0)))
  replace ca0 := k76.cell0 ca0
  replace ca1 := k76.cell0 ca1
  replace ca2 := k76.cell0 ca2
  replace cb0 := k76.cell0 cb0
  replace cb1 := k76.cell0 cb1
  replace cb2 := k76.cell0 cb2
  replace cc0 := k76.cell0 cc0
  replace cc1 := k76.cell0 cc1
  replace cc2 := k76.cell0 cc2
  replace cd0 := k76.cell0 cd0
  replace cd1 := k76.cell0 cd1
  replace cd2 := k76.cell0 cd2
  replace n60 := k76.cell0 n60
  replace n61 := k76.cell0 n61
  replace n62 := k76.cell0 n62
  replace n70 := k76.cell0 n70
  replace n71 := k76.cell0 n71
  replace n72 := k76.cell0 n72
  replace n80 := k76.cell0 n80
  replace n81 := k76.cell0 n81
  replace n82 := k76.cell0 n82
  replace n90 := k76.cell0 n90
  replace n91 := k76.cell0 n91
  replace n92 := k76.cell0 n92
  replace nd0 := k76.cell0 nd0
  replace nd1 := k76.cell0 nd1
  replace nd2 := k76.cell0 nd2
  replace nx0 := k76.cell0 nx0
  replace nx1 := k76.cell0 nx1
  replace nx2 := k76.cell0 nx2
  replace ny0 := k76.cell0 ny0
  replace ny1 := k76.cell0 ny1
  replace ny2 := k76.cell0 ny2
  replace nz0 := k76.cell0 nz0
  replace nz1 := k76.cell0 nz1
  replace nz2 := k76.cell0 nz2
  replace nu0 := k76.cell0 nu0
  replace nu1 := k76.cell0 nu1
  replace nu2 := k76.cell0 nu2
  replace K := hide ((unhide K).trans k76)
  have z77 := k76.size
  clear k76
  clear mk
  try go_wp2_with fail
  go_ret
  exact ⟨rfl, (unhide K).toBelow⟩

end Go.Proofs.YtedknfciomoofaaDoor

