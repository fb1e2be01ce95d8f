/-
  Contracts that the proofs of this seat share: INat27, PowNum.
-/
import Derived.Test.YtfikfmkhmojpfaaBI
import Derived.Test.YtfikfmkhmojpfaaBA
import Derived.Test.YtfikfmkhmojpfaaBE
namespace Go.Proofs.Ytfikfmkhmojpfaa
open Go.RowKit
set_option linter.unusedVariables false
set_option maxRecDepth 8000

theorem nextSq_zero {X : Nat} {xs : List Int} (hx : xs = limbs X) : nextSq xs [] = limbs (X ^ 1) := by unfold nextSq; rw [if_pos (show ([] : List Int).length = 0 from rfl), hx, Nat.pow_one]
theorem nextSq_pow {X b : Nat} {xs : List Int} (hx : xs = limbs X) (hb : b ≠ 0) : nextSq xs (limbs (X ^ b)) = limbs (X ^ (2 * b)) := by
  unfold nextSq
  by_cases h : (limbs (X ^ b)).length = 0
  · rw [if_pos h, hx]
    have h0 := limbs_eq_nil.1 (List.length_eq_zero_iff.1 h)
    have hX : X = 0 := by
      rcases Nat.eq_zero_or_pos X with h1 | h1
      · exact h1
      · have := Nat.pow_pos (n := b) h1; omega
    rw [hX, Nat.zero_pow (by omega)]
  · rw [if_neg h, limbs_val, ← Int.natCast_mul, Int.toNat_natCast, ← Nat.pow_add, Nat.two_mul]

/-- Three numbers, of which two are worked on, and what points to the third. -/
structure Sq (w0 wr : World) (gq gs gp gn : Nat) (vq vs vn : Value) (qs ss xs : List Int) : Prop where
  nq : Num w0.heap.size wr gq vq qs
  ns : Num w0.heap.size wr gs vs ss
  nn : Num 0 wr gn vn xs
  ptr : wr.cell? ⟨gp, 0, none⟩ = some (.pointer (some ⟨gn, 0, none⟩))
  k : Kept 0 0 w0 wr
  hq : w0.heap.size ≤ gq
  hs : w0.heap.size ≤ gs
  hp : w0.heap.size ≤ gp
  hn : gn < w0.heap.size
  own : ∀ i, vn.ownBlock = some i → i < w0.heap.size
  qs' : gq ≠ gs
  qp : gq ≠ gp
  sp : gs ≠ gp
  oq : ∀ i, vq.ownBlock = some i → i ≠ gs ∧ i ≠ gp ∧ i ≠ gq
  os : ∀ i, vs.ownBlock = some i → i ≠ gq ∧ i ≠ gp ∧ i ≠ gs

theorem Sq.kept {w0 wr w' : World} {gq gs gp gn : Nat} {vq vs vn : Value} {qs ss xs : List Int} (h : Sq w0 wr gq gs gp gn vq vs vn qs ss xs) (k : Kept 0 0 wr w') : Sq w0 w' gq gs gp gn vq vs vn qs ss xs :=
  ⟨h.nq.kept k, h.ns.kept k, h.nn.kept k, k.cell0 h.ptr, h.k.trans k, h.hq, h.hs, h.hp, h.hn, h.own, h.qs', h.qp, h.sp, h.oq, h.os⟩
/-- The square turns. -/
theorem Sq.square {w0 wr w' : World} {gq gs gp gn : Nat} {vq vs vn u : Value} {qs ss xs zs : List Int} (h : Sq w0 wr gq gs gp gn vq vs vn qs ss xs) (n : Num wr.heap.size w' gs u zs) (m : Mod (fun i => i = gs) wr w') : Sq w0 w' gq gs gp gn vq u vn qs zs xs :=
  ⟨h.nq.mod m h.qs' (fun i hi e => (h.oq i hi).1 e), n.less h.k.size, h.nn.mod m (fun e => by have := h.hs; have := h.hn; omega) (fun i hi e => by have := h.own i hi; have := h.hs; omega), m.cellAt (fun e => h.sp e.symm) h.ptr, h.k.mod m (fun i e => by rw [e]; exact h.hs), h.hq, h.hs, h.hp, h.hn, h.own, h.qs', h.qp, h.sp, h.oq, fun i hi => by
    have h1 := (n.own.lt i hi).1
    have h2 := h.nq.lt
    have h3 := h.ns.lt
    have h4 := World.block_lt_of_cell? _ _ h.ptr
    simp at h4
    omega⟩
/-- The product turns. -/
theorem Sq.product {w0 wr w' : World} {gq gs gp gn : Nat} {vq vs vn u : Value} {qs ss xs zs : List Int} (h : Sq w0 wr gq gs gp gn vq vs vn qs ss xs) (n : Num wr.heap.size w' gq u zs) (m : Mod (fun i => i = gq) wr w') : Sq w0 w' gq gs gp gn u vs vn zs ss xs :=
  ⟨n.less h.k.size, h.ns.mod m (fun e => h.qs' e.symm) (fun i hi e => (h.os i hi).1 e), h.nn.mod m (fun e => by have := h.hq; have := h.hn; omega) (fun i hi e => by have := h.own i hi; have := h.hq; omega), m.cellAt (fun e => h.qp e.symm) h.ptr, h.k.mod m (fun i e => by rw [e]; exact h.hq), h.hq, h.hs, h.hp, h.hn, h.own, h.qs', h.qp, h.sp, fun i hi => by
    have h1 := (n.own.lt i hi).1
    have h2 := h.nq.lt
    have h3 := h.ns.lt
    have h4 := World.block_lt_of_cell? _ _ h.ptr
    simp at h4
    omega, h.os⟩

set_option maxHeartbeats 1000000 in
theorem squares_impl (w : World) (gn : Nat) :
    Calls Try.prog 108 #[.pointer (some ⟨gn, 0, none⟩)] w fun e w' => e = .returned (.func (.func 120) #[] #[.pointer (some ⟨w.heap.size + 1, 0, none⟩), .pointer (some ⟨w.heap.size, 0, none⟩)]) ∧ w' = (w.alloc (.cells #[.pointer (some ⟨gn, 0, none⟩)] 129)).alloc (.cells #[.slice none 0 0] 77) := by
  go_enter Try.func108, Try.ntmps108
  go_wp2
  go_ret
  exact ⟨rfl, rfl⟩

theorem odd_step {a b kc k : Nat} (h : a + b * kc = k) (ho : kc % 2 = 1) : a + b + 2 * b * (kc / 2) = k := by
  have e : kc = 2 * (kc / 2) + 1 := by omega
  rw [e, Nat.mul_add, Nat.mul_one] at h
  rw [Nat.mul_assoc, Nat.mul_left_comm]
  omega
theorem even_step {a b kc k : Nat} (h : a + b * kc = k) (ho : kc % 2 = 0) : a + 2 * b * (kc / 2) = k := by
  have e : kc = 2 * (kc / 2) := by omega
  rw [e] at h
  rw [Nat.mul_assoc, Nat.mul_left_comm]
  omega
theorem part_le {a b kc k : Nat} (h : a + b * kc = k) (h1 : 0 < kc) : a ≤ k ∧ b ≤ k := by
  have : b * 1 ≤ b * kc := Nat.mul_le_mul_left _ h1
  omega

set_option maxHeartbeats 4000000 in
theorem power_impl {bn gn : Nat} {vn : Value} {xs : List Int} (w : World) (hn : Num bn w gn vn xs) (X : Nat) (hx : xs = limbs X) (k : Nat) (hk : k ≤ 1600) (hb : ∀ m, m ≤ k → (limbs (X ^ m)).length ≤ 100000) (lx : xs.length ≤ 100000) :
    Calls Try.prog 92 #[.pointer (some ⟨gn, 0, none⟩), .int .i64 (k : Int)] w fun e w' => ∃ u, e = .returned (.agg #[u]) ∧ w'.ownsRow w.heap.size 3 1 u (limbs (X ^ k)).length ((limbs (X ^ k)).map (Value.int .i64)) ∧ Kept 0 0 w w' := by
  have k0 := (Kept.refl 0 0 w).alloc (.cells #[.slice none 0 0] 77)
  have cr : (w.alloc (.cells #[.slice none 0 0] 77)).cell? ⟨w.heap.size, 0, none⟩ = some (.slice none 0 0) := new_cell_at _ _ _ _ rfl
  have fr : (w.alloc (.cells #[.slice none 0 0] 77)).frozen? ⟨w.heap.size, 0, none⟩ = false := new_loose _ _ _ _ rfl
  have hs : (w.alloc (.cells #[.slice none 0 0] 77)).heap.size = w.heap.size + 1 := by simp
  have mn := (hn.kept k0).less (Nat.zero_le _)
  have hgn := hn.lt
  have hown : ∀ i, vn.ownBlock = some i → i < w.heap.size := fun i hi => (hn.own.lt i hi).2
  have HB := hide hb
  have HX := hide hx
  clear hn hb hx
  go_enter Try.func92, Try.ntmps92
  go_wp2_with fail
  generalize w.alloc (.cells #[.slice none 0 0] 77) = w0 at *
  refine (limbsOfInt_impl _ 1 (by decide)).mono ?_
  rintro e w5 ⟨v5, rfl, o5, k5⟩
  have s5 := k5.size
  generalize hL : limbs (1 : Int).toNat = L1 at *
  have E1 : Hid (L1 = limbs (X ^ 0)) := by show _ = _; rw [← hL, Nat.pow_zero]; rfl
  clear hL
  obtain ⟨a5, c5, e5⟩ := own_slice o5
  subst e5
  have n5 := Num.new 77 o5
  go_wp2_with fail
  have k6 := k5.alloc (.cells #[.slice a5 L1.length c5] 77)
  have s6 : (w5.alloc (.cells #[.slice a5 L1.length c5] 77)).heap.size = w5.heap.size + 1 := by simp
  generalize w5.alloc (.cells #[.slice a5 L1.length c5] 77) = w6 at *
  refine (squares_impl _ gn).mono ?_
  rintro e w7 ⟨rfl, hw7⟩
  have kp := (Kept.refl 0 0 w6).alloc (.cells #[.pointer (some ⟨gn, 0, none⟩)] 129)
  have kq := kp.alloc (.cells #[.slice none 0 0] 77)
  rw [← hw7] at kq
  have cp : w7.cell? ⟨w6.heap.size, 0, none⟩ = some (.pointer (some ⟨gn, 0, none⟩)) := by rw [hw7]; exact old_cell _ (new_cell_at _ _ _ _ rfl)
  have ns : Num w0.heap.size w7 (w6.heap.size + 1) (.slice none 0 0) [] := by
    rw [hw7]
    exact ⟨new_cell_at _ _ _ _ (by simp), new_loose _ _ _ _ (by simp), World.ownsRow_nil _ _ _ _, by simp [Value.ownBlock]⟩
  have sq0 : Sq w0 w7 w5.heap.size (w6.heap.size + 1) w6.heap.size gn (.slice a5 L1.length c5) (.slice none 0 0) vn L1 [] xs :=
    ⟨n5.kept kq, ns, (mn.kept k6).kept kq, cp, k6.trans kq, s5, by omega, by omega, by omega, fun i hi => by have := hown i hi; omega, by omega, by omega, by omega, fun i hi => by have := (n5.own.lt i hi).1; have := (o5.lt i hi).2; omega, fun i hi => by simp [Value.ownBlock] at hi⟩
  have SQ := hide sq0
  clear hw7 kp kq cp ns sq0 k6 n5 o5 k5 mn
  go_wp2_with fail
  rw [s6] at SQ
  generalize w5.heap.size = gq at *
  go_loopw [1] (fun kk wr => ∃ (kc a b : Nat) (vq vs : Value) (ss : List Int), kk = .int .i64 (kc : Int) ∧ Hid (a + b * kc = k) ∧ b ≠ 0 ∧ kc ≤ k ∧ Sq w0 wr gq (gq + 1 + 1) (gq + 1) gn vq vs vn (limbs (X ^ a)) ss xs ∧ Hid (nextSq xs ss = limbs (X ^ b)) ∧ Lim ss ∧ ss.length ≤ 100000) (fun kk _ => (intOf kk).toNat)
  case atStart => exact ⟨k, 0, 1, _, _, [], rfl, hide (by omega), by decide, Nat.le_refl _, by rw [← unhide E1]; exact unhide SQ, nextSq_zero (unhide HX), Lim.nil, by simp⟩
  case round =>
    clear SQ
    obtain ⟨kc, a, b, vq, vs, ss, rfl, hab, hb0, hkc, sq, hnx, hls, hll⟩ := hrel
    by_cases h0 : 0 < kc
    · have h0' : (0 : Int) < (kc : Int) := by omega
      have hle := part_le (unhide hab) h0
      have hb1 := unhide HB b hle.2
      have ha1 := unhide HB a hle.1
      have hc7 := sq.ns.cell
      have hgn0 := sq.hn
      go_wp2_with fail
      refine (square_impl _ sq.ns sq.ptr sq.nn hls hll lx).mono ?_
      rintro e w8 ⟨u8, rfl, n8, m8⟩
      rw [unhide hnx] at n8
      have sq8 := sq.square n8 m8
      generalize hzb : limbs (X ^ b) = zb at *
      obtain ⟨a8, c8, e8⟩ := n8.form
      subst e8
      have nsq : Num wr.heap.size (w8.alloc (.cells #[.slice a8 zb.length c8] 77)) w8.heap.size (.slice a8 zb.length c8) zb :=
        ⟨new_cell_at _ _ _ _ rfl, new_loose _ _ _ _ rfl, own_kept n8.own ((Kept.refl 0 0 w8).alloc _), fun e => by have := (n8.own.lt _ e).2; omega⟩
      have sq9 := sq8.kept ((Kept.refl 0 0 w8).alloc (.cells #[.slice a8 zb.length c8] 77))
      have hzl : Lim zb := by rw [← hzb]; exact limbs_lim _
      have HZB := hide hzb
      have HNX2 : Hid (nextSq xs zb = limbs (X ^ (2 * b))) := by show _ = _; rw [← hzb]; exact nextSq_pow (unhide HX) hb0
      clear sq sq8 n8 m8 hnx hzb hc7
      by_cases ho : kc % 2 = 1
      · have ho' : ((kc : Int).tmod 2 == 1) = true := by rw [Int.tmod_eq_emod_of_nonneg (by omega)]; simp; omega
        have ed : (kc : Int).tdiv 2 = ((kc / 2 : Nat) : Int) := by rw [Int.tdiv_eq_ediv_of_nonneg (by omega)]; omega
        have em : (kc : Int).tmod 2 = 1 := by rw [Int.tmod_eq_emod_of_nonneg (by omega)]; omega
        go_wp2_with fail
        generalize w8.alloc (.cells #[.slice a8 zb.length c8] 77) = w9 at *
        refine (multiply_impl _ sq9.nq nsq (limbs_lim _) hzl ha1 (by omega)).mono ?_
        rintro e wa ⟨⟨ra, rfl⟩, ua, na, ma⟩
        have sqa := sq9.product na ma
        rw [← unhide HZB, limbs_val, limbs_val, ← Int.natCast_mul, Int.toNat_natCast, ← Nat.pow_add] at sqa
        have SQA := hide sqa
        clear sqa na ma sq9 nsq
        go_wp2
        go_roundw
        case rel => exact ⟨kc / 2, a + b, 2 * b, ua, _, zb, rfl, hide (odd_step (unhide hab) ho), by omega, by omega, by rw [unhide HZB] at SQA; exact unhide SQA, HNX2, hzl, by omega⟩
        case measure => simp [intOf]; omega
      · have ed : (kc : Int).tdiv 2 = ((kc / 2 : Nat) : Int) := by rw [Int.tdiv_eq_ediv_of_nonneg (by omega)]; omega
        have em : (kc : Int).tmod 2 = 0 := by rw [Int.tmod_eq_emod_of_nonneg (by omega)]; omega
        have SQA := hide sq9
        clear sq9 nsq
        go_wp2
        go_roundw
        case rel => exact ⟨kc / 2, a, 2 * b, _, _, zb, rfl, hide (even_step (unhide hab) (by omega)), by omega, by omega, unhide SQA, HNX2, hzl, by omega⟩
        case measure => simp [intOf]; omega
    · have hkz : kc = 0 := by omega
      subst hkz
      have hak : a = k := by have := unhide hab; omega
      subst hak
      have h0' : ¬ (0 : Int) < ((0 : Nat) : Int) := by omega
      have cq := sq.nq.cell
      have c3 := sq.k.cell0 cr
      have f3 := sq.k.loose0 (World.block_lt_of_cell? _ _ cr) fr
      obtain ⟨zz, hzz⟩ : ∃ zz, zz = limbs (X ^ a) := ⟨_, rfl⟩
      have HZ := hide hzz
      rw [← hzz] at sq
      obtain ⟨a8, c8, e8⟩ := sq.nq.form
      subst e8
      have O := hide (own_less (own_apart sq.nq.own (p := ⟨w.heap.size, 0, none⟩) (fun e => by have := (sq.nq.own.lt _ e).1; simp at this; omega) (.slice a8 zz.length c8)) (show w.heap.size ≤ w0.heap.size by omega))
      have KF := hide ((k0.trans sq.k).setNew (p := ⟨w.heap.size, 0, none⟩) (Nat.le_refl _) (.slice a8 zz.length c8))
      clear sq hzz hnx
      go_wp2
      exact bodyPost_ret (v := .agg #[.slice a8 zz.length c8]) (by simp [results, Try.results92, go_sem, c3]) rfl ⟨_, rfl, by rw [← unhide HZ]; exact unhide O, unhide KF⟩

end Go.Proofs.Ytfikfmkhmojpfaa

namespace Go.Proofs.Ytfikfmkhmojpfaa
open Go.RowKit
set_option linter.unusedVariables false

theorem limbs_len_two (n j : Nat) : (limbs n).length ≤ j ↔ n < 2 ^ (16 * j) := by
  rw [limbs_length_le, pow_limb]
  omega
theorem bits_low {X B : Nat} (h : bitsN X = B) (h0 : 0 < B) : 2 ^ (B - 1) ≤ X := by
  rcases Nat.lt_or_ge X (2 ^ (B - 1)) with h1 | h1
  · have := (bitsN_le X (B - 1)).2 h1
    omega
  · exact h1
theorem bits_high (X : Nat) : X < 2 ^ bitsN X := (bitsN_le X _).1 (Nat.le_refl _)
theorem pow_big {X k : Nat} (h : 1600 ≤ ((bitsN X : Int) - 1) * (k : Int)) : 100 < (limbs (X ^ k)).length := by
  rcases Nat.lt_or_ge 100 (limbs (X ^ k)).length with h1 | h1
  · exact h1
  · exfalso
    have h2 := (limbs_len_two _ _).1 h1
    obtain ⟨B, hB⟩ : ∃ B, bitsN X = B := ⟨_, rfl⟩
    rw [hB] at h
    rcases Nat.eq_zero_or_pos B with hz | hz
    · subst hz
      have : ((0 : Nat) : Int) - 1 = -1 := by omega
      rw [this] at h
      omega
    · have h3 := bits_low hB hz
      have h4 : (2 ^ (B - 1)) ^ k ≤ X ^ k := Nat.pow_le_pow_left h3 k
      rw [← Nat.pow_mul] at h4
      have h5 : 1600 ≤ (B - 1) * k := by
        have e : (B : Int) - 1 = ((B - 1 : Nat) : Int) := by omega
        rw [e, ← Int.natCast_mul] at h
        omega
      obtain ⟨E, hE⟩ : ∃ E : Nat, E = 16 * 100 := ⟨_, rfl⟩
      rw [← hE] at h2
      have h6 : 2 ^ E ≤ 2 ^ ((B - 1) * k) := Nat.pow_le_pow_right (by decide) (by omega)
      exact Nat.lt_irrefl _ (Nat.lt_of_le_of_lt (Nat.le_trans h6 h4) h2)
theorem pow_small {X k : Nat} (h : ((bitsN X : Int) - 1) * (k : Int) < 1600) (m : Nat) (hm : m ≤ k) : (limbs (X ^ m)).length ≤ 100000 := by
  have h1 := bits_high X
  obtain ⟨B, hB⟩ : ∃ B, bitsN X = B := ⟨_, rfl⟩
  rw [hB] at h h1
  rcases Nat.lt_or_ge B 2 with hs | hs
  · have hX : X ≤ 1 := by
      have := Nat.pow_le_pow_right (n := 2) (by decide) (show B ≤ 1 by omega)
      omega
    have h2 : X ^ m ≤ 1 ^ m := Nat.pow_le_pow_left hX m
    rw [Nat.one_pow] at h2
    have := (limbs_length_le (X ^ m) 1).2 (by omega)
    omega
  · have h2 : X ^ m ≤ (2 ^ B) ^ m := Nat.pow_le_pow_left (by omega) m
    rw [← Nat.pow_mul] at h2
    have e : (B : Int) - 1 = ((B - 1 : Nat) : Int) := by omega
    rw [e, ← Int.natCast_mul] at h
    have h3 : B * m ≤ B * k := Nat.mul_le_mul_left _ hm
    have h4 : B * k ≤ 2 * (B - 1) * k := Nat.mul_le_mul_right _ (by omega)
    rw [Nat.mul_assoc] at h4
    have h5 : B * m < 3200 := by omega
    obtain ⟨E, hE⟩ : ∃ E : Nat, E = 16 * 201 := ⟨_, rfl⟩
    have h6 : 2 ^ (B * m) < 2 ^ E := Nat.pow_lt_pow_right (by decide) (by omega)
    have := (limbs_len_two (X ^ m) 201).2 (by rw [← hE]; exact Nat.lt_of_le_of_lt h2 h6)
    omega
theorem pow_long {X i k : Nat} (hi : i ≤ k) (h0 : 0 < i) (h : 100 < (limbs (X ^ i)).length) : 100 < (limbs (X ^ k)).length := by
  rcases Nat.eq_zero_or_pos X with hX | hX
  · subst hX
    rw [Nat.zero_pow h0, limbs_zero] at h
    simp at h
  · rcases Nat.lt_or_ge 100 (limbs (X ^ k)).length with h1 | h1
    · exact h1
    · have h2 := (limbs_len_two _ _).1 h1
      have h3 := Nat.pow_le_pow_right hX hi
      have := (limbs_len_two (X ^ i) 100).2 (Nat.lt_of_le_of_lt h3 h2)
      omega

end Go.Proofs.Ytfikfmkhmojpfaa
