/-
  Held intervals rounded outwards, in the program.
-/
import Derived.Test.YthahoabkehcgbaaGreatDoorqoKq1
import Derived.Test.YthahoabkehcgbaaGreatDoorqoRnd4n
import Derived.Test.YthahoabkehcgbaaGreatDoorqoHm3
import Derived.Test.YthahoabkehcgbaaGreatDoorqoBQ
import Derived.Test.YthahoabkehcgbaaGreatDoorqoWrk2
import Derived.Deep.DeepCutAuto
import Derived.Deep.RegionHeld3
namespace Go.Proofs.YthahoabkehcgbaaGreatDoor
open Go.RowKit
set_option linter.unusedVariables false
set_option maxRecDepth 8000
set_option linter.unusedSimpArgs false

theorem new_half {w : World} {b : Nat} {u : Value} {xs : List Int} (s : Bool) (low : Int) (mo : Bool) (t : TypeId) (O : OwnA b w u xs) :
    Wrk b (w.alloc (.cells #[u, .bool s, .int .i64 low, .bool mo] t)) w.heap.size u xs ∧ Sd (w.alloc (.cells #[u, .bool s, .int .i64 low, .bool mo] t)) w.heap.size s ∧ Ex (w.alloc (.cells #[u, .bool s, .int .i64 low, .bool mo] t)) w.heap.size low ∧ Mo (w.alloc (.cells #[u, .bool s, .int .i64 low, .bool mo] t)) w.heap.size mo :=
  ⟨⟨new_cell2 _ _ _ _ _ _ rfl rfl, new_loose2 _ _ _ _ _ rfl, O.kept ((Kept.refl 0 0 w).alloc _), fun e => by have := (O.lt e).2; omega⟩, ⟨new_cell2 _ _ _ _ _ _ rfl rfl, new_loose2 _ _ _ _ _ rfl⟩, ⟨new_cell2 _ _ _ _ _ _ rfl rfl, new_loose2 _ _ _ _ _ rfl⟩, ⟨new_cell2 _ _ _ _ _ _ rfl rfl, new_loose2 _ _ _ _ _ rfl⟩⟩
theorem new_dyaA {w : World} {b : Nat} {u : Value} {xs : List Int} (s : Bool) (x : Int) (t : TypeId) (O : OwnA b w u xs) :
    Wrk b (w.alloc (.cells #[u, .bool s, .int .i64 x] t)) w.heap.size u xs ∧ Sd (w.alloc (.cells #[u, .bool s, .int .i64 x] t)) w.heap.size s ∧ Ex (w.alloc (.cells #[u, .bool s, .int .i64 x] t)) w.heap.size x :=
  ⟨⟨new_cell2 _ _ _ _ _ _ rfl rfl, new_loose2 _ _ _ _ _ rfl, O.kept ((Kept.refl 0 0 w).alloc _), fun e => by have := (O.lt e).2; omega⟩, ⟨new_cell2 _ _ _ _ _ _ rfl rfl, new_loose2 _ _ _ _ _ rfl⟩, ⟨new_cell2 _ _ _ _ _ _ rfl rfl, new_loose2 _ _ _ _ _ rfl⟩⟩
theorem scN_le (V : Nat) (k : Int) (j : Nat) (hk : k ≤ 16 * (j : Int)) : scN V k ≤ V * 2 ^ (16 * j) := by
  unfold scN
  split
  · exact Nat.mul_le_mul_left _ (Nat.pow_le_pow_right (by decide) (by omega))
  · exact Nat.le_trans (Nat.div_le_self _ _) (Nat.le_mul_of_pos_right _ (Nat.pow_pos (by decide)))
theorem scN_len {zs : List Int} (h : Lim zs) (k : Int) (j : Nat) (hk : k ≤ 16 * (j : Int)) : (limbs (scN (val zs).toNat k)).length ≤ zs.length + j := by
  refine (limbs_length_le _ _).2 ?_
  have h1 := val_lt h
  have h2 := val_nonneg h
  have h3 := scN_le (val zs).toNat k j hk
  rw [pow_limb] at h1 ⊢
  have h4 : (val zs).toNat < 2 ^ (16 * zs.length) := by omega
  have h5 : (val zs).toNat * 2 ^ (16 * j) < 2 ^ (16 * zs.length) * 2 ^ (16 * j) := Nat.mul_lt_mul_of_pos_right h4 (Nat.pow_pos (by decide))
  rw [← Nat.pow_add, ← Nat.mul_add] at h5
  exact_mod_cast Nat.lt_of_le_of_lt h3 h5
theorem rndN_le (mode : Nat) (s : Bool) (H : Nat) (mo : Bool) : rndN mode s H mo ≤ H + 1 := by
  unfold rndN
  split <;> omega
theorem rndN_len (mode : Nat) (s : Bool) (H : Nat) (mo : Bool) : (limbs (rndN mode s H mo)).length ≤ (limbs H).length + 1 := by
  refine Nat.le_trans (limbs_len_le (rndN_le mode s H mo)) ?_
  have := limbs_succ_len (limbs H) (limbs_nrm H)
  rw [limbs_val, Int.toNat_natCast] at this
  exact this
def rvM (low mode : Int) (a : DE) : Int := rndM mode.toNat a.1 (val a.2.1).toNat (a.2.2 - (low - 1))
theorem rv_abs {low mode : Int} {a : DE} (h : dokB a.1 a.2.1 a.2.2 = true) (h0 : -3000 ≤ low) (h1 : low ≤ 3000) : (rvM low mode a).natAbs < 2 ^ (16 * 2000) := by
  obtain ⟨g1, g2, g3, -, -⟩ := dok_parts h
  obtain ⟨-, -, hl, hn⟩ := wok_int g1
  unfold rvM rndM
  rw [wval_abs (limbs_lim _), limbs_val, Int.toNat_natCast]
  have e1 := scN_len hn.1 (a.2.2 - (low - 1)) 1000 (by omega)
  have e2 := rndN_len mode.toNat a.1 (scN (val a.2.1).toNat (a.2.2 - (low - 1))) (scL (val a.2.1).toNat (a.2.2 - (low - 1)))
  have e3 : (limbs (rndN mode.toNat a.1 (scN (val a.2.1).toNat (a.2.2 - (low - 1))) (scL (val a.2.1).toNat (a.2.2 - (low - 1))))).length ≤ 2000 := by omega
  have e4 := (limbs_length_le _ _).1 e3
  rw [pow_limb] at e4
  exact_mod_cast e4

/-- The ends rounded outwards, in units of 2 to the power -3000. -/
def outM (q : Nat) : Int := if q % 2 = 0 then 3 else 2
def outV (low : Int) (ds : List DE) (q : Nat) : Int := rvM low (outM q) (ds.getD q de0) * 2 ^ (low + 3000).toNat
theorem outM_lo (p : Nat) : outM (2 * p) = 3 := by unfold outM; rw [if_pos (by omega)]
theorem outM_hi (p : Nat) : outM (2 * p + 1) = 2 := by unfold outM; rw [if_neg (by omega)]
theorem outV_lt {low : Int} {ds : List DE} {q : Nat} (h : dOkE (ds.getD q de0) = true) (h0 : -200 ≤ low) (h1 : low ≤ 200) : (outV low ds q).natAbs < 2 ^ AA := by
  have hr := rv_abs (low := low) (mode := outM q) h (by omega) (by omega)
  unfold outV
  obtain ⟨A, hA⟩ : ∃ A : Nat, A = 16 * 2000 := ⟨_, rfl⟩
  rw [← hA] at hr
  exact lt_up (shl_lt _ hr) (by unfold AA; omega)
theorem nE_out {low : Int} {ds : List DE} {q : Nat} (h0 : -3000 ≤ low) : nE (outV low ds q) (-3000) = nE (rvM low (outM q) (ds.getD q de0)) low := by
  unfold outV
  have := nE_shift (rvM low (outM q) (ds.getD q de0)) low (low + 3000).toNat
  rw [show low - ((low + 3000).toNat : Int) = -3000 by omega] at this
  exact this
/-- Rounding down goes down, rounding up goes up. -/
theorem rv_both {low : Int} {d : DE} (h : dokB d.1 d.2.1 d.2.2 = true) (h0 : -3000 ≤ low) : rvM low 3 d * 2 ^ (low + 3000).toNat ≤ dv (-3000) d ∧ dv (-3000) d ≤ rvM low 2 d * 2 ^ (low + 3000).toNat := by
  obtain ⟨s, z, y⟩ := d
  obtain ⟨g1, g2, g3, g4, g5⟩ := dok_parts h
  obtain ⟨-, -, hl, hn⟩ := wok_int g1
  dsimp only at *
  have hv0 := val_nonneg hn.1
  obtain ⟨N, hN⟩ : ∃ N : Nat, N = (val z).toNat := ⟨_, rfl⟩
  have hvN : val z = (N : Int) := by omega
  have key : ∀ mode : Int, rvM low mode (s, z, y) = (if s = true then -((rndN mode.toNat s (scN N (y - (low - 1))) (scL N (y - (low - 1))) : Nat) : Int) else ((rndN mode.toNat s (scN N (y - (low - 1))) (scL N (y - (low - 1))) : Nat) : Int)) := fun mode => by
    unfold rvM rndM
    dsimp only
    rw [← hN]
    unfold wval
    rw [limbs_val]
  have hdv : dv (-3000) (s, z, y) = (if s = true then -(N : Int) else (N : Int)) * 2 ^ (y + 3000).toNat := by
    unfold dv wval
    dsimp only
    rw [hvN, show y - -3000 = y + 3000 by omega]
  rw [key 3, key 2, hdv]
  show (if s = true then -((rndN 3 s (scN N (y - (low - 1))) (scL N (y - (low - 1))) : Nat) : Int) else ((rndN 3 s (scN N (y - (low - 1))) (scL N (y - (low - 1))) : Nat) : Int)) * _ ≤ _ ∧ _ ≤ (if s = true then -((rndN 2 s (scN N (y - (low - 1))) (scL N (y - (low - 1))) : Nat) : Int) else ((rndN 2 s (scN N (y - (low - 1))) (scL N (y - (low - 1))) : Nat) : Int)) * _
  by_cases hz : z = []
  · have hN0 : N = 0 := by rw [hN, hz]; rfl
    rw [hN0, (rnd_zero _ 3 s).2, (rnd_zero _ 2 s).2]
    cases s <;> simp
  have hodd : N % 2 = 1 := by have := g5 hz; omega
  by_cases hy : low ≤ y
  · obtain ⟨k, hk⟩ := Int.eq_ofNat_of_zero_le (show 0 ≤ y - low by omega)
    rw [show y - (low - 1) = (k : Int) + 1 by omega, (rnd_high N k 3 s).2, (rnd_high N k 2 s).2]
    have e : (2 : Int) ^ (y + 3000).toNat = 2 ^ k * 2 ^ (low + 3000).toNat := by
      rw [← Int.pow_add]; congr 1; omega
    rw [e, Int.natCast_mul, Int.natCast_pow]
    cases s
    · simp only [Bool.false_eq_true, if_false]
      rw [Int.mul_assoc]
      exact ⟨Int.le_refl _, Int.le_refl _⟩
    · simp only [if_true]
      rw [Int.neg_mul, Int.neg_mul, Int.mul_assoc]
      exact ⟨Int.le_refl _, Int.le_refl _⟩
  · obtain ⟨K, hK⟩ := Int.eq_ofNat_of_zero_le (show 0 ≤ low - y by omega)
    have hK0 : 0 < K := by omega
    rw [show y - (low - 1) = 1 - (K : Int) by omega, (rnd_low hK0 hodd 3 s).2, (rnd_low hK0 hodd 2 s).2]
    have e : (2 : Int) ^ (low + 3000).toNat = 2 ^ K * 2 ^ (y + 3000).toNat := by
      rw [← Int.pow_add]; congr 1; omega
    obtain ⟨B, hB⟩ : ∃ B : Int, B = 2 ^ (y + 3000).toNat := ⟨_, rfl⟩
    have hB0 : 0 ≤ B := by rw [hB]; exact Int.le_of_lt (Int.pow_pos (by decide))
    rw [e, ← hB]
    have d1 : ((N / 2 ^ K : Nat) : Int) * 2 ^ K ≤ (N : Int) := by
      have := Nat.div_mul_le_self N (2 ^ K)
      exact_mod_cast this
    have d2 : (N : Int) ≤ ((N / 2 ^ K + 1 : Nat) : Int) * 2 ^ K := by
      have := Nat.le_of_lt (Nat.lt_mul_div_succ N (Nat.pow_pos (n := K) (show 0 < 2 by decide)))
      rw [Nat.mul_comm] at this
      exact_mod_cast this
    have m1 := Int.mul_le_mul_of_nonneg_right d1 hB0
    have m2 := Int.mul_le_mul_of_nonneg_right d2 hB0
    cases s
    · have u3 : ∀ o h r, upsB 3 false o h r = false := fun _ _ _ => rfl
      have u2 : ∀ o h r, upsB 2 false o h r = true := fun _ _ _ => rfl
      simp only [u3, u2, Bool.false_eq_true, if_false, if_true, Nat.add_zero]
      rw [← Int.mul_assoc, ← Int.mul_assoc]
      exact ⟨m1, m2⟩
    · have u3 : ∀ o h r, upsB 3 true o h r = true := fun _ _ _ => rfl
      have u2 : ∀ o h r, upsB 2 true o h r = false := fun _ _ _ => rfl
      simp only [u3, u2, Bool.false_eq_true, if_false, if_true, Nat.add_zero]
      rw [Int.neg_mul, Int.neg_mul, Int.neg_mul, ← Int.mul_assoc, ← Int.mul_assoc]
      exact ⟨Int.neg_le_neg m2, Int.neg_le_neg m1⟩
theorem out_mono {n : Int} {ds : List DE} {m p : Nat} {low : Int} (h : imokB n ds m = true) (U : ∀ q, q < 2 * m → dOkE (ds.getD q de0) = true) (h0 : -3000 ≤ low) (hp : p < m) : outV low ds (2 * p) ≤ outV low ds (2 * p + 1) := by
  unfold outV
  rw [outM_lo, outM_hi]
  have a := (rv_both (U (2 * p) (by omega)) h0).1
  have b := (rv_both (U (2 * p + 1) (by omega)) h0).2
  have c := imok_le h hp
  omega

set_option maxHeartbeats 8000000 in
theorem near_impl {g : Nat} {d : DE} (low mode : Int) (w : World) (p : Pt w g d) (hd : dOkE d = true) (hl0 : -200 ≤ low) (hl1 : low ≤ 200) (hm0 : 0 ≤ mode) (hm4 : mode ≤ 4) (T : TabB w) :
    Calls Tryz.prog 120 #[.pointer (some ⟨g, 0, none⟩), .int .i64 low, .int .i64 mode] w fun e w' => ∃ t d', e = .returned (.pointer (some ⟨t, 0, none⟩)) ∧ DwK w.heap.size w'.heap.size w' t d' ∧ IsV (-3000) (rvM low mode d * 2 ^ (low + 3000).toNat) d' ∧ TelOk d' ∧ Kept 0 0 w w' := by
  obtain ⟨s, z, y⟩ := d
  obtain ⟨u, n, sd, ex⟩ := p
  obtain ⟨g1, g2, g3, -, -⟩ := dok_parts (show dokB s z y = true from hd)
  obtain ⟨-, -, hlz, hn⟩ := wok_int g1
  dsimp only at n sd ex
  obtain ⟨H, hH⟩ : ∃ H, H = scN (val z).toNat (y - (low - 1)) := ⟨_, rfl⟩
  obtain ⟨mo, hmo⟩ : ∃ H, H = scL (val z).toNat (y - (low - 1)) := ⟨_, rfl⟩
  have nH : (limbs H).length ≤ 2000 := by rw [hH]; have := scN_len hn.1 (y - (low - 1)) 1000 (by omega); omega
  have nR := rndN_len mode.toNat s H mo
  obtain ⟨RR, hRR⟩ : ∃ r, r = rndN mode.toNat s H mo := ⟨_, rfl⟩
  rw [← hRR] at nR
  have HIS : Hid (IsV (-3000) (rvM low mode (s, z, y) * 2 ^ (low + 3000).toNat) (s, limbs RR, low)) := by
    refine ⟨by dsimp only; omega, limbs_nrm _, ?_⟩
    unfold rvM rndM
    dsimp only
    rw [← hH, ← hmo, ← hRR, show low - -3000 = low + 3000 by omega]
  have HTE : Hid (TelOk (s, limbs RR, low)) := ⟨limbs_nrm _, by dsimp only; omega, by dsimp only; omega, by dsimp only; omega⟩
  have h1 := again_impl w n sd ex (by omega)
  have HH := hide hH
  have HMO := hide hmo
  have HRR := hide hRR
  have HN := hide hn
  have NH := hide nH
  have TT := hide T
  have HB := hide (And.intro g2 (And.intro g3 hlz))
  clear n sd ex g1 g2 g3 hlz hn hH hmo hRR nH nR hd T
  go_enter Tryz.func120, Tryz.ntmps120
  go_wp2_with fail
  refine h1.mono ?_
  rintro e w1 ⟨v1, rfl, o1, k1⟩
  obtain ⟨a1, c1, hv1⟩ := own_slice o1
  subst hv1
  obtain ⟨n2, d2, e2⟩ := new_dya s y 150 o1
  have kA := k1.alloc (.cells #[.slice a1 z.length c1, .bool s, .int .i64 y] 150)
  have hb1 : w.heap.size ≤ (w1.alloc (.cells #[.slice a1 z.length c1, .bool s, .int .i64 y] 150)).heap.size := kA.size
  have hbb := unhide HB
  have mc := cut_own _ n2 d2 e2 (unhide HN) (by omega) hb1 low (by omega) (by omega) (by omega) (by omega) ((unhide TT).kept kA)
  rw [← unhide HH, ← unhide HMO] at mc
  have OL := hide (fun i hi => (o1.lt i hi).1)
  have K1 := hide kA
  clear h1 n2 d2 e2 o1 k1 kA hbb hb1
  go_wp2_with fail
  refine mc.mono ?_
  rintro e w3 ⟨u3, rfl, o3, m3, m3b⟩
  obtain ⟨a3, c3, hv3⟩ := Row.form' o3.row
  subst hv3
  have K3 := hide ((unhide K1).mod m3 (fun i hi => unhide OL i hi))
  obtain ⟨n4, d4, e4, m4⟩ := new_half s low mo 198 o3
  have kB := (unhide K3).alloc (.cells #[.slice a3 (limbs H).length c3, .bool s, .int .i64 low, .bool mo] 198)
  have hnh := unhide NH
  have mr := rounded_own _ n4 (limbs_nrm H) (by omega) d4 e4 m4 kB.size mode hm0 hm4
  rw [limbs_val, Int.toNat_natCast, ← unhide HRR] at mr
  have OL3 := hide (fun i (hi : (Value.slice a3 (limbs H).length c3).ownBlock = some i) => (o3.lt hi).1)
  have Z3 := hide (unhide K3).size
  have K4 := hide kB
  clear mc m3 m3b n4 d4 e4 m4 kB o3 K1 K3 hnh
  go_wp2_with fail
  refine mr.mono ?_
  rintro e w5 ⟨u5, rfl, o5, m5, -⟩
  obtain ⟨a5, c5, hv5⟩ := Row.form' o5.row
  subst hv5
  have K5 := hide ((unhide K4).mod m5 (fun i hi => by
    rcases hi with h | h
    · subst h; exact unhide Z3
    · exact unhide OL3 i h))
  obtain ⟨n6, d6, e6⟩ := new_dyaA s low 150 o5
  have K6 := hide ((unhide K5).alloc (.cells #[.slice a5 (limbs RR).length c5, .bool s, .int .i64 low] 150))
  have zz := (unhide K5).size
  have z6 : (w5.alloc (.cells #[.slice a5 (limbs RR).length c5, .bool s, .int .i64 low] 150)).heap.size = w5.heap.size + 1 := by simp
  have DD : Hid (DwK w.heap.size (w5.alloc (.cells #[.slice a5 (limbs RR).length c5, .bool s, .int .i64 low] 150)).heap.size (w5.alloc (.cells #[.slice a5 (limbs RR).length c5, .bool s, .int .i64 low] 150)) w5.heap.size (s, limbs RR, low)) :=
    ⟨_, n6.less (fun i _ => Nat.zero_le _), d6, e6, zz, by omega, fun i hi => by have := o5.lt hi; omega⟩
  clear mr o5 m5 n6 d6 e6 zz z6 K4 K5
  go_wp2
  go_ret
  exact ⟨_, _, rfl, unhide DD, unhide HIS, unhide HTE, unhide K6⟩

end Go.Proofs.YthahoabkehcgbaaGreatDoor


namespace Go.Proofs.YthahoabkehcgbaaGreatDoor
open Go.RowKit
set_option linter.unusedVariables false
set_option maxRecDepth 8000
set_option linter.unusedSimpArgs false

theorem in_near : ∀ (w : World) (args : Array Value), (callFunc 120 args).run Tryz.prog w = .ok (.enter 120 args) w := enters Tryz.func120 (by decide) (fun h => by cases h)

theorem in_rounded1 : ∀ (w : World) (args : Array Value), (callFunc 119 args).run Tryz.prog w = .ok (.enter 119 args) w := enters Tryz.func119 (by decide) (fun h => by cases h)

set_option maxHeartbeats 8000000 in
theorem rounded1_impl {g1 g2 B : Nat} {a1 a2 : DE} (low : Int) (w : World) (p1 : Pt w g1 a1) (p2 : Pt w g2 a2) (i1 : dOkE a1 = true) (i2 : dOkE a2 = true) (hl0 : -200 ≤ low) (hl1 : low ≤ 200) (cb : w.cell? ⟨B, 0, none⟩ = some (.int .i64 low)) (T : TabB w) :
    Calls Tryz.prog 119 #[.agg #[.pointer (some ⟨g1, 0, none⟩), .pointer (some ⟨g2, 0, none⟩)], .pointer (some ⟨B, 0, none⟩)] w fun e w' => ∃ t1 t2 mid d1 d2, e = .returned (.agg #[.pointer (some ⟨t1, 0, none⟩), .pointer (some ⟨t2, 0, none⟩)]) ∧ DwK w.heap.size mid w' t1 d1 ∧ DwK mid w'.heap.size w' t2 d2 ∧ (IsV (-3000) (rvM low 3 a1 * 2 ^ (low + 3000).toNat) d1 ∧ TelOk d1) ∧ (IsV (-3000) (rvM low 2 a2 * 2 ^ (low + 3000).toNat) d2 ∧ TelOk d2) ∧ w.heap.size ≤ mid ∧ mid ≤ w'.heap.size ∧ Kept 0 0 w w' := by
  obtain ⟨W, hW⟩ : ∃ W, W = (w.alloc (.cells #[.pointer (some ⟨g1, 0, none⟩), .pointer (some ⟨g2, 0, none⟩)] 79)).alloc (.cells #[.pointer none, .pointer none] 79) := ⟨_, rfl⟩
  have k0 : Kept 0 0 w W := by rw [hW]; exact ((Kept.refl 0 0 w).alloc _).alloc _
  have e0 : W.cell? ⟨w.heap.size, 0, none⟩ = some (.pointer (some ⟨g1, 0, none⟩)) := by rw [hW]; exact old_cell _ (new_cell2 _ _ _ _ _ _ rfl rfl)
  have e1 : W.cell? ⟨w.heap.size, 1, none⟩ = some (.pointer (some ⟨g2, 0, none⟩)) := by rw [hW]; exact old_cell _ (new_cell2 _ _ _ _ _ _ rfl rfl)
  have q0 : W.cell? ⟨w.heap.size + 1, 0, none⟩ = some (.pointer none) := by rw [hW]; exact new_cell2 _ _ _ _ _ _ (by simp) rfl
  have q1 : W.cell? ⟨w.heap.size + 1, 1, none⟩ = some (.pointer none) := by rw [hW]; exact new_cell2 _ _ _ _ _ _ (by simp) rfl
  have f0 : W.frozen? ⟨w.heap.size + 1, 0, none⟩ = false := by rw [hW]; exact new_loose2 _ _ _ _ _ (by simp)
  have f1 : W.frozen? ⟨w.heap.size + 1, 1, none⟩ = false := by rw [hW]; exact new_loose2 _ _ _ _ _ (by simp)
  have SW : Hid (W.heap.size = w.heap.size + 2) := by show _ = _; rw [hW]; simp
  have hcb := World.block_lt_of_cell? _ _ cb
  dsimp only at hcb
  have kz := (Kept.refl 0 0 W).drew
  have kd := k0.trans kz
  have P1 := hide (p1.kept kd)
  have P2 := hide (p2.kept kd)
  have I1 := hide i1
  have I2 := hide i2
  have HL := hide (And.intro hl0 hl1)
  have TT := hide (T.kept kd)
  have HCB := hide hcb
  replace cb := kd.cell0 cb
  replace f0 := kz.loose0 (World.block_lt_of_cell? _ _ q0) f0
  replace f1 := kz.loose0 (World.block_lt_of_cell? _ _ q1) f1
  replace e0 := kz.cell0 e0
  replace e1 := kz.cell0 e1
  replace q0 := kz.cell0 q0
  replace q1 := kz.cell0 q1
  have KD := hide kd
  clear p1 p2 i1 i2 hl0 hl1 hcb kd kz k0 T
  go_enter Tryz.func119, Tryz.ntmps119
  go_wp2_with fail
  rw [← hW]
  clear hW
  refine wp_region_held_drew (S := (fun w' => w'.cell? ⟨w.heap.size, 0, none⟩ = some (.pointer (some ⟨g1, 0, none⟩)) ∧ w'.cell? ⟨w.heap.size, 1, none⟩ = some (.pointer (some ⟨g2, 0, none⟩)) ∧ w'.cell? ⟨B, 0, none⟩ = some (.int .i64 low))) (by kernel_rfl) ?_ (fun hHeld => ?_)
  · exact ⟨e0, e1, cb⟩
  refine wpAnyH_take (i := 0) (oi := _) (v := .pointer (some ⟨w.heap.size, 0, none⟩)) rfl (by kernel_rfl) (by kernel_rfl) (by kernel_rfl) (fun _ _ _ h => h) (Or.inl ⟨by rfl, ?_⟩) hHeld ?_
  · intro wq hSw
    try dsimp only at hSw
    go_simp
  try simp only [Act.put, List.getElem_toArray, List.getElem_cons_succ, List.getElem_cons_zero, List.setIfInBounds_toArray, List.set_cons_zero, List.set_cons_succ]
  refine wpAnyH_take (i := 1) (oi := _) (v := .pointer (some ⟨g1, 0, none⟩)) rfl (by kernel_rfl) (by kernel_rfl) (by kernel_rfl) (fun _ _ _ h => h) (Or.inl ⟨by rfl, ?_⟩) hHeld ?_
  · intro wq hSw
    try dsimp only at hSw
    go_simp
  try simp only [Act.put, List.getElem_toArray, List.getElem_cons_succ, List.getElem_cons_zero, List.setIfInBounds_toArray, List.set_cons_zero, List.set_cons_succ]
  refine wpAnyH_take (i := 2) (oi := _) (v := .int .i64 low) rfl (by kernel_rfl) (by kernel_rfl) (by kernel_rfl) (fun _ _ _ h => h) (Or.inl ⟨by rfl, ?_⟩) hHeld ?_
  · intro wq hSw
    try dsimp only at hSw
    go_simp
  try simp only [Act.put, List.getElem_toArray, List.getElem_cons_succ, List.getElem_cons_zero, List.setIfInBounds_toArray, List.set_cons_zero, List.set_cons_succ]
  refine wpAnyH_take (i := 4) (oi := _) (v := .pointer (some ⟨w.heap.size, 1, none⟩)) rfl (by kernel_rfl) (by kernel_rfl) (by kernel_rfl) (fun _ _ _ h => h) (Or.inl ⟨by rfl, ?_⟩) hHeld ?_
  · intro wq hSw
    try dsimp only at hSw
    go_simp
  try simp only [Act.put, List.getElem_toArray, List.getElem_cons_succ, List.getElem_cons_zero, List.setIfInBounds_toArray, List.set_cons_zero, List.set_cons_succ]
  refine wpAnyH_take (i := 5) (oi := _) (v := .pointer (some ⟨g2, 0, none⟩)) rfl (by kernel_rfl) (by kernel_rfl) (by kernel_rfl) (fun _ _ _ h => h) (Or.inl ⟨by rfl, ?_⟩) hHeld ?_
  · intro wq hSw
    try dsimp only at hSw
    go_simp
  try simp only [Act.put, List.getElem_toArray, List.getElem_cons_succ, List.getElem_cons_zero, List.setIfInBounds_toArray, List.set_cons_zero, List.set_cons_succ]
  refine wpAnyH_take (i := 6) (oi := _) (v := .int .i64 low) rfl (by kernel_rfl) (by kernel_rfl) (by kernel_rfl) (fun _ _ _ h => h) (Or.inl ⟨by rfl, ?_⟩) hHeld ?_
  · intro wq hSw
    try dsimp only at hSw
    go_simp
  try simp only [Act.put, List.getElem_toArray, List.getElem_cons_succ, List.getElem_cons_zero, List.setIfInBounds_toArray, List.set_cons_zero, List.set_cons_succ]
  refine wpAnyH_ready (rs := [3]) (by kernel_rfl) (by simp) ?_
  refine AllReadyH.cons rfl (fun KK hK => ?_) AllReadyH.nil
  simp only [List.getElem_toArray, List.getElem_cons_succ, List.getElem_cons_zero]
  rw [if_pos (by rfl)]
  obtain ⟨hl0, hl1⟩ := unhide HL
  refine wpt3 120 (.tmp 5) (.tmp 6) (.const (.int .i64 3)) _ rfl in_near (.pointer (some ⟨g1, 0, none⟩)) (.int .i64 low) (.int .i64 3) rfl rfl rfl (near_impl low 3 _ (unhide P1) (unhide I1) hl0 hl1 (by decide) (by decide) (unhide TT)) ?_
  rintro e w4 ⟨t4, d4, rfl, D4, v4, o4, k4⟩
  refine ⟨_, rfl, ?_⟩
  have W4 := hide D4
  have N4 := hide (And.intro v4 o4)
  replace P2 := hide ((unhide P2).kept k4)
  replace TT := hide ((unhide TT).kept k4)
  have K4 := hide ((unhide KD).trans k4)
  replace f0 := k4.loose0 (World.block_lt_of_cell? _ _ q0) f0
  replace f1 := k4.loose0 (World.block_lt_of_cell? _ _ q1) f1
  replace e0 := k4.cell0 e0
  replace e1 := k4.cell0 e1
  replace cb := k4.cell0 cb
  replace q0 := k4.cell0 q0
  replace q1 := k4.cell0 q1
  have Z4 := hide k4.size
  clear D4 v4 o4 k4 KD P1 I1
  clear hHeld
  refine hK.out _ _ ?_ (fun hHeld => ?_)
  · exact ⟨e0, e1, cb⟩
  clear hK KK
  try simp only [Act.put, List.getElem_toArray, List.getElem_cons_succ, List.getElem_cons_zero, List.setIfInBounds_toArray, List.set_cons_zero, List.set_cons_succ]
  refine wpAnyH_ready (rs := [7]) (by kernel_rfl) (by simp) ?_
  refine AllReadyH.cons rfl (fun KK hK => ?_) AllReadyH.nil
  simp only [List.getElem_toArray, List.getElem_cons_succ, List.getElem_cons_zero]
  rw [if_pos (by rfl)]
  refine wpt3 120 (.tmp 9) (.tmp 10) (.const (.int .i64 2)) _ rfl in_near (.pointer (some ⟨g2, 0, none⟩)) (.int .i64 low) (.int .i64 2) rfl rfl rfl (near_impl low 2 _ (unhide P2) (unhide I2) hl0 hl1 (by decide) (by decide) (unhide TT)) ?_
  rintro e w5 ⟨t5, d5, rfl, D5, v5, o5, k5⟩
  refine ⟨_, rfl, ?_⟩
  have W5 := hide D5
  have N5 := hide (And.intro v5 o5)
  replace W4 := hide (DwK.kept (unhide W4) k5)
  have K5 := hide ((unhide K4).trans k5)
  replace f0 := k5.loose0 (World.block_lt_of_cell? _ _ q0) f0
  replace f1 := k5.loose0 (World.block_lt_of_cell? _ _ q1) f1
  replace e0 := k5.cell0 e0
  replace e1 := k5.cell0 e1
  replace cb := k5.cell0 cb
  replace q0 := k5.cell0 q0
  replace q1 := k5.cell0 q1
  have Z5 := hide k5.size
  clear D5 v5 o5 k5 K4 P2 I2 TT hl0 hl1 HL
  clear hHeld
  refine hK.out _ _ ?_ (fun hHeld => ?_)
  · exact ⟨e0, e1, cb⟩
  clear hK KK
  try simp only [Act.put, List.getElem_toArray, List.getElem_cons_succ, List.getElem_cons_zero, List.setIfInBounds_toArray, List.set_cons_zero, List.set_cons_succ]
  refine wpAnyH_take (i := 8) (oi := _) (v := .agg #[.pointer (some ⟨t4, 0, none⟩), .pointer (some ⟨t5, 0, none⟩)]) rfl (by kernel_rfl) (by kernel_rfl) (by kernel_rfl) (fun _ _ _ h => h) (Or.inl ⟨by rfl, ?_⟩) hHeld ?_
  · intro wq hSw
    try dsimp only at hSw
    go_simp
  try simp only [Act.put, List.getElem_toArray, List.getElem_cons_succ, List.getElem_cons_zero, List.setIfInBounds_toArray, List.set_cons_zero, List.set_cons_succ]
  refine wpAnyH_ready (rs := [9]) (by kernel_rfl) (by simp) ?_
  refine AllReadyH.cons rfl (fun KK hK => ?_) AllReadyH.nil
  simp only [List.getElem_toArray, List.getElem_cons_succ, List.getElem_cons_zero]
  rw [if_pos (by rfl)]
  go_simp
  have ks : Kept (w.heap.size + 1) (w.heap.size + 2) w5 ((w5.setCell ⟨w.heap.size + 1, 0, none⟩ (.pointer (some ⟨t4, 0, none⟩))).setCell ⟨w.heap.size + 1, 1, none⟩ (.pointer (some ⟨t5, 0, none⟩))) := ((Kept.refl _ _ _).setCell (p := ⟨w.heap.size + 1, 0, none⟩) (Nat.le_refl _) (Nat.lt_succ_self _) _).setCell (p := ⟨w.heap.size + 1, 1, none⟩) (Nat.le_refl _) (Nat.lt_succ_self _) _
  have hcb := unhide HCB
  replace e0 := ks.cellOut (by dsimp only; omega) e0
  replace e1 := ks.cellOut (by dsimp only; omega) e1
  replace cb := ks.cellOut (by dsimp only; omega) cb
  clear hHeld
  refine hK.out _ _ ?_ (fun hHeld => ?_)
  · exact ⟨e0, e1, cb⟩
  clear hK KK
  try simp only [Act.put, List.getElem_toArray, List.getElem_cons_succ, List.getElem_cons_zero, List.setIfInBounds_toArray, List.set_cons_zero, List.set_cons_succ]
  refine wpAnyH_done (by kernel_rfl) ?_ _
  clear hHeld hcb
  have sW := unhide SW
  have hdz : W.drew.heap.size = W.heap.size := rfl
  have z4 := unhide Z4
  have z5 := unhide Z5
  have G0 := cell_off _ _ _ 1 (.pointer (some ⟨t5, 0, none⟩)) _ (cell_on _ _ _ (.pointer (some ⟨t4, 0, none⟩)) _ q0) (show (0 : Nat) ≠ 1 by omega)
  have G1 := cell_on _ _ _ (.pointer (some ⟨t5, 0, none⟩)) _ (cell_off _ _ _ 0 (.pointer (some ⟨t4, 0, none⟩)) _ q1 (show (1 : Nat) ≠ 0 by omega))
  have hsz : ((w5.setCell ⟨w.heap.size + 1, 0, none⟩ (.pointer (some ⟨t4, 0, none⟩))).setCell ⟨w.heap.size + 1, 1, none⟩ (.pointer (some ⟨t5, 0, none⟩))).heap.size = w5.heap.size := by rw [size_set, size_set]
  have D9 : Hid (DwK w.heap.size w4.heap.size ((w5.setCell ⟨w.heap.size + 1, 0, none⟩ (.pointer (some ⟨t4, 0, none⟩))).setCell ⟨w.heap.size + 1, 1, none⟩ (.pointer (some ⟨t5, 0, none⟩))) t4 d4 ∧ DwK w4.heap.size ((w5.setCell ⟨w.heap.size + 1, 0, none⟩ (.pointer (some ⟨t4, 0, none⟩))).setCell ⟨w.heap.size + 1, 1, none⟩ (.pointer (some ⟨t5, 0, none⟩))).heap.size ((w5.setCell ⟨w.heap.size + 1, 0, none⟩ (.pointer (some ⟨t4, 0, none⟩))).setCell ⟨w.heap.size + 1, 1, none⟩ (.pointer (some ⟨t5, 0, none⟩))) t5 d5 ∧ w.heap.size ≤ w4.heap.size ∧ w4.heap.size ≤ ((w5.setCell ⟨w.heap.size + 1, 0, none⟩ (.pointer (some ⟨t4, 0, none⟩))).setCell ⟨w.heap.size + 1, 1, none⟩ (.pointer (some ⟨t5, 0, none⟩))).heap.size) :=
    ⟨((unhide W4).mod ks.toModW (fun x h1 h2 h => by omega)).wider (by omega) (Nat.le_refl _), ((unhide W5).mod ks.toModW (fun x h1 h2 h => by omega)).wider (Nat.le_refl _) (by omega), by omega, by omega⟩
  have K9 := hide ((unhide K5).wide ks (by omega))
  clear W4 W5 ks hdz hsz K5 z4 z5 sW Z4 Z5 e0 e1 cb
  go_wp2
  exact bodyPost_ret (v := .agg #[.pointer (some ⟨t4, 0, none⟩), .pointer (some ⟨t5, 0, none⟩)]) (by simp [results, Tryz.results119, go_sem, G0, G1]) rfl ⟨t4, t5, w4.heap.size, d4, d5, rfl, (unhide D9).1, (unhide D9).2.1, unhide N4, unhide N5, (unhide D9).2.2.1, (unhide D9).2.2.2, unhide K9⟩

set_option maxHeartbeats 8000000 in
theorem rounded_outwards {R n b : Nat} {S : Nat → Prop} {G : Nat → Nat} {ds : List DE} (low : Int) (w : World) (hn : n ≤ 1000) (sq : SqH S w R n n G) (nm : Nums b S w (2 * (n * n)) G (fun q => ds.getD q de0)) (U : ∀ q, q < 2 * (n * n) → dOkE (ds.getD q de0) = true) (hl0 : -200 ≤ low) (hl1 : low ≤ 200) (T : TabB w) :
    Calls Tryz.prog 58 #[.agg #[.slice (some ⟨R, 0, none⟩) n n], .int .i64 low] w fun e w' => ∃ R' G' S' F', e = .returned (.agg #[.slice (some ⟨R', 0, none⟩) n n]) ∧ SqH S' w' R' n n G' ∧ NumsK w.heap.size S' w' (2 * (n * n)) G' F' ∧ (∀ q, q < 2 * (n * n) → IsV (-3000) (outV low ds q) (F' q) ∧ TelOk (F' q)) ∧ Kept 0 0 w w' := by
  obtain ⟨W, hW⟩ : ∃ W, W = ((w.alloc (.cells #[.slice (some ⟨R, 0, none⟩) n n] 76)).alloc (.cells #[.int .i64 low] 3)).alloc (.cells #[.slice none 0 0] 76) := ⟨_, rfl⟩
  have k0 : Kept 0 0 w W := by rw [hW]; exact (((Kept.refl 0 0 w).alloc _).alloc _).alloc _
  have c1 : W.cell? ⟨w.heap.size, 0, none⟩ = some (.slice (some ⟨R, 0, none⟩) n n) := by rw [hW]; exact old_cell _ (old_cell _ (new_cell_at _ _ _ _ rfl))
  have c0 : W.cell? ⟨w.heap.size + 1, 0, none⟩ = some (.int .i64 low) := by rw [hW]; exact old_cell _ (new_cell_at _ _ _ _ (by simp))
  have q0 : W.cell? ⟨w.heap.size + 2, 0, none⟩ = some (.slice none 0 0) := by rw [hW]; exact new_cell2 _ _ _ _ _ _ (by simp) rfl
  have qf : W.frozen? ⟨w.heap.size + 2, 0, none⟩ = false := by rw [hW]; exact new_loose2 _ _ _ _ _ (by simp)
  have sW : W.heap.size = w.heap.size + 3 := by rw [hW]; simp
  have hm := eachK_impl (FN := 119) (caps := #[.pointer (some ⟨w.heap.size + 1, 0, none⟩)]) (fun q d => IsV (-3000) (outV low ds q) d ∧ TelOk d) in_rounded1 W hn (sq.kept k0) (fun p w' hp k => by
    have := rounded1_impl low w' ((show Pt w (G (2 * p)) (ds.getD (2 * p) de0) from nm.at (by omega)).kept (k0.trans k)) ((show Pt w (G (2 * p + 1)) (ds.getD (2 * p + 1) de0) from nm.at (by omega)).kept (k0.trans k)) (U (2 * p) (by omega)) (U (2 * p + 1) (by omega)) hl0 hl1 (k.cell0 c0) (T.kept (k0.trans k))
    have e1 : outV low ds (2 * p) = rvM low 3 (ds.getD (2 * p) de0) * 2 ^ (low + 3000).toNat := by unfold outV; rw [outM_lo]
    have e2 : outV low ds (2 * p + 1) = rvM low 2 (ds.getD (2 * p + 1) de0) * 2 ^ (low + 3000).toNat := by unfold outV; rw [outM_hi]
    rw [← e1, ← e2] at this
    exact this)
  rw [hW] at hm c1
  have SW := hide sW
  clear sW c0 sq nm U hl0 hl1 T
  go_enter Tryz.func58, Tryz.ntmps58
  go_wp2_with fail
  refine hm.mono ?_
  rw [← hW]
  rintro e w1 ⟨R', G', S', F', rfl, sq, nm, hQ, hS, hR, k1⟩
  have q1 := k1.cell0 q0
  have qf1 := k1.loose0 (World.block_lt_of_cell? _ _ q0) qf
  have sW := unhide SW
  have E1 := cell_on w1 (w.heap.size + 2) 0 (.slice (some ⟨R', 0, none⟩) n n) _ q1
  have ks : Kept (w.heap.size + 2) (w.heap.size + 2 + 1) w1 (w1.setCell ⟨w.heap.size + 2, 0, none⟩ (.slice (some ⟨R', 0, none⟩) n n)) := (Kept.refl _ _ _).setCell (p := ⟨w.heap.size + 2, 0, none⟩) (Nat.le_refl _) (Nat.lt_succ_self _) _
  have S2 : Hid (SqH S' (w1.setCell ⟨w.heap.size + 2, 0, none⟩ (.slice (some ⟨R', 0, none⟩) n n)) R' n n G' ∧ NumsK w.heap.size S' (w1.setCell ⟨w.heap.size + 2, 0, none⟩ (.slice (some ⟨R', 0, none⟩) n n)) (2 * (n * n)) G' F') :=
    ⟨sq.keptY ks (by omega), (nm.win ks (by omega)).less (by omega)⟩
  have K2 := hide ((k0.trans k1).wide ks (by omega))
  have NQ := hide hQ
  clear hm sq nm hQ hS hR k1 ks sW q0 qf c1
  go_wp2
  exact bodyPost_ret (v := .agg #[.slice (some ⟨R', 0, none⟩) n n]) (by simp [results, Tryz.results58, go_sem, E1]) rfl ⟨R', G', S', F', rfl, (unhide S2).1, (unhide S2).2, unhide NQ, unhide K2⟩

end Go.Proofs.YthahoabkehcgbaaGreatDoor

