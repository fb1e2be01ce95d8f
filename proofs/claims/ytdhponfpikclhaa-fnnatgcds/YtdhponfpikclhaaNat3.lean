/-
  Contracts of what only reads numbers in the model: l2int, l2bits, l2cmp, l2bit, l2trail.
-/
import Derived.Test.YtdhponfpikclhaaNat1
namespace Go.Proofs.Ytdhponfpikclhaa
open Go.RowKit
set_option linter.unusedVariables false
set_option maxRecDepth 8000

theorem Lim.drop {zs : List Int} (h : Lim zs) (k : Nat) : Lim (zs.drop k) := fun z hz => h z (List.mem_of_mem_drop hz)
theorem Lim.take {zs : List Int} (h : Lim zs) (k : Nat) : Lim (zs.take k) := fun z hz => h z (List.mem_of_mem_take hz)
theorem val_drop_le {zs : List Int} (h : Lim zs) (k : Nat) : val (zs.drop k) ≤ val zs := by
  induction k with
  | zero => simp
  | succ k ih =>
    have h1 := val_drop zs k
    have h2 := (h.at k).1
    have h3 := val_nonneg (h.drop (k + 1))
    omega
/-- Greater, less, equal. -/
def cmpI (a b : Int) : Int := if a < b then -1 else if b < a then 1 else 0
theorem val_lt_of_drop {xs ys : List Int} (hx : Lim xs) (hy : Lim ys) (hl : xs.length = ys.length) (k : Nat) (hk : k ≤ xs.length) (h : val (xs.drop k) < val (ys.drop k)) : val xs < val ys := by
  rw [val_take_drop xs k hk, val_take_drop ys k (by omega)]
  have h1 := val_lt (hx.take k)
  have h2 := val_nonneg (hy.take k)
  rw [List.length_take, Nat.min_eq_left hk] at h1
  have h3 : (65536 : Int) ^ k * (val (xs.drop k) + 1) ≤ 65536 ^ k * val (ys.drop k) := Int.mul_le_mul_of_nonneg_left (by omega) (Int.le_of_lt (Int.pow_pos (by decide)))
  rw [Int.mul_add] at h3
  omega
theorem val_lt_of_len {xs ys : List Int} (hx : Lim xs) (hy : Nrm ys) (hl : xs.length < ys.length) : val xs < val ys := by
  have h1 := val_lt hx
  have h2 := nrm_pow hy (by intro e; subst e; simp at hl)
  have h3 := pow_mono (a := xs.length) (b := ys.length - 1) (by omega)
  omega

/-- How many bits a number has. -/
def bitsN (n : Nat) : Nat := if n = 0 then 0 else n.log2 + 1
theorem bitsN_half (n : Nat) (h : 0 < n) : bitsN n = bitsN (n / 2) + 1 := by
  unfold bitsN
  rw [if_neg (by omega), Nat.log2_def]
  by_cases h2 : 2 ≤ n
  · rw [if_pos h2, if_neg (by omega)]
  · rw [if_neg h2, if_pos (by omega)]
theorem bitsN_le (n k : Nat) : bitsN n ≤ k ↔ n < 2 ^ k := by
  unfold bitsN
  by_cases h : n = 0
  · subst h; simp [Nat.pow_pos]
  · rw [if_neg h, ← Nat.log2_lt h]; omega
theorem bitsN_unique {n b : Nat} (h : n < 2 ^ b) (h2 : b = 0 ∨ 2 ^ (b - 1) ≤ n) : bitsN n = b := by
  have h3 := (bitsN_le n b).2 h
  rcases h2 with h2 | h2
  · omega
  · have h4 : ¬ bitsN n ≤ b - 1 := by rw [bitsN_le]; omega
    omega
theorem pow_limb (k : Nat) : (65536 : Int) ^ k = ((2 ^ (16 * k) : Nat) : Int) := by
  rw [Nat.pow_mul]; simp
theorem bitsN_val {zs : List Int} (h : Lim zs) (n : Nat) (hn : zs.length = n + 1) (ht : 0 < zs.getD n 0) : bitsN (val zs).toNat = 16 * n + bitsN (zs.getD n 0).toNat := by
  have e := val_take_succ zs n (by omega)
  rw [← hn, List.take_length] at e
  have h1 := val_lt (h.take n)
  have h2 := val_nonneg (h.take n)
  rw [List.length_take, Nat.min_eq_left (by omega)] at h1
  obtain ⟨t, et⟩ : ∃ t : Nat, zs.getD n 0 = t := ⟨(zs.getD n 0).toNat, by omega⟩
  obtain ⟨u, eu⟩ : ∃ u : Nat, val (zs.take n) = u := ⟨(val (zs.take n)).toNat, by omega⟩
  rw [et, eu, pow_limb, ← Int.natCast_mul, ← Int.natCast_add] at e
  rw [e, et, Int.toNat_natCast, Int.toNat_natCast]
  rw [eu, pow_limb] at h1
  have h1' : u < 2 ^ (16 * n) := by omega
  have ht' : 0 < t := by omega
  have hb := (bitsN_le t (bitsN t)).1 (Nat.le_refl _)
  have hb2 : 2 ^ (bitsN t - 1) ≤ t := by
    have h4 : ¬ bitsN t ≤ bitsN t - 1 := by
      have := bitsN_half t ht'
      omega
    rw [bitsN_le] at h4; omega
  have hb3 := bitsN_half t ht'
  apply bitsN_unique
  · rw [Nat.pow_add]
    have : 2 ^ (16 * n) * (t + 1) ≤ 2 ^ (16 * n) * 2 ^ bitsN t := Nat.mul_le_mul_left _ hb
    rw [Nat.mul_add] at this
    omega
  · right
    rw [show 16 * n + bitsN t - 1 = 16 * n + (bitsN t - 1) from by omega, Nat.pow_add]
    have := Nat.mul_le_mul_left (2 ^ (16 * n)) hb2
    omega

set_option maxHeartbeats 1000000 in
theorem bits_spec {bw : Bool} {lo hi : Nat} {v : Value} {zs : List Int} (w : World) (r : Row .i64 bw lo hi w v zs) (hl : Nrm zs) (hlen : zs.length ≤ 1000000) :
    Calls Try.prog 162 #[.agg #[v]] w fun e w' => e = .returned (.int .i64 (bitsN (val zs).toNat)) ∧ Kept 0 0 w w' := by
  have rr := r
  obtain ⟨a, c, rfl, q1, m1, q3⟩ := r
  unfold maxLen at m1
  have hat := (row_cell (rr.kept ((Kept.refl 0 0 w).alloc (.cells #[.slice a zs.length c] 26)) (by omega))).2.2.2
  clear q3 rr
  by_cases h0 : zs = []
  · subst h0
    have e0 : bitsN (val []).toNat = 0 := rfl
    rw [e0]
    clear hat
    go_enter Try.func162, Try.ntmps162
    go_wp2
    go_ret
    exact ⟨rfl, (Kept.refl _ _ _).alloc _⟩
  · have h1 : 0 < zs.length := List.length_pos_iff.2 h0
    obtain ⟨n, hn⟩ : ∃ n, zs.length = n + 1 := ⟨zs.length - 1, by omega⟩
    have htop : zs.getD n 0 ≠ 0 := hl.2 _ (by rw [List.getLast?_eq_getElem?, hn]; simp [List.getD, hn])
    have hb := hl.1.at n
    have e1 := bitsN_val hl.1 n hn (by omega)
    obtain ⟨g, off, rfl, hc⟩ := hat n (by omega)
    obtain ⟨t, et⟩ : ∃ t : Nat, zs.getD n 0 = t := ⟨(zs.getD n 0).toNat, by omega⟩
    rw [et] at hc e1 hb
    rw [Int.toNat_natCast] at e1
    generalize bitsN (val zs).toNat = R at *
    have hne : ((zs.length : Int) == 0) = false := beq_eq_false_iff_ne.2 (by omega)
    have hbt : bitsN t ≤ 16 := (bitsN_le t 16).2 (by omega)
    rw [hn] at hlen hne q1 hc
    rw [show zs.length = n + 1 from hn]
    have hlen' : n ≤ 999999 := by omega
    have E1 := hide e1
    clear hat htop et h1 h0 e1 hl hlen
    go_enter Try.func162, Try.ntmps162
    go_wp2
    go_loop [3, 4] (fun m x => ∃ (s u : Nat), x = .int .i64 (u : Int) ∧ m = .int .i64 (s : Int) ∧ u ≤ 65535 ∧ Hid (s + bitsN u = R) ∧ R ≤ 16000000) (fun m x => (intOf x).toNat)
    case atStart => exact ⟨16 * n, t, rfl, by go_num, by omega, by have := unhide E1; show _ = _; omega, by have := unhide E1; omega⟩
    case round =>
      obtain ⟨s, u, rfl, rfl, hu, hs, hR⟩ := hrel
      by_cases hu0 : u = 0
      · subst hu0
        have hs' := unhide hs
        rw [show bitsN 0 = 0 from rfl] at hs'
        have hs2 : s = R := by omega
        subst hs2
        go_wp2
        go_ret
        exact ⟨rfl, (Kept.refl _ _ _).alloc _⟩
      · have hup : (0 : Int) < (u : Int) := by omega
        have hh := bitsN_half u (by omega)
        have hs' := unhide hs
        have HH := hide hh
        have hsb : s ≤ 16000000 := by omega
        clear hh hs' hu0
        go_wp2
        go_round
        case rel => exact ⟨s + 1, u / 2, by go_num, by go_num, by omega, by have := unhide hs; have := unhide HH; show _ = _; omega, hR⟩
        case measure => simp [intOf]; omega

end Go.Proofs.Ytdhponfpikclhaa
