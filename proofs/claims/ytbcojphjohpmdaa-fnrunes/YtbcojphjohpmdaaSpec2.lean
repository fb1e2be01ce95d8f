/-
  Contracts of the model's l1rune and RuneAt over a slice of bytes that can be read.
-/
import Derived.Test.YtbcojphjohpmdaaSpec1
namespace Go.Proofs.Ytbcojphjohpmdaa
open Go.RowKit

theorem ret_pair {a b c d : Int} (h : (a, b) = (c, d)) : Ending.returned (.tuple #[.int .i64 a, .int .i64 b]) = .returned (.tuple #[.int .i64 c, .int .i64 d]) := by
  simp only [Prod.mk.injEq] at h; rw [h.1, h.2]

theorem drune_case {zs : List Int} {p : Nat} (h : ¬ zs.getD p 0 < 128) :
    (194 ≤ zs.getD p 0 ∧ zs.getD p 0 ≤ 223 ∧ drune zs p = fin zs p 2 (zs.getD p 0 % 32) 128) ∨
    (224 ≤ zs.getD p 0 ∧ zs.getD p 0 ≤ 239 ∧ drune zs p = fin zs p 3 (zs.getD p 0 % 16) 2048) ∨
    (240 ≤ zs.getD p 0 ∧ zs.getD p 0 ≤ 244 ∧ drune zs p = fin zs p 4 (zs.getD p 0 % 8) 65536) ∨
    ((zs.getD p 0 < 194 ∨ 244 < zs.getD p 0) ∧ drune zs p = (65533, 1)) := by
  unfold drune
  rw [if_neg h]
  by_cases h2 : 194 ≤ zs.getD p 0 ∧ zs.getD p 0 ≤ 223
  · rw [if_pos h2]; exact .inl ⟨h2.1, h2.2, rfl⟩
  rw [if_neg h2]
  by_cases h3 : 224 ≤ zs.getD p 0 ∧ zs.getD p 0 ≤ 239
  · rw [if_pos h3]; exact .inr (.inl ⟨h3.1, h3.2, rfl⟩)
  rw [if_neg h3]
  by_cases h4 : 240 ≤ zs.getD p 0 ∧ zs.getD p 0 ≤ 244
  · rw [if_pos h4]; exact .inr (.inr (.inl ⟨h4.1, h4.2, rfl⟩))
  rw [if_neg h4]
  exact .inr (.inr (.inr ⟨by omega, rfl⟩))

set_option maxHeartbeats 1000000 in
theorem l1rune_two {lo hi g off c : Nat} {bw : Bool} {zs : List Int} (w : World) (r : Row .u8 bw lo hi w (.slice (some ⟨g, off, none⟩) zs.length c) zs) (hb : Bytes zs) (p : Nat) (hp : p < zs.length) (hn : zs.length ≤ 9000000000000000000)
    (z : Int) (hc : w.cell? ⟨g, off + p, none⟩ = some (.int .u8 z)) (h1 : 194 ≤ z) (h2 : z ≤ 223) :
    Calls Try.prog 39 #[.slice (some ⟨g, off, none⟩) zs.length c, .int .i64 (p : Int)] w fun e w' => e = .returned (.tuple #[.int .i64 (fin zs p 2 (z % 32) 128).1, .int .i64 (fin zs p 2 (z % 32) 128).2]) ∧ w' = w := by
  have hp' : (p : Int) < (zs.length : Int) := by omega
  have h0 : ¬ z < 128 := by omega
  have HT : Hid (∀ j : Nat, Calls Try.prog 43 #[.slice (some ⟨g, off, none⟩) zs.length c, .int .i64 (j : Int)] w fun e w' => e = .returned (.int .i64 (tl zs j)) ∧ w' = w) := fun j => tail_any w r hb j
  clear r hb
  generalize hF : (fin zs p 2 (z % 32) 128) = F
  have HF : Hid (fin zs p 2 (z % 32) 128 = F) := hF
  clear hF
  go_enter Try.func39, Try.ntmps39
  go_wp2
  go_loop [8, 10] (fun rr i => ∃ k : Nat, k + 1 ≤ 2 ∧ i = .int .i64 ((k : Int) + 1) ∧ rr = .int .i64 (acc zs p (z % 32) k) ∧ Hid (∀ m, m < k → 0 ≤ tl zs (p + (m + 1)))) (fun _ i => 2 - (intOf i).toNat)
  case atStart => exact ⟨0, by omega, rfl, by rw [and31]; rfl, fun m hm => absurd hm (Nat.not_lt_zero m)⟩
  case round =>
    obtain ⟨k, hk, rfl, rfl, hm⟩ := hrel
    have hbd := acc_bd zs p (z % 32) (by omega) (by omega) k (by omega) hm.out
    obtain ⟨bd0, bd1⟩ := hbd
    by_cases hlt : k + 1 < 2
    · have hlt' : ((k : Int) + 1) < 2 := by omega
      have htl := tl_le zs (p + (k + 1))
      obtain ⟨tl0, tl1⟩ := htl
      go_wp2_with fail
      rw [show ((p : Int) + ((k : Int) + 1)) = ((p + (k + 1) : Nat) : Int) from by omega]
      refine (HT.out (p + (k + 1))).mono ?_
      rintro e w' ⟨rfl, rfl⟩
      by_cases ht : tl zs (p + (k + 1)) < 0
      · have hF := fin_bad zs p 2 (z % 32) 128 k (by omega) ht
        rw [HF.out] at hF
        subst hF
        go_wp2
        go_ret2
        exact ⟨rfl, rfl⟩
      · go_wp2
        go_round
        case rel => exact ⟨k + 1, by omega, by go_num, rfl, fun m hm' => by
          rcases Nat.lt_succ_iff_lt_or_eq.1 hm' with h | h
          · exact hm.out m h
          · subst h; omega⟩
        case measure => simp [intOf]; omega
    · have e : k = 2 - 1 := by omega
      subst e
      by_cases hlow : acc zs p (z % 32) (2 - 1) < 128
      · have hF := fin_low zs p 2 (z % 32) 128 hlow
        rw [HF.out] at hF
        subst hF
        go_wp2
        go_ret2
        exact ⟨rfl, rfl⟩
      · cases hmay : mayB (acc zs p (z % 32) (2 - 1))
        · have hF := fin_not zs p 2 (z % 32) 128 hmay
          rw [HF.out] at hF
          subst hF
          go_wp2_with (go_at_call 40; refine (may_spec _ _).mono ?_; rintro e w' ⟨rfl, rfl⟩)
          go_ret2
          exact ⟨rfl, rfl⟩
        · have hF := fin_good zs p 2 (z % 32) 128 hm.out (by omega) hmay
          rw [HF.out] at hF
          subst hF
          go_wp2_with (go_at_call 40; refine (may_spec _ _).mono ?_; rintro e w' ⟨rfl, rfl⟩)
          go_ret2
          exact ⟨rfl, rfl⟩

set_option maxHeartbeats 1000000 in
theorem l1rune_three {lo hi g off c : Nat} {bw : Bool} {zs : List Int} (w : World) (r : Row .u8 bw lo hi w (.slice (some ⟨g, off, none⟩) zs.length c) zs) (hb : Bytes zs) (p : Nat) (hp : p < zs.length) (hn : zs.length ≤ 9000000000000000000)
    (z : Int) (hc : w.cell? ⟨g, off + p, none⟩ = some (.int .u8 z)) (h1 : 224 ≤ z) (h2 : z ≤ 239) :
    Calls Try.prog 39 #[.slice (some ⟨g, off, none⟩) zs.length c, .int .i64 (p : Int)] w fun e w' => e = .returned (.tuple #[.int .i64 (fin zs p 3 (z % 16) 2048).1, .int .i64 (fin zs p 3 (z % 16) 2048).2]) ∧ w' = w := by
  have hp' : (p : Int) < (zs.length : Int) := by omega
  have h0 : ¬ z < 128 := by omega
  have HT : Hid (∀ j : Nat, Calls Try.prog 43 #[.slice (some ⟨g, off, none⟩) zs.length c, .int .i64 (j : Int)] w fun e w' => e = .returned (.int .i64 (tl zs j)) ∧ w' = w) := fun j => tail_any w r hb j
  clear r hb
  generalize hF : (fin zs p 3 (z % 16) 2048) = F
  have HF : Hid (fin zs p 3 (z % 16) 2048 = F) := hF
  clear hF
  go_enter Try.func39, Try.ntmps39
  go_wp2
  go_loop [8, 10] (fun rr i => ∃ k : Nat, k + 1 ≤ 3 ∧ i = .int .i64 ((k : Int) + 1) ∧ rr = .int .i64 (acc zs p (z % 16) k) ∧ Hid (∀ m, m < k → 0 ≤ tl zs (p + (m + 1)))) (fun _ i => 3 - (intOf i).toNat)
  case atStart => exact ⟨0, by omega, rfl, by rw [and15]; rfl, fun m hm => absurd hm (Nat.not_lt_zero m)⟩
  case round =>
    obtain ⟨k, hk, rfl, rfl, hm⟩ := hrel
    have hbd := acc_bd zs p (z % 16) (by omega) (by omega) k (by omega) hm.out
    obtain ⟨bd0, bd1⟩ := hbd
    by_cases hlt : k + 1 < 3
    · have hlt' : ((k : Int) + 1) < 3 := by omega
      have htl := tl_le zs (p + (k + 1))
      obtain ⟨tl0, tl1⟩ := htl
      go_wp2_with fail
      rw [show ((p : Int) + ((k : Int) + 1)) = ((p + (k + 1) : Nat) : Int) from by omega]
      refine (HT.out (p + (k + 1))).mono ?_
      rintro e w' ⟨rfl, rfl⟩
      by_cases ht : tl zs (p + (k + 1)) < 0
      · have hF := fin_bad zs p 3 (z % 16) 2048 k (by omega) ht
        rw [HF.out] at hF
        subst hF
        go_wp2
        go_ret2
        exact ⟨rfl, rfl⟩
      · go_wp2
        go_round
        case rel => exact ⟨k + 1, by omega, by go_num, rfl, fun m hm' => by
          rcases Nat.lt_succ_iff_lt_or_eq.1 hm' with h | h
          · exact hm.out m h
          · subst h; omega⟩
        case measure => simp [intOf]; omega
    · have e : k = 3 - 1 := by omega
      subst e
      by_cases hlow : acc zs p (z % 16) (3 - 1) < 2048
      · have hF := fin_low zs p 3 (z % 16) 2048 hlow
        rw [HF.out] at hF
        subst hF
        go_wp2
        go_ret2
        exact ⟨rfl, rfl⟩
      · cases hmay : mayB (acc zs p (z % 16) (3 - 1))
        · have hF := fin_not zs p 3 (z % 16) 2048 hmay
          rw [HF.out] at hF
          subst hF
          go_wp2_with (go_at_call 40; refine (may_spec _ _).mono ?_; rintro e w' ⟨rfl, rfl⟩)
          go_ret2
          exact ⟨rfl, rfl⟩
        · have hF := fin_good zs p 3 (z % 16) 2048 hm.out (by omega) hmay
          rw [HF.out] at hF
          subst hF
          go_wp2_with (go_at_call 40; refine (may_spec _ _).mono ?_; rintro e w' ⟨rfl, rfl⟩)
          go_ret2
          exact ⟨rfl, rfl⟩

set_option maxHeartbeats 1000000 in
theorem l1rune_four {lo hi g off c : Nat} {bw : Bool} {zs : List Int} (w : World) (r : Row .u8 bw lo hi w (.slice (some ⟨g, off, none⟩) zs.length c) zs) (hb : Bytes zs) (p : Nat) (hp : p < zs.length) (hn : zs.length ≤ 9000000000000000000)
    (z : Int) (hc : w.cell? ⟨g, off + p, none⟩ = some (.int .u8 z)) (h1 : 240 ≤ z) (h2 : z ≤ 244) :
    Calls Try.prog 39 #[.slice (some ⟨g, off, none⟩) zs.length c, .int .i64 (p : Int)] w fun e w' => e = .returned (.tuple #[.int .i64 (fin zs p 4 (z % 8) 65536).1, .int .i64 (fin zs p 4 (z % 8) 65536).2]) ∧ w' = w := by
  have hp' : (p : Int) < (zs.length : Int) := by omega
  have h0 : ¬ z < 128 := by omega
  have HT : Hid (∀ j : Nat, Calls Try.prog 43 #[.slice (some ⟨g, off, none⟩) zs.length c, .int .i64 (j : Int)] w fun e w' => e = .returned (.int .i64 (tl zs j)) ∧ w' = w) := fun j => tail_any w r hb j
  clear r hb
  generalize hF : (fin zs p 4 (z % 8) 65536) = F
  have HF : Hid (fin zs p 4 (z % 8) 65536 = F) := hF
  clear hF
  go_enter Try.func39, Try.ntmps39
  go_wp2
  go_loop [8, 10] (fun rr i => ∃ k : Nat, k + 1 ≤ 4 ∧ i = .int .i64 ((k : Int) + 1) ∧ rr = .int .i64 (acc zs p (z % 8) k) ∧ Hid (∀ m, m < k → 0 ≤ tl zs (p + (m + 1)))) (fun _ i => 4 - (intOf i).toNat)
  case atStart => exact ⟨0, by omega, rfl, by rw [and7]; rfl, fun m hm => absurd hm (Nat.not_lt_zero m)⟩
  case round =>
    obtain ⟨k, hk, rfl, rfl, hm⟩ := hrel
    have hbd := acc_bd zs p (z % 8) (by omega) (by omega) k (by omega) hm.out
    obtain ⟨bd0, bd1⟩ := hbd
    by_cases hlt : k + 1 < 4
    · have hlt' : ((k : Int) + 1) < 4 := by omega
      have htl := tl_le zs (p + (k + 1))
      obtain ⟨tl0, tl1⟩ := htl
      go_wp2_with fail
      rw [show ((p : Int) + ((k : Int) + 1)) = ((p + (k + 1) : Nat) : Int) from by omega]
      refine (HT.out (p + (k + 1))).mono ?_
      rintro e w' ⟨rfl, rfl⟩
      by_cases ht : tl zs (p + (k + 1)) < 0
      · have hF := fin_bad zs p 4 (z % 8) 65536 k (by omega) ht
        rw [HF.out] at hF
        subst hF
        go_wp2
        go_ret2
        exact ⟨rfl, rfl⟩
      · go_wp2
        go_round
        case rel => exact ⟨k + 1, by omega, by go_num, rfl, fun m hm' => by
          rcases Nat.lt_succ_iff_lt_or_eq.1 hm' with h | h
          · exact hm.out m h
          · subst h; omega⟩
        case measure => simp [intOf]; omega
    · have e : k = 4 - 1 := by omega
      subst e
      by_cases hlow : acc zs p (z % 8) (4 - 1) < 65536
      · have hF := fin_low zs p 4 (z % 8) 65536 hlow
        rw [HF.out] at hF
        subst hF
        go_wp2
        go_ret2
        exact ⟨rfl, rfl⟩
      · cases hmay : mayB (acc zs p (z % 8) (4 - 1))
        · have hF := fin_not zs p 4 (z % 8) 65536 hmay
          rw [HF.out] at hF
          subst hF
          go_wp2_with (go_at_call 40; refine (may_spec _ _).mono ?_; rintro e w' ⟨rfl, rfl⟩)
          go_ret2
          exact ⟨rfl, rfl⟩
        · have hF := fin_good zs p 4 (z % 8) 65536 hm.out (by omega) hmay
          rw [HF.out] at hF
          subst hF
          go_wp2_with (go_at_call 40; refine (may_spec _ _).mono ?_; rintro e w' ⟨rfl, rfl⟩)
          go_ret2
          exact ⟨rfl, rfl⟩

set_option maxHeartbeats 400000 in
theorem l1rune_any {bw : Bool} {lo hi : Nat} {v : Value} {zs : List Int} (w : World) (r : Row .u8 bw lo hi w v zs) (hb : Bytes zs) (p : Nat) (hp : p < zs.length) (hn : zs.length ≤ 9000000000000000000) :
    Calls Try.prog 39 #[v, .int .i64 (p : Int)] w fun e w' => e = .returned (.tuple #[.int .i64 (drune zs p).1, .int .i64 (drune zs p).2]) ∧ w' = w := by
  have r' := r
  obtain ⟨a, c, rfl, q1, m1, q3⟩ := r
  obtain ⟨g, off, rfl, hc⟩ := (row_cell (r := ⟨a, c, rfl, q1, m1, q3⟩)).2.2.2 p hp
  clear q1 m1 q3
  by_cases h0 : zs.getD p 0 < 128
  · have hd : drune zs p = (zs.getD p 0, 1) := by unfold drune; rw [if_pos h0]
    obtain ⟨z0, z1⟩ := hb.at p
    have hp' : (p : Int) < (zs.length : Int) := by omega
    rw [hd]
    generalize zs.getD p 0 = z at *
    clear hd r' hb
    go_enter Try.func39, Try.ntmps39
    go_wp2
    go_ret2
    exact ⟨rfl, rfl⟩
  rcases drune_case h0 with ⟨h1, h2, hd⟩ | ⟨h1, h2, hd⟩ | ⟨h1, h2, hd⟩ | ⟨h1, hd⟩
  · rw [hd]; exact l1rune_two w r' hb p hp hn _ hc h1 h2
  · rw [hd]; exact l1rune_three w r' hb p hp hn _ hc h1 h2
  · rw [hd]; exact l1rune_four w r' hb p hp hn _ hc h1 h2
  · obtain ⟨z0, z1⟩ := hb.at p
    have hp' : (p : Int) < (zs.length : Int) := by omega
    rw [hd]
    generalize zs.getD p 0 = z at *
    clear hd r' hb
    rcases h1 with h1 | h1
    · go_enter Try.func39, Try.ntmps39
      go_wp2
      go_ret2
      exact ⟨rfl, rfl⟩
    · go_enter Try.func39, Try.ntmps39
      go_wp2
      go_ret2
      exact ⟨rfl, rfl⟩
end Go.Proofs.Ytbcojphjohpmdaa
