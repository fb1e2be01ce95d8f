/-
  Contracts of the laws' own helpers: what eqByteS, eqIntS, markByteS, markIntS, heldByteS, heldIntS and toByteS answer, and what they leave of the world.
-/
import Derived.Test.YtdhponfpikclhaaRows
import Derived.Test.YtdhponfpikclhaaBase
import Derived.WalkKit
import Derived.Deep.QuietTactic
import Derived.BigQuiet
namespace Go.Proofs.Ytdhponfpikclhaa
open Go.RowKit

theorem take_step (xs : List Int) (k : Nat) (h : k < xs.length) : xs.take (k + 1) = xs.take k ++ [xs.getD k 0] := by
  rw [List.take_succ_eq_append_getElem h]; simp [List.getD, h]

set_option maxHeartbeats 400000 in
theorem eqByteS_same {wr1 wr2 : Bool} {l1 h1 l2 h2 : Nat} {v1 v2 : Value} {zs : List Int} (w : World) (r1 : Row .u8 wr1 l1 h1 w v1 zs) (r2 : Row .u8 wr2 l2 h2 w v2 zs) :
    Calls Try.prog 67 #[v1, v2] w fun e w' => e = .returned (.bool true) ∧ ∃ n, w' = w.drewN n := by
  obtain ⟨a1, c1, rfl, q1, m1, q3⟩ := r1
  obtain ⟨a2, c2, rfl, q2, m2, q4⟩ := r2
  unfold maxLen at m1 m2
  go_enter Try.func67, Try.ntmps67
  go_wp2
  go_loopw [5] (fun i wr => ∃ k n : Nat, k ≤ zs.length ∧ i = .int .i64 k ∧ wr = w.drewN n) (fun i _ => zs.length - (intOf i).toNat)
  case atStart => exact ⟨0, 0, Nat.zero_le _, rfl, rfl⟩
  case round =>
    obtain ⟨k, n, hk, rfl, rfl⟩ := hrel
    by_cases hlt : k < zs.length
    · have hz : zs ≠ [] := by intro e; simp [e] at hlt
      obtain ⟨g1, o1, rfl, _, _, _, hc1, _⟩ := q3 hz
      obtain ⟨g2, o2, rfl, _, _, _, hc2, _⟩ := q4 hz
      have x1 := hc1 k hlt
      have x2 := hc2 k hlt
      have hlt' : (k : Int) < (zs.length : Int) := by omega
      clear hc1 hc2 q3 q4
      go_wp2
      go_quiet (fail)
      go_wp2
      go_roundw
      case rel => exact ⟨k + 1, _, by omega, by go_num, rfl⟩
      case measure => simp [intOf]; omega
    · have hlt' : ¬ (k : Int) < (zs.length : Int) := by omega
      clear q3 q4
      go_wp2
      go_ret
      exact ⟨rfl, _, rfl⟩

set_option maxHeartbeats 400000 in
theorem eqIntS_same {wr1 wr2 : Bool} {l1 h1 l2 h2 : Nat} {v1 v2 : Value} {zs : List Int} (w : World) (r1 : Row .i64 wr1 l1 h1 w v1 zs) (r2 : Row .i64 wr2 l2 h2 w v2 zs) :
    Calls Try.prog 121 #[v1, v2] w fun e w' => e = .returned (.bool true) ∧ ∃ n, w' = w.drewN n := by
  obtain ⟨a1, c1, rfl, q1, m1, q3⟩ := r1
  obtain ⟨a2, c2, rfl, q2, m2, q4⟩ := r2
  unfold maxLen at m1 m2
  go_enter Try.func121, Try.ntmps121
  go_wp2
  go_loopw [5] (fun i wr => ∃ k n : Nat, k ≤ zs.length ∧ i = .int .i64 k ∧ wr = w.drewN n) (fun i _ => zs.length - (intOf i).toNat)
  case atStart => exact ⟨0, 0, Nat.zero_le _, rfl, rfl⟩
  case round =>
    obtain ⟨k, n, hk, rfl, rfl⟩ := hrel
    by_cases hlt : k < zs.length
    · have hz : zs ≠ [] := by intro e; simp [e] at hlt
      obtain ⟨g1, o1, rfl, _, _, _, hc1, _⟩ := q3 hz
      obtain ⟨g2, o2, rfl, _, _, _, hc2, _⟩ := q4 hz
      have x1 := hc1 k hlt
      have x2 := hc2 k hlt
      have hlt' : (k : Int) < (zs.length : Int) := by omega
      clear hc1 hc2 q3 q4
      go_wp2
      go_quiet (fail)
      go_wp2
      go_roundw
      case rel => exact ⟨k + 1, _, by omega, by go_num, rfl⟩
      case measure => simp [intOf]; omega
    · have hlt' : ¬ (k : Int) < (zs.length : Int) := by omega
      clear q3 q4
      go_wp2
      go_ret
      exact ⟨rfl, _, rfl⟩

set_option maxHeartbeats 400000 in
theorem markByteS_any {lo hi : Nat} {v : Value} {zs : List Int} (w : World) (s : Int) (hs0 : 0 ≤ s) (hs1 : s ≤ 1000000) (hn : zs.length ≤ 1099511627776) (r : Row .u8 true lo hi w v zs) :
    Calls Try.prog 68 #[v, .int .i64 s] w fun e w' => e = .returned (.int .i64 (s + zs.length)) ∧ Row .u8 true lo hi w' v (marks .u8 s zs.length) ∧ Kept lo hi w w' ∧ w'.heap.size = w.heap.size := by
  by_cases hz : zs = []
  · subst hz
    obtain ⟨a, c, rfl, q1, m1, q3⟩ := r
    go_enter Try.func68, Try.ntmps68
    go_wp2
    go_loop [1, 5] (fun kk i => kk = .int .i64 s ∧ i = .int .i64 0) (fun _ _ => 0)
    case atStart => exact ⟨rfl, rfl⟩
    case round =>
      obtain ⟨rfl, rfl⟩ := hrel
      go_wp2
      go_ret
      exact ⟨by simp, ⟨a, c, rfl, q1, m1, fun e => absurd rfl e⟩, Kept.refl _ _ _, rfl⟩
  · obtain ⟨a, c, rfl, q1, m1, q3⟩ := r
    obtain ⟨g, off, rfl, rest⟩ := q3 hz
    have r : Row .u8 true lo hi w (.slice (some ⟨g, off, none⟩) zs.length c) zs := ⟨_, _, rfl, q1, m1, q3⟩
    clear q3 rest
    have hpos : 0 < zs.length := List.length_pos_iff.2 hz
    have r0 : Row .u8 true lo hi w (.slice (some ⟨g, off, none⟩) zs.length c) (marks .u8 s 0 ++ zs.drop 0) := by simpa [marks] using r
    clear r hz q1 m1
    go_enter Try.func68, Try.ntmps68
    go_wp2
    go_loopw [1, 5] (fun kk i wr => ∃ j : Nat, j ≤ zs.length ∧ i = .int .i64 j ∧ kk = .int .i64 (s + j) ∧ Row .u8 true lo hi wr (.slice (some ⟨g, off, none⟩) zs.length c) (marks .u8 s j ++ zs.drop j) ∧ Kept lo hi w wr ∧ wr.heap.size = w.heap.size) (fun _ i _ => zs.length - (intOf i).toNat)
    case atStart => exact ⟨0, Nat.zero_le _, rfl, by simp, r0, Kept.refl _ _ _, rfl⟩
    case round =>
      clear r0
      obtain ⟨j, hj, rfl, rfl, hr, hk, hsz⟩ := hrel
      by_cases hlt : j < zs.length
      · obtain ⟨hc, hf, hl, hh, hgs, -⟩ := hr.at hlt
        generalize (marks .u8 s j ++ zs.drop j).getD j 0 = z at hc
        have HSZ : Hid (wr.heap.size = w.heap.size) := hsz
        clear hsz
        go_wp2
        have hs := hr.set j hpos (IntKind.u8.wrap (s + j))
        rw [marks_step _ _ _ _ hlt] at hs
        have hk' := hk.setCell (p := ⟨g, off + j, none⟩) hl hh (.int .u8 (IntKind.u8.wrap (s + j)))
        go_roundw
        case rel => exact ⟨j + 1, by omega, by go_num, by go_num, hs, hk', by simpa [World.setCell] using HSZ.out⟩
        case measure => simp [intOf]; omega
      · have e : j = zs.length := by omega
        subst e
        rw [marks_all] at hr
        have HSZ : Hid (wr.heap.size = w.heap.size) := hsz
        clear hsz
        go_wp2
        go_ret
        exact ⟨rfl, hr, hk, HSZ.out⟩

set_option maxHeartbeats 400000 in
theorem markIntS_any {lo hi : Nat} {v : Value} {zs : List Int} (w : World) (s : Int) (hs0 : 0 ≤ s) (hs1 : s ≤ 1000000) (hn : zs.length ≤ 1099511627776) (r : Row .i64 true lo hi w v zs) :
    Calls Try.prog 122 #[v, .int .i64 s] w fun e w' => e = .returned (.int .i64 (s + zs.length)) ∧ Row .i64 true lo hi w' v (marks .i64 s zs.length) ∧ Kept lo hi w w' ∧ w'.heap.size = w.heap.size := by
  by_cases hz : zs = []
  · subst hz
    obtain ⟨a, c, rfl, q1, m1, q3⟩ := r
    go_enter Try.func122, Try.ntmps122
    go_wp2
    go_loop [1, 5] (fun kk i => kk = .int .i64 s ∧ i = .int .i64 0) (fun _ _ => 0)
    case atStart => exact ⟨rfl, rfl⟩
    case round =>
      obtain ⟨rfl, rfl⟩ := hrel
      go_wp2
      go_ret
      exact ⟨by simp, ⟨a, c, rfl, q1, m1, fun e => absurd rfl e⟩, Kept.refl _ _ _, rfl⟩
  · obtain ⟨a, c, rfl, q1, m1, q3⟩ := r
    obtain ⟨g, off, rfl, rest⟩ := q3 hz
    have r : Row .i64 true lo hi w (.slice (some ⟨g, off, none⟩) zs.length c) zs := ⟨_, _, rfl, q1, m1, q3⟩
    clear q3 rest
    have hpos : 0 < zs.length := List.length_pos_iff.2 hz
    have r0 : Row .i64 true lo hi w (.slice (some ⟨g, off, none⟩) zs.length c) (marks .i64 s 0 ++ zs.drop 0) := by simpa [marks] using r
    clear r hz q1 m1
    go_enter Try.func122, Try.ntmps122
    go_wp2
    go_loopw [1, 5] (fun kk i wr => ∃ j : Nat, j ≤ zs.length ∧ i = .int .i64 j ∧ kk = .int .i64 (s + j) ∧ Row .i64 true lo hi wr (.slice (some ⟨g, off, none⟩) zs.length c) (marks .i64 s j ++ zs.drop j) ∧ Kept lo hi w wr ∧ wr.heap.size = w.heap.size) (fun _ i _ => zs.length - (intOf i).toNat)
    case atStart => exact ⟨0, Nat.zero_le _, rfl, by simp, r0, Kept.refl _ _ _, rfl⟩
    case round =>
      clear r0
      obtain ⟨j, hj, rfl, rfl, hr, hk, hsz⟩ := hrel
      by_cases hlt : j < zs.length
      · obtain ⟨hc, hf, hl, hh, hgs, -⟩ := hr.at hlt
        generalize (marks .i64 s j ++ zs.drop j).getD j 0 = z at hc
        have HSZ : Hid (wr.heap.size = w.heap.size) := hsz
        clear hsz
        go_wp2
        have ew : IntKind.i64.wrap (s + j) = s + j := wrap_small _ (by omega) (by omega)
        have e2 : (marks .i64 s j ++ zs.drop j).set j (s + j) = marks .i64 s (j + 1) ++ zs.drop (j + 1) := by rw [← marks_step _ _ _ _ hlt, ew]
        have hs := hr.set j hpos (s + j)
        rw [e2] at hs
        have hk' := hk.setCell (p := ⟨g, off + j, none⟩) hl hh (.int .i64 (s + j))
        go_roundw
        case rel => exact ⟨j + 1, by omega, by go_num, by go_num, hs, hk', by simpa [World.setCell] using HSZ.out⟩
        case measure => simp [intOf]; omega
      · have e : j = zs.length := by omega
        subst e
        rw [marks_all] at hr
        have HSZ : Hid (wr.heap.size = w.heap.size) := hsz
        clear hsz
        go_wp2
        go_ret
        exact ⟨rfl, hr, hk, HSZ.out⟩

set_option maxHeartbeats 400000 in
theorem heldByteS_any {wr : Bool} {lo hi : Nat} {v : Value} {n : Nat} (w : World) (s : Int) (hs0 : 0 ≤ s) (hs1 : s ≤ 1000000) (hn : n ≤ 1099511627776) (r : Row .u8 wr lo hi w v (marks .u8 s n)) :
    Calls Try.prog 69 #[v, .int .i64 s] w fun e w' => e = .returned (.int .i64 (s + n)) ∧ w' = w := by
  obtain ⟨a, c, rfl, q1, m1, q3⟩ := r
  rw [marks_length] at q1 q3 ⊢
  have hat : ∀ j, j < n → ∃ g off, a = some ⟨g, off, none⟩ ∧ w.cell? ⟨g, off + j, none⟩ = some (.int .u8 (IntKind.u8.wrap (s + j))) := by
    intro j hj
    obtain ⟨g, off, e, _, _, _, hc, _⟩ := q3 (by intro e; have := congrArg List.length e; rw [marks_length] at this; simp at this; omega)
    exact ⟨g, off, e, by rw [hc j hj, marks_at _ _ _ _ hj]⟩
  clear q3 q1 m1
  go_enter Try.func69, Try.ntmps69
  go_wp2
  go_loop [1, 5] (fun kk i => ∃ j : Nat, j ≤ n ∧ i = .int .i64 j ∧ kk = .int .i64 (s + j)) (fun _ i => n - (intOf i).toNat)
  case atStart => exact ⟨0, Nat.zero_le _, rfl, by simp⟩
  case round =>
    obtain ⟨j, hj, rfl, rfl⟩ := hrel
    by_cases hlt : j < n
    · obtain ⟨g, off, rfl, hc⟩ := hat j hlt
      clear hat
      go_wp2
      go_round
      case rel => exact ⟨j + 1, by omega, by go_num, by go_num⟩
      case measure => simp [intOf]; omega
    · have e : j = n := by omega
      subst e
      clear hat
      go_wp2
      go_ret
      exact ⟨rfl, rfl⟩

set_option maxHeartbeats 400000 in
theorem heldIntS_any {wr : Bool} {lo hi : Nat} {v : Value} {n : Nat} (w : World) (s : Int) (hs0 : 0 ≤ s) (hs1 : s ≤ 1000000) (hn : n ≤ 1099511627776) (r : Row .i64 wr lo hi w v (marks .i64 s n)) :
    Calls Try.prog 123 #[v, .int .i64 s] w fun e w' => e = .returned (.int .i64 (s + n)) ∧ w' = w := by
  obtain ⟨a, c, rfl, q1, m1, q3⟩ := r
  rw [marks_length] at q1 q3 ⊢
  have hat : ∀ j, j < n → ∃ g off, a = some ⟨g, off, none⟩ ∧ w.cell? ⟨g, off + j, none⟩ = some (.int .i64 (s + j)) := by
    intro j hj
    obtain ⟨g, off, e, _, _, _, hc, _⟩ := q3 (by intro e; have := congrArg List.length e; rw [marks_length] at this; simp at this; omega)
    exact ⟨g, off, e, by rw [hc j hj, marks_at _ _ _ _ hj, wrap_small _ (by omega) (by omega)]⟩
  clear q3 q1 m1
  go_enter Try.func123, Try.ntmps123
  go_wp2
  go_loop [1, 5] (fun kk i => ∃ j : Nat, j ≤ n ∧ i = .int .i64 j ∧ kk = .int .i64 (s + j)) (fun _ i => n - (intOf i).toNat)
  case atStart => exact ⟨0, Nat.zero_le _, rfl, by simp⟩
  case round =>
    obtain ⟨j, hj, rfl, rfl⟩ := hrel
    by_cases hlt : j < n
    · obtain ⟨g, off, rfl, hc⟩ := hat j hlt
      clear hat
      go_wp2
      go_round
      case rel => exact ⟨j + 1, by omega, by go_num, by go_num⟩
      case measure => simp [intOf]; omega
    · have e : j = n := by omega
      subst e
      clear hat
      go_wp2
      go_ret
      exact ⟨rfl, rfl⟩

theorem Try.info5 : (Try.prog.info? 5).map (fun i => (i.zero, i.size, i.bytes)) = some (some (.int .u8 0), 1, 1) := by kernel_rfl

set_option maxHeartbeats 400000 in
theorem toByteS_any {bw : Bool} {lo hi : Nat} {v : Value} {zs : List Int} (w : World) (hn : zs.length ≤ 140737488355328) (r : Row .u8 bw lo hi w v zs) :
    Calls Try.prog 71 #[v] w fun e w' => ∃ v', e = .returned v' ∧ Row .u8 true w.heap.size w'.heap.size w' v' zs ∧ Kept 0 0 w w' := by
  have r' := r.read.tight
  obtain ⟨a, c, rfl, q1, m1, q3⟩ := r
  obtain ⟨i0, hi0, hz0, hz1, hz2⟩ := info_parts Try.info5
  have hb0 : i0.bytes * zs.length ≤ 281474976710656 := by rw [hz2]; omega
  have hm0 : zs.length ≤ maxLen := by unfold maxLen; omega
  clear q3 q1 m1
  go_enter Try.func71, Try.ntmps71
  go_wp2_with (at_make; refine wpList_make_full _ rfl _ _ 22 rfl w.heap.size 5 i0 (.int .u8 0) 1 Try.underlying22 hi0 hz0 hz1 .i64 .i64 _ _ zs.length rfl rfl rfl rfl hb0 hm0 (Nat.le_refl _) ?_; intro w1 hown hgrow)
  rw [made_zero] at hown
  have r0 := Row.own hown
  have hk0 : Kept 0 0 w w1 := ⟨hgrow.os, hgrow.tape, hgrow.output, hgrow.size, fun i hi _ => hgrow.block i hi (by simp)⟩
  have r1 : Row .u8 false lo w.heap.size w1 (.slice a zs.length c) zs := r'.kept hk0 (by omega)
  have r0' : Row .u8 true w.heap.size w1.heap.size w1 (.slice (some ⟨w.heap.size, 0, none⟩) zs.length zs.length) (zs.take 0 ++ List.replicate (zs.length - 0) 0) := by simpa using r0
  clear hown hgrow hi0 hz0 hz1 hz2 hb0 r' r0 hm0
  go_loopw [4] (fun i wx => ∃ j : Nat, j ≤ zs.length ∧ i = .int .i64 j ∧ Row .u8 true w.heap.size w1.heap.size wx (.slice (some ⟨w.heap.size, 0, none⟩) zs.length zs.length) (zs.take j ++ List.replicate (zs.length - j) 0) ∧ Kept w.heap.size w1.heap.size w1 wx ∧ wx.heap.size = w1.heap.size) (fun i _ => zs.length - (intOf i).toNat)
  case atStart => exact ⟨0, Nat.zero_le _, rfl, r0', Kept.refl _ _ _, rfl⟩
  case round =>
    clear r0'
    obtain ⟨j, hj, rfl, hr, hk, hsz⟩ := hrel
    have HSZ : Hid (wr.heap.size = w1.heap.size) := hsz
    clear hsz
    by_cases hlt : j < zs.length
    · obtain ⟨hc, hf, hl, hh, hgs, -⟩ := hr.at hlt
      generalize (zs.take j ++ List.replicate (zs.length - j) 0).getD j 0 = z at hc
      have r2 := r1.kept hk (by omega)
      have hpos : 0 < zs.length := by omega
      obtain ⟨a', c', e', q1, m1, q3⟩ := r2
      simp only [Value.slice.injEq, true_and] at e'
      obtain ⟨rfl, rfl⟩ := e'
      obtain ⟨g, off, rfl, g1, g2, g3, hcs, -⟩ := q3 (List.length_pos_iff.1 hpos)
      have hx := hcs j hlt
      simp only [Nat.zero_add] at hc hf
      clear q3 hcs r1 hk0 q1 m1
      go_wp2
      have hs := hr.set j hpos (zs.getD j 0)
      rw [fill_step _ _ hlt] at hs
      have hk' := hk.setCell (p := ⟨w.heap.size, 0 + j, none⟩) hl hh (.int .u8 (zs.getD j 0))
      simp only [Nat.zero_add] at hs hk'
      go_roundw
      case rel => exact ⟨j + 1, by omega, by go_num, by simpa [List.getD, hlt] using hs, by simpa [List.getD, hlt] using hk', by simpa [World.setCell] using HSZ.out⟩
      case measure => simp [intOf]; omega
    · have e : j = zs.length := by omega
      subst e
      simp only [List.take_length, Nat.sub_self, List.replicate_zero, List.append_nil] at hr
      clear r1
      go_wp2
      go_ret
      refine ⟨.slice (some ⟨w.heap.size, 0, none⟩) zs.length zs.length, rfl, by rw [HSZ.out]; exact hr, ?_⟩
      exact ⟨hk.os.trans hk0.os, hk.tape.trans hk0.tape, hk.output.trans hk0.output, Nat.le_trans hk0.size hk.size, fun i hi _ => (hk.block i (Nat.lt_of_lt_of_le hi hk0.size) (.inl hi)).trans (hk0.block i hi (by omega))⟩

end Go.Proofs.Ytdhponfpikclhaa
