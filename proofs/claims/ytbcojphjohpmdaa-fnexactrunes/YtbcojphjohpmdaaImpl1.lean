/-
  Contracts of RuneAt, the model's and the program's, over a slice of bytes that can be read.
-/
import Derived.Test.YtbcojphjohpmdaaSpec2
import Derived.WalkSpells
import Derived.WalkLawsBesides
namespace Go.Proofs.Ytbcojphjohpmdaa
open Go.RowKit
set_option linter.unusedVariables false

/-- The rune at a place that may lie outside. -/
def arune (zs : List Int) (p : Int) : Int × Int := if 0 ≤ p ∧ p < zs.length then drune zs p.toNat else (0, 0)

theorem arune_at (zs : List Int) (p : Nat) (h : p < zs.length) : arune zs (p : Int) = drune zs p := by unfold arune; rw [if_pos (by omega)]; rfl

set_option maxHeartbeats 400000 in
theorem runeAt_spec {bw : Bool} {lo hi : Nat} {v : Value} {zs : List Int} (w : World) (r : Row .u8 bw lo hi w v zs) (hb : Bytes zs) (p : Int) (hn : zs.length ≤ 9000000000000000000) :
    Calls Try.prog 18 #[v, .int .i64 p] w fun e w' => e = .returned (.tuple #[.int .i64 (arune zs p).1, .int .i64 (arune zs p).2]) ∧ w' = w := by
  have r' := r
  obtain ⟨a, c, rfl, q1, m1, q3⟩ := r
  clear q1 m1 q3
  by_cases h0 : p < 0
  · have hd : arune zs p = (0, 0) := by unfold arune; rw [if_neg (by omega)]
    rw [hd]
    clear hd r' hb
    go_enter Try.func18, Try.ntmps18
    go_wp2
    go_ret2
    exact ⟨rfl, rfl⟩
  by_cases h1 : (zs.length : Int) ≤ p
  · have hd : arune zs p = (0, 0) := by unfold arune; rw [if_neg (by omega)]
    rw [hd]
    clear hd r' hb
    go_enter Try.func18, Try.ntmps18
    go_wp2
    go_ret2
    exact ⟨rfl, rfl⟩
  obtain ⟨q, rfl⟩ := Int.eq_ofNat_of_zero_le (by omega : 0 ≤ p)
  have hd : arune zs (q : Int) = drune zs q := by unfold arune; rw [if_pos (by omega)]; rfl
  rw [hd]
  have hc := l1rune_any w r' hb q (by omega) hn
  have HC := hide hc
  clear hd r' hb hc
  go_enter Try.func18, Try.ntmps18
  go_wp2_with (go_at_call 39; refine (unhide HC).mono ?_; rintro e w' ⟨rfl, rfl⟩)
  go_ret2
  exact ⟨rfl, rfl⟩

set_option maxHeartbeats 1000000 in
theorem runeAt_walk1 (g off L c q : Nat) (w : World) (q1 : L ≤ c) (m1 : c ≤ 2 ^ 63 - 1) (hn : L ≤ 9000000000000000000) (hql : q < L) (s : ByteArray) (F1 F2 : Int)
    (hs : s.size = L - q) (e1 : ((Utf8.decode s 0).1 : Int) = F1) (e2 : ((Utf8.decode s 0).2 : Int) = F2) (w1 : 1 ≤ F2) (w2 : F2 ≤ (L - q : Nat)) (f0 : 0 ≤ F1) (f1 : F1 ≤ 1114111)
    (h4 : L ≤ q + 4) (hcv : ∀ cap, (convert 22 9 (.slice (some ⟨g, off + q, none⟩) (L - q) cap)).run Try.prog w = .ok (.string s) w) :
    Calls Try.prog 15 #[.slice (some ⟨g, off, none⟩) L c, .int .i64 (q : Int)] w fun e w' => e = .returned (.tuple #[.int .i64 F1, .int .i64 F2]) ∧ Kept 0 0 w w' := by
  generalize hW : (Utf8.decode s 0).2 = W at *
  generalize hR : (Utf8.decode s 0).1 = R at *
  subst e1 e2
  have hs0 : 0 < s.size := by omega
  have HN : Hid (∀ ty, (Instr.next (.pointer (some ⟨w.heap.size, 0, none⟩)) true ty).run Try.prog (w.iter s 0) = .ok (.tuple #[.bool true, .int .i64 0, .int .i32 R]) (w.iter s W)) := fun ty => by
    have := run_next_any (P := Try.prog) w s 0 ty hs0
    rw [hW, hR, Nat.zero_add] at this
    exact this
  have hWs : W ≤ s.size := by omega
  have hW1 : 1 ≤ W := by omega
  have hsl : s.size ≤ 4611686018427387904 := by omega
  clear hW hR hs w1 w2
  have hl4 : (L : Int) ≤ (q : Int) + 4 := by omega
  have hge : ¬ L ≤ q := by omega
  have hq0 : ¬ (q : Int) < 0 := by omega
  go_enter Try.func15, Try.ntmps15
  go_wp2
  clear hcv
  go_loopw [7] (fun first wr => (wr = w.iter s 0 ∧ first = .int .i64 0) ∨ (wr = w.iter s W ∧ first = .int .i64 (R : Int))) (fun _ wr => s.size - wr.iterPos w.heap.size)
  case atStart => exact .inl ⟨rfl, rfl⟩
  case round =>
    rcases hrel with ⟨rfl, rfl⟩ | ⟨rfl, rfl⟩
    · have hnx := HN.out
      go_wp2
      go_roundw
      case rel => exact .inr ⟨trivial, by first | rfl | go_num⟩
      case measure => simp; omega
    · by_cases hp : W < s.size
      · have hnx : ∀ ty, (Instr.next (.pointer (some ⟨w.heap.size, 0, none⟩)) true ty).run Try.prog (w.iter s W) = _ := fun ty => run_next_any w s W ty hp
        have hW1' : (0 : Int) < (W : Int) := by omega
        go_wp2
        go_ret2
        exact ⟨rfl, (Kept.refl _ _ _).alloc _⟩
      · have hnx : ∀ ty, (Instr.next (.pointer (some ⟨w.heap.size, 0, none⟩)) true ty).run Try.prog (w.iter s W) = _ := fun ty => run_next_end w s W ty hp
        have HE : Hid (s.size = W) := by show s.size = W; omega
        go_wp2
        go_ret2
        exact ⟨by rw [HE.out]; rfl, (Kept.refl _ _ _).alloc _⟩

set_option maxHeartbeats 1000000 in
theorem runeAt_walk2 (g off L c q : Nat) (w : World) (q1 : L ≤ c) (m1 : c ≤ 2 ^ 63 - 1) (hn : L ≤ 9000000000000000000) (hql : q < L) (s : ByteArray) (F1 F2 : Int)
    (hs : s.size = 4) (e1 : ((Utf8.decode s 0).1 : Int) = F1) (e2 : ((Utf8.decode s 0).2 : Int) = F2) (w1 : 1 ≤ F2) (w2 : F2 ≤ (4 : Nat)) (f0 : 0 ≤ F1) (f1 : F1 ≤ 1114111)
    (h4 : q + 4 < L) (hcv : ∀ cap, (convert 22 9 (.slice (some ⟨g, off + q, none⟩) (4) cap)).run Try.prog w = .ok (.string s) w) :
    Calls Try.prog 15 #[.slice (some ⟨g, off, none⟩) L c, .int .i64 (q : Int)] w fun e w' => e = .returned (.tuple #[.int .i64 F1, .int .i64 F2]) ∧ Kept 0 0 w w' := by
  generalize hW : (Utf8.decode s 0).2 = W at *
  generalize hR : (Utf8.decode s 0).1 = R at *
  subst e1 e2
  have hs0 : 0 < s.size := by omega
  have HN : Hid (∀ ty, (Instr.next (.pointer (some ⟨w.heap.size, 0, none⟩)) true ty).run Try.prog (w.iter s 0) = .ok (.tuple #[.bool true, .int .i64 0, .int .i32 R]) (w.iter s W)) := fun ty => by
    have := run_next_any (P := Try.prog) w s 0 ty hs0
    rw [hW, hR, Nat.zero_add] at this
    exact this
  have hWs : W ≤ s.size := by omega
  have hW1 : 1 ≤ W := by omega
  have hsl : s.size ≤ 4611686018427387904 := by omega
  clear hW hR hs w1 w2
  have hl4 : ¬ (L : Int) ≤ (q : Int) + 4 := by omega
  have hge : ¬ L ≤ q := by omega
  have hq0 : ¬ (q : Int) < 0 := by omega
  go_enter Try.func15, Try.ntmps15
  go_wp2
  clear hcv
  go_loopw [7] (fun first wr => (wr = w.iter s 0 ∧ first = .int .i64 0) ∨ (wr = w.iter s W ∧ first = .int .i64 (R : Int))) (fun _ wr => s.size - wr.iterPos w.heap.size)
  case atStart => exact .inl ⟨rfl, rfl⟩
  case round =>
    rcases hrel with ⟨rfl, rfl⟩ | ⟨rfl, rfl⟩
    · have hnx := HN.out
      go_wp2
      go_roundw
      case rel => exact .inr ⟨trivial, by first | rfl | go_num⟩
      case measure => simp; omega
    · by_cases hp : W < s.size
      · have hnx : ∀ ty, (Instr.next (.pointer (some ⟨w.heap.size, 0, none⟩)) true ty).run Try.prog (w.iter s W) = _ := fun ty => run_next_any w s W ty hp
        have hW1' : (0 : Int) < (W : Int) := by omega
        go_wp2
        go_ret2
        exact ⟨rfl, (Kept.refl _ _ _).alloc _⟩
      · have hnx : ∀ ty, (Instr.next (.pointer (some ⟨w.heap.size, 0, none⟩)) true ty).run Try.prog (w.iter s W) = _ := fun ty => run_next_end w s W ty hp
        have HE : Hid (s.size = W) := by show s.size = W; omega
        go_wp2
        go_ret2
        exact ⟨by rw [HE.out]; rfl, (Kept.refl _ _ _).alloc _⟩

set_option maxHeartbeats 400000 in
theorem runeAt_impl {bw : Bool} {lo hi : Nat} {v : Value} {zs : List Int} (w : World) (r : Row .u8 bw lo hi w v zs) (hb : Bytes zs) (p : Int) (hn : zs.length ≤ 9000000000000000000) :
    Calls Try.prog 15 #[v, .int .i64 p] w fun e w' => e = .returned (.tuple #[.int .i64 (arune zs p).1, .int .i64 (arune zs p).2]) ∧ Kept 0 0 w w' := by
  have r' := r
  obtain ⟨a, c, rfl, q1, m1, q3⟩ := r
  by_cases h0 : p < 0
  · have hd : arune zs p = (0, 0) := by unfold arune; rw [if_neg (by omega)]
    rw [hd]
    clear hd r' hb q1 m1 q3
    go_enter Try.func15, Try.ntmps15
    go_wp2
    go_ret2
    exact ⟨rfl, Kept.refl _ _ _⟩
  by_cases h1 : (zs.length : Int) ≤ p
  · have hd : arune zs p = (0, 0) := by unfold arune; rw [if_neg (by omega)]
    rw [hd]
    clear hd r' hb q1 m1 q3
    go_enter Try.func15, Try.ntmps15
    go_wp2
    go_ret2
    exact ⟨rfl, Kept.refl _ _ _⟩
  obtain ⟨q, rfl⟩ := Int.eq_ofNat_of_zero_le (by omega : 0 ≤ p)
  have hd : arune zs (q : Int) = drune zs q := by unfold arune; rw [if_pos (by omega)]; rfl
  rw [hd]
  have hql : q < zs.length := by omega
  obtain ⟨g, off, rfl, _, _, _, hcell, _⟩ := q3 (by intro e; simp [e] at hql)
  unfold maxLen at m1
  clear hd q3
  by_cases h4 : zs.length ≤ q + 4
  · have hlen := piece_length zs q (zs.length - q) (by omega)
    have hcv : ∀ cap, (convert 22 9 (.slice (some ⟨g, off + q, none⟩) (zs.length - q) cap)).run Try.prog w = .ok (.string (strOfNums ((zs.drop q).take (zs.length - q)))) w := fun cap =>
      run_convert_bytes_arg w 22 5 Try.underlying22 Try.underlying5 g (off + q) (zs.length - q) cap _ hlen (fun i hi => by
        rw [piece_at zs q _ i hi (by omega), Nat.add_assoc]; exact hcell (q + i) (by omega)) 9 Try.underlying9
    have hdec := decode_drune _ (piece_bytes hb q (zs.length - q)) 0 (by rw [hlen]; omega)
    have hwid := drune_width _ 0 (by rw [hlen]; omega : 0 < ((zs.drop q).take (zs.length - q)).length)
    have hmay := mayB_bd (drune_may zs hb q)
    rw [piece_drune zs q (zs.length - q) (by omega) (by omega) (by omega)] at hdec hwid
    have hsz := str_size ((zs.drop q).take (zs.length - q))
    rw [hlen] at hsz hwid
    simp only [Int.natCast_zero, Int.zero_add] at hwid
    generalize strOfNums ((zs.drop q).take (zs.length - q)) = s at *
    generalize drune zs q = F at *
    obtain ⟨F1, F2⟩ := F
    simp only [Prod.mk.injEq] at hdec
    exact runeAt_walk1 g off zs.length c q w q1 m1 hn hql s F1 F2 hsz hdec.1 hdec.2 hwid.1 hwid.2.1 hmay.1 hmay.2 h4 hcv
  · have hlen := piece_length zs q (4) (by omega)
    have hcv : ∀ cap, (convert 22 9 (.slice (some ⟨g, off + q, none⟩) (4) cap)).run Try.prog w = .ok (.string (strOfNums ((zs.drop q).take (4)))) w := fun cap =>
      run_convert_bytes_arg w 22 5 Try.underlying22 Try.underlying5 g (off + q) (4) cap _ hlen (fun i hi => by
        rw [piece_at zs q _ i hi (by omega), Nat.add_assoc]; exact hcell (q + i) (by omega)) 9 Try.underlying9
    have hdec := decode_drune _ (piece_bytes hb q (4)) 0 (by rw [hlen]; omega)
    have hwid := drune_width _ 0 (by rw [hlen]; omega : 0 < ((zs.drop q).take (4)).length)
    have hmay := mayB_bd (drune_may zs hb q)
    rw [piece_drune zs q (4) (by omega) (by omega) (by omega)] at hdec hwid
    have hsz := str_size ((zs.drop q).take (4))
    rw [hlen] at hsz hwid
    simp only [Int.natCast_zero, Int.zero_add] at hwid
    generalize strOfNums ((zs.drop q).take (4)) = s at *
    generalize drune zs q = F at *
    obtain ⟨F1, F2⟩ := F
    simp only [Prod.mk.injEq] at hdec
    exact runeAt_walk2 g off zs.length c q w q1 m1 hn hql s F1 F2 hsz hdec.1 hdec.2 hwid.1 hwid.2.1 hmay.1 hmay.2 (by omega) hcv
end Go.Proofs.Ytbcojphjohpmdaa
