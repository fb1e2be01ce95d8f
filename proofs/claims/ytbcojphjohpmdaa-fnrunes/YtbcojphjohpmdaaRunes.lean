/-
  Contracts of Runes, the model's and the program's: all runes of at most 400 bytes, one behind the other, in new memory.
-/
import Derived.Test.YtbcojphjohpmdaaImpl1
import Derived.Lib.OthersKept
import Derived.WalkSmall
namespace Go.Proofs.Ytbcojphjohpmdaa
open Go.RowKit
set_option linter.unusedVariables false

/-- The runes from a place on; the first number bounds how many. -/
def runesL (zs : List Int) : Nat → Nat → List Int
  | 0, _ => []
  | f + 1, p => if p < zs.length then (drune zs p).1 :: runesL zs f (p + (drune zs p).2.toNat) else []
def runes (zs : List Int) : List Int := if 400 < zs.length then [] else runesL zs zs.length 0

theorem runesL_end (zs : List Int) (f p : Nat) (h : ¬ p < zs.length) : runesL zs f p = [] := by cases f <;> simp [runesL, h]
theorem runesL_step (zs : List Int) (f p : Nat) (h : p < zs.length) : runesL zs (f + 1) p = (drune zs p).1 :: runesL zs f (p + (drune zs p).2.toNat) := by simp [runesL, h]
theorem runesL_length (zs : List Int) : ∀ f p, (runesL zs f p).length ≤ f
  | 0, _ => by simp [runesL]
  | f + 1, p => by
    unfold runesL
    split
    · have := runesL_length zs f (p + (drune zs p).2.toNat)
      simp; omega
    · simp
theorem runes_length (zs : List Int) : (runes zs).length ≤ 400 := by
  unfold runes
  split
  · simp
  · have := runesL_length zs zs.length 0; omega
theorem row_string {P : Program} {bw : Bool} {lo hi : Nat} {v : Value} {zs : List Int} (w : World) (ts e tt : TypeId) (h1 : P.underlying ts = some (.slice e)) (h2 : P.underlying e = some (.int .u8)) (h3 : P.underlying tt = some .string)
    (r : Row .u8 bw lo hi w v zs) : (convert ts tt v).run P w = .ok (.string (strOfNums zs)) w := by
  obtain ⟨a, c, rfl, q1, m1, q3⟩ := r
  by_cases hz : zs = []
  · subst hz
    cases a with
    | none => exact run_convert_bytes_nil w ts e h1 h2 _ _ tt h3
    | some a =>
      rw [run_convert_bytes_string w ts tt e _ _ _ h1 h2 h3]
      show (Conv.bytesToString (.slice (some a) 0 c)).run P w = _
      rw [run_bytesToString w a 0 c [] (by have := run_loadCells_list (P := P) w a [] (fun j u hj => by simp at hj); simpa using this)]
      rfl
  · obtain ⟨g, off, rfl, _, _, _, hc, _⟩ := q3 hz
    exact run_convert_bytes_arg w ts e h1 h2 g off zs.length c zs rfl hc tt h3
theorem Try.info3 : (Try.prog.info? 3).map (fun i => (i.zero, i.size, i.bytes)) = some (some (.int .i64 0), 1, 8) := by kernel_rfl

set_option maxHeartbeats 1000000 in
theorem runes_spec {bw : Bool} {lo hi : Nat} {v : Value} {zs : List Int} (w : World) (r : Row .u8 bw lo hi w v zs) (hb : Bytes zs) (hn : zs.length ≤ 9000000000000000000) :
    Calls Try.prog 21 #[v] w fun e w' => ∃ v', e = .returned v' ∧ Row .i64 true w.heap.size w'.heap.size w' v' (runes zs) ∧ Kept 0 0 w w' := by
  have r' := r.read.tight
  obtain ⟨a, c, rfl, q1, m1, q3⟩ := r
  clear q1 m1 q3
  by_cases hbig : 400 < (zs.length : Int)
  · have hr : runes zs = [] := by unfold runes; rw [if_pos (by omega)]
    rw [hr]
    go_enter Try.func21, Try.ntmps21
    go_wp2
    go_ret
    exact ⟨_, rfl, Row.nil _ _ _ _ _, Kept.refl _ _ _⟩
  · have hr : runes zs = runesL zs zs.length 0 := by unfold runes; rw [if_neg (by omega)]
    rw [hr]
    clear hr
    have h400 : zs.length ≤ 400 := by omega
    obtain ⟨i0, hi0, hz0, hz1, hz2⟩ := info_parts Try.info3
    go_enter Try.func21, Try.ntmps21
    go_wp2
    go_loopw [3, 4] (fun vv i wr => ∃ (p f : Nat) (acc : List Int), p ≤ zs.length ∧ zs.length ≤ p + f ∧ i = .int .i64 p ∧ wr.ownsRow w.heap.size 3 1 vv acc.length (acc.map (Value.int .i64)) ∧ acc.length ≤ p ∧ Hid (acc ++ runesL zs f p = runesL zs zs.length 0) ∧ Below w.heap.size w wr) (fun _ i _ => zs.length - (intOf i).toNat)
    case atStart => exact ⟨0, zs.length, [], Nat.zero_le _, by omega, rfl, World.ownsRow_nil _ _ _ _, Nat.zero_le _, rfl, Below.refl _ _⟩
    case round =>
      obtain ⟨p, f, acc, hp, hf, rfl, hown, hal, hacc, hbel⟩ := hrel
      by_cases hlt : p < zs.length
      · have hlt' : (p : Int) < (zs.length : Int) := by omega
        obtain ⟨wd1, wd2, wd3⟩ := drune_width zs p hlt
        obtain ⟨md1, md2⟩ := mayB_bd (drune_may zs hb p)
        obtain ⟨f, rfl⟩ : ∃ f', f = f' + 1 := ⟨f - 1, by omega⟩
        have hs := runesL_step zs f p hlt
        have HC := hide (l1rune_any wr (r'.kept (Kept.pure (B := 0) hbel) (by omega)) hb p hlt hn)
        generalize hF : drune zs p = F at *
        obtain ⟨F1, F2⟩ := F
        simp only at wd1 wd2 wd3 md1 md2 hs
        obtain ⟨W, rfl⟩ := Int.eq_ofNat_of_zero_le (by omega : 0 ≤ F2)
        simp only [Int.toNat_natCast] at hs
        have HS := hide hs
        clear hF hs
        go_wp2_with (first | (go_at_call 39; refine (unhide HC).mono ?_; rintro e w' ⟨rfl, rfl⟩) | (at_builtin; refine wpList_append_own _ rfl _ _ 24 rfl w.heap.size 3 i0 (.int .i64 0) 1 8 Try.underlying24 hi0 hz0 hz1 hz2 rfl (by decide) _ _ _ rfl (hown.alloc _) ⟨w'.heap.size, 0, none⟩ 1 1 [.int .i64 F1] rfl rfl ?c1 ?c2 ?c3 ?c4 ?c5 ?_))
        case c1 =>
          intro j u hj
          match j, hj with
          | 0, hj => simp at hj; subst hj; simp [Addr.add]
        case c2 => intro u hu; simp at hu; subst hu; rfl
        case c3 => unfold maxLen; omega
        case c4 => omega
        case c5 => have := hbel.size; simp; omega
        · intro v' w1 hown' hgrow _
          have hbel' : Below w.heap.size w w1 := (hbel.alloc hbel.size _).grown hgrow (by have := hbel.size; simp; omega) (fun k hk => (hown.lt k hk).1)
          have hown2 : w1.ownsRow w.heap.size 3 1 v' (acc ++ [F1]).length ((acc ++ [F1]).map (Value.int .i64)) := by simpa using hown'
          clear hown' hgrow hown HC hbel hi0 hz0 hz1 hz2 r'
          go_wp2
          go_roundw
          case rel => exact ⟨p + W, f, acc ++ [F1], by omega, by omega, by go_num, hown2, by simp; omega, by show _ = _; rw [← hacc.out, HS.out]; simp, hbel'⟩
          case measure => simp [intOf]; omega
      · have hlt' : ¬ (p : Int) < (zs.length : Int) := by omega
        have hacc' := hacc.out
        rw [runesL_end zs f p hlt, List.append_nil] at hacc'
        subst hacc'
        have hrow := Row.own hown
        clear hi0 hz0 hz1 hz2 r' hown
        go_wp2
        go_ret
        exact ⟨_, rfl, hrow, Kept.pure hbel⟩

set_option maxHeartbeats 1000000 in
theorem runes_impl {bw : Bool} {lo hi : Nat} {v : Value} {zs : List Int} (w : World) (r : Row .u8 bw lo hi w v zs) (hb : Bytes zs) :
    Calls Try.prog 12 #[v] w fun e w' => ∃ v', e = .returned v' ∧ Row .i64 true w.heap.size w'.heap.size w' v' (runes zs) ∧ Kept 0 0 w w' := by
  have hcv := row_string (P := Try.prog) w 22 5 9 Try.underlying22 Try.underlying5 Try.underlying9 r
  obtain ⟨a, c, rfl, q1, m1, q3⟩ := r
  clear q1 m1 q3
  by_cases hbig : 400 < (zs.length : Int)
  · have hr : runes zs = [] := by unfold runes; rw [if_pos (by omega)]
    rw [hr]
    go_enter Try.func12, Try.ntmps12
    go_wp2
    go_ret
    exact ⟨_, rfl, Row.nil _ _ _ _ _, Kept.refl _ _ _⟩
  · have hr : runes zs = runesL zs zs.length 0 := by unfold runes; rw [if_neg (by omega)]
    rw [hr]
    clear hr
    have h400 : zs.length ≤ 400 := by omega
    have hdec := fun p (hp : p < zs.length) => decode_drune zs hb p hp
    have hssz := str_size zs
    generalize strOfNums zs = s at *
    have HSZ := hide hssz
    have HDEC := hide hdec
    clear hssz hdec
    obtain ⟨i0, hi0, hz0, hz1, hz2⟩ := info_parts Try.info3
    go_enter Try.func12, Try.ntmps12
    go_wp2
    clear hcv
    go_loopw [3] (fun vv wr => ∃ (p f : Nat) (acc : List Int), p ≤ zs.length ∧ zs.length ≤ p + f ∧ wr.heap[w.heap.size]? = some (.stringIter s p) ∧ wr.ownsRow (w.heap.size + 1) 3 1 vv acc.length (acc.map (Value.int .i64)) ∧ acc.length ≤ p ∧ Hid (acc ++ runesL zs f p = runesL zs zs.length 0) ∧ Below w.heap.size w wr) (fun _ wr => zs.length - wr.iterPos w.heap.size)
    case atStart => exact ⟨0, zs.length, [], Nat.zero_le _, by omega, World.iter_heap _ _ _, World.ownsRow_nil _ _ _ _, Nat.zero_le _, rfl, (Below.refl _ _).alloc (Nat.le_refl _) _⟩
    case round =>
      obtain ⟨p, f, acc, hp, hf, hit, hown, hal, hacc, hbel⟩ := hrel
      have hKs : w.heap.size < wr.heap.size := (Array.getElem?_eq_some_iff.1 hit).1
      by_cases hlt : p < zs.length
      · have hps : p < s.size := by rw [unhide HSZ]; exact hlt
        obtain ⟨wd1, wd2, wd3⟩ := drune_width zs p hlt
        obtain ⟨md1, md2⟩ := mayB_bd (drune_may zs hb p)
        obtain ⟨f, rfl⟩ : ∃ f', f = f' + 1 := ⟨f - 1, by omega⟩
        have hs := runesL_step zs f p hlt
        have hd := unhide HDEC p hlt
        have HN : Hid (∀ ty, (Instr.next (.pointer (some ⟨w.heap.size, 0, none⟩)) true ty).run Try.prog wr = _) := fun ty => Lib.run_next_any_at (P := Try.prog) wr w.heap.size s p ty hit hps
        rw [← hd] at wd1 wd2 wd3 md1 md2 hs
        simp only [Int.toNat_natCast] at wd1 wd2 wd3 md1 md2 hs
        generalize (Utf8.decode s p).1 = R at *
        generalize (Utf8.decode s p).2 = W at *
        have HS := hide hs
        have hnx := HN.out
        have hown0 := ownsRow_iterAt hown (k := w.heap.size) (by omega) s (p + W)
        have hb0 : Below w.heap.size w (wr.iterAt w.heap.size s (p + W)) := Lib.below_iterAt hbel (Nat.le_refl _) s (p + W)
        have hit0 := Lib.iterAt_heap wr w.heap.size s p (p + W) hit
        have hsz0 := Lib.iterAt_size wr w.heap.size s (p + W)
        generalize wr.iterAt w.heap.size s (p + W) = w0 at *
        have HSZ0 := hide hsz0
        have HIT0 := hide hit0
        have HIT := hide hit
        clear hd hs hsz0 hit hit0
        go_wp2_with (at_builtin; refine wpList_append_own _ rfl _ _ 24 rfl (w.heap.size + 1) 3 i0 (.int .i64 0) 1 8 Try.underlying24 hi0 hz0 hz1 hz2 rfl (by decide) _ _ _ rfl (hown0.alloc _) ⟨w0.heap.size, 0, none⟩ 1 1 [.int .i64 (R : Int)] rfl rfl ?c1 ?c2 ?c3 ?c4 ?c5 ?_)
        case c1 =>
          intro j u hj
          match j, hj with
          | 0, hj => simp at hj; subst hj; simp [Addr.add]
        case c2 => intro u hu; simp at hu; subst hu; rfl
        case c3 => unfold maxLen; omega
        case c4 => omega
        case c5 => have := unhide HSZ0; simp; omega
        · intro v' w1 hown' hgrow _
          have hs0 := unhide HSZ0
          have hbel' : Below w.heap.size w w1 := (hb0.alloc (by omega) _).grown hgrow (by simp; omega) (fun k hk => by have := (hown0.lt k hk).1; omega)
          have hown2 : w1.ownsRow (w.heap.size + 1) 3 1 v' (acc ++ [(R : Int)]).length ((acc ++ [(R : Int)]).map (Value.int .i64)) := by simpa using hown'
          have hit2 : w1.heap[w.heap.size]? = some (.stringIter s (p + W)) := by
            rw [hgrow.block w.heap.size (by simp; omega) (fun e => by have := (hown0.lt _ e.symm).1; omega), Below.heap_alloc _ _ _ (by omega)]
            exact unhide HIT0
          have hit1 := unhide HIT
          have HIT2 := hide hit2
          clear hown' hgrow hown hown0 hbel hi0 hz0 hz1 hz2 hb0 hnx HN hit2 hit1 hs0
          go_wp2
          go_roundw
          case rel => exact ⟨p + W, f, acc ++ [(R : Int)], by omega, by omega, unhide HIT2, hown2, by simp; omega, by show _ = _; rw [← hacc.out, HS.out]; simp, hbel'⟩
          case measure =>
            rw [iterPos_of (unhide HIT2), iterPos_of (unhide HIT)]
            omega
      · have hps : ¬ p < s.size := by rw [unhide HSZ]; exact hlt
        have hnx : ∀ ty, (Instr.next (.pointer (some ⟨w.heap.size, 0, none⟩)) true ty).run Try.prog wr = _ := fun ty => Lib.run_next_end_at (P := Try.prog) wr w.heap.size s p ty hit hps
        have hacc' := hacc.out
        rw [runesL_end zs f p hlt, List.append_nil] at hacc'
        subst hacc'
        have hrow := (Row.own hown).wider (Nat.le_succ _) (Nat.le_refl _)
        clear hi0 hz0 hz1 hz2 hown hit
        go_wp2
        go_ret
        exact ⟨_, rfl, hrow, Kept.pure hbel⟩
end Go.Proofs.Ytbcojphjohpmdaa
