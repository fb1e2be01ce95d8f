/-
  Contracts that the proofs of this seat share: Draw, DrawN, DrawN2, DrawN3, DrawN4, DrawN5.
-/
import Derived.Test.YtedknfciomoofaaDoorBA
import Derived.Test.YtedknfciomoofaaDoorBE
import Derived.Test.YtedknfciomoofaaDoorBB
import Derived.Test.YtedknfciomoofaaDoorBC
import Derived.Test.YtedknfciomoofaaDoorBK
namespace Go.Proofs.YtedknfciomoofaaDoor
open Go.RowKit
set_option maxRecDepth 8000
set_option linter.unusedVariables false

/-- A cursor of the draws in block g: its slice can be read in blocks below lo, its place is not below nought. -/
def Cur (g lo : Nat) (w : World) : Prop :=
  g < w.heap.size ∧ lo ≤ g ∧ ∃ (v : Value) (zs : List Int) (i h : Int), Row .u8 false 0 lo w v zs ∧ Bytes zs ∧ 0 ≤ i ∧ i ≤ zs.length ∧
    w.cell? ⟨g, 0, none⟩ = some v ∧ w.cell? ⟨g, 1, none⟩ = some (.int .i64 i) ∧ w.cell? ⟨g, 2, none⟩ = some (.int .i64 h) ∧ (∀ o, w.frozen? ⟨g, o, none⟩ = false)

theorem Cur.kept {g lo l h : Nat} {w w' : World} (c : Cur g lo w) (q : Kept l h w w') (hd : g < l ∨ (h ≤ g ∧ lo ≤ l) ∨ h ≤ l) : Cur g lo w' := by
  obtain ⟨h1, h2, v, zs, i, hh, r, b, i0, i1, c0, c1, c2, fz⟩ := c
  have hb := q.block g h1 (by omega)
  refine ⟨Nat.lt_of_lt_of_le h1 q.size, h2, v, zs, i, hh, r.kept q (by omega), b, i0, i1, ?_, ?_, ?_, fun o => ?_⟩
  · exact (World.cell?_of_block (w := w) (a := ⟨g, 0, none⟩) hb).trans c0
  · exact (World.cell?_of_block (w := w) (a := ⟨g, 1, none⟩) hb).trans c1
  · exact (World.cell?_of_block (w := w) (a := ⟨g, 2, none⟩) hb).trans c2
  · exact (World.frozen?_of_block (w := w) (a := ⟨g, o, none⟩) hb).trans (fz o)

theorem Cur.grown {g lo : Nat} {w w' : World} {row : Option Nat} (c : Cur g lo w) (hg : w.grownBy w' row) (hr : ∀ k, row = some k → g < k) : Cur g lo w' :=
  c.kept (l := g + 1) (h := w.heap.size) ⟨hg.os, hg.tape, hg.output, hg.size, fun i hi ho => hg.block i hi (fun e => by have := hr i e.symm; omega)⟩ (.inl (Nat.lt_succ_self _))
theorem Cur.setFar {g lo : Nat} {w : World} (c : Cur g lo w) {p : Addr} (hp : g < p.block) (u : Value) : Cur g lo (w.setCell p u) :=
  c.kept (l := p.block) (h := p.block + 1) ((Kept.refl _ _ w).setCell (Nat.le_refl _) (Nat.lt_succ_self _) u) (.inl hp)

theorem and_byte (n : Int) : 0 ≤ bits .and .i64 n 255 ∧ bits .and .i64 n 255 ≤ 255 := by rw [and255]; omega
theorem Cur.setH {g lo : Nat} {w : World} (c : Cur g lo w) (h : Int) : Cur g lo (w.setCell ⟨g, 2, none⟩ (.int .i64 h)) := by
  obtain ⟨h1, h2, v, zs, i, hh, r, b, i0, i1, c0, c1, c2, fz⟩ := c
  exact ⟨by rw [size_set]; exact h1, h2, v, zs, i, h, r.kept ((Kept.refl g (g + 1) w).setCell (p := ⟨g, 2, none⟩) (Nat.le_refl _) (Nat.lt_succ_self _) _) (by omega), b, i0, i1, cell_off _ _ _ _ _ _ c0 (by decide), cell_off _ _ _ _ _ _ c1 (by decide), cell_on _ _ _ _ _ c2, fun o => by rw [frozen_set]; exact fz o⟩

theorem curI {g lo : Nat} {W : World} {v : Value} {zs : List Int} {i hh : Int} (h1 : g < W.heap.size) (h2 : lo ≤ g) (hr : Row .u8 false 0 lo W v zs) (b : Bytes zs) (j : Int) (j0 : 0 ≤ j) (j1 : j ≤ zs.length)
    (c0 : W.cell? ⟨g, 0, none⟩ = some v) (c1 : W.cell? ⟨g, 1, none⟩ = some (.int .i64 i)) (c2 : W.cell? ⟨g, 2, none⟩ = some (.int .i64 hh)) (fz : ∀ o, W.frozen? ⟨g, o, none⟩ = false) (n : Nat) :
    Cur g lo ((W.drewN n).setCell ⟨g, 1, none⟩ (.int .i64 j)) := by
  exact ⟨by rw [size_set]; exact h1, h2, v, zs, j, hh, hr.kept (((Kept.refl g (g + 1) W).drewN n).setCell (p := ⟨g, 1, none⟩) (Nat.le_refl _) (Nat.lt_succ_self _) _) (by omega), b, j0, j1,
    cell_off (W.drewN n) _ _ _ _ _ c0 (by decide), cell_on (W.drewN n) _ _ _ _ c1, cell_off (W.drewN n) _ _ _ _ _ c2 (by decide), fun o => by rw [frozen_set]; exact fz o⟩

set_option maxHeartbeats 1000000 in
theorem l1Byte_any (g lo : Nat) (w : World) (c : Cur g lo w) :
    Calls Tryd.prog 55 #[.pointer (some ⟨g, 0, none⟩)] w fun e w' => ∃ x : Int, e = .returned (.int .i64 x) ∧ 0 ≤ x ∧ x ≤ 255 ∧ Cur g lo w' ∧ Kept g (g + 1) w w' ∧ w'.heap.size = w.heap.size := by
  have hset := fun h => c.setH h
  have HSET := hide hset
  obtain ⟨h1, h2, v, zs, i, hh, r, b, i0, i1, c0, c1, c2, fz⟩ := c
  have f1 := fz 1
  have f2 := fz 2
  clear hset v zs i r b i0 i1 c0 c1 fz
  go_enter Tryd.func55, Tryd.ntmps55
  go_wp2
  generalize wrap64 (wrap64 (hh * 6364136223846793005) + 1442695040888963407) = h'
  have hc := unhide HSET h'
  have hk : Kept g (g + 1) w (w.setCell ⟨g, 2, none⟩ (.int .i64 h')) := (Kept.refl g (g + 1) w).setCell (p := ⟨g, 2, none⟩) (Nat.le_refl _) (Nat.lt_succ_self _) _
  have hsz : (w.setCell ⟨g, 2, none⟩ (.int .i64 h')).heap.size = w.heap.size := size_set _ _ _
  generalize w.setCell ⟨g, 2, none⟩ (.int .i64 h') = W at *
  have HSZ := hide hsz
  clear hsz c2 f1 f2 HSET
  have hcur := hc
  obtain ⟨h1', -, v, zs, i, hh2, r, b, i0, i1, c0, c1, c2, fz⟩ := hc
  have f1 := fz 1
  have hfz := hide fz
  have hr := r
  obtain ⟨a, cc, rfl, q1, m1, q3⟩ := r
  unfold maxLen at m1
  by_cases hlt : i < (zs.length : Int)
  · obtain ⟨k, rfl⟩ := Int.eq_ofNat_of_zero_le i0
    obtain ⟨gz, off, rfl, z1, z2, z3, hcell, -⟩ := q3 (by intro e; subst e; simp at hlt; omega)
    have hz := hcell k (by omega)
    obtain ⟨by0, by1⟩ := b.at k
    generalize zs.getD k 0 = z at *
    clear q3 hcell fz
    go_quiet (fail)
    go_wp2
    go_quiet (fail)
    go_wp2
    go_quiet (fail)
    go_wp2
    go_ret
    refine ⟨_, rfl, (and_byte _).1, (and_byte _).2, ?_, ?_, ?_⟩
    · exact curI h1' h2 hr b (k + 1) (by omega) (by omega) c0 c1 c2 (unhide hfz) _
    · exact (hk.drewN _).setCell (p := ⟨g, 1, none⟩) (Nat.le_refl _) (Nat.lt_succ_self _) _
    · rw [size_set]; exact unhide HSZ
  · clear q3 fz f1
    go_quiet (fail)
    go_wp2
    go_quiet (fail)
    go_wp2
    go_ret
    exact ⟨_, rfl, (and_byte _).1, (and_byte _).2, hcur.kept (l := 0) (h := 0) (((Kept.refl 0 0 W).drewN _).drewN _) (by omega), (hk.drewN _).drewN _, unhide HSZ⟩

/-- What a draw leaves: the cursor's block alone may have turned. -/
def Drew (g lo : Nat) (w w' : World) : Prop := Cur g lo w' ∧ Kept g (g + 1) w w' ∧ w'.heap.size = w.heap.size

set_option maxHeartbeats 1000000 in
theorem l1Below_any (g lo : Nat) (w : World) (c : Cur g lo w) (n : Int) :
    Calls Tryd.prog 34 #[.pointer (some ⟨g, 0, none⟩), .int .i64 n] w fun e w' => ∃ x : Int, e = .returned (.int .i64 x) ∧ (n ≤ 0 → x = 0) ∧ (0 < n → 0 ≤ x ∧ x < n) ∧ Drew g lo w w' := by
  by_cases h0 : n ≤ 0
  · go_enter Tryd.func34, Tryd.ntmps34
    go_wp2
    go_ret
    exact ⟨0, rfl, fun _ => rfl, fun h => by omega, c, Kept.refl _ _ _, rfl⟩
  by_cases h1 : n ≤ 256
  · have h0' : 0 < n := by omega
    go_enter Tryd.func34, Tryd.ntmps34
    go_wp2_with fail
    refine (l1Byte_any g lo _ c).mono ?_
    rintro e w1 ⟨x, rfl, x0, x1, c1, k1, s1⟩
    have HS := hide s1
    clear s1
    go_wp2
    go_ret
    exact ⟨x % n, rfl, fun h => by omega, fun _ => ⟨Int.emod_nonneg _ (by omega), Int.emod_lt_of_pos _ h0'⟩, c1, k1, unhide HS⟩
  · have h0' : 0 < n := by omega
    go_enter Tryd.func34, Tryd.ntmps34
    go_wp2_with fail
    refine (l1Byte_any g lo _ c).mono ?_
    rintro e w1 ⟨x, rfl, x0, x1, c1, k1, s1⟩
    have HS1 := hide s1
    clear s1
    go_wp2_with fail
    refine (l1Byte_any g lo _ c1).mono ?_
    rintro e w2 ⟨y, rfl, y0, y1, c2, k2, s2⟩
    have HS2 := hide s2
    clear s2
    go_wp2_with fail
    refine (l1Byte_any g lo _ c2).mono ?_
    rintro e w3 ⟨z, rfl, z0, z1, c3, k3, s3⟩
    have HS3 := hide s3
    clear s3
    go_wp2_with fail
    refine (l1Byte_any g lo _ c3).mono ?_
    rintro e w4 ⟨u, rfl, u0, u1, c4, k4, s4⟩
    have HS4 := hide s4
    clear s4
    go_wp2
    go_ret
    exact ⟨(x * 16777216 + y * 65536 + z * 256 + u) % n, rfl, fun h => by omega, fun _ => ⟨Int.emod_nonneg _ (by omega), Int.emod_lt_of_pos _ h0'⟩, c4, ((k1.trans k2).trans k3).trans k4, by
      have a1 := unhide HS1; have a2 := unhide HS2; have a3 := unhide HS3; have a4 := unhide HS4; omega⟩

set_option maxHeartbeats 1000000 in
theorem l1Once_any (g lo : Nat) (w : World) (c : Cur g lo w) (n : Int) :
    Calls Tryd.prog 32 #[.pointer (some ⟨g, 0, none⟩), .int .i64 n] w fun e w' => ∃ b : Bool, e = .returned (.bool b) ∧ Drew g lo w w' := by
  go_enter Tryd.func32, Tryd.ntmps32
  go_wp2_with fail
  refine (l1Below_any g lo _ c n).mono ?_
  rintro e w1 ⟨x, rfl, -, -, hd⟩
  go_wp2
  go_ret
  exact ⟨_, rfl, hd⟩

set_option maxHeartbeats 1000000 in
theorem l1PickInt_any (g lo : Nat) (w : World) (c : Cur g lo w) {bw : Bool} {l h : Nat} {v : Value} {zs : List Int} (r : Row .i64 bw l h w v zs) (hz : zs ≠ []) (hd : h ≤ g ∨ g < l) :
    Calls Tryd.prog 51 #[.pointer (some ⟨g, 0, none⟩), v] w fun e w' => ∃ x : Int, e = .returned (.int .i64 x) ∧ x ∈ zs ∧ Drew g lo w w' := by
  have hpos : 0 < zs.length := List.length_pos_iff.2 hz
  have hr := r
  obtain ⟨a, cc, rfl, q1, m1, q3⟩ := r
  unfold maxLen at m1
  clear q3
  go_enter Tryd.func51, Tryd.ntmps51
  go_wp2_with fail
  refine (l1Below_any g lo _ c zs.length).mono ?_
  rintro e w1 ⟨x, rfl, -, hx, hdr⟩
  obtain ⟨x0, x1⟩ := hx (by omega)
  obtain ⟨k, rfl⟩ := Int.eq_ofNat_of_zero_le x0
  obtain ⟨g2, off, rfl, hc⟩ := (row_cell (hr.kept hdr.2.1 (by omega))).2.2.2 k (by omega)
  clear hx
  go_wp2
  go_ret
  refine ⟨_, rfl, ?_, hdr⟩
  have hk : k < zs.length := by omega
  simp [hk]

theorem curNew {w : World} {v : Value} {zs : List Int} (hr : Row .u8 false 0 w.heap.size w v zs) (b : Bytes zs) (hh : Int) (t : TypeId) : Cur w.heap.size w.heap.size (w.alloc (.cells #[v, .int .i64 0, .int .i64 hh] t)) := by
  have hg : (w.alloc (.cells #[v, .int .i64 0, .int .i64 hh] t)).heap[w.heap.size]? = some (.cells #[v, .int .i64 0, .int .i64 hh] t) := heap_alloc_new w _
  refine ⟨by simp, Nat.le_refl _, v, zs, 0, hh, hr.kept ((Kept.refl 0 0 w).alloc _) (by omega), b, Int.le_refl _, by omega, ?_, ?_, ?_, fun o => ?_⟩
  · simp only [World.cell?, hg]; rfl
  · simp only [World.cell?, hg]; rfl
  · simp only [World.cell?, hg]; rfl
  · simp only [World.frozen?, hg]; simp

set_option maxHeartbeats 1000000 in
theorem l1New_any {bw : Bool} {lo hi : Nat} {v : Value} {zs : List Int} (w : World) (r : Row .u8 bw lo hi w v zs) (b : Bytes zs) :
    Calls Tryd.prog 30 #[v] w fun e w' => ∃ g, e = .returned (.pointer (some ⟨g, 0, none⟩)) ∧ w.heap.size ≤ g ∧ Cur g w.heap.size w' ∧ Kept 0 0 w w' := by
  have hr := (r.read.tight).wider (Nat.zero_le _) (Nat.le_refl _)
  obtain ⟨a, cc, rfl, q1, m1, q3⟩ := r
  have hat := (row_cell (r := ⟨a, cc, rfl, q1, m1, q3⟩)).2.2.2
  unfold maxLen at m1
  clear q3
  go_enter Tryd.func30, Tryd.ntmps30
  go_wp2
  go_loop [3, 4] (fun h i => ∃ (k : Nat) (hh : Int), k ≤ zs.length ∧ i = .int .i64 k ∧ h = .int .i64 hh) (fun _ i => zs.length - (intOf i).toNat)
  case atStart => exact ⟨0, _, Nat.zero_le _, rfl, rfl⟩
  case round =>
    obtain ⟨k, hh, hk, rfl, rfl⟩ := hrel
    by_cases hlt : k < zs.length
    · by_cases h4 : k < 4000
      · obtain ⟨g2, off, rfl, hc⟩ := hat k hlt
        obtain ⟨by0, by1⟩ := b.at k
        generalize zs.getD k 0 = z at *
        have hlt' : (k : Int) < (zs.length : Int) := by omega
        have h4' : (k : Int) < 4000 := by omega
        clear hat
        go_wp2
        go_round
        case rel => exact ⟨k + 1, _, by omega, by go_num, rfl⟩
        case measure => simp [intOf]; omega
      · have hlt' : (k : Int) < (zs.length : Int) := by omega
        have h4' : ¬ (k : Int) < 4000 := by omega
        clear hat
        go_wp2
        go_ret
        exact ⟨w.heap.size, rfl, Nat.le_refl _, curNew hr b hh _, (Kept.refl _ _ _).alloc _⟩
    · have hlt' : ¬ (k : Int) < (zs.length : Int) := by omega
      clear hat
      go_wp2
      go_ret
      exact ⟨w.heap.size, rfl, Nat.le_refl _, curNew hr b hh _, (Kept.refl _ _ _).alloc _⟩

end Go.Proofs.YtedknfciomoofaaDoor

namespace Go.Proofs.YtedknfciomoofaaDoor
open Go.RowKit
set_option linter.unusedVariables false
set_option maxRecDepth 8000

theorem Grow.retOwn {b : Nat} {w wr : World} {v : Value} {zs : List Int} (h : Grow b w wr v zs) :
    Kept 0 0 w (wr.setCell ⟨b, 0, none⟩ v) ∧ (wr.setCell ⟨b, 0, none⟩ v).ownsRow w.heap.size 3 1 v zs.length (zs.map (Value.int .i64)) := by
  obtain ⟨h1, h2, h3, h4, h5, h6⟩ := h
  exact ⟨h4.setNew (p := ⟨b, 0, none⟩) h2 v, own_less (ownsRow_setCell_below h1 (a := ⟨b, 0, none⟩) (Nat.lt_succ_self _) v) (by omega)⟩

/-- A list that noughts at the end were taken off. -/
def Normed (w w' : World) (v : Value) (zs : List Int) : Prop :=
  ∃ zs', w'.ownsRow w.heap.size 3 1 v zs'.length (zs'.map (Value.int .i64)) ∧ (∃ k, k ≤ zs.length ∧ zs' = zs.take k) ∧ (Lim zs → zs' = limbs (val zs).toNat)

set_option maxHeartbeats 2000000 in
theorem norm_own {bw : Bool} {lo hi : Nat} {v : Value} {zs : List Int} (w : World) (r : Row .i64 bw lo hi w v zs) (hlen : zs.length ≤ 1000000) :
    Calls Tryd.prog 68 #[v] w fun e w' => ∃ v', e = .returned (.agg #[v']) ∧ Normed w w' v' zs ∧ Kept 0 0 w w' := by
  have rr := r.read.tight
  obtain ⟨a, c, rfl, q1, m1, q3⟩ := r
  unfold maxLen at m1
  obtain ⟨i0, hi0, hz0, hz1, hz2⟩ := info_parts Tryd.info3'
  clear q3
  go_enter Tryd.func68, Tryd.ntmps68
  go_wp2
  have r1 := rr.kept ((Kept.refl 0 0 w).alloc (.cells #[.slice none 0 0] 26)) (by omega)
  have hat := (row_cell r1).2.2.2
  have hs1 : (w.alloc (.cells #[.slice none 0 0] 26)).heap.size = w.heap.size + 1 := by simp
  have HS1 := hide hs1
  clear hs1
  go_loop [3] (fun n => ∃ k : Nat, k ≤ zs.length ∧ n = .int .i64 k ∧ Hid (∀ i, k ≤ i → i < zs.length → zs.getD i 0 = 0)) (fun n => (intOf n).toNat)
  case atStart => exact ⟨zs.length, Nat.le_refl _, rfl, fun i h1 h2 => by omega⟩
  case round =>
    obtain ⟨k, hk, rfl, hall⟩ := hrel
    by_cases hk0 : k = 0
    · subst hk0
      have HT : Hid (Lim zs → ([] : List Int) = limbs (val zs).toNat) := fun hl => by
        have ht := take_limbs zs hl 0 (Nat.zero_le _) (fun i h1 h2 => hall.out i h1 h2) (.inl rfl)
        rw [List.take_zero] at ht
        exact ht
      clear hat hall
      have hrun := fun ty => run_append_zero (P := Tryd.prog) ((w.alloc (.cells #[.slice none 0 0] 26)).alloc (.cells #[] 3)) 24 ty 3 i0 Tryd.underlying24 hi0 ⟨w.heap.size + 1, 0, none⟩ a 0 0 c (Nat.le_refl _)
      have HRUN := hide hrun
      clear hrun
      go_wp2_with (at_builtin; refine Lib.wpList_append_run _ rfl _ _ _ _ rfl _ _ rfl rfl _ _ (unhide HRUN _) ?_)
      refine bodyPost_ret (v := .agg #[.slice (some ⟨w.heap.size + 1, 0, none⟩) 0 0]) (by simp [results, Tryd.results68, go_sem]) rfl ⟨_, rfl, ⟨[], ?_, ⟨0, Nat.zero_le _, by simp⟩, unhide HT⟩, ((Kept.refl _ _ _).alloc _).alloc _⟩
      exact own_nil_at _ 3 w.heap.size (w.heap.size + 1) (by simp) (Nat.le_succ _)
    · obtain ⟨g, off, rfl, hc⟩ := hat (k - 1) (by omega)
      have hk1 : 1 ≤ k := by omega
      have hpos : (0 : Int) < (k : Int) := by omega
      by_cases hz : zs.getD (k - 1) 0 = 0
      · have hbz : (zs.getD (k - 1) 0 == 0) = true := beq_iff_eq.2 hz
        have HZ := hide hz
        generalize zs.getD (k - 1) 0 = z at hc hbz
        clear hat hz
        go_wp2
        go_round
        case rel => exact ⟨k - 1, by omega, by go_num, fun i h1 h2 => by
          rcases Nat.lt_or_ge i k with h | h
          · have : i = k - 1 := by omega
            subst this; exact unhide HZ
          · exact hall.out i h h2⟩
        case measure => simp [intOf]; omega
      · have hbz : (zs.getD (k - 1) 0 == 0) = false := beq_eq_false_iff_ne.2 hz
        have HT : Hid (Lim zs → zs.take k = limbs (val zs).toNat) := fun hl => take_limbs zs hl k hk (fun i h1 h2 => hall.out i h1 h2) (.inr hz)
        have hne : zs ≠ [] := by intro e; subst e; simp at hk; omega
        obtain ⟨g', o', c', e', -, -, hnews⟩ := (r1.kept ((Kept.refl 0 0 _).alloc (.cells #[] 3)) (by omega)).news hne
        cases e'
        have hnk : ∀ j u, ((zs.take k).map (Value.int .i64))[j]? = some u → ((w.alloc (.cells #[.slice none 0 0] 26)).alloc (.cells #[] 3)).cell? ((⟨g, off, none⟩ : Addr).add j) = some u := fun j u hj => hnews j u (by
          rw [List.map_take, List.getElem?_take] at hj
          split at hj
          · exact hj
          · cases hj)
        have hown0 := own_nil_at (w.alloc (.cells #[.slice none 0 0] 26)) 3 (w.heap.size + 1) (w.heap.size + 1) (unhide HS1).symm (Nat.le_refl _)
        have hlk : ((zs.take k).map (Value.int .i64)).length = k * 1 := by simp; omega
        generalize zs.getD (k - 1) 0 = z at hc hbz
        have HN := hide hnk
        have HB : Hid (w.heap.size + 1 ≤ ((w.alloc (.cells #[.slice none 0 0] 26)).alloc (.cells #[] 3)).heap.size) := by show _ ≤ _; simp
        clear hat hz hnews hnk hall hne
        go_wp2_with (at_builtin; refine wpList_append_own _ rfl _ _ 24 rfl (w.heap.size + 1) 3 i0 (.int .i64 0) 1 8 Tryd.underlying24 hi0 hz0 hz1 hz2 rfl (by decide) _ _ _ rfl hown0 ⟨g, off, none⟩ k c ((zs.take k).map (Value.int .i64)) rfl hlk (unhide HN) (ints_one _ _) ?c3 ?c4 (unhide HB) ?_)
        case c3 => unfold maxLen; omega
        case c4 => omega
        intro v4 w4 hown4 hgrow _
        obtain ⟨a4, c4, hv4⟩ := own_slice hown4
        subst hv4
        have hcr : w4.cell? ⟨w.heap.size, 0, none⟩ = some (.slice none 0 0) := by
          have h1 : ((w.alloc (.cells #[.slice none 0 0] 26)).alloc (.cells #[] 3)).cell? ⟨w.heap.size, 0, none⟩ = some (.slice none 0 0) := old_cell _ (new_cell_at _ _ _ _ rfl)
          exact hgrow.cell h1 (by simp [Value.ownBlock])
        have hfr : w4.frozen? ⟨w.heap.size, 0, none⟩ = false := by
          have hb := hgrow.block w.heap.size (by simp; omega) (by simp [Value.ownBlock])
          have h1 : ((w.alloc (.cells #[.slice none 0 0] 26)).alloc (.cells #[] 3)).heap[w.heap.size]? = some (.cells #[.slice none 0 0] 26) := by
            rw [Below.heap_alloc _ _ _ (by simp)]; exact heap_alloc_new w _
          rw [h1] at hb
          simp [World.frozen?, hb]
        have kk : Kept 0 0 w (w4.setCell ⟨w.heap.size, 0, none⟩ (.slice a4 k c4)) := ((((Kept.refl 0 0 w).alloc _).alloc _).growNew hgrow (fun q hq => by simp [Value.ownBlock] at hq; omega)).setNew (p := ⟨w.heap.size, 0, none⟩) (Nat.le_refl _) (.slice a4 k c4)
        have ho5 := ownsRow_setCell_below hown4 (a := ⟨w.heap.size, 0, none⟩) (Nat.lt_succ_self _) (.slice a4 k c4)
        have hkl : (zs.take k).length = k := by simp; omega
        have hr5 : (w4.setCell ⟨w.heap.size, 0, none⟩ (.slice a4 k c4)).ownsRow w.heap.size 3 1 (.slice a4 k c4) (zs.take k).length ((zs.take k).map (Value.int .i64)) := own_less (by rw [hkl]; simpa using ho5) (Nat.le_succ _)
        have HR5 := hide hr5
        clear hown4 hgrow ho5 hown0 HN HB hlk hbz hc hi0 hz0 hz1 hz2 rr r1 hr5 hkl
        go_wp2
        exact bodyPost_ret (v := .agg #[(.slice a4 k c4)]) (by simp [results, Tryd.results68, go_sem, hcr]) rfl ⟨_, rfl, ⟨zs.take k, unhide HR5, ⟨k, hk, rfl⟩, unhide HT⟩, kk⟩

set_option maxHeartbeats 2000000 in
theorem of_own (w : World) (n : Int) (hn : n ≤ 9223372036854775807) :
    Calls Tryd.prog 46 #[.int .i64 n] w fun e w' => ∃ v', e = .returned (.agg #[v']) ∧ w'.ownsRow w.heap.size 3 1 v' (limbs n.toNat).length ((limbs n.toNat).map (Value.int .i64)) ∧ Kept 0 0 w w' := by
  have hlen : (limbs n.toNat).length ≤ 4 := (limbs_length_le _ _).2 (by
    have : (65536 : Int) ^ 4 = 18446744073709551616 := by decide
    omega)
  generalize hL : limbs n.toNat = L at *
  have HL := hide hL
  have k0 := (Kept.refl 0 0 w).alloc (.cells #[.slice none 0 0] 26)
  have hg0 : Grow w.heap.size w (w.alloc (.cells #[.slice none 0 0] 26)) (.slice none 0 0) [] :=
    Grow.start (Nat.le_refl _) (by simp) k0 (new_cell_at _ _ _ _ rfl) (new_loose _ _ _ _ rfl)
  clear hL k0
  go_enter Tryd.func46, Tryd.ntmps46
  go_wp2
  generalize w.alloc (.cells #[.slice none 0 0] 26) = w1 at *
  go_loopw [0, 3] (fun m l wr => ∃ (zs : List Int) (i : Int), m = .int .i64 i ∧ i ≤ 9223372036854775807 ∧ Hid (zs ++ limbs i.toNat = L) ∧ Grow w.heap.size w wr l zs) (fun m _ _ => (intOf m).toNat)
  case atStart => exact ⟨[], n, rfl, hn, by have := unhide HL; show _ = _; simpa using this, hg0⟩
  case round =>
    obtain ⟨zs, i, rfl, hi, hzs, hg⟩ := hrel
    by_cases hp : 0 < i
    · have hc := limbs_cons i.toNat (by omega)
      have hz := unhide hzs
      rw [hc] at hz
      have hl : zs.length ≤ 4 := by
        have := congrArg List.length hz
        simp at this; omega
      have e1 : ((i.toNat % 65536 : Nat) : Int) = i % 65536 := by omega
      have e2 : i.toNat / 65536 = (i / 65536).toNat := by omega
      have e3 : i.tmod 65536 = i % 65536 := by rw [Int.tmod_eq_emod_of_nonneg (by omega)]
      have e4 : i.tdiv 65536 = i / 65536 := by rw [Int.tdiv_eq_ediv_of_nonneg (by omega)]
      rw [e1, e2] at hz
      have HZ := hide hz
      clear hc hz e1 e2
      have hg' := hg.alloc (.cells #[.int .i64 (i % 65536)] 3)
      go_wp2_with (at_builtin; refine wpList_grow rfl _ _ rfl rfl _ rfl (i % 65536) ?c1 hg' ?c2 ?_)
      case c1 => exact new_cell_at _ _ _ _ rfl
      case c2 => omega
      intro v' w' hg2
      clear hg' hg
      go_wp2
      go_roundw
      case rel => exact ⟨zs ++ [i % 65536], i / 65536, by go_num, by omega, by show _ = _; rw [← unhide HZ]; simp, hg2⟩
      case measure => simp [intOf]; omega
    · obtain ⟨a, c, rfl⟩ := hg.form
      have e0 : zs = L := by have := unhide hzs; rw [show i.toNat = 0 from by omega, limbs_zero, List.append_nil] at this; exact this
      obtain ⟨k2, r2⟩ := hg.retOwn
      obtain ⟨h1, h2, h3, h4, h5, h6⟩ := hg
      rw [e0] at r2
      have K2 := hide k2
      have R2 := hide r2
      clear h1 h4 k2 r2 hzs
      subst e0
      go_wp2
      exact bodyPost_ret (v := .agg #[(.slice a zs.length c)]) (by simp [results, Tryd.results46, go_sem, h5]) rfl ⟨_, rfl, unhide R2, unhide K2⟩

theorem Drew.kept {g lo : Nat} {w w' : World} (h : Drew g lo w w') : Kept g (g + 1) w w' := h.2.1
/-- What a draw that makes memory leaves: the cursor's block alone, of what was there, may have turned. -/
def Drawn (g lo : Nat) (w w' : World) : Prop := Cur g lo w' ∧ Kept g (g + 1) w w'
theorem Drew.drawn {g lo : Nat} {w w' : World} (h : Drew g lo w w') : Drawn g lo w w' := ⟨h.1, h.2.1⟩
theorem Drawn.trans {g lo : Nat} {a b c : World} (h : Drawn g lo a b) (k : Drawn g lo b c) : Drawn g lo a c := ⟨k.1, h.2.trans k.2⟩
theorem Drawn.keptR {g lo : Nat} {a b c : World} (h : Drawn g lo a b) (k : Kept 0 0 b c) : Drawn g lo a c := ⟨h.1.kept k (by omega), h.2.trans k.any⟩

set_option maxHeartbeats 1000000 in
theorem drawLen_any (g lo : Nat) (w : World) (c : Cur g lo w) :
    Calls Tryd.prog 88 #[.pointer (some ⟨g, 0, none⟩)] w fun e w' => ∃ n : Nat, e = .returned (.int .i64 (n : Int)) ∧ n ≤ 100 ∧ Drawn g lo w w' := by
  go_enter Tryd.func88, Tryd.ntmps88
  go_wp2_with fail
  refine (l1Once_any g lo _ c 12).mono ?_
  rintro e w1 ⟨b, rfl, d1⟩
  have hgl := c.1
  cases b
  · go_wp2_with fail
    refine (l1Below_any g lo _ d1.1 6).mono ?_
    rintro e w2 ⟨x, rfl, -, hx, d2⟩
    have hx2 := hx (by omega)
    obtain ⟨n, rfl⟩ := Int.eq_ofNat_of_zero_le hx2.1
    clear hx
    go_wp2_with fail
    go_ret
    exact ⟨n, rfl, by omega, d1.drawn.trans d2.drawn⟩
  · have hgl1 := d1.1.1
    go_wp2_with fail
    have hr := Row.lit .i64 w1 3 [100, 99, 50, 20] (by simp [maxLen])
    refine (l1PickInt_any g lo _ (d1.1.kept ((Kept.refl 0 0 w1).alloc _) (by omega)) hr (by simp) (by omega)).mono ?_
    rintro e w2 ⟨x, rfl, hx, d2⟩
    have hx2 : 0 ≤ x ∧ x ≤ 100 := by simp at hx; omega
    obtain ⟨n, rfl⟩ := Int.eq_ofNat_of_zero_le hx2.1
    clear hx
    go_wp2_with fail
    go_ret
    exact ⟨n, rfl, by omega, (d1.drawn.keptR ((Kept.refl 0 0 w1).alloc _)).trans d2.drawn⟩

end Go.Proofs.YtedknfciomoofaaDoor

namespace Go.Proofs.YtedknfciomoofaaDoor
open Go.RowKit
set_option linter.unusedVariables false
set_option maxRecDepth 8000

/-- A list of the call's own beside a cursor of draws in block g; the result's cell lies at b, still nought. -/
structure GrowD (g lo b : Nat) (w wr : World) (v : Value) (zs : List Int) : Prop where
  own : wr.ownsRow (b + 1) 3 1 v zs.length (zs.map (Value.int .i64))
  hb : w.heap.size ≤ b
  lt : b < wr.heap.size
  d : Drawn g lo w wr
  cell : wr.cell? ⟨b, 0, none⟩ = some (.slice none 0 0)
  loose : wr.frozen? ⟨b, 0, none⟩ = false
  hg : g < w.heap.size

theorem GrowD.grown {g lo b : Nat} {w wr w' : World} {v v' : Value} {zs qs : List Int} (h : GrowD g lo b w wr v zs) (o : Obj) (hg : (wr.alloc o).grownBy w' v.ownBlock) (hown : w'.ownsRow (b + 1) 3 1 v' qs.length (qs.map (Value.int .i64))) : GrowD g lo b w w' v' qs := by
  have ha := (Kept.refl 0 0 wr).alloc o
  have hk : ∀ k, v.ownBlock = some k → b + 1 ≤ k := fun k hk => (h.own.lt k hk).1
  have h1 := h.hb
  have h2 := h.hg
  have h3 := h.lt
  have hsz := hg.size
  refine ⟨hown, h.hb, by simp at hsz; omega, ⟨(h.d.1.kept ha (by omega)).grown hg (fun k e => by have := hk k e; omega), (h.d.2.trans ha.any).growNew hg (fun k e => by have := hk k e; omega)⟩, hg.cell (ha.cell0 h.cell) (fun e => by have := hk _ e.symm; simp at this; omega), ?_, h.hg⟩
  have hb := hg.block b (by simp; omega) (fun e => by have := hk _ e.symm; omega)
  have hf := ha.loose0 (a := ⟨b, 0, none⟩) h.lt h.loose
  rw [← hf]
  exact World.frozen?_of_block hb
theorem GrowD.drew {g lo b : Nat} {w wr w' : World} {v : Value} {zs : List Int} (h : GrowD g lo b w wr v zs) (d : Drawn g lo wr w') : GrowD g lo b w w' v zs := by
  have h1 := h.hb
  have h2 := h.hg
  refine ⟨own_other h.own d.2 (by omega), h.hb, Nat.lt_of_lt_of_le h.lt d.2.size, h.d.trans d, d.2.cellOut (.inr (show g + 1 ≤ b by omega)) h.cell, ?_, h.hg⟩
  rw [← h.loose]
  exact World.frozen?_of_block (d.2.block b h.lt (by omega))
theorem GrowD.form {g lo b : Nat} {w wr : World} {v : Value} {zs : List Int} (h : GrowD g lo b w wr v zs) : ∃ a c, v = .slice a zs.length c := own_slice h.own

/-- What is drawn: a number of the call's own. -/
def DrawnN (g lo : Nat) (w w' : World) (v : Value) : Prop :=
  ∃ zs, w'.ownsRow w.heap.size 3 1 v zs.length (zs.map (Value.int .i64)) ∧ Nrm zs ∧ zs.length ≤ 100 ∧ Drawn g lo w w'

set_option maxHeartbeats 4000000 in
theorem draw_any (g lo : Nat) (w : World) (c : Cur g lo w) :
    Calls Tryd.prog 83 #[.pointer (some ⟨g, 0, none⟩)] w fun e w' => ∃ v, e = .returned (.agg #[v]) ∧ DrawnN g lo w w' v := by
  have k0 := (Kept.refl 0 0 w).alloc (.cells #[.slice none 0 0] 26)
  have hgw := c.1
  have c0 := c.kept k0 (by omega)
  have hg0 : GrowD g lo w.heap.size w (w.alloc (.cells #[.slice none 0 0] 26)) (.slice none 0 0) [] :=
    ⟨World.ownsRow_nil _ _ _ _, Nat.le_refl _, by simp, ⟨c0, k0.any⟩, new_cell_at _ _ _ _ rfl, new_loose _ _ _ _ rfl, hgw⟩
  clear k0 c
  go_enter Tryd.func83, Tryd.ntmps83
  go_wp2_with fail
  generalize w.alloc (.cells #[.slice none 0 0] 26) = W at *
  refine (drawLen_any g lo _ c0).mono ?_
  rintro e w1 ⟨n, rfl, hn, d1⟩
  replace hg0 := hg0.drew d1
  have HG0 := hide hg0
  clear d1 c0 hg0
  go_wp2_with fail
  go_loopw [3, 5] (fun l ii wr => ∃ (zs : List Int) (i : Nat), ii = .int .i64 (i : Int) ∧ i ≤ n ∧ Hid (zs.length = i) ∧ Lim zs ∧ GrowD g lo w.heap.size w wr l zs) (fun _ ii _ => n - (intOf ii).toNat)
  case atStart => exact ⟨[], 0, rfl, Nat.zero_le _, hide rfl, Lim.nil, unhide HG0⟩
  case round =>
    clear HG0
    obtain ⟨zs, i, rfl, hi, hz, hlz, hgr⟩ := hrel
    obtain ⟨az, cz, rfl⟩ := hgr.form
    have hzl : zs.length ≤ 1000000 := by have := unhide hz; omega
    by_cases hA : i < n
    · have hi1 : (i : Int) < (n : Int) := by omega
      go_wp2_with fail
      refine (l1Below_any g lo _ hgr.d.1 4).mono ?_
      rintro e w2 ⟨x, rfl, -, hx, d2⟩
      have hx2 := hx (by omega)
      clear hx
      replace hgr := hgr.drew d2.drawn
      clear d2
      by_cases h0 : x = 0
      · subst h0
        have hown' := own_kept hgr.own ((Kept.refl 0 0 w2).alloc (.cells #[.int .i64 (65535)] 3))
        have hcc : (w2.alloc (.cells #[.int .i64 (65535)] 3)).cell? ⟨w2.heap.size, 0, none⟩ = some (.int .i64 (65535)) := new_cell_at _ _ _ _ rfl
        have hbb : w.heap.size + 1 ≤ (w2.alloc (.cells #[.int .i64 (65535)] 3)).heap.size := by have := hgr.lt; simp; omega
        have HBB := hide hbb
        clear hbb
        go_wp2_with (at_builtin; refine wpList_snoc rfl _ _ rfl rfl _ rfl (65535) hcc hown' hzl (unhide HBB) ?_)
        intro v' w' hown2 hgrow hat
        unfold OwnL at hown2
        have hgr2 := hgr.grown _ hgrow hown2
        clear hown' hcc hown2 hgrow hat hgr HBB
        go_wp2
        go_roundw
        case rel => exact ⟨zs ++ [65535], i + 1, by go_num, by omega, hide (by rw [List.length_append, unhide hz]; rfl), hlz.snoc (by omega) (by omega), hgr2⟩
        case measure => simp [intOf]; omega
      · have h0b : (x == 0) = false := beq_eq_false_iff_ne.2 h0
        by_cases h1 : x = 1
        · subst h1
          have hown' := own_kept hgr.own ((Kept.refl 0 0 w2).alloc (.cells #[.int .i64 (0)] 3))
          have hcc : (w2.alloc (.cells #[.int .i64 (0)] 3)).cell? ⟨w2.heap.size, 0, none⟩ = some (.int .i64 (0)) := new_cell_at _ _ _ _ rfl
          have hbb : w.heap.size + 1 ≤ (w2.alloc (.cells #[.int .i64 (0)] 3)).heap.size := by have := hgr.lt; simp; omega
          have HBB := hide hbb
          clear hbb
          go_wp2_with (at_builtin; refine wpList_snoc rfl _ _ rfl rfl _ rfl (0) hcc hown' hzl (unhide HBB) ?_)
          intro v' w' hown2 hgrow hat
          unfold OwnL at hown2
          have hgr2 := hgr.grown _ hgrow hown2
          clear hown' hcc hown2 hgrow hat hgr HBB
          go_wp2
          go_roundw
          case rel => exact ⟨zs ++ [0], i + 1, by go_num, by omega, hide (by rw [List.length_append, unhide hz]; rfl), hlz.snoc (by omega) (by omega), hgr2⟩
          case measure => simp [intOf]; omega
        · have h1b : (x == 1) = false := beq_eq_false_iff_ne.2 h1
          go_wp2_with fail
          refine (l1Below_any g lo _ hgr.d.1 65536).mono ?_
          rintro e w3 ⟨y, rfl, -, hy, d3⟩
          have hy2 := hy (by omega)
          clear hy
          replace hgr := hgr.drew d3.drawn
          clear d3
          have hown' := own_kept hgr.own ((Kept.refl 0 0 w3).alloc (.cells #[.int .i64 (y)] 3))
          have hcc : (w3.alloc (.cells #[.int .i64 (y)] 3)).cell? ⟨w3.heap.size, 0, none⟩ = some (.int .i64 (y)) := new_cell_at _ _ _ _ rfl
          have hbb : w.heap.size + 1 ≤ (w3.alloc (.cells #[.int .i64 (y)] 3)).heap.size := by have := hgr.lt; simp; omega
          have HBB := hide hbb
          clear hbb
          go_wp2_with (at_builtin; refine wpList_snoc rfl _ _ rfl rfl _ rfl (y) hcc hown' hzl (unhide HBB) ?_)
          intro v' w' hown2 hgrow hat
          unfold OwnL at hown2
          have hgr2 := hgr.grown _ hgrow hown2
          clear hown' hcc hown2 hgrow hat hgr HBB
          go_wp2
          go_roundw
          case rel => exact ⟨zs ++ [y], i + 1, by go_num, by omega, hide (by rw [List.length_append, unhide hz]; rfl), hlz.snoc (by omega) (by omega), hgr2⟩
          case measure => simp [intOf]; omega
    · have hi1 : ¬ (i : Int) < (n : Int) := by omega
      go_wp2_with fail
      refine (l1Once_any g lo _ hgr.d.1 4).mono ?_
      rintro e w2 ⟨b, rfl, d2⟩
      replace hgr := hgr.drew d2.drawn
      clear d2
      have hl100 : zs.length ≤ 100 := by have := unhide hz; omega
      cases b
      · have rz := Row.own hgr.own
        go_wp2_with fail
        refine (norm_own _ rz hzl).mono ?_
        rintro e w3 ⟨v3, rfl, ⟨zs3, o3, ⟨k3, hk3, e3⟩, hl3⟩, k3'⟩
        have c3 := k3'.cell0 hgr.cell
        have f3 := k3'.loose0 (a := ⟨w.heap.size, 0, none⟩) hgr.lt hgr.loose
        have hlen3 : zs3.length ≤ 100 := by rw [e3]; simp; omega
        have hnrm : Nrm zs3 := by rw [hl3 hlz]; exact limbs_nrm _
        have hlt := hgr.lt
        obtain ⟨a3, d3, ev⟩ := own_slice o3
        subst ev
        have O := hide (own_less (ownsRow_setCell_below o3 (a := ⟨w.heap.size, 0, none⟩) hlt (.slice a3 zs3.length d3)) (show w.heap.size ≤ w2.heap.size by omega))
        have DD : Hid (Drawn g lo w (w3.setCell ⟨w.heap.size, 0, none⟩ (.slice a3 zs3.length d3))) := ⟨(hgr.d.1.kept k3' (by omega)).setFar (p := ⟨w.heap.size, 0, none⟩) hgw _, (hgr.d.2.trans k3'.any).setNew (p := ⟨w.heap.size, 0, none⟩) (Nat.le_refl _) _⟩
        clear o3 k3' hl3 e3 hgr rz
        go_wp2_with fail
        exact bodyPost_ret (v := .agg #[.slice a3 zs3.length d3]) (by simp [results, Tryd.results83, go_sem, c3]) rfl ⟨_, rfl, zs3, unhide O, hnrm, hlen3, unhide DD⟩
      · have hgl := hgr.d.1.1
        go_wp2_with fail
        have hr := Row.lit .i64 w2 3 [0, 1, 2, 9, 10, 65535, 65536, 1099511627776, 4611686018427387903, 4611686018427387904] (by simp [maxLen])
        refine (l1PickInt_any g lo _ (hgr.d.1.kept ((Kept.refl 0 0 w2).alloc _) (by omega)) hr (by simp) (by omega)).mono ?_
        rintro e w3 ⟨x, rfl, hx, d3⟩
        have hx2 : x ≤ 9223372036854775807 := by
          simp only [List.mem_cons, List.not_mem_nil, or_false] at hx
          omega
        clear hx hr
        have hgr3 : GrowD g lo w.heap.size w w3 (.slice none 0 0) [] := GrowD.drew ⟨World.ownsRow_nil _ _ _ _, hgr.hb, Nat.lt_of_lt_of_le hgr.lt (by simp), hgr.d.keptR ((Kept.refl 0 0 w2).alloc _), ((Kept.refl 0 0 w2).alloc _).cell0 hgr.cell, ((Kept.refl 0 0 w2).alloc _).loose0 (a := ⟨w.heap.size, 0, none⟩) hgr.lt hgr.loose, hgw⟩ d3.drawn
        clear hgr d3
        go_wp2_with fail
        refine (of_own _ x hx2).mono ?_
        rintro e w4 ⟨v4, rfl, o4, k4⟩
        have c4 := k4.cell0 hgr3.cell
        have f4 := k4.loose0 (a := ⟨w.heap.size, 0, none⟩) hgr3.lt hgr3.loose
        have hl4 : (limbs x.toNat).length ≤ 100 := by
          have := (limbs_length_le x.toNat 4).2 (by
            have : (65536 : Int) ^ 4 = 18446744073709551616 := by decide
            omega)
          omega
        have hnrm := limbs_nrm x.toNat
        generalize limbs x.toNat = zs4 at *
        have hlt := hgr3.lt
        obtain ⟨a4, d4, ev⟩ := own_slice o4
        subst ev
        have O := hide (own_less (ownsRow_setCell_below o4 (a := ⟨w.heap.size, 0, none⟩) hlt (.slice a4 zs4.length d4)) (show w.heap.size ≤ w3.heap.size by omega))
        have DD : Hid (Drawn g lo w (w4.setCell ⟨w.heap.size, 0, none⟩ (.slice a4 zs4.length d4))) := ⟨(hgr3.d.1.kept k4 (by omega)).setFar (p := ⟨w.heap.size, 0, none⟩) hgw _, (hgr3.d.2.trans k4.any).setNew (p := ⟨w.heap.size, 0, none⟩) (Nat.le_refl _) _⟩
        clear o4 k4 hgr3
        go_wp2_with fail
        exact bodyPost_ret (v := .agg #[.slice a4 zs4.length d4]) (by simp [results, Tryd.results83, go_sem, c4]) rfl ⟨_, rfl, zs4, unhide O, hnrm, hl4, unhide DD⟩

end Go.Proofs.YtedknfciomoofaaDoor

namespace Go.Proofs.YtedknfciomoofaaDoor
open Go.RowKit
set_option linter.unusedVariables false
set_option maxRecDepth 8000

theorem Kept.modNew {S : Nat → Prop} {lo hi : Nat} {a w w' : World} (k : Kept lo hi a w) (h : Mod S w w') (hS : ∀ i, S i → a.heap.size ≤ i) : Kept lo hi a w' :=
  ⟨h.os.trans k.os, h.tape.trans k.tape, h.output.trans k.output, Nat.le_trans k.size h.size, fun i hi ho => (h.block i (Nat.lt_of_lt_of_le hi k.size) (fun hs => by have := hS i hs; omega)).trans (k.block i hi ho)⟩
theorem Mod.above {S : Nat → Prop} {l : Nat} {a b : World} (m : Mod S a b) (h : ∀ i, S i → l ≤ i) : Kept l a.heap.size a b :=
  ⟨m.os, m.tape, m.output, m.size, fun i hi ho => m.block i hi (fun hs => by have := h i hs; omega)⟩
theorem Kept.modOne {g : Nat} {a b : World} (k : Kept g (g + 1) a b) : Mod (fun i => i = g) a b :=
  ⟨k.os, k.tape, k.output, k.size, fun i hi ho => k.block i hi (by have : i ≠ g := ho; omega)⟩

/-- A drawn number in the cell A, beside the cursor in g and the result's cell, which is still nought. -/
structure Bent (g lo : Nat) (w W : World) (A : Nat) (v : Value) (zs : List Int) : Prop where
  num : Num (w.heap.size + 1) W A v zs
  d : Drawn g lo w W
  cR : W.cell? ⟨w.heap.size, 0, none⟩ = some (.slice none 0 0)
  fR : W.frozen? ⟨w.heap.size, 0, none⟩ = false
  hA : w.heap.size < A
  hg : g < w.heap.size

theorem Bent.drew {g lo A : Nat} {w W W' : World} {v : Value} {zs : List Int} (h : Bent g lo w W A v zs) (d : Drew g lo W W') : Bent g lo w W' A v zs := by
  have h1 := h.hA
  have h2 := h.hg
  have h3 := World.block_lt_of_cell? _ _ h.cR
  refine ⟨h.num.mod d.2.1.modOne (by omega) (fun i hi e => by have := (h.num.own.lt i hi).1; omega), h.d.trans d.drawn, d.2.1.cellOut (.inr (show g + 1 ≤ w.heap.size by omega)) h.cR, ?_, h.hA, h.hg⟩
  rw [← h.fR]
  exact World.frozen?_of_block (d.2.1.block _ h3 (.inr (show g + 1 ≤ w.heap.size by omega)))
theorem Bent.snoc {g lo A : Nat} {w W w' : World} {v v' : Value} {zs qs : List Int} (h : Bent g lo w W A v zs) (o : Obj) (hgr : (W.alloc o).grownBy w' v.ownBlock) (hat : v'.ownBlock = v.ownBlock ∨ v'.ownBlock = some (W.heap.size + 1))
    (hown : w'.ownsRow (w.heap.size + 1) 3 1 v' qs.length (qs.map (Value.int .i64))) :
    w'.cell? ⟨A, 0, none⟩ = some v ∧ w'.frozen? ⟨A, 0, none⟩ = false ∧ Bent g lo w (w'.setCell ⟨A, 0, none⟩ v') A v' qs := by
  obtain ⟨d1, d2, d3, d4⟩ := h.num.snoc o hgr hat hown
  have h1 := h.hA
  have h2 := h.hg
  have h3 := World.block_lt_of_cell? _ _ h.cR
  have hS : ∀ i, Own1 A v i → w.heap.size + 1 ≤ i := fun i e => e.elim (fun e => by omega) (fun e => (h.num.own.lt i e).1)
  exact ⟨d1, d2, d3, ⟨h.d.1.kept (d4.above (l := w.heap.size + 1) hS) (.inl (by omega)), h.d.2.modNew d4 (fun i e => by have := hS i e; omega)⟩, d4.cellAt (fun e => Nat.not_succ_le_self _ (hS _ e)) h.cR, d4.looseAt (fun e => Nat.not_succ_le_self _ (hS _ e)) h3 h.fR, h.hA, h.hg⟩

/-- What is drawn: a number, or a list that is none. -/
def DrawnB (g lo : Nat) (w w' : World) (v : Value) : Prop :=
  ∃ zs : List Int, w'.ownsRow w.heap.size 3 1 v zs.length (zs.map (Value.int .i64)) ∧ (∀ z ∈ zs, -1 ≤ z ∧ z ≤ 65536) ∧ zs.length ≤ 101 ∧ Drawn g lo w w'

theorem Bent.ret {g lo A : Nat} {w W : World} {v : Value} {zs : List Int} (h : Bent g lo w W A v zs) (hz : ∀ z ∈ zs, -1 ≤ z ∧ z ≤ 65536) (hl : zs.length ≤ 101) : DrawnB g lo w (W.setCell ⟨w.heap.size, 0, none⟩ v) v :=
  ⟨zs, own_less (own_apart h.num.own (p := ⟨w.heap.size, 0, none⟩) (fun e => by have := (h.num.own.lt _ e).1; simp at this; omega) v) (Nat.le_succ _), hz, hl, h.d.1.setFar (p := ⟨w.heap.size, 0, none⟩) h.hg v, h.d.2.setNew (p := ⟨w.heap.size, 0, none⟩) (Nat.le_refl _) v⟩
theorem lim_bent {zs : List Int} (h : Lim zs) : ∀ z ∈ zs, -1 ≤ z ∧ z ≤ 65536 := fun z hz => by have := h z hz; omega
theorem bent_snoc {zs : List Int} {z : Int} (h : ∀ z ∈ zs, -1 ≤ z ∧ z ≤ 65536) (h0 : -1 ≤ z) (h1 : z ≤ 65536) : ∀ y ∈ zs ++ [z], -1 ≤ y ∧ y ≤ 65536 := fun y hy => by
  rcases List.mem_append.1 hy with h2 | h2
  · exact h y h2
  · simp at h2; omega

/-- How long the list is that the cell A holds. -/
def lenAt' (w : World) (g : Nat) : Nat := match w.cell? ⟨g, 0, none⟩ with
  | some (.slice _ n _) => n
  | _ => 0
theorem lenAt'_of {w : World} {g : Nat} {a : Option Addr} {n c : Nat} (h : w.cell? ⟨g, 0, none⟩ = some (.slice a n c)) : lenAt' w g = n := by unfold lenAt'; rw [h]

set_option maxHeartbeats 4000000 in
theorem bent_any (g lo : Nat) (w : World) (c : Cur g lo w) :
    Calls Tryd.prog 72 #[.pointer (some ⟨g, 0, none⟩)] w fun e w' => ∃ v, e = .returned (.agg #[v]) ∧ DrawnB g lo w w' v := by
  have k0 := (Kept.refl 0 0 w).alloc (.cells #[.slice none 0 0] 26)
  have hgw := c.1
  have c0 := c.kept k0 (by omega)
  have cr : (w.alloc (.cells #[.slice none 0 0] 26)).cell? ⟨w.heap.size, 0, none⟩ = some (.slice none 0 0) := new_cell_at _ _ _ _ rfl
  have fr : (w.alloc (.cells #[.slice none 0 0] 26)).frozen? ⟨w.heap.size, 0, none⟩ = false := new_loose _ _ _ _ rfl
  have hs : (w.alloc (.cells #[.slice none 0 0] 26)).heap.size = w.heap.size + 1 := by simp
  clear c
  go_enter Tryd.func72, Tryd.ntmps72
  go_wp2_with fail
  generalize w.alloc (.cells #[.slice none 0 0] 26) = W at *
  refine (draw_any g lo _ c0).mono ?_
  rintro e w1 ⟨v1, rfl, zs, o1, hn, hl, d1⟩
  have s1 := d1.2.size
  have n1 := Num.new 26 o1
  have kA := (Kept.refl 0 0 w1).alloc (.cells #[v1] 26)
  have bt : Bent g lo w (w1.alloc (.cells #[v1] 26)) w1.heap.size v1 zs :=
    ⟨n1.less (Nat.le_of_eq hs.symm), ⟨d1.1.kept kA (by omega), (k0.any.trans d1.2).trans kA.any⟩, kA.cell0 (d1.2.cellOut (.inr (show g + 1 ≤ w.heap.size by omega)) cr), kA.loose0 (a := ⟨w.heap.size, 0, none⟩) (show w.heap.size < w1.heap.size by omega) (by rw [← fr]; exact World.frozen?_of_block (d1.2.block _ (World.block_lt_of_cell? _ _ cr) (.inr (show g + 1 ≤ w.heap.size by omega)))), by omega, hgw⟩
  obtain ⟨a1, e1, ev⟩ := own_slice o1
  subst ev
  have hzs := lim_bent hn.1
  have hzl : zs.length ≤ 1000000 := by omega
  clear o1 n1 kA d1 k0 c0 cr fr hs s1
  go_wp2_with fail
  generalize w1.alloc (.cells #[.slice a1 zs.length e1] 26) = w2 at *
  generalize w1.heap.size = A at *
  refine (l1Once_any g lo _ bt.d.1 9).mono ?_
  rintro e w3 ⟨b, rfl, d3⟩
  replace bt := bt.drew d3
  clear d3
  cases b
  · have RT := hide (bt.ret hzs (by omega))
    have cR := bt.cR
    have fR := bt.fR
    have cA := bt.num.cell
    clear bt
    go_wp2_with fail
    exact bodyPost_ret (v := .agg #[.slice a1 zs.length e1]) (by simp [results, Tryd.results72, go_sem, cR]) rfl ⟨_, rfl, unhide RT⟩
  · go_wp2_with fail
    refine (l1Below_any g lo _ bt.d.1 4).mono ?_
    rintro e w4 ⟨x, rfl, -, hx, d4⟩
    have hx2 := hx (by omega)
    clear hx
    replace bt := bt.drew d4
    clear d4
    by_cases h0 : x = 0
    · subst h0
      have hown' := own_kept bt.num.own ((Kept.refl 0 0 w4).alloc (.cells #[.int .i64 (0)] 3))
      have hcc : (w4.alloc (.cells #[.int .i64 (0)] 3)).cell? ⟨w4.heap.size, 0, none⟩ = some (.int .i64 (0)) := new_cell_at _ _ _ _ rfl
      have hbb : w.heap.size + 1 ≤ (w4.alloc (.cells #[.int .i64 (0)] 3)).heap.size := by have := World.block_lt_of_cell? _ _ bt.cR; simp at this; simp; omega
      have HBB := hide hbb
      have hcA := bt.num.cell
      clear hbb
      go_wp2_with (at_builtin; refine wpList_snoc rfl _ _ rfl rfl _ rfl (0) hcc hown' hzl (unhide HBB) ?_)
      intro v' w' hown2 hgrow hat
      unfold OwnL at hown2
      replace hat := unhide hat
      obtain ⟨a3, c3, hv3⟩ := own_slice hown2
      obtain ⟨d1, d2, bt2⟩ := bt.snoc _ hgrow hat hown2
      generalize hq : zs ++ [(0 : Int)] = qs at *
      subst hv3
      have RT := hide (bt2.ret (by rw [← hq]; exact bent_snoc hzs (by omega) (by omega)) (by rw [← hq]; simp; omega))
      have cR := bt2.cR
      have fR := bt2.fR
      have cA := bt2.num.cell
      generalize hW5 : w'.setCell ⟨A, 0, none⟩ (.slice a3 qs.length c3) = W5 at *
      clear hown' hcc hown2 hgrow hat bt bt2 HBB hcA hq
      go_wp2
      try rw [hW5]
      try go_wp2
      exact bodyPost_ret (v := .agg #[.slice a3 qs.length c3]) (by simp [results, Tryd.results72, go_sem, cR]) rfl ⟨_, rfl, unhide RT⟩
    · have h0b : (x == 0) = false := beq_eq_false_iff_ne.2 h0
      by_cases h1 : x = 1
      · subst h1
        have hown' := own_kept bt.num.own ((Kept.refl 0 0 w4).alloc (.cells #[.int .i64 (-1)] 3))
        have hcc : (w4.alloc (.cells #[.int .i64 (-1)] 3)).cell? ⟨w4.heap.size, 0, none⟩ = some (.int .i64 (-1)) := new_cell_at _ _ _ _ rfl
        have hbb : w.heap.size + 1 ≤ (w4.alloc (.cells #[.int .i64 (-1)] 3)).heap.size := by have := World.block_lt_of_cell? _ _ bt.cR; simp at this; simp; omega
        have HBB := hide hbb
        have hcA := bt.num.cell
        clear hbb
        go_wp2_with (at_builtin; refine wpList_snoc rfl _ _ rfl rfl _ rfl (-1) hcc hown' hzl (unhide HBB) ?_)
        intro v' w' hown2 hgrow hat
        unfold OwnL at hown2
        replace hat := unhide hat
        obtain ⟨a3, c3, hv3⟩ := own_slice hown2
        obtain ⟨d1, d2, bt2⟩ := bt.snoc _ hgrow hat hown2
        generalize hq : zs ++ [(-1 : Int)] = qs at *
        subst hv3
        have RT := hide (bt2.ret (by rw [← hq]; exact bent_snoc hzs (by omega) (by omega)) (by rw [← hq]; simp; omega))
        have cR := bt2.cR
        have fR := bt2.fR
        have cA := bt2.num.cell
        generalize hW5 : w'.setCell ⟨A, 0, none⟩ (.slice a3 qs.length c3) = W5 at *
        clear hown' hcc hown2 hgrow hat bt bt2 HBB hcA hq
        go_wp2
        try rw [hW5]
        try go_wp2
        exact bodyPost_ret (v := .agg #[.slice a3 qs.length c3]) (by simp [results, Tryd.results72, go_sem, cR]) rfl ⟨_, rfl, unhide RT⟩
      · have h1b : (x == 1) = false := beq_eq_false_iff_ne.2 h1
        by_cases h2 : x = 2
        · subst h2
          have hown' := own_kept bt.num.own ((Kept.refl 0 0 w4).alloc (.cells #[.int .i64 (65536)] 3))
          have hcc : (w4.alloc (.cells #[.int .i64 (65536)] 3)).cell? ⟨w4.heap.size, 0, none⟩ = some (.int .i64 (65536)) := new_cell_at _ _ _ _ rfl
          have hbb : w.heap.size + 1 ≤ (w4.alloc (.cells #[.int .i64 (65536)] 3)).heap.size := by have := World.block_lt_of_cell? _ _ bt.cR; simp at this; simp; omega
          have HBB := hide hbb
          have hcA := bt.num.cell
          clear hbb
          go_wp2_with (at_builtin; refine wpList_snoc rfl _ _ rfl rfl _ rfl (65536) hcc hown' hzl (unhide HBB) ?_)
          intro v' w' hown2 hgrow hat
          unfold OwnL at hown2
          replace hat := unhide hat
          obtain ⟨a3, c3, hv3⟩ := own_slice hown2
          obtain ⟨d1, d2, bt2⟩ := bt.snoc _ hgrow hat hown2
          generalize hq : zs ++ [(65536 : Int)] = qs at *
          subst hv3
          have RT := hide (bt2.ret (by rw [← hq]; exact bent_snoc hzs (by omega) (by omega)) (by rw [← hq]; simp; omega))
          have cR := bt2.cR
          have fR := bt2.fR
          have cA := bt2.num.cell
          generalize hW5 : w'.setCell ⟨A, 0, none⟩ (.slice a3 qs.length c3) = W5 at *
          clear hown' hcc hown2 hgrow hat bt bt2 HBB hcA hq
          go_wp2
          try rw [hW5]
          try go_wp2
          exact bodyPost_ret (v := .agg #[.slice a3 qs.length c3]) (by simp [results, Tryd.results72, go_sem, cR]) rfl ⟨_, rfl, unhide RT⟩
        · have h2b : (x == 2) = false := beq_eq_false_iff_ne.2 h2
          have hcA := bt.num.cell
          have BT := hide bt
          have HZS := hide hzs
          have hl101 : zs.length ≤ 101 := by omega
          clear bt hzs
          go_wp2_with fail
          go_loopw [] (fun wr => ∃ (qs : List Int) (u : Value), Bent g lo w wr A u qs ∧ Hid (∀ z ∈ qs, -1 ≤ z ∧ z ≤ 65536) ∧ qs.length ≤ 101) (fun wr => 102 - lenAt' wr A)
          case atStart => exact ⟨zs, _, unhide BT, HZS, hl101⟩
          case round =>
            clear BT HZS hl101 hcA hzl hl hn
            obtain ⟨zs, u, bt, HZS, hl⟩ := hrel
            obtain ⟨a1, e1, hu⟩ := bt.num.form
            subst hu
            have hcA := bt.num.cell
            by_cases hgo : zs.length ≤ 100
            · have hgo' : (zs.length : Int) ≤ 100 := by omega
              have hzl : zs.length ≤ 1000000 := by omega
              have hown' := own_kept bt.num.own ((Kept.refl 0 0 wr).alloc (.cells #[.int .i64 (1)] 3))
              have hcc : (wr.alloc (.cells #[.int .i64 (1)] 3)).cell? ⟨wr.heap.size, 0, none⟩ = some (.int .i64 (1)) := new_cell_at _ _ _ _ rfl
              have hbb : w.heap.size + 1 ≤ (wr.alloc (.cells #[.int .i64 (1)] 3)).heap.size := by have := World.block_lt_of_cell? _ _ bt.cR; simp at this; simp; omega
              have HBB := hide hbb
              clear hbb
              go_wp2_with (at_builtin; refine wpList_snoc rfl _ _ rfl rfl _ rfl (1) hcc hown' hzl (unhide HBB) ?_)
              intro v' w' hown2 hgrow hat
              unfold OwnL at hown2
              replace hat := unhide hat
              obtain ⟨a3, c3, hv3⟩ := own_slice hown2
              obtain ⟨d1, d2, bt2⟩ := bt.snoc _ hgrow hat hown2
              have hl3 : lenAt' wr A = zs.length := lenAt'_of hcA
              generalize hq : zs ++ [(1 : Int)] = qs at *
              have hq1 : qs.length = zs.length + 1 := by rw [← hq]; simp
              have HQ1 := hide hq1
              subst hv3
              have hl4 : lenAt' (w'.setCell ⟨A, 0, none⟩ (.slice a3 qs.length c3)) A = qs.length := lenAt'_of bt2.num.cell
              have HL4 := hide hl4
              have HL3 := hide hl3
              have BT2 := hide bt2
              have HQ : Hid (∀ z ∈ qs, -1 ≤ z ∧ z ≤ 65536) := by rw [← hq]; exact bent_snoc (unhide HZS) (by omega) (by omega)
              clear hown' hcc hown2 hgrow hat bt bt2 HBB hcA hq hq1 hl3 hl4
              go_wp2
              go_roundw
              case rel => exact ⟨qs, _, unhide BT2, HQ, by have := unhide HQ1; omega⟩
              case measure => rw [unhide HL3, unhide HL4]; have := unhide HQ1; omega
            · have hgo' : ¬ (zs.length : Int) ≤ 100 := by omega
              have RT := hide (bt.ret (unhide HZS) hl)
              have cR := bt.cR
              have fR := bt.fR
              clear bt
              go_wp2
              exact bodyPost_ret (v := .agg #[.slice a1 zs.length e1]) (by simp [results, Tryd.results72, go_sem, cR]) rfl ⟨_, rfl, unhide RT⟩

end Go.Proofs.YtedknfciomoofaaDoor

namespace Go.Proofs.YtedknfciomoofaaDoor
open Go.RowKit
set_option linter.unusedVariables false
set_option maxRecDepth 8000

end Go.Proofs.YtedknfciomoofaaDoor

namespace Go.Proofs.YtedknfciomoofaaDoor
open Go.RowKit
set_option linter.unusedVariables false
set_option maxRecDepth 8000
set_option linter.unusedSimpArgs false

theorem Kept.newer' {lo hi : Nat} {a b c : World} (h : Kept 0 0 a b) (k : Kept lo hi b c) (hl : a.heap.size ≤ lo) : Kept 0 0 a c :=
  ⟨k.os.trans h.os, k.tape.trans h.tape, k.output.trans h.output, Nat.le_trans h.size k.size, fun i hi' ho => (k.block i (Nat.lt_of_lt_of_le hi' h.size) (.inl (by omega))).trans (h.block i hi' ho)⟩
theorem Kept.looseOut' {lo hi : Nat} {W w' : World} (k : Kept lo hi W w') {a : Addr} (ho : a.block < lo ∨ hi ≤ a.block) (hb : a.block < W.heap.size) (h : W.frozen? a = false) : w'.frozen? a = false := by
  rw [← h]; exact World.frozen?_of_block (k.block _ hb ho)
end Go.Proofs.YtedknfciomoofaaDoor

