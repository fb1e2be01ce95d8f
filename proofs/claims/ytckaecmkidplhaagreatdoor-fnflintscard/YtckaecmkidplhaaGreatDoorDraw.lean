/-
  Contracts of the laws' draws: the cursor that is made over the code's bytes, a byte of it, a number below another, one of a list.
-/
import Derived.Test.YtckaecmkidplhaaGreatDoorBA
import Derived.Test.YtckaecmkidplhaaGreatDoorBE
namespace Go.Proofs.YtckaecmkidplhaaGreatDoor
open Go.RowKit
set_option maxRecDepth 8000
set_option linter.unusedVariables false

/-- A cursor of the draws in block g: its slice can be read in blocks below lo, its place is not below nought. -/
def Cur (g lo : Nat) (w : World) : Prop :=
  g < w.heap.size ∧ lo ≤ g ∧ ∃ (v : Value) (zs : List Int) (i h : Int), Row .u8 false 0 lo w v zs ∧ Bytes zs ∧ 0 ≤ i ∧ i ≤ zs.length ∧
    w.cell? ⟨g, 0, none⟩ = some v ∧ w.cell? ⟨g, 1, none⟩ = some (.int .i64 i) ∧ w.cell? ⟨g, 2, none⟩ = some (.int .i64 h) ∧ (∀ o, w.frozen? ⟨g, o, none⟩ = false)

theorem Cur.kept {g lo l h : Nat} {w w' : World} (c : Cur g lo w) (q : Kept l h w w') (hd : g < l ∨ (h ≤ g ∧ lo ≤ l) ∨ h ≤ l) : Cur g lo w' := by
  obtain ⟨h1, h2, v, zs, i, hh, r, b, i0, i1, c0, c1, c2, fz⟩ := c
  have hb := q.block g h1 (by omega)
  refine ⟨Nat.lt_of_lt_of_le h1 q.size, h2, v, zs, i, hh, r.kept q (by omega), b, i0, i1, ?_, ?_, ?_, fun o => ?_⟩
  · exact (World.cell?_of_block (w := w) (a := ⟨g, 0, none⟩) hb).trans c0
  · exact (World.cell?_of_block (w := w) (a := ⟨g, 1, none⟩) hb).trans c1
  · exact (World.cell?_of_block (w := w) (a := ⟨g, 2, none⟩) hb).trans c2
  · exact (World.frozen?_of_block (w := w) (a := ⟨g, o, none⟩) hb).trans (fz o)

theorem Cur.setFar {g lo : Nat} {w : World} (c : Cur g lo w) {p : Addr} (hp : g < p.block) (u : Value) : Cur g lo (w.setCell p u) :=
  c.kept (l := p.block) (h := p.block + 1) ((Kept.refl _ _ w).setCell (Nat.le_refl _) (Nat.lt_succ_self _) u) (.inl hp)

theorem and_byte (n : Int) : 0 ≤ bits .and .i64 n 255 ∧ bits .and .i64 n 255 ≤ 255 := by rw [and255]; omega
theorem Cur.setH {g lo : Nat} {w : World} (c : Cur g lo w) (h : Int) : Cur g lo (w.setCell ⟨g, 2, none⟩ (.int .i64 h)) := by
  obtain ⟨h1, h2, v, zs, i, hh, r, b, i0, i1, c0, c1, c2, fz⟩ := c
  exact ⟨by rw [size_set]; exact h1, h2, v, zs, i, h, r.kept ((Kept.refl g (g + 1) w).setCell (p := ⟨g, 2, none⟩) (Nat.le_refl _) (Nat.lt_succ_self _) _) (by omega), b, i0, i1, cell_off _ _ _ _ _ _ c0 (by decide), cell_off _ _ _ _ _ _ c1 (by decide), cell_on _ _ _ _ _ c2, fun o => by rw [frozen_set]; exact fz o⟩

theorem curI {g lo : Nat} {W : World} {v : Value} {zs : List Int} {i hh : Int} (h1 : g < W.heap.size) (h2 : lo ≤ g) (hr : Row .u8 false 0 lo W v zs) (b : Bytes zs) (j : Int) (j0 : 0 ≤ j) (j1 : j ≤ zs.length)
    (c0 : W.cell? ⟨g, 0, none⟩ = some v) (c1 : W.cell? ⟨g, 1, none⟩ = some (.int .i64 i)) (c2 : W.cell? ⟨g, 2, none⟩ = some (.int .i64 hh)) (fz : ∀ o, W.frozen? ⟨g, o, none⟩ = false) (n : Nat) :
    Cur g lo ((W.drewN n).setCell ⟨g, 1, none⟩ (.int .i64 j)) := by
  exact ⟨by rw [size_set]; exact h1, h2, v, zs, j, hh, hr.kept (((Kept.refl g (g + 1) W).drewN n).setCell (p := ⟨g, 1, none⟩) (Nat.le_refl _) (Nat.lt_succ_self _) _) (by omega), b, j0, j1,
    cell_off (W.drewN n) _ _ _ _ _ c0 (by decide), cell_on (W.drewN n) _ _ _ _ c1, cell_off (W.drewN n) _ _ _ _ _ c2 (by decide), fun o => by rw [frozen_set]; exact fz o⟩

set_option maxHeartbeats 1000000 in
theorem l1Byte_any (g lo : Nat) (w : World) (c : Cur g lo w) :
    Calls Tryz.prog 114 #[.pointer (some ⟨g, 0, none⟩)] w fun e w' => ∃ x : Int, e = .returned (.int .i64 x) ∧ 0 ≤ x ∧ x ≤ 255 ∧ Cur g lo w' ∧ Kept g (g + 1) w w' ∧ w'.heap.size = w.heap.size := by
  have hset := fun h => c.setH h
  have HSET := hide hset
  obtain ⟨h1, h2, v, zs, i, hh, r, b, i0, i1, c0, c1, c2, fz⟩ := c
  have f1 := fz 1
  have f2 := fz 2
  clear hset v zs i r b i0 i1 c0 c1 fz
  go_enter Tryz.func114, Tryz.ntmps114
  go_wp2
  generalize wrap64 (wrap64 (hh * 6364136223846793005) + 1442695040888963407) = h'
  have hc := unhide HSET h'
  have hk : Kept g (g + 1) w (w.setCell ⟨g, 2, none⟩ (.int .i64 h')) := (Kept.refl g (g + 1) w).setCell (p := ⟨g, 2, none⟩) (Nat.le_refl _) (Nat.lt_succ_self _) _
  have hsz : (w.setCell ⟨g, 2, none⟩ (.int .i64 h')).heap.size = w.heap.size := size_set _ _ _
  generalize w.setCell ⟨g, 2, none⟩ (.int .i64 h') = W at *
  have HSZ := hide hsz
  clear hsz c2 f1 f2 HSET
  have hcur := hc
  obtain ⟨h1', -, v, zs, i, hh2, r, b, i0, i1, c0, c1, c2, fz⟩ := hc
  have f1 := fz 1
  have hfz := hide fz
  have hr := r
  obtain ⟨a, cc, rfl, q1, m1, q3⟩ := r
  unfold maxLen at m1
  by_cases hlt : i < (zs.length : Int)
  · obtain ⟨k, rfl⟩ := Int.eq_ofNat_of_zero_le i0
    obtain ⟨gz, off, rfl, z1, z2, z3, hcell, -⟩ := q3 (by intro e; subst e; simp at hlt; omega)
    have hz := hcell k (by omega)
    obtain ⟨by0, by1⟩ := b.at k
    generalize zs.getD k 0 = z at *
    clear q3 hcell fz
    go_quiet (fail)
    go_wp2
    go_quiet (fail)
    go_wp2
    go_quiet (fail)
    go_wp2
    go_ret
    refine ⟨_, rfl, (and_byte _).1, (and_byte _).2, ?_, ?_, ?_⟩
    · exact curI h1' h2 hr b (k + 1) (by omega) (by omega) c0 c1 c2 (unhide hfz) _
    · exact (hk.drewN _).setCell (p := ⟨g, 1, none⟩) (Nat.le_refl _) (Nat.lt_succ_self _) _
    · rw [size_set]; exact unhide HSZ
  · clear q3 fz f1
    go_quiet (fail)
    go_wp2
    go_quiet (fail)
    go_wp2
    go_ret
    exact ⟨_, rfl, (and_byte _).1, (and_byte _).2, hcur.kept (l := 0) (h := 0) (((Kept.refl 0 0 W).drewN _).drewN _) (by omega), (hk.drewN _).drewN _, unhide HSZ⟩

/-- What a draw leaves: the cursor's block alone may have turned. -/
def Drew (g lo : Nat) (w w' : World) : Prop := Cur g lo w' ∧ Kept g (g + 1) w w' ∧ w'.heap.size = w.heap.size

set_option maxHeartbeats 1000000 in
theorem l1Below_any (g lo : Nat) (w : World) (c : Cur g lo w) (n : Int) :
    Calls Tryz.prog 69 #[.pointer (some ⟨g, 0, none⟩), .int .i64 n] w fun e w' => ∃ x : Int, e = .returned (.int .i64 x) ∧ (n ≤ 0 → x = 0) ∧ (0 < n → 0 ≤ x ∧ x < n) ∧ Drew g lo w w' := by
  by_cases h0 : n ≤ 0
  · go_enter Tryz.func69, Tryz.ntmps69
    go_wp2
    go_ret
    exact ⟨0, rfl, fun _ => rfl, fun h => by omega, c, Kept.refl _ _ _, rfl⟩
  by_cases h1 : n ≤ 256
  · have h0' : 0 < n := by omega
    go_enter Tryz.func69, Tryz.ntmps69
    go_wp2_with fail
    refine (l1Byte_any g lo _ c).mono ?_
    rintro e w1 ⟨x, rfl, x0, x1, c1, k1, s1⟩
    have HS := hide s1
    clear s1
    go_wp2
    go_ret
    exact ⟨x % n, rfl, fun h => by omega, fun _ => ⟨Int.emod_nonneg _ (by omega), Int.emod_lt_of_pos _ h0'⟩, c1, k1, unhide HS⟩
  · have h0' : 0 < n := by omega
    go_enter Tryz.func69, Tryz.ntmps69
    go_wp2_with fail
    refine (l1Byte_any g lo _ c).mono ?_
    rintro e w1 ⟨x, rfl, x0, x1, c1, k1, s1⟩
    have HS1 := hide s1
    clear s1
    go_wp2_with fail
    refine (l1Byte_any g lo _ c1).mono ?_
    rintro e w2 ⟨y, rfl, y0, y1, c2, k2, s2⟩
    have HS2 := hide s2
    clear s2
    go_wp2_with fail
    refine (l1Byte_any g lo _ c2).mono ?_
    rintro e w3 ⟨z, rfl, z0, z1, c3, k3, s3⟩
    have HS3 := hide s3
    clear s3
    go_wp2_with fail
    refine (l1Byte_any g lo _ c3).mono ?_
    rintro e w4 ⟨u, rfl, u0, u1, c4, k4, s4⟩
    have HS4 := hide s4
    clear s4
    go_wp2
    go_ret
    exact ⟨(x * 16777216 + y * 65536 + z * 256 + u) % n, rfl, fun h => by omega, fun _ => ⟨Int.emod_nonneg _ (by omega), Int.emod_lt_of_pos _ h0'⟩, c4, ((k1.trans k2).trans k3).trans k4, by
      have a1 := unhide HS1; have a2 := unhide HS2; have a3 := unhide HS3; have a4 := unhide HS4; omega⟩

set_option maxHeartbeats 1000000 in
theorem l1Once_any (g lo : Nat) (w : World) (c : Cur g lo w) (n : Int) :
    Calls Tryz.prog 50 #[.pointer (some ⟨g, 0, none⟩), .int .i64 n] w fun e w' => ∃ b : Bool, e = .returned (.bool b) ∧ Drew g lo w w' := by
  go_enter Tryz.func50, Tryz.ntmps50
  go_wp2_with fail
  refine (l1Below_any g lo _ c n).mono ?_
  rintro e w1 ⟨x, rfl, -, -, hd⟩
  go_wp2
  go_ret
  exact ⟨_, rfl, hd⟩

set_option maxHeartbeats 1000000 in
theorem l1PickInt_any (g lo : Nat) (w : World) (c : Cur g lo w) {bw : Bool} {l h : Nat} {v : Value} {zs : List Int} (r : Row .i64 bw l h w v zs) (hz : zs ≠ []) (hd : h ≤ g ∨ g < l) :
    Calls Tryz.prog 68 #[.pointer (some ⟨g, 0, none⟩), v] w fun e w' => ∃ x : Int, e = .returned (.int .i64 x) ∧ x ∈ zs ∧ Drew g lo w w' := by
  have hpos : 0 < zs.length := List.length_pos_iff.2 hz
  have hr := r
  obtain ⟨a, cc, rfl, q1, m1, q3⟩ := r
  unfold maxLen at m1
  clear q3
  go_enter Tryz.func68, Tryz.ntmps68
  go_wp2_with fail
  refine (l1Below_any g lo _ c zs.length).mono ?_
  rintro e w1 ⟨x, rfl, -, hx, hdr⟩
  obtain ⟨x0, x1⟩ := hx (by omega)
  obtain ⟨k, rfl⟩ := Int.eq_ofNat_of_zero_le x0
  obtain ⟨g2, off, rfl, hc⟩ := (row_cell (hr.kept hdr.2.1 (by omega))).2.2.2 k (by omega)
  clear hx
  go_wp2
  go_ret
  refine ⟨_, rfl, ?_, hdr⟩
  have hk : k < zs.length := by omega
  simp [hk]

theorem curNew {w : World} {v : Value} {zs : List Int} (hr : Row .u8 false 0 w.heap.size w v zs) (b : Bytes zs) (hh : Int) (t : TypeId) : Cur w.heap.size w.heap.size (w.alloc (.cells #[v, .int .i64 0, .int .i64 hh] t)) := by
  have hg : (w.alloc (.cells #[v, .int .i64 0, .int .i64 hh] t)).heap[w.heap.size]? = some (.cells #[v, .int .i64 0, .int .i64 hh] t) := heap_alloc_new w _
  refine ⟨by simp, Nat.le_refl _, v, zs, 0, hh, hr.kept ((Kept.refl 0 0 w).alloc _) (by omega), b, Int.le_refl _, by omega, ?_, ?_, ?_, fun o => ?_⟩
  · simp only [World.cell?, hg]; rfl
  · simp only [World.cell?, hg]; rfl
  · simp only [World.cell?, hg]; rfl
  · simp only [World.frozen?, hg]; simp

set_option maxHeartbeats 1000000 in
theorem l1New_any {bw : Bool} {lo hi : Nat} {v : Value} {zs : List Int} (w : World) (r : Row .u8 bw lo hi w v zs) (b : Bytes zs) :
    Calls Tryz.prog 40 #[v] w fun e w' => ∃ g, e = .returned (.pointer (some ⟨g, 0, none⟩)) ∧ w.heap.size ≤ g ∧ Cur g w.heap.size w' ∧ Kept 0 0 w w' := by
  have hr := (r.read.tight).wider (Nat.zero_le _) (Nat.le_refl _)
  obtain ⟨a, cc, rfl, q1, m1, q3⟩ := r
  have hat := (row_cell (r := ⟨a, cc, rfl, q1, m1, q3⟩)).2.2.2
  unfold maxLen at m1
  clear q3
  go_enter Tryz.func40, Tryz.ntmps40
  go_wp2
  go_loop [3, 4] (fun h i => ∃ (k : Nat) (hh : Int), k ≤ zs.length ∧ i = .int .i64 k ∧ h = .int .i64 hh) (fun _ i => zs.length - (intOf i).toNat)
  case atStart => exact ⟨0, _, Nat.zero_le _, rfl, rfl⟩
  case round =>
    obtain ⟨k, hh, hk, rfl, rfl⟩ := hrel
    by_cases hlt : k < zs.length
    · by_cases h4 : k < 4000
      · obtain ⟨g2, off, rfl, hc⟩ := hat k hlt
        obtain ⟨by0, by1⟩ := b.at k
        generalize zs.getD k 0 = z at *
        have hlt' : (k : Int) < (zs.length : Int) := by omega
        have h4' : (k : Int) < 4000 := by omega
        clear hat
        go_wp2
        go_round
        case rel => exact ⟨k + 1, _, by omega, by go_num, rfl⟩
        case measure => simp [intOf]; omega
      · have hlt' : (k : Int) < (zs.length : Int) := by omega
        have h4' : ¬ (k : Int) < 4000 := by omega
        clear hat
        go_wp2
        go_ret
        exact ⟨w.heap.size, rfl, Nat.le_refl _, curNew hr b hh _, (Kept.refl _ _ _).alloc _⟩
    · have hlt' : ¬ (k : Int) < (zs.length : Int) := by omega
      clear hat
      go_wp2
      go_ret
      exact ⟨w.heap.size, rfl, Nat.le_refl _, curNew hr b hh _, (Kept.refl _ _ _).alloc _⟩

end Go.Proofs.YtckaecmkidplhaaGreatDoor

