/-
  Contracts that the proofs of this seat share: Dys, Dys2, Dys3.
-/
import Derived.Test.YthahoabkehcgbaaDoorBJ
namespace Go.Proofs.YthahoabkehcgbaaDoor
open Go.RowKit
set_option linter.unusedVariables false

/-- A sign, the limbs, a power of two. -/
abbrev DE := Bool × List Int × Int
def de0 : DE := (false, [], 0)

/-- The three cells from ⟨g, o⟩ on hold the number d; its limbs are a row between lo and hi. -/
def DyAt (bw : Bool) (lo hi : Nat) (w : World) (g o : Nat) (d : DE) : Prop :=
  ∃ u, w.cell? ⟨g, o, none⟩ = some (.bool d.1) ∧ w.cell? ⟨g, o + 1, none⟩ = some u ∧ w.cell? ⟨g, o + 2, none⟩ = some (.int .i64 d.2.2) ∧ Row .i64 bw lo hi w u d.2.1
theorem DyAt.kept {bw : Bool} {lo hi l h : Nat} {w w' : World} {g o : Nat} {d : DE} (r : DyAt bw lo hi w g o d) (q : Kept l h w w') (hd : hi ≤ l ∨ h ≤ lo ∨ h ≤ l) (hg : g < l ∨ h ≤ g) : DyAt bw lo hi w' g o d := by
  obtain ⟨u, c0, c1, c2, r⟩ := r
  have hb := q.block g (World.block_lt_of_cell? _ ⟨g, o, none⟩ c0) hg
  exact ⟨u, (World.cell?_of_block (w := w) (a := ⟨g, o, none⟩) hb).trans c0, (World.cell?_of_block (w := w) (a := ⟨g, o + 1, none⟩) hb).trans c1, (World.cell?_of_block (w := w) (a := ⟨g, o + 2, none⟩) hb).trans c2, r.kept q hd⟩

/-- The slice value v has the numbers ds as its elements; all blocks lie from lo up to hi. -/
def Dys (lo hi : Nat) (w : World) (v : Value) (ds : List DE) : Prop :=
  ∃ a c, v = .slice a ds.length c ∧ ds.length ≤ c ∧ c ≤ maxLen ∧
    (ds ≠ [] → ∃ g off, a = some ⟨g, off, none⟩ ∧ lo ≤ g ∧ g < hi ∧ g < w.heap.size ∧ ∀ i, i < ds.length → DyAt false lo hi w g (off + i * 3) (ds.getD i de0))

theorem Dys.kept {lo hi l h : Nat} {w w' : World} {v : Value} {ds : List DE} (r : Dys lo hi w v ds) (q : Kept l h w w') (hd : hi ≤ l ∨ h ≤ lo ∨ h ≤ l) : Dys lo hi w' v ds := by
  obtain ⟨a, c, rfl, h1, h2, h3⟩ := r
  refine ⟨a, c, rfl, h1, h2, fun hz => ?_⟩
  obtain ⟨g, off, rfl, hl, hh, hs, hc⟩ := h3 hz
  exact ⟨g, off, rfl, hl, hh, Nat.lt_of_lt_of_le hs q.size, fun i hi' => (hc i hi').kept q hd (by omega)⟩
theorem Dys.wider {lo hi lo' hi' : Nat} {w : World} {v : Value} {ds : List DE} (r : Dys lo hi w v ds) (h1 : lo' ≤ lo) (h2 : hi ≤ hi') : Dys lo' hi' w v ds := by
  obtain ⟨a, c, rfl, q1, q2, q3⟩ := r
  refine ⟨a, c, rfl, q1, q2, fun hz => ?_⟩
  obtain ⟨g, off, rfl, hl, hh, hs, hc⟩ := q3 hz
  refine ⟨g, off, rfl, by omega, by omega, hs, fun i hi => ?_⟩
  obtain ⟨u, c0, c1, c2, r⟩ := hc i hi
  exact ⟨u, c0, c1, c2, r.wider h1 h2⟩
theorem Dys.form {lo hi : Nat} {w : World} {v : Value} {ds : List DE} (r : Dys lo hi w v ds) : ∃ a c, v = .slice a ds.length c ∧ ds.length ≤ c ∧ c ≤ maxLen := by
  obtain ⟨a, c, rfl, q1, q2, _⟩ := r
  exact ⟨a, c, rfl, q1, q2⟩
theorem Dys.at {lo hi n c : Nat} {w : World} {a : Option Addr} {ds : List DE} (r : Dys lo hi w (.slice a n c) ds) {i : Nat} (hi' : i < ds.length) :
    ∃ g off l, a = some ⟨g, off, none⟩ ∧ lo ≤ g ∧ g < hi ∧ g < w.heap.size ∧ ∃ b k, w.cell? ⟨g, off + i * 3, none⟩ = some (.bool (ds.getD i de0).1) ∧ w.cell? ⟨g, off + i * 3 + 1, none⟩ = some (.slice b l k) ∧ w.cell? ⟨g, off + i * 3 + 2, none⟩ = some (.int .i64 (ds.getD i de0).2.2) ∧ l = (ds.getD i de0).2.1.length ∧ Row .i64 false lo hi w (.slice b l k) (ds.getD i de0).2.1 := by
  obtain ⟨a', c', e, q1, q2, q3⟩ := r
  cases e
  obtain ⟨g, off, rfl, hl, hh, hs, hc⟩ := q3 (by intro e; simp [e] at hi')
  obtain ⟨u, c0, c1, c2, r⟩ := hc i hi'
  obtain ⟨b, k, rfl⟩ := Row.form' r
  exact ⟨g, off, _, rfl, hl, hh, hs, b, k, c0, c1, c2, rfl, r⟩

/-- How many limbs the first k of them have. -/
def limT (ds : List DE) : Nat → Nat
  | 0 => 0
  | k + 1 => limT ds k + (ds.getD k de0).2.1.length
theorem limT_mono (ds : List DE) : ∀ {a b : Nat}, a ≤ b → limT ds a ≤ limT ds b
  | a, 0, h => by have : a = 0 := by omega
                  subst this; exact Nat.le_refl _
  | a, b + 1, h => by
    rcases Nat.lt_or_ge a (b + 1) with h1 | h1
    · have := limT_mono ds (a := a) (b := b) (by omega)
      show _ ≤ limT ds b + _
      omega
    · have : a = b + 1 := by omega
      subst this; exact Nat.le_refl _
/-- What a list of them takes. -/
def szT (ds : List DE) : Int := ds.length + limT ds ds.length

theorem szT_len (ds : List DE) : (ds.length : Int) ≤ szT ds ∧ 0 ≤ szT ds := by unfold szT; omega
theorem szT_each (ds : List DE) (i : Nat) (h : i < ds.length) : ((ds.getD i de0).2.1.length : Int) ≤ szT ds := by
  have h1 : limT ds (i + 1) = limT ds i + (ds.getD i de0).2.1.length := rfl
  have h2 := limT_mono ds (a := i + 1) (b := ds.length) h
  unfold szT
  omega
theorem Dys.form' {lo hi : Nat} {w : World} {v : Value} {ds : List DE} (r : Dys lo hi w v ds) : ∃ a c, v = .slice a ds.length c := by
  obtain ⟨a, c, rfl, _⟩ := r
  exact ⟨a, c, rfl⟩

set_option maxHeartbeats 4000000 in
theorem szDyS_any {lo hi : Nat} {v : Value} {ds : List DE} (w : World) (s : Int) (hs0 : 0 ≤ s) (hs1 : s ≤ 1048576) (r : Dys lo hi w v ds) :
    Calls Tryd.prog 13 #[v, .int .i64 s] w fun e w' => e = .returned (.int .i64 (if szT ds ≤ s then s - szT ds else -1)) ∧ Kept 0 0 w w' := by
  obtain ⟨a, c, rfl, hc1, hc2⟩ := r.form
  obtain ⟨n, hn⟩ : ∃ n, n = ds.length := ⟨_, rfl⟩
  have hm : ds.length ≤ 9223372036854775807 := by unfold maxLen at hc2; omega
  rw [← hn] at r ⊢ hm
  have HN := hide hn
  have R := hide r
  obtain ⟨A, hA⟩ : ∃ A : Int, A = if szT ds ≤ s then s - szT ds else -1 := ⟨_, rfl⟩
  rw [← hA]
  have HA := hide hA
  have hw0 : IntKind.i64.wrap (s - (n : Int)) = s - n := by rw [IntKind.wrap_i64]; omega
  clear r hA hn hc1 hc2
  by_cases h0 : s - (n : Int) < 0
  · have HB : A = -1 := by
      rw [unhide HA, if_neg]
      have := unhide HN
      unfold szT
      omega
    clear HA
    go_enter Tryd.func13, Tryd.ntmps13
    go_wp2
    go_ret
    exact ⟨by rw [HB]; rfl, Kept.refl _ _ _⟩
  go_enter Tryd.func13, Tryd.ntmps13
  go_wp2
  go_loopw [1, 5] (fun s1 s5 wr => ∃ (j : Nat) (l : Int), s1 = .int .i64 l ∧ s5 = .int .i64 j ∧ j ≤ n ∧ Hid (l = s - n - limT ds j) ∧ 0 ≤ l ∧ l ≤ 1048576 ∧ Kept 0 0 w wr) (fun _ s5 _ => n - (intOf s5).toNat)
  case atStart => exact ⟨0, s - n, rfl, rfl, Nat.zero_le _, by show _ = _; simp [limT], by omega, by omega, Kept.refl _ _ _⟩
  case round =>
    obtain ⟨j, l, rfl, rfl, hj, hl, hl0, hl1, k⟩ := hrel
    by_cases hlt : j < n
    · obtain ⟨g, off, ln, rfl, -, -, -, b, kk, c0, c1, c2, hln, rr⟩ := ((unhide R).kept k (by omega)).at (i := j) (by rw [← unhide HN]; exact hlt)
      obtain ⟨s0, hs0'⟩ : ∃ q, q = (ds.getD j de0).1 := ⟨_, rfl⟩
      obtain ⟨y0, hy0⟩ : ∃ q, q = (ds.getD j de0).2.2 := ⟨_, rfl⟩
      obtain ⟨z0, hz0⟩ : ∃ q, q = (ds.getD j de0).2.1 := ⟨_, rfl⟩
      rw [← hs0'] at c0
      rw [← hy0] at c2
      rw [← hz0] at hln rr
      clear hs0' hy0
      have hsz := szDy_any s0 y0 wr l hl0 hl1 rr
      have HZ := hide hz0
      have HL := hide hln
      clear hz0 hln rr
      go_wp2_with fail
      refine hsz.mono ?_
      rintro e w2 ⟨rfl, k2⟩
      have hstep : limT ds (j + 1) = limT ds j + z0.length := by rw [unhide HZ]; rfl
      have hfull : limT ds (j + 1) ≤ limT ds n := limT_mono ds hlt
      have HS := hide hstep
      have K2 := hide (k.trans k2)
      clear hsz k k2 hstep
      by_cases hf : (z0.length : Int) ≤ l
      · rw [if_pos hf]
        have hneg : ¬ (l - (z0.length : Int) < 0) := by omega
        have hw1 : IntKind.i64.wrap ((j : Int) + 1) = ((j + 1 : Nat) : Int) := by rw [IntKind.wrap_i64]; omega
        clear hf
        go_wp2
        go_roundw
        case rel => exact ⟨j + 1, l - z0.length, rfl, by simp, hlt, by have := unhide hl; have := unhide HS; show _ = _; omega, by omega, by omega, unhide K2⟩
        case measure => simp [intOf]; omega
      · rw [if_neg hf]
        have HB : A = -1 := by
          rw [unhide HA, if_neg]
          unfold szT
          rw [← unhide HN]
          have := unhide hl
          have := unhide HS
          omega
        clear hf HA
        go_wp2
        go_ret
        exact ⟨by rw [HB]; rfl, unhide K2⟩
    · have hjn : j = n := by omega
      subst hjn
      have HB : A = l := by
        have hl' := unhide hl
        rw [unhide HA, if_pos]
        · unfold szT; rw [← unhide HN]; omega
        · unfold szT; rw [← unhide HN]; omega
      clear HA
      go_wp2
      go_ret
      exact ⟨by rw [HB]; rfl, k⟩

end Go.Proofs.YthahoabkehcgbaaDoor

namespace Go.Proofs.YthahoabkehcgbaaDoor
open Go.RowKit
set_option linter.unusedVariables false
set_option maxRecDepth 8000

theorem Row.block1 {k : IntKind} {bw : Bool} {lo hi : Nat} {w : World} {v : Value} {zs : List Int} (r : Row k bw lo hi w v zs) : ∃ b, (zs ≠ [] → lo ≤ b ∧ b < hi) ∧ Row k bw b (b + 1) w v zs := by
  obtain ⟨a, c, rfl, h1, h2, h3⟩ := r
  by_cases hz : zs = []
  · exact ⟨lo, fun e => absurd hz e, a, c, rfl, h1, h2, fun e => absurd hz e⟩
  · obtain ⟨g, off, rfl, hl, hh, rest⟩ := h3 hz
    exact ⟨g, fun _ => ⟨hl, hh⟩, _, c, rfl, h1, h2, fun _ => ⟨g, off, rfl, Nat.le_refl _, Nat.lt_succ_self _, rest⟩⟩
theorem Row.none {k : IntKind} {bw bw' : Bool} {lo hi lo' hi' : Nat} {w w' : World} {v : Value} {zs : List Int} (r : Row k bw lo hi w v zs) (h : zs = []) : Row k bw' lo' hi' w' v zs := by
  obtain ⟨a, c, rfl, h1, h2, h3⟩ := r
  exact ⟨a, c, rfl, h1, h2, fun e => absurd h e⟩
theorem DyAt.keptE {bw : Bool} {lo hi l h : Nat} {w w' : World} {g o : Nat} {d : DE} (r : DyAt bw lo hi w g o d) (q : Kept l h w w') (hd : d.2.1 ≠ [] → hi ≤ l ∨ h ≤ lo ∨ h ≤ l) (hg : g < l ∨ h ≤ g) : DyAt bw lo hi w' g o d := by
  by_cases e : d.2.1 = []
  · obtain ⟨u, c0, c1, c2, r⟩ := r
    have hb := q.block g (World.block_lt_of_cell? _ ⟨g, o, none⟩ c0) hg
    exact ⟨u, (World.cell?_of_block (w := w) (a := ⟨g, o, none⟩) hb).trans c0, (World.cell?_of_block (w := w) (a := ⟨g, o + 1, none⟩) hb).trans c1, (World.cell?_of_block (w := w) (a := ⟨g, o + 2, none⟩) hb).trans c2, r.none e⟩
  · exact r.kept q (hd e) hg

/-- The list v is a call's own: its cells may be written, and no two of its numbers share memory. -/
def DysO (lo hi : Nat) (w : World) (v : Value) (ds : List DE) : Prop :=
  ∃ a c, v = .slice a ds.length c ∧ ds.length ≤ c ∧ c ≤ maxLen ∧
    (ds ≠ [] → ∃ (g off : Nat) (b : Nat → Nat), a = some ⟨g, off, none⟩ ∧ lo ≤ g ∧ g < hi ∧ g < w.heap.size ∧
      (∀ i, i < ds.length → ((ds.getD i de0).2.1 ≠ [] → lo ≤ b i ∧ b i < hi ∧ b i ≠ g) ∧ DyAt true (b i) (b i + 1) w g (off + i * 3) (ds.getD i de0)) ∧
      (∀ k, k < ds.length * 3 → w.frozen? ⟨g, off + k, none⟩ = false) ∧ ∀ i j, i < j → j < ds.length → (ds.getD i de0).2.1 ≠ [] → (ds.getD j de0).2.1 ≠ [] → b i ≠ b j)

theorem DyAt.read {bw : Bool} {lo hi lo' hi' : Nat} {w : World} {g o : Nat} {d : DE} (r : DyAt bw lo hi w g o d) (h : d.2.1 ≠ [] → lo' ≤ lo ∧ hi ≤ hi') : DyAt false lo' hi' w g o d := by
  obtain ⟨u, c0, c1, c2, r⟩ := r
  by_cases e : d.2.1 = []
  · exact ⟨u, c0, c1, c2, r.none e⟩
  · exact ⟨u, c0, c1, c2, r.read.wider (h e).1 (h e).2⟩
theorem DysO.read {lo hi : Nat} {w : World} {v : Value} {ds : List DE} (r : DysO lo hi w v ds) : Dys lo hi w v ds := by
  obtain ⟨a, c, rfl, h1, h2, h3⟩ := r
  refine ⟨a, c, rfl, h1, h2, fun hz => ?_⟩
  obtain ⟨g, off, b, rfl, hl, hh, hs, hc, -, -⟩ := h3 hz
  exact ⟨g, off, rfl, hl, hh, hs, fun i hi' => by obtain ⟨q1, q4⟩ := hc i hi'; exact q4.read (fun e => by have := q1 e; omega)⟩
theorem DysO.kept {lo hi l h : Nat} {w w' : World} {v : Value} {ds : List DE} (r : DysO lo hi w v ds) (q : Kept l h w w') (hd : hi ≤ l ∨ h ≤ lo ∨ h ≤ l) : DysO lo hi w' v ds := by
  obtain ⟨a, c, rfl, h1, h2, h3⟩ := r
  refine ⟨a, c, rfl, h1, h2, fun hz => ?_⟩
  obtain ⟨g, off, b, rfl, hl, hh, hs, hc, hf, hi'⟩ := h3 hz
  exact ⟨g, off, b, rfl, hl, hh, Nat.lt_of_lt_of_le hs q.size, fun i hi' => by obtain ⟨q1, q4⟩ := hc i hi'; exact ⟨q1, q4.keptE q (fun e => by have := q1 e; omega) (by omega)⟩,
    fun k hk => (World.frozen?_of_block (w := w) (a := ⟨g, off + k, none⟩) (q.block g hs (by omega))).trans (hf k hk), hi'⟩
theorem DysO.wider {lo hi lo' hi' : Nat} {w : World} {v : Value} {ds : List DE} (r : DysO lo hi w v ds) (h1 : lo' ≤ lo) (h2 : hi ≤ hi') : DysO lo' hi' w v ds := by
  obtain ⟨a, c, rfl, q1, q2, q3⟩ := r
  refine ⟨a, c, rfl, q1, q2, fun hz => ?_⟩
  obtain ⟨g, off, b, rfl, hl, hh, hs, hc, hf, hi'⟩ := q3 hz
  exact ⟨g, off, b, rfl, by omega, by omega, hs, fun i hi => by obtain ⟨q1, q4⟩ := hc i hi; exact ⟨fun e => by have := q1 e; omega, q4⟩, hf, hi'⟩

theorem DysO.form' {lo hi : Nat} {w : World} {v : Value} {ds : List DE} (r : DysO lo hi w v ds) : ∃ a c, v = .slice a ds.length c := by
  obtain ⟨a, c, rfl, _⟩ := r
  exact ⟨a, c, rfl⟩

theorem own3 {w : World} {base n g c : Nat} {e : TypeId} {xs : List Value} (h : w.ownsRow base e 3 (.slice (some ⟨g, 0, none⟩) n c) n xs) : g < w.heap.size ∧ ∀ k u, xs[k]? = some u → w.cell? ⟨g, k, none⟩ = some u ∧ w.frozen? ⟨g, k, none⟩ = false := by
  rcases h.2 with ⟨e1, h0⟩ | ⟨g', cap, cur, e1, hb, hg, hle, hm, hs, htake⟩
  · cases e1
  · cases e1
    refine ⟨(Array.getElem?_eq_some_iff.1 hg).1, fun k u hk => ⟨?_, by simp [World.frozen?, hg]⟩⟩
    rw [← htake, List.getElem?_take] at hk
    by_cases hlt : k < n * 3
    · rw [if_pos hlt] at hk
      simpa [World.cell?, hg] using hk
    · rw [if_neg hlt] at hk; cases hk
theorem made3 (z : Value) (hz : z.cells.size = 3) (n k : Nat) (hk : k < n * 3) : ∃ u, (madeCells z.cells (n * 3)).toList[k]? = some u := by
  have : (madeCells z.cells (n * 3)).toList.length = n * 3 := by simp [madeCells]
  exact ⟨_, List.getElem?_eq_getElem (by omega)⟩

theorem Tryd.infoDy : (Tryd.prog.info? 52).map (fun i => (i.zero, i.size, i.bytes)) = some (some (.agg #[.bool false, .slice none 0 0, .int .i64 0]), 3, 40) := by kernel_rfl

theorem cells_of_setCell {w : World} {g o p : Nat} {u x : Value} (h : w.cell? ⟨g, o, none⟩ = some x) : ∃ y, (w.setCell ⟨g, p, none⟩ u).cell? ⟨g, o, none⟩ = some y := ⟨_, cell_set _ _ _ _ _ _ h⟩

/-- A number is stored into three cells. -/
theorem DyAt.store {w : World} {g o b : Nat} {s : Bool} {u : Value} {y : Int} {z : List Int} (h0 : ∃ x, w.cell? ⟨g, o, none⟩ = some x) (h1 : ∃ x, w.cell? ⟨g, o + 1, none⟩ = some x) (h2 : ∃ x, w.cell? ⟨g, o + 2, none⟩ = some x) (r : Row .i64 true b (b + 1) w u z) (hb : z ≠ [] → b ≠ g) :
    DyAt true b (b + 1) (((w.setCell ⟨g, o, none⟩ (.bool s)).setCell ⟨g, o + 1, none⟩ u).setCell ⟨g, o + 2, none⟩ (.int .i64 y)) g o (s, z, y) := by
  obtain ⟨x0, h0⟩ := h0
  obtain ⟨x1, h1⟩ := h1
  obtain ⟨x2, h2⟩ := h2
  have k : Kept g (g + 1) w (((w.setCell ⟨g, o, none⟩ (.bool s)).setCell ⟨g, o + 1, none⟩ u).setCell ⟨g, o + 2, none⟩ (.int .i64 y)) :=
    (((Kept.refl g (g + 1) w).setCell (p := ⟨g, o, none⟩) (Nat.le_refl _) (Nat.lt_succ_self _) _).setCell (p := ⟨g, o + 1, none⟩) (Nat.le_refl _) (Nat.lt_succ_self _) _).setCell (p := ⟨g, o + 2, none⟩) (Nat.le_refl _) (Nat.lt_succ_self _) _
  have rr : Row .i64 true b (b + 1) (((w.setCell ⟨g, o, none⟩ (.bool s)).setCell ⟨g, o + 1, none⟩ u).setCell ⟨g, o + 2, none⟩ (.int .i64 y)) u z := by
    by_cases e : z = []
    · exact r.none e
    · have := hb e
      exact r.kept k (by omega)
  refine ⟨u, ?_, ?_, ?_, rr⟩
  · exact cell_off _ _ _ _ _ _ (cell_off _ _ _ _ _ _ (cell_on _ _ _ _ _ h0) (by omega)) (by omega)
  · refine cell_off _ _ _ _ _ _ (cell_on _ _ _ _ x1 ?_) (by omega)
    exact cell_off _ _ _ _ _ _ h1 (by omega)
  · refine cell_on _ _ _ _ x2 ?_
    exact cell_off _ _ _ _ _ _ (cell_off _ _ _ _ _ _ h2 (by omega)) (by omega)
theorem DyAt.stored {bw : Bool} {lo hi : Nat} {w : World} {g o p : Nat} {d : DE} (h : DyAt bw lo hi w g o d) (x0 x1 x2 : Value) (hg : d.2.1 ≠ [] → g < lo ∨ hi ≤ g) (hp : o + 3 ≤ p ∨ p + 3 ≤ o) :
    DyAt bw lo hi (((w.setCell ⟨g, p, none⟩ x0).setCell ⟨g, p + 1, none⟩ x1).setCell ⟨g, p + 2, none⟩ x2) g o d := by
  obtain ⟨u, c0, c1, c2, r⟩ := h
  have k : Kept g (g + 1) w (((w.setCell ⟨g, p, none⟩ x0).setCell ⟨g, p + 1, none⟩ x1).setCell ⟨g, p + 2, none⟩ x2) :=
    (((Kept.refl g (g + 1) w).setCell (p := ⟨g, p, none⟩) (Nat.le_refl _) (Nat.lt_succ_self _) _).setCell (p := ⟨g, p + 1, none⟩) (Nat.le_refl _) (Nat.lt_succ_self _) _).setCell (p := ⟨g, p + 2, none⟩) (Nat.le_refl _) (Nat.lt_succ_self _) _
  have rr : Row .i64 bw lo hi (((w.setCell ⟨g, p, none⟩ x0).setCell ⟨g, p + 1, none⟩ x1).setCell ⟨g, p + 2, none⟩ x2) u d.2.1 := by
    by_cases e : d.2.1 = []
    · exact r.none e
    · have := hg e
      exact r.kept k (by omega)
  refine ⟨u, ?_, ?_, ?_, rr⟩
  · exact cell_off _ _ _ _ _ _ (cell_off _ _ _ _ _ _ (cell_off _ _ _ _ _ _ c0 (by omega)) (by omega)) (by omega)
  · exact cell_off _ _ _ _ _ _ (cell_off _ _ _ _ _ _ (cell_off _ _ _ _ _ _ c1 (by omega)) (by omega)) (by omega)
  · exact cell_off _ _ _ _ _ _ (cell_off _ _ _ _ _ _ (cell_off _ _ _ _ _ _ c2 (by omega)) (by omega)) (by omega)

/-- A list that is being filled: its first j numbers are there. -/
structure Fill (lo g n : Nat) (ds : List DE) (j : Nat) (w : World) : Prop where
  lt : g < w.heap.size
  got : ∃ b : Nat → Nat, (∀ i, i < j → ((ds.getD i de0).2.1 ≠ [] → g < b i ∧ b i < w.heap.size) ∧ DyAt true (b i) (b i + 1) w g (i * 3) (ds.getD i de0)) ∧ ∀ i i', i < i' → i' < j → (ds.getD i de0).2.1 ≠ [] → (ds.getD i' de0).2.1 ≠ [] → b i < b i'
  cell : ∀ k, k < n * 3 → ∃ u, w.cell? ⟨g, k, none⟩ = some u
  loose : ∀ k, k < n * 3 → w.frozen? ⟨g, k, none⟩ = false

theorem Fill.step {lo g n j : Nat} {ds : List DE} {w w' : World} {s : Bool} {u : Value} {y : Int} {z : List Int} (h : Fill lo g n ds j w) (hj : j < n) (k : Kept 0 0 w w') (r : Row .i64 true w.heap.size w'.heap.size w' u z) (he : ds.getD j de0 = (s, z, y)) :
    Fill lo g n ds (j + 1) (((w'.setCell ⟨g, j * 3, none⟩ (.bool s)).setCell ⟨g, j * 3 + 1, none⟩ u).setCell ⟨g, j * 3 + 2, none⟩ (.int .i64 y)) := by
  obtain ⟨hlt, ⟨b, hb, hmono⟩, hcell, hloose⟩ := h
  obtain ⟨q, hq1, hq⟩ := r.block1
  have hz : (ds.getD j de0).2.1 = z := by rw [he]
  have hsz := k.size
  have hcell' : ∀ k, k < n * 3 → ∃ u, w'.cell? ⟨g, k, none⟩ = some u := fun k' hk' => by obtain ⟨x, hx⟩ := hcell k' hk'; exact ⟨x, k.cell0 hx⟩
  refine ⟨by rw [size_set, size_set, size_set]; omega, ⟨fun i => if i = j then q else b i, fun i hi => ?_, fun i i' h1 h2 e1 e2 => ?_⟩, fun k' hk' => ?_, fun k' hk' => ?_⟩
  · dsimp only
    by_cases e : i = j
    · subst e
      rw [if_pos rfl, he]
      exact ⟨fun e => by have := hq1 e; rw [size_set, size_set, size_set]; omega, DyAt.store (hcell' _ (by omega)) (hcell' _ (by omega)) (hcell' _ (by omega)) hq (fun e => by have := hq1 e; omega)⟩
    · rw [if_neg e]
      obtain ⟨q1, q3⟩ := hb i (by omega)
      exact ⟨fun e => by have := q1 e; rw [size_set, size_set, size_set]; omega, (q3.keptE k (by omega) (by omega)).stored _ _ _ (fun e => by have := q1 e; omega) (by omega)⟩
  · dsimp only
    rw [if_neg (show ¬ i = j by omega)]
    have := (hb i (by omega)).1 e1
    by_cases e : i' = j
    · rw [if_pos e]; subst e; rw [hz] at e2; have := hq1 e2; omega
    · rw [if_neg e]; exact hmono i i' h1 (by omega) e1 e2
  · obtain ⟨x, hx⟩ := hcell' k' hk'
    obtain ⟨x1, hx1⟩ := cells_of_setCell (p := j * 3) (u := .bool s) hx
    obtain ⟨x2, hx2⟩ := cells_of_setCell (p := j * 3 + 1) (u := u) hx1
    exact cells_of_setCell (p := j * 3 + 2) (u := .int .i64 y) hx2
  · rw [frozen_set, frozen_set, frozen_set]
    exact k.loose0 (a := ⟨g, k', none⟩) hlt (hloose k' hk')
theorem Fill.done {lo g n : Nat} {ds : List DE} {w : World} (h : Fill lo g n ds n w) (hn : n = ds.length) (hm : n ≤ maxLen) : DysO g w.heap.size w (.slice (some ⟨g, 0, none⟩) n n) ds := by
  subst hn
  obtain ⟨b, hb, hmono⟩ := h.got
  exact ⟨_, _, rfl, Nat.le_refl _, hm, fun _ => ⟨g, 0, b, rfl, Nat.le_refl _, h.lt, h.lt, fun i hi => by
    obtain ⟨q1, q3⟩ := hb i hi
    exact ⟨fun e => by have := q1 e; omega, by rw [Nat.zero_add]; exact q3⟩, fun k hk => by rw [Nat.zero_add]; exact h.loose k hk, fun i j h1 h2 e1 e2 => by have := hmono i j h1 h2 e1 e2; omega⟩⟩

theorem made_fill {w w1 : World} {n lo : Nat} {ds : List DE} (hown : w1.ownsRow w.heap.size 52 3 (.slice (some ⟨w.heap.size, 0, none⟩) n n) n (madeCells (Value.agg #[.bool false, .slice none 0 0, .int .i64 0]).cells (n * 3)).toList) : Fill lo w.heap.size n ds 0 w1 := by
  obtain ⟨h1, h2⟩ := own3 hown
  refine ⟨h1, ⟨fun _ => 0, fun i hi => by omega, fun i i' _ hi => by omega⟩, fun k hk => ?_, fun k hk => ?_⟩
  · obtain ⟨u, hu⟩ := made3 (.agg #[.bool false, .slice none 0 0, .int .i64 0]) rfl n k hk
    exact ⟨u, (h2 k u hu).1⟩
  · obtain ⟨u, hu⟩ := made3 (.agg #[.bool false, .slice none 0 0, .int .i64 0]) rfl n k hk
    exact (h2 k u hu).2

set_option maxHeartbeats 4000000 in
theorem toDyS_any {lo hi : Nat} {v : Value} {ds : List DE} (w : World) (hn : ds.length ≤ 1048576) (hl : ∀ i, i < ds.length → (ds.getD i de0).2.1.length ≤ 1099511627776) (r : Dys lo hi w v ds) :
    Calls Tryd.prog 17 #[v] w fun e w' => ∃ v', e = .returned v' ∧ DysO w.heap.size w'.heap.size w' v' ds ∧ Kept 0 0 w w' := by
  obtain ⟨a, c, rfl, hc1, hc2⟩ := r.form
  obtain ⟨n, hnn⟩ : ∃ n, n = ds.length := ⟨_, rfl⟩
  rw [← hnn] at r ⊢ hn hl
  have HN := hide hnn
  have R := hide r
  have HL := hide hl
  obtain ⟨i0, hi0, hz0, hz1, hz2⟩ := info_parts Tryd.infoDy
  have hb0 : i0.bytes * n ≤ 281474976710656 := by rw [hz2]; omega
  have hm0 : n ≤ maxLen := by unfold maxLen; omega
  have HM := hide hm0
  clear r hnn hc1 hc2 hl
  go_enter Tryd.func17, Tryd.ntmps17
  go_wp2_with (at_make; refine wpList_make_full _ rfl _ _ 31 rfl w.heap.size 52 i0 (.agg #[.bool false, .slice none 0 0, .int .i64 0]) 3 Tryd.underlying31 hi0 hz0 hz1 .i64 .i64 _ _ n rfl rfl rfl rfl hb0 hm0 (Nat.le_refl _) ?_; intro w1 hown hgrow)
  have F0 := hide (made_fill (lo := 0) (ds := ds) hown)
  have k0 : Kept 0 0 w w1 := ⟨hgrow.os, hgrow.tape, hgrow.output, hgrow.size, fun i hi _ => hgrow.block i hi (by simp)⟩
  clear hown hgrow hi0 hz0 hz1 hz2 hb0 hm0
  go_loopw [4] (fun s4 wx => ∃ j : Nat, s4 = .int .i64 j ∧ j ≤ n ∧ Hid (Fill 0 w.heap.size n ds j wx) ∧ Kept 0 0 w wx) (fun s4 _ => n - (intOf s4).toNat)
  case atStart => exact ⟨0, rfl, Nat.zero_le _, F0, k0⟩
  case round =>
    clear F0 k0
    obtain ⟨j, rfl, hj, hF, k⟩ := hrel
    by_cases hlt : j < n
    · obtain ⟨g, off, ln, rfl, -, -, -, b, kk, c0, c1, c2, hln, rr⟩ := ((unhide R).kept k (by omega)).at (i := j) (by rw [← unhide HN]; exact hlt)
      obtain ⟨s0, hs0'⟩ : ∃ q, q = (ds.getD j de0).1 := ⟨_, rfl⟩
      obtain ⟨y0, hy0⟩ : ∃ q, q = (ds.getD j de0).2.2 := ⟨_, rfl⟩
      obtain ⟨z0, hz0⟩ : ∃ q, q = (ds.getD j de0).2.1 := ⟨_, rfl⟩
      have hL := unhide HL j hlt
      rw [← hs0'] at c0
      rw [← hy0] at c2
      rw [← hz0] at hln rr hL
      have hE : Hid (ds.getD j de0 = (s0, z0, y0)) := by show _ = _; rw [hs0', hy0, hz0]
      clear hs0' hy0 hz0
      have hto := toDy_any s0 y0 wr hL rr
      clear hln rr hL
      go_wp2_with fail
      refine hto.mono ?_
      rintro e w2 ⟨v2, rfl, r2, k2⟩
      obtain ⟨a2, d2, hv2⟩ := Row.form' r2
      subst hv2
      have F2 := hide ((unhide hF).step hlt k2 r2 (unhide hE))
      have hFc := (unhide hF).cell
      have hFl := (unhide hF).loose
      have hFs := (unhide hF).lt
      obtain ⟨x0, hx0⟩ := hFc (j * 3) (by omega)
      obtain ⟨x1, hx1⟩ := hFc (j * 3 + 1) (by omega)
      obtain ⟨x2, hx2⟩ := hFc (j * 3 + 2) (by omega)
      have f0 := k2.loose0 (a := ⟨w.heap.size, j * 3, none⟩) hFs (hFl (j * 3) (by omega))
      have f1 := k2.loose0 (a := ⟨w.heap.size, j * 3 + 1, none⟩) hFs (hFl (j * 3 + 1) (by omega))
      have f2 := k2.loose0 (a := ⟨w.heap.size, j * 3 + 2, none⟩) hFs (hFl (j * 3 + 2) (by omega))
      replace hx0 := k2.cell0 hx0
      replace hx1 := k2.cell0 hx1
      replace hx2 := k2.cell0 hx2
      have K2 := hide (((((k.trans k2).wide ((Kept.refl w.heap.size (w.heap.size + 1) w2).setCell (p := ⟨w.heap.size, j * 3, none⟩) (Nat.le_refl _) (Nat.lt_succ_self _) (.bool s0)) (Nat.le_refl _))).wide ((Kept.refl w.heap.size (w.heap.size + 1) _).setCell (p := ⟨w.heap.size, j * 3 + 1, none⟩) (Nat.le_refl _) (Nat.lt_succ_self _) (.slice a2 z0.length d2)) (Nat.le_refl _)).wide ((Kept.refl w.heap.size (w.heap.size + 1) _).setCell (p := ⟨w.heap.size, j * 3 + 2, none⟩) (Nat.le_refl _) (Nat.lt_succ_self _) (.int .i64 y0)) (Nat.le_refl _))
      clear hF hFc hFl hto k k2 r2 hFs c0 c1 c2
      go_wp2
      go_roundw
      case rel => exact ⟨j + 1, by simp, hlt, F2, unhide K2⟩
      case measure => simp [intOf]; omega
    · have hjn : j = n := by omega
      subst hjn
      have D := hide ((unhide hF).done (unhide HN) (unhide HM))
      clear hF
      go_wp2
      go_ret
      exact ⟨_, rfl, unhide D, k⟩

end Go.Proofs.YthahoabkehcgbaaDoor

namespace Go.Proofs.YthahoabkehcgbaaDoor
open Go.RowKit
set_option linter.unusedVariables false
set_option maxRecDepth 8000
set_option linter.unusedSimpArgs false

set_option maxHeartbeats 8000000 in
theorem eqDyS_same {l1 h1 l2 h2 : Nat} {v1 v2 : Value} {ds : List DE} (w : World) (r1 : Dys l1 h1 w v1 ds) (r2 : Dys l2 h2 w v2 ds) :
    Calls Tryd.prog 23 #[v1, v2] w fun e w' => e = .returned (.bool true) ∧ Kept 0 0 w w' := by
  obtain ⟨a1, d1, rfl, hc1, hc2⟩ := r1.form
  obtain ⟨a2, d2, rfl, -, -⟩ := r2.form
  obtain ⟨n, hnn⟩ : ∃ n, n = ds.length := ⟨_, rfl⟩
  have hm : ds.length ≤ 9223372036854775807 := by unfold maxLen at hc2; omega
  rw [← hnn] at r1 r2 ⊢ hm
  have HN := hide hnn
  have R1 := hide r1
  have R2 := hide r2
  clear r1 r2 hnn hc1 hc2
  go_enter Tryd.func23, Tryd.ntmps23
  go_wp2
  go_loopw [5] (fun s5 wx => ∃ j : Nat, s5 = .int .i64 j ∧ j ≤ n ∧ Kept 0 0 w wx) (fun s5 _ => n - (intOf s5).toNat)
  case atStart => exact ⟨0, rfl, Nat.zero_le _, Kept.refl _ _ _⟩
  case round =>
    obtain ⟨j, rfl, hj, k⟩ := hrel
    by_cases hlt : j < n
    · have kd := k.drew
      obtain ⟨g1, o1, n1, rfl, -, -, -, b1, k1, c10, c11, c12, hn1, rr1⟩ := ((unhide R1).kept kd (by omega)).at (i := j) (by rw [← unhide HN]; exact hlt)
      obtain ⟨g2, o2, n2, rfl, -, -, -, b2, k2, c20, c21, c22, hn2, rr2⟩ := ((unhide R2).kept kd (by omega)).at (i := j) (by rw [← unhide HN]; exact hlt)
      obtain ⟨s0, hs0'⟩ : ∃ q, q = (ds.getD j de0).1 := ⟨_, rfl⟩
      obtain ⟨y0, hy0⟩ : ∃ q, q = (ds.getD j de0).2.2 := ⟨_, rfl⟩
      obtain ⟨z0, hz0⟩ : ∃ q, q = (ds.getD j de0).2.1 := ⟨_, rfl⟩
      rw [← hs0'] at c10 c20
      rw [← hy0] at c12 c22
      rw [← hz0] at hn1 hn2 rr1 rr2
      clear hs0' hy0 hz0 hn1 hn2
      go_wp2_with fail
      refine wp_region_held_drew (S := (fun w' => w'.cell? ⟨g1, o1 + j * 3, none⟩ = some (.bool s0) ∧ w'.cell? ⟨g1, o1 + j * 3 + 1, none⟩ = some (.slice b1 n1 k1) ∧ w'.cell? ⟨g1, o1 + j * 3 + 2, none⟩ = some (.int .i64 y0) ∧ w'.cell? ⟨g2, o2 + j * 3, none⟩ = some (.bool s0) ∧ w'.cell? ⟨g2, o2 + j * 3 + 1, none⟩ = some (.slice b2 n2 k2) ∧ w'.cell? ⟨g2, o2 + j * 3 + 2, none⟩ = some (.int .i64 y0))) (by kernel_rfl) ?_ (fun hHeld => ?_)
      · exact ⟨c10, c11, c12, c20, c21, c22⟩
      refine wpAnyH_take (i := 0) (oi := _) (v := .slice (some ⟨g1, o1, none⟩) n d1) rfl (by kernel_rfl) (by kernel_rfl) (by kernel_rfl) (fun _ _ _ h => h) (Or.inl ⟨by rfl, ?_⟩) hHeld ?_
      · intro wq hSw
        try dsimp only at hSw
        go_simp
      try simp only [Act.put, List.getElem_toArray, List.getElem_cons_succ, List.getElem_cons_zero, List.setIfInBounds_toArray, List.set_cons_zero, List.set_cons_succ]
      refine wpAnyH_take (i := 1) (oi := _) (v := .int .i64 (j : Int)) rfl (by kernel_rfl) (by kernel_rfl) (by kernel_rfl) (fun _ _ _ h => h) (Or.inl ⟨by rfl, ?_⟩) hHeld ?_
      · intro wq hSw
        try dsimp only at hSw
        go_simp
      try simp only [Act.put, List.getElem_toArray, List.getElem_cons_succ, List.getElem_cons_zero, List.setIfInBounds_toArray, List.set_cons_zero, List.set_cons_succ]
      refine wpAnyH_take (i := 2) (oi := _) (v := .pointer (some ⟨g1, o1 + j * 3, none⟩)) rfl (by kernel_rfl) (by kernel_rfl) (by kernel_rfl) (fun _ _ _ h => h) (Or.inl ⟨by rfl, ?_⟩) hHeld ?_
      · intro wq hSw
        try dsimp only at hSw
        go_simp
      try simp only [Act.put, List.getElem_toArray, List.getElem_cons_succ, List.getElem_cons_zero, List.setIfInBounds_toArray, List.set_cons_zero, List.set_cons_succ]
      refine wpAnyH_take (i := 3) (oi := _) (v := .agg #[.bool s0, .slice b1 n1 k1, .int .i64 y0]) rfl (by kernel_rfl) (by kernel_rfl) (by kernel_rfl) (fun _ _ _ h => h) (Or.inl ⟨by rfl, ?_⟩) hHeld ?_
      · intro wq hSw
        try dsimp only at hSw
        go_simp
      try simp only [Act.put, List.getElem_toArray, List.getElem_cons_succ, List.getElem_cons_zero, List.setIfInBounds_toArray, List.set_cons_zero, List.set_cons_succ]
      refine wpAnyH_take (i := 4) (oi := _) (v := .slice (some ⟨g2, o2, none⟩) n d2) rfl (by kernel_rfl) (by kernel_rfl) (by kernel_rfl) (fun _ _ _ h => h) (Or.inl ⟨by rfl, ?_⟩) hHeld ?_
      · intro wq hSw
        try dsimp only at hSw
        go_simp
      try simp only [Act.put, List.getElem_toArray, List.getElem_cons_succ, List.getElem_cons_zero, List.setIfInBounds_toArray, List.set_cons_zero, List.set_cons_succ]
      refine wpAnyH_take (i := 5) (oi := _) (v := .int .i64 (j : Int)) rfl (by kernel_rfl) (by kernel_rfl) (by kernel_rfl) (fun _ _ _ h => h) (Or.inl ⟨by rfl, ?_⟩) hHeld ?_
      · intro wq hSw
        try dsimp only at hSw
        go_simp
      try simp only [Act.put, List.getElem_toArray, List.getElem_cons_succ, List.getElem_cons_zero, List.setIfInBounds_toArray, List.set_cons_zero, List.set_cons_succ]
      refine wpAnyH_take (i := 6) (oi := _) (v := .pointer (some ⟨g2, o2 + j * 3, none⟩)) rfl (by kernel_rfl) (by kernel_rfl) (by kernel_rfl) (fun _ _ _ h => h) (Or.inl ⟨by rfl, ?_⟩) hHeld ?_
      · intro wq hSw
        try dsimp only at hSw
        go_simp
      try simp only [Act.put, List.getElem_toArray, List.getElem_cons_succ, List.getElem_cons_zero, List.setIfInBounds_toArray, List.set_cons_zero, List.set_cons_succ]
      refine wpAnyH_take (i := 7) (oi := _) (v := .agg #[.bool s0, .slice b2 n2 k2, .int .i64 y0]) rfl (by kernel_rfl) (by kernel_rfl) (by kernel_rfl) (fun _ _ _ h => h) (Or.inl ⟨by rfl, ?_⟩) hHeld ?_
      · intro wq hSw
        try dsimp only at hSw
        go_simp
      try simp only [Act.put, List.getElem_toArray, List.getElem_cons_succ, List.getElem_cons_zero, List.setIfInBounds_toArray, List.set_cons_zero, List.set_cons_succ]
      refine wpAnyH_ready (rs := [8]) (by kernel_rfl) (by simp) ?_
      refine AllReadyH.cons rfl (fun KK hK => ?_) AllReadyH.nil
      simp only [List.getElem_toArray, List.getElem_cons_succ, List.getElem_cons_zero]
      rw [if_pos (by rfl)]
      refine wps2 42 (.tmp 20) (.tmp 24) _ rfl in_eqD (.agg #[.bool s0, .slice b1 n1 k1, .int .i64 y0]) (.agg #[.bool s0, .slice b2 n2 k2, .int .i64 y0]) rfl rfl (eqDy_same s0 y0 _ rr1 rr2) ?_
      rintro e w3 ⟨rfl, k3⟩
      refine ⟨_, rfl, ?_⟩
      replace c10 := k3.cell0 c10
      replace c11 := k3.cell0 c11
      replace c12 := k3.cell0 c12
      replace c20 := k3.cell0 c20
      replace c21 := k3.cell0 c21
      replace c22 := k3.cell0 c22
      have K3 := hide (kd.trans k3)
      clear k3 rr1 rr2 k kd
      clear hHeld
      refine hK.out _ _ ?_ (fun hHeld => ?_)
      · exact ⟨c10, c11, c12, c20, c21, c22⟩
      clear hK KK
      try simp only [Act.put, List.getElem_toArray, List.getElem_cons_succ, List.getElem_cons_zero, List.setIfInBounds_toArray, List.set_cons_zero, List.set_cons_succ]
      refine wpAnyH_take (i := 9) (oi := _) (v := .bool false) rfl (by kernel_rfl) (by kernel_rfl) (by kernel_rfl) (fun _ _ _ h => h) (Or.inl ⟨by rfl, ?_⟩) hHeld ?_
      · intro wq hSw
        try dsimp only at hSw
        go_simp
      try simp only [Act.put, List.getElem_toArray, List.getElem_cons_succ, List.getElem_cons_zero, List.setIfInBounds_toArray, List.set_cons_zero, List.set_cons_succ]
      refine wpAnyH_done (by kernel_rfl) ?_ _
      clear hHeld c10 c11 c12 c20 c21 c22
      go_wp2
      go_roundw
      case rel => exact ⟨j + 1, by simp, hlt, unhide K3⟩
      case measure => simp [intOf]; omega
    · have hjn : j = n := by omega
      subst hjn
      go_wp2
      go_ret
      exact ⟨rfl, k⟩

set_option maxHeartbeats 2000000 in
theorem szMat_any {lo hi : Nat} {v : Value} {ds : List DE} (m : Int) (w : World) (s : Int) (hs0 : 0 ≤ s) (hs1 : s ≤ 1048576) (r : Dys lo hi w v ds) :
    Calls Tryd.prog 4 #[.agg #[.int .i64 m, v], .int .i64 s] w fun e w' => e = .returned (.int .i64 (if szT ds ≤ s then s - szT ds else -1)) ∧ Kept 0 0 w w' := by
  have k0 := (Kept.refl 0 0 w).alloc (.cells #[.int .i64 m, v] 24)
  have r0 := r.kept k0 (by omega)
  have c1 : (w.alloc (.cells #[.int .i64 m, v] 24)).cell? ⟨w.heap.size, 1, none⟩ = some v := new_cell2 _ _ _ _ _ _ rfl rfl
  obtain ⟨a, c, rfl, -, -⟩ := r.form
  clear r
  obtain ⟨A, hA⟩ : ∃ A : Int, A = if szT ds ≤ s then s - szT ds else -1 := ⟨_, rfl⟩
  have hsz := szDyS_any _ s hs0 hs1 r0
  rw [← hA] at hsz ⊢
  have hA' : A < 0 → A = -1 := by intro h; rw [hA] at h ⊢; split at h <;> first | omega | rfl
  have HA := hide hA'
  clear hA hA'
  go_enter Tryd.func4, Tryd.ntmps4
  go_wp2_with fail
  refine hsz.mono ?_
  rintro e w1 ⟨rfl, k1⟩
  have K1 := hide (k0.trans k1)
  clear hsz k0 k1 r0
  by_cases h : A < 0
  · go_wp2
    go_ret
    exact ⟨by rw [unhide HA h]; rfl, unhide K1⟩
  · go_wp2
    go_ret
    exact ⟨rfl, unhide K1⟩

set_option maxHeartbeats 2000000 in
theorem eqMat_same {l1 h1 l2 h2 : Nat} {v1 v2 : Value} {ds : List DE} (m : Int) (w : World) (r1 : Dys l1 h1 w v1 ds) (r2 : Dys l2 h2 w v2 ds) :
    Calls Tryd.prog 9 #[.agg #[.int .i64 m, v1], .agg #[.int .i64 m, v2]] w fun e w' => e = .returned (.bool true) ∧ Kept 0 0 w w' := by
  have k0 := ((Kept.refl 0 0 w).alloc (.cells #[.int .i64 m, v1] 33)).alloc (.cells #[.int .i64 m, v2] 33)
  have q1 := r1.kept k0 (by omega)
  have q2 := r2.kept k0 (by omega)
  have c10 : ((w.alloc (.cells #[.int .i64 m, v1] 33)).alloc (.cells #[.int .i64 m, v2] 33)).cell? ⟨w.heap.size, 0, none⟩ = some (.int .i64 m) := old_cell _ (new_cell2 _ _ _ _ _ _ (by simp) rfl)
  have c11 : ((w.alloc (.cells #[.int .i64 m, v1] 33)).alloc (.cells #[.int .i64 m, v2] 33)).cell? ⟨w.heap.size, 1, none⟩ = some v1 := old_cell _ (new_cell2 _ _ _ _ _ _ (by simp) rfl)
  have c20 : ((w.alloc (.cells #[.int .i64 m, v1] 33)).alloc (.cells #[.int .i64 m, v2] 33)).cell? ⟨w.heap.size + 1, 0, none⟩ = some (.int .i64 m) := new_cell2 _ _ _ _ _ _ (by simp) rfl
  have c21 : ((w.alloc (.cells #[.int .i64 m, v1] 33)).alloc (.cells #[.int .i64 m, v2] 33)).cell? ⟨w.heap.size + 1, 1, none⟩ = some v2 := new_cell2 _ _ _ _ _ _ (by simp) rfl
  obtain ⟨a1, d1, rfl, -, -⟩ := r1.form
  obtain ⟨a2, d2, rfl, -, -⟩ := r2.form
  clear r1 r2
  have he := eqDyS_same _ q1 q2
  go_enter Tryd.func9, Tryd.ntmps9
  go_wp2_with fail
  refine he.mono ?_
  rintro e w1 ⟨rfl, k1⟩
  have K1 := hide (k0.trans k1)
  clear he k0 k1 q1 q2
  go_wp2
  go_ret
  exact ⟨rfl, unhide K1⟩

set_option maxHeartbeats 4000000 in
theorem toMat_any {lo hi : Nat} {v : Value} {ds : List DE} (m : Int) (w : World) (hn : ds.length ≤ 1048576) (hl : ∀ i, i < ds.length → (ds.getD i de0).2.1.length ≤ 1099511627776) (r : Dys lo hi w v ds) :
    Calls Tryd.prog 6 #[.agg #[.int .i64 m, v]] w fun e w' => ∃ v', e = .returned (.agg #[.int .i64 m, v']) ∧ DysO w.heap.size w'.heap.size w' v' ds ∧ Kept 0 0 w w' := by
  obtain ⟨W, hW⟩ : ∃ W, W = ((w.alloc (.cells #[.int .i64 m, v] 24)).alloc (.cells #[.int .i64 0, .slice none 0 0] 33)).alloc (.cells #[.int .i64 m, .slice none 0 0] 33) := ⟨_, rfl⟩
  have k0 : Kept 0 0 w W := by rw [hW]; exact (((Kept.refl 0 0 w).alloc _).alloc _).alloc _
  have r0 := r.kept k0 (by omega)
  have A0 : W.cell? ⟨w.heap.size, 0, none⟩ = some (.int .i64 m) := by rw [hW]; exact old_cell _ (old_cell _ (new_cell2 _ _ _ _ _ _ (by simp) rfl))
  have A1 : W.cell? ⟨w.heap.size, 1, none⟩ = some v := by rw [hW]; exact old_cell _ (old_cell _ (new_cell2 _ _ _ _ _ _ (by simp) rfl))
  have R0 : W.cell? ⟨w.heap.size + 1, 0, none⟩ = some (.int .i64 0) := by rw [hW]; exact old_cell _ (new_cell2 _ _ _ _ _ _ (by simp) rfl)
  have R1 : W.cell? ⟨w.heap.size + 1, 1, none⟩ = some (.slice none 0 0) := by rw [hW]; exact old_cell _ (new_cell2 _ _ _ _ _ _ (by simp) rfl)
  have Rf0 : W.frozen? ⟨w.heap.size + 1, 0, none⟩ = false := by rw [hW]; exact ((Kept.refl 0 0 _).alloc _).loose0 (by simp) (new_loose2 _ _ _ _ _ (by simp))
  have Rf1 : W.frozen? ⟨w.heap.size + 1, 1, none⟩ = false := by rw [hW]; exact ((Kept.refl 0 0 _).alloc _).loose0 (by simp) (new_loose2 _ _ _ _ _ (by simp))
  have O0 : W.cell? ⟨w.heap.size + 1 + 1, 0, none⟩ = some (.int .i64 m) := by rw [hW]; exact new_cell2 _ _ _ _ _ _ (by simp) rfl
  have O1 : W.cell? ⟨w.heap.size + 1 + 1, 1, none⟩ = some (.slice none 0 0) := by rw [hW]; exact new_cell2 _ _ _ _ _ _ (by simp) rfl
  have Of0 : W.frozen? ⟨w.heap.size + 1 + 1, 0, none⟩ = false := by rw [hW]; exact new_loose2 _ _ _ _ _ (by simp)
  have Of1 : W.frozen? ⟨w.heap.size + 1 + 1, 1, none⟩ = false := by rw [hW]; exact new_loose2 _ _ _ _ _ (by simp)
  have s0 : W.heap.size = w.heap.size + 3 := by rw [hW]; simp
  obtain ⟨a, c, rfl, -, -⟩ := r.form
  clear r
  have ht := toDyS_any W hn hl r0
  have S0 := hide s0
  have K0 := hide k0
  rw [hW] at ht A0 A1 R0 R1 Rf0 Rf1 O0 O1 Of0 Of1
  clear hn hl r0 s0 k0
  go_enter Tryd.func6, Tryd.ntmps6
  go_wp2_with fail
  rw [← hW] at ht A0 A1 R0 R1 Rf0 Rf1 O0 O1 Of0 Of1 ⊢
  clear hW
  refine ht.mono ?_
  rintro e w1 ⟨v1, rfl, d1, k1⟩
  obtain ⟨a1, c1, hv1, -, -⟩ := d1.read.form
  subst hv1
  have R0' := k1.cell0 R0
  have R1' := k1.cell0 R1
  have O0' := k1.cell0 O0
  have O1' := k1.cell0 O1
  have Rf0' := k1.loose0 (World.block_lt_of_cell? _ _ R0) Rf0
  have Rf1' := k1.loose0 (World.block_lt_of_cell? _ _ R1) Rf1
  have Of0' := k1.loose0 (World.block_lt_of_cell? _ _ O0) Of0
  have Of1' := k1.loose0 (World.block_lt_of_cell? _ _ O1) Of1
  have s0 := unhide S0
  have kA : Kept (w.heap.size + 1 + 1) (w.heap.size + 1 + 1 + 1) w1 (w1.setCell ⟨w.heap.size + 1 + 1, 1, none⟩ (.slice a1 ds.length c1)) := (Kept.refl _ _ _).setCell (p := ⟨w.heap.size + 1 + 1, 1, none⟩) (Nat.le_refl _) (Nat.lt_succ_self _) _
  have kB : Kept (w.heap.size + 1) (w.heap.size + 1 + 1) (w1.setCell ⟨w.heap.size + 1 + 1, 1, none⟩ (.slice a1 ds.length c1)) (((w1.setCell ⟨w.heap.size + 1 + 1, 1, none⟩ (.slice a1 ds.length c1)).setCell ⟨w.heap.size + 1, 0, none⟩ (.int .i64 m)).setCell ⟨w.heap.size + 1, 1, none⟩ (.slice a1 ds.length c1)) := ((Kept.refl _ _ _).setCell (p := ⟨w.heap.size + 1, 0, none⟩) (Nat.le_refl _) (Nat.lt_succ_self _) _).setCell (p := ⟨w.heap.size + 1, 1, none⟩) (Nat.le_refl _) (Nat.lt_succ_self _) _
  have K2 := hide ((((unhide K0).trans k1).wide kA (by omega)).wide kB (by omega))
  have D2 := hide (((d1.kept kA (by omega)).kept kB (by omega)).wider (lo' := w.heap.size) (hi' := w1.heap.size) (by omega) (Nat.le_refl _))
  have hs2 : (((w1.setCell ⟨w.heap.size + 1 + 1, 1, none⟩ (.slice a1 ds.length c1)).setCell ⟨w.heap.size + 1, 0, none⟩ (.int .i64 m)).setCell ⟨w.heap.size + 1, 1, none⟩ (.slice a1 ds.length c1)).heap.size = w1.heap.size := by rw [size_set, size_set, size_set]
  have HS2 := hide hs2
  have E0 : (((w1.setCell ⟨w.heap.size + 1 + 1, 1, none⟩ (.slice a1 ds.length c1)).setCell ⟨w.heap.size + 1, 0, none⟩ (.int .i64 m)).setCell ⟨w.heap.size + 1, 1, none⟩ (.slice a1 ds.length c1)).cell? ⟨w.heap.size + 1, 0, none⟩ = some (.int .i64 m) :=
    cell_off _ _ _ _ _ _ (cell_on _ _ _ _ _ (cell_aside _ (by dsimp only; omega) R0')) (by omega)
  have E1 : (((w1.setCell ⟨w.heap.size + 1 + 1, 1, none⟩ (.slice a1 ds.length c1)).setCell ⟨w.heap.size + 1, 0, none⟩ (.int .i64 m)).setCell ⟨w.heap.size + 1, 1, none⟩ (.slice a1 ds.length c1)).cell? ⟨w.heap.size + 1, 1, none⟩ = some (.slice a1 ds.length c1) :=
    cell_on _ _ _ _ _ (cell_off _ _ _ _ _ _ (cell_aside _ (by dsimp only; omega) R1') (by omega))
  clear ht d1 k1 s0 kA kB hs2 R0 R1 O0 O1 Rf0 Rf1 Of0 Of1 A0 A1
  go_wp2
  exact bodyPost_ret (v := .agg #[.int .i64 m, .slice a1 ds.length c1]) (by simp [results, Tryd.results6, go_sem, E0, E1]) rfl ⟨_, rfl, by rw [unhide HS2]; exact unhide D2, unhide K2⟩

theorem in_toM : ∀ (w : World) (args : Array Value), (callFunc 6 args).run Tryd.prog w = .ok (.enter 6 args) w := enters Tryd.func6 (by decide) (fun h => by cases h)

theorem in_eqM : ∀ (w : World) (args : Array Value), (callFunc 9 args).run Tryd.prog w = .ok (.enter 9 args) w := enters Tryd.func9 (by decide) (fun h => by cases h)

end Go.Proofs.YthahoabkehcgbaaDoor
