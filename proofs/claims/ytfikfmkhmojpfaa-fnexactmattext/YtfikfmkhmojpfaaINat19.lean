/-
  A number that is worked on, whose list may begin behind its block's first cell: at, trim, told.
-/
import Derived.Test.YtfikfmkhmojpfaaBF
import Derived.Test.YtfikfmkhmojpfaaShrNum
namespace Go.Proofs.Ytfikfmkhmojpfaa
open Go.RowKit
set_option linter.unusedVariables false
set_option maxRecDepth 8000

/-- The cell g holds the list v, which may be written, with the limbs zs. -/
structure Work (b : Nat) (w : World) (g : Nat) (v : Value) (zs : List Int) : Prop where
  cell : w.cell? ⟨g, 0, none⟩ = some v
  loose : w.frozen? ⟨g, 0, none⟩ = false
  row : Row .i64 true b w.heap.size w v zs
  apart : zs ≠ [] → v.ownBlock ≠ some g

theorem Row.aside {k : IntKind} {bw : Bool} {lo hi : Nat} {w : World} {v : Value} {zs : List Int} (r : Row k bw lo hi w v zs) {P o : Nat} (hne : zs ≠ [] → v.ownBlock ≠ some P) (u : Value) : Row k bw lo hi (w.setCell ⟨P, o, none⟩ u) v zs := by
  obtain ⟨a, c, rfl, h1, h2, h3⟩ := r
  refine ⟨a, c, rfl, h1, h2, fun hz => ?_⟩
  obtain ⟨g, off, rfl, hl, hh, hs, hc, hf⟩ := h3 hz
  have hn : g ≠ P := fun e => hne hz (by simp [Value.ownBlock, e])
  refine ⟨g, off, rfl, hl, hh, by rw [size_set]; exact hs, fun i hi' => ?_, fun e i hi' => by rw [frozen_set]; exact hf e i hi'⟩
  rw [cell_far _ _ _ _ _ (by exact hn)]
  exact hc i hi'
theorem Row.front {k : IntKind} {bw : Bool} {lo hi : Nat} {w : World} {a : Option Addr} {n c : Nat} {zs : List Int} (r : Row k bw lo hi w (.slice a n c) zs) (j : Nat) (hj : j ≤ n) : Row k bw lo hi w (.slice a j c) (zs.take j) := by
  obtain ⟨a', c', e, h1, h2, h3⟩ := r
  cases e
  have hl : (zs.take j).length = j := by simp; omega
  refine ⟨a, c, by rw [hl], by omega, h2, fun hz => ?_⟩
  obtain ⟨g, off, rfl, hlo, hh, hs, hc, hf⟩ := h3 (by intro e; subst e; simp at hz)
  refine ⟨g, off, rfl, hlo, hh, hs, fun i hi' => ?_, fun e i hi' => hf e i (by omega)⟩
  rw [hc i (by omega)]
  simp only [List.getD, List.getElem?_take]
  rw [if_pos (by omega)]

theorem Num.work {b g : Nat} {w : World} {v : Value} {zs : List Int} (h : Num b w g v zs) : Work b w g v zs := ⟨h.cell, h.loose, h.row, fun _ => h.apart⟩
theorem Work.lt {b g : Nat} {w : World} {v : Value} {zs : List Int} (h : Work b w g v zs) : g < w.heap.size := World.block_lt_of_cell? _ ⟨g, 0, none⟩ h.cell
theorem Work.form {b g : Nat} {w : World} {v : Value} {zs : List Int} (h : Work b w g v zs) : ∃ a c, v = .slice a zs.length c := Row.form' h.row
theorem Work.kept {b g : Nat} {w w' : World} {v : Value} {zs : List Int} (h : Work b w g v zs) (k : Kept 0 0 w w') : Work b w' g v zs :=
  ⟨k.cell0 h.cell, k.loose0 h.lt h.loose, (h.row.kept k (by omega)).tight, h.apart⟩
theorem Work.at {b g : Nat} {w : World} {v : Value} {zs : List Int} (h : Work b w g v zs) (j : Nat) (hj : j < zs.length) : ∃ g1 off c, v = .slice (some ⟨g1, off, none⟩) zs.length c ∧ zs.length ≤ c ∧ w.cell? ⟨g1, off + j, none⟩ = some (.int .i64 (zs.getD j 0)) ∧ w.frozen? ⟨g1, off + j, none⟩ = false ∧ g1 ≠ g ∧ b ≤ g1 := by
  have ha := h.apart
  obtain ⟨a, c, rfl, h1, h2, h3⟩ := h.row
  have hz : zs ≠ [] := by intro e; subst e; simp at hj
  obtain ⟨g1, off, rfl, hl, hh, hs, hc, hf⟩ := h3 hz
  exact ⟨g1, off, c, rfl, h1, hc j hj, hf rfl j hj, fun e => ha hz (by simp [Value.ownBlock, e]), hl⟩
theorem Work.put {b g g1 off n c : Nat} {w : World} {zs : List Int} (h : Work b w g (.slice (some ⟨g1, off, none⟩) n c) zs) (j : Nat) (hn : n = zs.length) (hj : j < n) (z : Int) : Work b (w.setCell ⟨g1, off + j, none⟩ (.int .i64 z)) g (.slice (some ⟨g1, off, none⟩) n c) (zs.set j z) := by
  have hz : zs ≠ [] := by intro e; subst e; simp at hn; omega
  have hne : g1 ≠ g := fun e => h.apart hz (by simp [Value.ownBlock, e])
  have := h.row.set j (by omega) z
  exact ⟨by rw [cell_far _ _ _ _ _ (by exact fun e => hne e.symm)]; exact h.cell, by rw [frozen_set]; exact h.loose, by rw [size_set]; exact this, fun _ => by simp [Value.ownBlock, hne]⟩
theorem Work.cut {b g n c : Nat} {a : Option Addr} {w : World} {zs : List Int} (h : Work b w g (.slice a n c) zs) (j : Nat) (hj : j ≤ n) : Work b (w.setCell ⟨g, 0, none⟩ (.slice a j c)) g (.slice a j c) (zs.take j) := by
  have hap : zs.take j ≠ [] → (Value.slice a j c).ownBlock ≠ some g := fun hz e => h.apart (by intro e; subst e; simp at hz) (by cases a <;> exact e)
  exact ⟨cell_on _ _ _ _ _ h.cell, by rw [frozen_set]; exact h.loose, by rw [size_set]; exact (h.row.front j hj).aside hap _, hap⟩

set_option maxHeartbeats 4000000 in
theorem trim_work {b g : Nat} {v : Value} {zs : List Int} (w : World) (h : Work b w g v zs) (hl : Lim zs) :
    Calls Try.prog 107 #[.pointer (some ⟨g, 0, none⟩)] w fun e w' => (∃ r, e = .returned r) ∧ ∃ u, Work b w' g u (limbs (val zs).toNat) ∧ Mod (fun i => i = g) w w' := by
  have hm := h.row.len
  unfold maxLen at hm
  have HL := hide hl
  clear hl
  go_enter Try.func107, Try.ntmps107
  go_wp2
  go_loopw [] (fun wr => ∃ (m : Nat) (u : Value), m ≤ zs.length ∧ Hid (∀ i, m ≤ i → i < zs.length → zs.getD i 0 = 0) ∧ Work b wr g u (zs.take m) ∧ Mod (fun i => i = g) w wr) (fun wr => lenAt wr g)
  case atStart => exact ⟨zs.length, v, Nat.le_refl _, hide (fun i h1 h2 => by omega), by rw [List.take_length]; exact h, Mod.refl _ _⟩
  case round =>
    clear h
    obtain ⟨m, u, hmz, hz, n, hmod⟩ := hrel
    have hlen : (zs.take m).length = m := by simp; omega
    have hlo := n.loose
    by_cases h0 : m = 0
    · subst h0
      obtain ⟨a1, c1, hv⟩ := n.form
      rw [hlen] at hv
      subst hv
      have hce := n.cell
      have e1 := take_limbs zs (unhide HL) 0 (by omega) (unhide hz) (.inl rfl)
      rw [e1] at n
      have NN := hide n
      have MM := hide hmod
      have hd : decide ((0 : Int) < ((0 : Nat) : Int)) = false := rfl
      clear e1 n hmod hlen hz
      go_wp2
      go_quiet (fail)
      go_wp2
      exact bodyPost_end (v := .tuple #[]) (by simp [results, Try.results107, go_sem]) rfl ⟨⟨_, rfl⟩, _, (unhide NN).kept ((Kept.refl 0 0 _).drewN _), (unhide MM).drewN _⟩
    · obtain ⟨gb, off, cap, hv, hle, hxz, hfz, hgb, -⟩ := n.at (m - 1) (by omega)
      rw [hlen] at hv hle
      subst hv
      have hce := n.cell
      have hz1 : (zs.take m).getD (m - 1) 0 = zs.getD (m - 1) 0 := by
        simp only [List.getD, List.getElem?_take]
        rw [if_pos (by omega)]
      rw [hz1] at hxz
      have hpos : (0 : Int) < (m : Int) := by omega
      have hposN : 0 < m := by omega
      have h1m : (1 : Int) ≤ (m : Int) := by omega
      have hcap : (m : Int) - 1 ≤ (cap : Int) := by omega
      have ew : IntKind.i64.wrap ((m : Int) - 1) = (m : Int) - 1 := wrap_small _ (by omega) (by omega)
      have et : ((m : Int) - 1).toNat = m - 1 := by omega
      have hi0 : (0 : Int) ≤ (m : Int) - 1 := by omega
      have hi1 : (m : Int) - 1 < (m : Int) := by omega
      have hz1' : ∀ z, zs.getD (m - 1) 0 = z → (z = 0 → ∀ i, m - 1 ≤ i → i < zs.length → zs.getD i 0 = 0) ∧ (z ≠ 0 → zs.take m = limbs (val zs).toNat) := by
        intro z e
        refine ⟨fun e0 i h1 h2 => ?_, fun e0 => take_limbs zs (unhide HL) m (by omega) (unhide hz) (.inr (by rw [e]; exact e0))⟩
        by_cases h3 : i = m - 1
        · rw [h3, e, e0]
        · exact unhide hz i (by omega) h2
      generalize zs.getD (m - 1) 0 = zl at *
      obtain ⟨hza, hzb⟩ := hz1' zl rfl
      clear hz1' hz
      by_cases hzz : zl = 0
      · subst hzz
        have HZ := hide (hza rfl)
        have NC := hide (fun k => (n.kept ((Kept.refl 0 0 _).drewN k)).cut (m - 1) (by omega))
        have MC := hide (fun k => (hmod.drewN k).set (p := ⟨g, 0, none⟩) (.inl rfl) (.slice (some ⟨gb, off, none⟩) (m - 1) cap))
        have e1 : (zs.take m).take (m - 1) = zs.take (m - 1) := by rw [List.take_take, Nat.min_eq_left (by omega)]
        have E1 := hide e1
        clear hza hzb n hmod hlen e1
        go_wp2
        go_quiet (fail)
        go_wp2
        go_region
        go_wp2
        go_roundw
        case rel => exact ⟨m - 1, .slice (some ⟨gb, off, none⟩) (m - 1) cap, by omega, HZ, by rw [← unhide E1]; exact unhide NC _, unhide MC _⟩
        case measure => rw [lenAt_of hce, lenAt_of (unhide NC _).cell]; omega
      · have e1 := hzb hzz
        rw [e1] at n
        have NN := hide n
        have MM := hide hmod
        have hb : (zl == 0) = false := beq_eq_false_iff_ne.2 hzz
        clear e1 n hmod hlen hza hzb
        go_wp2
        go_quiet (fail)
        go_wp2
        exact bodyPost_end (v := .tuple #[]) (by simp [results, Try.results107, go_sem]) rfl ⟨⟨_, rfl⟩, _, (unhide NN).kept ((Kept.refl 0 0 _).drewN _), (unhide MM).drewN _⟩

end Go.Proofs.Ytfikfmkhmojpfaa
