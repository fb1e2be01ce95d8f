/-
  The program's trim: noughts at the high end are cut off.
-/
import Derived.Test.YtbihbloknmjfjaaDoorINat11
import Derived.Deep.QuietTactic
import Derived.BigQuiet
import Derived.BigRegion
namespace Go.Proofs.YtbihbloknmjfjaaDoor
open Go.RowKit
set_option linter.unusedVariables false
set_option maxRecDepth 8000

theorem Num.cut {b g gb cap : Nat} {w : World} {zs : List Int} {n : Nat} (h : Num b w g (.slice (some ⟨gb, 0, none⟩) n cap) zs) (hn : n = zs.length) (j : Nat) (hj : j ≤ zs.length) :
    Num b (w.setCell ⟨g, 0, none⟩ (.slice (some ⟨gb, 0, none⟩) j cap)) g (.slice (some ⟨gb, 0, none⟩) j cap) (zs.take j) := by
  subst hn
  exact ⟨cell_on _ _ _ _ _ h.cell, by rw [frozen_set]; exact h.loose, own_apart (own_take h.own j hj) (p := ⟨g, 0, none⟩) (fun e => h.apart e) _, fun e => h.apart e⟩

/-- How long the list is that the cell g holds. -/
def lenAt (w : World) (g : Nat) : Nat := match w.cell? ⟨g, 0, none⟩ with
  | some (.slice _ n _) => n
  | _ => 0
theorem lenAt_of {w : World} {g : Nat} {a : Option Addr} {n c : Nat} (h : w.cell? ⟨g, 0, none⟩ = some (.slice a n c)) : lenAt w g = n := by unfold lenAt; rw [h]

set_option maxHeartbeats 4000000 in
theorem trim_impl {b g : Nat} {v : Value} {zs : List Int} (w : World) (h : Num b w g v zs) (hl : Lim zs) :
    Calls Tryd.prog 98 #[.pointer (some ⟨g, 0, none⟩)] w fun e w' => (∃ r, e = .returned r) ∧ ∃ u, Num b w' g u (limbs (val zs).toNat) ∧ u.ownBlock = v.ownBlock ∧ Mod (fun i => i = g) w w' := by
  have hm := h.row.len
  unfold maxLen at hm
  have HL := hide hl
  clear hl
  go_enter Tryd.func98, Tryd.ntmps98
  go_wp2
  go_loopw [] (fun wr => ∃ (m : Nat) (u : Value), m ≤ zs.length ∧ Hid (∀ i, m ≤ i → i < zs.length → zs.getD i 0 = 0) ∧ Num b wr g u (zs.take m) ∧ Hid (u.ownBlock = v.ownBlock) ∧ Mod (fun i => i = g) w wr) (fun wr => lenAt wr g)
  case atStart => exact ⟨zs.length, v, Nat.le_refl _, hide (fun i h1 h2 => by omega), by rw [List.take_length]; exact h, hide rfl, Mod.refl _ _⟩
  case round =>
    clear h
    obtain ⟨m, u, hmz, hz, n, ho, hmod⟩ := hrel
    have hlen : (zs.take m).length = m := by simp; omega
    have hlo := n.loose
    by_cases h0 : m = 0
    · subst h0
      obtain ⟨a1, c1, hv⟩ := n.form
      rw [hlen] at hv
      subst hv
      have hce := n.cell
      have e1 := take_limbs zs (unhide HL) 0 (by omega) (unhide hz) (.inl rfl)
      rw [e1] at n
      have NN := hide n
      have MM := hide hmod
      have hd : decide ((0 : Int) < ((0 : Nat) : Int)) = false := rfl
      clear e1 n hmod hlen hz
      go_wp2
      go_quiet (fail)
      go_wp2
      exact bodyPost_end (v := .tuple #[]) (by simp [results, Tryd.results98, go_sem]) rfl ⟨⟨_, rfl⟩, _, (unhide NN).kept ((Kept.refl 0 0 _).drewN _), unhide ho, (unhide MM).drewN _⟩
    · obtain ⟨gb, cap, hv, hxz, hfz, hgb⟩ := n.at (m - 1) (by omega)
      rw [hlen] at hv
      subst hv
      have hce := n.cell
      have hz1 : (zs.take m).getD (m - 1) 0 = zs.getD (m - 1) 0 := by
        simp only [List.getD, List.getElem?_take]
        rw [if_pos (by omega)]
      rw [hz1] at hxz
      have hpos : (0 : Int) < (m : Int) := by omega
      have hposN : 0 < m := by omega
      have h1m : (1 : Int) ≤ (m : Int) := by omega
      have hcap : (m : Int) - 1 ≤ (cap : Int) := by
        have h5 := n.own
        rw [hlen] at h5
        obtain ⟨g5, cap5, e5, -, h6, -⟩ := own_form h5 (by omega)
        cases e5
        omega
      have ew : IntKind.i64.wrap ((m : Int) - 1) = (m : Int) - 1 := wrap_small _ (by omega) (by omega)
      have et : ((m : Int) - 1).toNat = m - 1 := by omega
      have hi0 : (0 : Int) ≤ (m : Int) - 1 := by omega
      have hi1 : (m : Int) - 1 < (m : Int) := by omega
      have hz1' : ∀ z, zs.getD (m - 1) 0 = z → (z = 0 → ∀ i, m - 1 ≤ i → i < zs.length → zs.getD i 0 = 0) ∧ (z ≠ 0 → zs.take m = limbs (val zs).toNat) := by
        intro z e
        refine ⟨fun e0 i h1 h2 => ?_, fun e0 => take_limbs zs (unhide HL) m (by omega) (unhide hz) (.inr (by rw [e]; exact e0))⟩
        by_cases h3 : i = m - 1
        · rw [h3, e, e0]
        · exact unhide hz i (by omega) h2
      generalize zs.getD (m - 1) 0 = zl at *
      obtain ⟨hza, hzb⟩ := hz1' zl rfl
      clear hz1' hz
      by_cases hzz : zl = 0
      · subst hzz
        have HZ := hide (hza rfl)
        have NC := hide (fun k => (n.kept ((Kept.refl 0 0 _).drewN k)).cut hlen.symm (m - 1) (by omega))
        have MC := hide (fun k => (hmod.drewN k).set (p := ⟨g, 0, none⟩) (.inl rfl) (.slice (some ⟨gb, 0, none⟩) (m - 1) cap))
        have e1 : (zs.take m).take (m - 1) = zs.take (m - 1) := by rw [List.take_take, Nat.min_eq_left (by omega)]
        have E1 := hide e1
        clear hza hzb n hmod hlen e1
        go_wp2
        go_quiet (fail)
        go_wp2
        go_region
        go_wp2
        go_roundw
        case rel => exact ⟨m - 1, .slice (some ⟨gb, 0, none⟩) (m - 1) cap, by omega, HZ, by rw [← unhide E1]; exact unhide NC _, hide (unhide ho), unhide MC _⟩
        case measure => rw [lenAt_of hce, lenAt_of (unhide NC _).cell]; omega
      · have e1 := hzb hzz
        rw [e1] at n
        have NN := hide n
        have MM := hide hmod
        have hb : (zl == 0) = false := beq_eq_false_iff_ne.2 hzz
        clear e1 n hmod hlen hza hzb
        go_wp2
        go_quiet (fail)
        go_wp2
        exact bodyPost_end (v := .tuple #[]) (by simp [results, Tryd.results98, go_sem]) rfl ⟨⟨_, rfl⟩, _, (unhide NN).kept ((Kept.refl 0 0 _).drewN _), unhide ho, (unhide MM).drewN _⟩

end Go.Proofs.YtbihbloknmjfjaaDoor
