/-
  Numbers whose lists may begin behind their blocks' first cells: bits, top, small.
-/
import Derived.Test.YtadbdchjhglldaaGreatDoorBR
import Derived.Test.YtadbdchjhglldaaGreatDoorINat8
namespace Go.Proofs.YtadbdchjhglldaaGreatDoor
open Go.RowKit
set_option linter.unusedVariables false
set_option maxRecDepth 8000
set_option linter.unusedSimpArgs false

set_option maxHeartbeats 1000000 in
theorem bits_work {b g : Nat} {v : Value} {zs : List Int} (w : World) (h : Work b w g v zs) (hl : Nrm zs) (hlen : zs.length ≤ 1000000) :
    Calls Tryz.prog 93 #[.pointer (some ⟨g, 0, none⟩)] w fun e w' => e = .returned (.int .i64 (bitsN (val zs).toNat)) ∧ Kept 0 0 w w' := by
  have hc := h.cell
  obtain ⟨a1, c1, rfl⟩ := h.form
  by_cases h0 : zs = []
  · subst h0
    have e0 : bitsN (val []).toNat = 0 := rfl
    rw [e0]
    clear h
    go_enter Tryz.func93, Tryz.ntmps93
    go_wp2
    go_ret
    exact ⟨rfl, Kept.refl _ _ _⟩
  · have h1 : 0 < zs.length := List.length_pos_iff.2 h0
    obtain ⟨n, hn⟩ : ∃ n, zs.length = n + 1 := ⟨zs.length - 1, by omega⟩
    have htop : zs.getD n 0 ≠ 0 := hl.2 _ (by rw [List.getLast?_eq_getElem?, hn]; simp [List.getD, hn])
    have hb := hl.1.at n
    have e1 := bitsN_val hl.1 n hn (by omega)
    obtain ⟨g1, off1, c', e', -, hx, -, -, -⟩ := h.at n (by omega)
    cases e'
    obtain ⟨t, et⟩ : ∃ t : Nat, zs.getD n 0 = t := ⟨(zs.getD n 0).toNat, by omega⟩
    rw [et] at hx e1 hb
    rw [Int.toNat_natCast] at e1
    have hne : (((n + 1 : Nat) : Int) == 0) = false := beq_eq_false_iff_ne.2 (by omega)
    have hbt : bitsN t ≤ 16 := (bitsN_le t 16).2 (by omega)
    have hm := h.row.len
    unfold maxLen at hm
    rw [e1]
    rw [hn] at hc hm hlen
    have hn' : n ≤ 999999 := by omega
    have ht5 : (t : Int) ≤ 65535 := hb.2
    have hlen1 := fun w => len_impl (t : Int) w (by omega) ht5
    rw [Int.toNat_natCast] at hlen1
    have hn1 : zs.length = n + 1 := hn
    generalize bitsN t = R at *
    have HL := hide hlen1
    have HN := hide hn1
    clear h hl e1 et htop h0 h1 hlen1 hn hn1 hb
    go_enter Tryz.func93, Tryz.ntmps93
    go_wp2_with (first
      | (go_at_call 112; refine (unhide HL _).mono ?_; rintro e w' ⟨rfl, rfl⟩)
      | go_in)
    go_ret
    exact ⟨by go_num, Kept.refl _ _ _⟩

end Go.Proofs.YtadbdchjhglldaaGreatDoor

