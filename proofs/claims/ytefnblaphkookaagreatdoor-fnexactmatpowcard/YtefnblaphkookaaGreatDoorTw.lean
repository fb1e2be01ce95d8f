/-
  What is told of two matrices: each number by what it is worth.
-/
import Derived.Test.YtefnblaphkookaaGreatDoorPl1
import Derived.Test.YtefnblaphkookaaGreatDoorTld
import Derived.Test.YtefnblaphkookaaGreatDoorFit8
namespace Go.Proofs.YtefnblaphkookaaGreatDoor
open Go.RowKit
set_option linter.unusedVariables false
set_option maxRecDepth 8000

/-- What a number is worth, in units of 2 to the power L. -/
def dv (L : Int) (d : DE) : Int := wval d.1 d.2.1 * 2 ^ (d.2.2 - L).toNat
theorem dok_nv {d : DE} (h : dOkE d = true) {L : Int} (hL : L ≤ -3000) : NV L (dv L d) d := by
  obtain ⟨h1, h2, h3, -, -⟩ := dok_parts h
  obtain ⟨-, -, lx, hx⟩ := wok_int h1
  exact ⟨⟨by omega, hx, rfl⟩, by omega, by omega⟩
theorem dv_lt {d : DE} (h : dOkE d = true) {A : Nat} (hA : A = 7600) : (dv (-3000) d).natAbs < 2 ^ A := by
  obtain ⟨h1, h2, h3, -, -⟩ := dok_parts h
  obtain ⟨-, -, lx, hx⟩ := wok_int h1
  exact lt_up (shl_lt _ (wval_lt hx.1)) (by omega)
theorem tdB_nE {L V : Int} {d : DE} (h : IsV L V d) : tdB d = dOkE (nE V L) := by
  rw [← h.form]
  unfold tdB ansDB dOkE nE
  rw [Bool.true_and]
theorem tdE_nE {L V : Int} {d : DE} (h : IsV L V d) (hb : tdB d = true) : tdE d = nE V L := by
  rw [← h.form]
  obtain ⟨y1, y2, y3⟩ := ansD_yes hb
  unfold tdE nE
  rw [y1, y2, y3]
/-- Both are matrices of one size. -/
def bothB (n1 : Int) (ds1 : List DE) (n2 : Int) (ds2 : List DE) : Bool := mokB n1 ds1 && (mokB n2 ds2 && decide (n1 = n2))
def twB (c : Bool) (V : Nat → Int) (L n : Int) : Bool := c && allB (fun p => dOkE (nE (V p) L)) (n.toNat * n.toNat)
def twL (c : Bool) (V : Nat → Int) (L n : Int) : List DE := if twB c V L n = true then (List.range (n.toNat * n.toNat)).map (fun p => nE (V p) L) else []
def twN (c : Bool) (V : Nat → Int) (L n : Int) : Int := if twB c V L n = true then n else 0
theorem tw_no (V : Nat → Int) (L n : Int) : twB false V L n = false ∧ twL false V L n = [] ∧ twN false V L n = 0 := ⟨rfl, rfl, rfl⟩
theorem allB_congr {B B' : Nat → Bool} {n : Nat} (h : ∀ p, p < n → B p = B' p) : allB B n = allB B' n := by
  unfold allB
  apply Bool.eq_iff_iff.2
  rw [List.all_eq_true, List.all_eq_true]
  exact ⟨fun g p hp => by rw [← h p (List.mem_range.1 hp)]; exact g p hp, fun g p hp => by rw [h p (List.mem_range.1 hp)]; exact g p hp⟩
/-- What the program tells of a square. -/
theorem tw_tel {k : Nat} {V : Nat → Int} {L : Int} {F : Nat → DE} (h : ∀ p, p < k * k → IsV L (V p) (F p)) :
    allB (fun p => tdB (F p)) (k * k) = twB true V L (k : Int) ∧ telN (fun p => tdB (F p)) (k * k) (k : Int) = twN true V L (k : Int) ∧ telL (fun p => tdE (F p)) (fun p => tdB (F p)) (k * k) = twL true V L (k : Int) := by
  have e : allB (fun p => tdB (F p)) (k * k) = twB true V L (k : Int) := by
    unfold twB
    rw [Bool.true_and, Int.toNat_natCast]
    exact allB_congr (fun p hp => tdB_nE (h p hp))
  refine ⟨e, by unfold telN twN; rw [e], ?_⟩
  unfold telL twL
  rw [e, Int.toNat_natCast]
  by_cases hb : twB true V L (k : Int) = true
  · rw [if_pos hb, if_pos hb]
    rw [← e] at hb
    unfold allB at hb
    rw [List.all_eq_true] at hb
    exact List.map_congr_left (fun p hp => tdE_nE (h p (List.mem_range.1 hp)) (hb p hp))
  · rw [if_neg hb, if_neg hb]
/-- What the model tells of a list. -/
theorem tw_fit {k : Nat} {V : Nat → Int} {L : Int} (h1 : 0 < k) (h4 : k ≤ 4) :
    fitB (k : Int) ((List.range (k * k)).map (fun p => nE (V p) L)) = twB true V L (k : Int) ∧ fitN (k : Int) ((List.range (k * k)).map (fun p => nE (V p) L)) = twN true V L (k : Int) ∧ fitL (k : Int) ((List.range (k * k)).map (fun p => nE (V p) L)) = twL true V L (k : Int) := by
  have e : mokB (k : Int) ((List.range (k * k)).map (fun p => nE (V p) L)) = twB true V L (k : Int) := by
    rw [mok_yes (by simp; omega) (by simp)]
    unfold twB allB
    rw [Bool.true_and, Int.toNat_natCast, List.all_map]
    rfl
  refine ⟨e, by unfold fitN twN; rw [e], ?_⟩
  unfold fitL twL
  rw [e, Int.toNat_natCast]
theorem tw_sz {c : Bool} {V : Nat → Int} {L n : Int} (hc : c = true → 1 ≤ n ∧ n ≤ 4) : szT (twL c V L n) ≤ 2000 := by
  unfold twL
  by_cases hb : twB c V L n = true
  · rw [if_pos hb]
    have hc2 : c = true := by unfold twB at hb; simp only [Bool.and_eq_true] at hb; exact hb.1
    obtain ⟨g1, g4⟩ := hc hc2
    obtain ⟨k, rfl⟩ := Int.eq_ofNat_of_zero_le (show 0 ≤ n by omega)
    have e := (tw_fit (k := k) (V := V) (L := L) (by omega) (by omega)).1
    rw [Int.toNat_natCast]
    rw [hc2] at hb
    exact mok_sz (e.trans hb)
  · rw [if_neg hb]; decide
theorem both_parts {n1 n2 : Int} {ds1 ds2 : List DE} (h : bothB n1 ds1 n2 ds2 = true) : mokB n1 ds1 = true ∧ mokB n2 ds2 = true ∧ n1 = n2 := by
  unfold bothB at h
  simp only [Bool.and_eq_true, decide_eq_true_eq] at h
  exact h
theorem both_n {n1 n2 : Int} {ds1 ds2 : List DE} (h : bothB n1 ds1 n2 ds2 = true) : 1 ≤ n1 ∧ n1 ≤ 4 := by
  obtain ⟨u1, u2, -, -⟩ := mok_partsA (both_parts h).1
  exact ⟨u1, u2⟩

end Go.Proofs.YtefnblaphkookaaGreatDoor
