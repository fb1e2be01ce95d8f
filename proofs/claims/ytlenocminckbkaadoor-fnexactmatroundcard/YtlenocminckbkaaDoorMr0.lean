/-
  MatRound: what it tells.
-/
import Derived.Test.YtlenocminckbkaaDoorBS
import Derived.Test.YtlenocminckbkaaDoorMr1
namespace Go.Proofs.YtlenocminckbkaaDoor
open Go.RowKit
set_option linter.unusedVariables false
set_option maxRecDepth 8000
set_option linter.unusedSimpArgs false

def rvM (low mode : Int) (a : DE) : Int := rndM mode.toNat a.1 (val a.2.1).toNat (a.2.2 - (low - 1))
/-- A rounded number that is told. -/
def rdE (low mode : Int) (a : DE) : DE := (ansDS (dokB a.1 a.2.1 a.2.2 && mayR low mode) (rvM low mode a) low, ansDL (dokB a.1 a.2.1 a.2.2 && mayR low mode) (rvM low mode a) low, ansDE (dokB a.1 a.2.1 a.2.2 && mayR low mode) (rvM low mode a) low)
def rdB (low mode : Int) (a : DE) : Bool := ansDB (dokB a.1 a.2.1 a.2.2 && mayR low mode) (rvM low mode a) low
/-- A rounded number, of whatever length. -/
def rE (low mode : Int) (a : DE) : DE := (wsg (rvM low mode a), dlm (rvM low mode a), dex (rvM low mode a) low)
/-- May MatRound be told? -/
def rouB (n : Int) (ds : List DE) (low mode : Int) : Bool := mokB n ds && allB (fun i => rdB low mode (ds.getD i de0)) ds.length
def rouL (n : Int) (ds : List DE) (low mode : Int) : List DE := if rouB n ds low mode = true then (List.range ds.length).map (fun i => rdE low mode (ds.getD i de0)) else []
def rouN (n : Int) (ds : List DE) (low mode : Int) : Int := if rouB n ds low mode = true then n else 0
theorem rou_no {n : Int} {ds : List DE} {low mode : Int} (h : rouB n ds low mode = false) : rouL n ds low mode = [] ∧ rouN n ds low mode = 0 := by unfold rouL rouN; rw [h]; exact ⟨rfl, rfl⟩
theorem rou_tel {n : Int} {ds : List DE} (low mode : Int) (h1 : mokB n ds = true) :
    rouB n ds low mode = allB (fun i => rdB low mode (ds.getD i de0)) ds.length ∧ rouL n ds low mode = telL (fun i => rdE low mode (ds.getD i de0)) (fun i => rdB low mode (ds.getD i de0)) ds.length ∧ rouN n ds low mode = telN (fun i => rdB low mode (ds.getD i de0)) ds.length n := by
  have h : rouB n ds low mode = allB (fun i => rdB low mode (ds.getD i de0)) ds.length := by unfold rouB; rw [h1]; rfl
  refine ⟨h, ?_, ?_⟩
  · unfold rouL telL; rw [h]
  · unfold rouN telN; rw [h]
theorem rou_low {n : Int} {ds : List DE} {low mode : Int} (h : mayR low mode = false) : rouB n ds low mode = false := by
  cases hk : mokB n ds
  · unfold rouB; rw [hk]; rfl
  · obtain ⟨u1, u2, u3, U⟩ := mok_partsA hk
    have hp : 0 < ds.length := by
      have h5 : n = 1 ∨ n = 2 ∨ n = 3 ∨ n = 4 := by omega
      rcases h5 with h | h | h | h <;> subst h <;> omega
    unfold rouB
    rw [allB_no (j := 0) hp (show rdB low mode (ds.getD 0 de0) = false by unfold rdB ansDB; rw [h]; simp)]
    simp

theorem rv_abs {low mode : Int} {a : DE} (h : dokB a.1 a.2.1 a.2.2 = true) (h0 : -3000 ≤ low) (h1 : low ≤ 3000) : (rvM low mode a).natAbs < 2 ^ (16 * 2000) := by
  obtain ⟨g1, g2, g3, -, -⟩ := dok_parts h
  obtain ⟨-, -, hl, hn⟩ := wok_int g1
  unfold rvM rndM
  rw [wval_abs (limbs_lim _), limbs_val, Int.toNat_natCast]
  have e1 := scN_len hn.1 (a.2.2 - (low - 1)) 1000 (by omega)
  have e2 := rndN_len mode.toNat a.1 (scN (val a.2.1).toNat (a.2.2 - (low - 1))) (scL (val a.2.1).toNat (a.2.2 - (low - 1)))
  have e3 : (limbs (rndN mode.toNat a.1 (scN (val a.2.1).toNat (a.2.2 - (low - 1))) (scL (val a.2.1).toNat (a.2.2 - (low - 1))))).length ≤ 2000 := by omega
  have e4 := (limbs_length_le _ _).1 e3
  rw [pow_limb] at e4
  exact_mod_cast e4
theorem wn_dlm8 (m : Int) : WN (wsg m) (dlm m) := ⟨limbs_nrm _, fun h => by
  by_cases h0 : m = 0
  · subst h0; cases h
  · exact (dlm_pos h0).1⟩
theorem dlm_len8 {m : Int} {A n : Nat} (h : m.natAbs < 2 ^ A) (hn : A ≤ 16 * n) : (dlm m).length ≤ n := by
  have h2 : m.natAbs / 2 ^ tz m.natAbs ≤ m.natAbs := Nat.div_le_self _ _
  refine (limbs_length_le _ _).2 ?_
  rw [pow_limb]
  have h3 := Nat.lt_of_lt_of_le h (Nat.pow_le_pow_right (n := 2) (by decide) hn)
  omega
theorem rE_facts {low mode : Int} {a : DE} (h1 : dokB a.1 a.2.1 a.2.2 = true) (h2 : mayR low mode = true) :
    ((rE low mode a).2.2 ≤ 9223372036854775807 ∧ -9223372036854775808 ≤ (rE low mode a).2.2) ∧ WN (rE low mode a).1 (rE low mode a).2.1 ∧ (rE low mode a).2.1.length ≤ 1000000 ∧ rdB low mode a = dOkE (rE low mode a) ∧ (rdB low mode a = true → rdE low mode a = rE low mode a) := by
  obtain ⟨g1, g2, g3, g4⟩ := mayR_iff h2
  have hm := rv_abs (mode := mode) h1 g1 g2
  have hB : rdB low mode a = dOkE (rE low mode a) := by unfold rdB ansDB; rw [h1, h2]; rfl
  refine ⟨dex_range _ _ (by omega) (by omega) hm (by omega), wn_dlm8 _, dlm_len8 hm (by omega), hB, fun hb => ?_⟩
  obtain ⟨y1, y2, y3⟩ := ansD_yes hb
  unfold rdE rE
  rw [y1, y2, y3]
theorem rou_fit {n : Int} {ds : List DE} {low mode : Int} (h1 : mokB n ds = true) (h2 : mayR low mode = true) :
    rouB n ds low mode = mokB n ((List.range ds.length).map fun i => rE low mode (ds.getD i de0)) ∧ (rouB n ds low mode = true → rouL n ds low mode = (List.range ds.length).map fun i => rE low mode (ds.getD i de0)) := by
  obtain ⟨t1, t2, t3⟩ := rou_tel low mode h1
  obtain ⟨u1, u2, u3, U⟩ := mok_partsA h1
  have hB : allB (fun i => rdB low mode (ds.getD i de0)) ds.length = ((List.range ds.length).map fun i => rE low mode (ds.getD i de0)).all dOkE := by
    unfold allB
    rw [List.all_map]
    apply Bool.eq_iff_iff.2
    rw [List.all_eq_true, List.all_eq_true]
    constructor
    · intro h i hi
      have := h i hi
      rw [(rE_facts (U i (List.mem_range.1 hi)) h2).2.2.2.1] at this
      exact this
    · intro h i hi
      have := h i hi
      rw [(rE_facts (U i (List.mem_range.1 hi)) h2).2.2.2.1]
      exact this
  refine ⟨?_, fun hb => ?_⟩
  · rw [t1, hB]
    unfold mokB
    rw [decide_eq_true u1, decide_eq_true u2, List.length_map, List.length_range, decide_eq_true u3]
    simp
  · unfold rouL
    rw [if_pos hb]
    rw [t1] at hb
    unfold allB at hb
    rw [List.all_eq_true] at hb
    apply List.map_congr_left
    intro i hi
    exact (rE_facts (U i (List.mem_range.1 hi)) h2).2.2.2.2 (hb i hi)

end Go.Proofs.YtlenocminckbkaaDoor
