/-
  The walk of the law FnFlAdds: it returns true at every code.
-/
import Derived.Test.YtckaecmkidplhaaGreatDoorFlI
import Derived.Test.YtckaecmkidplhaaGreatDoorFlDw
import Derived.Test.YtckaecmkidplhaaGreatDoorFlRd
import Derived.Deep.RegionHeld3
import Derived.Deep.DeepCutAuto
namespace Go.Proofs.YtckaecmkidplhaaGreatDoor
open Go.RowKit
set_option linter.unusedVariables false
set_option maxRecDepth 8000
set_option linter.unusedSimpArgs false

theorem in_FlNeg_g : ∀ (w : World) (args : Array Value), (callFunc 13 args).run Tryz.prog w = .ok (.enter 13 args) w := enters Tryz.func13 (by decide) (fun h => by cases h)

theorem in_FlAdd_g : ∀ (w : World) (args : Array Value), (callFunc 10 args).run Tryz.prog w = .ok (.enter 10 args) w := enters Tryz.func10 (by decide) (fun h => by cases h)

theorem addQ_comm (k1 : Int) (n1 : Bool) (m1 e1 k2 : Int) (n2 : Bool) (m2 e2 mode : Int) : addQ k2 n2 m2 e2 k1 n1 m1 e1 mode = addQ k1 n1 m1 e1 k2 n2 m2 e2 mode := by
  unfold addQ
  by_cases a : k1 = 3 ∨ k2 = 3
  · rw [if_pos a, if_pos (Or.comm.1 a)]
  · rw [if_neg a, if_neg (fun h => a (Or.comm.1 h))]
    by_cases b : k1 = 2 ∧ k2 = 2 ∧ (n1 == n2) = false
    · rw [if_pos b, if_pos (show k2 = 2 ∧ k1 = 2 ∧ (n2 == n1) = false from ⟨b.2.1, b.1, by rw [Bool.beq_comm]; exact b.2.2⟩)]
    · rw [if_neg b, if_neg (show ¬ (k2 = 2 ∧ k1 = 2 ∧ (n2 == n1) = false) from fun h => b ⟨h.2.1, h.1, by rw [Bool.beq_comm]; exact h.2.2⟩)]
      by_cases c1 : k1 = 2
      · by_cases c2 : k2 = 2
        · have e : n1 = n2 := by
            rcases Bool.eq_false_or_eq_true (n1 == n2) with h | h
            · exact eq_of_beq h
            · exact absurd ⟨c1, c2, h⟩ b
          simp only [if_pos c1, if_pos c2, e]
        · rw [if_pos c1, if_neg c2, if_pos c1]
      · by_cases c2 : k2 = 2
        · simp only [if_neg c1, if_pos c2]
        · rw [if_neg c1, if_neg c2, if_neg c2, if_neg c1, Int.add_comm, Int.min_comm]
          congr 1
          by_cases d : k1 = 0 ∧ k2 = 0 ∧ n1 = n2
          · rw [if_pos d, if_pos (show k2 = 0 ∧ k1 = 0 ∧ n2 = n1 from ⟨d.2.1, d.1, d.2.2.symm⟩), d.2.2]
          · rw [if_neg d, if_neg (show ¬ (k2 = 0 ∧ k1 = 0 ∧ n2 = n1) from fun h => d ⟨h.2.1, h.1, h.2.2.symm⟩)]
theorem mulQ_comm (k1 : Int) (n1 : Bool) (m1 e1 k2 : Int) (n2 : Bool) (m2 e2 mode : Int) : mulQ k2 n2 m2 e2 k1 n1 m1 e1 mode = mulQ k1 n1 m1 e1 k2 n2 m2 e2 mode := by
  unfold mulQ
  have a1 : (k2 = 3 ∨ k1 = 3) = (k1 = 3 ∨ k2 = 3) := propext Or.comm
  have a2 : ((k2 = 2 ∧ k1 = 0) ∨ (k2 = 0 ∧ k1 = 2)) = ((k1 = 2 ∧ k2 = 0) ∨ (k1 = 0 ∧ k2 = 2)) := propext ⟨fun h => h.elim (fun h => .inr ⟨h.2, h.1⟩) (fun h => .inl ⟨h.2, h.1⟩), fun h => h.elim (fun h => .inr ⟨h.2, h.1⟩) (fun h => .inl ⟨h.2, h.1⟩)⟩
  have a3 : (k2 = 2 ∨ k1 = 2) = (k1 = 2 ∨ k2 = 2) := propext Or.comm
  simp only [a1, a2, a3, Bool.beq_comm (a := n2) (b := n1), Nat.mul_comm (fM k2 n2 m2).natAbs (fM k1 n1 m1).natAbs, Int.add_comm e2 e1]
theorem okM_comm (k1 : Int) (n1 : Bool) (m1 e1 k2 : Int) (n2 : Bool) (m2 e2 mode : Int) : okM k2 n2 m2 e2 k1 n1 m1 e1 mode = okM k1 n1 m1 e1 k2 n2 m2 e2 mode := by unfold okM; rw [Bool.and_comm (flok k2 n2 m2 e2)]
theorem faddQ_comm (k1 : Int) (n1 : Bool) (m1 e1 k2 : Int) (n2 : Bool) (m2 e2 mode : Int) : faddQ k2 n2 m2 e2 k1 n1 m1 e1 mode = faddQ k1 n1 m1 e1 k2 n2 m2 e2 mode := by unfold faddQ; rw [okM_comm, addQ_comm]
theorem fmulQ_comm (k1 : Int) (n1 : Bool) (m1 e1 k2 : Int) (n2 : Bool) (m2 e2 mode : Int) : fmulQ k2 n2 m2 e2 k1 n1 m1 e1 mode = fmulQ k1 n1 m1 e1 k2 n2 m2 e2 mode := by unfold fmulQ; rw [okM_comm, mulQ_comm]
theorem okM_no {k1 : Int} {n1 : Bool} {m1 e1 k2 : Int} {n2 : Bool} {m2 e2 mode : Int} (h : flok k1 n1 m1 e1 = false ∨ flok k2 n2 m2 e2 = false) : okM k1 n1 m1 e1 k2 n2 m2 e2 mode = false := by
  unfold okM
  rcases h with h | h
  · rw [h]; rfl
  · rw [h]; simp
theorem fQ_no {k1 : Int} {n1 : Bool} {m1 e1 k2 : Int} {n2 : Bool} {m2 e2 mode : Int} (h : flok k1 n1 m1 e1 = false ∨ flok k2 n2 m2 e2 = false) :
    faddQ k1 n1 m1 e1 k2 n2 m2 e2 mode = ((3, false, 0, 0), 16) ∧ fmulQ k1 n1 m1 e1 k2 n2 m2 e2 mode = ((3, false, 0, 0), 16) ∧ fsubQ k1 n1 m1 e1 k2 n2 m2 e2 mode = ((3, false, 0, 0), 16) := by
  unfold faddQ fmulQ fsubQ
  rw [okM_no h]
  exact ⟨rfl, rfl, rfl⟩
/-- A difference is the sum with the opposite. -/
theorem fsub_add {k1 : Int} {n1 : Bool} {m1 e1 k2 : Int} {n2 : Bool} {m2 e2 : Int} (mode : Int) (h : flok k2 n2 m2 e2 = true) :
    faddQ k1 n1 m1 e1 (fneg k2 n2 m2 e2).1 (fneg k2 n2 m2 e2).2.1 (fneg k2 n2 m2 e2).2.2.1 (fneg k2 n2 m2 e2).2.2.2 mode = fsubQ k1 n1 m1 e1 k2 n2 m2 e2 mode := by
  have e : fneg k2 n2 m2 e2 = (k2, negN k2 n2, m2, e2) := by
    unfold fneg negN
    by_cases h3 : k2 = 3
    · subst h3
      rcases flok_ways h with ⟨h9, -⟩ | ⟨h9, -⟩ | ⟨h9, -⟩ | ⟨-, rfl, rfl, rfl⟩
      · omega
      · omega
      · omega
      · rfl
    · rw [if_pos ⟨h, h3⟩, if_neg h3]
  rw [e]
  unfold faddQ fsubQ okM
  rw [h, flok_neg h]
theorem one_fl : fiQ 1 0 = (1, false, 4503599627370496, -52) ∧ fiG 1 0 = 0 := by decide +kernel
theorem two_fl : faddQ 1 false 4503599627370496 (-52) 1 false 4503599627370496 (-52) 0 = ((1, false, 4503599627370496, -51), 0) := by decide +kernel
theorem FB.set4 {w : World} {X : Nat} {p q r t : Value} (k : Int) (n : Bool) (m e : Int) (h0 : w.cell? ⟨X, 0, none⟩ = some p) (h1 : w.cell? ⟨X, 1, none⟩ = some q) (h2 : w.cell? ⟨X, 2, none⟩ = some r) (h3 : w.cell? ⟨X, 3, none⟩ = some t) :
    FB ((((w.setCell ⟨X, 0, none⟩ (.int .i64 k)).setCell ⟨X, 1, none⟩ (.bool n)).setCell ⟨X, 2, none⟩ (.int .i64 m)).setCell ⟨X, 3, none⟩ (.int .i64 e)) X k n m e :=
  ⟨by have := World.block_lt_of_cell? _ _ h0; simpa [World.setCell] using this,
   cell_off _ _ _ _ _ _ (cell_off _ _ _ _ _ _ (cell_off _ _ _ _ _ _ (cell_on _ _ _ _ _ h0) (by decide)) (by decide)) (by decide),
   cell_off _ _ _ _ _ _ (cell_off _ _ _ _ _ _ (cell_on _ _ _ _ _ (cell_off _ _ _ _ _ _ h1 (by decide))) (by decide)) (by decide),
   cell_off _ _ _ _ _ _ (cell_on _ _ _ _ _ (cell_off _ _ _ _ _ _ (cell_off _ _ _ _ _ _ h2 (by decide)) (by decide))) (by decide),
   cell_on _ _ _ _ _ (cell_off _ _ _ _ _ _ (cell_off _ _ _ _ _ _ (cell_off _ _ _ _ _ _ h3 (by decide)) (by decide)) (by decide))⟩

set_option maxHeartbeats 2000000 in
theorem fls_any (w : World) (T : TabB w) : Calls Tryz.prog 8 #[] w fun e w' => e = .returned (.bool true) ∧ Kept 0 0 w w' := by
  have K := hide (Kept.refl 0 0 w)
  have HT := hide T
  clear T
  have S0 := hide (show w.heap.size = w.heap.size from rfl)
  go_enter Tryz.func8, Tryz.ntmps8
  go_wp2_with fail
  have mk := flofint_impl 1 0 (by decide) (by decide) w ((unhide HT).kept (unhide K))
  rw [one_fl.1, one_fl.2] at mk
  refine (mk).mono ?_
  rintro e w1 ⟨rfl, k1⟩
  replace K := hide ((unhide K).trans k1)
  have z2 := k1.size
  clear k1
  clear mk
  have kn := (Kept.refl 0 0 w1).alloc (.cells #[.int .i64 1, .bool false, .int .i64 4503599627370496, .int .i64 (-52)] 25)
  have y0 : (w1.alloc (.cells #[.int .i64 1, .bool false, .int .i64 4503599627370496, .int .i64 (-52)] 25)).cell? ⟨w1.heap.size, 0, none⟩ = some (.int .i64 1) := new_cell2 _ _ _ _ _ _ (by simp) rfl
  have y1 : (w1.alloc (.cells #[.int .i64 1, .bool false, .int .i64 4503599627370496, .int .i64 (-52)] 25)).cell? ⟨w1.heap.size, 1, none⟩ = some (.bool false) := new_cell2 _ _ _ _ _ _ (by simp) rfl
  have y2 : (w1.alloc (.cells #[.int .i64 1, .bool false, .int .i64 4503599627370496, .int .i64 (-52)] 25)).cell? ⟨w1.heap.size, 2, none⟩ = some (.int .i64 4503599627370496) := new_cell2 _ _ _ _ _ _ (by simp) rfl
  have y3 : (w1.alloc (.cells #[.int .i64 1, .bool false, .int .i64 4503599627370496, .int .i64 (-52)] 25)).cell? ⟨w1.heap.size, 3, none⟩ = some (.int .i64 (-52)) := new_cell2 _ _ _ _ _ _ (by simp) rfl
  have sz3 : w1.heap.size + 1 ≤ (w1.alloc (.cells #[.int .i64 1, .bool false, .int .i64 4503599627370496, .int .i64 (-52)] 25)).heap.size := by simp
  replace K := hide ((unhide K).trans kn)
  have z4 := kn.size
  clear kn
  go_wp2_with fail
  generalize (w1.alloc (.cells #[.int .i64 1, .bool false, .int .i64 4503599627370496, .int .i64 (-52)] 25)) = wn5 at *
  have mk := fladd_impl 1 false 4503599627370496 (-52) 1 false 4503599627370496 (-52) 0 wn5 ((unhide HT).kept (unhide K))
  rw [two_fl] at mk
  refine (mk).mono ?_
  rintro e w6 ⟨rfl, k6⟩
  replace y0 := k6.cell0 y0
  replace y1 := k6.cell0 y1
  replace y2 := k6.cell0 y2
  replace y3 := k6.cell0 y3
  replace K := hide ((unhide K).trans k6)
  have z7 := k6.size
  clear k6
  clear mk
  have kn := (Kept.refl 0 0 w6).alloc (.cells #[.int .i64 1, .bool false, .int .i64 4503599627370496, .int .i64 (-51)] 25)
  have z0 : (w6.alloc (.cells #[.int .i64 1, .bool false, .int .i64 4503599627370496, .int .i64 (-51)] 25)).cell? ⟨w6.heap.size, 0, none⟩ = some (.int .i64 1) := new_cell2 _ _ _ _ _ _ (by simp) rfl
  have z1 : (w6.alloc (.cells #[.int .i64 1, .bool false, .int .i64 4503599627370496, .int .i64 (-51)] 25)).cell? ⟨w6.heap.size, 1, none⟩ = some (.bool false) := new_cell2 _ _ _ _ _ _ (by simp) rfl
  have z2 : (w6.alloc (.cells #[.int .i64 1, .bool false, .int .i64 4503599627370496, .int .i64 (-51)] 25)).cell? ⟨w6.heap.size, 2, none⟩ = some (.int .i64 4503599627370496) := new_cell2 _ _ _ _ _ _ (by simp) rfl
  have z3 : (w6.alloc (.cells #[.int .i64 1, .bool false, .int .i64 4503599627370496, .int .i64 (-51)] 25)).cell? ⟨w6.heap.size, 3, none⟩ = some (.int .i64 (-51)) := new_cell2 _ _ _ _ _ _ (by simp) rfl
  have sz8 : w6.heap.size + 1 ≤ (w6.alloc (.cells #[.int .i64 1, .bool false, .int .i64 4503599627370496, .int .i64 (-51)] 25)).heap.size := by simp
  replace y0 := kn.cell0 y0
  replace y1 := kn.cell0 y1
  replace y2 := kn.cell0 y2
  replace y3 := kn.cell0 y3
  replace K := hide ((unhide K).trans kn)
  have z9 := kn.size
  clear kn
  go_wp2_with fail
  generalize (w6.alloc (.cells #[.int .i64 1, .bool false, .int .i64 4503599627370496, .int .i64 (-51)] 25)) = wn10 at *
  try go_wp2_with fail
  go_ret
  exact ⟨rfl, unhide K⟩

set_option maxHeartbeats 16000000 in
theorem law_FlAdds {v : Value} {zs : List Int} {w : World} (r : Row .u8 false 0 w.heap.size w v zs) (hb0 : ∀ z ∈ zs, (Lit.int .u8 z).wf = true) (T : TabB w) :
    Calls Tryz.prog 3 #[v] w fun e' w' => e' = .returned (.bool true) ∧ Below w.heap.size w w' := by
  have hb := bytes_of_wf hb0
  clear hb0
  have HT := hide T
  clear T
  have K := hide (Kept.refl 0 0 w)
  obtain ⟨a0, c0, hv⟩ := Row.form' r
  subst hv
  have S0 := hide (show w.heap.size = w.heap.size from rfl)
  go_enter Tryz.func3, Tryz.ntmps3
  go_wp2_with fail
  refine (fls_any _ ((unhide HT).kept (unhide K))).mono ?_
  rintro e w1 ⟨rfl, k1⟩
  replace r := r.kept k1 (.inr (.inr (Nat.le_refl 0)))
  replace K := hide ((unhide K).trans k1)
  have z2 := k1.size
  clear k1
  go_wp2_with fail
  refine (drawAdd5_any _ r hb).mono ?_
  rintro e w3 ⟨fk, fn, fm, fe, hk, hn, hm, he, md, rfl, hm1, hm2, k3⟩
  replace r := r.kept k3 (.inr (.inr (Nat.le_refl 0)))
  replace K := hide ((unhide K).trans k3)
  have z4 := k3.size
  clear k3
  clear r
  clear hm1 hm2
  have kn := (Kept.refl 0 0 w3).alloc (.cells #[.int .i64 fk, .bool fn, .int .i64 fm, .int .i64 fe] 25)
  have ca0 : (w3.alloc (.cells #[.int .i64 fk, .bool fn, .int .i64 fm, .int .i64 fe] 25)).cell? ⟨w3.heap.size, 0, none⟩ = some (.int .i64 fk) := new_cell2 _ _ _ _ _ _ (by simp) rfl
  have ca1 : (w3.alloc (.cells #[.int .i64 fk, .bool fn, .int .i64 fm, .int .i64 fe] 25)).cell? ⟨w3.heap.size, 1, none⟩ = some (.bool fn) := new_cell2 _ _ _ _ _ _ (by simp) rfl
  have ca2 : (w3.alloc (.cells #[.int .i64 fk, .bool fn, .int .i64 fm, .int .i64 fe] 25)).cell? ⟨w3.heap.size, 2, none⟩ = some (.int .i64 fm) := new_cell2 _ _ _ _ _ _ (by simp) rfl
  have ca3 : (w3.alloc (.cells #[.int .i64 fk, .bool fn, .int .i64 fm, .int .i64 fe] 25)).cell? ⟨w3.heap.size, 3, none⟩ = some (.int .i64 fe) := new_cell2 _ _ _ _ _ _ (by simp) rfl
  have sz5 : w3.heap.size + 1 ≤ (w3.alloc (.cells #[.int .i64 fk, .bool fn, .int .i64 fm, .int .i64 fe] 25)).heap.size := by simp
  replace K := hide ((unhide K).trans kn)
  have z6 := kn.size
  clear kn
  have kn := (Kept.refl 0 0 (w3.alloc (.cells #[.int .i64 fk, .bool fn, .int .i64 fm, .int .i64 fe] 25))).alloc (.cells #[.int .i64 hk, .bool hn, .int .i64 hm, .int .i64 he] 25)
  have cb0 : ((w3.alloc (.cells #[.int .i64 fk, .bool fn, .int .i64 fm, .int .i64 fe] 25)).alloc (.cells #[.int .i64 hk, .bool hn, .int .i64 hm, .int .i64 he] 25)).cell? ⟨w3.heap.size + 1, 0, none⟩ = some (.int .i64 hk) := new_cell2 _ _ _ _ _ _ (by simp) rfl
  have cb1 : ((w3.alloc (.cells #[.int .i64 fk, .bool fn, .int .i64 fm, .int .i64 fe] 25)).alloc (.cells #[.int .i64 hk, .bool hn, .int .i64 hm, .int .i64 he] 25)).cell? ⟨w3.heap.size + 1, 1, none⟩ = some (.bool hn) := new_cell2 _ _ _ _ _ _ (by simp) rfl
  have cb2 : ((w3.alloc (.cells #[.int .i64 fk, .bool fn, .int .i64 fm, .int .i64 fe] 25)).alloc (.cells #[.int .i64 hk, .bool hn, .int .i64 hm, .int .i64 he] 25)).cell? ⟨w3.heap.size + 1, 2, none⟩ = some (.int .i64 hm) := new_cell2 _ _ _ _ _ _ (by simp) rfl
  have cb3 : ((w3.alloc (.cells #[.int .i64 fk, .bool fn, .int .i64 fm, .int .i64 fe] 25)).alloc (.cells #[.int .i64 hk, .bool hn, .int .i64 hm, .int .i64 he] 25)).cell? ⟨w3.heap.size + 1, 3, none⟩ = some (.int .i64 he) := new_cell2 _ _ _ _ _ _ (by simp) rfl
  have sz7 : (w3.alloc (.cells #[.int .i64 fk, .bool fn, .int .i64 fm, .int .i64 fe] 25)).heap.size + 1 ≤ ((w3.alloc (.cells #[.int .i64 fk, .bool fn, .int .i64 fm, .int .i64 fe] 25)).alloc (.cells #[.int .i64 hk, .bool hn, .int .i64 hm, .int .i64 he] 25)).heap.size := by simp
  replace ca0 := kn.cell0 ca0
  replace ca1 := kn.cell0 ca1
  replace ca2 := kn.cell0 ca2
  replace ca3 := kn.cell0 ca3
  replace K := hide ((unhide K).trans kn)
  have z8 := kn.size
  clear kn
  go_wp2_with fail
  generalize ((w3.alloc (.cells #[.int .i64 fk, .bool fn, .int .i64 fm, .int .i64 fe] 25)).alloc (.cells #[.int .i64 hk, .bool hn, .int .i64 hm, .int .i64 he] 25)) = wn9 at *
  obtain ⟨S, hS⟩ : ∃ y, faddQ fk fn fm fe hk hn hm he md = y := ⟨_, rfl⟩
  obtain ⟨⟨Sk, Sn, Sm, Se⟩, Sf⟩ := S
  obtain ⟨P, hP⟩ : ∃ y, fmulQ fk fn fm fe hk hn hm he md = y := ⟨_, rfl⟩
  obtain ⟨⟨Pk, Pn, Pm, Pe⟩, Pf⟩ := P
  obtain ⟨D, hD⟩ : ∃ y, fsubQ fk fn fm fe hk hn hm he md = y := ⟨_, rfl⟩
  obtain ⟨⟨Dk, Dn, Dm, De⟩, Df⟩ := D
  obtain ⟨⟨gk, gn, gm, ge⟩, hG⟩ : ∃ y, fneg hk hn hm he = y := ⟨_, rfl⟩
  obtain ⟨E, hE⟩ : ∃ y, faddQ fk fn fm fe gk gn gm ge md = y := ⟨_, rfl⟩
  obtain ⟨⟨Ek, En, Em, Ee⟩, Ef⟩ := E
  have HE : Hid (flok hk hn hm he = true → ((Ek, En, Em, Ee), Ef) = ((Dk, Dn, Dm, De), Df)) := fun h => by
    have := fsub_add (k1 := fk) (n1 := fn) (m1 := fm) (e1 := fe) md h
    rw [hG] at this
    exact hE.symm.trans (this.trans hD)
  have HN : Hid (flok fk fn fm fe = false ∨ flok hk hn hm he = false → ((Sk, Sn, Sm, Se), Sf) = ((3, false, 0, 0), 16) ∧ ((Pk, Pn, Pm, Pe), Pf) = ((3, false, 0, 0), 16) ∧ ((Dk, Dn, Dm, De), Df) = ((3, false, 0, 0), 16)) := fun h => by
    obtain ⟨e1, e2, e3⟩ := fQ_no (mode := md) h
    exact ⟨hS.symm.trans e1, hP.symm.trans e2, hD.symm.trans e3⟩
  have ms := fun (w : World) (T : TabB w) => fladd_impl fk fn fm fe hk hn hm he md w T
  have mt := fun (w : World) (T : TabB w) => fladd_impl hk hn hm he fk fn fm fe md w T
  have mp := fun (w : World) (T : TabB w) => flmul_impl fk fn fm fe hk hn hm he md w T
  have mq := fun (w : World) (T : TabB w) => flmul_impl hk hn hm he fk fn fm fe md w T
  have mdd := fun (w : World) (T : TabB w) => flsub_impl fk fn fm fe hk hn hm he md w T
  have mn := fun (w : World) => flneg_impl hk hn hm he w
  have me := fun (w : World) (T : TabB w) => fladd_impl fk fn fm fe gk gn gm ge md w T
  simp only [faddQ_comm fk fn fm fe hk hn hm he md, hS] at ms mt
  simp only [fmulQ_comm fk fn fm fe hk hn hm he md, hP] at mp mq
  simp only [hD] at mdd
  simp only [hG] at mn
  simp only [hE] at me
  replace ms := hide ms
  replace mt := hide mt
  replace mp := hide mp
  replace mq := hide mq
  replace mdd := hide mdd
  replace mn := hide mn
  replace me := hide me
  clear hS hP hD hG hE
  refine (unhide ms _ ((unhide HT).kept (unhide K))).mono ?_
  rintro e w10 ⟨rfl, k10⟩
  replace ca0 := k10.cell0 ca0
  replace ca1 := k10.cell0 ca1
  replace ca2 := k10.cell0 ca2
  replace ca3 := k10.cell0 ca3
  replace cb0 := k10.cell0 cb0
  replace cb1 := k10.cell0 cb1
  replace cb2 := k10.cell0 cb2
  replace cb3 := k10.cell0 cb3
  replace K := hide ((unhide K).trans k10)
  have z11 := k10.size
  clear k10
  clear ms
  have kn := (Kept.refl 0 0 w10).alloc (.cells #[.int .i64 Sk, .bool Sn, .int .i64 Sm, .int .i64 Se] 25)
  have cs0 : (w10.alloc (.cells #[.int .i64 Sk, .bool Sn, .int .i64 Sm, .int .i64 Se] 25)).cell? ⟨w10.heap.size, 0, none⟩ = some (.int .i64 Sk) := new_cell2 _ _ _ _ _ _ (by simp) rfl
  have cs1 : (w10.alloc (.cells #[.int .i64 Sk, .bool Sn, .int .i64 Sm, .int .i64 Se] 25)).cell? ⟨w10.heap.size, 1, none⟩ = some (.bool Sn) := new_cell2 _ _ _ _ _ _ (by simp) rfl
  have cs2 : (w10.alloc (.cells #[.int .i64 Sk, .bool Sn, .int .i64 Sm, .int .i64 Se] 25)).cell? ⟨w10.heap.size, 2, none⟩ = some (.int .i64 Sm) := new_cell2 _ _ _ _ _ _ (by simp) rfl
  have cs3 : (w10.alloc (.cells #[.int .i64 Sk, .bool Sn, .int .i64 Sm, .int .i64 Se] 25)).cell? ⟨w10.heap.size, 3, none⟩ = some (.int .i64 Se) := new_cell2 _ _ _ _ _ _ (by simp) rfl
  have sz12 : w10.heap.size + 1 ≤ (w10.alloc (.cells #[.int .i64 Sk, .bool Sn, .int .i64 Sm, .int .i64 Se] 25)).heap.size := by simp
  replace ca0 := kn.cell0 ca0
  replace ca1 := kn.cell0 ca1
  replace ca2 := kn.cell0 ca2
  replace ca3 := kn.cell0 ca3
  replace cb0 := kn.cell0 cb0
  replace cb1 := kn.cell0 cb1
  replace cb2 := kn.cell0 cb2
  replace cb3 := kn.cell0 cb3
  replace K := hide ((unhide K).trans kn)
  have z13 := kn.size
  clear kn
  go_wp2_with fail
  generalize (w10.alloc (.cells #[.int .i64 Sk, .bool Sn, .int .i64 Sm, .int .i64 Se] 25)) = wn14 at *
  refine (unhide mt _ ((unhide HT).kept (unhide K))).mono ?_
  rintro e w15 ⟨rfl, k15⟩
  replace ca0 := k15.cell0 ca0
  replace ca1 := k15.cell0 ca1
  replace ca2 := k15.cell0 ca2
  replace ca3 := k15.cell0 ca3
  replace cb0 := k15.cell0 cb0
  replace cb1 := k15.cell0 cb1
  replace cb2 := k15.cell0 cb2
  replace cb3 := k15.cell0 cb3
  replace cs0 := k15.cell0 cs0
  replace cs1 := k15.cell0 cs1
  replace cs2 := k15.cell0 cs2
  replace cs3 := k15.cell0 cs3
  replace K := hide ((unhide K).trans k15)
  have z16 := k15.size
  clear k15
  clear mt
  have kn := (Kept.refl 0 0 w15).alloc (.cells #[.int .i64 Sk, .bool Sn, .int .i64 Sm, .int .i64 Se] 25)
  have ct0 : (w15.alloc (.cells #[.int .i64 Sk, .bool Sn, .int .i64 Sm, .int .i64 Se] 25)).cell? ⟨w15.heap.size, 0, none⟩ = some (.int .i64 Sk) := new_cell2 _ _ _ _ _ _ (by simp) rfl
  have ct1 : (w15.alloc (.cells #[.int .i64 Sk, .bool Sn, .int .i64 Sm, .int .i64 Se] 25)).cell? ⟨w15.heap.size, 1, none⟩ = some (.bool Sn) := new_cell2 _ _ _ _ _ _ (by simp) rfl
  have ct2 : (w15.alloc (.cells #[.int .i64 Sk, .bool Sn, .int .i64 Sm, .int .i64 Se] 25)).cell? ⟨w15.heap.size, 2, none⟩ = some (.int .i64 Sm) := new_cell2 _ _ _ _ _ _ (by simp) rfl
  have ct3 : (w15.alloc (.cells #[.int .i64 Sk, .bool Sn, .int .i64 Sm, .int .i64 Se] 25)).cell? ⟨w15.heap.size, 3, none⟩ = some (.int .i64 Se) := new_cell2 _ _ _ _ _ _ (by simp) rfl
  have sz17 : w15.heap.size + 1 ≤ (w15.alloc (.cells #[.int .i64 Sk, .bool Sn, .int .i64 Sm, .int .i64 Se] 25)).heap.size := by simp
  replace ca0 := kn.cell0 ca0
  replace ca1 := kn.cell0 ca1
  replace ca2 := kn.cell0 ca2
  replace ca3 := kn.cell0 ca3
  replace cb0 := kn.cell0 cb0
  replace cb1 := kn.cell0 cb1
  replace cb2 := kn.cell0 cb2
  replace cb3 := kn.cell0 cb3
  replace cs0 := kn.cell0 cs0
  replace cs1 := kn.cell0 cs1
  replace cs2 := kn.cell0 cs2
  replace cs3 := kn.cell0 cs3
  replace K := hide ((unhide K).trans kn)
  have z18 := kn.size
  clear kn
  go_wp2_with fail
  generalize (w15.alloc (.cells #[.int .i64 Sk, .bool Sn, .int .i64 Sm, .int .i64 Se] 25)) = wn19 at *
  refine (unhide mp _ ((unhide HT).kept (unhide K))).mono ?_
  rintro e w20 ⟨rfl, k20⟩
  replace ca0 := k20.cell0 ca0
  replace ca1 := k20.cell0 ca1
  replace ca2 := k20.cell0 ca2
  replace ca3 := k20.cell0 ca3
  replace cb0 := k20.cell0 cb0
  replace cb1 := k20.cell0 cb1
  replace cb2 := k20.cell0 cb2
  replace cb3 := k20.cell0 cb3
  replace cs0 := k20.cell0 cs0
  replace cs1 := k20.cell0 cs1
  replace cs2 := k20.cell0 cs2
  replace cs3 := k20.cell0 cs3
  replace ct0 := k20.cell0 ct0
  replace ct1 := k20.cell0 ct1
  replace ct2 := k20.cell0 ct2
  replace ct3 := k20.cell0 ct3
  replace K := hide ((unhide K).trans k20)
  have z21 := k20.size
  clear k20
  clear mp
  have kn := (Kept.refl 0 0 w20).alloc (.cells #[.int .i64 Pk, .bool Pn, .int .i64 Pm, .int .i64 Pe] 25)
  have cp0 : (w20.alloc (.cells #[.int .i64 Pk, .bool Pn, .int .i64 Pm, .int .i64 Pe] 25)).cell? ⟨w20.heap.size, 0, none⟩ = some (.int .i64 Pk) := new_cell2 _ _ _ _ _ _ (by simp) rfl
  have cp1 : (w20.alloc (.cells #[.int .i64 Pk, .bool Pn, .int .i64 Pm, .int .i64 Pe] 25)).cell? ⟨w20.heap.size, 1, none⟩ = some (.bool Pn) := new_cell2 _ _ _ _ _ _ (by simp) rfl
  have cp2 : (w20.alloc (.cells #[.int .i64 Pk, .bool Pn, .int .i64 Pm, .int .i64 Pe] 25)).cell? ⟨w20.heap.size, 2, none⟩ = some (.int .i64 Pm) := new_cell2 _ _ _ _ _ _ (by simp) rfl
  have cp3 : (w20.alloc (.cells #[.int .i64 Pk, .bool Pn, .int .i64 Pm, .int .i64 Pe] 25)).cell? ⟨w20.heap.size, 3, none⟩ = some (.int .i64 Pe) := new_cell2 _ _ _ _ _ _ (by simp) rfl
  have sz22 : w20.heap.size + 1 ≤ (w20.alloc (.cells #[.int .i64 Pk, .bool Pn, .int .i64 Pm, .int .i64 Pe] 25)).heap.size := by simp
  replace ca0 := kn.cell0 ca0
  replace ca1 := kn.cell0 ca1
  replace ca2 := kn.cell0 ca2
  replace ca3 := kn.cell0 ca3
  replace cb0 := kn.cell0 cb0
  replace cb1 := kn.cell0 cb1
  replace cb2 := kn.cell0 cb2
  replace cb3 := kn.cell0 cb3
  replace cs0 := kn.cell0 cs0
  replace cs1 := kn.cell0 cs1
  replace cs2 := kn.cell0 cs2
  replace cs3 := kn.cell0 cs3
  replace ct0 := kn.cell0 ct0
  replace ct1 := kn.cell0 ct1
  replace ct2 := kn.cell0 ct2
  replace ct3 := kn.cell0 ct3
  replace K := hide ((unhide K).trans kn)
  have z23 := kn.size
  clear kn
  go_wp2_with fail
  generalize (w20.alloc (.cells #[.int .i64 Pk, .bool Pn, .int .i64 Pm, .int .i64 Pe] 25)) = wn24 at *
  refine (unhide mq _ ((unhide HT).kept (unhide K))).mono ?_
  rintro e w25 ⟨rfl, k25⟩
  replace ca0 := k25.cell0 ca0
  replace ca1 := k25.cell0 ca1
  replace ca2 := k25.cell0 ca2
  replace ca3 := k25.cell0 ca3
  replace cb0 := k25.cell0 cb0
  replace cb1 := k25.cell0 cb1
  replace cb2 := k25.cell0 cb2
  replace cb3 := k25.cell0 cb3
  replace cs0 := k25.cell0 cs0
  replace cs1 := k25.cell0 cs1
  replace cs2 := k25.cell0 cs2
  replace cs3 := k25.cell0 cs3
  replace ct0 := k25.cell0 ct0
  replace ct1 := k25.cell0 ct1
  replace ct2 := k25.cell0 ct2
  replace ct3 := k25.cell0 ct3
  replace cp0 := k25.cell0 cp0
  replace cp1 := k25.cell0 cp1
  replace cp2 := k25.cell0 cp2
  replace cp3 := k25.cell0 cp3
  replace K := hide ((unhide K).trans k25)
  have z26 := k25.size
  clear k25
  clear mq
  have kn := (Kept.refl 0 0 w25).alloc (.cells #[.int .i64 Pk, .bool Pn, .int .i64 Pm, .int .i64 Pe] 25)
  have cq0 : (w25.alloc (.cells #[.int .i64 Pk, .bool Pn, .int .i64 Pm, .int .i64 Pe] 25)).cell? ⟨w25.heap.size, 0, none⟩ = some (.int .i64 Pk) := new_cell2 _ _ _ _ _ _ (by simp) rfl
  have cq1 : (w25.alloc (.cells #[.int .i64 Pk, .bool Pn, .int .i64 Pm, .int .i64 Pe] 25)).cell? ⟨w25.heap.size, 1, none⟩ = some (.bool Pn) := new_cell2 _ _ _ _ _ _ (by simp) rfl
  have cq2 : (w25.alloc (.cells #[.int .i64 Pk, .bool Pn, .int .i64 Pm, .int .i64 Pe] 25)).cell? ⟨w25.heap.size, 2, none⟩ = some (.int .i64 Pm) := new_cell2 _ _ _ _ _ _ (by simp) rfl
  have cq3 : (w25.alloc (.cells #[.int .i64 Pk, .bool Pn, .int .i64 Pm, .int .i64 Pe] 25)).cell? ⟨w25.heap.size, 3, none⟩ = some (.int .i64 Pe) := new_cell2 _ _ _ _ _ _ (by simp) rfl
  have sz27 : w25.heap.size + 1 ≤ (w25.alloc (.cells #[.int .i64 Pk, .bool Pn, .int .i64 Pm, .int .i64 Pe] 25)).heap.size := by simp
  replace ca0 := kn.cell0 ca0
  replace ca1 := kn.cell0 ca1
  replace ca2 := kn.cell0 ca2
  replace ca3 := kn.cell0 ca3
  replace cb0 := kn.cell0 cb0
  replace cb1 := kn.cell0 cb1
  replace cb2 := kn.cell0 cb2
  replace cb3 := kn.cell0 cb3
  replace cs0 := kn.cell0 cs0
  replace cs1 := kn.cell0 cs1
  replace cs2 := kn.cell0 cs2
  replace cs3 := kn.cell0 cs3
  replace ct0 := kn.cell0 ct0
  replace ct1 := kn.cell0 ct1
  replace ct2 := kn.cell0 ct2
  replace ct3 := kn.cell0 ct3
  replace cp0 := kn.cell0 cp0
  replace cp1 := kn.cell0 cp1
  replace cp2 := kn.cell0 cp2
  replace cp3 := kn.cell0 cp3
  replace K := hide ((unhide K).trans kn)
  have z28 := kn.size
  clear kn
  go_wp2_with fail
  generalize (w25.alloc (.cells #[.int .i64 Pk, .bool Pn, .int .i64 Pm, .int .i64 Pe] 25)) = wn29 at *
  refine (unhide mdd _ ((unhide HT).kept (unhide K))).mono ?_
  rintro e w30 ⟨rfl, k30⟩
  replace ca0 := k30.cell0 ca0
  replace ca1 := k30.cell0 ca1
  replace ca2 := k30.cell0 ca2
  replace ca3 := k30.cell0 ca3
  replace cb0 := k30.cell0 cb0
  replace cb1 := k30.cell0 cb1
  replace cb2 := k30.cell0 cb2
  replace cb3 := k30.cell0 cb3
  replace cs0 := k30.cell0 cs0
  replace cs1 := k30.cell0 cs1
  replace cs2 := k30.cell0 cs2
  replace cs3 := k30.cell0 cs3
  replace ct0 := k30.cell0 ct0
  replace ct1 := k30.cell0 ct1
  replace ct2 := k30.cell0 ct2
  replace ct3 := k30.cell0 ct3
  replace cp0 := k30.cell0 cp0
  replace cp1 := k30.cell0 cp1
  replace cp2 := k30.cell0 cp2
  replace cp3 := k30.cell0 cp3
  replace cq0 := k30.cell0 cq0
  replace cq1 := k30.cell0 cq1
  replace cq2 := k30.cell0 cq2
  replace cq3 := k30.cell0 cq3
  replace K := hide ((unhide K).trans k30)
  have z31 := k30.size
  clear k30
  clear mdd
  have kn := (Kept.refl 0 0 w30).alloc (.cells #[.int .i64 Dk, .bool Dn, .int .i64 Dm, .int .i64 De] 25)
  have cd0 : (w30.alloc (.cells #[.int .i64 Dk, .bool Dn, .int .i64 Dm, .int .i64 De] 25)).cell? ⟨w30.heap.size, 0, none⟩ = some (.int .i64 Dk) := new_cell2 _ _ _ _ _ _ (by simp) rfl
  have cd1 : (w30.alloc (.cells #[.int .i64 Dk, .bool Dn, .int .i64 Dm, .int .i64 De] 25)).cell? ⟨w30.heap.size, 1, none⟩ = some (.bool Dn) := new_cell2 _ _ _ _ _ _ (by simp) rfl
  have cd2 : (w30.alloc (.cells #[.int .i64 Dk, .bool Dn, .int .i64 Dm, .int .i64 De] 25)).cell? ⟨w30.heap.size, 2, none⟩ = some (.int .i64 Dm) := new_cell2 _ _ _ _ _ _ (by simp) rfl
  have cd3 : (w30.alloc (.cells #[.int .i64 Dk, .bool Dn, .int .i64 Dm, .int .i64 De] 25)).cell? ⟨w30.heap.size, 3, none⟩ = some (.int .i64 De) := new_cell2 _ _ _ _ _ _ (by simp) rfl
  replace ca0 := kn.cell0 ca0
  replace ca1 := kn.cell0 ca1
  replace ca2 := kn.cell0 ca2
  replace ca3 := kn.cell0 ca3
  replace cb0 := kn.cell0 cb0
  replace cb1 := kn.cell0 cb1
  replace cb2 := kn.cell0 cb2
  replace cb3 := kn.cell0 cb3
  replace cs0 := kn.cell0 cs0
  replace cs1 := kn.cell0 cs1
  replace cs2 := kn.cell0 cs2
  replace cs3 := kn.cell0 cs3
  replace ct0 := kn.cell0 ct0
  replace ct1 := kn.cell0 ct1
  replace ct2 := kn.cell0 ct2
  replace ct3 := kn.cell0 ct3
  replace cp0 := kn.cell0 cp0
  replace cp1 := kn.cell0 cp1
  replace cp2 := kn.cell0 cp2
  replace cp3 := kn.cell0 cp3
  replace cq0 := kn.cell0 cq0
  replace cq1 := kn.cell0 cq1
  replace cq2 := kn.cell0 cq2
  replace cq3 := kn.cell0 cq3
  replace K := hide ((unhide K).trans kn)
  have z32 := kn.size
  clear kn
  go_upto_region 9 with fail
  generalize w30.alloc (.cells #[.int .i64 Dk, .bool Dn, .int .i64 Dm, .int .i64 De] 25) = wz at *
  go_cut [16, 17] (fun p g wx => ∃ X, p = .pointer (some ⟨X, 0, none⟩) ∧ g = .int .i64 Ef ∧ FB wx X Ek En Em Ee ∧ Kept 0 0 wz wx)
  case first =>
    have kw := Kept.refl 0 0 wz
    have kd := (Kept.refl 0 0 wz).drew
    replace kw := kw.trans kd
    replace ca0 := kd.cell0 ca0
    replace ca1 := kd.cell0 ca1
    replace ca2 := kd.cell0 ca2
    replace ca3 := kd.cell0 ca3
    replace cb0 := kd.cell0 cb0
    replace cb1 := kd.cell0 cb1
    replace cb2 := kd.cell0 cb2
    replace cb3 := kd.cell0 cb3
    replace cs0 := kd.cell0 cs0
    replace cs1 := kd.cell0 cs1
    replace cs2 := kd.cell0 cs2
    replace cs3 := kd.cell0 cs3
    replace ct0 := kd.cell0 ct0
    replace ct1 := kd.cell0 ct1
    replace ct2 := kd.cell0 ct2
    replace ct3 := kd.cell0 ct3
    replace cp0 := kd.cell0 cp0
    replace cp1 := kd.cell0 cp1
    replace cp2 := kd.cell0 cp2
    replace cp3 := kd.cell0 cp3
    replace cq0 := kd.cell0 cq0
    replace cq1 := kd.cell0 cq1
    replace cq2 := kd.cell0 cq2
    replace cq3 := kd.cell0 cq3
    replace cd0 := kd.cell0 cd0
    replace cd1 := kd.cell0 cd1
    replace cd2 := kd.cell0 cd2
    replace cd3 := kd.cell0 cd3
    replace K := hide ((unhide K).trans kd)
    have z33 := kd.size
    clear kd
    refine wp_region_held_drew (S := (fun w' => w'.cell? ⟨w3.heap.size, 0, none⟩ = some (.int .i64 fk) ∧ w'.cell? ⟨w3.heap.size, 1, none⟩ = some (.bool fn) ∧ w'.cell? ⟨w3.heap.size, 2, none⟩ = some (.int .i64 fm) ∧ w'.cell? ⟨w3.heap.size, 3, none⟩ = some (.int .i64 fe) ∧ w'.cell? ⟨w3.heap.size + 1, 0, none⟩ = some (.int .i64 hk) ∧ w'.cell? ⟨w3.heap.size + 1, 1, none⟩ = some (.bool hn) ∧ w'.cell? ⟨w3.heap.size + 1, 2, none⟩ = some (.int .i64 hm) ∧ w'.cell? ⟨w3.heap.size + 1, 3, none⟩ = some (.int .i64 he))) (by kernel_rfl) ?_ (fun hHeld => ?_)
    · exact ⟨ca0, ca1, ca2, ca3, cb0, cb1, cb2, cb3⟩
    generalize wz.drew = wd34 at *
    refine wpAnyH_take (i := 0) (oi := _) (v := .agg #[.int .i64 fk, .bool fn, .int .i64 fm, .int .i64 fe]) rfl (by kernel_rfl) (by kernel_rfl) (by kernel_rfl) (fun _ _ _ h => h) (Or.inl ⟨by rfl, ?_⟩) hHeld ?_
    · intro wq hSw
      try dsimp only at hSw
      go_simp
    try simp only [Act.put, List.getElem_toArray, List.getElem_cons_succ, List.getElem_cons_zero, List.setIfInBounds_toArray, List.set_cons_zero, List.set_cons_succ]
    refine wpAnyH_take (i := 1) (oi := _) (v := .agg #[.int .i64 hk, .bool hn, .int .i64 hm, .int .i64 he]) rfl (by kernel_rfl) (by kernel_rfl) (by kernel_rfl) (fun _ _ _ h => h) (Or.inl ⟨by rfl, ?_⟩) hHeld ?_
    · intro wq hSw
      try dsimp only at hSw
      go_simp
    try simp only [Act.put, List.getElem_toArray, List.getElem_cons_succ, List.getElem_cons_zero, List.setIfInBounds_toArray, List.set_cons_zero, List.set_cons_succ]
    refine wpAnyH_take (i := 3) (oi := _) (v := .int .i64 md) rfl (by kernel_rfl) (by kernel_rfl) (by kernel_rfl) (fun _ _ _ h => h) (Or.inl ⟨by rfl, ?_⟩) hHeld ?_
    · intro wq hSw
      try dsimp only at hSw
      go_simp
    try simp only [Act.put, List.getElem_toArray, List.getElem_cons_succ, List.getElem_cons_zero, List.setIfInBounds_toArray, List.set_cons_zero, List.set_cons_succ]
    refine wpAnyH_ready (rs := [2, 8]) (by kernel_rfl) (by simp) ?_
    refine AllReadyH.cons rfl (fun KK hK => ?_) (AllReadyH.cons rfl (fun KK hK => ?_) AllReadyH.nil)
    · simp only [List.getElem_toArray, List.getElem_cons_succ, List.getElem_cons_zero]
      rw [if_pos (by rfl)]
      refine wps1 13 (.tmp 63) _ rfl in_FlNeg_g (.agg #[.int .i64 hk, .bool hn, .int .i64 hm, .int .i64 he]) rfl (unhide mn _) ?_
      rintro e w35 ⟨rfl, k35⟩
      refine ⟨_, rfl, ?_⟩
      replace kw := kw.trans k35
      replace ca0 := k35.cell0 ca0
      replace ca1 := k35.cell0 ca1
      replace ca2 := k35.cell0 ca2
      replace ca3 := k35.cell0 ca3
      replace cb0 := k35.cell0 cb0
      replace cb1 := k35.cell0 cb1
      replace cb2 := k35.cell0 cb2
      replace cb3 := k35.cell0 cb3
      replace cs0 := k35.cell0 cs0
      replace cs1 := k35.cell0 cs1
      replace cs2 := k35.cell0 cs2
      replace cs3 := k35.cell0 cs3
      replace ct0 := k35.cell0 ct0
      replace ct1 := k35.cell0 ct1
      replace ct2 := k35.cell0 ct2
      replace ct3 := k35.cell0 ct3
      replace cp0 := k35.cell0 cp0
      replace cp1 := k35.cell0 cp1
      replace cp2 := k35.cell0 cp2
      replace cp3 := k35.cell0 cp3
      replace cq0 := k35.cell0 cq0
      replace cq1 := k35.cell0 cq1
      replace cq2 := k35.cell0 cq2
      replace cq3 := k35.cell0 cq3
      replace cd0 := k35.cell0 cd0
      replace cd1 := k35.cell0 cd1
      replace cd2 := k35.cell0 cd2
      replace cd3 := k35.cell0 cd3
      replace K := hide ((unhide K).trans k35)
      have z36 := k35.size
      clear k35
      clear hHeld
      refine hK.out _ _ ?_ (fun hHeld => ?_)
      · exact ⟨ca0, ca1, ca2, ca3, cb0, cb1, cb2, cb3⟩
      clear hK KK
      try simp only [Act.put, List.getElem_toArray, List.getElem_cons_succ, List.getElem_cons_zero, List.setIfInBounds_toArray, List.set_cons_zero, List.set_cons_succ]
      refine wpAnyH_ready (rs := [4, 8]) (by kernel_rfl) (by simp) ?_
      refine AllReadyH.cons rfl (fun KK hK => ?_) (AllReadyH.cons rfl (fun KK hK => ?_) AllReadyH.nil)
      · simp only [List.getElem_toArray, List.getElem_cons_succ, List.getElem_cons_zero]
        rw [if_pos (by rfl)]
        refine wps3 10 (.tmp 62) (.tmp 64) (.tmp 65) _ rfl in_FlAdd_g (.agg #[.int .i64 fk, .bool fn, .int .i64 fm, .int .i64 fe]) (.agg #[.int .i64 gk, .bool gn, .int .i64 gm, .int .i64 ge]) (.int .i64 md) rfl rfl rfl (unhide me _ ((unhide HT).kept (unhide K))) ?_
        rintro e w37 ⟨rfl, k37⟩
        refine ⟨_, rfl, ?_⟩
        replace kw := kw.trans k37
        replace ca0 := k37.cell0 ca0
        replace ca1 := k37.cell0 ca1
        replace ca2 := k37.cell0 ca2
        replace ca3 := k37.cell0 ca3
        replace cb0 := k37.cell0 cb0
        replace cb1 := k37.cell0 cb1
        replace cb2 := k37.cell0 cb2
        replace cb3 := k37.cell0 cb3
        replace cs0 := k37.cell0 cs0
        replace cs1 := k37.cell0 cs1
        replace cs2 := k37.cell0 cs2
        replace cs3 := k37.cell0 cs3
        replace ct0 := k37.cell0 ct0
        replace ct1 := k37.cell0 ct1
        replace ct2 := k37.cell0 ct2
        replace ct3 := k37.cell0 ct3
        replace cp0 := k37.cell0 cp0
        replace cp1 := k37.cell0 cp1
        replace cp2 := k37.cell0 cp2
        replace cp3 := k37.cell0 cp3
        replace cq0 := k37.cell0 cq0
        replace cq1 := k37.cell0 cq1
        replace cq2 := k37.cell0 cq2
        replace cq3 := k37.cell0 cq3
        replace cd0 := k37.cell0 cd0
        replace cd1 := k37.cell0 cd1
        replace cd2 := k37.cell0 cd2
        replace cd3 := k37.cell0 cd3
        replace K := hide ((unhide K).trans k37)
        have z38 := k37.size
        clear k37
        clear hHeld
        refine hK.out _ _ ?_ (fun hHeld => ?_)
        · exact ⟨ca0, ca1, ca2, ca3, cb0, cb1, cb2, cb3⟩
        clear hK KK
        try simp only [Act.put, List.getElem_toArray, List.getElem_cons_succ, List.getElem_cons_zero, List.setIfInBounds_toArray, List.set_cons_zero, List.set_cons_succ]
        refine wpAnyH_take (i := 5) (oi := _) (v := .tuple #[.agg #[.int .i64 Ek, .bool En, .int .i64 Em, .int .i64 Ee], .int .i64 Ef]) rfl (by kernel_rfl) (by kernel_rfl) (by kernel_rfl) (fun _ _ _ h => h) (Or.inl ⟨by rfl, ?_⟩) hHeld ?_
        · intro wq hSw
          try dsimp only at hSw
          go_simp
        try simp only [Act.put, List.getElem_toArray, List.getElem_cons_succ, List.getElem_cons_zero, List.setIfInBounds_toArray, List.set_cons_zero, List.set_cons_succ]
        refine wpAnyH_take (i := 6) (oi := _) (v := .agg #[.int .i64 Ek, .bool En, .int .i64 Em, .int .i64 Ee]) rfl (by kernel_rfl) (by kernel_rfl) (by kernel_rfl) (fun _ _ _ h => h) (Or.inl ⟨by rfl, ?_⟩) hHeld ?_
        · intro wq hSw
          try dsimp only at hSw
          go_simp
        try simp only [Act.put, List.getElem_toArray, List.getElem_cons_succ, List.getElem_cons_zero, List.setIfInBounds_toArray, List.set_cons_zero, List.set_cons_succ]
        refine wpAnyH_take (i := 7) (oi := _) (v := .int .i64 Ef) rfl (by kernel_rfl) (by kernel_rfl) (by kernel_rfl) (fun _ _ _ h => h) (Or.inl ⟨by rfl, ?_⟩) hHeld ?_
        · intro wq hSw
          try dsimp only at hSw
          go_simp
        try simp only [Act.put, List.getElem_toArray, List.getElem_cons_succ, List.getElem_cons_zero, List.setIfInBounds_toArray, List.set_cons_zero, List.set_cons_succ]
        refine wpAnyH_ready (rs := [8]) (by kernel_rfl) (by simp) ?_
        refine AllReadyH.cons rfl (fun KK hK => ?_) AllReadyH.nil
        simp only [List.getElem_toArray, List.getElem_cons_succ, List.getElem_cons_zero]
        rw [if_pos (by rfl)]
        go_simp
        have kn := (Kept.refl 0 0 w37).alloc (.cells #[.int .i64 0, .bool false, .int .i64 0, .int .i64 0] 25)
        replace kw := kw.trans kn
        replace ca0 := kn.cell0 ca0
        replace ca1 := kn.cell0 ca1
        replace ca2 := kn.cell0 ca2
        replace ca3 := kn.cell0 ca3
        replace cb0 := kn.cell0 cb0
        replace cb1 := kn.cell0 cb1
        replace cb2 := kn.cell0 cb2
        replace cb3 := kn.cell0 cb3
        replace cs0 := kn.cell0 cs0
        replace cs1 := kn.cell0 cs1
        replace cs2 := kn.cell0 cs2
        replace cs3 := kn.cell0 cs3
        replace ct0 := kn.cell0 ct0
        replace ct1 := kn.cell0 ct1
        replace ct2 := kn.cell0 ct2
        replace ct3 := kn.cell0 ct3
        replace cp0 := kn.cell0 cp0
        replace cp1 := kn.cell0 cp1
        replace cp2 := kn.cell0 cp2
        replace cp3 := kn.cell0 cp3
        replace cq0 := kn.cell0 cq0
        replace cq1 := kn.cell0 cq1
        replace cq2 := kn.cell0 cq2
        replace cq3 := kn.cell0 cq3
        replace cd0 := kn.cell0 cd0
        replace cd1 := kn.cell0 cd1
        replace cd2 := kn.cell0 cd2
        replace cd3 := kn.cell0 cd3
        replace K := hide ((unhide K).trans kn)
        have z40 := kn.size
        clear kn
        have szy : w37.heap.size < (w37.alloc (.cells #[.int .i64 0, .bool false, .int .i64 0, .int .i64 0] 25)).heap.size := by simp
        have y0 : (w37.alloc (.cells #[.int .i64 0, .bool false, .int .i64 0, .int .i64 0] 25)).cell? ⟨w37.heap.size, 0, none⟩ = some (.int .i64 0) := new_cell2 _ _ _ _ _ _ rfl rfl
        have yf0 : (w37.alloc (.cells #[.int .i64 0, .bool false, .int .i64 0, .int .i64 0] 25)).frozen? ⟨w37.heap.size, 0, none⟩ = false := new_loose2 _ _ _ _ _ rfl
        have y1 : (w37.alloc (.cells #[.int .i64 0, .bool false, .int .i64 0, .int .i64 0] 25)).cell? ⟨w37.heap.size, 1, none⟩ = some (.bool false) := new_cell2 _ _ _ _ _ _ rfl rfl
        have yf1 : (w37.alloc (.cells #[.int .i64 0, .bool false, .int .i64 0, .int .i64 0] 25)).frozen? ⟨w37.heap.size, 1, none⟩ = false := new_loose2 _ _ _ _ _ rfl
        have y2 : (w37.alloc (.cells #[.int .i64 0, .bool false, .int .i64 0, .int .i64 0] 25)).cell? ⟨w37.heap.size, 2, none⟩ = some (.int .i64 0) := new_cell2 _ _ _ _ _ _ rfl rfl
        have yf2 : (w37.alloc (.cells #[.int .i64 0, .bool false, .int .i64 0, .int .i64 0] 25)).frozen? ⟨w37.heap.size, 2, none⟩ = false := new_loose2 _ _ _ _ _ rfl
        have y3 : (w37.alloc (.cells #[.int .i64 0, .bool false, .int .i64 0, .int .i64 0] 25)).cell? ⟨w37.heap.size, 3, none⟩ = some (.int .i64 0) := new_cell2 _ _ _ _ _ _ rfl rfl
        have yf3 : (w37.alloc (.cells #[.int .i64 0, .bool false, .int .i64 0, .int .i64 0] 25)).frozen? ⟨w37.heap.size, 3, none⟩ = false := new_loose2 _ _ _ _ _ rfl
        clear hHeld
        refine hK.out _ _ ?_ (fun hHeld => ?_)
        · exact ⟨ca0, ca1, ca2, ca3, cb0, cb1, cb2, cb3⟩
        clear hK KK
        try simp only [Act.put, List.getElem_toArray, List.getElem_cons_succ, List.getElem_cons_zero, List.setIfInBounds_toArray, List.set_cons_zero, List.set_cons_succ]
        generalize w37.alloc (.cells #[.int .i64 0, .bool false, .int .i64 0, .int .i64 0] 25) = w39 at *
        refine wpAnyH_ready (rs := [9]) (by kernel_rfl) (by simp) ?_
        refine AllReadyH.cons rfl (fun KK hK => ?_) AllReadyH.nil
        simp only [List.getElem_toArray, List.getElem_cons_succ, List.getElem_cons_zero]
        rw [if_pos (by rfl)]
        go_simp
        clear hHeld
        refine hK.out _ _ ?_ (fun hHeld => ?_)
        · exact ⟨(cell_aside _ (by dsimp only; omega) (cell_aside _ (by dsimp only; omega) (cell_aside _ (by dsimp only; omega) (cell_aside _ (by dsimp only; omega) ca0)))), (cell_aside _ (by dsimp only; omega) (cell_aside _ (by dsimp only; omega) (cell_aside _ (by dsimp only; omega) (cell_aside _ (by dsimp only; omega) ca1)))), (cell_aside _ (by dsimp only; omega) (cell_aside _ (by dsimp only; omega) (cell_aside _ (by dsimp only; omega) (cell_aside _ (by dsimp only; omega) ca2)))), (cell_aside _ (by dsimp only; omega) (cell_aside _ (by dsimp only; omega) (cell_aside _ (by dsimp only; omega) (cell_aside _ (by dsimp only; omega) ca3)))), (cell_aside _ (by dsimp only; omega) (cell_aside _ (by dsimp only; omega) (cell_aside _ (by dsimp only; omega) (cell_aside _ (by dsimp only; omega) cb0)))), (cell_aside _ (by dsimp only; omega) (cell_aside _ (by dsimp only; omega) (cell_aside _ (by dsimp only; omega) (cell_aside _ (by dsimp only; omega) cb1)))), (cell_aside _ (by dsimp only; omega) (cell_aside _ (by dsimp only; omega) (cell_aside _ (by dsimp only; omega) (cell_aside _ (by dsimp only; omega) cb2)))), (cell_aside _ (by dsimp only; omega) (cell_aside _ (by dsimp only; omega) (cell_aside _ (by dsimp only; omega) (cell_aside _ (by dsimp only; omega) cb3))))⟩
        clear hK KK
        try simp only [Act.put, List.getElem_toArray, List.getElem_cons_succ, List.getElem_cons_zero, List.setIfInBounds_toArray, List.set_cons_zero, List.set_cons_succ]
        refine wpAnyH_take (i := 10) (oi := _) (v := .int .i64 Ef) rfl (by kernel_rfl) (by kernel_rfl) (by kernel_rfl) (fun _ _ _ h => h) (Or.inl ⟨by rfl, ?_⟩) hHeld ?_
        · intro wq hSw
          try dsimp only at hSw
          go_simp
        try simp only [Act.put, List.getElem_toArray, List.getElem_cons_succ, List.getElem_cons_zero, List.setIfInBounds_toArray, List.set_cons_zero, List.set_cons_succ]
        refine wpAnyH_done (by kernel_rfl) ?_ _
        clear hHeld
        go_wp2_with fail
        go_meet
        exact ⟨_, rfl, rfl, FB.set4 _ _ _ _ y0 y1 y2 y3, ((((kw.setNew (p := ⟨w37.heap.size, 0, none⟩) (by dsimp only; omega) (.int .i64 Ek)).setNew (p := ⟨w37.heap.size, 1, none⟩) (by dsimp only; omega) (.bool En)).setNew (p := ⟨w37.heap.size, 2, none⟩) (by dsimp only; omega) (.int .i64 Em)).setNew (p := ⟨w37.heap.size, 3, none⟩) (by dsimp only; omega) (.int .i64 Ee))⟩
      · simp only [List.getElem_toArray, List.getElem_cons_succ, List.getElem_cons_zero]
        rw [if_pos (by rfl)]
        go_simp
        have kn := (Kept.refl 0 0 w35).alloc (.cells #[.int .i64 0, .bool false, .int .i64 0, .int .i64 0] 25)
        replace kw := kw.trans kn
        replace ca0 := kn.cell0 ca0
        replace ca1 := kn.cell0 ca1
        replace ca2 := kn.cell0 ca2
        replace ca3 := kn.cell0 ca3
        replace cb0 := kn.cell0 cb0
        replace cb1 := kn.cell0 cb1
        replace cb2 := kn.cell0 cb2
        replace cb3 := kn.cell0 cb3
        replace cs0 := kn.cell0 cs0
        replace cs1 := kn.cell0 cs1
        replace cs2 := kn.cell0 cs2
        replace cs3 := kn.cell0 cs3
        replace ct0 := kn.cell0 ct0
        replace ct1 := kn.cell0 ct1
        replace ct2 := kn.cell0 ct2
        replace ct3 := kn.cell0 ct3
        replace cp0 := kn.cell0 cp0
        replace cp1 := kn.cell0 cp1
        replace cp2 := kn.cell0 cp2
        replace cp3 := kn.cell0 cp3
        replace cq0 := kn.cell0 cq0
        replace cq1 := kn.cell0 cq1
        replace cq2 := kn.cell0 cq2
        replace cq3 := kn.cell0 cq3
        replace cd0 := kn.cell0 cd0
        replace cd1 := kn.cell0 cd1
        replace cd2 := kn.cell0 cd2
        replace cd3 := kn.cell0 cd3
        replace K := hide ((unhide K).trans kn)
        have z38 := kn.size
        clear kn
        have szy : w35.heap.size < (w35.alloc (.cells #[.int .i64 0, .bool false, .int .i64 0, .int .i64 0] 25)).heap.size := by simp
        have y0 : (w35.alloc (.cells #[.int .i64 0, .bool false, .int .i64 0, .int .i64 0] 25)).cell? ⟨w35.heap.size, 0, none⟩ = some (.int .i64 0) := new_cell2 _ _ _ _ _ _ rfl rfl
        have yf0 : (w35.alloc (.cells #[.int .i64 0, .bool false, .int .i64 0, .int .i64 0] 25)).frozen? ⟨w35.heap.size, 0, none⟩ = false := new_loose2 _ _ _ _ _ rfl
        have y1 : (w35.alloc (.cells #[.int .i64 0, .bool false, .int .i64 0, .int .i64 0] 25)).cell? ⟨w35.heap.size, 1, none⟩ = some (.bool false) := new_cell2 _ _ _ _ _ _ rfl rfl
        have yf1 : (w35.alloc (.cells #[.int .i64 0, .bool false, .int .i64 0, .int .i64 0] 25)).frozen? ⟨w35.heap.size, 1, none⟩ = false := new_loose2 _ _ _ _ _ rfl
        have y2 : (w35.alloc (.cells #[.int .i64 0, .bool false, .int .i64 0, .int .i64 0] 25)).cell? ⟨w35.heap.size, 2, none⟩ = some (.int .i64 0) := new_cell2 _ _ _ _ _ _ rfl rfl
        have yf2 : (w35.alloc (.cells #[.int .i64 0, .bool false, .int .i64 0, .int .i64 0] 25)).frozen? ⟨w35.heap.size, 2, none⟩ = false := new_loose2 _ _ _ _ _ rfl
        have y3 : (w35.alloc (.cells #[.int .i64 0, .bool false, .int .i64 0, .int .i64 0] 25)).cell? ⟨w35.heap.size, 3, none⟩ = some (.int .i64 0) := new_cell2 _ _ _ _ _ _ rfl rfl
        have yf3 : (w35.alloc (.cells #[.int .i64 0, .bool false, .int .i64 0, .int .i64 0] 25)).frozen? ⟨w35.heap.size, 3, none⟩ = false := new_loose2 _ _ _ _ _ rfl
        clear hHeld
        refine hK.out _ _ ?_ (fun hHeld => ?_)
        · exact ⟨ca0, ca1, ca2, ca3, cb0, cb1, cb2, cb3⟩
        clear hK KK
        try simp only [Act.put, List.getElem_toArray, List.getElem_cons_succ, List.getElem_cons_zero, List.setIfInBounds_toArray, List.set_cons_zero, List.set_cons_succ]
        generalize w35.alloc (.cells #[.int .i64 0, .bool false, .int .i64 0, .int .i64 0] 25) = w37 at *
        refine wpAnyH_ready (rs := [4]) (by kernel_rfl) (by simp) ?_
        refine AllReadyH.cons rfl (fun KK hK => ?_) AllReadyH.nil
        simp only [List.getElem_toArray, List.getElem_cons_succ, List.getElem_cons_zero]
        rw [if_pos (by rfl)]
        refine wps3 10 (.tmp 62) (.tmp 64) (.tmp 65) _ rfl in_FlAdd_g (.agg #[.int .i64 fk, .bool fn, .int .i64 fm, .int .i64 fe]) (.agg #[.int .i64 gk, .bool gn, .int .i64 gm, .int .i64 ge]) (.int .i64 md) rfl rfl rfl (unhide me _ ((unhide HT).kept (unhide K))) ?_
        rintro e w39 ⟨rfl, k39⟩
        refine ⟨_, rfl, ?_⟩
        replace kw := kw.trans k39
        replace yf0 := k39.loose0 (World.block_lt_of_cell? _ _ y0) yf0
        replace yf1 := k39.loose0 (World.block_lt_of_cell? _ _ y1) yf1
        replace yf2 := k39.loose0 (World.block_lt_of_cell? _ _ y2) yf2
        replace yf3 := k39.loose0 (World.block_lt_of_cell? _ _ y3) yf3
        replace ca0 := k39.cell0 ca0
        replace ca1 := k39.cell0 ca1
        replace ca2 := k39.cell0 ca2
        replace ca3 := k39.cell0 ca3
        replace cb0 := k39.cell0 cb0
        replace cb1 := k39.cell0 cb1
        replace cb2 := k39.cell0 cb2
        replace cb3 := k39.cell0 cb3
        replace cs0 := k39.cell0 cs0
        replace cs1 := k39.cell0 cs1
        replace cs2 := k39.cell0 cs2
        replace cs3 := k39.cell0 cs3
        replace ct0 := k39.cell0 ct0
        replace ct1 := k39.cell0 ct1
        replace ct2 := k39.cell0 ct2
        replace ct3 := k39.cell0 ct3
        replace cp0 := k39.cell0 cp0
        replace cp1 := k39.cell0 cp1
        replace cp2 := k39.cell0 cp2
        replace cp3 := k39.cell0 cp3
        replace cq0 := k39.cell0 cq0
        replace cq1 := k39.cell0 cq1
        replace cq2 := k39.cell0 cq2
        replace cq3 := k39.cell0 cq3
        replace cd0 := k39.cell0 cd0
        replace cd1 := k39.cell0 cd1
        replace cd2 := k39.cell0 cd2
        replace cd3 := k39.cell0 cd3
        replace y0 := k39.cell0 y0
        replace y1 := k39.cell0 y1
        replace y2 := k39.cell0 y2
        replace y3 := k39.cell0 y3
        replace K := hide ((unhide K).trans k39)
        have z40 := k39.size
        clear k39
        clear hHeld
        refine hK.out _ _ ?_ (fun hHeld => ?_)
        · exact ⟨ca0, ca1, ca2, ca3, cb0, cb1, cb2, cb3⟩
        clear hK KK
        try simp only [Act.put, List.getElem_toArray, List.getElem_cons_succ, List.getElem_cons_zero, List.setIfInBounds_toArray, List.set_cons_zero, List.set_cons_succ]
        refine wpAnyH_take (i := 5) (oi := _) (v := .tuple #[.agg #[.int .i64 Ek, .bool En, .int .i64 Em, .int .i64 Ee], .int .i64 Ef]) rfl (by kernel_rfl) (by kernel_rfl) (by kernel_rfl) (fun _ _ _ h => h) (Or.inl ⟨by rfl, ?_⟩) hHeld ?_
        · intro wq hSw
          try dsimp only at hSw
          go_simp
        try simp only [Act.put, List.getElem_toArray, List.getElem_cons_succ, List.getElem_cons_zero, List.setIfInBounds_toArray, List.set_cons_zero, List.set_cons_succ]
        refine wpAnyH_take (i := 6) (oi := _) (v := .agg #[.int .i64 Ek, .bool En, .int .i64 Em, .int .i64 Ee]) rfl (by kernel_rfl) (by kernel_rfl) (by kernel_rfl) (fun _ _ _ h => h) (Or.inl ⟨by rfl, ?_⟩) hHeld ?_
        · intro wq hSw
          try dsimp only at hSw
          go_simp
        try simp only [Act.put, List.getElem_toArray, List.getElem_cons_succ, List.getElem_cons_zero, List.setIfInBounds_toArray, List.set_cons_zero, List.set_cons_succ]
        refine wpAnyH_take (i := 7) (oi := _) (v := .int .i64 Ef) rfl (by kernel_rfl) (by kernel_rfl) (by kernel_rfl) (fun _ _ _ h => h) (Or.inl ⟨by rfl, ?_⟩) hHeld ?_
        · intro wq hSw
          try dsimp only at hSw
          go_simp
        try simp only [Act.put, List.getElem_toArray, List.getElem_cons_succ, List.getElem_cons_zero, List.setIfInBounds_toArray, List.set_cons_zero, List.set_cons_succ]
        refine wpAnyH_ready (rs := [9]) (by kernel_rfl) (by simp) ?_
        refine AllReadyH.cons rfl (fun KK hK => ?_) AllReadyH.nil
        simp only [List.getElem_toArray, List.getElem_cons_succ, List.getElem_cons_zero]
        rw [if_pos (by rfl)]
        go_simp
        clear hHeld
        refine hK.out _ _ ?_ (fun hHeld => ?_)
        · exact ⟨(cell_aside _ (by dsimp only; omega) (cell_aside _ (by dsimp only; omega) (cell_aside _ (by dsimp only; omega) (cell_aside _ (by dsimp only; omega) ca0)))), (cell_aside _ (by dsimp only; omega) (cell_aside _ (by dsimp only; omega) (cell_aside _ (by dsimp only; omega) (cell_aside _ (by dsimp only; omega) ca1)))), (cell_aside _ (by dsimp only; omega) (cell_aside _ (by dsimp only; omega) (cell_aside _ (by dsimp only; omega) (cell_aside _ (by dsimp only; omega) ca2)))), (cell_aside _ (by dsimp only; omega) (cell_aside _ (by dsimp only; omega) (cell_aside _ (by dsimp only; omega) (cell_aside _ (by dsimp only; omega) ca3)))), (cell_aside _ (by dsimp only; omega) (cell_aside _ (by dsimp only; omega) (cell_aside _ (by dsimp only; omega) (cell_aside _ (by dsimp only; omega) cb0)))), (cell_aside _ (by dsimp only; omega) (cell_aside _ (by dsimp only; omega) (cell_aside _ (by dsimp only; omega) (cell_aside _ (by dsimp only; omega) cb1)))), (cell_aside _ (by dsimp only; omega) (cell_aside _ (by dsimp only; omega) (cell_aside _ (by dsimp only; omega) (cell_aside _ (by dsimp only; omega) cb2)))), (cell_aside _ (by dsimp only; omega) (cell_aside _ (by dsimp only; omega) (cell_aside _ (by dsimp only; omega) (cell_aside _ (by dsimp only; omega) cb3))))⟩
        clear hK KK
        try simp only [Act.put, List.getElem_toArray, List.getElem_cons_succ, List.getElem_cons_zero, List.setIfInBounds_toArray, List.set_cons_zero, List.set_cons_succ]
        refine wpAnyH_take (i := 10) (oi := _) (v := .int .i64 Ef) rfl (by kernel_rfl) (by kernel_rfl) (by kernel_rfl) (fun _ _ _ h => h) (Or.inl ⟨by rfl, ?_⟩) hHeld ?_
        · intro wq hSw
          try dsimp only at hSw
          go_simp
        try simp only [Act.put, List.getElem_toArray, List.getElem_cons_succ, List.getElem_cons_zero, List.setIfInBounds_toArray, List.set_cons_zero, List.set_cons_succ]
        refine wpAnyH_done (by kernel_rfl) ?_ _
        clear hHeld
        go_wp2_with fail
        go_meet
        exact ⟨_, rfl, rfl, FB.set4 _ _ _ _ y0 y1 y2 y3, ((((kw.setNew (p := ⟨w35.heap.size, 0, none⟩) (by dsimp only; omega) (.int .i64 Ek)).setNew (p := ⟨w35.heap.size, 1, none⟩) (by dsimp only; omega) (.bool En)).setNew (p := ⟨w35.heap.size, 2, none⟩) (by dsimp only; omega) (.int .i64 Em)).setNew (p := ⟨w35.heap.size, 3, none⟩) (by dsimp only; omega) (.int .i64 Ee))⟩
    · simp only [List.getElem_toArray, List.getElem_cons_succ, List.getElem_cons_zero]
      rw [if_pos (by rfl)]
      go_simp
      have kn := (Kept.refl 0 0 wd34).alloc (.cells #[.int .i64 0, .bool false, .int .i64 0, .int .i64 0] 25)
      replace kw := kw.trans kn
      replace ca0 := kn.cell0 ca0
      replace ca1 := kn.cell0 ca1
      replace ca2 := kn.cell0 ca2
      replace ca3 := kn.cell0 ca3
      replace cb0 := kn.cell0 cb0
      replace cb1 := kn.cell0 cb1
      replace cb2 := kn.cell0 cb2
      replace cb3 := kn.cell0 cb3
      replace cs0 := kn.cell0 cs0
      replace cs1 := kn.cell0 cs1
      replace cs2 := kn.cell0 cs2
      replace cs3 := kn.cell0 cs3
      replace ct0 := kn.cell0 ct0
      replace ct1 := kn.cell0 ct1
      replace ct2 := kn.cell0 ct2
      replace ct3 := kn.cell0 ct3
      replace cp0 := kn.cell0 cp0
      replace cp1 := kn.cell0 cp1
      replace cp2 := kn.cell0 cp2
      replace cp3 := kn.cell0 cp3
      replace cq0 := kn.cell0 cq0
      replace cq1 := kn.cell0 cq1
      replace cq2 := kn.cell0 cq2
      replace cq3 := kn.cell0 cq3
      replace cd0 := kn.cell0 cd0
      replace cd1 := kn.cell0 cd1
      replace cd2 := kn.cell0 cd2
      replace cd3 := kn.cell0 cd3
      replace K := hide ((unhide K).trans kn)
      have z36 := kn.size
      clear kn
      have szy : wd34.heap.size < (wd34.alloc (.cells #[.int .i64 0, .bool false, .int .i64 0, .int .i64 0] 25)).heap.size := by simp
      have y0 : (wd34.alloc (.cells #[.int .i64 0, .bool false, .int .i64 0, .int .i64 0] 25)).cell? ⟨wd34.heap.size, 0, none⟩ = some (.int .i64 0) := new_cell2 _ _ _ _ _ _ rfl rfl
      have yf0 : (wd34.alloc (.cells #[.int .i64 0, .bool false, .int .i64 0, .int .i64 0] 25)).frozen? ⟨wd34.heap.size, 0, none⟩ = false := new_loose2 _ _ _ _ _ rfl
      have y1 : (wd34.alloc (.cells #[.int .i64 0, .bool false, .int .i64 0, .int .i64 0] 25)).cell? ⟨wd34.heap.size, 1, none⟩ = some (.bool false) := new_cell2 _ _ _ _ _ _ rfl rfl
      have yf1 : (wd34.alloc (.cells #[.int .i64 0, .bool false, .int .i64 0, .int .i64 0] 25)).frozen? ⟨wd34.heap.size, 1, none⟩ = false := new_loose2 _ _ _ _ _ rfl
      have y2 : (wd34.alloc (.cells #[.int .i64 0, .bool false, .int .i64 0, .int .i64 0] 25)).cell? ⟨wd34.heap.size, 2, none⟩ = some (.int .i64 0) := new_cell2 _ _ _ _ _ _ rfl rfl
      have yf2 : (wd34.alloc (.cells #[.int .i64 0, .bool false, .int .i64 0, .int .i64 0] 25)).frozen? ⟨wd34.heap.size, 2, none⟩ = false := new_loose2 _ _ _ _ _ rfl
      have y3 : (wd34.alloc (.cells #[.int .i64 0, .bool false, .int .i64 0, .int .i64 0] 25)).cell? ⟨wd34.heap.size, 3, none⟩ = some (.int .i64 0) := new_cell2 _ _ _ _ _ _ rfl rfl
      have yf3 : (wd34.alloc (.cells #[.int .i64 0, .bool false, .int .i64 0, .int .i64 0] 25)).frozen? ⟨wd34.heap.size, 3, none⟩ = false := new_loose2 _ _ _ _ _ rfl
      clear hHeld
      refine hK.out _ _ ?_ (fun hHeld => ?_)
      · exact ⟨ca0, ca1, ca2, ca3, cb0, cb1, cb2, cb3⟩
      clear hK KK
      try simp only [Act.put, List.getElem_toArray, List.getElem_cons_succ, List.getElem_cons_zero, List.setIfInBounds_toArray, List.set_cons_zero, List.set_cons_succ]
      generalize wd34.alloc (.cells #[.int .i64 0, .bool false, .int .i64 0, .int .i64 0] 25) = w35 at *
      refine wpAnyH_ready (rs := [2]) (by kernel_rfl) (by simp) ?_
      refine AllReadyH.cons rfl (fun KK hK => ?_) AllReadyH.nil
      simp only [List.getElem_toArray, List.getElem_cons_succ, List.getElem_cons_zero]
      rw [if_pos (by rfl)]
      refine wps1 13 (.tmp 63) _ rfl in_FlNeg_g (.agg #[.int .i64 hk, .bool hn, .int .i64 hm, .int .i64 he]) rfl (unhide mn _) ?_
      rintro e w37 ⟨rfl, k37⟩
      refine ⟨_, rfl, ?_⟩
      replace kw := kw.trans k37
      replace yf0 := k37.loose0 (World.block_lt_of_cell? _ _ y0) yf0
      replace yf1 := k37.loose0 (World.block_lt_of_cell? _ _ y1) yf1
      replace yf2 := k37.loose0 (World.block_lt_of_cell? _ _ y2) yf2
      replace yf3 := k37.loose0 (World.block_lt_of_cell? _ _ y3) yf3
      replace ca0 := k37.cell0 ca0
      replace ca1 := k37.cell0 ca1
      replace ca2 := k37.cell0 ca2
      replace ca3 := k37.cell0 ca3
      replace cb0 := k37.cell0 cb0
      replace cb1 := k37.cell0 cb1
      replace cb2 := k37.cell0 cb2
      replace cb3 := k37.cell0 cb3
      replace cs0 := k37.cell0 cs0
      replace cs1 := k37.cell0 cs1
      replace cs2 := k37.cell0 cs2
      replace cs3 := k37.cell0 cs3
      replace ct0 := k37.cell0 ct0
      replace ct1 := k37.cell0 ct1
      replace ct2 := k37.cell0 ct2
      replace ct3 := k37.cell0 ct3
      replace cp0 := k37.cell0 cp0
      replace cp1 := k37.cell0 cp1
      replace cp2 := k37.cell0 cp2
      replace cp3 := k37.cell0 cp3
      replace cq0 := k37.cell0 cq0
      replace cq1 := k37.cell0 cq1
      replace cq2 := k37.cell0 cq2
      replace cq3 := k37.cell0 cq3
      replace cd0 := k37.cell0 cd0
      replace cd1 := k37.cell0 cd1
      replace cd2 := k37.cell0 cd2
      replace cd3 := k37.cell0 cd3
      replace y0 := k37.cell0 y0
      replace y1 := k37.cell0 y1
      replace y2 := k37.cell0 y2
      replace y3 := k37.cell0 y3
      replace K := hide ((unhide K).trans k37)
      have z38 := k37.size
      clear k37
      clear hHeld
      refine hK.out _ _ ?_ (fun hHeld => ?_)
      · exact ⟨ca0, ca1, ca2, ca3, cb0, cb1, cb2, cb3⟩
      clear hK KK
      try simp only [Act.put, List.getElem_toArray, List.getElem_cons_succ, List.getElem_cons_zero, List.setIfInBounds_toArray, List.set_cons_zero, List.set_cons_succ]
      refine wpAnyH_ready (rs := [4]) (by kernel_rfl) (by simp) ?_
      refine AllReadyH.cons rfl (fun KK hK => ?_) AllReadyH.nil
      simp only [List.getElem_toArray, List.getElem_cons_succ, List.getElem_cons_zero]
      rw [if_pos (by rfl)]
      refine wps3 10 (.tmp 62) (.tmp 64) (.tmp 65) _ rfl in_FlAdd_g (.agg #[.int .i64 fk, .bool fn, .int .i64 fm, .int .i64 fe]) (.agg #[.int .i64 gk, .bool gn, .int .i64 gm, .int .i64 ge]) (.int .i64 md) rfl rfl rfl (unhide me _ ((unhide HT).kept (unhide K))) ?_
      rintro e w39 ⟨rfl, k39⟩
      refine ⟨_, rfl, ?_⟩
      replace kw := kw.trans k39
      replace yf0 := k39.loose0 (World.block_lt_of_cell? _ _ y0) yf0
      replace yf1 := k39.loose0 (World.block_lt_of_cell? _ _ y1) yf1
      replace yf2 := k39.loose0 (World.block_lt_of_cell? _ _ y2) yf2
      replace yf3 := k39.loose0 (World.block_lt_of_cell? _ _ y3) yf3
      replace ca0 := k39.cell0 ca0
      replace ca1 := k39.cell0 ca1
      replace ca2 := k39.cell0 ca2
      replace ca3 := k39.cell0 ca3
      replace cb0 := k39.cell0 cb0
      replace cb1 := k39.cell0 cb1
      replace cb2 := k39.cell0 cb2
      replace cb3 := k39.cell0 cb3
      replace cs0 := k39.cell0 cs0
      replace cs1 := k39.cell0 cs1
      replace cs2 := k39.cell0 cs2
      replace cs3 := k39.cell0 cs3
      replace ct0 := k39.cell0 ct0
      replace ct1 := k39.cell0 ct1
      replace ct2 := k39.cell0 ct2
      replace ct3 := k39.cell0 ct3
      replace cp0 := k39.cell0 cp0
      replace cp1 := k39.cell0 cp1
      replace cp2 := k39.cell0 cp2
      replace cp3 := k39.cell0 cp3
      replace cq0 := k39.cell0 cq0
      replace cq1 := k39.cell0 cq1
      replace cq2 := k39.cell0 cq2
      replace cq3 := k39.cell0 cq3
      replace cd0 := k39.cell0 cd0
      replace cd1 := k39.cell0 cd1
      replace cd2 := k39.cell0 cd2
      replace cd3 := k39.cell0 cd3
      replace y0 := k39.cell0 y0
      replace y1 := k39.cell0 y1
      replace y2 := k39.cell0 y2
      replace y3 := k39.cell0 y3
      replace K := hide ((unhide K).trans k39)
      have z40 := k39.size
      clear k39
      clear hHeld
      refine hK.out _ _ ?_ (fun hHeld => ?_)
      · exact ⟨ca0, ca1, ca2, ca3, cb0, cb1, cb2, cb3⟩
      clear hK KK
      try simp only [Act.put, List.getElem_toArray, List.getElem_cons_succ, List.getElem_cons_zero, List.setIfInBounds_toArray, List.set_cons_zero, List.set_cons_succ]
      refine wpAnyH_take (i := 5) (oi := _) (v := .tuple #[.agg #[.int .i64 Ek, .bool En, .int .i64 Em, .int .i64 Ee], .int .i64 Ef]) rfl (by kernel_rfl) (by kernel_rfl) (by kernel_rfl) (fun _ _ _ h => h) (Or.inl ⟨by rfl, ?_⟩) hHeld ?_
      · intro wq hSw
        try dsimp only at hSw
        go_simp
      try simp only [Act.put, List.getElem_toArray, List.getElem_cons_succ, List.getElem_cons_zero, List.setIfInBounds_toArray, List.set_cons_zero, List.set_cons_succ]
      refine wpAnyH_take (i := 6) (oi := _) (v := .agg #[.int .i64 Ek, .bool En, .int .i64 Em, .int .i64 Ee]) rfl (by kernel_rfl) (by kernel_rfl) (by kernel_rfl) (fun _ _ _ h => h) (Or.inl ⟨by rfl, ?_⟩) hHeld ?_
      · intro wq hSw
        try dsimp only at hSw
        go_simp
      try simp only [Act.put, List.getElem_toArray, List.getElem_cons_succ, List.getElem_cons_zero, List.setIfInBounds_toArray, List.set_cons_zero, List.set_cons_succ]
      refine wpAnyH_take (i := 7) (oi := _) (v := .int .i64 Ef) rfl (by kernel_rfl) (by kernel_rfl) (by kernel_rfl) (fun _ _ _ h => h) (Or.inl ⟨by rfl, ?_⟩) hHeld ?_
      · intro wq hSw
        try dsimp only at hSw
        go_simp
      try simp only [Act.put, List.getElem_toArray, List.getElem_cons_succ, List.getElem_cons_zero, List.setIfInBounds_toArray, List.set_cons_zero, List.set_cons_succ]
      refine wpAnyH_ready (rs := [9]) (by kernel_rfl) (by simp) ?_
      refine AllReadyH.cons rfl (fun KK hK => ?_) AllReadyH.nil
      simp only [List.getElem_toArray, List.getElem_cons_succ, List.getElem_cons_zero]
      rw [if_pos (by rfl)]
      go_simp
      clear hHeld
      refine hK.out _ _ ?_ (fun hHeld => ?_)
      · exact ⟨(cell_aside _ (by dsimp only; omega) (cell_aside _ (by dsimp only; omega) (cell_aside _ (by dsimp only; omega) (cell_aside _ (by dsimp only; omega) ca0)))), (cell_aside _ (by dsimp only; omega) (cell_aside _ (by dsimp only; omega) (cell_aside _ (by dsimp only; omega) (cell_aside _ (by dsimp only; omega) ca1)))), (cell_aside _ (by dsimp only; omega) (cell_aside _ (by dsimp only; omega) (cell_aside _ (by dsimp only; omega) (cell_aside _ (by dsimp only; omega) ca2)))), (cell_aside _ (by dsimp only; omega) (cell_aside _ (by dsimp only; omega) (cell_aside _ (by dsimp only; omega) (cell_aside _ (by dsimp only; omega) ca3)))), (cell_aside _ (by dsimp only; omega) (cell_aside _ (by dsimp only; omega) (cell_aside _ (by dsimp only; omega) (cell_aside _ (by dsimp only; omega) cb0)))), (cell_aside _ (by dsimp only; omega) (cell_aside _ (by dsimp only; omega) (cell_aside _ (by dsimp only; omega) (cell_aside _ (by dsimp only; omega) cb1)))), (cell_aside _ (by dsimp only; omega) (cell_aside _ (by dsimp only; omega) (cell_aside _ (by dsimp only; omega) (cell_aside _ (by dsimp only; omega) cb2)))), (cell_aside _ (by dsimp only; omega) (cell_aside _ (by dsimp only; omega) (cell_aside _ (by dsimp only; omega) (cell_aside _ (by dsimp only; omega) cb3))))⟩
      clear hK KK
      try simp only [Act.put, List.getElem_toArray, List.getElem_cons_succ, List.getElem_cons_zero, List.setIfInBounds_toArray, List.set_cons_zero, List.set_cons_succ]
      refine wpAnyH_take (i := 10) (oi := _) (v := .int .i64 Ef) rfl (by kernel_rfl) (by kernel_rfl) (by kernel_rfl) (fun _ _ _ h => h) (Or.inl ⟨by rfl, ?_⟩) hHeld ?_
      · intro wq hSw
        try dsimp only at hSw
        go_simp
      try simp only [Act.put, List.getElem_toArray, List.getElem_cons_succ, List.getElem_cons_zero, List.setIfInBounds_toArray, List.set_cons_zero, List.set_cons_succ]
      refine wpAnyH_done (by kernel_rfl) ?_ _
      clear hHeld
      go_wp2_with fail
      go_meet
      exact ⟨_, rfl, rfl, FB.set4 _ _ _ _ y0 y1 y2 y3, ((((kw.setNew (p := ⟨wd34.heap.size, 0, none⟩) (by dsimp only; omega) (.int .i64 Ek)).setNew (p := ⟨wd34.heap.size, 1, none⟩) (by dsimp only; omega) (.bool En)).setNew (p := ⟨wd34.heap.size, 2, none⟩) (by dsimp only; omega) (.int .i64 Em)).setNew (p := ⟨wd34.heap.size, 3, none⟩) (by dsimp only; omega) (.int .i64 Ee))⟩
  case rest =>
    obtain ⟨X, rfl, rfl, FE, kx⟩ := hcut
    replace ca0 := kx.cell0 ca0
    replace ca1 := kx.cell0 ca1
    replace ca2 := kx.cell0 ca2
    replace ca3 := kx.cell0 ca3
    replace cb0 := kx.cell0 cb0
    replace cb1 := kx.cell0 cb1
    replace cb2 := kx.cell0 cb2
    replace cb3 := kx.cell0 cb3
    replace cs0 := kx.cell0 cs0
    replace cs1 := kx.cell0 cs1
    replace cs2 := kx.cell0 cs2
    replace cs3 := kx.cell0 cs3
    replace ct0 := kx.cell0 ct0
    replace ct1 := kx.cell0 ct1
    replace ct2 := kx.cell0 ct2
    replace ct3 := kx.cell0 ct3
    replace cp0 := kx.cell0 cp0
    replace cp1 := kx.cell0 cp1
    replace cp2 := kx.cell0 cp2
    replace cp3 := kx.cell0 cp3
    replace cq0 := kx.cell0 cq0
    replace cq1 := kx.cell0 cq1
    replace cq2 := kx.cell0 cq2
    replace cq3 := kx.cell0 cq3
    replace cd0 := kx.cell0 cd0
    replace cd1 := kx.cell0 cd1
    replace cd2 := kx.cell0 cd2
    replace cd3 := kx.cell0 cd3
    replace K := hide ((unhide K).trans kx)
    have z33 := kx.size
    clear kx mn me
    have d0 := FE.c0
    have d1 := FE.c1
    have d2 := FE.c2
    have d3 := FE.c3
    clear FE
    go_wp2_with fail
    obtain ⟨O1, hO1⟩ : ∃ o, flok fk fn fm fe = o := ⟨_, rfl⟩
    obtain ⟨O2, hO2⟩ : ∃ o, flok hk hn hm he = o := ⟨_, rfl⟩
    rw [hO1, hO2] at HN
    rw [hO2] at HE
    have HO1 := hide hO1
    have HO2 := hide hO2
    clear hO1 hO2
    refine (flok_spec_k (unhide HO1) _).mono ?_
    rintro e w34 ⟨rfl, k34⟩
    replace ca0 := k34.cell0 ca0
    replace ca1 := k34.cell0 ca1
    replace ca2 := k34.cell0 ca2
    replace ca3 := k34.cell0 ca3
    replace cb0 := k34.cell0 cb0
    replace cb1 := k34.cell0 cb1
    replace cb2 := k34.cell0 cb2
    replace cb3 := k34.cell0 cb3
    replace cs0 := k34.cell0 cs0
    replace cs1 := k34.cell0 cs1
    replace cs2 := k34.cell0 cs2
    replace cs3 := k34.cell0 cs3
    replace ct0 := k34.cell0 ct0
    replace ct1 := k34.cell0 ct1
    replace ct2 := k34.cell0 ct2
    replace ct3 := k34.cell0 ct3
    replace cp0 := k34.cell0 cp0
    replace cp1 := k34.cell0 cp1
    replace cp2 := k34.cell0 cp2
    replace cp3 := k34.cell0 cp3
    replace cq0 := k34.cell0 cq0
    replace cq1 := k34.cell0 cq1
    replace cq2 := k34.cell0 cq2
    replace cq3 := k34.cell0 cq3
    replace cd0 := k34.cell0 cd0
    replace cd1 := k34.cell0 cd1
    replace cd2 := k34.cell0 cd2
    replace cd3 := k34.cell0 cd3
    replace d0 := k34.cell0 d0
    replace d1 := k34.cell0 d1
    replace d2 := k34.cell0 d2
    replace d3 := k34.cell0 d3
    replace K := hide ((unhide K).trans k34)
    have z35 := k34.size
    clear k34
    cases O1
    · obtain ⟨b1, b2, b3⟩ := unhide HN (.inl rfl)
      clear HN HE
      cases b1
      cases b2
      cases b3
      go_wp2_with fail
      go_ret
      exact ⟨rfl, (unhide K).toBelow⟩
    go_wp2_with fail
    refine (flok_spec_k (unhide HO2) _).mono ?_
    rintro e w36 ⟨rfl, k36⟩
    replace ca0 := k36.cell0 ca0
    replace ca1 := k36.cell0 ca1
    replace ca2 := k36.cell0 ca2
    replace ca3 := k36.cell0 ca3
    replace cb0 := k36.cell0 cb0
    replace cb1 := k36.cell0 cb1
    replace cb2 := k36.cell0 cb2
    replace cb3 := k36.cell0 cb3
    replace cs0 := k36.cell0 cs0
    replace cs1 := k36.cell0 cs1
    replace cs2 := k36.cell0 cs2
    replace cs3 := k36.cell0 cs3
    replace ct0 := k36.cell0 ct0
    replace ct1 := k36.cell0 ct1
    replace ct2 := k36.cell0 ct2
    replace ct3 := k36.cell0 ct3
    replace cp0 := k36.cell0 cp0
    replace cp1 := k36.cell0 cp1
    replace cp2 := k36.cell0 cp2
    replace cp3 := k36.cell0 cp3
    replace cq0 := k36.cell0 cq0
    replace cq1 := k36.cell0 cq1
    replace cq2 := k36.cell0 cq2
    replace cq3 := k36.cell0 cq3
    replace cd0 := k36.cell0 cd0
    replace cd1 := k36.cell0 cd1
    replace cd2 := k36.cell0 cd2
    replace cd3 := k36.cell0 cd3
    replace d0 := k36.cell0 d0
    replace d1 := k36.cell0 d1
    replace d2 := k36.cell0 d2
    replace d3 := k36.cell0 d3
    replace K := hide ((unhide K).trans k36)
    have z37 := k36.size
    clear k36
    cases O2
    · obtain ⟨b1, b2, b3⟩ := unhide HN (.inr rfl)
      clear HN HE
      cases b1
      cases b2
      cases b3
      go_wp2_with fail
      go_ret
      exact ⟨rfl, (unhide K).toBelow⟩
    have b1 := unhide HE rfl
    clear HN HE
    cases b1
    go_wp2_with fail
    go_ret
    exact ⟨rfl, (unhide K).toBelow⟩

end Go.Proofs.YtckaecmkidplhaaGreatDoor

