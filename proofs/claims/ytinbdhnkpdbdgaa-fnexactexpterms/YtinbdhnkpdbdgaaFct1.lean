/-
  Factorials: the model's l11fact and Fact.
-/
import Derived.Test.YtinbdhnkpdbdgaaBE
import Derived.Test.YtinbdhnkpdbdgaaBC
import Derived.Test.YtinbdhnkpdbdgaaBB
import Derived.Deep.RegionHeld3
import Derived.Deep.DeepCutAuto
namespace Go.Proofs.Ytinbdhnkpdbdgaa
open Go.RowKit
set_option linter.unusedVariables false
set_option maxRecDepth 8000
set_option linter.unusedSimpArgs false

/-- 1 times 2 and so on up to n. -/
def fct : Nat → Nat
  | 0 => 1
  | n + 1 => (n + 1) * fct n
theorem fct_succ (n : Nat) : fct (n + 1) = (n + 1) * fct n := rfl
theorem fct_pos (n : Nat) : 0 < fct n := by
  induction n with
  | zero => decide
  | succ n ih => rw [fct_succ]; exact Nat.mul_pos (Nat.succ_pos n) ih
theorem fct_lt (n : Nat) (hn : n ≤ 60000) : fct n < 65536 ^ (n + 1) := by
  induction n with
  | zero => decide
  | succ n ih =>
    have h1 := ih (by omega)
    rw [fct_succ, Nat.pow_succ, Nat.mul_comm]
    exact Nat.mul_lt_mul_of_lt_of_le h1 (by omega) (by omega)
theorem fct_len (n : Nat) (hn : n ≤ 60000) : (limbs (fct n)).length ≤ n + 1 := (limbs_length_le _ _).2 (by
  have h : ((fct n : Nat) : Int) < ((65536 ^ (n + 1) : Nat) : Int) := Int.ofNat_lt.2 (fct_lt n hn)
  rw [Int.natCast_pow] at h
  exact h)
theorem Kept.newerF {lo hi : Nat} {a b c : World} (h : Kept 0 0 a b) (k : Kept lo hi b c) (hl : a.heap.size ≤ lo) : Kept 0 0 a c :=
  ⟨k.os.trans h.os, k.tape.trans h.tape, k.output.trans h.output, Nat.le_trans h.size k.size, fun i hi' ho => (k.block i (Nat.lt_of_lt_of_le hi' h.size) (.inl (by omega))).trans (h.block i hi' ho)⟩
theorem Kept.looseOut {lo hi : Nat} {W w' : World} (k : Kept lo hi W w') {a : Addr} (ho : a.block < lo ∨ hi ≤ a.block) (hb : a.block < W.heap.size) (h : W.frozen? a = false) : w'.frozen? a = false := by
  rw [← h]; unfold World.frozen?; rw [k.block a.block hb ho]

theorem in_l2of_f : ∀ (w : World) (args : Array Value), (callFunc 21 args).run Try.prog w = .ok (.enter 21 args) w := enters Try.func21 (by decide) (fun h => by cases h)

theorem in_l2mul_f : ∀ (w : World) (args : Array Value), (callFunc 22 args).run Try.prog w = .ok (.enter 22 args) w := enters Try.func22 (by decide) (fun h => by cases h)

set_option maxHeartbeats 8000000 in
theorem fact_spec (n : Nat) (hn : n ≤ 50000) (w : World) :
    Calls Try.prog 13 #[.int .i64 (n : Int)] w fun e w' => ∃ v', e = .returned (.agg #[v']) ∧ Row .i64 true w.heap.size w'.heap.size w' v' (limbs (fct n)) ∧ Kept 0 0 w w' := by
  have k0 := (Kept.refl 0 0 w).alloc (.cells #[.slice none 0 0] 24)
  have c3 : (w.alloc (.cells #[.slice none 0 0] 24)).cell? ⟨w.heap.size, 0, none⟩ = some (.slice none 0 0) := new_cell_at _ _ _ _ rfl
  have f3 : (w.alloc (.cells #[.slice none 0 0] 24)).frozen? ⟨w.heap.size, 0, none⟩ = false := new_loose _ _ _ _ rfl
  go_enter Try.func13, Try.ntmps13
  go_wp2_with fail
  generalize w.alloc (.cells #[.slice none 0 0] 24) = W at *
  have b1' := World.block_lt_of_cell? _ _ c3
  dsimp only at b1'
  refine (of_spec _ 1 (by decide)).mono ?_
  rintro e w2 ⟨v2, rfl, r2, k2⟩
  have s2 := k2.size
  generalize hL : limbs (1 : Int).toNat = L1 at *
  have HL : Hid (L1 = limbs (fct 1)) := by show _ = _; rw [← hL]; rfl
  have hL1 : L1.length ≤ 100 := by rw [← hL]; decide
  clear hL
  obtain ⟨a2, d2, e2⟩ := Row.form' r2
  subst e2
  replace k2 := k2.alloc (.cells #[.slice a2 L1.length d2] 24)
  replace f3 := k2.loose0 b1' f3
  replace c3 := k2.cell0 c3
  have K := hide (k0.trans k2)
  replace r2 := r2.kept ((Kept.refl 0 0 w2).alloc (.cells #[.slice a2 L1.length d2] 24)) (by omega)
  have co : (w2.alloc (.cells #[.slice a2 L1.length d2] 24)).cell? ⟨w2.heap.size, 0, none⟩ = some (.slice a2 L1.length d2) := new_cell_at _ _ _ _ rfl
  have fo : (w2.alloc (.cells #[.slice a2 L1.length d2] 24)).frozen? ⟨w2.heap.size, 0, none⟩ = false := new_loose _ _ _ _ rfl
  clear k2 k0
  go_wp2_with fail
  generalize w2.alloc (.cells #[.slice a2 L1.length d2] 24) = w3 at *
  generalize w2.heap.size = go at *
  have R2 := hide r2
  have C3 := hide c3
  have F3 := hide f3
  have CO := hide co
  have FO := hide fo
  clear r2 c3 f3 co fo
  go_loopw [4] (fun ii wr => ∃ (i : Nat) (u : Value) (lo hi : Nat), ii = .int .i64 ((i : Int) + 2) ∧ i + 1 ≤ max n 1 ∧ wr.cell? ⟨go, 0, none⟩ = some u ∧ wr.frozen? ⟨go, 0, none⟩ = false ∧ Row .i64 true lo hi wr u (limbs (fct (i + 1))) ∧ (hi ≤ go ∨ go + 1 ≤ lo) ∧ w.heap.size + 1 ≤ lo ∧ Kept go (go + 1) w3 wr) (fun ii _ => n + 2 - (intOf ii).toNat)
  case atStart => exact ⟨0, _, W.heap.size, go, rfl, by omega, unhide CO, unhide FO, by rw [← unhide HL]; exact unhide R2, .inl (Nat.le_refl _), by omega, Kept.refl _ _ _⟩
  case round =>
    clear CO FO R2
    obtain ⟨i, u, lo, hi, rfl, hi', co, fo, ro, hr, hlo, kk⟩ := hrel
    have c3 := kk.cellOut (.inl (show w.heap.size < go by omega)) (unhide C3)
    have f3 := kk.looseOut (.inl (show w.heap.size < go by omega)) (World.block_lt_of_cell? _ _ (unhide C3)) (unhide F3)
    have b5 := World.block_lt_of_cell? _ _ co
    dsimp only at b5
    have ne3 : ¬ go = w.heap.size := by omega
    have ne4 : ¬ w.heap.size = go := by omega
    obtain ⟨au, du, eu⟩ := Row.form' ro
    by_cases hA : i + 2 ≤ n
    · have hi1 : (i : Int) + 2 ≤ (n : Int) := by omega
      have e1 : (val (limbs (fct (i + 1))) * val (limbs ((i : Int) + 2).toNat)).toNat = fct (i + 1 + 1) := by rw [limbs_val, limbs_val, ← Int.natCast_mul, Int.toNat_natCast, fct_succ (i + 1), Nat.mul_comm]; congr 1
      have hlen := fct_len (i + 1) (by omega)
      obtain ⟨LI, hLI⟩ : ∃ LI, LI = limbs (fct (i + 1)) := ⟨_, rfl⟩
      have hLl : Lim LI := by rw [hLI]; exact limbs_lim _
      rw [← hLI] at ro eu e1 hlen
      have hlen4 : (limbs ((i : Int) + 2).toNat).length ≤ 4 := limbs_int_length _ (by omega)
      obtain ⟨LJ, hLJ⟩ : ∃ LJ, LJ = limbs ((i : Int) + 2).toNat := ⟨_, rfl⟩
      have hLj : Lim LJ := by rw [hLJ]; exact limbs_lim _
      have mo := fun w => of_spec w ((i : Int) + 2) (by omega)
      rw [← hLJ] at e1 hlen4
      simp only [← hLJ] at mo
      have HE := hide e1
      replace mo := hide mo
      subst eu
      clear hLI hLJ e1
      have KW : Hid (Kept go (go + 1) w3 wr) := kk
      clear kk
      go_upto_region 5 with fail
      have K9 := hide (Kept.refl 0 0 wr)
      have K := hide (Kept.refl 0 0 wr)
      have kd := (Kept.refl 0 0 wr).drew
      replace ro := ro.kept kd (.inr (.inr (Nat.le_refl 0)))
      replace fo := kd.loose0 (World.block_lt_of_cell? _ _ co) fo
      replace f3 := kd.loose0 (World.block_lt_of_cell? _ _ c3) f3
      replace co := kd.cell0 co
      replace c3 := kd.cell0 c3
      replace K := hide ((unhide K).trans kd)
      have z1 := kd.size
      clear kd
      refine wp_region_held_drew (S := (fun w' => True)) (by kernel_rfl) ?_ (fun hHeld => ?_)
      · exact trivial
      generalize wr.drew = wd2 at *
      refine wpAnyH_take (i := 1) (oi := _) (v := .int .i64 ((i : Int) + 2)) rfl (by kernel_rfl) (by kernel_rfl) (by kernel_rfl) (fun _ _ _ h => h) (Or.inl ⟨by rfl, ?_⟩) hHeld ?_
      · intro wq hSw
        try dsimp only at hSw
        go_simp
      try simp only [Act.put, List.getElem_toArray, List.getElem_cons_succ, List.getElem_cons_zero, List.setIfInBounds_toArray, List.set_cons_zero, List.set_cons_succ]
      refine wpAnyH_ready (rs := [0, 2]) (by kernel_rfl) (by simp) ?_
      refine AllReadyH.cons rfl (fun KK hK => ?_) (AllReadyH.cons rfl (fun KK hK => ?_) AllReadyH.nil)
      · simp only [List.getElem_toArray, List.getElem_cons_succ, List.getElem_cons_zero]
        rw [if_pos (by rfl)]
        go_simp
        clear hHeld
        refine hK.out _ _ ?_ (fun hHeld => ?_)
        · exact trivial
        clear hK KK
        try simp only [Act.put, List.getElem_toArray, List.getElem_cons_succ, List.getElem_cons_zero, List.setIfInBounds_toArray, List.set_cons_zero, List.set_cons_succ]
        refine wpAnyH_ready (rs := [2]) (by kernel_rfl) (by simp) ?_
        refine AllReadyH.cons rfl (fun KK hK => ?_) AllReadyH.nil
        simp only [List.getElem_toArray, List.getElem_cons_succ, List.getElem_cons_zero]
        rw [if_pos (by rfl)]
        refine wps1 21 (.tmp 12) _ rfl in_l2of_f (.int .i64 ((i : Int) + 2)) rfl (unhide mo _) ?_
        rintro e w3 ⟨vj, rfl, rj, k3⟩
        refine ⟨_, rfl, ?_⟩
        replace ro := ro.kept k3 (.inr (.inr (Nat.le_refl 0)))
        replace fo := k3.loose0 (World.block_lt_of_cell? _ _ co) fo
        replace f3 := k3.loose0 (World.block_lt_of_cell? _ _ c3) f3
        replace co := k3.cell0 co
        replace c3 := k3.cell0 c3
        replace K := hide ((unhide K).trans k3)
        have z4 := k3.size
        clear k3
        obtain ⟨aj, dj, ej⟩ := Row.form' rj
        subst ej
        clear hHeld
        refine hK.out _ _ ?_ (fun hHeld => ?_)
        · exact trivial
        clear hK KK
        try simp only [Act.put, List.getElem_toArray, List.getElem_cons_succ, List.getElem_cons_zero, List.setIfInBounds_toArray, List.set_cons_zero, List.set_cons_succ]
        refine wpAnyH_ready (rs := [3]) (by kernel_rfl) (by simp) ?_
        refine AllReadyH.cons rfl (fun KK hK => ?_) AllReadyH.nil
        simp only [List.getElem_toArray, List.getElem_cons_succ, List.getElem_cons_zero]
        rw [if_pos (by rfl)]
        refine wps2 22 (.tmp 11) (.tmp 13) _ rfl in_l2mul_f (.agg #[.slice au LI.length du]) (.agg #[.slice aj LJ.length dj]) rfl rfl (mul_spec _ ro rj hLl hLj (by omega) (by omega)) ?_
        rintro e w5 ⟨vm, rfl, rm, k5⟩
        refine ⟨_, rfl, ?_⟩
        replace ro := ro.kept k5 (.inr (.inr (Nat.le_refl 0)))
        replace rj := rj.kept k5 (.inr (.inr (Nat.le_refl 0)))
        replace fo := k5.loose0 (World.block_lt_of_cell? _ _ co) fo
        replace f3 := k5.loose0 (World.block_lt_of_cell? _ _ c3) f3
        replace co := k5.cell0 co
        replace c3 := k5.cell0 c3
        replace K := hide ((unhide K).trans k5)
        have z6 := k5.size
        clear k5
        rw [unhide HE] at rm
        replace rm := rm.wider (lo' := wr.heap.size) (by omega) (Nat.le_refl _)
        obtain ⟨am, dm, em⟩ := Row.form' rm
        subst em
        clear hHeld
        refine hK.out _ _ ?_ (fun hHeld => ?_)
        · exact trivial
        clear hK KK
        try simp only [Act.put, List.getElem_toArray, List.getElem_cons_succ, List.getElem_cons_zero, List.setIfInBounds_toArray, List.set_cons_zero, List.set_cons_succ]
        refine wpAnyH_ready (rs := [4]) (by kernel_rfl) (by simp) ?_
        refine AllReadyH.cons rfl (fun KK hK => ?_) AllReadyH.nil
        simp only [List.getElem_toArray, List.getElem_cons_succ, List.getElem_cons_zero]
        rw [if_pos (by rfl)]
        go_simp
        have K6 := hide (((unhide KW).trans (unhide K).any).setCell (p := ⟨go, 0, none⟩) (Nat.le_refl _) (Nat.lt_succ_self _) (.slice am (limbs (fct (i + 1 + 1))).length dm))
        have R6 := hide (rm.set_other (p := ⟨go, 0, none⟩) (.inl (by dsimp only; omega)) (.slice am (limbs (fct (i + 1 + 1))).length dm))
        have CO6 := hide (cell_on _ _ _ (.slice am (limbs (fct (i + 1 + 1))).length dm) _ co)
        have FO6 : Hid ((w5.setCell ⟨go, 0, none⟩ (.slice am (limbs (fct (i + 1 + 1))).length dm)).frozen? ⟨go, 0, none⟩ = false) := by show _ = _; rw [frozen_set]; exact fo
        have sz9 : w5.heap.size ≤ (w5.setCell ⟨go, 0, none⟩ (.slice am (limbs (fct (i + 1 + 1))).length dm)).heap.size := by simp [World.setCell]
        clear ro rm co c3 f3 fo
        clear rj
        clear hHeld
        refine hK.out _ _ ?_ (fun hHeld => ?_)
        · exact trivial
        clear hK KK
        try simp only [Act.put, List.getElem_toArray, List.getElem_cons_succ, List.getElem_cons_zero, List.setIfInBounds_toArray, List.set_cons_zero, List.set_cons_succ]
        refine wpAnyH_done (by kernel_rfl) ?_ _
        clear hHeld
        go_wp2
        go_roundw
        case rel => exact ⟨i + 1, _, wr.heap.size, _, by go_num, by omega, unhide CO6, unhide FO6, unhide R6, .inr (by omega), by omega, unhide K6⟩
        case measure => simp [intOf]; omega
      · simp only [List.getElem_toArray, List.getElem_cons_succ, List.getElem_cons_zero]
        rw [if_pos (by rfl)]
        refine wps1 21 (.tmp 12) _ rfl in_l2of_f (.int .i64 ((i : Int) + 2)) rfl (unhide mo _) ?_
        rintro e w3 ⟨vj, rfl, rj, k3⟩
        refine ⟨_, rfl, ?_⟩
        replace ro := ro.kept k3 (.inr (.inr (Nat.le_refl 0)))
        replace fo := k3.loose0 (World.block_lt_of_cell? _ _ co) fo
        replace f3 := k3.loose0 (World.block_lt_of_cell? _ _ c3) f3
        replace co := k3.cell0 co
        replace c3 := k3.cell0 c3
        replace K := hide ((unhide K).trans k3)
        have z4 := k3.size
        clear k3
        obtain ⟨aj, dj, ej⟩ := Row.form' rj
        subst ej
        clear hHeld
        refine hK.out _ _ ?_ (fun hHeld => ?_)
        · exact trivial
        clear hK KK
        try simp only [Act.put, List.getElem_toArray, List.getElem_cons_succ, List.getElem_cons_zero, List.setIfInBounds_toArray, List.set_cons_zero, List.set_cons_succ]
        refine wpAnyH_ready (rs := [0]) (by kernel_rfl) (by simp) ?_
        refine AllReadyH.cons rfl (fun KK hK => ?_) AllReadyH.nil
        simp only [List.getElem_toArray, List.getElem_cons_succ, List.getElem_cons_zero]
        rw [if_pos (by rfl)]
        go_simp
        clear hHeld
        refine hK.out _ _ ?_ (fun hHeld => ?_)
        · exact trivial
        clear hK KK
        try simp only [Act.put, List.getElem_toArray, List.getElem_cons_succ, List.getElem_cons_zero, List.setIfInBounds_toArray, List.set_cons_zero, List.set_cons_succ]
        refine wpAnyH_ready (rs := [3]) (by kernel_rfl) (by simp) ?_
        refine AllReadyH.cons rfl (fun KK hK => ?_) AllReadyH.nil
        simp only [List.getElem_toArray, List.getElem_cons_succ, List.getElem_cons_zero]
        rw [if_pos (by rfl)]
        refine wps2 22 (.tmp 11) (.tmp 13) _ rfl in_l2mul_f (.agg #[.slice au LI.length du]) (.agg #[.slice aj LJ.length dj]) rfl rfl (mul_spec _ ro rj hLl hLj (by omega) (by omega)) ?_
        rintro e w5 ⟨vm, rfl, rm, k5⟩
        refine ⟨_, rfl, ?_⟩
        replace ro := ro.kept k5 (.inr (.inr (Nat.le_refl 0)))
        replace rj := rj.kept k5 (.inr (.inr (Nat.le_refl 0)))
        replace fo := k5.loose0 (World.block_lt_of_cell? _ _ co) fo
        replace f3 := k5.loose0 (World.block_lt_of_cell? _ _ c3) f3
        replace co := k5.cell0 co
        replace c3 := k5.cell0 c3
        replace K := hide ((unhide K).trans k5)
        have z6 := k5.size
        clear k5
        rw [unhide HE] at rm
        replace rm := rm.wider (lo' := wr.heap.size) (by omega) (Nat.le_refl _)
        obtain ⟨am, dm, em⟩ := Row.form' rm
        subst em
        clear hHeld
        refine hK.out _ _ ?_ (fun hHeld => ?_)
        · exact trivial
        clear hK KK
        try simp only [Act.put, List.getElem_toArray, List.getElem_cons_succ, List.getElem_cons_zero, List.setIfInBounds_toArray, List.set_cons_zero, List.set_cons_succ]
        refine wpAnyH_ready (rs := [4]) (by kernel_rfl) (by simp) ?_
        refine AllReadyH.cons rfl (fun KK hK => ?_) AllReadyH.nil
        simp only [List.getElem_toArray, List.getElem_cons_succ, List.getElem_cons_zero]
        rw [if_pos (by rfl)]
        go_simp
        have K6 := hide (((unhide KW).trans (unhide K).any).setCell (p := ⟨go, 0, none⟩) (Nat.le_refl _) (Nat.lt_succ_self _) (.slice am (limbs (fct (i + 1 + 1))).length dm))
        have R6 := hide (rm.set_other (p := ⟨go, 0, none⟩) (.inl (by dsimp only; omega)) (.slice am (limbs (fct (i + 1 + 1))).length dm))
        have CO6 := hide (cell_on _ _ _ (.slice am (limbs (fct (i + 1 + 1))).length dm) _ co)
        have FO6 : Hid ((w5.setCell ⟨go, 0, none⟩ (.slice am (limbs (fct (i + 1 + 1))).length dm)).frozen? ⟨go, 0, none⟩ = false) := by show _ = _; rw [frozen_set]; exact fo
        have sz9 : w5.heap.size ≤ (w5.setCell ⟨go, 0, none⟩ (.slice am (limbs (fct (i + 1 + 1))).length dm)).heap.size := by simp [World.setCell]
        clear ro rm co c3 f3 fo
        clear rj
        clear hHeld
        refine hK.out _ _ ?_ (fun hHeld => ?_)
        · exact trivial
        clear hK KK
        try simp only [Act.put, List.getElem_toArray, List.getElem_cons_succ, List.getElem_cons_zero, List.setIfInBounds_toArray, List.set_cons_zero, List.set_cons_succ]
        refine wpAnyH_done (by kernel_rfl) ?_ _
        clear hHeld
        go_wp2
        go_roundw
        case rel => exact ⟨i + 1, _, wr.heap.size, _, by go_num, by omega, unhide CO6, unhide FO6, unhide R6, .inr (by omega), by omega, unhide K6⟩
        case measure => simp [intOf]; omega
    · have hi1 : ¬ (i : Int) + 2 ≤ (n : Int) := by omega
      have hiK : fct (i + 1) = fct n := by
        by_cases hn0 : n = 0
        · subst hn0
          have : i = 0 := by omega
          subst this
          rfl
        · have : i + 1 = n := by omega
          rw [this]
      rw [hiK] at ro eu
      obtain ⟨zz, hzz⟩ : ∃ zz, zz = limbs (fct n) := ⟨_, rfl⟩
      rw [← hzz] at ro eu
      have HZZ := hide hzz
      clear hzz hiK
      subst eu
      have R := hide ((ro.set_other (p := ⟨w.heap.size, 0, none⟩) (.inl (by show w.heap.size < lo; omega)) (.slice au zz.length du)).tight.wider (lo' := w.heap.size) (by omega) (Nat.le_refl _))
      have K7 := hide (((unhide K).newerF kk (by omega)).setNew (p := ⟨w.heap.size, 0, none⟩) (by simp) (.slice au zz.length du))
      clear ro kk
      go_wp2_with fail
      exact bodyPost_ret (v := .agg #[.slice au zz.length du]) (by simp [results, Try.results13, go_sem, c3]) rfl ⟨_, rfl, by rw [← unhide HZZ]; exact unhide R, unhide K7⟩

end Go.Proofs.Ytinbdhnkpdbdgaa
