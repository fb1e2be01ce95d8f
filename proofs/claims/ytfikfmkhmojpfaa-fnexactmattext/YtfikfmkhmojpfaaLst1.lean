/-
  The program's ListText.
-/
import Derived.Test.YtfikfmkhmojpfaaLjn
namespace Go.Proofs.Ytfikfmkhmojpfaa
open Go.RowKit
set_option linter.unusedVariables false
set_option maxRecDepth 8000
set_option linter.unusedSimpArgs false

def ltB (ds : List DE) : Bool := decide (ds.length ≤ 20) && allB (fun i => tB (ds.getD i de0)) ds.length
def ltF (ds : List DE) : Nat → List Int := fun i => tT (ds.getD i de0)
def ltT (ds : List DE) : List Int := if ltB ds = true then jT [32] (ltF ds) ds.length else []
theorem lt_no {ds : List DE} (h : ltB ds = false) : ltB ds = false ∧ ltT ds = [] := ⟨h, by unfold ltT; rw [h]; rfl⟩
theorem lt_big {ds : List DE} (h : ¬ ds.length ≤ 20) : ltB ds = false := by unfold ltB; rw [decide_eq_false h]; rfl
theorem lt_all {ds : List DE} (h : allB (fun i => tB (ds.getD i de0)) ds.length = false) : ltB ds = false := by unfold ltB; rw [h, Bool.and_false]
theorem lt_yes {ds : List DE} (h0 : ds.length ≤ 20) (h : allB (fun i => tB (ds.getD i de0)) ds.length = true) : ltB ds = true := by unfold ltB; rw [h, decide_eq_true h0]; rfl
theorem tdig_bts (n : Nat) : Bts (tdig n) := fun z hz => by have := tdig_at n n (Nat.le_refl _) z hz; omega
theorem dec_bts (n : Nat) : Bts (decText n) := by
  unfold decText
  split
  · exact bts_one 48 (by decide) (by decide)
  · exact fun z hz => tdig_bts n z (List.mem_reverse.1 hz)
theorem rep_bts (k : Nat) : Bts (List.replicate k 48) := fun z hz => by rw [List.eq_of_mem_replicate hz]; decide
theorem app_bts {xs ys : List Int} (h1 : Bts xs) (h2 : Bts ys) : Bts (xs ++ ys) := fun z hz => by
  rcases List.mem_append.1 hz with h | h
  · exact h1 z h
  · exact h2 z h
theorem dp_bts (V K : Nat) : Bts (dpText V K) := by
  unfold dpText
  have h := app_bts (rep_bts (K + 1 - (decText V).length)) (dec_bts V)
  refine app_bts (fun z hz => h z (List.mem_of_mem_take hz)) (fun z hz => ?_)
  rcases List.mem_cons.1 hz with e | e
  · subst e; decide
  · exact h z (List.mem_of_mem_drop e)
theorem tT_bts (d : DE) : Bts (tT d) := by
  unfold tT dtT
  split
  · have h : Bts (dszT (val d.2.1).toNat d.2.2) := by
      unfold dszT
      split
      · exact dec_bts _
      · exact dp_bts _ _
    unfold sgnT
    split
    · intro z hz
      rcases List.mem_cons.1 hz with e | e
      · subst e; decide
      · exact h z e
    · exact h
  · exact fun z hz => by cases hz
theorem tT_len (d : DE) : (tT d).length ≤ 3000 := dtT_len _ _ _
theorem jT_len {sep : List Int} {F : Nat → List Int} {M : Nat} (hs : sep.length ≤ 10) : ∀ n, (∀ j, j < n → (F j).length ≤ M) → (jT sep F n).length ≤ (M + 10) * n
  | 0, _ => by simp [jT]
  | n + 1, h => by
    have ih := jT_len hs n (fun j hj => h j (by omega))
    have h1 := h n (by omega)
    unfold jT
    rw [Nat.mul_succ]
    split
    · rename_i h0; subst h0; omega
    · rw [List.length_append, List.length_append]; omega
theorem ltT_len (ds : List DE) : (ltT ds).length ≤ 70000 := by
  unfold ltT
  split
  · rename_i h
    unfold ltB at h
    rw [Bool.and_eq_true] at h
    have h0 := of_decide_eq_true h.1
    have := jT_len (sep := [32]) (F := ltF ds) (M := 3000) (by decide) ds.length (fun j _ => tT_len _)
    have : (3000 + 10) * ds.length ≤ (3000 + 10) * 20 := Nat.mul_le_mul_left _ h0
    omega
  · simp

set_option maxHeartbeats 4000000 in
theorem listText_impl {lo hi : Nat} {v : Value} {ds : List DE} (w : World) (r : Dys lo hi w v ds) (HY : ∀ i, i < ds.length → I64 (ds.getD i de0).2.2) :
    Calls Try.prog 19 #[v] w fun e w' => ∃ v', e = .returned (.tuple #[v', .bool (ltB ds)]) ∧ Row .u8 true w.heap.size w'.heap.size w' v' (ltT ds) ∧ Kept 0 0 w w' := by
  obtain ⟨a, c, rfl, -, -⟩ := r.form
  by_cases hl : ds.length ≤ 20
  · have hl2 : ¬ (ds.length : Int) > 20 := by omega
    have hta := toldAllT_impl w (by omega) r HY
    obtain ⟨A, hA⟩ : ∃ A, allB (fun i => tB (ds.getD i de0)) ds.length = A := ⟨_, rfl⟩
    rw [hA] at hta
    have HA := hide hA
    have HL := hide hl
    clear r HY hA hl
    go_enter Try.func19, Try.ntmps19
    go_wp2_with fail
    refine hta.mono ?_
    rintro e w1 ⟨v1, rfl, hv1, k1⟩
    have K1 := hide k1
    clear hta k1
    cases A
    · have HB := hide (lt_no (lt_all (unhide HA)))
      clear hv1
      go_wp2
      exact bodyPost_ret (v := .tuple #[.slice none 0 0, .bool false]) (by simp [results, Try.results19, go_sem]) rfl ⟨.slice none 0 0, by rw [(unhide HB).1], by rw [(unhide HB).2]; exact Row.nil _ _ _ _ _, unhide K1⟩
    · obtain ⟨rfl, -, tx⟩ := hv1 rfl
      have hj := joined_impl (c := ds.length) w1 (by have := unhide HL; omega) tx (fun j hj => tT_ne (allB_at (unhide HA) hj)) (fun j _ => tT_bts _) (fun j _ => by have := tT_len (ds.getD j de0); omega) (Nat.le_refl _)
      have HB : Hid (ltB ds = true ∧ ltT ds = jT [32] (ltF ds) ds.length) := ⟨lt_yes (unhide HL) (unhide HA), by unfold ltT; rw [lt_yes (unhide HL) (unhide HA)]; rfl⟩
      obtain ⟨J, hJ⟩ : ∃ J, jT [32] (ltF ds) ds.length = J := ⟨_, rfl⟩
      have hj2 : Calls Try.prog 47 #[.slice (some ⟨w.heap.size, 0, none⟩) ds.length ds.length] w1 fun e w' => ∃ v', e = .returned v' ∧ Row .u8 true w1.heap.size w'.heap.size w' v' J ∧ Kept 0 0 w1 w' := by rw [← hJ]; exact hj
      rw [hJ] at HB
      clear tx hj hJ
      go_wp2_with fail
      refine hj2.mono ?_
      rintro e w2 ⟨v2, rfl, r2, k2⟩
      have K2 := hide ((unhide K1).trans k2)
      have R2 := hide (r2.wider (lo' := w.heap.size) (unhide K1).size (Nat.le_refl _))
      obtain ⟨a2, c2, hv2⟩ := Row.form' r2
      subst hv2
      clear hj2 r2 k2
      go_wp2
      exact bodyPost_ret (v := .tuple #[.slice a2 J.length c2, .bool true]) (by simp [results, Try.results19, go_sem]) rfl ⟨_, by rw [(unhide HB).1], by rw [(unhide HB).2]; exact unhide R2, unhide K2⟩
  · have hl2 : (ds.length : Int) > 20 := by omega
    have HB := hide (lt_no (lt_big hl))
    clear r HY hl
    go_enter Try.func19, Try.ntmps19
    go_wp2
    exact bodyPost_ret (v := .tuple #[.slice none 0 0, .bool false]) (by simp [results, Try.results19, go_sem]) rfl ⟨.slice none 0 0, by rw [(unhide HB).1], by rw [(unhide HB).2]; exact Row.nil _ _ _ _ _, Kept.refl _ _ _⟩

end Go.Proofs.Ytfikfmkhmojpfaa
