/-
  Contracts of the laws' own helpers on whole numbers: szWhole, toWhole, eqWhole, markWhole, heldWhole.
-/
import Derived.Test.YtdhponfpikclhaaLaw2
namespace Go.Proofs.Ytdhponfpikclhaa
open Go.RowKit
set_option linter.unusedVariables false
set_option maxRecDepth 8000

theorem new_cell2 (w : World) (cs : Array Value) (t : TypeId) (n o : Nat) (v : Value) (hn : n = w.heap.size) (hv : cs[o]? = some v) : (w.alloc (.cells cs t)).cell? ⟨n, o, none⟩ = some v := by
  subst hn
  have hg : (w.alloc (.cells cs t)).heap[w.heap.size]? = some (.cells cs t) := heap_alloc_new w _
  simp only [World.cell?, hg]
  simpa using hv
theorem new_loose2 (w : World) (cs : Array Value) (t : TypeId) (n o : Nat) (hn : n = w.heap.size) : (w.alloc (.cells cs t)).frozen? ⟨n, o, none⟩ = false := by
  subst hn
  have hg : (w.alloc (.cells cs t)).heap[w.heap.size]? = some (.cells cs t) := heap_alloc_new w _
  simp only [World.frozen?, hg]
  simp

set_option maxHeartbeats 1000000 in
theorem szWhole_any {bw : Bool} {lo hi : Nat} {v : Value} {zs : List Int} (b : Bool) (w : World) (s : Int) (hs0 : 0 ≤ s) (hs1 : s ≤ 1048576) (r : Row .i64 bw lo hi w v zs) :
    Calls Try.prog 72 #[.agg #[.bool b, v], .int .i64 s] w fun e w' => e = .returned (.int .i64 (if (zs.length : Int) ≤ s then s - zs.length else -1)) ∧ Kept 0 0 w w' := by
  have k0 := (Kept.refl 0 0 w).alloc (.cells #[.bool b, v] 67)
  have s1 := r.kept k0 (by omega)
  have hm := r.len
  unfold maxLen at hm
  obtain ⟨a1, c1, rfl, -⟩ := r
  go_enter Try.func72, Try.ntmps72
  go_wp2_with fail
  refine (szNat_any _ s hs0 hs1 s1).mono ?_
  rintro e w6 ⟨rfl, k6⟩
  have K := hide (k0.trans k6)
  clear s1 k0 k6
  by_cases h : (zs.length : Int) ≤ s
  · rw [if_pos h]
    have h' : ¬ (s - (zs.length : Int)) < 0 := by omega
    go_wp2
    go_ret
    exact ⟨rfl, unhide K⟩
  · rw [if_neg h]
    go_wp2
    go_ret
    exact ⟨rfl, unhide K⟩

set_option maxHeartbeats 1000000 in
theorem eqWhole_same {b1 b2 : Bool} {l1 h1 l2 h2 : Nat} {v1 v2 : Value} {zs : List Int} (b : Bool) (w : World) (r1 : Row .i64 b1 l1 h1 w v1 zs) (r2 : Row .i64 b2 l2 h2 w v2 zs) :
    Calls Try.prog 74 #[.agg #[.bool b, v1], .agg #[.bool b, v2]] w fun e w' => e = .returned (.bool true) ∧ Kept 0 0 w w' := by
  have kk := ((Kept.refl 0 0 w).alloc (.cells #[.bool b, v1] 47)).alloc (.cells #[.bool b, v2] 47)
  have s1 := r1.kept kk (by omega)
  have s2 := r2.kept kk (by omega)
  have KK := hide kk
  obtain ⟨a1, c1, rfl, -⟩ := r1
  obtain ⟨a2, c2, rfl, -⟩ := r2
  have hbb : (b != b) = false := by simp
  clear kk
  go_enter Try.func74, Try.ntmps74
  go_wp2_with fail
  refine (eqNat_same _ s1 s2).mono ?_
  rintro e w6 ⟨rfl, k6⟩
  have K := hide ((unhide KK).trans k6)
  clear s1 s2 k6 KK
  go_wp2
  go_ret
  exact ⟨rfl, unhide K⟩

set_option maxHeartbeats 1000000 in
theorem markWhole_wide {lo hi : Nat} {v : Value} {zs : List Int} (b : Bool) (w : World) (s : Int) (hs0 : 0 ≤ s) (hs1 : s ≤ 1000000000) (hn : zs.length ≤ 1099511627776) (r : Row .i64 true lo hi w v zs) :
    Calls Try.prog 76 #[.agg #[.bool b, v], .int .i64 s] w fun e w' => e = .returned (.int .i64 (s + zs.length)) ∧ Row .i64 true lo hi w' v (marks .i64 s zs.length) ∧ Kept lo hi w w' := by
  have s1 := r.kept ((Kept.refl 0 0 w).alloc (.cells #[.bool b, v] 47)) (by omega)
  obtain ⟨a1, c1, rfl, -⟩ := r
  go_enter Try.func76, Try.ntmps76
  go_wp2_with fail
  refine (markNat_wide _ s hs0 hs1 hn s1).mono ?_
  rintro e w6 ⟨rfl, r6, k6⟩
  have R6 := hide r6
  have K6 := hide (((Kept.refl lo hi w).alloc _).trans k6)
  clear s1 r6 k6
  go_wp2
  go_ret
  exact ⟨rfl, unhide R6, unhide K6⟩

set_option maxHeartbeats 1000000 in
theorem heldWhole_any {bw : Bool} {lo hi : Nat} {v : Value} {n : Nat} (b : Bool) (w : World) (s : Int) (hs0 : 0 ≤ s) (hs1 : s ≤ 1000000) (hn : n ≤ 1099511627776) (r : Row .i64 bw lo hi w v (marks .i64 s n)) :
    Calls Try.prog 77 #[.agg #[.bool b, v], .int .i64 s] w fun e w' => e = .returned (.int .i64 (s + n)) ∧ Kept 0 0 w w' := by
  have k0 := (Kept.refl 0 0 w).alloc (.cells #[.bool b, v] 47)
  have s1 := r.kept k0 (by omega)
  obtain ⟨a1, c1, rfl, -⟩ := r
  have h0 : ¬ (s + (n : Int)) < 0 := by omega
  go_enter Try.func77, Try.ntmps77
  go_wp2_with fail
  refine (heldNat_any _ s hs0 hs1 hn s1).mono ?_
  rintro e w6 ⟨rfl, k6⟩
  have K := hide (k0.trans k6)
  clear s1 k0 k6
  go_wp2
  go_ret
  exact ⟨rfl, unhide K⟩

set_option maxHeartbeats 1000000 in
theorem toWhole_any {bw : Bool} {lo hi : Nat} {v : Value} {zs : List Int} (b : Bool) (w : World) (hn : zs.length ≤ 1099511627776) (r : Row .i64 bw lo hi w v zs) :
    Calls Try.prog 73 #[.agg #[.bool b, v]] w fun e w' => ∃ v', e = .returned (.agg #[.bool b, v']) ∧ Row .i64 true w.heap.size w'.heap.size w' v' zs ∧ Kept 0 0 w w' := by
  obtain ⟨a1, c1, rfl⟩ := Row.form' r
  go_enter Try.func73, Try.ntmps73
  go_wp2_with fail
  generalize hW : ((w.alloc (.cells #[.bool b, .slice a1 zs.length c1] 67)).alloc (.cells #[.bool false, .slice none 0 0] 47)).alloc (.cells #[.bool b, .slice none 0 0] 47) = W at *
  have hk : Kept 0 0 w W := by rw [← hW]; exact (((Kept.refl 0 0 w).alloc _).alloc _).alloc _
  have s1 := r.kept hk (by omega)
  have d0 : W.cell? ⟨w.heap.size + 1, 0, none⟩ = some (.bool false) := by rw [← hW]; exact old_cell _ (new_cell2 _ _ _ _ _ _ (by simp) rfl)
  have d1 : W.cell? ⟨w.heap.size + 1, 1, none⟩ = some (.slice none 0 0) := by rw [← hW]; exact old_cell _ (new_cell2 _ _ _ _ _ _ (by simp) rfl)
  have e0 : W.cell? ⟨w.heap.size + 1 + 1, 0, none⟩ = some (.bool b) := by rw [← hW]; exact new_cell2 _ _ _ _ _ _ (by simp) rfl
  have e1 : W.cell? ⟨w.heap.size + 1 + 1, 1, none⟩ = some (.slice none 0 0) := by rw [← hW]; exact new_cell2 _ _ _ _ _ _ (by simp) rfl
  have f0 : W.frozen? ⟨w.heap.size + 1, 0, none⟩ = false := by rw [← hW]; exact loose_old (by simp) (new_loose2 _ _ _ _ _ (by simp))
  have f1 : W.frozen? ⟨w.heap.size + 1, 1, none⟩ = false := by rw [← hW]; exact loose_old (by simp) (new_loose2 _ _ _ _ _ (by simp))
  have g1 : W.frozen? ⟨w.heap.size + 1 + 1, 1, none⟩ = false := by rw [← hW]; exact new_loose2 _ _ _ _ _ (by simp)
  have hs : W.heap.size = w.heap.size + 3 := by rw [← hW]; simp
  clear hW r
  refine (toNat_any _ hn s1).mono ?_
  rintro e w6 ⟨v6, rfl, r6, k6⟩
  replace d0 := k6.cell0 d0
  replace d1 := k6.cell0 d1
  replace e0 := k6.cell0 e0
  replace e1 := k6.cell0 e1
  replace f0 := k6.loose0 (by simp; omega) f0
  replace f1 := k6.loose0 (by simp; omega) f1
  replace g1 := k6.loose0 (by simp; omega) g1
  obtain ⟨a6, c6, rfl⟩ := Row.form' r6
  have K6 := hide (hk.trans k6)
  have R6 := hide r6
  have HS := hide hs
  clear s1 hk k6 r6 hs
  have R : Hid (Row .i64 true w.heap.size (((w6.setCell ⟨w.heap.size + 1 + 1, 1, none⟩ (.slice a6 zs.length c6)).setCell ⟨w.heap.size + 1, 0, none⟩ (.bool b)).setCell ⟨w.heap.size + 1, 1, none⟩ (.slice a6 zs.length c6)).heap.size (((w6.setCell ⟨w.heap.size + 1 + 1, 1, none⟩ (.slice a6 zs.length c6)).setCell ⟨w.heap.size + 1, 0, none⟩ (.bool b)).setCell ⟨w.heap.size + 1, 1, none⟩ (.slice a6 zs.length c6)) (.slice a6 zs.length c6) zs) :=
    ((((unhide R6).set_other (p := ⟨w.heap.size + 1 + 1, 1, none⟩) (by have := unhide HS; simp; omega) _).set_other (p := ⟨w.heap.size + 1, 0, none⟩) (by have := unhide HS; simp; omega) _).set_other (p := ⟨w.heap.size + 1, 1, none⟩) (by have := unhide HS; simp; omega) _).wider (by have := unhide HS; omega) (by simp [World.setCell])
  have K := hide ((((unhide K6).setNew (p := ⟨w.heap.size + 1 + 1, 1, none⟩) (by simp; omega) (.slice a6 zs.length c6)).setNew (p := ⟨w.heap.size + 1, 0, none⟩) (by simp) (.bool b)).setNew (p := ⟨w.heap.size + 1, 1, none⟩) (by simp) (.slice a6 zs.length c6))
  clear K6 R6 HS
  go_wp2
  exact bodyPost_ret (v := .agg #[.bool b, .slice a6 zs.length c6]) (by simp [results, Try.results73, go_sem, d0, d1]) rfl ⟨_, rfl, unhide R, unhide K⟩

end Go.Proofs.Ytdhponfpikclhaa
