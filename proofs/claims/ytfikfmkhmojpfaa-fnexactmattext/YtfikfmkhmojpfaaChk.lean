/-
  slices.Chunk over texts.
-/
import Derived.Test.YtfikfmkhmojpfaaRgR
import Derived.Test.YtfikfmkhmojpfaaLtt
import Derived.Sort.LoopGhostIn
import Derived.RangeFuncCalls
import Derived.Stop.RegionWithIn
namespace Go.Proofs.Ytfikfmkhmojpfaa
open Go.RowKit Go.Shelf
set_option linter.unusedVariables false
set_option maxRecDepth 8000
attribute [local go_sem] Oper.semAt_some

theorem chunk_impl {g c n len : Nat} (w : World) (hn : 1 ≤ n) :
    Calls Try.prog 57 #[.slice (some ⟨g, 0, none⟩) len c, .int .i64 (n : Int)] w fun e w' => e = .returned (.func (.func 81) #[] #[.pointer (some ⟨w.heap.size, 0, none⟩), .pointer (some ⟨w.heap.size + 1, 0, none⟩)]) ∧ w' = (w.alloc (.cells #[.slice (some ⟨g, 0, none⟩) len c] 89)).alloc (.cells #[.int .i64 (n : Int)] 3) := by
  have h1 : ¬ (n : Int) < 1 := by omega
  have c1 : ((w.alloc (.cells #[.slice (some ⟨g, 0, none⟩) len c] 89)).alloc (.cells #[.int .i64 (n : Int)] 3)).cell? ⟨w.heap.size + 1, 0, none⟩ = some (.int .i64 (n : Int)) := new_cell_at _ _ _ _ (by simp)
  go_enter Try.func57, Try.ntmps57
  go_wp2
  go_ret
  exact ⟨rfl, rfl⟩

theorem range_split8 {n i : Nat} (h : i < n) : ∃ post, List.range n = List.range i ++ i :: post := by
  refine ⟨(List.range n).drop (i + 1), ?_⟩
  have h1 := List.take_append_drop i (List.range n)
  rw [List.take_range, Nat.min_eq_left (Nat.le_of_lt h), List.drop_eq_getElem_cons (by simpa using h), List.getElem_range] at h1
  exact h1.symm

set_option maxHeartbeats 8000000 in
theorem chunk1_own {g c m n b : Nat} (k : Nat) (hk0 : 1 ≤ k) (hn : 1 ≤ n) (hm : m ≤ 1000) (hn2 : n ≤ 1000) (hc : m * n ≤ c) (hc2 : c ≤ 1000000000) (w : World) :
    SeqOwnR Fence.wide k Try.prog 81 #[.pointer (some ⟨b, 0, none⟩), .pointer (some ⟨b + 1, 0, none⟩)] (fun j => #[.slice (some ⟨g, j * n, none⟩) n n]) (List.range m)
      (fun A => A.cell? ⟨b, 0, none⟩ = some (.slice (some ⟨g, 0, none⟩) (m * n) c) ∧ A.cell? ⟨b + 1, 0, none⟩ = some (.int .i64 (n : Int))) w := by
  intro l J W kw h0 hk hR hY
  obtain ⟨M, hM⟩ : ∃ M, m * n = M := ⟨_, rfl⟩
  have hMl : M ≤ 1000000 := by rw [← hM]; exact Nat.mul_le_mul hm hn2
  rw [hM] at hc hR
  have HM := hide hM
  have J0 := h0 W.heap.size W (Kept.refl 0 0 W) rfl
  have hd : ∀ pre A, J W.heap.size pre A → J W.heap.size pre A.drew := fun pre A h => hk _ _ _ _ h ((Kept.refl _ _ A).drew)
  clear hM kw h0 hk
  refine callsIn_of_wp Try.func81 rfl trivial ?_ rfl
  simp only [Try.ntmps81, List.size_toArray, List.length_cons, List.length_nil, Nat.reduceAdd, Nat.reduceSub, Array.replicate_succ, Array.replicate_zero, List.push_toArray, List.append_toArray, List.nil_append, List.cons_append]
  gi_wp2_with fail
  have HJ0 := hide J0
  clear J0
  gi_loopg [4] m (fun kk ii wr => ∃ (j I : Nat), ii = .int .i64 (I : Int) ∧ Hid (j * n = I) ∧ Hid (j ≤ m) ∧ kk = m - j ∧ Hid (J W.heap.size (List.range j) wr))
  case atStart => exact ⟨0, 0, rfl, Nat.zero_mul _, Nat.zero_le _, rfl, HJ0⟩
  case round =>
    obtain ⟨j, I, rfl, hIj, hj, hmm, hJ⟩ := hrel
    clear HJ0
    obtain ⟨c1, c2⟩ := hR _ _ _ (unhide hJ)
    have hj5 := unhide hj
    have hI := unhide hIj
    by_cases h1 : j < m
    · have hI2 : I + n ≤ M := by rw [← hI, ← unhide HM, ← Nat.succ_mul]; exact Nat.mul_le_mul_right n h1
      have hI3 : (j + 1) * n = I + n := by rw [Nat.succ_mul, hI]
      have HI3 := hide hI3
      clear hI hI3
      have hlt : (I : Int) < (M : Int) := by omega
      have hIM : I ≤ M := by omega
      have hIc : ¬ c = I := by omega
      have hsub : ((M - I : Nat) : Int) = (M : Int) - (I : Int) := by omega
      have hmin : min (n : Int) ((M : Int) - (I : Int)) = (n : Int) := by omega
      have hmin2 : min (n : Int) ((M - I : Nat) : Int) = (n : Int) := by omega
      have hw1 : IntKind.i64.wrap ((I : Int) + (n : Int)) = ((I + n : Nat) : Int) := by rw [IntKind.wrap_i64]; omega
      obtain ⟨post, hpost⟩ := range_split8 (n := m) (i := j) h1
      have HP := hide hpost
      clear hpost
      gi_wp2_with fail
      have Jd := hd _ _ (unhide hJ)
      obtain ⟨c1d, c2d⟩ := hR _ _ _ Jd
      have hyy := hY W.heap.size (List.range j) j post wr.drew (unhide HP) Jd
      try dsimp only at hyy
      rw [unhide hIj] at hyy
      obtain ⟨fn, tmps, assign, body, hy, hRR⟩ := hyy
      clear hd hY hJ Jd hsub hIj
      gi_region_with fail
      all_goals
        gi_wp2_with fail
        refine hRR.mono ?_
        rintro e w6 ⟨rfl, J6, m6⟩
        have H6 := hide J6
        clear J6 hRR hy m6 c1 c2 c1d c2d
        obtain ⟨d1, d2⟩ := hR _ _ _ (unhide H6)
        clear hR
        gi_wp2
        gi_roundg (m - (j + 1))
        case measure => omega
        case rel => exact ⟨j + 1, I + n, by go_num, unhide HI3, by show _ ≤ _; omega, rfl, by rw [List.range_succ]; exact H6⟩
    · have hjm : j = m := by omega
      subst hjm
      have hIM : I = M := by rw [← hI]; exact unhide HM
      have hlt : ¬ (I : Int) < (M : Int) := by omega
      clear hI hIM
      gi_wp2_with fail
      go_end0
      exact ⟨⟨_, rfl⟩, W.heap.size, unhide hJ⟩

end Go.Proofs.Ytfikfmkhmojpfaa
