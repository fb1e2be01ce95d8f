/-
  Factorials: the program's iterator over numbers and their factorials.
-/
import Derived.Test.YtinbdhnkpdbdgaaFct1
import Derived.Test.YtinbdhnkpdbdgaaRgG
import Derived.Test.YtinbdhnkpdbdgaaBF
import Derived.Sort.LoopGhostIn
namespace Go.Proofs.Ytinbdhnkpdbdgaa
open Go.RowKit Go.Shelf
set_option linter.unusedVariables false
set_option maxRecDepth 8000
attribute [local go_sem] Oper.semAt_some

/-- What the iterator hands over: a number and a list of its own that is its factorial. -/
def FctG (hi : Nat) (x : Nat) (args : Array Value) (A : World) : Prop := ∃ v, args = #[.int .i64 (x : Int), .agg #[v]] ∧ A.ownsRow hi 3 1 v (limbs (fct x)).length ((limbs (fct x)).map (Value.int .i64))

theorem fct_step (i : Nat) : fct (i - 1) * max i 1 = fct i := by
  cases i with
  | zero => rfl
  | succ i => rw [show max (i + 1) 1 = i + 1 by omega, Nat.mul_comm]; rfl

theorem range_split {n i : Nat} (h : i < n) : ∃ post, List.range n = List.range i ++ i :: post := by
  refine ⟨(List.range n).drop (i + 1), ?_⟩
  have h1 := List.take_append_drop i (List.range n)
  rw [List.take_range, Nat.min_eq_left (Nat.le_of_lt h), List.drop_eq_getElem_cons (by simpa using h), List.getElem_range] at h1
  exact h1.symm

set_option maxHeartbeats 8000000 in
theorem factorials1_own {Bn : Nat} (n : Nat) (hn : 1 ≤ n) (last N : Nat) (hN : N = last + 1) (hl : last ≤ 5000) (w : World) (hB : w.cell? ⟨Bn, 0, none⟩ = some (.int .i64 (last : Int))) :
    SeqRel Fence.wide n Try.prog 23 #[.pointer (some ⟨Bn, 0, none⟩)] FctG (List.range N) w := by
  intro l J Jx W k h0 hk hkx hY
  have cB := k.cell0 hB
  clear hB k
  have hc := limbsOfInt_impl W 1 (by decide)
  obtain ⟨L1, hL1⟩ : ∃ L, L = limbs (1 : Int).toNat := ⟨_, rfl⟩
  rw [← hL1] at hc
  have HL1 : Hid (L1 = limbs (fct (0 - 1))) := by show _ = _; rw [hL1]; rfl
  clear hL1
  have hw1 : IntKind.i64.wrap ((last : Int) + 1) = (last : Int) + 1 := by rw [IntKind.wrap_i64]; omega
  refine callsIn_of_wp Try.func23 rfl trivial ?_ rfl
  simp only [Try.ntmps23, List.size_toArray, List.length_cons, List.length_nil, Nat.reduceAdd, Nat.reduceSub, Array.replicate_succ, Array.replicate_zero, List.push_toArray, List.append_toArray, List.nil_append, List.cons_append]
  gi_wp2_with (refine ⟨trivial, ?_⟩; gi_at_call 24; refine (callsIn_wide.2 hc).mono ?_; rintro e w1 ⟨v1, rfl, o1, k1⟩; obtain ⟨a1, c1, hv1⟩ := own_slice o1; subst hv1; have cB1 := (k1.alloc (.cells #[.slice a1 L1.length c1] 34)).cell0 cB)
  have n1 := Num.new 34 o1
  have ks := k1.size
  have J1 := h0 (w1.heap.size + 1) _ (k1.alloc (.cells #[.slice a1 L1.length c1] 34)) (by simp)
  obtain ⟨w2, hw2⟩ : ∃ w2, w1.alloc (.cells #[.slice a1 L1.length c1] 34) = w2 := ⟨_, rfl⟩
  have HW := hide hw2
  have s2 : w2.heap.size = w1.heap.size + 1 := by rw [← hw2]; simp
  rw [hw2] at n1 J1 cB1
  clear hw2
  clear hc cB k1 o1
  gi_loopg [9] (last + 1) (fun k ii wr => ∃ (i : Nat) (u : Value), ii = .int .i64 (i : Int) ∧ Hid (i ≤ N) ∧ k = last + 1 - i ∧ Num W.heap.size wr w1.heap.size u (limbs (fct (i - 1))) ∧ Hid (J (w1.heap.size + 1) (List.range i) wr) ∧ w2.heap.size ≤ wr.heap.size)
  case atStart => exact ⟨0, _, rfl, Nat.zero_le _, rfl, by rw [unhide HW, ← unhide HL1]; exact n1, by rw [unhide HW]; exact J1, by rw [unhide HW]; exact Nat.le_refl _⟩
  case round =>
    obtain ⟨i, u, rfl, hi, hm, nm, hJ, hsz⟩ := hrel
    clear n1 J1 HW cB1
    have hi5 := unhide hi
    have hbase := nm.own.lt
    by_cases h1 : i ≤ last
    · have hlt : (i : Int) < (last : Int) + 1 := by omega
      obtain ⟨post, hpost⟩ := range_split (n := N) (i := i) (by omega)
      obtain ⟨M, hM⟩ : ∃ M : Nat, max (i : Int) 1 = (M : Int) := ⟨max i 1, by omega⟩
      have hMi : M = max i 1 := by omega
      have mc := limbsOfInt_impl wr (max (i : Int) 1) (by omega)
      rw [show (max (i : Int) 1).toNat = M by omega] at mc
      have lM : (limbs M).length ≤ 4 := by have := limbs_int_length (M : Int) (by omega); rwa [Int.toNat_natCast] at this
      have lF := fct_len (i - 1) (by omega)
      have eM : (val (limbs (fct (i - 1))) * val (limbs M)).toNat = fct i := by rw [limbs_val, limbs_val, ← Int.natCast_mul, Int.toNat_natCast, hMi, fct_step]
      obtain ⟨LM, hLM⟩ : ∃ L, L = limbs M := ⟨_, rfl⟩
      have lmM : Lim LM := by rw [hLM]; exact limbs_lim _
      rw [← hLM] at mc lM eM
      have EM := hide eM
      have HP := hide hpost
      clear hLM hM hMi eM hpost
      gi_wp2_with fail
      refine ⟨trivial, ?_⟩
      refine (callsIn_wide.2 mc).mono ?_
      rintro e w3 ⟨v3, rfl, o3, k3⟩
      clear mc
      obtain ⟨a3, c3, hv3⟩ := own_slice o3
      subst hv3
      have ka := k3.alloc (.cells #[.slice a3 LM.length c3] 34)
      have n3 := Num.new 34 o3
      have nm3 := nm.kept ka
      have s3 := ka.size
      clear o3 k3 nm
      gi_wp2_with fail
      generalize w3.alloc (.cells #[.slice a3 LM.length c3] 34) = w4 at *
      have mm := multiply_impl w4 nm3 n3 (limbs_lim _) lmM (by omega) (by omega)
      rw [unhide EM] at mm
      refine ⟨trivial, ?_⟩
      refine (callsIn_wide.2 mm).mono ?_
      rintro e w5 ⟨⟨r5, rfl⟩, u6, n5, m5⟩
      clear mm
      have kwin : Kept W.heap.size (w1.heap.size + 1) wr w5 := (ka.any (lo := W.heap.size) (hi := w1.heap.size + 1)).trans ⟨m5.os, m5.tape, m5.output, m5.size, fun j hj ho => m5.block j hj (by rintro rfl; omega)⟩
      have s5 := m5.size
      have J5 := hk _ _ _ _ (unhide hJ) kwin
      have hG : FctG (w1.heap.size + 1) i #[.int .i64 (i : Int), .agg #[u6]] w5 := ⟨u6, rfl, own_less n5.own (by omega)⟩
      obtain ⟨fn, tmps, assign, body, hy, hR⟩ := hY (w1.heap.size + 1) (List.range i) i post #[.int .i64 (i : Int), .agg #[u6]] w5 (unhide HP) J5 hG
      have c5 := n5.cell
      clear J5 hG kwin ka nm3 n3 m5 hJ
      gi_wp2_with fail
      refine hR.mono ?_
      rintro e w6 (⟨rfl, J6, m6⟩ | ⟨rfl, J6, m6⟩)
      · have n6 := (n5.mod m6 (by unfold Old; omega) (fun j hj => by have := n5.own.lt j hj; unfold Old; omega)).less (b' := W.heap.size) (by omega)
        have s6 := m6.size
        have H6 := hide J6
        clear J6 hR hy hY hk hkx n5 c5 m6
        gi_wp2
        gi_roundg (last + 1 - (i + 1))
        case measure => omega
        case rel => exact ⟨i + 1, u6, by go_num, by show _ ≤ _; omega, rfl, n6, by rw [List.range_succ]; exact H6, by omega⟩
      · have H6 := hide J6
        clear J6 hR hy hY hk hkx n5 c5 m6
        gi_wp2
        refine bodyPost_ret (results_none rfl _ _ _) rfl ?_
        exact ⟨⟨_, rfl⟩, w1.heap.size + 1, .inr ⟨List.range i ++ [i], post, by rw [unhide HP]; simp, unhide H6⟩⟩
    · have hlt : ¬ (i : Int) < (last : Int) + 1 := by omega
      have hil : i = N := by omega
      subst hil
      clear hi hm nm hi5 h1
      try clear hN
      gi_wp2_with fail
      go_end0
      exact ⟨⟨_, rfl⟩, w1.heap.size + 1, .inl (unhide hJ)⟩

end Go.Proofs.Ytinbdhnkpdbdgaa
