/-
  slices.Concat over rows of bytes: one row of them all.
-/
import Derived.Test.YtfikfmkhmojpfaaInsB
import Derived.Lib.AppendZeros
namespace Go.Proofs.Ytfikfmkhmojpfaa
open Go.RowKit
set_option linter.unusedVariables false
set_option maxRecDepth 8000
set_option linter.unusedSimpArgs false

/-- The first n rows behind one another. -/
def cat (F : Nat → List Int) : Nat → List Int
  | 0 => []
  | n + 1 => cat F n ++ F n
theorem cat_succ (F : Nat → List Int) (n : Nat) : cat F (n + 1) = cat F n ++ F n := rfl
theorem cat_le (F : Nat → List Int) {j n : Nat} (h : j < n) : (cat F (j + 1)).length ≤ (cat F n).length := by
  induction n with
  | zero => omega
  | succ n ih =>
    rcases Nat.lt_or_ge j n with h1 | h1
    · have := ih h1
      rw [cat_succ F n, List.length_append]
      omega
    · have : j = n := by omega
      subst this
      exact Nat.le_refl _
/-- A list of rows of bytes, none of them empty. -/
def Parts (w : World) (R n : Nat) (F : Nat → List Int) : Prop :=
  ∀ j, j < n → ∃ g o c, w.cell? ⟨R, j, none⟩ = some (.slice (some ⟨g, o, none⟩) (F j).length c) ∧ 0 < (F j).length ∧ (F j).length ≤ c ∧ ∀ q, q < (F j).length → w.cell? ⟨g, o + q, none⟩ = some (.int .u8 ((F j).getD q 0))

set_option maxHeartbeats 4000000 in
theorem growB_impl {n : Nat} (h0 : 0 < n) (hn : n ≤ 1000000) (w : World) :
    Calls Try.prog 96 #[.slice none 0 0, .int .i64 (n : Int)] w fun e w' => ∃ v, e = .returned v ∧ w'.ownsRow w.heap.size 5 1 v 0 [] ∧ Kept 0 0 w w' := by
  obtain ⟨i1, hi1, hy0, hy1, hy2⟩ := info_parts infoB8
  have hrun := fun ty => Lib.run_append_nil_zeros (P := Try.prog) w 30 3 ty 5 i1 (.int .u8 0) .i64 .i64 Try.underlying30 Try.underlying3 hi1 hy0 n h0 (by rw [hy1]; decide) (by omega) (by rw [hy2]; omega)
  have hge := grownCap_ge w n 0 5
  have hle := grownCap_le_maxLen w n 0 5 (by unfold maxLen; omega)
  obtain ⟨C, hC⟩ : ∃ C, C = grownCap w n 0 5 := ⟨_, rfl⟩
  rw [← hC] at hge hle hrun
  have HRUN := hide hrun
  have hown : (w.drew.alloc (.cells (Builtin.zeroCells (Value.int .u8 0).cells n ++ Builtin.zeroCells (Value.int .u8 0).cells (C - n)) 5)).ownsRow w.heap.size 5 1 (.slice (some ⟨w.heap.size, 0, none⟩) 0 C) 0 [] :=
    ⟨rfl, .inr ⟨w.heap.size, C, _, rfl, Nat.le_refl _, heap_alloc_new w.drew _, Nat.zero_le _, hle, by simp [size_zeroCells, Value.cells]; omega, by simp⟩⟩
  have OWN := hide hown
  have hC63 : C ≤ 9223372036854775807 := by unfold maxLen at hle; omega
  have hw1 : wrap64 ((n : Int) - 0) = (n : Int) := by unfold wrap64; omega
  have hw2 : IntKind.i64.wrap ((n : Int) - 0) = (n : Int) := by rw [IntKind.wrap_i64]; omega
  have hw3 : IntKind.i64.wrap (n : Int) = (n : Int) := by rw [IntKind.wrap_i64]; omega
  have hp1 : ¬ ((n : Int) < 0) := by omega
  have hp2 : (n : Int) > 0 := by omega
  clear hrun hown hC hi1 hy0 hy1 hy2 hle
  go_enter Try.func96, Try.ntmps96
  go_wp2_with (at_builtin; refine Lib.wpList_append_run _ rfl _ _ _ _ rfl _ _ rfl rfl _ _ (unhide HRUN _) ?_)
  go_ret
  exact ⟨_, rfl, unhide OWN, ((Kept.refl 0 0 w).drew).alloc _⟩

set_option maxHeartbeats 16000000 in
theorem concatB_impl {R n : Nat} {F : Nat → List Int} (h0 : 0 < (cat F n).length) (hn : n ≤ 1000) (hnn : (cat F n).length ≤ 1000000) (w : World) (s : Parts w R n F) :
    Calls Try.prog 72 #[.slice (some ⟨R, 0, none⟩) n n] w fun e w' => ∃ v, e = .returned v ∧ w'.ownsRow w.heap.size 5 1 v (cat F n).length ((cat F n).map (Value.int .u8)) ∧ Kept 0 0 w w' := by
  have SQ := hide s
  have hn0 := h0
  obtain ⟨i1, hi1, hy0, hy1, hy2⟩ := info_parts infoB8
  clear s
  go_enter Try.func72, Try.ntmps72
  go_wp2_with fail
  go_loopw [11, 3] (fun s11 s3 wr => ∃ i : Nat, s11 = .int .i64 i ∧ s3 = .int .i64 (((cat F i).length : Nat) : Int) ∧ i ≤ n ∧ w = wr) (fun s11 _ _ => n - (intOf s11).toNat)
  case atStart => exact ⟨0, rfl, by simp [cat], Nat.zero_le _, rfl⟩
  case round =>
    obtain ⟨i, rfl, rfl, hi, rfl⟩ := hrel
    have hwi : IntKind.i64.wrap ((i : Int) + 1) = ((i + 1 : Nat) : Int) := by rw [IntKind.wrap_i64]; omega
    by_cases hlt : i < n
    · obtain ⟨r, ro, cc, c, hp0, hpc, -⟩ := (unhide SQ) i hlt
      have hmul : (cat F (i + 1)).length = (cat F i).length + (F i).length := by rw [cat_succ, List.length_append]
      have hle : (cat F (i + 1)).length ≤ (cat F n).length := cat_le F hlt
      obtain ⟨q, hq⟩ : ∃ q, q = (cat F i).length := ⟨_, rfl⟩
      obtain ⟨q', hq'⟩ : ∃ q', q' = (cat F (i + 1)).length := ⟨_, rfl⟩
      obtain ⟨fl, hfl⟩ : ∃ fl, fl = (F i).length := ⟨_, rfl⟩
      rw [← hfl] at c hp0 hpc hmul
      rw [← hq] at hmul ⊢
      rw [← hq'] at hmul hle
      have hws : IntKind.i64.wrap ((q : Int) + (fl : Int)) = (q' : Int) := by rw [IntKind.wrap_i64]; omega
      have hp : ¬ ((q' : Int) < 0) := by omega
      have HQ := hide hq'
      clear hq hmul hle hq' hfl
      go_wp2
      go_roundw
      case rel => exact ⟨i + 1, by simp, by rw [← unhide HQ], hlt, trivial⟩
      case measure => simp [intOf]; omega
    · have hin : i = n := by omega
      subst hin
      have hg := growB_impl hn0 hnn w
      have HNN := hide hnn
      have HN0 := hide hn0
      clear hnn hn0
      go_wp2_with fail
      refine hg.mono ?_
      rintro e w1 ⟨v1, rfl, o1, k1⟩
      obtain ⟨a1, c1, hv1⟩ := own_slice o1
      subst hv1
      have O1 := hide o1
      clear o1 hg hwi
      go_wp2_with fail
      go_loopw [27, 6] (fun s27 s6 wr => ∃ (j : Nat) (v : Value), s27 = .int .i64 j ∧ s6 = v ∧ j ≤ i ∧ Hid (wr.ownsRow w.heap.size 5 1 v (cat F j).length ((cat F j).map (Value.int .u8))) ∧ Kept 0 0 w wr) (fun s27 _ _ => i - (intOf s27).toNat)
      case atStart => exact ⟨0, _, rfl, rfl, Nat.zero_le _, by show World.ownsRow _ _ _ _ _ _ _; exact unhide O1, k1⟩
      case round =>
        clear O1 k1
        obtain ⟨j, v, rfl, rfl, hj, hO, k⟩ := hrel
        obtain ⟨av, cv, hv⟩ := own_slice (unhide hO)
        subst hv
        have hwj : IntKind.i64.wrap ((j : Int) + 1) = ((j + 1 : Nat) : Int) := by rw [IntKind.wrap_i64]; omega
        by_cases hltj : j < i
        · obtain ⟨r, ro, cc, c, hp0, hpc, q4⟩ := (unhide SQ) j hltj
          replace c := k.cell0 c
          have hmul : (cat F (j + 1)).length = (cat F j).length + (F j).length := by rw [cat_succ, List.length_append]
          have hle : (cat F (j + 1)).length ≤ (cat F i).length := cat_le F hltj
          have hnn2 := unhide HNN
          have hlk : ((F j).map (Value.int .u8)).length = (F j).length * 1 := by rw [List.length_map]; omega
          have HN : Hid (∀ q u, ((F j).map (Value.int .u8))[q]? = some u → wr.cell? ((⟨r, ro, none⟩ : Addr).add q) = some u) := fun q u hq => by
            have hql : q < (F j).length := by
              have := (List.getElem?_eq_some_iff.1 hq).1
              rwa [List.length_map] at this
            rw [List.getElem?_map, List.getElem?_eq_getElem hql] at hq
            have := k.cell0 (q4 q hql)
            rw [Addr.add_lit, this, ← hq, List.getD_eq_getElem?_getD, List.getElem?_eq_getElem hql]
            rfl
          have H1 : Hid (∀ u ∈ (F j).map (Value.int .u8), u.oneCell' = true) := fun u hu => by
            obtain ⟨q, -, rfl⟩ := List.mem_map.1 hu
            rfl
          have C3 : Hid ((cat F j).length + (F j).length ≤ maxLen) := by show _ ≤ _; unfold maxLen; omega
          have C4 : Hid (((cat F j).length + (F j).length) * 1 ≤ 140737488355328) := by show _ ≤ _; omega
          have HB := hide k.size
          have O2 := hide (unhide hO)
          have HLT := hide (unhide hO).lt
          have K := hide k
          have HM := hide hmul
          clear hmul hle hnn2 q4 hO k
          obtain ⟨q, hq⟩ : ∃ q, q = (cat F j).length := ⟨_, rfl⟩
          obtain ⟨fl, hfl⟩ : ∃ fl, fl = (F j).length := ⟨_, rfl⟩
          rw [← hq] at O2 HM C3 C4 HLT ⊢
          rw [← hfl] at HM C3 C4 c hp0 hpc hlk
          have HF := hide hfl
          clear hfl
          have HQ := hide hq
          clear hq
          go_wp2_with (at_builtin; refine wpList_append_own _ rfl _ _ 30 rfl w.heap.size 5 i1 (.int .u8 0) 1 1 Try.underlying30 hi1 hy0 hy1 hy2 rfl (by decide) _ _ _ rfl (unhide O2) ⟨r, ro, none⟩ fl cc ((F j).map (Value.int .u8)) rfl hlk (unhide HN) (unhide H1) (unhide C3) (unhide C4) (unhide HB) ?_)
          intro v4 w4 hown4 hgrow _
          have O4 : Hid (w4.ownsRow w.heap.size 5 1 v4 (cat F (j + 1)).length ((cat F (j + 1)).map (Value.int .u8))) := by
            show World.ownsRow _ _ _ _ _ _ _
            have h5 := hown4
            rw [unhide HQ, unhide HF] at h5
            rw [cat_succ, List.length_append, List.map_append]
            exact h5
          have K4 := hide ((unhide K).growNew hgrow (fun q hq => (unhide HLT q hq).1))
          clear hown4 hgrow O2 hlk HN H1 C3 C4 HB c K HLT
          go_wp2
          go_roundw
          case rel => exact ⟨j + 1, v4, by simp, rfl, hltj, O4, unhide K4⟩
          case measure => simp [intOf]; omega
        · have hjn : j = i := by omega
          subst hjn
          go_wp2
          go_ret
          exact ⟨_, rfl, unhide hO, k⟩

end Go.Proofs.Ytfikfmkhmojpfaa
