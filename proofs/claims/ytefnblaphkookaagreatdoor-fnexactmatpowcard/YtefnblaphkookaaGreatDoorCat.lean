/-
  slices.Concat over rows of pointers: one list of them all.
-/
import Derived.Test.YtefnblaphkookaaGreatDoorSqg
import Derived.Lib.AppendZeros
namespace Go.Proofs.YtefnblaphkookaaGreatDoor
open Go.RowKit
set_option linter.unusedVariables false
set_option maxRecDepth 8000
set_option linter.unusedSimpArgs false

/-- The first m pointers that G names. -/
def ptrs (G : Nat → Nat) (m : Nat) : List Value := (List.range m).map (fun p => Value.pointer (some ⟨G p, 0, none⟩))
theorem ptrs_length (G : Nat → Nat) (m : Nat) : (ptrs G m).length = m := by simp [ptrs]
theorem ptrs_at (G : Nat → Nat) {m p : Nat} (h : p < m) : (ptrs G m)[p]? = some (Value.pointer (some ⟨G p, 0, none⟩)) := by simp [ptrs, h]
theorem ptrs_add (G : Nat → Nat) (m n : Nat) : ptrs G (m + n) = ptrs G m ++ ptrs (fun j => G (m + j)) n := by
  unfold ptrs
  rw [List.range_add, List.map_append, List.map_map]
  rfl

set_option maxHeartbeats 4000000 in
theorem growP_impl {n : Nat} (h0 : 0 < n) (hn : n ≤ 1000000) (w : World) :
    Calls Tryz.prog 82 #[.slice none 0 0, .int .i64 (n : Int)] w fun e w' => ∃ v, e = .returned v ∧ w'.ownsRow w.heap.size 81 1 v 0 [] ∧ Kept 0 0 w w' := by
  obtain ⟨i1, hi1, hy0, hy1, hy2⟩ := info_parts Tryz.infoPD
  have hrun := fun ty => Lib.run_append_nil_zeros (P := Tryz.prog) w 98 3 ty 81 i1 (.pointer none) .i64 .i64 Tryz.underlying98 Tryz.underlying3 hi1 hy0 n h0 (by rw [hy1]; decide) (by omega) (by rw [hy2]; omega)
  have hge := grownCap_ge w n 0 81
  have hle := grownCap_le_maxLen w n 0 81 (by unfold maxLen; omega)
  obtain ⟨C, hC⟩ : ∃ C, C = grownCap w n 0 81 := ⟨_, rfl⟩
  rw [← hC] at hge hle hrun
  have HRUN := hide hrun
  have hown : (w.drew.alloc (.cells (Builtin.zeroCells (Value.pointer none).cells n ++ Builtin.zeroCells (Value.pointer none).cells (C - n)) 81)).ownsRow w.heap.size 81 1 (.slice (some ⟨w.heap.size, 0, none⟩) 0 C) 0 [] :=
    ⟨rfl, .inr ⟨w.heap.size, C, _, rfl, Nat.le_refl _, heap_alloc_new w.drew _, Nat.zero_le _, hle, by simp [size_zeroCells, Value.cells]; omega, by simp⟩⟩
  have OWN := hide hown
  have hC63 : C ≤ 9223372036854775807 := by unfold maxLen at hle; omega
  have hw1 : wrap64 ((n : Int) - 0) = (n : Int) := by unfold wrap64; omega
  have hw2 : IntKind.i64.wrap ((n : Int) - 0) = (n : Int) := by rw [IntKind.wrap_i64]; omega
  have hw3 : IntKind.i64.wrap (n : Int) = (n : Int) := by rw [IntKind.wrap_i64]; omega
  have hp1 : ¬ ((n : Int) < 0) := by omega
  have hp2 : (n : Int) > 0 := by omega
  clear hrun hown hC hi1 hy0 hy1 hy2 hle
  go_enter Tryz.func82, Tryz.ntmps82
  go_wp2_with (at_builtin; refine Lib.wpList_append_run _ rfl _ _ _ _ rfl _ _ rfl rfl _ _ (unhide HRUN _) ?_)
  go_ret
  exact ⟨_, rfl, unhide OWN, ((Kept.refl 0 0 w).drew).alloc _⟩

set_option maxHeartbeats 16000000 in
theorem concat_impl {S : Nat → Prop} {R n : Nat} {G : Nat → Nat} (h0 : 0 < n) (hn : n ≤ 1000) (w : World) (s : SqG S w R n n G) :
    Calls Tryz.prog 58 #[.slice (some ⟨R, 0, none⟩) n n] w fun e w' => ∃ v, e = .returned v ∧ w'.ownsRow w.heap.size 81 1 v (n * n) (ptrs G (n * n)) ∧ Kept 0 0 w w' := by
  have SQ := hide s
  have hnn : n * n ≤ 1000000 := Nat.mul_le_mul hn hn
  have hn0 : 0 < n * n := Nat.mul_pos h0 h0
  obtain ⟨i1, hi1, hy0, hy1, hy2⟩ := info_parts Tryz.infoPD
  clear s
  go_enter Tryz.func58, Tryz.ntmps58
  go_wp2_with fail
  go_loopw [11, 3] (fun s11 s3 wr => ∃ i : Nat, s11 = .int .i64 i ∧ s3 = .int .i64 ((i * n : Nat) : Int) ∧ i ≤ n ∧ w = wr) (fun s11 _ _ => n - (intOf s11).toNat)
  case atStart => exact ⟨0, rfl, by simp, Nat.zero_le _, rfl⟩
  case round =>
    obtain ⟨i, rfl, rfl, hi, rfl⟩ := hrel
    have hwi : IntKind.i64.wrap ((i : Int) + 1) = ((i + 1 : Nat) : Int) := by rw [IntKind.wrap_i64]; omega
    by_cases hlt : i < n
    · obtain ⟨r, c, -, -, -, -⟩ := (unhide SQ).2.2 i hlt
      have hmul : (i + 1) * n = i * n + n := Nat.succ_mul i n
      have hle : (i + 1) * n ≤ n * n := Nat.mul_le_mul_right n hlt
      obtain ⟨q, hq⟩ : ∃ q, q = i * n := ⟨_, rfl⟩
      obtain ⟨q', hq'⟩ : ∃ q', q' = (i + 1) * n := ⟨_, rfl⟩
      rw [← hq] at hmul ⊢
      rw [← hq'] at hmul hle
      have hws : IntKind.i64.wrap ((q : Int) + (n : Int)) = (q' : Int) := by rw [IntKind.wrap_i64]; omega
      have hp : ¬ ((q' : Int) < 0) := by omega
      have HQ := hide hq'
      clear hq hmul hle hq'
      go_wp2
      go_roundw
      case rel => exact ⟨i + 1, by simp, by rw [← unhide HQ], hlt, trivial⟩
      case measure => simp [intOf]; omega
    · have hin : i = n := by omega
      subst hin
      have hg := growP_impl hn0 hnn w
      have HNN := hide hnn
      have HN0 := hide hn0
      clear hnn hn0
      go_wp2_with fail
      refine hg.mono ?_
      rintro e w1 ⟨v1, rfl, o1, k1⟩
      obtain ⟨a1, c1, hv1⟩ := own_slice o1
      subst hv1
      have O1 := hide o1
      clear o1 hg hwi
      go_wp2_with fail
      go_loopw [27, 6] (fun s27 s6 wr => ∃ (j : Nat) (v : Value), s27 = .int .i64 j ∧ s6 = v ∧ j ≤ i ∧ Hid (wr.ownsRow w.heap.size 81 1 v (j * i) (ptrs G (j * i))) ∧ Kept 0 0 w wr) (fun s27 _ _ => i - (intOf s27).toNat)
      case atStart => exact ⟨0, _, rfl, rfl, Nat.zero_le _, by show World.ownsRow _ _ _ _ _ _ _; rw [Nat.zero_mul]; exact unhide O1, k1⟩
      case round =>
        clear O1 k1
        obtain ⟨j, v, rfl, rfl, hj, hO, k⟩ := hrel
        obtain ⟨av, cv, hv⟩ := own_slice (unhide hO)
        subst hv
        have hwj : IntKind.i64.wrap ((j : Int) + 1) = ((j + 1 : Nat) : Int) := by rw [IntKind.wrap_i64]; omega
        by_cases hltj : j < i
        · obtain ⟨r, c, -, -, -, q4⟩ := (unhide SQ).2.2 j hltj
          replace c := k.cell0 c
          have hmul : (j + 1) * i = j * i + i := Nat.succ_mul j i
          have hle : (j + 1) * i ≤ i * i := Nat.mul_le_mul_right i hltj
          have hnn2 := unhide HNN
          have hlk : (ptrs (fun q => G (j * i + q)) i).length = i * 1 := by rw [ptrs_length]; omega
          have HN : Hid (∀ q u, (ptrs (fun q => G (j * i + q)) i)[q]? = some u → wr.cell? ((⟨r, 0, none⟩ : Addr).add q) = some u) := fun q u hq => by
            have hql : q < i := by
              have := (List.getElem?_eq_some_iff.1 hq).1
              rwa [ptrs_length] at this
            rw [ptrs_at _ hql] at hq
            cases hq
            have := k.cell0 (q4 q hql)
            rw [Addr.add_lit, Nat.zero_add]
            exact this
          have H1 : Hid (∀ u ∈ ptrs (fun q => G (j * i + q)) i, u.oneCell' = true) := fun u hu => by
            unfold ptrs at hu
            obtain ⟨q, -, rfl⟩ := List.mem_map.1 hu
            rfl
          have C3 : Hid (j * i + i ≤ maxLen) := by show _ ≤ _; unfold maxLen; omega
          have C4 : Hid ((j * i + i) * 8 ≤ 140737488355328) := by show _ ≤ _; omega
          have HB := hide k.size
          have O2 := hide (unhide hO)
          have HLT := hide (unhide hO).lt
          have K := hide k
          have HM := hide hmul
          clear hmul hle hnn2 q4 hO k
          obtain ⟨q, hq⟩ : ∃ q, q = j * i := ⟨_, rfl⟩
          rw [← hq] at O2 HM C3 C4 HLT ⊢
          have HQ := hide hq
          clear hq
          go_wp2_with (at_builtin; refine wpList_append_own _ rfl _ _ 98 rfl w.heap.size 81 i1 (.pointer none) 1 8 Tryz.underlying98 hi1 hy0 hy1 hy2 rfl (by decide) _ _ _ rfl (unhide O2) ⟨r, 0, none⟩ i i (ptrs (fun q => G (j * i + q)) i) rfl hlk (unhide HN) (unhide H1) (unhide C3) (unhide C4) (unhide HB) ?_)
          intro v4 w4 hown4 hgrow _
          have O4 : Hid (w4.ownsRow w.heap.size 81 1 v4 ((j + 1) * i) (ptrs G ((j + 1) * i))) := by
            show World.ownsRow _ _ _ _ _ _ _
            have h5 := hown4
            rw [unhide HQ] at h5
            rw [Nat.succ_mul, ptrs_add]
            exact h5
          have K4 := hide ((unhide K).growNew hgrow (fun q hq => (unhide HLT q hq).1))
          clear hown4 hgrow O2 hlk HN H1 C3 C4 HB c K HLT
          go_wp2
          go_roundw
          case rel => exact ⟨j + 1, v4, by simp, rfl, hltj, O4, unhide K4⟩
          case measure => simp [intOf]; omega
        · have hjn : j = i := by omega
          subst hjn
          go_wp2
          go_ret
          exact ⟨_, rfl, unhide hO, k⟩

end Go.Proofs.YtefnblaphkookaaGreatDoor
