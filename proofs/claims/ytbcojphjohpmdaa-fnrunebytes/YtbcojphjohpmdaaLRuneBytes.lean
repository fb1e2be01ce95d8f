/-
  The walk of the law FnRuneBytes: whatever is drawn, a number that is a rune comes back from its bytes.
-/
import Derived.Test.YtbcojphjohpmdaaDraw1
import Derived.Test.YtbcojphjohpmdaaRbDec
import Derived.Test.YtbcojphjohpmdaaImpl1
import Derived.Test.YtbcojphjohpmdaaXRuneAt
import Derived.Lib.SlBytesConst
namespace Go.Proofs.Ytbcojphjohpmdaa
open Go.RowKit
set_option linter.unusedVariables false

set_option maxHeartbeats 2000000 in
theorem drawRuneBytes_any {bw : Bool} {lo hi : Nat} {v : Value} {zs : List Int} (w : World) (r : Row .u8 bw lo hi w v zs) (b : Bytes zs) :
    Calls Try.prog 17 #[v] w fun e w' => ∃ x : Int, e = .returned (.int .i64 x) ∧ Kept 0 0 w w' := by
  go_enter Try.func17, Try.ntmps17
  go_wp2_with fail
  refine (l1New_any _ r b).mono ?_
  rintro e w1 ⟨g, rfl, hg, c1, k1⟩
  have s1 := k1.size
  go_wp2_with fail
  refine (l1Once_any g w.heap.size _ c1 4).mono ?_
  rintro e w2 ⟨b2, rfl, c2, k2, -⟩
  cases b2
  · go_wp2_with fail
    refine (drawRune_any g w.heap.size _ c2).mono ?_
    rintro e w3 ⟨x, rfl, -, c3, k3⟩
    have bel := below_step (below_step k1.toBelow k2 (Nat.le_refl _) (.inl hg)) k3 (Nat.le_refl _) (.inl hg)
    go_wp2
    go_ret
    exact ⟨_, rfl, Kept.pure bel⟩
  · have g2 := c2.1
    go_wp2_with fail
    have hr := Row.lit .i64 w2 3 [-1, 55296, 57343, 1114112, 9223372036854775807, -9223372036854775808] (by simp [maxLen])
    refine (l1PickInt_any g w.heap.size _ (c2.kept ((Kept.refl 0 0 w2).alloc _) (by omega)) hr (by simp) (by omega)).mono ?_
    rintro e w3 ⟨x, rfl, hx, c3, k3, -⟩
    clear hx
    have bel := below_step (below_step (below_step k1.toBelow k2 (Nat.le_refl _) (.inl hg)) ((Kept.refl 0 0 w2).alloc _) (Nat.le_refl _) (by omega)) k3 (Nat.le_refl _) (.inl hg)
    go_wp2
    go_ret
    exact ⟨_, rfl, Kept.pure bel⟩

set_option maxHeartbeats 2000000 in
theorem law_FnRuneBytes {v : Value} {zs : List Int} {w : World} (r : Row .u8 false 0 w.heap.size w v zs) (hb0 : ∀ z ∈ zs, (Lit.int .u8 z).wf = true) :
    Calls Try.prog 4 #[v] w fun e w' => e = .returned (.bool true) ∧ Below w.heap.size w w' := by
  have hb := bytes_of_wf hb0
  clear hb0
  go_enter Try.func4, Try.ntmps4
  go_wp2_with fail
  refine (drawRuneBytes_any _ r hb).mono ?_
  rintro e w1 ⟨x, rfl, k1⟩
  go_wp2_with fail
  refine (rb_impl x _).mono ?_
  rintro e w2 ⟨v2, rfl, r2, k2⟩
  have bel := below_step k1.toBelow k2 (Nat.le_refl _) (by omega)
  cases hm : mayB x
  · rw [rb_none hm] at r2
    obtain ⟨a, c, rfl, -, -, -⟩ := r2
    have hx : x < 0 ∨ 1114111 < x ∨ (55296 ≤ x ∧ x ≤ 57343) := by
      simp [mayB] at hm; omega
    clear hm k1 k2
    by_cases h1 : x < 0
    · go_wp2
      go_ret
      exact ⟨rfl, bel⟩
    by_cases h2 : 1114111 < x
    · go_wp2
      go_ret
      exact ⟨rfl, bel⟩
    obtain ⟨h3, h4⟩ : 55296 ≤ x ∧ x ≤ 57343 := by omega
    clear hx
    go_wp2
    go_ret
    exact ⟨rfl, bel⟩
  · have hlen := rb_length x
    have hpos := rb_some hm
    have r2' := r2.kept ((Kept.refl 0 0 w2).alloc (.cells #[.int .u8 97] 5 (1, 2))) (by omega)
    obtain ⟨g, off, c, rfl, hgl, hgh, hnews⟩ := r2'.news (List.length_pos_iff.1 (by omega))
    have hne : (((rb x).length : Int) == 0) = false := beq_eq_false_iff_ne.2 (by omega)
    obtain ⟨i0, hi0, hz0, hz1, hz2⟩ := info_parts Try.info5
    have kc := fun (wx : World) (C : Array Value) (n c : Nat) => Lib.run_convert_bytes_const (P := Try.prog) wx 22 5 C n c Try.underlying22 Try.underlying5
    have hold : ∀ b : Addr, some (⟨w2.heap.size, 0, none⟩ : Addr) = some b → ∀ j u, [Value.int .u8 97][j]? = some u → (w2.alloc (.cells #[.int .u8 97] 5 (1, 2))).cell? (b.add j) = some u := by
      intro b hb j u hj
      cases hb
      match j, hj with
      | 0, hj => simp at hj; subst hj; rw [Addr.add_zero', World.cell?_alloc_mark]; rfl
    have hml : 1 + (rb x).length ≤ maxLen := by unfold maxLen; omega
    have HB : Hid ((w2.alloc (.cells #[.int .u8 97] 5 (1, 2))).heap.size = w2.heap.size + 1) := by show _ = _; simp
    have HN := hide hnews
    have HO := hide hold
    clear hnews hold r2 r2' k1 k2 hgl hgh
    go_wp2_with (first
      | (at_builtin; refine wpList_append_grows _ rfl (.tmp 30) (.tmp 31) 22 rfl 5 i0 (.int .u8 0) 1 1 Try.underlying22 hi0 hz0 hz1 hz2 rfl (by decide) (some ⟨w2.heap.size, 0, none⟩) 1 1 [.int .u8 97] rfl (by intro h; cases h) rfl (unhide HO) ⟨g, off, none⟩ (rb x).length c ((rb x).map (Value.int .u8)) rfl (by simp) (unhide HN) (ints_one _ _) (by omega) hml (by omega) ?_; intro v3 w3 hown3 hgrow3; rw [unhide HB] at hown3)
      | (at_builtin; (refine wpList_append_own _ rfl (.tmp 32) (.tmp 33) 22 rfl (w2.heap.size + 1) 5 i0 (.int .u8 0) 1 1 Try.underlying22 hi0 hz0 hz1 hz2 rfl (by decide) _ _ _ rfl (hown3.alloc _) ⟨w3.heap.size, 0, none⟩ 1 1 [.int .u8 122] rfl rfl (cell_one_new _ _ _) (by intro u hu; simp at hu; subst hu; rfl) (by unfold maxLen; omega) (by omega) (by have := hgrow3.size; simp at this ⊢; omega) ?_); intro v4 w4 hown4 hgrow4 _)
      | fail)
    have hs3 := hgrow3.size
    have hs4 := hgrow4.size
    simp at hs3 hs4
    have kk3 : Kept 0 0 w2 w3 := ((Kept.refl 0 0 w2).alloc _).trans (Kept.grown (lo := 0) (hi := 0) hgrow3 (fun k hk => by cases hk))
    have kk4 : Kept (w2.heap.size + 1) w3.heap.size w3 w4 := ((Kept.refl _ _ w3).alloc _).trans (Kept.grown hgrow4 (fun k hk => by have := hown3.lt k hk; omega))
    have hown5 : w4.ownsRow (w2.heap.size + 1) 5 1 v4 (([97] ++ rb x) ++ [122]).length ((([97] ++ rb x) ++ [122]).map (Value.int .u8)) := by
      simpa [Nat.add_comm, Nat.add_left_comm, Nat.add_assoc] using hown4
    have r5 := Row.own hown5
    have hrt := drune_rb (([97] ++ rb x) ++ [122]) 1 x hm (by simp; omega) (fun j hj => by
      simp only [List.cons_append, List.nil_append, List.getD]
      rw [Nat.add_comm, List.getElem?_cons_succ, List.getElem?_append_left hj])
    have hby : Bytes (([97] ++ rb x) ++ [122]) := ((Bytes.one (by omega)).app (rb_bytes x)).app (Bytes.one (by omega))
    have hzl : (([97] ++ rb x) ++ [122]).length ≤ 9000000000000000000 := by simp; omega
    have har := arune_at (([97] ++ rb x) ++ [122]) 1 (by simp)
    rw [hrt] at har
    have bel4 := below_step (below_step bel kk3 (Nat.le_refl _) (by omega)) kk4 (Nat.le_refl _) (.inl (by have := bel.size; omega))
    have HC := hide (runeAt_impl w4 r5 hby 1 hzl)
    rw [show (1 : Int) = ((1 : Nat) : Int) from rfl, har] at HC
    clear hown5 hown4 hown3 hgrow3 hgrow4 hi0 hz0 hz1 hz2 kc r5 hby har hrt HN HO HB kk3 kk4 hs3 hs4 bel
    refine (unhide HC).mono ?_
    rintro e w5 ⟨rfl, k5⟩
    have bel5 := below_step bel4 k5 (Nat.le_refl _) (by omega)
    go_wp2
    go_ret
    exact ⟨rfl, bel5⟩

end Go.Proofs.Ytbcojphjohpmdaa
