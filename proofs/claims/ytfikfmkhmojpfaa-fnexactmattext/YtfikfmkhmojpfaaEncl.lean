/-
  The program's text of an interval.
-/
import Derived.Test.YtfikfmkhmojpfaaLst1
namespace Go.Proofs.Ytfikfmkhmojpfaa
open Go.RowKit
set_option linter.unusedVariables false
set_option maxRecDepth 8000
set_option linter.unusedSimpArgs false

theorem row_cap2 {k : IntKind} {bw : Bool} {lo hi n c : Nat} {a : Option Addr} {w : World} {zs : List Int} (r : Row k bw lo hi w (.slice a n c) zs) : n ≤ c := by
  obtain ⟨a', c', e, q1, q2, q3⟩ := r
  injection e with e1 e2 e3
  omega
def encF (o c : Int) (ts : List Int) (j : Nat) : List Int := if j = 0 then [o] else if j = 1 then ts else [c]
set_option maxHeartbeats 4000000 in
theorem enclosed_impl {bw : Bool} {lo hi : Nat} {v : Value} {ts : List Int} (o c : Int) (w : World) (r : Row .u8 bw lo hi w v ts) (hne : ts ≠ []) (hl : ts.length ≤ 500000) :
    Calls Try.prog 53 #[.int .u8 o, v, .int .u8 c] w fun e w' => ∃ v', e = .returned v' ∧ Row .u8 true w.heap.size w'.heap.size w' v' (o :: (ts ++ [c])) ∧ Kept 0 0 w w' := by
  obtain ⟨g, off, cap, rfl, hg1, hg2, hnews⟩ := r.news hne
  have hcap := row_cap2 r
  have hpos : 0 < ts.length := List.length_pos_iff.2 hne
  have k3 : Kept 0 0 w (((w.alloc (.cells #[.int .u8 o] 5)).alloc (.cells #[.int .u8 c] 5)).alloc (.cells #[.slice (some ⟨w.heap.size, 0, none⟩) 1 1, .slice (some ⟨g, off, none⟩) ts.length cap, .slice (some ⟨w.heap.size + 1, 0, none⟩) 1 1] 30)) := (((Kept.refl 0 0 w).alloc _).alloc _).alloc _
  have k2 : Kept 0 0 (w.alloc (.cells #[.int .u8 o] 5)) (((w.alloc (.cells #[.int .u8 o] 5)).alloc (.cells #[.int .u8 c] 5)).alloc (.cells #[.slice (some ⟨w.heap.size, 0, none⟩) 1 1, .slice (some ⟨g, off, none⟩) ts.length cap, .slice (some ⟨w.heap.size + 1, 0, none⟩) 1 1] 30)) := ((Kept.refl 0 0 (w.alloc (.cells #[.int .u8 o] 5))).alloc _).alloc _
  have k1 : Kept 0 0 ((w.alloc (.cells #[.int .u8 o] 5)).alloc (.cells #[.int .u8 c] 5)) (((w.alloc (.cells #[.int .u8 o] 5)).alloc (.cells #[.int .u8 c] 5)).alloc (.cells #[.slice (some ⟨w.heap.size, 0, none⟩) 1 1, .slice (some ⟨g, off, none⟩) ts.length cap, .slice (some ⟨w.heap.size + 1, 0, none⟩) 1 1] 30)) := (Kept.refl 0 0 ((w.alloc (.cells #[.int .u8 o] 5)).alloc (.cells #[.int .u8 c] 5))).alloc _
  have q0 : (((w.alloc (.cells #[.int .u8 o] 5)).alloc (.cells #[.int .u8 c] 5)).alloc (.cells #[.slice (some ⟨w.heap.size, 0, none⟩) 1 1, .slice (some ⟨g, off, none⟩) ts.length cap, .slice (some ⟨w.heap.size + 1, 0, none⟩) 1 1] 30)).cell? ⟨w.heap.size, 0, none⟩ = some (.int .u8 o) := k2.cell0 (new_cell_at _ _ _ _ rfl)
  have q1 : (((w.alloc (.cells #[.int .u8 o] 5)).alloc (.cells #[.int .u8 c] 5)).alloc (.cells #[.slice (some ⟨w.heap.size, 0, none⟩) 1 1, .slice (some ⟨g, off, none⟩) ts.length cap, .slice (some ⟨w.heap.size + 1, 0, none⟩) 1 1] 30)).cell? ⟨w.heap.size + 1, 0, none⟩ = some (.int .u8 c) := k1.cell0 (new_cell_at _ _ _ _ (by simp))
  have pp : Parts (((w.alloc (.cells #[.int .u8 o] 5)).alloc (.cells #[.int .u8 c] 5)).alloc (.cells #[.slice (some ⟨w.heap.size, 0, none⟩) 1 1, .slice (some ⟨g, off, none⟩) ts.length cap, .slice (some ⟨w.heap.size + 1, 0, none⟩) 1 1] 30)) (w.heap.size + 2) 3 (encF o c ts) := by
    intro j hj
    match j, hj with
    | 0, _ =>
      exact ⟨w.heap.size, 0, 1, new_cell2 _ _ _ _ _ _ (by simp) rfl, (by decide : 0 < 1), (by decide : 1 ≤ 1), fun q hq => by
        have hq : q < 1 := hq
        obtain rfl : q = 0 := by omega
        exact q0⟩
    | 1, _ =>
      refine ⟨g, off, cap, new_cell2 _ _ _ _ _ _ (by simp) rfl, hpos, hcap, fun q hq => ?_⟩
      have hq : q < ts.length := hq
      have := k3.cell0 (hnews q (.int .u8 (ts.getD q 0)) (by rw [List.getElem?_map, List.getElem?_eq_getElem hq, List.getD_eq_getElem?_getD, List.getElem?_eq_getElem hq]; rfl))
      rwa [Addr.add_lit] at this
    | 2, _ =>
      exact ⟨w.heap.size + 1, 0, 1, new_cell2 _ _ _ _ _ _ (by simp) rfl, (by decide : 0 < 1), (by decide : 1 ≤ 1), fun q hq => by
        have hq : q < 1 := hq
        obtain rfl : q = 0 := by omega
        exact q1⟩
  have hcat : cat (encF o c ts) 3 = o :: (ts ++ [c]) := by simp [cat, encF]
  obtain ⟨J, hJ⟩ : ∃ J, o :: (ts ++ [c]) = J := ⟨_, rfl⟩
  have hJl : J.length = ts.length + 2 := by rw [← hJ]; simp
  rw [hJ] at hcat ⊢
  have hcc := concatB_impl (n := 3) (by rw [hcat]; omega) (by decide) (by rw [hcat]; omega) _ pp
  rw [hcat] at hcc
  have K3 := hide k3
  clear pp hcat q0 q1 k1 k2 k3 r hnews hJ hJl
  go_enter Try.func53, Try.ntmps53
  go_wp2_with fail
  refine hcc.mono ?_
  rintro e w2 ⟨v2, rfl, o2, kk⟩
  have K4 := hide ((unhide K3).trans kk)
  have R4 := hide ((Row.own o2).wider (lo' := w.heap.size) (unhide K3).size (Nat.le_refl _))
  obtain ⟨a2, c2, hv2⟩ := own_slice o2
  subst hv2
  clear hcc o2 kk
  go_wp2
  go_ret
  exact ⟨_, rfl, unhide R4, unhide K4⟩

/-- What IvText tells. -/

theorem jT_ne {sep : List Int} {F : Nat → List Int} {n : Nat} (h : F n ≠ []) : jT sep F (n + 1) ≠ [] := by
  unfold jT
  split
  · rename_i h0; subst h0; exact h
  · intro e; exact h (List.append_eq_nil_iff.1 e).2

end Go.Proofs.Ytfikfmkhmojpfaa
