/-
  DrawRoot, INat12, INat13, INat18, LNatRoots, in one text.
-/
import Derived.Test.YtdhponfpikclhaaDrawAll
import Derived.Test.YtdhponfpikclhaaNat9
import Derived.Test.YtdhponfpikclhaaINat11
import Derived.Test.YtdhponfpikclhaaNat10
import Derived.Test.YtdhponfpikclhaaINat4
import Derived.Test.YtdhponfpikclhaaINat17
import Derived.Deep.DeepCutAuto
import Derived.Test.YtdhponfpikclhaaRootAll
import Derived.Test.YtdhponfpikclhaaINat9
namespace Go.Proofs.Ytdhponfpikclhaa
open Go.RowKit
set_option linter.unusedVariables false
set_option maxRecDepth 8000
set_option linter.unusedSimpArgs false

set_option maxHeartbeats 4000000 in
theorem drawRoot_any {bw : Bool} {lo hi : Nat} {v : Value} {bs : List Int} (w : World) (r : Row .u8 bw lo hi w v bs) (b : Bytes bs) :
    Calls Try.prog 36 #[v] w fun e w' => ∃ v1, e = .returned (.agg #[v1]) ∧ AnyN w w' v1 ∧ Kept 0 0 w w' := by
  have k0 := (Kept.refl 0 0 w).alloc (.cells #[.slice none 0 0] 26)
  have q := r.kept k0 (by omega)
  have c1 : (w.alloc (.cells #[.slice none 0 0] 26)).cell? ⟨w.heap.size, 0, none⟩ = some (.slice none 0 0) := new_cell_at _ _ _ _ rfl
  have f1 : (w.alloc (.cells #[.slice none 0 0] 26)).frozen? ⟨w.heap.size, 0, none⟩ = false := new_loose _ _ _ _ rfl
  have hs : (w.alloc (.cells #[.slice none 0 0] 26)).heap.size = w.heap.size + 1 := by simp
  obtain ⟨a0, d0, rfl⟩ := Row.form' r
  clear r
  go_enter Try.func36, Try.ntmps36
  go_wp2_with fail
  generalize (w.alloc (.cells #[.slice none 0 0] 26)) = W at *
  refine (l1New_any _ q b).mono ?_
  rintro e w1 ⟨g, rfl, hg, cu, k1⟩
  replace f1 := k1.loose0 (World.block_lt_of_cell? _ _ c1) f1
  replace c1 := k1.cell0 c1
  replace k0 := k0.trans k1
  have hs1 : w.heap.size + 1 ≤ w1.heap.size := by have := k1.size; omega
  have hg2 : w.heap.size + 1 ≤ g := by omega
  have hgl : g < w1.heap.size := cu.1
  clear k1 q hs hg
  generalize hLO : W.heap.size = LO at *
  clear hLO
  go_wp2_with fail
  refine (bent_any g LO _ cu).mono ?_
  rintro e w2 ⟨v2, rfl, zA, oA, hzA, hlA, d2⟩
  have hAA : g < w2.heap.size := d2.1.1
  have sA := d2.2.size
  replace f1 := d2.2.looseOut' (a := ⟨w.heap.size, 0, none⟩) (.inl (show w.heap.size < g by omega)) (World.block_lt_of_cell? _ _ c1) f1
  replace c1 := d2.2.cellOut (.inl (show w.heap.size < g by omega)) c1
  replace k0 := k0.newer' d2.2 (by omega)
  obtain ⟨aA, eA, ev⟩ := own_slice oA
  subst ev
  have kA := (Kept.refl 0 0 w2).alloc (.cells #[.slice aA zA.length eA] 26)
  have rA := Row.own oA
  have cu2 := d2.1.kept kA (by omega)
  clear d2 cu oA
  have cu := cu2
  clear cu2
  replace f1 := kA.loose0 (World.block_lt_of_cell? _ _ c1) f1
  replace c1 := kA.cell0 c1
  replace rA := rA.kept kA (by omega)
  replace k0 := k0.trans kA
  have cA : (w2.alloc (.cells #[.slice aA zA.length eA] 26)).cell? ⟨w2.heap.size, 0, none⟩ = some (.slice aA zA.length eA) := new_cell_at _ _ _ _ rfl
  have tA : w2.heap.size + 1 ≤ (w2.alloc (.cells #[.slice aA zA.length eA] 26)).heap.size := by simp
  clear kA
  go_wp2_with fail
  generalize w2.alloc (.cells #[.slice aA zA.length eA] 26) = w3 at *
  obtain ⟨Ab, hA⟩ : ∃ X, X = w2.heap.size := ⟨_, rfl⟩
  rw [← hA] at cA ⊢
  have HA1 := Nat.le_of_eq hA
  have HA2 := Nat.le_of_eq hA.symm
  clear hA
  refine (ok_spec _ rA).mono ?_
  rintro e w6 ⟨rfl, k6⟩
  replace f1 := k6.loose0 (World.block_lt_of_cell? _ _ c1) f1
  replace c1 := k6.cell0 c1
  replace cA := k6.cell0 cA
  replace rA := rA.kept k6 (by omega)
  replace k0 := k0.trans k6
  have hk6 := k6.size
  replace cu := cu.kept k6 (by omega)
  clear k6
  cases hoA : okB zA
  · have R := hide ((rA.set_other (p := ⟨w.heap.size, 0, none⟩) (.inl (by dsimp only; omega)) (.slice aA zA.length eA)).tight.wider (lo' := w.heap.size) (by omega) (Nat.le_refl _))
    have K := hide (k0.setNew (p := ⟨w.heap.size, 0, none⟩) (Nat.le_refl _) (.slice aA zA.length eA))
    clear rA k0
    go_wp2_with fail
    exact bodyPost_ret (v := .agg #[.slice aA zA.length eA]) (by simp [results, Try.results36, go_sem, c1]) rfl ⟨_, rfl, ⟨_, unhide R⟩, unhide K⟩
  have lim := ((okB_iff zA).1 hoA).2.1
  have len := ((okB_iff zA).1 hoA).1
  clear hoA
  by_cases h6 : (zA.length : Int) < 6
  rotate_left
  · have R := hide ((rA.set_other (p := ⟨w.heap.size, 0, none⟩) (.inl (by dsimp only; omega)) (.slice aA zA.length eA)).tight.wider (lo' := w.heap.size) (by omega) (Nat.le_refl _))
    have K := hide (k0.setNew (p := ⟨w.heap.size, 0, none⟩) (Nat.le_refl _) (.slice aA zA.length eA))
    clear rA k0
    go_wp2_with fail
    exact bodyPost_ret (v := .agg #[.slice aA zA.length eA]) (by simp [results, Try.results36, go_sem, c1]) rfl ⟨_, rfl, ⟨_, unhide R⟩, unhide K⟩
  go_wp2_with fail
  refine (l1Once_any g LO _ cu 3).mono ?_
  rintro e w8 ⟨bb, rfl, d8⟩
  replace f1 := d8.2.1.looseOut' (a := ⟨w.heap.size, 0, none⟩) (.inl (show w.heap.size < g by omega)) (World.block_lt_of_cell? _ _ c1) f1
  replace c1 := d8.2.1.cellOut (.inl (show w.heap.size < g by omega)) c1
  replace cA := d8.2.1.cellOut (.inr (show g + 1 ≤ Ab by omega)) cA
  replace rA := rA.kept d8.2.1 (by omega)
  replace k0 := k0.newer' d8.2.1 (by omega)
  have hk8 := d8.2.1.size
  clear cu d8
  cases bb
  · have R := hide ((rA.set_other (p := ⟨w.heap.size, 0, none⟩) (.inl (by dsimp only; omega)) (.slice aA zA.length eA)).tight.wider (lo' := w.heap.size) (by omega) (Nat.le_refl _))
    have K := hide (k0.setNew (p := ⟨w.heap.size, 0, none⟩) (Nat.le_refl _) (.slice aA zA.length eA))
    clear rA k0
    go_wp2_with fail
    exact bodyPost_ret (v := .agg #[.slice aA zA.length eA]) (by simp [results, Try.results36, go_sem, c1]) rfl ⟨_, rfl, ⟨_, unhide R⟩, unhide K⟩
  go_wp2_with fail
  refine (mul_spec _ rA rA lim lim (by omega) (by omega)).mono ?_
  rintro e w9 ⟨v9, rfl, r9, k9⟩
  replace f1 := k9.loose0 (World.block_lt_of_cell? _ _ c1) f1
  replace c1 := k9.cell0 c1
  replace cA := k9.cell0 cA
  replace rA := rA.kept k9 (by omega)
  replace k0 := k0.trans k9
  have hk9 := k9.size
  clear k9
  generalize limbs (val zA * val zA).toNat = z9 at *
  obtain ⟨a9, e9, ev⟩ := Row.form' r9
  subst ev
  have R := hide ((r9.set_other (p := ⟨w.heap.size, 0, none⟩) (.inl (by dsimp only; omega)) (.slice a9 z9.length e9)).tight.wider (lo' := w.heap.size) (by omega) (Nat.le_refl _))
  have K := hide (k0.setNew (p := ⟨w.heap.size, 0, none⟩) (Nat.le_refl _) (.slice a9 z9.length e9))
  clear rA r9 k0
  go_wp2_with fail
  exact bodyPost_ret (v := .agg #[.slice a9 z9.length e9]) (by simp [results, Try.results36, go_sem, c1]) rfl ⟨_, rfl, ⟨_, unhide R⟩, unhide K⟩

end Go.Proofs.Ytdhponfpikclhaa

namespace Go.Proofs.Ytdhponfpikclhaa
open Go.RowKit
set_option linter.unusedVariables false
set_option maxRecDepth 8000
set_option linter.unusedSimpArgs false

/-- What is told: a number, if it is to be told and not too long. -/
def ansL (c : Bool) (n : Nat) : List Int := if c = true then tell (limbs n) else []
def ansB (c : Bool) (n : Nat) : Bool := c && decide ((limbs n).length ≤ 100)
theorem ansL_no {c : Bool} {n : Nat} (h : c = false) : ansL c n = [] := by unfold ansL; rw [h]; rfl
theorem ansB_no {c : Bool} {n : Nat} (h : c = false) : ansB c n = false := by unfold ansB; rw [h]; rfl
theorem ansL_yes {c : Bool} {n : Nat} (h : c = true) : ansL c n = tell (limbs n) := by unfold ansL; rw [h]; rfl
theorem ansB_yes {c : Bool} {n : Nat} (h : c = true) : ansB c n = decide ((limbs n).length ≤ 100) := by unfold ansB; rw [h]; rfl
theorem ansL_len (c : Bool) (n : Nat) : (ansL c n).length ≤ 100 := by
  unfold ansL tell
  split
  · split
    · assumption
    · simp
  · simp

set_option maxHeartbeats 8000000 in
theorem natAdd_impl {b1 b2 : Bool} {l1 h1 l2 h2 : Nat} {v1 v2 : Value} {xs ys : List Int} (w : World) (r1 : Row .i64 b1 l1 h1 w v1 xs) (r2 : Row .i64 b2 l2 h2 w v2 ys) :
    Calls Try.prog 27 #[.agg #[v1], .agg #[v2]] w fun e w' => ∃ v', e = .returned (.tuple #[.agg #[v'], .bool (ansB (okB xs && okB ys) (val xs + val ys).toNat)]) ∧ Row .i64 true w.heap.size w'.heap.size w' v' (ansL (okB xs && okB ys) (val xs + val ys).toNat) ∧ Kept 0 0 w w' := by
  have k0 := (((Kept.refl 0 0 w).alloc (.cells #[v1] 26)).alloc (.cells #[v2] 26)).alloc (.cells #[.slice none 0 0] 26)
  have q1 := r1.kept k0 (by omega)
  have q2 := r2.kept k0 (by omega)
  have c1 : (((w.alloc (.cells #[v1] 26)).alloc (.cells #[v2] 26)).alloc (.cells #[.slice none 0 0] 26)).cell? ⟨w.heap.size, 0, none⟩ = some (v1) := old_cell _ (old_cell _ (new_cell_at _ _ _ _ (by simp)))
  have c2 : (((w.alloc (.cells #[v1] 26)).alloc (.cells #[v2] 26)).alloc (.cells #[.slice none 0 0] 26)).cell? ⟨w.heap.size + 1, 0, none⟩ = some (v2) := old_cell _ (new_cell_at _ _ _ _ (by simp))
  have c3 : (((w.alloc (.cells #[v1] 26)).alloc (.cells #[v2] 26)).alloc (.cells #[.slice none 0 0] 26)).cell? ⟨w.heap.size + 2, 0, none⟩ = some (.slice none 0 0) := new_cell_at _ _ _ _ (by simp)
  have f3 : (((w.alloc (.cells #[v1] 26)).alloc (.cells #[v2] 26)).alloc (.cells #[.slice none 0 0] 26)).frozen? ⟨w.heap.size + 2, 0, none⟩ = false := new_loose _ _ _ _ (by simp)
  obtain ⟨a1, d1, rfl⟩ := Row.form' r1
  obtain ⟨a2, d2, rfl⟩ := Row.form' r2
  clear r1 r2
  go_enter Try.func27, Try.ntmps27
  go_wp2_with fail
  generalize ((w.alloc (.cells #[.slice a1 xs.length d1] 26)).alloc (.cells #[.slice a2 ys.length d2] 26)).alloc (.cells #[.slice none 0 0] 26) = W at *
  refine (ok_impl _ q1).mono ?_
  rintro e w1 ⟨rfl, k1⟩
  replace c1 := k1.cell0 c1
  replace c2 := k1.cell0 c2
  replace f3 := k1.loose0 (World.block_lt_of_cell? _ _ c3) f3
  replace c3 := k1.cell0 c3
  replace q1 := q1.kept k1 (by omega)
  replace q2 := q2.kept k1 (by omega)
  have K := hide (k0.trans k1)
  clear k0 k1
  cases hok1 : okB xs
  · have HK := hide hok1
    clear q1 q2 hok1
    have K' := hide ((unhide K).setNew (p := ⟨w.heap.size + 2, 0, none⟩) (by simp) (.slice none 0 0))
    go_wp2_with fail
    have e0 : (okB xs && okB ys) = false := by simp [unhide HK]
    exact bodyPost_ret (v := .tuple #[.agg #[.slice none 0 0], .bool false]) (by simp [results, Try.results27, go_sem, c3]) rfl ⟨_, by rw [ansB_no e0], by rw [ansL_no e0]; exact Row.nil _ _ _ _ _, unhide K'⟩
  have HK1 := hide hok1
  clear hok1
  go_wp2_with fail
  refine (ok_impl _ q2).mono ?_
  rintro e w2 ⟨rfl, k2⟩
  replace c1 := k2.cell0 c1
  replace c2 := k2.cell0 c2
  replace f3 := k2.loose0 (World.block_lt_of_cell? _ _ c3) f3
  replace c3 := k2.cell0 c3
  replace q1 := q1.kept k2 (by omega)
  replace q2 := q2.kept k2 (by omega)
  replace K := hide ((unhide K).trans k2)
  clear k2
  cases hok2 : okB ys
  · have HK := hide hok2
    clear q1 q2 hok2
    have K' := hide ((unhide K).setNew (p := ⟨w.heap.size + 2, 0, none⟩) (by simp) (.slice none 0 0))
    go_wp2_with fail
    have e0 : (okB xs && okB ys) = false := by simp [unhide HK]
    exact bodyPost_ret (v := .tuple #[.agg #[.slice none 0 0], .bool false]) (by simp [results, Try.results27, go_sem, c3]) rfl ⟨_, by rw [ansB_no e0], by rw [ansL_no e0]; exact Row.nil _ _ _ _ _, unhide K'⟩
  have HK2 := hide hok2
  clear hok2
  have hx1 : xs.length ≤ 1000000 := by have := ((okB_iff xs).1 (unhide HK1)).1; omega
  have hx2 : ys.length ≤ 1000000 := by have := ((okB_iff ys).1 (unhide HK2)).1; omega
  go_wp2_with fail
  have b1' : w.heap.size < w2.heap.size := World.block_lt_of_cell? _ _ c1
  have b2' : w.heap.size + 1 < w2.heap.size := World.block_lt_of_cell? _ _ c2
  go_region_held3 (fun w' => w'.cell? ⟨w.heap.size, 0, none⟩ = some (.slice a1 xs.length d1) ∧ w'.cell? ⟨w.heap.size + 1, 0, none⟩ = some (.slice a2 ys.length d2) ∧ Kept 0 0 w2 w')
    (repeat (first
      | exact h4
      | exact h3
      | exact ⟨c1, c2, Kept.refl 0 0 _⟩
      | exact ⟨c1, c2, (Kept.refl 0 0 _).drew⟩
      | refine hold_alloc _ ?_
      | refine hold_drew ?_
      | refine hold_set _ ?_ b1' b2' (by simp <;> omega)))
    ((first
      | (go_at_call_of 87 (Value.agg #[Value.slice a1 xs.length d1])
         refine (limbsOf_kept q1 hx1 ?_).mono ?_
         · exact And.right (And.right (by assumption))
         rintro e w3 ⟨v3, rfl, o3, k3⟩
         have s3 := hold_size (by assumption) k3
         have h3 := hold_kept (by assumption) k3
         try
           have x3 := k3.cell0 (drew_cell (new_cell_at _ _ _ _ rfl))
           have fx3 := k3.loose0 (by simp <;> omega) (drew_loose (new_loose _ _ _ _ rfl))
           have lx3 := World.block_lt_of_cell? _ _ x3
           try simp only [World.size_alloc, heap_drew] at x3 fx3 lx3
           have nx3 := Nat.ne_of_lt lx3
           have mx3 := Nat.ne_of_gt lx3
         try
           have y3 := k3.cell0 (drew_cell (old_cell _ (new_cell_at _ _ _ _ rfl)))
           have fy3 := k3.loose0 (by simp <;> omega) (drew_loose (loose_old (by simp <;> omega) (new_loose _ _ _ _ rfl)))
           have ly3 := World.block_lt_of_cell? _ _ y3
           try simp only [World.size_alloc, heap_drew] at y3 fy3 ly3
           have ny3 := Nat.ne_of_lt ly3
           have my3 := Nat.ne_of_gt ly3
         obtain ⟨a3, d3, rfl⟩ := own_slice o3)
      | (go_at_call_of 87 (Value.agg #[Value.slice a2 ys.length d2])
         refine (limbsOf_kept q2 hx2 ?_).mono ?_
         · exact And.right (And.right (by assumption))
         rintro e w4 ⟨v4, rfl, o4, k4⟩
         have s4 := hold_size (by assumption) k4
         have h4 := hold_kept (by assumption) k4
         try
           have x4 := k4.cell0 (new_cell_at _ _ _ _ rfl)
           have fx4 := k4.loose0 (by simp <;> omega) (new_loose _ _ _ _ rfl)
           have lx4 := World.block_lt_of_cell? _ _ x4
           try simp only [World.size_alloc, heap_drew] at x4 fx4 lx4
           have nx4 := Nat.ne_of_lt lx4
           have mx4 := Nat.ne_of_gt lx4
         try
           have y4 := k4.cell0 (old_cell _ (new_cell_at _ _ _ _ rfl))
           have fy4 := k4.loose0 (by simp <;> omega) (loose_old (by simp <;> omega) (new_loose _ _ _ _ rfl))
           have ly4 := World.block_lt_of_cell? _ _ y4
           try simp only [World.size_alloc, heap_drew] at y4 fy4 ly4
           have ny4 := Nat.ne_of_lt ly4
           have my4 := Nat.ne_of_gt ly4
         try
           have gx3 := k4.cell0 (x3)
           have px3 := k4.loose0 (by simp <;> omega) (fx3)
           have qx3 := Nat.ne_of_lt (World.block_lt_of_cell? _ _ gx3)
           have rx3 := Nat.ne_of_gt (World.block_lt_of_cell? _ _ gx3)
           have lgx3 := World.block_lt_of_cell? _ _ gx3
           dsimp only at qx3 rx3 lgx3
         try
           have gx3 := k4.cell0 (old_cell _ x3)
           have px3 := k4.loose0 (by simp <;> omega) (loose_old (Nat.lt_of_lt_of_le lx3 (Nat.le_refl _)) fx3)
           have qx3 := Nat.ne_of_lt (World.block_lt_of_cell? _ _ gx3)
           have rx3 := Nat.ne_of_gt (World.block_lt_of_cell? _ _ gx3)
           have lgx3 := World.block_lt_of_cell? _ _ gx3
           dsimp only at qx3 rx3 lgx3
         try
           have gx3 := k4.cell0 (old_cell _ (old_cell _ x3))
           have px3 := k4.loose0 (by simp <;> omega) (loose_old (by simp <;> omega) (loose_old (Nat.lt_of_lt_of_le lx3 (Nat.le_refl _)) fx3))
           have qx3 := Nat.ne_of_lt (World.block_lt_of_cell? _ _ gx3)
           have rx3 := Nat.ne_of_gt (World.block_lt_of_cell? _ _ gx3)
           have lgx3 := World.block_lt_of_cell? _ _ gx3
           dsimp only at qx3 rx3 lgx3
         try
           have gy3 := k4.cell0 (y3)
           have py3 := k4.loose0 (by simp <;> omega) (fy3)
           have qy3 := Nat.ne_of_lt (World.block_lt_of_cell? _ _ gy3)
           have ry3 := Nat.ne_of_gt (World.block_lt_of_cell? _ _ gy3)
           have lgy3 := World.block_lt_of_cell? _ _ gy3
           dsimp only at qy3 ry3 lgy3
         try
           have gy3 := k4.cell0 (old_cell _ y3)
           have py3 := k4.loose0 (by simp <;> omega) (loose_old (Nat.lt_of_lt_of_le ly3 (Nat.le_refl _)) fy3)
           have qy3 := Nat.ne_of_lt (World.block_lt_of_cell? _ _ gy3)
           have ry3 := Nat.ne_of_gt (World.block_lt_of_cell? _ _ gy3)
           have lgy3 := World.block_lt_of_cell? _ _ gy3
           dsimp only at qy3 ry3 lgy3
         try
           have gy3 := k4.cell0 (old_cell _ (old_cell _ y3))
           have py3 := k4.loose0 (by simp <;> omega) (loose_old (by simp <;> omega) (loose_old (Nat.lt_of_lt_of_le ly3 (Nat.le_refl _)) fy3))
           have qy3 := Nat.ne_of_lt (World.block_lt_of_cell? _ _ gy3)
           have ry3 := Nat.ne_of_gt (World.block_lt_of_cell? _ _ gy3)
           have lgy3 := World.block_lt_of_cell? _ _ gy3
           dsimp only at qy3 ry3 lgy3
         obtain ⟨a4, d4, rfl⟩ := own_slice o4)))
  all_goals
    have O1 : w4.ownsRow w2.heap.size 3 1 (.slice a3 xs.length d3) xs.length (xs.map (Value.int .i64)) := by
      first
        | exact own_less (own_kept o3 k4) s3.1
        | exact own_less (own_kept o3 (((Kept.refl 0 0 _).alloc _).trans k4)) s3.1
        | exact own_less (own_kept o3 ((((Kept.refl 0 0 _).alloc _).alloc _).trans k4)) s3.1
    try simp only [World.size_alloc, heap_drew] at s3
    try simp only [World.size_alloc, heap_drew] at s4
    have r3 := o3.lt
    have r4 := o4.lt
    try simp only [World.size_alloc, heap_drew] at r3
    try simp only [World.size_alloc, heap_drew] at r4
    have h12 : ∀ k, (Value.slice a3 xs.length d3).ownBlock = some k → (Value.slice a4 ys.length d4).ownBlock ≠ some k := fun k e1 e2 => by have := r3 k e1; have := r4 k e2; omega
    have hk24 := h4.2.2
    clear h3 h4 k3 k4
    have hn1 := ((okB_iff xs).1 (unhide HK1)).2
    have hn2 := ((okB_iff ys).1 (unhide HK2)).2
    have hl1 : xs.length ≤ 100000 := by have := ((okB_iff xs).1 (unhide HK1)).1; omega
    have hl2 : ys.length ≤ 100000 := by have := ((okB_iff ys).1 (unhide HK2)).1; omega
    go_wp2_with fail
    refine (add_two (w0 := w2) ?_ hn1 hn2 hl1 hl2).mono ?_
    · first
        | exact ⟨_, _, two_both hk24 O1 o4 _ _ (by (try simp) <;> omega) (by (try simp) <;> omega) h12⟩
        | exact ⟨_, _, (two_both hk24 o4 O1 _ _ (by (try simp) <;> omega) (by (try simp) <;> omega) (fun k e1 e2 => h12 k e2 e1)).swap⟩
        | exact ⟨_, _, two_new hk24 O1 o4 (by assumption) (by assumption) _ (by omega) (by (try simp) <;> omega) (by (try simp) <;> omega) (fun e => by have := r3 _ e; omega) (fun e => by have := r4 _ e; omega) h12⟩
        | exact ⟨_, _, (two_new hk24 o4 O1 (by assumption) (by assumption) _ (by omega) (by (try simp) <;> omega) (by (try simp) <;> omega) (fun e => by have := r4 _ e; omega) (fun e => by have := r3 _ e; omega) (fun k e1 e2 => h12 k e2 e1)).swap⟩
        | exact ⟨_, _, two_set hk24 O1 o4 (by assumption) (by assumption) (by assumption) (by assumption) (by omega) (by omega) (by omega) (by (try simp) <;> omega) (by (try simp) <;> omega) (fun e => by have := r3 _ e; omega) (fun e => by have := r3 _ e; omega) (fun e => by have := r4 _ e; omega) (fun e => by have := r4 _ e; omega) h12⟩
    rintro e w6 ⟨⟨r6, rfl⟩, u6, u6', t6⟩
    have n6 := t6.n1
    have k6 := t6.k
    clear t6
    have c3' := k6.cell0 c3
    have f3' := k6.loose0 (World.block_lt_of_cell? _ _ c3) f3
    have K6 := hide ((unhide K).trans k6)
    clear O1 o3 o4 r3 r4 h12 hk24 q1 q2 hn1 hn2 k6
    go_wp2_with fail
    refine (told_impl _ n6).mono ?_
    rintro e w7 ⟨v7, rfl, r7, k7⟩
    generalize hzz : tell (limbs (val xs + val ys).toNat) = zz at *
    generalize hbb : decide ((limbs (val xs + val ys).toNat).length ≤ 100) = bb at *
    have HZ : Hid (ansL (okB xs && okB ys) (val xs + val ys).toNat = zz) := by show _ = _; rw [ansL_yes (by simp [unhide HK1, unhide HK2]), hzz]
    have HB : Hid (ansB (okB xs && okB ys) (val xs + val ys).toNat = bb) := by show _ = _; rw [ansB_yes (by simp [unhide HK1, unhide HK2]), hbb]
    have b6 := World.block_lt_of_cell? _ _ c3'
    dsimp only at b6
    replace f3' := k7.loose0 b6 f3'
    replace c3' := k7.cell0 c3'
    obtain ⟨a7, d7, rfl⟩ := Row.form' r7
    have R := hide ((r7.set_other (p := ⟨w.heap.size + 2, 0, none⟩) (.inl b6) (.slice a7 zz.length d7)).tight.wider (lo' := w.heap.size) (by omega) (Nat.le_refl _))
    have K7 := hide (((unhide K6).trans k7).setNew (p := ⟨w.heap.size + 2, 0, none⟩) (by simp) (.slice a7 zz.length d7))
    clear r7 k7 n6 hzz hbb
    go_wp2_with fail
    exact bodyPost_ret (v := .tuple #[.agg #[.slice a7 zz.length d7], .bool bb]) (by simp [results, Try.results27, go_sem, c3']) rfl ⟨_, by rw [unhide HB], by rw [unhide HZ]; exact unhide R, unhide K7⟩

end Go.Proofs.Ytdhponfpikclhaa

namespace Go.Proofs.Ytdhponfpikclhaa
open Go.RowKit
set_option linter.unusedVariables false
set_option maxRecDepth 8000
set_option linter.unusedSimpArgs false

set_option maxHeartbeats 1000000 in
theorem natMul_spec {b1 b2 : Bool} {l1 h1 l2 h2 : Nat} {v1 v2 : Value} {xs ys : List Int} (w : World) (r1 : Row .i64 b1 l1 h1 w v1 xs) (r2 : Row .i64 b2 l2 h2 w v2 ys) :
    Calls Try.prog 96 #[.agg #[v1], .agg #[v2]] w fun e w' => ∃ v', e = .returned (.tuple #[.agg #[v'], .bool (ansB (okB xs && okB ys) (val xs * val ys).toNat)]) ∧ Row .i64 true w.heap.size w'.heap.size w' v' (ansL (okB xs && okB ys) (val xs * val ys).toNat) ∧ Kept 0 0 w w' := by
  have k0 := (((Kept.refl 0 0 w).alloc (.cells #[v1] 26)).alloc (.cells #[v2] 26)).alloc (.cells #[.slice none 0 0] 26)
  have q1 := r1.kept k0 (by omega)
  have q2 := r2.kept k0 (by omega)
  have c1 : (((w.alloc (.cells #[v1] 26)).alloc (.cells #[v2] 26)).alloc (.cells #[.slice none 0 0] 26)).cell? ⟨w.heap.size, 0, none⟩ = some (v1) := old_cell _ (old_cell _ (new_cell_at _ _ _ _ (by simp)))
  have c2 : (((w.alloc (.cells #[v1] 26)).alloc (.cells #[v2] 26)).alloc (.cells #[.slice none 0 0] 26)).cell? ⟨w.heap.size + 1, 0, none⟩ = some (v2) := old_cell _ (new_cell_at _ _ _ _ (by simp))
  have c3 : (((w.alloc (.cells #[v1] 26)).alloc (.cells #[v2] 26)).alloc (.cells #[.slice none 0 0] 26)).cell? ⟨w.heap.size + 2, 0, none⟩ = some (.slice none 0 0) := new_cell_at _ _ _ _ (by simp)
  have f3 : (((w.alloc (.cells #[v1] 26)).alloc (.cells #[v2] 26)).alloc (.cells #[.slice none 0 0] 26)).frozen? ⟨w.heap.size + 2, 0, none⟩ = false := new_loose _ _ _ _ (by simp)
  obtain ⟨a1, d1, rfl⟩ := Row.form' r1
  obtain ⟨a2, d2, rfl⟩ := Row.form' r2
  clear r1 r2
  go_enter Try.func96, Try.ntmps96
  go_wp2_with fail
  generalize ((w.alloc (.cells #[.slice a1 xs.length d1] 26)).alloc (.cells #[.slice a2 ys.length d2] 26)).alloc (.cells #[.slice none 0 0] 26) = W at *
  refine (ok_spec _ q1).mono ?_
  rintro e w1 ⟨rfl, k1⟩
  replace c1 := k1.cell0 c1
  replace c2 := k1.cell0 c2
  replace f3 := k1.loose0 (World.block_lt_of_cell? _ _ c3) f3
  replace c3 := k1.cell0 c3
  replace q1 := q1.kept k1 (by omega)
  replace q2 := q2.kept k1 (by omega)
  have K := hide (k0.trans k1)
  clear k0 k1
  cases hok1 : okB xs
  · have HK := hide hok1
    clear q1 q2 hok1
    have K' := hide ((unhide K).setNew (p := ⟨w.heap.size + 2, 0, none⟩) (by simp) (.slice none 0 0))
    go_wp2_with fail
    have e0 : (okB xs && okB ys) = false := by simp [unhide HK]
    exact bodyPost_ret (v := .tuple #[.agg #[.slice none 0 0], .bool false]) (by simp [results, Try.results96, go_sem, c3]) rfl ⟨_, by rw [ansB_no e0], by rw [ansL_no e0]; exact Row.nil _ _ _ _ _, unhide K'⟩
  have HK1 := hide hok1
  clear hok1
  go_wp2_with fail
  refine (ok_spec _ q2).mono ?_
  rintro e w2 ⟨rfl, k2⟩
  replace c1 := k2.cell0 c1
  replace c2 := k2.cell0 c2
  replace f3 := k2.loose0 (World.block_lt_of_cell? _ _ c3) f3
  replace c3 := k2.cell0 c3
  replace q1 := q1.kept k2 (by omega)
  replace q2 := q2.kept k2 (by omega)
  replace K := hide ((unhide K).trans k2)
  clear k2
  cases hok2 : okB ys
  · have HK := hide hok2
    clear q1 q2 hok2
    have K' := hide ((unhide K).setNew (p := ⟨w.heap.size + 2, 0, none⟩) (by simp) (.slice none 0 0))
    go_wp2_with fail
    have e0 : (okB xs && okB ys) = false := by simp [unhide HK]
    exact bodyPost_ret (v := .tuple #[.agg #[.slice none 0 0], .bool false]) (by simp [results, Try.results96, go_sem, c3]) rfl ⟨_, by rw [ansB_no e0], by rw [ansL_no e0]; exact Row.nil _ _ _ _ _, unhide K'⟩
  have HK2 := hide hok2
  clear hok2
  have hn1 := ((okB_iff xs).1 (unhide HK1)).2
  have hn2 := ((okB_iff ys).1 (unhide HK2)).2
  have hl1 : xs.length ≤ 100000 := by have := ((okB_iff xs).1 (unhide HK1)).1; omega
  have hl2 : ys.length ≤ 100000 := by have := ((okB_iff ys).1 (unhide HK2)).1; omega
  go_wp2_with fail
  refine (mul_spec _ q1 q2 hn1.1 hn2.1 hl1 hl2).mono ?_
  rintro e w6 ⟨v6, rfl, r6, k6⟩
  have b2 := World.block_lt_of_cell? _ _ c3
  dsimp only at b2
  replace f3 := k6.loose0 b2 f3
  replace c3 := k6.cell0 c3
  replace K := hide ((unhide K).trans k6)
  have b6 := World.block_lt_of_cell? _ _ c3
  dsimp only at b6
  clear q1 q2 k6 hn1 hn2
  go_wp2_with fail
  refine (fits_spec _ r6).mono ?_
  rintro e w7 ⟨rfl, k7⟩
  replace r6 := r6.kept k7 (by omega)
  replace f3 := k7.loose0 b6 f3
  replace c3 := k7.cell0 c3
  replace K := hide ((unhide K).trans k7)
  clear k7
  obtain ⟨v7, zz, hv7, hz7, R7⟩ : ∃ v7 zz, (if (limbs (val xs * val ys).toNat).length ≤ 100 then v6 else .slice none 0 0) = v7 ∧ tell (limbs (val xs * val ys).toNat) = zz ∧ Row .i64 true w2.heap.size w7.heap.size w7 v7 zz := by
    by_cases h : (limbs (val xs * val ys).toNat).length ≤ 100
    · exact ⟨v6, limbs (val xs * val ys).toNat, by rw [if_pos h], tell_short h, r6.tight⟩
    · exact ⟨_, [], by rw [if_neg h], by unfold tell; rw [if_neg h], Row.nil _ _ _ _ _⟩
  generalize hbb : decide ((limbs (val xs * val ys).toNat).length ≤ 100) = bb at *
  rw [hv7]
  have HZ : Hid (ansL (okB xs && okB ys) (val xs * val ys).toNat = zz) := by show _ = _; rw [ansL_yes (by simp [unhide HK1, unhide HK2]), hz7]
  have HB : Hid (ansB (okB xs && okB ys) (val xs * val ys).toNat = bb) := by show _ = _; rw [ansB_yes (by simp [unhide HK1, unhide HK2]), hbb]
  obtain ⟨a7, d7, rfl⟩ := Row.form' R7
  have R := hide ((R7.set_other (p := ⟨w.heap.size + 2, 0, none⟩) (.inl b2) (.slice a7 zz.length d7)).tight.wider (lo' := w.heap.size) (by omega) (Nat.le_refl _))
  have K7 := hide ((unhide K).setNew (p := ⟨w.heap.size + 2, 0, none⟩) (by simp) (.slice a7 zz.length d7))
  clear R7 r6 hz7 hv7 hbb
  go_wp2_with fail
  exact bodyPost_ret (v := .tuple #[.agg #[.slice a7 zz.length d7], .bool bb]) (by simp [results, Try.results96, go_sem, c3]) rfl ⟨_, by rw [unhide HB], by rw [unhide HZ]; exact unhide R, unhide K7⟩

end Go.Proofs.Ytdhponfpikclhaa

namespace Go.Proofs.Ytdhponfpikclhaa
open Go.RowKit
set_option linter.unusedVariables false
set_option maxRecDepth 8000
set_option linter.unusedSimpArgs false

set_option maxHeartbeats 8000000 in
theorem natMul_impl {b1 b2 : Bool} {l1 h1 l2 h2 : Nat} {v1 v2 : Value} {xs ys : List Int} (w : World) (r1 : Row .i64 b1 l1 h1 w v1 xs) (r2 : Row .i64 b2 l2 h2 w v2 ys) :
    Calls Try.prog 28 #[.agg #[v1], .agg #[v2]] w fun e w' => ∃ v', e = .returned (.tuple #[.agg #[v'], .bool (ansB (okB xs && okB ys) (val xs * val ys).toNat)]) ∧ Row .i64 true w.heap.size w'.heap.size w' v' (ansL (okB xs && okB ys) (val xs * val ys).toNat) ∧ Kept 0 0 w w' := by
  have k0 := (((Kept.refl 0 0 w).alloc (.cells #[v1] 26)).alloc (.cells #[v2] 26)).alloc (.cells #[.slice none 0 0] 26)
  have q1 := r1.kept k0 (by omega)
  have q2 := r2.kept k0 (by omega)
  have c1 : (((w.alloc (.cells #[v1] 26)).alloc (.cells #[v2] 26)).alloc (.cells #[.slice none 0 0] 26)).cell? ⟨w.heap.size, 0, none⟩ = some (v1) := old_cell _ (old_cell _ (new_cell_at _ _ _ _ (by simp)))
  have c2 : (((w.alloc (.cells #[v1] 26)).alloc (.cells #[v2] 26)).alloc (.cells #[.slice none 0 0] 26)).cell? ⟨w.heap.size + 1, 0, none⟩ = some (v2) := old_cell _ (new_cell_at _ _ _ _ (by simp))
  have c3 : (((w.alloc (.cells #[v1] 26)).alloc (.cells #[v2] 26)).alloc (.cells #[.slice none 0 0] 26)).cell? ⟨w.heap.size + 2, 0, none⟩ = some (.slice none 0 0) := new_cell_at _ _ _ _ (by simp)
  have f3 : (((w.alloc (.cells #[v1] 26)).alloc (.cells #[v2] 26)).alloc (.cells #[.slice none 0 0] 26)).frozen? ⟨w.heap.size + 2, 0, none⟩ = false := new_loose _ _ _ _ (by simp)
  obtain ⟨a1, d1, rfl⟩ := Row.form' r1
  obtain ⟨a2, d2, rfl⟩ := Row.form' r2
  clear r1 r2
  go_enter Try.func28, Try.ntmps28
  go_wp2_with fail
  generalize ((w.alloc (.cells #[.slice a1 xs.length d1] 26)).alloc (.cells #[.slice a2 ys.length d2] 26)).alloc (.cells #[.slice none 0 0] 26) = W at *
  refine (ok_impl _ q1).mono ?_
  rintro e w1 ⟨rfl, k1⟩
  replace c1 := k1.cell0 c1
  replace c2 := k1.cell0 c2
  replace f3 := k1.loose0 (World.block_lt_of_cell? _ _ c3) f3
  replace c3 := k1.cell0 c3
  replace q1 := q1.kept k1 (by omega)
  replace q2 := q2.kept k1 (by omega)
  have K := hide (k0.trans k1)
  clear k0 k1
  cases hok1 : okB xs
  · have HK := hide hok1
    clear q1 q2 hok1
    have K' := hide ((unhide K).setNew (p := ⟨w.heap.size + 2, 0, none⟩) (by simp) (.slice none 0 0))
    go_wp2_with fail
    have e0 : (okB xs && okB ys) = false := by simp [unhide HK]
    exact bodyPost_ret (v := .tuple #[.agg #[.slice none 0 0], .bool false]) (by simp [results, Try.results28, go_sem, c3]) rfl ⟨_, by rw [ansB_no e0], by rw [ansL_no e0]; exact Row.nil _ _ _ _ _, unhide K'⟩
  have HK1 := hide hok1
  clear hok1
  go_wp2_with fail
  refine (ok_impl _ q2).mono ?_
  rintro e w2 ⟨rfl, k2⟩
  replace c1 := k2.cell0 c1
  replace c2 := k2.cell0 c2
  replace f3 := k2.loose0 (World.block_lt_of_cell? _ _ c3) f3
  replace c3 := k2.cell0 c3
  replace q1 := q1.kept k2 (by omega)
  replace q2 := q2.kept k2 (by omega)
  replace K := hide ((unhide K).trans k2)
  clear k2
  cases hok2 : okB ys
  · have HK := hide hok2
    clear q1 q2 hok2
    have K' := hide ((unhide K).setNew (p := ⟨w.heap.size + 2, 0, none⟩) (by simp) (.slice none 0 0))
    go_wp2_with fail
    have e0 : (okB xs && okB ys) = false := by simp [unhide HK]
    exact bodyPost_ret (v := .tuple #[.agg #[.slice none 0 0], .bool false]) (by simp [results, Try.results28, go_sem, c3]) rfl ⟨_, by rw [ansB_no e0], by rw [ansL_no e0]; exact Row.nil _ _ _ _ _, unhide K'⟩
  have HK2 := hide hok2
  clear hok2
  have hx1 : xs.length ≤ 1000000 := by have := ((okB_iff xs).1 (unhide HK1)).1; omega
  have hx2 : ys.length ≤ 1000000 := by have := ((okB_iff ys).1 (unhide HK2)).1; omega
  go_upto_region 3 with fail
  go_cut [6, 7] (fun p q wx => ∃ X Y u1 u2, p = .pointer (some ⟨X, 0, none⟩) ∧ q = .pointer (some ⟨Y, 0, none⟩) ∧ Two w2 wx X Y u1 u2 xs ys)
  case first =>
    have b1' : w.heap.size < w2.heap.size := World.block_lt_of_cell? _ _ c1
    have b2' : w.heap.size + 1 < w2.heap.size := World.block_lt_of_cell? _ _ c2
    go_region_held3 (fun w' => w'.cell? ⟨w.heap.size, 0, none⟩ = some (.slice a1 xs.length d1) ∧ w'.cell? ⟨w.heap.size + 1, 0, none⟩ = some (.slice a2 ys.length d2) ∧ Kept 0 0 w2 w')
      (repeat (first
        | exact h4
        | exact h3
        | exact ⟨c1, c2, Kept.refl 0 0 _⟩
        | exact ⟨c1, c2, (Kept.refl 0 0 _).drew⟩
        | refine hold_alloc _ ?_
        | refine hold_drew ?_
        | refine hold_set _ ?_ b1' b2' (by simp <;> omega)))
      ((first
        | (go_at_call_of 87 (Value.agg #[Value.slice a1 xs.length d1])
           refine (limbsOf_kept q1 hx1 ?_).mono ?_
           · exact And.right (And.right (by assumption))
           rintro e w3 ⟨v3, rfl, o3, k3⟩
           have s3 := hold_size (by assumption) k3
           have h3 := hold_kept (by assumption) k3
           try
             have x3 := k3.cell0 (drew_cell (new_cell_at _ _ _ _ rfl))
             have fx3 := k3.loose0 (by simp <;> omega) (drew_loose (new_loose _ _ _ _ rfl))
             have lx3 := World.block_lt_of_cell? _ _ x3
             try simp only [World.size_alloc, heap_drew] at x3 fx3 lx3
             have nx3 := Nat.ne_of_lt lx3
             have mx3 := Nat.ne_of_gt lx3
           try
             have y3 := k3.cell0 (drew_cell (old_cell _ (new_cell_at _ _ _ _ rfl)))
             have fy3 := k3.loose0 (by simp <;> omega) (drew_loose (loose_old (by simp <;> omega) (new_loose _ _ _ _ rfl)))
             have ly3 := World.block_lt_of_cell? _ _ y3
             try simp only [World.size_alloc, heap_drew] at y3 fy3 ly3
             have ny3 := Nat.ne_of_lt ly3
             have my3 := Nat.ne_of_gt ly3
           obtain ⟨a3, d3, rfl⟩ := own_slice o3)
        | (go_at_call_of 87 (Value.agg #[Value.slice a2 ys.length d2])
           refine (limbsOf_kept q2 hx2 ?_).mono ?_
           · exact And.right (And.right (by assumption))
           rintro e w4 ⟨v4, rfl, o4, k4⟩
           have s4 := hold_size (by assumption) k4
           have h4 := hold_kept (by assumption) k4
           try
             have x4 := k4.cell0 (new_cell_at _ _ _ _ rfl)
             have fx4 := k4.loose0 (by simp <;> omega) (new_loose _ _ _ _ rfl)
             have lx4 := World.block_lt_of_cell? _ _ x4
             try simp only [World.size_alloc, heap_drew] at x4 fx4 lx4
             have nx4 := Nat.ne_of_lt lx4
             have mx4 := Nat.ne_of_gt lx4
           try
             have y4 := k4.cell0 (old_cell _ (new_cell_at _ _ _ _ rfl))
             have fy4 := k4.loose0 (by simp <;> omega) (loose_old (by simp <;> omega) (new_loose _ _ _ _ rfl))
             have ly4 := World.block_lt_of_cell? _ _ y4
             try simp only [World.size_alloc, heap_drew] at y4 fy4 ly4
             have ny4 := Nat.ne_of_lt ly4
             have my4 := Nat.ne_of_gt ly4
           try
             have gx3 := k4.cell0 (x3)
             have px3 := k4.loose0 (by simp <;> omega) (fx3)
             have qx3 := Nat.ne_of_lt (World.block_lt_of_cell? _ _ gx3)
             have rx3 := Nat.ne_of_gt (World.block_lt_of_cell? _ _ gx3)
             have lgx3 := World.block_lt_of_cell? _ _ gx3
             dsimp only at qx3 rx3 lgx3
           try
             have gx3 := k4.cell0 (old_cell _ x3)
             have px3 := k4.loose0 (by simp <;> omega) (loose_old (Nat.lt_of_lt_of_le lx3 (Nat.le_refl _)) fx3)
             have qx3 := Nat.ne_of_lt (World.block_lt_of_cell? _ _ gx3)
             have rx3 := Nat.ne_of_gt (World.block_lt_of_cell? _ _ gx3)
             have lgx3 := World.block_lt_of_cell? _ _ gx3
             dsimp only at qx3 rx3 lgx3
           try
             have gx3 := k4.cell0 (old_cell _ (old_cell _ x3))
             have px3 := k4.loose0 (by simp <;> omega) (loose_old (by simp <;> omega) (loose_old (Nat.lt_of_lt_of_le lx3 (Nat.le_refl _)) fx3))
             have qx3 := Nat.ne_of_lt (World.block_lt_of_cell? _ _ gx3)
             have rx3 := Nat.ne_of_gt (World.block_lt_of_cell? _ _ gx3)
             have lgx3 := World.block_lt_of_cell? _ _ gx3
             dsimp only at qx3 rx3 lgx3
           try
             have gy3 := k4.cell0 (y3)
             have py3 := k4.loose0 (by simp <;> omega) (fy3)
             have qy3 := Nat.ne_of_lt (World.block_lt_of_cell? _ _ gy3)
             have ry3 := Nat.ne_of_gt (World.block_lt_of_cell? _ _ gy3)
             have lgy3 := World.block_lt_of_cell? _ _ gy3
             dsimp only at qy3 ry3 lgy3
           try
             have gy3 := k4.cell0 (old_cell _ y3)
             have py3 := k4.loose0 (by simp <;> omega) (loose_old (Nat.lt_of_lt_of_le ly3 (Nat.le_refl _)) fy3)
             have qy3 := Nat.ne_of_lt (World.block_lt_of_cell? _ _ gy3)
             have ry3 := Nat.ne_of_gt (World.block_lt_of_cell? _ _ gy3)
             have lgy3 := World.block_lt_of_cell? _ _ gy3
             dsimp only at qy3 ry3 lgy3
           try
             have gy3 := k4.cell0 (old_cell _ (old_cell _ y3))
             have py3 := k4.loose0 (by simp <;> omega) (loose_old (by simp <;> omega) (loose_old (Nat.lt_of_lt_of_le ly3 (Nat.le_refl _)) fy3))
             have qy3 := Nat.ne_of_lt (World.block_lt_of_cell? _ _ gy3)
             have ry3 := Nat.ne_of_gt (World.block_lt_of_cell? _ _ gy3)
             have lgy3 := World.block_lt_of_cell? _ _ gy3
             dsimp only at qy3 ry3 lgy3
           obtain ⟨a4, d4, rfl⟩ := own_slice o4)))
    all_goals
      have O1 : w4.ownsRow w2.heap.size 3 1 (.slice a3 xs.length d3) xs.length (xs.map (Value.int .i64)) := by
        first
          | exact own_less (own_kept o3 k4) s3.1
          | exact own_less (own_kept o3 (((Kept.refl 0 0 _).alloc _).trans k4)) s3.1
          | exact own_less (own_kept o3 ((((Kept.refl 0 0 _).alloc _).alloc _).trans k4)) s3.1
      try simp only [World.size_alloc, heap_drew] at s3
      try simp only [World.size_alloc, heap_drew] at s4
      have r3 := o3.lt
      have r4 := o4.lt
      try simp only [World.size_alloc, heap_drew] at r3
      try simp only [World.size_alloc, heap_drew] at r4
      have h12 : ∀ k, (Value.slice a3 xs.length d3).ownBlock = some k → (Value.slice a4 ys.length d4).ownBlock ≠ some k := fun k e1 e2 => by have := r3 k e1; have := r4 k e2; omega
      have hk24 := h4.2.2
      clear h3 h4 k3 k4
      go_wp2_with fail
      go_meet
      first
          | exact ⟨_, _, _, _, rfl, rfl, two_both hk24 O1 o4 _ _ (by (try simp) <;> omega) (by (try simp) <;> omega) h12⟩
          | exact ⟨_, _, _, _, rfl, rfl, (two_both hk24 o4 O1 _ _ (by (try simp) <;> omega) (by (try simp) <;> omega) (fun k e1 e2 => h12 k e2 e1)).swap⟩
          | exact ⟨_, _, _, _, rfl, rfl, two_new hk24 O1 o4 (by assumption) (by assumption) _ (by omega) (by (try simp) <;> omega) (by (try simp) <;> omega) (fun e => by have := r3 _ e; omega) (fun e => by have := r4 _ e; omega) h12⟩
          | exact ⟨_, _, _, _, rfl, rfl, (two_new hk24 o4 O1 (by assumption) (by assumption) _ (by omega) (by (try simp) <;> omega) (by (try simp) <;> omega) (fun e => by have := r4 _ e; omega) (fun e => by have := r3 _ e; omega) (fun k e1 e2 => h12 k e2 e1)).swap⟩
          | exact ⟨_, _, _, _, rfl, rfl, two_set hk24 O1 o4 (by assumption) (by assumption) (by assumption) (by assumption) (by omega) (by omega) (by omega) (by (try simp) <;> omega) (by (try simp) <;> omega) (fun e => by have := r3 _ e; omega) (fun e => by have := r3 _ e; omega) (fun e => by have := r4 _ e; omega) (fun e => by have := r4 _ e; omega) h12⟩
  case rest =>
    obtain ⟨X, Y, u1, u2, rfl, rfl, two⟩ := hcut
    have hn1 := ((okB_iff xs).1 (unhide HK1)).2
    have hn2 := ((okB_iff ys).1 (unhide HK2)).2
    have hl1 : xs.length ≤ 100000 := by have := ((okB_iff xs).1 (unhide HK1)).1; omega
    have hl2 : ys.length ≤ 100000 := by have := ((okB_iff ys).1 (unhide HK2)).1; omega
    clear q1 q2
    go_wp2_with fail
    refine (multiply_impl _ two.n1 two.n2 hn1.1 hn2.1 hl1 hl2).mono ?_
    rintro e w6 ⟨⟨r6, rfl⟩, u6, n6, m6⟩
    have k6 := two.k.mod m6 (fun i e => by rw [e]; exact two.b1)
    clear two m6 hn1 hn2
    have c3' := k6.cell0 c3
    have f3' := k6.loose0 (World.block_lt_of_cell? _ _ c3) f3
    have K6 := hide ((unhide K).trans k6)
    clear k6
    go_wp2_with fail
    refine (told_impl _ n6).mono ?_
    rintro e w7 ⟨v7, rfl, r7, k7⟩
    generalize hzz : tell (limbs (val xs * val ys).toNat) = zz at *
    generalize hbb : decide ((limbs (val xs * val ys).toNat).length ≤ 100) = bb at *
    have HZ : Hid (ansL (okB xs && okB ys) (val xs * val ys).toNat = zz) := by show _ = _; rw [ansL_yes (by simp [unhide HK1, unhide HK2]), hzz]
    have HB : Hid (ansB (okB xs && okB ys) (val xs * val ys).toNat = bb) := by show _ = _; rw [ansB_yes (by simp [unhide HK1, unhide HK2]), hbb]
    have b6 := World.block_lt_of_cell? _ _ c3'
    dsimp only at b6
    replace f3' := k7.loose0 b6 f3'
    replace c3' := k7.cell0 c3'
    obtain ⟨a7, d7, rfl⟩ := Row.form' r7
    have R := hide ((r7.set_other (p := ⟨w.heap.size + 2, 0, none⟩) (.inl b6) (.slice a7 zz.length d7)).tight.wider (lo' := w.heap.size) (by omega) (Nat.le_refl _))
    have K7 := hide (((unhide K6).trans k7).setNew (p := ⟨w.heap.size + 2, 0, none⟩) (by simp) (.slice a7 zz.length d7))
    clear r7 k7 n6 hzz hbb
    go_wp2_with fail
    exact bodyPost_ret (v := .tuple #[.agg #[.slice a7 zz.length d7], .bool bb]) (by simp [results, Try.results28, go_sem, c3']) rfl ⟨_, by rw [unhide HB], by rw [unhide HZ]; exact unhide R, unhide K7⟩

end Go.Proofs.Ytdhponfpikclhaa

namespace Go.Proofs.Ytdhponfpikclhaa
open Go.RowKit
set_option linter.unusedVariables false
set_option maxRecDepth 8000
set_option linter.unusedSimpArgs false

theorem am_gm {x s N : Nat} (hx : 0 < x) (h : s * s ≤ N) : 2 * s ≤ x + N / x := by
  rcases Nat.lt_or_ge (2 * s) x with h1 | h1
  · generalize N / x = d
    omega
  · obtain ⟨d, hd⟩ : ∃ d, 2 * s = x + d := ⟨2 * s - x, by omega⟩
    have h2 : d * x ≤ s * s := by
      have e : (d : Int) = 2 * s - x := by omega
      have h3 : 0 ≤ ((s : Int) - x) * ((s : Int) - x) := by
        rcases Int.le_total (s : Int) x with h | h
        · exact Int.mul_nonneg_of_nonpos_of_nonpos (by omega) (by omega)
        · exact Int.mul_nonneg (by omega) (by omega)
      have h4 : ((s : Int) - x) * ((s : Int) - x) = s * s - (d : Int) * x := by
        rw [e, Int.sub_mul, Int.mul_sub, Int.mul_sub, Int.sub_mul, Int.mul_assoc, Int.mul_comm (x : Int) s]
        omega
      have h5 : ((d * x : Nat) : Int) ≤ ((s * s : Nat) : Int) := by rw [Int.natCast_mul, Int.natCast_mul]; omega
      omega
    have h6 : d ≤ N / x := (Nat.le_div_iff_mul_le hx).2 (Nat.le_trans h2 h)
    omega
theorem newt_up {x N : Nat} (hx : 0 < x) : N < ((x + N / x) / 2 + 1) * ((x + N / x) / 2 + 1) := by
  rcases Nat.lt_or_ge N (((x + N / x) / 2 + 1) * ((x + N / x) / 2 + 1)) with h | h
  · exact h
  · have := am_gm hx h
    generalize N / x = d at *
    omega
theorem newt_sq {N : Nat} (hN : 0 < N) : ∀ x : Nat, 0 < x → N < (x + 1) * (x + 1) → newt N x * newt N x ≤ N ∧ N < (newt N x + 1) * (newt N x + 1) := by
  intro x
  induction x using Nat.strongRecOn with
  | _ x ih =>
    intro hx hup
    by_cases h : (x + N / x) / 2 < x
    · rw [newt_less h]
      exact ih _ h (newt_next hN hx) (newt_up hx)
    · rw [newt_stay h]
      refine ⟨?_, hup⟩
      have h1 : x ≤ N / x := by generalize N / x = d at *; omega
      exact (Nat.le_div_iff_mul_le hx).1 h1
theorem above_up (N : Nat) : N < (above N + 1) * (above N + 1) := by
  have h := bits_high N
  have e : above N * above N = 2 ^ (2 * ((bitsN N + 1) / 2)) := by unfold above; rw [← Nat.pow_add]; congr 1; omega
  have h2 := Nat.pow_le_pow_right (n := 2) (by decide) (show bitsN N ≤ 2 * ((bitsN N + 1) / 2) by omega)
  rw [← e] at h2
  have h3 : above N * above N ≤ (above N + 1) * (above N + 1) := Nat.mul_le_mul (by omega) (by omega)
  omega
theorem root_sq (N : Nat) : rootN N * rootN N ≤ N ∧ N < (rootN N + 1) * (rootN N + 1) := by
  unfold rootN
  by_cases h : N = 0
  · rw [if_pos h, h]; decide
  · rw [if_neg h]
    exact newt_sq (by omega) _ (Nat.pow_pos (by decide)) (above_up N)
theorem root_ten : rootN 10 = 3 := by
  obtain ⟨h1, h2⟩ := root_sq 10
  generalize rootN 10 = r at *
  have h3 : r < 4 := by
    rcases Nat.lt_or_ge r 4 with h | h
    · exact h
    · have := Nat.mul_le_mul h h; omega
  have h4 : 2 < r := by
    rcases Nat.lt_or_ge 2 r with h | h
    · exact h
    · have := Nat.mul_le_mul (show r + 1 ≤ 3 by omega) (show r + 1 ≤ 3 by omega); omega
  omega
theorem root_lenK {N K : Nat} (h : (bitsN N + 1) / 2 < 16 * K) : (limbs (rootN N)).length ≤ K := by
  unfold rootN
  split
  · rw [limbs_zero]; simp
  · refine Nat.le_trans (limbs_len_mono (newt_le N _)) ((limbs_len_two _ _).2 ?_)
    unfold above
    exact Nat.pow_lt_pow_right (by decide) h
theorem roots_ten : rootL (limbs (10 : Int).toNat) = limbs (3 : Int).toNat := by
  have h : okB (limbs (10 : Int).toNat) = true := by decide
  rw [rootL_yes h, limbs_val]
  show limbs (rootN 10) = limbs 3
  rw [root_ten]
/-- What the law asks of a number's root. -/
theorem roots_ok {xs : List Int} (h : okB xs = true) : ∃ sq su s1 : List Int, ∃ o3 : Bool,
    ansB (okB (rootL xs) && okB (rootL xs)) (val (rootL xs) * val (rootL xs)).toNat = true ∧ ansL (okB (rootL xs) && okB (rootL xs)) (val (rootL xs) * val (rootL xs)).toNat = sq ∧
    ansB (okB (rootL xs) && okB (limbs (1 : Int).toNat)) (val (rootL xs) + val (limbs (1 : Int).toNat)).toNat = true ∧ ansL (okB (rootL xs) && okB (limbs (1 : Int).toNat)) (val (rootL xs) + val (limbs (1 : Int).toNat)).toNat = su ∧
    ansB (okB su && okB su) (val su * val su).toNat = o3 ∧ ansL (okB su && okB su) (val su * val su).toNat = s1 ∧ cmpN sq xs ≤ 0 ∧ (o3 = true → 0 < cmpN s1 xs) := by
  obtain ⟨l1, n1⟩ := (okB_iff xs).1 h
  have hx := val_nonneg n1.1
  obtain ⟨N, hN⟩ : ∃ N : Nat, val xs = N := ⟨(val xs).toNat, by omega⟩
  have hb : bitsN N ≤ 1600 := by have := nrm_bits n1 l1; rw [hN, Int.toNat_natCast] at this; exact this
  have hr := root_lenK (N := N) (K := 99) (by omega)
  obtain ⟨h1, h2⟩ := root_sq N
  have ex : limbs N = xs := by have := nrm_limbs n1; rw [hN, Int.toNat_natCast] at this; exact this.symm
  have eL : rootL xs = limbs (rootN N) := by rw [rootL_yes h, hN, Int.toNat_natCast]
  rw [eL]
  generalize rootN N = R at *
  have o1 : okB (limbs R) = true := (okB_iff _).2 ⟨by omega, limbs_nrm _⟩
  have o2 : okB (limbs (1 : Int).toNat) = true := by decide
  have v1 : val (limbs (1 : Int).toNat) = 1 := by rw [limbs_val]; rfl
  have tt : (true && true) = true := rfl
  have lq : (limbs (R * R)).length ≤ 100 := by have := limbs_len_mono h1; rw [ex] at this; omega
  have ls : (limbs (R + 1)).length ≤ 100 := sum_len (K := 99) hr (Nat.le_trans (m := 1) (by decide) (by decide))
  have os : okB (limbs (R + 1)) = true := (okB_iff _).2 ⟨ls, limbs_nrm _⟩
  have oq : okB (limbs (R * R)) = true := (okB_iff _).2 ⟨lq, limbs_nrm _⟩
  have eq : (val (limbs R) * val (limbs R)).toNat = R * R := by rw [limbs_val, ← Int.natCast_mul, Int.toNat_natCast]
  have es : (val (limbs R) + val (limbs (1 : Int).toNat)).toNat = R + 1 := by rw [limbs_val, v1]; omega
  have e1 : (val (limbs (R + 1)) * val (limbs (R + 1))).toNat = (R + 1) * (R + 1) := by rw [limbs_val, ← Int.natCast_mul, Int.toNat_natCast]
  refine ⟨limbs (R * R), limbs (R + 1), _, _, ?_, ?_, ?_, ?_, rfl, rfl, ?_, ?_⟩
  · rw [o1, eq, ansB_yes tt]; exact decide_eq_true lq
  · rw [o1, eq, ansL_yes tt]; exact tell_short lq
  · rw [o1, o2, es, ansB_yes tt]; exact decide_eq_true ls
  · rw [o1, o2, es, ansL_yes tt]; exact tell_short ls
  · rw [cmpN_ok oq h, limbs_val, hN]
    unfold cmpI
    split
    · decide
    · rw [if_neg (by omega)]; decide
  · rw [os, e1, ansB_yes tt, ansL_yes tt]
    intro h3
    have h4 := of_decide_eq_true h3
    rw [tell_short h4, cmpN_ok ((okB_iff _).2 ⟨h4, limbs_nrm _⟩) h, limbs_val, hN]
    unfold cmpI
    rw [if_neg (by omega), if_pos (by omega)]
    decide

set_option maxHeartbeats 8000000 in
theorem law_NatRoots {v : Value} {zs : List Int} {w : World} (r : Row .u8 false 0 w.heap.size w v zs) (hb0 : ∀ z ∈ zs, (Lit.int .u8 z).wf = true) :
    Calls Try.prog 5 #[v] w fun e w' => e = .returned (.bool true) ∧ Below w.heap.size w w' := by
  have hb := bytes_of_wf hb0
  clear hb0
  have hB := hide hb
  clear hb
  have s0 : w.heap.size = w.heap.size := rfl
  obtain ⟨a0, c0, hv⟩ := Row.form' r
  subst hv
  have K := hide (Kept.refl 0 0 w)
  have S0 := hide s0
  clear s0
  go_enter Try.func5, Try.ntmps5
  go_wp2_with fail
  refine (drawRoot_any _ r (unhide hB)).mono ?_
  rintro e w1 ⟨v1, rfl, ⟨xs, r1⟩, k1⟩
  replace r := r.kept k1 (by omega)
  replace K := hide ((unhide K).trans k1)
  have z2 := k1.size
  clear k1
  clear r
  obtain ⟨a1, c1, hv⟩ := Row.form' r1
  subst hv
  have kn := (Kept.refl 0 0 w1).alloc (.cells #[.slice a1 xs.length c1] 26)
  have ca0 : (w1.alloc (.cells #[.slice a1 xs.length c1] 26)).cell? ⟨w1.heap.size, 0, none⟩ = some (.slice a1 xs.length c1) := new_cell2 _ _ _ _ _ _ (by simp) rfl
  have sz3 : w1.heap.size + 1 = (w1.alloc (.cells #[.slice a1 xs.length c1] 26)).heap.size := by simp
  have SZ3 := hide sz3
  replace sz3 := Nat.le_of_eq sz3
  replace r1 := r1.kept kn (by omega)
  replace K := hide ((unhide K).trans kn)
  have z4 := kn.size
  clear kn
  go_wp2_with fail
  generalize (w1.alloc (.cells #[.slice a1 xs.length c1] 26)) = wn5 at *
  have HQ : Hid (okB xs = true → _) := @roots_ok xs
  have HQ2 := unhide HQ
  have e0 : okB xs = false → rootL xs = [] := rootL_no
  have mk := natRoot_impl wn5 r1
  obtain ⟨zr, hzr⟩ : ∃ z, rootL xs = z := ⟨_, rfl⟩
  rw [hzr] at mk HQ2 e0
  clear HQ hzr
  have HQ := hide HQ2
  have E0 := hide e0
  clear HQ2 e0
  refine (mk).mono ?_
  rintro e w6 ⟨v2, rfl, r2, k6⟩
  replace r1 := r1.kept k6 (by omega)
  replace ca0 := k6.cell0 ca0
  replace K := hide ((unhide K).trans k6)
  have z7 := k6.size
  clear k6
  clear mk
  obtain ⟨a2, c2, hv⟩ := Row.form' r2
  subst hv
  have kn := (Kept.refl 0 0 w6).alloc (.cells #[.slice a2 zr.length c2] 26)
  have cb0 : (w6.alloc (.cells #[.slice a2 zr.length c2] 26)).cell? ⟨w6.heap.size, 0, none⟩ = some (.slice a2 zr.length c2) := new_cell2 _ _ _ _ _ _ (by simp) rfl
  have sz8 : w6.heap.size + 1 = (w6.alloc (.cells #[.slice a2 zr.length c2] 26)).heap.size := by simp
  have SZ8 := hide sz8
  replace sz8 := Nat.le_of_eq sz8
  replace r1 := r1.kept kn (by omega)
  replace r2 := r2.kept kn (by omega)
  replace ca0 := kn.cell0 ca0
  replace K := hide ((unhide K).trans kn)
  have z9 := kn.size
  clear kn
  go_wp2_with fail
  generalize (w6.alloc (.cells #[.slice a2 zr.length c2] 26)) = wn10 at *
  refine (ok_spec _ r1).mono ?_
  rintro e w11 ⟨rfl, k11⟩
  replace r1 := r1.kept k11 (by omega)
  replace r2 := r2.kept k11 (by omega)
  replace ca0 := k11.cell0 ca0
  replace cb0 := k11.cell0 cb0
  replace K := hide ((unhide K).trans k11)
  have z12 := k11.size
  clear k11
  cases ho1 : okB xs
  all_goals have HO := hide ho1
  all_goals clear ho1
  · have ez : zr = [] := unhide E0 (unhide HO)
    have hl : ((zr.length : Int) == 0) = true := by rw [ez]; rfl
    clear ez
    clear r1 r2
    go_wp2_with fail
    have mk := nat_any w11 10 (by decide)
    obtain ⟨L10, h10⟩ : ∃ l, limbs (10 : Int).toNat = l := ⟨_, rfl⟩
    have e10 := roots_ten
    rw [h10] at mk e10
    obtain ⟨L3, h3⟩ : ∃ l, limbs (3 : Int).toNat = l := ⟨_, rfl⟩
    rw [h3] at e10
    have E10 := hide e10
    have H3 := hide h3
    clear h10 h3 e10
    refine (mk).mono ?_
    rintro e w13 ⟨v3, rfl, r3, k13⟩
    replace ca0 := k13.cell0 ca0
    replace cb0 := k13.cell0 cb0
    replace K := hide ((unhide K).trans k13)
    have z14 := k13.size
    clear k13
    clear mk
    go_wp2_with fail
    have mk := natRoot_impl w13 r3
    rw [unhide E10] at mk
    refine (mk).mono ?_
    rintro e w15 ⟨v4, rfl, r4, k15⟩
    replace r3 := r3.kept k15 (by omega)
    replace ca0 := k15.cell0 ca0
    replace cb0 := k15.cell0 cb0
    replace K := hide ((unhide K).trans k15)
    have z16 := k15.size
    clear k15
    clear mk
    clear r3
    go_wp2_with fail
    have mk := nat_any w15 3 (by decide)
    rw [unhide H3] at mk
    refine (mk).mono ?_
    rintro e w17 ⟨v5, rfl, r5, k17⟩
    replace r4 := r4.kept k17 (by omega)
    replace ca0 := k17.cell0 ca0
    replace cb0 := k17.cell0 cb0
    replace K := hide ((unhide K).trans k17)
    have z18 := k17.size
    clear k17
    clear mk
    go_wp2_with fail
    have mk := sameNat_any w17 r4 r5
    rw [show sameL L3 L3 = true from decide_eq_true rfl] at mk
    refine (mk).mono ?_
    rintro e w19 ⟨rfl, k19⟩
    replace r4 := r4.kept k19 (by omega)
    replace r5 := r5.kept k19 (by omega)
    replace ca0 := k19.cell0 ca0
    replace cb0 := k19.cell0 cb0
    replace K := hide ((unhide K).trans k19)
    have z20 := k19.size
    clear k19
    clear mk
    go_wp2_with fail
    go_ret
    exact ⟨rfl, (unhide K).toBelow⟩
  · obtain ⟨sq, su, s1, o3, h1, h2, h3, h4, h5, h6, h7, h8⟩ := unhide HQ (unhide HO)
    have H1 := hide h1
    have H2 := hide h2
    have H3 := hide h3
    have H4 := hide h4
    have H5 := hide h5
    have H6 := hide h6
    clear h1 h2 h3 h4 h5 h6 HQ HO E0
    obtain ⟨L1, hL1⟩ : ∃ l, limbs (1 : Int).toNat = l := ⟨_, rfl⟩
    rw [hL1] at H3 H4
    have HL1 := hide hL1
    clear hL1
    obtain ⟨d1, hd1⟩ : ∃ d, cmpN sq xs = d := ⟨_, rfl⟩
    obtain ⟨d2, hd2⟩ : ∃ d, cmpN s1 xs = d := ⟨_, rfl⟩
    rw [hd1] at h7
    rw [hd2] at h8
    have D1 := hide hd1
    have D2 := hide hd2
    have H8 := hide h8
    clear hd1 hd2 h8
    go_wp2_with fail
    have mk := natMul_impl w11 r2 r2
    rw [unhide H1, unhide H2] at mk
    refine (mk).mono ?_
    rintro e w13 ⟨v5, rfl, r5, k13⟩
    replace r1 := r1.kept k13 (by omega)
    replace r2 := r2.kept k13 (by omega)
    replace ca0 := k13.cell0 ca0
    replace cb0 := k13.cell0 cb0
    replace K := hide ((unhide K).trans k13)
    have z14 := k13.size
    clear k13
    clear mk
    obtain ⟨a5, c5, hv⟩ := Row.form' r5
    subst hv
    have kn := (Kept.refl 0 0 w13).alloc (.cells #[.slice a5 sq.length c5] 26)
    have cc0 : (w13.alloc (.cells #[.slice a5 sq.length c5] 26)).cell? ⟨w13.heap.size, 0, none⟩ = some (.slice a5 sq.length c5) := new_cell2 _ _ _ _ _ _ (by simp) rfl
    have sz15 : w13.heap.size + 1 = (w13.alloc (.cells #[.slice a5 sq.length c5] 26)).heap.size := by simp
    have SZ15 := hide sz15
    replace sz15 := Nat.le_of_eq sz15
    replace r1 := r1.kept kn (by omega)
    replace r2 := r2.kept kn (by omega)
    replace r5 := r5.kept kn (by omega)
    replace ca0 := kn.cell0 ca0
    replace cb0 := kn.cell0 cb0
    replace K := hide ((unhide K).trans kn)
    have z16 := kn.size
    clear kn
    go_wp2_with fail
    generalize (w13.alloc (.cells #[.slice a5 sq.length c5] 26)) = wn17 at *
    have in1 : ∀ (w : World) (args : Array Value), (callFunc 38 args).run Try.prog w = .ok (.enter 38 args) w := enters Try.func38 (by decide) (fun h => by cases h)
    have in2 : ∀ (w : World) (args : Array Value), (callFunc 27 args).run Try.prog w = .ok (.enter 27 args) w := enters Try.func27 (by decide) (fun h => by cases h)
    have kd := (Kept.refl 0 0 wn17).drew
    replace r1 := r1.kept kd (by omega)
    replace r2 := r2.kept kd (by omega)
    replace r5 := r5.kept kd (by omega)
    replace ca0 := kd.cell0 ca0
    replace cb0 := kd.cell0 cb0
    replace cc0 := kd.cell0 cc0
    replace K := hide ((unhide K).trans kd)
    have z18 := kd.size
    clear kd
    refine wp_region_held_drew (S := (fun w' => w'.cell? ⟨w6.heap.size, 0, none⟩ = some (.slice a2 zr.length c2))) (by kernel_rfl) ?_ (fun hHeld => ?_)
    · exact cb0
    generalize wn17.drew = wd19 at *
    refine wpAnyH_take (i := 0) (oi := _) (v := .agg #[.slice a2 zr.length c2]) rfl (by kernel_rfl) (by kernel_rfl) (by kernel_rfl) (fun _ _ _ h => h) (Or.inl ⟨by rfl, ?_⟩) hHeld ?_
    · intro wq hSw
      try dsimp only at hSw
      go_simp
    try simp only [Act.put, List.getElem_toArray, List.getElem_cons_succ, List.getElem_cons_zero, List.setIfInBounds_toArray, List.set_cons_zero, List.set_cons_succ]
    refine wpAnyH_ready (rs := [1, 6]) (by kernel_rfl) (by simp) ?_
    refine AllReadyH.cons rfl (fun KK hK => ?_) (AllReadyH.cons rfl (fun KK hK => ?_) AllReadyH.nil)
    · simp only [List.getElem_toArray, List.getElem_cons_succ, List.getElem_cons_zero]
      rw [if_pos (by rfl)]
      refine wps1 38 (.const (.int .i64 1)) _ rfl in1 (.int .i64 1) rfl (nat_any _ 1 (by decide)) ?_
      rintro e w20 ⟨v8, rfl, r8, k20⟩
      refine ⟨_, rfl, ?_⟩
      replace r1 := r1.kept k20 (by omega)
      replace r2 := r2.kept k20 (by omega)
      replace r5 := r5.kept k20 (by omega)
      replace ca0 := k20.cell0 ca0
      replace cb0 := k20.cell0 cb0
      replace cc0 := k20.cell0 cc0
      replace K := hide ((unhide K).trans k20)
      have z21 := k20.size
      clear k20
      rw [unhide HL1] at r8
      clear hHeld
      refine hK.out _ _ ?_ (fun hHeld => ?_)
      · exact cb0
      clear hK KK
      try simp only [Act.put, List.getElem_toArray, List.getElem_cons_succ, List.getElem_cons_zero, List.setIfInBounds_toArray, List.set_cons_zero, List.set_cons_succ]
      refine wpAnyH_ready (rs := [2, 6]) (by kernel_rfl) (by simp) ?_
      refine AllReadyH.cons rfl (fun KK hK => ?_) (AllReadyH.cons rfl (fun KK hK => ?_) AllReadyH.nil)
      · simp only [List.getElem_toArray, List.getElem_cons_succ, List.getElem_cons_zero]
        rw [if_pos (by rfl)]
        refine wps2 27 (.tmp 35) (.tmp 36) _ rfl in2 (.agg #[.slice a2 zr.length c2]) (.agg #[v8]) rfl rfl (natAdd_impl _ r2 r8) ?_
        rintro e w22 ⟨v6, rfl, r6, k22⟩
        refine ⟨_, rfl, ?_⟩
        replace r1 := r1.kept k22 (by omega)
        replace r2 := r2.kept k22 (by omega)
        replace r5 := r5.kept k22 (by omega)
        replace r8 := r8.kept k22 (by omega)
        replace ca0 := k22.cell0 ca0
        replace cb0 := k22.cell0 cb0
        replace cc0 := k22.cell0 cc0
        replace K := hide ((unhide K).trans k22)
        have z23 := k22.size
        clear k22
        rw [unhide H4] at r6
        rw [unhide H3]
        obtain ⟨a6, c6, hv⟩ := Row.form' r6
        subst hv
        clear hHeld
        refine hK.out _ _ ?_ (fun hHeld => ?_)
        · exact cb0
        clear hK KK
        try simp only [Act.put, List.getElem_toArray, List.getElem_cons_succ, List.getElem_cons_zero, List.setIfInBounds_toArray, List.set_cons_zero, List.set_cons_succ]
        refine wpAnyH_take (i := 3) (oi := _) (v := .tuple #[.agg #[.slice a6 su.length c6], .bool true]) rfl (by kernel_rfl) (by kernel_rfl) (by kernel_rfl) (fun _ _ _ h => h) (Or.inl ⟨by rfl, ?_⟩) hHeld ?_
        · intro wq hSw
          try dsimp only at hSw
          go_simp
        try simp only [Act.put, List.getElem_toArray, List.getElem_cons_succ, List.getElem_cons_zero, List.setIfInBounds_toArray, List.set_cons_zero, List.set_cons_succ]
        refine wpAnyH_take (i := 4) (oi := _) (v := .agg #[.slice a6 su.length c6]) rfl (by kernel_rfl) (by kernel_rfl) (by kernel_rfl) (fun _ _ _ h => h) (Or.inl ⟨by rfl, ?_⟩) hHeld ?_
        · intro wq hSw
          try dsimp only at hSw
          go_simp
        try simp only [Act.put, List.getElem_toArray, List.getElem_cons_succ, List.getElem_cons_zero, List.setIfInBounds_toArray, List.set_cons_zero, List.set_cons_succ]
        refine wpAnyH_take (i := 5) (oi := _) (v := .bool true) rfl (by kernel_rfl) (by kernel_rfl) (by kernel_rfl) (fun _ _ _ h => h) (Or.inl ⟨by rfl, ?_⟩) hHeld ?_
        · intro wq hSw
          try dsimp only at hSw
          go_simp
        try simp only [Act.put, List.getElem_toArray, List.getElem_cons_succ, List.getElem_cons_zero, List.setIfInBounds_toArray, List.set_cons_zero, List.set_cons_succ]
        refine wpAnyH_ready (rs := [6]) (by kernel_rfl) (by simp) ?_
        refine AllReadyH.cons rfl (fun KK hK => ?_) AllReadyH.nil
        simp only [List.getElem_toArray, List.getElem_cons_succ, List.getElem_cons_zero]
        rw [if_pos (by rfl)]
        go_simp
        have kn := (Kept.refl 0 0 w22).alloc (.cells #[.slice none 0 0] 26)
        replace r1 := r1.kept kn (by omega)
        replace r2 := r2.kept kn (by omega)
        replace r5 := r5.kept kn (by omega)
        replace r8 := r8.kept kn (by omega)
        replace r6 := r6.kept kn (by omega)
        replace ca0 := kn.cell0 ca0
        replace cb0 := kn.cell0 cb0
        replace cc0 := kn.cell0 cc0
        replace K := hide ((unhide K).trans kn)
        have z25 := kn.size
        clear kn
        have szx : w22.heap.size < (w22.alloc (.cells #[.slice none 0 0] 26)).heap.size := by simp
        have x0 : (w22.alloc (.cells #[.slice none 0 0] 26)).cell? ⟨w22.heap.size, 0, none⟩ = some (.slice none 0 0) := new_cell2 _ _ _ _ _ _ rfl rfl
        have xf0 : (w22.alloc (.cells #[.slice none 0 0] 26)).frozen? ⟨w22.heap.size, 0, none⟩ = false := new_loose2 _ _ _ _ _ rfl
        clear hHeld
        refine hK.out _ _ ?_ (fun hHeld => ?_)
        · exact cb0
        clear hK KK
        try simp only [Act.put, List.getElem_toArray, List.getElem_cons_succ, List.getElem_cons_zero, List.setIfInBounds_toArray, List.set_cons_zero, List.set_cons_succ]
        generalize w22.alloc (.cells #[.slice none 0 0] 26) = w24 at *
        refine wpAnyH_ready (rs := [7]) (by kernel_rfl) (by simp) ?_
        refine AllReadyH.cons rfl (fun KK hK => ?_) AllReadyH.nil
        simp only [List.getElem_toArray, List.getElem_cons_succ, List.getElem_cons_zero]
        rw [if_pos (by rfl)]
        go_simp
        clear hHeld
        refine hK.out _ _ ?_ (fun hHeld => ?_)
        · exact cell_aside _ (by dsimp only; omega) cb0
        clear hK KK
        try simp only [Act.put, List.getElem_toArray, List.getElem_cons_succ, List.getElem_cons_zero, List.setIfInBounds_toArray, List.set_cons_zero, List.set_cons_succ]
        refine wpAnyH_take (i := 8) (oi := _) (v := .bool true) rfl (by kernel_rfl) (by kernel_rfl) (by kernel_rfl) (fun _ _ _ h => h) (Or.inl ⟨by rfl, ?_⟩) hHeld ?_
        · intro wq hSw
          try dsimp only at hSw
          go_simp
        try simp only [Act.put, List.getElem_toArray, List.getElem_cons_succ, List.getElem_cons_zero, List.setIfInBounds_toArray, List.set_cons_zero, List.set_cons_succ]
        refine wpAnyH_done (by kernel_rfl) ?_ _
        clear hHeld
        have sS0 := unhide S0
        replace r1 := r1.set_other (p := ⟨w22.heap.size, 0, none⟩) (by dsimp only; omega) (.slice a6 su.length c6)
        replace r2 := r2.set_other (p := ⟨w22.heap.size, 0, none⟩) (by dsimp only; omega) (.slice a6 su.length c6)
        replace r5 := r5.set_other (p := ⟨w22.heap.size, 0, none⟩) (by dsimp only; omega) (.slice a6 su.length c6)
        replace r8 := r8.set_other (p := ⟨w22.heap.size, 0, none⟩) (by dsimp only; omega) (.slice a6 su.length c6)
        replace r6 := r6.set_other (p := ⟨w22.heap.size, 0, none⟩) (by dsimp only; omega) (.slice a6 su.length c6)
        replace ca0 := cell_aside (.slice a6 su.length c6) (r := ⟨w22.heap.size, 0, none⟩) (by dsimp only; omega) ca0
        replace cb0 := cell_aside (.slice a6 su.length c6) (r := ⟨w22.heap.size, 0, none⟩) (by dsimp only; omega) cb0
        replace cc0 := cell_aside (.slice a6 su.length c6) (r := ⟨w22.heap.size, 0, none⟩) (by dsimp only; omega) cc0
        replace xf0 : (w24.setCell ⟨w22.heap.size, 0, none⟩ (.slice a6 su.length c6)).frozen? _ = false := (frozen_set _ _ _ _ _).trans xf0
        replace x0 : (w24.setCell ⟨w22.heap.size, 0, none⟩ (.slice a6 su.length c6)).cell? ⟨w22.heap.size, 0, none⟩ = some (.slice a6 su.length c6) := cell_on _ _ _ _ _ x0
        replace K := hide ((unhide K).setNew (p := ⟨w22.heap.size, 0, none⟩) (by dsimp only; omega) (.slice a6 su.length c6))
        have zs26 : (w24.setCell ⟨w22.heap.size, 0, none⟩ (.slice a6 su.length c6)).heap.size = w24.heap.size := by simp [World.setCell]
        clear sS0
        generalize w24.setCell ⟨w22.heap.size, 0, none⟩ (.slice a6 su.length c6) = ws26 at *
        go_wp2_with fail
        have mk := natMul_impl ws26 r6 r6
        rw [unhide H5, unhide H6] at mk
        refine (mk).mono ?_
        rintro e w27 ⟨v7, rfl, r7, k27⟩
        replace r1 := r1.kept k27 (by omega)
        replace r2 := r2.kept k27 (by omega)
        replace r5 := r5.kept k27 (by omega)
        replace r8 := r8.kept k27 (by omega)
        replace r6 := r6.kept k27 (by omega)
        replace xf0 := k27.loose0 (World.block_lt_of_cell? _ _ x0) xf0
        replace ca0 := k27.cell0 ca0
        replace cb0 := k27.cell0 cb0
        replace cc0 := k27.cell0 cc0
        replace x0 := k27.cell0 x0
        replace K := hide ((unhide K).trans k27)
        have z28 := k27.size
        clear k27
        clear mk
        obtain ⟨a7, c7, hv⟩ := Row.form' r7
        subst hv
        have kn := (Kept.refl 0 0 w27).alloc (.cells #[.slice a7 s1.length c7] 26)
        have cd0 : (w27.alloc (.cells #[.slice a7 s1.length c7] 26)).cell? ⟨w27.heap.size, 0, none⟩ = some (.slice a7 s1.length c7) := new_cell2 _ _ _ _ _ _ (by simp) rfl
        have sz29 : w27.heap.size + 1 = (w27.alloc (.cells #[.slice a7 s1.length c7] 26)).heap.size := by simp
        have SZ29 := hide sz29
        replace sz29 := Nat.le_of_eq sz29
        replace r1 := r1.kept kn (by omega)
        replace r2 := r2.kept kn (by omega)
        replace r5 := r5.kept kn (by omega)
        replace r8 := r8.kept kn (by omega)
        replace r6 := r6.kept kn (by omega)
        replace r7 := r7.kept kn (by omega)
        replace xf0 := kn.loose0 (World.block_lt_of_cell? _ _ x0) xf0
        replace ca0 := kn.cell0 ca0
        replace cb0 := kn.cell0 cb0
        replace cc0 := kn.cell0 cc0
        replace x0 := kn.cell0 x0
        replace K := hide ((unhide K).trans kn)
        have z30 := kn.size
        clear kn
        go_wp2_with fail
        generalize (w27.alloc (.cells #[.slice a7 s1.length c7] 26)) = wn31 at *
        have mk := natCmp_impl wn31 r5 r1
        rw [unhide D1] at mk
        refine (mk).mono ?_
        rintro e w32 ⟨rfl, k32⟩
        replace r1 := r1.kept k32 (by omega)
        replace r2 := r2.kept k32 (by omega)
        replace r5 := r5.kept k32 (by omega)
        replace r8 := r8.kept k32 (by omega)
        replace r6 := r6.kept k32 (by omega)
        replace r7 := r7.kept k32 (by omega)
        replace xf0 := k32.loose0 (World.block_lt_of_cell? _ _ x0) xf0
        replace ca0 := k32.cell0 ca0
        replace cb0 := k32.cell0 cb0
        replace cc0 := k32.cell0 cc0
        replace x0 := k32.cell0 x0
        replace cd0 := k32.cell0 cd0
        replace K := hide ((unhide K).trans k32)
        have z33 := k32.size
        clear k32
        clear mk
        cases o3
        · skip
          go_wp2_with fail
          go_ret
          exact ⟨rfl, (unhide K).toBelow⟩
        have h9 := unhide H8 rfl
        go_wp2_with fail
        have mk := natCmp_impl w32 r7 r1
        rw [unhide D2] at mk
        refine (mk).mono ?_
        rintro e w34 ⟨rfl, k34⟩
        replace r1 := r1.kept k34 (by omega)
        replace r2 := r2.kept k34 (by omega)
        replace r5 := r5.kept k34 (by omega)
        replace r8 := r8.kept k34 (by omega)
        replace r6 := r6.kept k34 (by omega)
        replace r7 := r7.kept k34 (by omega)
        replace xf0 := k34.loose0 (World.block_lt_of_cell? _ _ x0) xf0
        replace ca0 := k34.cell0 ca0
        replace cb0 := k34.cell0 cb0
        replace cc0 := k34.cell0 cc0
        replace x0 := k34.cell0 x0
        replace cd0 := k34.cell0 cd0
        replace K := hide ((unhide K).trans k34)
        have z35 := k34.size
        clear k34
        clear mk
        go_wp2_with fail
        go_ret
        exact ⟨rfl, (unhide K).toBelow⟩
      · simp only [List.getElem_toArray, List.getElem_cons_succ, List.getElem_cons_zero]
        rw [if_pos (by rfl)]
        go_simp
        have kn := (Kept.refl 0 0 w20).alloc (.cells #[.slice none 0 0] 26)
        replace r1 := r1.kept kn (by omega)
        replace r2 := r2.kept kn (by omega)
        replace r5 := r5.kept kn (by omega)
        replace r8 := r8.kept kn (by omega)
        replace ca0 := kn.cell0 ca0
        replace cb0 := kn.cell0 cb0
        replace cc0 := kn.cell0 cc0
        replace K := hide ((unhide K).trans kn)
        have z23 := kn.size
        clear kn
        have szx : w20.heap.size < (w20.alloc (.cells #[.slice none 0 0] 26)).heap.size := by simp
        have x0 : (w20.alloc (.cells #[.slice none 0 0] 26)).cell? ⟨w20.heap.size, 0, none⟩ = some (.slice none 0 0) := new_cell2 _ _ _ _ _ _ rfl rfl
        have xf0 : (w20.alloc (.cells #[.slice none 0 0] 26)).frozen? ⟨w20.heap.size, 0, none⟩ = false := new_loose2 _ _ _ _ _ rfl
        clear hHeld
        refine hK.out _ _ ?_ (fun hHeld => ?_)
        · exact cb0
        clear hK KK
        try simp only [Act.put, List.getElem_toArray, List.getElem_cons_succ, List.getElem_cons_zero, List.setIfInBounds_toArray, List.set_cons_zero, List.set_cons_succ]
        generalize w20.alloc (.cells #[.slice none 0 0] 26) = w22 at *
        refine wpAnyH_ready (rs := [2]) (by kernel_rfl) (by simp) ?_
        refine AllReadyH.cons rfl (fun KK hK => ?_) AllReadyH.nil
        simp only [List.getElem_toArray, List.getElem_cons_succ, List.getElem_cons_zero]
        rw [if_pos (by rfl)]
        refine wps2 27 (.tmp 35) (.tmp 36) _ rfl in2 (.agg #[.slice a2 zr.length c2]) (.agg #[v8]) rfl rfl (natAdd_impl _ r2 r8) ?_
        rintro e w24 ⟨v6, rfl, r6, k24⟩
        refine ⟨_, rfl, ?_⟩
        replace r1 := r1.kept k24 (by omega)
        replace r2 := r2.kept k24 (by omega)
        replace r5 := r5.kept k24 (by omega)
        replace r8 := r8.kept k24 (by omega)
        replace xf0 := k24.loose0 (World.block_lt_of_cell? _ _ x0) xf0
        replace ca0 := k24.cell0 ca0
        replace cb0 := k24.cell0 cb0
        replace cc0 := k24.cell0 cc0
        replace x0 := k24.cell0 x0
        replace K := hide ((unhide K).trans k24)
        have z25 := k24.size
        clear k24
        rw [unhide H4] at r6
        rw [unhide H3]
        obtain ⟨a6, c6, hv⟩ := Row.form' r6
        subst hv
        clear hHeld
        refine hK.out _ _ ?_ (fun hHeld => ?_)
        · exact cb0
        clear hK KK
        try simp only [Act.put, List.getElem_toArray, List.getElem_cons_succ, List.getElem_cons_zero, List.setIfInBounds_toArray, List.set_cons_zero, List.set_cons_succ]
        refine wpAnyH_take (i := 3) (oi := _) (v := .tuple #[.agg #[.slice a6 su.length c6], .bool true]) rfl (by kernel_rfl) (by kernel_rfl) (by kernel_rfl) (fun _ _ _ h => h) (Or.inl ⟨by rfl, ?_⟩) hHeld ?_
        · intro wq hSw
          try dsimp only at hSw
          go_simp
        try simp only [Act.put, List.getElem_toArray, List.getElem_cons_succ, List.getElem_cons_zero, List.setIfInBounds_toArray, List.set_cons_zero, List.set_cons_succ]
        refine wpAnyH_take (i := 4) (oi := _) (v := .agg #[.slice a6 su.length c6]) rfl (by kernel_rfl) (by kernel_rfl) (by kernel_rfl) (fun _ _ _ h => h) (Or.inl ⟨by rfl, ?_⟩) hHeld ?_
        · intro wq hSw
          try dsimp only at hSw
          go_simp
        try simp only [Act.put, List.getElem_toArray, List.getElem_cons_succ, List.getElem_cons_zero, List.setIfInBounds_toArray, List.set_cons_zero, List.set_cons_succ]
        refine wpAnyH_take (i := 5) (oi := _) (v := .bool true) rfl (by kernel_rfl) (by kernel_rfl) (by kernel_rfl) (fun _ _ _ h => h) (Or.inl ⟨by rfl, ?_⟩) hHeld ?_
        · intro wq hSw
          try dsimp only at hSw
          go_simp
        try simp only [Act.put, List.getElem_toArray, List.getElem_cons_succ, List.getElem_cons_zero, List.setIfInBounds_toArray, List.set_cons_zero, List.set_cons_succ]
        refine wpAnyH_ready (rs := [7]) (by kernel_rfl) (by simp) ?_
        refine AllReadyH.cons rfl (fun KK hK => ?_) AllReadyH.nil
        simp only [List.getElem_toArray, List.getElem_cons_succ, List.getElem_cons_zero]
        rw [if_pos (by rfl)]
        go_simp
        clear hHeld
        refine hK.out _ _ ?_ (fun hHeld => ?_)
        · exact cell_aside _ (by dsimp only; omega) cb0
        clear hK KK
        try simp only [Act.put, List.getElem_toArray, List.getElem_cons_succ, List.getElem_cons_zero, List.setIfInBounds_toArray, List.set_cons_zero, List.set_cons_succ]
        refine wpAnyH_take (i := 8) (oi := _) (v := .bool true) rfl (by kernel_rfl) (by kernel_rfl) (by kernel_rfl) (fun _ _ _ h => h) (Or.inl ⟨by rfl, ?_⟩) hHeld ?_
        · intro wq hSw
          try dsimp only at hSw
          go_simp
        try simp only [Act.put, List.getElem_toArray, List.getElem_cons_succ, List.getElem_cons_zero, List.setIfInBounds_toArray, List.set_cons_zero, List.set_cons_succ]
        refine wpAnyH_done (by kernel_rfl) ?_ _
        clear hHeld
        have sS0 := unhide S0
        replace r1 := r1.set_other (p := ⟨w20.heap.size, 0, none⟩) (by dsimp only; omega) (.slice a6 su.length c6)
        replace r2 := r2.set_other (p := ⟨w20.heap.size, 0, none⟩) (by dsimp only; omega) (.slice a6 su.length c6)
        replace r5 := r5.set_other (p := ⟨w20.heap.size, 0, none⟩) (by dsimp only; omega) (.slice a6 su.length c6)
        replace r8 := r8.set_other (p := ⟨w20.heap.size, 0, none⟩) (by dsimp only; omega) (.slice a6 su.length c6)
        replace r6 := r6.set_other (p := ⟨w20.heap.size, 0, none⟩) (by dsimp only; omega) (.slice a6 su.length c6)
        replace ca0 := cell_aside (.slice a6 su.length c6) (r := ⟨w20.heap.size, 0, none⟩) (by dsimp only; omega) ca0
        replace cb0 := cell_aside (.slice a6 su.length c6) (r := ⟨w20.heap.size, 0, none⟩) (by dsimp only; omega) cb0
        replace cc0 := cell_aside (.slice a6 su.length c6) (r := ⟨w20.heap.size, 0, none⟩) (by dsimp only; omega) cc0
        replace xf0 : (w24.setCell ⟨w20.heap.size, 0, none⟩ (.slice a6 su.length c6)).frozen? _ = false := (frozen_set _ _ _ _ _).trans xf0
        replace x0 : (w24.setCell ⟨w20.heap.size, 0, none⟩ (.slice a6 su.length c6)).cell? ⟨w20.heap.size, 0, none⟩ = some (.slice a6 su.length c6) := cell_on _ _ _ _ _ x0
        replace K := hide ((unhide K).setNew (p := ⟨w20.heap.size, 0, none⟩) (by dsimp only; omega) (.slice a6 su.length c6))
        have zs26 : (w24.setCell ⟨w20.heap.size, 0, none⟩ (.slice a6 su.length c6)).heap.size = w24.heap.size := by simp [World.setCell]
        clear sS0
        generalize w24.setCell ⟨w20.heap.size, 0, none⟩ (.slice a6 su.length c6) = ws26 at *
        go_wp2_with fail
        have mk := natMul_impl ws26 r6 r6
        rw [unhide H5, unhide H6] at mk
        refine (mk).mono ?_
        rintro e w27 ⟨v7, rfl, r7, k27⟩
        replace r1 := r1.kept k27 (by omega)
        replace r2 := r2.kept k27 (by omega)
        replace r5 := r5.kept k27 (by omega)
        replace r8 := r8.kept k27 (by omega)
        replace r6 := r6.kept k27 (by omega)
        replace xf0 := k27.loose0 (World.block_lt_of_cell? _ _ x0) xf0
        replace ca0 := k27.cell0 ca0
        replace cb0 := k27.cell0 cb0
        replace cc0 := k27.cell0 cc0
        replace x0 := k27.cell0 x0
        replace K := hide ((unhide K).trans k27)
        have z28 := k27.size
        clear k27
        clear mk
        obtain ⟨a7, c7, hv⟩ := Row.form' r7
        subst hv
        have kn := (Kept.refl 0 0 w27).alloc (.cells #[.slice a7 s1.length c7] 26)
        have cd0 : (w27.alloc (.cells #[.slice a7 s1.length c7] 26)).cell? ⟨w27.heap.size, 0, none⟩ = some (.slice a7 s1.length c7) := new_cell2 _ _ _ _ _ _ (by simp) rfl
        have sz29 : w27.heap.size + 1 = (w27.alloc (.cells #[.slice a7 s1.length c7] 26)).heap.size := by simp
        have SZ29 := hide sz29
        replace sz29 := Nat.le_of_eq sz29
        replace r1 := r1.kept kn (by omega)
        replace r2 := r2.kept kn (by omega)
        replace r5 := r5.kept kn (by omega)
        replace r8 := r8.kept kn (by omega)
        replace r6 := r6.kept kn (by omega)
        replace r7 := r7.kept kn (by omega)
        replace xf0 := kn.loose0 (World.block_lt_of_cell? _ _ x0) xf0
        replace ca0 := kn.cell0 ca0
        replace cb0 := kn.cell0 cb0
        replace cc0 := kn.cell0 cc0
        replace x0 := kn.cell0 x0
        replace K := hide ((unhide K).trans kn)
        have z30 := kn.size
        clear kn
        go_wp2_with fail
        generalize (w27.alloc (.cells #[.slice a7 s1.length c7] 26)) = wn31 at *
        have mk := natCmp_impl wn31 r5 r1
        rw [unhide D1] at mk
        refine (mk).mono ?_
        rintro e w32 ⟨rfl, k32⟩
        replace r1 := r1.kept k32 (by omega)
        replace r2 := r2.kept k32 (by omega)
        replace r5 := r5.kept k32 (by omega)
        replace r8 := r8.kept k32 (by omega)
        replace r6 := r6.kept k32 (by omega)
        replace r7 := r7.kept k32 (by omega)
        replace xf0 := k32.loose0 (World.block_lt_of_cell? _ _ x0) xf0
        replace ca0 := k32.cell0 ca0
        replace cb0 := k32.cell0 cb0
        replace cc0 := k32.cell0 cc0
        replace x0 := k32.cell0 x0
        replace cd0 := k32.cell0 cd0
        replace K := hide ((unhide K).trans k32)
        have z33 := k32.size
        clear k32
        clear mk
        cases o3
        · skip
          go_wp2_with fail
          go_ret
          exact ⟨rfl, (unhide K).toBelow⟩
        have h9 := unhide H8 rfl
        go_wp2_with fail
        have mk := natCmp_impl w32 r7 r1
        rw [unhide D2] at mk
        refine (mk).mono ?_
        rintro e w34 ⟨rfl, k34⟩
        replace r1 := r1.kept k34 (by omega)
        replace r2 := r2.kept k34 (by omega)
        replace r5 := r5.kept k34 (by omega)
        replace r8 := r8.kept k34 (by omega)
        replace r6 := r6.kept k34 (by omega)
        replace r7 := r7.kept k34 (by omega)
        replace xf0 := k34.loose0 (World.block_lt_of_cell? _ _ x0) xf0
        replace ca0 := k34.cell0 ca0
        replace cb0 := k34.cell0 cb0
        replace cc0 := k34.cell0 cc0
        replace x0 := k34.cell0 x0
        replace cd0 := k34.cell0 cd0
        replace K := hide ((unhide K).trans k34)
        have z35 := k34.size
        clear k34
        clear mk
        go_wp2_with fail
        go_ret
        exact ⟨rfl, (unhide K).toBelow⟩
    · simp only [List.getElem_toArray, List.getElem_cons_succ, List.getElem_cons_zero]
      rw [if_pos (by rfl)]
      go_simp
      have kn := (Kept.refl 0 0 wd19).alloc (.cells #[.slice none 0 0] 26)
      replace r1 := r1.kept kn (by omega)
      replace r2 := r2.kept kn (by omega)
      replace r5 := r5.kept kn (by omega)
      replace ca0 := kn.cell0 ca0
      replace cb0 := kn.cell0 cb0
      replace cc0 := kn.cell0 cc0
      replace K := hide ((unhide K).trans kn)
      have z21 := kn.size
      clear kn
      have szx : wd19.heap.size < (wd19.alloc (.cells #[.slice none 0 0] 26)).heap.size := by simp
      have x0 : (wd19.alloc (.cells #[.slice none 0 0] 26)).cell? ⟨wd19.heap.size, 0, none⟩ = some (.slice none 0 0) := new_cell2 _ _ _ _ _ _ rfl rfl
      have xf0 : (wd19.alloc (.cells #[.slice none 0 0] 26)).frozen? ⟨wd19.heap.size, 0, none⟩ = false := new_loose2 _ _ _ _ _ rfl
      clear hHeld
      refine hK.out _ _ ?_ (fun hHeld => ?_)
      · exact cb0
      clear hK KK
      try simp only [Act.put, List.getElem_toArray, List.getElem_cons_succ, List.getElem_cons_zero, List.setIfInBounds_toArray, List.set_cons_zero, List.set_cons_succ]
      generalize wd19.alloc (.cells #[.slice none 0 0] 26) = w20 at *
      refine wpAnyH_ready (rs := [1]) (by kernel_rfl) (by simp) ?_
      refine AllReadyH.cons rfl (fun KK hK => ?_) AllReadyH.nil
      simp only [List.getElem_toArray, List.getElem_cons_succ, List.getElem_cons_zero]
      rw [if_pos (by rfl)]
      refine wps1 38 (.const (.int .i64 1)) _ rfl in1 (.int .i64 1) rfl (nat_any _ 1 (by decide)) ?_
      rintro e w22 ⟨v8, rfl, r8, k22⟩
      refine ⟨_, rfl, ?_⟩
      replace r1 := r1.kept k22 (by omega)
      replace r2 := r2.kept k22 (by omega)
      replace r5 := r5.kept k22 (by omega)
      replace xf0 := k22.loose0 (World.block_lt_of_cell? _ _ x0) xf0
      replace ca0 := k22.cell0 ca0
      replace cb0 := k22.cell0 cb0
      replace cc0 := k22.cell0 cc0
      replace x0 := k22.cell0 x0
      replace K := hide ((unhide K).trans k22)
      have z23 := k22.size
      clear k22
      rw [unhide HL1] at r8
      clear hHeld
      refine hK.out _ _ ?_ (fun hHeld => ?_)
      · exact cb0
      clear hK KK
      try simp only [Act.put, List.getElem_toArray, List.getElem_cons_succ, List.getElem_cons_zero, List.setIfInBounds_toArray, List.set_cons_zero, List.set_cons_succ]
      refine wpAnyH_ready (rs := [2]) (by kernel_rfl) (by simp) ?_
      refine AllReadyH.cons rfl (fun KK hK => ?_) AllReadyH.nil
      simp only [List.getElem_toArray, List.getElem_cons_succ, List.getElem_cons_zero]
      rw [if_pos (by rfl)]
      refine wps2 27 (.tmp 35) (.tmp 36) _ rfl in2 (.agg #[.slice a2 zr.length c2]) (.agg #[v8]) rfl rfl (natAdd_impl _ r2 r8) ?_
      rintro e w24 ⟨v6, rfl, r6, k24⟩
      refine ⟨_, rfl, ?_⟩
      replace r1 := r1.kept k24 (by omega)
      replace r2 := r2.kept k24 (by omega)
      replace r5 := r5.kept k24 (by omega)
      replace r8 := r8.kept k24 (by omega)
      replace xf0 := k24.loose0 (World.block_lt_of_cell? _ _ x0) xf0
      replace ca0 := k24.cell0 ca0
      replace cb0 := k24.cell0 cb0
      replace cc0 := k24.cell0 cc0
      replace x0 := k24.cell0 x0
      replace K := hide ((unhide K).trans k24)
      have z25 := k24.size
      clear k24
      rw [unhide H4] at r6
      rw [unhide H3]
      obtain ⟨a6, c6, hv⟩ := Row.form' r6
      subst hv
      clear hHeld
      refine hK.out _ _ ?_ (fun hHeld => ?_)
      · exact cb0
      clear hK KK
      try simp only [Act.put, List.getElem_toArray, List.getElem_cons_succ, List.getElem_cons_zero, List.setIfInBounds_toArray, List.set_cons_zero, List.set_cons_succ]
      refine wpAnyH_take (i := 3) (oi := _) (v := .tuple #[.agg #[.slice a6 su.length c6], .bool true]) rfl (by kernel_rfl) (by kernel_rfl) (by kernel_rfl) (fun _ _ _ h => h) (Or.inl ⟨by rfl, ?_⟩) hHeld ?_
      · intro wq hSw
        try dsimp only at hSw
        go_simp
      try simp only [Act.put, List.getElem_toArray, List.getElem_cons_succ, List.getElem_cons_zero, List.setIfInBounds_toArray, List.set_cons_zero, List.set_cons_succ]
      refine wpAnyH_take (i := 4) (oi := _) (v := .agg #[.slice a6 su.length c6]) rfl (by kernel_rfl) (by kernel_rfl) (by kernel_rfl) (fun _ _ _ h => h) (Or.inl ⟨by rfl, ?_⟩) hHeld ?_
      · intro wq hSw
        try dsimp only at hSw
        go_simp
      try simp only [Act.put, List.getElem_toArray, List.getElem_cons_succ, List.getElem_cons_zero, List.setIfInBounds_toArray, List.set_cons_zero, List.set_cons_succ]
      refine wpAnyH_take (i := 5) (oi := _) (v := .bool true) rfl (by kernel_rfl) (by kernel_rfl) (by kernel_rfl) (fun _ _ _ h => h) (Or.inl ⟨by rfl, ?_⟩) hHeld ?_
      · intro wq hSw
        try dsimp only at hSw
        go_simp
      try simp only [Act.put, List.getElem_toArray, List.getElem_cons_succ, List.getElem_cons_zero, List.setIfInBounds_toArray, List.set_cons_zero, List.set_cons_succ]
      refine wpAnyH_ready (rs := [7]) (by kernel_rfl) (by simp) ?_
      refine AllReadyH.cons rfl (fun KK hK => ?_) AllReadyH.nil
      simp only [List.getElem_toArray, List.getElem_cons_succ, List.getElem_cons_zero]
      rw [if_pos (by rfl)]
      go_simp
      clear hHeld
      refine hK.out _ _ ?_ (fun hHeld => ?_)
      · exact cell_aside _ (by dsimp only; omega) cb0
      clear hK KK
      try simp only [Act.put, List.getElem_toArray, List.getElem_cons_succ, List.getElem_cons_zero, List.setIfInBounds_toArray, List.set_cons_zero, List.set_cons_succ]
      refine wpAnyH_take (i := 8) (oi := _) (v := .bool true) rfl (by kernel_rfl) (by kernel_rfl) (by kernel_rfl) (fun _ _ _ h => h) (Or.inl ⟨by rfl, ?_⟩) hHeld ?_
      · intro wq hSw
        try dsimp only at hSw
        go_simp
      try simp only [Act.put, List.getElem_toArray, List.getElem_cons_succ, List.getElem_cons_zero, List.setIfInBounds_toArray, List.set_cons_zero, List.set_cons_succ]
      refine wpAnyH_done (by kernel_rfl) ?_ _
      clear hHeld
      have sS0 := unhide S0
      replace r1 := r1.set_other (p := ⟨wd19.heap.size, 0, none⟩) (by dsimp only; omega) (.slice a6 su.length c6)
      replace r2 := r2.set_other (p := ⟨wd19.heap.size, 0, none⟩) (by dsimp only; omega) (.slice a6 su.length c6)
      replace r5 := r5.set_other (p := ⟨wd19.heap.size, 0, none⟩) (by dsimp only; omega) (.slice a6 su.length c6)
      replace r8 := r8.set_other (p := ⟨wd19.heap.size, 0, none⟩) (by dsimp only; omega) (.slice a6 su.length c6)
      replace r6 := r6.set_other (p := ⟨wd19.heap.size, 0, none⟩) (by dsimp only; omega) (.slice a6 su.length c6)
      replace ca0 := cell_aside (.slice a6 su.length c6) (r := ⟨wd19.heap.size, 0, none⟩) (by dsimp only; omega) ca0
      replace cb0 := cell_aside (.slice a6 su.length c6) (r := ⟨wd19.heap.size, 0, none⟩) (by dsimp only; omega) cb0
      replace cc0 := cell_aside (.slice a6 su.length c6) (r := ⟨wd19.heap.size, 0, none⟩) (by dsimp only; omega) cc0
      replace xf0 : (w24.setCell ⟨wd19.heap.size, 0, none⟩ (.slice a6 su.length c6)).frozen? _ = false := (frozen_set _ _ _ _ _).trans xf0
      replace x0 : (w24.setCell ⟨wd19.heap.size, 0, none⟩ (.slice a6 su.length c6)).cell? ⟨wd19.heap.size, 0, none⟩ = some (.slice a6 su.length c6) := cell_on _ _ _ _ _ x0
      replace K := hide ((unhide K).setNew (p := ⟨wd19.heap.size, 0, none⟩) (by dsimp only; omega) (.slice a6 su.length c6))
      have zs26 : (w24.setCell ⟨wd19.heap.size, 0, none⟩ (.slice a6 su.length c6)).heap.size = w24.heap.size := by simp [World.setCell]
      clear sS0
      generalize w24.setCell ⟨wd19.heap.size, 0, none⟩ (.slice a6 su.length c6) = ws26 at *
      go_wp2_with fail
      have mk := natMul_impl ws26 r6 r6
      rw [unhide H5, unhide H6] at mk
      refine (mk).mono ?_
      rintro e w27 ⟨v7, rfl, r7, k27⟩
      replace r1 := r1.kept k27 (by omega)
      replace r2 := r2.kept k27 (by omega)
      replace r5 := r5.kept k27 (by omega)
      replace r8 := r8.kept k27 (by omega)
      replace r6 := r6.kept k27 (by omega)
      replace xf0 := k27.loose0 (World.block_lt_of_cell? _ _ x0) xf0
      replace ca0 := k27.cell0 ca0
      replace cb0 := k27.cell0 cb0
      replace cc0 := k27.cell0 cc0
      replace x0 := k27.cell0 x0
      replace K := hide ((unhide K).trans k27)
      have z28 := k27.size
      clear k27
      clear mk
      obtain ⟨a7, c7, hv⟩ := Row.form' r7
      subst hv
      have kn := (Kept.refl 0 0 w27).alloc (.cells #[.slice a7 s1.length c7] 26)
      have cd0 : (w27.alloc (.cells #[.slice a7 s1.length c7] 26)).cell? ⟨w27.heap.size, 0, none⟩ = some (.slice a7 s1.length c7) := new_cell2 _ _ _ _ _ _ (by simp) rfl
      have sz29 : w27.heap.size + 1 = (w27.alloc (.cells #[.slice a7 s1.length c7] 26)).heap.size := by simp
      have SZ29 := hide sz29
      replace sz29 := Nat.le_of_eq sz29
      replace r1 := r1.kept kn (by omega)
      replace r2 := r2.kept kn (by omega)
      replace r5 := r5.kept kn (by omega)
      replace r8 := r8.kept kn (by omega)
      replace r6 := r6.kept kn (by omega)
      replace r7 := r7.kept kn (by omega)
      replace xf0 := kn.loose0 (World.block_lt_of_cell? _ _ x0) xf0
      replace ca0 := kn.cell0 ca0
      replace cb0 := kn.cell0 cb0
      replace cc0 := kn.cell0 cc0
      replace x0 := kn.cell0 x0
      replace K := hide ((unhide K).trans kn)
      have z30 := kn.size
      clear kn
      go_wp2_with fail
      generalize (w27.alloc (.cells #[.slice a7 s1.length c7] 26)) = wn31 at *
      have mk := natCmp_impl wn31 r5 r1
      rw [unhide D1] at mk
      refine (mk).mono ?_
      rintro e w32 ⟨rfl, k32⟩
      replace r1 := r1.kept k32 (by omega)
      replace r2 := r2.kept k32 (by omega)
      replace r5 := r5.kept k32 (by omega)
      replace r8 := r8.kept k32 (by omega)
      replace r6 := r6.kept k32 (by omega)
      replace r7 := r7.kept k32 (by omega)
      replace xf0 := k32.loose0 (World.block_lt_of_cell? _ _ x0) xf0
      replace ca0 := k32.cell0 ca0
      replace cb0 := k32.cell0 cb0
      replace cc0 := k32.cell0 cc0
      replace x0 := k32.cell0 x0
      replace cd0 := k32.cell0 cd0
      replace K := hide ((unhide K).trans k32)
      have z33 := k32.size
      clear k32
      clear mk
      cases o3
      · skip
        go_wp2_with fail
        go_ret
        exact ⟨rfl, (unhide K).toBelow⟩
      have h9 := unhide H8 rfl
      go_wp2_with fail
      have mk := natCmp_impl w32 r7 r1
      rw [unhide D2] at mk
      refine (mk).mono ?_
      rintro e w34 ⟨rfl, k34⟩
      replace r1 := r1.kept k34 (by omega)
      replace r2 := r2.kept k34 (by omega)
      replace r5 := r5.kept k34 (by omega)
      replace r8 := r8.kept k34 (by omega)
      replace r6 := r6.kept k34 (by omega)
      replace r7 := r7.kept k34 (by omega)
      replace xf0 := k34.loose0 (World.block_lt_of_cell? _ _ x0) xf0
      replace ca0 := k34.cell0 ca0
      replace cb0 := k34.cell0 cb0
      replace cc0 := k34.cell0 cc0
      replace x0 := k34.cell0 x0
      replace cd0 := k34.cell0 cd0
      replace K := hide ((unhide K).trans k34)
      have z35 := k34.size
      clear k34
      clear mk
      go_wp2_with fail
      go_ret
      exact ⟨rfl, (unhide K).toBelow⟩

end Go.Proofs.Ytdhponfpikclhaa
