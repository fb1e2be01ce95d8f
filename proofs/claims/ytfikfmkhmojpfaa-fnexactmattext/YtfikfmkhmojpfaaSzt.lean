/-
  The program's sizeText: a dyadic number's size as a decimal text.
-/
import Derived.Test.YtfikfmkhmojpfaaSpr
import Derived.Test.YtfikfmkhmojpfaaDig2r
import Derived.Test.YtfikfmkhmojpfaaCatB
import Derived.Test.YtfikfmkhmojpfaaRepB
import Derived.Deep.RegionHeld3
import Derived.Deep.DeepCutAuto
import Derived.Deep.RegionLaw
namespace Go.Proofs.Ytfikfmkhmojpfaa
open Go.RowKit
set_option linter.unusedVariables false
set_option maxRecDepth 8000
set_option linter.unusedSimpArgs false

/-- The text of V with K digits behind the point. -/
def dpText (V K : Nat) : List Int :=
  (List.replicate (K + 1 - (decText V).length) 48 ++ decText V).take ((List.replicate (K + 1 - (decText V).length) 48 ++ decText V).length - K) ++ 46 :: (List.replicate (K + 1 - (decText V).length) 48 ++ decText V).drop ((List.replicate (K + 1 - (decText V).length) 48 ++ decText V).length - K)

set_option maxHeartbeats 2000000 in
theorem sizeText_up {b g : Nat} {v : Value} {xs : List Int} {x : Int} (w : World) (h : Num b w g v xs) (ex : Ex w g x) (hx : Nrm xs) (nx : xs.length ≤ 1000) (hb : b ≤ w.heap.size) (x0 : 0 ≤ x) (x1 : x ≤ 3000) (hN : (limbs ((val xs).toNat * 2 ^ x.toNat)).length ≤ 100000) :
    Calls Try.prog 41 #[.pointer (some ⟨g, 0, none⟩)] w fun e w' => ∃ v', e = .returned v' ∧ Row .u8 true w.heap.size w'.heap.size w' v' (decText ((val xs).toNat * 2 ^ x.toNat)) ∧ Mod (fun i => i = g) w w' := by
  go_enter Try.func41, Try.ntmps41
  go_wp2_with fail
  refine (spread_up w h ex hx nx hb x0 x1).mono ?_
  rintro e w1 ⟨rfl, u1, n1, m1⟩
  go_wp2_with fail
  refine (text_room w1 n1 hN).mono ?_
  rintro e w2 ⟨v2, rfl, r2, -, k2⟩
  have s1 := m1.size
  have mm := m1.kept k2
  have rr := r2.wider (lo' := w.heap.size) s1 (Nat.le_refl _)
  clear r2 m1 n1
  obtain ⟨a2, c2, hv⟩ := Row.form' rr
  subst hv
  go_wp2_with fail
  go_ret
  exact ⟨_, rfl, rr, mm⟩

theorem ins_point {lo hi g c K : Nat} {zs : List Int} (w : World) (r : Row .u8 true lo hi w (.slice (some ⟨g, 0, none⟩) zs.length c) zs) (rm : Room w g 0 c) (hK : 0 < K) (hl : K < zs.length) (hb : zs.length ≤ 1000000) (hlo : lo ≤ w.heap.size) :
    Calls Try.prog 74 #[.slice (some ⟨g, 0, none⟩) zs.length c, .int .i64 ((zs.length - K : Nat) : Int), .slice (some ⟨w.heap.size, 0, none⟩) 1 1] (w.alloc (.cells #[.int .u8 46] 5)) fun e w' => ∃ v', e = .returned v' ∧ Row .u8 true lo w'.heap.size w' v' (zs.take (zs.length - K) ++ 46 :: zs.drop (zs.length - K)) ∧ Kept g (g + 1) w w' := by
  have ka := (Kept.refl 0 0 w).alloc (.cells #[.int .u8 46] 5)
  have hg : g < w.heap.size := (r.at (j := 0) (by omega)).2.2.2.2.1
  have hc : 0 < c := by
    obtain ⟨a, c', e, q1, q2, q3⟩ := r
    injection e with e1 e2 e3
    omega
  refine (insR_impl _ (r.kept ka (by omega)) (rm.kept ka hc) (by omega) hb w.heap.size (new_cell_at _ _ _ _ rfl) (by omega) (by unfold World.shape?; rw [heap_alloc_new]; rfl) (new_loose _ _ _ _ rfl) (World.frozen?_alloc_at (w := w) _ _ w.heap.size 1 rfl) (by have := ka.size; omega)).mono ?_
  rintro e w' ⟨v', rfl, r', k'⟩
  exact ⟨v', rfl, r', (ka.any).trans k'⟩

theorem decText_pos (V : Nat) : 0 < (decText V).length := by
  by_cases h : V = 0
  · subst h; decide
  · unfold decText
    rw [if_neg h, List.length_reverse, tdig_step h]
    simp
theorem own_cells {lo hi g c : Nat} {w : World} {T : List Int} (r : Row .u8 true lo hi w (.slice (some ⟨g, 0, none⟩) T.length c) T) : T.length ≤ c ∧ ∀ q, q < T.length → w.cell? ⟨g, 0 + q, none⟩ = some (.int .u8 (T.getD q 0)) := by
  refine ⟨?_, fun q hq => (r.at hq).1⟩
  obtain ⟨a, c', e, q1, q2, q3⟩ := r
  injection e with e1 e2 e3
  omega

set_option maxHeartbeats 2000000 in
theorem sizeText_down {b g : Nat} {v : Value} {xs : List Int} {x : Int} (w : World) (h : Num b w g v xs) (ex : Ex w g x) (hx : Nrm xs) (nx : xs.length ≤ 1000) (hb : b ≤ w.heap.size) (x0 : -100 ≤ x) (x1 : x < 0) (HP : ∀ m, m ≤ (-x).toNat → (limbs (5 ^ m)).length ≤ 1000) (hN : (limbs ((val xs).toNat * 5 ^ (-x).toNat)).length ≤ 100000) (hTl : (decText ((val xs).toNat * 5 ^ (-x).toNat)).length ≤ 100000) :
    Calls Try.prog 41 #[.pointer (some ⟨g, 0, none⟩)] w fun e w' => ∃ v', e = .returned v' ∧ Row .u8 true w.heap.size w'.heap.size w' v' (dpText ((val xs).toNat * 5 ^ (-x).toNat) (-x).toNat) ∧ Mod (fun i => i = g) w w' := by
  obtain ⟨K, hK⟩ : ∃ K : Nat, -x = (K : Int) := ⟨(-x).toNat, by omega⟩
  have sp := spread_down w h ex hx nx hb x0 x1 HP
  rw [hK, Int.toNat_natCast] at sp hN hTl ⊢
  have hK0 : 0 < K := by omega
  have hK1 : K ≤ 100 := by omega
  have hKn : ¬ ((K : Int) = 0) := by omega
  clear hK
  go_enter Try.func41, Try.ntmps41
  go_wp2_with fail
  refine sp.mono ?_
  rintro e w1 ⟨rfl, u1, n1, m1⟩
  clear sp
  go_wp2_with fail
  refine (text_room w1 n1 hN).mono ?_
  obtain ⟨T, hT⟩ : ∃ T, decText ((val xs).toNat * 5 ^ K) = T := ⟨_, rfl⟩
  rw [hT] at hTl ⊢
  rintro e w2 ⟨v2, rfl, r2, ⟨g2, c2, rfl, rm2⟩, k2⟩
  have s1 := m1.size
  have s2 := k2.size
  have mm := m1.kept k2
  have rr := r2.wider (lo' := w.heap.size) s1 (Nat.le_refl _)
  clear m1 n1
  have HT := hide hT
  clear hT
  by_cases hmis : K + 1 ≤ T.length
  · have ed : dpText ((val xs).toNat * 5 ^ K) K = T.take (T.length - K) ++ 46 :: T.drop (T.length - K) := by
      unfold dpText
      rw [unhide HT, show K + 1 - T.length = 0 by omega, List.replicate_zero, List.nil_append]
    have HE := hide ed
    clear ed
    have hm1 : ¬ ((K : Int) + 1 - (T.length : Int) > 0) := by omega
    have hsub : IntKind.i64.wrap ((T.length : Int) - (K : Int)) = ((T.length - K : Nat) : Int) := by rw [IntKind.wrap_i64]; omega
    have hw1 : IntKind.i64.wrap ((K : Int) + 1) = (K : Int) + 1 := by rw [IntKind.wrap_i64]; omega
    have hw2 : IntKind.i64.wrap ((K : Int) + 1 - (T.length : Int)) = (K : Int) + 1 - (T.length : Int) := by rw [IntKind.wrap_i64]; omega
    have ip := ins_point w2 rr rm2 hK0 (by omega) (by omega) (by omega)
    go_wp2_with fail
    refine ip.mono ?_
    rintro e w3 ⟨v3, rfl, r3, k3⟩
    rw [← unhide HE] at r3
    have hg2 : w.heap.size ≤ g2 := (rr.at (j := 0) (by omega)).2.2.1
    have m3 : Mod (fun i => i = g) w w3 := mm.then k3.modw (fun i hi => .inr (by omega))
    obtain ⟨a3, c3, hv⟩ := Row.form' r3
    subst hv
    go_wp2_with fail
    go_ret
    exact ⟨_, rfl, r3, m3⟩
  obtain ⟨M, hM⟩ : ∃ M, K + 1 - T.length = M := ⟨_, rfl⟩
  have hM0 : 1 ≤ M := by omega
  have hM1 : M ≤ 1000 := by omega
  have hw1 : IntKind.i64.wrap ((K : Int) + 1) = (K : Int) + 1 := by rw [IntKind.wrap_i64]; omega
  have hw2 : IntKind.i64.wrap ((K : Int) + 1 - (T.length : Int)) = (M : Int) := by rw [IntKind.wrap_i64]; omega
  have hp : (M : Int) > 0 := by omega
  obtain ⟨C, hC⟩ : ∃ C, List.replicate M 48 ++ T = C := ⟨_, rfl⟩
  have hCl : C.length = M + T.length := by rw [← hC, List.length_append, List.length_replicate]
  have ed : dpText ((val xs).toNat * 5 ^ K) K = C.take (C.length - K) ++ 46 :: C.drop (C.length - K) := by
    unfold dpText
    rw [unhide HT, hM, hC]
  have HE := hide ed
  have hT0 : 0 < T.length := by rw [← unhide HT]; exact decText_pos _
  have hg2 : w.heap.size ≤ g2 := (rr.at (j := 0) (by omega)).2.2.1
  have hcT := own_cells rr
  clear ed
  have rp := repeatB_impl M hM0 (by omega) (w2.alloc (.cells #[.int .u8 48] 5)) w2.heap.size (new_cell_at _ _ _ _ rfl)
  have ka := (Kept.refl 0 0 w2).alloc (.cells #[.int .u8 48] 5)
  go_wp2_with fail
  refine rp.mono ?_
  rintro e w3 ⟨gR, cR, rfl, hcR, hgR, cR0, k3⟩
  replace ka := ka.trans k3
  clear rp k3
  have kb := (Kept.refl 0 0 w3).alloc (.cells #[.slice (some ⟨gR, 0, none⟩) M cR, .slice (some ⟨g2, 0, none⟩) T.length c2] 30)
  have pp : Parts (w3.alloc (.cells #[.slice (some ⟨gR, 0, none⟩) M cR, .slice (some ⟨g2, 0, none⟩) T.length c2] 30)) w3.heap.size 2 (fun j => if j = 0 then List.replicate M 48 else T) := by
    intro j hj
    rcases j with _ | _ | j
    · show ∃ (g o c : Nat), (_ : Option Value) = some (Value.slice (some ⟨g, o, none⟩) (List.replicate M (48 : Int)).length c) ∧ 0 < (List.replicate M (48 : Int)).length ∧ (List.replicate M (48 : Int)).length ≤ c ∧ ∀ q, q < (List.replicate M (48 : Int)).length → (_ : Option Value) = some (Value.int .u8 ((List.replicate M (48 : Int)).getD q 0))
      refine ⟨gR, 0, cR, ?_, ?_, ?_, ?_⟩
      · rw [List.length_replicate]; exact new_cell2 _ _ _ _ _ _ rfl rfl
      · rw [List.length_replicate]; omega
      · rw [List.length_replicate]; exact hcR
      · intro q hq
        rw [List.length_replicate] at hq
        rw [kb.cell0 (cR0 q hq), List.getD_eq_getElem?_getD, List.getElem?_replicate, if_pos hq]
        rfl
    · refine ⟨g2, 0, c2, ?_, hT0, hcT.1, ?_⟩
      · exact new_cell2 _ _ _ _ _ _ rfl rfl
      · intro q hq
        exact kb.cell0 (ka.cell0 (hcT.2 q hq))
    · omega
  have hcat : cat (fun j => if j = 0 then List.replicate M 48 else T) 2 = C := by rw [← hC]; rfl
  have cc := concatB_impl (n := 2) (by rw [hcat]; omega) (by omega) (by rw [hcat]; omega) _ pp
  rw [hcat] at cc
  go_wp2_with fail
  refine cc.mono ?_
  rintro e w4 ⟨v4, rfl, o4, k4⟩
  obtain ⟨g4, c4, hv⟩ : ∃ g4 c4, v4 = .slice (some ⟨g4, 0, none⟩) C.length c4 := by
    obtain ⟨L, hL⟩ : ∃ L, C.length = L + 1 := ⟨C.length - 1, by omega⟩
    rw [hL] at o4 ⊢
    exact ownsRow_succ o4
  subst hv
  have r4 := Row.own o4
  have rm4 := room_own o4
  have kw := (ka.trans kb).trans k4
  have z1 := ka.size
  have z2 := kb.size
  have z4 := k4.size
  have hg4 := (r4.at (j := 0) (by omega)).2.2.1
  clear o4 cc pp cR0 kb k4 hcat
  have hsub : IntKind.i64.wrap ((C.length : Int) - (K : Int)) = ((C.length - K : Nat) : Int) := by rw [IntKind.wrap_i64]; omega
  have ip := ins_point w4 (r4.wider (lo' := w.heap.size) (by omega) (Nat.le_refl _)) rm4 hK0 (by omega) (by omega) (by omega)
  clear hCl hM hC hM0 hM1 hw1 hw2 hp
  go_wp2_with fail
  refine ip.mono ?_
  rintro e w5 ⟨v5, rfl, r5, k5⟩
  rw [← unhide HE] at r5
  have m5 : Mod (fun i => i = g) w w5 := (mm.kept kw).then k5.modw (fun i hi => .inr (by omega))
  clear hsub kw z1 z2 z4 hcT k5 HE mm
  obtain ⟨a5, c5, hv⟩ := Row.form' r5
  subst hv
  go_wp2_with fail
  go_ret
  exact ⟨_, rfl, r5, m5⟩

end Go.Proofs.Ytfikfmkhmojpfaa
