/-
  Contracts that the proofs of this seat share: IDiv6, Gcd1, Rt1.
-/
import Derived.Test.YtadbdchjhglldaaGreatDoorBM
import Derived.Test.YtadbdchjhglldaaGreatDoorBC
import Derived.Deep.DeepCutAuto
import Derived.Test.YtadbdchjhglldaaGreatDoorBK
import Derived.Test.YtadbdchjhglldaaGreatDoorBN
namespace Go.Proofs.YtadbdchjhglldaaGreatDoor
open Go.RowKit
set_option linter.unusedVariables false
set_option maxRecDepth 8000
set_option linter.unusedSimpArgs false

end Go.Proofs.YtadbdchjhglldaaGreatDoor

namespace Go.Proofs.YtadbdchjhglldaaGreatDoor
open Go.RowKit
set_option linter.unusedVariables false
set_option maxRecDepth 8000
set_option linter.unusedSimpArgs false

/-- The integers of a slice, read from memory. -/
def readL (w : World) (v : Value) : List Int := match v with
  | .slice (some a) n _ => (List.range n).map fun j => match w.cell? ⟨a.block, a.off + j, none⟩ with
    | some (.int _ z) => z
    | _ => 0
  | _ => []
theorem readL_of {bw : Bool} {lo hi : Nat} {w : World} {v : Value} {zs : List Int} (r : Row .i64 bw lo hi w v zs) : readL w v = zs := by
  obtain ⟨a, c, rfl⟩ := Row.form' r
  have hc := (row_cell r).2.2.2
  cases a with
  | none =>
    cases zs with
    | nil => rfl
    | cons z t => obtain ⟨g, off, e, -⟩ := hc 0 (by simp); cases e
  | some ad =>
    have : ∀ j, j < zs.length → w.cell? ⟨ad.block, ad.off + j, none⟩ = some (.int .i64 (zs.getD j 0)) := by
      intro j hj
      obtain ⟨g, off, e, h⟩ := hc j hj
      cases e
      exact h
    unfold readL
    apply List.ext_getElem
    · simp
    · intro j h1 h2
      rw [List.getElem_map, List.getElem_range, this j h2]
      simp [List.getD, h2]
/-- The number whose limbs the cell g's list holds. -/
def valAt (w : World) (g : Nat) : Nat := match w.cell? ⟨g, 0, none⟩ with
  | some v => (val (readL w v)).toNat
  | none => 0
theorem valAt_of {bw : Bool} {lo hi g : Nat} {w : World} {v : Value} {zs : List Int} (hc : w.cell? ⟨g, 0, none⟩ = some v) (r : Row .i64 bw lo hi w v zs) : valAt w g = (val zs).toNat := by
  unfold valAt
  rw [hc]
  show (val (readL w v)).toNat = _
  rw [readL_of r]
end Go.Proofs.YtadbdchjhglldaaGreatDoor

namespace Go.Proofs.YtadbdchjhglldaaGreatDoor
open Go.RowKit
set_option linter.unusedVariables false
set_option maxRecDepth 8000
set_option linter.unusedSimpArgs false

/-- The root's rounds: down from x as long as it goes down. -/
def newt (N x : Nat) : Nat := if h : (x + N / x) / 2 < x then newt N ((x + N / x) / 2) else x
  termination_by x
theorem newt_less {N x : Nat} (h : (x + N / x) / 2 < x) : newt N x = newt N ((x + N / x) / 2) := by
  rw [newt, dif_pos h]
theorem newt_stay {N x : Nat} (h : ¬ (x + N / x) / 2 < x) : newt N x = x := by
  rw [newt, dif_neg h]
theorem newt_next {N x : Nat} (hN : 0 < N) (hx : 0 < x) : 0 < (x + N / x) / 2 := by
  rcases Nat.lt_or_ge x 2 with h | h
  · have : x = 1 := by omega
    subst this
    rw [Nat.div_one]
    omega
  · generalize N / x = d
    omega
/-- Where the rounds begin. -/
def above (N : Nat) : Nat := 2 ^ ((bitsN N + 1) / 2)
def rootN (N : Nat) : Nat := if N = 0 then 0 else newt N (above N)
theorem above_len {N K : Nat} (h : bitsN N ≤ 16 * K) (hK : 0 < K) : (limbs (above N)).length ≤ K := by
  refine (limbs_len_two _ _).2 ?_
  unfold above
  exact Nat.pow_lt_pow_right (by decide) (by omega)
theorem nrm_bits {xs : List Int} {K : Nat} (hx : Nrm xs) (l : xs.length ≤ K) : bitsN (val xs).toNat ≤ 16 * K := by
  refine (bitsN_le _ _).2 ?_
  exact (limbs_len_two (val xs).toNat K).1 (by rw [← nrm_limbs hx]; exact l)
theorem sum_len {a b K : Nat} (h1 : (limbs a).length ≤ K) (h2 : (limbs b).length ≤ K) : (limbs (a + b)).length ≤ K + 1 := by
  have e1 := (limbs_len_two _ _).1 h1
  have e2 := (limbs_len_two _ _).1 h2
  refine (limbs_len_two _ _).2 ?_
  have e : 2 ^ (16 * (K + 1)) = 2 ^ (16 * K) * 65536 := by rw [Nat.mul_add, Nat.pow_add]
  rw [e]
  generalize 2 ^ (16 * K) = T at *
  omega
/-- A list that lies outside the block X. -/
def RowOff (R X : Nat) (w : World) (v : Value) (zs : List Int) : Prop := ∃ l h, (X < l ∨ h ≤ X) ∧ R ≤ l ∧ Row .i64 true l h w v zs

theorem in_l2bits_r1 : ∀ (w : World) (args : Array Value), (callFunc 83 args).run Tryz.prog w = .ok (.enter 83 args) w := enters Tryz.func83 (by decide) (fun h => by cases h)

theorem in_l2shl_r1 : ∀ (w : World) (args : Array Value), (callFunc 53 args).run Tryz.prog w = .ok (.enter 53 args) w := enters Tryz.func53 (by decide) (fun h => by cases h)

theorem limbs_int_length' (n : Int) (hn : n ≤ 9223372036854775807) : (limbs n.toNat).length ≤ 4 := (limbs_length_le _ _).2 (by
    have : (65536 : Int) ^ 4 = 18446744073709551616 := by decide
    omega)

set_option maxHeartbeats 8000000 in
theorem root_spec {b1 : Bool} {l1 h1 : Nat} {v1 : Value} {xs : List Int} (w : World) (r1 : Row .i64 b1 l1 h1 w v1 xs) (hx : Nrm xs) (nx : xs.length ≤ 1000) :
    Calls Tryz.prog 54 #[.agg #[v1]] w fun e w' => ∃ v', e = .returned (.agg #[v']) ∧ Row .i64 true w.heap.size w'.heap.size w' v' (limbs (rootN (val xs).toNat)) ∧ Kept 0 0 w w' := by
  replace r1 := r1.read.tight
  obtain ⟨N, hN⟩ : ∃ N : Nat, N = (val xs).toNat := ⟨_, rfl⟩
  rw [← hN]
  have hb := nrm_bits hx nx
  rw [← hN] at hb
  have hv0 := val_nonneg hx.1
  have k0 : Kept 0 0 w ((w.alloc (.cells #[v1] 32)).alloc (.cells #[.slice none 0 0] 32)) := (((Kept.refl 0 0 w).alloc (.cells #[v1] 32)).alloc (.cells #[.slice none 0 0] 32))
  have p0 : ((w.alloc (.cells #[v1] 32)).alloc (.cells #[.slice none 0 0] 32)).cell? ⟨w.heap.size, 0, none⟩ = some (v1) := old_cell _ (new_cell2 _ _ _ _ _ _ (by simp) rfl)
  have q0 : ((w.alloc (.cells #[v1] 32)).alloc (.cells #[.slice none 0 0] 32)).cell? ⟨w.heap.size + 1, 0, none⟩ = some (.slice none 0 0) := new_cell2 _ _ _ _ _ _ (by simp) rfl
  have qf0 : ((w.alloc (.cells #[v1] 32)).alloc (.cells #[.slice none 0 0] 32)).frozen? ⟨w.heap.size + 1, 0, none⟩ = false := new_loose2 _ _ _ _ _ (by simp)
  replace r1 := r1.kept k0 (by omega)
  have s0 : ((w.alloc (.cells #[v1] 32)).alloc (.cells #[.slice none 0 0] 32)).heap.size = w.heap.size + 2 := by simp
  obtain ⟨a1, c1, hv⟩ := Row.form' r1
  subst hv
  have K := hide (k0)
  clear k0
  have S0 := hide s0
  clear s0
  have HN := hide hN
  clear hN
  by_cases hl0 : xs.length = 0
  · have hl1 : ((xs.length : Int) == 0) = true := by simp [hl0]
    have e0 : Hid (rootN N = 0) := by
      show _ = _
      have : N = 0 := by rw [unhide HN, List.length_eq_zero_iff.1 hl0]; rfl
      rw [this]
      rfl
    clear r1 hl0
    go_enter Tryz.func54, Tryz.ntmps54
    go_wp2_with fail
    generalize ((w.alloc (.cells #[.slice a1 xs.length c1] 32)).alloc (.cells #[.slice none 0 0] 32)) = W at *
    exact bodyPost_ret (v := .agg #[.slice none 0 0]) (by simp [results, Tryz.results54, go_sem, q0]) rfl ⟨_, rfl, by rw [unhide e0, limbs_zero]; exact Row.nil _ _ _ _ _, unhide K⟩
  have hl1 : ((xs.length : Int) == 0) = false := beq_eq_false_iff_ne.2 (by omega)
  have hNp : 0 < N := by
    have e1 := nrm_pow hx (List.length_pos_iff.1 (show 0 < xs.length by omega))
    have : (0 : Int) < 65536 ^ (xs.length - 1) := Int.pow_pos (by decide)
    have := unhide HN
    omega
  have hRt : Hid (rootN N = newt N (above N)) := by show _ = _; unfold rootN; rw [if_neg (by omega)]
  obtain ⟨S, hS⟩ : ∃ S : Nat, S = (bitsN N + 1) / 2 := ⟨_, rfl⟩
  obtain ⟨b, hbb⟩ : ∃ b : Nat, b = bitsN N := ⟨_, rfl⟩
  rw [← hbb] at hS hb
  have hSb : S ≤ 8000 := by omega
  have eS : IntKind.i64.wrap ((b : Int) + 1) = (b : Int) + 1 := wrap_small _ (by omega) (by omega)
  have eS2 : ((b : Int) + 1).tdiv 2 = (S : Int) := by rw [Int.tdiv_eq_ediv_of_nonneg (by omega)]; omega
  have eA : Hid (limbs ((val (limbs (1 : Int).toNat)).toNat * 2 ^ S) = limbs (above N)) := by
    show _ = _
    rw [limbs_val, hS, hbb]
    unfold above
    simp
  have eS3 : IntKind.i64.wrap (S : Int) = (S : Int) := wrap_small _ (by omega) (by omega)
  have HB := hide hbb
  clear hbb hS
  obtain ⟨za, hza⟩ : ∃ za, limbs (above N) = za := ⟨_, rfl⟩
  have HA := hide hza
  have lza := above_len (N := N) (K := 1000) (by have := unhide HB; omega) (by decide)
  rw [hza] at lza
  clear hza
  rw [unhide HA] at eA
  have l1e : (limbs (1 : Int).toNat).length ≤ 50000 := by have := limbs_int_length' 1 (by decide); omega
  go_enter Tryz.func54, Tryz.ntmps54
  go_upto_region 3 with fail
  generalize ((w.alloc (.cells #[.slice a1 xs.length c1] 32)).alloc (.cells #[.slice none 0 0] 32)) = W at *
  go_cut [3] (fun p wx => ∃ X v, p = .pointer (some ⟨X, 0, none⟩) ∧ wx.cell? ⟨X, 0, none⟩ = some v ∧ wx.frozen? ⟨X, 0, none⟩ = false ∧ RowOff W.heap.size X wx v za ∧ W.heap.size ≤ X ∧ X < wx.heap.size ∧ Kept 0 0 W wx)
  case first =>
    have kw := Kept.refl 0 0 W
    have kd := (Kept.refl 0 0 W).drew
    replace r1 := r1.kept kd (by omega)
    replace kw := kw.trans kd
    replace qf0 := kd.loose0 (World.block_lt_of_cell? _ _ q0) qf0
    replace p0 := kd.cell0 p0
    replace q0 := kd.cell0 q0
    replace K := hide ((unhide K).trans kd)
    have z1 := kd.size
    clear kd
    refine wp_region_held_drew (S := (fun w' => w'.cell? ⟨w.heap.size, 0, none⟩ = some (.slice a1 xs.length c1))) (by kernel_rfl) ?_ (fun hHeld => ?_)
    · exact p0
    generalize W.drew = wd2 at *
    refine wpAnyH_take (i := 1) (oi := _) (v := .agg #[.slice a1 xs.length c1]) rfl (by kernel_rfl) (by kernel_rfl) (by kernel_rfl) (fun _ _ _ h => h) (Or.inl ⟨by rfl, ?_⟩) hHeld ?_
    · intro wq hSw
      try dsimp only at hSw
      go_simp
    try simp only [Act.put, List.getElem_toArray, List.getElem_cons_succ, List.getElem_cons_zero, List.setIfInBounds_toArray, List.set_cons_zero, List.set_cons_succ]
    refine wpAnyH_ready (rs := [0, 6]) (by kernel_rfl) (by simp) ?_
    refine AllReadyH.cons rfl (fun KK hK => ?_) (AllReadyH.cons rfl (fun KK hK => ?_) AllReadyH.nil)
    · simp only [List.getElem_toArray, List.getElem_cons_succ, List.getElem_cons_zero]
      rw [if_pos (by rfl)]
      refine wps1 51 (.const (.int .i64 1)) _ rfl in_l2of (.int .i64 1) rfl (of_spec _ 1 (by decide)) ?_
      rintro e w3 ⟨v2, rfl, r2, k3⟩
      refine ⟨_, rfl, ?_⟩
      replace r1 := r1.kept k3 (by omega)
      replace kw := kw.trans k3
      replace qf0 := k3.loose0 (World.block_lt_of_cell? _ _ q0) qf0
      replace p0 := k3.cell0 p0
      replace q0 := k3.cell0 q0
      replace K := hide ((unhide K).trans k3)
      have z4 := k3.size
      clear k3
      clear hHeld
      refine hK.out _ _ ?_ (fun hHeld => ?_)
      · exact p0
      clear hK KK
      try simp only [Act.put, List.getElem_toArray, List.getElem_cons_succ, List.getElem_cons_zero, List.setIfInBounds_toArray, List.set_cons_zero, List.set_cons_succ]
      refine wpAnyH_ready (rs := [2, 6]) (by kernel_rfl) (by simp) ?_
      refine AllReadyH.cons rfl (fun KK hK => ?_) (AllReadyH.cons rfl (fun KK hK => ?_) AllReadyH.nil)
      · simp only [List.getElem_toArray, List.getElem_cons_succ, List.getElem_cons_zero]
        rw [if_pos (by rfl)]
        refine wps1 83 (.tmp 13) _ rfl in_l2bits_r1 (.agg #[.slice a1 xs.length c1]) rfl (bits_spec _ r1 hx (by omega)) ?_
        rintro e w5 ⟨rfl, k5⟩
        refine ⟨_, rfl, ?_⟩
        replace r1 := r1.kept k5 (by omega)
        replace r2 := r2.kept k5 (by omega)
        replace kw := kw.trans k5
        replace qf0 := k5.loose0 (World.block_lt_of_cell? _ _ q0) qf0
        replace p0 := k5.cell0 p0
        replace q0 := k5.cell0 q0
        replace K := hide ((unhide K).trans k5)
        have z6 := k5.size
        clear k5
        rw [← unhide HN, ← unhide HB]
        clear hHeld
        refine hK.out _ _ ?_ (fun hHeld => ?_)
        · exact p0
        clear hK KK
        try simp only [Act.put, List.getElem_toArray, List.getElem_cons_succ, List.getElem_cons_zero, List.setIfInBounds_toArray, List.set_cons_zero, List.set_cons_succ]
        refine wpAnyH_take (i := 3) (oi := _) (v := .int .i64 ((b : Int) + 1)) rfl (by kernel_rfl) (by kernel_rfl) (by kernel_rfl) (fun _ _ _ h => h) (Or.inl ⟨by rfl, ?_⟩) hHeld ?_
        · intro wq hSw
          try dsimp only at hSw
          go_simp
        try simp only [Act.put, List.getElem_toArray, List.getElem_cons_succ, List.getElem_cons_zero, List.setIfInBounds_toArray, List.set_cons_zero, List.set_cons_succ]
        refine wpAnyH_take (i := 4) (oi := _) (v := .int .i64 (S : Int)) rfl (by kernel_rfl) (by kernel_rfl) (by kernel_rfl) (fun _ _ _ h => h) (Or.inl ⟨by rfl, ?_⟩) hHeld ?_
        · intro wq hSw
          try dsimp only at hSw
          go_simp
        try simp only [Act.put, List.getElem_toArray, List.getElem_cons_succ, List.getElem_cons_zero, List.setIfInBounds_toArray, List.set_cons_zero, List.set_cons_succ]
        refine wpAnyH_ready (rs := [5, 6]) (by kernel_rfl) (by simp) ?_
        refine AllReadyH.cons rfl (fun KK hK => ?_) (AllReadyH.cons rfl (fun KK hK => ?_) AllReadyH.nil)
        · simp only [List.getElem_toArray, List.getElem_cons_succ, List.getElem_cons_zero]
          rw [if_pos (by rfl)]
          refine wps2 53 (.tmp 12) (.tmp 16) _ rfl in_l2shl_r1 (.agg #[v2]) (.int .i64 (S : Int)) rfl rfl (shl_spec _ r2 (limbs_lim _) l1e S (.inr (by omega)) (by omega)) ?_
          rintro e w7 ⟨v3, rfl, r3, k7⟩
          refine ⟨_, rfl, ?_⟩
          replace r1 := r1.kept k7 (by omega)
          replace r2 := r2.kept k7 (by omega)
          replace kw := kw.trans k7
          replace qf0 := k7.loose0 (World.block_lt_of_cell? _ _ q0) qf0
          replace p0 := k7.cell0 p0
          replace q0 := k7.cell0 q0
          replace K := hide ((unhide K).trans k7)
          have z8 := k7.size
          clear k7
          rw [unhide eA] at r3
          obtain ⟨a3, c3, hv⟩ := Row.form' r3
          subst hv
          clear hHeld
          refine hK.out _ _ ?_ (fun hHeld => ?_)
          · exact p0
          clear hK KK
          try simp only [Act.put, List.getElem_toArray, List.getElem_cons_succ, List.getElem_cons_zero, List.setIfInBounds_toArray, List.set_cons_zero, List.set_cons_succ]
          refine wpAnyH_ready (rs := [6]) (by kernel_rfl) (by simp) ?_
          refine AllReadyH.cons rfl (fun KK hK => ?_) AllReadyH.nil
          simp only [List.getElem_toArray, List.getElem_cons_succ, List.getElem_cons_zero]
          rw [if_pos (by rfl)]
          go_simp
          have kn := (Kept.refl 0 0 w7).alloc (.cells #[.slice none 0 0] 32)
          replace r1 := r1.kept kn (by omega)
          replace r2 := r2.kept kn (by omega)
          replace r3 := r3.kept kn (by omega)
          replace kw := kw.trans kn
          replace qf0 := kn.loose0 (World.block_lt_of_cell? _ _ q0) qf0
          replace p0 := kn.cell0 p0
          replace q0 := kn.cell0 q0
          replace K := hide ((unhide K).trans kn)
          have z10 := kn.size
          clear kn
          have szx : w7.heap.size < (w7.alloc (.cells #[.slice none 0 0] 32)).heap.size := by simp
          have x0 : (w7.alloc (.cells #[.slice none 0 0] 32)).cell? ⟨w7.heap.size, 0, none⟩ = some (.slice none 0 0) := new_cell2 _ _ _ _ _ _ rfl rfl
          have xf0 : (w7.alloc (.cells #[.slice none 0 0] 32)).frozen? ⟨w7.heap.size, 0, none⟩ = false := new_loose2 _ _ _ _ _ rfl
          clear hHeld
          refine hK.out _ _ ?_ (fun hHeld => ?_)
          · exact p0
          clear hK KK
          try simp only [Act.put, List.getElem_toArray, List.getElem_cons_succ, List.getElem_cons_zero, List.setIfInBounds_toArray, List.set_cons_zero, List.set_cons_succ]
          generalize w7.alloc (.cells #[.slice none 0 0] 32) = w9 at *
          refine wpAnyH_ready (rs := [7]) (by kernel_rfl) (by simp) ?_
          refine AllReadyH.cons rfl (fun KK hK => ?_) AllReadyH.nil
          simp only [List.getElem_toArray, List.getElem_cons_succ, List.getElem_cons_zero]
          rw [if_pos (by rfl)]
          go_simp
          clear hHeld
          refine hK.out _ _ ?_ (fun hHeld => ?_)
          · exact cell_aside _ (by have := unhide S0; dsimp only; omega) p0
          clear hK KK
          try simp only [Act.put, List.getElem_toArray, List.getElem_cons_succ, List.getElem_cons_zero, List.setIfInBounds_toArray, List.set_cons_zero, List.set_cons_succ]
          refine wpAnyH_done (by kernel_rfl) ?_ _
          clear hHeld
          go_wp2_with fail
          go_meet
          exact ⟨_, _, rfl, cell_on _ _ _ _ _ x0, by rw [frozen_set]; exact xf0, ⟨_, _, by omega, by omega, (r3.set_other (p := ⟨w7.heap.size, 0, none⟩) (by dsimp only; omega) _)⟩, by omega, by rw [size_set]; exact World.block_lt_of_cell? _ _ x0, kw.setNew (p := ⟨w7.heap.size, 0, none⟩) (by dsimp only; omega) _⟩
        · simp only [List.getElem_toArray, List.getElem_cons_succ, List.getElem_cons_zero]
          rw [if_pos (by rfl)]
          go_simp
          have kn := (Kept.refl 0 0 w5).alloc (.cells #[.slice none 0 0] 32)
          replace r1 := r1.kept kn (by omega)
          replace r2 := r2.kept kn (by omega)
          replace kw := kw.trans kn
          replace qf0 := kn.loose0 (World.block_lt_of_cell? _ _ q0) qf0
          replace p0 := kn.cell0 p0
          replace q0 := kn.cell0 q0
          replace K := hide ((unhide K).trans kn)
          have z8 := kn.size
          clear kn
          have szx : w5.heap.size < (w5.alloc (.cells #[.slice none 0 0] 32)).heap.size := by simp
          have x0 : (w5.alloc (.cells #[.slice none 0 0] 32)).cell? ⟨w5.heap.size, 0, none⟩ = some (.slice none 0 0) := new_cell2 _ _ _ _ _ _ rfl rfl
          have xf0 : (w5.alloc (.cells #[.slice none 0 0] 32)).frozen? ⟨w5.heap.size, 0, none⟩ = false := new_loose2 _ _ _ _ _ rfl
          clear hHeld
          refine hK.out _ _ ?_ (fun hHeld => ?_)
          · exact p0
          clear hK KK
          try simp only [Act.put, List.getElem_toArray, List.getElem_cons_succ, List.getElem_cons_zero, List.setIfInBounds_toArray, List.set_cons_zero, List.set_cons_succ]
          generalize w5.alloc (.cells #[.slice none 0 0] 32) = w7 at *
          refine wpAnyH_ready (rs := [5]) (by kernel_rfl) (by simp) ?_
          refine AllReadyH.cons rfl (fun KK hK => ?_) AllReadyH.nil
          simp only [List.getElem_toArray, List.getElem_cons_succ, List.getElem_cons_zero]
          rw [if_pos (by rfl)]
          refine wps2 53 (.tmp 12) (.tmp 16) _ rfl in_l2shl_r1 (.agg #[v2]) (.int .i64 (S : Int)) rfl rfl (shl_spec _ r2 (limbs_lim _) l1e S (.inr (by omega)) (by omega)) ?_
          rintro e w9 ⟨v3, rfl, r3, k9⟩
          refine ⟨_, rfl, ?_⟩
          replace r1 := r1.kept k9 (by omega)
          replace r2 := r2.kept k9 (by omega)
          replace kw := kw.trans k9
          replace qf0 := k9.loose0 (World.block_lt_of_cell? _ _ q0) qf0
          replace xf0 := k9.loose0 (World.block_lt_of_cell? _ _ x0) xf0
          replace p0 := k9.cell0 p0
          replace q0 := k9.cell0 q0
          replace x0 := k9.cell0 x0
          replace K := hide ((unhide K).trans k9)
          have z10 := k9.size
          clear k9
          rw [unhide eA] at r3
          obtain ⟨a3, c3, hv⟩ := Row.form' r3
          subst hv
          clear hHeld
          refine hK.out _ _ ?_ (fun hHeld => ?_)
          · exact p0
          clear hK KK
          try simp only [Act.put, List.getElem_toArray, List.getElem_cons_succ, List.getElem_cons_zero, List.setIfInBounds_toArray, List.set_cons_zero, List.set_cons_succ]
          refine wpAnyH_ready (rs := [7]) (by kernel_rfl) (by simp) ?_
          refine AllReadyH.cons rfl (fun KK hK => ?_) AllReadyH.nil
          simp only [List.getElem_toArray, List.getElem_cons_succ, List.getElem_cons_zero]
          rw [if_pos (by rfl)]
          go_simp
          clear hHeld
          refine hK.out _ _ ?_ (fun hHeld => ?_)
          · exact cell_aside _ (by have := unhide S0; dsimp only; omega) p0
          clear hK KK
          try simp only [Act.put, List.getElem_toArray, List.getElem_cons_succ, List.getElem_cons_zero, List.setIfInBounds_toArray, List.set_cons_zero, List.set_cons_succ]
          refine wpAnyH_done (by kernel_rfl) ?_ _
          clear hHeld
          go_wp2_with fail
          go_meet
          exact ⟨_, _, rfl, cell_on _ _ _ _ _ x0, by rw [frozen_set]; exact xf0, ⟨_, _, by omega, by omega, (r3.set_other (p := ⟨w5.heap.size, 0, none⟩) (by dsimp only; omega) _)⟩, by omega, by rw [size_set]; exact World.block_lt_of_cell? _ _ x0, kw.setNew (p := ⟨w5.heap.size, 0, none⟩) (by dsimp only; omega) _⟩
      · simp only [List.getElem_toArray, List.getElem_cons_succ, List.getElem_cons_zero]
        rw [if_pos (by rfl)]
        go_simp
        have kn := (Kept.refl 0 0 w3).alloc (.cells #[.slice none 0 0] 32)
        replace r1 := r1.kept kn (by omega)
        replace r2 := r2.kept kn (by omega)
        replace kw := kw.trans kn
        replace qf0 := kn.loose0 (World.block_lt_of_cell? _ _ q0) qf0
        replace p0 := kn.cell0 p0
        replace q0 := kn.cell0 q0
        replace K := hide ((unhide K).trans kn)
        have z6 := kn.size
        clear kn
        have szx : w3.heap.size < (w3.alloc (.cells #[.slice none 0 0] 32)).heap.size := by simp
        have x0 : (w3.alloc (.cells #[.slice none 0 0] 32)).cell? ⟨w3.heap.size, 0, none⟩ = some (.slice none 0 0) := new_cell2 _ _ _ _ _ _ rfl rfl
        have xf0 : (w3.alloc (.cells #[.slice none 0 0] 32)).frozen? ⟨w3.heap.size, 0, none⟩ = false := new_loose2 _ _ _ _ _ rfl
        clear hHeld
        refine hK.out _ _ ?_ (fun hHeld => ?_)
        · exact p0
        clear hK KK
        try simp only [Act.put, List.getElem_toArray, List.getElem_cons_succ, List.getElem_cons_zero, List.setIfInBounds_toArray, List.set_cons_zero, List.set_cons_succ]
        generalize w3.alloc (.cells #[.slice none 0 0] 32) = w5 at *
        refine wpAnyH_ready (rs := [2]) (by kernel_rfl) (by simp) ?_
        refine AllReadyH.cons rfl (fun KK hK => ?_) AllReadyH.nil
        simp only [List.getElem_toArray, List.getElem_cons_succ, List.getElem_cons_zero]
        rw [if_pos (by rfl)]
        refine wps1 83 (.tmp 13) _ rfl in_l2bits_r1 (.agg #[.slice a1 xs.length c1]) rfl (bits_spec _ r1 hx (by omega)) ?_
        rintro e w7 ⟨rfl, k7⟩
        refine ⟨_, rfl, ?_⟩
        replace r1 := r1.kept k7 (by omega)
        replace r2 := r2.kept k7 (by omega)
        replace kw := kw.trans k7
        replace qf0 := k7.loose0 (World.block_lt_of_cell? _ _ q0) qf0
        replace xf0 := k7.loose0 (World.block_lt_of_cell? _ _ x0) xf0
        replace p0 := k7.cell0 p0
        replace q0 := k7.cell0 q0
        replace x0 := k7.cell0 x0
        replace K := hide ((unhide K).trans k7)
        have z8 := k7.size
        clear k7
        rw [← unhide HN, ← unhide HB]
        clear hHeld
        refine hK.out _ _ ?_ (fun hHeld => ?_)
        · exact p0
        clear hK KK
        try simp only [Act.put, List.getElem_toArray, List.getElem_cons_succ, List.getElem_cons_zero, List.setIfInBounds_toArray, List.set_cons_zero, List.set_cons_succ]
        refine wpAnyH_take (i := 3) (oi := _) (v := .int .i64 ((b : Int) + 1)) rfl (by kernel_rfl) (by kernel_rfl) (by kernel_rfl) (fun _ _ _ h => h) (Or.inl ⟨by rfl, ?_⟩) hHeld ?_
        · intro wq hSw
          try dsimp only at hSw
          go_simp
        try simp only [Act.put, List.getElem_toArray, List.getElem_cons_succ, List.getElem_cons_zero, List.setIfInBounds_toArray, List.set_cons_zero, List.set_cons_succ]
        refine wpAnyH_take (i := 4) (oi := _) (v := .int .i64 (S : Int)) rfl (by kernel_rfl) (by kernel_rfl) (by kernel_rfl) (fun _ _ _ h => h) (Or.inl ⟨by rfl, ?_⟩) hHeld ?_
        · intro wq hSw
          try dsimp only at hSw
          go_simp
        try simp only [Act.put, List.getElem_toArray, List.getElem_cons_succ, List.getElem_cons_zero, List.setIfInBounds_toArray, List.set_cons_zero, List.set_cons_succ]
        refine wpAnyH_ready (rs := [5]) (by kernel_rfl) (by simp) ?_
        refine AllReadyH.cons rfl (fun KK hK => ?_) AllReadyH.nil
        simp only [List.getElem_toArray, List.getElem_cons_succ, List.getElem_cons_zero]
        rw [if_pos (by rfl)]
        refine wps2 53 (.tmp 12) (.tmp 16) _ rfl in_l2shl_r1 (.agg #[v2]) (.int .i64 (S : Int)) rfl rfl (shl_spec _ r2 (limbs_lim _) l1e S (.inr (by omega)) (by omega)) ?_
        rintro e w9 ⟨v3, rfl, r3, k9⟩
        refine ⟨_, rfl, ?_⟩
        replace r1 := r1.kept k9 (by omega)
        replace r2 := r2.kept k9 (by omega)
        replace kw := kw.trans k9
        replace qf0 := k9.loose0 (World.block_lt_of_cell? _ _ q0) qf0
        replace xf0 := k9.loose0 (World.block_lt_of_cell? _ _ x0) xf0
        replace p0 := k9.cell0 p0
        replace q0 := k9.cell0 q0
        replace x0 := k9.cell0 x0
        replace K := hide ((unhide K).trans k9)
        have z10 := k9.size
        clear k9
        rw [unhide eA] at r3
        obtain ⟨a3, c3, hv⟩ := Row.form' r3
        subst hv
        clear hHeld
        refine hK.out _ _ ?_ (fun hHeld => ?_)
        · exact p0
        clear hK KK
        try simp only [Act.put, List.getElem_toArray, List.getElem_cons_succ, List.getElem_cons_zero, List.setIfInBounds_toArray, List.set_cons_zero, List.set_cons_succ]
        refine wpAnyH_ready (rs := [7]) (by kernel_rfl) (by simp) ?_
        refine AllReadyH.cons rfl (fun KK hK => ?_) AllReadyH.nil
        simp only [List.getElem_toArray, List.getElem_cons_succ, List.getElem_cons_zero]
        rw [if_pos (by rfl)]
        go_simp
        clear hHeld
        refine hK.out _ _ ?_ (fun hHeld => ?_)
        · exact cell_aside _ (by have := unhide S0; dsimp only; omega) p0
        clear hK KK
        try simp only [Act.put, List.getElem_toArray, List.getElem_cons_succ, List.getElem_cons_zero, List.setIfInBounds_toArray, List.set_cons_zero, List.set_cons_succ]
        refine wpAnyH_done (by kernel_rfl) ?_ _
        clear hHeld
        go_wp2_with fail
        go_meet
        exact ⟨_, _, rfl, cell_on _ _ _ _ _ x0, by rw [frozen_set]; exact xf0, ⟨_, _, by omega, by omega, (r3.set_other (p := ⟨w3.heap.size, 0, none⟩) (by dsimp only; omega) _)⟩, by omega, by rw [size_set]; exact World.block_lt_of_cell? _ _ x0, kw.setNew (p := ⟨w3.heap.size, 0, none⟩) (by dsimp only; omega) _⟩
    · simp only [List.getElem_toArray, List.getElem_cons_succ, List.getElem_cons_zero]
      rw [if_pos (by rfl)]
      go_simp
      have kn := (Kept.refl 0 0 wd2).alloc (.cells #[.slice none 0 0] 32)
      replace r1 := r1.kept kn (by omega)
      replace kw := kw.trans kn
      replace qf0 := kn.loose0 (World.block_lt_of_cell? _ _ q0) qf0
      replace p0 := kn.cell0 p0
      replace q0 := kn.cell0 q0
      replace K := hide ((unhide K).trans kn)
      have z4 := kn.size
      clear kn
      have szx : wd2.heap.size < (wd2.alloc (.cells #[.slice none 0 0] 32)).heap.size := by simp
      have x0 : (wd2.alloc (.cells #[.slice none 0 0] 32)).cell? ⟨wd2.heap.size, 0, none⟩ = some (.slice none 0 0) := new_cell2 _ _ _ _ _ _ rfl rfl
      have xf0 : (wd2.alloc (.cells #[.slice none 0 0] 32)).frozen? ⟨wd2.heap.size, 0, none⟩ = false := new_loose2 _ _ _ _ _ rfl
      clear hHeld
      refine hK.out _ _ ?_ (fun hHeld => ?_)
      · exact p0
      clear hK KK
      try simp only [Act.put, List.getElem_toArray, List.getElem_cons_succ, List.getElem_cons_zero, List.setIfInBounds_toArray, List.set_cons_zero, List.set_cons_succ]
      generalize wd2.alloc (.cells #[.slice none 0 0] 32) = w3 at *
      refine wpAnyH_ready (rs := [0]) (by kernel_rfl) (by simp) ?_
      refine AllReadyH.cons rfl (fun KK hK => ?_) AllReadyH.nil
      simp only [List.getElem_toArray, List.getElem_cons_succ, List.getElem_cons_zero]
      rw [if_pos (by rfl)]
      refine wps1 51 (.const (.int .i64 1)) _ rfl in_l2of (.int .i64 1) rfl (of_spec _ 1 (by decide)) ?_
      rintro e w5 ⟨v2, rfl, r2, k5⟩
      refine ⟨_, rfl, ?_⟩
      replace r1 := r1.kept k5 (by omega)
      replace kw := kw.trans k5
      replace qf0 := k5.loose0 (World.block_lt_of_cell? _ _ q0) qf0
      replace xf0 := k5.loose0 (World.block_lt_of_cell? _ _ x0) xf0
      replace p0 := k5.cell0 p0
      replace q0 := k5.cell0 q0
      replace x0 := k5.cell0 x0
      replace K := hide ((unhide K).trans k5)
      have z6 := k5.size
      clear k5
      clear hHeld
      refine hK.out _ _ ?_ (fun hHeld => ?_)
      · exact p0
      clear hK KK
      try simp only [Act.put, List.getElem_toArray, List.getElem_cons_succ, List.getElem_cons_zero, List.setIfInBounds_toArray, List.set_cons_zero, List.set_cons_succ]
      refine wpAnyH_ready (rs := [2]) (by kernel_rfl) (by simp) ?_
      refine AllReadyH.cons rfl (fun KK hK => ?_) AllReadyH.nil
      simp only [List.getElem_toArray, List.getElem_cons_succ, List.getElem_cons_zero]
      rw [if_pos (by rfl)]
      refine wps1 83 (.tmp 13) _ rfl in_l2bits_r1 (.agg #[.slice a1 xs.length c1]) rfl (bits_spec _ r1 hx (by omega)) ?_
      rintro e w7 ⟨rfl, k7⟩
      refine ⟨_, rfl, ?_⟩
      replace r1 := r1.kept k7 (by omega)
      replace r2 := r2.kept k7 (by omega)
      replace kw := kw.trans k7
      replace qf0 := k7.loose0 (World.block_lt_of_cell? _ _ q0) qf0
      replace xf0 := k7.loose0 (World.block_lt_of_cell? _ _ x0) xf0
      replace p0 := k7.cell0 p0
      replace q0 := k7.cell0 q0
      replace x0 := k7.cell0 x0
      replace K := hide ((unhide K).trans k7)
      have z8 := k7.size
      clear k7
      rw [← unhide HN, ← unhide HB]
      clear hHeld
      refine hK.out _ _ ?_ (fun hHeld => ?_)
      · exact p0
      clear hK KK
      try simp only [Act.put, List.getElem_toArray, List.getElem_cons_succ, List.getElem_cons_zero, List.setIfInBounds_toArray, List.set_cons_zero, List.set_cons_succ]
      refine wpAnyH_take (i := 3) (oi := _) (v := .int .i64 ((b : Int) + 1)) rfl (by kernel_rfl) (by kernel_rfl) (by kernel_rfl) (fun _ _ _ h => h) (Or.inl ⟨by rfl, ?_⟩) hHeld ?_
      · intro wq hSw
        try dsimp only at hSw
        go_simp
      try simp only [Act.put, List.getElem_toArray, List.getElem_cons_succ, List.getElem_cons_zero, List.setIfInBounds_toArray, List.set_cons_zero, List.set_cons_succ]
      refine wpAnyH_take (i := 4) (oi := _) (v := .int .i64 (S : Int)) rfl (by kernel_rfl) (by kernel_rfl) (by kernel_rfl) (fun _ _ _ h => h) (Or.inl ⟨by rfl, ?_⟩) hHeld ?_
      · intro wq hSw
        try dsimp only at hSw
        go_simp
      try simp only [Act.put, List.getElem_toArray, List.getElem_cons_succ, List.getElem_cons_zero, List.setIfInBounds_toArray, List.set_cons_zero, List.set_cons_succ]
      refine wpAnyH_ready (rs := [5]) (by kernel_rfl) (by simp) ?_
      refine AllReadyH.cons rfl (fun KK hK => ?_) AllReadyH.nil
      simp only [List.getElem_toArray, List.getElem_cons_succ, List.getElem_cons_zero]
      rw [if_pos (by rfl)]
      refine wps2 53 (.tmp 12) (.tmp 16) _ rfl in_l2shl_r1 (.agg #[v2]) (.int .i64 (S : Int)) rfl rfl (shl_spec _ r2 (limbs_lim _) l1e S (.inr (by omega)) (by omega)) ?_
      rintro e w9 ⟨v3, rfl, r3, k9⟩
      refine ⟨_, rfl, ?_⟩
      replace r1 := r1.kept k9 (by omega)
      replace r2 := r2.kept k9 (by omega)
      replace kw := kw.trans k9
      replace qf0 := k9.loose0 (World.block_lt_of_cell? _ _ q0) qf0
      replace xf0 := k9.loose0 (World.block_lt_of_cell? _ _ x0) xf0
      replace p0 := k9.cell0 p0
      replace q0 := k9.cell0 q0
      replace x0 := k9.cell0 x0
      replace K := hide ((unhide K).trans k9)
      have z10 := k9.size
      clear k9
      rw [unhide eA] at r3
      obtain ⟨a3, c3, hv⟩ := Row.form' r3
      subst hv
      clear hHeld
      refine hK.out _ _ ?_ (fun hHeld => ?_)
      · exact p0
      clear hK KK
      try simp only [Act.put, List.getElem_toArray, List.getElem_cons_succ, List.getElem_cons_zero, List.setIfInBounds_toArray, List.set_cons_zero, List.set_cons_succ]
      refine wpAnyH_ready (rs := [7]) (by kernel_rfl) (by simp) ?_
      refine AllReadyH.cons rfl (fun KK hK => ?_) AllReadyH.nil
      simp only [List.getElem_toArray, List.getElem_cons_succ, List.getElem_cons_zero]
      rw [if_pos (by rfl)]
      go_simp
      clear hHeld
      refine hK.out _ _ ?_ (fun hHeld => ?_)
      · exact cell_aside _ (by have := unhide S0; dsimp only; omega) p0
      clear hK KK
      try simp only [Act.put, List.getElem_toArray, List.getElem_cons_succ, List.getElem_cons_zero, List.setIfInBounds_toArray, List.set_cons_zero, List.set_cons_succ]
      refine wpAnyH_done (by kernel_rfl) ?_ _
      clear hHeld
      go_wp2_with fail
      go_meet
      exact ⟨_, _, rfl, cell_on _ _ _ _ _ x0, by rw [frozen_set]; exact xf0, ⟨_, _, by omega, by omega, (r3.set_other (p := ⟨wd2.heap.size, 0, none⟩) (by dsimp only; omega) _)⟩, by omega, by rw [size_set]; exact World.block_lt_of_cell? _ _ x0, kw.setNew (p := ⟨wd2.heap.size, 0, none⟩) (by dsimp only; omega) _⟩
  case rest =>
    obtain ⟨X, u0, rfl, cX, fX, rX, hX, hXs, kk⟩ := hcut
    replace r1 := r1.kept kk (by omega)
    replace qf0 := kk.loose0 (World.block_lt_of_cell? _ _ q0) qf0
    replace p0 := kk.cell0 p0
    replace q0 := kk.cell0 q0
    replace K := hide ((unhide K).trans kk)
    have z1 := kk.size
    clear kk
    have nza : Nrm za := by rw [← unhide HA]; exact limbs_nrm _
    have vza : val za = (above N : Int) := by rw [← unhide HA]; exact limbs_val _
    have pza : 0 < above N := Nat.pow_pos (by decide)
    have hW := unhide S0
    have I0 := hide (show newt N (val za).toNat = newt N (above N) by rw [vza, Int.toNat_natCast])
    rw [hW] at rX hX
    clear hl1 eS eS2 eS3 eA l1e hSb hW
    go_wp2_with fail
    go_loopw [] (fun wr => ∃ u zs, wr.cell? ⟨X, 0, none⟩ = some u ∧ wr.frozen? ⟨X, 0, none⟩ = false ∧ RowOff (w.heap.size + 2) X wr u zs ∧ Nrm zs ∧ 0 < val zs ∧ zs.length ≤ 1000 ∧ Hid (newt N (val zs).toNat = newt N (above N)) ∧ wr.cell? ⟨w.heap.size, 0, none⟩ = some (.slice a1 xs.length c1) ∧ wr.cell? ⟨w.heap.size + 1, 0, none⟩ = some (.slice none 0 0) ∧ wr.frozen? ⟨w.heap.size + 1, 0, none⟩ = false ∧ Row .i64 false l1 w.heap.size wr (.slice a1 xs.length c1) xs ∧ Kept 0 0 w wr ∧ X < wr.heap.size) (fun wr => valAt wr X)
    case atStart => exact ⟨_, _, cX, fX, rX, nza, by omega, lza, I0, p0, q0, qf0, r1, unhide K, hXs⟩
    case round =>
      clear cX fX rX p0 q0 qf0 r1 K hXs I0 nza vza
      obtain ⟨u, zs, cX, fX, ⟨lX, hX', oX, bX, rX⟩, hz, hz0, lz, hI, p0, q0, qf0, r1, k0, hXs⟩ := hrel
      have K := hide k0
      clear k0
      have HV := hide (valAt_of cX rX)
      obtain ⟨a2, c2, hv⟩ := Row.form' rX
      subst hv
      obtain ⟨x, hx1⟩ : ∃ x : Nat, x = (val zs).toNat := ⟨_, rfl⟩
      have hxi : val zs = (x : Int) := by omega
      have hNi : val xs = (N : Int) := by have := unhide HN; omega
      rw [← hx1] at hI HV
      have hq : Hid ((val xs / val zs).toNat = N / x) := by show _ = _; rw [hxi, hNi, ← Int.natCast_ediv, Int.toNat_natCast]
      have e5 : Hid ((val zs + val (limbs (N / x))).toNat = x + N / x) := by show _ = _; rw [limbs_val, hxi]; generalize N / x = d; omega
      have e6 : Hid ((val (limbs (x + N / x))).toNat / 2 ^ 1 = (x + N / x) / 2) := by show _ = _; rw [limbs_val, Int.toNat_natCast]
      have lq : (limbs (N / x)).length ≤ 1000 := by
        have e := limbs_len_mono (Nat.div_le_self N x)
        have e2 := nrm_limbs hx
        rw [← unhide HN] at e2
        rw [← e2] at e
        omega
      have ls : (limbs (x + N / x)).length ≤ 1001 := sum_len (K := 1000) (by rw [hx1, ← nrm_limbs hz]; exact lz) lq
      have hyp := newt_next (x := x) hNp (by omega)
      obtain ⟨y, hy⟩ : ∃ y, y = (x + N / x) / 2 := ⟨_, rfl⟩
      rw [← hy] at e6 hyp
      have HY := hide hy
      clear hy
      obtain ⟨qq, hqq⟩ : ∃ l, limbs (N / x) = l := ⟨_, rfl⟩
      obtain ⟨ss, hss⟩ : ∃ l, limbs (x + N / x) = l := ⟨_, rfl⟩
      obtain ⟨yy, hyy⟩ : ∃ l, limbs y = l := ⟨_, rfl⟩
      obtain ⟨mm, hmm⟩ : ∃ l, limbs (val xs % val zs).toNat = l := ⟨_, rfl⟩
      have nyy : Nrm yy := by rw [← hyy]; exact limbs_nrm _
      have vyy : val yy = (y : Int) := by rw [← hyy]; exact limbs_val _
      have qlim : Lim qq := by rw [← hqq]; exact limbs_lim _
      have slim : Lim ss := by rw [← hss]; exact limbs_lim _
      rw [hqq] at lq e5
      rw [hss] at ls e6
      have EQQ := hide hqq
      have ESS := hide hss
      have EYY := hide hyy
      have EMM := hide hmm
      clear hqq hss hyy hmm hx1
      have mk := div_spec wr r1 rX hx.1 hz (by omega) (by omega) hz0
      rw [unhide hq, unhide EQQ, unhide EMM] at mk
      skip
      obtain ⟨c, hc⟩ : ∃ c, cmpI (val yy) (val zs) = c := ⟨_, rfl⟩
      have HC := hide hc
      have hcc : (y < x → c = -1) ∧ (¬ y < x → 0 ≤ c) := by
        rw [← hc, vyy, hxi]
        unfold cmpI
        refine ⟨fun h => ?_, fun h => ?_⟩
        · rw [if_pos (by omega)]
        · rw [if_neg (by omega)]; split <;> decide
      clear hc
      go_wp2_with fail
      refine (mk).mono ?_
      rintro e w2 ⟨v3, v4, rfl, r3, r4, k2⟩
      replace r1 := r1.kept k2 (by omega)
      replace rX := rX.kept k2 (by omega)
      replace qf0 := k2.loose0 (World.block_lt_of_cell? _ _ q0) qf0
      replace fX := k2.loose0 (World.block_lt_of_cell? _ _ cX) fX
      replace p0 := k2.cell0 p0
      replace q0 := k2.cell0 q0
      replace cX := k2.cell0 cX
      replace K := hide ((unhide K).trans k2)
      have z3 := k2.size
      clear k2
      clear mk
      obtain ⟨a3, c3, hv⟩ := Row.form' r3
      subst hv
      obtain ⟨a4, c4, hv⟩ := Row.form' r4
      subst hv
      clear r4
      have kn := (Kept.refl 0 0 w2).alloc (.cells #[.slice a3 qq.length c3] 32)
      have m0 : (w2.alloc (.cells #[.slice a3 qq.length c3] 32)).cell? ⟨w2.heap.size, 0, none⟩ = some (.slice a3 qq.length c3) := new_cell2 _ _ _ _ _ _ (by simp) rfl
      have sz4 : w2.heap.size + 1 = (w2.alloc (.cells #[.slice a3 qq.length c3] 32)).heap.size := by simp
      have SZ4 := hide sz4
      replace sz4 := Nat.le_of_eq sz4
      replace r1 := r1.kept kn (by omega)
      replace rX := rX.kept kn (by omega)
      replace r3 := r3.kept kn (by omega)
      replace qf0 := kn.loose0 (World.block_lt_of_cell? _ _ q0) qf0
      replace fX := kn.loose0 (World.block_lt_of_cell? _ _ cX) fX
      replace p0 := kn.cell0 p0
      replace q0 := kn.cell0 q0
      replace cX := kn.cell0 cX
      replace K := hide ((unhide K).trans kn)
      have z5 := kn.size
      clear kn
      have kn := (Kept.refl 0 0 (w2.alloc (.cells #[.slice a3 qq.length c3] 32))).alloc (.cells #[.slice a4 mm.length c4] 32)
      have n0 : ((w2.alloc (.cells #[.slice a3 qq.length c3] 32)).alloc (.cells #[.slice a4 mm.length c4] 32)).cell? ⟨w2.heap.size + 1, 0, none⟩ = some (.slice a4 mm.length c4) := new_cell2 _ _ _ _ _ _ (by simp) rfl
      have sz6 : (w2.alloc (.cells #[.slice a3 qq.length c3] 32)).heap.size + 1 = ((w2.alloc (.cells #[.slice a3 qq.length c3] 32)).alloc (.cells #[.slice a4 mm.length c4] 32)).heap.size := by simp
      have SZ6 := hide sz6
      replace sz6 := Nat.le_of_eq sz6
      replace r1 := r1.kept kn (by omega)
      replace rX := rX.kept kn (by omega)
      replace r3 := r3.kept kn (by omega)
      replace qf0 := kn.loose0 (World.block_lt_of_cell? _ _ q0) qf0
      replace fX := kn.loose0 (World.block_lt_of_cell? _ _ cX) fX
      replace p0 := kn.cell0 p0
      replace q0 := kn.cell0 q0
      replace cX := kn.cell0 cX
      replace m0 := kn.cell0 m0
      replace K := hide ((unhide K).trans kn)
      have z7 := kn.size
      clear kn
      clear n0
      go_wp2_with fail
      generalize ((w2.alloc (.cells #[.slice a3 qq.length c3] 32)).alloc (.cells #[.slice a4 mm.length c4] 32)) = wn8 at *
      have mk := add_spec wn8 rX r3 hz.1 qlim (by omega) (by omega)
      rw [unhide e5, unhide ESS] at mk
      refine (mk).mono ?_
      rintro e w9 ⟨v5, rfl, r5, k9⟩
      replace r1 := r1.kept k9 (by omega)
      replace rX := rX.kept k9 (by omega)
      replace r3 := r3.kept k9 (by omega)
      replace qf0 := k9.loose0 (World.block_lt_of_cell? _ _ q0) qf0
      replace fX := k9.loose0 (World.block_lt_of_cell? _ _ cX) fX
      replace p0 := k9.cell0 p0
      replace q0 := k9.cell0 q0
      replace cX := k9.cell0 cX
      replace m0 := k9.cell0 m0
      replace K := hide ((unhide K).trans k9)
      have z10 := k9.size
      clear k9
      clear mk
      clear r3
      go_wp2_with fail
      have mk := shr_spec w9 r5 slim (by omega) 1 (by decide)
      rw [unhide e6, unhide EYY] at mk
      refine (mk).mono ?_
      rintro e w11 ⟨v6, rfl, r6, k11⟩
      replace r1 := r1.kept k11 (by omega)
      replace rX := rX.kept k11 (by omega)
      replace r5 := r5.kept k11 (by omega)
      replace qf0 := k11.loose0 (World.block_lt_of_cell? _ _ q0) qf0
      replace fX := k11.loose0 (World.block_lt_of_cell? _ _ cX) fX
      replace p0 := k11.cell0 p0
      replace q0 := k11.cell0 q0
      replace cX := k11.cell0 cX
      replace m0 := k11.cell0 m0
      replace K := hide ((unhide K).trans k11)
      have z12 := k11.size
      clear k11
      clear mk
      obtain ⟨a6, c6, hv⟩ := Row.form' r6
      subst hv
      clear r5
      have kn := (Kept.refl 0 0 w11).alloc (.cells #[.slice a6 yy.length c6] 32)
      have s0 : (w11.alloc (.cells #[.slice a6 yy.length c6] 32)).cell? ⟨w11.heap.size, 0, none⟩ = some (.slice a6 yy.length c6) := new_cell2 _ _ _ _ _ _ (by simp) rfl
      have sz13 : w11.heap.size + 1 = (w11.alloc (.cells #[.slice a6 yy.length c6] 32)).heap.size := by simp
      have SZ13 := hide sz13
      replace sz13 := Nat.le_of_eq sz13
      replace r1 := r1.kept kn (by omega)
      replace rX := rX.kept kn (by omega)
      replace r6 := r6.kept kn (by omega)
      replace qf0 := kn.loose0 (World.block_lt_of_cell? _ _ q0) qf0
      replace fX := kn.loose0 (World.block_lt_of_cell? _ _ cX) fX
      replace p0 := kn.cell0 p0
      replace q0 := kn.cell0 q0
      replace cX := kn.cell0 cX
      replace m0 := kn.cell0 m0
      replace K := hide ((unhide K).trans kn)
      have z14 := kn.size
      clear kn
      go_wp2_with fail
      generalize (w11.alloc (.cells #[.slice a6 yy.length c6] 32)) = wn15 at *
      have mk := cmp_spec wn15 r6 rX nyy hz
      rw [unhide HC] at mk
      refine (mk).mono ?_
      rintro e w16 ⟨rfl, k16⟩
      replace r1 := r1.kept k16 (by omega)
      replace rX := rX.kept k16 (by omega)
      replace r6 := r6.kept k16 (by omega)
      replace qf0 := k16.loose0 (World.block_lt_of_cell? _ _ q0) qf0
      replace fX := k16.loose0 (World.block_lt_of_cell? _ _ cX) fX
      replace p0 := k16.cell0 p0
      replace q0 := k16.cell0 q0
      replace cX := k16.cell0 cX
      replace m0 := k16.cell0 m0
      replace s0 := k16.cell0 s0
      replace K := hide ((unhide K).trans k16)
      have z17 := k16.size
      clear k16
      clear mk
      by_cases hlt : y < x
      · have hc0 : c = -1 := hcc.1 hlt
        subst hc0
        clear hcc
        go_wp2_with fail
        have sS0 := unhide S0
        replace r1 := r1.set_other (p := ⟨X, 0, none⟩) (by dsimp only; omega) (.slice a6 yy.length c6)
        replace rX := rX.set_other (p := ⟨X, 0, none⟩) (by dsimp only; omega) (.slice a6 yy.length c6)
        replace r6 := r6.set_other (p := ⟨X, 0, none⟩) (by dsimp only; omega) (.slice a6 yy.length c6)
        replace p0 := cell_aside (.slice a6 yy.length c6) (r := ⟨X, 0, none⟩) (by dsimp only; omega) p0
        replace q0 := cell_aside (.slice a6 yy.length c6) (r := ⟨X, 0, none⟩) (by dsimp only; omega) q0
        replace m0 := cell_aside (.slice a6 yy.length c6) (r := ⟨X, 0, none⟩) (by dsimp only; omega) m0
        replace s0 := cell_aside (.slice a6 yy.length c6) (r := ⟨X, 0, none⟩) (by dsimp only; omega) s0
        replace qf0 : (w16.setCell ⟨X, 0, none⟩ (.slice a6 yy.length c6)).frozen? _ = false := (frozen_set _ _ _ _ _).trans qf0
        replace fX : (w16.setCell ⟨X, 0, none⟩ (.slice a6 yy.length c6)).frozen? _ = false := (frozen_set _ _ _ _ _).trans fX
        replace cX : (w16.setCell ⟨X, 0, none⟩ (.slice a6 yy.length c6)).cell? ⟨X, 0, none⟩ = some (.slice a6 yy.length c6) := cell_on _ _ _ _ _ cX
        replace K := hide ((unhide K).setNew (p := ⟨X, 0, none⟩) (by dsimp only; omega) (.slice a6 yy.length c6))
        have zs18 : (w16.setCell ⟨X, 0, none⟩ (.slice a6 yy.length c6)).heap.size = w16.heap.size := by simp [World.setCell]
        clear sS0
        generalize w16.setCell ⟨X, 0, none⟩ (.slice a6 yy.length c6) = ws18 at *
        refine ⟨⟨_, yy, cX, fX, ⟨_, _, .inl (by omega), by omega, r6⟩, nyy, by omega, ?_, ?_, p0, q0, qf0, r1, unhide K, by omega⟩, ?_⟩
        · have e := limbs_len_mono (Nat.le_of_lt hlt)
          rw [unhide EYY] at e
          have e2 := nrm_limbs hz
          rw [hxi, Int.toNat_natCast] at e2
          rw [← e2] at e
          omega
        · show _ = _
          have hl := unhide HY
          rw [vyy, Int.toNat_natCast, ← unhide hI]
          have e := newt_less (N := N) (x := x) (by rw [← hl]; exact hlt)
          rw [← hl] at e
          exact e.symm
        · rw [valAt_of cX r6, unhide HV, vyy]
          omega
      · have hc0 : 0 ≤ c := hcc.2 hlt
        clear hcc
        have hRR : Hid (zs = limbs (rootN N)) := by
          show _ = _
          have hl := unhide HY
          have e2 := nrm_limbs hz
          rw [hxi, Int.toNat_natCast] at e2
          rw [unhide hRt, ← unhide hI, newt_stay (by rw [← hl]; exact hlt)]
          exact e2
        have R := hide (((rX.set_other (p := ⟨w.heap.size + 1, 0, none⟩) (.inl (by dsimp only; omega)) (.slice a2 zs.length c2))).tight.wider (lo' := w.heap.size) (by omega) (Nat.le_refl _))
        have K7 := hide ((unhide K).setNew (p := ⟨w.heap.size + 1, 0, none⟩) (by simp) (.slice a2 zs.length c2))
        clear r1 rX r6 K
        go_wp2_with fail
        exact bodyPost_ret (v := .agg #[.slice a2 zs.length c2]) (by simp [results, Tryz.results54, go_sem, q0]) rfl ⟨_, rfl, by rw [← unhide hRR]; exact unhide R, unhide K7⟩

theorem am_gm {x s N : Nat} (hx : 0 < x) (h : s * s ≤ N) : 2 * s ≤ x + N / x := by
  rcases Nat.lt_or_ge (2 * s) x with h1 | h1
  · generalize N / x = d
    omega
  · obtain ⟨d, hd⟩ : ∃ d, 2 * s = x + d := ⟨2 * s - x, by omega⟩
    have h2 : d * x ≤ s * s := by
      have e : (d : Int) = 2 * s - x := by omega
      have h3 : 0 ≤ ((s : Int) - x) * ((s : Int) - x) := by
        rcases Int.le_total (s : Int) x with h | h
        · exact Int.mul_nonneg_of_nonpos_of_nonpos (by omega) (by omega)
        · exact Int.mul_nonneg (by omega) (by omega)
      have h4 : ((s : Int) - x) * ((s : Int) - x) = s * s - (d : Int) * x := by
        rw [e, Int.sub_mul, Int.mul_sub, Int.mul_sub, Int.sub_mul, Int.mul_assoc, Int.mul_comm (x : Int) s]
        omega
      have h5 : ((d * x : Nat) : Int) ≤ ((s * s : Nat) : Int) := by rw [Int.natCast_mul, Int.natCast_mul]; omega
      omega
    have h6 : d ≤ N / x := (Nat.le_div_iff_mul_le hx).2 (Nat.le_trans h2 h)
    omega
theorem newt_up {x N : Nat} (hx : 0 < x) : N < ((x + N / x) / 2 + 1) * ((x + N / x) / 2 + 1) := by
  rcases Nat.lt_or_ge N (((x + N / x) / 2 + 1) * ((x + N / x) / 2 + 1)) with h | h
  · exact h
  · have := am_gm hx h
    generalize N / x = d at *
    omega
theorem newt_sq {N : Nat} (hN : 0 < N) : ∀ x : Nat, 0 < x → N < (x + 1) * (x + 1) → newt N x * newt N x ≤ N ∧ N < (newt N x + 1) * (newt N x + 1) := by
  intro x
  induction x using Nat.strongRecOn with
  | _ x ih =>
    intro hx hup
    by_cases h : (x + N / x) / 2 < x
    · rw [newt_less h]
      exact ih _ h (newt_next hN hx) (newt_up hx)
    · rw [newt_stay h]
      refine ⟨?_, hup⟩
      have h1 : x ≤ N / x := by generalize N / x = d at *; omega
      exact (Nat.le_div_iff_mul_le hx).1 h1
theorem above_up (N : Nat) : N < (above N + 1) * (above N + 1) := by
  have h := bits_high N
  have e : above N * above N = 2 ^ (2 * ((bitsN N + 1) / 2)) := by unfold above; rw [← Nat.pow_add]; congr 1; omega
  have h2 := Nat.pow_le_pow_right (n := 2) (by decide) (show bitsN N ≤ 2 * ((bitsN N + 1) / 2) by omega)
  rw [← e] at h2
  have h3 : above N * above N ≤ (above N + 1) * (above N + 1) := Nat.mul_le_mul (by omega) (by omega)
  omega
theorem root_sq (N : Nat) : rootN N * rootN N ≤ N ∧ N < (rootN N + 1) * (rootN N + 1) := by
  unfold rootN
  by_cases h : N = 0
  · rw [if_pos h, h]; decide
  · rw [if_neg h]
    exact newt_sq (by omega) _ (Nat.pow_pos (by decide)) (above_up N)

end Go.Proofs.YtadbdchjhglldaaGreatDoor

