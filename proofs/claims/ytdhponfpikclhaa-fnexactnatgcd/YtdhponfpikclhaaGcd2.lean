/-
  Contracts of NatGcd.
-/
import Derived.Test.YtdhponfpikclhaaGcd1
import Derived.Test.YtdhponfpikclhaaIDiv5
import Derived.Test.YtdhponfpikclhaaPair
import Derived.Deep.DeepCutAuto
namespace Go.Proofs.Ytdhponfpikclhaa
open Go.RowKit
set_option linter.unusedVariables false
set_option maxRecDepth 8000
set_option linter.unusedSimpArgs false

/-- What is told as the greatest common divisor. -/
def gcdL (xs ys : List Int) : List Int := if (okB xs && okB ys) = true then limbs (Nat.gcd (val xs).toNat (val ys).toNat) else []
theorem gcdL_no {xs ys : List Int} (h : (okB xs && okB ys) = false) : gcdL xs ys = [] := by unfold gcdL; rw [h]; rfl
theorem gcdL_yes {xs ys : List Int} (h1 : okB xs = true) (h2 : okB ys = true) : gcdL xs ys = limbs (Nat.gcd (val xs).toNat (val ys).toNat) := by unfold gcdL; rw [h1, h2]; rfl
theorem gcdL_len (xs ys : List Int) : (gcdL xs ys).length ≤ 100 := by
  unfold gcdL
  split
  · rename_i h
    simp only [Bool.and_eq_true] at h
    obtain ⟨l1, n1⟩ := (okB_iff xs).1 h.1
    obtain ⟨l2, n2⟩ := (okB_iff ys).1 h.2
    have e1 : (limbs (val xs).toNat).length ≤ 100 := by rw [← nrm_limbs n1]; exact l1
    have e2 : (limbs (val ys).toNat).length ≤ 100 := by rw [← nrm_limbs n2]; exact l2
    rcases Nat.eq_zero_or_pos (val xs).toNat with h0 | h0
    · rw [h0, Nat.gcd_zero_left]; exact e2
    · exact Nat.le_trans (limbs_len_mono (Nat.gcd_le_left _ h0)) e1
  · simp

set_option maxHeartbeats 2000000 in
theorem natGcd_spec {b1 b2 : Bool} {l1 h1 l2 h2 : Nat} {v1 v2 : Value} {xs ys : List Int} (w : World) (r1 : Row .i64 b1 l1 h1 w v1 xs) (r2 : Row .i64 b2 l2 h2 w v2 ys) :
    Calls Try.prog 64 #[.agg #[v1], .agg #[v2]] w fun e w' => ∃ v', e = .returned (.agg #[v']) ∧ Row .i64 true w.heap.size w'.heap.size w' v' (gcdL xs ys) ∧ Kept 0 0 w w' := by
  have k0 : Kept 0 0 w (((w.alloc (.cells #[v1] 26)).alloc (.cells #[v2] 26)).alloc (.cells #[.slice none 0 0] 26)) := ((((Kept.refl 0 0 w).alloc (.cells #[v1] 26)).alloc (.cells #[v2] 26)).alloc (.cells #[.slice none 0 0] 26))
  have p0 : (((w.alloc (.cells #[v1] 26)).alloc (.cells #[v2] 26)).alloc (.cells #[.slice none 0 0] 26)).cell? ⟨w.heap.size, 0, none⟩ = some (v1) := old_cell _ (old_cell _ (new_cell2 _ _ _ _ _ _ (by simp) rfl))
  have t0 : (((w.alloc (.cells #[v1] 26)).alloc (.cells #[v2] 26)).alloc (.cells #[.slice none 0 0] 26)).cell? ⟨w.heap.size + 1, 0, none⟩ = some (v2) := old_cell _ (new_cell2 _ _ _ _ _ _ (by simp) rfl)
  have q0 : (((w.alloc (.cells #[v1] 26)).alloc (.cells #[v2] 26)).alloc (.cells #[.slice none 0 0] 26)).cell? ⟨w.heap.size + 2, 0, none⟩ = some (.slice none 0 0) := new_cell2 _ _ _ _ _ _ (by simp) rfl
  have qf0 : (((w.alloc (.cells #[v1] 26)).alloc (.cells #[v2] 26)).alloc (.cells #[.slice none 0 0] 26)).frozen? ⟨w.heap.size + 2, 0, none⟩ = false := new_loose2 _ _ _ _ _ (by simp)
  replace r1 := r1.kept k0 (by omega)
  replace r2 := r2.kept k0 (by omega)
  have s0 : (((w.alloc (.cells #[v1] 26)).alloc (.cells #[v2] 26)).alloc (.cells #[.slice none 0 0] 26)).heap.size = w.heap.size + 3 := by simp
  obtain ⟨a1, c1, hv⟩ := Row.form' r1
  subst hv
  obtain ⟨a2, c2, hv⟩ := Row.form' r2
  subst hv
  have K := hide (k0)
  clear k0
  have S0 := hide s0
  clear s0
  go_enter Try.func64, Try.ntmps64
  go_wp2_with fail
  generalize (((w.alloc (.cells #[.slice a1 xs.length c1] 26)).alloc (.cells #[.slice a2 ys.length c2] 26)).alloc (.cells #[.slice none 0 0] 26)) = W at *
  refine (ok_spec _ r1).mono ?_
  rintro e w1 ⟨rfl, k1⟩
  replace r1 := r1.kept k1 (by omega)
  replace r2 := r2.kept k1 (by omega)
  replace qf0 := k1.loose0 (World.block_lt_of_cell? _ _ q0) qf0
  replace p0 := k1.cell0 p0
  replace t0 := k1.cell0 t0
  replace q0 := k1.cell0 q0
  replace K := hide ((unhide K).trans k1)
  have z2 := k1.size
  clear k1
  cases ho1 : okB xs
  · have HO := hide ho1
    clear ho1
    have e0 : Hid ((okB xs && okB ys) = false) := by show _ = _; simp [unhide HO]
    have K' := hide ((unhide K).setNew (p := ⟨w.heap.size + 2, 0, none⟩) (by simp) (.slice none 0 0))
    clear r1 r2 K
    go_wp2_with fail
    exact bodyPost_ret (v := .agg #[.slice none 0 0]) (by simp [results, Try.results64, go_sem, q0]) rfl ⟨_, rfl, by rw [gcdL_no (unhide e0)]; exact Row.nil _ _ _ _ _, unhide K'⟩
  have HO1 := hide ho1
  clear ho1
  go_wp2_with fail
  refine (ok_spec _ r2).mono ?_
  rintro e w3 ⟨rfl, k3⟩
  replace r1 := r1.kept k3 (by omega)
  replace r2 := r2.kept k3 (by omega)
  replace qf0 := k3.loose0 (World.block_lt_of_cell? _ _ q0) qf0
  replace p0 := k3.cell0 p0
  replace t0 := k3.cell0 t0
  replace q0 := k3.cell0 q0
  replace K := hide ((unhide K).trans k3)
  have z4 := k3.size
  clear k3
  cases ho2 : okB ys
  · have HO := hide ho2
    clear ho2
    have e0 : Hid ((okB xs && okB ys) = false) := by show _ = _; simp [unhide HO]
    have K' := hide ((unhide K).setNew (p := ⟨w.heap.size + 2, 0, none⟩) (by simp) (.slice none 0 0))
    clear r1 r2 K
    go_wp2_with fail
    exact bodyPost_ret (v := .agg #[.slice none 0 0]) (by simp [results, Try.results64, go_sem, q0]) rfl ⟨_, rfl, by rw [gcdL_no (unhide e0)]; exact Row.nil _ _ _ _ _, unhide K'⟩
  have HO2 := hide ho2
  clear ho2
  obtain ⟨lx, hx⟩ := (okB_iff xs).1 (unhide HO1)
  obtain ⟨ly, hy⟩ := (okB_iff ys).1 (unhide HO2)
  obtain ⟨zg, hzg⟩ : ∃ z, gcdL xs ys = z := ⟨_, rfl⟩
  have lg := gcdL_len xs ys
  rw [hzg] at lg
  have EG : Hid (limbs (Nat.gcd (val xs).toNat (val ys).toNat) = zg) := by show _ = _; rw [← hzg, gcdL_yes (unhide HO1) (unhide HO2)]
  have HZ := hide hzg
  clear hzg
  go_wp2_with fail
  have mk := gcd_spec w3 r1 r2 hx hy (by omega) (by omega)
  rw [unhide EG] at mk
  refine (mk).mono ?_
  rintro e w5 ⟨v3, rfl, r3, k5⟩
  replace r1 := r1.kept k5 (by omega)
  replace r2 := r2.kept k5 (by omega)
  replace qf0 := k5.loose0 (World.block_lt_of_cell? _ _ q0) qf0
  replace p0 := k5.cell0 p0
  replace t0 := k5.cell0 t0
  replace q0 := k5.cell0 q0
  replace K := hide ((unhide K).trans k5)
  have z6 := k5.size
  clear k5
  clear mk
  obtain ⟨a3, c3, hv⟩ := Row.form' r3
  subst hv
  have R := hide (((r3.set_other (p := ⟨w.heap.size + 2, 0, none⟩) (.inl (by have := unhide S0; dsimp only; omega)) (.slice a3 zg.length c3))).tight.wider (lo' := w.heap.size) (by have := unhide S0; omega) (Nat.le_refl _))
  have K7 := hide ((unhide K).setNew (p := ⟨w.heap.size + 2, 0, none⟩) (by simp) (.slice a3 zg.length c3))
  clear r1 r2 r3 K
  go_wp2_with fail
  exact bodyPost_ret (v := .agg #[.slice a3 zg.length c3]) (by simp [results, Try.results64, go_sem, q0]) rfl ⟨_, rfl, by rw [unhide HZ]; exact unhide R, unhide K7⟩

/-- What the rounds of the program's commonDivisor keep. -/
structure GcdI (S : Nat → Prop) (wb w0 wr : World) (A C R G : Nat) (u1 u2 : Value) (zs ts : List Int) : Prop where
  two : Two w0 wr A C u1 u2 zs ts
  cR : wr.cell? ⟨R, 0, none⟩ = some (.slice none 0 0)
  fR : wr.frozen? ⟨R, 0, none⟩ = false
  oR1 : u1.ownBlock ≠ some R
  oR2 : u2.ownBlock ≠ some R
  n1 : Nrm zs
  n2 : Nrm ts
  l1 : zs.length ≤ 40000
  l2 : ts.length ≤ 40000
  g : Nat.gcd (val zs).toNat (val ts).toNat = G
  md : Mod S wb wr
  s1 : ∀ k, u1.ownBlock = some k → S k ∨ wb.heap.size ≤ k
  s2 : ∀ k, u2.ownBlock = some k → S k ∨ wb.heap.size ≤ k

theorem GcdI.step {S : Nat → Prop} {wb w0 wr w' : World} {A C R G : Nat} {u1 u2 vq : Value} {zs ts qs : List Int} (h : GcdI S wb w0 wr A C R G u1 u2 zs ts) (hRA : R ≠ A) (hRC : R ≠ C) (h0 : 0 < val ts) (hA : wb.heap.size ≤ A) (hC : wb.heap.size ≤ C)
    (d : Divd w0.heap.size wr w' A u1 vq qs (limbs (val zs % val ts).toNat)) : ∃ u, w'.cell? ⟨A, 0, none⟩ = some u ∧ w'.frozen? ⟨A, 0, none⟩ = false ∧ w'.cell? ⟨C, 0, none⟩ = some u2 ∧ w'.frozen? ⟨C, 0, none⟩ = false ∧ (∃ a n c, u = .slice a n c) ∧
      GcdI S wb w0 ((w'.setCell ⟨A, 0, none⟩ u2).setCell ⟨C, 0, none⟩ u) A C R G u2 u ts (limbs (val zs % val ts).toNat) ∧ valAt ((w'.setCell ⟨A, 0, none⟩ u2).setCell ⟨C, 0, none⟩ u) C < valAt wr C := by
  obtain ⟨t, cR, fR, oR1, oR2, n1, n2, l1, l2, g, mS, s1, s2⟩ := h
  obtain ⟨dq, ⟨u, nu, -, ou⟩, md⟩ := d
  have lC := t.n2.lt
  have lA := t.n1.lt
  have nC := t.n2.mod md (fun e => e.elim (fun h => t.ne h.symm) (fun h => t.o12 h)) (fun i e e' => e'.elim (fun h => t.o21 (by rw [e, h])) (fun h => t.oo i h e))
  have lR := World.block_lt_of_cell? _ _ cR
  have nR : ¬ Own1 A u1 R := fun e => e.elim hRA oR1
  have k6 := t.k.mod md (fun i e => e.elim (fun h => by rw [h]; exact t.b1) (fun h => (t.n1.own.lt i h).1))
  have hm0 := Int.emod_nonneg (val zs) (show val ts ≠ 0 by omega)
  have hm1 := Int.emod_lt_of_pos (val zs) h0
  have huC : u.ownBlock ≠ some C := fun e => (ou C e).elim t.o12 (fun h => by omega)
  have huR : u.ownBlock ≠ some R := fun e => (ou R e).elim oR1 (fun h => by dsimp only at lR; omega)
  have hoo : ∀ k, u2.ownBlock = some k → u.ownBlock ≠ some k := fun k e1 e2 => (ou k e2).elim (fun h => t.oo k h e1) (fun h => by have := (t.n2.own.lt k e1).2; omega)
  have T := two_set k6 nC.own nu.own nu.cell nu.loose nC.cell nC.loose t.ne t.b1 t.b2 (Nat.le_refl _) (Nat.le_refl _) t.o21 nC.apart nu.apart huC hoo
  have vr := limbs_val (val zs % val ts).toNat
  refine ⟨u, nu.cell, nu.loose, nC.cell, nC.loose, (by obtain ⟨a, c, e⟩ := nu.form; exact ⟨a, _, c, e⟩), ⟨T, ?_, ?_, oR2, huR, n2, limbs_nrm _, l2, ?_, ?_, ((mS.then md (fun i e => e.elim (fun h => .inr (by omega)) (s1 i))).set (p := ⟨A, 0, none⟩) (.inr hA) _).set (p := ⟨C, 0, none⟩) (.inr hC) _, s2, fun k e => (ou k e).elim (s1 k) (fun h => .inr (by have := mS.size; omega))⟩, ?_⟩
  · exact cell_aside _ (fun e => hRC e.symm) (cell_aside _ (fun e => hRA e.symm) (md.cellAt nR cR))
  · rw [frozen_set, frozen_set]; exact md.looseAt nR lR fR
  · have e : (val zs % val ts).toNat ≤ (val ts).toNat := by omega
    have := limbs_len_mono e
    rw [← nrm_limbs n2] at this
    omega
  · rw [vr, Int.toNat_natCast, gcd_step (val_nonneg n1.1) h0]
    exact g
  · rw [valAt_of T.n2.cell T.n2.row, valAt_of t.n2.cell t.n2.row, vr]
    omega

set_option maxHeartbeats 4000000 in
theorem commonDivisor_impl {b1 b2 : Nat} {v1 v2 : Value} {xs ys : List Int} {w0 : World} (w : World) (k0 : Kept 0 0 w0 w) (O1 : w.ownsRow b1 3 1 v1 xs.length (xs.map (Value.int .i64))) (O2 : w.ownsRow b2 3 1 v2 ys.length (ys.map (Value.int .i64))) (hb1 : w0.heap.size ≤ b1) (hb2 : w0.heap.size ≤ b2)
    (hoo : ∀ k, v1.ownBlock = some k → v2.ownBlock ≠ some k) (hx : Nrm xs) (hy : Nrm ys) (nx : xs.length ≤ 40000) (ny : ys.length ≤ 40000) :
    Calls Try.prog 103 #[.agg #[v1], .agg #[v2]] w fun e w' => ∃ v', e = .returned (.agg #[v']) ∧ w'.ownsRow w0.heap.size 3 1 v' (limbs (Nat.gcd (val xs).toNat (val ys).toNat)).length ((limbs (Nat.gcd (val xs).toNat (val ys).toNat)).map (Value.int .i64)) ∧ (∀ k, v'.ownBlock = some k → (v1.ownBlock = some k ∨ v2.ownBlock = some k) ∨ w.heap.size ≤ k) ∧ Mod (fun i => v1.ownBlock = some i ∨ v2.ownBlock = some i) w w' := by
  have k1 := (((Kept.refl 0 0 w).alloc (.cells #[v1] 76)).alloc (.cells #[v2] 76)).alloc (.cells #[.slice none 0 0] 76)
  have t0 := (two_both k0 O1 O2 76 76 hb1 hb2 hoo).kept ((Kept.refl 0 0 _).alloc (.cells #[.slice none 0 0] 76))
  have q0 : (((w.alloc (.cells #[v1] 76)).alloc (.cells #[v2] 76)).alloc (.cells #[.slice none 0 0] 76)).cell? ⟨w.heap.size + 2, 0, none⟩ = some (.slice none 0 0) := new_cell2 _ _ _ _ _ _ (by simp) rfl
  have f0 : (((w.alloc (.cells #[v1] 76)).alloc (.cells #[v2] 76)).alloc (.cells #[.slice none 0 0] 76)).frozen? ⟨w.heap.size + 2, 0, none⟩ = false := new_loose2 _ _ _ _ _ (by simp)
  have hs1 := k0.size
  have g0 : Hid (GcdI (fun i => v1.ownBlock = some i ∨ v2.ownBlock = some i) w w0 (((w.alloc (.cells #[v1] 76)).alloc (.cells #[v2] 76)).alloc (.cells #[.slice none 0 0] 76)) w.heap.size (w.heap.size + 1) (w.heap.size + 2) (Nat.gcd (val xs).toNat (val ys).toNat) v1 v2 xs ys) := GcdI.mk t0 q0 f0 (fun e => by have := (O1.lt _ e).2; omega) (fun e => by have := (O2.lt _ e).2; omega) hx hy nx ny rfl k1.toMod (fun k e => .inl (.inl e)) (fun k e => .inl (.inr e))
  obtain ⟨a1, c1, hv⟩ := own_slice O1
  subst hv
  obtain ⟨a2, c2, hv⟩ := own_slice O2
  subst hv
  clear t0 q0 f0 k1
  generalize Nat.gcd (val xs).toNat (val ys).toNat = G at *
  go_enter Try.func103, Try.ntmps103
  go_wp2_with fail
  generalize ((w.alloc (.cells #[.slice a1 xs.length c1] 76)).alloc (.cells #[.slice a2 ys.length c2] 76)).alloc (.cells #[.slice none 0 0] 76) = W at *
  go_loopw [] (fun wr => ∃ u1 u2 zs ts, GcdI (fun i => (Value.slice a1 xs.length c1).ownBlock = some i ∨ (Value.slice a2 ys.length c2).ownBlock = some i) w w0 wr w.heap.size (w.heap.size + 1) (w.heap.size + 2) G u1 u2 zs ts) (fun wr => valAt wr (w.heap.size + 1))
  case atStart => exact ⟨_, _, _, _, unhide g0⟩
  case round =>
    clear g0
    obtain ⟨u1, u2, zs, ts, gc⟩ := hrel
    have hz := isZero_impl _ gc.two.n2
    by_cases hl : ts.length = 0
    · rw [decide_eq_true hl] at hz
      have ht : ts = [] := List.length_eq_zero_iff.1 hl
      have hG := gc.g
      rw [ht, show (val []).toNat = 0 from rfl, Nat.gcd_zero_right] at hG
      have hzl := nrm_limbs gc.n1
      rw [hG] at hzl
      have n1 := gc.two.n1
      have cA := n1.cell
      have cR := gc.cR
      have fR := gc.fR
      have O := hide (own_apart n1.own (p := ⟨w.heap.size + 2, 0, none⟩) gc.oR1 u1)
      have SS := hide gc.s1
      have MD := hide (gc.md.set (p := ⟨w.heap.size + 2, 0, none⟩) (.inr (by dsimp only; omega)) u1)
      rw [hzl] at O
      obtain ⟨a3, c3, hv⟩ := n1.form
      subst hv
      have HZ := hide hz
      clear n1 gc hz ht hG hl hzl
      go_wp2_with (go_at_call 149; refine (unhide HZ).mono ?_; rintro e w' ⟨rfl, rfl⟩)
      exact bodyPost_ret (v := .agg #[.slice a3 zs.length c3]) (by simp [results, Try.results103, go_sem, cR]) rfl ⟨_, rfl, unhide O, unhide SS, unhide MD⟩
    · rw [decide_eq_false hl] at hz
      have hts : ts ≠ [] := fun e => hl (by rw [e]; rfl)
      have h0 : 0 < val ts := by
        have e1 := nrm_pow gc.n2 hts
        have : (0 : Int) < 65536 ^ (ts.length - 1) := Int.pow_pos (by decide)
        omega
      have hdv := divide_impl _ gc.two.n1 gc.two.n2 gc.two.k.size gc.n1 gc.n2 hts gc.l1 gc.l2
      have GC := hide gc
      have HZ := hide hz
      clear gc hz
      go_wp2_with (go_at_call 149; refine (unhide HZ).mono ?_; rintro e w' ⟨rfl, rfl⟩)
      refine hdv.mono ?_
      rintro e w3 ⟨vq, rfl, d⟩
      obtain ⟨u, cA, fA, cC, fC, ⟨a5, n5, c5, hu⟩, gs, hms⟩ := (unhide GC).step (by omega) (by omega) h0 (by omega) (by omega) d
      subst hu
      obtain ⟨a6, c6, hu⟩ := (unhide GC).two.n2.form
      subst hu
      have GS := hide gs
      have HMS := hide hms
      clear gs hms d hdv
      go_wp2_with fail
      go_roundw
      case rel => exact ⟨_, _, _, _, unhide GS⟩
      case measure => exact unhide HMS

end Go.Proofs.Ytdhponfpikclhaa
