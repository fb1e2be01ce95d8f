/-
  Contracts of the model's greatest common divisor.
-/
import Derived.Test.YtdhponfpikclhaaIDiv6
import Derived.Deep.DeepCutAuto
namespace Go.Proofs.Ytdhponfpikclhaa
open Go.RowKit
set_option linter.unusedVariables false
set_option maxRecDepth 8000
set_option linter.unusedSimpArgs false

/-- The integers of a slice, read from memory. -/
def readL (w : World) (v : Value) : List Int := match v with
  | .slice (some a) n _ => (List.range n).map fun j => match w.cell? ⟨a.block, a.off + j, none⟩ with
    | some (.int _ z) => z
    | _ => 0
  | _ => []
theorem readL_of {bw : Bool} {lo hi : Nat} {w : World} {v : Value} {zs : List Int} (r : Row .i64 bw lo hi w v zs) : readL w v = zs := by
  obtain ⟨a, c, rfl⟩ := Row.form' r
  have hc := (row_cell r).2.2.2
  cases a with
  | none =>
    cases zs with
    | nil => rfl
    | cons z t => obtain ⟨g, off, e, -⟩ := hc 0 (by simp); cases e
  | some ad =>
    have : ∀ j, j < zs.length → w.cell? ⟨ad.block, ad.off + j, none⟩ = some (.int .i64 (zs.getD j 0)) := by
      intro j hj
      obtain ⟨g, off, e, h⟩ := hc j hj
      cases e
      exact h
    unfold readL
    apply List.ext_getElem
    · simp
    · intro j h1 h2
      rw [List.getElem_map, List.getElem_range, this j h2]
      simp [List.getD, h2]
/-- The number whose limbs the cell g's list holds. -/
def valAt (w : World) (g : Nat) : Nat := match w.cell? ⟨g, 0, none⟩ with
  | some v => (val (readL w v)).toNat
  | none => 0
theorem valAt_of {bw : Bool} {lo hi g : Nat} {w : World} {v : Value} {zs : List Int} (hc : w.cell? ⟨g, 0, none⟩ = some v) (r : Row .i64 bw lo hi w v zs) : valAt w g = (val zs).toNat := by
  unfold valAt
  rw [hc]
  show (val (readL w v)).toNat = _
  rw [readL_of r]
theorem gcd_step {X Y : Int} (hX : 0 ≤ X) (hY : 0 < Y) : Nat.gcd Y.toNat (X % Y).toNat = Nat.gcd X.toNat Y.toNat := by
  obtain ⟨x, rfl⟩ : ∃ x : Nat, X = (x : Int) := ⟨X.toNat, by omega⟩
  obtain ⟨y, rfl⟩ : ∃ y : Nat, Y = (y : Int) := ⟨Y.toNat, by omega⟩
  rw [← Int.natCast_emod, Int.toNat_natCast, Int.toNat_natCast, Int.toNat_natCast, Nat.gcd_comm y, ← Nat.gcd_rec, Nat.gcd_comm]
/-- A list that lies outside three blocks. -/
def RowOut (R : Nat) (w : World) (v : Value) (zs : List Int) : Prop := ∃ l h, (h ≤ R ∨ R + 3 ≤ l) ∧ Row .i64 false l h w v zs
/-- What the common divisor's rounds keep. -/
structure Gcd (R : Nat) (w wr : World) (G : Nat) (u1 u2 : Value) (zs ts : List Int) : Prop where
  c1 : wr.cell? ⟨R, 0, none⟩ = some u1
  f1 : wr.frozen? ⟨R, 0, none⟩ = false
  c2 : wr.cell? ⟨R + 1, 0, none⟩ = some u2
  f2 : wr.frozen? ⟨R + 1, 0, none⟩ = false
  c3 : wr.cell? ⟨R + 2, 0, none⟩ = some (.slice none 0 0)
  f3 : wr.frozen? ⟨R + 2, 0, none⟩ = false
  r1 : RowOut R wr u1 zs
  r2 : RowOut R wr u2 ts
  n1 : Nrm zs
  n2 : Nrm ts
  l1 : zs.length ≤ 50000
  l2 : ts.length ≤ 50000
  g : Nat.gcd (val zs).toNat (val ts).toNat = G
  k : Kept 0 0 w wr

set_option maxHeartbeats 4000000 in
theorem gcd_spec {b1 b2 : Bool} {l1 h1 l2 h2 : Nat} {v1 v2 : Value} {xs ys : List Int} (w : World) (r1 : Row .i64 b1 l1 h1 w v1 xs) (r2 : Row .i64 b2 l2 h2 w v2 ys) (hx : Nrm xs) (hy : Nrm ys) (nx : xs.length ≤ 50000) (ny : ys.length ≤ 50000) :
    Calls Try.prog 124 #[.agg #[v1], .agg #[v2]] w fun e w' => ∃ v', e = .returned (.agg #[v']) ∧ Row .i64 true w.heap.size w'.heap.size w' v' (limbs (Nat.gcd (val xs).toNat (val ys).toNat)) ∧ Kept 0 0 w w' := by
  replace r1 := r1.read.tight
  replace r2 := r2.read.tight
  obtain ⟨G, hG⟩ : ∃ G, Nat.gcd (val xs).toNat (val ys).toNat = G := ⟨_, rfl⟩
  rw [hG]
  have k0 : Kept 0 0 w (((w.alloc (.cells #[v1] 26)).alloc (.cells #[v2] 26)).alloc (.cells #[.slice none 0 0] 26)) := ((((Kept.refl 0 0 w).alloc (.cells #[v1] 26)).alloc (.cells #[v2] 26)).alloc (.cells #[.slice none 0 0] 26))
  have p0 : (((w.alloc (.cells #[v1] 26)).alloc (.cells #[v2] 26)).alloc (.cells #[.slice none 0 0] 26)).cell? ⟨w.heap.size, 0, none⟩ = some (v1) := old_cell _ (old_cell _ (new_cell2 _ _ _ _ _ _ (by simp) rfl))
  have pf0 : (((w.alloc (.cells #[v1] 26)).alloc (.cells #[v2] 26)).alloc (.cells #[.slice none 0 0] 26)).frozen? ⟨w.heap.size, 0, none⟩ = false := loose_old (by simp <;> omega) (loose_old (by simp <;> omega) (new_loose2 _ _ _ _ _ (by simp)))
  have t0 : (((w.alloc (.cells #[v1] 26)).alloc (.cells #[v2] 26)).alloc (.cells #[.slice none 0 0] 26)).cell? ⟨w.heap.size + 1, 0, none⟩ = some (v2) := old_cell _ (new_cell2 _ _ _ _ _ _ (by simp) rfl)
  have tf0 : (((w.alloc (.cells #[v1] 26)).alloc (.cells #[v2] 26)).alloc (.cells #[.slice none 0 0] 26)).frozen? ⟨w.heap.size + 1, 0, none⟩ = false := loose_old (by simp <;> omega) (new_loose2 _ _ _ _ _ (by simp))
  have q0 : (((w.alloc (.cells #[v1] 26)).alloc (.cells #[v2] 26)).alloc (.cells #[.slice none 0 0] 26)).cell? ⟨w.heap.size + 2, 0, none⟩ = some (.slice none 0 0) := new_cell2 _ _ _ _ _ _ (by simp) rfl
  have qf0 : (((w.alloc (.cells #[v1] 26)).alloc (.cells #[v2] 26)).alloc (.cells #[.slice none 0 0] 26)).frozen? ⟨w.heap.size + 2, 0, none⟩ = false := new_loose2 _ _ _ _ _ (by simp)
  replace r1 := r1.kept k0 (by omega)
  replace r2 := r2.kept k0 (by omega)
  have s0 : (((w.alloc (.cells #[v1] 26)).alloc (.cells #[v2] 26)).alloc (.cells #[.slice none 0 0] 26)).heap.size = w.heap.size + 3 := by simp
  obtain ⟨a1, c1, hv⟩ := Row.form' r1
  subst hv
  obtain ⟨a2, c2, hv⟩ := Row.form' r2
  subst hv
  have K := hide (k0)
  clear k0
  have S0 := hide s0
  clear s0
  have G0 : Hid (Gcd w.heap.size w (((w.alloc (.cells #[.slice a1 xs.length c1] 26)).alloc (.cells #[.slice a2 ys.length c2] 26)).alloc (.cells #[.slice none 0 0] 26)) G (.slice a1 xs.length c1) (.slice a2 ys.length c2) xs ys) := Gcd.mk p0 pf0 t0 tf0 q0 qf0 ⟨_, _, .inl (Nat.le_refl _), r1⟩ ⟨_, _, .inl (Nat.le_refl _), r2⟩ hx hy nx ny hG (unhide K)
  clear hG
  go_enter Try.func124, Try.ntmps124
  go_wp2_with fail
  generalize (((w.alloc (.cells #[.slice a1 xs.length c1] 26)).alloc (.cells #[.slice a2 ys.length c2] 26)).alloc (.cells #[.slice none 0 0] 26)) = W at *
  clear r1 r2 p0 pf0 t0 tf0 q0 qf0 K
  go_loopw [] (fun wr => ∃ u1 u2 zs ts, Gcd w.heap.size w wr G u1 u2 zs ts ∧ w.heap.size + 3 ≤ wr.heap.size) (fun wr => valAt wr (w.heap.size + 1))
  case atStart => exact ⟨_, _, _, _, unhide G0, by have := unhide S0; omega⟩
  case round =>
    clear G0
    obtain ⟨u1, u2, zs, ts, gc, hsz⟩ := hrel
    obtain ⟨p0, pf0, t0, tf0, q0, qf0, ⟨l1, h1, o1, r1⟩, ⟨l2, h2, o2, r2⟩, n1, n2, m1, m2, hg, k0⟩ := gc
    have K := hide k0
    clear k0
    have hv := valAt_of t0 r2
    have HV := hide hv
    clear hv
    have hg0 := hide hg
    clear hg
    obtain ⟨a1', c1', hv⟩ := Row.form' r1
    subst hv
    obtain ⟨a2', c2', hv⟩ := Row.form' r2
    subst hv
    by_cases hl0 : 0 < ts.length
    · have hli : (0 : Int) < (ts.length : Int) := by omega
      have h0 : 0 < val ts := by
        have e1 := nrm_pow n2 (List.length_pos_iff.1 hl0)
        have : (0 : Int) < 65536 ^ (ts.length - 1) := Int.pow_pos (by decide)
        omega
      have hx0 := val_nonneg n1.1
      have hm0 := Int.emod_nonneg (val zs) (show val ts ≠ 0 by omega)
      have hm1 := Int.emod_lt_of_pos (val zs) h0
      have hgs := hide (gcd_step hx0 h0)
      have nr := limbs_nrm (val zs % val ts).toNat
      have vr := limbs_val (val zs % val ts).toNat
      have lr : (limbs (val zs % val ts).toNat).length ≤ 50000 := by
        have e : (val zs % val ts).toNat ≤ (val ts).toNat := by omega
        have := limbs_len_mono e
        rw [← nrm_limbs n2] at this
        omega
      obtain ⟨rr, hrr⟩ : ∃ rr, limbs (val zs % val ts).toNat = rr := ⟨_, rfl⟩
      obtain ⟨qq, hqq⟩ : ∃ qq, limbs (val zs / val ts).toNat = qq := ⟨_, rfl⟩
      rw [hrr] at nr vr lr
      have HR := hide hrr
      have HQ := hide hqq
      clear hrr hqq
      go_wp2_with fail
      have mk := div_spec wr r1 r2 n1.1 n2 m1 m2 h0
      rw [unhide HR, unhide HQ] at mk
      refine (mk).mono ?_
      rintro e w1 ⟨v3, v4, rfl, r3, r4, k1⟩
      replace r1 := r1.kept k1 (by omega)
      replace r2 := r2.kept k1 (by omega)
      replace pf0 := k1.loose0 (World.block_lt_of_cell? _ _ p0) pf0
      replace tf0 := k1.loose0 (World.block_lt_of_cell? _ _ t0) tf0
      replace qf0 := k1.loose0 (World.block_lt_of_cell? _ _ q0) qf0
      replace p0 := k1.cell0 p0
      replace t0 := k1.cell0 t0
      replace q0 := k1.cell0 q0
      replace K := hide ((unhide K).trans k1)
      have z2 := k1.size
      clear k1
      clear mk
      obtain ⟨a3, c3, hv⟩ := Row.form' r3
      subst hv
      obtain ⟨a4, c4, hv⟩ := Row.form' r4
      subst hv
      clear r3 r1
      have kn := (Kept.refl 0 0 w1).alloc (.cells #[.slice a3 qq.length c3] 26)
      have m0 : (w1.alloc (.cells #[.slice a3 qq.length c3] 26)).cell? ⟨w1.heap.size, 0, none⟩ = some (.slice a3 qq.length c3) := new_cell2 _ _ _ _ _ _ (by simp) rfl
      have sz3 : w1.heap.size + 1 = (w1.alloc (.cells #[.slice a3 qq.length c3] 26)).heap.size := by simp
      have SZ3 := hide sz3
      replace sz3 := Nat.le_of_eq sz3
      replace r2 := r2.kept kn (by omega)
      replace r4 := r4.kept kn (by omega)
      replace pf0 := kn.loose0 (World.block_lt_of_cell? _ _ p0) pf0
      replace tf0 := kn.loose0 (World.block_lt_of_cell? _ _ t0) tf0
      replace qf0 := kn.loose0 (World.block_lt_of_cell? _ _ q0) qf0
      replace p0 := kn.cell0 p0
      replace t0 := kn.cell0 t0
      replace q0 := kn.cell0 q0
      replace K := hide ((unhide K).trans kn)
      have z4 := kn.size
      clear kn
      have kn := (Kept.refl 0 0 (w1.alloc (.cells #[.slice a3 qq.length c3] 26))).alloc (.cells #[.slice a4 rr.length c4] 26)
      have n0 : ((w1.alloc (.cells #[.slice a3 qq.length c3] 26)).alloc (.cells #[.slice a4 rr.length c4] 26)).cell? ⟨w1.heap.size + 1, 0, none⟩ = some (.slice a4 rr.length c4) := new_cell2 _ _ _ _ _ _ (by simp) rfl
      have sz5 : (w1.alloc (.cells #[.slice a3 qq.length c3] 26)).heap.size + 1 = ((w1.alloc (.cells #[.slice a3 qq.length c3] 26)).alloc (.cells #[.slice a4 rr.length c4] 26)).heap.size := by simp
      have SZ5 := hide sz5
      replace sz5 := Nat.le_of_eq sz5
      replace r2 := r2.kept kn (by omega)
      replace r4 := r4.kept kn (by omega)
      replace pf0 := kn.loose0 (World.block_lt_of_cell? _ _ p0) pf0
      replace tf0 := kn.loose0 (World.block_lt_of_cell? _ _ t0) tf0
      replace qf0 := kn.loose0 (World.block_lt_of_cell? _ _ q0) qf0
      replace p0 := kn.cell0 p0
      replace t0 := kn.cell0 t0
      replace q0 := kn.cell0 q0
      replace m0 := kn.cell0 m0
      replace K := hide ((unhide K).trans kn)
      have z6 := kn.size
      clear kn
      have hn1 : ¬ w1.heap.size + 1 = w.heap.size := by omega
      have hn2 : ¬ w1.heap.size = w.heap.size := by omega
      have hn3 : ¬ w.heap.size = w1.heap.size + 1 := by omega
      go_wp2_with fail
      generalize ((w1.alloc (.cells #[.slice a3 qq.length c3] 26)).alloc (.cells #[.slice a4 rr.length c4] 26)) = wn7 at *
      have sS0 := unhide S0
      replace r2 := r2.set_other (p := ⟨w.heap.size, 0, none⟩) (by dsimp only; omega) (.slice a2' ts.length c2')
      replace r4 := r4.set_other (p := ⟨w.heap.size, 0, none⟩) (by dsimp only; omega) (.slice a2' ts.length c2')
      replace t0 := cell_aside (.slice a2' ts.length c2') (r := ⟨w.heap.size, 0, none⟩) (by dsimp only; omega) t0
      replace q0 := cell_aside (.slice a2' ts.length c2') (r := ⟨w.heap.size, 0, none⟩) (by dsimp only; omega) q0
      replace m0 := cell_aside (.slice a2' ts.length c2') (r := ⟨w.heap.size, 0, none⟩) (by dsimp only; omega) m0
      replace n0 := cell_aside (.slice a2' ts.length c2') (r := ⟨w.heap.size, 0, none⟩) (by dsimp only; omega) n0
      replace pf0 : (wn7.setCell ⟨w.heap.size, 0, none⟩ (.slice a2' ts.length c2')).frozen? _ = false := (frozen_set _ _ _ _ _).trans pf0
      replace tf0 : (wn7.setCell ⟨w.heap.size, 0, none⟩ (.slice a2' ts.length c2')).frozen? _ = false := (frozen_set _ _ _ _ _).trans tf0
      replace qf0 : (wn7.setCell ⟨w.heap.size, 0, none⟩ (.slice a2' ts.length c2')).frozen? _ = false := (frozen_set _ _ _ _ _).trans qf0
      replace p0 : (wn7.setCell ⟨w.heap.size, 0, none⟩ (.slice a2' ts.length c2')).cell? ⟨w.heap.size, 0, none⟩ = some (.slice a2' ts.length c2') := cell_on _ _ _ _ _ p0
      replace K := hide ((unhide K).setNew (p := ⟨w.heap.size, 0, none⟩) (by dsimp only; omega) (.slice a2' ts.length c2'))
      have zs8 : (wn7.setCell ⟨w.heap.size, 0, none⟩ (.slice a2' ts.length c2')).heap.size = wn7.heap.size := by simp [World.setCell]
      clear sS0
      generalize wn7.setCell ⟨w.heap.size, 0, none⟩ (.slice a2' ts.length c2') = ws8 at *
      have sS0 := unhide S0
      replace r2 := r2.set_other (p := ⟨w.heap.size + 1, 0, none⟩) (by dsimp only; omega) (.slice a4 rr.length c4)
      replace r4 := r4.set_other (p := ⟨w.heap.size + 1, 0, none⟩) (by dsimp only; omega) (.slice a4 rr.length c4)
      replace p0 := cell_aside (.slice a4 rr.length c4) (r := ⟨w.heap.size + 1, 0, none⟩) (by dsimp only; omega) p0
      replace q0 := cell_aside (.slice a4 rr.length c4) (r := ⟨w.heap.size + 1, 0, none⟩) (by dsimp only; omega) q0
      replace m0 := cell_aside (.slice a4 rr.length c4) (r := ⟨w.heap.size + 1, 0, none⟩) (by dsimp only; omega) m0
      replace n0 := cell_aside (.slice a4 rr.length c4) (r := ⟨w.heap.size + 1, 0, none⟩) (by dsimp only; omega) n0
      replace pf0 : (ws8.setCell ⟨w.heap.size + 1, 0, none⟩ (.slice a4 rr.length c4)).frozen? _ = false := (frozen_set _ _ _ _ _).trans pf0
      replace tf0 : (ws8.setCell ⟨w.heap.size + 1, 0, none⟩ (.slice a4 rr.length c4)).frozen? _ = false := (frozen_set _ _ _ _ _).trans tf0
      replace qf0 : (ws8.setCell ⟨w.heap.size + 1, 0, none⟩ (.slice a4 rr.length c4)).frozen? _ = false := (frozen_set _ _ _ _ _).trans qf0
      replace t0 : (ws8.setCell ⟨w.heap.size + 1, 0, none⟩ (.slice a4 rr.length c4)).cell? ⟨w.heap.size + 1, 0, none⟩ = some (.slice a4 rr.length c4) := cell_on _ _ _ _ _ t0
      replace K := hide ((unhide K).setNew (p := ⟨w.heap.size + 1, 0, none⟩) (by dsimp only; omega) (.slice a4 rr.length c4))
      have zs9 : (ws8.setCell ⟨w.heap.size + 1, 0, none⟩ (.slice a4 rr.length c4)).heap.size = ws8.heap.size := by simp [World.setCell]
      clear sS0
      generalize ws8.setCell ⟨w.heap.size + 1, 0, none⟩ (.slice a4 rr.length c4) = ws9 at *
      refine ⟨⟨_, _, ts, rr, ⟨p0, pf0, t0, tf0, q0, qf0, ⟨_, _, o2, r2⟩, ⟨_, _, .inr hsz, r4.read⟩, n2, nr, m2, lr, by rw [vr, Int.toNat_natCast, unhide hgs]; exact unhide hg0, unhide K⟩, by omega⟩, ?_⟩
      rw [valAt_of t0 r4, unhide HV, vr]
      omega
    · have hli : ¬ (0 : Int) < (ts.length : Int) := by omega
      have ht : ts = [] := List.length_eq_zero_iff.1 (by omega)
      have hGv : Hid (limbs (val zs).toNat = limbs G) := by
        show _ = _
        have := unhide hg0
        rw [ht] at this
        rw [← this, show (val []).toNat = 0 from rfl, Nat.gcd_zero_right]
      clear ht
      go_wp2_with fail
      have mk := norm_spec wr r1 n1.1 (by omega)
      rw [unhide hGv] at mk
      refine (mk).mono ?_
      rintro e w1 ⟨v3, rfl, r3, k1⟩
      replace r1 := r1.kept k1 (by omega)
      replace r2 := r2.kept k1 (by omega)
      replace pf0 := k1.loose0 (World.block_lt_of_cell? _ _ p0) pf0
      replace tf0 := k1.loose0 (World.block_lt_of_cell? _ _ t0) tf0
      replace qf0 := k1.loose0 (World.block_lt_of_cell? _ _ q0) qf0
      replace p0 := k1.cell0 p0
      replace t0 := k1.cell0 t0
      replace q0 := k1.cell0 q0
      replace K := hide ((unhide K).trans k1)
      have z2 := k1.size
      clear k1
      clear mk
      obtain ⟨zg, hzg⟩ : ∃ zg, limbs G = zg := ⟨_, rfl⟩
      rw [hzg] at r3
      have HG := hide hzg
      clear hzg
      obtain ⟨a3, c3, hv⟩ := Row.form' r3
      subst hv
      have R := hide (((r3.set_other (p := ⟨w.heap.size + 2, 0, none⟩) (.inl (by dsimp only; omega)) (.slice a3 zg.length c3))).tight.wider (lo' := w.heap.size) (by omega) (Nat.le_refl _))
      have K7 := hide ((unhide K).setNew (p := ⟨w.heap.size + 2, 0, none⟩) (by simp) (.slice a3 zg.length c3))
      clear r1 r2 r3 K
      go_wp2_with fail
      exact bodyPost_ret (v := .agg #[.slice a3 zg.length c3]) (by simp [results, Try.results124, go_sem, q0]) rfl ⟨_, rfl, by rw [unhide HG]; exact unhide R, unhide K7⟩

end Go.Proofs.Ytdhponfpikclhaa
