/-
  Dyadic numbers: the program's multiplyDyadic and addDyadic.
-/
import Derived.Test.YtgoncjcnakkaoaaGreatDoorDy10
import Derived.Deep.DeepCutAuto
namespace Go.Proofs.YtgoncjcnakkaoaaGreatDoor
open Go.RowKit
set_option linter.unusedVariables false
set_option maxRecDepth 8000
set_option linter.unusedSimpArgs false

theorem in_addSigned : ∀ (w : World) (args : Array Value), (callFunc 126 args).run Tryz.prog w = .ok (.enter 126 args) w := enters Tryz.func126 (by decide) (fun h => by cases h)

theorem shl_val (s : Bool) {zs : List Int} (h : Nrm zs) (k : Nat) : wval s (limbs ((val zs).toNat * 2 ^ k)) = wval s zs * 2 ^ k := by
  rw [wval_limbs]
  have h0 := val_nonneg h.1
  have hc : (((val zs).toNat * 2 ^ k : Nat) : Int) = val zs * 2 ^ k := by rw [Int.natCast_mul, Int.toNat_of_nonneg h0]; simp
  rw [hc]
  unfold wval
  cases s
  · rfl
  · simp [Int.neg_mul]
theorem nrm_len {s : Bool} {zs : List Int} (h : Nrm zs) {A n : Nat} (hv : (wval s zs).natAbs < 2 ^ A) (hn : A ≤ 16 * n) : zs.length ≤ n := by
  have := wlm_len hv hn
  unfold wlm at this
  rw [wval_abs h.1, ← nrm_limbs h] at this
  exact this

set_option maxHeartbeats 4000000 in
theorem addDyadic_wide {w0 w : World} {g1 g2 : Nat} {s1 s2 : Bool} {xs ys : List Int} {x1 x2 : Int} (S : Dya2 w0 w g1 g2 s1 xs x1 s2 ys x2) (hx : Nrm xs) (hy : Nrm ys) (nx : xs.length ≤ 3000) (ny : ys.length ≤ 3000) (f1 : -40000 ≤ x1) (f2 : x1 ≤ 40000) (f3 : -40000 ≤ x2) (f4 : x2 ≤ 40000) :
    Calls Tryz.prog 125 #[.pointer (some ⟨g1, 0, none⟩), .pointer (some ⟨g2, 0, none⟩)] w fun e w' => (∃ r, e = .returned r) ∧ ∃ u s zs, Num w0.heap.size w' g1 u zs ∧ Sd w' g1 s ∧ Ex w' g1 (min x1 x2) ∧ Nrm zs ∧ wval s zs = wval s1 xs * 2 ^ (x1 - min x1 x2).toNat + wval s2 ys * 2 ^ (x2 - min x1 x2).toNat ∧ Kept 0 0 w0 w' := by
  go_enter Tryz.func125, Tryz.ntmps125
  go_wp2_with fail
  refine (align_wide S hx hy (by omega) (by omega) f1 f2 f3 f4).mono ?_
  rintro e w2 ⟨⟨r2, rfl⟩, S2⟩
  have h1 := limbs_nrm ((val xs).toNat * 2 ^ (x1 - min x1 x2).toNat)
  have h2 := limbs_nrm ((val ys).toNat * 2 ^ (x2 - min x1 x2).toNat)
  have q1 := limbs_shl_lenW hx nx (x1 - min x1 x2).toNat (by omega)
  have q2 := limbs_shl_lenW hy ny (x2 - min x1 x2).toNat (by omega)
  have z1 := shl_val s1 hx (x1 - min x1 x2).toNat
  have z2 := shl_val s2 hy (x2 - min x1 x2).toNat
  generalize limbs ((val xs).toNat * 2 ^ (x1 - min x1 x2).toNat) = L1 at *
  generalize limbs ((val ys).toNat * 2 ^ (x2 - min x1 x2).toNat) = L2 at *
  have HAS := hide (addSigned_tail (S2.sg.kept (Kept.refl 0 0 w2).drew) h1 h2 (by omega) (by omega))
  have E2 := hide S2.e1
  clear S S2
  go_wp2_with fail
  refine wp_region_held_drew (S := (fun _ => True)) (by kernel_rfl) ?_ (fun hHeld => ?_)
  · trivial
  refine wpAnyH_take (i := 0) (oi := _) (v := .pointer (some ⟨g1, 0, none⟩)) rfl (by kernel_rfl) (by kernel_rfl) (by kernel_rfl) (fun _ _ _ h => h) (Or.inl ⟨by rfl, ?_⟩) hHeld ?_
  · intro wq hSw
    try dsimp only at hSw
    go_simp
  try simp only [Act.put, List.getElem_toArray, List.getElem_cons_succ, List.getElem_cons_zero, List.setIfInBounds_toArray, List.set_cons_zero, List.set_cons_succ]
  refine wpAnyH_take (i := 1) (oi := _) (v := .pointer (some ⟨g1, 0, none⟩)) rfl (by kernel_rfl) (by kernel_rfl) (by kernel_rfl) (fun _ _ _ h => h) (Or.inl ⟨by rfl, ?_⟩) hHeld ?_
  · intro wq hSw
    try dsimp only at hSw
    go_simp
  try simp only [Act.put, List.getElem_toArray, List.getElem_cons_succ, List.getElem_cons_zero, List.setIfInBounds_toArray, List.set_cons_zero, List.set_cons_succ]
  refine wpAnyH_take (i := 2) (oi := _) (v := .pointer (some ⟨g1, 0, none⟩)) rfl (by kernel_rfl) (by kernel_rfl) (by kernel_rfl) (fun _ _ _ h => h) (Or.inl ⟨by rfl, ?_⟩) hHeld ?_
  · intro wq hSw
    try dsimp only at hSw
    go_simp
  try simp only [Act.put, List.getElem_toArray, List.getElem_cons_succ, List.getElem_cons_zero, List.setIfInBounds_toArray, List.set_cons_zero, List.set_cons_succ]
  refine wpAnyH_take (i := 3) (oi := _) (v := .pointer (some ⟨g2, 0, none⟩)) rfl (by kernel_rfl) (by kernel_rfl) (by kernel_rfl) (fun _ _ _ h => h) (Or.inl ⟨by rfl, ?_⟩) hHeld ?_
  · intro wq hSw
    try dsimp only at hSw
    go_simp
  try simp only [Act.put, List.getElem_toArray, List.getElem_cons_succ, List.getElem_cons_zero, List.setIfInBounds_toArray, List.set_cons_zero, List.set_cons_succ]
  refine wpAnyH_take (i := 4) (oi := _) (v := .pointer (some ⟨g2, 0, none⟩)) rfl (by kernel_rfl) (by kernel_rfl) (by kernel_rfl) (fun _ _ _ h => h) (Or.inl ⟨by rfl, ?_⟩) hHeld ?_
  · intro wq hSw
    try dsimp only at hSw
    go_simp
  try simp only [Act.put, List.getElem_toArray, List.getElem_cons_succ, List.getElem_cons_zero, List.setIfInBounds_toArray, List.set_cons_zero, List.set_cons_succ]
  refine wpAnyH_take (i := 5) (oi := _) (v := .pointer (some ⟨g2, 0, none⟩)) rfl (by kernel_rfl) (by kernel_rfl) (by kernel_rfl) (fun _ _ _ h => h) (Or.inl ⟨by rfl, ?_⟩) hHeld ?_
  · intro wq hSw
    try dsimp only at hSw
    go_simp
  try simp only [Act.put, List.getElem_toArray, List.getElem_cons_succ, List.getElem_cons_zero, List.setIfInBounds_toArray, List.set_cons_zero, List.set_cons_succ]
  refine wpAnyH_ready (rs := [6]) (by kernel_rfl) (by simp) ?_
  refine AllReadyH.cons rfl (fun KK hK => ?_) AllReadyH.nil
  simp only [List.getElem_toArray, List.getElem_cons_succ, List.getElem_cons_zero]
  rw [if_pos (by rfl)]
  refine wps2 126 (.tmp 9) (.tmp 12) _ rfl in_addSigned (.pointer (some ⟨g1, 0, none⟩)) (.pointer (some ⟨g2, 0, none⟩)) rfl rfl (unhide HAS) ?_
  rintro e w3 ⟨⟨r3, rfl⟩, v3, s3, zs, n3, d3, hz3, hv3, hl3, k3, t3⟩
  refine ⟨_, rfl, ?_⟩
  clear hHeld
  refine hK.out _ _ ?_ (fun hHeld => ?_)
  · trivial
  clear hK KK
  try simp only [Act.put, List.getElem_toArray, List.getElem_cons_succ, List.getElem_cons_zero, List.setIfInBounds_toArray, List.set_cons_zero, List.set_cons_succ]
  refine wpAnyH_done (by kernel_rfl) ?_ _
  clear hHeld
  rw [z1, z2] at hv3
  have FF : Hid (Num w0.heap.size w3 g1 v3 zs ∧ Sd w3 g1 s3 ∧ Ex w3 g1 (min x1 x2) ∧ Nrm zs ∧ wval s3 zs = wval s1 xs * 2 ^ (x1 - min x1 x2).toNat + wval s2 ys * 2 ^ (x2 - min x1 x2).toNat ∧ Kept 0 0 w0 w3) := ⟨n3, d3, Ex.tail (unhide E2) t3, hz3, hv3, k3⟩
  clear n3 d3 hz3 hv3 k3 t3 HAS E2 z1 z2 h1 h2
  go_wp2_with fail
  exact bodyPost_end (v := .tuple #[]) (by simp [results, Tryz.results125, go_sem]) rfl ⟨⟨_, rfl⟩, _, _, _, unhide FF⟩

theorem addDyadic_impl {w0 w : World} {g1 g2 : Nat} {s1 s2 : Bool} {xs ys : List Int} {x1 x2 : Int} (S : Dya2 w0 w g1 g2 s1 xs x1 s2 ys x2) (hx : Nrm xs) (hy : Nrm ys) (nx : xs.length ≤ 100) (ny : ys.length ≤ 100) (f1 : -3000 ≤ x1) (f2 : x1 ≤ 3000) (f3 : -3000 ≤ x2) (f4 : x2 ≤ 3000) :
    Calls Tryz.prog 125 #[.pointer (some ⟨g1, 0, none⟩), .pointer (some ⟨g2, 0, none⟩)] w fun e w' => (∃ r, e = .returned r) ∧ ∃ u s zs, Num w0.heap.size w' g1 u zs ∧ Sd w' g1 s ∧ Ex w' g1 (min x1 x2) ∧ Nrm zs ∧ wval s zs = wval s1 xs * 2 ^ (x1 - min x1 x2).toNat + wval s2 ys * 2 ^ (x2 - min x1 x2).toNat ∧ Kept 0 0 w0 w' := addDyadic_wide S hx hy (by omega) (by omega) (by omega) (by omega) (by omega) (by omega)

end Go.Proofs.YtgoncjcnakkaoaaGreatDoor
