/-
  A product and a sum of floats, rounded once: numbers; what stands beside a product; the program's kinds told by their number.
-/
import Derived.Test.YtepehpkmejjhiaaGreatDoorFlA4
import Derived.Test.YtepehpkmejjhiaaGreatDoorFlMu
import Derived.Deep.RegionHeld3
import Derived.Deep.DeepCutAuto
namespace Go.Proofs.YtepehpkmejjhiaaGreatDoor
open Go.RowKit
set_option linter.unusedVariables false
set_option maxRecDepth 8000
set_option linter.unusedSimpArgs false

theorem rndQ_up {mode S x : Int} {Z : Bool} (k : Nat) : rndQ mode (S * 2 ^ k) x Z = rndQ mode S (x + k) Z := by
  by_cases h : S = 0
  · subst h
    rw [Int.zero_mul, rndQ_nought rfl, rndQ_nought rfl]
    unfold flA flG
    simp
  · have hne : S * 2 ^ k ≠ 0 := Int.mul_ne_zero h (Int.ne_of_gt (Int.pow_pos (by decide)))
    have hab : (S * 2 ^ k).natAbs = S.natAbs * 2 ^ k := by rw [Int.natAbs_mul, Int.natAbs_pow]; rfl
    obtain ⟨f1, f2⟩ := fl_shift mode (wsg S) (V := S.natAbs) (by omega) k x
    rw [rndQ_num hne, rndQ_num h, wsg_pow, hab, f1, f2]
theorem rndQ_same {mode S1 x1 S2 x2 L : Int} {Z : Bool} (h1 : L ≤ x1) (h2 : L ≤ x2) (h : S1 * 2 ^ (x1 - L).toNat = S2 * 2 ^ (x2 - L).toNat) : rndQ mode S1 x1 Z = rndQ mode S2 x2 Z := by
  have a := rndQ_up (mode := mode) (S := S1) (x := L) (Z := Z) (x1 - L).toNat
  have b := rndQ_up (mode := mode) (S := S2) (x := L) (Z := Z) (x2 - L).toNat
  rw [show L + (((x1 - L).toNat : Nat) : Int) = x1 by omega] at a
  rw [show L + (((x2 - L).toNat : Nat) : Int) = x2 by omega] at b
  rw [← a, ← b, h]
/-- What l5round tells of a number in its one form. -/
theorem round_fin (mode : Int) (Z : Bool) (M X : Int) :
    (((flA mode (wsg M) (val (dlm M)).toNat (dex M X)).1, (if (val (dlm M)).toNat = 0 then Z else wsg M), (flA mode (wsg M) (val (dlm M)).toNat (dex M X)).2.1, (flA mode (wsg M) (val (dlm M)).toNat (dex M X)).2.2), flG mode (wsg M) (val (dlm M)).toNat (dex M X)) = rndQ mode M X Z := by
  obtain ⟨o1, o2⟩ := fl_odd mode (wsg M) M X
  by_cases h0 : M = 0
  · subst h0
    rw [rndQ_nought rfl, dlm_zero]
    unfold flA flG
    simp [val]
  · have hv0 : (val (dlm M)).toNat ≠ 0 := by
      have e := (dlm_pos h0).2
      have := val_nonneg (wn_dlm M).1.1
      omega
    rw [rndQ_num h0, if_neg hv0, ← o1, ← o2]
/-- A product and a sum of floats, rounded once; its flags. -/
def fmaQ (k1 : Int) (n1 : Bool) (m1 e1 k2 : Int) (n2 : Bool) (m2 e2 k3 : Int) (n3 : Bool) (m3 e3 mode : Int) : (Int × Bool × Int × Int) × Int :=
  if 2 ≤ k1 ∨ 2 ≤ k2 then
    (if (mulQ k1 n1 m1 e1 k2 n2 m2 e2 mode).2 = 0 then addQ (mulQ k1 n1 m1 e1 k2 n2 m2 e2 mode).1.1 (mulQ k1 n1 m1 e1 k2 n2 m2 e2 mode).1.2.1 0 0 k3 n3 m3 e3 mode else mulQ k1 n1 m1 e1 k2 n2 m2 e2 mode)
  else if 2 ≤ k3 then ((k3, n3, m3, e3), 0)
  else rndQ mode (fM k1 n1 m1 * fM k2 n2 m2 * 2 ^ (e1 + e2 - min (e1 + e2) e3).toNat + fM k3 n3 m3 * 2 ^ (e3 - min (e1 + e2) e3).toNat) (min (e1 + e2) e3) (if fM k1 n1 m1 * fM k2 n2 m2 = 0 ∧ fM k3 n3 m3 = 0 ∧ (!(n1 == n2)) = n3 then (!(n1 == n2)) else (mode == 3))
/-- A float that is a number: what is known of it. -/
theorem fl_fin_ways {k : Int} {n : Bool} {m e : Int} (h : flok k n m e = true) (hk : k ≤ 1) : -1074 ≤ e ∧ e ≤ 971 ∧ 0 ≤ m ∧ m ≤ 9007199254740991 ∧ wval n (limbs m.toNat) = fM k n m ∧ (fM k n m = 0 → e = 0) ∧ (fM k n m = 0 ↔ m = 0) := by
  rcases flok_ways h with ⟨rfl, a1, a2, a3, a4, -⟩ | ⟨rfl, rfl, rfl⟩ | ⟨rfl, -⟩ | ⟨rfl, -⟩
  · have hne : fM 1 n m ≠ 0 := by unfold fM; cases n <;> simp <;> omega
    exact ⟨a1, a2, by omega, a4, limbs_wval n a3, fun e => absurd e hne, fun e => absurd e hne, fun e => by omega⟩
  · refine ⟨by omega, by omega, by omega, by omega, ?_, fun _ => rfl, fun _ => rfl, fun _ => fM_zero (by decide) n 0⟩
    rw [fM_zero (by decide), show (0 : Int).toNat = 0 from rfl, limbs_zero]
    exact wval_nil n
  · omega
  · omega
theorem isNan_no {k : Int} {n : Bool} {m e : Int} (h : flok k n m e = true) (hk : k ≤ 2) (w : World) : Calls Tryz.prog 73 #[ivl k n m e] w fun r w' => r = .returned (.bool false) ∧ Kept 0 0 w w' := by
  rcases flok_ways h with ⟨rfl, -⟩ | ⟨rfl, rfl, rfl⟩ | ⟨rfl, rfl, rfl⟩ | ⟨rfl, -⟩
  · exact is_nan_num n m e w
  · exact is_nan_nought n w
  · exact is_nan_inf n w
  · omega
theorem isInf_no {k : Int} {n : Bool} {m e : Int} (h : flok k n m e = true) (hk : k ≠ 2) (w : World) : Calls Tryz.prog 72 #[ivl k n m e] w fun r w' => r = .returned (.bool false) ∧ Kept 0 0 w w' := by
  rcases flok_ways h with ⟨rfl, -⟩ | ⟨rfl, rfl, rfl⟩ | ⟨rfl, -⟩ | ⟨rfl, rfl, rfl, rfl⟩
  · exact is_inf_num n m e w
  · exact is_inf_nought n w
  · omega
  · exact is_inf_nan w
theorem isInf_yes {k : Int} {n : Bool} {m e : Int} (h : flok k n m e = true) (hk : k = 2) (w : World) : Calls Tryz.prog 72 #[ivl k n m e] w fun r w' => r = .returned (.bool true) ∧ Kept 0 0 w w' := by
  rcases flok_ways h with ⟨rfl, -⟩ | ⟨rfl, rfl, rfl⟩ | ⟨rfl, rfl, rfl⟩ | ⟨rfl, -⟩
  · omega
  · omega
  · exact is_inf_inf n w
  · omega
theorem isNan_yes {k : Int} {n : Bool} {m e : Int} (h : flok k n m e = true) (hk : k = 3) (w : World) : Calls Tryz.prog 73 #[ivl k n m e] w fun r w' => r = .returned (.bool true) ∧ Kept 0 0 w w' := by
  rcases flok_ways h with ⟨rfl, -⟩ | ⟨rfl, rfl, rfl⟩ | ⟨rfl, rfl, rfl⟩ | ⟨rfl, rfl, rfl, rfl⟩
  · omega
  · omega
  · omega
  · exact is_nan_nan w
theorem valueOf_fin {k : Int} {n : Bool} {m e : Int} (h : flok k n m e = true) (hk : k ≤ 1) (w : World) : Calls Tryz.prog 74 #[ivl k n m e] w fun e' w' => ∃ v', e' = .returned (.agg #[v', .bool n, .int .i64 e]) ∧ w'.ownsRow w.heap.size 3 1 v' (limbs m.toNat).length ((limbs m.toNat).map (Value.int .i64)) ∧ Kept 0 0 w w' := by
  rcases flok_ways h with ⟨rfl, a1, a2, a3, a4, -⟩ | ⟨rfl, rfl, rfl⟩ | ⟨rfl, -⟩ | ⟨rfl, -⟩
  · exact valueOf_num n m e a3 a4 w
  · have := valueOf_nought n w
    rw [← limbs_zero] at this
    exact this
  · omega
  · omega
/-- Three numbers' blocks, made one behind the other. -/
theorem dya_new3 {w0 w4 : World} {b2 b3 : Nat} {u1 u2 u3 : Value} {xs ys zs : List Int} (s1 s2 s3 : Bool) (x1 x2 x3 : Int) (t : TypeId) (hk : Kept 0 0 w0 w4) (O1 : w4.ownsRow w0.heap.size 3 1 u1 xs.length (xs.map (Value.int .i64))) (O2 : w4.ownsRow b2 3 1 u2 ys.length (ys.map (Value.int .i64))) (O3 : w4.ownsRow b3 3 1 u3 zs.length (zs.map (Value.int .i64)))
    (hb2 : w0.heap.size ≤ b2) (hb3 : b2 ≤ b3) (w5 : World) (h5 : ((w4.alloc (.cells #[u1, .bool s1, .int .i64 x1] t)).alloc (.cells #[u2, .bool s2, .int .i64 x2] t)).alloc (.cells #[u3, .bool s3, .int .i64 x3] t) = w5) :
    Kept 0 0 w4 w5 ∧ Num w0.heap.size w5 w4.heap.size u1 xs ∧ Sd w5 w4.heap.size s1 ∧ Ex w5 w4.heap.size x1 ∧ Num b2 w5 (w4.heap.size + 1) u2 ys ∧ Sd w5 (w4.heap.size + 1) s2 ∧ Ex w5 (w4.heap.size + 1) x2 ∧ Num b3 w5 (w4.heap.size + 2) u3 zs ∧ Sd w5 (w4.heap.size + 2) s3 ∧ Ex w5 (w4.heap.size + 2) x3 ∧ (∀ i, u3.ownBlock = some i → b3 ≤ i ∧ i < w4.heap.size) ∧ w4.heap.size + 3 = w5.heap.size := by
  have k1 := (Kept.refl 0 0 w4).alloc (.cells #[u1, .bool s1, .int .i64 x1] t)
  have k2 := (Kept.refl 0 0 (w4.alloc (.cells #[u1, .bool s1, .int .i64 x1] t))).alloc (.cells #[u2, .bool s2, .int .i64 x2] t)
  have k3 := (Kept.refl 0 0 ((w4.alloc (.cells #[u1, .bool s1, .int .i64 x1] t)).alloc (.cells #[u2, .bool s2, .int .i64 x2] t))).alloc (.cells #[u3, .bool s3, .int .i64 x3] t)
  obtain ⟨n1, d1, e1⟩ := new_dya s1 x1 t O1
  obtain ⟨n2, d2, e2⟩ := new_dya s2 x2 t (own_kept O2 k1)
  obtain ⟨n3, d3, e3⟩ := new_dya s3 x3 t (own_kept (own_kept O3 k1) k2)
  have hs : (w4.alloc (.cells #[u1, .bool s1, .int .i64 x1] t)).heap.size = w4.heap.size + 1 := by simp
  have hs2 : ((w4.alloc (.cells #[u1, .bool s1, .int .i64 x1] t)).alloc (.cells #[u2, .bool s2, .int .i64 x2] t)).heap.size = w4.heap.size + 2 := by simp
  have hs3 : (((w4.alloc (.cells #[u1, .bool s1, .int .i64 x1] t)).alloc (.cells #[u2, .bool s2, .int .i64 x2] t)).alloc (.cells #[u3, .bool s3, .int .i64 x3] t)).heap.size = w4.heap.size + 3 := by simp
  rw [hs] at n2 d2 e2
  rw [hs2] at n3 d3 e3
  subst h5
  exact ⟨(k1.trans k2).trans k3, (n1.kept k2).kept k3, (d1.kept k2).kept k3, (e1.kept k2).kept k3, n2.kept k3, d2.kept k3, e2.kept k3, n3, d3, e3, fun i h => O3.lt i h, hs3.symm⟩

set_option maxHeartbeats 4000000 in
theorem multiplyDyadic_old {b1 b2 : Nat} {w : World} {g1 g2 : Nat} {u1 u2 : Value} {s1 s2 : Bool} {xs ys : List Int} {x1 x2 : Int} (n01 : Num b1 w g1 u1 xs) (n02 : Num b2 w g2 u2 ys) (d01 : Sd w g1 s1) (d02 : Sd w g2 s2) (e01 : Ex w g1 x1) (e02 : Ex w g2 x2) (ne : g1 ≠ g2) (hx : Nrm xs) (hy : Nrm ys) (nx : xs.length ≤ 100000) (ny : ys.length ≤ 100000) (f1 : -40000 ≤ x1) (f2 : x1 ≤ 40000) (f3 : -40000 ≤ x2) (f4 : x2 ≤ 40000) :
    Calls Tryz.prog 75 #[.pointer (some ⟨g1, 0, none⟩), .pointer (some ⟨g2, 0, none⟩)] w fun e w' => (∃ r, e = .returned r) ∧ ∃ u, Num w.heap.size w' g1 u (limbs (val xs * val ys).toNat) ∧ Sd w' g1 (!(s1 == s2)) ∧ Ex w' g1 (x1 + x2) ∧ Mod (fun i => i = g1) w w' := by
  have kw := (Kept.refl 0 0 w).drew
  have d1 : Sd w.drew g1 s1 := ⟨kw.cell0 d01.1, kw.loose0 (a := ⟨g1, 1, none⟩) n01.lt d01.2⟩
  have d2 : Sd w.drew g2 s2 := ⟨kw.cell0 d02.1, kw.loose0 (a := ⟨g2, 1, none⟩) n02.lt d02.2⟩
  have e1 : Ex w.drew g1 x1 := ⟨kw.cell0 e01.1, kw.loose0 (a := ⟨g1, 2, none⟩) n01.lt e01.2⟩
  have e2 : Ex w.drew g2 x2 := ⟨kw.cell0 e02.1, kw.loose0 (a := ⟨g2, 2, none⟩) n02.lt e02.2⟩
  have HMS := hide (multiplySigned_tail _ (n01.kept kw) (n02.kept kw) d1 d2 ne hx.1 hy.1 nx ny)
  have KW := hide kw
  clear n01 n02 d01 d02 e01 e02 kw
  have hw : IntKind.i64.wrap (x1 + x2) = x1 + x2 := w64 _ (by omega) (by omega)
  go_enter Tryz.func75, Tryz.ntmps75
  go_wp2_with fail
  refine wp_region_held_drew (S := (fun _ => True)) (by kernel_rfl) ?_ (fun hHeld => ?_)
  · trivial
  refine wT (i := 0) (v := .pointer (some ⟨g1, 0, none⟩)) rfl (Or.inl ⟨by rfl, ?_⟩) hHeld ?_
  · intro wq hSw
    try dsimp only at hSw
    go_simp
  try simp only [Act.put, zq1, zq2, zq3, zq4, zq5, zq6]
  refine wT (i := 1) (v := .pointer (some ⟨g1, 0, none⟩)) rfl (Or.inl ⟨by rfl, ?_⟩) hHeld ?_
  · intro wq hSw
    try dsimp only at hSw
    go_simp
  try simp only [Act.put, zq1, zq2, zq3, zq4, zq5, zq6]
  refine wT (i := 2) (v := .pointer (some ⟨g1, 0, none⟩)) rfl (Or.inl ⟨by rfl, ?_⟩) hHeld ?_
  · intro wq hSw
    try dsimp only at hSw
    go_simp
  try simp only [Act.put, zq1, zq2, zq3, zq4, zq5, zq6]
  refine wT (i := 3) (v := .pointer (some ⟨g2, 0, none⟩)) rfl (Or.inl ⟨by rfl, ?_⟩) hHeld ?_
  · intro wq hSw
    try dsimp only at hSw
    go_simp
  try simp only [Act.put, zq1, zq2, zq3, zq4, zq5, zq6]
  refine wT (i := 4) (v := .pointer (some ⟨g2, 0, none⟩)) rfl (Or.inl ⟨by rfl, ?_⟩) hHeld ?_
  · intro wq hSw
    try dsimp only at hSw
    go_simp
  try simp only [Act.put, zq1, zq2, zq3, zq4, zq5, zq6]
  refine wT (i := 5) (v := .pointer (some ⟨g2, 0, none⟩)) rfl (Or.inl ⟨by rfl, ?_⟩) hHeld ?_
  · intro wq hSw
    try dsimp only at hSw
    go_simp
  try simp only [Act.put, zq1, zq2, zq3, zq4, zq5, zq6]
  refine wR 6 (by kernel_rfl) rfl (fun KK hK => ?_)
  simp only [zq1, zq2, zq3]
  rw [if_pos (by rfl)]
  refine wps2 114 (.tmp 6) (.tmp 9) _ rfl in_multiplySigned (.pointer (some ⟨g1, 0, none⟩)) (.pointer (some ⟨g2, 0, none⟩)) rfl rfl (unhide HMS) ?_
  rintro e w2 ⟨⟨r2, rfl⟩, v2, n2, d3, m2, t2⟩
  refine ⟨_, rfl, ?_⟩
  clear hHeld
  refine hK.out _ _ ?_ (fun hHeld => ?_)
  · trivial
  clear hK KK
  try simp only [Act.put, zq1, zq2, zq3, zq4, zq5, zq6]
  refine wpAnyH_done (by kernel_rfl) ?_ _
  clear hHeld
  have e3 := e1.tail t2
  have e4 : Ex w2 g2 x2 := e2.tail (m2.side e2.lt (fun e => ne e.symm)).tail
  have hc1 := e3.1
  have hf1 := e3.2
  have hc2 := e4.1
  have kd := (Kept.refl 0 0 w2).drew
  have FF : Hid (Num w.heap.size (w2.drew.setCell ⟨g1, 2, none⟩ (.int .i64 (x1 + x2))) g1 v2 (limbs (val xs * val ys).toNat) ∧ Sd (w2.drew.setCell ⟨g1, 2, none⟩ (.int .i64 (x1 + x2))) g1 (!(s1 == s2)) ∧ Ex (w2.drew.setCell ⟨g1, 2, none⟩ (.int .i64 (x1 + x2))) g1 (x1 + x2) ∧ Mod (fun i => i = g1) w (w2.drew.setCell ⟨g1, 2, none⟩ (.int .i64 (x1 + x2)))) :=
    ⟨(n2.kept kd).set2 _, (d3.kept kd).set2 _, (e3.kept kd).set _, ((((unhide KW).toMod (S := fun i => i = g1)).trans m2).kept kd).set (p := ⟨g1, 2, none⟩) (.inl rfl) _⟩
  clear HMS n2 d3 m2 t2 e3 e4 e1 e2 d1 d2 kd KW
  go_wp2
  go_region
  go_wp2
  exact bodyPost_end (v := .tuple #[]) (by simp [results, Tryz.results75, go_sem]) rfl ⟨⟨_, rfl⟩, _, unhide FF⟩

theorem mulw (n1 n2 : Bool) {xs ys : List Int} (hx : Lim xs) (hy : Lim ys) : wval (!(n1 == n2)) (limbs (val xs * val ys).toNat) = wval n1 xs * wval n2 ys := by
  have b1 := val_nonneg hx
  have b2 := val_nonneg hy
  have b3 := Int.mul_nonneg b1 b2
  unfold wval
  rw [limbs_val, Int.toNat_of_nonneg b3]
  cases n1 <;> cases n2 <;> simp [Int.neg_mul, Int.mul_neg]
theorem len_nought {s : Bool} {l : List Int} (h : Nrm l) : (l.length = 0) = (wval s l = 0) := by
  apply propext
  constructor
  · intro e
    rw [List.length_eq_zero_iff.1 e]
    exact wval_nil s
  · intro e
    have h1 := wval_abs (s := s) h.1
    rw [e] at h1
    have h2 := nrm_limbs h
    rw [← h1, show (0 : Int).natAbs = 0 from rfl, limbs_zero] at h2
    rw [h2]
    rfl
theorem fma_form {sP n3 MD : Bool} {XS ZS : List Int} {P F3 A B mode lo : Int} (hX : wval sP XS = P) (nX : Nrm XS) (hZ : wval n3 ZS = F3) (nZ : Nrm ZS) :
    rndQ mode (wval sP XS * A + wval n3 ZS * B) lo (if XS.length = 0 ∧ ZS.length = 0 ∧ sP = n3 then sP else MD) = rndQ mode (P * A + F3 * B) lo (if P = 0 ∧ F3 = 0 ∧ sP = n3 then sP else MD) := by
  simp only [len_nought (s := sP) nX, len_nought (s := n3) nZ, hX, hZ]
theorem inv_nan_t (w : World) : (method 296 115 (.agg #[.bool false]) "loop.example/g00382/impl.told").run Tryz.prog w = .ok (185, .agg #[.bool false]) w := by kernel_rfl

set_option maxHeartbeats 400000 in
theorem told_nan_t (w : World) :
    Calls Tryz.prog 185 #[.agg #[.bool false]] w fun r w' => r = .returned (flv 3 false 0 0) ∧ Kept 0 0 w w' := by
  go_enter Tryz.func185, Tryz.ntmps185
  go_wp2
  exact bodyPost_ret (v := flv 3 false 0 0) (by simp [results, Tryz.results185, go_sem]) rfl ⟨rfl, by repeat first | exact Kept.refl 0 0 _ | apply Kept.alloc⟩

end Go.Proofs.YtepehpkmejjhiaaGreatDoor

