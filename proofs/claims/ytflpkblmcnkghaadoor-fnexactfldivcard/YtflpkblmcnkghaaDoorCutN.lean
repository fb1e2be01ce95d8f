/-
  The program's cutQuotient: its answer owns its list.
-/
import Derived.Test.YtflpkblmcnkghaaDoorBS
import Derived.Test.YtflpkblmcnkghaaDoorBN
import Derived.Test.YtflpkblmcnkghaaDoorBR
namespace Go.Proofs.YtflpkblmcnkghaaDoor
open Go.RowKit
set_option linter.unusedVariables false
set_option maxRecDepth 8000
set_option linter.unusedSimpArgs false

theorem in_divide : ∀ (w : World) (args : Array Value), (callFunc 72 args).run Tryd.prog w = .ok (.enter 72 args) w := enters Tryd.func72 (by decide) (fun h => by cases h)

theorem limbs_nil_iff (n : Nat) : (limbs n).length = 0 ↔ n = 0 := by
  constructor
  ·intro h
   have h1 := limbs_val n
   rw [List.length_eq_zero_iff.1 h] at h1
   have h2 : val [] = 0 := rfl
   omega
  ·intro h; rw [h, limbs_zero]; rfl

theorem quo_val {xs ys : List Int} (hx : Lim xs) (hy : Lim ys) (A B : Nat) : (val (limbs ((val xs).toNat * 2 ^ A)) / val (limbs ((val ys).toNat * 2 ^ B))).toNat = (val xs).toNat * 2 ^ A / ((val ys).toNat * 2 ^ B) ∧ (val (limbs ((val xs).toNat * 2 ^ A)) % val (limbs ((val ys).toNat * 2 ^ B))).toNat = (val xs).toNat * 2 ^ A % ((val ys).toNat * 2 ^ B) := by
  rw [limbs_val, limbs_val, ← Int.natCast_ediv, ← Int.natCast_emod, Int.toNat_natCast, Int.toNat_natCast]
  exact ⟨rfl, rfl⟩

theorem shl_len_le {xs : List Int} (hx : Lim xs) (A : Nat) (j : Nat) (h : A ≤ 16 * j) : (limbs ((val xs).toNat * 2 ^ A)).length ≤ xs.length + j := by
  have h0 := val_nonneg hx
  have h1 := val_lt hx
  rw [pow_limb] at h1
  refine (limbs_len_two _ _).2 ?_
  have h2 : (val xs).toNat < 2 ^ (16 * xs.length) := by omega
  rw [Nat.mul_add, Nat.pow_add]
  exact Nat.lt_of_lt_of_le (Nat.mul_lt_mul_of_pos_right h2 (Nat.pow_pos (by decide))) (Nat.mul_le_mul_left _ (Nat.pow_le_pow_right (by decide) h))

set_option maxHeartbeats 8000000 in
theorem cutQuotient_own {b1 b2 g1 g2 : Nat} {v1 v2 : Value} {xs ys : List Int} {s1 s2 : Bool} {x1 x2 : Int} (w : World) (h1 : Num b1 w g1 v1 xs) (d1 : Sd w g1 s1) (e1 : Ex w g1 x1) (h2 : Num b2 w g2 v2 ys) (d2 : Sd w g2 s2) (e2 : Ex w g2 x2)
    (hg : g1 ≠ g2) (a12 : v1.ownBlock ≠ some g2) (a21 : v2.ownBlock ≠ some g1) (aa : ∀ i, v1.ownBlock = some i → v2.ownBlock ≠ some i) (hb1 : b1 ≤ w.heap.size) (hb2 : b2 ≤ w.heap.size) (hx : Nrm xs) (hy : Nrm ys) (hne : ys ≠ []) (nx : xs.length ≤ 1000) (ny : ys.length ≤ 1000)
    (low : Int) (hx0 : -20000 ≤ x1) (hx1 : x1 ≤ 20000) (hy0 : -20000 ≤ x2) (hy1 : x2 ≤ 20000) (l0 : -20000 ≤ low) (l1 : low ≤ 20000) :
    Calls Tryd.prog 55 #[.pointer (some ⟨g1, 0, none⟩), .pointer (some ⟨g2, 0, none⟩), .int .i64 low] w fun e w' => ∃ u, e = .returned (.agg #[u, .bool (s1 != s2), .int .i64 low, .bool (quoL (val xs).toNat (val ys).toNat (x1 - x2 - (low - 1)))]) ∧ w'.ownsRow w.heap.size 3 1 u (limbs (quoN (val xs).toNat (val ys).toNat (x1 - x2 - (low - 1)))).length ((limbs (quoN (val xs).toNat (val ys).toNat (x1 - x2 - (low - 1)))).map (Value.int .i64)) ∧ Mod (fun i => i = g1 ∨ i = g2 ∨ v1.ownBlock = some i) w w' := by
  obtain ⟨KK, hKK⟩ : ∃ K, x1 - x2 - (low - 1) = K := ⟨_, rfl⟩
  obtain ⟨A, hA⟩ : ∃ A : Nat, KK.toNat = A := ⟨_, rfl⟩
  obtain ⟨B, hB⟩ : ∃ B : Nat, (-KK).toNat = B := ⟨_, rfl⟩
  obtain ⟨SG, hSG⟩ : ∃ t, (s1 != s2) = t := ⟨_, rfl⟩
  have hmA : max KK 0 = (A : Int) := by omega
  have hmB : max (-KK) 0 = (B : Int) := by omega
  have hw1 : IntKind.i64.wrap (low - 1) = low - 1 := w64 _ (by omega) (by omega)
  have hw2 : IntKind.i64.wrap (x1 - x2) = x1 - x2 := w64 _ (by omega) (by omega)
  have hw3 : IntKind.i64.wrap (x1 - x2 - (low - 1)) = KK := by rw [hKK]; exact w64 _ (by omega) (by omega)
  have hw4 : IntKind.i64.wrap (-KK) = -KK := w64 _ (by omega) (by omega)
  have hA2 : A ≤ 70000 := by omega
  have hB2 : B ≤ 70000 := by omega
  obtain ⟨q1, q2⟩ := quo_val hx.1 hy.1 A B
  have hq : limbs (quoN (val xs).toNat (val ys).toNat KK) = limbs ((val (limbs ((val xs).toNat * 2 ^ A)) / val (limbs ((val ys).toNat * 2 ^ B))).toNat) := by rw [q1]; unfold quoN quoX; rw [hA, hB]
  have hr : quoL (val xs).toNat (val ys).toNat KK = !decide ((limbs ((val (limbs ((val xs).toNat * 2 ^ A)) % val (limbs ((val ys).toNat * 2 ^ B))).toNat)).length = 0) := by
   rw [q2]
   unfold quoL quoX
   rw [hA, hB]
   simp only [limbs_nil_iff]
   rw [decide_not]
  have hlx := shl_len_le hx.1 A 5000 (by omega)
  have hly := shl_len_le hy.1 B 5000 (by omega)
  have hYne : limbs ((val ys).toNat * 2 ^ B) ≠ [] := by
   intro e
   have h3 := (limbs_nil_iff _).1 (by rw [e]; rfl : (limbs ((val ys).toNat * 2 ^ B)).length = 0)
   have h4 : 0 < val ys := by have e1 := nrm_pow hy hne; have : (0 : Int) < 65536 ^ (ys.length - 1) := Int.pow_pos (by decide); omega
   have h5 : 0 < (val ys).toNat * 2 ^ B := Nat.mul_pos (by omega) (Nat.two_pow_pos _)
   omega
  have hXN := limbs_nrm ((val xs).toNat * 2 ^ A)
  have hYN := limbs_nrm ((val ys).toNat * 2 ^ B)
  obtain ⟨ZQ, hZQ⟩ : ∃ z, limbs ((val (limbs ((val xs).toNat * 2 ^ A)) / val (limbs ((val ys).toNat * 2 ^ B))).toNat) = z := ⟨_, rfl⟩
  obtain ⟨ZR, hZR⟩ : ∃ z, limbs ((val (limbs ((val xs).toNat * 2 ^ A)) % val (limbs ((val ys).toNat * 2 ^ B))).toNat) = z := ⟨_, rfl⟩
  obtain ⟨NZ, hNZ⟩ : ∃ t, decide (ZR.length = 0) = t := ⟨_, rfl⟩
  rw [hKK, hSG, hq, hr, hZQ, hZR, hNZ]
  have HNZ := hide hNZ
  have HZQ := hide hZQ
  have HZR := hide hZR
  have HSG := hide hSG
  clear hq hr q1 q2 hKK hA hB hSG hZQ hZR hNZ
  have l1' := h1.lt
  have l2' := h2.lt
  have ol1 := fun k (e : v1.ownBlock = some k) => (h1.own.lt k e).2
  have ol2 := fun k (e : v2.ownBlock = some k) => (h2.own.lt k e).2
  have k0 := (Kept.refl 0 0 w).alloc (.cells #[.slice none 0 0, .bool false, .int .i64 0, .bool false] 87)
  have r0 : (w.alloc (.cells #[.slice none 0 0, .bool false, .int .i64 0, .bool false] 87)).cell? ⟨w.heap.size, 0, none⟩ = some (.slice none 0 0) := new_cell2 _ _ _ _ _ _ (by simp) rfl
  have rf0 : (w.alloc (.cells #[.slice none 0 0, .bool false, .int .i64 0, .bool false] 87)).frozen? ⟨w.heap.size, 0, none⟩ = false := new_loose2 _ _ _ _ _ (by simp)
  have r1 : (w.alloc (.cells #[.slice none 0 0, .bool false, .int .i64 0, .bool false] 87)).cell? ⟨w.heap.size, 1, none⟩ = some (.bool false) := new_cell2 _ _ _ _ _ _ (by simp) rfl
  have rf1 : (w.alloc (.cells #[.slice none 0 0, .bool false, .int .i64 0, .bool false] 87)).frozen? ⟨w.heap.size, 1, none⟩ = false := new_loose2 _ _ _ _ _ (by simp)
  have r2 : (w.alloc (.cells #[.slice none 0 0, .bool false, .int .i64 0, .bool false] 87)).cell? ⟨w.heap.size, 2, none⟩ = some (.int .i64 0) := new_cell2 _ _ _ _ _ _ (by simp) rfl
  have rf2 : (w.alloc (.cells #[.slice none 0 0, .bool false, .int .i64 0, .bool false] 87)).frozen? ⟨w.heap.size, 2, none⟩ = false := new_loose2 _ _ _ _ _ (by simp)
  have r3 : (w.alloc (.cells #[.slice none 0 0, .bool false, .int .i64 0, .bool false] 87)).cell? ⟨w.heap.size, 3, none⟩ = some (.bool false) := new_cell2 _ _ _ _ _ _ (by simp) rfl
  have rf3 : (w.alloc (.cells #[.slice none 0 0, .bool false, .int .i64 0, .bool false] 87)).frozen? ⟨w.heap.size, 3, none⟩ = false := new_loose2 _ _ _ _ _ (by simp)
  have sz : (w.alloc (.cells #[.slice none 0 0, .bool false, .int .i64 0, .bool false] 87)).heap.size = w.heap.size + 1 := by simp
  replace h1 := h1.kept k0
  replace d1 := d1.kept k0
  replace e1 := e1.kept k0
  replace h2 := h2.kept k0
  replace d2 := d2.kept k0
  replace e2 := e2.kept k0
  have c1 := e1.1
  have c2 := e2.1
  have SZ := hide sz
  clear sz
  go_enter Tryd.func55, Tryd.ntmps55
  go_wp2_with fail
  generalize w.alloc (.cells #[.slice none 0 0, .bool false, .int .i64 0, .bool false] 87) = W at *
  go_region
  have kd := (Kept.refl 0 0 W).drew
  replace h1 := h1.kept kd
  replace d1 := d1.kept kd
  replace e1 := e1.kept kd
  replace h2 := h2.kept kd
  replace d2 := d2.kept kd
  replace e2 := e2.kept kd
  replace rf0 := kd.loose0 (zbl r0) rf0
  replace r0 := kd.cell0 r0
  replace rf1 := kd.loose0 (zbl r1) rf1
  replace r1 := kd.cell0 r1
  replace rf2 := kd.loose0 (zbl r2) rf2
  replace r2 := kd.cell0 r2
  replace rf3 := kd.loose0 (zbl r3) rf3
  replace r3 := kd.cell0 r3
  replace k0 := k0.trans kd
  replace SZ : Hid (W.drew.heap.size = w.heap.size + 1) := SZ
  clear kd c1 c2 hw1 hw2 hw3 e1 e2
  generalize W.drew = W1 at *
  go_wp2_with fail
  refine (shiftUp_any _ h1 hx (by omega) A (by omega)).mono ?_
  rintro e w1 ⟨⟨t1, rfl⟩, u1, n1, m1, sd1, o1⟩
  replace n1 := n1.less (b' := b1) (by have := unhide SZ; omega)
  have ul1 := fun k (e : u1.ownBlock = some k) => (n1.own.lt k e).2
  replace d1 := d1.same sd1
  have nR1 : ¬ w.heap.size = g1 := by omega
  replace h2 := h2.mod m1 (fun e => hg e.symm) (fun i e e' => a21 (by rw [e, e']))
  replace d2 := d2.same (m1.side d2.lt (fun e => hg e.symm))
  replace rf0 := m1.loose (a := ⟨w.heap.size, 0, none⟩) nR1 (zbl r0) rf0
  replace r0 := m1.cell (a := ⟨w.heap.size, 0, none⟩) nR1 r0
  replace rf1 := m1.loose (a := ⟨w.heap.size, 1, none⟩) nR1 (zbl r1) rf1
  replace r1 := m1.cell (a := ⟨w.heap.size, 1, none⟩) nR1 r1
  replace rf2 := m1.loose (a := ⟨w.heap.size, 2, none⟩) nR1 (zbl r2) rf2
  replace r2 := m1.cell (a := ⟨w.heap.size, 2, none⟩) nR1 r2
  replace rf3 := m1.loose (a := ⟨w.heap.size, 3, none⟩) nR1 (zbl r3) rf3
  replace r3 := m1.cell (a := ⟨w.heap.size, 3, none⟩) nR1 r3
  have MM : Hid (Mod (fun i => i = g1 ∨ i = g2 ∨ v1.ownBlock = some i) w w1) := Mod.then k0.toMod m1 (fun i e => .inl (.inl e))
  have z1 := m1.size
  clear m1 sd1 h1 k0
  go_wp2_with fail
  refine (shiftUp_any _ h2 hy (by omega) B (by omega)).mono ?_
  rintro e w2 ⟨⟨t2, rfl⟩, u2, n2, m2, sd2, o2⟩
  replace n2 := n2.less (b' := b2) (by have := unhide SZ; omega)
  replace d2 := d2.same sd2
  have nR2 : ¬ w.heap.size = g2 := by omega
  replace n1 := n1.mod m2 hg (fun i e e' => (o1 i e).elim (fun h => a12 (by rw [h, e'])) (fun h => by have := unhide SZ; omega))
  replace d1 := d1.same (m2.side d1.lt hg)
  replace rf0 := m2.loose (a := ⟨w.heap.size, 0, none⟩) nR2 (zbl r0) rf0
  replace r0 := m2.cell (a := ⟨w.heap.size, 0, none⟩) nR2 r0
  replace rf1 := m2.loose (a := ⟨w.heap.size, 1, none⟩) nR2 (zbl r1) rf1
  replace r1 := m2.cell (a := ⟨w.heap.size, 1, none⟩) nR2 r1
  replace rf2 := m2.loose (a := ⟨w.heap.size, 2, none⟩) nR2 (zbl r2) rf2
  replace r2 := m2.cell (a := ⟨w.heap.size, 2, none⟩) nR2 r2
  replace rf3 := m2.loose (a := ⟨w.heap.size, 3, none⟩) nR2 (zbl r3) rf3
  replace r3 := m2.cell (a := ⟨w.heap.size, 3, none⟩) nR2 r3
  replace MM : Hid (Mod (fun i => i = g1 ∨ i = g2 ∨ v1.ownBlock = some i) w w2) := Mod.then (unhide MM) m2 (fun i e => .inl (.inr (.inl e)))
  have z2 := m2.size
  clear m2 sd2 h2 hw4 hmA hmB
  generalize limbs ((val xs).toNat * 2 ^ A) = X at *
  generalize limbs ((val ys).toNat * 2 ^ B) = Y at *
  have kY := (Kept.refl 0 0 w2).alloc (.cells #[.slice none 0 0, .bool false, .int .i64 low, .bool false] 87)
  have y0 : (w2.alloc (.cells #[.slice none 0 0, .bool false, .int .i64 low, .bool false] 87)).cell? ⟨w2.heap.size, 0, none⟩ = some (.slice none 0 0) := new_cell2 _ _ _ _ _ _ (by simp) rfl
  have yf0 : (w2.alloc (.cells #[.slice none 0 0, .bool false, .int .i64 low, .bool false] 87)).frozen? ⟨w2.heap.size, 0, none⟩ = false := new_loose2 _ _ _ _ _ (by simp)
  have y1 : (w2.alloc (.cells #[.slice none 0 0, .bool false, .int .i64 low, .bool false] 87)).cell? ⟨w2.heap.size, 1, none⟩ = some (.bool false) := new_cell2 _ _ _ _ _ _ (by simp) rfl
  have yf1 : (w2.alloc (.cells #[.slice none 0 0, .bool false, .int .i64 low, .bool false] 87)).frozen? ⟨w2.heap.size, 1, none⟩ = false := new_loose2 _ _ _ _ _ (by simp)
  have y2 : (w2.alloc (.cells #[.slice none 0 0, .bool false, .int .i64 low, .bool false] 87)).cell? ⟨w2.heap.size, 2, none⟩ = some (.int .i64 low) := new_cell2 _ _ _ _ _ _ (by simp) rfl
  have yf2 : (w2.alloc (.cells #[.slice none 0 0, .bool false, .int .i64 low, .bool false] 87)).frozen? ⟨w2.heap.size, 2, none⟩ = false := new_loose2 _ _ _ _ _ (by simp)
  have y3 : (w2.alloc (.cells #[.slice none 0 0, .bool false, .int .i64 low, .bool false] 87)).cell? ⟨w2.heap.size, 3, none⟩ = some (.bool false) := new_cell2 _ _ _ _ _ _ (by simp) rfl
  have yf3 : (w2.alloc (.cells #[.slice none 0 0, .bool false, .int .i64 low, .bool false] 87)).frozen? ⟨w2.heap.size, 3, none⟩ = false := new_loose2 _ _ _ _ _ (by simp)
  have zY : (w2.alloc (.cells #[.slice none 0 0, .bool false, .int .i64 low, .bool false] 87)).heap.size = w2.heap.size + 1 := by simp
  replace n1 := n1.kept kY
  replace d1 := d1.kept kY
  replace n2 := n2.kept kY
  replace d2 := d2.kept kY
  replace rf0 := kY.loose0 (zbl r0) rf0
  replace r0 := kY.cell0 r0
  replace rf1 := kY.loose0 (zbl r1) rf1
  replace r1 := kY.cell0 r1
  replace rf2 := kY.loose0 (zbl r2) rf2
  replace r2 := kY.cell0 r2
  replace rf3 := kY.loose0 (zbl r3) rf3
  replace r3 := kY.cell0 r3
  replace MM := hide ((unhide MM).kept kY)
  clear kY
  have ZY := hide zY
  clear zY
  go_wp2_with fail
  generalize w2.alloc (.cells #[.slice none 0 0, .bool false, .int .i64 low, .bool false] 87) = W3 at *
  refine wp_region_held_drew (S := (fun wz => wz.cell? ⟨w2.heap.size, 2, none⟩ = some (.int .i64 low))) (by kernel_rfl) ?_ (fun hH => ?_)
  ·exact ((Kept.refl 0 0 W3).drew).cell0 y2
  have kd := (Kept.refl 0 0 W3).drew
  replace n1 := n1.kept kd
  replace d1 := d1.kept kd
  replace n2 := n2.kept kd
  replace d2 := d2.kept kd
  replace rf0 := kd.loose0 (zbl r0) rf0
  replace r0 := kd.cell0 r0
  replace rf1 := kd.loose0 (zbl r1) rf1
  replace r1 := kd.cell0 r1
  replace rf2 := kd.loose0 (zbl r2) rf2
  replace r2 := kd.cell0 r2
  replace rf3 := kd.loose0 (zbl r3) rf3
  replace r3 := kd.cell0 r3
  replace yf0 := kd.loose0 (zbl y0) yf0
  replace y0 := kd.cell0 y0
  replace yf1 := kd.loose0 (zbl y1) yf1
  replace y1 := kd.cell0 y1
  replace yf2 := kd.loose0 (zbl y2) yf2
  replace y2 := kd.cell0 y2
  replace yf3 := kd.loose0 (zbl y3) yf3
  replace y3 := kd.cell0 y3
  replace MM := hide ((unhide MM).kept kd)
  replace ZY : Hid (W3.drew.heap.size = w2.heap.size + 1) := ZY
  clear kd
  generalize W3.drew = W4 at *
  refine wpAnyH_take (i := 0) (v := .pointer (some ⟨g1, 0, none⟩)) rfl (by kernel_rfl) (by kernel_rfl) (by kernel_rfl) (fun _ _ _ h => h) (Or.inl ⟨by rfl, ?_⟩) hH ?_
  ·intro wq hSw
   try dsimp only at hSw
   go_simp
  try simp only [Act.put, zq1, zq2, zq3, zq4, zq5, zq6]
  refine wpAnyH_take (i := 1) (v := .pointer (some ⟨g1, 0, none⟩)) rfl (by kernel_rfl) (by kernel_rfl) (by kernel_rfl) (fun _ _ _ h => h) (Or.inl ⟨by rfl, ?_⟩) hH ?_
  ·intro wq hSw
   try dsimp only at hSw
   go_simp
  try simp only [Act.put, zq1, zq2, zq3, zq4, zq5, zq6]
  refine wpAnyH_take (i := 2) (v := .pointer (some ⟨g1, 0, none⟩)) rfl (by kernel_rfl) (by kernel_rfl) (by kernel_rfl) (fun _ _ _ h => h) (Or.inl ⟨by rfl, ?_⟩) hH ?_
  ·intro wq hSw
   try dsimp only at hSw
   go_simp
  try simp only [Act.put, zq1, zq2, zq3, zq4, zq5, zq6]
  refine wpAnyH_take (i := 3) (v := .pointer (some ⟨g1, 0, none⟩)) rfl (by kernel_rfl) (by kernel_rfl) (by kernel_rfl) (fun _ _ _ h => h) (Or.inl ⟨by rfl, ?_⟩) hH ?_
  ·intro wq hSw
   try dsimp only at hSw
   go_simp
  try simp only [Act.put, zq1, zq2, zq3, zq4, zq5, zq6]
  refine wpAnyH_take (i := 4) (v := .pointer (some ⟨g2, 0, none⟩)) rfl (by kernel_rfl) (by kernel_rfl) (by kernel_rfl) (fun _ _ _ h => h) (Or.inl ⟨by rfl, ?_⟩) hH ?_
  ·intro wq hSw
   try dsimp only at hSw
   go_simp
  try simp only [Act.put, zq1, zq2, zq3, zq4, zq5, zq6]
  refine wpAnyH_take (i := 5) (v := .pointer (some ⟨g2, 0, none⟩)) rfl (by kernel_rfl) (by kernel_rfl) (by kernel_rfl) (fun _ _ _ h => h) (Or.inl ⟨by rfl, ?_⟩) hH ?_
  ·intro wq hSw
   try dsimp only at hSw
   go_simp
  try simp only [Act.put, zq1, zq2, zq3, zq4, zq5, zq6]
  refine wpAnyH_take (i := 6) (v := .pointer (some ⟨g2, 0, none⟩)) rfl (by kernel_rfl) (by kernel_rfl) (by kernel_rfl) (fun _ _ _ h => h) (Or.inl ⟨by rfl, ?_⟩) hH ?_
  ·intro wq hSw
   try dsimp only at hSw
   go_simp
  try simp only [Act.put, zq1, zq2, zq3, zq4, zq5, zq6]
  refine wpAnyH_take (i := 7) (v := .pointer (some ⟨g2, 0, none⟩)) rfl (by kernel_rfl) (by kernel_rfl) (by kernel_rfl) (fun _ _ _ h => h) (Or.inl ⟨by rfl, ?_⟩) hH ?_
  ·intro wq hSw
   try dsimp only at hSw
   go_simp
  try simp only [Act.put, zq1, zq2, zq3, zq4, zq5, zq6]
  refine wpAnyH_ready (rs := [8]) (by kernel_rfl) (by simp) ?_
  refine AllReadyH.cons rfl (fun KK hK => ?_) AllReadyH.nil
  simp only [zq1, zq2, zq3]
  rw [if_pos (by rfl)]
  have hSZ := unhide SZ
  have hZY := unhide ZY
  refine wps2 72 (.tmp 41) (.tmp 45) _ rfl in_divide (.pointer (some ⟨g1, 0, none⟩)) (.pointer (some ⟨g2, 0, none⟩)) rfl rfl (divide_impl _ n1 n2 (by omega) hXN hYN hYne (by omega) (by omega)) ?_
  rintro e w4 ⟨vq, rfl, dv⟩
  refine ⟨_, rfl, ?_⟩
  obtain ⟨oq, ⟨u4, n4, o4, p4⟩, m4, sd4⟩ := dv
  rw [unhide HZQ] at oq
  rw [unhide HZR] at n4
  have nG : ¬ Own1 g1 u1 g2 := fun e => e.elim (fun e => hg e.symm) (fun e => (o1 _ e).elim a12 (fun h => by omega))
  have nR : ¬ Own1 g1 u1 w.heap.size := fun e => e.elim nR1 (fun e => (o1 _ e).elim (fun h => by have := ol1 _ h; omega) (fun h => by omega))
  have nY : ¬ Own1 g1 u1 w2.heap.size := fun e => e.elim (fun e => by omega) (fun e => by have := ul1 _ e; omega)
  replace d1 := d1.same sd4
  replace d2 := d2.same (m4.side d2.lt nG)
  replace rf0 := m4.loose (a := ⟨w.heap.size, 0, none⟩) nR (zbl r0) rf0
  replace r0 := m4.cell (a := ⟨w.heap.size, 0, none⟩) nR r0
  replace rf1 := m4.loose (a := ⟨w.heap.size, 1, none⟩) nR (zbl r1) rf1
  replace r1 := m4.cell (a := ⟨w.heap.size, 1, none⟩) nR r1
  replace rf2 := m4.loose (a := ⟨w.heap.size, 2, none⟩) nR (zbl r2) rf2
  replace r2 := m4.cell (a := ⟨w.heap.size, 2, none⟩) nR r2
  replace rf3 := m4.loose (a := ⟨w.heap.size, 3, none⟩) nR (zbl r3) rf3
  replace r3 := m4.cell (a := ⟨w.heap.size, 3, none⟩) nR r3
  replace yf0 := m4.loose (a := ⟨w2.heap.size, 0, none⟩) nY (zbl y0) yf0
  replace y0 := m4.cell (a := ⟨w2.heap.size, 0, none⟩) nY y0
  replace yf1 := m4.loose (a := ⟨w2.heap.size, 1, none⟩) nY (zbl y1) yf1
  replace y1 := m4.cell (a := ⟨w2.heap.size, 1, none⟩) nY y1
  replace yf2 := m4.loose (a := ⟨w2.heap.size, 2, none⟩) nY (zbl y2) yf2
  replace y2 := m4.cell (a := ⟨w2.heap.size, 2, none⟩) nY y2
  replace yf3 := m4.loose (a := ⟨w2.heap.size, 3, none⟩) nY (zbl y3) yf3
  replace y3 := m4.cell (a := ⟨w2.heap.size, 3, none⟩) nY y3
  replace MM : Hid (Mod (fun i => i = g1 ∨ i = g2 ∨ v1.ownBlock = some i) w w4) := Mod.then (unhide MM) m4 (fun i e => e.elim (fun e => .inl (.inl e)) (fun e => (o1 i e).elim (fun h => .inl (.inr (.inr h))) (fun h => .inr (by omega))))
  have uq : ∀ k, vq.ownBlock = some k → w2.heap.size < k := fun k e => by have := (oq.lt k e).1; omega
  have u4' : ∀ k, u4.ownBlock = some k → k ≠ w2.heap.size ∧ k ≠ w.heap.size := fun k e => by
   rcases p4 k e with h | h
   ·have h5 := ul1 k h
    rcases o1 k h with h6 | h6
    ·have := ol1 k h6; omega
    ·omega
   ·omega
  clear m4 sd4 nG n1 n2 p4 o4 nR nY
  obtain ⟨aq, cq, hv⟩ := own_slice oq
  subst hv
  clear hH
  refine hK.out _ _ ?_ (fun hH => ?_)
  ·exact y2
  clear hK KK
  try simp only [Act.put, zq1, zq2, zq3, zq4, zq5, zq6]
  refine wpAnyH_take (i := 9) (v := .pointer (some ⟨w2.heap.size, 0, none⟩)) rfl (by kernel_rfl) (by kernel_rfl) (by kernel_rfl) (fun _ _ _ h => h) (Or.inl ⟨by rfl, ?_⟩) hH ?_
  ·intro wq hSw
   try dsimp only at hSw
   go_simp
  try simp only [Act.put, zq1, zq2, zq3, zq4, zq5, zq6]
  refine wpAnyH_take (i := 10) (v := .pointer (some ⟨w2.heap.size, 0, none⟩)) rfl (by kernel_rfl) (by kernel_rfl) (by kernel_rfl) (fun _ _ _ h => h) (Or.inl ⟨by rfl, ?_⟩) hH ?_
  ·intro wq hSw
   try dsimp only at hSw
   go_simp
  try simp only [Act.put, zq1, zq2, zq3, zq4, zq5, zq6]
  refine wpAnyH_ready (rs := [11]) (by kernel_rfl) (by simp) ?_
  refine AllReadyH.cons rfl (fun KK hK => ?_) AllReadyH.nil
  simp only [zq1, zq2, zq3]
  rw [if_pos (by rfl)]
  go_simp
  clear hH
  refine hK.out _ _ ?_ (fun hH => ?_)
  ·exact cell_off _ _ _ _ _ _ y2 (by decide)
  clear hK KK
  try simp only [Act.put, zq1, zq2, zq3, zq4, zq5, zq6]
  refine wpAnyH_done (by kernel_rfl) ?_ _
  clear hH
  have mS : Mod (fun i => i = w2.heap.size) w4 (w4.setCell ⟨w2.heap.size, 0, none⟩ (.slice aq ZQ.length cq)) := (Mod.refl (fun i => i = w2.heap.size) _).set (p := ⟨w2.heap.size, 0, none⟩) (.inl rfl) _
  replace n4 := n4.mod mS (fun e => by omega) (fun i e e' => (u4' i e).1 e')
  replace d1 := d1.same (mS.side d1.lt (fun e => by omega))
  replace d2 := d2.same (mS.side d2.lt (fun e => by omega))
  replace oq := mS.own oq (fun i e e' => by have := uq i e; omega)
  replace rf0 := mS.loose (a := ⟨w.heap.size, 0, none⟩) (fun e => by dsimp only at e; omega) (zbl r0) rf0
  replace r0 := mS.cell (a := ⟨w.heap.size, 0, none⟩) (fun e => by dsimp only at e; omega) r0
  replace rf1 := mS.loose (a := ⟨w.heap.size, 1, none⟩) (fun e => by dsimp only at e; omega) (zbl r1) rf1
  replace r1 := mS.cell (a := ⟨w.heap.size, 1, none⟩) (fun e => by dsimp only at e; omega) r1
  replace rf2 := mS.loose (a := ⟨w.heap.size, 2, none⟩) (fun e => by dsimp only at e; omega) (zbl r2) rf2
  replace r2 := mS.cell (a := ⟨w.heap.size, 2, none⟩) (fun e => by dsimp only at e; omega) r2
  replace rf3 := mS.loose (a := ⟨w.heap.size, 3, none⟩) (fun e => by dsimp only at e; omega) (zbl r3) rf3
  replace r3 := mS.cell (a := ⟨w.heap.size, 3, none⟩) (fun e => by dsimp only at e; omega) r3
  replace yf0 : (w4.setCell ⟨w2.heap.size, 0, none⟩ (.slice aq ZQ.length cq)).frozen? ⟨w2.heap.size, 0, none⟩ = false := by rw [frozen_set]; exact yf0
  replace yf1 : (w4.setCell ⟨w2.heap.size, 0, none⟩ (.slice aq ZQ.length cq)).frozen? ⟨w2.heap.size, 1, none⟩ = false := by rw [frozen_set]; exact yf1
  replace yf2 : (w4.setCell ⟨w2.heap.size, 0, none⟩ (.slice aq ZQ.length cq)).frozen? ⟨w2.heap.size, 2, none⟩ = false := by rw [frozen_set]; exact yf2
  replace yf3 : (w4.setCell ⟨w2.heap.size, 0, none⟩ (.slice aq ZQ.length cq)).frozen? ⟨w2.heap.size, 3, none⟩ = false := by rw [frozen_set]; exact yf3
  replace y0 : (w4.setCell ⟨w2.heap.size, 0, none⟩ (.slice aq ZQ.length cq)).cell? ⟨w2.heap.size, 0, none⟩ = some (.slice aq ZQ.length cq) := cell_on _ _ _ _ _ y0
  replace y1 : (w4.setCell ⟨w2.heap.size, 0, none⟩ (.slice aq ZQ.length cq)).cell? ⟨w2.heap.size, 1, none⟩ = some _ := cell_off _ _ _ _ _ _ y1 (by decide)
  replace y2 : (w4.setCell ⟨w2.heap.size, 0, none⟩ (.slice aq ZQ.length cq)).cell? ⟨w2.heap.size, 2, none⟩ = some _ := cell_off _ _ _ _ _ _ y2 (by decide)
  replace y3 : (w4.setCell ⟨w2.heap.size, 0, none⟩ (.slice aq ZQ.length cq)).cell? ⟨w2.heap.size, 3, none⟩ = some _ := cell_off _ _ _ _ _ _ y3 (by decide)
  replace MM : Hid (Mod (fun i => i = g1 ∨ i = g2 ∨ v1.ownBlock = some i) w (w4.setCell ⟨w2.heap.size, 0, none⟩ (.slice aq ZQ.length cq))) := (unhide MM).set (p := ⟨w2.heap.size, 0, none⟩) (.inr (by dsimp only; omega)) _
  clear mS
  generalize w4.setCell ⟨w2.heap.size, 0, none⟩ (.slice aq ZQ.length cq) = W5 at *
  go_wp2_with fail
  have c1 := d1.1
  have c2 := d2.1
  have hsg : (s1 == s2) = !SG := by rw [← unhide HSG]; cases s1 <;> cases s2 <;> rfl
  refine wp_region_held_drew (S := (fun wz => wz.cell? ⟨g1, 1, none⟩ = some (.bool s1) ∧ wz.cell? ⟨g2, 1, none⟩ = some (.bool s2))) (by kernel_rfl) ?_ (fun hH => ?_)
  ·exact ⟨((Kept.refl 0 0 W5).drew).cell0 c1, ((Kept.refl 0 0 W5).drew).cell0 c2⟩
  have kd := (Kept.refl 0 0 W5).drew
  replace n4 := n4.kept kd
  replace d1 := d1.kept kd
  replace d2 := d2.kept kd
  replace oq := own_kept oq kd
  replace rf0 := kd.loose0 (zbl r0) rf0
  replace r0 := kd.cell0 r0
  replace rf1 := kd.loose0 (zbl r1) rf1
  replace r1 := kd.cell0 r1
  replace rf2 := kd.loose0 (zbl r2) rf2
  replace r2 := kd.cell0 r2
  replace rf3 := kd.loose0 (zbl r3) rf3
  replace r3 := kd.cell0 r3
  replace yf0 := kd.loose0 (zbl y0) yf0
  replace y0 := kd.cell0 y0
  replace yf1 := kd.loose0 (zbl y1) yf1
  replace y1 := kd.cell0 y1
  replace yf2 := kd.loose0 (zbl y2) yf2
  replace y2 := kd.cell0 y2
  replace yf3 := kd.loose0 (zbl y3) yf3
  replace y3 := kd.cell0 y3
  replace c1 := kd.cell0 c1
  replace c2 := kd.cell0 c2
  replace MM := hide ((unhide MM).kept kd)
  clear kd
  generalize W5.drew = W6 at *
  refine wpAnyH_take (i := 0) (v := .pointer (some ⟨g1, 0, none⟩)) rfl (by kernel_rfl) (by kernel_rfl) (by kernel_rfl) (fun _ _ _ h => h) (Or.inl ⟨by rfl, ?_⟩) hH ?_
  ·intro wq hSw
   try dsimp only at hSw
   go_simp
  try simp only [Act.put, zq1, zq2, zq3, zq4, zq5, zq6]
  refine wpAnyH_take (i := 1) (v := .pointer (some ⟨g1, 0, none⟩)) rfl (by kernel_rfl) (by kernel_rfl) (by kernel_rfl) (fun _ _ _ h => h) (Or.inl ⟨by rfl, ?_⟩) hH ?_
  ·intro wq hSw
   try dsimp only at hSw
   go_simp
  try simp only [Act.put, zq1, zq2, zq3, zq4, zq5, zq6]
  refine wpAnyH_take (i := 2) (v := .pointer (some ⟨g1, 0, none⟩)) rfl (by kernel_rfl) (by kernel_rfl) (by kernel_rfl) (fun _ _ _ h => h) (Or.inl ⟨by rfl, ?_⟩) hH ?_
  ·intro wq hSw
   try dsimp only at hSw
   go_simp
  try simp only [Act.put, zq1, zq2, zq3, zq4, zq5, zq6]
  refine wpAnyH_take (i := 3) (v := .pointer (some ⟨g1, 1, none⟩)) rfl (by kernel_rfl) (by kernel_rfl) (by kernel_rfl) (fun _ _ _ h => h) (Or.inl ⟨by rfl, ?_⟩) hH ?_
  ·intro wq hSw
   try dsimp only at hSw
   go_simp
  try simp only [Act.put, zq1, zq2, zq3, zq4, zq5, zq6]
  refine wpAnyH_take (i := 4) (v := .bool s1) rfl (by kernel_rfl) (by kernel_rfl) (by kernel_rfl) (fun _ _ _ h => h) (Or.inl ⟨by rfl, ?_⟩) hH ?_
  ·intro wq hSw
   try dsimp only at hSw
   go_simp
  try simp only [Act.put, zq1, zq2, zq3, zq4, zq5, zq6]
  refine wpAnyH_take (i := 5) (v := .pointer (some ⟨g2, 0, none⟩)) rfl (by kernel_rfl) (by kernel_rfl) (by kernel_rfl) (fun _ _ _ h => h) (Or.inl ⟨by rfl, ?_⟩) hH ?_
  ·intro wq hSw
   try dsimp only at hSw
   go_simp
  try simp only [Act.put, zq1, zq2, zq3, zq4, zq5, zq6]
  refine wpAnyH_take (i := 6) (v := .pointer (some ⟨g2, 0, none⟩)) rfl (by kernel_rfl) (by kernel_rfl) (by kernel_rfl) (fun _ _ _ h => h) (Or.inl ⟨by rfl, ?_⟩) hH ?_
  ·intro wq hSw
   try dsimp only at hSw
   go_simp
  try simp only [Act.put, zq1, zq2, zq3, zq4, zq5, zq6]
  refine wpAnyH_take (i := 7) (v := .pointer (some ⟨g2, 0, none⟩)) rfl (by kernel_rfl) (by kernel_rfl) (by kernel_rfl) (fun _ _ _ h => h) (Or.inl ⟨by rfl, ?_⟩) hH ?_
  ·intro wq hSw
   try dsimp only at hSw
   go_simp
  try simp only [Act.put, zq1, zq2, zq3, zq4, zq5, zq6]
  refine wpAnyH_take (i := 8) (v := .pointer (some ⟨g2, 1, none⟩)) rfl (by kernel_rfl) (by kernel_rfl) (by kernel_rfl) (fun _ _ _ h => h) (Or.inl ⟨by rfl, ?_⟩) hH ?_
  ·intro wq hSw
   try dsimp only at hSw
   go_simp
  try simp only [Act.put, zq1, zq2, zq3, zq4, zq5, zq6]
  refine wpAnyH_take (i := 9) (v := .bool s2) rfl (by kernel_rfl) (by kernel_rfl) (by kernel_rfl) (fun _ _ _ h => h) (Or.inl ⟨by rfl, ?_⟩) hH ?_
  ·intro wq hSw
   try dsimp only at hSw
   go_simp
  try simp only [Act.put, zq1, zq2, zq3, zq4, zq5, zq6]
  refine wpAnyH_take (i := 10) (v := .bool SG) rfl (by kernel_rfl) (by kernel_rfl) (by kernel_rfl) (fun _ _ _ h => h) (Or.inl ⟨by rfl, ?_⟩) hH ?_
  ·intro wq hSw
   try dsimp only at hSw
   go_simp
  try simp only [Act.put, zq1, zq2, zq3, zq4, zq5, zq6]
  refine wpAnyH_take (i := 11) (v := .pointer (some ⟨w2.heap.size, 0, none⟩)) rfl (by kernel_rfl) (by kernel_rfl) (by kernel_rfl) (fun _ _ _ h => h) (Or.inl ⟨by rfl, ?_⟩) hH ?_
  ·intro wq hSw
   try dsimp only at hSw
   go_simp
  try simp only [Act.put, zq1, zq2, zq3, zq4, zq5, zq6]
  refine wpAnyH_take (i := 12) (v := .pointer (some ⟨w2.heap.size, 1, none⟩)) rfl (by kernel_rfl) (by kernel_rfl) (by kernel_rfl) (fun _ _ _ h => h) (Or.inl ⟨by rfl, ?_⟩) hH ?_
  ·intro wq hSw
   try dsimp only at hSw
   go_simp
  try simp only [Act.put, zq1, zq2, zq3, zq4, zq5, zq6]
  refine wpAnyH_ready (rs := [13]) (by kernel_rfl) (by simp) ?_
  refine AllReadyH.cons rfl (fun KK hK => ?_) AllReadyH.nil
  simp only [zq1, zq2, zq3]
  rw [if_pos (by rfl)]
  go_simp
  clear hH
  refine hK.out _ _ ?_ (fun hH => ?_)
  ·exact ⟨cell_aside _ (by dsimp only; omega) c1, cell_aside _ (by dsimp only; omega) c2⟩
  clear hK KK
  try simp only [Act.put, zq1, zq2, zq3, zq4, zq5, zq6]
  refine wpAnyH_done (by kernel_rfl) ?_ _
  clear hH c1 c2 hsg
  have mS : Mod (fun i => i = w2.heap.size) W6 (W6.setCell ⟨w2.heap.size, 1, none⟩ (.bool SG)) := (Mod.refl (fun i => i = w2.heap.size) _).set (p := ⟨w2.heap.size, 1, none⟩) (.inl rfl) _
  replace n4 := n4.mod mS (fun e => by omega) (fun i e e' => (u4' i e).1 e')
  replace d1 := d1.same (mS.side d1.lt (fun e => by omega))
  replace d2 := d2.same (mS.side d2.lt (fun e => by omega))
  replace oq := mS.own oq (fun i e e' => by have := uq i e; omega)
  replace rf0 := mS.loose (a := ⟨w.heap.size, 0, none⟩) (fun e => by dsimp only at e; omega) (zbl r0) rf0
  replace r0 := mS.cell (a := ⟨w.heap.size, 0, none⟩) (fun e => by dsimp only at e; omega) r0
  replace rf1 := mS.loose (a := ⟨w.heap.size, 1, none⟩) (fun e => by dsimp only at e; omega) (zbl r1) rf1
  replace r1 := mS.cell (a := ⟨w.heap.size, 1, none⟩) (fun e => by dsimp only at e; omega) r1
  replace rf2 := mS.loose (a := ⟨w.heap.size, 2, none⟩) (fun e => by dsimp only at e; omega) (zbl r2) rf2
  replace r2 := mS.cell (a := ⟨w.heap.size, 2, none⟩) (fun e => by dsimp only at e; omega) r2
  replace rf3 := mS.loose (a := ⟨w.heap.size, 3, none⟩) (fun e => by dsimp only at e; omega) (zbl r3) rf3
  replace r3 := mS.cell (a := ⟨w.heap.size, 3, none⟩) (fun e => by dsimp only at e; omega) r3
  replace yf0 : (W6.setCell ⟨w2.heap.size, 1, none⟩ (.bool SG)).frozen? ⟨w2.heap.size, 0, none⟩ = false := by rw [frozen_set]; exact yf0
  replace yf1 : (W6.setCell ⟨w2.heap.size, 1, none⟩ (.bool SG)).frozen? ⟨w2.heap.size, 1, none⟩ = false := by rw [frozen_set]; exact yf1
  replace yf2 : (W6.setCell ⟨w2.heap.size, 1, none⟩ (.bool SG)).frozen? ⟨w2.heap.size, 2, none⟩ = false := by rw [frozen_set]; exact yf2
  replace yf3 : (W6.setCell ⟨w2.heap.size, 1, none⟩ (.bool SG)).frozen? ⟨w2.heap.size, 3, none⟩ = false := by rw [frozen_set]; exact yf3
  replace y0 : (W6.setCell ⟨w2.heap.size, 1, none⟩ (.bool SG)).cell? ⟨w2.heap.size, 0, none⟩ = some _ := cell_off _ _ _ _ _ _ y0 (by decide)
  replace y1 : (W6.setCell ⟨w2.heap.size, 1, none⟩ (.bool SG)).cell? ⟨w2.heap.size, 1, none⟩ = some (.bool SG) := cell_on _ _ _ _ _ y1
  replace y2 : (W6.setCell ⟨w2.heap.size, 1, none⟩ (.bool SG)).cell? ⟨w2.heap.size, 2, none⟩ = some _ := cell_off _ _ _ _ _ _ y2 (by decide)
  replace y3 : (W6.setCell ⟨w2.heap.size, 1, none⟩ (.bool SG)).cell? ⟨w2.heap.size, 3, none⟩ = some _ := cell_off _ _ _ _ _ _ y3 (by decide)
  replace MM : Hid (Mod (fun i => i = g1 ∨ i = g2 ∨ v1.ownBlock = some i) w (W6.setCell ⟨w2.heap.size, 1, none⟩ (.bool SG))) := (unhide MM).set (p := ⟨w2.heap.size, 1, none⟩) (.inr (by dsimp only; omega)) _
  clear mS
  generalize W6.setCell ⟨w2.heap.size, 1, none⟩ (.bool SG) = W7 at *
  go_wp2_with fail
  have hz := isZero_impl _ n4
  rw [unhide HNZ] at hz
  refine hz.mono ?_
  rintro e w8 ⟨rfl, hw8⟩
  subst hw8
  clear hz HNZ
  have ao := own_base oq (b' := w.heap.size) (fun i e => by have := uq i e; omega)
  have apY : (Value.slice aq ZQ.length cq).ownBlock ≠ some w2.heap.size := fun e => by have := uq _ e; omega
  have apR : (Value.slice aq ZQ.length cq).ownBlock ≠ some w.heap.size := fun e => by have := uq _ e; omega
  have FIN : Hid ((((((w8.setCell ⟨w2.heap.size, 3, none⟩ (.bool !NZ)).setCell ⟨w.heap.size, 0, none⟩ (.slice aq ZQ.length cq)).setCell ⟨w.heap.size, 1, none⟩ (.bool SG)).setCell ⟨w.heap.size, 2, none⟩ (.int .i64 low)).setCell ⟨w.heap.size, 3, none⟩ (.bool !NZ)).ownsRow w.heap.size 3 1 (.slice aq ZQ.length cq) ZQ.length (ZQ.map (Value.int .i64)) ∧ Mod (fun i => i = g1 ∨ i = g2 ∨ v1.ownBlock = some i) w (((((w8.setCell ⟨w2.heap.size, 3, none⟩ (.bool !NZ)).setCell ⟨w.heap.size, 0, none⟩ (.slice aq ZQ.length cq)).setCell ⟨w.heap.size, 1, none⟩ (.bool SG)).setCell ⟨w.heap.size, 2, none⟩ (.int .i64 low)).setCell ⟨w.heap.size, 3, none⟩ (.bool !NZ))) :=
   ⟨own_apart (own_apart (own_apart (own_apart (own_apart ao (p := ⟨w2.heap.size, 3, none⟩) apY _) (p := ⟨w.heap.size, 0, none⟩) apR _) (p := ⟨w.heap.size, 1, none⟩) apR _) (p := ⟨w.heap.size, 2, none⟩) apR _) (p := ⟨w.heap.size, 3, none⟩) apR _, ((((((unhide MM).set (p := ⟨w2.heap.size, 3, none⟩) (.inr (by dsimp only; omega)) _).set (p := ⟨w.heap.size, 0, none⟩) (.inr (Nat.le_refl _)) _).set (p := ⟨w.heap.size, 1, none⟩) (.inr (Nat.le_refl _)) _).set (p := ⟨w.heap.size, 2, none⟩) (.inr (Nat.le_refl _)) _).set (p := ⟨w.heap.size, 3, none⟩) (.inr (Nat.le_refl _)) _)⟩
  have hRY : ¬ w.heap.size = w2.heap.size := by omega
  have hYR : ¬ w2.heap.size = w.heap.size := by omega
  clear ao apY apR n4 d1 d2 oq MM uq u4' hZY hSZ ZY SZ z1 z2 o1 o2 ol1 ol2 ul1 HZQ HZR hlx hly
  go_wp2_with fail
  exact bodyPost_ret (v := .agg #[.slice aq ZQ.length cq, .bool SG, .int .i64 low, .bool !NZ]) (by simp [results, Tryd.results55, go_sem, r0, r1, r2, r3]) rfl ⟨_, rfl, (unhide FIN).1, (unhide FIN).2⟩

end Go.Proofs.YtflpkblmcnkghaaDoor

