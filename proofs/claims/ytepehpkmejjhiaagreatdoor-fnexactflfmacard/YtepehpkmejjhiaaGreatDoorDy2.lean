/-
  Dyadic numbers: the model's l4top and DyTop; the program's dyadicOf, top and DyTop.
-/
import Derived.Test.YtepehpkmejjhiaaGreatDoorDy1
import Derived.Test.YtepehpkmejjhiaaGreatDoorBI
namespace Go.Proofs.YtepehpkmejjhiaaGreatDoor
open Go.RowKit
set_option linter.unusedVariables false
set_option maxRecDepth 8000
set_option linter.unusedSimpArgs false

theorem w64 (n : Int) (h0 : -9223372036854775808 ≤ n) (h1 : n ≤ 9223372036854775807) : IntKind.i64.wrap n = n := by rw [IntKind.wrap_i64]; omega
/-- The power of two behind the highest bit. -/
def topI (zs : List Int) (x : Int) : Int := if zs.length = 0 then 0 else x + (bitsN (val zs).toNat : Int)
theorem bitsN_limbs {zs : List Int} (hn : Nrm zs) : bitsN (val zs).toNat ≤ 16 * zs.length := by
  by_cases h0 : (val zs).toNat = 0
  · rw [h0]; exact Nat.zero_le _
  · unfold bitsN
    rw [if_neg h0]
    have h1 := val_lt hn.1
    have h2 := val_nonneg hn.1
    rw [pow_limb] at h1
    have h3 : (val zs).toNat < 2 ^ (16 * zs.length) := by omega
    have := (Nat.log2_lt h0).2 h3
    omega

theorem in_l2bits : ∀ (w : World) (args : Array Value), (callFunc 134 args).run Tryz.prog w = .ok (.enter 134 args) w := enters Tryz.func134 (by decide) (fun h => by cases h)

theorem in_bits : ∀ (w : World) (args : Array Value), (callFunc 122 args).run Tryz.prog w = .ok (.enter 122 args) w := enters Tryz.func122 (by decide) (fun h => by cases h)

set_option maxHeartbeats 1000000 in
theorem top4_spec {bw : Bool} {lo hi : Nat} {v : Value} {zs : List Int} (b : Bool) (x : Int) (hx1 : x ≤ 1000000) (hx0 : -1000000 ≤ x) (w : World) (r : Row .i64 bw lo hi w v zs) (hn : Nrm zs) (hl : zs.length ≤ 100000) :
    Calls Tryz.prog 104 #[.agg #[.bool b, v, .int .i64 x]] w fun e w' => e = .returned (.int .i64 (topI zs x)) ∧ Kept 0 0 w w' := by
  have k0 : Kept 0 0 w (w.alloc (.cells #[.bool b, v, .int .i64 x] 37)) := ((Kept.refl 0 0 w).alloc (.cells #[.bool b, v, .int .i64 x] 37))
  have p0 : (w.alloc (.cells #[.bool b, v, .int .i64 x] 37)).cell? ⟨w.heap.size, 0, none⟩ = some (.bool b) := new_cell2 _ _ _ _ _ _ (by simp) rfl
  have p1 : (w.alloc (.cells #[.bool b, v, .int .i64 x] 37)).cell? ⟨w.heap.size, 1, none⟩ = some (v) := new_cell2 _ _ _ _ _ _ (by simp) rfl
  have p2 : (w.alloc (.cells #[.bool b, v, .int .i64 x] 37)).cell? ⟨w.heap.size, 2, none⟩ = some (.int .i64 x) := new_cell2 _ _ _ _ _ _ (by simp) rfl
  replace r := r.kept k0 (by omega)
  have s0 : (w.alloc (.cells #[.bool b, v, .int .i64 x] 37)).heap.size = w.heap.size + 1 := by simp
  obtain ⟨a, c, hv⟩ := Row.form' r
  subst hv
  have K := hide (k0)
  clear k0
  have S0 := hide s0
  clear s0
  go_enter Tryz.func104, Tryz.ntmps104
  by_cases h0 : zs.length = 0
  · have HT : Hid (topI zs x = 0) := if_pos h0
    have hz : zs = [] := List.length_eq_zero_iff.1 h0
    subst hz
    clear r
    go_wp2_with fail
    go_ret
    exact ⟨by rw [unhide HT]; rfl, unhide K⟩
  have h3 : 0 < zs.length := by omega
  have hb0 : ((zs.length : Int) == 0) = false := beq_eq_false_iff_ne.2 (by omega)
  have HT : Hid (topI zs x = x + (bitsN (val zs).toNat : Int)) := if_neg h0
  go_wp2_with fail
  generalize (w.alloc (.cells #[.bool b, .slice a zs.length c, .int .i64 x] 37)) = W at *
  have hbn := bitsN_limbs hn
  have HB := hide (bits_spec _ (r.kept (Kept.refl 0 0 W).drew (by omega)) hn (by omega))
  generalize bitsN (val zs).toNat = B at *
  have hw1 : IntKind.i64.wrap (x + (B : Int)) = x + (B : Int) := w64 _ (by omega) (by omega)
  have kd := (Kept.refl 0 0 W).drew
  replace r := r.kept kd (by omega)
  replace p0 := kd.cell0 p0
  replace p1 := kd.cell0 p1
  replace p2 := kd.cell0 p2
  replace K := hide ((unhide K).trans kd)
  have z1 := kd.size
  clear kd
  refine wp_region_held_drew (S := (fun w' => w'.cell? ⟨w.heap.size, 1, none⟩ = some (.slice a zs.length c) ∧ w'.cell? ⟨w.heap.size, 2, none⟩ = some (.int .i64 x))) (by kernel_rfl) ?_ (fun hHeld => ?_)
  · exact ⟨p1, p2⟩
  refine wT (i := 0) (v := .pointer (some ⟨w.heap.size, 2, none⟩)) rfl (Or.inl ⟨by rfl, ?_⟩) hHeld ?_
  · intro wq hSw
    try dsimp only at hSw
    go_simp
  try simp only [Act.put, zq1, zq2, zq3, zq4, zq5, zq6]
  refine wT (i := 1) (v := .int .i64 x) rfl (Or.inl ⟨by rfl, ?_⟩) hHeld ?_
  · intro wq hSw
    try dsimp only at hSw
    go_simp
  try simp only [Act.put, zq1, zq2, zq3, zq4, zq5, zq6]
  refine wT (i := 2) (v := .pointer (some ⟨w.heap.size, 0, none⟩)) rfl (Or.inl ⟨by rfl, ?_⟩) hHeld ?_
  · intro wq hSw
    try dsimp only at hSw
    go_simp
  try simp only [Act.put, zq1, zq2, zq3, zq4, zq5, zq6]
  refine wT (i := 3) (v := .pointer (some ⟨w.heap.size, 1, none⟩)) rfl (Or.inl ⟨by rfl, ?_⟩) hHeld ?_
  · intro wq hSw
    try dsimp only at hSw
    go_simp
  try simp only [Act.put, zq1, zq2, zq3, zq4, zq5, zq6]
  refine wT (i := 4) (v := .agg #[.slice a zs.length c]) rfl (Or.inl ⟨by rfl, ?_⟩) hHeld ?_
  · intro wq hSw
    try dsimp only at hSw
    go_simp
  try simp only [Act.put, zq1, zq2, zq3, zq4, zq5, zq6]
  refine wR 5 (by kernel_rfl) rfl (fun KK hK => ?_)
  simp only [zq1, zq2, zq3]
  rw [if_pos (by rfl)]
  refine wps1 134 (.tmp 13) _ rfl in_l2bits (.agg #[.slice a zs.length c]) rfl (unhide HB) ?_
  rintro e w2 ⟨rfl, k2⟩
  refine ⟨_, rfl, ?_⟩
  replace r := r.kept k2 (by omega)
  replace p0 := k2.cell0 p0
  replace p1 := k2.cell0 p1
  replace p2 := k2.cell0 p2
  replace K := hide ((unhide K).trans k2)
  have z3 := k2.size
  clear k2
  clear hHeld
  refine hK.out _ _ ?_ (fun hHeld => ?_)
  · exact ⟨p1, p2⟩
  clear hK KK
  try simp only [Act.put, zq1, zq2, zq3, zq4, zq5, zq6]
  refine wT (i := 6) (v := .int .i64 (x + (B : Int))) rfl (Or.inl ⟨by rfl, ?_⟩) hHeld ?_
  · intro wq hSw
    try dsimp only at hSw
    go_simp
  try simp only [Act.put, zq1, zq2, zq3, zq4, zq5, zq6]
  refine wT (i := 7) (v := .int .i64 (x + (B : Int))) rfl (Or.inl ⟨by rfl, ?_⟩) hHeld ?_
  · intro wq hSw
    try dsimp only at hSw
    go_simp
  try simp only [Act.put, zq1, zq2, zq3, zq4, zq5, zq6]
  refine wpAnyH_done (by kernel_rfl) ?_ _
  clear hHeld
  clear HB
  go_wp2_with fail
  go_ret
  exact ⟨by rw [unhide HT]; rfl, unhide K⟩

/-- A dyadic number's power of two, in the third cell of its block. -/
def Ex (w : World) (g : Nat) (x : Int) : Prop := w.cell? ⟨g, 2, none⟩ = some (.int .i64 x) ∧ w.frozen? ⟨g, 2, none⟩ = false
theorem Ex.tail {w w' : World} {g : Nat} {x : Int} (h : Ex w g x) (k : SameTail g w w') : Ex w' g x := ⟨(k 2 (Nat.le_refl 2)).1.trans h.1, (k 2 (Nat.le_refl 2)).2.trans h.2⟩
theorem Ex.lt {w : World} {g : Nat} {x : Int} (h : Ex w g x) : g < w.heap.size := World.block_lt_of_cell? _ ⟨g, 2, none⟩ h.1
theorem Ex.kept {w w' : World} {g : Nat} {x : Int} (h : Ex w g x) (k : Kept 0 0 w w') : Ex w' g x := h.tail (k.side h.lt).tail
theorem new_dya {w : World} {b : Nat} {u : Value} {xs : List Int} (s : Bool) (x : Int) (t : TypeId) (O : w.ownsRow b 3 1 u xs.length (xs.map (Value.int .i64))) :
    Num b (w.alloc (.cells #[u, .bool s, .int .i64 x] t)) w.heap.size u xs ∧ Sd (w.alloc (.cells #[u, .bool s, .int .i64 x] t)) w.heap.size s ∧ Ex (w.alloc (.cells #[u, .bool s, .int .i64 x] t)) w.heap.size x :=
  ⟨⟨new_cell2 _ _ _ _ _ _ rfl rfl, new_loose2 _ _ _ _ _ rfl, own_kept O ((Kept.refl 0 0 w).alloc _), fun e => by have := (O.lt _ e).2; omega⟩, ⟨new_cell2 _ _ _ _ _ _ rfl rfl, new_loose2 _ _ _ _ _ rfl⟩, ⟨new_cell2 _ _ _ _ _ _ rfl rfl, new_loose2 _ _ _ _ _ rfl⟩⟩

set_option maxHeartbeats 1000000 in
theorem top_impl {b g : Nat} {v : Value} {zs : List Int} {x : Int} (w : World) (h : Num b w g v zs) (d : Ex w g x) (hn : Nrm zs) (hl : zs.length ≤ 100000) (hx1 : x ≤ 1000000) (hx0 : -1000000 ≤ x) :
    Calls Tryz.prog 84 #[.pointer (some ⟨g, 0, none⟩)] w fun e w' => e = .returned (.int .i64 (topI zs x)) ∧ Kept 0 0 w w' := by
  have hc2 := d.1
  have hz := isZero_impl w h
  have HBI := hide (bitsM_impl w.drew (h.kept (Kept.refl 0 0 w).drew) hn (by omega))
  have hbn := bitsN_limbs hn
  go_enter Tryz.func84, Tryz.ntmps84
  go_wp2_with fail
  refine hz.mono ?_
  rintro e w1 ⟨rfl, rfl⟩
  clear hz
  by_cases h0 : zs.length = 0
  · rw [decide_eq_true h0]
    have HT : Hid (topI zs x = 0) := if_pos h0
    clear h HBI
    go_wp2_with fail
    go_ret
    exact ⟨by rw [unhide HT]; rfl, Kept.refl 0 0 _⟩
  rw [decide_eq_false h0]
  have HT : Hid (topI zs x = x + (bitsN (val zs).toNat : Int)) := if_neg h0
  generalize bitsN (val zs).toNat = B at *
  have hw1 : IntKind.i64.wrap ((B : Int) + x) = x + (B : Int) := by rw [w64 _ (by omega) (by omega)]; omega
  clear h
  go_wp2_with fail
  refine wp_region_held_drew (S := (fun w' => w'.cell? ⟨g, 2, none⟩ = some (.int .i64 x))) (by kernel_rfl) ?_ (fun hHeld => ?_)
  · exact hc2
  refine wT (i := 0) (v := .pointer (some ⟨g, 0, none⟩)) rfl (Or.inl ⟨by rfl, ?_⟩) hHeld ?_
  · intro wq hSw
    try dsimp only at hSw
    go_simp
  try simp only [Act.put, zq1, zq2, zq3, zq4, zq5, zq6]
  refine wT (i := 1) (v := .pointer (some ⟨g, 0, none⟩)) rfl (Or.inl ⟨by rfl, ?_⟩) hHeld ?_
  · intro wq hSw
    try dsimp only at hSw
    go_simp
  try simp only [Act.put, zq1, zq2, zq3, zq4, zq5, zq6]
  refine wT (i := 2) (v := .pointer (some ⟨g, 0, none⟩)) rfl (Or.inl ⟨by rfl, ?_⟩) hHeld ?_
  · intro wq hSw
    try dsimp only at hSw
    go_simp
  try simp only [Act.put, zq1, zq2, zq3, zq4, zq5, zq6]
  refine wT (i := 3) (v := .pointer (some ⟨g, 0, none⟩)) rfl (Or.inl ⟨by rfl, ?_⟩) hHeld ?_
  · intro wq hSw
    try dsimp only at hSw
    go_simp
  try simp only [Act.put, zq1, zq2, zq3, zq4, zq5, zq6]
  refine wT (i := 5) (v := .pointer (some ⟨g, 0, none⟩)) rfl (Or.inl ⟨by rfl, ?_⟩) hHeld ?_
  · intro wq hSw
    try dsimp only at hSw
    go_simp
  try simp only [Act.put, zq1, zq2, zq3, zq4, zq5, zq6]
  refine wT (i := 6) (v := .pointer (some ⟨g, 0, none⟩)) rfl (Or.inl ⟨by rfl, ?_⟩) hHeld ?_
  · intro wq hSw
    try dsimp only at hSw
    go_simp
  try simp only [Act.put, zq1, zq2, zq3, zq4, zq5, zq6]
  refine wT (i := 7) (v := .pointer (some ⟨g, 2, none⟩)) rfl (Or.inl ⟨by rfl, ?_⟩) hHeld ?_
  · intro wq hSw
    try dsimp only at hSw
    go_simp
  try simp only [Act.put, zq1, zq2, zq3, zq4, zq5, zq6]
  refine wT (i := 8) (v := .int .i64 x) rfl (Or.inl ⟨by rfl, ?_⟩) hHeld ?_
  · intro wq hSw
    try dsimp only at hSw
    go_simp
  try simp only [Act.put, zq1, zq2, zq3, zq4, zq5, zq6]
  refine wR 4 (by kernel_rfl) rfl (fun KK hK => ?_)
  simp only [zq1, zq2, zq3]
  rw [if_pos (by rfl)]
  refine wps1 122 (.tmp 11) _ rfl in_bits (.pointer (some ⟨g, 0, none⟩)) rfl (unhide HBI) ?_
  rintro e w2 ⟨rfl, k2⟩
  refine ⟨_, rfl, ?_⟩
  clear hHeld
  refine hK.out _ _ ?_ (fun hHeld => ?_)
  · exact k2.cell0 hc2
  clear hK KK
  try simp only [Act.put, zq1, zq2, zq3, zq4, zq5, zq6]
  refine wT (i := 9) (v := .int .i64 (x + (B : Int))) rfl (Or.inl ⟨by rfl, ?_⟩) hHeld ?_
  · intro wq hSw
    try dsimp only at hSw
    go_simp
  try simp only [Act.put, zq1, zq2, zq3, zq4, zq5, zq6]
  refine wT (i := 10) (v := .int .i64 (x + (B : Int))) rfl (Or.inl ⟨by rfl, ?_⟩) hHeld ?_
  · intro wq hSw
    try dsimp only at hSw
    go_simp
  try simp only [Act.put, zq1, zq2, zq3, zq4, zq5, zq6]
  refine wpAnyH_done (by kernel_rfl) ?_ _
  clear hHeld
  have K2 := hide ((Kept.refl 0 0 _).drew.trans k2)
  clear k2 HBI
  go_wp2_with fail
  go_ret
  exact ⟨by rw [unhide HT]; rfl, unhide K2⟩

end Go.Proofs.YtepehpkmejjhiaaGreatDoor

