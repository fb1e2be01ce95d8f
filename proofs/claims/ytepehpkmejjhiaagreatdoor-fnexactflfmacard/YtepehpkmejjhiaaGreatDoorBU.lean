/-
  Contracts that the proofs of this seat share: INat8, FlW, Flt1, Flt2.
-/
import Derived.Test.YtepehpkmejjhiaaGreatDoorBF
import Derived.Test.YtepehpkmejjhiaaGreatDoorBC
import Derived.Test.YtepehpkmejjhiaaGreatDoorBR
import Derived.Test.YtepehpkmejjhiaaGreatDoorBS
namespace Go.Proofs.YtepehpkmejjhiaaGreatDoor
open Go.RowKit
set_option linter.unusedVariables false
set_option maxRecDepth 8000

theorem nrm_len4 {zs : List Int} (h : Nrm zs) (hv : val zs ≤ 4611686018427387903) : zs.length ≤ 4 := by
  rw [nrm_limbs h, limbs_length_le]
  have : (65536 : Int) ^ 4 = 18446744073709551616 := by decide
  have := val_nonneg h.1
  omega
theorem val_take_le {zs : List Int} (h : Lim zs) (k : Nat) (hk : k ≤ zs.length) : val (zs.take k) ≤ val zs := by
  have e := val_take_drop zs k hk
  have h2 := val_nonneg (h.drop k)
  have h3 : 0 ≤ (65536 : Int) ^ k * val (zs.drop k) := Int.mul_nonneg (Int.le_of_lt (Int.pow_pos (by decide))) h2
  omega

set_option linter.unusedSimpArgs false

set_option maxHeartbeats 1000000 in
theorem bits_work {b g : Nat} {v : Value} {zs : List Int} (w : World) (h : Work b w g v zs) (hl : Nrm zs) (hlen : zs.length ≤ 1000000) :
    Calls Tryz.prog 122 #[.pointer (some ⟨g, 0, none⟩)] w fun e w' => e = .returned (.int .i64 (bitsN (val zs).toNat)) ∧ Kept 0 0 w w' := by
  have hc := h.cell
  obtain ⟨a1, c1, rfl⟩ := h.form
  by_cases h0 : zs = []
  · subst h0
    have e0 : bitsN (val []).toNat = 0 := rfl
    rw [e0]
    clear h
    go_enter Tryz.func122, Tryz.ntmps122
    go_wp2
    go_ret
    exact ⟨rfl, Kept.refl _ _ _⟩
  · have h1 : 0 < zs.length := List.length_pos_iff.2 h0
    obtain ⟨n, hn⟩ : ∃ n, zs.length = n + 1 := ⟨zs.length - 1, by omega⟩
    have htop : zs.getD n 0 ≠ 0 := hl.2 _ (by rw [List.getLast?_eq_getElem?, hn]; simp [List.getD, hn])
    have hb := hl.1.at n
    have e1 := bitsN_val hl.1 n hn (by omega)
    obtain ⟨g1, off1, c', e', -, hx, -, -, -⟩ := h.at n (by omega)
    cases e'
    obtain ⟨t, et⟩ : ∃ t : Nat, zs.getD n 0 = t := ⟨(zs.getD n 0).toNat, by omega⟩
    rw [et] at hx e1 hb
    rw [Int.toNat_natCast] at e1
    have hne : (((n + 1 : Nat) : Int) == 0) = false := beq_eq_false_iff_ne.2 (by omega)
    have hbt : bitsN t ≤ 16 := (bitsN_le t 16).2 (by omega)
    have hm := h.row.len
    unfold maxLen at hm
    rw [e1]
    rw [hn] at hc hm hlen
    have hn' : n ≤ 999999 := by omega
    have ht5 : (t : Int) ≤ 65535 := hb.2
    have hlen1 := fun w => len_impl (t : Int) w (by omega) ht5
    rw [Int.toNat_natCast] at hlen1
    have hn1 : zs.length = n + 1 := hn
    generalize bitsN t = R at *
    have HL := hide hlen1
    have HN := hide hn1
    clear h hl e1 et htop h0 h1 hlen1 hn hn1 hb
    go_enter Tryz.func122, Tryz.ntmps122
    go_wp2_with (first
      | (go_at_call 145; refine (unhide HL _).mono ?_; rintro e w' ⟨rfl, rfl⟩)
      | go_in)
    go_ret
    exact ⟨by go_num, Kept.refl _ _ _⟩

set_option maxHeartbeats 2000000 in
theorem small_work {b g : Nat} {v : Value} {zs : List Int} (w : World) (n : Work b w g v zs) (hn : Nrm zs) (hbb : val zs ≤ 4611686018427387903) :
    Calls Tryz.prog 126 #[.pointer (some ⟨g, 0, none⟩)] w fun e w' => e = .returned (.int .i64 (val zs)) ∧ w' = w := by
  have hc := n.cell
  have m1 := n.row.len
  unfold maxLen at m1
  have h4 := nrm_len4 hn hbb
  have hlim := hn.1
  obtain ⟨a, c, rfl⟩ := n.form
  have hat := (row_cell n.row).2.2.2
  clear n hn
  go_enter Tryz.func126, Tryz.ntmps126
  go_wp2_with fail
  go_loop [3, 11] (fun s i => ∃ k : Nat, k ≤ zs.length ∧ i = .int .i64 k ∧ s = .int .i64 (val (zs.take k))) (fun s i => zs.length - (intOf i).toNat)
  case atStart => exact ⟨0, Nat.zero_le _, rfl, rfl⟩
  case round =>
    obtain ⟨k, hk, rfl, rfl⟩ := hrel
    by_cases hlt : k < zs.length
    · obtain ⟨g, off, rfl, hx⟩ := hat k hlt
      have e1 := val_take_succ zs k hlt
      have e2 := val_take_le hlim (k + 1) (by omega)
      have e3 := val_nonneg (hlim.take k)
      have e4 := hlim.at k
      generalize hz : zs.getD k 0 = z at *
      have hlt' : (k : Int) < (zs.length : Int) := by omega
      have hb' : val zs ≤ 4611686018427387903 := by omega
      clear hat hz
      have hk4 : k = 0 ∨ k = 1 ∨ k = 2 ∨ k = 3 := by omega
      have hrel2 : ∀ m : Nat, m = k + 1 → val (zs.take m) = val (zs.take k) + 65536 ^ k * z := fun m hm => by rw [hm, e1]
      rw [e1] at e2
      have HR := hide hrel2
      generalize hS : val (zs.take k) = S0 at e2 e3 HR ⊢
      clear e1 hrel2 hS
      rcases hk4 with rfl | rfl | rfl | rfl
      all_goals
        simp only [Int.reducePow, Nat.add_zero] at e2 hx
        go_wp2
        go_round
        case rel => exact ⟨_, hlt, by go_num, congrArg (Value.int .i64) (by rw [unhide HR _ rfl]; simp only [Int.reducePow]; (try simp only [wrap64]); omega)⟩
        case measure => simp [intOf]; omega
    · have hlt' : ¬ (k : Int) < (zs.length : Int) := by omega
      have ek : zs.take k = zs := List.take_of_length_le (by omega)
      rw [ek]
      clear hat
      go_wp2
      go_ret
      exact ⟨rfl, rfl⟩

set_option maxHeartbeats 1000000 in
theorem top_work {b g : Nat} {v : Value} {zs : List Int} {x : Int} (w : World) (h : Work b w g v zs) (d : Ex w g x) (hn : Nrm zs) (hl : zs.length ≤ 100000) (hx1 : x ≤ 1000000) (hx0 : -1000000 ≤ x) :
    Calls Tryz.prog 84 #[.pointer (some ⟨g, 0, none⟩)] w fun e w' => e = .returned (.int .i64 (topI zs x)) ∧ Kept 0 0 w w' := by
  have hc2 := d.1
  have hz := isZero_work w h
  have HBI := hide (bits_work w.drew (h.kept (Kept.refl 0 0 w).drew) hn (by omega))
  have hbn := bitsN_limbs hn
  go_enter Tryz.func84, Tryz.ntmps84
  go_wp2_with fail
  refine hz.mono ?_
  rintro e w1 ⟨rfl, rfl⟩
  clear hz
  by_cases h0 : zs.length = 0
  · rw [decide_eq_true h0]
    have HT : Hid (topI zs x = 0) := if_pos h0
    clear h HBI
    go_wp2_with fail
    go_ret
    exact ⟨by rw [unhide HT]; rfl, Kept.refl 0 0 _⟩
  rw [decide_eq_false h0]
  have HT : Hid (topI zs x = x + (bitsN (val zs).toNat : Int)) := if_neg h0
  generalize bitsN (val zs).toNat = B at *
  have hw1 : IntKind.i64.wrap ((B : Int) + x) = x + (B : Int) := by rw [w64 _ (by omega) (by omega)]; omega
  clear h
  go_wp2_with fail
  refine wp_region_held_drew (S := (fun w' => w'.cell? ⟨g, 2, none⟩ = some (.int .i64 x))) (by kernel_rfl) ?_ (fun hHeld => ?_)
  · exact hc2
  refine wT (i := 0) (v := .pointer (some ⟨g, 0, none⟩)) rfl (Or.inl ⟨by rfl, ?_⟩) hHeld ?_
  · intro wq hSw
    try dsimp only at hSw
    go_simp
  try simp only [Act.put, zq1, zq2, zq3, zq4, zq5, zq6]
  refine wT (i := 1) (v := .pointer (some ⟨g, 0, none⟩)) rfl (Or.inl ⟨by rfl, ?_⟩) hHeld ?_
  · intro wq hSw
    try dsimp only at hSw
    go_simp
  try simp only [Act.put, zq1, zq2, zq3, zq4, zq5, zq6]
  refine wT (i := 2) (v := .pointer (some ⟨g, 0, none⟩)) rfl (Or.inl ⟨by rfl, ?_⟩) hHeld ?_
  · intro wq hSw
    try dsimp only at hSw
    go_simp
  try simp only [Act.put, zq1, zq2, zq3, zq4, zq5, zq6]
  refine wT (i := 3) (v := .pointer (some ⟨g, 0, none⟩)) rfl (Or.inl ⟨by rfl, ?_⟩) hHeld ?_
  · intro wq hSw
    try dsimp only at hSw
    go_simp
  try simp only [Act.put, zq1, zq2, zq3, zq4, zq5, zq6]
  refine wT (i := 5) (v := .pointer (some ⟨g, 0, none⟩)) rfl (Or.inl ⟨by rfl, ?_⟩) hHeld ?_
  · intro wq hSw
    try dsimp only at hSw
    go_simp
  try simp only [Act.put, zq1, zq2, zq3, zq4, zq5, zq6]
  refine wT (i := 6) (v := .pointer (some ⟨g, 0, none⟩)) rfl (Or.inl ⟨by rfl, ?_⟩) hHeld ?_
  · intro wq hSw
    try dsimp only at hSw
    go_simp
  try simp only [Act.put, zq1, zq2, zq3, zq4, zq5, zq6]
  refine wT (i := 7) (v := .pointer (some ⟨g, 2, none⟩)) rfl (Or.inl ⟨by rfl, ?_⟩) hHeld ?_
  · intro wq hSw
    try dsimp only at hSw
    go_simp
  try simp only [Act.put, zq1, zq2, zq3, zq4, zq5, zq6]
  refine wT (i := 8) (v := .int .i64 x) rfl (Or.inl ⟨by rfl, ?_⟩) hHeld ?_
  · intro wq hSw
    try dsimp only at hSw
    go_simp
  try simp only [Act.put, zq1, zq2, zq3, zq4, zq5, zq6]
  refine wR 4 (by kernel_rfl) rfl (fun KK hK => ?_)
  simp only [zq1, zq2, zq3]
  rw [if_pos (by rfl)]
  refine wps1 122 (.tmp 11) _ rfl in_bits (.pointer (some ⟨g, 0, none⟩)) rfl (unhide HBI) ?_
  rintro e w2 ⟨rfl, k2⟩
  refine ⟨_, rfl, ?_⟩
  clear hHeld
  refine hK.out _ _ ?_ (fun hHeld => ?_)
  · exact k2.cell0 hc2
  clear hK KK
  try simp only [Act.put, zq1, zq2, zq3, zq4, zq5, zq6]
  refine wT (i := 9) (v := .int .i64 (x + (B : Int))) rfl (Or.inl ⟨by rfl, ?_⟩) hHeld ?_
  · intro wq hSw
    try dsimp only at hSw
    go_simp
  try simp only [Act.put, zq1, zq2, zq3, zq4, zq5, zq6]
  refine wT (i := 10) (v := .int .i64 (x + (B : Int))) rfl (Or.inl ⟨by rfl, ?_⟩) hHeld ?_
  · intro wq hSw
    try dsimp only at hSw
    go_simp
  try simp only [Act.put, zq1, zq2, zq3, zq4, zq5, zq6]
  refine wpAnyH_done (by kernel_rfl) ?_ _
  clear hHeld
  have K2 := hide ((Kept.refl 0 0 _).drew.trans k2)
  clear k2 HBI
  go_wp2_with fail
  go_ret
  exact ⟨by rw [unhide HT]; rfl, unhide K2⟩


theorem in_small : ∀ (w : World) (args : Array Value), (callFunc 126 args).run Tryz.prog w = .ok (.enter 126 args) w := enters Tryz.func126 (by decide) (fun h => by cases h)

theorem mode5 {mode : Int} (h0 : 0 ≤ mode) (h4 : mode ≤ 4) : mode = 0 ∨ mode = 1 ∨ mode = 2 ∨ mode = 3 ∨ mode = 4 := by omega

set_option maxHeartbeats 1000000 in
theorem beyond_impl (s : Bool) (mode : Int) (h0 : 0 ≤ mode) (h4 : mode ≤ 4) (w : World) :
    Calls Tryz.prog 88 #[.bool s, .int .i64 mode] w fun e w' => e = .returned (.tuple #[flv (flO mode s).1 s (flO mode s).2.1 (flO mode s).2.2, .int .i64 3]) ∧ Kept 0 0 w w' := by
  rcases mode5 h0 h4 with rfl | rfl | rfl | rfl | rfl <;> cases s
  all_goals
    go_enter Tryz.func88, Tryz.ntmps88
    go_wp2_with fail
    first
      | exact bodyPost_ret (v := .tuple #[flv 1 true 9007199254740991 971, .int .i64 3]) (by simp [results, Tryz.results88, go_sem]) rfl ⟨rfl, (Kept.refl 0 0 w).alloc _⟩
      | exact bodyPost_ret (v := .tuple #[flv 1 false 9007199254740991 971, .int .i64 3]) (by simp [results, Tryz.results88, go_sem]) rfl ⟨rfl, (Kept.refl 0 0 w).alloc _⟩
      | exact bodyPost_ret (v := .tuple #[flv 2 true 0 0, .int .i64 3]) (by simp [results, Tryz.results88, go_sem]) rfl ⟨rfl, (Kept.refl 0 0 w).alloc _⟩
      | exact bodyPost_ret (v := .tuple #[flv 2 false 0 0, .int .i64 3]) (by simp [results, Tryz.results88, go_sem]) rfl ⟨rfl, (Kept.refl 0 0 w).alloc _⟩

theorem small_kept {b g : Nat} {v : Value} {zs : List Int} (w : World) (n : Work b w g v zs) (hn : Nrm zs) (hbb : val zs ≤ 4611686018427387903) (c : Int) (hc : val zs = c) :
    Calls Tryz.prog 126 #[.pointer (some ⟨g, 0, none⟩)] w fun e w' => e = .returned (.int .i64 c) ∧ Kept 0 0 w w' :=
  (small_work w n hn hbb).mono (fun e w' h => ⟨by rw [← hc]; exact h.1, by rw [h.2]; exact Kept.refl 0 0 _⟩)

set_option maxHeartbeats 4000000 in
theorem inFloat_impl {b g : Nat} {v : Value} {s : Bool} {low : Int} (R : Nat) (hR : R ≤ 2 ^ 53) (w : World) (h : Wrk b w g v (limbs R)) (d : Sd w g s) (ex : Ex w g low) (hl0 : -1000000 ≤ low) (hl1 : low ≤ 1000000) :
    Calls Tryz.prog 89 #[.pointer (some ⟨g, 0, none⟩)] w fun e w' => e = .returned (flv (flI R low).1 s (flI R low).2.1 (flI R low).2.2) ∧ Mod (Own1 g v) w w' := by
  have lg := h.lt
  have own := fun k (e : v.ownBlock = some k) => (h.own.lt e).2
  obtain ⟨A, hA⟩ : ∃ A, flI R low = A := ⟨_, rfl⟩
  rw [hA]
  have HA := hide hA
  clear hA
  have k0 : Kept 0 0 w (w.alloc (.cells #[.int .i64 0, .bool false, .int .i64 0, .int .i64 0] 24)) := ((Kept.refl 0 0 w).alloc (.cells #[.int .i64 0, .bool false, .int .i64 0, .int .i64 0] 24))
  have q0 : (w.alloc (.cells #[.int .i64 0, .bool false, .int .i64 0, .int .i64 0] 24)).cell? ⟨w.heap.size, 0, none⟩ = some (.int .i64 0) := new_cell2 _ _ _ _ _ _ (by simp) rfl
  have qf0 : (w.alloc (.cells #[.int .i64 0, .bool false, .int .i64 0, .int .i64 0] 24)).frozen? ⟨w.heap.size, 0, none⟩ = false := new_loose2 _ _ _ _ _ (by simp)
  have q1 : (w.alloc (.cells #[.int .i64 0, .bool false, .int .i64 0, .int .i64 0] 24)).cell? ⟨w.heap.size, 1, none⟩ = some (.bool false) := new_cell2 _ _ _ _ _ _ (by simp) rfl
  have qf1 : (w.alloc (.cells #[.int .i64 0, .bool false, .int .i64 0, .int .i64 0] 24)).frozen? ⟨w.heap.size, 1, none⟩ = false := new_loose2 _ _ _ _ _ (by simp)
  have q2 : (w.alloc (.cells #[.int .i64 0, .bool false, .int .i64 0, .int .i64 0] 24)).cell? ⟨w.heap.size, 2, none⟩ = some (.int .i64 0) := new_cell2 _ _ _ _ _ _ (by simp) rfl
  have qf2 : (w.alloc (.cells #[.int .i64 0, .bool false, .int .i64 0, .int .i64 0] 24)).frozen? ⟨w.heap.size, 2, none⟩ = false := new_loose2 _ _ _ _ _ (by simp)
  have q3 : (w.alloc (.cells #[.int .i64 0, .bool false, .int .i64 0, .int .i64 0] 24)).cell? ⟨w.heap.size, 3, none⟩ = some (.int .i64 0) := new_cell2 _ _ _ _ _ _ (by simp) rfl
  have qf3 : (w.alloc (.cells #[.int .i64 0, .bool false, .int .i64 0, .int .i64 0] 24)).frozen? ⟨w.heap.size, 3, none⟩ = false := new_loose2 _ _ _ _ _ (by simp)
  have s0 : (w.alloc (.cells #[.int .i64 0, .bool false, .int .i64 0, .int .i64 0] 24)).heap.size = w.heap.size + 1 := by simp
  have K := hide (k0)
  clear k0
  have S0 := hide s0
  clear s0
  have kk := (Kept.refl 0 0 w).alloc (.cells #[.int .i64 0, .bool false, .int .i64 0, .int .i64 0] 24)
  replace h := h.kept kk
  replace d := d.kept kk
  replace ex := ex.kept kk
  clear kk
  go_enter Tryz.func89, Tryz.ntmps89
  go_wp2_with fail
  generalize (w.alloc (.cells #[.int .i64 0, .bool false, .int .i64 0, .int .i64 0] 24)) = W at *
  refine (isZero_work _ h.work).mono ?_
  rintro e w1 ⟨rfl, rfl⟩
  have hc1 := d.1
  have hc2 := ex.1
  have hf2 := ex.2
  have hgR : ¬ g = w.heap.size := by omega
  have hgR' : ¬ w.heap.size = g := by omega
  by_cases h0 : R = 0
  · subst h0
    have hz : decide ((limbs 0).length = 0) = true := by rw [limbs_zero]; rfl
    rw [hz]
    have MM : Hid (Mod (Own1 g v) w w1) := (unhide K).toMod
    clear h K own hz hf2 hc2 ex d
    have KF := hide (Mod.set (S := Own1 g v) (Mod.set (S := Own1 g v) (Mod.set (S := Own1 g v) (Mod.set (S := Own1 g v) (unhide MM) (p := ⟨w.heap.size, 0, none⟩) (.inr (Nat.le_refl _)) (.int .i64 0)) (p := ⟨w.heap.size, 1, none⟩) (.inr (Nat.le_refl _)) (.bool s)) (p := ⟨w.heap.size, 2, none⟩) (.inr (Nat.le_refl _)) (.int .i64 0)) (p := ⟨w.heap.size, 3, none⟩) (.inr (Nat.le_refl _)) (.int .i64 0))
    clear MM
    go_wp2_with fail
    exact bodyPost_ret (v := .agg #[.int .i64 0, .bool s, .int .i64 0, .int .i64 0]) (by simp [results, Tryz.results89, go_sem, q0, q1, q2, q3]) rfl ⟨by rw [← unhide HA]; exact rfl, (unhide KF)⟩
  have hz : decide ((limbs R).length = 0) = false := by
    have h1 := limbs_pos R
    rw [decide_eq_true (show 0 < R by omega)] at h1
    have h2 := of_decide_eq_true h1
    exact decide_eq_false (by omega)
  rw [hz]
  clear hz
  have h53 : R ≤ 9007199254740992 := hR
  have hlen : (limbs R).length ≤ 4 := by
    refine (limbs_length_le _ _).2 ?_
    rw [show (65536 : Int) ^ 4 = 18446744073709551616 by decide]
    omega
  go_wp2_with fail
  have hbt := bits_work _ h.work (limbs_nrm R) (by omega)
  rw [limbs_val, Int.toNat_natCast] at hbt
  refine hbt.mono ?_
  rintro e w2 ⟨rfl, k2⟩
  clear hbt
  replace h := h.kept k2
  replace d := d.kept k2
  replace ex := ex.kept k2
  replace qf0 := k2.loose0 (World.block_lt_of_cell? _ _ q0) qf0
  replace qf1 := k2.loose0 (World.block_lt_of_cell? _ _ q1) qf1
  replace qf2 := k2.loose0 (World.block_lt_of_cell? _ _ q2) qf2
  replace qf3 := k2.loose0 (World.block_lt_of_cell? _ _ q3) qf3
  replace q0 := k2.cell0 q0
  replace q1 := k2.cell0 q1
  replace q2 := k2.cell0 q2
  replace q3 := k2.cell0 q3
  replace K := hide ((unhide K).trans k2)
  clear k2
  clear hc1 hc2 hf2
  by_cases h53b : 53 < bitsN R
  rotate_left
  · have hdb : ¬ (53 : Int) < (bitsN R : Int) := by omega
    have HI : Hid (flI R low = (1, (R : Int), low)) := by show _ = _; unfold flI; rw [if_neg h0, if_neg h53b]
    have MK := hide (unhide K)
    clear K
    go_wp2_with fail
    have hc1 := d.1
    have hc2 := ex.1
    have kw := Kept.refl 0 0 w2
    have K := hide (Kept.refl 0 0 w2)
    have NW := h.work
    have n_qf0 := qf0
    have n_q0 := q0
    have n_qf1 := qf1
    have n_q1 := q1
    have n_qf2 := qf2
    have n_q2 := q2
    have n_qf3 := qf3
    have n_q3 := q3
    have kd := (Kept.refl 0 0 w2).drew
    replace kw := kw.trans kd
    replace NW := NW.kept kd
    replace qf0 := kd.loose0 (World.block_lt_of_cell? _ _ q0) qf0
    replace qf1 := kd.loose0 (World.block_lt_of_cell? _ _ q1) qf1
    replace qf2 := kd.loose0 (World.block_lt_of_cell? _ _ q2) qf2
    replace qf3 := kd.loose0 (World.block_lt_of_cell? _ _ q3) qf3
    replace hc1 := kd.cell0 hc1
    replace hc2 := kd.cell0 hc2
    replace q0 := kd.cell0 q0
    replace q1 := kd.cell0 q1
    replace q2 := kd.cell0 q2
    replace q3 := kd.cell0 q3
    replace K := hide ((unhide K).trans kd)
    have z1 := kd.size
    clear kd
    refine wp_region_held_drew (S := (fun w' => w'.cell? ⟨g, 1, none⟩ = some (.bool s) ∧ w'.cell? ⟨g, 2, none⟩ = some (.int .i64 low))) (by kernel_rfl) ?_ (fun hHeld => ?_)
    · exact ⟨hc1, hc2⟩
    refine wT (i := 0) (v := .pointer (some ⟨g, 0, none⟩)) rfl (Or.inl ⟨by rfl, ?_⟩) hHeld ?_
    · intro wq hSw
      try dsimp only at hSw
      go_simp
    try simp only [Act.put, zq1, zq2, zq3, zq4, zq5, zq6]
    refine wT (i := 1) (v := .pointer (some ⟨g, 0, none⟩)) rfl (Or.inl ⟨by rfl, ?_⟩) hHeld ?_
    · intro wq hSw
      try dsimp only at hSw
      go_simp
    try simp only [Act.put, zq1, zq2, zq3, zq4, zq5, zq6]
    refine wT (i := 2) (v := .pointer (some ⟨g, 0, none⟩)) rfl (Or.inl ⟨by rfl, ?_⟩) hHeld ?_
    · intro wq hSw
      try dsimp only at hSw
      go_simp
    try simp only [Act.put, zq1, zq2, zq3, zq4, zq5, zq6]
    refine wT (i := 3) (v := .pointer (some ⟨g, 1, none⟩)) rfl (Or.inl ⟨by rfl, ?_⟩) hHeld ?_
    · intro wq hSw
      try dsimp only at hSw
      go_simp
    try simp only [Act.put, zq1, zq2, zq3, zq4, zq5, zq6]
    refine wT (i := 4) (v := .bool s) rfl (Or.inl ⟨by rfl, ?_⟩) hHeld ?_
    · intro wq hSw
      try dsimp only at hSw
      go_simp
    try simp only [Act.put, zq1, zq2, zq3, zq4, zq5, zq6]
    refine wT (i := 5) (v := .pointer (some ⟨g, 0, none⟩)) rfl (Or.inl ⟨by rfl, ?_⟩) hHeld ?_
    · intro wq hSw
      try dsimp only at hSw
      go_simp
    try simp only [Act.put, zq1, zq2, zq3, zq4, zq5, zq6]
    refine wT (i := 6) (v := .pointer (some ⟨g, 0, none⟩)) rfl (Or.inl ⟨by rfl, ?_⟩) hHeld ?_
    · intro wq hSw
      try dsimp only at hSw
      go_simp
    try simp only [Act.put, zq1, zq2, zq3, zq4, zq5, zq6]
    refine wT (i := 7) (v := .pointer (some ⟨g, 0, none⟩)) rfl (Or.inl ⟨by rfl, ?_⟩) hHeld ?_
    · intro wq hSw
      try dsimp only at hSw
      go_simp
    try simp only [Act.put, zq1, zq2, zq3, zq4, zq5, zq6]
    refine wT (i := 8) (v := .pointer (some ⟨g, 0, none⟩)) rfl (Or.inl ⟨by rfl, ?_⟩) hHeld ?_
    · intro wq hSw
      try dsimp only at hSw
      go_simp
    try simp only [Act.put, zq1, zq2, zq3, zq4, zq5, zq6]
    refine wT (i := 10) (v := .pointer (some ⟨g, 0, none⟩)) rfl (Or.inl ⟨by rfl, ?_⟩) hHeld ?_
    · intro wq hSw
      try dsimp only at hSw
      go_simp
    try simp only [Act.put, zq1, zq2, zq3, zq4, zq5, zq6]
    refine wT (i := 11) (v := .pointer (some ⟨g, 0, none⟩)) rfl (Or.inl ⟨by rfl, ?_⟩) hHeld ?_
    · intro wq hSw
      try dsimp only at hSw
      go_simp
    try simp only [Act.put, zq1, zq2, zq3, zq4, zq5, zq6]
    refine wT (i := 12) (v := .pointer (some ⟨g, 2, none⟩)) rfl (Or.inl ⟨by rfl, ?_⟩) hHeld ?_
    · intro wq hSw
      try dsimp only at hSw
      go_simp
    try simp only [Act.put, zq1, zq2, zq3, zq4, zq5, zq6]
    refine wT (i := 13) (v := .int .i64 low) rfl (Or.inl ⟨by rfl, ?_⟩) hHeld ?_
    · intro wq hSw
      try dsimp only at hSw
      go_simp
    try simp only [Act.put, zq1, zq2, zq3, zq4, zq5, zq6]
    refine wR 9 (by kernel_rfl) rfl (fun KK hK => ?_)
    simp only [zq1, zq2, zq3]
    rw [if_pos (by rfl)]
    refine wps1 126 (.tmp 40) _ rfl in_small (.pointer (some ⟨g, 0, none⟩)) rfl (small_kept _ NW (limbs_nrm _) (by rw [limbs_val]; omega) (R : Int) (limbs_val _)) ?_
    rintro e w2 ⟨rfl, k2⟩
    refine ⟨_, rfl, ?_⟩
    replace kw := kw.trans k2
    replace NW := NW.kept k2
    replace qf0 := k2.loose0 (World.block_lt_of_cell? _ _ q0) qf0
    replace qf1 := k2.loose0 (World.block_lt_of_cell? _ _ q1) qf1
    replace qf2 := k2.loose0 (World.block_lt_of_cell? _ _ q2) qf2
    replace qf3 := k2.loose0 (World.block_lt_of_cell? _ _ q3) qf3
    replace hc1 := k2.cell0 hc1
    replace hc2 := k2.cell0 hc2
    replace q0 := k2.cell0 q0
    replace q1 := k2.cell0 q1
    replace q2 := k2.cell0 q2
    replace q3 := k2.cell0 q3
    replace K := hide ((unhide K).trans k2)
    have z3 := k2.size
    clear k2
    clear hHeld
    refine hK.out _ _ ?_ (fun hHeld => ?_)
    · exact ⟨hc1, hc2⟩
    clear hK KK
    try simp only [Act.put, zq1, zq2, zq3, zq4, zq5, zq6]
    refine wT (i := 14) (v := .agg #[.int .i64 1, .bool s, .int .i64 (R : Int), .int .i64 low]) rfl (Or.inl ⟨by rfl, ?_⟩) hHeld ?_
    · intro wq hSw
      try dsimp only at hSw
      go_simp
    try simp only [Act.put, zq1, zq2, zq3, zq4, zq5, zq6]
    refine wR 15 (by kernel_rfl) rfl (fun KK hK => ?_)
    simp only [zq1, zq2, zq3]
    rw [if_pos (by rfl)]
    go_simp
    clear hHeld
    refine hK.out _ _ ?_ (fun hHeld => ?_)
    · have sq := unhide S0; exact ⟨(cell_aside _ (by dsimp only; omega) (cell_aside _ (by dsimp only; omega) (cell_aside _ (by dsimp only; omega) (cell_aside _ (by dsimp only; omega) hc1)))), (cell_aside _ (by dsimp only; omega) (cell_aside _ (by dsimp only; omega) (cell_aside _ (by dsimp only; omega) (cell_aside _ (by dsimp only; omega) hc2))))⟩
    clear hK KK
    try simp only [Act.put, zq1, zq2, zq3, zq4, zq5, zq6]
    refine wpAnyH_done (by kernel_rfl) ?_ _
    clear hHeld
    have MM : Hid (Mod (Own1 g v) w w2) := Mod.kept (unhide MK).toMod kw
    clear kw K NW
    have KF := hide (Mod.set (S := Own1 g v) (Mod.set (S := Own1 g v) (Mod.set (S := Own1 g v) (Mod.set (S := Own1 g v) (unhide MM) (p := ⟨w.heap.size, 0, none⟩) (.inr (Nat.le_refl _)) (.int .i64 1)) (p := ⟨w.heap.size, 1, none⟩) (.inr (Nat.le_refl _)) (.bool s)) (p := ⟨w.heap.size, 2, none⟩) (.inr (Nat.le_refl _)) (.int .i64 (R : Int))) (p := ⟨w.heap.size, 3, none⟩) (.inr (Nat.le_refl _)) (.int .i64 low))
    clear MM
    go_wp2_with fail
    exact bodyPost_ret (v := .agg #[.int .i64 1, .bool s, .int .i64 (R : Int), .int .i64 low]) (by simp [results, Tryz.results89, go_sem, q0, q1, q2, q3]) rfl ⟨by rw [← unhide HA]; exact by rw [unhide HI], (unhide KF)⟩
  have hdb : (53 : Int) < (bitsN R : Int) := by omega
  have HI : Hid (flI R low = (1, ((R / 2 : Nat) : Int), low + 1)) := by show _ = _; unfold flI; rw [if_neg h0, if_pos h53b]
  go_wp2_with fail
  refine (shiftDown_wrk _ h (limbs_lim _) (by omega) 1 (by omega)).mono ?_
  rintro e w3 ⟨⟨r3, rfl⟩, u3, n3, o3, m3, s3⟩
  rw [limbs_val, Int.toNat_natCast, show R / 2 ^ 1 = R / 2 from rfl] at n3
  have nR : ¬ Own1 g v w.heap.size := fun e => e.elim (fun e => hgR' e) (fun e => by have := own _ e; omega)
  replace qf0 := m3.loose (a := ⟨w.heap.size, 0, none⟩) nR (World.block_lt_of_cell? _ _ q0) qf0
  replace qf1 := m3.loose (a := ⟨w.heap.size, 1, none⟩) nR (World.block_lt_of_cell? _ _ q1) qf1
  replace qf2 := m3.loose (a := ⟨w.heap.size, 2, none⟩) nR (World.block_lt_of_cell? _ _ q2) qf2
  replace qf3 := m3.loose (a := ⟨w.heap.size, 3, none⟩) nR (World.block_lt_of_cell? _ _ q3) qf3
  replace q0 := m3.cell (a := ⟨w.heap.size, 0, none⟩) nR q0
  replace q1 := m3.cell (a := ⟨w.heap.size, 1, none⟩) nR q1
  replace q2 := m3.cell (a := ⟨w.heap.size, 2, none⟩) nR q2
  replace q3 := m3.cell (a := ⟨w.heap.size, 3, none⟩) nR q3
  replace d := d.same s3
  replace ex := ex.tail s3.tail
  have MM3 : Hid (Mod (Own1 g v) w w3) := Mod.trans (unhide K).toMod m3
  clear m3 s3 K h nR
  have hcx := ex.1
  have hfx := ex.2
  have hwx : IntKind.i64.wrap (low + 1) = low + 1 := w64 _ (by omega) (by omega)
  have MM4 : Hid (Mod (Own1 g v) w (w3.setCell ⟨g, 2, none⟩ (.int .i64 (low + 1)))) := Mod.set (S := Own1 g v) (unhide MM3) (p := ⟨g, 2, none⟩) (.inl (.inl rfl)) _
  have NW4 : Hid (Work b (w3.setCell ⟨g, 2, none⟩ (.int .i64 (low + 1))) g u3 (limbs (R / 2))) := n3.work.set2 _
  have d4 : Hid (Sd (w3.setCell ⟨g, 2, none⟩ (.int .i64 (low + 1))) g s) := d.set2 _
  have e4 : Hid (Ex (w3.setCell ⟨g, 2, none⟩ (.int .i64 (low + 1))) g (low + 1)) := ex.set (low + 1)
  have Q0 := hide (cell_aside (.int .i64 (low + 1)) (r := ⟨g, 2, none⟩) (by dsimp only; omega) q0)
  have Q1 := hide (cell_aside (.int .i64 (low + 1)) (r := ⟨g, 2, none⟩) (by dsimp only; omega) q1)
  have Q2 := hide (cell_aside (.int .i64 (low + 1)) (r := ⟨g, 2, none⟩) (by dsimp only; omega) q2)
  have Q3 := hide (cell_aside (.int .i64 (low + 1)) (r := ⟨g, 2, none⟩) (by dsimp only; omega) q3)
  have QF0 : Hid ((w3.setCell ⟨g, 2, none⟩ (.int .i64 (low + 1))).frozen? ⟨w.heap.size, 0, none⟩ = false) := (frozen_set _ _ _ _ _).trans qf0
  have QF1 : Hid ((w3.setCell ⟨g, 2, none⟩ (.int .i64 (low + 1))).frozen? ⟨w.heap.size, 1, none⟩ = false) := (frozen_set _ _ _ _ _).trans qf1
  have QF2 : Hid ((w3.setCell ⟨g, 2, none⟩ (.int .i64 (low + 1))).frozen? ⟨w.heap.size, 2, none⟩ = false) := (frozen_set _ _ _ _ _).trans qf2
  have QF3 : Hid ((w3.setCell ⟨g, 2, none⟩ (.int .i64 (low + 1))).frozen? ⟨w.heap.size, 3, none⟩ = false) := (frozen_set _ _ _ _ _).trans qf3
  clear d ex n3 MM3 q0 q1 q2 q3 qf0 qf1 qf2 qf3 own
  go_wp2_with fail
  have d := unhide d4
  have ex := unhide e4
  have NWx := unhide NW4
  have q0 := unhide Q0
  have qf0 := unhide QF0
  have q1 := unhide Q1
  have qf1 := unhide QF1
  have q2 := unhide Q2
  have qf2 := unhide QF2
  have q3 := unhide Q3
  have qf3 := unhide QF3
  clear d4 e4 NW4 Q0 Q1 Q2 Q3 QF0 QF1 QF2 QF3 hcx hfx
  generalize w3.setCell ⟨g, 2, none⟩ (.int .i64 (low + 1)) = w4 at *
  have hc1 := d.1
  have hc2 := ex.1
  have kw := Kept.refl 0 0 w4
  have K := hide (Kept.refl 0 0 w4)
  have NW := NWx
  have n_qf0 := qf0
  have n_q0 := q0
  have n_qf1 := qf1
  have n_q1 := q1
  have n_qf2 := qf2
  have n_q2 := q2
  have n_qf3 := qf3
  have n_q3 := q3
  have kd := (Kept.refl 0 0 w4).drew
  replace kw := kw.trans kd
  replace NW := NW.kept kd
  replace qf0 := kd.loose0 (World.block_lt_of_cell? _ _ q0) qf0
  replace qf1 := kd.loose0 (World.block_lt_of_cell? _ _ q1) qf1
  replace qf2 := kd.loose0 (World.block_lt_of_cell? _ _ q2) qf2
  replace qf3 := kd.loose0 (World.block_lt_of_cell? _ _ q3) qf3
  replace hc1 := kd.cell0 hc1
  replace hc2 := kd.cell0 hc2
  replace q0 := kd.cell0 q0
  replace q1 := kd.cell0 q1
  replace q2 := kd.cell0 q2
  replace q3 := kd.cell0 q3
  replace K := hide ((unhide K).trans kd)
  have z1 := kd.size
  clear kd
  refine wp_region_held_drew (S := (fun w' => w'.cell? ⟨g, 1, none⟩ = some (.bool s) ∧ w'.cell? ⟨g, 2, none⟩ = some (.int .i64 (low + 1)))) (by kernel_rfl) ?_ (fun hHeld => ?_)
  · exact ⟨hc1, hc2⟩
  refine wT (i := 0) (v := .pointer (some ⟨g, 0, none⟩)) rfl (Or.inl ⟨by rfl, ?_⟩) hHeld ?_
  · intro wq hSw
    try dsimp only at hSw
    go_simp
  try simp only [Act.put, zq1, zq2, zq3, zq4, zq5, zq6]
  refine wT (i := 1) (v := .pointer (some ⟨g, 0, none⟩)) rfl (Or.inl ⟨by rfl, ?_⟩) hHeld ?_
  · intro wq hSw
    try dsimp only at hSw
    go_simp
  try simp only [Act.put, zq1, zq2, zq3, zq4, zq5, zq6]
  refine wT (i := 2) (v := .pointer (some ⟨g, 0, none⟩)) rfl (Or.inl ⟨by rfl, ?_⟩) hHeld ?_
  · intro wq hSw
    try dsimp only at hSw
    go_simp
  try simp only [Act.put, zq1, zq2, zq3, zq4, zq5, zq6]
  refine wT (i := 3) (v := .pointer (some ⟨g, 1, none⟩)) rfl (Or.inl ⟨by rfl, ?_⟩) hHeld ?_
  · intro wq hSw
    try dsimp only at hSw
    go_simp
  try simp only [Act.put, zq1, zq2, zq3, zq4, zq5, zq6]
  refine wT (i := 4) (v := .bool s) rfl (Or.inl ⟨by rfl, ?_⟩) hHeld ?_
  · intro wq hSw
    try dsimp only at hSw
    go_simp
  try simp only [Act.put, zq1, zq2, zq3, zq4, zq5, zq6]
  refine wT (i := 5) (v := .pointer (some ⟨g, 0, none⟩)) rfl (Or.inl ⟨by rfl, ?_⟩) hHeld ?_
  · intro wq hSw
    try dsimp only at hSw
    go_simp
  try simp only [Act.put, zq1, zq2, zq3, zq4, zq5, zq6]
  refine wT (i := 6) (v := .pointer (some ⟨g, 0, none⟩)) rfl (Or.inl ⟨by rfl, ?_⟩) hHeld ?_
  · intro wq hSw
    try dsimp only at hSw
    go_simp
  try simp only [Act.put, zq1, zq2, zq3, zq4, zq5, zq6]
  refine wT (i := 7) (v := .pointer (some ⟨g, 0, none⟩)) rfl (Or.inl ⟨by rfl, ?_⟩) hHeld ?_
  · intro wq hSw
    try dsimp only at hSw
    go_simp
  try simp only [Act.put, zq1, zq2, zq3, zq4, zq5, zq6]
  refine wT (i := 8) (v := .pointer (some ⟨g, 0, none⟩)) rfl (Or.inl ⟨by rfl, ?_⟩) hHeld ?_
  · intro wq hSw
    try dsimp only at hSw
    go_simp
  try simp only [Act.put, zq1, zq2, zq3, zq4, zq5, zq6]
  refine wT (i := 10) (v := .pointer (some ⟨g, 0, none⟩)) rfl (Or.inl ⟨by rfl, ?_⟩) hHeld ?_
  · intro wq hSw
    try dsimp only at hSw
    go_simp
  try simp only [Act.put, zq1, zq2, zq3, zq4, zq5, zq6]
  refine wT (i := 11) (v := .pointer (some ⟨g, 0, none⟩)) rfl (Or.inl ⟨by rfl, ?_⟩) hHeld ?_
  · intro wq hSw
    try dsimp only at hSw
    go_simp
  try simp only [Act.put, zq1, zq2, zq3, zq4, zq5, zq6]
  refine wT (i := 12) (v := .pointer (some ⟨g, 2, none⟩)) rfl (Or.inl ⟨by rfl, ?_⟩) hHeld ?_
  · intro wq hSw
    try dsimp only at hSw
    go_simp
  try simp only [Act.put, zq1, zq2, zq3, zq4, zq5, zq6]
  refine wT (i := 13) (v := .int .i64 (low + 1)) rfl (Or.inl ⟨by rfl, ?_⟩) hHeld ?_
  · intro wq hSw
    try dsimp only at hSw
    go_simp
  try simp only [Act.put, zq1, zq2, zq3, zq4, zq5, zq6]
  refine wR 9 (by kernel_rfl) rfl (fun KK hK => ?_)
  simp only [zq1, zq2, zq3]
  rw [if_pos (by rfl)]
  refine wps1 126 (.tmp 40) _ rfl in_small (.pointer (some ⟨g, 0, none⟩)) rfl (small_kept _ NW (limbs_nrm _) (by rw [limbs_val]; omega) ((R / 2 : Nat) : Int) (limbs_val _)) ?_
  rintro e w2 ⟨rfl, k2⟩
  refine ⟨_, rfl, ?_⟩
  replace kw := kw.trans k2
  replace NW := NW.kept k2
  replace qf0 := k2.loose0 (World.block_lt_of_cell? _ _ q0) qf0
  replace qf1 := k2.loose0 (World.block_lt_of_cell? _ _ q1) qf1
  replace qf2 := k2.loose0 (World.block_lt_of_cell? _ _ q2) qf2
  replace qf3 := k2.loose0 (World.block_lt_of_cell? _ _ q3) qf3
  replace hc1 := k2.cell0 hc1
  replace hc2 := k2.cell0 hc2
  replace q0 := k2.cell0 q0
  replace q1 := k2.cell0 q1
  replace q2 := k2.cell0 q2
  replace q3 := k2.cell0 q3
  replace K := hide ((unhide K).trans k2)
  have z3 := k2.size
  clear k2
  clear hHeld
  refine hK.out _ _ ?_ (fun hHeld => ?_)
  · exact ⟨hc1, hc2⟩
  clear hK KK
  try simp only [Act.put, zq1, zq2, zq3, zq4, zq5, zq6]
  refine wT (i := 14) (v := .agg #[.int .i64 1, .bool s, .int .i64 ((R / 2 : Nat) : Int), .int .i64 (low + 1)]) rfl (Or.inl ⟨by rfl, ?_⟩) hHeld ?_
  · intro wq hSw
    try dsimp only at hSw
    go_simp
  try simp only [Act.put, zq1, zq2, zq3, zq4, zq5, zq6]
  refine wR 15 (by kernel_rfl) rfl (fun KK hK => ?_)
  simp only [zq1, zq2, zq3]
  rw [if_pos (by rfl)]
  go_simp
  clear hHeld
  refine hK.out _ _ ?_ (fun hHeld => ?_)
  · have sq := unhide S0; exact ⟨(cell_aside _ (by dsimp only; omega) (cell_aside _ (by dsimp only; omega) (cell_aside _ (by dsimp only; omega) (cell_aside _ (by dsimp only; omega) hc1)))), (cell_aside _ (by dsimp only; omega) (cell_aside _ (by dsimp only; omega) (cell_aside _ (by dsimp only; omega) (cell_aside _ (by dsimp only; omega) hc2))))⟩
  clear hK KK
  try simp only [Act.put, zq1, zq2, zq3, zq4, zq5, zq6]
  refine wpAnyH_done (by kernel_rfl) ?_ _
  clear hHeld
  have MM : Hid (Mod (Own1 g v) w w2) := Mod.kept (unhide MM4) kw
  clear kw K NW
  have KF := hide (Mod.set (S := Own1 g v) (Mod.set (S := Own1 g v) (Mod.set (S := Own1 g v) (Mod.set (S := Own1 g v) (unhide MM) (p := ⟨w.heap.size, 0, none⟩) (.inr (Nat.le_refl _)) (.int .i64 1)) (p := ⟨w.heap.size, 1, none⟩) (.inr (Nat.le_refl _)) (.bool s)) (p := ⟨w.heap.size, 2, none⟩) (.inr (Nat.le_refl _)) (.int .i64 ((R / 2 : Nat) : Int))) (p := ⟨w.heap.size, 3, none⟩) (.inr (Nat.le_refl _)) (.int .i64 (low + 1)))
  clear MM
  go_wp2_with fail
  exact bodyPost_ret (v := .agg #[.int .i64 1, .bool s, .int .i64 ((R / 2 : Nat) : Int), .int .i64 (low + 1)]) (by simp [results, Tryz.results89, go_sem, q0, q1, q2, q3]) rfl ⟨by rw [← unhide HA]; exact by rw [unhide HI], (unhide KF)⟩


theorem or_14 : bits BinOp.or IntKind.i64 1 4 = 5 := by decide

set_option maxHeartbeats 4000000 in
theorem toFloat_impl {b g : Nat} {v : Value} {zs : List Int} {s : Bool} {x : Int} (w : World) (h : Num b w g v zs) (d : Sd w g s) (ex : Ex w g x) (hn : Nrm zs) (nx : zs.length ≤ 10000) (hb : b ≤ w.heap.size) (hx0 : -100000 ≤ x) (hx1 : x ≤ 100000) (mode : Int) (hm0 : 0 ≤ mode) (hm4 : mode ≤ 4) (T : TabB w) :
    Calls Tryz.prog 47 #[.pointer (some ⟨g, 0, none⟩), .int .i64 mode] w fun e w' => e = .returned (.tuple #[flv (flA mode s (val zs).toNat x).1 s (flA mode s (val zs).toNat x).2.1 (flA mode s (val zs).toNat x).2.2, .int .i64 (flG mode s (val zs).toNat x)]) ∧ Mod (fun i => v.ownBlock = some i) w w' := by
  obtain ⟨A, hA⟩ : ∃ A, flA mode s (val zs).toNat x = A := ⟨_, rfl⟩
  obtain ⟨F, hF⟩ : ∃ F, flG mode s (val zs).toNat x = F := ⟨_, rfl⟩
  rw [hA, hF]
  have HA := hide hA
  have HF := hide hF
  clear hA hF
  have lg := h.lt
  have own := h.own.lt
  have hv0 := val_nonneg hn.1
  have k0 : Kept 0 0 w (w.alloc (.cells #[.int .i64 0, .bool false, .int .i64 0, .int .i64 0] 24)) := ((Kept.refl 0 0 w).alloc (.cells #[.int .i64 0, .bool false, .int .i64 0, .int .i64 0] 24))
  have q0 : (w.alloc (.cells #[.int .i64 0, .bool false, .int .i64 0, .int .i64 0] 24)).cell? ⟨w.heap.size, 0, none⟩ = some (.int .i64 0) := new_cell2 _ _ _ _ _ _ (by simp) rfl
  have qf0 : (w.alloc (.cells #[.int .i64 0, .bool false, .int .i64 0, .int .i64 0] 24)).frozen? ⟨w.heap.size, 0, none⟩ = false := new_loose2 _ _ _ _ _ (by simp)
  have q1 : (w.alloc (.cells #[.int .i64 0, .bool false, .int .i64 0, .int .i64 0] 24)).cell? ⟨w.heap.size, 1, none⟩ = some (.bool false) := new_cell2 _ _ _ _ _ _ (by simp) rfl
  have qf1 : (w.alloc (.cells #[.int .i64 0, .bool false, .int .i64 0, .int .i64 0] 24)).frozen? ⟨w.heap.size, 1, none⟩ = false := new_loose2 _ _ _ _ _ (by simp)
  have q2 : (w.alloc (.cells #[.int .i64 0, .bool false, .int .i64 0, .int .i64 0] 24)).cell? ⟨w.heap.size, 2, none⟩ = some (.int .i64 0) := new_cell2 _ _ _ _ _ _ (by simp) rfl
  have qf2 : (w.alloc (.cells #[.int .i64 0, .bool false, .int .i64 0, .int .i64 0] 24)).frozen? ⟨w.heap.size, 2, none⟩ = false := new_loose2 _ _ _ _ _ (by simp)
  have q3 : (w.alloc (.cells #[.int .i64 0, .bool false, .int .i64 0, .int .i64 0] 24)).cell? ⟨w.heap.size, 3, none⟩ = some (.int .i64 0) := new_cell2 _ _ _ _ _ _ (by simp) rfl
  have qf3 : (w.alloc (.cells #[.int .i64 0, .bool false, .int .i64 0, .int .i64 0] 24)).frozen? ⟨w.heap.size, 3, none⟩ = false := new_loose2 _ _ _ _ _ (by simp)
  have s0 : (w.alloc (.cells #[.int .i64 0, .bool false, .int .i64 0, .int .i64 0] 24)).heap.size = w.heap.size + 1 := by simp
  have K := hide (k0)
  clear k0
  have S0 := hide s0
  clear s0
  have kk := (Kept.refl 0 0 w).alloc (.cells #[.int .i64 0, .bool false, .int .i64 0, .int .i64 0] 24)
  replace h := h.kept kk
  replace d := d.kept kk
  replace ex := ex.kept kk
  replace T := T.kept kk
  clear kk
  go_enter Tryz.func47, Tryz.ntmps47
  go_wp2_with fail
  generalize (w.alloc (.cells #[.int .i64 0, .bool false, .int .i64 0, .int .i64 0] 24)) = W at *
  refine (isZero_impl _ h).mono ?_
  rintro e w1 ⟨rfl, rfl⟩
  have hc1 := d.1
  have hgR : ¬ g = w.heap.size := by omega
  have hgR' : ¬ w.heap.size = g := by omega
  by_cases h0 : zs.length = 0
  · rw [decide_eq_true h0]
    have hV : (val zs).toNat = 0 := by rw [List.length_eq_zero_iff.1 h0]; rfl
    have FA : Hid (flA mode s (val zs).toNat x = (0, 0, 0)) := by show _ = _; unfold flA; rw [if_pos hV]
    have FF : Hid (flG mode s (val zs).toNat x = 0) := by show _ = _; unfold flG; rw [if_pos hV]
    have MM : Hid (Mod (fun i => v.ownBlock = some i) w w1) := (unhide K).toMod
    clear h K own ex d T h0 hV
    have KF := hide (Mod.set (S := (fun i => v.ownBlock = some i)) (Mod.set (S := (fun i => v.ownBlock = some i)) (Mod.set (S := (fun i => v.ownBlock = some i)) (Mod.set (S := (fun i => v.ownBlock = some i)) (unhide MM) (p := ⟨w.heap.size, 0, none⟩) (.inr (Nat.le_refl _)) (.int .i64 0)) (p := ⟨w.heap.size, 1, none⟩) (.inr (Nat.le_refl _)) (.bool s)) (p := ⟨w.heap.size, 2, none⟩) (.inr (Nat.le_refl _)) (.int .i64 0)) (p := ⟨w.heap.size, 3, none⟩) (.inr (Nat.le_refl _)) (.int .i64 0))
    clear MM 
    go_wp2_with fail
    exact bodyPost_ret (v := .tuple #[.agg #[.int .i64 0, .bool s, .int .i64 0, .int .i64 0], .int .i64 0]) (by simp [results, Tryz.results47, go_sem, q0, q1, q2, q3, or_14]) rfl ⟨by rw [← unhide HA, ← unhide HF, unhide FA, unhide FF], unhide KF⟩
  rw [decide_eq_false h0]
  have hVne : (val zs).toNat ≠ 0 := fun e => h0 (by rw [nrm_nil hn (by omega)]; rfl)
  obtain ⟨TT, hTT⟩ : ∃ y, topI zs x = y := ⟨_, rfl⟩
  have hT1 : flTop (val zs).toNat x = TT := by rw [← hTT]; unfold topI flTop; rw [if_neg h0]
  obtain ⟨low, hlow⟩ : ∃ y, flLow (val zs).toNat x = y := ⟨_, rfl⟩
  have hbn := bitsN_limbs hn
  have hTb : -100000 ≤ TT ∧ TT ≤ 260000 := by rw [← hT1]; unfold flTop; omega
  have hmx : max (TT - 53) (-1074) = low := by rw [← hlow]; unfold flLow; rw [hT1]
  have hw1 : IntKind.i64.wrap (TT - 53) = TT - 53 := w64 _ (by omega) (by omega)
  clear hbn hc1
  go_wp2_with fail
  have mt := top_impl _ h ex hn (by omega) (by omega) (by omega)
  rw [hTT] at mt
  refine mt.mono ?_
  rintro e w2 ⟨rfl, k2⟩
  clear mt hTT
  replace h := h.kept k2
  replace d := d.kept k2
  replace ex := ex.kept k2
  replace T := T.kept k2
  replace qf0 := k2.loose0 (World.block_lt_of_cell? _ _ q0) qf0
  replace qf1 := k2.loose0 (World.block_lt_of_cell? _ _ q1) qf1
  replace qf2 := k2.loose0 (World.block_lt_of_cell? _ _ q2) qf2
  replace qf3 := k2.loose0 (World.block_lt_of_cell? _ _ q3) qf3
  replace q0 := k2.cell0 q0
  replace q1 := k2.cell0 q1
  replace q2 := k2.cell0 q2
  replace q3 := k2.cell0 q3
  replace K := hide ((unhide K).trans k2)
  have zz_k2 := k2.size
  clear k2
  go_wp2_with fail
  have lo2 : -1100 ≤ low ∧ low ≤ 260000 := by omega
  have mc := cut_own _ h d ex hn (by omega) (by have := unhide S0; omega) low (by omega) (by omega) (by omega) (by omega) T
  obtain ⟨H, hH⟩ : ∃ y, scN (val zs).toNat (x - (low - 1)) = y := ⟨_, rfl⟩
  obtain ⟨L, hL⟩ : ∃ y, scL (val zs).toNat (x - (low - 1)) = y := ⟨_, rfl⟩
  rw [hH, hL] at mc
  have hH2 : flH (val zs).toNat x = H := by unfold flH; rw [hlow]; exact hH
  have hL2 : flL (val zs).toNat x = L := by unfold flL; rw [hlow]; exact hL
  have hHb : H < 2 ^ 54 := by rw [← hH2]; exact flH_lt _ _
  obtain ⟨R, hR⟩ : ∃ y, rndN mode.toNat s H L = y := ⟨_, rfl⟩
  have hR2 : flR mode.toNat s (val zs).toNat x = R := by unfold flR; rw [hH2, hL2]; exact hR
  have hRb : R ≤ 2 ^ 53 := by rw [← hR2]; exact flR_le _ _ _ _
  obtain ⟨EX, hEX⟩ : ∃ y, rndX H L = y := ⟨_, rfl⟩
  have hX2 : flX (val zs).toNat x = EX := by unfold flX; rw [hH2, hL2]; exact hEX
  have nH : (limbs H).length ≤ 4 := by
    refine (limbs_length_le _ _).2 ?_
    rw [show (65536 : Int) ^ 4 = 18446744073709551616 by decide]
    have : H < 18014398509481984 := hHb
    omega
  have nR : (limbs R).length ≤ 4 := by
    refine (limbs_length_le _ _).2 ?_
    rw [show (65536 : Int) ^ 4 = 18446744073709551616 by decide]
    have : R ≤ 9007199254740992 := hRb
    omega
  have FB : Hid (1024 < topI (limbs R) low → flA mode s (val zs).toNat x = flO mode s ∧ flG mode s (val zs).toNat x = 3) := fun hb => by
    unfold flA flG
    rw [if_neg hVne, if_neg hVne, hR2, hlow, if_pos hb, if_pos hb]
    exact ⟨rfl, rfl⟩
  have FI : Hid (¬ 1024 < topI (limbs R) low → flA mode s (val zs).toNat x = flI R low ∧ flG mode s (val zs).toNat x = flF (val zs).toNat x) := fun hb => by
    unfold flA flG
    rw [if_neg hVne, if_neg hVne, hR2, hlow, if_neg hb, if_neg hb]
    exact ⟨rfl, rfl⟩
  have FG : Hid (flF (val zs).toNat x = (if EX = true then 0 else if TT ≤ -1022 then 5 else 1)) := by show _ = _; unfold flF; rw [hX2, hT1]
  clear hH hL hH2 hL2 hR2 hX2 hVne
  refine mc.mono ?_
  rintro e w6 ⟨u6, rfl, o6, m6, s6⟩
  clear mc
  have nS : ¬ v.ownBlock = some w.heap.size := fun e => by have := (own _ e).2; omega
  replace qf0 := m6.loose (a := ⟨w.heap.size, 0, none⟩) nS (World.block_lt_of_cell? _ _ q0) qf0
  replace qf1 := m6.loose (a := ⟨w.heap.size, 1, none⟩) nS (World.block_lt_of_cell? _ _ q1) qf1
  replace qf2 := m6.loose (a := ⟨w.heap.size, 2, none⟩) nS (World.block_lt_of_cell? _ _ q2) qf2
  replace qf3 := m6.loose (a := ⟨w.heap.size, 3, none⟩) nS (World.block_lt_of_cell? _ _ q3) qf3
  replace q0 := m6.cell (a := ⟨w.heap.size, 0, none⟩) nS q0
  replace q1 := m6.cell (a := ⟨w.heap.size, 1, none⟩) nS q1
  replace q2 := m6.cell (a := ⟨w.heap.size, 2, none⟩) nS q2
  replace q3 := m6.cell (a := ⟨w.heap.size, 3, none⟩) nS q3
  have MM : Hid (Mod (fun i => v.ownBlock = some i) w w6) := Mod.then (unhide K).toMod m6 (fun i e => .inl e)
  have z6 := m6.size
  clear m6 K h d ex T
  obtain ⟨a6, c6, hv⟩ := Row.form' o6.row
  subst hv
  have hq6 : (Value.slice a6 (limbs H).length c6).ownBlock ≠ some w.heap.size := fun e => (s6 _ e).elim nS (fun e => by have := unhide S0; omega)
  have hs6 : ∀ i, (Value.slice a6 (limbs H).length c6).ownBlock = some i → v.ownBlock = some i ∨ w.heap.size ≤ i := fun i e => (s6 i e).elim .inl (fun e => .inr (by have := unhide S0; omega))
  clear s6
  obtain ⟨n7, d7, e7, m7⟩ := new_half s low L 123 o6
  have kn := (Kept.refl 0 0 w6).alloc (.cells #[.slice a6 (limbs H).length c6, .bool s, .int .i64 low, .bool L] 123)
  have z7 : (w6.alloc (.cells #[.slice a6 (limbs H).length c6, .bool s, .int .i64 low, .bool L] 123)).heap.size = w6.heap.size + 1 := by simp
  replace qf0 := kn.loose0 (World.block_lt_of_cell? _ _ q0) qf0
  replace qf1 := kn.loose0 (World.block_lt_of_cell? _ _ q1) qf1
  replace qf2 := kn.loose0 (World.block_lt_of_cell? _ _ q2) qf2
  replace qf3 := kn.loose0 (World.block_lt_of_cell? _ _ q3) qf3
  replace q0 := kn.cell0 q0
  replace q1 := kn.cell0 q1
  replace q2 := kn.cell0 q2
  replace q3 := kn.cell0 q3
  replace MM := hide ((unhide MM).kept kn)
  clear kn
  clear o6
  go_wp2_with fail
  generalize w6.alloc (.cells #[.slice a6 (limbs H).length c6, .bool s, .int .i64 low, .bool L] 123) = W7 at *
  have hx := isExact_impl _ n7.work (limbs_lim _) m7
  rw [limbs_val, Int.toNat_natCast] at hx
  have hx2 : (decide (H % 2 = 0) && !L) = EX := hEX
  rw [hx2] at hx
  refine hx.mono ?_
  rintro e w8 ⟨rfl, rfl⟩
  clear hx hx2 hEX
  cases EX
  · by_cases hu : TT ≤ -1022
    · have FGv : Hid (flF (val zs).toNat x = 5) := by show _ = _; rw [unhide FG]; simp [hu]
      clear FG
      go_wp2_with fail
      have hr := rounded_own _ n7 (limbs_nrm _) (by omega) d7 e7 m7 (by have := unhide S0; omega) mode (by omega) (by omega)
      rw [limbs_val, Int.toNat_natCast, hR] at hr
      refine hr.mono ?_
      rintro e w9 ⟨u9, rfl, o9, m9, s9⟩
      clear hr hR
      have nS9 : ¬ Own1 w6.heap.size (.slice a6 (limbs H).length c6) w.heap.size := fun e => e.elim (fun e => by have := unhide S0; omega) (fun e => hq6 e)
      replace qf0 := m9.loose (a := ⟨w.heap.size, 0, none⟩) nS9 (World.block_lt_of_cell? _ _ q0) qf0
      replace qf1 := m9.loose (a := ⟨w.heap.size, 1, none⟩) nS9 (World.block_lt_of_cell? _ _ q1) qf1
      replace qf2 := m9.loose (a := ⟨w.heap.size, 2, none⟩) nS9 (World.block_lt_of_cell? _ _ q2) qf2
      replace qf3 := m9.loose (a := ⟨w.heap.size, 3, none⟩) nS9 (World.block_lt_of_cell? _ _ q3) qf3
      replace q0 := m9.cell (a := ⟨w.heap.size, 0, none⟩) nS9 q0
      replace q1 := m9.cell (a := ⟨w.heap.size, 1, none⟩) nS9 q1
      replace q2 := m9.cell (a := ⟨w.heap.size, 2, none⟩) nS9 q2
      replace q3 := m9.cell (a := ⟨w.heap.size, 3, none⟩) nS9 q3
      replace MM := hide (Mod.then (unhide MM) m9 (fun i e => e.elim (fun e => .inr (by have := unhide S0; omega)) (fun e => hs6 i e)))
      have z9 := m9.size
      clear m9 nS9 n7 d7 e7 m7
      obtain ⟨a9, c9, hv⟩ := Row.form' o9.row
      subst hv
      have o9b : (Value.slice a9 (limbs R).length c9).ownBlock ≠ some w.heap.size ∧ ∀ i, (Value.slice a9 (limbs R).length c9).ownBlock = some i → v.ownBlock = some i ∨ w.heap.size ≤ i := ⟨fun e => (s9 _ e).elim hq6 (fun e => by have := unhide S0; omega), fun i e => (s9 i e).elim (hs6 i) (fun e => .inr (by have := unhide S0; omega))⟩
      clear s9 hq6 hs6
      obtain ⟨nA, dA, eA⟩ := new_dyaA s low 79 o9
      have kn := (Kept.refl 0 0 w9).alloc (.cells #[.slice a9 (limbs R).length c9, .bool s, .int .i64 low] 79)
      have zA : (w9.alloc (.cells #[.slice a9 (limbs R).length c9, .bool s, .int .i64 low] 79)).heap.size = w9.heap.size + 1 := by simp
      replace qf0 := kn.loose0 (World.block_lt_of_cell? _ _ q0) qf0
      replace qf1 := kn.loose0 (World.block_lt_of_cell? _ _ q1) qf1
      replace qf2 := kn.loose0 (World.block_lt_of_cell? _ _ q2) qf2
      replace qf3 := kn.loose0 (World.block_lt_of_cell? _ _ q3) qf3
      replace q0 := kn.cell0 q0
      replace q1 := kn.cell0 q1
      replace q2 := kn.cell0 q2
      replace q3 := kn.cell0 q3
      replace MM := hide ((unhide MM).kept kn)
      clear kn
      clear o9
      go_wp2_with fail
      generalize w9.alloc (.cells #[.slice a9 (limbs R).length c9, .bool s, .int .i64 low] 79) = WA at *
      have mt := top_work _ nA.work eA (limbs_nrm _) (by omega) (by omega) (by omega)
      obtain ⟨TR, hTR⟩ : ∃ y, topI (limbs R) low = y := ⟨_, rfl⟩
      rw [hTR] at mt FB FI
      refine mt.mono ?_
      rintro e wB ⟨rfl, kB⟩
      clear mt hTR
      replace nA := nA.kept kB
      replace dA := dA.kept kB
      replace eA := eA.kept kB
      have zB := kB.size
      replace qf0 := kB.loose0 (World.block_lt_of_cell? _ _ q0) qf0
      replace qf1 := kB.loose0 (World.block_lt_of_cell? _ _ q1) qf1
      replace qf2 := kB.loose0 (World.block_lt_of_cell? _ _ q2) qf2
      replace qf3 := kB.loose0 (World.block_lt_of_cell? _ _ q3) qf3
      replace q0 := kB.cell0 q0
      replace q1 := kB.cell0 q1
      replace q2 := kB.cell0 q2
      replace q3 := kB.cell0 q3
      replace MM := hide ((unhide MM).kept kB)
      clear kB
      by_cases hbig : 1024 < TR
      · obtain ⟨f1, f2⟩ := unhide FB (by omega)
        have FA := hide f1
        have FF := hide f2
        have hd1 := dA.1
        clear f1 f2 FB FI
        go_wp2_with fail
        refine (beyond_impl s mode (by omega) (by omega) _).mono ?_
        rintro e wC ⟨rfl, kC⟩
        have hne0 := kC.size
        replace qf0 := kC.loose0 (World.block_lt_of_cell? _ _ q0) qf0
        replace qf1 := kC.loose0 (World.block_lt_of_cell? _ _ q1) qf1
        replace qf2 := kC.loose0 (World.block_lt_of_cell? _ _ q2) qf2
        replace qf3 := kC.loose0 (World.block_lt_of_cell? _ _ q3) qf3
        replace q0 := kC.cell0 q0
        replace q1 := kC.cell0 q1
        replace q2 := kC.cell0 q2
        replace q3 := kC.cell0 q3
        replace MM := hide ((unhide MM).kept kC)
        clear kC
        clear nA dA eA hd1
        obtain ⟨OO, hOO⟩ : ∃ y, flO mode s = y := ⟨_, rfl⟩
        rw [hOO]
        rw [hOO] at FA
        clear hOO
        have KF := hide (Mod.set (S := (fun i => v.ownBlock = some i)) (Mod.set (S := (fun i => v.ownBlock = some i)) (Mod.set (S := (fun i => v.ownBlock = some i)) (Mod.set (S := (fun i => v.ownBlock = some i)) (unhide MM) (p := ⟨w.heap.size, 0, none⟩) (.inr (Nat.le_refl _)) (.int .i64 OO.1)) (p := ⟨w.heap.size, 1, none⟩) (.inr (Nat.le_refl _)) (.bool s)) (p := ⟨w.heap.size, 2, none⟩) (.inr (Nat.le_refl _)) (.int .i64 OO.2.1)) (p := ⟨w.heap.size, 3, none⟩) (.inr (Nat.le_refl _)) (.int .i64 OO.2.2))
        clear MM 
        go_wp2_with fail
        exact bodyPost_ret (v := .tuple #[.agg #[.int .i64 OO.1, .bool s, .int .i64 OO.2.1, .int .i64 OO.2.2], .int .i64 3]) (by simp [results, Tryz.results47, go_sem, q0, q1, q2, q3, or_14]) rfl ⟨by rw [← unhide HA, ← unhide HF, unhide FA, unhide FF], unhide KF⟩
      obtain ⟨f1, f2⟩ := unhide FI (by omega)
      have FA := hide f1
      have FF := hide f2
      clear f1 f2 FB FI
      go_wp2_with fail
      refine (inFloat_impl R hRb _ nA dA eA (by omega) (by omega)).mono ?_
      rintro e wC ⟨rfl, mC⟩
      have nSC : ¬ Own1 w9.heap.size (.slice a9 (limbs R).length c9) w.heap.size := fun e => e.elim (fun e => by have := unhide S0; omega) (fun e => o9b.1 e)
      replace qf0 := mC.loose (a := ⟨w.heap.size, 0, none⟩) nSC (World.block_lt_of_cell? _ _ q0) qf0
      replace qf1 := mC.loose (a := ⟨w.heap.size, 1, none⟩) nSC (World.block_lt_of_cell? _ _ q1) qf1
      replace qf2 := mC.loose (a := ⟨w.heap.size, 2, none⟩) nSC (World.block_lt_of_cell? _ _ q2) qf2
      replace qf3 := mC.loose (a := ⟨w.heap.size, 3, none⟩) nSC (World.block_lt_of_cell? _ _ q3) qf3
      replace q0 := mC.cell (a := ⟨w.heap.size, 0, none⟩) nSC q0
      replace q1 := mC.cell (a := ⟨w.heap.size, 1, none⟩) nSC q1
      replace q2 := mC.cell (a := ⟨w.heap.size, 2, none⟩) nSC q2
      replace q3 := mC.cell (a := ⟨w.heap.size, 3, none⟩) nSC q3
      replace MM := hide (Mod.then (unhide MM) mC (fun i e => e.elim (fun e => .inr (by have := unhide S0; omega)) (fun e => o9b.2 i e)))
      clear mC nSC nA dA eA
      obtain ⟨OO, hOO⟩ : ∃ y, flI R low = y := ⟨_, rfl⟩
      rw [hOO]
      rw [hOO] at FA
      clear hOO
      rw [unhide FGv] at FF
      have KF := hide (Mod.set (S := (fun i => v.ownBlock = some i)) (Mod.set (S := (fun i => v.ownBlock = some i)) (Mod.set (S := (fun i => v.ownBlock = some i)) (Mod.set (S := (fun i => v.ownBlock = some i)) (unhide MM) (p := ⟨w.heap.size, 0, none⟩) (.inr (Nat.le_refl _)) (.int .i64 OO.1)) (p := ⟨w.heap.size, 1, none⟩) (.inr (Nat.le_refl _)) (.bool s)) (p := ⟨w.heap.size, 2, none⟩) (.inr (Nat.le_refl _)) (.int .i64 OO.2.1)) (p := ⟨w.heap.size, 3, none⟩) (.inr (Nat.le_refl _)) (.int .i64 OO.2.2))
      clear MM 
      go_wp2_with fail
      exact bodyPost_ret (v := .tuple #[.agg #[.int .i64 OO.1, .bool s, .int .i64 OO.2.1, .int .i64 OO.2.2], .int .i64 5]) (by simp [results, Tryz.results47, go_sem, q0, q1, q2, q3, or_14]) rfl ⟨by rw [← unhide HA, ← unhide HF, unhide FA, unhide FF], unhide KF⟩
    · have FGv : Hid (flF (val zs).toNat x = 1) := by show _ = _; rw [unhide FG]; simp [hu]
      clear FG
      go_wp2_with fail
      have hr := rounded_own _ n7 (limbs_nrm _) (by omega) d7 e7 m7 (by have := unhide S0; omega) mode (by omega) (by omega)
      rw [limbs_val, Int.toNat_natCast, hR] at hr
      refine hr.mono ?_
      rintro e w9 ⟨u9, rfl, o9, m9, s9⟩
      clear hr hR
      have nS9 : ¬ Own1 w6.heap.size (.slice a6 (limbs H).length c6) w.heap.size := fun e => e.elim (fun e => by have := unhide S0; omega) (fun e => hq6 e)
      replace qf0 := m9.loose (a := ⟨w.heap.size, 0, none⟩) nS9 (World.block_lt_of_cell? _ _ q0) qf0
      replace qf1 := m9.loose (a := ⟨w.heap.size, 1, none⟩) nS9 (World.block_lt_of_cell? _ _ q1) qf1
      replace qf2 := m9.loose (a := ⟨w.heap.size, 2, none⟩) nS9 (World.block_lt_of_cell? _ _ q2) qf2
      replace qf3 := m9.loose (a := ⟨w.heap.size, 3, none⟩) nS9 (World.block_lt_of_cell? _ _ q3) qf3
      replace q0 := m9.cell (a := ⟨w.heap.size, 0, none⟩) nS9 q0
      replace q1 := m9.cell (a := ⟨w.heap.size, 1, none⟩) nS9 q1
      replace q2 := m9.cell (a := ⟨w.heap.size, 2, none⟩) nS9 q2
      replace q3 := m9.cell (a := ⟨w.heap.size, 3, none⟩) nS9 q3
      replace MM := hide (Mod.then (unhide MM) m9 (fun i e => e.elim (fun e => .inr (by have := unhide S0; omega)) (fun e => hs6 i e)))
      have z9 := m9.size
      clear m9 nS9 n7 d7 e7 m7
      obtain ⟨a9, c9, hv⟩ := Row.form' o9.row
      subst hv
      have o9b : (Value.slice a9 (limbs R).length c9).ownBlock ≠ some w.heap.size ∧ ∀ i, (Value.slice a9 (limbs R).length c9).ownBlock = some i → v.ownBlock = some i ∨ w.heap.size ≤ i := ⟨fun e => (s9 _ e).elim hq6 (fun e => by have := unhide S0; omega), fun i e => (s9 i e).elim (hs6 i) (fun e => .inr (by have := unhide S0; omega))⟩
      clear s9 hq6 hs6
      obtain ⟨nA, dA, eA⟩ := new_dyaA s low 79 o9
      have kn := (Kept.refl 0 0 w9).alloc (.cells #[.slice a9 (limbs R).length c9, .bool s, .int .i64 low] 79)
      have zA : (w9.alloc (.cells #[.slice a9 (limbs R).length c9, .bool s, .int .i64 low] 79)).heap.size = w9.heap.size + 1 := by simp
      replace qf0 := kn.loose0 (World.block_lt_of_cell? _ _ q0) qf0
      replace qf1 := kn.loose0 (World.block_lt_of_cell? _ _ q1) qf1
      replace qf2 := kn.loose0 (World.block_lt_of_cell? _ _ q2) qf2
      replace qf3 := kn.loose0 (World.block_lt_of_cell? _ _ q3) qf3
      replace q0 := kn.cell0 q0
      replace q1 := kn.cell0 q1
      replace q2 := kn.cell0 q2
      replace q3 := kn.cell0 q3
      replace MM := hide ((unhide MM).kept kn)
      clear kn
      clear o9
      go_wp2_with fail
      generalize w9.alloc (.cells #[.slice a9 (limbs R).length c9, .bool s, .int .i64 low] 79) = WA at *
      have mt := top_work _ nA.work eA (limbs_nrm _) (by omega) (by omega) (by omega)
      obtain ⟨TR, hTR⟩ : ∃ y, topI (limbs R) low = y := ⟨_, rfl⟩
      rw [hTR] at mt FB FI
      refine mt.mono ?_
      rintro e wB ⟨rfl, kB⟩
      clear mt hTR
      replace nA := nA.kept kB
      replace dA := dA.kept kB
      replace eA := eA.kept kB
      have zB := kB.size
      replace qf0 := kB.loose0 (World.block_lt_of_cell? _ _ q0) qf0
      replace qf1 := kB.loose0 (World.block_lt_of_cell? _ _ q1) qf1
      replace qf2 := kB.loose0 (World.block_lt_of_cell? _ _ q2) qf2
      replace qf3 := kB.loose0 (World.block_lt_of_cell? _ _ q3) qf3
      replace q0 := kB.cell0 q0
      replace q1 := kB.cell0 q1
      replace q2 := kB.cell0 q2
      replace q3 := kB.cell0 q3
      replace MM := hide ((unhide MM).kept kB)
      clear kB
      by_cases hbig : 1024 < TR
      · obtain ⟨f1, f2⟩ := unhide FB (by omega)
        have FA := hide f1
        have FF := hide f2
        have hd1 := dA.1
        clear f1 f2 FB FI
        go_wp2_with fail
        refine (beyond_impl s mode (by omega) (by omega) _).mono ?_
        rintro e wC ⟨rfl, kC⟩
        have hne0 := kC.size
        replace qf0 := kC.loose0 (World.block_lt_of_cell? _ _ q0) qf0
        replace qf1 := kC.loose0 (World.block_lt_of_cell? _ _ q1) qf1
        replace qf2 := kC.loose0 (World.block_lt_of_cell? _ _ q2) qf2
        replace qf3 := kC.loose0 (World.block_lt_of_cell? _ _ q3) qf3
        replace q0 := kC.cell0 q0
        replace q1 := kC.cell0 q1
        replace q2 := kC.cell0 q2
        replace q3 := kC.cell0 q3
        replace MM := hide ((unhide MM).kept kC)
        clear kC
        clear nA dA eA hd1
        obtain ⟨OO, hOO⟩ : ∃ y, flO mode s = y := ⟨_, rfl⟩
        rw [hOO]
        rw [hOO] at FA
        clear hOO
        have KF := hide (Mod.set (S := (fun i => v.ownBlock = some i)) (Mod.set (S := (fun i => v.ownBlock = some i)) (Mod.set (S := (fun i => v.ownBlock = some i)) (Mod.set (S := (fun i => v.ownBlock = some i)) (unhide MM) (p := ⟨w.heap.size, 0, none⟩) (.inr (Nat.le_refl _)) (.int .i64 OO.1)) (p := ⟨w.heap.size, 1, none⟩) (.inr (Nat.le_refl _)) (.bool s)) (p := ⟨w.heap.size, 2, none⟩) (.inr (Nat.le_refl _)) (.int .i64 OO.2.1)) (p := ⟨w.heap.size, 3, none⟩) (.inr (Nat.le_refl _)) (.int .i64 OO.2.2))
        clear MM 
        go_wp2_with fail
        exact bodyPost_ret (v := .tuple #[.agg #[.int .i64 OO.1, .bool s, .int .i64 OO.2.1, .int .i64 OO.2.2], .int .i64 3]) (by simp [results, Tryz.results47, go_sem, q0, q1, q2, q3, or_14]) rfl ⟨by rw [← unhide HA, ← unhide HF, unhide FA, unhide FF], unhide KF⟩
      obtain ⟨f1, f2⟩ := unhide FI (by omega)
      have FA := hide f1
      have FF := hide f2
      clear f1 f2 FB FI
      go_wp2_with fail
      refine (inFloat_impl R hRb _ nA dA eA (by omega) (by omega)).mono ?_
      rintro e wC ⟨rfl, mC⟩
      have nSC : ¬ Own1 w9.heap.size (.slice a9 (limbs R).length c9) w.heap.size := fun e => e.elim (fun e => by have := unhide S0; omega) (fun e => o9b.1 e)
      replace qf0 := mC.loose (a := ⟨w.heap.size, 0, none⟩) nSC (World.block_lt_of_cell? _ _ q0) qf0
      replace qf1 := mC.loose (a := ⟨w.heap.size, 1, none⟩) nSC (World.block_lt_of_cell? _ _ q1) qf1
      replace qf2 := mC.loose (a := ⟨w.heap.size, 2, none⟩) nSC (World.block_lt_of_cell? _ _ q2) qf2
      replace qf3 := mC.loose (a := ⟨w.heap.size, 3, none⟩) nSC (World.block_lt_of_cell? _ _ q3) qf3
      replace q0 := mC.cell (a := ⟨w.heap.size, 0, none⟩) nSC q0
      replace q1 := mC.cell (a := ⟨w.heap.size, 1, none⟩) nSC q1
      replace q2 := mC.cell (a := ⟨w.heap.size, 2, none⟩) nSC q2
      replace q3 := mC.cell (a := ⟨w.heap.size, 3, none⟩) nSC q3
      replace MM := hide (Mod.then (unhide MM) mC (fun i e => e.elim (fun e => .inr (by have := unhide S0; omega)) (fun e => o9b.2 i e)))
      clear mC nSC nA dA eA
      obtain ⟨OO, hOO⟩ : ∃ y, flI R low = y := ⟨_, rfl⟩
      rw [hOO]
      rw [hOO] at FA
      clear hOO
      rw [unhide FGv] at FF
      have KF := hide (Mod.set (S := (fun i => v.ownBlock = some i)) (Mod.set (S := (fun i => v.ownBlock = some i)) (Mod.set (S := (fun i => v.ownBlock = some i)) (Mod.set (S := (fun i => v.ownBlock = some i)) (unhide MM) (p := ⟨w.heap.size, 0, none⟩) (.inr (Nat.le_refl _)) (.int .i64 OO.1)) (p := ⟨w.heap.size, 1, none⟩) (.inr (Nat.le_refl _)) (.bool s)) (p := ⟨w.heap.size, 2, none⟩) (.inr (Nat.le_refl _)) (.int .i64 OO.2.1)) (p := ⟨w.heap.size, 3, none⟩) (.inr (Nat.le_refl _)) (.int .i64 OO.2.2))
      clear MM 
      go_wp2_with fail
      exact bodyPost_ret (v := .tuple #[.agg #[.int .i64 OO.1, .bool s, .int .i64 OO.2.1, .int .i64 OO.2.2], .int .i64 1]) (by simp [results, Tryz.results47, go_sem, q0, q1, q2, q3, or_14]) rfl ⟨by rw [← unhide HA, ← unhide HF, unhide FA, unhide FF], unhide KF⟩
  · have FGv : Hid (flF (val zs).toNat x = 0) := by show _ = _; rw [unhide FG]; simp
    clear FG
    go_wp2_with fail
    have hr := rounded_own _ n7 (limbs_nrm _) (by omega) d7 e7 m7 (by have := unhide S0; omega) mode (by omega) (by omega)
    rw [limbs_val, Int.toNat_natCast, hR] at hr
    refine hr.mono ?_
    rintro e w9 ⟨u9, rfl, o9, m9, s9⟩
    clear hr hR
    have nS9 : ¬ Own1 w6.heap.size (.slice a6 (limbs H).length c6) w.heap.size := fun e => e.elim (fun e => by have := unhide S0; omega) (fun e => hq6 e)
    replace qf0 := m9.loose (a := ⟨w.heap.size, 0, none⟩) nS9 (World.block_lt_of_cell? _ _ q0) qf0
    replace qf1 := m9.loose (a := ⟨w.heap.size, 1, none⟩) nS9 (World.block_lt_of_cell? _ _ q1) qf1
    replace qf2 := m9.loose (a := ⟨w.heap.size, 2, none⟩) nS9 (World.block_lt_of_cell? _ _ q2) qf2
    replace qf3 := m9.loose (a := ⟨w.heap.size, 3, none⟩) nS9 (World.block_lt_of_cell? _ _ q3) qf3
    replace q0 := m9.cell (a := ⟨w.heap.size, 0, none⟩) nS9 q0
    replace q1 := m9.cell (a := ⟨w.heap.size, 1, none⟩) nS9 q1
    replace q2 := m9.cell (a := ⟨w.heap.size, 2, none⟩) nS9 q2
    replace q3 := m9.cell (a := ⟨w.heap.size, 3, none⟩) nS9 q3
    replace MM := hide (Mod.then (unhide MM) m9 (fun i e => e.elim (fun e => .inr (by have := unhide S0; omega)) (fun e => hs6 i e)))
    have z9 := m9.size
    clear m9 nS9 n7 d7 e7 m7
    obtain ⟨a9, c9, hv⟩ := Row.form' o9.row
    subst hv
    have o9b : (Value.slice a9 (limbs R).length c9).ownBlock ≠ some w.heap.size ∧ ∀ i, (Value.slice a9 (limbs R).length c9).ownBlock = some i → v.ownBlock = some i ∨ w.heap.size ≤ i := ⟨fun e => (s9 _ e).elim hq6 (fun e => by have := unhide S0; omega), fun i e => (s9 i e).elim (hs6 i) (fun e => .inr (by have := unhide S0; omega))⟩
    clear s9 hq6 hs6
    obtain ⟨nA, dA, eA⟩ := new_dyaA s low 79 o9
    have kn := (Kept.refl 0 0 w9).alloc (.cells #[.slice a9 (limbs R).length c9, .bool s, .int .i64 low] 79)
    have zA : (w9.alloc (.cells #[.slice a9 (limbs R).length c9, .bool s, .int .i64 low] 79)).heap.size = w9.heap.size + 1 := by simp
    replace qf0 := kn.loose0 (World.block_lt_of_cell? _ _ q0) qf0
    replace qf1 := kn.loose0 (World.block_lt_of_cell? _ _ q1) qf1
    replace qf2 := kn.loose0 (World.block_lt_of_cell? _ _ q2) qf2
    replace qf3 := kn.loose0 (World.block_lt_of_cell? _ _ q3) qf3
    replace q0 := kn.cell0 q0
    replace q1 := kn.cell0 q1
    replace q2 := kn.cell0 q2
    replace q3 := kn.cell0 q3
    replace MM := hide ((unhide MM).kept kn)
    clear kn
    clear o9
    go_wp2_with fail
    generalize w9.alloc (.cells #[.slice a9 (limbs R).length c9, .bool s, .int .i64 low] 79) = WA at *
    have mt := top_work _ nA.work eA (limbs_nrm _) (by omega) (by omega) (by omega)
    obtain ⟨TR, hTR⟩ : ∃ y, topI (limbs R) low = y := ⟨_, rfl⟩
    rw [hTR] at mt FB FI
    refine mt.mono ?_
    rintro e wB ⟨rfl, kB⟩
    clear mt hTR
    replace nA := nA.kept kB
    replace dA := dA.kept kB
    replace eA := eA.kept kB
    have zB := kB.size
    replace qf0 := kB.loose0 (World.block_lt_of_cell? _ _ q0) qf0
    replace qf1 := kB.loose0 (World.block_lt_of_cell? _ _ q1) qf1
    replace qf2 := kB.loose0 (World.block_lt_of_cell? _ _ q2) qf2
    replace qf3 := kB.loose0 (World.block_lt_of_cell? _ _ q3) qf3
    replace q0 := kB.cell0 q0
    replace q1 := kB.cell0 q1
    replace q2 := kB.cell0 q2
    replace q3 := kB.cell0 q3
    replace MM := hide ((unhide MM).kept kB)
    clear kB
    by_cases hbig : 1024 < TR
    · obtain ⟨f1, f2⟩ := unhide FB (by omega)
      have FA := hide f1
      have FF := hide f2
      have hd1 := dA.1
      clear f1 f2 FB FI
      go_wp2_with fail
      refine (beyond_impl s mode (by omega) (by omega) _).mono ?_
      rintro e wC ⟨rfl, kC⟩
      have hne0 := kC.size
      replace qf0 := kC.loose0 (World.block_lt_of_cell? _ _ q0) qf0
      replace qf1 := kC.loose0 (World.block_lt_of_cell? _ _ q1) qf1
      replace qf2 := kC.loose0 (World.block_lt_of_cell? _ _ q2) qf2
      replace qf3 := kC.loose0 (World.block_lt_of_cell? _ _ q3) qf3
      replace q0 := kC.cell0 q0
      replace q1 := kC.cell0 q1
      replace q2 := kC.cell0 q2
      replace q3 := kC.cell0 q3
      replace MM := hide ((unhide MM).kept kC)
      clear kC
      clear nA dA eA hd1
      obtain ⟨OO, hOO⟩ : ∃ y, flO mode s = y := ⟨_, rfl⟩
      rw [hOO]
      rw [hOO] at FA
      clear hOO
      have KF := hide (Mod.set (S := (fun i => v.ownBlock = some i)) (Mod.set (S := (fun i => v.ownBlock = some i)) (Mod.set (S := (fun i => v.ownBlock = some i)) (Mod.set (S := (fun i => v.ownBlock = some i)) (unhide MM) (p := ⟨w.heap.size, 0, none⟩) (.inr (Nat.le_refl _)) (.int .i64 OO.1)) (p := ⟨w.heap.size, 1, none⟩) (.inr (Nat.le_refl _)) (.bool s)) (p := ⟨w.heap.size, 2, none⟩) (.inr (Nat.le_refl _)) (.int .i64 OO.2.1)) (p := ⟨w.heap.size, 3, none⟩) (.inr (Nat.le_refl _)) (.int .i64 OO.2.2))
      clear MM 
      go_wp2_with fail
      exact bodyPost_ret (v := .tuple #[.agg #[.int .i64 OO.1, .bool s, .int .i64 OO.2.1, .int .i64 OO.2.2], .int .i64 3]) (by simp [results, Tryz.results47, go_sem, q0, q1, q2, q3, or_14]) rfl ⟨by rw [← unhide HA, ← unhide HF, unhide FA, unhide FF], unhide KF⟩
    obtain ⟨f1, f2⟩ := unhide FI (by omega)
    have FA := hide f1
    have FF := hide f2
    clear f1 f2 FB FI
    go_wp2_with fail
    refine (inFloat_impl R hRb _ nA dA eA (by omega) (by omega)).mono ?_
    rintro e wC ⟨rfl, mC⟩
    have nSC : ¬ Own1 w9.heap.size (.slice a9 (limbs R).length c9) w.heap.size := fun e => e.elim (fun e => by have := unhide S0; omega) (fun e => o9b.1 e)
    replace qf0 := mC.loose (a := ⟨w.heap.size, 0, none⟩) nSC (World.block_lt_of_cell? _ _ q0) qf0
    replace qf1 := mC.loose (a := ⟨w.heap.size, 1, none⟩) nSC (World.block_lt_of_cell? _ _ q1) qf1
    replace qf2 := mC.loose (a := ⟨w.heap.size, 2, none⟩) nSC (World.block_lt_of_cell? _ _ q2) qf2
    replace qf3 := mC.loose (a := ⟨w.heap.size, 3, none⟩) nSC (World.block_lt_of_cell? _ _ q3) qf3
    replace q0 := mC.cell (a := ⟨w.heap.size, 0, none⟩) nSC q0
    replace q1 := mC.cell (a := ⟨w.heap.size, 1, none⟩) nSC q1
    replace q2 := mC.cell (a := ⟨w.heap.size, 2, none⟩) nSC q2
    replace q3 := mC.cell (a := ⟨w.heap.size, 3, none⟩) nSC q3
    replace MM := hide (Mod.then (unhide MM) mC (fun i e => e.elim (fun e => .inr (by have := unhide S0; omega)) (fun e => o9b.2 i e)))
    clear mC nSC nA dA eA
    obtain ⟨OO, hOO⟩ : ∃ y, flI R low = y := ⟨_, rfl⟩
    rw [hOO]
    rw [hOO] at FA
    clear hOO
    rw [unhide FGv] at FF
    have KF := hide (Mod.set (S := (fun i => v.ownBlock = some i)) (Mod.set (S := (fun i => v.ownBlock = some i)) (Mod.set (S := (fun i => v.ownBlock = some i)) (Mod.set (S := (fun i => v.ownBlock = some i)) (unhide MM) (p := ⟨w.heap.size, 0, none⟩) (.inr (Nat.le_refl _)) (.int .i64 OO.1)) (p := ⟨w.heap.size, 1, none⟩) (.inr (Nat.le_refl _)) (.bool s)) (p := ⟨w.heap.size, 2, none⟩) (.inr (Nat.le_refl _)) (.int .i64 OO.2.1)) (p := ⟨w.heap.size, 3, none⟩) (.inr (Nat.le_refl _)) (.int .i64 OO.2.2))
    clear MM 
    go_wp2_with fail
    exact bodyPost_ret (v := .tuple #[.agg #[.int .i64 OO.1, .bool s, .int .i64 OO.2.1, .int .i64 OO.2.2], .int .i64 0]) (by simp [results, Tryz.results47, go_sem, q0, q1, q2, q3, or_14]) rfl ⟨by rw [← unhide HA, ← unhide HF, unhide FA, unhide FF], unhide KF⟩

end Go.Proofs.YtepehpkmejjhiaaGreatDoor

