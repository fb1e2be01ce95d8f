/-
  The program's DyText.
-/
import Derived.Test.YtfikfmkhmojpfaaSzt
import Derived.Test.YtfikfmkhmojpfaaDig4
import Derived.Test.YtfikfmkhmojpfaaDy1
import Derived.Test.YtfikfmkhmojpfaaINat19
import Derived.Test.YtfikfmkhmojpfaaBJ
import Derived.Deep.RegionHeld3
import Derived.Deep.DeepCutAuto
import Derived.Deep.RegionLaw
namespace Go.Proofs.Ytfikfmkhmojpfaa
open Go.RowKit
set_option linter.unusedVariables false
set_option maxRecDepth 8000
set_option linter.unusedSimpArgs false

theorem dec_len {V k : Nat} (h : V < 2 ^ k) (hk : 1 ≤ k) : (decText V).length ≤ k := by
  unfold decText
  by_cases h0 : V = 0
  · rw [if_pos h0]; exact hk
  · rw [if_neg h0, List.length_reverse]; exact tdig_len k V h
theorem five_le (m : Nat) : 5 ^ m ≤ 2 ^ (3 * m) := by
  rw [Nat.pow_mul]
  exact Nat.pow_le_pow_left (by decide) m
theorem limbs_lt {V k : Nat} (h : V < 2 ^ (16 * k)) : (limbs V).length ≤ k := by
  refine (limbs_length_le _ _).2 ?_
  rw [pow_limb]
  omega
def k20 : Nat := 20
def e16 : Nat := 1600
def e26 : Nat := 2600
def e19 : Nat := 1920
def e12 : Nat := 120
theorem val_two {zs : List Int} (hn : Nrm zs) (hl : zs.length ≤ 100) : (val zs).toNat < 2 ^ e16 := by
  have h1 := val_lt hn.1
  have h2 := val_nonneg hn.1
  rw [pow_limb] at h1
  have h3 : (val zs).toNat < 2 ^ (16 * zs.length) := by omega
  exact Nat.lt_of_lt_of_le h3 (Nat.pow_le_pow_right (n := 2) (by decide) (show 16 * zs.length ≤ e16 by unfold e16; omega))
theorem up_two {N k : Nat} (h : N < 2 ^ e16) (hk : k ≤ 1000) : N * 2 ^ k < 2 ^ e26 := by
  have h4 : N * 2 ^ k < 2 ^ e16 * 2 ^ k := Nat.mul_lt_mul_of_pos_right h (Nat.pow_pos (by decide))
  rw [← Nat.pow_add] at h4
  exact Nat.lt_of_lt_of_le h4 (Nat.pow_le_pow_right (n := 2) (by decide) (show e16 + k ≤ e26 by unfold e16 e26; omega))
theorem down_two {N k : Nat} (h : N < 2 ^ e16) (hk : k ≤ 100) : N * 5 ^ k < 2 ^ e19 := by
  have h1 := five_le k
  have h2 : N * 5 ^ k ≤ N * 2 ^ (3 * k) := Nat.mul_le_mul_left _ h1
  have h4 : N * 2 ^ (3 * k) < 2 ^ e16 * 2 ^ (3 * k) := Nat.mul_lt_mul_of_pos_right h (Nat.pow_pos (by decide))
  rw [← Nat.pow_add] at h4
  have h5 := Nat.lt_of_lt_of_le h4 (Nat.pow_le_pow_right (n := 2) (by decide) (show e16 + 3 * k ≤ e19 by unfold e16 e19; omega))
  omega

/-- The text of a size. -/
def dszT (N : Nat) (x : Int) : List Int := if 0 ≤ x then decText (N * 2 ^ x.toNat) else dpText (N * 5 ^ (-x).toNat) (-x).toNat
def sgnT (b : Bool) (t : List Int) : List Int := if b then 45 :: t else t
def dtB (b : Bool) (zs : List Int) (x : Int) : Bool := dokB b zs x && (decide (-100 ≤ x) && decide (x ≤ 1000))
def dtT (b : Bool) (zs : List Int) (x : Int) : List Int := if dtB b zs x = true then sgnT b (dszT (val zs).toNat x) else []
theorem dt_no {b : Bool} {zs : List Int} {x : Int} (h : dtB b zs x = false) : dtB b zs x = false ∧ dtT b zs x = [] := ⟨h, by unfold dtT; rw [h]; rfl⟩
theorem dt_dok {b : Bool} {zs : List Int} {x : Int} (h : dokB b zs x = false) : dtB b zs x = false := by unfold dtB; rw [h]; rfl
theorem dt_lo {b : Bool} {zs : List Int} {x : Int} (h : x < -100) : dtB b zs x = false := by unfold dtB; rw [decide_eq_false (show ¬ -100 ≤ x by omega)]; simp
theorem dt_hi {b : Bool} {zs : List Int} {x : Int} (h : x > 1000) : dtB b zs x = false := by unfold dtB; rw [decide_eq_false (show ¬ x ≤ 1000 by omega)]; simp
theorem dt_yes {b : Bool} {zs : List Int} {x : Int} (h : dokB b zs x = true) (h0 : ¬ x < -100) (h1 : ¬ x > 1000) : dtB b zs x = true := by unfold dtB; rw [h, decide_eq_true (show -100 ≤ x by omega), decide_eq_true (show x ≤ 1000 by omega)]; rfl
theorem dp_len (V K : Nat) : (dpText V K).length ≤ (decText V).length + K + 2 := by
  unfold dpText
  rw [List.length_append, List.length_cons, List.length_take, List.length_drop, List.length_append, List.length_replicate]
  omega
theorem dp_ne (V K : Nat) : dpText V K ≠ [] := by unfold dpText; simp
theorem dsz_ne (N : Nat) (x : Int) : dszT N x ≠ [] := by
  unfold dszT
  split
  · exact decText_ne _
  · exact dp_ne _ _
theorem dsz_len {N : Nat} {x : Int} (h : N < 2 ^ e16) (h0 : -100 ≤ x) (h1 : x ≤ 1000) : (dszT N x).length ≤ 2800 := by
  unfold dszT
  split
  · have := dec_len (up_two h (show x.toNat ≤ 1000 by omega)) (by decide)
    unfold e26 at this
    omega
  · have h2 := dec_len (down_two h (show (-x).toNat ≤ 100 by omega)) (by decide)
    unfold e19 at h2
    have h3 := dp_len (N * 5 ^ (-x).toNat) (-x).toNat
    omega
theorem dtT_len (b : Bool) (zs : List Int) (x : Int) : (dtT b zs x).length ≤ 3000 := by
  unfold dtT
  split
  · rename_i h
    unfold dtB at h
    rw [Bool.and_eq_true, Bool.and_eq_true] at h
    obtain ⟨hl, hn⟩ := (okB_iff zs).1 (wok_ok (dok_parts h.1).1)
    have h1 := of_decide_eq_true h.2.1
    have h2 := of_decide_eq_true h.2.2
    have h3 := dsz_len (val_two hn hl) h1 h2
    unfold sgnT
    split
    · rw [List.length_cons]; omega
    · omega
  · simp

set_option maxHeartbeats 1000000 in
theorem sizeText_impl {b g : Nat} {v : Value} {xs : List Int} {x : Int} (w : World) (h : Num b w g v xs) (ex : Ex w g x) (hx : Nrm xs) (nx : xs.length ≤ 100) (hb : b ≤ w.heap.size) (x0 : -100 ≤ x) (x1 : x ≤ 1000) :
    Calls Try.prog 41 #[.pointer (some ⟨g, 0, none⟩)] w fun e w' => ∃ v', e = .returned v' ∧ Row .u8 true w.heap.size w'.heap.size w' v' (dszT (val xs).toNat x) ∧ Kept g (g + 1) w w' := by
  have h2 := val_two hx nx
  unfold dszT
  by_cases h0 : 0 ≤ x
  · rw [if_pos h0]
    refine (sizeText_up w h ex hx (by omega) hb h0 (by omega) ?_).mono ?_
    · have := limbs_lt (k := e26) (Nat.lt_of_lt_of_le (up_two h2 (show x.toNat ≤ 1000 by omega)) (Nat.pow_le_pow_right (n := 2) (by decide) (show e26 ≤ 16 * e26 by omega)))
      unfold e26 at this
      omega
    · rintro e w' ⟨v', rfl, r, m⟩
      exact ⟨v', rfl, r, ⟨m.os, m.tape, m.output, m.size, fun i hi ho => m.block i hi (by omega)⟩⟩
  · rw [if_neg h0]
    refine (sizeText_down w h ex hx (by omega) hb x0 (by omega) ?_ ?_ ?_).mono ?_
    · intro m hm
      have h3 := five_le m
      have := limbs_lt (V := 5 ^ m) (k := k20) (Nat.lt_of_le_of_lt h3 (Nat.pow_lt_pow_right (by decide) (show 3 * m < 16 * k20 by unfold k20; omega)))
      unfold k20 at this
      omega
    · have := limbs_lt (k := e19) (Nat.lt_of_lt_of_le (down_two h2 (show (-x).toNat ≤ 100 by omega)) (Nat.pow_le_pow_right (n := 2) (by decide) (show e19 ≤ 16 * e19 by omega)))
      unfold e19 at this
      omega
    · have := dec_len (down_two h2 (show (-x).toNat ≤ 100 by omega)) (by decide)
      unfold e19 at this
      omega
    · rintro e w' ⟨v', rfl, r, m⟩
      exact ⟨v', rfl, r, ⟨m.os, m.tape, m.output, m.size, fun i hi ho => m.block i hi (by omega)⟩⟩

set_option maxHeartbeats 4000000 in
theorem dyText_impl {bw : Bool} {lo hi : Nat} {v : Value} {zs : List Int} (b : Bool) (x : Int) (hx1 : x ≤ 9223372036854775807) (hx0 : -9223372036854775808 ≤ x) (w : World) (r : Row .i64 bw lo hi w v zs) :
    Calls Try.prog 10 #[.agg #[.bool b, v, .int .i64 x]] w fun e w' => ∃ v', e = .returned (.tuple #[v', .bool (dtB b zs x)]) ∧ Row .u8 true w.heap.size w'.heap.size w' v' (dtT b zs x) ∧ Kept 0 0 w w' := by
  have k0 : Kept 0 0 w (w.alloc (.cells #[.bool b, v, .int .i64 x] 37)) := (Kept.refl 0 0 w).alloc _
  have p0 : (w.alloc (.cells #[.bool b, v, .int .i64 x] 37)).cell? ⟨w.heap.size, 0, none⟩ = some (.bool b) := new_cell2 _ _ _ _ _ _ rfl rfl
  have p1 : (w.alloc (.cells #[.bool b, v, .int .i64 x] 37)).cell? ⟨w.heap.size, 1, none⟩ = some (v) := new_cell2 _ _ _ _ _ _ rfl rfl
  have p2 : (w.alloc (.cells #[.bool b, v, .int .i64 x] 37)).cell? ⟨w.heap.size, 2, none⟩ = some (.int .i64 x) := new_cell2 _ _ _ _ _ _ rfl rfl
  have S0W : Hid ((w.alloc (.cells #[.bool b, v, .int .i64 x] 37)).heap.size = w.heap.size + 1) := by (show _ = _; simp)
  replace r := r.kept k0 (by omega)
  obtain ⟨a, c, hv⟩ := Row.form' r
  subst hv
  go_enter Try.func10, Try.ntmps10
  go_wp2_with fail
  generalize (w.alloc (.cells #[.bool b, .slice a zs.length c, .int .i64 x] 37)) = W at *
  refine (dok_impl b x hx1 hx0 _ r).mono ?_
  rintro e w1 ⟨rfl, k1⟩
  replace p0 := k1.cell0 p0
  replace p1 := k1.cell0 p1
  replace p2 := k1.cell0 p2
  replace r := r.kept k1 (by omega)
  have K1 := hide (k0.trans k1)
  clear k0 k1
  cases hd : dokB b zs x
  · have HB := hide (dt_no (dt_dok hd))
    clear hd
    clear r
    go_wp2
    exact bodyPost_ret (v := .tuple #[.slice none 0 0, .bool false]) (by simp [results, Try.results10, go_sem]) rfl ⟨.slice none 0 0, by rw [(unhide HB).1], by rw [(unhide HB).2]; exact Row.nil _ _ _ _ _, unhide K1⟩
  by_cases h0 : x < -100
  · have HB := hide (dt_no (b := b) (zs := zs) (dt_lo h0))
    clear hd
    clear r
    go_wp2
    exact bodyPost_ret (v := .tuple #[.slice none 0 0, .bool false]) (by simp [results, Try.results10, go_sem]) rfl ⟨.slice none 0 0, by rw [(unhide HB).1], by rw [(unhide HB).2]; exact Row.nil _ _ _ _ _, unhide K1⟩
  by_cases h1 : x > 1000
  · have HB := hide (dt_no (b := b) (zs := zs) (dt_hi h1))
    clear hd
    clear r
    go_wp2
    exact bodyPost_ret (v := .tuple #[.slice none 0 0, .bool false]) (by simp [results, Try.results10, go_sem]) rfl ⟨.slice none 0 0, by rw [(unhide HB).1], by rw [(unhide HB).2]; exact Row.nil _ _ _ _ _, unhide K1⟩
  have HB : Hid (dtB b zs x = true ∧ dtT b zs x = sgnT b (dszT (val zs).toNat x)) := ⟨dt_yes hd h0 h1, by unfold dtT; rw [dt_yes hd h0 h1]; rfl⟩
  have hwk := (dok_parts hd).1
  obtain ⟨hl, hn⟩ := (okB_iff zs).1 (wok_ok hwk)
  have hpos : b = true → 0 < zs.length := fun e => by subst e; exact wok_pos hwk
  have hbb : (b && decide (0 < zs.length)) = b := by cases b <;> simp; exact hpos rfl
  have HX : Hid (Nrm zs ∧ zs.length ≤ 100 ∧ -100 ≤ x ∧ x ≤ 1000) := ⟨hn, hl, by omega, by omega⟩
  obtain ⟨TT, hTT⟩ : ∃ TT, dszT (val zs).toNat x = TT := ⟨_, rfl⟩
  have NE : Hid (TT ≠ []) := by rw [← hTT]; exact dsz_ne _ _
  have NL : Hid (TT.length ≤ 2000000) := by (show _ ≤ _; rw [← hTT]; have := dsz_len (val_two hn hl) (unhide HX).2.2.1 (unhide HX).2.2.2; omega)
  rw [hTT] at HB
  have HTT := hide hTT
  clear hTT hwk hpos hn hd
  have hdy := dyadicOf_impl b x _ r (by omega)
  clear r hl hx1 hx0
  go_wp2_with fail
  refine hdy.mono ?_
  rintro e w2 ⟨v2, rfl, o2, k2⟩
  obtain ⟨a2, c2, hv2⟩ := own_slice o2
  subst hv2
  obtain ⟨n3, d3, x3⟩ := new_dya b x 81 o2
  have K3 := hide (((unhide K1).trans k2).alloc (.cells #[.slice a2 zs.length c2, .bool b, .int .i64 x] 81))
  have z3 : w1.heap.size ≤ w2.heap.size := k2.size
  have z1 := (unhide K1).size
  have Z3 : Hid ((w2.alloc (.cells #[.slice a2 zs.length c2, .bool b, .int .i64 x] 81)).heap.size = w2.heap.size + 1) := by (show _ = _; simp)
  clear hdy o2 k2 p0 p1 p2
  go_wp2_with fail
  generalize (w2.alloc (.cells #[.slice a2 zs.length c2, .bool b, .int .i64 x] 81)) = w3 at *
  have hb := isBelow_impl w3 n3 d3
  rw [hbb] at hb
  clear hbb
  refine hb.mono ?_
  rintro e w4 ⟨rfl, hw4⟩
  subst hw4
  clear hb
  have HS : Hid (∀ bs : Bool, sgnT bs TT = if bs then 45 :: TT else TT) := fun bs => rfl
  cases b
  · have hst := sizeText_impl _ n3 x3 (unhide HX).1 (unhide HX).2.1 (by have := unhide Z3; omega) (unhide HX).2.2.1 (unhide HX).2.2.2
    rw [unhide HTT] at hst
    clear n3 d3 x3
    go_wp2_with fail
    refine hst.mono ?_
    rintro e w5 ⟨v5, rfl, r5, k5⟩
    obtain ⟨a5, c5, hv5⟩ := Row.form' r5
    subst hv5
    have K5 := hide ((unhide K3).wide k5 (by omega))
    have z5 := k5.size
    have R5 := hide r5
    have NB : Hid (w2.heap.size + 1 ≤ w5.heap.size) := by (show _ ≤ _; have := unhide Z3; omega)
    clear hst r5 k5
    go_wp2_with (at_builtin; refine wpList_signed rfl _ _ rfl rfl rfl (zs := []) (World.ownsRow_nil _ _ _ _) (unhide R5) (unhide NE) (unhide NB) (by decide) (unhide NL) ?_)
    intro v6 w6 r6 g6
    have K6 := hide ((unhide K5).growNew g6 (fun q hq => by simp [Value.ownBlock] at hq))
    obtain ⟨a6, c6, hv6⟩ := Row.form' r6
    subst hv6
    have R6 := hide (r6.wider (lo' := w.heap.size) (by have := unhide Z3; omega) (Nat.le_refl _))
    clear r6 g6
    go_wp2
    exact bodyPost_ret (v := .tuple #[.slice a6 TT.length c6, .bool true]) (by simp [results, Try.results10, go_sem]) rfl ⟨_, by rw [(unhide HB).1], by rw [(unhide HB).2]; exact unhide R6, unhide K6⟩
  · have k5 := (Kept.refl 0 0 w4).alloc (.cells #[.int .u8 45] 5)
    have C5 : Hid ((w4.alloc (.cells #[.int .u8 45] 5)).cell? ⟨w4.heap.size, 0, none⟩ = some (.int .u8 45)) := new_cell_at _ _ _ _ rfl
    have Z5 : Hid ((w4.alloc (.cells #[.int .u8 45] 5)).heap.size = w4.heap.size + 1) := by (show _ = _; simp)
    replace n3 := n3.kept k5
    have x5 : Ex (w4.alloc (.cells #[.int .u8 45] 5)) w2.heap.size x := ⟨k5.cell0 x3.1, k5.loose0 (World.block_lt_of_cell? _ _ x3.1) x3.2⟩
    have K5 := hide ((unhide K3).trans k5)
    have NB0 : Hid ((w4.alloc (.cells #[.int .u8 45] 5)).heap.size ≤ (w4.alloc (.cells #[.int .u8 45] 5)).heap.size) := Nat.le_refl _
    clear k5 x3 d3
    go_wp2_with (at_builtin; refine wpList_byte rfl _ _ rfl rfl _ rfl 45 (unhide C5) (zs := []) (World.ownsRow_nil _ _ _ _) (unhide NB0) (by decide) ?_)
    generalize (w4.alloc (.cells #[.int .u8 45] 5)) = W5 at *
    intro v6 w6 o6 g6
    have o6' : w6.ownsRow (w4.heap.size + 1) 5 1 v6 [(45 : Int)].length ([(45 : Int)].map (Value.int .u8)) := o6
    have k6 : Kept 0 0 W5 w6 := (Kept.refl 0 0 W5).growNew g6 (fun q hq => by simp [Value.ownBlock] at hq)
    replace n3 := n3.kept k6
    have x6 : Ex w6 w2.heap.size x := ⟨k6.cell0 x5.1, k6.loose0 (World.block_lt_of_cell? _ _ x5.1) x5.2⟩
    have K6 := hide ((unhide K5).trans k6)
    have z6 := k6.size
    clear o6 g6 k6 x5 C5
    have hst := sizeText_impl _ n3 x6 (unhide HX).1 (unhide HX).2.1 (by have := unhide Z3; have := unhide Z5; omega) (unhide HX).2.2.1 (unhide HX).2.2.2
    rw [unhide HTT] at hst
    obtain ⟨a6, c6, hv6⟩ := own_slice o6'
    subst hv6
    have O6 := hide o6'
    clear n3 x6 o6'
    go_wp2_with fail
    refine hst.mono ?_
    rintro e w7 ⟨v7, rfl, r7, k7⟩
    obtain ⟨a7, c7, hv7⟩ := Row.form' r7
    subst hv7
    have z7 := k7.size
    have K7 := hide ((unhide K6).wide k7 (by omega))
    have O7 := hide (own_other (unhide O6) k7 (by have := unhide Z3; have := unhide Z5; omega))
    have R7 := hide r7
    have NB : Hid (w4.heap.size + 1 ≤ w7.heap.size) := by (show _ ≤ _; have := unhide Z5; omega)
    have OB : Hid (∀ q, (Value.slice a6 1 c6).ownBlock = some q → w.heap.size ≤ q) := fun q hq => by (have := ((unhide O6).lt q hq).1; have := unhide Z3; have := unhide Z5; omega)
    clear hst r7 k7
    go_wp2_with (at_builtin; refine wpList_signed rfl _ _ rfl rfl rfl (zs := [45]) (unhide O7) (unhide R7) (unhide NE) (unhide NB) (by decide) (unhide NL) ?_)
    intro v8 w8 r8 g8
    have K8 := hide ((unhide K7).growNew g8 (fun q hq => unhide OB q hq))
    obtain ⟨a8, c8, hv8⟩ := Row.form' r8
    subst hv8
    have R8 := hide (r8.wider (lo' := w.heap.size) (by have := unhide Z3; have := unhide Z5; omega) (Nat.le_refl _))
    clear r8 g8
    go_wp2
    exact bodyPost_ret (v := .tuple #[.slice a8 (TT.length + 1) c8, .bool true]) (by simp [results, Try.results10, go_sem]) rfl ⟨_, by rw [(unhide HB).1], by rw [(unhide HB).2]; exact unhide R8, unhide K8⟩

end Go.Proofs.Ytfikfmkhmojpfaa
