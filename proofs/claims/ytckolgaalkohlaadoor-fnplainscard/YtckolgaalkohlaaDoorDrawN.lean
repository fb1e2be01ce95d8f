/-
  What the draws of natural numbers leave: lists of the call's own.
-/
import Derived.Test.YtckolgaalkohlaaDoorBB
import Derived.Test.YtckolgaalkohlaaDoorDraw
namespace Go.Proofs.YtckolgaalkohlaaDoor
open Go.RowKit
set_option linter.unusedVariables false
set_option maxRecDepth 8000

theorem Grow.retOwn {b : Nat} {w wr : World} {v : Value} {zs : List Int} (h : Grow b w wr v zs) :
    Kept 0 0 w (wr.setCell ⟨b, 0, none⟩ v) ∧ (wr.setCell ⟨b, 0, none⟩ v).ownsRow w.heap.size 3 1 v zs.length (zs.map (Value.int .i64)) := by
  obtain ⟨h1, h2, h3, h4, h5, h6⟩ := h
  exact ⟨h4.setNew (p := ⟨b, 0, none⟩) h2 v, own_less (ownsRow_setCell_below h1 (a := ⟨b, 0, none⟩) (Nat.lt_succ_self _) v) (by omega)⟩

/-- A list that noughts at the end were taken off. -/
def Normed (w w' : World) (v : Value) (zs : List Int) : Prop :=
  ∃ zs', w'.ownsRow w.heap.size 3 1 v zs'.length (zs'.map (Value.int .i64)) ∧ (∃ k, k ≤ zs.length ∧ zs' = zs.take k) ∧ (Lim zs → zs' = limbs (val zs).toNat)

set_option maxHeartbeats 2000000 in
theorem norm_own {bw : Bool} {lo hi : Nat} {v : Value} {zs : List Int} (w : World) (r : Row .i64 bw lo hi w v zs) (hlen : zs.length ≤ 1000000) :
    Calls Tryd.prog 38 #[v] w fun e w' => ∃ v', e = .returned (.agg #[v']) ∧ Normed w w' v' zs ∧ Kept 0 0 w w' := by
  have rr := r.read.tight
  obtain ⟨a, c, rfl, q1, m1, q3⟩ := r
  unfold maxLen at m1
  obtain ⟨i0, hi0, hz0, hz1, hz2⟩ := info_parts Tryd.info3'
  clear q3
  go_enter Tryd.func38, Tryd.ntmps38
  go_wp2
  have r1 := rr.kept ((Kept.refl 0 0 w).alloc (.cells #[.slice none 0 0] 26)) (by omega)
  have hat := (row_cell r1).2.2.2
  have hs1 : (w.alloc (.cells #[.slice none 0 0] 26)).heap.size = w.heap.size + 1 := by simp
  have HS1 := hide hs1
  clear hs1
  go_loop [3] (fun n => ∃ k : Nat, k ≤ zs.length ∧ n = .int .i64 k ∧ Hid (∀ i, k ≤ i → i < zs.length → zs.getD i 0 = 0)) (fun n => (intOf n).toNat)
  case atStart => exact ⟨zs.length, Nat.le_refl _, rfl, fun i h1 h2 => by omega⟩
  case round =>
    obtain ⟨k, hk, rfl, hall⟩ := hrel
    by_cases hk0 : k = 0
    · subst hk0
      have HT : Hid (Lim zs → ([] : List Int) = limbs (val zs).toNat) := fun hl => by
        have ht := take_limbs zs hl 0 (Nat.zero_le _) (fun i h1 h2 => hall.out i h1 h2) (.inl rfl)
        rw [List.take_zero] at ht
        exact ht
      clear hat hall
      have hrun := fun ty => run_append_zero (P := Tryd.prog) ((w.alloc (.cells #[.slice none 0 0] 26)).alloc (.cells #[] 3)) 24 ty 3 i0 Tryd.underlying24 hi0 ⟨w.heap.size + 1, 0, none⟩ a 0 0 c (Nat.le_refl _)
      have HRUN := hide hrun
      clear hrun
      go_wp2_with (at_builtin; refine Lib.wpList_append_run _ rfl _ _ _ _ rfl _ _ rfl rfl _ _ (unhide HRUN _) ?_)
      refine bodyPost_ret (v := .agg #[.slice (some ⟨w.heap.size + 1, 0, none⟩) 0 0]) (by simp [results, Tryd.results38, go_sem]) rfl ⟨_, rfl, ⟨[], ?_, ⟨0, Nat.zero_le _, by simp⟩, unhide HT⟩, ((Kept.refl _ _ _).alloc _).alloc _⟩
      exact own_nil_at _ 3 w.heap.size (w.heap.size + 1) (by simp) (Nat.le_succ _)
    · obtain ⟨g, off, rfl, hc⟩ := hat (k - 1) (by omega)
      have hk1 : 1 ≤ k := by omega
      have hpos : (0 : Int) < (k : Int) := by omega
      by_cases hz : zs.getD (k - 1) 0 = 0
      · have hbz : (zs.getD (k - 1) 0 == 0) = true := beq_iff_eq.2 hz
        have HZ := hide hz
        generalize zs.getD (k - 1) 0 = z at hc hbz
        clear hat hz
        go_wp2
        go_round
        case rel => exact ⟨k - 1, by omega, by go_num, fun i h1 h2 => by
          rcases Nat.lt_or_ge i k with h | h
          · have : i = k - 1 := by omega
            subst this; exact unhide HZ
          · exact hall.out i h h2⟩
        case measure => simp [intOf]; omega
      · have hbz : (zs.getD (k - 1) 0 == 0) = false := beq_eq_false_iff_ne.2 hz
        have HT : Hid (Lim zs → zs.take k = limbs (val zs).toNat) := fun hl => take_limbs zs hl k hk (fun i h1 h2 => hall.out i h1 h2) (.inr hz)
        have hne : zs ≠ [] := by intro e; subst e; simp at hk; omega
        obtain ⟨g', o', c', e', -, -, hnews⟩ := (r1.kept ((Kept.refl 0 0 _).alloc (.cells #[] 3)) (by omega)).news hne
        cases e'
        have hnk : ∀ j u, ((zs.take k).map (Value.int .i64))[j]? = some u → ((w.alloc (.cells #[.slice none 0 0] 26)).alloc (.cells #[] 3)).cell? ((⟨g, off, none⟩ : Addr).add j) = some u := fun j u hj => hnews j u (by
          rw [List.map_take, List.getElem?_take] at hj
          split at hj
          · exact hj
          · cases hj)
        have hown0 := own_nil_at (w.alloc (.cells #[.slice none 0 0] 26)) 3 (w.heap.size + 1) (w.heap.size + 1) (unhide HS1).symm (Nat.le_refl _)
        have hlk : ((zs.take k).map (Value.int .i64)).length = k * 1 := by simp; omega
        generalize zs.getD (k - 1) 0 = z at hc hbz
        have HN := hide hnk
        have HB : Hid (w.heap.size + 1 ≤ ((w.alloc (.cells #[.slice none 0 0] 26)).alloc (.cells #[] 3)).heap.size) := by show _ ≤ _; simp
        clear hat hz hnews hnk hall hne
        go_wp2_with (at_builtin; refine wpList_append_own _ rfl _ _ 24 rfl (w.heap.size + 1) 3 i0 (.int .i64 0) 1 8 Tryd.underlying24 hi0 hz0 hz1 hz2 rfl (by decide) _ _ _ rfl hown0 ⟨g, off, none⟩ k c ((zs.take k).map (Value.int .i64)) rfl hlk (unhide HN) (ints_one _ _) ?c3 ?c4 (unhide HB) ?_)
        case c3 => unfold maxLen; omega
        case c4 => omega
        intro v4 w4 hown4 hgrow _
        obtain ⟨a4, c4, hv4⟩ := own_slice hown4
        subst hv4
        have hcr : w4.cell? ⟨w.heap.size, 0, none⟩ = some (.slice none 0 0) := by
          have h1 : ((w.alloc (.cells #[.slice none 0 0] 26)).alloc (.cells #[] 3)).cell? ⟨w.heap.size, 0, none⟩ = some (.slice none 0 0) := old_cell _ (new_cell_at _ _ _ _ rfl)
          exact hgrow.cell h1 (by simp [Value.ownBlock])
        have hfr : w4.frozen? ⟨w.heap.size, 0, none⟩ = false := by
          have hb := hgrow.block w.heap.size (by simp; omega) (by simp [Value.ownBlock])
          have h1 : ((w.alloc (.cells #[.slice none 0 0] 26)).alloc (.cells #[] 3)).heap[w.heap.size]? = some (.cells #[.slice none 0 0] 26) := by
            rw [Below.heap_alloc _ _ _ (by simp)]; exact heap_alloc_new w _
          rw [h1] at hb
          simp [World.frozen?, hb]
        have kk : Kept 0 0 w (w4.setCell ⟨w.heap.size, 0, none⟩ (.slice a4 k c4)) := ((((Kept.refl 0 0 w).alloc _).alloc _).growNew hgrow (fun q hq => by simp [Value.ownBlock] at hq; omega)).setNew (p := ⟨w.heap.size, 0, none⟩) (Nat.le_refl _) (.slice a4 k c4)
        have ho5 := ownsRow_setCell_below hown4 (a := ⟨w.heap.size, 0, none⟩) (Nat.lt_succ_self _) (.slice a4 k c4)
        have hkl : (zs.take k).length = k := by simp; omega
        have hr5 : (w4.setCell ⟨w.heap.size, 0, none⟩ (.slice a4 k c4)).ownsRow w.heap.size 3 1 (.slice a4 k c4) (zs.take k).length ((zs.take k).map (Value.int .i64)) := own_less (by rw [hkl]; simpa using ho5) (Nat.le_succ _)
        have HR5 := hide hr5
        clear hown4 hgrow ho5 hown0 HN HB hlk hbz hc hi0 hz0 hz1 hz2 rr r1 hr5 hkl
        go_wp2
        exact bodyPost_ret (v := .agg #[(.slice a4 k c4)]) (by simp [results, Tryd.results38, go_sem, hcr]) rfl ⟨_, rfl, ⟨zs.take k, unhide HR5, ⟨k, hk, rfl⟩, unhide HT⟩, kk⟩

set_option maxHeartbeats 2000000 in
theorem of_own (w : World) (n : Int) (hn : n ≤ 9223372036854775807) :
    Calls Tryd.prog 40 #[.int .i64 n] w fun e w' => ∃ v', e = .returned (.agg #[v']) ∧ w'.ownsRow w.heap.size 3 1 v' (limbs n.toNat).length ((limbs n.toNat).map (Value.int .i64)) ∧ Kept 0 0 w w' := by
  have hlen : (limbs n.toNat).length ≤ 4 := (limbs_length_le _ _).2 (by
    have : (65536 : Int) ^ 4 = 18446744073709551616 := by decide
    omega)
  generalize hL : limbs n.toNat = L at *
  have HL := hide hL
  have k0 := (Kept.refl 0 0 w).alloc (.cells #[.slice none 0 0] 26)
  have hg0 : Grow w.heap.size w (w.alloc (.cells #[.slice none 0 0] 26)) (.slice none 0 0) [] :=
    Grow.start (Nat.le_refl _) (by simp) k0 (new_cell_at _ _ _ _ rfl) (new_loose _ _ _ _ rfl)
  clear hL k0
  go_enter Tryd.func40, Tryd.ntmps40
  go_wp2
  generalize w.alloc (.cells #[.slice none 0 0] 26) = w1 at *
  go_loopw [0, 3] (fun m l wr => ∃ (zs : List Int) (i : Int), m = .int .i64 i ∧ i ≤ 9223372036854775807 ∧ Hid (zs ++ limbs i.toNat = L) ∧ Grow w.heap.size w wr l zs) (fun m _ _ => (intOf m).toNat)
  case atStart => exact ⟨[], n, rfl, hn, by have := unhide HL; show _ = _; simpa using this, hg0⟩
  case round =>
    obtain ⟨zs, i, rfl, hi, hzs, hg⟩ := hrel
    by_cases hp : 0 < i
    · have hc := limbs_cons i.toNat (by omega)
      have hz := unhide hzs
      rw [hc] at hz
      have hl : zs.length ≤ 4 := by
        have := congrArg List.length hz
        simp at this; omega
      have e1 : ((i.toNat % 65536 : Nat) : Int) = i % 65536 := by omega
      have e2 : i.toNat / 65536 = (i / 65536).toNat := by omega
      have e3 : i.tmod 65536 = i % 65536 := by rw [Int.tmod_eq_emod_of_nonneg (by omega)]
      have e4 : i.tdiv 65536 = i / 65536 := by rw [Int.tdiv_eq_ediv_of_nonneg (by omega)]
      rw [e1, e2] at hz
      have HZ := hide hz
      clear hc hz e1 e2
      have hg' := hg.alloc (.cells #[.int .i64 (i % 65536)] 3)
      go_wp2_with (at_builtin; refine wpList_grow rfl _ _ rfl rfl _ rfl (i % 65536) ?c1 hg' ?c2 ?_)
      case c1 => exact new_cell_at _ _ _ _ rfl
      case c2 => omega
      intro v' w' hg2
      clear hg' hg
      go_wp2
      go_roundw
      case rel => exact ⟨zs ++ [i % 65536], i / 65536, by go_num, by omega, by show _ = _; rw [← unhide HZ]; simp, hg2⟩
      case measure => simp [intOf]; omega
    · obtain ⟨a, c, rfl⟩ := hg.form
      have e0 : zs = L := by have := unhide hzs; rw [show i.toNat = 0 from by omega, limbs_zero, List.append_nil] at this; exact this
      obtain ⟨k2, r2⟩ := hg.retOwn
      obtain ⟨h1, h2, h3, h4, h5, h6⟩ := hg
      rw [e0] at r2
      have K2 := hide k2
      have R2 := hide r2
      clear h1 h4 k2 r2 hzs
      subst e0
      go_wp2
      exact bodyPost_ret (v := .agg #[(.slice a zs.length c)]) (by simp [results, Tryd.results40, go_sem, h5]) rfl ⟨_, rfl, unhide R2, unhide K2⟩

theorem Drew.kept {g lo : Nat} {w w' : World} (h : Drew g lo w w') : Kept g (g + 1) w w' := h.2.1
/-- What a draw that makes memory leaves: the cursor's block alone, of what was there, may have turned. -/
def Drawn (g lo : Nat) (w w' : World) : Prop := Cur g lo w' ∧ Kept g (g + 1) w w'
theorem Drew.drawn {g lo : Nat} {w w' : World} (h : Drew g lo w w') : Drawn g lo w w' := ⟨h.1, h.2.1⟩
theorem Drawn.trans {g lo : Nat} {a b c : World} (h : Drawn g lo a b) (k : Drawn g lo b c) : Drawn g lo a c := ⟨k.1, h.2.trans k.2⟩
theorem Drawn.keptR {g lo : Nat} {a b c : World} (h : Drawn g lo a b) (k : Kept 0 0 b c) : Drawn g lo a c := ⟨h.1.kept k (by omega), h.2.trans k.any⟩

set_option maxHeartbeats 1000000 in
theorem drawLen_any (g lo : Nat) (w : World) (c : Cur g lo w) :
    Calls Tryd.prog 39 #[.pointer (some ⟨g, 0, none⟩)] w fun e w' => ∃ n : Nat, e = .returned (.int .i64 (n : Int)) ∧ n ≤ 100 ∧ Drawn g lo w w' := by
  go_enter Tryd.func39, Tryd.ntmps39
  go_wp2_with fail
  refine (l1Once_any g lo _ c 12).mono ?_
  rintro e w1 ⟨b, rfl, d1⟩
  have hgl := c.1
  cases b
  · go_wp2_with fail
    refine (l1Below_any g lo _ d1.1 6).mono ?_
    rintro e w2 ⟨x, rfl, -, hx, d2⟩
    have hx2 := hx (by omega)
    obtain ⟨n, rfl⟩ := Int.eq_ofNat_of_zero_le hx2.1
    clear hx
    go_wp2_with fail
    go_ret
    exact ⟨n, rfl, by omega, d1.drawn.trans d2.drawn⟩
  · have hgl1 := d1.1.1
    go_wp2_with fail
    have hr := Row.lit .i64 w1 3 [100, 99, 50, 20] (by simp [maxLen])
    refine (l1PickInt_any g lo _ (d1.1.kept ((Kept.refl 0 0 w1).alloc _) (by omega)) hr (by simp) (by omega)).mono ?_
    rintro e w2 ⟨x, rfl, hx, d2⟩
    have hx2 : 0 ≤ x ∧ x ≤ 100 := by simp at hx; omega
    obtain ⟨n, rfl⟩ := Int.eq_ofNat_of_zero_le hx2.1
    clear hx
    go_wp2_with fail
    go_ret
    exact ⟨n, rfl, by omega, (d1.drawn.keptR ((Kept.refl 0 0 w1).alloc _)).trans d2.drawn⟩

end Go.Proofs.YtckolgaalkohlaaDoor
