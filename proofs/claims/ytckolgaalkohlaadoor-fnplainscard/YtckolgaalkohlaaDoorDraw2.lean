/-
  The contract of the draw of a text of runes: whatever is drawn is a slice of bytes in new memory, of at most 500.
-/
import Derived.Test.YtckolgaalkohlaaDoorDraw1
import Derived.Test.YtckolgaalkohlaaDoorRbDec
import Derived.Test.YtckolgaalkohlaaDoorBA
import Derived.Deep.RegionLaw
import Derived.Lib.AppendZeros
namespace Go.Proofs.YtckolgaalkohlaaDoor
open Go.RowKit
set_option linter.unusedVariables false

/-- What the draw of a text has in hand: its bytes so far, owned. -/
def Has (B g lo : Nat) (w0 w : World) (v : Value) (zs : List Int) (most : Nat) : Prop :=
  w.ownsRow B 5 1 v zs.length (zs.map (Value.int .u8)) ∧ Bytes zs ∧ zs.length ≤ most ∧ Cur g lo w ∧ Kept g (g + 1) w0 w

theorem Bytes.set {zs : List Int} (h : Bytes zs) (j : Nat) {z : Int} (hz : 0 ≤ z ∧ z ≤ 255) : Bytes (zs.set j z) := fun y hy => by
  rcases List.mem_or_eq_of_mem_set hy with h1 | h1
  · exact h y h1
  · rw [h1]; exact hz
theorem Bytes.take {zs : List Int} (h : Bytes zs) (j : Nat) : Bytes (zs.take j) := fun y hy => h y (List.mem_of_mem_take hy)
theorem Bytes.drop {zs : List Int} (h : Bytes zs) (j : Nat) : Bytes (zs.drop j) := fun y hy => h y (List.mem_of_mem_drop hy)

set_option maxHeartbeats 4000000 in
theorem l1draw_any (g lo : Nat) (w : World) (c : Cur g lo w) :
    Calls Tryd.prog 14 #[.pointer (some ⟨g, 0, none⟩)] w fun e w' => ∃ v' zs, e = .returned v' ∧ Has w.heap.size g lo w w' v' zs 500 := by
  have hg := c.1
  obtain ⟨i0, hi0, hz0, hz1, hz2⟩ := info_parts Tryd.info5
  go_enter Tryd.func14, Tryd.ntmps14
  go_wp2_with fail
  refine (l1Below_any g lo _ c 9).mono ?_
  rintro e w1 ⟨n, rfl, -, hn, c1, k1, -⟩
  obtain ⟨n0, n9⟩ := hn (by omega)
  obtain ⟨n, rfl⟩ := Int.eq_ofNat_of_zero_le n0
  clear hn c
  go_wp2
  go_loopw [3, 5] (fun vv i wr => ∃ (k : Nat) (zs : List Int), k ≤ n ∧ i = .int .i64 k ∧ zs.length ≤ 4 * k ∧ Has w.heap.size g lo w wr vv zs 36) (fun _ i _ => n - (intOf i).toNat)
  case atStart => exact ⟨0, [], Nat.zero_le _, rfl, by simp, World.ownsRow_nil _ _ _ _, (fun z hz => by simp at hz), by simp, c1, k1⟩
  case round =>
    obtain ⟨k, zs, hk, rfl, hl4, hown, hby, hmost, cr, kr⟩ := hrel
    by_cases hlt : k < n
    · have hlt' : (k : Int) < (n : Int) := by omega
      go_wp2_with fail
      refine (drawRune_any g lo _ cr).mono ?_
      rintro e w2 ⟨x, rfl, hm, c2, k2⟩
      go_wp2_with fail
      refine (rb_spec x _).mono ?_
      rintro e w3 ⟨v3, rfl, r3, k3⟩
      have hrl := rb_length x
      have hrb := rb_bytes x
      obtain ⟨g3, o3, c3, rfl, -, -, hnews⟩ := r3.news (List.length_pos_iff.1 (rb_some hm))
      have hown3 := own_kept (own_other hown k2 hg) k3
      have kk : Kept g (g + 1) w w3 := (kr.trans k2).trans k3.any
      have cc := c2.kept k3 (by omega)
      have hs3 : w.heap.size ≤ w3.heap.size := kk.size
      have HN := hide hnews
      clear hnews r3 hown k2 k3 cr c2 kr
      go_wp2_with (at_builtin; refine wpList_append_own _ rfl _ _ 22 rfl w.heap.size 5 i0 (.int .u8 0) 1 1 Tryd.underlying22 hi0 hz0 hz1 hz2 rfl (by decide) _ _ _ rfl hown3 ⟨g3, o3, none⟩ (rb x).length c3 ((rb x).map (Value.int .u8)) rfl (by simp) (unhide HN) (ints_one _ _) ?c3 ?c4 ?c5 ?_)
      case c3 => unfold maxLen; omega
      case c4 => omega
      case c5 => exact hs3
      intro v4 w4 hown4 hgrow _
      have kg : Kept w.heap.size w3.heap.size w3 w4 := Kept.grown hgrow (fun j hj => hown3.lt j hj)
      have k4 : Kept g (g + 1) w w4 := ⟨kg.os.trans kk.os, kg.tape.trans kk.tape, kg.output.trans kk.output, Nat.le_trans kk.size kg.size, fun i hi ho => (kg.block i (Nat.lt_of_lt_of_le hi kk.size) (.inl hi)).trans (kk.block i hi ho)⟩
      have c4 := cc.kept kg (.inl hg)
      have hown5 : w4.ownsRow w.heap.size 5 1 v4 (zs ++ rb x).length ((zs ++ rb x).map (Value.int .u8)) := by simpa using hown4
      clear hown4 hgrow hown3 hi0 hz0 hz1 hz2 HN kg kk cc
      go_wp2
      go_roundw
      case rel => exact ⟨k + 1, zs ++ rb x, by omega, by go_num, by simp; omega, hown5, hby.app hrb, by simp; omega, c4, k4⟩
      case measure => simp [intOf]; omega
    · have hlt' : ¬ (k : Int) < (n : Int) := by omega
      go_wp2_with fail
      refine (l1Once_any g lo _ cr 3).mono ?_
      rintro e w2 ⟨b2, rfl, c2, k2, -⟩
      have hown2 := own_other hown k2 hg
      have kk := kr.trans k2
      clear hown kr k2 cr
      cases b2
      · go_wp2_with fail
        refine (l1Once_any g lo _ c2 40).mono ?_
        rintro e wt ⟨bt, rfl, ct, kt, -⟩
        have hownt := own_other hown2 kt hg
        have kkt := kk.trans kt
        clear hown2 c2 kk kt
        cases bt
        · clear hi0 hz0 hz1 hz2
          go_wp2
          go_ret
          exact ⟨_, zs, rfl, hownt, hby, by omega, ct, kkt⟩
        · obtain ⟨v5, w5, hrun, hown5, hgrow5⟩ := run_append_own_zeros (P := Tryd.prog) wt w.heap.size 22 3 22 5 i0 .i64 .i64 Tryd.underlying22 Tryd.underlying3 hi0 hz0 hz1 hz2 _ zs hownt 400 (by omega) (by omega) kkt.size
          have HRUN := hide hrun
          clear hrun hi0 hz0 hz1 hz2
          go_wp2_with (at_builtin; refine Lib.wpList_append_run _ rfl _ _ _ _ rfl _ _ rfl rfl _ _ (unhide HRUN) ?_)
          go_ret
          exact ⟨_, zs ++ List.replicate 400 0, rfl, hown5, hby.app (fun z hz => by have := List.eq_of_mem_replicate hz; omega), by rw [List.length_append, List.length_replicate]; omega, ct.grown hgrow5 (fun k hk => by have := (hownt.lt k hk).1; omega), kkt.growNew hgrow5 (fun k hk => (hownt.lt k hk).1)⟩
      · by_cases hz : zs = []
        · subst hz
          obtain ⟨av, cv, rfl⟩ := own_slice hown2
          go_wp2_with fail
          refine (l1Once_any g lo _ c2 40).mono ?_
          rintro e wt ⟨bt, rfl, ct, kt, -⟩
          have hownt := own_other hown2 kt hg
          have kkt := kk.trans kt
          clear hown2 c2 kk kt
          cases bt
          · clear hi0 hz0 hz1 hz2
            go_wp2
            go_ret
            exact ⟨_, [], rfl, hownt, hby, by omega, ct, kkt⟩
          · obtain ⟨v5, w5, hrun, hown5, hgrow5⟩ := run_append_own_zeros (P := Tryd.prog) wt w.heap.size 22 3 22 5 i0 .i64 .i64 Tryd.underlying22 Tryd.underlying3 hi0 hz0 hz1 hz2 _ [] hownt 400 (by omega) (by omega) kkt.size
            have HRUN := hide hrun
            clear hrun hi0 hz0 hz1 hz2
            go_wp2_with (at_builtin; refine Lib.wpList_append_run _ rfl _ _ _ _ rfl _ _ rfl rfl _ _ (unhide HRUN) ?_)
            go_ret
            exact ⟨_, [] ++ List.replicate 400 0, rfl, hown5, hby.app (fun z hz => by have := List.eq_of_mem_replicate hz; omega), by rw [List.length_append, List.length_replicate]; omega, ct.grown hgrow5 (fun k hk => by have := (hownt.lt k hk).1; omega), kkt.growNew hgrow5 (fun k hk => (hownt.lt k hk).1)⟩
        · have hpos : 0 < zs.length := List.length_pos_iff.2 hz
          have hpos' : (0 : Int) < (zs.length : Int) := by omega
          obtain ⟨gb, cap, rfl, hgb, hcl, hcm, hgs, -⟩ := own_form hown2 hpos
          unfold maxLen at hcm
          go_wp2_with fail
          refine (l1Below_any g lo _ c2 zs.length).mono ?_
          rintro e w3 ⟨x, rfl, -, hx, c3, k3, -⟩
          obtain ⟨x0, x1⟩ := hx (by omega)
          obtain ⟨j, rfl⟩ := Int.eq_ofNat_of_zero_le x0
          have hown3 := own_other hown2 k3 hg
          have kk3 := kk.trans k3
          clear hx hown2 kk k3 c2
          go_wp2_with fail
          refine (l1Below_any g lo _ c3 3).mono ?_
          rintro e w4 ⟨s, rfl, -, hs, c4, k4, -⟩
          obtain ⟨s0, s3⟩ := hs (by omega)
          have hown4 := own_other hown3 k4 hg
          have kk4 := kk3.trans k4
          have hjl : j < zs.length := by omega
          clear hs hown3 kk3 k4 c3 x0
          rcases (by omega : s = 0 ∨ s = 1 ∨ s = 2) with rfl | rfl | rfl
          · clear s0 s3
            go_wp2_with fail
            refine (l1Byte_any g lo _ c4).mono ?_
            rintro e w5 ⟨y, rfl, y0, y1, c5, k5, -⟩
            have hown5 := own_other hown4 k5 hg
            have kk5 := kk4.trans k5
            obtain ⟨hcell, hfr⟩ := own_cell hown5 j hjl
            have hset := own_set hown5 j y
            have kset := kk5.setNew (p := ⟨gb, j, none⟩) hgb (.int .u8 y)
            have cset := c5.setFar (p := ⟨gb, j, none⟩) (Nat.lt_of_lt_of_le hg hgb) (.int .u8 y)
            have hbs := hby.set j (z := y) ⟨y0, y1⟩
            have hls : (zs.set j y).length ≤ 36 := by simpa using hmost
            clear hown4 hown5 kk4 kk5 c4 c5 k5
            generalize zs.getD j 0 = u at hcell
            go_wp2_with fail
            refine (l1Once_any g lo _ cset 40).mono ?_
            rintro e wt ⟨bt, rfl, ct, kt, -⟩
            have hownt := own_other hset kt hg
            have kkt := kset.trans kt
            clear hset cset kset kt
            cases bt
            · clear hi0 hz0 hz1 hz2
              go_wp2
              go_ret
              exact ⟨_, (zs.set j y), rfl, hownt, hbs, by omega, ct, kkt⟩
            · obtain ⟨v5, w5, hrun, hown5, hgrow5⟩ := run_append_own_zeros (P := Tryd.prog) wt w.heap.size 22 3 22 5 i0 .i64 .i64 Tryd.underlying22 Tryd.underlying3 hi0 hz0 hz1 hz2 _ (zs.set j y) hownt 400 (by omega) (by omega) kkt.size
              have HRUN := hide hrun
              clear hrun hi0 hz0 hz1 hz2
              go_wp2_with (at_builtin; refine Lib.wpList_append_run _ rfl _ _ _ _ rfl _ _ rfl rfl _ _ (unhide HRUN) ?_)
              go_ret
              exact ⟨_, (zs.set j y) ++ List.replicate 400 0, rfl, hown5, hbs.app (fun z hz => by have := List.eq_of_mem_replicate hz; omega), by rw [List.length_append, List.length_replicate]; omega, ct.grown hgrow5 (fun k hk => by have := (hownt.lt k hk).1; omega), kkt.growNew hgrow5 (fun k hk => (hownt.lt k hk).1)⟩
          · clear s0 s3
            have htk := own_take hown4 j (by omega)
            have hbt := hby.take j
            have hlt2 : (zs.take j).length ≤ 36 := by simp; omega
            clear hown4
            go_wp2_with fail
            refine (l1Once_any g lo _ c4 40).mono ?_
            rintro e wt ⟨bt, rfl, ct, kt, -⟩
            have hownt := own_other htk kt hg
            have kkt := kk4.trans kt
            clear htk c4 kk4 kt
            cases bt
            · clear hi0 hz0 hz1 hz2
              go_wp2
              go_ret
              exact ⟨_, (zs.take j), rfl, hownt, hbt, by omega, ct, kkt⟩
            · obtain ⟨v5, w5, hrun, hown5, hgrow5⟩ := run_append_own_zeros (P := Tryd.prog) wt w.heap.size 22 3 22 5 i0 .i64 .i64 Tryd.underlying22 Tryd.underlying3 hi0 hz0 hz1 hz2 _ (zs.take j) hownt 400 (by omega) (by omega) kkt.size
              have HRUN := hide hrun
              clear hrun hi0 hz0 hz1 hz2
              go_wp2_with (at_builtin; refine Lib.wpList_append_run _ rfl _ _ _ _ rfl _ _ rfl rfl _ _ (unhide HRUN) ?_)
              go_ret
              exact ⟨_, (zs.take j) ++ List.replicate 400 0, rfl, hown5, hbt.app (fun z hz => by have := List.eq_of_mem_replicate hz; omega), by rw [List.length_append, List.length_replicate]; omega, ct.grown hgrow5 (fun k hk => by have := (hownt.lt k hk).1; omega), kkt.growNew hgrow5 (fun k hk => (hownt.lt k hk).1)⟩
          · clear s0 s3
            have g4 := c4.1
            go_wp2_with fail
            have hr := Row.lit .i64 w4 3 [192, 193, 224, 237, 240, 244, 245, 255, 128, 191] (by simp [maxLen])
            refine (l1PickInt_any g lo _ (c4.kept ((Kept.refl 0 0 w4).alloc _) (by omega)) hr (by simp) (by omega)).mono ?_
            rintro e w5 ⟨y, rfl, hy, c5, k5, -⟩
            have hyb : 0 ≤ y ∧ y ≤ 255 := by simp at hy; omega
            obtain ⟨y0, y1⟩ := hyb
            have hown5 := own_other (hown4.alloc _) k5 hg
            have kk5 := (kk4.trans ((Kept.refl g (g + 1) w4).alloc _)).trans k5
            clear hown4 kk4 c4 k5 hy hr
            have hyw : IntKind.u8.wrap y = y := by rw [IntKind.wrap_u8]; omega
            have hcj : ¬ cap = j := by omega
            have hj1 : (j : Int) ≤ (cap : Int) := by omega
            have hj2 : (j : Int) ≤ (zs.length : Int) := by omega
            have hl1 : (((zs.drop 0).take j).map (Value.int .u8)).length = j * 1 := by simp; omega
            have hl3 : (((zs.drop j).take (zs.length - j)).map (Value.int .u8)).length = (zs.length - j) * 1 := by simp
            go_wp2
            go_region_law (first
              | (refine step_append_own rfl (.tmp 36) (.tmp 39) 22 rfl w5.heap.size 5 i0 (.int .u8 0) 1 1 Tryd.underlying22 hi0 hz0 hz1 hz2 rfl (by decide) (.slice (some ⟨_, 0, none⟩) 0 0) 0 [] rfl ?_ ⟨gb, 0, none⟩ j cap (((zs.drop 0).take j).map (Value.int .u8)) rfl hl1 ?_ (ints_one _ _) (by unfold maxLen; omega) (by omega) ?_ ?_; (refine World.ownsRow.drew ?_; first | exact own_nil_at _ _ _ _ (by simp) (by simp) | exact World.ownsRow.alloc (own_nil_at _ _ _ _ (by simp) (by simp)) _); (refine own_part hown5 ?_ 0 j (by omega); (repeat (first | exact Below.refl _ _ | assumption | refine Below.drew ?_ | refine below_alloc ?_ _))); (refine Below.size (B := w5.heap.size) ?_; (repeat (first | exact Below.refl _ _ | assumption | refine Below.drew ?_ | refine below_alloc ?_ _))); intro v6 w6 hown6 hgrow6 hblk6; have hb6 : Below w5.heap.size w5 w6 := below_grown (by (repeat (first | exact Below.refl _ _ | assumption | refine Below.drew ?_ | refine below_alloc ?_ _))) hgrow6 hblk6)
              | (refine step_append_own rfl (.tmp 40) (.tmp 43) 22 rfl w5.heap.size 5 i0 (.int .u8 0) 1 1 Tryd.underlying22 hi0 hz0 hz1 hz2 rfl (by decide) _ (0 + j) ([] ++ (((zs.drop 0).take j).map (Value.int .u8))) rfl ?_ _ 1 1 [.int .u8 y] rfl rfl ?_ (ints_one .u8 [y]) (by unfold maxLen; omega) (by omega) ?_ ?_; (first | assumption | (refine World.ownsRow.alloc ?_ _; assumption)); (refine lit_cell ?_; first | exact new_cell_at _ _ _ _ rfl | (refine World.grownBy.cell hgrow6 ?_ ?_; (refine drew_cell ?_; first | (refine new_cell_at _ _ _ _ ?_; simp) | (refine old_cell _ ?_; exact new_cell_at _ _ _ _ rfl)); (simp [Value.ownBlock]))); (refine Below.size (B := w5.heap.size) ?_; (repeat (first | exact Below.refl _ _ | assumption | refine Below.drew ?_ | refine below_alloc ?_ _))); intro v7 w7 hown7 hgrow7 hblk7; have hb7 : Below w5.heap.size w5 w7 := below_grown (by (repeat (first | exact Below.refl _ _ | assumption | refine Below.drew ?_ | refine below_alloc ?_ _))) hgrow7 hblk7)
              | (refine step_append_own rfl (.tmp 44) (.tmp 47) 22 rfl w5.heap.size 5 i0 (.int .u8 0) 1 1 Tryd.underlying22 hi0 hz0 hz1 hz2 rfl (by decide) _ (0 + j + 1) ([] ++ (((zs.drop 0).take j).map (Value.int .u8)) ++ [.int .u8 y]) rfl ?_ ⟨gb, j, none⟩ (zs.length - j) (cap - j) (((zs.drop j).take (zs.length - j)).map (Value.int .u8)) rfl hl3 ?_ (ints_one _ _) (by unfold maxLen; omega) (by omega) ?_ ?_; (first | assumption | (refine World.ownsRow.alloc ?_ _; assumption)); (refine own_part hown5 ?_ j (zs.length - j) (by omega); (repeat (first | exact Below.refl _ _ | assumption | refine Below.drew ?_ | refine below_alloc ?_ _))); (refine Below.size (B := w5.heap.size) ?_; (repeat (first | exact Below.refl _ _ | assumption | refine Below.drew ?_ | refine below_alloc ?_ _))); intro v8 w8 hown8 hgrow8 hblk8; have hb8 : Below w5.heap.size w5 w8 := below_grown (by (repeat (first | exact Below.refl _ _ | assumption | refine Below.drew ?_ | refine below_alloc ?_ _))) hgrow8 hblk8))
            all_goals
              obtain ⟨ys, hys⟩ : ∃ ys, ys = ((zs.drop 0).take j ++ [y]) ++ (zs.drop j).take (zs.length - j) := ⟨_, rfl⟩
              have hyl : ys.length = 0 + j + 1 + (zs.length - j) := by rw [hys]; simp; omega
              have hym : ys.map (Value.int .u8) = [] ++ (((zs.drop 0).take j).map (Value.int .u8)) ++ [.int .u8 y] ++ (((zs.drop j).take (zs.length - j)).map (Value.int .u8)) := by rw [hys]; simp
              have hown9 : w8.ownsRow w.heap.size 5 1 v8 ys.length (ys.map (Value.int .u8)) := by rw [hyl, hym]; exact own_less hown8 kk5.size
              have hby9 : Bytes ys := by rw [hys]; exact (((hby.drop 0).take j).app (Bytes.one ⟨y0, y1⟩)).app ((hby.drop j).take _)
              have hl9 : ys.length ≤ 40 := by omega
              have c9 := c5.kept (Kept.pure (B := 0) hb8) (by omega)
              have kk9 := kk5.trans (Kept.any (Kept.pure (B := 0) hb8))
              clear hown8 hgrow8 hblk8 hb8 hown7 hgrow7 hblk7 hb7 hown6 hgrow6 hblk6 hb6 hown5 kk5 c5 hys hyl hym hl1 hl3 hyw hcj
              go_wp2_with fail
              refine (l1Once_any g lo _ c9 40).mono ?_
              rintro e wt ⟨bt, rfl, ct, kt, -⟩
              have hownt := own_other hown9 kt hg
              have kkt := kk9.trans kt
              clear hown9 c9 kk9 kt
              cases bt
              · clear hi0 hz0 hz1 hz2
                go_wp2
                go_ret
                exact ⟨_, ys, rfl, hownt, hby9, by omega, ct, kkt⟩
              · obtain ⟨v5, w5, hrun, hown5, hgrow5⟩ := run_append_own_zeros (P := Tryd.prog) wt w.heap.size 22 3 22 5 i0 .i64 .i64 Tryd.underlying22 Tryd.underlying3 hi0 hz0 hz1 hz2 _ ys hownt 400 (by omega) (by omega) kkt.size
                have HRUN := hide hrun
                clear hrun hi0 hz0 hz1 hz2
                go_wp2_with (at_builtin; refine Lib.wpList_append_run _ rfl _ _ _ _ rfl _ _ rfl rfl _ _ (unhide HRUN) ?_)
                go_ret
                exact ⟨_, ys ++ List.replicate 400 0, rfl, hown5, hby9.app (fun z hz => by have := List.eq_of_mem_replicate hz; omega), by rw [List.length_append, List.length_replicate]; omega, ct.grown hgrow5 (fun k hk => by have := (hownt.lt k hk).1; omega), kkt.growNew hgrow5 (fun k hk => (hownt.lt k hk).1)⟩

end Go.Proofs.YtckolgaalkohlaaDoor
