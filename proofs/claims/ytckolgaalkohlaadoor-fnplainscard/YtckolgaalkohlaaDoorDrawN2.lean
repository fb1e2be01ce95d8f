/-
  The model's l2draw: a natural number that is drawn.
-/
import Derived.Test.YtckolgaalkohlaaDoorDrawN
import Derived.Test.YtckolgaalkohlaaDoorBC
namespace Go.Proofs.YtckolgaalkohlaaDoor
open Go.RowKit
set_option linter.unusedVariables false
set_option maxRecDepth 8000

/-- A list of the call's own beside a cursor of draws in block g; the result's cell lies at b, still nought. -/
structure GrowD (g lo b : Nat) (w wr : World) (v : Value) (zs : List Int) : Prop where
  own : wr.ownsRow (b + 1) 3 1 v zs.length (zs.map (Value.int .i64))
  hb : w.heap.size ≤ b
  lt : b < wr.heap.size
  d : Drawn g lo w wr
  cell : wr.cell? ⟨b, 0, none⟩ = some (.slice none 0 0)
  loose : wr.frozen? ⟨b, 0, none⟩ = false
  hg : g < w.heap.size

theorem GrowD.grown {g lo b : Nat} {w wr w' : World} {v v' : Value} {zs qs : List Int} (h : GrowD g lo b w wr v zs) (o : Obj) (hg : (wr.alloc o).grownBy w' v.ownBlock) (hown : w'.ownsRow (b + 1) 3 1 v' qs.length (qs.map (Value.int .i64))) : GrowD g lo b w w' v' qs := by
  have ha := (Kept.refl 0 0 wr).alloc o
  have hk : ∀ k, v.ownBlock = some k → b + 1 ≤ k := fun k hk => (h.own.lt k hk).1
  have h1 := h.hb
  have h2 := h.hg
  have h3 := h.lt
  have hsz := hg.size
  refine ⟨hown, h.hb, by simp at hsz; omega, ⟨(h.d.1.kept ha (by omega)).grown hg (fun k e => by have := hk k e; omega), (h.d.2.trans ha.any).growNew hg (fun k e => by have := hk k e; omega)⟩, hg.cell (ha.cell0 h.cell) (fun e => by have := hk _ e.symm; simp at this; omega), ?_, h.hg⟩
  have hb := hg.block b (by simp; omega) (fun e => by have := hk _ e.symm; omega)
  have hf := ha.loose0 (a := ⟨b, 0, none⟩) h.lt h.loose
  rw [← hf]
  exact World.frozen?_of_block hb
theorem GrowD.drew {g lo b : Nat} {w wr w' : World} {v : Value} {zs : List Int} (h : GrowD g lo b w wr v zs) (d : Drawn g lo wr w') : GrowD g lo b w w' v zs := by
  have h1 := h.hb
  have h2 := h.hg
  refine ⟨own_other h.own d.2 (by omega), h.hb, Nat.lt_of_lt_of_le h.lt d.2.size, h.d.trans d, d.2.cellOut (.inr (show g + 1 ≤ b by omega)) h.cell, ?_, h.hg⟩
  rw [← h.loose]
  exact World.frozen?_of_block (d.2.block b h.lt (by omega))
theorem GrowD.form {g lo b : Nat} {w wr : World} {v : Value} {zs : List Int} (h : GrowD g lo b w wr v zs) : ∃ a c, v = .slice a zs.length c := own_slice h.own

/-- What is drawn: a number of the call's own. -/
def DrawnN (g lo : Nat) (w w' : World) (v : Value) : Prop :=
  ∃ zs, w'.ownsRow w.heap.size 3 1 v zs.length (zs.map (Value.int .i64)) ∧ Nrm zs ∧ zs.length ≤ 100 ∧ Drawn g lo w w'

set_option maxHeartbeats 4000000 in
theorem draw_any (g lo : Nat) (w : World) (c : Cur g lo w) :
    Calls Tryd.prog 32 #[.pointer (some ⟨g, 0, none⟩)] w fun e w' => ∃ v, e = .returned (.agg #[v]) ∧ DrawnN g lo w w' v := by
  have k0 := (Kept.refl 0 0 w).alloc (.cells #[.slice none 0 0] 26)
  have hgw := c.1
  have c0 := c.kept k0 (by omega)
  have hg0 : GrowD g lo w.heap.size w (w.alloc (.cells #[.slice none 0 0] 26)) (.slice none 0 0) [] :=
    ⟨World.ownsRow_nil _ _ _ _, Nat.le_refl _, by simp, ⟨c0, k0.any⟩, new_cell_at _ _ _ _ rfl, new_loose _ _ _ _ rfl, hgw⟩
  clear k0 c
  go_enter Tryd.func32, Tryd.ntmps32
  go_wp2_with fail
  generalize w.alloc (.cells #[.slice none 0 0] 26) = W at *
  refine (drawLen_any g lo _ c0).mono ?_
  rintro e w1 ⟨n, rfl, hn, d1⟩
  replace hg0 := hg0.drew d1
  have HG0 := hide hg0
  clear d1 c0 hg0
  go_wp2_with fail
  go_loopw [3, 5] (fun l ii wr => ∃ (zs : List Int) (i : Nat), ii = .int .i64 (i : Int) ∧ i ≤ n ∧ Hid (zs.length = i) ∧ Lim zs ∧ GrowD g lo w.heap.size w wr l zs) (fun _ ii _ => n - (intOf ii).toNat)
  case atStart => exact ⟨[], 0, rfl, Nat.zero_le _, hide rfl, Lim.nil, unhide HG0⟩
  case round =>
    clear HG0
    obtain ⟨zs, i, rfl, hi, hz, hlz, hgr⟩ := hrel
    obtain ⟨az, cz, rfl⟩ := hgr.form
    have hzl : zs.length ≤ 1000000 := by have := unhide hz; omega
    by_cases hA : i < n
    · have hi1 : (i : Int) < (n : Int) := by omega
      go_wp2_with fail
      refine (l1Below_any g lo _ hgr.d.1 4).mono ?_
      rintro e w2 ⟨x, rfl, -, hx, d2⟩
      have hx2 := hx (by omega)
      clear hx
      replace hgr := hgr.drew d2.drawn
      clear d2
      by_cases h0 : x = 0
      · subst h0
        have hown' := own_kept hgr.own ((Kept.refl 0 0 w2).alloc (.cells #[.int .i64 (65535)] 3))
        have hcc : (w2.alloc (.cells #[.int .i64 (65535)] 3)).cell? ⟨w2.heap.size, 0, none⟩ = some (.int .i64 (65535)) := new_cell_at _ _ _ _ rfl
        have hbb : w.heap.size + 1 ≤ (w2.alloc (.cells #[.int .i64 (65535)] 3)).heap.size := by have := hgr.lt; simp; omega
        have HBB := hide hbb
        clear hbb
        go_wp2_with (at_builtin; refine wpList_snoc rfl _ _ rfl rfl _ rfl (65535) hcc hown' hzl (unhide HBB) ?_)
        intro v' w' hown2 hgrow hat
        unfold OwnL at hown2
        have hgr2 := hgr.grown _ hgrow hown2
        clear hown' hcc hown2 hgrow hat hgr HBB
        go_wp2
        go_roundw
        case rel => exact ⟨zs ++ [65535], i + 1, by go_num, by omega, hide (by rw [List.length_append, unhide hz]; rfl), hlz.snoc (by omega) (by omega), hgr2⟩
        case measure => simp [intOf]; omega
      · have h0b : (x == 0) = false := beq_eq_false_iff_ne.2 h0
        by_cases h1 : x = 1
        · subst h1
          have hown' := own_kept hgr.own ((Kept.refl 0 0 w2).alloc (.cells #[.int .i64 (0)] 3))
          have hcc : (w2.alloc (.cells #[.int .i64 (0)] 3)).cell? ⟨w2.heap.size, 0, none⟩ = some (.int .i64 (0)) := new_cell_at _ _ _ _ rfl
          have hbb : w.heap.size + 1 ≤ (w2.alloc (.cells #[.int .i64 (0)] 3)).heap.size := by have := hgr.lt; simp; omega
          have HBB := hide hbb
          clear hbb
          go_wp2_with (at_builtin; refine wpList_snoc rfl _ _ rfl rfl _ rfl (0) hcc hown' hzl (unhide HBB) ?_)
          intro v' w' hown2 hgrow hat
          unfold OwnL at hown2
          have hgr2 := hgr.grown _ hgrow hown2
          clear hown' hcc hown2 hgrow hat hgr HBB
          go_wp2
          go_roundw
          case rel => exact ⟨zs ++ [0], i + 1, by go_num, by omega, hide (by rw [List.length_append, unhide hz]; rfl), hlz.snoc (by omega) (by omega), hgr2⟩
          case measure => simp [intOf]; omega
        · have h1b : (x == 1) = false := beq_eq_false_iff_ne.2 h1
          go_wp2_with fail
          refine (l1Below_any g lo _ hgr.d.1 65536).mono ?_
          rintro e w3 ⟨y, rfl, -, hy, d3⟩
          have hy2 := hy (by omega)
          clear hy
          replace hgr := hgr.drew d3.drawn
          clear d3
          have hown' := own_kept hgr.own ((Kept.refl 0 0 w3).alloc (.cells #[.int .i64 (y)] 3))
          have hcc : (w3.alloc (.cells #[.int .i64 (y)] 3)).cell? ⟨w3.heap.size, 0, none⟩ = some (.int .i64 (y)) := new_cell_at _ _ _ _ rfl
          have hbb : w.heap.size + 1 ≤ (w3.alloc (.cells #[.int .i64 (y)] 3)).heap.size := by have := hgr.lt; simp; omega
          have HBB := hide hbb
          clear hbb
          go_wp2_with (at_builtin; refine wpList_snoc rfl _ _ rfl rfl _ rfl (y) hcc hown' hzl (unhide HBB) ?_)
          intro v' w' hown2 hgrow hat
          unfold OwnL at hown2
          have hgr2 := hgr.grown _ hgrow hown2
          clear hown' hcc hown2 hgrow hat hgr HBB
          go_wp2
          go_roundw
          case rel => exact ⟨zs ++ [y], i + 1, by go_num, by omega, hide (by rw [List.length_append, unhide hz]; rfl), hlz.snoc (by omega) (by omega), hgr2⟩
          case measure => simp [intOf]; omega
    · have hi1 : ¬ (i : Int) < (n : Int) := by omega
      go_wp2_with fail
      refine (l1Once_any g lo _ hgr.d.1 4).mono ?_
      rintro e w2 ⟨b, rfl, d2⟩
      replace hgr := hgr.drew d2.drawn
      clear d2
      have hl100 : zs.length ≤ 100 := by have := unhide hz; omega
      cases b
      · have rz := Row.own hgr.own
        go_wp2_with fail
        refine (norm_own _ rz hzl).mono ?_
        rintro e w3 ⟨v3, rfl, ⟨zs3, o3, ⟨k3, hk3, e3⟩, hl3⟩, k3'⟩
        have c3 := k3'.cell0 hgr.cell
        have f3 := k3'.loose0 (a := ⟨w.heap.size, 0, none⟩) hgr.lt hgr.loose
        have hlen3 : zs3.length ≤ 100 := by rw [e3]; simp; omega
        have hnrm : Nrm zs3 := by rw [hl3 hlz]; exact limbs_nrm _
        have hlt := hgr.lt
        obtain ⟨a3, d3, ev⟩ := own_slice o3
        subst ev
        have O := hide (own_less (ownsRow_setCell_below o3 (a := ⟨w.heap.size, 0, none⟩) hlt (.slice a3 zs3.length d3)) (show w.heap.size ≤ w2.heap.size by omega))
        have DD : Hid (Drawn g lo w (w3.setCell ⟨w.heap.size, 0, none⟩ (.slice a3 zs3.length d3))) := ⟨(hgr.d.1.kept k3' (by omega)).setFar (p := ⟨w.heap.size, 0, none⟩) hgw _, (hgr.d.2.trans k3'.any).setNew (p := ⟨w.heap.size, 0, none⟩) (Nat.le_refl _) _⟩
        clear o3 k3' hl3 e3 hgr rz
        go_wp2_with fail
        exact bodyPost_ret (v := .agg #[.slice a3 zs3.length d3]) (by simp [results, Tryd.results32, go_sem, c3]) rfl ⟨_, rfl, zs3, unhide O, hnrm, hlen3, unhide DD⟩
      · have hgl := hgr.d.1.1
        go_wp2_with fail
        have hr := Row.lit .i64 w2 3 [0, 1, 2, 9, 10, 65535, 65536, 1099511627776, 4611686018427387903, 4611686018427387904] (by simp [maxLen])
        refine (l1PickInt_any g lo _ (hgr.d.1.kept ((Kept.refl 0 0 w2).alloc _) (by omega)) hr (by simp) (by omega)).mono ?_
        rintro e w3 ⟨x, rfl, hx, d3⟩
        have hx2 : x ≤ 9223372036854775807 := by
          simp only [List.mem_cons, List.not_mem_nil, or_false] at hx
          omega
        clear hx hr
        have hgr3 : GrowD g lo w.heap.size w w3 (.slice none 0 0) [] := GrowD.drew ⟨World.ownsRow_nil _ _ _ _, hgr.hb, Nat.lt_of_lt_of_le hgr.lt (by simp), hgr.d.keptR ((Kept.refl 0 0 w2).alloc _), ((Kept.refl 0 0 w2).alloc _).cell0 hgr.cell, ((Kept.refl 0 0 w2).alloc _).loose0 (a := ⟨w.heap.size, 0, none⟩) hgr.lt hgr.loose, hgw⟩ d3.drawn
        clear hgr d3
        go_wp2_with fail
        refine (of_own _ x hx2).mono ?_
        rintro e w4 ⟨v4, rfl, o4, k4⟩
        have c4 := k4.cell0 hgr3.cell
        have f4 := k4.loose0 (a := ⟨w.heap.size, 0, none⟩) hgr3.lt hgr3.loose
        have hl4 : (limbs x.toNat).length ≤ 100 := by
          have := (limbs_length_le x.toNat 4).2 (by
            have : (65536 : Int) ^ 4 = 18446744073709551616 := by decide
            omega)
          omega
        have hnrm := limbs_nrm x.toNat
        generalize limbs x.toNat = zs4 at *
        have hlt := hgr3.lt
        obtain ⟨a4, d4, ev⟩ := own_slice o4
        subst ev
        have O := hide (own_less (ownsRow_setCell_below o4 (a := ⟨w.heap.size, 0, none⟩) hlt (.slice a4 zs4.length d4)) (show w.heap.size ≤ w3.heap.size by omega))
        have DD : Hid (Drawn g lo w (w4.setCell ⟨w.heap.size, 0, none⟩ (.slice a4 zs4.length d4))) := ⟨(hgr3.d.1.kept k4 (by omega)).setFar (p := ⟨w.heap.size, 0, none⟩) hgw _, (hgr3.d.2.trans k4.any).setNew (p := ⟨w.heap.size, 0, none⟩) (Nat.le_refl _) _⟩
        clear o4 k4 hgr3
        go_wp2_with fail
        exact bodyPost_ret (v := .agg #[.slice a4 zs4.length d4]) (by simp [results, Tryd.results32, go_sem, c4]) rfl ⟨_, rfl, zs4, unhide O, hnrm, hl4, unhide DD⟩

end Go.Proofs.YtckolgaalkohlaaDoor
