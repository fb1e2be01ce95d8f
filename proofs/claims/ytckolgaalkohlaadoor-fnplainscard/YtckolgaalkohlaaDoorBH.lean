/-
  Contracts that the proofs of this seat share: ISide, INat22, IWh1.
-/
import Derived.Test.YtckolgaalkohlaaDoorBF
import Derived.Test.YtckolgaalkohlaaDoorBB
import Derived.Test.YtckolgaalkohlaaDoorBE
import Derived.Test.YtckolgaalkohlaaDoorBC
namespace Go.Proofs.YtckolgaalkohlaaDoor
open Go.RowKit
set_option linter.unusedVariables false
set_option maxRecDepth 8000

/-- Behind its first cell block g is as it was. -/
def SameSide (g : Nat) (w w' : World) : Prop := ∀ o, 1 ≤ o → w'.cell? ⟨g, o, none⟩ = w.cell? ⟨g, o, none⟩ ∧ w'.frozen? ⟨g, o, none⟩ = w.frozen? ⟨g, o, none⟩
theorem SameSide.refl (g : Nat) (w : World) : SameSide g w w := fun _ _ => ⟨rfl, rfl⟩
theorem SameSide.trans {g : Nat} {a b c : World} (h : SameSide g a b) (k : SameSide g b c) : SameSide g a c := fun o ho => ⟨(k o ho).1.trans (h o ho).1, (k o ho).2.trans (h o ho).2⟩
theorem SameSide.drewN {g : Nat} {a w : World} (h : SameSide g a w) (n : Nat) : SameSide g a (w.drewN n) := h
theorem side_setAt (w : World) (g p o : Nat) (u : Value) (ho : p ≠ o) : (w.setCell ⟨g, p, none⟩ u).cell? ⟨g, o, none⟩ = w.cell? ⟨g, o, none⟩ := by
  unfold World.cell? World.setCell
  simp only [Array.getElem?_modify]
  cases hb : w.heap[g]? with
  | none => simp
  | some b => cases b <;> simp [ho]
theorem side_set (w : World) (g : Nat) (u : Value) : (w.setCell ⟨g, 0, none⟩ u).cell? ⟨g, 1, none⟩ = w.cell? ⟨g, 1, none⟩ := side_setAt w g 0 1 u (by decide)
theorem SameSide.set0 {g : Nat} {a w : World} (h : SameSide g a w) (u : Value) : SameSide g a (w.setCell ⟨g, 0, none⟩ u) :=
  fun o ho => ⟨(side_setAt w g 0 o u (by omega)).trans (h o ho).1, (frozen_set w g 0 _ u).trans (h o ho).2⟩
theorem SameSide.far {g : Nat} {a w : World} (h : SameSide g a w) {p o : Nat} (hp : p ≠ g) (u : Value) : SameSide g a (w.setCell ⟨p, o, none⟩ u) :=
  fun q hq => ⟨(World.cell?_of_block (w := w) (a := ⟨g, q, none⟩) (Below.heap_setCell _ _ _ _ (fun e => hp e.symm))).trans (h q hq).1, (frozen_set w p o _ u).trans (h q hq).2⟩
theorem SameSide.ofBlock {g : Nat} {w w' : World} (h : w'.heap[g]? = w.heap[g]?) : SameSide g w w' :=
  fun q hq => ⟨World.cell?_of_block (w := w) (a := ⟨g, q, none⟩) h, World.frozen?_of_block (w := w) (a := ⟨g, q, none⟩) h⟩
theorem Kept.side {g : Nat} {w w' : World} (k : Kept 0 0 w w') (hg : g < w.heap.size) : SameSide g w w' := SameSide.ofBlock (k.block g hg (by omega))
theorem Mod.side {S : Nat → Prop} {g : Nat} {w w' : World} (k : Mod S w w') (hg : g < w.heap.size) (hS : ¬ S g) : SameSide g w w' := SameSide.ofBlock (k.block g hg hS)

/-- Behind its first two cells block g is as it was. -/
def SameTail (g : Nat) (w w' : World) : Prop := ∀ o, 2 ≤ o → w'.cell? ⟨g, o, none⟩ = w.cell? ⟨g, o, none⟩ ∧ w'.frozen? ⟨g, o, none⟩ = w.frozen? ⟨g, o, none⟩
theorem SameTail.refl (g : Nat) (w : World) : SameTail g w w := fun _ _ => ⟨rfl, rfl⟩
theorem SameTail.trans {g : Nat} {a b c : World} (h : SameTail g a b) (k : SameTail g b c) : SameTail g a c := fun o ho => ⟨(k o ho).1.trans (h o ho).1, (k o ho).2.trans (h o ho).2⟩
theorem SameTail.drew {g : Nat} {a w : World} (h : SameTail g a w) : SameTail g a w.drew := h
theorem SameTail.drewN {g : Nat} {a w : World} (h : SameTail g a w) (n : Nat) : SameTail g a (w.drewN n) := h
theorem SameSide.tail {g : Nat} {w w' : World} (h : SameSide g w w') : SameTail g w w' := fun o ho => h o (by omega)
theorem SameTail.set1 {g : Nat} {a w : World} (h : SameTail g a w) (u : Value) : SameTail g a (w.setCell ⟨g, 1, none⟩ u) :=
  fun o ho => ⟨(side_setAt w g 1 o u (by omega)).trans (h o ho).1, (frozen_set w g 1 _ u).trans (h o ho).2⟩

/-- Two numbers that lie apart, newer than w0; since wb only the first one's blocks have turned, and of its cell's block only the first cell. -/
structure TwoS (wb : World) (u0 : Value) (w0 wx : World) (g1 g2 : Nat) (u1 u2 : Value) (xs ys : List Int) : Prop where
  two : Two w0 wx g1 g2 u1 u2 xs ys
  d1 : SameSide g1 wb wx
  m : Mod (Own1 g1 u0) wb wx
  ob : ∀ i, u1.ownBlock = some i → u0.ownBlock = some i ∨ wb.heap.size ≤ i

section
variable {wb w0 wx w w' W : World} {g1 g2 : Nat} {u0 u1 u1' u2 v v' : Value} {xs ys zs qs : List Int}
theorem Two.startS (t : Two w0 w g1 g2 u1 u2 xs ys) : TwoS w u1 w0 w g1 g2 u1 u2 xs ys := ⟨t, SameSide.refl _ _, Mod.refl _ _, fun _ h => .inl h⟩
theorem TwoS.n1 (t : TwoS wb u0 w0 wx g1 g2 u1 u2 xs ys) : Num w0.heap.size wx g1 u1 xs := t.two.n1
theorem TwoS.n2 (t : TwoS wb u0 w0 wx g1 g2 u1 u2 xs ys) : Num w0.heap.size wx g2 u2 ys := t.two.n2
theorem TwoS.k (t : TwoS wb u0 w0 wx g1 g2 u1 u2 xs ys) : Kept 0 0 w0 wx := t.two.k
theorem TwoS.kept (t : TwoS wb u0 w0 W g1 g2 u1 u2 xs ys) (k : Kept 0 0 W w') : TwoS wb u0 w0 w' g1 g2 u1 u2 xs ys := ⟨t.two.kept k, t.d1.trans (k.side t.n1.lt), t.m.kept k, t.ob⟩
theorem TwoS.put {gb cap j n : Nat} (t : TwoS wb u0 w0 w g1 g2 (.slice (some ⟨gb, 0, none⟩) n cap) u2 zs ys) (hn : zs.length = n) (z : Int) :
    TwoS wb u0 w0 (w.setCell ⟨gb, j, none⟩ (.int .i64 z)) g1 g2 (.slice (some ⟨gb, 0, none⟩) n cap) u2 (zs.set j z) ys :=
  ⟨t.two.put hn z, t.d1.far (fun e => t.n1.apart (by simp [Value.ownBlock, e])) _, t.m.set (p := ⟨gb, j, none⟩) ((t.ob gb rfl).imp (fun h => .inr h) id) _, t.ob⟩
theorem TwoS.snoc (t : TwoS wb u0 w0 w g1 g2 v u2 zs ys) (o : Obj) (hg : (w.alloc o).grownBy w' v.ownBlock) (hat : v'.ownBlock = v.ownBlock ∨ v'.ownBlock = some (w.heap.size + 1))
    (hown : w'.ownsRow w0.heap.size 3 1 v' qs.length (qs.map (Value.int .i64))) :
    w'.cell? ⟨g1, 0, none⟩ = some v ∧ w'.frozen? ⟨g1, 0, none⟩ = false ∧ TwoS wb u0 w0 (w'.setCell ⟨g1, 0, none⟩ v') g1 g2 v' u2 qs ys := by
  obtain ⟨e1, e2, t2⟩ := t.two.snoc o hg hat hown
  have k := (Kept.refl 0 0 w).alloc o
  have l1 := t.n1.lt
  have s1 : SameSide g1 (w.alloc o) w' := SameSide.ofBlock (hg.block g1 (by simp; omega) (fun e => t.n1.apart e.symm))
  have hm := ((t.m.kept k).grow hg (fun i hi => (t.ob i hi).imp (fun h => .inr h) id)).set (p := ⟨g1, 0, none⟩) (.inl (.inl rfl)) v'
  refine ⟨e1, e2, t2, ((t.d1.trans (k.side l1)).trans s1).set0 _, hm, fun i hi => ?_⟩
  rcases hat with e | e
  · exact t.ob i (by rw [← e]; exact hi)
  · rw [e] at hi
    simp at hi
    have := t.m.size
    exact .inr (by omega)
theorem TwoS.mod1 (t : TwoS wb u0 w0 W g1 g2 u1 u2 xs ys) (n : Num w0.heap.size w' g1 u1' zs) (ho : u1'.ownBlock = u1.ownBlock) (m : Mod (fun i => i = g1) W w') (s : SameSide g1 W w') : TwoS wb u0 w0 w' g1 g2 u1' u2 zs ys :=
  ⟨t.two.mod1 n ho m, t.d1.trans s, t.m.then m (fun i e => .inl (.inl e)), by rw [ho]; exact t.ob⟩
end

end Go.Proofs.YtckolgaalkohlaaDoor

namespace Go.Proofs.YtckolgaalkohlaaDoor
open Go.RowKit
set_option linter.unusedVariables false
set_option maxRecDepth 8000

set_option maxHeartbeats 1000000 in
theorem isZero_impl {b g : Nat} {v : Value} {zs : List Int} (w : World) (h : Num b w g v zs) :
    Calls Tryd.prog 41 #[.pointer (some ⟨g, 0, none⟩)] w fun e w' => e = .returned (.bool (decide (zs.length = 0))) ∧ w' = w := by
  have hc := h.cell
  obtain ⟨a1, c1, rfl⟩ := h.form
  clear h
  go_enter Tryd.func41, Tryd.ntmps41
  go_wp2
  go_ret
  refine ⟨?_, rfl⟩
  cases zs with
  | nil => simp
  | cons z t => simp; omega

end Go.Proofs.YtckolgaalkohlaaDoor

namespace Go.Proofs.YtckolgaalkohlaaDoor
open Go.RowKit
set_option linter.unusedVariables false
set_option maxRecDepth 8000
set_option linter.unusedSimpArgs false

/-- The second cell of block g tells the sign s, and may be written. -/
def Sd (w : World) (g : Nat) (s : Bool) : Prop := w.cell? ⟨g, 1, none⟩ = some (.bool s) ∧ w.frozen? ⟨g, 1, none⟩ = false
theorem Sd.same {w w' : World} {g : Nat} {s : Bool} (h : Sd w g s) (k : SameSide g w w') : Sd w' g s := ⟨(k 1 (Nat.le_refl 1)).1.trans h.1, (k 1 (Nat.le_refl 1)).2.trans h.2⟩
theorem Sd.lt {w : World} {g : Nat} {s : Bool} (h : Sd w g s) : g < w.heap.size := World.block_lt_of_cell? _ ⟨g, 1, none⟩ h.1
theorem Sd.kept {w w' : World} {g : Nat} {s : Bool} (h : Sd w g s) (k : Kept 0 0 w w') : Sd w' g s := h.same (k.side h.lt)

set_option maxHeartbeats 1000000 in
theorem isBelow_impl {b g : Nat} {v : Value} {zs : List Int} {s : Bool} (w : World) (h : Num b w g v zs) (d : Sd w g s) :
    Calls Tryd.prog 36 #[.pointer (some ⟨g, 0, none⟩)] w fun e w' => e = .returned (.bool (s && decide (0 < zs.length))) ∧ w' = w := by
  have hc := h.cell
  have hd := d.1
  have hz := isZero_impl w h
  obtain ⟨a1, c1, rfl⟩ := h.form
  have HZ := hide hz
  clear hz h d
  cases s
  · go_enter Tryd.func36, Tryd.ntmps36
    go_wp2
    go_ret
    exact ⟨rfl, rfl⟩
  · go_enter Tryd.func36, Tryd.ntmps36
    go_wp2_with (go_at_call 41; refine (unhide HZ).mono ?_; rintro e w' ⟨rfl, rfl⟩)
    go_ret
    refine ⟨?_, rfl⟩
    cases zs <;> simp

theorem in_isBelow : ∀ (w : World) (args : Array Value), (callFunc 36 args).run Tryd.prog w = .ok (.enter 36 args) w := enters Tryd.func36 (by decide) (fun h => by cases h)

set_option maxHeartbeats 2000000 in
theorem toldSigned_impl {b g : Nat} {v : Value} {zs : List Int} {s : Bool} (w : World) (h : Num b w g v zs) (d : Sd w g s) :
    Calls Tryd.prog 24 #[.pointer (some ⟨g, 0, none⟩)] w fun e w' => ∃ v', e = .returned (.tuple #[.agg #[.bool (decide (zs.length ≤ 100) && (s && decide (0 < zs.length))), v'], .bool (decide (zs.length ≤ 100))]) ∧ Row .i64 true w.heap.size w'.heap.size w' v' (tell zs) ∧ Kept 0 0 w w' := by
  have hb : (if zs.length ≤ 100 then tell zs = zs else tell zs = []) := by unfold tell; split <;> rfl
  obtain ⟨zz, hzz⟩ : ∃ zz, tell zs = zz := ⟨_, rfl⟩
  rw [hzz] at hb
  rw [hzz]
  have HZ := hide hzz
  clear hzz
  have k0 : Kept 0 0 w (w.alloc (.cells #[.bool false, .slice none 0 0] 28)) := ((Kept.refl 0 0 w).alloc (.cells #[.bool false, .slice none 0 0] 28))
  have q0 : (w.alloc (.cells #[.bool false, .slice none 0 0] 28)).cell? ⟨w.heap.size, 0, none⟩ = some (.bool false) := new_cell2 _ _ _ _ _ _ (by simp) rfl
  have qf0 : (w.alloc (.cells #[.bool false, .slice none 0 0] 28)).frozen? ⟨w.heap.size, 0, none⟩ = false := new_loose2 _ _ _ _ _ (by simp)
  have q1 : (w.alloc (.cells #[.bool false, .slice none 0 0] 28)).cell? ⟨w.heap.size, 1, none⟩ = some (.slice none 0 0) := new_cell2 _ _ _ _ _ _ (by simp) rfl
  have qf1 : (w.alloc (.cells #[.bool false, .slice none 0 0] 28)).frozen? ⟨w.heap.size, 1, none⟩ = false := new_loose2 _ _ _ _ _ (by simp)
  have s0 : (w.alloc (.cells #[.bool false, .slice none 0 0] 28)).heap.size = w.heap.size + 1 := by simp
  have K := hide (k0)
  clear k0
  have S0 := hide s0
  clear s0
  replace h := h.kept (unhide K)
  replace d := d.kept (unhide K)
  go_enter Tryd.func24, Tryd.ntmps24
  go_wp2_with fail
  generalize (w.alloc (.cells #[.bool false, .slice none 0 0] 28)) = W at *
  refine (told_impl _ h).mono ?_
  rintro e w1 ⟨v1, rfl, r1, k1⟩
  replace h := h.kept k1
  replace d := d.kept k1
  replace qf0 := k1.loose0 (World.block_lt_of_cell? _ _ q0) qf0
  replace qf1 := k1.loose0 (World.block_lt_of_cell? _ _ q1) qf1
  replace q0 := k1.cell0 q0
  replace q1 := k1.cell0 q1
  replace K := hide ((unhide K).trans k1)
  have z2 := k1.size
  clear k1
  rw [unhide HZ] at r1
  obtain ⟨a1, c1, hv⟩ := Row.form' r1
  subst hv
  have k2 := (Kept.refl 0 0 w1).alloc (.cells #[.slice a1 zz.length c1] 26)
  have y0 : (w1.alloc (.cells #[.slice a1 zz.length c1] 26)).cell? ⟨w1.heap.size, 0, none⟩ = some (.slice a1 zz.length c1) := new_cell2 _ _ _ _ _ _ rfl rfl
  replace r1 := r1.kept k2 (by omega)
  replace h := h.kept k2
  replace d := d.kept k2
  replace qf0 := k2.loose0 (World.block_lt_of_cell? _ _ q0) qf0
  replace qf1 := k2.loose0 (World.block_lt_of_cell? _ _ q1) qf1
  replace q0 := k2.cell0 q0
  replace q1 := k2.cell0 q1
  replace K := hide ((unhide K).trans k2)
  have z3 := k2.size
  clear k2
  by_cases hl : zs.length ≤ 100
  · rw [if_pos hl] at hb
    subst hb
    rw [decide_eq_true hl]
    go_wp2_with fail
    generalize w1.alloc (.cells #[.slice a1 zz.length c1] 26) = W2 at *
    obtain ⟨sg, hsg⟩ : ∃ sg, (s && decide (0 < zz.length)) = sg := ⟨_, rfl⟩
    have hbl := isBelow_impl W2.drew (h.kept (Kept.refl 0 0 W2).drew) (d.kept (Kept.refl 0 0 W2).drew)
    rw [hsg] at hbl
    have HSG := hide hsg
    have hbk : Calls Tryd.prog 36 #[.pointer (some ⟨g, 0, none⟩)] W2.drew fun e w' => e = .returned (.bool sg) ∧ Kept 0 0 W2.drew w' := hbl.mono (fun e w' h => ⟨h.1, by rw [h.2]; exact Kept.refl 0 0 _⟩)
    clear hsg hbl
    have kd := (Kept.refl 0 0 W2).drew
    replace r1 := r1.kept kd (by omega)
    replace h := h.kept kd
    replace d := d.kept kd
    replace qf0 := kd.loose0 (World.block_lt_of_cell? _ _ q0) qf0
    replace qf1 := kd.loose0 (World.block_lt_of_cell? _ _ q1) qf1
    replace q0 := kd.cell0 q0
    replace q1 := kd.cell0 q1
    replace y0 := kd.cell0 y0
    replace K := hide ((unhide K).trans kd)
    have z4 := kd.size
    clear kd
    refine wp_region_held_drew (S := (fun w' => w'.cell? ⟨w1.heap.size, 0, none⟩ = some (.slice a1 zz.length c1))) (by kernel_rfl) ?_ (fun hHeld => ?_)
    · exact y0
    refine wpAnyH_take (i := 0) (oi := _) (v := .pointer (some ⟨g, 0, none⟩)) rfl (by kernel_rfl) (by kernel_rfl) (by kernel_rfl) (fun _ _ _ h => h) (Or.inl ⟨by rfl, ?_⟩) hHeld ?_
    · intro wq hSw
      try dsimp only at hSw
      go_simp
    try simp only [Act.put, List.getElem_toArray, List.getElem_cons_succ, List.getElem_cons_zero, List.setIfInBounds_toArray, List.set_cons_zero, List.set_cons_succ]
    refine wpAnyH_take (i := 2) (oi := _) (v := .agg #[.slice a1 zz.length c1]) rfl (by kernel_rfl) (by kernel_rfl) (by kernel_rfl) (fun _ _ _ h => h) (Or.inl ⟨by rfl, ?_⟩) hHeld ?_
    · intro wq hSw
      try dsimp only at hSw
      go_simp
    try simp only [Act.put, List.getElem_toArray, List.getElem_cons_succ, List.getElem_cons_zero, List.setIfInBounds_toArray, List.set_cons_zero, List.set_cons_succ]
    refine wpAnyH_ready (rs := [1]) (by kernel_rfl) (by simp) ?_
    refine AllReadyH.cons rfl (fun KK hK => ?_) AllReadyH.nil
    simp only [List.getElem_toArray, List.getElem_cons_succ, List.getElem_cons_zero]
    rw [if_pos (by rfl)]
    refine wps1 36 (.tmp 16) _ rfl in_isBelow (.pointer (some ⟨g, 0, none⟩)) rfl hbk ?_
    rintro e w5 ⟨rfl, k5⟩
    refine ⟨_, rfl, ?_⟩
    replace r1 := r1.kept k5 (by omega)
    replace h := h.kept k5
    replace d := d.kept k5
    replace qf0 := k5.loose0 (World.block_lt_of_cell? _ _ q0) qf0
    replace qf1 := k5.loose0 (World.block_lt_of_cell? _ _ q1) qf1
    replace q0 := k5.cell0 q0
    replace q1 := k5.cell0 q1
    replace y0 := k5.cell0 y0
    replace K := hide ((unhide K).trans k5)
    have z6 := k5.size
    clear k5
    clear hHeld
    refine hK.out _ _ ?_ (fun hHeld => ?_)
    · exact y0
    clear hK KK
    try simp only [Act.put, List.getElem_toArray, List.getElem_cons_succ, List.getElem_cons_zero, List.setIfInBounds_toArray, List.set_cons_zero, List.set_cons_succ]
    refine wpAnyH_take (i := 3) (oi := _) (v := .agg #[.bool sg, .slice a1 zz.length c1]) rfl (by kernel_rfl) (by kernel_rfl) (by kernel_rfl) (fun _ _ _ h => h) (Or.inl ⟨by rfl, ?_⟩) hHeld ?_
    · intro wq hSw
      try dsimp only at hSw
      go_simp
    try simp only [Act.put, List.getElem_toArray, List.getElem_cons_succ, List.getElem_cons_zero, List.setIfInBounds_toArray, List.set_cons_zero, List.set_cons_succ]
    refine wpAnyH_ready (rs := [4]) (by kernel_rfl) (by simp) ?_
    refine AllReadyH.cons rfl (fun KK hK => ?_) AllReadyH.nil
    simp only [List.getElem_toArray, List.getElem_cons_succ, List.getElem_cons_zero]
    rw [if_pos (by rfl)]
    go_simp
    clear hHeld
    refine hK.out _ _ ?_ (fun hHeld => ?_)
    · exact (cell_aside _ (by have := unhide S0; dsimp only; omega) (cell_aside _ (by have := unhide S0; dsimp only; omega) y0))
    clear hK KK
    try simp only [Act.put, List.getElem_toArray, List.getElem_cons_succ, List.getElem_cons_zero, List.setIfInBounds_toArray, List.set_cons_zero, List.set_cons_succ]
    refine wpAnyH_take (i := 5) (oi := _) (v := .bool true) rfl (by kernel_rfl) (by kernel_rfl) (by kernel_rfl) (fun _ _ _ h => h) (Or.inl ⟨by rfl, ?_⟩) hHeld ?_
    · intro wq hSw
      try dsimp only at hSw
      go_simp
    try simp only [Act.put, List.getElem_toArray, List.getElem_cons_succ, List.getElem_cons_zero, List.setIfInBounds_toArray, List.set_cons_zero, List.set_cons_succ]
    refine wpAnyH_done (by kernel_rfl) ?_ _
    clear hHeld
    clear hbk
    have hz0 : w.heap.size < W.heap.size := by have := unhide S0; omega
    have bX : w.heap.size < w5.heap.size := World.block_lt_of_cell? _ _ q0
    have R := hide (((r1.set_other (p := ⟨w.heap.size, 0, none⟩) (.inl (by have := unhide S0; dsimp only; omega)) (.bool sg)).set_other (p := ⟨w.heap.size, 1, none⟩) (.inl (by have := unhide S0; dsimp only; omega)) (.slice a1 zz.length c1)).tight.wider (lo' := w.heap.size) (by have := unhide S0; omega) (Nat.le_refl _))
    have K7 := hide (((unhide K).setNew (p := ⟨w.heap.size, 0, none⟩) (by simp) (.bool sg)).setNew (p := ⟨w.heap.size, 1, none⟩) (by simp) (.slice a1 zz.length c1))
    clear r1 h d K
    go_wp2_with fail
    exact bodyPost_ret (v := .tuple #[.agg #[.bool sg, .slice a1 zz.length c1], .bool true]) (by simp [results, Tryd.results24, go_sem, q0, q1]) rfl ⟨_, by simp only [decide_eq_true hl, Bool.true_and, unhide HSG], unhide R, unhide K7⟩
  · rw [if_neg hl] at hb
    subst hb
    rw [decide_eq_false hl]
    have K' := hide (((unhide K).setNew (p := ⟨w.heap.size, 0, none⟩) (by simp) (.bool false)).setNew (p := ⟨w.heap.size, 1, none⟩) (by simp) (.slice none 0 0))
    simp only [List.length_nil] at K' q0 q1 qf0 qf1
    clear r1 h d K y0
    go_wp2_with fail
    exact bodyPost_ret (v := .tuple #[.agg #[.bool false, .slice none 0 0], .bool false]) (by simp [results, Tryd.results24, go_sem, q0, q1]) rfl ⟨_, by rw [decide_eq_false hl]; rfl, Row.nil _ _ _ _ _, unhide K'⟩

end Go.Proofs.YtckolgaalkohlaaDoor
