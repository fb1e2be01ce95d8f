/-
  MatRound of the model: l8new, l8fits, l8round.
-/
import Derived.Test.YtlenocminckbkaaDoorMr0
import Derived.Test.YtlenocminckbkaaDoorDys6
namespace Go.Proofs.YtlenocminckbkaaDoor
open Go.RowKit
set_option linter.unusedVariables false
set_option maxRecDepth 8000
set_option linter.unusedSimpArgs false

theorem wps3 {P : Program} {o : Oper} {a : Act} {w : World} {K : Act → World → Prop} {Q : Exit → Act → World → Prop} {R : Ending → World → Prop}
    (n : FuncId) (x y z : Operand) (ts : Array TypeId) (hop : o.op = Op.call { callee := Callee.value (Operand.func n), args := #[x, y, z], argTypes := ts })
    (hcf : ∀ (w : World) (args : Array Value), (callFunc n args).run P w = .ok (.enter n args) w) (vx vy vz : Value) (hx : a.eval x = vx) (hy : a.eval y = vy) (hz : a.eval z = vz) (hc : Calls P n #[vx, vy, vz] w R) (hK : ∀ e w', R e w' → ∃ v, e = .returned v ∧ K (a.put o.dst v) w') :
    Oper.wp P o a w K Q := by
  unfold Oper.wp
  have hrun : (execOp a.eval o).run P w = .ok (.enter n #[vx, vy, vz]) w := by
    have hfn : a.eval (.func n) = .func (.func n) #[] #[] := rfl
    simp [execOp, hop, resolve, invoke, hx, hy, hz, hfn, Deferred.ofValue, Result.andThen, hcf]
  rw [hrun, Oper.upon_enter]
  refine hc.mono ?_
  intro e w' h
  obtain ⟨v, rfl, h2⟩ := hK e w' h
  exact h2

theorem Fill.keptW {lo g n l h : Nat} {ds : List DE} {w w' : World} (f : Fill lo g n ds 0 w) (k : Kept l h w w') (hg : g < l ∨ h ≤ g) : Fill lo g n ds 0 w' := by
  have hb := k.block g f.lt hg
  exact ⟨Nat.lt_of_lt_of_le f.lt k.size, ⟨fun _ => 0, fun i hi => by omega, fun i i' _ hi => by omega⟩, fun q hq => by obtain ⟨x, hx⟩ := f.cell q hq; exact ⟨x, (World.cell?_of_block (w := w) (a := ⟨g, q, none⟩) hb).trans hx⟩, fun q hq => (World.frozen?_of_block (w := w) (a := ⟨g, q, none⟩) hb).trans (f.loose q hq)⟩

set_option maxHeartbeats 4000000 in
theorem new8_spec {k : Nat} (hk : k ≤ 4) (w : World) (EL : List DE) :
    Calls Tryd.prog 27 #[.int .i64 (k : Int)] w fun e w' => ∃ g, e = .returned (.agg #[.int .i64 (k : Int), .slice (some ⟨g, 0, none⟩) (k * k) (k * k)]) ∧ Fill 0 g (k * k) EL 0 w' ∧ w.heap.size ≤ g ∧ Kept 0 0 w w' := by
  obtain ⟨W, hW⟩ : ∃ W, W = w.alloc (.cells #[.int .i64 0, .slice none 0 0] 28) := ⟨_, rfl⟩
  have k0 : Kept 0 0 w W := by rw [hW]; exact (Kept.refl 0 0 w).alloc _
  have R0 : W.cell? ⟨w.heap.size, 0, none⟩ = some (.int .i64 0) := by rw [hW]; exact new_cell2 _ _ _ _ _ _ rfl rfl
  have R1 : W.cell? ⟨w.heap.size, 1, none⟩ = some (.slice none 0 0) := by rw [hW]; exact new_cell2 _ _ _ _ _ _ rfl rfl
  have Rf0 : W.frozen? ⟨w.heap.size, 0, none⟩ = false := by rw [hW]; exact new_loose2 _ _ _ _ _ rfl
  have Rf1 : W.frozen? ⟨w.heap.size, 1, none⟩ = false := by rw [hW]; exact new_loose2 _ _ _ _ _ rfl
  have sW : W.heap.size = w.heap.size + 1 := by rw [hW]; simp
  have h16 : k * k ≤ 4 * 4 := Nat.mul_le_mul hk hk
  have hwr : IntKind.i64.wrap ((k : Int) * (k : Int)) = ((k * k : Nat) : Int) := by rw [IntKind.wrap_i64, ← Int.natCast_mul]; omega
  obtain ⟨n, hn⟩ : ∃ n, n = k * k := ⟨_, rfl⟩
  rw [← hn] at hwr h16 ⊢
  obtain ⟨i0, hi0, hz0, hz1, hz2⟩ := info_parts Tryd.infoDy
  have hb0 : i0.bytes * n ≤ 281474976710656 := by rw [hz2]; omega
  have hm0 : n ≤ maxLen := by unfold maxLen; omega
  have SW := hide sW
  clear hn sW
  go_enter Tryd.func27, Tryd.ntmps27
  go_wp2_with (at_make; rw [← hW]; refine wpList_make_full _ rfl _ _ 26 rfl W.heap.size 48 i0 (.agg #[.bool false, .slice none 0 0, .int .i64 0]) 3 Tryd.underlying26 hi0 hz0 hz1 .i64 .i64 _ _ n rfl rfl rfl rfl hb0 hm0 (Nat.le_refl _) ?_; intro w1 hown hgrow; have R0' := R0; have k1 : Kept 0 0 W w1 := ⟨hgrow.os, hgrow.tape, hgrow.output, hgrow.size, fun i hi _ => hgrow.block i hi (by simp)⟩; replace R0' := k1.cell0 R0; have R1' := k1.cell0 R1; have Rf0' := k1.loose0 (World.block_lt_of_cell? _ _ R0) Rf0; have Rf1' := k1.loose0 (World.block_lt_of_cell? _ _ R1) Rf1; have F0 := hide (made_fill (w := W) (lo := 0) (ds := EL) hown); clear hown hgrow)
  have sW := unhide SW
  rw [sW] at F0
  have ks : Kept w.heap.size (w.heap.size + 1) w1 ((w1.setCell ⟨w.heap.size, 0, none⟩ (.int .i64 (k : Int))).setCell ⟨w.heap.size, 1, none⟩ (.slice (some ⟨w.heap.size + 1, 0, none⟩) n n)) :=
    ((Kept.refl _ _ _).setCell (p := ⟨w.heap.size, 0, none⟩) (Nat.le_refl _) (Nat.lt_succ_self _) _).setCell (p := ⟨w.heap.size, 1, none⟩) (Nat.le_refl _) (Nat.lt_succ_self _) _
  have F1 := hide ((unhide F0).keptW ks (by omega))
  have K7 := hide ((k0.trans k1).wide ks (Nat.le_refl _))
  have G0 := cell_off _ _ _ 1 (.slice (some ⟨w.heap.size + 1, 0, none⟩) n n) _ (cell_on _ _ _ (.int .i64 (k : Int)) _ R0') (show (0 : Nat) ≠ 1 by omega)
  have G1 := cell_on _ _ _ (.slice (some ⟨w.heap.size + 1, 0, none⟩) n n) _ (cell_off _ _ _ 0 (.int .i64 (k : Int)) _ R1' (show (1 : Nat) ≠ 0 by omega))
  exact bodyPost_ret (v := .agg #[.int .i64 (k : Int), .slice (some ⟨w.heap.size + 1, 0, none⟩) n n]) (by simp [results, Tryd.results27, go_sem, G0, G1]) rfl ⟨w.heap.size + 1, rfl, unhide F1, by omega, unhide K7⟩

def fitB (m : Int) (ds : List DE) : Bool := mokB m ds
def fitN (m : Int) (ds : List DE) : Int := if mokB m ds = true then m else 0
def fitL (m : Int) (ds : List DE) : List DE := if mokB m ds = true then ds else []
theorem fit_yes {m : Int} {ds : List DE} (h : mokB m ds = true) : fitB m ds = true ∧ fitN m ds = m ∧ fitL m ds = ds := by
  unfold fitB fitN fitL; rw [if_pos h, if_pos h]; exact ⟨h, rfl, rfl⟩
theorem fit_no {m : Int} {ds : List DE} (h : mokB m ds = false) : fitB m ds = false ∧ fitN m ds = 0 ∧ fitL m ds = [] := by
  unfold fitB fitN fitL; rw [if_neg (by rw [h]; simp), if_neg (by rw [h]; simp)]; exact ⟨h, rfl, rfl⟩

set_option maxHeartbeats 4000000 in
theorem fits8_spec {lo hi : Nat} {v : Value} {ds : List DE} (m : Int) (w : World) (hn : ds.length ≤ 100) (hw : WfD ds) (hwn : AllWN ds) (r : Dys lo hi w v ds) :
    Calls Tryd.prog 14 #[.agg #[.int .i64 m, v]] w fun e w' => ∃ v', e = .returned (.tuple #[.agg #[.int .i64 (fitN m ds), v'], .bool (fitB m ds)]) ∧ DysO w.heap.size w'.heap.size w' v' (fitL m ds) ∧ Kept 0 0 w w' := by
  obtain ⟨W, hW⟩ : ∃ W, W = (w.alloc (.cells #[.int .i64 m, v] 28)).alloc (.cells #[.int .i64 0, .slice none 0 0] 28) := ⟨_, rfl⟩
  have k0 : Kept 0 0 w W := by rw [hW]; exact ((Kept.refl 0 0 w).alloc _).alloc _
  have c0 : W.cell? ⟨w.heap.size, 0, none⟩ = some (.int .i64 m) := by rw [hW]; exact old_cell _ (new_cell2 _ _ _ _ _ _ (by simp) rfl)
  have c1 : W.cell? ⟨w.heap.size, 1, none⟩ = some v := by rw [hW]; exact old_cell _ (new_cell2 _ _ _ _ _ _ (by simp) rfl)
  have q0 : W.cell? ⟨w.heap.size + 1, 0, none⟩ = some (.int .i64 0) := by rw [hW]; exact new_cell2 _ _ _ _ _ _ (by simp) rfl
  have q1 : W.cell? ⟨w.heap.size + 1, 1, none⟩ = some (.slice none 0 0) := by rw [hW]; exact new_cell2 _ _ _ _ _ _ (by simp) rfl
  have f0 : W.frozen? ⟨w.heap.size + 1, 0, none⟩ = false := by rw [hW]; exact new_loose2 _ _ _ _ _ (by simp)
  have f1 : W.frozen? ⟨w.heap.size + 1, 1, none⟩ = false := by rw [hW]; exact new_loose2 _ _ _ _ _ (by simp)
  have sW : W.heap.size = w.heap.size + 2 := by rw [hW]; simp
  have r0 := r.kept k0 (by omega)
  have ho := matOk_spec m W hw r0
  obtain ⟨a, c, rfl, -, -⟩ := r.form
  rw [hW] at ho
  clear r
  go_enter Tryd.func14, Tryd.ntmps14
  go_wp2_with fail
  rw [← hW] at ho ⊢
  clear hW
  refine ho.mono ?_
  rintro e w1 ⟨rfl, k1⟩
  replace f0 := k1.loose0 (World.block_lt_of_cell? _ _ q0) f0
  replace f1 := k1.loose0 (World.block_lt_of_cell? _ _ q1) f1
  replace c0 := k1.cell0 c0
  replace c1 := k1.cell0 c1
  replace q0 := k1.cell0 q0
  replace q1 := k1.cell0 q1
  replace r0 := r0.kept k1 (by omega)
  have K1 := hide (k0.trans k1)
  have z1 := k1.size
  clear ho k0 k1
  cases hk : mokB m ds
  · have K7 := hide (((unhide K1).setNew (p := ⟨w.heap.size + 1, 0, none⟩) (by simp) (.int .i64 0)).setNew (p := ⟨w.heap.size + 1, 1, none⟩) (by simp) (.slice none 0 0))
    have HK := hide hk
    clear r0 K1 hk
    go_wp2
    exact bodyPost_ret (v := .tuple #[.agg #[.int .i64 0, .slice none 0 0], .bool false]) (by simp [results, Tryd.results14, go_sem, q0, q1]) rfl ⟨.slice none 0 0, by rw [(fit_no (unhide HK)).1, (fit_no (unhide HK)).2.1], by rw [(fit_no (unhide HK)).2.2]; exact DysO.void _ _ _, unhide K7⟩
  have hown := own8_spec m w1 hn hwn r0
  have HK := hide hk
  clear hk
  go_wp2_with fail
  refine hown.mono ?_
  rintro e w2 ⟨v2, rfl, r2, k2⟩
  obtain ⟨a2, d2, hv2⟩ := r2.form'
  subst hv2
  replace f0 := k2.loose0 (World.block_lt_of_cell? _ _ q0) f0
  replace f1 := k2.loose0 (World.block_lt_of_cell? _ _ q1) f1
  replace q0 := k2.cell0 q0
  replace q1 := k2.cell0 q1
  have K7 := hide ((((unhide K1).trans k2).setNew (p := ⟨w.heap.size + 1, 0, none⟩) (by simp) (.int .i64 m)).setNew (p := ⟨w.heap.size + 1, 1, none⟩) (by simp) (.slice a2 ds.length d2))
  have ks : Kept (w.heap.size + 1) (w.heap.size + 2) w2 ((w2.setCell ⟨w.heap.size + 1, 0, none⟩ (.int .i64 m)).setCell ⟨w.heap.size + 1, 1, none⟩ (.slice a2 ds.length d2)) :=
    ((Kept.refl _ _ _).setCell (p := ⟨w.heap.size + 1, 0, none⟩) (Nat.le_refl _) (Nat.lt_succ_self _) _).setCell (p := ⟨w.heap.size + 1, 1, none⟩) (Nat.le_refl _) (Nat.lt_succ_self _) _
  have hsz : ((w2.setCell ⟨w.heap.size + 1, 0, none⟩ (.int .i64 m)).setCell ⟨w.heap.size + 1, 1, none⟩ (.slice a2 ds.length d2)).heap.size = w2.heap.size := by rw [size_set, size_set]
  have R7 := hide ((r2.kept ks (by omega)).wider (lo' := w.heap.size) (hi' := ((w2.setCell ⟨w.heap.size + 1, 0, none⟩ (.int .i64 m)).setCell ⟨w.heap.size + 1, 1, none⟩ (.slice a2 ds.length d2)).heap.size) (by omega) (by omega))
  clear hown r2 k2 ks hsz c0 c1 K1 r0
  go_wp2
  exact bodyPost_ret (v := .tuple #[.agg #[.int .i64 m, .slice a2 ds.length d2], .bool true]) (by simp [results, Tryd.results14, go_sem, q0, q1]) rfl ⟨.slice a2 ds.length d2, by rw [(fit_yes (unhide HK)).1, (fit_yes (unhide HK)).2.1], by rw [(fit_yes (unhide HK)).2.2]; exact unhide R7, unhide K7⟩

theorem in_l4round8 : ∀ (w : World) (args : Array Value), (callFunc 28 args).run Tryd.prog w = .ok (.enter 28 args) w := enters Tryd.func28 (by decide) (fun h => by cases h)

set_option maxHeartbeats 16000000 in
theorem round8_spec {k lo hi : Nat} {v : Value} {ds : List DE} (low mode : Int) (w : World) (hk : k ≤ 4) (hlen : ds.length = k * k) (U : ∀ i, i < ds.length → dokB (ds.getD i de0).1 (ds.getD i de0).2.1 (ds.getD i de0).2.2 = true) (hmr : mayR low mode = true) (r : Dys lo hi w v ds) :
    Calls Tryd.prog 15 #[.agg #[.int .i64 (k : Int), v], .int .i64 low, .int .i64 mode] w fun e w' => ∃ v', e = .returned (.agg #[.int .i64 (k : Int), v']) ∧ Dys 0 w'.heap.size w' v' ((List.range ds.length).map fun i => rE low mode (ds.getD i de0)) ∧ Kept 0 0 w w' := by
  obtain ⟨W, hW⟩ : ∃ W, W = (w.alloc (.cells #[.int .i64 (k : Int), v] 28)).alloc (.cells #[.int .i64 0, .slice none 0 0] 28) := ⟨_, rfl⟩
  have k0 : Kept 0 0 w W := by rw [hW]; exact ((Kept.refl 0 0 w).alloc _).alloc _
  have c0 : W.cell? ⟨w.heap.size, 0, none⟩ = some (.int .i64 (k : Int)) := by rw [hW]; exact old_cell _ (new_cell2 _ _ _ _ _ _ (by simp) rfl)
  have c1 : W.cell? ⟨w.heap.size, 1, none⟩ = some v := by rw [hW]; exact old_cell _ (new_cell2 _ _ _ _ _ _ (by simp) rfl)
  have q0 : W.cell? ⟨w.heap.size + 1, 0, none⟩ = some (.int .i64 0) := by rw [hW]; exact new_cell2 _ _ _ _ _ _ (by simp) rfl
  have q1 : W.cell? ⟨w.heap.size + 1, 1, none⟩ = some (.slice none 0 0) := by rw [hW]; exact new_cell2 _ _ _ _ _ _ (by simp) rfl
  have f0 : W.frozen? ⟨w.heap.size + 1, 0, none⟩ = false := by rw [hW]; exact new_loose2 _ _ _ _ _ (by simp)
  have f1 : W.frozen? ⟨w.heap.size + 1, 1, none⟩ = false := by rw [hW]; exact new_loose2 _ _ _ _ _ (by simp)
  have sW : W.heap.size = w.heap.size + 2 := by rw [hW]; simp
  have h16 : k * k ≤ 4 * 4 := Nat.mul_le_mul hk hk
  obtain ⟨PL, hPL⟩ : ∃ PL, PL = (List.range ds.length).map fun i => rE low mode (ds.getD i de0) := ⟨_, rfl⟩
  have hn8 := new8_spec hk W PL
  obtain ⟨a, c, rfl, -, -⟩ := r.form
  obtain ⟨n, hnn⟩ : ∃ n, n = ds.length := ⟨_, rfl⟩
  have R := hide (show Dys lo hi w (.slice a n c) ds by rw [hnn]; exact r)
  rw [← hnn] at c1 hlen
  rw [← hlen] at hn8 h16
  rw [← hPL]
  have HPL := hide hPL
  have HN := hide hnn
  have HU := hide U
  have HMR := hide hmr
  have SW := hide sW
  have hW2 : W = (w.alloc (.cells #[.int .i64 (k : Int), .slice a n c] 28)).alloc (.cells #[.int .i64 0, .slice none 0 0] 28) := by rw [hW, ← hnn]
  rw [← hnn]
  clear r hPL hnn U hmr sW hW hlen
  rw [hW2] at hn8
  go_enter Tryd.func15, Tryd.ntmps15
  go_wp2_with fail
  refine hn8.mono ?_
  rw [← hW2]
  rintro e w1 ⟨g, rfl, F0, hg, k1⟩
  clear hn8 hW2
  obtain ⟨O, hO⟩ : ∃ O, O = w1.heap.size := ⟨_, rfl⟩
  have o0 : (w1.alloc (.cells #[.int .i64 (k : Int), .slice (some ⟨g, 0, none⟩) n n] 28)).cell? ⟨O, 0, none⟩ = some (.int .i64 (k : Int)) := new_cell2 _ _ _ _ _ _ hO rfl
  have o1 : (w1.alloc (.cells #[.int .i64 (k : Int), .slice (some ⟨g, 0, none⟩) n n] 28)).cell? ⟨O, 1, none⟩ = some (.slice (some ⟨g, 0, none⟩) n n) := new_cell2 _ _ _ _ _ _ hO rfl
  have k2 := (Kept.refl 0 0 w1).alloc (.cells #[.int .i64 (k : Int), .slice (some ⟨g, 0, none⟩) n n] 28)
  have hgO : g < O := by have := F0.lt; omega
  have kk := k1.trans k2
  have c1' := kk.cell0 c1
  have q0' := kk.cell0 q0
  have q1' := kk.cell0 q1
  have f0' := kk.loose0 (World.block_lt_of_cell? _ _ q0) f0
  have f1' := kk.loose0 (World.block_lt_of_cell? _ _ q1) f1
  have sW := unhide SW
  have hgw : w.heap.size + 2 ≤ g := by omega
  have F1 := hide (Fill.toP (ds' := PL) (B := w.heap.size) (P := fun i => i < 0) (F0.kept k2) (by omega) (fun i _ h => by omega))
  have K2 := hide (k0.trans kk)
  have HGW := hide hgw
  clear F0 k0 k1 k2 kk c0 c1 q0 q1 f0 f1 hg sW hgw
  go_wp2_with fail
  rw [← hO]
  generalize (w1.alloc (.cells #[.int .i64 (k : Int), .slice (some ⟨g, 0, none⟩) n n] 28)) = w2 at *
  clear hO
  go_loopw [8] (fun s8 wr => ∃ j : Nat, s8 = .int .i64 j ∧ j ≤ n ∧ Hid (FillP w.heap.size g n PL (fun i => i < j) wr) ∧ Hid (Kept 0 0 w wr) ∧ Hid (Kept g (g + 1) w2 wr)) (fun s8 _ => n - (intOf s8).toNat)
  case atStart => exact ⟨0, rfl, Nat.zero_le _, F1, K2, Kept.refl _ _ _⟩
  case round =>
    clear F1 K2
    obtain ⟨j, rfl, hj, hF, kw, kg⟩ := hrel
    have hwj : IntKind.i64.wrap ((j : Int) + 1) = ((j + 1 : Nat) : Int) := by rw [IntKind.wrap_i64]; omega
    have hgw := unhide HGW
    have C1 := (unhide kg).cellOut (a := ⟨w.heap.size, 1, none⟩) (by dsimp only; omega) c1'
    by_cases hlt : j < n
    · have hjl : j < ds.length := by rw [← unhide HN]; exact hlt
      have kgd := (unhide kg).drew
      have kd := (unhide kw).drew
      have O1 := kgd.cellOut (a := ⟨O, 1, none⟩) (by dsimp only; omega) o1
      have A1 := kgd.cellOut (a := ⟨w.heap.size, 1, none⟩) (by dsimp only; omega) c1'
      obtain ⟨gA, off, ln, rfl, -, -, hgA, b, kk, c0, c1, c2, hln, rr⟩ := (unhide R).at (i := j) hjl
      replace c0 := kd.cell0 c0
      replace c1 := kd.cell0 c1
      replace c2 := kd.cell0 c2
      replace rr := rr.tight.kept kd (by omega)
      have hok := unhide HU j hjl
      obtain ⟨s0, hs0'⟩ : ∃ q, q = (ds.getD j de0).1 := ⟨_, rfl⟩
      obtain ⟨y0, hy0⟩ : ∃ q, q = (ds.getD j de0).2.2 := ⟨_, rfl⟩
      obtain ⟨z0, hz0⟩ : ∃ q, q = (ds.getD j de0).2.1 := ⟨_, rfl⟩
      rw [← hs0', ← hy0, ← hz0] at hok
      rw [← hs0'] at c0
      rw [← hy0] at c2
      rw [← hz0] at rr hln
      obtain ⟨h1, h2, h3, h4, h5⟩ := dok_parts hok
      have wn := wok_wn h1
      obtain ⟨-, -, hl, -⟩ := wok_int h1
      have hmm := mayR_iff (unhide HMR)
      have hml := round4_two s0 y0 low (by omega) (by omega) (by omega) (by omega) wr.drew rr wn h5 h4 (by omega) mode (by omega) (by omega)
      obtain ⟨RX, hRX⟩ : ∃ y, rndX (scN (val z0).toNat (y0 - (low - 1))) (scL (val z0).toNat (y0 - (low - 1))) = y := ⟨_, rfl⟩
      rw [hRX] at hml
      obtain ⟨⟨s1, z1, y1⟩, hE⟩ : ∃ q, q = rE low mode (ds.getD j de0) := ⟨_, rfl⟩
      have hE' : (s1, z1, y1) = (wsg (rndM mode.toNat s0 (val z0).toNat (y0 - (low - 1))), dlm (rndM mode.toNat s0 (val z0).toNat (y0 - (low - 1))), dex (rndM mode.toNat s0 (val z0).toNat (y0 - (low - 1))) low) := by rw [hE, hs0', hy0, hz0]; rfl
      simp only [Prod.mk.injEq] at hE'
      obtain ⟨p1, p2, p3⟩ := hE'
      rw [← p1, ← p2, ← p3] at hml
      have HE : Hid (PL.getD j de0 = (s1, z1, y1)) := by show _ = _; rw [unhide HPL, map_at _ _ _ hjl, hE]
      have KD := hide kd
      have KGD := hide kgd
      have hFd := hide ((unhide hF).kept ((Kept.refl 0 0 wr).drew))
      clear hs0' hy0 hz0 hln hok p1 p2 p3 hE kd kgd hjl hF kw kg hwj h1 h2 h3 h4 h5 wn hl hmm hRX
      have hwj : IntKind.i64.wrap ((j : Int) + 1) = ((j + 1 : Nat) : Int) := by rw [IntKind.wrap_i64]; omega
      go_wp2_with fail
      refine wp_region_held_drew (S := (fun w' => w'.cell? ⟨O, 1, none⟩ = some (.slice (some ⟨g, 0, none⟩) n n) ∧ w'.cell? ⟨w.heap.size, 1, none⟩ = some (.slice (some ⟨gA, off, none⟩) n c) ∧ w'.cell? ⟨gA, off + j * 3, none⟩ = some (.bool s0) ∧ w'.cell? ⟨gA, off + j * 3 + 1, none⟩ = some (.slice b ln kk) ∧ w'.cell? ⟨gA, off + j * 3 + 2, none⟩ = some (.int .i64 y0))) (by kernel_rfl) ?_ (fun hHeld => ?_)
      · exact ⟨O1, A1, c0, c1, c2⟩
      refine wpAnyH_take (i := 0) (oi := _) (v := .pointer (some ⟨O, 1, none⟩)) rfl (by kernel_rfl) (by kernel_rfl) (by kernel_rfl) (fun _ _ _ h => h) (Or.inl ⟨by rfl, ?_⟩) hHeld ?_
      · intro wq hSw
        try dsimp only at hSw
        go_simp
      try simp only [Act.put, List.getElem_toArray, List.getElem_cons_succ, List.getElem_cons_zero, List.setIfInBounds_toArray, List.set_cons_zero, List.set_cons_succ]
      refine wpAnyH_take (i := 1) (oi := _) (v := .slice (some ⟨g, 0, none⟩) n n) rfl (by kernel_rfl) (by kernel_rfl) (by kernel_rfl) (fun _ _ _ h => h) (Or.inl ⟨by rfl, ?_⟩) hHeld ?_
      · intro wq hSw
        try dsimp only at hSw
        go_simp
      try simp only [Act.put, List.getElem_toArray, List.getElem_cons_succ, List.getElem_cons_zero, List.setIfInBounds_toArray, List.set_cons_zero, List.set_cons_succ]
      refine wpAnyH_take (i := 2) (oi := _) (v := .int .i64 (j : Int)) rfl (by kernel_rfl) (by kernel_rfl) (by kernel_rfl) (fun _ _ _ h => h) (Or.inl ⟨by rfl, ?_⟩) hHeld ?_
      · intro wq hSw
        try dsimp only at hSw
        go_simp
      try simp only [Act.put, List.getElem_toArray, List.getElem_cons_succ, List.getElem_cons_zero, List.setIfInBounds_toArray, List.set_cons_zero, List.set_cons_succ]
      refine wpAnyH_take (i := 3) (oi := _) (v := .pointer (some ⟨w.heap.size, 1, none⟩)) rfl (by kernel_rfl) (by kernel_rfl) (by kernel_rfl) (fun _ _ _ h => h) (Or.inl ⟨by rfl, ?_⟩) hHeld ?_
      · intro wq hSw
        try dsimp only at hSw
        go_simp
      try simp only [Act.put, List.getElem_toArray, List.getElem_cons_succ, List.getElem_cons_zero, List.setIfInBounds_toArray, List.set_cons_zero, List.set_cons_succ]
      refine wpAnyH_take (i := 4) (oi := _) (v := .slice (some ⟨gA, off, none⟩) n c) rfl (by kernel_rfl) (by kernel_rfl) (by kernel_rfl) (fun _ _ _ h => h) (Or.inl ⟨by rfl, ?_⟩) hHeld ?_
      · intro wq hSw
        try dsimp only at hSw
        go_simp
      try simp only [Act.put, List.getElem_toArray, List.getElem_cons_succ, List.getElem_cons_zero, List.setIfInBounds_toArray, List.set_cons_zero, List.set_cons_succ]
      refine wpAnyH_take (i := 5) (oi := _) (v := .int .i64 (j : Int)) rfl (by kernel_rfl) (by kernel_rfl) (by kernel_rfl) (fun _ _ _ h => h) (Or.inl ⟨by rfl, ?_⟩) hHeld ?_
      · intro wq hSw
        try dsimp only at hSw
        go_simp
      try simp only [Act.put, List.getElem_toArray, List.getElem_cons_succ, List.getElem_cons_zero, List.setIfInBounds_toArray, List.set_cons_zero, List.set_cons_succ]
      refine wpAnyH_take (i := 6) (oi := _) (v := .pointer (some ⟨gA, off + j * 3, none⟩)) rfl (by kernel_rfl) (by kernel_rfl) (by kernel_rfl) (fun _ _ _ h => h) (Or.inl ⟨by rfl, ?_⟩) hHeld ?_
      · intro wq hSw
        try dsimp only at hSw
        go_simp
      try simp only [Act.put, List.getElem_toArray, List.getElem_cons_succ, List.getElem_cons_zero, List.setIfInBounds_toArray, List.set_cons_zero, List.set_cons_succ]
      refine wpAnyH_take (i := 7) (oi := _) (v := .agg #[.bool s0, .slice b ln kk, .int .i64 y0]) rfl (by kernel_rfl) (by kernel_rfl) (by kernel_rfl) (fun _ _ _ h => h) (Or.inl ⟨by rfl, ?_⟩) hHeld ?_
      · intro wq hSw
        try dsimp only at hSw
        go_simp
      try simp only [Act.put, List.getElem_toArray, List.getElem_cons_succ, List.getElem_cons_zero, List.setIfInBounds_toArray, List.set_cons_zero, List.set_cons_succ]
      refine wpAnyH_take (i := 8) (oi := _) (v := .int .i64 low) rfl (by kernel_rfl) (by kernel_rfl) (by kernel_rfl) (fun _ _ _ h => h) (Or.inl ⟨by rfl, ?_⟩) hHeld ?_
      · intro wq hSw
        try dsimp only at hSw
        go_simp
      try simp only [Act.put, List.getElem_toArray, List.getElem_cons_succ, List.getElem_cons_zero, List.setIfInBounds_toArray, List.set_cons_zero, List.set_cons_succ]
      refine wpAnyH_take (i := 9) (oi := _) (v := .int .i64 mode) rfl (by kernel_rfl) (by kernel_rfl) (by kernel_rfl) (fun _ _ _ h => h) (Or.inl ⟨by rfl, ?_⟩) hHeld ?_
      · intro wq hSw
        try dsimp only at hSw
        go_simp
      try simp only [Act.put, List.getElem_toArray, List.getElem_cons_succ, List.getElem_cons_zero, List.setIfInBounds_toArray, List.set_cons_zero, List.set_cons_succ]
      refine wpAnyH_ready (rs := [10]) (by kernel_rfl) (by simp) ?_
      refine AllReadyH.cons rfl (fun KK hK => ?_) AllReadyH.nil
      simp only [List.getElem_toArray, List.getElem_cons_succ, List.getElem_cons_zero]
      rw [if_pos (by rfl)]
      refine wps3 28 (.tmp 27) (.tmp 28) (.tmp 29) _ rfl in_l4round8 (.agg #[.bool s0, .slice b ln kk, .int .i64 y0]) (.int .i64 low) (.int .i64 mode) rfl rfl rfl hml ?_
      rintro e w3 ⟨v3, rfl, r3, k3⟩
      refine ⟨_, rfl, ?_⟩
      have hFl := (unhide hFd).lt
      obtain ⟨l3, h3, r3', hb3⟩ : ∃ l h, Row .i64 false l h w3 v3 z1 ∧ (g < l ∨ h ≤ w.heap.size) := by
        rcases r3 with r3 | r3
        · exact ⟨_, _, r3, .inr (Nat.le_refl _)⟩
        · exact ⟨_, _, r3.read, .inl hFl⟩
      obtain ⟨a3, d3, hv3⟩ := Row.form' r3'
      subst hv3
      replace O1 := k3.cell0 O1
      replace A1 := k3.cell0 A1
      replace c0 := k3.cell0 c0
      replace c1 := k3.cell0 c1
      replace c2 := k3.cell0 c2
      have F4 := hide ((unhide hFd).step (P' := fun i => i < j + 1) hlt k3 r3' (fun _ => hb3) (unhide HE) (fun i hi => by omega))
      obtain ⟨x0, hx0⟩ := (unhide hFd).cell (j * 3) (by omega)
      replace hx0 := k3.cell0 hx0
      have g0 := k3.loose0 (a := ⟨g, j * 3, none⟩) hFl ((unhide hFd).loose (j * 3) (by omega))
      obtain ⟨x1, hx1⟩ := (unhide hFd).cell (j * 3 + 1) (by omega)
      replace hx1 := k3.cell0 hx1
      have g1 := k3.loose0 (a := ⟨g, j * 3 + 1, none⟩) hFl ((unhide hFd).loose (j * 3 + 1) (by omega))
      obtain ⟨x2, hx2⟩ := (unhide hFd).cell (j * 3 + 2) (by omega)
      replace hx2 := k3.cell0 hx2
      have g2 := k3.loose0 (a := ⟨g, j * 3 + 2, none⟩) hFl ((unhide hFd).loose (j * 3 + 2) (by omega))
      have K3 := hide ((unhide KD).trans k3)
      have KG3 := hide ((unhide KGD).trans k3.any)
      clear hml r3 r3' hb3 k3 hFl hFd
      clear hHeld
      refine hK.out _ _ ?_ (fun hHeld => ?_)
      · exact ⟨O1, A1, c0, c1, c2⟩
      clear hK KK
      try simp only [Act.put, List.getElem_toArray, List.getElem_cons_succ, List.getElem_cons_zero, List.setIfInBounds_toArray, List.set_cons_zero, List.set_cons_succ]
      refine wpAnyH_take (i := 11) (oi := _) (v := .tuple #[.agg #[.bool s1, .slice a3 z1.length d3, .int .i64 y1], .bool RX]) rfl (by kernel_rfl) (by kernel_rfl) (by kernel_rfl) (fun _ _ _ h => h) (Or.inl ⟨by rfl, ?_⟩) hHeld ?_
      · intro wq hSw
        try dsimp only at hSw
        go_simp
      try simp only [Act.put, List.getElem_toArray, List.getElem_cons_succ, List.getElem_cons_zero, List.setIfInBounds_toArray, List.set_cons_zero, List.set_cons_succ]
      refine wpAnyH_take (i := 12) (oi := _) (v := .agg #[.bool s1, .slice a3 z1.length d3, .int .i64 y1]) rfl (by kernel_rfl) (by kernel_rfl) (by kernel_rfl) (fun _ _ _ h => h) (Or.inl ⟨by rfl, ?_⟩) hHeld ?_
      · intro wq hSw
        try dsimp only at hSw
        go_simp
      try simp only [Act.put, List.getElem_toArray, List.getElem_cons_succ, List.getElem_cons_zero, List.setIfInBounds_toArray, List.set_cons_zero, List.set_cons_succ]
      refine wpAnyH_take (i := 13) (oi := _) (v := .bool RX) rfl (by kernel_rfl) (by kernel_rfl) (by kernel_rfl) (fun _ _ _ h => h) (Or.inl ⟨by rfl, ?_⟩) hHeld ?_
      · intro wq hSw
        try dsimp only at hSw
        go_simp
      try simp only [Act.put, List.getElem_toArray, List.getElem_cons_succ, List.getElem_cons_zero, List.setIfInBounds_toArray, List.set_cons_zero, List.set_cons_succ]
      refine wpAnyH_take (i := 14) (oi := _) (v := .pointer (some ⟨g, j * 3, none⟩)) rfl (by kernel_rfl) (by kernel_rfl) (by kernel_rfl) (fun _ _ _ h => h) (Or.inl ⟨by rfl, ?_⟩) hHeld ?_
      · intro wq hSw
        try dsimp only at hSw
        go_simp
      try simp only [Act.put, List.getElem_toArray, List.getElem_cons_succ, List.getElem_cons_zero, List.setIfInBounds_toArray, List.set_cons_zero, List.set_cons_succ]
      refine wpAnyH_ready (rs := [15]) (by kernel_rfl) (by simp) ?_
      refine AllReadyH.cons rfl (fun KK hK => ?_) AllReadyH.nil
      simp only [List.getElem_toArray, List.getElem_cons_succ, List.getElem_cons_zero]
      rw [if_pos (by rfl)]
      go_simp
      have ks : Kept g (g + 1) w3 (((w3.setCell ⟨g, j * 3, none⟩ (.bool s1)).setCell ⟨g, j * 3 + 1, none⟩ (.slice a3 z1.length d3)).setCell ⟨g, j * 3 + 2, none⟩ (.int .i64 y1)) := (((Kept.refl _ _ _).setCell (p := ⟨g, j * 3, none⟩) (Nat.le_refl _) (Nat.lt_succ_self _) _).setCell (p := ⟨g, j * 3 + 1, none⟩) (Nat.le_refl _) (Nat.lt_succ_self _) _).setCell (p := ⟨g, j * 3 + 2, none⟩) (Nat.le_refl _) (Nat.lt_succ_self _) _
      replace O1 := ks.cellOut (by dsimp only; omega) O1
      replace A1 := ks.cellOut (by dsimp only; omega) A1
      replace c0 := ks.cellOut (by dsimp only; omega) c0
      replace c1 := ks.cellOut (by dsimp only; omega) c1
      replace c2 := ks.cellOut (by dsimp only; omega) c2
      have K5 := hide ((unhide K3).wide ks (by omega))
      have KG5 := hide ((unhide KG3).trans ks)
      clear ks K3 KG3
      clear hHeld
      refine hK.out _ _ ?_ (fun hHeld => ?_)
      · exact ⟨O1, A1, c0, c1, c2⟩
      clear hK KK
      try simp only [Act.put, List.getElem_toArray, List.getElem_cons_succ, List.getElem_cons_zero, List.setIfInBounds_toArray, List.set_cons_zero, List.set_cons_succ]
      refine wpAnyH_done (by kernel_rfl) ?_ _
      clear hHeld O1 A1 c0 c1 c2 hx0 hx1 hx2 g0 g1 g2
      go_wp2
      go_roundw
      case rel => exact ⟨j + 1, by simp, hlt, F4, K5, KG5⟩
      case measure => simp [intOf]; omega
    · have hjn : j = n := by omega
      subst hjn
      have O0 := (unhide kg).cellOut (a := ⟨O, 0, none⟩) (by dsimp only; omega) o0
      have O1 := (unhide kg).cellOut (a := ⟨O, 1, none⟩) (by dsimp only; omega) o1
      have Q0 := (unhide kg).cellOut (a := ⟨w.heap.size + 1, 0, none⟩) (by dsimp only; omega) q0'
      have Q1 := (unhide kg).cellOut (a := ⟨w.heap.size + 1, 1, none⟩) (by dsimp only; omega) q1'
      have Qf0 := (unhide kg).looseOut (a := ⟨w.heap.size + 1, 0, none⟩) (by dsimp only; omega) (World.block_lt_of_cell? _ _ q0') f0'
      have Qf1 := (unhide kg).looseOut (a := ⟨w.heap.size + 1, 1, none⟩) (by dsimp only; omega) (World.block_lt_of_cell? _ _ q1') f1'
      have ks : Kept (w.heap.size + 1) (w.heap.size + 1 + 1) wr ((wr.setCell ⟨w.heap.size + 1, 0, none⟩ (.int .i64 (k : Int))).setCell ⟨w.heap.size + 1, 1, none⟩ (.slice (some ⟨g, 0, none⟩) j j)) :=
        ((Kept.refl _ _ _).setCell (p := ⟨w.heap.size + 1, 0, none⟩) (Nat.le_refl _) (Nat.lt_succ_self _) _).setCell (p := ⟨w.heap.size + 1, 1, none⟩) (Nat.le_refl _) (Nat.lt_succ_self _) _
      have DD := hide (((unhide hF).keptW ks (by omega) (by omega)).done (fun i hi => hi) (by rw [unhide HPL]; simp [unhide HN]) (by unfold maxLen; omega))
      have K7 := hide ((unhide kw).wide ks (by omega))
      have G0 := cell_off _ _ _ 1 (.slice (some ⟨g, 0, none⟩) j j) _ (cell_on _ _ _ (.int .i64 (k : Int)) _ Q0) (show (0 : Nat) ≠ 1 by omega)
      have G1 := cell_on _ _ _ (.slice (some ⟨g, 0, none⟩) j j) _ (cell_off _ _ _ 0 (.int .i64 (k : Int)) _ Q1 (show (1 : Nat) ≠ 0 by omega))
      clear hF kw kg ks hgw
      go_wp2
      exact bodyPost_ret (v := .agg #[.int .i64 (k : Int), .slice (some ⟨g, 0, none⟩) j j]) (by simp [results, Tryd.results15, go_sem, G0, G1]) rfl ⟨_, rfl, unhide DD, unhide K7⟩

end Go.Proofs.YtlenocminckbkaaDoor
