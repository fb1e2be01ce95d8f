/-
  Lists of limbs that grow by appends, beside a result that is not yet told; the contract of the model's l2of.
-/
import Derived.Test.YtdhponfpikclhaaNat3
import Derived.Test.YtdhponfpikclhaaOwn
namespace Go.Proofs.Ytdhponfpikclhaa
open Go.RowKit
set_option linter.unusedVariables false
set_option maxRecDepth 8000

theorem limbs_cons (n : Nat) (h : n ≠ 0) : limbs n = ((n % 65536 : Nat) : Int) :: limbs (n / 65536) := by
  obtain ⟨f, rfl⟩ : ∃ f, n = f + 1 := ⟨n - 1, by omega⟩
  show limbsF (f + 1) (f + 1) = _
  unfold limbsF
  rw [if_neg h]
  congr 1
  have hk : (f + 1) / 65536 ≤ f := by omega
  exact nrm_unique ⟨limbsF_lim _ _, limbsF_last _ _ hk⟩ (limbs_nrm _) (by rw [limbsF_val _ _ hk, limbs_val])

theorem Try.info3' : (Try.prog.info? 3).map (fun i => (i.zero, i.size, i.bytes)) = some (some (.int .i64 0), 1, 8) := by kernel_rfl

/-- The value v is a list of the call's own; the result's cell lies at b, still nought; nothing older has changed. -/
def Grow (b : Nat) (w wr : World) (v : Value) (zs : List Int) : Prop :=
  wr.ownsRow (b + 1) 3 1 v zs.length (zs.map (Value.int .i64)) ∧ w.heap.size ≤ b ∧ b < wr.heap.size ∧ Kept 0 0 w wr ∧ wr.cell? ⟨b, 0, none⟩ = some (.slice none 0 0) ∧ wr.frozen? ⟨b, 0, none⟩ = false

theorem Grow.alloc {b : Nat} {w wr : World} {v : Value} {zs : List Int} (h : Grow b w wr v zs) (o : Obj) : Grow b w (wr.alloc o) v zs := by
  obtain ⟨h1, h2, h3, h4, h5, h6⟩ := h
  refine ⟨own_kept h1 ((Kept.refl 0 0 wr).alloc o), h2, by simp; omega, h4.alloc o, old_cell o h5, ?_⟩
  have : (wr.alloc o).heap[b]? = wr.heap[b]? := Below.heap_alloc _ _ _ h3
  simpa [World.frozen?, this] using h6
theorem Grow.drewN {b : Nat} {w wr : World} {v : Value} {zs : List Int} (h : Grow b w wr v zs) (n : Nat) : Grow b w (wr.drewN n) v zs := by
  obtain ⟨h1, h2, h3, h4, h5, h6⟩ := h
  exact ⟨own_kept h1 ((Kept.refl 0 0 wr).drewN n), h2, h3, h4.drewN n, h5, h6⟩
theorem Grow.kept {b : Nat} {w wr wx : World} {v : Value} {zs : List Int} (h : Grow b w wr v zs) (k : Kept 0 0 wr wx) : Grow b w wx v zs := by
  obtain ⟨h1, h2, h3, h4, h5, h6⟩ := h
  have hb := k.block b h3 (by omega)
  refine ⟨own_kept h1 k, h2, Nat.lt_of_lt_of_le h3 k.size, h4.trans k, ?_, ?_⟩
  · rw [← h5]; exact World.cell?_of_block hb
  · simpa [World.frozen?, hb] using h6
theorem Grow.form {b : Nat} {w wr : World} {v : Value} {zs : List Int} (h : Grow b w wr v zs) : ∃ a c, v = .slice a zs.length c := own_slice h.1
theorem Grow.row {b : Nat} {w wr : World} {v : Value} {zs : List Int} (h : Grow b w wr v zs) : Row .i64 true (b + 1) wr.heap.size wr v zs := Row.own h.1
theorem Grow.start {b : Nat} {w wr : World} (hb : w.heap.size ≤ b) (h : b < wr.heap.size) (k : Kept 0 0 w wr) (hc : wr.cell? ⟨b, 0, none⟩ = some (.slice none 0 0)) (hf : wr.frozen? ⟨b, 0, none⟩ = false) : Grow b w wr (.slice none 0 0) [] :=
  ⟨⟨rfl, .inl ⟨rfl, rfl⟩⟩, hb, h, k, hc, hf⟩

/-- One more limb. -/
theorem wpList_grow {ops : Array Oper} {rest : List Oper} {o : Oper} {a : Act} {Q : Exit → Act → World → Prop} {b : Nat} {w wr : World} {v : Value} {zs : List Int} (hgd : o.guard = none) (s x : Operand)
    (ho : o.op = .call { callee := .builtin .append, args := #[s, x], argTypes := #[24, 24] }) (hs : a.eval s = v) (ad : Addr) (hx : a.eval x = .slice (some ad) 1 1) (z : Int)
    (hc : wr.cell? ad = some (.int .i64 z)) (hg : Grow b w wr v zs) (hn : zs.length ≤ 1000000)
    (h : ∀ v' w', Grow b w w' v' (zs ++ [z]) → wpList Try.prog ops Q rest (a.put o.dst v') w') : wpList Try.prog ops Q (o :: rest) a wr := by
  obtain ⟨i0, hi0, hz0, hz1, hz2⟩ := info_parts Try.info3'
  obtain ⟨h1, h2, h3, h4, h5, h6⟩ := hg
  refine wpList_append_own _ hgd _ _ 24 ho (b + 1) 3 i0 (.int .i64 0) 1 8 Try.underlying24 hi0 hz0 hz1 hz2 rfl (by decide) _ _ _ hs h1 ad 1 1 [.int .i64 z] hx rfl (lit_cell hc) ?_ ?_ ?_ ?_ ?_
  · intro u hu; simp at hu; subst hu; rfl
  · unfold maxLen; omega
  · omega
  · omega
  · intro v' w' hown hgrow _
    refine h v' w' ⟨by simpa using hown, h2, Nat.lt_of_lt_of_le h3 hgrow.size, h4.growNew hgrow (fun k hk => by have := (h1.lt k hk).1; omega), ?_, ?_⟩
    · exact hgrow.cell h5 (fun e => by have := (h1.lt b e.symm).1; omega)
    · have hb := hgrow.block b h3 (fun e => by have := (h1.lt b e.symm).1; omega)
      simpa [World.frozen?, hb] using h6

theorem new_loose (w : World) (cs : Array Value) (t : TypeId) (n : Nat) (hn : n = w.heap.size) : (w.alloc (.cells cs t)).frozen? ⟨n, 0, none⟩ = false := by
  subst hn
  have hg : (w.alloc (.cells cs t)).heap[w.heap.size]? = some (.cells cs t) := heap_alloc_new w _
  simp only [World.frozen?, hg]
  rfl

theorem Grow.ret {b : Nat} {w wr : World} {v : Value} {zs : List Int} (h : Grow b w wr v zs) :
    Kept 0 0 w (wr.setCell ⟨b, 0, none⟩ v) ∧ Row .i64 true w.heap.size (wr.setCell ⟨b, 0, none⟩ v).heap.size (wr.setCell ⟨b, 0, none⟩ v) v zs := by
  obtain ⟨h1, h2, h3, h4, h5, h6⟩ := h
  exact ⟨h4.setNew (p := ⟨b, 0, none⟩) h2 v, (Row.own (ownsRow_setCell_below h1 (a := ⟨b, 0, none⟩) (Nat.lt_succ_self _) v)).wider (by omega) (Nat.le_refl _)⟩

set_option maxHeartbeats 2000000 in
theorem of_spec (w : World) (n : Int) (hn : n ≤ 9223372036854775807) :
    Calls Try.prog 101 #[.int .i64 n] w fun e w' => ∃ v', e = .returned (.agg #[v']) ∧ Row .i64 true w.heap.size w'.heap.size w' v' (limbs n.toNat) ∧ Kept 0 0 w w' := by
  have hlen : (limbs n.toNat).length ≤ 4 := (limbs_length_le _ _).2 (by
    have : (65536 : Int) ^ 4 = 18446744073709551616 := by decide
    omega)
  generalize hL : limbs n.toNat = L at *
  have HL := hide hL
  have k0 := (Kept.refl 0 0 w).alloc (.cells #[.slice none 0 0] 26)
  have hg0 : Grow w.heap.size w (w.alloc (.cells #[.slice none 0 0] 26)) (.slice none 0 0) [] :=
    Grow.start (Nat.le_refl _) (by simp) k0 (new_cell_at _ _ _ _ rfl) (new_loose _ _ _ _ rfl)
  clear hL k0
  go_enter Try.func101, Try.ntmps101
  go_wp2
  generalize w.alloc (.cells #[.slice none 0 0] 26) = w1 at *
  go_loopw [0, 3] (fun m l wr => ∃ (zs : List Int) (i : Int), m = .int .i64 i ∧ i ≤ 9223372036854775807 ∧ Hid (zs ++ limbs i.toNat = L) ∧ Grow w.heap.size w wr l zs) (fun m _ _ => (intOf m).toNat)
  case atStart => exact ⟨[], n, rfl, hn, by have := unhide HL; show _ = _; simpa using this, hg0⟩
  case round =>
    obtain ⟨zs, i, rfl, hi, hzs, hg⟩ := hrel
    by_cases hp : 0 < i
    · have hc := limbs_cons i.toNat (by omega)
      have hz := unhide hzs
      rw [hc] at hz
      have hl : zs.length ≤ 4 := by
        have := congrArg List.length hz
        simp at this; omega
      have e1 : ((i.toNat % 65536 : Nat) : Int) = i % 65536 := by omega
      have e2 : i.toNat / 65536 = (i / 65536).toNat := by omega
      have e3 : i.tmod 65536 = i % 65536 := by rw [Int.tmod_eq_emod_of_nonneg (by omega)]
      have e4 : i.tdiv 65536 = i / 65536 := by rw [Int.tdiv_eq_ediv_of_nonneg (by omega)]
      rw [e1, e2] at hz
      have HZ := hide hz
      clear hc hz e1 e2
      have hg' := hg.alloc (.cells #[.int .i64 (i % 65536)] 3)
      go_wp2_with (at_builtin; refine wpList_grow rfl _ _ rfl rfl _ rfl (i % 65536) ?c1 hg' ?c2 ?_)
      case c1 => exact new_cell_at _ _ _ _ rfl
      case c2 => omega
      intro v' w' hg2
      clear hg' hg
      go_wp2
      go_roundw
      case rel => exact ⟨zs ++ [i % 65536], i / 65536, by go_num, by omega, by show _ = _; rw [← unhide HZ]; simp, hg2⟩
      case measure => simp [intOf]; omega
    · obtain ⟨a, c, rfl⟩ := hg.form
      have e0 : zs = L := by have := unhide hzs; rw [show i.toNat = 0 from by omega, limbs_zero, List.append_nil] at this; exact this
      obtain ⟨k2, r2⟩ := hg.ret
      obtain ⟨h1, h2, h3, h4, h5, h6⟩ := hg
      rw [e0] at r2
      have K2 := hide k2
      have R2 := hide r2
      clear h1 h4 k2 r2 hzs
      subst e0
      go_wp2
      exact bodyPost_ret (v := .agg #[(.slice a zs.length c)]) (by simp [results, Try.results101, go_sem, h5]) rfl ⟨_, rfl, unhide R2, unhide K2⟩

end Go.Proofs.Ytdhponfpikclhaa
