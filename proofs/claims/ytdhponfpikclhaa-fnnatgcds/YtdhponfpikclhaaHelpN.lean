/-
  Contracts of the laws' own helpers on numbers: szIntS, toIntS, szNat, toNat, eqNat, markNat, heldNat.
-/
import Derived.Test.YtdhponfpikclhaaHelp
import Derived.Test.YtdhponfpikclhaaNat2
namespace Go.Proofs.Ytdhponfpikclhaa
open Go.RowKit
set_option linter.unusedVariables false
set_option maxRecDepth 8000

theorem Kept.cell0 {W w' : World} (k : Kept 0 0 W w') {a : Addr} {v : Value} (h : W.cell? a = some v) : w'.cell? a = some v := by
  have hlt : a.block < W.heap.size := World.block_lt_of_cell? W a h
  rw [← h]
  exact World.cell?_of_block (k.block _ hlt (by omega))
theorem Kept.loose0 {W w' : World} (k : Kept 0 0 W w') {a : Addr} (hb : a.block < W.heap.size) (h : W.frozen? a = false) : w'.frozen? a = false := by
  rw [← h]
  exact World.frozen?_of_block (k.block _ hb (by omega))
theorem loose_old {W : World} {a : Addr} {o : Obj} (hb : a.block < W.heap.size) (h : W.frozen? a = false) : (W.alloc o).frozen? a = false := ((Kept.refl 0 0 W).alloc o).loose0 hb h
theorem new_loose' (w : World) (cs : Array Value) (t : TypeId) (n : Nat) (hn : n = w.heap.size) : (w.alloc (.cells cs t)).frozen? ⟨n, 0, none⟩ = false := by
  subst hn
  have hg : (w.alloc (.cells cs t)).heap[w.heap.size]? = some (.cells cs t) := heap_alloc_new w _
  simp only [World.frozen?, hg]
  rfl
theorem Row.form' {k : IntKind} {bw : Bool} {lo hi : Nat} {w : World} {v : Value} {zs : List Int} (r : Row k bw lo hi w v zs) : ∃ a c, v = .slice a zs.length c := by
  obtain ⟨a, c, h, -⟩ := r
  exact ⟨a, c, h⟩
theorem Kept.cellOut {lo hi : Nat} {W w' : World} (k : Kept lo hi W w') {a : Addr} {v : Value} (ho : a.block < lo ∨ hi ≤ a.block) (h : W.cell? a = some v) : w'.cell? a = some v := by
  have hlt : a.block < W.heap.size := World.block_lt_of_cell? W a h
  rw [← h]
  exact World.cell?_of_block (k.block _ hlt ho)
theorem Row.set_other {k : IntKind} {bw : Bool} {lo hi : Nat} {w : World} {v : Value} {zs : List Int} (r : Row k bw lo hi w v zs) {p : Addr} (hp : p.block < lo ∨ hi ≤ p.block) (u : Value) : Row k bw lo hi (w.setCell p u) v zs :=
  r.kept (l := p.block) (h := p.block + 1) ((Kept.refl _ _ _).setCell (Nat.le_refl _) (Nat.lt_succ_self _) u) (by omega)

set_option maxHeartbeats 1000000 in
theorem szNat_any {bw : Bool} {lo hi : Nat} {v : Value} {zs : List Int} (w : World) (s : Int) (hs0 : 0 ≤ s) (hs1 : s ≤ 1048576) (r : Row .i64 bw lo hi w v zs) :
    Calls Try.prog 58 #[.agg #[v], .int .i64 s] w fun e w' => e = .returned (.int .i64 (if (zs.length : Int) ≤ s then s - zs.length else -1)) ∧ Kept 0 0 w w' := by
  obtain ⟨a, c, rfl, q1, m1, q3⟩ := r
  unfold maxLen at m1
  clear q3
  have hw : (s - (zs.length : Int) + 9223372036854775808) % 18446744073709551616 - 9223372036854775808 = s - zs.length := by omega
  by_cases h : (zs.length : Int) ≤ s
  · rw [if_pos h]
    have h' : ¬ (s - (zs.length : Int)) < 0 := by omega
    go_enter Try.func58, Try.ntmps58
    go_wp2
    go_ret
    exact ⟨rfl, (Kept.refl _ _ _).alloc _⟩
  · rw [if_neg h]
    have h' : (s - (zs.length : Int)) < 0 := by omega
    go_enter Try.func58, Try.ntmps58
    go_wp2
    go_ret
    exact ⟨rfl, (Kept.refl _ _ _).alloc _⟩

theorem Try.info3i : (Try.prog.info? 3).map (fun i => (i.zero, i.size, i.bytes)) = some (some (.int .i64 0), 1, 8) := by kernel_rfl

set_option maxHeartbeats 1000000 in
theorem toIntS_any {bw : Bool} {lo hi : Nat} {v : Value} {zs : List Int} (w : World) (hn : zs.length ≤ 1099511627776) (r : Row .i64 bw lo hi w v zs) :
    Calls Try.prog 120 #[v] w fun e w' => ∃ v', e = .returned v' ∧ Row .i64 true w.heap.size w'.heap.size w' v' zs ∧ Kept 0 0 w w' := by
  have r' := r.read.tight
  obtain ⟨a, c, rfl, q1, m1, q3⟩ := r
  obtain ⟨i0, hi0, hz0, hz1, hz2⟩ := info_parts Try.info3i
  have hb0 : i0.bytes * zs.length ≤ 281474976710656 := by rw [hz2]; omega
  have hm0 : zs.length ≤ maxLen := by unfold maxLen; omega
  clear q3 q1 m1
  go_enter Try.func120, Try.ntmps120
  go_wp2_with (at_make; refine wpList_make_full _ rfl _ _ 24 rfl w.heap.size 3 i0 (.int .i64 0) 1 Try.underlying24 hi0 hz0 hz1 .i64 .i64 _ _ zs.length rfl rfl rfl rfl hb0 hm0 (Nat.le_refl _) ?_; intro w1 hown hgrow)
  rw [made_zero] at hown
  have r0 := Row.own hown
  have hk0 : Kept 0 0 w w1 := ⟨hgrow.os, hgrow.tape, hgrow.output, hgrow.size, fun i hi _ => hgrow.block i hi (by simp)⟩
  have r1 : Row .i64 false lo w.heap.size w1 (.slice a zs.length c) zs := r'.kept hk0 (by omega)
  have r0' : Row .i64 true w.heap.size w1.heap.size w1 (.slice (some ⟨w.heap.size, 0, none⟩) zs.length zs.length) (zs.take 0 ++ List.replicate (zs.length - 0) 0) := by simpa using r0
  clear hown hgrow hi0 hz0 hz1 hz2 hb0 r' r0 hm0
  go_loopw [4] (fun i wx => ∃ j : Nat, j ≤ zs.length ∧ i = .int .i64 j ∧ Row .i64 true w.heap.size w1.heap.size wx (.slice (some ⟨w.heap.size, 0, none⟩) zs.length zs.length) (zs.take j ++ List.replicate (zs.length - j) 0) ∧ Kept w.heap.size w1.heap.size w1 wx ∧ wx.heap.size = w1.heap.size) (fun i _ => zs.length - (intOf i).toNat)
  case atStart => exact ⟨0, Nat.zero_le _, rfl, r0', Kept.refl _ _ _, rfl⟩
  case round =>
    clear r0'
    obtain ⟨j, hj, rfl, hr, hk, hsz⟩ := hrel
    have HSZ : Hid (wr.heap.size = w1.heap.size) := hsz
    clear hsz
    by_cases hlt : j < zs.length
    · obtain ⟨hc, hf, hl, hh, hgs, -⟩ := hr.at hlt
      generalize (zs.take j ++ List.replicate (zs.length - j) 0).getD j 0 = z at hc
      have r2 := r1.kept hk (by omega)
      have hpos : 0 < zs.length := by omega
      obtain ⟨a', c', e', q1, m1, q3⟩ := r2
      simp only [Value.slice.injEq, true_and] at e'
      obtain ⟨rfl, rfl⟩ := e'
      obtain ⟨g, off, rfl, g1, g2, g3, hcs, -⟩ := q3 (List.length_pos_iff.1 hpos)
      have hx := hcs j hlt
      simp only [Nat.zero_add] at hc hf
      clear q3 hcs r1 hk0 q1 m1
      go_wp2
      have hs := hr.set j hpos (zs.getD j 0)
      rw [fill_step _ _ hlt] at hs
      have hk' := hk.setCell (p := ⟨w.heap.size, 0 + j, none⟩) hl hh (.int .i64 (zs.getD j 0))
      simp only [Nat.zero_add] at hs hk'
      go_roundw
      case rel => exact ⟨j + 1, by omega, by go_num, by simpa [List.getD, hlt] using hs, by simpa [List.getD, hlt] using hk', by simpa [World.setCell] using HSZ.out⟩
      case measure => simp [intOf]; omega
    · have e : j = zs.length := by omega
      subst e
      simp only [List.take_length, Nat.sub_self, List.replicate_zero, List.append_nil] at hr
      clear r1
      go_wp2
      go_ret
      refine ⟨.slice (some ⟨w.heap.size, 0, none⟩) zs.length zs.length, rfl, by rw [HSZ.out]; exact hr, ?_⟩
      exact ⟨hk.os.trans hk0.os, hk.tape.trans hk0.tape, hk.output.trans hk0.output, Nat.le_trans hk0.size hk.size, fun i hi _ => (hk.block i (Nat.lt_of_lt_of_le hi hk0.size) (.inl hi)).trans (hk0.block i hi (by omega))⟩

set_option maxHeartbeats 1000000 in
theorem eqNat_same {b1 b2 : Bool} {l1 h1 l2 h2 : Nat} {v1 v2 : Value} {zs : List Int} (w : World) (r1 : Row .i64 b1 l1 h1 w v1 zs) (r2 : Row .i64 b2 l2 h2 w v2 zs) :
    Calls Try.prog 61 #[.agg #[v1], .agg #[v2]] w fun e w' => e = .returned (.bool true) ∧ Kept 0 0 w w' := by
  have kk := ((Kept.refl 0 0 w).alloc (.cells #[v1] 26)).alloc (.cells #[v2] 26)
  have s1 := r1.kept kk (by omega)
  have s2 := r2.kept kk (by omega)
  have KK := hide kk
  obtain ⟨a1, c1, rfl, -⟩ := r1
  obtain ⟨a2, c2, rfl, -⟩ := r2
  clear kk
  go_enter Try.func61, Try.ntmps61
  go_wp2_with fail
  refine (eqIntS_same _ s1 s2).mono ?_
  rintro e w6 ⟨rfl, n6, rfl⟩
  clear s1 s2
  go_wp2
  go_ret
  exact ⟨rfl, (unhide KK).drewN n6⟩

set_option maxHeartbeats 1000000 in
theorem markNat_any {lo hi : Nat} {v : Value} {zs : List Int} (w : World) (s : Int) (hs0 : 0 ≤ s) (hs1 : s ≤ 1000000) (hn : zs.length ≤ 1099511627776) (r : Row .i64 true lo hi w v zs) :
    Calls Try.prog 62 #[.agg #[v], .int .i64 s] w fun e w' => e = .returned (.int .i64 (s + zs.length)) ∧ Row .i64 true lo hi w' v (marks .i64 s zs.length) ∧ Kept lo hi w w' := by
  have s1 := r.kept ((Kept.refl 0 0 w).alloc (.cells #[v] 26)) (by omega)
  obtain ⟨a1, c1, rfl, -⟩ := r
  go_enter Try.func62, Try.ntmps62
  go_wp2_with fail
  refine (markIntS_any _ s hs0 hs1 hn s1).mono ?_
  rintro e w6 ⟨rfl, r6, k6, -⟩
  have R6 := hide r6
  have K6 := hide (((Kept.refl lo hi w).alloc _).trans k6)
  clear s1 r6 k6
  go_wp2
  go_ret
  exact ⟨rfl, unhide R6, unhide K6⟩

set_option maxHeartbeats 1000000 in
theorem heldNat_any {bw : Bool} {lo hi : Nat} {v : Value} {n : Nat} (w : World) (s : Int) (hs0 : 0 ≤ s) (hs1 : s ≤ 1000000) (hn : n ≤ 1099511627776) (r : Row .i64 bw lo hi w v (marks .i64 s n)) :
    Calls Try.prog 63 #[.agg #[v], .int .i64 s] w fun e w' => e = .returned (.int .i64 (s + n)) ∧ Kept 0 0 w w' := by
  have s1 := r.kept ((Kept.refl 0 0 w).alloc (.cells #[v] 26)) (by omega)
  obtain ⟨a1, c1, rfl, -⟩ := r
  have h0 : ¬ (s + (n : Int)) < 0 := by omega
  go_enter Try.func63, Try.ntmps63
  go_wp2_with fail
  refine (heldIntS_any _ s hs0 hs1 hn s1).mono ?_
  rintro e w6 ⟨rfl, rfl⟩
  clear s1
  go_wp2
  go_ret
  exact ⟨rfl, (Kept.refl _ _ _).alloc _⟩

set_option maxHeartbeats 1000000 in
theorem toNat_any {bw : Bool} {lo hi : Nat} {v : Value} {zs : List Int} (w : World) (hn : zs.length ≤ 1099511627776) (r : Row .i64 bw lo hi w v zs) :
    Calls Try.prog 60 #[.agg #[v]] w fun e w' => ∃ v', e = .returned (.agg #[v']) ∧ Row .i64 true w.heap.size w'.heap.size w' v' zs ∧ Kept 0 0 w w' := by
  have s1 := r.kept ((((Kept.refl 0 0 w).alloc (.cells #[v] 59)).alloc (.cells #[.slice none 0 0] 26)).alloc (.cells #[.slice none 0 0] 26)) (by omega)
  obtain ⟨a1, c1, rfl, -⟩ := r
  go_enter Try.func60, Try.ntmps60
  go_wp2_with fail
  generalize hW : ((w.alloc (.cells #[.slice a1 zs.length c1] 59)).alloc (.cells #[.slice none 0 0] 26)).alloc (.cells #[.slice none 0 0] 26) = W at *
  have c1' : W.cell? ⟨w.heap.size + 1, 0, none⟩ = some (.slice none 0 0) := by rw [← hW]; exact old_cell _ (new_cell_at _ _ _ _ (by simp))
  have c2' : W.cell? ⟨w.heap.size + 1 + 1, 0, none⟩ = some (.slice none 0 0) := by rw [← hW]; exact new_cell_at _ _ _ _ (by simp)
  have f1' : W.frozen? ⟨w.heap.size + 1, 0, none⟩ = false := by rw [← hW]; exact loose_old (by simp) (new_loose' _ _ _ _ (by simp))
  have f2' : W.frozen? ⟨w.heap.size + 1 + 1, 0, none⟩ = false := by rw [← hW]; exact new_loose' _ _ _ _ (by simp)
  have hs : W.heap.size = w.heap.size + 3 := by rw [← hW]; simp
  have hk : Kept 0 0 w W := by rw [← hW]; exact (((Kept.refl 0 0 w).alloc _).alloc _).alloc _
  clear hW
  refine (toIntS_any _ hn s1).mono ?_
  rintro e w6 ⟨v6, rfl, r6, k6⟩
  have c3 := k6.cell0 c1'
  have c4 := k6.cell0 c2'
  have f3 := k6.loose0 (by simp; omega) f1'
  have f4 := k6.loose0 (by simp; omega) f2'
  have R : Hid (Row .i64 true w.heap.size ((w6.setCell ⟨w.heap.size + 1 + 1, 0, none⟩ v6).setCell ⟨w.heap.size + 1, 0, none⟩ v6).heap.size ((w6.setCell ⟨w.heap.size + 1 + 1, 0, none⟩ v6).setCell ⟨w.heap.size + 1, 0, none⟩ v6) v6 zs) := by
    have h1 := r6.set_other (p := ⟨w.heap.size + 1 + 1, 0, none⟩) (by simp; omega) v6
    have h2 := h1.set_other (p := ⟨w.heap.size + 1, 0, none⟩) (by simp; omega) v6
    exact h2.wider (by omega) (by simp [World.setCell])
  have K : Hid (Kept 0 0 w ((w6.setCell ⟨w.heap.size + 1 + 1, 0, none⟩ v6).setCell ⟨w.heap.size + 1, 0, none⟩ v6)) := ((hk.trans k6).setNew (p := ⟨w.heap.size + 1 + 1, 0, none⟩) (by simp; omega) _).setNew (p := ⟨w.heap.size + 1, 0, none⟩) (by simp) _
  obtain ⟨a6, c6, rfl, -⟩ := r6
  clear s1 c1' c2' f1' f2' hs hk k6
  go_wp2
  exact bodyPost_ret (v := .agg #[.slice a6 zs.length c6]) (by simp [results, Try.results60, go_sem, c3]) rfl ⟨_, rfl, unhide R, unhide K⟩

end Go.Proofs.Ytdhponfpikclhaa
