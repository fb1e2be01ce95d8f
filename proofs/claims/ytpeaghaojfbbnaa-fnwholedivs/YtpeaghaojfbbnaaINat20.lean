/-
  The program's shiftDown.
-/
import Derived.Test.YtpeaghaojfbbnaaINat19
import Derived.RegionTactic
import Derived.Deep.RegionLaw
namespace Go.Proofs.Ytpeaghaojfbbnaa
open Go.RowKit
set_option linter.unusedVariables false
set_option maxRecDepth 8000
set_option linter.unusedSimpArgs false

/-- A call that only reads, as one step of a statement whose order is left open. -/
theorem step_call_pure {P : Program} {ops : Array Oper} {o : Oper} {a : Act} {w : World} {K : Act → World → Prop} {Q : Exit → Act → World → Prop} {E : Prop}
    (hg : o.guard = none) (n : FuncId) (x y : Operand) (ts : Array TypeId) (hop : o.op = Op.call { callee := Callee.value (Operand.func n), args := #[x, y], argTypes := ts })
    (hcf : ∀ args : Array Value, (callFunc n args).run P w = .ok (.enter n args) w) (vx vy v : Value) (hx : a.eval x = vx) (hy : a.eval y = vy) (hc : Calls P n #[vx, vy] w (fun e w' => e = .returned v ∧ w' = w)) (hK : K (a.put o.dst v) w) :
    if Region.wanted o (yielded ops a.tmps) = true then Oper.wp P o a w K Q else E := by
  have hw : Region.wanted o (yielded ops a.tmps) = true := by simp [Region.wanted, hg]
  rw [if_pos hw]
  unfold Oper.wp
  have hrun : (execOp a.eval o).run P w = .ok (.enter n #[vx, vy]) w := by
    have hfn : a.eval (.func n) = .func (.func n) #[] #[] := rfl
    simp [execOp, hop, resolve, invoke, hx, hy, hfn, Deferred.ofValue, Result.andThen, hcf]
  rw [hrun, Oper.upon_enter]
  refine hc.mono ?_
  rintro e w' ⟨rfl, rfl⟩
  exact hK

theorem at_enter (w : World) (args : Array Value) : (callFunc 48 args).run Try.prog w = .ok (.enter 48 args) w := by
  have h1 : ¬ Try.f48.name = "runtime.NumGoroutine" := by decide
  have h2 : ¬ Try.f48.body = none := fun h => by cases h
  simp [callFunc, Try.func48, go_sem, h1, h2]

theorem Work.lost {b g : Nat} {w : World} {v v' : Value} {xs : List Int} (h : Work b w g v xs) (a : Option Addr) (c : Nat) (hc : c ≤ maxLen) : Work b (w.setCell ⟨g, 0, none⟩ (.slice a 0 c)) g (.slice a 0 c) [] :=
  ⟨cell_on _ _ _ _ _ h.cell, by rw [frozen_set]; exact h.loose, Row.empty _ _ _ _ _ _ _ hc, fun e => absurd rfl e⟩
theorem Work.tail {b g gb cap n : Nat} {w : World} {xs : List Int} (h : Work b w g (.slice (some ⟨gb, 0, none⟩) n cap) xs) (q : Nat) (hn : n = xs.length) (hq : q < n) :
    Work b (w.setCell ⟨g, 0, none⟩ (.slice (some ⟨gb, q, none⟩) (n - q) (cap - q))) g (.slice (some ⟨gb, q, none⟩) (n - q) (cap - q)) (xs.drop q) := by
  have hz : xs ≠ [] := by intro e; subst e; simp at hn; omega
  have hr := h.row.drop q hq
  rw [Nat.zero_add] at hr
  have hap : xs.drop q ≠ [] → (Value.slice (some ⟨gb, q, none⟩) (n - q) (cap - q)).ownBlock ≠ some g := fun _ => h.apart hz
  exact ⟨cell_on _ _ _ _ _ h.cell, by rw [frozen_set]; exact h.loose, by rw [size_set]; exact hr.aside hap _, hap⟩

set_option maxHeartbeats 8000000 in
theorem shiftDown_work {b g : Nat} {v : Value} {xs : List Int} (w : World) (h : Num b w g v xs) (hx : Lim xs) (nx : xs.length ≤ 100000) (k : Nat) (hk : (k : Int) ≤ 9223372036854775807) :
    Calls Try.prog 46 #[.pointer (some ⟨g, 0, none⟩), .int .i64 (k : Int)] w fun e w' => (∃ r, e = .returned r) ∧ ∃ u, Work b w' g u (limbs ((val xs).toNat / 2 ^ k)) ∧ Mod (Own1 g v) w w' := by
  obtain ⟨q, s, hs, rfl⟩ : ∃ q s : Nat, s < 16 ∧ k = 16 * q + s := ⟨k / 16, k % 16, by omega, by omega⟩
  obtain ⟨K, hK⟩ : ∃ K : Int, K = ((16 * q + s : Nat) : Int) := ⟨_, rfl⟩
  have e3 : K.tdiv 16 = (q : Int) := by rw [Int.tdiv_eq_ediv_of_nonneg (by omega)]; omega
  have e4 : K.tmod 16 = (s : Int) := by rw [Int.tmod_eq_emod_of_nonneg (by omega)]; omega
  have hq63 : (q : Int) ≤ 9223372036854775807 := by omega
  have hKK : 0 ≤ K ∧ K ≤ 9223372036854775807 := by omega
  rw [← hK]
  generalize hA : (val xs).toNat / 2 ^ (16 * q + s) = A
  have HA := hide hA
  clear hK hA hk
  have hlt := h.lt
  have hce := h.cell
  have hlo := h.loose
  have hs0 : ¬ ((s : Int) < 0) := by omega
  have hs64 : (s : Int) < 64 := by omega
  by_cases hqn : q < xs.length
  · have hmin : min (q : Int) (xs.length : Int) = (q : Int) := by omega
    obtain ⟨gb, cap, hv, -⟩ := h.at q hqn
    subst hv
    have hm := h.row
    obtain ⟨a', c', e', hm1, hm2, -⟩ := hm
    cases e'
    have hq1 : (q : Int) ≤ (xs.length : Int) := by omega
    have hq2 : (xs.length : Int) ≤ (cap : Int) := by omega
    have hcq : ¬ cap = q := by omega
    obtain ⟨m, hm⟩ : ∃ m, m = xs.length - q := ⟨_, rfl⟩
    obtain ⟨Y, hY⟩ : ∃ Y, Y = xs.drop q := ⟨_, rfl⟩
    have hYl : Y.length = m := by rw [hY, hm]; simp
    have hYx : Lim Y := by rw [hY]; exact hx.drop q
    have hgb : b ≤ gb := (h.own.lt gb rfl).1
    have wl := (h.work.tail q rfl hqn).kept (Kept.refl 0 0 _).drew
    have ml := ((Mod.refl (Own1 g (.slice (some ⟨gb, 0, none⟩) xs.length cap)) w).set (p := ⟨g, 0, none⟩) (.inl (.inl rfl)) (.slice (some ⟨gb, q, none⟩) m (cap - q))).kept (Kept.refl 0 0 _).drew
    rw [← hm, ← hY] at wl
    have HM := hide hm
    have hAv : Hid (limbs (val (sdn ((2 ^ s : Nat) : Int) Y)).toNat = limbs A) := by
      show _ = _
      rw [sdn_val s (by omega) hYx, hY, shr_val hx q s (by omega), unhide HA]
    have WL := hide wl
    have ML := hide ml
    have hm63 : (m : Int) ≤ 100000 := by omega
    clear h hm1 hm2 HA hY wl ml hm
    go_enter Try.func46, Try.ntmps46
    go_wp2
    go_region
    rw [← unhide HM]
    have wl := unhide WL
    have ml := unhide ML
    generalize (w.setCell ⟨g, 0, none⟩ (.slice (some ⟨gb, q, none⟩) m (cap - q))).drew = W at *
    have hce5 := wl.cell
    clear hce hlo WL ML
    go_wp2
    clear hce5
    go_loopw [32] (fun ii wr => ∃ i : Nat, ii = .int .i64 (i : Int) ∧ i ≤ m ∧ Work b wr g (.slice (some ⟨gb, q, none⟩) m (cap - q)) ((sdn ((2 ^ s : Nat) : Int) Y).take i ++ Y.drop i) ∧ Mod (Own1 g (.slice (some ⟨gb, 0, none⟩) xs.length cap)) w wr) (fun ii _ => m - (intOf ii).toNat)
    case atStart => exact ⟨0, rfl, Nat.zero_le _, by simpa using wl, ml⟩
    case round =>
      clear wl ml
      obtain ⟨i, rfl, hi, wk, md⟩ := hrel
      have hsl := sdn_length ((2 ^ s : Nat) : Int) Y
      have hlen : ((sdn ((2 ^ s : Nat) : Int) Y).take i ++ Y.drop i).length = m := by rw [sdn_len _ _ _ (by omega)]; exact hYl
      by_cases hB : i < m
      · have hcc := wk.cell
        obtain ⟨g1, off, c5, e5, -, hx1, hf1, hg1, -⟩ := wk.at i (by omega)
        rw [hlen] at e5
        cases e5
        rw [sdn_mix _ _ _ _ (Nat.le_refl _) (by omega)] at hx1
        have hat := fun n => at_work _ (wk.kept ((Kept.refl 0 0 wr).drewN n)) (i + 1) (by omega)
        rw [sdn_mix _ _ _ _ (by omega) (by omega)] at hat
        have hput := fun n => (wk.kept ((Kept.refl 0 0 wr).drewN n)).put i hlen.symm hB ((sdn ((2 ^ s : Nat) : Int) Y).getD i 0)
        rw [sdn_put _ _ _ (by omega)] at hput
        have hmd := fun n u => ((md.drewN n).set (p := ⟨gb, q + i, none⟩) (.inl (.inr rfl)) u)
        have hv := sdn_at ((2 ^ s : Nat) : Int) Y i (by omega)
        have h0 := hYx.at i
        have h1 := hYx.at (i + 1)
        generalize Y.getD i 0 = y0 at *
        generalize Y.getD (i + 1) 0 = y1 at *
        have ep : ((2 ^ s : Nat) : Int) = (2 : Int) ^ s := by simp
        rw [ep] at hv
        have hv2 : ((y1 * 65536 + y0) / 2 ^ s).tmod 65536 = (sdn ((2 ^ s : Nat) : Int) Y).getD i 0 := by
          rw [ep, Int.tmod_eq_emod_of_nonneg (Int.ediv_nonneg (by omega) (Int.le_of_lt (Int.pow_pos (by decide))))]
          rw [ep] at *
          exact hv.symm
        generalize (sdn ((2 ^ s : Nat) : Int) Y).getD i 0 = zi at *
        have HAT := hide hat
        have HPUT := hide hput
        have HV2 := hide hv2
        have HMD := hide hmd
        have hi2 : (i : Int) < (m : Int) := by omega
        have hwi : IntKind.i64.wrap ((i : Int) + 1) = (i : Int) + 1 := wrap_small _ (by omega) (by omega)
        have hb0 : 0 ≤ y1 * 65536 + y0 ∧ y1 * 65536 + y0 ≤ 4294967295 := by omega
        have hb1 : 0 ≤ y1 * 65536 ∧ y1 * 65536 ≤ 4294967295 := by omega
        have hw1 : IntKind.i64.wrap (y1 * 65536) = y1 * 65536 := wrap_small _ (by omega) (by omega)
        have hw2 : IntKind.i64.wrap (y1 * 65536 + y0) = y1 * 65536 + y0 := wrap_small _ (by omega) (by omega)
        clear hat hput hmd hv hv2 wk md hlen hsl ep
        go_wp2
        go_region_law (refine step_call_pure rfl 48 (.tmp 42) (.tmp 44) _ rfl (at_enter _) _ _ _ (by simp [Act.eval, Act.put]) (by simp [Act.eval, Act.put, hwi]) (unhide HAT 1) ?_)
        all_goals
          rw [unhide HV2]
          go_wp2
          go_roundw
          case rel => exact ⟨i + 1, by go_num, by omega, unhide HPUT 1, unhide HMD 1 _⟩
          case measure => simp [intOf]; omega
      · have hi2 : ¬ (i : Int) < (m : Int) := by omega
        have him : i = m := by omega
        rw [him, List.take_of_length_le (by omega), List.drop_of_length_le (by omega), List.append_nil] at wk
        clear hlen hsl him
        go_wp2_with fail
        refine (trim_work _ wk (sdn_lim _ _)).mono ?_
        rintro e w6 ⟨⟨r6, rfl⟩, u6, n6, m6⟩
        rw [unhide hAv] at n6
        have N6 := hide n6
        have M6 := hide (md.then m6 (fun i e => .inl (.inl e)))
        clear n6 m6 wk md
        go_wp2
        exact bodyPost_end (v := .tuple #[]) (by simp [results, Try.results46, go_sem]) rfl ⟨⟨_, rfl⟩, _, unhide N6, unhide M6⟩
  · have hle : (xs.length : Int) ≤ (q : Int) := by omega
    have hA0 : A = 0 := by
      rw [← unhide HA]
      have e1 := val_lt hx
      have e2 := val_nonneg hx
      rw [pow_limb] at e1
      refine Nat.div_eq_of_lt (Nat.lt_of_lt_of_le (m := 2 ^ (16 * xs.length)) (by omega) (Nat.pow_le_pow_right (by decide) (by omega)))
    rw [hA0, limbs_zero]
    obtain ⟨a1, c1, hv⟩ := h.form
    subst hv
    have hm := h.row
    obtain ⟨a', c', e', hm1, hm2, -⟩ := hm
    cases e'
    have hcap : (xs.length : Int) ≤ (c1 : Int) := by omega
    have hmin : min (q : Int) (xs.length : Int) = (xs.length : Int) := by omega
    have hmx : c1 - xs.length ≤ maxLen := by omega
    have WL := hide (fun (a : Option Addr) => (h.work.lost (v' := .slice a 0 (c1 - xs.length)) a (c1 - xs.length) hmx).kept (Kept.refl 0 0 _).drew)
    have MM := hide (fun (u : Value) => ((Mod.refl (Own1 g (.slice a1 xs.length c1)) w).set (p := ⟨g, 0, none⟩) (.inl (.inl rfl)) u).kept (Kept.refl 0 0 _).drew)
    clear h hm1 hm2 hmx HA hA0
    go_enter Try.func46, Try.ntmps46
    go_wp2
    go_region
    generalize (if c1 = xs.length then a1 else Option.map (fun x => x.add xs.length) a1) = a5 at *
    have wl := unhide WL a5
    have ml := unhide MM (.slice a5 0 (c1 - xs.length))
    generalize (w.setCell ⟨g, 0, none⟩ (.slice a5 0 (c1 - xs.length))).drew = W at *
    have hce5 := wl.cell
    clear hce hlo
    go_wp2
    go_loopw [32] (fun ii wr => ii = .int .i64 0 ∧ wr = W) (fun _ _ => 0)
    case atStart => exact ⟨rfl, rfl⟩
    case round =>
      obtain ⟨rfl, rfl⟩ := hrel
      clear hce5
      go_wp2_with fail
      refine (trim_work _ wl Lim.nil).mono ?_
      rintro e w6 ⟨⟨r6, rfl⟩, u6, n6, m6⟩
      have N6 := hide n6
      have M6 := hide (ml.then m6 (fun i e => .inl (.inl e)))
      clear n6 m6 wl ml
      go_wp2
      exact bodyPost_end (v := .tuple #[]) (by simp [results, Try.results46, go_sem]) rfl ⟨⟨_, rfl⟩, _, unhide N6, unhide M6⟩

end Go.Proofs.Ytpeaghaojfbbnaa
