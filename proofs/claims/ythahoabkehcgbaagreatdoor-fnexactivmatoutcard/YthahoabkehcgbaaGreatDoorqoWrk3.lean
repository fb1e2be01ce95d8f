/-
  The program's add of a number whose list may begin behind its block's first cell.
-/
import Derived.Test.YthahoabkehcgbaaGreatDoorqoWrk2
import Derived.Test.YthahoabkehcgbaaGreatDoorqoBH
namespace Go.Proofs.YthahoabkehcgbaaGreatDoor
open Go.RowKit
set_option linter.unusedVariables false
set_option maxRecDepth 8000
set_option linter.unusedSimpArgs false

/-- Two numbers of which the first, wherever its list begins, is written into. -/
structure TwoA (w0 : World) (S : Nat → Prop) (b b2 : Nat) (w : World) (g1 g2 : Nat) (u1 u2 : Value) (xs ys : List Int) : Prop where
  n1 : Wrk b w g1 u1 xs
  n2 : Num b2 w g2 u2 ys
  ne : g1 ≠ g2
  o12 : u1.ownBlock ≠ some g2
  o21 : u2.ownBlock ≠ some g1
  oo : ∀ k, u1.ownBlock = some k → u2.ownBlock ≠ some k
  o1 : ∀ k, u1.ownBlock = some k → S k ∨ w0.heap.size ≤ k
  s1 : S g1
  m : Mod S w0 w
  sd : SameSide g1 w0 w
  hb : b ≤ w0.heap.size

theorem TwoA.kept {w0 W w' : World} {S : Nat → Prop} {b b2 g1 g2 : Nat} {u1 u2 : Value} {xs ys : List Int} (t : TwoA w0 S b b2 W g1 g2 u1 u2 xs ys) (k : Kept 0 0 W w') : TwoA w0 S b b2 w' g1 g2 u1 u2 xs ys :=
  ⟨t.n1.kept k, t.n2.kept k, t.ne, t.o12, t.o21, t.oo, t.o1, t.s1, t.m.kept k, t.sd.trans (k.side t.n1.lt), t.hb⟩
theorem TwoA.put {w0 wr : World} {S : Nat → Prop} {b b2 g1 g2 gb off cap j : Nat} {u2 : Value} {zs ys : List Int} {n : Nat} (t : TwoA w0 S b b2 wr g1 g2 (.slice (some ⟨gb, off, none⟩) n cap) u2 zs ys) (hn : zs.length = n) (hj : j < n) (z : Int) :
    TwoA w0 S b b2 (wr.setCell ⟨gb, off + j, none⟩ (.int .i64 z)) g1 g2 (.slice (some ⟨gb, off, none⟩) n cap) u2 (zs.set j z) ys := by
  have n1 : gb ≠ g1 := fun e => t.n1.apart (by simp [Value.ownBlock, e])
  have n2 : gb ≠ g2 := fun e => t.o12 (by simp [Value.ownBlock, e])
  have n3 : u2.ownBlock ≠ some gb := t.oo gb rfl
  exact ⟨t.n1.put j hn.symm hj z, t.n2.mod (S := fun i => i = gb) (Mod.set (S := fun i => i = gb) (Mod.refl _ _) (p := ⟨gb, off + j, none⟩) (.inl rfl) _) (fun e => n2 e.symm) (fun i hi e => n3 (by rw [hi, e])),
    t.ne, t.o12, t.o21, t.oo, t.o1, t.s1, t.m.set (p := ⟨gb, off + j, none⟩) (t.o1 gb rfl) _, t.sd.far n1 _, t.hb⟩
theorem TwoA.snoc {w0 w w' : World} {S : Nat → Prop} {b b2 g1 g2 : Nat} {v v' u2 : Value} {zs ys qs : List Int} (t : TwoA w0 S b b2 w g1 g2 v u2 zs ys) (o : Obj) (hg : (w.alloc o).grownBy w' v.ownBlock) (hat : ∀ k, v'.ownBlock = some k → v.ownBlock = some k ∨ w.heap.size + 1 ≤ k)
    (hown : OwnA b w' v' qs) :
    w'.cell? ⟨g1, 0, none⟩ = some v ∧ w'.frozen? ⟨g1, 0, none⟩ = false ∧ TwoA w0 S b b2 (w'.setCell ⟨g1, 0, none⟩ v') g1 g2 v' u2 qs ys := by
  have k := (Kept.refl 0 0 w).alloc o
  have m1 : Mod (fun i => v.ownBlock = some i) (w.alloc o) w' := (Mod.refl _ _).grow hg (fun i hi => .inl hi)
  have hlt := t.n1.lt
  have hlt2 := t.n2.lt
  have hsz := t.m.size
  have h1 := m1.cell (a := ⟨g1, 0, none⟩) t.n1.apart (k.cell0 t.n1.cell)
  have h2 := m1.loose (a := ⟨g1, 0, none⟩) t.n1.apart (by simp; omega) (k.loose0 hlt t.n1.loose)
  have ha : v'.ownBlock ≠ some g1 := fun e => (hat g1 e).elim t.n1.apart (fun h => by omega)
  have mm : Mod S w0 w' := (t.m.kept k).grow hg (fun i hi => t.o1 i hi)
  have sd' : SameSide g1 w0 w' := t.sd.trans ((k.side hlt).trans (m1.side (by simp; omega) t.n1.apart))
  have nn : Num b2 w' g2 u2 ys := (t.n2.kept k).mod m1 t.o12 (fun i hi e => t.oo i e hi)
  refine ⟨h1, h2, ⟨cell_on _ _ _ _ _ h1, by rw [frozen_set]; exact h2, hown.aside ha _, ha⟩, nn.mod (S := fun i => i = g1) (Mod.set (S := fun i => i = g1) (Mod.refl _ _) (p := ⟨g1, 0, none⟩) (.inl rfl) _) (fun e => t.ne e.symm) (fun i hi e => t.o21 (by rw [hi, e])),
    t.ne, fun e => (hat g2 e).elim t.o12 (fun h => by omega), t.o21, fun k hk e => (hat k hk).elim (fun h => t.oo k h e) (fun h => by have := (t.n2.own.lt k e).2; omega),
    fun k hk => (hat k hk).elim (fun h => t.o1 k h) (fun h => .inr (by omega)), t.s1, mm.set (p := ⟨g1, 0, none⟩) (.inl t.s1) _, sd'.set0 _, t.hb⟩

/-- One more limb appended to a list of the call's own, wherever it begins. -/
theorem wpList_snocA {ops : Array Oper} {rest : List Oper} {o : Oper} {a : Act} {Q : Exit → Act → World → Prop} {b : Nat} {wr : World} {v : Value} {zs : List Int} (hgd : o.guard = none) (s x : Operand)
    (ho : o.op = .call { callee := .builtin .append, args := #[s, x], argTypes := #[39, 39] }) (hs : a.eval s = v) (ad : Addr) (hx : a.eval x = .slice (some ad) 1 1) (z : Int)
    (hc : wr.cell? ad = some (.int .i64 z)) (hown : OwnA b wr v zs) (hn : zs.length ≤ 1000000) (hb : b ≤ wr.heap.size)
    (h : ∀ v' w', OwnA b w' v' (zs ++ [z]) → wr.grownBy w' v.ownBlock → Hid (∀ k, v'.ownBlock = some k → v.ownBlock = some k ∨ wr.heap.size ≤ k) → wpList Tryz.prog ops Q rest (a.put o.dst v') w') : wpList Tryz.prog ops Q (o :: rest) a wr := by
  refine wpList_plain hgd fun K hK => ?_
  obtain ⟨v', w', hr, h2, h3, h4⟩ := run_snocA o.type hown hn hb ad z hc
  unfold Oper.wp execOp
  simp only [ho, resolve, invoke, builtin, Sem.run_bind, Sem.run_pure, Result.andThen_ok, List.map_toArray, List.map_cons, List.map_nil, hs, hx, hr]
  exact hK _ _ (h v' w' h2 h3 (hide h4))

set_option maxHeartbeats 4000000 in
theorem add_twoA {w0 w : World} {S : Nat → Prop} {b b2 g1 g2 : Nat} {xs ys : List Int} {u1 u2 : Value} (t0 : TwoA w0 S b b2 w g1 g2 u1 u2 xs ys) (hx : Nrm xs) (hy : Nrm ys) (hl1 : xs.length ≤ 100000) (hl2 : ys.length ≤ 100000) :
    Calls Tryz.prog 170 #[.pointer (some ⟨g1, 0, none⟩), .pointer (some ⟨g2, 0, none⟩)] w fun e w' => (∃ r, e = .returned r) ∧ ∃ u1, TwoA w0 S b b2 w' g1 g2 u1 u2 (limbs (val xs + val ys).toNat) ys := by
  obtain ⟨a2, c2, rfl⟩ := t0.n2.form
  generalize hS : val xs + val ys = SS
  have h0 := val_nonneg hx.1
  have h0' := val_nonneg hy.1
  obtain ⟨M0, hM0⟩ : ∃ M0 : Nat, M0 = 100000 := ⟨_, rfl⟩
  obtain ⟨M, hMM⟩ : ∃ M : Nat, M = M0 + 1 := ⟨_, rfl⟩
  have hSb : SS < 65536 ^ M := by
    have e1 := val_lt hx.1
    have e2 := val_lt hy.1
    have e3 := pow_mono (a := xs.length) (b := M0) (by omega)
    have e4 := pow_mono (a := ys.length) (b := M0) (by omega)
    have e5 : (65536 : Int) ^ M = 65536 ^ M0 * 65536 := by rw [hMM]; exact Int.pow_succ _ _
    have e6 : (0 : Int) < 65536 ^ M0 := Int.pow_pos (by decide)
    generalize (65536 : Int) ^ M0 = P at *
    omega
  have HMM : Hid (M = 100001) := by show _ = _; omega
  clear hMM hM0
  have hSt : Hid (xs = [] ∨ (65536 : Int) ^ (xs.length - 1) ≤ SS) := by
    by_cases e : xs = []
    · exact .inl e
    · exact .inr (by have := nrm_pow hx e; omega)
  have HSB := hide hSb
  have HY := hide hy
  have HS0 : Hid (val xs + 65536 ^ 0 * (0 + val (ys.drop 0)) = SS) := by show _ = _; simp; exact hS
  have hylim := hy.1
  have hSpos : 0 ≤ SS := by omega
  clear hSb hS hy h0 h0'
  go_enter Tryz.func170, Tryz.ntmps170
  go_wp2
  go_loopw [4, 5] (fun cc ii wr => ∃ (zs : List Int) (c i : Nat) (v : Value), cc = .int .i64 c ∧ ii = .int .i64 i ∧ c ≤ 1 ∧ i ≤ 100001 ∧ i ≤ zs.length ∧ Lim zs ∧ Hid (val zs + 65536 ^ i * (c + val (ys.drop i)) = SS) ∧ Hid (zs = [] ∨ (65536 : Int) ^ (zs.length - 1) ≤ SS) ∧ TwoA w0 S b b2 wr g1 g2 v (.slice a2 ys.length c2) zs ys) (fun _ ii _ => 100002 - (intOf ii).toNat)
  case atStart => exact ⟨xs, 0, 0, u1, rfl, rfl, by omega, by omega, by omega, hx.1, HS0, hSt, t0⟩
  case round =>
    clear t0 HS0 hSt
    obtain ⟨zs, c, i, v, rfl, rfl, hc1, hi1, hiz, hlim, hval, htop, t⟩ := hrel
    have hce2 := t.n2.cell
    by_cases hgo : i < ys.length ∨ 0 < c
    · have hD : 1 ≤ (c : Int) + val (ys.drop i) := by
        rcases hgo with h | h
        · have := drop_pos (unhide HY) i h; omega
        · have := val_nonneg ((unhide HY).1.drop i); omega
      have hSi : (65536 : Int) ^ i ≤ SS := by
        have e1 := unhide hval
        have e2 := val_nonneg hlim
        have e3 : (65536 : Int) ^ i * 1 ≤ 65536 ^ i * (c + val (ys.drop i)) := Int.mul_le_mul_of_nonneg_left hD (Int.le_of_lt (Int.pow_pos (by decide)))
        omega
      have hi2 : i ≤ 100000 := by
        rcases Nat.lt_or_ge 100000 i with h | h
        · have := pow_mono (a := M) (b := i) (by have := unhide HMM; omega)
          have := unhide HSB
          omega
        · exact h
      have hzl : zs.length ≤ 100001 := by
        rcases unhide htop with e | e
        · rw [e]; simp
        · rcases Nat.lt_or_ge 100001 zs.length with h | h
          · have := pow_mono (a := M) (b := zs.length - 1) (by have := unhide HMM; omega)
            have := unhide HSB
            omega
          · exact h
      have HSI := hide hSi
      clear hSi hD
      by_cases hi : i < zs.length
      · have hne : ((i : Int) == (zs.length : Int)) = false := beq_eq_false_iff_ne.2 (by omega)
        have hiL := hi
        have hlimL := hlim
        have hvalL := hval
        have htopL := htop
        obtain ⟨gb, off, cap, rfl, -, hxz, hfz, hgb, -⟩ := t.n1.at i hiL
        have hce1 := t.n1.cell
        rcases hgo with hgo | hgo
        · have hgo' : (i : Int) < (ys.length : Int) := by omega
          go_wp2
          have hzr := hlimL.at i
          have hyr := hylim.at i
          have hyd := val_drop ys i
          have hput := add_put (zs) ys i hiL c SS _ _ rfl hyd (unhide hvalL)
          have hsetl := fun z (h0 : 0 ≤ z) (h1 : z ≤ 65535) => hlimL.set i h0 h1
          have hatc := fun n => at_impl (wr.drewN n) (t.n2.kept ((Kept.refl 0 0 _).drewN n)) i (by omega)
          have HAT := hide hatc
          have tp := fun n z => (t.kept ((Kept.refl 0 0 _).drewN n)).put (j := i) rfl hiL z
          have TP := hide tp
          have HSL := hide hsetl
          have hlen : (zs).length = zs.length := rfl
          try rw [hlen] at hce1
          have hlenset : ∀ z, ((zs).set i z).length = zs.length := fun z => by rw [List.length_set, hlen]
          have HLS := hide hlenset
          generalize hz : (zs).getD i 0 = z at *
          generalize hy2 : ys.getD i 0 = y at *
          have HP := hide hput
          have hs0 : 0 ≤ z + y + c ∧ z + y + c ≤ 131071 := by omega
          have em : (z + y + (c : Int)).tmod 65536 = (z + y + c) % 65536 := by rw [Int.tmod_eq_emod_of_nonneg (by omega)]
          have ed : (z + y + (c : Int)).tdiv 65536 = (z + y + c) / 65536 := by rw [Int.tdiv_eq_ediv_of_nonneg (by omega)]
          have hlt2 : (i : Int) < ((zs.length : Nat) : Int) := by omega
          obtain ⟨c', hc'⟩ : ∃ c' : Nat, (z + y + (c : Int)) / 65536 = c' := ⟨((z + y + (c : Int)) / 65536).toNat, by omega⟩
          clear hatc tp hput hyd hz hy2 t hlimL hvalL hsetl hlenset hlen
          go_quiet ((go_at_call 204; exact (unhide HAT _).mono (fun e w' h => ⟨h.1, _, h.2⟩)))
          go_wp2
          go_roundw
          case rel => exact ⟨(zs).set i ((z + y + c) % 65536), c', i + 1, _, rfl, by go_num, by omega, by omega, by rw [unhide HLS]; omega, unhide HSL _ (by omega) (by omega), by have := unhide HP; rw [hc'] at this; exact this, by rcases unhide htopL with e | e; exact .inl (by rw [e]; rfl); exact .inr (by rw [unhide HLS]; exact e), unhide TP _ _⟩
          case measure => simp [intOf]; omega
        · by_cases hgo2 : i < ys.length
          · have hgo' : (i : Int) < (ys.length : Int) := by omega
            go_wp2
            have hzr := hlimL.at i
            have hyr := hylim.at i
            have hyd := val_drop ys i
            have hput := add_put (zs) ys i hiL c SS _ _ rfl hyd (unhide hvalL)
            have hsetl := fun z (h0 : 0 ≤ z) (h1 : z ≤ 65535) => hlimL.set i h0 h1
            have hatc := fun n => at_impl (wr.drewN n) (t.n2.kept ((Kept.refl 0 0 _).drewN n)) i (by omega)
            have HAT := hide hatc
            have tp := fun n z => (t.kept ((Kept.refl 0 0 _).drewN n)).put (j := i) rfl hiL z
            have TP := hide tp
            have HSL := hide hsetl
            have hlen : (zs).length = zs.length := rfl
            try rw [hlen] at hce1
            have hlenset : ∀ z, ((zs).set i z).length = zs.length := fun z => by rw [List.length_set, hlen]
            have HLS := hide hlenset
            generalize hz : (zs).getD i 0 = z at *
            generalize hy2 : ys.getD i 0 = y at *
            have HP := hide hput
            have hs0 : 0 ≤ z + y + c ∧ z + y + c ≤ 131071 := by omega
            have em : (z + y + (c : Int)).tmod 65536 = (z + y + c) % 65536 := by rw [Int.tmod_eq_emod_of_nonneg (by omega)]
            have ed : (z + y + (c : Int)).tdiv 65536 = (z + y + c) / 65536 := by rw [Int.tdiv_eq_ediv_of_nonneg (by omega)]
            have hlt2 : (i : Int) < ((zs.length : Nat) : Int) := by omega
            obtain ⟨c', hc'⟩ : ∃ c' : Nat, (z + y + (c : Int)) / 65536 = c' := ⟨((z + y + (c : Int)) / 65536).toNat, by omega⟩
            clear hatc tp hput hyd hz hy2 t hlimL hvalL hsetl hlenset hlen
            go_quiet ((go_at_call 204; exact (unhide HAT _).mono (fun e w' h => ⟨h.1, _, h.2⟩)))
            go_wp2
            go_roundw
            case rel => exact ⟨(zs).set i ((z + y + c) % 65536), c', i + 1, _, rfl, by go_num, by omega, by omega, by rw [unhide HLS]; omega, unhide HSL _ (by omega) (by omega), by have := unhide HP; rw [hc'] at this; exact this, by rcases unhide htopL with e | e; exact .inl (by rw [e]; rfl); exact .inr (by rw [unhide HLS]; exact e), unhide TP _ _⟩
            case measure => simp [intOf]; omega
          · have hgo' : ¬ (i : Int) < (ys.length : Int) := by omega
            have hgo3 : (0 : Int) < (c : Int) := by omega
            go_wp2
            have hzr := hlimL.at i
            have hyr := hylim.at i
            have hyd := val_drop ys i
            have hput := add_put (zs) ys i hiL c SS _ _ rfl hyd (unhide hvalL)
            have hsetl := fun z (h0 : 0 ≤ z) (h1 : z ≤ 65535) => hlimL.set i h0 h1
            have hatc := fun n => at_impl (wr.drewN n) (t.n2.kept ((Kept.refl 0 0 _).drewN n)) i (by omega)
            have HAT := hide hatc
            have tp := fun n z => (t.kept ((Kept.refl 0 0 _).drewN n)).put (j := i) rfl hiL z
            have TP := hide tp
            have HSL := hide hsetl
            have hlen : (zs).length = zs.length := rfl
            try rw [hlen] at hce1
            have hlenset : ∀ z, ((zs).set i z).length = zs.length := fun z => by rw [List.length_set, hlen]
            have HLS := hide hlenset
            generalize hz : (zs).getD i 0 = z at *
            generalize hy2 : ys.getD i 0 = y at *
            have HP := hide hput
            have hs0 : 0 ≤ z + y + c ∧ z + y + c ≤ 131071 := by omega
            have em : (z + y + (c : Int)).tmod 65536 = (z + y + c) % 65536 := by rw [Int.tmod_eq_emod_of_nonneg (by omega)]
            have ed : (z + y + (c : Int)).tdiv 65536 = (z + y + c) / 65536 := by rw [Int.tdiv_eq_ediv_of_nonneg (by omega)]
            have hlt2 : (i : Int) < ((zs.length : Nat) : Int) := by omega
            obtain ⟨c', hc'⟩ : ∃ c' : Nat, (z + y + (c : Int)) / 65536 = c' := ⟨((z + y + (c : Int)) / 65536).toNat, by omega⟩
            clear hatc tp hput hyd hz hy2 t hlimL hvalL hsetl hlenset hlen
            go_quiet ((go_at_call 204; exact (unhide HAT _).mono (fun e w' h => ⟨h.1, _, h.2⟩)))
            go_wp2
            go_roundw
            case rel => exact ⟨(zs).set i ((z + y + c) % 65536), c', i + 1, _, rfl, by go_num, by omega, by omega, by rw [unhide HLS]; omega, unhide HSL _ (by omega) (by omega), by have := unhide HP; rw [hc'] at this; exact this, by rcases unhide htopL with e | e; exact .inl (by rw [e]; rfl); exact .inr (by rw [unhide HLS]; exact e), unhide TP _ _⟩
            case measure => simp [intOf]; omega
      · have hie : i = zs.length := by omega
        have hne : ((i : Int) == (zs.length : Int)) = true := by simp [hie]
        obtain ⟨a1, d1, rfl⟩ := t.n1.form
        have hce1 := t.n1.cell
        have hlo1 := t.n1.loose
        have hown' := t.n1.own.kept ((Kept.refl 0 0 wr).alloc (.cells #[.int .i64 0] 3))
        have hl' : zs.length ≤ 1000000 := by omega
        have hbb : b ≤ (wr.alloc (.cells #[.int .i64 0] 3)).heap.size := by have := t.m.size; have := t.hb; simp; omega
        have HBB := hide hbb
        have hcc : (wr.alloc (.cells #[.int .i64 0] 3)).cell? ⟨wr.heap.size, 0, none⟩ = some (.int .i64 0) := new_cell_at _ _ _ _ rfl
        have HE := hide hie
        clear hbb hie
        by_cases hgo2 : i < ys.length
        · have hgo' : (i : Int) < (ys.length : Int) := by omega
          go_wp2_with (at_builtin; refine wpList_snocA rfl _ _ rfl rfl _ rfl 0 hcc hown' hl' (unhide HBB) ?_)
          intro v' w' hown2 hgrow hat
          replace hat := unhide hat
          obtain ⟨d1', d2', t2⟩ := t.snoc _ hgrow (by simpa using hat) hown2
          have hie := unhide HE
          have hlenA : (zs ++ [(0 : Int)]).length = i + 1 := by simp [hie]
          have hiL : i < (zs ++ [(0 : Int)]).length := by omega
          have hlimL : Lim (zs ++ [(0 : Int)]) := hlim.snoc (by omega) (by omega)
          have hvalL : Hid (val (zs ++ [(0 : Int)]) + 65536 ^ i * (c + val (ys.drop i)) = SS) := by have := unhide hval; show _ = _; rw [val_snoc]; simpa using this
          obtain ⟨gb, off, cap, hvv, -, hxz, hfz, hgb, -⟩ := t2.n1.at i hiL
          rw [hlenA] at hvv
          subst hvv
          have hce1' := t2.n1.cell
          have hce2' := t2.n2.cell
          have X1 := hide hce1'
          have X2 := hide hce2'
          have X3 := hide hxz
          have X4 := hide hfz
          generalize hwx : w'.setCell ⟨g1, 0, none⟩ (.slice (some ⟨gb, off, none⟩) (i + 1) cap) = wx at *
          clear hown' hown2 hgrow hat hce1' hce2' hxz hfz hcc t hce1 hlo1 hlim hval hie hl' hce2
          go_wp2
          have hce1 := unhide X1
          have hce2 := unhide X2
          have hxz := unhide X3
          have hfz := unhide X4
          try rw [hwx]
          have hzr := hlimL.at i
          have hyr := hylim.at i
          have hyd := val_drop ys i
          have hput := add_put (zs ++ [(0 : Int)]) ys i hiL c SS _ _ rfl hyd (unhide hvalL)
          have hsetl := fun z (h0 : 0 ≤ z) (h1 : z ≤ 65535) => hlimL.set i h0 h1
          have hatc := fun n => at_impl (wx.drewN n) (t2.n2.kept ((Kept.refl 0 0 _).drewN n)) i (by omega)
          have HAT := hide hatc
          have tp := fun n z => (t2.kept ((Kept.refl 0 0 _).drewN n)).put (j := i) hlenA (by omega) z
          have TP := hide tp
          have HSL := hide hsetl
          have hlen : (zs ++ [(0 : Int)]).length = (i + 1) := hlenA
          try rw [hlen] at hce1
          have hlenset : ∀ z, ((zs ++ [(0 : Int)]).set i z).length = (i + 1) := fun z => by rw [List.length_set, hlen]
          have HLS := hide hlenset
          generalize hz : (zs ++ [(0 : Int)]).getD i 0 = z at *
          generalize hy2 : ys.getD i 0 = y at *
          have HP := hide hput
          have hs0 : 0 ≤ z + y + c ∧ z + y + c ≤ 131071 := by omega
          have em : (z + y + (c : Int)).tmod 65536 = (z + y + c) % 65536 := by rw [Int.tmod_eq_emod_of_nonneg (by omega)]
          have ed : (z + y + (c : Int)).tdiv 65536 = (z + y + c) / 65536 := by rw [Int.tdiv_eq_ediv_of_nonneg (by omega)]
          have hlt2 : (i : Int) < (((i + 1) : Nat) : Int) := by omega
          obtain ⟨c', hc'⟩ : ∃ c' : Nat, (z + y + (c : Int)) / 65536 = c' := ⟨((z + y + (c : Int)) / 65536).toNat, by omega⟩
          clear hatc tp hput hyd hz hy2 t2 hlimL hvalL hsetl hlenset hlen
          go_quiet ((go_at_call 204; exact (unhide HAT _).mono (fun e w' h => ⟨h.1, _, h.2⟩)))
          go_wp2
          go_roundw
          case rel => exact ⟨(zs ++ [(0 : Int)]).set i ((z + y + c) % 65536), c', i + 1, _, rfl, by go_num, by omega, by omega, by rw [unhide HLS]; omega, unhide HSL _ (by omega) (by omega), by have := unhide HP; rw [hc'] at this; exact this, by refine .inr ?_; rw [unhide HLS]; exact unhide HSI, unhide TP _ _⟩
          case measure => simp [intOf]; omega
        · have hgo' : ¬ (i : Int) < (ys.length : Int) := by omega
          have hgo3 : (0 : Int) < (c : Int) := by omega
          go_wp2_with (at_builtin; refine wpList_snocA rfl _ _ rfl rfl _ rfl 0 hcc hown' hl' (unhide HBB) ?_)
          intro v' w' hown2 hgrow hat
          replace hat := unhide hat
          obtain ⟨d1', d2', t2⟩ := t.snoc _ hgrow (by simpa using hat) hown2
          have hie := unhide HE
          have hlenA : (zs ++ [(0 : Int)]).length = i + 1 := by simp [hie]
          have hiL : i < (zs ++ [(0 : Int)]).length := by omega
          have hlimL : Lim (zs ++ [(0 : Int)]) := hlim.snoc (by omega) (by omega)
          have hvalL : Hid (val (zs ++ [(0 : Int)]) + 65536 ^ i * (c + val (ys.drop i)) = SS) := by have := unhide hval; show _ = _; rw [val_snoc]; simpa using this
          obtain ⟨gb, off, cap, hvv, -, hxz, hfz, hgb, -⟩ := t2.n1.at i hiL
          rw [hlenA] at hvv
          subst hvv
          have hce1' := t2.n1.cell
          have hce2' := t2.n2.cell
          have X1 := hide hce1'
          have X2 := hide hce2'
          have X3 := hide hxz
          have X4 := hide hfz
          generalize hwx : w'.setCell ⟨g1, 0, none⟩ (.slice (some ⟨gb, off, none⟩) (i + 1) cap) = wx at *
          clear hown' hown2 hgrow hat hce1' hce2' hxz hfz hcc t hce1 hlo1 hlim hval hie hl' hce2
          go_wp2
          have hce1 := unhide X1
          have hce2 := unhide X2
          have hxz := unhide X3
          have hfz := unhide X4
          try rw [hwx]
          have hzr := hlimL.at i
          have hyr := hylim.at i
          have hyd := val_drop ys i
          have hput := add_put (zs ++ [(0 : Int)]) ys i hiL c SS _ _ rfl hyd (unhide hvalL)
          have hsetl := fun z (h0 : 0 ≤ z) (h1 : z ≤ 65535) => hlimL.set i h0 h1
          have hatc := fun n => at_impl (wx.drewN n) (t2.n2.kept ((Kept.refl 0 0 _).drewN n)) i (by omega)
          have HAT := hide hatc
          have tp := fun n z => (t2.kept ((Kept.refl 0 0 _).drewN n)).put (j := i) hlenA (by omega) z
          have TP := hide tp
          have HSL := hide hsetl
          have hlen : (zs ++ [(0 : Int)]).length = (i + 1) := hlenA
          try rw [hlen] at hce1
          have hlenset : ∀ z, ((zs ++ [(0 : Int)]).set i z).length = (i + 1) := fun z => by rw [List.length_set, hlen]
          have HLS := hide hlenset
          generalize hz : (zs ++ [(0 : Int)]).getD i 0 = z at *
          generalize hy2 : ys.getD i 0 = y at *
          have HP := hide hput
          have hs0 : 0 ≤ z + y + c ∧ z + y + c ≤ 131071 := by omega
          have em : (z + y + (c : Int)).tmod 65536 = (z + y + c) % 65536 := by rw [Int.tmod_eq_emod_of_nonneg (by omega)]
          have ed : (z + y + (c : Int)).tdiv 65536 = (z + y + c) / 65536 := by rw [Int.tdiv_eq_ediv_of_nonneg (by omega)]
          have hlt2 : (i : Int) < (((i + 1) : Nat) : Int) := by omega
          obtain ⟨c', hc'⟩ : ∃ c' : Nat, (z + y + (c : Int)) / 65536 = c' := ⟨((z + y + (c : Int)) / 65536).toNat, by omega⟩
          clear hatc tp hput hyd hz hy2 t2 hlimL hvalL hsetl hlenset hlen
          go_quiet ((go_at_call 204; exact (unhide HAT _).mono (fun e w' h => ⟨h.1, _, h.2⟩)))
          go_wp2
          go_roundw
          case rel => exact ⟨(zs ++ [(0 : Int)]).set i ((z + y + c) % 65536), c', i + 1, _, rfl, by go_num, by omega, by omega, by rw [unhide HLS]; omega, unhide HSL _ (by omega) (by omega), by have := unhide HP; rw [hc'] at this; exact this, by refine .inr ?_; rw [unhide HLS]; exact unhide HSI, unhide TP _ _⟩
          case measure => simp [intOf]; omega
    · have hgo1 : ¬ (i : Int) < (ys.length : Int) := by omega
      have hc0 : c = 0 := by omega
      subst hc0
      have e1 := unhide hval
      rw [List.drop_of_length_le (by omega)] at e1
      simp [val] at e1
      have e2 := limbs_of_le hlim (by have := unhide htop; rw [e1]; exact this)
      rw [e1] at e2
      rw [e2] at t
      have T1 := hide t
      clear t e2 e1 hval htop hlim
      go_wp2
      exact bodyPost_end (v := .tuple #[]) (by simp [results, Tryz.results170, go_sem]) rfl ⟨⟨_, rfl⟩, _, unhide T1⟩

end Go.Proofs.YthahoabkehcgbaaGreatDoor

