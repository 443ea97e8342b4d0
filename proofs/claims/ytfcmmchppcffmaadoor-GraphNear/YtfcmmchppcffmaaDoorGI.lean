/- slices.Grow of no references, slices.Concat. -/
import Derived.Test.YtfcmmchppcffmaaDoorGH
import Derived.Lib.AppendZerosOnto
namespace Go.Proofs.YtfcmmchppcffmaaDoor
open Go.RowKit Go.Maps

theorem wpList_append_z {P : Program} {w : World} {ops : Array Oper} {rest : List Oper} {o : Oper} {a : Act} {Q : Exit → Act → World → Prop} (hg : o.guard = none) (s x : Operand) (t tn : TypeId)
    (hop : o.op = .call { callee := .builtin .append, args := #[s, x], argTypes := #[t, tn] }) (v y v' : Value) (w' : World) (hs : a.eval s = v) (hx : a.eval x = y)
    (hrun : (Builtin.append_ #[t, tn] o.type #[v, y]).run P w = .ok v' w') (hK : wpList P ops Q rest (a.put o.dst v') w') : wpList P ops Q (o :: rest) a w := by
  refine wpList_plain hg fun K' hK' => ?_
  unfold Oper.wp
  simp [execOp, hop, resolve, invoke, builtin, hs, hx, hrun, Result.andThen]
  exact hK' _ _ hK

set_option maxHeartbeats 2000000 in
set_option maxRecDepth 100000 in
theorem grow_any (n : Nat) (h0 : 0 < n) (h1 : n ≤ 100000) (w : World) : Calls Tryd.prog 69 #[.slice none 0 0, .int .i64 (n : Int)] w fun e w' => ∃ v', e = .returned v' ∧ Rw w' 30 5 v' 0 (rfs []) ∧ v'.ownBlock = some w.heap.size ∧ Below w.heap.size w w' := by
  obtain ⟨i0, hi, hz0, hz1, hz2⟩ := info_parts infoRef
  have hrz := fun ty => Lib.run_append_grow_zeros w 22 3 ty 30 i0 _ .i64 .i64 Tryd.underlying22 Tryd.underlying3 hi hz0 none 0 0 [] (run_firstCells_none w.drew i0.size 0 0 0) n h0 (by omega) (by omega) (by omega) (by rw [hz2]; omega) (by rw [hz2]; exact growslice_fits (by omega) (by omega))
  rw [Nat.zero_add] at hrz
  have hGn : n ≤ grownCap w n 0 30 := grownCap_ge w _ _ _
  have hG63 := grownCap_le_maxLen w n 0 30 (by unfold maxLen; omega)
  generalize grownCap w n 0 30 = G at hrz hGn hG63
  obtain ⟨ROW, hROW⟩ : ∃ R : Array Value, R = ([] : List Value).toArray ++ Builtin.zeroCells (Value.agg #[.int .i64 0, .int .i64 0, .int .u64 0, .int .i64 0, .int .u64 0]).cells n ++ Builtin.zeroCells (Value.agg #[.int .i64 0, .int .i64 0, .int .u64 0, .int .i64 0, .int .u64 0]).cells (G - n) := ⟨_, rfl⟩
  rw [← hROW] at hrz
  have hRs : ROW.size = G * 5 := by
    rw [hROW, Array.size_append, Array.size_append, size_zeroCells, size_zeroCells]
    simp [Value.cells]
    omega
  have I1 := hide (IsB.new w.drew ROW 30)
  have B1 : Hid (Below w.heap.size w (w.drew.alloc (.cells ROW 30))) := ((Below.refl w.heap.size w).drew).alloc (Nat.le_refl _) _
  have HRW : Hid (Rw (w.drew.alloc (.cells ROW 30)) 30 5 (.slice (some ⟨w.heap.size, 0, none⟩) 0 G) 0 (rfs [])) := ⟨rfl, Or.inr ⟨w.heap.size, G, ROW, rfl, I1.out, Nat.zero_le _, hG63, by omega, by simp [rfs]⟩⟩
  have hG64 : G ≤ 9223372036854775807 := by unfold maxLen at hG63; omega
  clear hROW hRs hG63
  generalize w.drew.alloc (.cells ROW 30) = W1 at *
  have HZ := hide hrz
  clear hrz I1
  have d0 : decide ((n : Int) < 0) = false := by simp
  have d1 : decide (0 < (n : Int)) = true := by simp; omega
  go_enter Tryd.func69, Tryd.ntmps69
  go_wp2_with (at_builtin; refine wpList_append_z rfl (.tmp 20) (.tmp 21) 22 3 rfl _ _ (.slice (some ⟨w.heap.size, 0, none⟩) n G) W1 rfl rfl (HZ.out _) ?_)
  go_ret
  exact ⟨_, rfl, HRW.out, rfl, B1.out⟩

/-- Slices that are put one behind the other. -/
abbrev Ps := List (Option Addr × Nat × List Rf)
def psv (ps : Ps) : Array Value := (ps.map fun p => Value.slice p.1 p.2.2.length p.2.1).toArray
def catL (ps : Ps) (j : Nat) : List Rf := ((ps.take j).map (·.2.2)).flatten
theorem catL_next (ps : Ps) (j : Nat) (hj : j < ps.length) : catL ps (j + 1) = catL ps j ++ ps[j].2.2 := by
  unfold catL
  rw [List.take_succ_eq_append_getElem hj, List.map_append, List.flatten_append]
  simp
theorem catL_all (ps : Ps) (j : Nat) (hj : ps.length ≤ j) : catL ps j = (ps.map (·.2.2)).flatten := by
  unfold catL
  rw [List.take_of_length_le hj]
theorem catL_le (ps : Ps) (j : Nat) : (catL ps j).length ≤ ((ps.map (·.2.2)).flatten).length := by
  unfold catL
  conv => rhs; rw [← List.take_append_drop j ps, List.map_append, List.flatten_append, List.length_append]
  omega

set_option maxHeartbeats 4000000 in
set_option maxRecDepth 100000 in
theorem concat_any (S : Nat) (ps : Ps) (hp : ps.length ≤ 100) (h0 : 0 < ((ps.map (·.2.2)).flatten).length) (h1 : ((ps.map (·.2.2)).flatten).length ≤ 100000) (w : World) (hS : IsB w S (psv ps) 22) (hr : ∀ p ∈ ps, RSl w (.slice p.1 p.2.2.length p.2.1) p.2.2) :
    Calls Tryd.prog 49 #[.slice (some ⟨S, 0, none⟩) ps.length ps.length] w fun e w' => ∃ v', e = .returned v' ∧ Rw w' 30 5 v' ((ps.map (·.2.2)).flatten).length (rfs ((ps.map (·.2.2)).flatten)) ∧ (∀ k, v'.ownBlock = some k → w.heap.size ≤ k) ∧ Below w.heap.size w w' := by
  have HS := hide hS
  have HR := hide hr
  have hcell : ∀ j (hj : j < ps.length), w.cell? ⟨S, j, none⟩ = some (.slice ps[j].1 ps[j].2.2.length ps[j].2.1) := fun j hj => by
    rw [hS.cell j]
    simp [psv, hj]
  have HC := hide hcell
  have HLE : Hid (∀ j, (catL ps j).length ≤ 100000) := fun j => Nat.le_trans (catL_le ps j) h1
  have HAL := hide (catL_all ps)
  have H0 := hide h0
  have H1 := hide h1
  clear hS hr hcell h0 h1
  generalize hn : ps.length = n at hp ⊢
  replace hn := hide hn
  go_enter Tryd.func49, Tryd.ntmps49
  go_wp2
  go_loopw [11, 3] (fun i s wr => ∃ j : Nat, j ≤ n ∧ i = .int .i64 (j : Int) ∧ s = .int .i64 ((catL ps j).length : Int) ∧ wr = w) (fun i _ _ => n - (intOf i).toNat)
  case atStart => exact ⟨0, by omega, rfl, rfl, rfl⟩
  case round =>
    obtain ⟨j, hj, rfl, rfl, hwr⟩ := hrel
    rw [hwr]
    clear hwr wr
    by_cases hlt : j < n
    · have hjl : j < ps.length := by rw [hn.out]; exact hlt
      have c0 := HC.out j hjl
      have HNX := catL_next ps j hjl
      have hl1 := HLE.out (j + 1)
      have HNL : Hid ((catL ps (j + 1)).length = (catL ps j).length + ps[j].2.2.length) := by show _ = _; rw [HNX, List.length_append]
      rw [HNX, List.length_append] at hl1
      clear HNX
      generalize ps[j].1 = pa at *
      generalize ps[j].2.1 = pc at *
      generalize ps[j].2.2.length = pn at *
      generalize (catL ps j).length = A at *
      have hw := wrap_small ((A : Int) + (pn : Int)) (by omega) (by omega)
      have hd : decide ((A : Int) + (pn : Int) < 0) = false := by simp; omega
      go_wp2
      exact ⟨⟨j + 1, by omega, by simp, by rw [HNL.out]; simp, by trivial⟩, by simp [intOf]; omega⟩
    · have hjn : j = n := by omega
      subst hjn
      have hal := HAL.out j (by rw [hn.out]; exact Nat.le_refl _)
      have hpos : 0 < (catL ps j).length := by rw [hal]; exact H0.out
      have hle := HLE.out j
      have GW := hide (grow_any (catL ps j).length hpos hle w)
      clear hal
      generalize (catL ps j).length = A at *
      go_wp2_with fail
      refine GW.out.mono ?_
      rintro e w2 ⟨v2, rfl, hrw, hob, hb⟩
      have R2 : Hid (Rw w2 30 5 v2 (catL ps 0).length (rfs (catL ps 0))) := hrw
      have N2 : Hid (∀ k, v2.ownBlock = some k → w.heap.size ≤ k) := fun k hk => by rw [hob] at hk; injection hk with hk; omega
      have B2 := hide hb
      clear hrw hob hb GW
      go_wp2
      go_loopw [27, 6] (fun i s wq => ∃ q : Nat, ∃ v, q ≤ j ∧ i = .int .i64 (q : Int) ∧ v = s ∧ Hid (Rw wq 30 5 v (catL ps q).length (rfs (catL ps q))) ∧ Hid (∀ k, v.ownBlock = some k → w.heap.size ≤ k) ∧ Hid (Below w.heap.size w wq)) (fun i _ _ => j - (intOf i).toNat)
      case atStart => exact ⟨0, v2, by omega, rfl, rfl, R2.out, N2.out, B2.out⟩
      case round =>
        obtain ⟨q, v, hq, rfl, rfl, HRW, HNW, HBW⟩ := hrel
        by_cases hlt2 : q < j
        · have hql : q < ps.length := by rw [hn.out]; exact hlt2
          have c0 := (HBW.out.cell (lt_of_cell (HC.out q hql))).trans (HC.out q hql)
          have hrs := (HR.out _ (List.getElem_mem hql)).below HBW.out
          have hl1 := HLE.out (q + 1)
          have hnx := catL_next ps q hql
          rw [hnx, List.length_append] at hl1
          obtain ⟨i0, hi, hz0, hz1, hz2⟩ := info_parts infoRef
          obtain ⟨v5, w5, hr5, hrw5, hg5, hat5, -⟩ := run_append_rw (P := Tryd.prog) wr 22 22 30 i0 _ 5 40 Tryd.underlying22 hi hz0 hz1 hz2 rfl v _ _ HRW.out
            (.slice ps[q].1 ps[q].2.2.length ps[q].2.1) ps[q].2.2.length (rfs ps[q].2.2) (rfs_len _) hrs.src (rfs_one _) (by unfold maxLen; omega) (by omega)
          rw [← List.length_append, ← rfs_app, ← hnx] at hrw5
          have R5 := hide hrw5
          have N5 : Hid (∀ k, v5.ownBlock = some k → w.heap.size ≤ k) := fun k hk => by
            rcases hat5 with e | e
            · rw [e] at hk; exact HNW.out k hk
            · rw [e] at hk; injection hk with hk; have := HBW.out.size; omega
          have B5 := hide (HBW.out.grown hg5 HBW.out.size (fun k hk => HNW.out k hk))
          have A5 := hide hr5
          obtain ⟨va, vc, rfl, -, -⟩ := HRW.out.shape
          clear hr5 hrw5 hg5 hat5 hrs hl1 hnx HRW HNW HBW
          generalize ps[q].1 = pa at *
          generalize ps[q].2.1 = pc at *
          generalize ps[q].2.2.length = pn at *
          generalize (catL ps q).length = A2 at *
          go_wp2_with (at_builtin; refine wpList_append_eq rfl (.tmp 31) (.tmp 32) 22 rfl _ _ v5 w5 rfl rfl A5.out ?_)
          exact ⟨⟨q + 1, v5, by omega, by simp, rfl, R5.out, N5.out, B5.out⟩, by simp [intOf]; omega⟩
        · have hqj : q = j := by omega
          have hal := HAL.out q (by rw [hn.out]; omega)
          rw [hal] at HRW
          go_wp2
          go_ret
          exact ⟨_, rfl, HRW.out, HNW.out, HBW.out⟩

end Go.Proofs.YtfcmmchppcffmaaDoor
