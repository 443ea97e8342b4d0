/- Walks: a vector's text, by the document's answer. -/
import Derived.Test.YtdjlmmgnknfkfaaK
import Derived.Laws.IdiomStrings
import Derived.Deep.AppendLies
namespace Go.Proofs.Ytdjlmmgnknfkfaa
open Go.RowKit

theorem cells_byte (l : List UInt8) : Lib.byteCells l = l.map fun b => Value.int .u8 b.toNat := rfl

set_option maxHeartbeats 1000000 in
theorem rText_in (n b : Nat) (hn : n ≤ 32) (h0 : 0 < n) (hb : b < 2 ^ n) (w : World) :
    Calls Try.prog 29 #[(.agg #[.int .i64 ((n : Int)), .int .u64 ((b : Int))])] w fun e w' => e = .returned (.tuple #[.string ⟨(dig (bl n b)).toArray⟩, .int .i64 0]) ∧ Below w.heap.size w w' := by
  obtain ⟨i0, hi, hz0, hz1, hz2⟩ := info_parts Try.infoByte
  have hr : rt (n : Int) (b : Int) = true := rt_of n b hn hb
  have hp := p32 n hn
  have hb2 : b < 18446744073709551616 := by omega
  have j0 : ((n : Int) == 0) = false := by simp; omega
  clear hb hp
  go_enter Try.func29, Try.ntmps29
  go_wp2_with fail
  refine (rright_any _ _ _).mono ?_; rintro e w1 ⟨rfl, hb1⟩; obtain ⟨hc1, hf1⟩ := bcell hb1
  have HB := hide (bx hb1)
  go_wp2_with fail
  refine (bits_any _ _ (by omega) hb2 _).mono ?_; rintro e w2 ⟨g, rfl, hg, hown, hb3⟩
  obtain ⟨hlen, hrow, hgl, -⟩ := row_of hown
  replace HB := hide (bstep HB.out hb3)
  have HR := hide hrow
  clear hrow hc1 hf1 hb1 hb3 hown hr
  go_wp2
  go_loopw [4, 6] (fun v i wr => ∃ k : Nat, k ≤ n ∧ i = .int .i64 (k : Int) ∧ wr.ownsRow w2.heap.size 5 1 v k (Lib.byteCells (dig ((bl n b).take k))) ∧ Below w2.heap.size w2 wr)
    (fun _ i _ => n - (intOf i).toNat)
  case atStart => exact ⟨0, by omega, rfl, World.ownsRow_nil _ _ _ _, Below.refl _ _⟩
  case round =>
    obtain ⟨k, hk, rfl, hown, hbw⟩ := hrel
    by_cases hlt : k < n
    · have hx := bt_le n b k
      have hts : (bl n b).take (k + 1) = (bl n b).take k ++ [bt n b k] := by
        rw [List.take_succ_eq_append_getElem (by rw [bl_length]; exact hlt)]
        have := bl_get n b k hlt
        rw [List.getElem?_eq_getElem (by rw [bl_length]; exact hlt)] at this
        simp at this
        rw [this]
      have HC := hide (dig_cells_snoc ((bl n b).take k) (bt n b k) hx)
      rw [← hts] at HC
      have hcl := HR.out k (by rw [bl_length]; omega)
      have e : (bl n b).getD k 0 = bt n b k := by simp [bl_get _ _ _ hlt]
      rw [Nat.zero_add, e, cell] at hcl
      have hcl2 : wr.cell? ⟨g, k, none⟩ = some (.int .i64 (bt n b k : Nat)) := (hbw.cell (p := ⟨g, k, none⟩) hgl).trans hcl
      have i1 : (k : Int) < n := by omega
      have i2 : (0 : Int) ≤ k := by omega
      clear hts e hcl
      generalize bt n b k = x at *
      go_wp2_with (at_builtin; refine wpList_append_own _ rfl _ _ 73 rfl w2.heap.size 5 i0 (.int .u8 0) 1 1 Try.underlying73 hi hz0 hz1 hz2 rfl (by decide) _ _ _ rfl (hown.alloc _) ⟨wr.heap.size, 0, none⟩ 1 1 [.int .u8 (48 + (x : Int))] rfl rfl ?c1 ?c2 ?c3 ?c4 ?c5 ?_)
      case c1 =>
        intro j u hj
        match j, hj with
        | 0, hj => simp at hj; subst hj; simp [Addr.add]
      case c2 => intro u hu; simp at hu; subst hu; rfl
      case c3 => unfold maxLen; omega
      case c4 => omega
      case c5 => have := hbw.size; simp; omega
      intro v' w3 hown' hgrow _
      rw [← HC.out] at hown'
      have HB3 := hide ((hbw.alloc hbw.size _).grown hgrow (by have := hbw.size; simp; omega) (fun k hk => (hown.lt k hk).1))
      replace hown' := hide hown'
      clear hown hgrow hbw
      go_wp2
      exact ⟨⟨k + 1, by omega, by simp, hown'.out, HB3.out⟩, by simp [intOf]; omega⟩
    · have e : k = n := by omega
      subst e
      have e2 : (bl k b).take k = bl k b := List.take_of_length_le (by rw [bl_length]; omega)
      rw [e2] at hown
      obtain ⟨g2, cap, rfl, -, -⟩ := hown.form (by omega)
      have hrun : (convert 73 9 (.slice (some ⟨g2, 0, none⟩) k cap)).run Try.prog wr = .ok (.string ⟨(dig (bl k b)).toArray⟩) wr := by
        have hl : (dig (bl k b)).length = k := by simp [dig, bl_length]
        have := run_convert_bytes_back (P := Try.prog) wr 73 9 5 ⟨g2, 0, none⟩ cap (dig (bl k b)) Try.underlying73 Try.underlying5 Try.underlying9 (by
          intro j hj
          have h1 := hown.cells (g := g2) rfl j (.int .u8 ((dig (bl k b))[j].toNat : Int)) (by simp [Lib.byteCells, hj])
          exact h1)
        rw [hl] at this
        exact this
      go_wp2
      go_ret2
      exact ⟨rfl, bstep HB.out hbw⟩

set_option maxHeartbeats 400000 in
theorem rText_zero (w : World) :
    Calls Try.prog 29 #[(.agg #[.int .i64 (0), .int .u64 (0)])] w fun e w' => e = .returned (.tuple #[.string ⟨#[46]⟩, .int .i64 0]) ∧ Below w.heap.size w w' := by
  have hr : rt 0 0 = true := rt_of 0 0 (by omega) (by omega)
  go_enter Try.func29, Try.ntmps29
  go_wp2_with fail
  refine (rright_any _ _ _).mono ?_; rintro e w1 ⟨rfl, hb1⟩; obtain ⟨hc1, hf1⟩ := bcell hb1
  go_wp2
  go_ret2
  exact ⟨rfl, bx hb1⟩
set_option maxHeartbeats 400000 in
theorem rText_no (n b : Int) (h : rt n b = false) (w : World) :
    Calls Try.prog 29 #[(.agg #[.int .i64 (n), .int .u64 (b)])] w fun e w' => e = .returned (.tuple #[.string ⟨#[]⟩, .int .i64 10]) ∧ Below w.heap.size w w' := by
  go_enter Try.func29, Try.ntmps29
  go_wp2_with fail
  refine (rright_any _ _ _).mono ?_; rintro e w1 ⟨rfl, hb1⟩; obtain ⟨hc1, hf1⟩ := bcell hb1
  go_wp2
  go_ret2
  exact ⟨rfl, bx hb1⟩

theorem rText_any (n b : Int) (hb : 0 ≤ b) (w : World) :
    Calls Try.prog 29 #[(.agg #[.int .i64 (n), .int .u64 (b)])] w fun e w' => e = .returned (.tuple #[.string (txS n b), .int .i64 (reS n b)]) ∧ Below w.heap.size w w' := by
  cases h : rt n b with
  | false =>
    have e : txS n b = ⟨#[]⟩ := if_neg (by simp [h])
    rw [e, reS_no h]; exact rText_no n b h w
  | true =>
    obtain ⟨m, c, rfl, rfl, hm, hc⟩ := rt_nat h hb
    have e : txS (m : Int) (c : Int) = ⟨(tx m c).toArray⟩ := if_pos h
    rw [e, reS_yes h]
    by_cases h0 : m = 0
    · subst h0
      have hc0 : c = 0 := by simp at hc; omega
      subst hc0
      exact rText_zero w
    · have e2 : tx m c = dig (bl m c) := if_neg h0
      rw [e2]
      exact rText_in m c hm (by omega) hc w

theorem ofl_lt60 (l : List Nat) (h : ∀ x ∈ l, x ≤ 1) (hl : l.length ≤ 32) : ofl l < 4294967296 := by
  have h1 := ofl_lt l h
  have h2 := p32 l.length hl
  omega

set_option maxHeartbeats 2000000 in
theorem rRead_any (s : ByteArray) (hs : s.size ≤ 1000) (w : World) :
    Calls Try.prog 31 #[.string s] w fun e w' => e = .returned (rdV (rdE (bs s))) ∧ Below w.heap.size w w' := by
  by_cases h0 : s.size = 0
  · rw [bs_zero s h0]
    have g := empty_yes s h0
    go_enter Try.func31, Try.ntmps31
    go_wp2
    exact bodyPost_ret (v := .tuple #[(.agg #[.int .i64 (0), .int .u64 (0)]), .int .i64 0, .int .i64 10]) (by simp [results, Try.results31, go_sem]) rfl ⟨rfl, (Below.refl _ _).alloc (Nat.le_refl _) _⟩
  · have h0' : 0 < s.size := by omega
    have g := empty_no s h0'
    have i0 : (0 : Int) < s.size := by omega
    by_cases h1 : s[0].toNat = 46
    · have h1b : ((s[0].toNat : Int) == 46) = true := by simp; omega
      by_cases h2 : 1 < s.size
      · have E : Hid (rdE (bs s) = (0, 0, 1, 10)) := by
          show _ = _
          rw [bs_cons s h0', rdE, if_pos h1, if_neg]
          intro h
          have := congrArg List.length h
          rw [List.length_drop, bs_length] at this
          simp at this; omega
        clear h1
        go_enter Try.func31, Try.ntmps31
        go_wp2
        exact bodyPost_ret (v := .tuple #[(.agg #[.int .i64 (0), .int .u64 (0)]), .int .i64 1, .int .i64 10]) (by simp [results, Try.results31, go_sem]) rfl ⟨by rw [E.out]; rfl, (Below.refl _ _).alloc (Nat.le_refl _) _⟩
      · have E : Hid (rdE (bs s) = (0, 0, 0, 0)) := by
          show _ = _
          rw [bs_cons s h0', rdE, if_pos h1, if_pos (bs_end s 1 (by omega))]
        clear h1
        go_enter Try.func31, Try.ntmps31
        go_wp2
        exact bodyPost_ret (v := .tuple #[(.agg #[.int .i64 (0), .int .u64 (0)]), .int .i64 0, .int .i64 0]) (by simp [results, Try.results31, go_sem]) rfl ⟨by rw [E.out]; rfl, (Below.refl _ _).alloc (Nat.le_refl _) _⟩
    · have h1b : ((s[0].toNat : Int) == 46) = false := by simp; omega
      have E : Hid (rdE (bs s) = rdGo ((bs s).drop 0) 0 0) := by
        show _ = _
        rw [List.drop_zero]
        conv => lhs; rw [bs_cons s h0', rdE, if_neg h1]
        rw [← bs_cons s h0']
      clear h1
      obtain ⟨ii, hi, hz0, hz1, hz2⟩ := info_parts Try.info3
      go_enter Try.func31, Try.ntmps31
      go_wp2
      go_loopw [5, 6] (fun v i wr => ∃ (k : Nat) (ds : List Nat), k ≤ s.size ∧ k ≤ 32 ∧ ds.length = k ∧ (∀ x ∈ ds, x ≤ 1) ∧ i = .int .i64 (k : Int) ∧ rdE (bs s) = rdGo ((bs s).drop k) k (ofl ds) ∧ Is2 wr w.heap.size (.int .i64 0) (.int .u64 0) ∧ wr.ownsRow (w.heap.size + 1) 3 1 v k (ds.map cell) ∧ Below w.heap.size w wr)
        (fun _ i _ => s.size - (intOf i).toNat)
      case atStart =>
        exact ⟨0, [], by omega, by omega, rfl, by simp, rfl, E.out, Is2.new w _ _, World.ownsRow_nil _ _ _ _, (Below.refl _ _).alloc (Nat.le_refl _) _⟩
      case round =>
        clear E
        obtain ⟨k, ds, hk, hk2, hdl, hds, rfl, hE, I0, hown, hbw⟩ := hrel
        have E := hide hE
        have HD := hide hdl
        have HDS := hide hds
        obtain ⟨a0, a1, a2, a3⟩ := I0.c
        have hz := I0.lt
        replace I0 := hide I0
        clear hE hdl hds
        by_cases hlt : k < s.size
        · have hd := bs_drop s k hlt
          rw [hd] at E
          have i1 : (k : Int) < s.size := by omega
          have i2 : (0 : Int) ≤ k := by omega
          clear hd
          by_cases hbad : k = 32 ∨ ¬ (s[k].toNat = 48 ∨ s[k].toNat = 49)
          · have E2 : Hid (rdE (bs s) = (0, 0, k, 10)) := E.out.trans (rdGo_bad _ _ _ _ hbad)
            obtain ⟨k0, k1, -, -⟩ := ((I0.out.set0 (.int .i64 0)).set1 (.int .u64 0)).c
            have K0 := hide k0
            have K1 := hide k1
            clear k0 k1 E
            by_cases h32 : k = 32
            · have j1 : (32 : Int) ≤ (k : Int) := by omega
              clear hbad h32
              go_wp2
              exact bodyPost_ret (v := .tuple #[(.agg #[.int .i64 (0), .int .u64 (0)]), .int .i64 (k : Int), .int .i64 10]) (by simp [results, Try.results31, go_sem, K0.out, K1.out]) rfl ⟨by rw [E2.out]; rfl, (hbw.setCell (by simp) _).setCell (by simp) _⟩
            · have j1 : ¬ (32 : Int) ≤ (k : Int) := by omega
              have j2 : ((s[k].toNat : Int) != 48) = true := by rw [bne_iff_ne]; omega
              have j3 : ((s[k].toNat : Int) != 49) = true := by rw [bne_iff_ne]; omega
              clear hbad h32
              go_wp2
              exact bodyPost_ret (v := .tuple #[(.agg #[.int .i64 (0), .int .u64 (0)]), .int .i64 (k : Int), .int .i64 10]) (by simp [results, Try.results31, go_sem, K0.out, K1.out]) rfl ⟨by rw [E2.out]; rfl, (hbw.setCell (by simp) _).setCell (by simp) _⟩
          · have E2 : Hid (rdE (bs s) = rdGo ((bs s).drop (k + 1)) (k + 1) (ofl ds * 2 + (s[k].toNat - 48))) := E.out.trans (rdGo_good _ _ _ _ hbad)
            have j1 : ¬ (32 : Int) ≤ (k : Int) := by omega
            have hx : s[k].toNat = 48 ∨ s[k].toNat = 49 := by omega
            have hk3 : k < 32 := by omega
            clear E hbad
            have E3 : ∀ d, s[k].toNat = 48 + d → Hid (rdE (bs s) = rdGo ((bs s).drop (k + 1)) (k + 1) (ofl ds * 2 + d)) := by
              intro d hd
              show _ = _
              rw [E2.out, hd]; simp
            clear E2
            rcases hx with hx | hx
            · have E4 := E3 0 hx
              clear E3
              have z1 : IntKind.u8.wrap 0 = 0 := by decide
              go_wp2_with (at_builtin; refine wpList_append_own _ rfl _ _ 63 rfl (w.heap.size + 1) 3 ii (.int .i64 0) 1 8 Try.underlying63 hi hz0 hz1 hz2 rfl (by decide) _ _ _ rfl (hown.alloc _) ⟨wr.heap.size, 0, none⟩ 1 1 [cell 0] rfl rfl ?c1 ?c2 ?c3 ?c4 ?c5 ?_)
              case c1 =>
                intro j u hj
                match j, hj with
                | 0, hj => simp at hj; subst hj; simp [cell]
              case c2 => rfl
              case c3 => unfold maxLen; omega
              case c4 => omega
              case c5 => omega
              intro v' w3 hown' hgrow _
              have e : ds.map cell ++ [cell 0] = (ds ++ [0]).map cell := by simp
              rw [e] at hown'
              have HB3 := hide ((hbw.alloc hbw.size _).grown hgrow (by have := hbw.size; simp; omega) (fun k hk => by have := (hown.lt k hk).1; omega))
              have J0 : Hid (Is2 w3 w.heap.size (.int .i64 0) (.int .u64 0)) := by
                have h1 := I0.out.alloc (.cells #[.int .i64 0] 3)
                show w3.heap[w.heap.size]? = _
                rw [hgrow.block _ (by simp; omega) (by intro h; have := (hown.lt _ h.symm).1; omega)]
                exact h1
              replace hown' := hide hown'
              clear hown hgrow hbw e
              go_wp2
              refine ⟨⟨k + 1, ds ++ [0], by omega, by omega, ?_, ?_, by simp, ?_, J0.out, hown'.out, HB3.out⟩, ?_⟩
              · have := HD.out; simp; omega
              · intro x hx
                rcases List.mem_append.1 hx with h | h
                · exact HDS.out x h
                · simp at h; omega
              · rw [ofl_snoc]; exact E4.out
              · simp [intOf]; omega
            · have E4 := E3 1 hx
              clear E3
              have z1 : IntKind.u8.wrap 1 = 1 := by decide
              go_wp2_with (at_builtin; refine wpList_append_own _ rfl _ _ 63 rfl (w.heap.size + 1) 3 ii (.int .i64 0) 1 8 Try.underlying63 hi hz0 hz1 hz2 rfl (by decide) _ _ _ rfl (hown.alloc _) ⟨wr.heap.size, 0, none⟩ 1 1 [cell 1] rfl rfl ?c1 ?c2 ?c3 ?c4 ?c5 ?_)
              case c1 =>
                intro j u hj
                match j, hj with
                | 0, hj => simp at hj; subst hj; simp [cell]
              case c2 => rfl
              case c3 => unfold maxLen; omega
              case c4 => omega
              case c5 => omega
              intro v' w3 hown' hgrow _
              have e : ds.map cell ++ [cell 1] = (ds ++ [1]).map cell := by simp
              rw [e] at hown'
              have HB3 := hide ((hbw.alloc hbw.size _).grown hgrow (by have := hbw.size; simp; omega) (fun k hk => by have := (hown.lt k hk).1; omega))
              have J0 : Hid (Is2 w3 w.heap.size (.int .i64 0) (.int .u64 0)) := by
                have h1 := I0.out.alloc (.cells #[.int .i64 1] 3)
                show w3.heap[w.heap.size]? = _
                rw [hgrow.block _ (by simp; omega) (by intro h; have := (hown.lt _ h.symm).1; omega)]
                exact h1
              replace hown' := hide hown'
              clear hown hgrow hbw e
              go_wp2
              refine ⟨⟨k + 1, ds ++ [1], by omega, by omega, ?_, ?_, by simp, ?_, J0.out, hown'.out, HB3.out⟩, ?_⟩
              · have := HD.out; simp; omega
              · intro x hx
                rcases List.mem_append.1 hx with h | h
                · exact HDS.out x h
                · simp at h; omega
              · rw [ofl_snoc]; exact E4.out
              · simp [intOf]; omega
        · have E2 : Hid (rdE (bs s) = (k, ofl ds, 0, 0)) := by
            show _ = _
            rw [E.out, bs_end s k (by omega)]; rfl
          clear E
          obtain ⟨g2, cap, rfl, -, hgl⟩ := hown.form (by omega)
          obtain ⟨-, hrow, -, -⟩ := row_of hown
          have HR := hide hrow
          clear hown hrow
          go_wp2_with fail
          refine (of_any _ _ _ _ ds _ HD.out (by omega) HDS.out hgl HR.out).mono ?_; rintro e w3 ⟨rfl, hb4⟩
          have J0 := I0.out.below hb4
          obtain ⟨q0, q1, q2, q3⟩ := J0.c
          obtain ⟨k0, k1, -, -⟩ := ((J0.set0 (.int .i64 (k : Int))).set1 (.int .u64 (ofl ds : Nat))).c
          have K0 := hide k0
          have K1 := hide k1
          clear k0 k1 J0
          go_wp2
          exact bodyPost_ret (v := .tuple #[(.agg #[.int .i64 ((k : Int)), .int .u64 ((ofl ds : Nat))]), .int .i64 0, .int .i64 0]) (by simp [results, Try.results31, go_sem, K0.out, K1.out]) rfl ⟨by rw [E2.out]; rfl, ((hbw.trans (hb4.mono hbw.size)).setCell (by simp) _).setCell (by simp) _⟩

end Go.Proofs.Ytdjlmmgnknfkfaa
