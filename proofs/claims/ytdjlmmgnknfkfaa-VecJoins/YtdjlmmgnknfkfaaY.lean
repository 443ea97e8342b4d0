/- Walks: vectors one behind the other, by the document's answer; and none of them. -/
import Derived.Test.YtdjlmmgnknfkfaaT
import Derived.Deep.AppendLies
namespace Go.Proofs.Ytdjlmmgnknfkfaa
open Go.RowKit

set_option maxHeartbeats 400000 in
theorem vJoin_nil (a : Option Addr) (cap : Nat) (w : World) :
    Calls Try.prog 20 #[.slice a 0 cap] w fun e w' => e = .returned (jnV (jnE [])) ∧ Below w.heap.size w w' := by
  go_enter Try.func20, Try.ntmps20
  go_wp2
  go_loopw [12] (fun i wr => i = .int .i64 0 ∧ Is2 wr w.heap.size (.int .i64 0) (.int .u64 0) ∧ Below w.heap.size w wr)
    (fun _ _ => 0)
  case atStart => exact ⟨rfl, Is2.new w _ _, (Below.refl _ _).alloc (Nat.le_refl _) _⟩
  case round =>
    obtain ⟨rfl, I0, hbw⟩ := hrel
    have hz := I0.lt
    replace I0 := hide I0
    go_wp2
    have A0 := hide (I0.out.alloc (.cells #[.int .i64 0, .int .u64 0] 24))
    have A1 := hide (Is2.new wr (.int .i64 0) (.int .u64 0))
    have AB := hide (hbw.alloc hbw.size (.cells #[.int .i64 0, .int .u64 0] 24))
    clear I0 hbw
    generalize wr.alloc (.cells #[.int .i64 0, .int .u64 0] 24) = wa at *
    have hwA2 : w.heap.size ≠ wr.heap.size := Nat.ne_of_lt hz
    clear hz
    generalize wr.heap.size = A at *
    go_loopw [26] (fun i w2 => i = .int .i64 0 ∧ Is2 w2 w.heap.size (.int .i64 0) (.int .u64 0) ∧ Is2 w2 A (.int .i64 0) (.int .u64 0) ∧ Below w.heap.size w w2)
      (fun _ _ => 0)
    case atStart => exact ⟨rfl, A0.out, A1.out, AB.out⟩
    case round =>
      clear A0 A1 AB
      obtain ⟨rfl, I0, I1, hbw⟩ := hrel
      obtain ⟨a0, a1, a2, a3⟩ := I0.c
      obtain ⟨b0, b1, b2, b3⟩ := I1.c
      obtain ⟨k0, k1, -, -⟩ := ((I0.set0 (.int .i64 0)).set1 (.int .u64 0)).c
      have K0 := hide k0
      have K1 := hide k1
      clear I0 I1 k0 k1
      go_wp2
      exact bodyPost_ret (v := .tuple #[(.agg #[.int .i64 (0), .int .u64 (0)]), .int .i64 0]) (by simp [results, Try.results20, go_sem, K0.out, K1.out]) rfl ⟨rfl, (hbw.setCell (by simp) _).setCell (by simp) _⟩

set_option maxHeartbeats 400000 in
theorem rJoin_nil (a : Option Addr) (cap : Nat) (w : World) :
    Calls Try.prog 21 #[.slice a 0 cap] w fun e w' => e = .returned (jnV (jnE [])) ∧ Below w.heap.size w w' := by
  go_enter Try.func21, Try.ntmps21
  go_wp2
  go_loopw [5] (fun i wr => i = .int .i64 0 ∧ Is2 wr w.heap.size (.int .i64 0) (.int .u64 0) ∧ Below w.heap.size w wr)
    (fun _ _ => 0)
  case atStart => exact ⟨rfl, Is2.new w _ _, (Below.refl _ _).alloc (Nat.le_refl _) _⟩
  case round =>
    obtain ⟨rfl, I0, hbw⟩ := hrel
    replace I0 := hide I0
    go_wp2
    go_loopw [4, 6] (fun u i w2 => u = .slice none 0 0 ∧ i = .int .i64 0 ∧ Is2 w2 w.heap.size (.int .i64 0) (.int .u64 0) ∧ Below w.heap.size w w2)
      (fun _ _ _ => 0)
    case atStart => exact ⟨rfl, rfl, I0.out, hbw⟩
    case round =>
      clear I0 hbw
      obtain ⟨rfl, rfl, I0, hbw⟩ := hrel
      replace I0 := hide I0
      go_wp2_with fail
      refine (of_nil _).mono ?_; rintro e w3 ⟨rfl, hb3⟩
      have J0 := I0.out.below hb3
      obtain ⟨a0, a1, a2, a3⟩ := J0.c
      obtain ⟨k0, k1, -, -⟩ := ((J0.set0 (.int .i64 0)).set1 (.int .u64 0)).c
      have K0 := hide k0
      have K1 := hide k1
      clear J0 k0 k1
      go_wp2
      exact bodyPost_ret (v := .tuple #[(.agg #[.int .i64 (0), .int .u64 (0)]), .int .i64 0]) (by simp [results, Try.results21, go_sem, K0.out, K1.out]) rfl ⟨rfl, ((hbw.trans (hb3.mono hbw.size)).setCell (by simp) _).setCell (by simp) _⟩

theorem row_slice {w : World} {B e s n : Nat} {v : Value} {xs : List Value} (h : w.ownsRow B e s v n xs) : ∃ a cap, v = .slice a n cap := by
  rcases h.2 with ⟨rfl, rfl⟩ | ⟨g, cap, cur, rfl, -⟩
  · exact ⟨_, _, rfl⟩
  · exact ⟨_, _, rfl⟩

set_option maxHeartbeats 2000000 in
theorem rJoin_any (g o len cap : Nat) (l : List (Int × Int)) (w : World) (hl : l.length = len) (hlen : len ≤ 1000) (hg : g < w.heap.size) (hrow : VRow w g o l) (hpos : ∀ v ∈ l, 0 ≤ v.2) :
    Calls Try.prog 21 #[.slice (some ⟨g, o, none⟩) len cap] w fun e w' => e = .returned (jnV (jnE l)) ∧ Below w.heap.size w w' := by
  obtain ⟨ii, hi, hz0', hz1, hz2⟩ := info_parts Try.info3
  have HR := hide hrow
  have HP := hide hpos
  clear hrow hpos
  go_enter Try.func21, Try.ntmps21
  go_wp2
  go_loopw [5] (fun i wr => ∃ k : Nat, k ≤ len ∧ i = .int .i64 (k : Int) ∧ (l.take k).all (fun v => rt v.1 v.2) = true ∧ Is2 wr w.heap.size (.int .i64 0) (.int .u64 0) ∧ Below w.heap.size w wr)
    (fun i _ => len - (intOf i).toNat)
  case atStart => exact ⟨0, by omega, rfl, by simp, Is2.new w _ _, (Below.refl _ _).alloc (Nat.le_refl _) _⟩
  case round =>
    obtain ⟨k, hk, rfl, hall, I0, hbw⟩ := hrel
    have HA := hide hall
    have hz := I0.lt
    replace I0 := hide I0
    clear hall
    by_cases hlt : k < len
    · have hcl := HR.out k (by omega)
      have c0 : wr.cell? ⟨g, o + k * 2, none⟩ = some (.int .i64 (l.getD k (0, 0)).1) := (hbw.cell (p := ⟨g, o + k * 2, none⟩) hg).trans hcl.1
      have c1 : wr.cell? ⟨g, o + k * 2 + 1, none⟩ = some (.int .u64 (l.getD k (0, 0)).2) := (hbw.cell (p := ⟨g, o + k * 2 + 1, none⟩) hg).trans hcl.2
      have i1 : (k : Int) < len := by omega
      have i2 : (0 : Int) ≤ k := by omega
      clear hcl
      generalize hv : l.getD k (0, 0) = v at *
      obtain ⟨m, c⟩ := v
      simp only at c0 c1
      have HV := hide hv
      clear hv
      have hts : l.take (k + 1) = l.take k ++ [(m, c)] := by
        rw [← HV.out, List.take_succ_eq_append_getElem (by omega)]; simp [show k < l.length from by omega]
      have HT := hide hts
      have HM : Hid ((m, c) ∈ l) := by
        show _ ∈ _
        rw [← HV.out]; simp [show k < l.length from by omega]
      clear hts
      go_wp2_with fail
      refine (rright_any _ _ _).mono ?_; rintro e w1 ⟨rfl, hb1⟩
      have J0 := I0.out.below hb1
      have HF := hide (hbw.trans (hb1.mono hbw.size))
      obtain ⟨q0, q1, q2, q3⟩ := J0.c
      cases hr : rt m c with
      | true =>
        have JJ := hide J0
        clear J0 hb1 hbw
        go_wp2
        refine ⟨⟨k + 1, by omega, by simp, ?_, JJ.out, HF.out⟩, ?_⟩
        · rw [HT.out, List.all_append, HA.out]; simp [hr]
        · simp [intOf]; omega
      | false =>
        obtain ⟨k0, k1, -, -⟩ := ((J0.set0 (.int .i64 0)).set1 (.int .u64 0)).c
        have K0 := hide k0
        have K1 := hide k1
        have E : Hid (jnE l = (0, 0, 10)) := by
          show _ = _
          unfold jnE
          rw [if_neg]
          intro h
          have := List.all_eq_true.1 h _ HM.out
          rw [hr] at this; cases this
        clear J0 hb1 hbw k0 k1
        go_wp2
        exact bodyPost_ret (v := .tuple #[(.agg #[.int .i64 (0), .int .u64 (0)]), .int .i64 10]) (by simp [results, Try.results21, go_sem, K0.out, K1.out]) rfl ⟨by rw [E.out]; rfl, (HF.out.setCell (by simp) _).setCell (by simp) _⟩
    · have ek : l.take k = l := List.take_of_length_le (by omega)
      rw [ek] at HA
      have E : Hid (jnE l = jnGo (l.drop 0) 0 0) := by show _ = _; unfold jnE; rw [if_pos HA.out]; rfl
      have HA2 : Hid (∀ v ∈ l, rt v.1 v.2 = true) := List.all_eq_true.1 HA.out
      clear ek HA
      go_wp2
      clear hlt hk
      go_loopw [4, 6] (fun u i w2 => ∃ (k : Nat) (ds : List Nat), k ≤ len ∧ ds.length ≤ 32 ∧ (∀ x ∈ ds, x ≤ 1) ∧ i = .int .i64 (k : Int) ∧ jnE l = jnGo (l.drop k) ds.length (ofl ds) ∧ Is2 w2 w.heap.size (.int .i64 0) (.int .u64 0) ∧ w2.ownsRow (w.heap.size + 1) 3 1 u ds.length (ds.map cell) ∧ Below w.heap.size w w2)
        (fun _ i _ => len - (intOf i).toNat)
      case atStart =>
        exact ⟨0, [], by omega, by simp, by simp, rfl, E.out, I0.out, World.ownsRow_nil _ _ _ _, hbw⟩
      case round =>
        clear E I0 hbw hz
        obtain ⟨k, ds, hk, hdl, hds, rfl, hE, I0, hown, hbw⟩ := hrel
        have E := hide hE
        have HDS := hide hds
        have hz0 := I0.lt
        replace I0 := hide I0
        clear hE hds
        by_cases hlt : k < len
        · have hcl := HR.out k (by omega)
          have c0 : wr.cell? ⟨g, o + k * 2, none⟩ = some (.int .i64 (l.getD k (0, 0)).1) := (hbw.cell (p := ⟨g, o + k * 2, none⟩) hg).trans hcl.1
          have c1 : wr.cell? ⟨g, o + k * 2 + 1, none⟩ = some (.int .u64 (l.getD k (0, 0)).2) := (hbw.cell (p := ⟨g, o + k * 2 + 1, none⟩) hg).trans hcl.2
          have hd := drop_getD l k (by omega)
          rw [hd] at E
          have hr := HA2.out (l.getD k (0, 0)) (by simp [show k < l.length from by omega])
          have hp := HP.out (l.getD k (0, 0)) (by simp [show k < l.length from by omega])
          have i1 : (k : Int) < len := by omega
          have i2 : (0 : Int) ≤ k := by omega
          clear hcl hd
          generalize l.getD k (0, 0) = v at *
          obtain ⟨m, c⟩ := v
          simp only at c0 c1 hr hp
          obtain ⟨m, c, rfl, rfl, hm, hc⟩ := rt_nat hr hp
          have HC := hide hc
          have hpp := p32 m hm
          have hc2 : c < 18446744073709551616 := by omega
          clear hr hp hc hpp
          go_wp2_with fail
          refine (bits_any _ _ (by omega) hc2 _).mono ?_; rintro e w3 ⟨g2, rfl, hg2, hown2, hb3⟩
          have J0 := hide (I0.out.below hb3)
          have hown3 := ownsRow_below hown hb3
          have HF := hide (hbw.trans (hb3.mono hbw.size))
          clear hown hbw hb3
          have hro := row_of hown2
          have hlm : (bl m c).length = m := bl_length m c
          have HRW := hide hro.2.1
          have HGL := hide (ownsRow_below hown3 (Below.refl _ _))
          have HDL : Hid ((ds ++ bl m c).length = ds.length + m) := by show _ = _; rw [List.length_append, bl_length]
          have HOF : Hid (ofl (ds ++ bl m c) = jn (ofl ds) m c) := by show _ = _; rw [ofl_append, bl_length, ofl_bl m c HC.out]; rfl
          clear hro
          go_wp2_with (at_builtin; refine wpList_append_own _ rfl _ _ 63 rfl (w.heap.size + 1) 3 ii (.int .i64 0) 1 8 Try.underlying63 hi hz0' hz1 hz2 rfl (by decide) _ _ _ rfl hown3 ⟨g2, 0, none⟩ m m ((bl m c).map cell) rfl (by simp [hlm]) ?c1 ?c2 ?c3 ?c4 ?c5 ?_)
          case c1 =>
            intro j u hj
            rw [List.getElem?_map] at hj
            cases hx : (bl m c)[j]? with
            | none => rw [hx] at hj; cases hj
            | some y =>
              rw [hx] at hj
              simp only [Option.map_some, Option.some.injEq] at hj
              subst hj
              have hjl : j < (bl m c).length := (List.getElem?_eq_some_iff.1 hx).1
              have h1 := HRW.out j hjl
              rw [Nat.zero_add] at h1
              have e : (bl m c).getD j 0 = y := by simp [hx]
              rw [e] at h1
              have e2 : (⟨g2, 0, none⟩ : Addr).add j = ⟨g2, j, none⟩ := by simp [Addr.add]; omega
              rw [e2]; exact h1
          case c2 => intro u hu; obtain ⟨y, -, rfl⟩ := List.mem_map.1 hu; rfl
          case c3 => unfold maxLen; omega
          case c4 => omega
          case c5 => have := J0.out.lt; omega
          intro v' w4 hown' hgrow _
          have em : ds.map cell ++ (bl m c).map cell = (ds ++ bl m c).map cell := by simp
          rw [em] at hown'
          have hdb : ∀ q, u4.ownBlock = some q → w.heap.size + 1 ≤ q := fun q hq => (hown3.lt q hq).1
          have J1 : Is2 w4 w.heap.size (.int .i64 0) (.int .u64 0) := by
            have h1 := J0.out
            show w4.heap[w.heap.size]? = _
            rw [hgrow.block _ h1.lt (by intro h; have := hdb _ h.symm; omega)]
            exact h1
          have HF2 := hide (HF.out.grown hgrow HF.out.size (fun q hq => by have := hdb q hq; omega))
          obtain ⟨ao, capo, rfl⟩ := row_slice hown'
          obtain ⟨a0, a1, a2, a3⟩ := J1.c
          clear hown3 hgrow HGL hdb em
          by_cases hbig : 32 < ds.length + m
          · have E2 : Hid (jnE l = (0, 0, 2)) := E.out.trans (if_pos (by simpa using hbig))
            have i3 : (32 : Int) < (ds.length : Int) + m := by omega
            obtain ⟨k0, k1, -, -⟩ := ((J1.set0 (.int .i64 0)).set1 (.int .u64 0)).c
            have K0 := hide k0
            have K1 := hide k1
            clear k0 k1 E J1 hown'
            go_wp2
            exact bodyPost_ret (v := .tuple #[(.agg #[.int .i64 (0), .int .u64 (0)]), .int .i64 2]) (by simp [results, Try.results21, go_sem, K0.out, K1.out]) rfl ⟨by rw [E2.out]; rfl, (HF2.out.setCell (by simp) _).setCell (by simp) _⟩
          · have E2 : Hid (jnE l = jnGo (l.drop (k + 1)) (ds.length + m) (jn (ofl ds) m c)) := E.out.trans (if_neg (by simpa using hbig))
            have i3 : (ds.length : Int) + m ≤ 32 := by omega
            have J2 := hide J1
            have HO := hide hown'
            clear E J1 hown'
            go_wp2
            refine ⟨⟨k + 1, ds ++ bl m c, by omega, ?_, ?_, by simp, ?_, J2.out, ?_, HF2.out⟩, ?_⟩
            · rw [HDL.out]; omega
            · intro x hx
              rcases List.mem_append.1 hx with h | h
              · exact HDS.out x h
              · exact bl_mem m c x h
            · rw [HDL.out, HOF.out]; exact E2.out
            · rw [HDL.out]; exact HO.out
            · simp [intOf]; omega
        · have E2 : Hid (jnE l = (ds.length, ofl ds, 0)) := by
            show _ = _
            rw [E.out, List.drop_eq_nil_of_le (by omega)]; rfl
          clear E
          rcases hown.2 with ⟨rfl, h0⟩ | ⟨g2, cap2, cur, rfl, -, -, -⟩
          · have hd0 : ds = [] := List.length_eq_zero_iff.1 h0
            subst hd0
            go_wp2_with fail
            refine (of_nil _).mono ?_; rintro e w3 ⟨rfl, hb3⟩
            have J0 := I0.out.below hb3
            obtain ⟨a0, a1, a2, a3⟩ := J0.c
            obtain ⟨k0, k1, -, -⟩ := ((J0.set0 (.int .i64 0)).set1 (.int .u64 0)).c
            have K0 := hide k0
            have K1 := hide k1
            clear J0 k0 k1 hown
            go_wp2
            exact bodyPost_ret (v := .tuple #[(.agg #[.int .i64 (0), .int .u64 (0)]), .int .i64 0]) (by simp [results, Try.results21, go_sem, K0.out, K1.out]) rfl ⟨by rw [E2.out]; rfl, ((hbw.trans (hb3.mono hbw.size)).setCell (by simp) _).setCell (by simp) _⟩
          · obtain ⟨-, hrw, hgl, -⟩ := row_of hown
            have HRW := hide hrw
            clear hrw hown
            go_wp2_with fail
            refine (of_any _ _ _ _ ds _ rfl (by omega) HDS.out hgl HRW.out).mono ?_; rintro e w3 ⟨rfl, hb3⟩
            have J0 := I0.out.below hb3
            obtain ⟨a0, a1, a2, a3⟩ := J0.c
            obtain ⟨k0, k1, -, -⟩ := ((J0.set0 (.int .i64 (ds.length : Int))).set1 (.int .u64 (ofl ds : Nat))).c
            have K0 := hide k0
            have K1 := hide k1
            clear J0 k0 k1
            go_wp2
            exact bodyPost_ret (v := .tuple #[(.agg #[.int .i64 ((ds.length : Int)), .int .u64 ((ofl ds : Nat))]), .int .i64 0]) (by simp [results, Try.results21, go_sem, K0.out, K1.out]) rfl ⟨by rw [E2.out]; rfl, ((hbw.trans (hb3.mono hbw.size)).setCell (by simp) _).setCell (by simp) _⟩

end Go.Proofs.Ytdjlmmgnknfkfaa
