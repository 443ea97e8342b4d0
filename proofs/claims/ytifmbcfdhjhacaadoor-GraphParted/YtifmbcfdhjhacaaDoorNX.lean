/- The document's Join. -/
import Derived.Test.YtifmbcfdhjhacaaDoorMZV
import Derived.Deep.AppendLies
namespace Go.Proofs.YtifmbcfdhjhacaaDoor
open Go.RowKit

def Iv2 (w : World) (b : Nat) (x y : Value) : Prop := w.heap[b]? = some (.cells #[x, y] 24 (0, 0))
theorem Iv2.lt {w : World} {b : Nat} {x y : Value} (h : Iv2 w b x y) : b < w.heap.size := by
  rcases Nat.lt_or_ge b w.heap.size with hlt | hge
  · exact hlt
  · unfold Iv2 at h; rw [Array.getElem?_eq_none hge] at h; cases h
theorem Iv2.c {w : World} {b : Nat} {x y : Value} (h : Iv2 w b x y) : w.cell? ⟨b, 0, none⟩ = some x ∧ w.cell? ⟨b, 1, none⟩ = some y ∧ w.frozen? ⟨b, 0, none⟩ = false ∧ w.frozen? ⟨b, 1, none⟩ = false :=
  ⟨by rw [cell_of_row w b 0 _ _ _ h]; rfl, by rw [cell_of_row w b 1 _ _ _ h]; rfl, frozen_of_row w b 0 _ _ h, frozen_of_row w b 1 _ _ h⟩
theorem Iv2.new (w : World) (x y : Value) : Iv2 (w.alloc (.cells #[x, y] 24)) w.heap.size x y := heap_alloc_new w _
theorem Iv2.alloc {w : World} {b : Nat} {x y : Value} (h : Iv2 w b x y) (o : Obj) : Iv2 (w.alloc o) b x y := by
  have := h.lt
  unfold Iv2 at *; rw [Below.heap_alloc _ _ _ this]; exact h
theorem Iv2.set0 {w : World} {b : Nat} {x y : Value} (h : Iv2 w b x y) (u : Value) : Iv2 (w.setCell ⟨b, 0, none⟩ u) b u y := heap_setCell_same w b 0 _ _ u h
theorem Iv2.set1 {w : World} {b : Nat} {x y : Value} (h : Iv2 w b x y) (u : Value) : Iv2 (w.setCell ⟨b, 1, none⟩ u) b x u := heap_setCell_same w b 1 _ _ u h
theorem Iv2.other {w : World} {b : Nat} {x y : Value} (h : Iv2 w b x y) (a : Addr) (u : Value) (hne : b ≠ a.block) : Iv2 (w.setCell a u) b x y := by
  unfold Iv2 at *; rw [heap_setCell_other w a b u hne]; exact h
theorem Iv2.drew {w : World} {b : Nat} {x y : Value} (h : Iv2 w b x y) : Iv2 w.drew b x y := h
theorem Iv2.drewN {w : World} {b : Nat} {x y : Value} (h : Iv2 w b x y) (n : Nat) : Iv2 (w.drewN n) b x y := h
theorem Iv2.below {w w' : World} {b : Nat} {x y : Value} (h : Iv2 w b x y) (hb : Below w.heap.size w w') : Iv2 w' b x y := (hb.block b h.lt).trans h

/-- What a slice of vectors holds. -/
def VRow (w : World) (g o : Nat) (l : List (Int × Int)) : Prop :=
  ∀ j, j < l.length → w.cell? ⟨g, o + j * 2, none⟩ = some (.int .i64 (l.getD j (0, 0)).1) ∧ w.cell? ⟨g, o + j * 2 + 1, none⟩ = some (.int .u64 (l.getD j (0, 0)).2)

/-- Vectors that may be, one behind the other, behind n bits b. -/
def jnGo : List (Int × Int) → Nat → Nat → Nat × Nat × Nat
  | [], n, b => (n, b, 0)
  | (m, c) :: t, n, b => if 32 < n + m.toNat then (0, 0, 2) else jnGo t (n + m.toNat) (jn b m.toNat c.toNat)
/-- What is told of vectors one behind the other. -/
def jnE (l : List (Int × Int)) : Nat × Nat × Nat := if l.all (fun v => rt v.1 v.2) = true then jnGo l 0 0 else (0, 0, 10)
def jnV (r : Nat × Nat × Nat) : Value := .tuple #[(.agg #[.int .i64 ((r.1 : Int)), .int .u64 ((r.2.1 : Int))]), .int .i64 (r.2.2 : Int)]

theorem drop_getD (l : List (Int × Int)) (k : Nat) (h : k < l.length) : l.drop k = l.getD k (0, 0) :: l.drop (k + 1) := by
  rw [List.drop_eq_getElem_cons h]; simp [h]

theorem row_slice {w : World} {B e s n : Nat} {v : Value} {xs : List Value} (h : w.ownsRow B e s v n xs) : ∃ a cap, v = .slice a n cap := by
  rcases h.2 with ⟨rfl, rfl⟩ | ⟨g, cap, cur, rfl, -⟩
  · exact ⟨_, _, rfl⟩
  · exact ⟨_, _, rfl⟩

set_option maxHeartbeats 4000000 in
set_option maxRecDepth 100000 in
theorem rJoin_any (g o len cap : Nat) (l : List (Int × Int)) (w : World) (hl : l.length = len) (hlen : len ≤ 1000) (hg : g < w.heap.size) (hrow : VRow w g o l) (hpos : ∀ v ∈ l, 0 ≤ v.2) :
    Calls Tryd.prog 8 #[.slice (some ⟨g, o, none⟩) len cap] w fun e w' => e = .returned (jnV (jnE l)) ∧ Below w.heap.size w w' := by
  obtain ⟨ii, hi, hz0', hz1, hz2⟩ := info_parts Tryd.info3
  have HR := hide hrow
  have HP := hide hpos
  clear hrow hpos
  go_enter Tryd.func8, Tryd.ntmps8
  go_wp2
  go_loopw [5] (fun i wr => ∃ k : Nat, k ≤ len ∧ i = .int .i64 (k : Int) ∧ (l.take k).all (fun v => rt v.1 v.2) = true ∧ Iv2 wr w.heap.size (.int .i64 0) (.int .u64 0) ∧ Below w.heap.size w wr)
    (fun i _ => len - (intOf i).toNat)
  case atStart => exact ⟨0, by omega, rfl, by simp, Iv2.new w _ _, (Below.refl _ _).alloc (Nat.le_refl _) _⟩
  case round =>
    obtain ⟨k, hk, rfl, hall, I0, hbw⟩ := hrel
    have HA := hide hall
    have hz := I0.lt
    replace I0 := hide I0
    clear hall
    by_cases hlt : k < len
    · have hcl := HR.out k (by omega)
      have c0 : wr.cell? ⟨g, o + k * 2, none⟩ = some (.int .i64 (l.getD k (0, 0)).1) := (hbw.cell (p := ⟨g, o + k * 2, none⟩) hg).trans hcl.1
      have c1 : wr.cell? ⟨g, o + k * 2 + 1, none⟩ = some (.int .u64 (l.getD k (0, 0)).2) := (hbw.cell (p := ⟨g, o + k * 2 + 1, none⟩) hg).trans hcl.2
      have i1 : (k : Int) < len := by omega
      have i2 : (0 : Int) ≤ k := by omega
      clear hcl
      generalize hv : l.getD k (0, 0) = v at *
      obtain ⟨m, c⟩ := v
      simp only at c0 c1
      have HV := hide hv
      clear hv
      have hts : l.take (k + 1) = l.take k ++ [(m, c)] := by
        rw [← HV.out, List.take_succ_eq_append_getElem (by omega)]; simp [show k < l.length from by omega]
      have HT := hide hts
      have HM : Hid ((m, c) ∈ l) := by
        show _ ∈ _
        rw [← HV.out]; simp [show k < l.length from by omega]
      clear hts
      go_wp2_with fail
      refine (rright_any _ _ _).mono ?_; rintro e w1 ⟨rfl, hb1⟩
      have J0 := I0.out.below hb1
      have HF := hide (hbw.trans (hb1.mono hbw.size))
      obtain ⟨q0, q1, q2, q3⟩ := J0.c
      cases hr : rt m c with
      | true =>
        have JJ := hide J0
        clear J0 hb1 hbw
        go_wp2
        refine ⟨⟨k + 1, by omega, by simp, ?_, JJ.out, HF.out⟩, ?_⟩
        · rw [HT.out, List.all_append, HA.out]; simp [hr]
        · simp [intOf]; omega
      | false =>
        obtain ⟨k0, k1, -, -⟩ := ((J0.set0 (.int .i64 0)).set1 (.int .u64 0)).c
        have K0 := hide k0
        have K1 := hide k1
        have E : Hid (jnE l = (0, 0, 10)) := by
          show _ = _
          unfold jnE
          rw [if_neg]
          intro h
          have := List.all_eq_true.1 h _ HM.out
          rw [hr] at this; cases this
        clear J0 hb1 hbw k0 k1
        go_wp2
        exact bodyPost_ret (v := .tuple #[(.agg #[.int .i64 (0), .int .u64 (0)]), .int .i64 10]) (by simp [results, Tryd.results8, go_sem, K0.out, K1.out]) rfl ⟨by rw [E.out]; rfl, (HF.out.setCell (by simp) _).setCell (by simp) _⟩
    · have ek : l.take k = l := List.take_of_length_le (by omega)
      rw [ek] at HA
      have E : Hid (jnE l = jnGo (l.drop 0) 0 0) := by show _ = _; unfold jnE; rw [if_pos HA.out]; rfl
      have HA2 : Hid (∀ v ∈ l, rt v.1 v.2 = true) := List.all_eq_true.1 HA.out
      clear ek HA
      go_wp2
      clear hlt hk
      go_loopw [4, 6] (fun u i w2 => ∃ (k : Nat) (ds : List Nat), k ≤ len ∧ ds.length ≤ 32 ∧ (∀ x ∈ ds, x ≤ 1) ∧ i = .int .i64 (k : Int) ∧ jnE l = jnGo (l.drop k) ds.length (ofl ds) ∧ Iv2 w2 w.heap.size (.int .i64 0) (.int .u64 0) ∧ w2.ownsRow (w.heap.size + 1) 3 1 u ds.length (ds.map bcel) ∧ Below w.heap.size w w2)
        (fun _ i _ => len - (intOf i).toNat)
      case atStart =>
        exact ⟨0, [], by omega, by simp, by simp, rfl, E.out, I0.out, World.ownsRow_nil _ _ _ _, hbw⟩
      case round =>
        clear E I0 hbw hz
        obtain ⟨k, ds, hk, hdl, hds, rfl, hE, I0, hown, hbw⟩ := hrel
        have E := hide hE
        have HDS := hide hds
        have hz0 := I0.lt
        replace I0 := hide I0
        clear hE hds
        by_cases hlt : k < len
        · have hcl := HR.out k (by omega)
          have c0 : wr.cell? ⟨g, o + k * 2, none⟩ = some (.int .i64 (l.getD k (0, 0)).1) := (hbw.cell (p := ⟨g, o + k * 2, none⟩) hg).trans hcl.1
          have c1 : wr.cell? ⟨g, o + k * 2 + 1, none⟩ = some (.int .u64 (l.getD k (0, 0)).2) := (hbw.cell (p := ⟨g, o + k * 2 + 1, none⟩) hg).trans hcl.2
          have hd := drop_getD l k (by omega)
          rw [hd] at E
          have hr := HA2.out (l.getD k (0, 0)) (by simp [show k < l.length from by omega])
          have hp := HP.out (l.getD k (0, 0)) (by simp [show k < l.length from by omega])
          have i1 : (k : Int) < len := by omega
          have i2 : (0 : Int) ≤ k := by omega
          clear hcl hd
          generalize l.getD k (0, 0) = v at *
          obtain ⟨m, c⟩ := v
          simp only at c0 c1 hr hp
          obtain ⟨m, c, rfl, rfl, hm, hc⟩ := rt_nat hr hp
          have HC := hide hc
          have hpp := p32 m hm
          have hc2 : c < 18446744073709551616 := by omega
          clear hr hp hc hpp
          go_wp2_with fail
          refine (bits_any _ _ (by omega) hc2 _).mono ?_; rintro e w3 ⟨g2, rfl, hg2, hown2, hb3⟩
          have J0 := hide (I0.out.below hb3)
          have hown3 := ownsRow_below hown hb3
          have HF := hide (hbw.trans (hb3.mono hbw.size))
          clear hown hbw hb3
          have hro := row_of hown2
          have hlm : (bl m c).length = m := bl_length m c
          have HRW := hide hro.2.1
          have HGL := hide (ownsRow_below hown3 (Below.refl _ _))
          have HDL : Hid ((ds ++ bl m c).length = ds.length + m) := by show _ = _; rw [List.length_append, bl_length]
          have HOF : Hid (ofl (ds ++ bl m c) = jn (ofl ds) m c) := by show _ = _; rw [ofl_append, bl_length, ofl_bl m c HC.out]; rfl
          clear hro
          go_wp2_with (at_builtin; refine wpList_append_own _ rfl _ _ 50 rfl (w.heap.size + 1) 3 ii (.int .i64 0) 1 8 Tryd.underlying50 hi hz0' hz1 hz2 rfl (by decide) _ _ _ rfl hown3 ⟨g2, 0, none⟩ m m ((bl m c).map bcel) rfl (by simp [hlm]) ?c1 ?c2 ?c3 ?c4 ?c5 ?_)
          case c1 =>
            intro j u hj
            rw [List.getElem?_map] at hj
            cases hx : (bl m c)[j]? with
            | none => rw [hx] at hj; cases hj
            | some y =>
              rw [hx] at hj
              simp only [Option.map_some, Option.some.injEq] at hj
              subst hj
              have hjl : j < (bl m c).length := (List.getElem?_eq_some_iff.1 hx).1
              have h1 := HRW.out j hjl
              rw [Nat.zero_add] at h1
              have e : (bl m c).getD j 0 = y := by simp [hx]
              rw [e] at h1
              have e2 : (⟨g2, 0, none⟩ : Addr).add j = ⟨g2, j, none⟩ := by simp [Addr.add]; omega
              rw [e2]; exact h1
          case c2 => intro u hu; obtain ⟨y, -, rfl⟩ := List.mem_map.1 hu; rfl
          case c3 => unfold maxLen; omega
          case c4 => omega
          case c5 => have := J0.out.lt; omega
          intro v' w4 hown' hgrow _
          have em : ds.map bcel ++ (bl m c).map bcel = (ds ++ bl m c).map bcel := by simp
          rw [em] at hown'
          have hdb : ∀ q, u4.ownBlock = some q → w.heap.size + 1 ≤ q := fun q hq => (hown3.lt q hq).1
          have J1 : Iv2 w4 w.heap.size (.int .i64 0) (.int .u64 0) := by
            have h1 := J0.out
            show w4.heap[w.heap.size]? = _
            rw [hgrow.block _ h1.lt (by intro h; have := hdb _ h.symm; omega)]
            exact h1
          have HF2 := hide (HF.out.grown hgrow HF.out.size (fun q hq => by have := hdb q hq; omega))
          obtain ⟨ao, capo, rfl⟩ := row_slice hown'
          obtain ⟨a0, a1, a2, a3⟩ := J1.c
          clear hown3 hgrow HGL hdb em
          by_cases hbig : 32 < ds.length + m
          · have E2 : Hid (jnE l = (0, 0, 2)) := E.out.trans (if_pos (by simpa using hbig))
            have i3 : (32 : Int) < (ds.length : Int) + m := by omega
            obtain ⟨k0, k1, -, -⟩ := ((J1.set0 (.int .i64 0)).set1 (.int .u64 0)).c
            have K0 := hide k0
            have K1 := hide k1
            clear k0 k1 E J1 hown'
            go_wp2
            exact bodyPost_ret (v := .tuple #[(.agg #[.int .i64 (0), .int .u64 (0)]), .int .i64 2]) (by simp [results, Tryd.results8, go_sem, K0.out, K1.out]) rfl ⟨by rw [E2.out]; rfl, (HF2.out.setCell (by simp) _).setCell (by simp) _⟩
          · have E2 : Hid (jnE l = jnGo (l.drop (k + 1)) (ds.length + m) (jn (ofl ds) m c)) := E.out.trans (if_neg (by simpa using hbig))
            have i3 : (ds.length : Int) + m ≤ 32 := by omega
            have J2 := hide J1
            have HO := hide hown'
            clear E J1 hown'
            go_wp2
            refine ⟨⟨k + 1, ds ++ bl m c, by omega, ?_, ?_, by simp, ?_, J2.out, ?_, HF2.out⟩, ?_⟩
            · rw [HDL.out]; omega
            · intro x hx
              rcases List.mem_append.1 hx with h | h
              · exact HDS.out x h
              · exact bl_mem m c x h
            · rw [HDL.out, HOF.out]; exact E2.out
            · rw [HDL.out]; exact HO.out
            · simp [intOf]; omega
        · have E2 : Hid (jnE l = (ds.length, ofl ds, 0)) := by
            show _ = _
            rw [E.out, List.drop_eq_nil_of_le (by omega)]; rfl
          clear E
          rcases hown.2 with ⟨rfl, h0⟩ | ⟨g2, cap2, cur, rfl, -, -, -⟩
          · have hd0 : ds = [] := List.length_eq_zero_iff.1 h0
            subst hd0
            go_wp2_with fail
            refine (of_nil _).mono ?_; rintro e w3 ⟨rfl, hb3⟩
            replace hb3 := hb3.below
            have J0 := I0.out.below hb3
            obtain ⟨a0, a1, a2, a3⟩ := J0.c
            obtain ⟨k0, k1, -, -⟩ := ((J0.set0 (.int .i64 0)).set1 (.int .u64 0)).c
            have K0 := hide k0
            have K1 := hide k1
            clear J0 k0 k1 hown
            go_wp2
            exact bodyPost_ret (v := .tuple #[(.agg #[.int .i64 (0), .int .u64 (0)]), .int .i64 0]) (by simp [results, Tryd.results8, go_sem, K0.out, K1.out]) rfl ⟨by rw [E2.out]; rfl, ((hbw.trans (hb3.mono hbw.size)).setCell (by simp) _).setCell (by simp) _⟩
          · obtain ⟨-, hrw, hgl, -⟩ := row_of hown
            have HRW := hide hrw
            clear hrw hown
            go_wp2_with fail
            refine (of_any _ _ _ _ ds _ rfl (by omega) HDS.out hgl HRW.out).mono ?_; rintro e w3 ⟨rfl, hb3⟩
            replace hb3 := hb3.below
            have J0 := I0.out.below hb3
            obtain ⟨a0, a1, a2, a3⟩ := J0.c
            obtain ⟨k0, k1, -, -⟩ := ((J0.set0 (.int .i64 (ds.length : Int))).set1 (.int .u64 (ofl ds : Nat))).c
            have K0 := hide k0
            have K1 := hide k1
            clear J0 k0 k1
            go_wp2
            exact bodyPost_ret (v := .tuple #[(.agg #[.int .i64 ((ds.length : Int)), .int .u64 ((ofl ds : Nat))]), .int .i64 0]) (by simp [results, Tryd.results8, go_sem, K0.out, K1.out]) rfl ⟨by rw [E2.out]; rfl, ((hbw.trans (hb3.mono hbw.size)).setCell (by simp) _).setCell (by simp) _⟩

/-- A vector and one bit. -/
theorem join_bit (g : Nat) (x y c : Int) (hy : 0 ≤ y) (hr : rt x y = true) (hx : x < 32) (hc : c = 0 ∨ c = 1) (w : World) (hg : g < w.heap.size) (h0 : w.cell? ⟨g, 0, none⟩ = some (.int .i64 x)) (h1 : w.cell? ⟨g, 1, none⟩ = some (.int .u64 y)) (h2 : w.cell? ⟨g, 2, none⟩ = some (.int .i64 1)) (h3 : w.cell? ⟨g, 3, none⟩ = some (.int .u64 c)) : Calls Tryd.prog 8 #[.slice (some ⟨g, 0, none⟩) 2 2] w fun e w' => e = .returned (.tuple #[(.agg #[.int .i64 (x + 1), .int .u64 (2 * y + c)]), .int .i64 0]) ∧ Below w.heap.size w w' := by
  obtain ⟨n, b, rfl, rfl, hn, hb⟩ := rt_nat hr hy
  have hE : jnE [((n : Int), (b : Int)), (1, c)] = (n + 1, 2 * b + c.toNat, 0) := by
    unfold jnE
    rw [if_pos (by simp only [List.all_cons, List.all_nil, Bool.and_true]; rw [hr]; rcases hc with rfl | rfl <;> rfl)]
    have h1 : ¬32 < 0 + n := by omega
    have h2 : ¬32 < 0 + n + 1 := by omega
    have e1 : jnGo [((n : Int), (b : Int)), (1, c)] 0 0 = jnGo [(1, c)] (0 + n) (jn 0 n b) := by
      show (if 32 < 0 + ((n : Int)).toNat then _ else _) = _
      rw [Int.toNat_natCast, if_neg h1, Int.toNat_natCast]
    have e2 : jnGo [(1, c)] (0 + n) (jn 0 n b) = (0 + n + 1, jn (jn 0 n b) 1 c.toNat, 0) := by
      show (if 32 < 0 + n + ((1 : Int)).toNat then _ else _) = _
      rw [show ((1 : Int)).toNat = 1 from rfl, if_neg h2]
      rfl
    rw [e1, e2]
    simp only [jn]
    congr 1
    · omega
    · congr 1
      omega
  have J := rJoin_any g 0 2 2 [((n : Int), (b : Int)), (1, c)] w rfl (by omega) hg (by
    intro j hj
    have hj2 : j = 0 ∨ j = 1 := by simp at hj; omega
    rcases hj2 with rfl | rfl
    · exact ⟨h0, h1⟩
    · exact ⟨h2, h3⟩) (by
    intro v hv
    simp only [List.mem_cons, List.not_mem_nil, or_false] at hv
    rcases hv with rfl | rfl
    · exact hy
    · rcases hc with rfl | rfl <;> decide)
  rw [hE] at J
  refine J.mono ?_
  rintro e w' ⟨rfl, hbw⟩
  refine ⟨?_, hbw⟩
  unfold jnV
  simp only []
  have e1 : ((n + 1 : Nat) : Int) = (n : Int) + 1 := by omega
  have e2 : ((2 * b + c.toNat : Nat) : Int) = 2 * (b : Int) + c := by rcases hc with rfl | rfl <;> simp
  rw [e1, e2]
  rfl

end Go.Proofs.YtifmbcfdhjhacaaDoor
