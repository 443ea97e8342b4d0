/- Walks: vectors one behind the other, by package vec. -/
import Derived.Test.YtdjlmmgnknfkfaaK
namespace Go.Proofs.Ytdjlmmgnknfkfaa
open Go.RowKit

/-- What a slice of vectors holds. -/
def VRow (w : World) (g o : Nat) (l : List (Int × Int)) : Prop :=
  ∀ j, j < l.length → w.cell? ⟨g, o + j * 2, none⟩ = some (.int .i64 (l.getD j (0, 0)).1) ∧ w.cell? ⟨g, o + j * 2 + 1, none⟩ = some (.int .u64 (l.getD j (0, 0)).2)

/-- Vectors that may be, one behind the other, behind n bits b. -/
def jnGo : List (Int × Int) → Nat → Nat → Nat × Nat × Nat
  | [], n, b => (n, b, 0)
  | (m, c) :: t, n, b => if 32 < n + m.toNat then (0, 0, 2) else jnGo t (n + m.toNat) (jn b m.toNat c.toNat)
/-- What is told of vectors one behind the other. -/
def jnE (l : List (Int × Int)) : Nat × Nat × Nat := if l.all (fun v => rt v.1 v.2) = true then jnGo l 0 0 else (0, 0, 10)
def jnV (r : Nat × Nat × Nat) : Value := .tuple #[(.agg #[.int .i64 ((r.1 : Int)), .int .u64 ((r.2.1 : Int))]), .int .i64 (r.2.2 : Int)]

theorem drop_getD (l : List (Int × Int)) (k : Nat) (h : k < l.length) : l.drop k = l.getD k (0, 0) :: l.drop (k + 1) := by
  rw [List.drop_eq_getElem_cons h]; simp [h]

set_option maxHeartbeats 1000000 in
theorem vJoin_any (g o len cap : Nat) (l : List (Int × Int)) (w : World) (hl : l.length = len) (hlen : len ≤ 1000) (hg : g < w.heap.size) (hrow : VRow w g o l) (hpos : ∀ v ∈ l, 0 ≤ v.2) :
    Calls Try.prog 20 #[.slice (some ⟨g, o, none⟩) len cap] w fun e w' => e = .returned (jnV (jnE l)) ∧ Below w.heap.size w w' := by
  have HR := hide hrow
  have HP := hide hpos
  clear hrow hpos
  go_enter Try.func20, Try.ntmps20
  go_wp2
  go_loopw [12] (fun i wr => ∃ k : Nat, k ≤ len ∧ i = .int .i64 (k : Int) ∧ (l.take k).all (fun v => rt v.1 v.2) = true ∧ Is2 wr w.heap.size (.int .i64 0) (.int .u64 0) ∧ Below w.heap.size w wr)
    (fun i _ => len - (intOf i).toNat)
  case atStart => exact ⟨0, by omega, rfl, by simp, Is2.new w _ _, (Below.refl _ _).alloc (Nat.le_refl _) _⟩
  case round =>
    obtain ⟨k, hk, rfl, hall, I0, hbw⟩ := hrel
    have HA := hide hall
    obtain ⟨a0, a1, a2, a3⟩ := I0.c
    have hz := I0.lt
    replace I0 := hide I0
    clear hall
    by_cases hlt : k < len
    · have hcl := HR.out k (by omega)
      have c0 : wr.cell? ⟨g, o + k * 2, none⟩ = some (.int .i64 (l.getD k (0, 0)).1) := (hbw.cell (p := ⟨g, o + k * 2, none⟩) hg).trans hcl.1
      have c1 : wr.cell? ⟨g, o + k * 2 + 1, none⟩ = some (.int .u64 (l.getD k (0, 0)).2) := (hbw.cell (p := ⟨g, o + k * 2 + 1, none⟩) hg).trans hcl.2
      have i1 : (k : Int) < len := by omega
      have i2 : (0 : Int) ≤ k := by omega
      clear hcl
      generalize hv : l.getD k (0, 0) = v at *
      obtain ⟨m, c⟩ := v
      simp only at c0 c1
      have HV := hide hv
      clear hv
      have hc0 : 0 ≤ c := by
        have := HP.out (m, c) (by rw [← HV.out]; simp [show k < l.length from by omega])
        exact this
      have hts : l.take (k + 1) = l.take k ++ [(m, c)] := by
        rw [← HV.out, List.take_succ_eq_append_getElem (by omega)]; simp [show k < l.length from by omega]
      have HT := hide hts
      have HM : Hid ((m, c) ∈ l) := by
        show _ ∈ _
        rw [← HV.out]; simp [show k < l.length from by omega]
      clear hts
      go_wp2_with fail
      refine (vright_any _ _ hc0 _).mono ?_; rintro e w1 ⟨rfl, hb1⟩
      have J0 := (I0.out.alloc (.cells #[.int .i64 m, .int .u64 c] 24)).below hb1
      have HF := hide (hbw.trans ((bx hb1).mono hbw.size))
      obtain ⟨q0, q1, q2, q3⟩ := J0.c
      cases hr : rt m c with
      | true =>
        have hre : reS m c = 0 := reS_yes hr
        have JJ := hide J0
        clear J0 hb1 hbw
        go_wp2
        refine ⟨⟨k + 1, by omega, by simp, ?_, JJ.out, HF.out⟩, ?_⟩
        · rw [HT.out, List.all_append, HA.out]; simp [hr]
        · simp [intOf]; omega
      | false =>
        have hre : reS m c = 10 := reS_no hr
        obtain ⟨k0, k1, -, -⟩ := ((J0.set0 (.int .i64 0)).set1 (.int .u64 0)).c
        have K0 := hide k0
        have K1 := hide k1
        have E : Hid (jnE l = (0, 0, 10)) := by
          show _ = _
          unfold jnE
          rw [if_neg]
          intro h
          have := List.all_eq_true.1 h _ HM.out
          rw [hr] at this; cases this
        clear J0 hb1 hbw k0 k1
        go_wp2
        exact bodyPost_ret (v := .tuple #[(.agg #[.int .i64 (0), .int .u64 (0)]), .int .i64 10]) (by simp [results, Try.results20, go_sem, K0.out, K1.out]) rfl ⟨by rw [E.out]; rfl, (HF.out.setCell (by simp) _).setCell (by simp) _⟩
    · have ek : l.take k = l := List.take_of_length_le (by omega)
      rw [ek] at HA
      have E : Hid (jnE l = jnGo (l.drop 0) 0 0) := by show _ = _; unfold jnE; rw [if_pos HA.out]; rfl
      have HA2 : Hid (∀ v ∈ l, rt v.1 v.2 = true) := List.all_eq_true.1 HA.out
      clear ek a0 a1 a2 a3
      go_wp2
      have A0 := hide (I0.out.alloc (.cells #[.int .i64 0, .int .u64 0] 24))
      have A1 := hide (Is2.new wr (.int .i64 0) (.int .u64 0))
      have AB := hide (hbw.alloc hbw.size (.cells #[.int .i64 0, .int .u64 0] 24))
      clear I0 hbw
      generalize wr.alloc (.cells #[.int .i64 0, .int .u64 0] 24) = wa at *
      have hwA : w.heap.size ≤ wr.heap.size := Nat.le_of_lt hz
      have hwA2 : w.heap.size ≠ wr.heap.size := Nat.ne_of_lt hz
      clear hz
      generalize wr.heap.size = A at *
      clear hlt hk HA
      go_loopw [26] (fun i w2 => ∃ (k n b : Nat), k ≤ len ∧ n ≤ 32 ∧ b < 2 ^ n ∧ i = .int .i64 (k : Int) ∧ jnE l = jnGo (l.drop k) n b ∧ Is2 w2 w.heap.size (.int .i64 0) (.int .u64 0) ∧ Is2 w2 A (.int .i64 (n : Int)) (.int .u64 (b : Int)) ∧ Below w.heap.size w w2)
        (fun i _ => len - (intOf i).toNat)
      case atStart =>
        exact ⟨0, 0, 0, by omega, by omega, by simp, rfl, E.out, A0.out, A1.out, AB.out⟩
      case round =>
        clear E A0 A1 AB
        obtain ⟨k, n, b, hk, hn, hbn, rfl, hE, I0, I1, hbw⟩ := hrel
        have E := hide hE
        have HBN := hide hbn
        obtain ⟨a0, a1, a2, a3⟩ := I0.c
        obtain ⟨b0, b1, b2, b3⟩ := I1.c
        have hz0 := I0.lt
        have hz1 := I1.lt
        replace I0 := hide I0
        replace I1 := hide I1
        clear hE hbn
        by_cases hlt : k < len
        · have hcl := HR.out k (by omega)
          have c0 : wr.cell? ⟨g, o + k * 2, none⟩ = some (.int .i64 (l.getD k (0, 0)).1) := (hbw.cell (p := ⟨g, o + k * 2, none⟩) hg).trans hcl.1
          have c1 : wr.cell? ⟨g, o + k * 2 + 1, none⟩ = some (.int .u64 (l.getD k (0, 0)).2) := (hbw.cell (p := ⟨g, o + k * 2 + 1, none⟩) hg).trans hcl.2
          have hd := drop_getD l k (by omega)
          rw [hd] at E
          have hr := HA2.out (l.getD k (0, 0)) (by simp [show k < l.length from by omega])
          have hp := HP.out (l.getD k (0, 0)) (by simp [show k < l.length from by omega])
          have i1 : (k : Int) < len := by omega
          have i2 : (0 : Int) ≤ k := by omega
          clear hcl hd
          generalize l.getD k (0, 0) = v at *
          obtain ⟨m, c⟩ := v
          simp only at c0 c1 hr hp
          obtain ⟨m, c, rfl, rfl, hm, hc⟩ := rt_nat hr hp
          have HC := hide hc
          clear hr hp hc
          by_cases hbig : 32 < n + m
          · have E2 : Hid (jnE l = (0, 0, 2)) := E.out.trans (if_pos (by simpa using hbig))
            have i3 : (32 : Int) < (n : Int) + m := by omega
            obtain ⟨k0, k1, -, -⟩ := (((I0.out.set0 (.int .i64 0)).set1 (.int .u64 0)).alloc (.cells #[.int .i64 (m : Int), .int .u64 (c : Int)] 24)).c
            have K0 := hide k0
            have K1 := hide k1
            clear k0 k1 E
            go_wp2
            exact bodyPost_ret (v := .tuple #[(.agg #[.int .i64 (0), .int .u64 (0)]), .int .i64 2]) (by simp [results, Try.results20, go_sem, K0.out, K1.out]) rfl ⟨by rw [E2.out]; rfl, ((hbw.setCell (by simp) _).setCell (by simp) _).alloc (by simpa using hbw.size) _⟩
          · have E2 : Hid (jnE l = jnGo (l.drop (k + 1)) (n + m) (jn b m c)) := E.out.trans (if_neg (by simpa using hbig))
            have i3 : (n : Int) + m ≤ 32 := by omega
            have V1 : Hid ((b : Int) < 2 ^ (n : Int).toNat) := by show _ < _; rw [Int.toNat_natCast]; exact_mod_cast HBN.out
            have V2 : Hid ((c : Int) < 2 ^ (m : Int).toNat) := by show _ < _; rw [Int.toNat_natCast]; exact_mod_cast HC.out
            clear E hbig
            go_wp2_with fail
            refine (behind_any _ _ _ _ (by omega) (by omega) (by omega) (by omega) V1.out (by omega) V2.out _).mono ?_; rintro e w3 ⟨rfl, hb4⟩
            have J0 := (I0.out.alloc (.cells #[.int .i64 (m : Int), .int .u64 (c : Int)] 24)).below hb4
            have J1 := (I1.out.alloc (.cells #[.int .i64 (m : Int), .int .u64 (c : Int)] 24)).below hb4
            have HF := hide (hbw.trans ((bx hb4).mono hbw.size))
            obtain ⟨q0, q1, q2, q3⟩ := J1.c
            replace J0 := hide J0
            replace J1 := hide J1
            clear hb4 hbw
            go_wp2
            refine ⟨⟨k + 1, n + m, jn b m c, by omega, by omega, jn_lt n b m c HBN.out HC.out, by simp, E2.out, (J0.out.other _ _ (by simp; omega)).other _ _ (by simp; omega), ?_, (HF.out.setCell (by simp; omega) _).setCell (by simp; omega) _⟩, ?_⟩
            · have := (J1.out.set0 (.int .i64 ((n : Int) + m))).set1 (.int .u64 (jn b m c : Nat))
              simpa using this
            · simp [intOf]; omega
        · have E2 : Hid (jnE l = (n, b, 0)) := by
            show _ = _
            rw [E.out, List.drop_eq_nil_of_le (by omega)]; rfl
          obtain ⟨k0, k1, -, -⟩ := ((I0.out.set0 (.int .i64 (n : Int))).set1 (.int .u64 (b : Int))).c
          have K0 := hide k0
          have K1 := hide k1
          clear k0 k1 E
          go_wp2
          exact bodyPost_ret (v := .tuple #[(.agg #[.int .i64 ((n : Int)), .int .u64 ((b : Int))]), .int .i64 0]) (by simp [results, Try.results20, go_sem, K0.out, K1.out]) rfl ⟨by rw [E2.out]; rfl, (hbw.setCell (by simp) _).setCell (by simp) _⟩

end Go.Proofs.Ytdjlmmgnknfkfaa
