/- The law ModelRuns. -/
import Derived.Test.YtfnpapaibgbjpaaYI
import Derived.Test.YtfnpapaibgbjpaaZU
namespace Go.Proofs.Ytfnpapaibgbjpaa
open Go.RowKit Go.Maps

theorem up_len (A : List Kv) : (up A).length = A.length := by unfold up; simp
theorem told_len (c : Ca) (l : List It) : (c.told l).2.2.2.1.length ≤ l.length := by
  unfold Ca.told tl
  split
  · split <;> simp
  split
  · split <;> simp
  split
  · split
    · split <;> simp
    · simp
  split
  · split <;> simp
  split
  · unfold rgV
    repeat' split
    all_goals (simp; try omega)
  · simp
theorem runs_len : ∀ (cs : List Ca) (l : List It), (runs cs l).1.length ≤ l.length + cs.length ∧ (∀ r ∈ (runs cs l).2.1, r.2.2.2.1.length ≤ l.length + cs.length) ∧ (runs cs l).2.1.length ≤ cs.length
  | [], l => by simp [runs]
  | c :: cs, l => by
    have h1 := wrote_len c l
    have h2 := told_len c l
    obtain ⟨i1, i2, i3⟩ := runs_len cs (up (c.wrote l))
    rw [up_len] at i1 i2
    unfold runs
    split
    · refine ⟨by simp; omega, fun r hr => ?_, by simp; omega⟩
      rcases List.mem_cons.1 hr with rfl | hr
      · simp; omega
      · have := i2 r hr
        simp; omega
    · refine ⟨by simp, fun r hr => ?_, by simp⟩
      simp at hr
theorem runE_len (l : List It) (cs : List Ca) : (runE l cs).1.length ≤ l.length + cs.length ∧ (∀ r ∈ (runE l cs).2.1, r.2.2.2.1.length ≤ l.length + cs.length) ∧ (runE l cs).2.1.length ≤ cs.length := by
  by_cases ho : okM l
  · rw [runE_yes ho]; exact runs_len cs l
  · rw [runE_no ho]; simp

set_option maxHeartbeats 1600000 in
set_option maxRecDepth 100000 in
theorem runs_any (v vs : Value) (l0 : List It) (hkm : ∀ it ∈ l0, it.k ≤ 18446744073709551615) (cs0 : List Ca) (hck : ∀ c ∈ cs0, c.key ≤ 18446744073709551615) (w : World) (h : Sl w v l0) (hcs : Cs w vs cs0) :
    Calls Try.prog 5 #[v, vs] w fun e w' => e = .returned (.bool true) ∧ Below w.heap.size w w' := by
  have FE := hide (few_any v l0 w h)
  have SO := hide (some_any vs cs0 w hcs)
  have HK : Hid (∀ it ∈ l0.take 200, it.k ≤ 18446744073709551615) := fun it hi => hkm it (List.mem_of_mem_take hi)
  have HC : Hid (∀ c ∈ cs0.take 40, c.key ≤ 18446744073709551615) := fun c hi => hck c (List.mem_of_mem_take hi)
  have hl : (l0.take 200).length ≤ 200 := by rw [List.length_take]; omega
  have hc : (cs0.take 40).length ≤ 40 := by rw [List.length_take]; omega
  generalize l0.take 200 = l at *
  generalize cs0.take 40 = cs at *
  clear h hcs hkm hck
  go_enter Try.func5, Try.ntmps5
  go_wp2_with fail
  refine FE.out.mono ?_
  intro e w1 hE
  obtain ⟨v1, rfl, hS, hw1⟩ := hE
  subst hw1
  go_wp2_with fail
  refine SO.out.mono ?_
  intro e w2 hE
  obtain ⟨v2, rfl, hC, hw2⟩ := hE
  subst hw2
  have SL := hide hS
  have CS := hide hC
  clear hS hC FE SO
  go_wp2_with fail
  refine (run_any v1 v2 l (by omega) cs (by omega) _ SL.out CS.out).mono ?_
  rintro e w3 ⟨vm1, m1, vr1, rs1, E1, rfl, hO1, hR1, he1, hb⟩
  replace SL := hide (SL.out.below hb)
  replace CS := hide (CS.out.below hb)
  have B := hide hb
  have O1 := hide hO1.sl
  have Q1 := hide hR1.row
  have D1 : Hid (∀ r ∈ rs1, RsRd w3 r) := fun r hr => (hR1.ok r hr).rd
  have HE1 := hide he1
  clear hO1 hR1 he1 hb
  go_wp2_with fail
  refine (rrun_any v1 v2 l (by omega) HK.out cs (by omega) HC.out _ SL.out CS.out).mono ?_
  rintro e w4 ⟨vm2, m2, vr2, rs2, E2, rfl, hO2, hR2, hD2, he2, hb⟩
  replace B := hide (B.out.trans (hb.mono B.out.size))
  replace O1 := hide (O1.out.below hb)
  replace Q1 := hide (Q1.out.below hb)
  replace D1 : Hid (∀ r ∈ rs1, RsRd w4 r) := fun r hr => (D1.out r hr).below hb
  have O2 := hide hO2
  have Q2 := hide hR2
  have D2 := hide hD2
  clear hO2 hR2 hD2 hb
  have heq := HE1.out.trans he2.symm
  simp only [Prod.mk.injEq] at heq
  obtain ⟨hm, hr, rfl⟩ := heq
  have HR := hide hr
  have hsm : Hid (sameL m1 m2 = true) := by show _ = _; unfold sameL; rw [beq_iff_eq]; exact hm
  obtain ⟨n1, n2, n3⟩ := runE_len l cs
  rw [← HE1.out] at n1 n2 n3
  simp only [List.length_map] at n1 n3
  have hi : Hid (∀ r ∈ rs1, r.il.length ≤ 100000) := fun r hr => by
    have := n2 r.val (List.mem_map.2 ⟨r, hr, rfl⟩)
    simp [Rs.val] at this
    omega
  clear n2 HE1 he2 hm hr SL CS HK HC
  go_wp2_with fail
  refine (rsame_any vm1 vm2 m1 m2 (by omega) _ O1.out O2.out).mono ?_
  rintro e w5 ⟨rfl, hb⟩
  rw [hsm.out]
  replace B := hide (B.out.trans (hb.mono B.out.size))
  replace Q1 := hide (Q1.out.below hb)
  replace Q2 := hide (Q2.out.below hb)
  replace D1 : Hid (∀ r ∈ rs1, RsRd w5 r) := fun r hr => (D1.out r hr).below hb
  replace D2 : Hid (∀ r ∈ rs2, RsRd w5 r) := fun r hr => (D2.out r hr).below hb
  clear hb
  go_wp2_with fail
  refine (sameAll_any vr1 vr2 rs1 rs2 (by omega) _ Q1.out Q2.out D1.out D2.out hi.out HR.out).mono ?_
  rintro e w6 ⟨rfl, hb⟩
  replace B := hide (B.out.trans (hb.mono B.out.size))
  clear hb Q1 Q2 D1 D2 O1 O2
  go_wp2_with fail
  refine (awake_any _).mono ?_
  rintro e w7 ⟨rfl, hb⟩
  replace B := hide (B.out.trans (hb.mono B.out.size))
  clear hb
  go_wp2
  go_ret
  exact ⟨rfl, B.out⟩

section
open Go.ChangeShapes Go.WideShapes Go.ChangeAt Go.Joins
variable {H : Type} {enc : TypeId × Value → H} {W : World} {base : Nat} {sp : Nat → Bool} {held : Bool}
/-- Keys that came in are of 64 bits. -/
theorem items_key {n : Nat} {a : Option Addr} {len cap : Nat} {x : DataW H × List MemPlace} (h : DataW.trod enc Try.prog W base sp held n 22 [.slice a len cap] = some x) {l : List It} (hS : Sl W (.slice a len cap) l) : ∀ it ∈ l, it.k ≤ 18446744073709551615 := by
  intro it hi
  obtain ⟨j, hj, rfl⟩ := List.getElem_of_mem hi
  obtain ⟨g, o, c, ev, -, -, h1, -⟩ := hS.cells j hj
  injection ev with ev el ec
  subst ev
  rcases Deep.open_slice Try.underlying22 h with ⟨hcs, -⟩ | ⟨ad, len', cap', m, nn, D, Pl, hcs, -, hl, hmx, hm, hx, hel⟩
  · simp at hcs
  · simp at hcs
    obtain ⟨rfl, rfl, rfl⟩ := hcs
    rw [cellsIt] at hel
    have hlm : len ≤ m := by rw [hm]; split <;> omega
    obtain ⟨cs', h5, h6⟩ := hel j (by omega)
    obtain ⟨-, hl', hc⟩ := World.cells?_some h5
    obtain ⟨u0, u1, n3, -, hl2, k0, -⟩ := trod_struct2 Try.underlying61 h6
    rw [cellsIt] at hl2
    obtain ⟨c0, c1, rfl⟩ := list2 hl2
    simp only [cellsU6, List.drop_zero, List.take_succ_cons, List.take_zero] at k0
    obtain ⟨k, e0, -, wf⟩ := DataW.trod_int Try.underlying24 k0
    simp at e0
    subst e0
    have h7 := hc 0 (by simp)
    rw [add_none, add_none, Nat.add_zero, h1] at h7
    simp at h7
    rw [h7]
    exact (bounds_u64 wf).2
theorem calls_key {n : Nat} {a : Option Addr} {len cap : Nat} {x : DataW H × List MemPlace} (h : DataW.trod enc Try.prog W base sp held n 51 [.slice a len cap] = some x) {l : List Ca} (hn : l.length = len) (hS : Cs W (.slice a len cap) l) : ∀ c ∈ l, c.key ≤ 18446744073709551615 := by
  intro it hi
  obtain ⟨j, hj, rfl⟩ := List.getElem_of_mem hi
  obtain ⟨g, o, rfl, -, h1, -, -⟩ := hS.cells j hj
  rcases Deep.open_slice Try.underlying51 h with ⟨hcs, -⟩ | ⟨ad, len', cap', m, nn, D, Pl, hcs, -, hl, hmx, hm, -, hel⟩
  · simp at hcs
  · simp at hcs
    obtain ⟨rfl, rfl, rfl⟩ := hcs
    rw [cellsCa] at hel
    have hlm : len ≤ m := by rw [hm]; split <;> omega
    obtain ⟨cs', h5, h6⟩ := hel j (by omega)
    obtain ⟨-, hl', hc⟩ := World.cells?_some h5
    obtain ⟨z0, z1, z2, z3, n2, -, hl2, -, g1, -, -⟩ := trod_struct4 Try.underlying27 h6
    rw [cellsCa] at hl2
    obtain ⟨c0, c1, c2, c3, rfl⟩ := list4 hl2
    simp only [cellsU6, List.drop_succ_cons, List.drop_zero, List.take_succ_cons, List.take_zero] at g1
    obtain ⟨k, e0, -, wf⟩ := DataW.trod_int Try.underlying24 g1
    simp at e0
    subst e0
    have h7 := hc 1 (by simp)
    rw [add_none, add_none, h1] at h7
    simp at h7
    rw [h7]
    exact (bounds_u64 wf).2
end

end Go.Proofs.Ytfnpapaibgbjpaa
