/- NetTells: the law walked. -/
import Derived.Test.YtjfjogoojfibiaaNS
namespace Go.Proofs.Ytjfjogoojfibiaa
open Go.RowKit Go.Maps

/-- What is known at the head of a round: the network, how many were put, how many are off. -/
structure Told (w1 wr : World) (b m : Nat) (P F : Int) (j : Nat) (v : Value) (ps : List Pc) (c : Cnt) (k : Nat) : Prop where
  nx : Nx w1 wr b m (.slice none 0 0) v ps c k
  put : c.p = P
  len : P - F = (ps.length : Int)
  k : k ≤ j
theorem Told.lo {w1 wr : World} {b m : Nat} {P F : Int} {j : Nat} {v : Value} {ps : List Pc} {c : Cnt} {k : Nat} (h : Told w1 wr b m P F j v ps c k) (hj : j ≤ 100) : 0 ≤ P ∧ P ≤ 409600 ∧ F ≤ P ∧ -4096 ≤ F := by
  have h1 := h.nx.ns.c0.1
  have h2 := h.nx.ns.c1.1
  have h3 := h.nx.ns.len
  have h4 := h.len
  have h5 := h.k
  rw [h.put] at h1 h2
  have h6 : (k : Int) * 4096 ≤ 409600 := by omega
  omega
theorem inR_nat {n : Nat} {i : Int} (h : inR n i = true) : ∃ j : Nat, i = (j : Int) ∧ j < n := by
  unfold inR at h
  simp at h
  exact ⟨i.toNat, by omega, by omega⟩

theorem Told.bel {w1 wr w2 : World} {b m : Nat} {P F : Int} {j : Nat} {v : Value} {ps : List Pc} {c : Cnt} {k : Nat} (h : Told w1 wr b m P F j v ps c k) (hb : Below wr.heap.size wr w2) : Told w1 w2 b m P F j v ps c k := ⟨h.nx.bel hb, h.put, h.len, h.k⟩
theorem Told.bel' {w1 wr w2 : World} {b m : Nat} {P F : Int} {j : Nat} {v : Value} {ps : List Pc} {c : Cnt} {k : Nat} (h : Told w1 wr b m P F j v ps c k) (hb : Below wr.heap.size wr w2) : Told w1 w2 b m P F (j + 1) v ps c k := ⟨h.nx.bel hb, h.put, h.len, Nat.le_succ_of_le h.k⟩
theorem field_stat (a b c d : Int) (w : World) : (Instr.field 28 (statV a b c d) 0).run Try.prog w = .ok (.int .i64 a) w := by kernel_rfl
/-- What holds at the head of a round. -/
def Behind (w1 : World) (b m : Nat) (w : World) (P F : Int) (j : Nat) : Prop := ∃ v ps c k, Told w1 w b m P F j v ps c k

set_option maxHeartbeats 64000000 in
set_option maxRecDepth 100000 in
theorem netTells_walk (sa : Option Addr) (len cap : Nat) (w : World) (hS : Scr w sa len) :
    Calls Try.prog 5 #[.slice sa len cap] w fun e w' => e = .returned (.bool true) ∧ Below w.heap.size w w' := by
  have hpn := ptr_eq_nil
  have hfs := field_stat
  replace hS := hide hS
  go_enter Try.func5, Try.ntmps5
  go_wp2_with fail
  refine (new_any w).mono ?_; rintro e w1 ⟨b, m, rfl, hb, hm, hN, hbl⟩
  replace hN := hide hN
  replace hbl := hide hbl
  go_wp2
  go_loopw [4, 5, 6] (fun p f i wr => ∃ j : Nat, j ≤ 100 ∧ i = .int .i64 (j : Int) ∧ ∃ P, p = .int .i64 P ∧ ∃ F, f = .int .i64 F ∧ Behind w1 b m wr P F j) (fun _ _ i _ => 100 - (intOf i).toNat)
  case atStart => exact ⟨0, by omega, rfl, 0, rfl, 0, rfl, ⟨_, _, _, _, ⟨hN.out.nx (Below.refl _ _), rfl, rfl, Nat.le_refl _⟩⟩⟩
  case round =>
    obtain ⟨j, hj, rfl, P, rfl, F, rfl, v, ps, c, k, hT⟩ := hrel
    obtain ⟨b1, b2, b3, b4⟩ := hT.lo hj
    have hk : k < 1000000 := by have := hT.k; omega
    have HBw := hide (hbl.out.trans (hT.nx.kp.to_below hbl.out.size (by intro q hq; simp [foot, Value.ownBlock] at hq; rcases hq with rfl | rfl <;> assumption)))
    have T0 := hide hT
    clear hT
    by_cases hlt : j < len
    · by_cases hlt2 : j < 100
      · obtain ⟨g, o, rfl, hX⟩ : ∃ g o, sa = some ⟨g, o, none⟩ ∧ ∀ j, j < len → ∃ x, OpAt w g (o + j * 8) x := by
          rcases hS.out with h0 | h
          · omega
          · exact h
        obtain ⟨x, hx⟩ := hX j hlt
        have cc : ∀ c, c < 8 → wr.cell? ⟨g, o + j * 8 + c, none⟩ = x.cs[c]? := fun c hc => by
          have h1 := hx.cell c hc
          obtain ⟨u, hu⟩ : ∃ u, x.cs[c]? = some u := ⟨_, List.getElem?_eq_getElem (by simpa [OpV.cs] using hc)⟩
          rw [hu] at h1 ⊢
          exact (HBw.out.cell (lt_of_cell h1)).trans h1
        obtain ⟨kd, fa, fn, ta, tn, pa, pl, pc, I, KK⟩ := x
        have d0 : wr.cell? ⟨g, o + j * 8, none⟩ = some (.int .i64 kd) := cc 0 (by omega)
        have d1 : wr.cell? ⟨g, o + j * 8 + 1, none⟩ = some (.bool fa) := cc 1 (by omega)
        have d2 : wr.cell? ⟨g, o + j * 8 + 2, none⟩ = some (.int .i64 fn) := cc 2 (by omega)
        have d3 : wr.cell? ⟨g, o + j * 8 + 3, none⟩ = some (.bool ta) := cc 3 (by omega)
        have d4 : wr.cell? ⟨g, o + j * 8 + 4, none⟩ = some (.int .i64 tn) := cc 4 (by omega)
        have d5 : wr.cell? ⟨g, o + j * 8 + 5, none⟩ = some (.slice pa pl pc) := cc 5 (by omega)
        have d6 : wr.cell? ⟨g, o + j * 8 + 6, none⟩ = some (.int .i64 I) := cc 6 (by omega)
        have d7 : wr.cell? ⟨g, o + j * 8 + 7, none⟩ = some (.int .i64 KK) := cc 7 (by omega)
        have glt : g < wr.heap.size := lt_of_cell d0
        clear cc hX
        have hlc : Hid (pl ≤ pc) := hx.lc
        have hnil : Hid (pa = none → pl = 0 ∧ pc = 0) := hx.nil
        replace hx := hide hx
        have bel := hide ((Below.refl wr.heap.size wr).alloc (Nat.le_refl _) (.cells #[.int .i64 kd, .bool fa, .int .i64 fn, .bool ta, .int .i64 tn, .slice pa pl pc, .int .i64 I, .int .i64 KK] 37))
        have T1 := hide (T0.out.bel bel.out)
        have B1 := hide (HBw.out.trans (bel.out.mono HBw.out.size))
        by_cases k1 : kd = 1
        · subst k1
          go_wp2_with fail
          clear d0 d1 d2 d3 d4 d5 d6 d7 glt
          refine (lcut_any fa fn ta tn pa pl pc hlc.out hnil.out _).mono ?_; rintro e w2 ⟨rfl, hb⟩
          have T2 := hide (T1.out.bel hb)
          obtain ⟨us, hus, hrd⟩ := hx.out.cut (B1.out.trans (hb.mono B1.out.size))
          have hbl : (us.map fun u => (u.toNat : Int)).length = cl pl := by rw [List.length_map]; exact hus
          clear hb T1 B1
          replace hrd := hide hrd
          generalize us.map (fun u => (u.toNat : Int)) = bs at *
          rw [← hbl]
          replace hbl := hide hbl
          clear hus
          have hnil2 : Hid (pa = none → pc = 0) := fun h => (hnil.out h).2
          by_cases hok : okP fn tn bs.length = true
          · by_cases hfull : ps.length = 4096
            · go_wp2_with fail
              refine (put_full b m _ _ _ k hk _ T2.out.nx.ns fa fn ta tn pa bs.length pc hok hfull).mono ?_; rintro e w3 ⟨rfl, hx3⟩
              have HT : Hid (Told w1 w3 b m P F (j + 1) _ _ _ (k + 1)) := ⟨T2.out.nx.trans hx3, T2.out.put, T2.out.len, Nat.succ_le_succ T2.out.k⟩
              clear hx3 T2
              go_wp2_with fail
              refine (len_any b m _ _ _ _ _ HT.out.nx.ns).mono ?_; rintro e w7 ⟨rfl, rfl⟩
              rw [← HT.out.len]
              go_wp2_with fail
              refine (stats_any b m _ _ _ _ _ HT.out.nx.ns).mono ?_; rintro e w8 ⟨rfl, hb8⟩
              rw [HT.out.put]
              have HT8 := hide (HT.out.bel hb8)
              clear hb8
              go_wp2
              exact ⟨⟨j + 1, by omega, by simp, _, rfl, _, rfl, ⟨_, _, _, _, HT8.out⟩⟩, by simp [intOf]; omega⟩
            · have hl : ps.length < 4096 := by have := T2.out.nx.ns.len; omega
              go_wp2_with fail
              refine (put_ok b m _ _ _ k hk _ T2.out.nx.ns fa fn ta tn pa pc bs hok hl hnil2.out hrd.out).mono ?_; rintro e w3 ⟨rfl, v3, a3, c3, hx3, -⟩
              have HT : Hid (Told w1 w3 b m (P + 1) F (j + 1) _ _ _ (k + 1)) := ⟨T2.out.nx.trans hx3, by simp only []; rw [T2.out.put], by rw [List.length_append]; have := T2.out.len; simp; omega, Nat.succ_le_succ T2.out.k⟩
              clear hx3 T2
              go_wp2_with fail
              refine (len_any b m _ _ _ _ _ HT.out.nx.ns).mono ?_; rintro e w7 ⟨rfl, rfl⟩
              rw [← HT.out.len]
              go_wp2_with fail
              refine (stats_any b m _ _ _ _ _ HT.out.nx.ns).mono ?_; rintro e w8 ⟨rfl, hb8⟩
              rw [HT.out.put]
              have HT8 := hide (HT.out.bel hb8)
              clear hb8
              go_wp2
              exact ⟨⟨j + 1, by omega, by simp, _, rfl, _, rfl, ⟨_, _, _, _, HT8.out⟩⟩, by simp [intOf]; omega⟩
          · have hok' : okP fn tn bs.length = false := by simpa using hok
            go_wp2_with fail
            refine (put_bad b m _ _ _ k _ T2.out.nx.ns fa fn ta tn pa bs.length pc hok').mono ?_; rintro e w3 ⟨rfl, hb⟩
            have HT := hide (T2.out.bel' hb)
            clear hb T2
            go_wp2_with fail
            refine (len_any b m _ _ _ _ _ HT.out.nx.ns).mono ?_; rintro e w7 ⟨rfl, rfl⟩
            rw [← HT.out.len]
            go_wp2_with fail
            refine (stats_any b m _ _ _ _ _ HT.out.nx.ns).mono ?_; rintro e w8 ⟨rfl, hb8⟩
            rw [HT.out.put]
            have HT8 := hide (HT.out.bel hb8)
            clear hb8
            go_wp2
            exact ⟨⟨j + 1, by omega, by simp, _, rfl, _, rfl, ⟨_, _, _, _, HT8.out⟩⟩, by simp [intOf]; omega⟩
        · skip
          by_cases k2 : kd = 2
          · subst k2
            by_cases hin : inR ps.length I = true
            · obtain ⟨i, rfl, hi⟩ := inR_nat hin
              clear hin
              go_wp2_with fail
              clear d0 d1 d2 d3 d4 d5 d6 d7 glt
              refine (take_ok b m _ _ _ k hk _ T1.out.nx.ns i hi).mono ?_; rintro e w3 ⟨x3, v3, rfl, hcm, hx3⟩
              have HT : Hid (Told w1 w3 b m P (F + 1) (j + 1) _ _ _ (k + 1)) := ⟨T1.out.nx.trans hx3, T1.out.put, by rw [List.length_eraseIdx, if_pos hi]; have := T1.out.len; omega, Nat.succ_le_succ T1.out.k⟩
              clear hx3 T1
              obtain ⟨ra, rc, rfl, -, -, -⟩ := hcm
              replace HT := hide (HT.out.bel ((Below.refl w3.heap.size w3).alloc (Nat.le_refl _) (.cells #[.bool ps[i].fa, .int .i64 ps[i].fn, .bool ps[i].ta, .int .i64 ps[i].tn, .slice ra ps[i].bs.length rc] 35)))
              go_wp2_with fail
              refine (len_any b m _ _ _ _ _ HT.out.nx.ns).mono ?_; rintro e w7 ⟨rfl, rfl⟩
              rw [← HT.out.len]
              go_wp2_with fail
              refine (stats_any b m _ _ _ _ _ HT.out.nx.ns).mono ?_; rintro e w8 ⟨rfl, hb8⟩
              rw [HT.out.put]
              have HT8 := hide (HT.out.bel hb8)
              clear hb8
              go_wp2
              exact ⟨⟨j + 1, by omega, by simp, _, rfl, _, rfl, ⟨_, _, _, _, HT8.out⟩⟩, by simp [intOf]; omega⟩
            · have hin' : inR ps.length I = false := by simpa using hin
              clear hin
              go_wp2_with fail
              clear d0 d1 d2 d3 d4 d5 d6 d7 glt
              refine (take_bad b m _ _ _ k _ T1.out.nx.ns I hin').mono ?_; rintro e w3 ⟨rfl, hb⟩
              unfold zeroE
              have HT := hide (T1.out.bel' hb)
              clear hb T1
              replace HT := hide (HT.out.bel ((Below.refl w3.heap.size w3).alloc (Nat.le_refl _) (.cells #[.bool false, .int .i64 0, .bool false, .int .i64 0, .slice none 0 0] 35)))
              go_wp2_with fail
              refine (len_any b m _ _ _ _ _ HT.out.nx.ns).mono ?_; rintro e w7 ⟨rfl, rfl⟩
              rw [← HT.out.len]
              go_wp2_with fail
              refine (stats_any b m _ _ _ _ _ HT.out.nx.ns).mono ?_; rintro e w8 ⟨rfl, hb8⟩
              rw [HT.out.put]
              have HT8 := hide (HT.out.bel hb8)
              clear hb8
              go_wp2
              exact ⟨⟨j + 1, by omega, by simp, _, rfl, _, rfl, ⟨_, _, _, _, HT8.out⟩⟩, by simp [intOf]; omega⟩
          · skip
            by_cases k3 : kd = 3
            · subst k3
              by_cases hin : inR ps.length I = true
              · obtain ⟨i, rfl, hi⟩ := inR_nat hin
                clear hin
                go_wp2_with fail
                clear d0 d1 d2 d3 d4 d5 d6 d7 glt
                refine (twin_ok b m _ _ _ k hk _ T1.out.nx.ns i hi).mono ?_; rintro e w3 ⟨x3, rfl, hcm, hx3⟩
                have HT : Hid (Told w1 w3 b m P F (j + 1) _ _ _ (k + 1)) := ⟨T1.out.nx.trans hx3, T1.out.put, T1.out.len, Nat.succ_le_succ T1.out.k⟩
                clear hx3 T1
                obtain ⟨ra, rc, rfl, -, -, -⟩ := hcm
                go_wp2_with fail
                refine (len_any b m _ _ _ _ _ HT.out.nx.ns).mono ?_; rintro e w7 ⟨rfl, rfl⟩
                rw [← HT.out.len]
                go_wp2_with fail
                refine (stats_any b m _ _ _ _ _ HT.out.nx.ns).mono ?_; rintro e w8 ⟨rfl, hb8⟩
                rw [HT.out.put]
                have HT8 := hide (HT.out.bel hb8)
                clear hb8
                go_wp2
                exact ⟨⟨j + 1, by omega, by simp, _, rfl, _, rfl, ⟨_, _, _, _, HT8.out⟩⟩, by simp [intOf]; omega⟩
              · have hin' : inR ps.length I = false := by simpa using hin
                clear hin
                go_wp2_with fail
                clear d0 d1 d2 d3 d4 d5 d6 d7 glt
                refine (twin_bad b m _ _ _ k _ T1.out.nx.ns I hin').mono ?_; rintro e w3 ⟨rfl, hb⟩
                unfold zeroE
                have HT := hide (T1.out.bel' hb)
                clear hb T1
                go_wp2_with fail
                refine (len_any b m _ _ _ _ _ HT.out.nx.ns).mono ?_; rintro e w7 ⟨rfl, rfl⟩
                rw [← HT.out.len]
                go_wp2_with fail
                refine (stats_any b m _ _ _ _ _ HT.out.nx.ns).mono ?_; rintro e w8 ⟨rfl, hb8⟩
                rw [HT.out.put]
                have HT8 := hide (HT.out.bel hb8)
                clear hb8
                go_wp2
                exact ⟨⟨j + 1, by omega, by simp, _, rfl, _, rfl, ⟨_, _, _, _, HT8.out⟩⟩, by simp [intOf]; omega⟩
            · skip
              by_cases k4 : kd = 4
              · subst k4
                by_cases hin : inR ps.length I = true
                · obtain ⟨i, rfl, hi⟩ := inR_nat hin
                  clear hin
                  go_wp2_with fail
                  clear d0 d1 d2 d3 d4 d5 d6 d7 glt
                  refine (drop_ok b m _ _ _ k hk _ T1.out.nx.ns i hi).mono ?_; rintro e w3 ⟨rfl, v3, hx3⟩
                  have HT : Hid (Told w1 w3 b m P (F + 1) (j + 1) _ _ _ (k + 1)) := ⟨T1.out.nx.trans hx3, T1.out.put, by rw [List.length_eraseIdx, if_pos hi]; have := T1.out.len; omega, Nat.succ_le_succ T1.out.k⟩
                  clear hx3 T1
                  go_wp2_with fail
                  refine (len_any b m _ _ _ _ _ HT.out.nx.ns).mono ?_; rintro e w7 ⟨rfl, rfl⟩
                  rw [← HT.out.len]
                  go_wp2_with fail
                  refine (stats_any b m _ _ _ _ _ HT.out.nx.ns).mono ?_; rintro e w8 ⟨rfl, hb8⟩
                  rw [HT.out.put]
                  have HT8 := hide (HT.out.bel hb8)
                  clear hb8
                  go_wp2
                  exact ⟨⟨j + 1, by omega, by simp, _, rfl, _, rfl, ⟨_, _, _, _, HT8.out⟩⟩, by simp [intOf]; omega⟩
                · have hin' : inR ps.length I = false := by simpa using hin
                  clear hin
                  go_wp2_with fail
                  clear d0 d1 d2 d3 d4 d5 d6 d7 glt
                  refine (drop_bad b m _ _ _ k _ T1.out.nx.ns I hin').mono ?_; rintro e w3 ⟨rfl, hb⟩
                  have HT := hide (T1.out.bel' hb)
                  clear hb T1
                  go_wp2_with fail
                  refine (len_any b m _ _ _ _ _ HT.out.nx.ns).mono ?_; rintro e w7 ⟨rfl, rfl⟩
                  rw [← HT.out.len]
                  go_wp2_with fail
                  refine (stats_any b m _ _ _ _ _ HT.out.nx.ns).mono ?_; rintro e w8 ⟨rfl, hb8⟩
                  rw [HT.out.put]
                  have HT8 := hide (HT.out.bel hb8)
                  clear hb8
                  go_wp2
                  exact ⟨⟨j + 1, by omega, by simp, _, rfl, _, rfl, ⟨_, _, _, _, HT8.out⟩⟩, by simp [intOf]; omega⟩
              · skip
                by_cases k5 : kd = 5
                · subst k5
                  by_cases hin : (inR ps.length I && inR ps.length KK) = true
                  · rw [Bool.and_eq_true] at hin
                    obtain ⟨i, rfl, hi⟩ := inR_nat hin.1
                    obtain ⟨i', rfl, hi'⟩ := inR_nat hin.2
                    clear hin
                    go_wp2_with fail
                    clear d0 d1 d2 d3 d4 d5 d6 d7 glt
                    refine (swap_ok b m _ _ _ k _ T1.out.nx.ns i i' hi hi').mono ?_; rintro e w3 ⟨rfl, hx3⟩
                    have HT : Hid (Told w1 w3 b m P F (j + 1) _ _ _ k) := ⟨T1.out.nx.trans hx3, T1.out.put, by rw [show (swp ps i i').length = ps.length from by simp [swp]]; exact T1.out.len, Nat.le_succ_of_le T1.out.k⟩
                    clear hx3 T1
                    go_wp2_with fail
                    refine (len_any b m _ _ _ _ _ HT.out.nx.ns).mono ?_; rintro e w7 ⟨rfl, rfl⟩
                    rw [← HT.out.len]
                    go_wp2_with fail
                    refine (stats_any b m _ _ _ _ _ HT.out.nx.ns).mono ?_; rintro e w8 ⟨rfl, hb8⟩
                    rw [HT.out.put]
                    have HT8 := hide (HT.out.bel hb8)
                    clear hb8
                    go_wp2
                    exact ⟨⟨j + 1, by omega, by simp, _, rfl, _, rfl, ⟨_, _, _, _, HT8.out⟩⟩, by simp [intOf]; omega⟩
                  · have hin' : (inR ps.length I && inR ps.length KK) = false := by simpa using hin
                    clear hin
                    go_wp2_with fail
                    clear d0 d1 d2 d3 d4 d5 d6 d7 glt
                    refine (swap_bad b m _ _ _ k _ T1.out.nx.ns I KK hin').mono ?_; rintro e w3 ⟨rfl, hb⟩
                    have HT := hide (T1.out.bel' hb)
                    clear hb T1
                    go_wp2_with fail
                    refine (len_any b m _ _ _ _ _ HT.out.nx.ns).mono ?_; rintro e w7 ⟨rfl, rfl⟩
                    rw [← HT.out.len]
                    go_wp2_with fail
                    refine (stats_any b m _ _ _ _ _ HT.out.nx.ns).mono ?_; rintro e w8 ⟨rfl, hb8⟩
                    rw [HT.out.put]
                    have HT8 := hide (HT.out.bel hb8)
                    clear hb8
                    go_wp2
                    exact ⟨⟨j + 1, by omega, by simp, _, rfl, _, rfl, ⟨_, _, _, _, HT8.out⟩⟩, by simp [intOf]; omega⟩
                · skip
                  by_cases k6 : kd = 6
                  · subst k6
                    by_cases hok : okA fn = true
                    · go_wp2_with fail
                      clear d0 d1 d2 d3 d4 d5 d6 d7 glt
                      refine (cut_ok b m _ _ _ k hk _ T1.out.nx.ns fa fn hok).mono ?_; rintro e w3 ⟨rfl, v3, hx3⟩
                      have hfl : (ps.filter (stay fa fn)).length ≤ ps.length := List.length_filter_le _ _
                      have hl4 := T1.out.nx.ns.len
                      have HT : Hid (Told w1 w3 b m P (F + ((ps.length - (ps.filter (stay fa fn)).length : Nat) : Int)) (j + 1) _ _ _ (k + 1)) := ⟨T1.out.nx.trans hx3, T1.out.put, by have := T1.out.len; omega, Nat.succ_le_succ T1.out.k⟩
                      clear hx3 T1
                      have hlo : ps.length - (ps.filter (stay fa fn)).length ≤ 4096 := by omega
                      clear hfl hl4
                      generalize ps.length - (ps.filter (stay fa fn)).length = lo at *
                      go_wp2_with fail
                      refine (len_any b m _ _ _ _ _ HT.out.nx.ns).mono ?_; rintro e w7 ⟨rfl, rfl⟩
                      rw [← HT.out.len]
                      go_wp2_with fail
                      refine (stats_any b m _ _ _ _ _ HT.out.nx.ns).mono ?_; rintro e w8 ⟨rfl, hb8⟩
                      rw [HT.out.put]
                      have HT8 := hide (HT.out.bel hb8)
                      clear hb8
                      go_wp2
                      exact ⟨⟨j + 1, by omega, by simp, _, rfl, _, rfl, ⟨_, _, _, _, HT8.out⟩⟩, by simp [intOf]; omega⟩
                    · have hok' : okA fn = false := by simpa using hok
                      go_wp2_with fail
                      clear d0 d1 d2 d3 d4 d5 d6 d7 glt
                      refine (cut_bad b m _ _ _ k _ T1.out.nx.ns fa fn hok').mono ?_; rintro e w3 ⟨rfl, hb⟩
                      have HT := hide (T1.out.bel' hb)
                      clear hb T1
                      go_wp2_with fail
                      refine (len_any b m _ _ _ _ _ HT.out.nx.ns).mono ?_; rintro e w7 ⟨rfl, rfl⟩
                      rw [← HT.out.len]
                      go_wp2_with fail
                      refine (stats_any b m _ _ _ _ _ HT.out.nx.ns).mono ?_; rintro e w8 ⟨rfl, hb8⟩
                      rw [HT.out.put]
                      have HT8 := hide (HT.out.bel hb8)
                      clear hb8
                      go_wp2
                      exact ⟨⟨j + 1, by omega, by simp, _, rfl, _, rfl, ⟨_, _, _, _, HT8.out⟩⟩, by simp [intOf]; omega⟩
                  · skip
                    have HT := hide (T0.out.bel' bel.out)
                    go_wp2
                    exact ⟨⟨j + 1, by omega, by simp, _, rfl, _, rfl, ⟨_, _, _, _, HT.out⟩⟩, by simp [intOf]; omega⟩
      · go_wp2_with fail
        refine (alive_any wr).mono ?_; rintro e w9 ⟨rfl, hb⟩
        have HB9 := hide (HBw.out.trans (hb.mono HBw.out.size))
        clear hb
        go_wp2
        go_ret
        exact ⟨rfl, HB9.out⟩
    · go_wp2_with fail
      refine (alive_any wr).mono ?_; rintro e w9 ⟨rfl, hb⟩
      have HB9 := hide (HBw.out.trans (hb.mono HBw.out.size))
      clear hb
      go_wp2
      go_ret
      exact ⟨rfl, HB9.out⟩

end Go.Proofs.Ytjfjogoojfibiaa
