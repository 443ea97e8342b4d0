/- NetOnly: the law walked. -/
import Derived.Test.YtjfjogoojfibiaaNW
namespace Go.Proofs.Ytjfjogoojfibiaa
open Go.RowKit Go.Maps

theorem rw_heap {w : World} {e : TypeId} {size g n c : Nat} {xs : List Value} (h : Rw w e size (.slice (some ⟨g, 0, none⟩) n c) n xs) : ∃ cur, w.heap[g]? = some (.cells cur e (0, 0)) := (h.lt g rfl).2
/-- A block of bytes that is turned, byte by byte. -/
def Turn (q n cb : Nat) (W wq : World) : Prop := Kp [q] W wq ∧ ∃ xs : List Int, xs.length = n ∧ Rw wq 5 1 (.slice (some ⟨q, 0, none⟩) n cb) n (u8s xs)
theorem Turn.step {q n cb : Nat} {W wq : World} (h : Turn q n cb W wq) (t : Nat) (ht : t < n) : ∃ y : Int, wq.cell? ⟨q, t, none⟩ = some (.int .u8 y) ∧ wq.frozen? ⟨q, t, none⟩ = false ∧ ∀ z : Int, Turn q n cb W (wq.setCell ⟨q, t, none⟩ (.int .u8 z)) := by
  obtain ⟨hk, xs, hl, hr⟩ := h
  refine ⟨xs[t], ?_, hr.frozenAt t, fun z => ⟨hk.set _ _ (Or.inl (by simp)), xs.set t z, by simp [hl], ?_⟩⟩
  · rw [hr.cellAt t (by omega)]
    unfold u8s
    rw [List.getElem?_map, List.getElem?_eq_getElem (by omega)]; rfl
  · have := hr.stored t (.int .u8 z)
    rw [show u8s (xs.set t z) = (u8s xs).set t (.int .u8 z) from by simp [u8s, List.map_set]]
    exact this
theorem nums_inj {a b : List UInt8} (h : nums a = nums b) : a = b := by
  unfold nums at h
  exact (List.map_inj_right (fun x y h => by have h2 : x.toNat = y.toNat := by exact Int.ofNat.inj h
                                             exact UInt8.toNat_inj.1 h2)).1 h
theorem same_any' (fa ga : Bool) (fn gn : Int) (ta ha : Bool) (tn hn : Int) (a a' : Option Addr) (c c' n1 n2 : Nat) (us vs : List UInt8) (e1 : us.length = n1) (e2 : vs.length = n2) (h1 : a = none → c = 0) (h2 : a' = none → c' = 0) (w : World) (hr : Rd8 w a (nums us)) (hs : Rd8 w a' (nums vs)) :
    Calls Try.prog 15 #[.agg #[.bool fa, .int .i64 fn, .bool ta, .int .i64 tn, .slice a n1 c], .agg #[.bool ga, .int .i64 gn, .bool ha, .int .i64 hn, .slice a' n2 c']] w fun e w' => SameR fa ga fn gn ta ha tn hn us vs e ∧ Below w.heap.size w w' := by
  subst e1 e2
  exact same_any fa ga fn gn ta ha tn hn a a' c c' us vs h1 h2 w hr hs
theorem Only.cellsA {w w1 wr : World} {b m : Nat} {u : Value} {k : Nat} {v : Value} {ps : List Pc} {c : Cnt} {als : List Pc} (h : Only w w1 wr b m u k v ps c als) {al : Nat} (r : Nat) (hr : r < al) (hal : als.length = al) : ∃ g cap, u = .slice (some ⟨g, 0, none⟩) al cap ∧
    wr.cell? ⟨g, r * 5, none⟩ = some (.bool (als[r]'(by rw [hal]; exact hr)).fa) ∧ wr.cell? ⟨g, r * 5 + 1, none⟩ = some (.int .i64 (als[r]'(by rw [hal]; exact hr)).fn) ∧ wr.cell? ⟨g, r * 5 + 2, none⟩ = some (.bool (als[r]'(by rw [hal]; exact hr)).ta) ∧ wr.cell? ⟨g, r * 5 + 3, none⟩ = some (.int .i64 (als[r]'(by rw [hal]; exact hr)).tn) ∧ wr.cell? ⟨g, r * 5 + 4, none⟩ = some (.slice (als[r]'(by rw [hal]; exact hr)).a (als[r]'(by rw [hal]; exact hr)).bs.length (als[r]'(by rw [hal]; exact hr)).cap) := by
  subst hal
  obtain ⟨g, cap, rfl, h1, h2, -⟩ := h.row.form (by omega)
  have key : ∀ i, i < 5 → wr.cell? ⟨g, r * 5 + i, none⟩ = als[r].cs[i]? := fun i hi => by
    rw [h.row.cellAt (r * 5 + i) (by omega)]; exact pcs_get als r hr i hi
  exact ⟨g, cap, rfl, key 0 (by omega), key 1 (by omega), key 2 (by omega), key 3 (by omega), key 4 (by omega)⟩
theorem foot_off {w : World} {b m : Nat} {v : Value} {ps : List Pc} {c : Cnt} {k : Nat} (h : NS w b m v ps c k) {q : Nat} {cs : Array Value} (hq : IsB w q cs 37) : q ∉ foot b m v := by
  intro hm
  unfold IsB at hq
  unfold foot at hm
  simp only [List.mem_cons, Option.mem_toList] at hm
  rcases hm with rfl | rfl | hm
  · have := h.blk; unfold IsB at this; rw [hq] at this; injection this with this; injection this with _ this; cases this
  · obtain ⟨es, cl, h1⟩ := h.map.heap; rw [hq] at h1; cases h1
  · obtain ⟨-, cur', h1⟩ := h.row.row.lt q hm; rw [hq] at h1; injection h1 with h1; injection h1 with _ h1; cases h1
theorem inR_nat2 {n : Nat} {i : Int} (h : inR n i = true) : ∃ j : Nat, i = (j : Int) ∧ j < n := by
  unfold inR at h
  simp at h
  exact ⟨i.toNat, by omega, by omega⟩
theorem swp_mem {ps : List Pc} {i j : Nat} (hi : i < ps.length) (hj : j < ps.length) {p : Pc} (hp : p ∈ swp ps i j) : p ∈ ps := by
  have hsw : swp ps i j = (ps.set i ps[j]).set j ps[i] := by simp [swp, hi, hj]
  rw [hsw] at hp
  rcases List.mem_or_eq_of_mem_set hp with h1 | h1
  · rcases List.mem_or_eq_of_mem_set h1 with h2 | h2
    · exact h2
    · rw [h2]; exact List.getElem_mem hj
  · rw [h1]; exact List.getElem_mem hi
theorem Turn.drew' {q n cb : Nat} {W wq : World} (h : Turn q n cb W wq) : Turn q n cb W wq.drew := ⟨h.1.drew, h.2⟩
theorem put_ok' (b m : Nat) (v : Value) (ps : List Pc) (c : Cnt) (k : Nat) (hk : k < 1000000) (w : World) (h : NS w b m v ps c k) (fa : Bool) (fn : Int) (ta : Bool) (tn : Int) (a : Option Addr) (cap : Nat) (bs : List Int) (n : Nat) (hn : bs.length = n) (hp : okP fn tn n = true) (hl : ps.length < 4096) (hnil : a = none → cap = 0) (hrd : Rd8 w a bs) :
    Calls Try.prog 17 #[.pointer (some ⟨b, 0, none⟩), .agg #[.bool fa, .int .i64 fn, .bool ta, .int .i64 tn, .slice a n cap]] w fun e w' => e = .returned (.int .i64 0) ∧ ∃ v' a' c', Nx w w' b m v v' (ps ++ [⟨fa, fn, ta, tn, a', c', bs⟩]) { c with p := c.p + 1 } (k + 1) ∧ (∀ ad, a' = some ad → w.heap.size ≤ ad.block) := by
  subst hn
  exact put_ok b m v ps c k hk w h fa fn ta tn a cap bs hp hl hnil hrd

set_option maxHeartbeats 64000000 in
set_option maxRecDepth 100000 in
theorem netOnly_walk (sa : Option Addr) (len cap : Nat) (w : World) (hS : Scr w sa len) (hL : ∀ g o j x, sa = some ⟨g, o, none⟩ → j < len → OpAt w g (o + j * 8) x → x.len ≤ 140737488351232) :
    Calls Try.prog 6 #[.slice sa len cap] w fun e w' => e = .returned (.bool true) ∧ Below w.heap.size w w' := by
  have mixed : Try.prog.follows .mixedOrders = true := by kernel_rfl
  have hpn := ptr_eq_nil
  replace hS := hide hS
  replace hL := hide hL
  go_enter Try.func6, Try.ntmps6
  go_wp2_with fail
  refine (new_any w).mono ?_; rintro e w1 ⟨b, m, rfl, hb, hm, hN, hbl1⟩
  replace hN := hide hN
  replace hbl1 := hide hbl1
  go_wp2
  go_loopw [4, 5, 9, 12, 13, 14] (fun u i _ _ _ _ wr => ∃ j : Nat, j ≤ 100 ∧ i = .int .i64 (j : Int) ∧ ∃ k v ps c als, Only w w1 wr b m u k v ps c als ∧ k ≤ 2 * j) (fun _ i _ _ _ _ _ => 100 - (intOf i).toNat)
  case atStart => exact ⟨0, by omega, rfl, 0, _, _, _, [], ⟨hN.out.nx (Below.refl _ _), ⟨rfl, Or.inl ⟨rfl, rfl⟩⟩, (by intro q hq; simp [Value.ownBlock] at hq), (by simp), (by simp), Nat.le_refl _⟩, Nat.le_refl _⟩
  case round =>
    obtain ⟨j, hj, rfl, k, v, ps, c, als, hO, hk2⟩ := hrel
    obtain ⟨ua, uc, hu, -, -⟩ := hO.row.shape
    subst hu
    have hk : k < 1000000 := by omega
    have HBw := hide (hbl1.out.trans (hO.nx.kp.to_below hbl1.out.size (by intro q hq; simp [foot, Value.ownBlock] at hq; rcases hq with rfl | rfl <;> assumption)))
    have O0 := hide hO
    clear hO
    have hal200 : als.length ≤ 200 := by have := O0.out.few; omega
    generalize hal : als.length = al at *
    have hal' := hide hal
    clear hal
    by_cases hlt : j < len
    · by_cases hlt2 : j < 100
      · obtain ⟨g, o, rfl, hX⟩ : ∃ g o, sa = some ⟨g, o, none⟩ ∧ ∀ j, j < len → ∃ x, OpAt w g (o + j * 8) x := by
          rcases hS.out with h0 | h
          · omega
          · exact h
        obtain ⟨x, hx⟩ := hX j hlt
        have hpl := hL.out g o j x rfl hlt hx
        have cc : ∀ c, c < 8 → wr.cell? ⟨g, o + j * 8 + c, none⟩ = x.cs[c]? := fun c hc => by
          have h1 := hx.cell c hc
          obtain ⟨u, hu⟩ : ∃ u, x.cs[c]? = some u := ⟨_, List.getElem?_eq_getElem (by simpa [OpV.cs] using hc)⟩
          rw [hu] at h1 ⊢
          exact (HBw.out.cell (lt_of_cell h1)).trans h1
        obtain ⟨kd, fa, fn, ta, tn, pa, pl, pc, I, KK⟩ := x
        simp only [] at hpl
        replace hpl := hide hpl
        have d0 : wr.cell? ⟨g, o + j * 8, none⟩ = some (.int .i64 kd) := cc 0 (by omega)
        have d1 : wr.cell? ⟨g, o + j * 8 + 1, none⟩ = some (.bool fa) := cc 1 (by omega)
        have d2 : wr.cell? ⟨g, o + j * 8 + 2, none⟩ = some (.int .i64 fn) := cc 2 (by omega)
        have d3 : wr.cell? ⟨g, o + j * 8 + 3, none⟩ = some (.bool ta) := cc 3 (by omega)
        have d4 : wr.cell? ⟨g, o + j * 8 + 4, none⟩ = some (.int .i64 tn) := cc 4 (by omega)
        have d5 : wr.cell? ⟨g, o + j * 8 + 5, none⟩ = some (.slice pa pl pc) := cc 5 (by omega)
        have d6 : wr.cell? ⟨g, o + j * 8 + 6, none⟩ = some (.int .i64 I) := cc 6 (by omega)
        have d7 : wr.cell? ⟨g, o + j * 8 + 7, none⟩ = some (.int .i64 KK) := cc 7 (by omega)
        have glt : g < wr.heap.size := lt_of_cell d0
        clear cc hX
        have hlc : Hid (pl ≤ pc) := hx.lc
        have hnil : Hid (pa = none → pl = 0 ∧ pc = 0) := hx.nil
        have bel := (Below.refl wr.heap.size wr).alloc (Nat.le_refl _) (.cells #[.int .i64 kd, .bool fa, .int .i64 fn, .bool ta, .int .i64 tn, .slice pa pl pc, .int .i64 I, .int .i64 KK] 37)
        have J1 := IsB.new wr #[.int .i64 kd, .bool fa, .int .i64 fn, .bool ta, .int .i64 tn, .slice pa pl pc, .int .i64 I, .int .i64 KK] 37
        go_wp2_with fail
        clear d0 d1 d2 d3 d4 d5 d6 d7 glt
        refine (lcut_any fa fn ta tn pa pl pc hlc.out hnil.out _).mono ?_; rintro e w2 ⟨rfl, hb2⟩
        have B2 := hide ((HBw.out.trans (bel.mono HBw.out.size)).trans (hb2.mono (Nat.le_trans HBw.out.size bel.size)))
        have O2 := hide ((O0.out.bel bel).bel hb2)
        have J2 := J1.below hb2
        have J2b := hide J2
        have olt : wr.heap.size < w2.heap.size := J2.lt
        have q0 : w2.cell? ⟨wr.heap.size, 0, none⟩ = some (.int .i64 kd) := J2.cell 0
        have q6 : w2.cell? ⟨wr.heap.size, 6, none⟩ = some (.int .i64 I) := J2.cell 6
        have q7 : w2.cell? ⟨wr.heap.size, 7, none⟩ = some (.int .i64 KK) := J2.cell 7
        obtain ⟨us, hus, hrd⟩ := hx.cut (Below.refl _ w)
        have hrd4 : Hid (Rd8 ((w2.alloc (.cells #[.bool fa, .int .i64 fn, .bool ta, .int .i64 tn, .slice pa (nums us).length pc] 35)).alloc (.cells #[] 5)) pa (nums us)) := (hrd.below B2.out).below (two_new w2 _ _)
        have hrd0 : Hid (Rd8 w pa (nums us)) := hrd
        have hbsl : (nums us).length = cl pl := by rw [nums_len]; exact hus
        rw [← hbsl]
        have hnilc : Hid (pa = none → (nums us).length = 0 ∧ pc = 0) := fun h => by
          obtain ⟨h1, h2⟩ := hnil.out h
          refine ⟨?_, h2⟩
          rw [hbsl, h1]; decide
        clear hnil
        have hnil := hnilc
        clear hnilc
        have h99 : (nums us).length ≤ 140737488351232 := by
          have h1 := hpl.out
          have h2 := cl_le pl
          rw [hbsl]; omega
        obtain ⟨bs, hbs⟩ : ∃ bs, bs = nums us := ⟨_, rfl⟩
        rw [← hbs] at hrd4 hrd0 hnil h99 ⊢
        have hbsu := hide hbs
        clear hbs hbsl hus hrd bel hb2 J1 hlc J2
        generalize wr.heap.size = OB at *
        by_cases k1 : kd = 1
        · subst k1
          -- the slice b
          have hnewsX : (∃ ad cc, Value.slice pa bs.length pc = .slice (some ad) bs.length cc ∧ ∀ jj x, (u8s bs)[jj]? = some x → ((w2.alloc (.cells #[.bool fa, .int .i64 fn, .bool ta, .int .i64 tn, .slice pa bs.length pc] 35)).alloc (.cells #[] 5)).cell? (ad.add jj) = some x) ∨ (Value.slice pa bs.length pc = .slice none 0 0 ∧ bs.length = 0) := by
            rcases hrd4.out with ⟨h1, h2⟩ | ⟨ad, h1, hc⟩
            · right
              subst h2
              rw [h1, (hnil.out h1).2]
              exact ⟨rfl, rfl⟩
            · left
              subst h1
              exact ⟨ad, pc, rfl, fun jj x hu => by obtain ⟨hj, rfl⟩ := u8s_get hu; exact hc jj hj⟩
          have hown0 : Rw ((w2.alloc (.cells #[.bool fa, .int .i64 fn, .bool ta, .int .i64 tn, .slice pa bs.length pc] 35)).alloc (.cells #[] 5)) 5 1 (.slice (some ⟨w2.heap.size + 1, 0, none⟩) 0 0) 0 [] := ⟨rfl, Or.inr ⟨_, 0, #[], rfl, by have := heap_new (w2.alloc (.cells #[.bool fa, .int .i64 fn, .bool ta, .int .i64 tn, .slice pa bs.length pc] 35)) (.cells #[] 5); simpa using this, Nat.le_refl _, by unfold maxLen; omega, by simp, rfl⟩⟩
          obtain ⟨i0, hi0, hz0, hz1, hz2⟩ := info_parts Try.infoU8
          obtain ⟨vb, w4, hrun, hrw, hgr, hat, hnn⟩ := run_append_rw (P := Try.prog) ((w2.alloc (.cells #[.bool fa, .int .i64 fn, .bool ta, .int .i64 tn, .slice pa bs.length pc] 35)).alloc (.cells #[] 5)) 33 33 5 i0 (.int .u8 0) 1 1 Try.underlying33 hi0 hz0 hz1 hz2 rfl _ 0 [] hown0 (.slice pa bs.length pc) bs.length (u8s bs) (by rw [u8s_len]; omega) hnewsX (u8s_one bs) (by unfold maxLen; omega) (by omega)
          rw [Nat.zero_add, List.nil_append] at hrw
          obtain ⟨q, cb, hvb, hq2⟩ : ∃ q cb, vb = .slice (some ⟨q, 0, none⟩) bs.length cb ∧ w2.heap.size + 1 ≤ q := by
            rcases hrw.2 with ⟨h1, -⟩ | ⟨q, cb, cur, h1, -⟩
            · exact absurd h1 (hnn (by intro h; cases h))
            · refine ⟨q, cb, h1, ?_⟩
              subst h1
              rcases hat with h2 | h2 <;> simp [Value.ownBlock] at h2 <;> omega
          subst hvb
          have bel4 : Below w2.heap.size w2 w4 := ((two_new w2 _ _).grown hgr (by simp; omega) (fun x hx => by simp [Value.ownBlock] at hx; omega))
          have O4 := hide (O2.out.bel bel4)
          have L4 := ((IsB.new w2 #[.bool fa, .int .i64 fn, .bool ta, .int .i64 tn, .slice pa bs.length pc] 35).below ((Below.refl _ _).alloc (Nat.le_refl _) (.cells #[] 5))).grown hgr (by simp [Value.ownBlock])
          obtain ⟨l0, l1, l2, l3, l4⟩ := L4.cells5
          have RB4 := hide hrw
          have HRUN := hide hrun
          have qlt : Hid (q < w4.heap.size) := (hrw.lt q rfl).1
          replace L4 := hide L4
          have HB4 := hide bel4
          clear hrun hrw hgr hat hnn hown0 hnewsX hi0 hz0 hz1 hz2 bel4
          generalize hbl0 : bs.length = n at *
          have hbl := hide hbl0
          go_wp2_with (at_builtin; refine wpList_append_eq rfl (.tmp 39) (.tmp 41) 33 rfl _ _ (.slice (some ⟨q, 0, none⟩) n cb) w4 rfl rfl HRUN.out ?_)
          have hrdb : Hid (Rd8 w4 (some ⟨q, 0, none⟩) bs) := Or.inr ⟨_, rfl, fun jj hj => by
            rw [add_none, Nat.zero_add]
            have h1 := RB4.out.cellAt jj (by rw [hbl.out] at hj; omega)
            rw [h1]
            unfold u8s
            rw [List.getElem?_map, List.getElem?_eq_getElem hj]; rfl⟩
          have hoff0 : Hid (∀ p ∈ ps, p.off q) := fun p hp ad had => by
            have := O2.out.nx.ns.by_lt hp ad had
            omega
          have hqw : Hid (w1.heap.size ≤ q) := by have h1 := O2.out.nx.kp.size; show _ ≤ _; omega
          by_cases hok : okP fn tn n = true
          · by_cases hfull : ps.length = 4096
            · refine (put_full b m _ _ _ k hk _ O4.out.nx.ns fa fn ta tn (some ⟨q, 0, none⟩) n cb hok hfull).mono ?_; rintro e W5 ⟨rfl, hx3⟩
              have ON := hide (O4.out.call hx3 (Nat.le_succ _) O4.out.link)
              have RB := hide (RB4.out.kp hx3.kp (fun x hx hm => by simp [Value.ownBlock] at hx; subst hx; obtain ⟨-, cur, h1⟩ := RB4.out.lt _ rfl; exact O4.out.nx.ns.noBy _ hm cur h1))
              have hoff := hoff0
              clear hx3 O4 RB4 l0 l1 l2 l3 l4
              go_wp2
              go_loopw [9] (fun i wq => ∃ t : Nat, t ≤ n ∧ i = .int .i64 (t : Int) ∧ Turn q n cb W5 wq) (fun i _ => n - (intOf i).toNat)
              case atStart => exact ⟨0, by omega, rfl, Kp.refl _ _, bs, hbl.out, RB.out⟩
              case round =>
                obtain ⟨t, ht, rfl, hTu⟩ := hrel
                replace hTu := hide hTu
                by_cases htn : t < n
                · obtain ⟨y, hy, hfz, hnext⟩ := hTu.out.step t htn
                  replace hnext := hide hnext
                  go_wp2
                  exact ⟨⟨t + 1, by omega, by simp, hnext.out _⟩, by simp [intOf]; omega⟩
                · go_wp2
                  exact ⟨⟨j + 1, by omega, by simp, _, _, _, _, _, ON.out.kq hTu.out.1 hqw.out (rw_heap RB.out) hoff.out, by omega⟩, by simp [intOf]; omega⟩
            · have hl : ps.length < 4096 := by have := O4.out.nx.ns.len; omega
              refine (put_ok' b m _ _ _ k hk _ O4.out.nx.ns fa fn ta tn (some ⟨q, 0, none⟩) cb bs n hbl.out hok hl (by simp) hrdb.out).mono ?_; rintro e w5 ⟨rfl, v3, a3, c3, hx3, hfr3⟩
              have L5 := L4.out.kp hx3.kp (fun hm => by
                have h1 := O2.out.nx.ns.lt _ hm
                omega)
              obtain ⟨m0, m1, m2, m3, m4⟩ := L5.cells5
              have I5 := IsB.new w5 #[.bool fa, .int .i64 fn, .bool ta, .int .i64 tn, .slice pa n pc] 35
              have bel5 := (Below.refl w5.heap.size w5).alloc (Nat.le_refl _) (.cells #[.bool fa, .int .i64 fn, .bool ta, .int .i64 tn, .slice pa n pc] 35)
              have hnews : ∀ jj x, (pcs [(⟨fa, fn, ta, tn, pa, pc, bs⟩ : Pc)])[jj]? = some x → (w5.alloc (.cells #[.bool fa, .int .i64 fn, .bool ta, .int .i64 tn, .slice pa n pc] 35)).cell? ((⟨w5.heap.size, 0, none⟩ : Addr).add jj) = some x := by
                intro jj x hu
                rw [add_none, Nat.zero_add, I5.cell jj]
                simp only [pcs, Pc.cs, List.flatMap_cons, List.flatMap_nil, List.append_nil] at hu
                rw [← hbl.out]
                simpa using hu
              obtain ⟨i1, hi1, hy0, hy1, hy2⟩ := info_parts Try.infoP
              have hfew := O4.out.few
              obtain ⟨vu, w6, hrun, hrw, hgr, hat, -⟩ := run_append_rw (P := Try.prog) (w5.alloc (.cells #[.bool fa, .int .i64 fn, .bool ta, .int .i64 tn, .slice pa n pc] 35)) 26 26 35 i1 _ 5 56 Try.underlying26 hi1 hy0 hy1 hy2 rfl
                _ _ _ ((O4.out.row.kp hx3.kp O4.out.unfoot).below bel5) (.slice (some ⟨w5.heap.size, 0, none⟩) 1 1) 1 (pcs [⟨fa, fn, ta, tn, pa, pc, bs⟩]) (by rfl) (Or.inl ⟨_, _, rfl, hnews⟩) (pcs_one _) (by unfold maxLen; omega) (by omega)
              have ON := hide (O4.out.puts hx3 bel5 hrw hgr hat ⟨fun h => (hnil.out h).2, us, hbsu.out, hrd0.out⟩ ⟨rfl, rfl, rfl, rfl, rfl⟩)
              have hk6 : Kp (foot b m v ++ (Value.slice ua al uc).ownBlock.toList) w4 w6 := ((hx3.kp.bel bel5).mono (by intro x hx; exact Or.inl (by simp; exact Or.inl hx))).grown hgr (fun x hx => Or.inl (by simp [hx]))
              have RB := hide (RB4.out.kp hk6 (fun x hx hm => by
                simp [Value.ownBlock] at hx
                subst hx
                obtain ⟨-, cur, h1⟩ := RB4.out.lt _ rfl
                rcases List.mem_append.1 hm with h2 | h2
                · exact O4.out.nx.ns.noBy _ h2 cur h1
                · simp at h2
                  obtain ⟨-, cur', h3⟩ := O4.out.row.lt _ h2
                  rw [h1] at h3
                  injection h3 with h3
                  injection h3 with _ h3
                  cases h3))
              have hoff : Hid (∀ p ∈ ps ++ [(⟨fa, fn, ta, tn, a3, c3, bs⟩ : Pc)], p.off q) := fun p hp => by
                rcases List.mem_append.1 hp with h1 | h1
                · exact hoff0.out p h1
                · simp at h1
                  subst h1
                  intro ad had
                  have := hfr3 ad had
                  have := qlt.out
                  omega
              obtain ⟨wa, wn, wc, rfl⟩ : ∃ wa wn wc, vu = .slice wa wn wc := by
                obtain ⟨x, y, z, -, -⟩ := hrw.shape
                exact ⟨_, _, _, z⟩
              have HR2 := hide hrun
              clear hrun hrw hgr hat hnews hx3 hfr3 hk6 hi1 hy0 hy1 hy2 bel5 I5 L5 hfew O4 RB4 l0 l1 l2 l3 l4
              go_wp2_with (at_builtin; refine wpList_append_eq rfl (.tmp 52) (.tmp 54) 26 rfl _ _ (.slice wa wn wc) w6 rfl rfl HR2.out ?_)
              clear m0 m1 m2 m3 m4
              generalize w6 = W5 at *
              go_loopw [9] (fun i wq => ∃ t : Nat, t ≤ n ∧ i = .int .i64 (t : Int) ∧ Turn q n cb W5 wq) (fun i _ => n - (intOf i).toNat)
              case atStart => exact ⟨0, by omega, rfl, Kp.refl _ _, bs, hbl.out, RB.out⟩
              case round =>
                obtain ⟨t, ht, rfl, hTu⟩ := hrel
                replace hTu := hide hTu
                by_cases htn : t < n
                · obtain ⟨y, hy, hfz, hnext⟩ := hTu.out.step t htn
                  replace hnext := hide hnext
                  go_wp2
                  exact ⟨⟨t + 1, by omega, by simp, hnext.out _⟩, by simp [intOf]; omega⟩
                · go_wp2
                  exact ⟨⟨j + 1, by omega, by simp, _, _, _, _, _, ON.out.kq hTu.out.1 hqw.out (rw_heap RB.out) hoff.out, by omega⟩, by simp [intOf]; omega⟩
          · have hok' : okP fn tn n = false := by simpa using hok
            refine (put_bad b m _ _ _ k _ O4.out.nx.ns fa fn ta tn (some ⟨q, 0, none⟩) n cb hok').mono ?_; rintro e W5 ⟨rfl, hb5⟩
            have ON := hide (O4.out.bel hb5)
            have RB := hide (RB4.out.below hb5)
            have hoff := hoff0
            clear hb5 O4 RB4 l0 l1 l2 l3 l4
            go_wp2
            go_loopw [9] (fun i wq => ∃ t : Nat, t ≤ n ∧ i = .int .i64 (t : Int) ∧ Turn q n cb W5 wq) (fun i _ => n - (intOf i).toNat)
            case atStart => exact ⟨0, by omega, rfl, Kp.refl _ _, bs, hbl.out, RB.out⟩
            case round =>
              obtain ⟨t, ht, rfl, hTu⟩ := hrel
              replace hTu := hide hTu
              by_cases htn : t < n
              · obtain ⟨y, hy, hfz, hnext⟩ := hTu.out.step t htn
                replace hnext := hide hnext
                go_wp2
                exact ⟨⟨t + 1, by omega, by simp, hnext.out _⟩, by simp [intOf]; omega⟩
              · go_wp2
                exact ⟨⟨j + 1, by omega, by simp, _, _, _, _, _, ON.out.kq hTu.out.1 hqw.out (rw_heap RB.out) hoff.out, by omega⟩, by simp [intOf]; omega⟩
        · skip
          by_cases k2 : kd = 2
          · subst k2
            have O3 := hide (O2.out.bel ((Below.refl w2.heap.size w2).alloc (Nat.le_refl _) (.cells #[.bool fa, .int .i64 fn, .bool ta, .int .i64 tn, .slice pa bs.length pc] 35)))
            by_cases hin : inR ps.length I = true
            · obtain ⟨i, rfl, hi⟩ := inR_nat2 hin
              clear hin
              go_wp2_with fail
              refine (twin_ok b m _ _ _ k hk _ O3.out.nx.ns i hi).mono ?_; rintro e w4 ⟨x4, rfl, hcm, hx4n⟩
              have hZm : ps[i] ∈ ps := List.getElem_mem hi
              obtain ⟨Qa, hQa, halk⟩ := O3.out.link ps[i] hZm
              obtain ⟨k0, hk0l, hk0e⟩ := List.getElem_of_mem hQa
              obtain ⟨-, zs, hzs1, -⟩ := O3.out.al Qa hQa
              have hzbs : ps[i].bs = nums zs := halk.2.2.2.2.symm.trans hzs1
              have O4 := hide (O3.out.call hx4n (Nat.le_succ _) O3.out.link)
              have hwit0 : Hid (alike ps[i] (als[k0]'hk0l)) := by show alike _ _; rw [hk0e]; exact halk
              have hbl3 := hide (fun p hp => O3.out.nx.ns.by_lt (p := p) hp)
              have hsz3 := hide O3.out.nx.kp.size
              have kp4 := hx4n.kp
              have HZB := hide hzbs
              clear hzbs
              obtain ⟨za1, zc1, rfl, -, -, -⟩ := hcm
              have bel5 := (Below.refl w4.heap.size w4).alloc (Nat.le_refl _) (.cells #[.bool ps[i].fa, .int .i64 ps[i].fn, .bool ps[i].ta, .int .i64 ps[i].tn, .slice za1 ps[i].bs.length zc1] 35)
              have I5 := IsB.new w4 #[.bool ps[i].fa, .int .i64 ps[i].fn, .bool ps[i].ta, .int .i64 ps[i].tn, .slice za1 ps[i].bs.length zc1] 35
              have O5 := O4.out.bel bel5
              have nOB : OB ∉ foot b m v := foot_off O2.out.nx.ns J2b.out
              have J4 := J2b.out.below ((Below.refl w2.heap.size w2).alloc (Nat.le_refl _) (.cells #[.bool fa, .int .i64 fn, .bool ta, .int .i64 tn, .slice pa bs.length pc] 35)) |>.kp kp4 nOB
              have o0 : w4.cell? ⟨OB, 0, none⟩ = some (.int .i64 2) := J4.cell 0
              have o6 : w4.cell? ⟨OB, 6, none⟩ = some (.int .i64 (i : Int)) := J4.cell 6
              have o4lt : OB < w4.heap.size := J4.lt
              have NF4 : w4.heap.size ∉ foot b m v := fun hm => by have := O4.out.nx.ns.lt _ hm; omega
              have HX4 : w1.heap.size ≤ w4.heap.size := O4.out.nx.kp.size
              have NU4 : (Value.slice ua al uc).ownBlock ≠ some w4.heap.size := fun e => by have := (O4.out.row.lt _ e).1; omega
              have hbl5 := hide (fun p hp => O5.nx.ns.by_lt (p := p) hp)
              have hsz5 := hide O5.nx.kp.size
              replace O5 := hide O5
              replace I5 := hide I5
              clear hx4n O3 hzs1 halk hQa hk0e kp4 J4 bel5
              go_wp2_with fail
              refine (take_ok b m _ _ _ (k + 1) (by omega) _ O5.out.nx.ns i hi).mono ?_; rintro e w6 ⟨x6, v6, rfl, hcm6, hx6⟩
              have hmem : ∀ p ∈ ps.eraseIdx i, p ∈ ps := fun p hp => List.mem_of_mem_eraseIdx hp
              have O6 := O5.out.call hx6 (Nat.le_succ _) (fun p hp => O5.out.link p (hmem p hp))
              have I6 := I5.out.kp hx6.kp NF4
              have NF6 : w4.heap.size ∉ foot b m v6 := fun hm => by
                unfold foot at hm NF4
                simp only [List.mem_cons, Option.mem_toList] at hm NF4
                rcases hm with hm | hm | hm
                · exact NF4 (Or.inl hm)
                · exact NF4 (Or.inr (Or.inl hm))
                · rcases hx6.at_ _ hm with h1 | h1
                  · exact NF4 (Or.inr (Or.inr h1))
                  · simp at h1
                    omega
              clear o0 o6 o4lt
              have hzbs := HZB.out
              clear HZB
              generalize hZ : ps[i] = Z at *
              obtain ⟨xa, xn, ya, yn, za0, zc0, zb⟩ := Z
              simp only [] at hzbs
              subst hzbs
              obtain ⟨za, zc, rfl, hby, hzfr, hznl⟩ := hcm6
              simp only [] at hby I6 ⊢
              generalize hzn0 : (nums zs).length = zn at *
              have hzn : Hid (zs.length = zn) := by show _ = _; rw [← hzn0, nums_len]
              have hznb : zn ≤ 262144 := by have := hby.2; omega
              clear hzn0
              have hzf : Hid (∀ ad, za = some ad → w1.heap.size ≤ ad.block) := fun ad h => Nat.le_trans hsz5.out (hzfr ad h)
              have hzo : Hid (∀ ad, za = some ad → ∀ p ∈ ps.eraseIdx i, p.off ad.block) := fun ad h p hp ad' h' => by
                have h1 := hbl5.out p (hmem p hp) ad' h'
                have h2 := hzfr ad h
                omega
              have hznil : Hid (za = none → zc = 0) := hznl
              have hwit : Hid (alike (⟨xa, xn, ya, yn, za0, zc0, nums zs⟩ : Pc) (als[k0]'hk0l)) := hwit0.out
              have hk0al : Hid (k0 < al) := by show _ < _; rw [← hal'.out]; exact hk0l
              obtain ⟨y0, y1, y2, y3, y4⟩ := I6.cells5
              obtain ⟨f0, f1, f2, f3, f4⟩ := I6.free5
              generalize hXe : w4.heap.size = X at *
              have kx := put5_kp w6 X (.bool xa) (.int .i64 xn) (.bool ya) (.int .i64 yn) (.slice za zn zc)
              have IX0 := put5_is I6 (.bool xa) (.int .i64 xn) (.bool ya) (.int .i64 yn) (.slice za zn zc)
              have ON0 := O6.own kx HX4 (noBy_new I6) NF6 NU4
              have BY0 := hby.kp kx (noBy_new I6)
              have BW0 : Below w.heap.size w (put5 w6 X (.bool xa) (.int .i64 xn) (.bool ya) (.int .i64 yn) (.slice za zn zc)) := hbl1.out.trans (ON0.nx.kp.to_below hbl1.out.size (by intro q hq; simp [foot, Value.ownBlock] at hq; rcases hq with rfl | rfl <;> assumption))
              clear hby hzfr hznl hx6 O6 kx I6 O5 I5 NF4 NF6 NU4 hXe hmem
              go_wp2
              dsimp only [put5] at ON0 IX0 BY0 BW0
              generalize ((((w6.setCell ⟨X, 0, none⟩ (.bool xa)).setCell ⟨X, 1, none⟩ (.int .i64 xn)).setCell ⟨X, 2, none⟩ (.bool ya)).setCell ⟨X, 3, none⟩ (.int .i64 yn)).setCell ⟨X, 4, none⟩ (.slice za zn zc) = W7 at *
              have ON := hide ON0
              have IX := hide IX0
              have BY := hide BY0
              have BW7 := hide BW0
              have hzrd0 := True.intro
              clear ON0 IX0 BY0 BW0 y0 y1 y2 y3 y4 f0 f1 f2 f3 f4
              go_loopw [12, 13] (fun tt i wq => ∃ r : Nat, r ≤ al ∧ i = .int .i64 (r : Int) ∧ ∃ tb, tt = .bool tb ∧ Hid ((k0 < r → tb = true)) ∧ Hid (Below W7.heap.size W7 wq)) (fun _ i _ => al - (intOf i).toNat)
              case atStart => exact ⟨0, by omega, rfl, _, rfl, (by intro h; omega), Below.refl _ _⟩
              case round =>
                obtain ⟨r, hr, rfl, tb, rfl, htb0, hbq⟩ := hrel
                rename World => wq
                by_cases hral : r < al
                · cases tb
                  · have hqa : Hid (als[r]'(by rw [hal'.out]; exact hral) ∈ als) := List.getElem_mem _
                    obtain ⟨ug, ucap, hug, a0, a1, a2, a3, a4⟩ := ON.out.cellsA r hral hal'.out
                    injection hug with hug1 _ hug2
                    subst hug1
                    subst hug2
                    have hcl := ON.out.al _ hqa.out
                    have hk0 : Hid (r = k0 → alike (⟨xa, xn, ya, yn, za0, zc0, nums zs⟩ : Pc) (als[r]'(by rw [hal'.out]; exact hral))) := fun h => by subst h; exact hwit.out
                    generalize als[r]'(by rw [hal'.out]; exact hral) = A at *
                    obtain ⟨aa, an, ba, bn, ca, cc, cb'⟩ := A
                    simp only [] at a0 a1 a2 a3 a4 hcl
                    obtain ⟨hcn1, cs, hcs, hcrd0⟩ := hcl
                    generalize hcl' : cb'.length = cn at *
                    have hcn : Hid (cs.length = cn) := by show _ = _; rw [← hcl', hcs, nums_len]
                    have hcnil : Hid (ca = none → cc = 0) := hcn1
                    have hcrd : Hid (Rd8 wq.drew ca (nums cs)) := by
                      show Rd8 _ _ _
                      rw [← hcs]
                      exact ((hcrd0.below BW7.out).below (hbq.out)).below ((Below.refl _ wq).drew)
                    have hzrd : Hid (Rd8 wq.drew za (nums zs)) := (BY.out.rd.below hbq.out).below ((Below.refl _ wq).drew)
                    have hK28 : Hid (∀ W, Below wq.drew.heap.size wq.drew W → (fun w' => w'.cell? ⟨ug, r * 5, none⟩ = some (.bool aa) ∧ w'.cell? ⟨ug, r * 5 + 1, none⟩ = some (.int .i64 an) ∧ w'.cell? ⟨ug, r * 5 + 2, none⟩ = some (.bool ba) ∧ w'.cell? ⟨ug, r * 5 + 3, none⟩ = some (.int .i64 bn) ∧ w'.cell? ⟨ug, r * 5 + 4, none⟩ = some (.slice ca cn cc) ∧ w'.cell? ⟨X, 0, none⟩ = some (.bool xa) ∧ w'.cell? ⟨X, 1, none⟩ = some (.int .i64 xn) ∧ w'.cell? ⟨X, 2, none⟩ = some (.bool ya) ∧ w'.cell? ⟨X, 3, none⟩ = some (.int .i64 yn) ∧ w'.cell? ⟨X, 4, none⟩ = some (.slice za zn zc)) W) := fun W hW => by
                      have hX1 := (IX.out.below hbq.out).below ((Below.refl _ wq).drew.trans hW)
                      have cel : ∀ {ad : Addr} {u : Value}, W7.cell? ad = some u → W.cell? ad = some u := fun h => by
                        have h1 := (hbq.out.cell (lt_of_cell h)).trans h
                        exact (hW.cell (p := _) (lt_of_cell (show wq.drew.cell? _ = some _ from h1))).trans h1
                      exact ⟨cel a0, cel a1, cel a2, cel a3, cel a4, hX1.cells5⟩
                    have HS28 := hide (hK28.out wq.drew (Below.refl _ _))
                    have hsame : Hid (r = k0 → aa = xa ∧ an = xn ∧ ba = ya ∧ bn = yn ∧ cs = zs) := fun h => by
                      obtain ⟨h1, h2, h3, h4, h5⟩ := hk0.out h
                      refine ⟨h1, h2, h3, h4, ?_⟩
                      simp only [] at h5
                      rw [hcs] at h5
                      exact nums_inj h5
                    clear a0 a1 a2 a3 a4 hcs hcrd0 hcn1 hcl' hk0 hqa
                    go_wp2
                    refine regionL 10 (fun w' => w'.cell? ⟨ug, r * 5, none⟩ = some (.bool aa) ∧ w'.cell? ⟨ug, r * 5 + 1, none⟩ = some (.int .i64 an) ∧ w'.cell? ⟨ug, r * 5 + 2, none⟩ = some (.bool ba) ∧ w'.cell? ⟨ug, r * 5 + 3, none⟩ = some (.int .i64 bn) ∧ w'.cell? ⟨ug, r * 5 + 4, none⟩ = some (.slice ca cn cc) ∧ w'.cell? ⟨X, 0, none⟩ = some (.bool xa) ∧ w'.cell? ⟨X, 1, none⟩ = some (.int .i64 xn) ∧ w'.cell? ⟨X, 2, none⟩ = some (.bool ya) ∧ w'.cell? ⟨X, 3, none⟩ = some (.int .i64 yn) ∧ w'.cell? ⟨X, 4, none⟩ = some (.slice za zn zc)) mixed HS28.out (fun hHeld => ?_)
                    refine pickA (v := ?_) 0 (some 98) rfl rfl (by kernel_rfl) (by kernel_rfl) (by kernel_rfl) (by decide) (fun _ _ _ h => h) (by rfl) ?_ (by assumption) ?_
                    rotate_left
                    · intro w'
                      go_simp
                      try with_reducible rfl
                    try simp only [Act.put, List.setIfInBounds_toArray, List.set_cons_zero, List.set_cons_succ]
                    refine pickA (v := ?_) 1 (some 99) rfl rfl (by kernel_rfl) (by kernel_rfl) (by kernel_rfl) (by decide) (fun _ _ _ h => h) (by rfl) ?_ (by assumption) ?_
                    rotate_left
                    · intro w'
                      go_simp
                      try with_reducible rfl
                    try simp only [Act.put, List.setIfInBounds_toArray, List.set_cons_zero, List.set_cons_succ]
                    refine pickA (v := ?_) 2 (some 100) rfl rfl (by kernel_rfl) (by kernel_rfl) (by kernel_rfl) (by decide) (fun _ _ _ h => h) (by rfl) ?_ (by assumption) ?_
                    rotate_left
                    · intro w'
                      go_simp
                      try with_reducible rfl
                    try simp only [Act.put, List.setIfInBounds_toArray, List.set_cons_zero, List.set_cons_succ]
                    refine pickA (v := ?_) 3 (some 101) rfl rfl (by kernel_rfl) (by kernel_rfl) (by kernel_rfl) (by decide) (fun _ _ _ h => h) (by rfl) ?_ (by assumption) ?_
                    rotate_left
                    · intro w'
                      go_simp
                      try with_reducible rfl
                    try simp only [Act.put, List.setIfInBounds_toArray, List.set_cons_zero, List.set_cons_succ]
                    refine pickA (v := ?_) 4 (some 102) rfl rfl (by kernel_rfl) (by kernel_rfl) (by kernel_rfl) (by decide) (fun _ _ _ h => h) (by rfl) ?_ (by assumption) ?_
                    rotate_left
                    · intro w'
                      go_simp
                      try with_reducible rfl
                    try simp only [Act.put, List.setIfInBounds_toArray, List.set_cons_zero, List.set_cons_succ]
                    refine pickL (v := ?_) 5 (some 103) rfl rfl (by kernel_rfl) (by kernel_rfl) (by kernel_rfl) (by decide) (by kernel_rfl) (by kernel_rfl) (fun _ _ _ h => h) (by rfl) ?_ (by assumption) ?_
                    rotate_left
                    · intro w' hSw
                      obtain ⟨e0, e1, e2, e3, e4, x0, x1, x2, x3, x4⟩ := hSw
                      go_simp
                      try with_reducible rfl
                    try simp only [Act.put, List.setIfInBounds_toArray, List.set_cons_zero, List.set_cons_succ]
                    refine pickL (v := ?_) 6 (some 104) rfl rfl (by kernel_rfl) (by kernel_rfl) (by kernel_rfl) (by decide) (by kernel_rfl) (by kernel_rfl) (fun _ _ _ h => h) (by rfl) ?_ (by assumption) ?_
                    rotate_left
                    · intro w' hSw
                      obtain ⟨e0, e1, e2, e3, e4, x0, x1, x2, x3, x4⟩ := hSw
                      go_simp
                      try with_reducible rfl
                    try simp only [Act.put, List.setIfInBounds_toArray, List.set_cons_zero, List.set_cons_succ]
                    refine oneL (i := 7) (by kernel_rfl) rfl (fun K hK => ?_)
                    go_simp
                    refine (same_any' aa xa an xn ba ya bn yn ca za cc zc cn zn cs zs hcn.out hzn.out hcnil.out hznil.out wq.drew hcrd.out hzrd.out).mono ?_
                    rintro e w9 ⟨⟨tb, rfl, htb⟩, hb9⟩
                    have hS9 := hide (hK28.out w9 hb9)
                    refine hK.out _ _ ?_ ?_
                    · exact hS9.out
                    clear hK K
                    try simp only [Act.put, List.setIfInBounds_toArray, List.set_cons_zero, List.set_cons_succ]
                    clear hHeld
                    have hHeld := hS9.out
                    refine pickA (v := ?_) 8 (some 106) rfl rfl (by kernel_rfl) (by kernel_rfl) (by kernel_rfl) (by decide) (fun _ _ _ h => h) (by rfl) ?_ (by assumption) ?_
                    rotate_left
                    · intro w'
                      go_simp
                      try with_reducible rfl
                    try simp only [Act.put, List.setIfInBounds_toArray, List.set_cons_zero, List.set_cons_succ]
                    refine pickA (v := ?_) 9 (some 12) rfl rfl (by kernel_rfl) (by kernel_rfl) (by kernel_rfl) (by decide) (fun _ _ _ h => h) (by rfl) ?_ (by assumption) ?_
                    rotate_left
                    · intro w'
                      go_simp
                      try with_reducible rfl
                    try simp only [Act.put, List.setIfInBounds_toArray, List.set_cons_zero, List.set_cons_succ]
                    refine doneL (by kernel_rfl) ?_ _
                    clear hHeld
                    have hb10 := hide (hbq.out.trans ((Below.refl _ wq).drew.trans hb9 |>.mono hbq.out.size))
                    clear hb9
                    go_wp2
                    refine ⟨⟨r + 1, by omega, by simp, _, rfl, (fun h => ?_), hb10.out⟩, by simp [intOf]; omega⟩
                    rcases Nat.lt_or_ge k0 r with h1 | h1
                    · have := htb0.out h1
                      cases this
                    · obtain ⟨g1, g2, g3, g4, g5⟩ := hsame.out (by omega)
                      exact htb g1 g2 g3 g4 g5
                  · go_wp2
                    refine regionL 10 (fun _ => True) mixed trivial (fun hHeld => ?_)
                    refine pickA (v := ?_) 0 (some 98) rfl rfl (by kernel_rfl) (by kernel_rfl) (by kernel_rfl) (by decide) (fun _ _ _ h => h) (by rfl) ?_ (by assumption) ?_
                    rotate_left
                    · intro w'
                      go_simp
                      try with_reducible rfl
                    try simp only [Act.put, List.setIfInBounds_toArray, List.set_cons_zero, List.set_cons_succ]
                    refine pickA (v := ?_) 1 (some 99) rfl rfl (by kernel_rfl) (by kernel_rfl) (by kernel_rfl) (by decide) (fun _ _ _ h => h) (by rfl) ?_ (by assumption) ?_
                    rotate_left
                    · intro w'
                      go_simp
                      try with_reducible rfl
                    try simp only [Act.put, List.setIfInBounds_toArray, List.set_cons_zero, List.set_cons_succ]
                    refine pickN 2 (some 100) rfl rfl (by kernel_rfl) (by kernel_rfl) (by kernel_rfl) (by decide) (fun _ _ _ h => h) (by rfl) (by assumption) ?_
                    try simp only [Act.put, List.setIfInBounds_toArray, List.set_cons_zero, List.set_cons_succ]
                    refine pickN 3 (some 101) rfl rfl (by kernel_rfl) (by kernel_rfl) (by kernel_rfl) (by decide) (fun _ _ _ h => h) (by rfl) (by assumption) ?_
                    try simp only [Act.put, List.setIfInBounds_toArray, List.set_cons_zero, List.set_cons_succ]
                    refine pickN 4 (some 102) rfl rfl (by kernel_rfl) (by kernel_rfl) (by kernel_rfl) (by decide) (fun _ _ _ h => h) (by rfl) (by assumption) ?_
                    try simp only [Act.put, List.setIfInBounds_toArray, List.set_cons_zero, List.set_cons_succ]
                    refine pickN 5 (some 103) rfl rfl (by kernel_rfl) (by kernel_rfl) (by kernel_rfl) (by decide) (fun _ _ _ h => h) (by rfl) (by assumption) ?_
                    try simp only [Act.put, List.setIfInBounds_toArray, List.set_cons_zero, List.set_cons_succ]
                    refine pickN 6 (some 104) rfl rfl (by kernel_rfl) (by kernel_rfl) (by kernel_rfl) (by decide) (fun _ _ _ h => h) (by rfl) (by assumption) ?_
                    try simp only [Act.put, List.setIfInBounds_toArray, List.set_cons_zero, List.set_cons_succ]
                    refine pickN 7 (some 105) rfl rfl (by kernel_rfl) (by kernel_rfl) (by kernel_rfl) (by decide) (fun _ _ _ h => h) (by rfl) (by assumption) ?_
                    try simp only [Act.put, List.setIfInBounds_toArray, List.set_cons_zero, List.set_cons_succ]
                    refine pickA (v := ?_) 8 (some 106) rfl rfl (by kernel_rfl) (by kernel_rfl) (by kernel_rfl) (by decide) (fun _ _ _ h => h) (by rfl) ?_ (by assumption) ?_
                    rotate_left
                    · intro w'
                      go_simp
                      try with_reducible rfl
                    try simp only [Act.put, List.setIfInBounds_toArray, List.set_cons_zero, List.set_cons_succ]
                    refine pickA (v := ?_) 9 (some 12) rfl rfl (by kernel_rfl) (by kernel_rfl) (by kernel_rfl) (by decide) (fun _ _ _ h => h) (by rfl) ?_ (by assumption) ?_
                    rotate_left
                    · intro w'
                      go_simp
                      try with_reducible rfl
                    try simp only [Act.put, List.setIfInBounds_toArray, List.set_cons_zero, List.set_cons_succ]
                    refine doneL (by kernel_rfl) ?_ _
                    go_wp2
                    exact ⟨⟨r + 1, by omega, by simp, _, rfl, fun _ => rfl, hbq.out.trans (((Below.refl _ wq).drew).mono hbq.out.size)⟩, by simp [intOf]; omega⟩
                · cases tb
                  · have := htb0.out (by have := hk0al.out; omega)
                    cases this
                  · have ON8 := hide (ON.out.bel hbq.out)
                    have IX8 := hide (IX.out.below hbq.out)
                    have BY8 := hide (BY.out.below hbq.out)
                    have sz8 := hide hbq.out.size
                    clear htb0
                    replace hbq := True.intro
                    clear IX BY
                    rcases BY8.out.blk with hza | ⟨q, qcur, hza, hqh⟩
                    · have hz0 : zn = 0 := by
                        rcases BY8.out.rd with ⟨-, h⟩ | ⟨ad, h, -⟩
                        · rw [← hzn.out, ← nums_len, h]; rfl
                        · rw [hza] at h; cases h
                      subst hz0
                      subst hza
                      have hc4 : wq.cell? ⟨X, 4, none⟩ = some (.slice none 0 zc) := IX8.out.cell 4
                      clear hzrd0
                      go_wp2
                      go_loopw [14] (fun i w8 => i = .int .i64 0 ∧ w8 = wq) (fun _ _ => 0)
                      case atStart => exact ⟨rfl, rfl⟩
                      case round =>
                        obtain ⟨rfl, rfl⟩ := hrel
                        go_wp2
                        exact ⟨⟨j + 1, by omega, by simp, _, _, _, _, _, ON8.out, by omega⟩, by simp [intOf]; omega⟩
                    · subst hza
                      have hqX : q ≠ X := fun h => by
                        have := IX8.out
                        unfold IsB at this
                        rw [← h, hqh] at this
                        injection this with this
                        injection this with _ this
                        cases this
                      have hc4 : wq.cell? ⟨X, 4, none⟩ = some (.slice (some ⟨q, 0, none⟩) zn zc) := IX8.out.cell 4
                      have RB : Hid (Rw wq 5 1 (.slice (some ⟨q, 0, none⟩) zn zc) zn (u8s (nums zs))) := by
                        have h1 := BY8.out.1
                        have h2 : (nums zs).length = zn := by rw [nums_len]; exact hzn.out
                        rw [h2] at h1
                        exact h1
                      have hq1 : Hid (w1.heap.size ≤ q) := hzf.out ⟨q, 0, none⟩ rfl
                      have hqo : Hid (∀ p ∈ ps.eraseIdx i, p.off q) := hzo.out ⟨q, 0, none⟩ rfl
                      go_wp2
                      go_loopw [14] (fun i w8 => ∃ t : Nat, t ≤ zn ∧ i = .int .i64 (t : Int) ∧ Turn q zn zc wq w8) (fun i _ => zn - (intOf i).toNat)
                      case atStart => exact ⟨0, by omega, rfl, Kp.refl _ _, nums zs, by rw [nums_len]; exact hzn.out, RB.out⟩
                      case round =>
                        obtain ⟨t, ht, rfl, hTu⟩ := hrel
                        replace hTu := hide hTu
                        rename World => wr'
                        have hx4 : wr'.cell? ⟨X, 4, none⟩ = some (.slice (some ⟨q, 0, none⟩) zn zc) := ((IX8.out.kp hTu.out.1 (by simpa using Ne.symm hqX)).cell 4)
                        by_cases htn : t < zn
                        · obtain ⟨y, hy, hfz, hnext⟩ := hTu.out.step t htn
                          replace hnext := hide hnext
                          go_wp2
                          refine regionL 10 (fun w' => w'.cell? ⟨X, 4, none⟩ = some (.slice (some ⟨q, 0, none⟩) zn zc) ∧ w'.cell? ⟨q, t, none⟩ = some (.int .u8 y)) mixed ⟨hx4, hy⟩ (fun hHeld => ?_)
                          refine pickA (v := ?_) 0 (some 116) rfl rfl (by kernel_rfl) (by kernel_rfl) (by kernel_rfl) (by decide) (fun _ _ _ h => h) (by rfl) ?_ (by assumption) ?_
                          rotate_left
                          · intro w'
                            go_simp
                            try with_reducible rfl
                          try simp only [Act.put, List.setIfInBounds_toArray, List.set_cons_zero, List.set_cons_succ]
                          refine pickL (v := ?_) 1 (some 117) rfl rfl (by kernel_rfl) (by kernel_rfl) (by kernel_rfl) (by decide) (by kernel_rfl) (by kernel_rfl) (fun _ _ _ h => h) (by rfl) ?_ (by assumption) ?_
                          rotate_left
                          · intro w' hSw
                            obtain ⟨g0, g1⟩ := hSw
                            go_simp
                            try with_reducible rfl
                          try simp only [Act.put, List.setIfInBounds_toArray, List.set_cons_zero, List.set_cons_succ]
                          refine pickA (v := ?_) 2 (some 118) rfl rfl (by kernel_rfl) (by kernel_rfl) (by kernel_rfl) (by decide) (fun _ _ _ h => h) (by rfl) ?_ (by assumption) ?_
                          rotate_left
                          · intro w'
                            go_simp
                            try with_reducible rfl
                          try simp only [Act.put, List.setIfInBounds_toArray, List.set_cons_zero, List.set_cons_succ]
                          refine pickA (v := ?_) 3 (some 119) rfl rfl (by kernel_rfl) (by kernel_rfl) (by kernel_rfl) (by decide) (fun _ _ _ h => h) (by rfl) ?_ (by assumption) ?_
                          rotate_left
                          · intro w'
                            go_simp
                            try with_reducible rfl
                          try simp only [Act.put, List.setIfInBounds_toArray, List.set_cons_zero, List.set_cons_succ]
                          refine pickL (v := ?_) 4 (some 120) rfl rfl (by kernel_rfl) (by kernel_rfl) (by kernel_rfl) (by decide) (by kernel_rfl) (by kernel_rfl) (fun _ _ _ h => h) (by rfl) ?_ (by assumption) ?_
                          rotate_left
                          · intro w' hSw
                            obtain ⟨g0, g1⟩ := hSw
                            go_simp
                            try with_reducible rfl
                          try simp only [Act.put, List.setIfInBounds_toArray, List.set_cons_zero, List.set_cons_succ]
                          refine pickA (v := ?_) 5 (some 121) rfl rfl (by kernel_rfl) (by kernel_rfl) (by kernel_rfl) (by decide) (fun _ _ _ h => h) (by rfl) ?_ (by assumption) ?_
                          rotate_left
                          · intro w'
                            go_simp
                            try with_reducible rfl
                          try simp only [Act.put, List.setIfInBounds_toArray, List.set_cons_zero, List.set_cons_succ]
                          refine pickA (v := ?_) 6 (some 122) rfl rfl (by kernel_rfl) (by kernel_rfl) (by kernel_rfl) (by decide) (fun _ _ _ h => h) (by rfl) ?_ (by assumption) ?_
                          rotate_left
                          · intro w'
                            go_simp
                            try with_reducible rfl
                          try simp only [Act.put, List.setIfInBounds_toArray, List.set_cons_zero, List.set_cons_succ]
                          refine pickL (v := ?_) 7 (some 123) rfl rfl (by kernel_rfl) (by kernel_rfl) (by kernel_rfl) (by decide) (by kernel_rfl) (by kernel_rfl) (fun _ _ _ h => h) (by rfl) ?_ (by assumption) ?_
                          rotate_left
                          · intro w' hSw
                            obtain ⟨g0, g1⟩ := hSw
                            go_simp
                            try with_reducible rfl
                          try simp only [Act.put, List.setIfInBounds_toArray, List.set_cons_zero, List.set_cons_succ]
                          refine pickA (v := ?_) 8 (some 124) rfl rfl (by kernel_rfl) (by kernel_rfl) (by kernel_rfl) (by decide) (fun _ _ _ h => h) (by rfl) ?_ (by assumption) ?_
                          rotate_left
                          · intro w'
                            go_simp
                            try with_reducible rfl
                          try simp only [Act.put, List.setIfInBounds_toArray, List.set_cons_zero, List.set_cons_succ]
                          refine pickA (v := ?_) 9 (some 125) rfl rfl (by kernel_rfl) (by kernel_rfl) (by kernel_rfl) (by decide) (fun _ _ _ h => h) (by rfl) ?_ (by assumption) ?_
                          rotate_left
                          · intro w'
                            go_simp
                            try with_reducible rfl
                          try simp only [Act.put, List.setIfInBounds_toArray, List.set_cons_zero, List.set_cons_succ]
                          refine lateL (i := 10) (by kernel_rfl) rfl (by decide) (by kernel_rfl) (fun K hK => ?_)
                          go_simp
                          refine hK.out _ _ ?_
                          clear hK K
                          try simp only [Act.put]
                          refine doneL (by kernel_rfl) ?_ _
                          go_wp2
                          exact ⟨⟨t + 1, by omega, by simp, (hnext.out _).drew'⟩, by simp [intOf]; omega⟩
                        · go_wp2
                          exact ⟨⟨j + 1, by omega, by simp, _, _, _, _, _, ON8.out.kq hTu.out.1 hq1.out ⟨qcur, hqh⟩ hqo.out, by omega⟩, by simp [intOf]; omega⟩
            · have hin' : inR ps.length I = false := by simpa using hin
              clear hin
              go_wp2_with fail
              refine (twin_bad b m _ _ _ k _ O3.out.nx.ns I hin').mono ?_; rintro e w4 ⟨rfl, hb4⟩
              unfold zeroE
              have O4 := hide ((O3.out.bel hb4).bel ((Below.refl w4.heap.size w4).alloc (Nat.le_refl _) (.cells #[.bool false, .int .i64 0, .bool false, .int .i64 0, .slice none 0 0] 35)))
              have I4 := hide (IsB.new w4 #[.bool false, .int .i64 0, .bool false, .int .i64 0, .slice none 0 0] 35)
              have bel34 := ((Below.refl w2.heap.size w2).alloc (Nat.le_refl _) (.cells #[.bool fa, .int .i64 fn, .bool ta, .int .i64 tn, .slice pa bs.length pc] 35)).trans (hb4.mono (by simp))
              have o0 : w4.cell? ⟨OB, 0, none⟩ = some (.int .i64 2) := (bel34.cell (by exact olt)).trans q0
              have o6 : w4.cell? ⟨OB, 6, none⟩ = some (.int .i64 I) := (bel34.cell (by exact olt)).trans q6
              have o4lt : OB < w4.heap.size := Nat.lt_of_lt_of_le olt bel34.size
              have Ob := O3.out.bel hb4
              have NF : w4.heap.size ∉ foot b m v := fun hm => by have := Ob.nx.ns.lt _ hm; omega
              have HX : w1.heap.size ≤ w4.heap.size := Ob.nx.kp.size
              have NU : (Value.slice ua al uc).ownBlock ≠ some w4.heap.size := fun e => by have := (Ob.row.lt _ e).1; omega
              replace NF := hide NF
              replace HX := hide HX
              replace NU := hide NU
              clear hb4 O3 bel34 Ob
              go_wp2_with fail
              refine (take_bad b m _ _ _ k _ O4.out.nx.ns I hin').mono ?_; rintro e w6 ⟨rfl, hb6⟩
              unfold zeroE
              have I6 := I4.out.below hb6
              have O6 := O4.out.bel hb6
              obtain ⟨y0, y1, y2, y3, y4⟩ := I6.cells5
              obtain ⟨z0, z1, z2, z3, z4⟩ := I6.free5
              generalize w4.heap.size = X at *
              have kx := put5_kp w6 X (.bool false) (.int .i64 0) (.bool false) (.int .i64 0) (.slice none 0 0)
              have IX0 := put5_is I6 (.bool false) (.int .i64 0) (.bool false) (.int .i64 0) (.slice none 0 0)
              have ON0 := O6.own kx HX.out (noBy_new I6) NF.out NU.out
              clear hb6 O6 kx I6 O4 I4 o0 o6 o4lt
              go_wp2
              dsimp only [put5] at ON0 IX0
              generalize ((((w6.setCell ⟨X, 0, none⟩ (.bool false)).setCell ⟨X, 1, none⟩ (.int .i64 0)).setCell ⟨X, 2, none⟩ (.bool false)).setCell ⟨X, 3, none⟩ (.int .i64 0)).setCell ⟨X, 4, none⟩ (.slice none 0 0) = W7 at *
              have ON := hide ON0
              have IX := hide IX0
              clear ON0 IX0 y0 y1 y2 y3 y4 z0 z1 z2 z3 z4
              go_loopw [12, 13] (fun tt i wq => ∃ r : Nat, r ≤ al ∧ i = .int .i64 (r : Int) ∧ ∃ tb, tt = .bool tb ∧ Hid (tb = true) ∧ Hid (Below W7.heap.size W7 wq)) (fun _ i _ => al - (intOf i).toNat)
              case atStart => exact ⟨0, by omega, rfl, _, rfl, rfl, Below.refl _ _⟩
              case round =>
                obtain ⟨r, hr, rfl, tb, rfl, htb0, hbq⟩ := hrel
                rename World => wq
                by_cases hral : r < al
                · cases tb
                  · have := htb0.out
                    cases this
                  · go_wp2
                    refine regionL 10 (fun _ => True) mixed trivial (fun hHeld => ?_)
                    refine pickA (v := ?_) 0 (some 98) rfl rfl (by kernel_rfl) (by kernel_rfl) (by kernel_rfl) (by decide) (fun _ _ _ h => h) (by rfl) ?_ (by assumption) ?_
                    rotate_left
                    · intro w'
                      go_simp
                      try with_reducible rfl
                    try simp only [Act.put, List.setIfInBounds_toArray, List.set_cons_zero, List.set_cons_succ]
                    refine pickA (v := ?_) 1 (some 99) rfl rfl (by kernel_rfl) (by kernel_rfl) (by kernel_rfl) (by decide) (fun _ _ _ h => h) (by rfl) ?_ (by assumption) ?_
                    rotate_left
                    · intro w'
                      go_simp
                      try with_reducible rfl
                    try simp only [Act.put, List.setIfInBounds_toArray, List.set_cons_zero, List.set_cons_succ]
                    refine pickN 2 (some 100) rfl rfl (by kernel_rfl) (by kernel_rfl) (by kernel_rfl) (by decide) (fun _ _ _ h => h) (by rfl) (by assumption) ?_
                    try simp only [Act.put, List.setIfInBounds_toArray, List.set_cons_zero, List.set_cons_succ]
                    refine pickN 3 (some 101) rfl rfl (by kernel_rfl) (by kernel_rfl) (by kernel_rfl) (by decide) (fun _ _ _ h => h) (by rfl) (by assumption) ?_
                    try simp only [Act.put, List.setIfInBounds_toArray, List.set_cons_zero, List.set_cons_succ]
                    refine pickN 4 (some 102) rfl rfl (by kernel_rfl) (by kernel_rfl) (by kernel_rfl) (by decide) (fun _ _ _ h => h) (by rfl) (by assumption) ?_
                    try simp only [Act.put, List.setIfInBounds_toArray, List.set_cons_zero, List.set_cons_succ]
                    refine pickN 5 (some 103) rfl rfl (by kernel_rfl) (by kernel_rfl) (by kernel_rfl) (by decide) (fun _ _ _ h => h) (by rfl) (by assumption) ?_
                    try simp only [Act.put, List.setIfInBounds_toArray, List.set_cons_zero, List.set_cons_succ]
                    refine pickN 6 (some 104) rfl rfl (by kernel_rfl) (by kernel_rfl) (by kernel_rfl) (by decide) (fun _ _ _ h => h) (by rfl) (by assumption) ?_
                    try simp only [Act.put, List.setIfInBounds_toArray, List.set_cons_zero, List.set_cons_succ]
                    refine pickN 7 (some 105) rfl rfl (by kernel_rfl) (by kernel_rfl) (by kernel_rfl) (by decide) (fun _ _ _ h => h) (by rfl) (by assumption) ?_
                    try simp only [Act.put, List.setIfInBounds_toArray, List.set_cons_zero, List.set_cons_succ]
                    refine pickA (v := ?_) 8 (some 106) rfl rfl (by kernel_rfl) (by kernel_rfl) (by kernel_rfl) (by decide) (fun _ _ _ h => h) (by rfl) ?_ (by assumption) ?_
                    rotate_left
                    · intro w'
                      go_simp
                      try with_reducible rfl
                    try simp only [Act.put, List.setIfInBounds_toArray, List.set_cons_zero, List.set_cons_succ]
                    refine pickA (v := ?_) 9 (some 12) rfl rfl (by kernel_rfl) (by kernel_rfl) (by kernel_rfl) (by decide) (fun _ _ _ h => h) (by rfl) ?_ (by assumption) ?_
                    rotate_left
                    · intro w'
                      go_simp
                      try with_reducible rfl
                    try simp only [Act.put, List.setIfInBounds_toArray, List.set_cons_zero, List.set_cons_succ]
                    refine doneL (by kernel_rfl) ?_ _
                    go_wp2
                    exact ⟨⟨r + 1, by omega, by simp, _, rfl, rfl, hbq.out.trans (((Below.refl _ wq).drew).mono hbq.out.size)⟩, by simp [intOf]; omega⟩
                · cases tb
                  · have := htb0.out
                    cases this
                  · have ON8 := hide (ON.out.bel hbq.out)
                    have IX8 := hide (IX.out.below hbq.out)
                    clear htb0
                    replace hbq := True.intro
                    clear IX
                    have hc4 : wq.cell? ⟨X, 4, none⟩ = some (.slice none 0 0) := IX8.out.cell 4
                    go_wp2
                    go_loopw [14] (fun i w8 => i = .int .i64 0 ∧ w8 = wq) (fun _ _ => 0)
                    case atStart => exact ⟨rfl, rfl⟩
                    case round =>
                      obtain ⟨rfl, rfl⟩ := hrel
                      go_wp2
                      exact ⟨⟨j + 1, by omega, by simp, _, _, _, _, _, ON8.out, by omega⟩, by simp [intOf]; omega⟩
          · skip
            by_cases k3 : kd = 3
            · subst k3
              have O3 := hide (O2.out.bel ((Below.refl w2.heap.size w2).alloc (Nat.le_refl _) (.cells #[.bool fa, .int .i64 fn, .bool ta, .int .i64 tn, .slice pa bs.length pc] 35)))
              by_cases hin : inR ps.length I = true
              · obtain ⟨i, rfl, hi⟩ := inR_nat2 hin
                clear hin
                go_wp2_with fail
                refine (twin_ok b m _ _ _ k hk _ O3.out.nx.ns i hi).mono ?_; rintro e w4 ⟨x4, rfl, hcm, hx4n⟩
                have hZm : ps[i] ∈ ps := List.getElem_mem hi
                obtain ⟨Qa, hQa, halk⟩ := O3.out.link ps[i] hZm
                obtain ⟨k0, hk0l, hk0e⟩ := List.getElem_of_mem hQa
                obtain ⟨-, zs, hzs1, -⟩ := O3.out.al Qa hQa
                have hzbs : ps[i].bs = nums zs := halk.2.2.2.2.symm.trans hzs1
                have O4 := hide (O3.out.call hx4n (Nat.le_succ _) O3.out.link)
                have hwit0 : Hid (alike ps[i] (als[k0]'hk0l)) := by show alike _ _; rw [hk0e]; exact halk
                have hbl3 := hide (fun p hp => O3.out.nx.ns.by_lt (p := p) hp)
                have hsz3 := hide O3.out.nx.kp.size
                have kp4 := hx4n.kp
                generalize hZ : ps[i] = Z at *
                obtain ⟨xa, xn, ya, yn, za0, zc0, zb⟩ := Z
                simp only [] at hzbs
                subst hzbs
                obtain ⟨za, zc, rfl, hby, hzfr, hznl⟩ := hcm
                simp only [] at hby ⊢
                generalize hzn0 : (nums zs).length = zn at *
                have hzn : Hid (zs.length = zn) := by show _ = _; rw [← hzn0, nums_len]
                have hznb : zn ≤ 262144 := by have := hby.2; omega
                clear hzn0
                have bel7 := (Below.refl w4.heap.size w4).alloc (Nat.le_refl _) (.cells #[.bool xa, .int .i64 xn, .bool ya, .int .i64 yn, .slice za zn zc] 35)
                have IX0 := IsB.new w4 #[.bool xa, .int .i64 xn, .bool ya, .int .i64 yn, .slice za zn zc] 35
                have ON0 := O4.out.bel bel7
                have BY0 := hby.below bel7
                have BW0 : Below w.heap.size w (w4.alloc (.cells #[.bool xa, .int .i64 xn, .bool ya, .int .i64 yn, .slice za zn zc] 35)) := hbl1.out.trans (ON0.nx.kp.to_below hbl1.out.size (by intro q hq; simp [foot, Value.ownBlock] at hq; rcases hq with rfl | rfl <;> assumption))
                have hzf : Hid (∀ ad, za = some ad → w1.heap.size ≤ ad.block) := fun ad h => Nat.le_trans hsz3.out (hzfr ad h)
                have hzo : Hid (∀ ad, za = some ad → ∀ p ∈ ps, p.off ad.block) := fun ad h p hp ad' h' => by
                  have h1 := hbl3.out p hp ad' h'
                  have h2 := hzfr ad h
                  omega
                have hznil : Hid (za = none → zc = 0) := hznl
                have hwit : Hid (alike (⟨xa, xn, ya, yn, za0, zc0, nums zs⟩ : Pc) (als[k0]'hk0l)) := hwit0.out
                have hk0al : Hid (k0 < al) := by show _ < _; rw [← hal'.out]; exact hk0l
                have nOB : OB ∉ foot b m v := fun hm => by
                  have := J2b.out
                  have h1 := O2.out.nx.ns
                  exact absurd hm (foot_off h1 this)
                have o0 : w4.cell? ⟨OB, 0, none⟩ = some (.int .i64 3) := (J2b.out.below ((Below.refl w2.heap.size w2).alloc (Nat.le_refl _) (.cells #[.bool fa, .int .i64 fn, .bool ta, .int .i64 tn, .slice pa bs.length pc] 35)) |>.kp kp4 nOB).cell 0
                have o4lt : OB < w4.heap.size := lt_of_cell o0
                clear hby hzfr hznl kp4 hx4n O3 hzs1 halk hQa hk0e
                go_wp2
                generalize w4.heap.size = X at *
                generalize w4.alloc (.cells #[.bool xa, .int .i64 xn, .bool ya, .int .i64 yn, .slice za zn zc] 35) = W7 at *
                have ON := hide ON0
                have IX := hide IX0
                have BY := hide BY0
                have BW7 := hide BW0
                have hzrd0 := True.intro
                clear ON0 IX0 BY0 BW0 o0 o4lt bel7
                go_loopw [12, 13] (fun tt i wq => ∃ r : Nat, r ≤ al ∧ i = .int .i64 (r : Int) ∧ ∃ tb, tt = .bool tb ∧ Hid ((k0 < r → tb = true)) ∧ Hid (Below W7.heap.size W7 wq)) (fun _ i _ => al - (intOf i).toNat)
                case atStart => exact ⟨0, by omega, rfl, _, rfl, (by intro h; omega), Below.refl _ _⟩
                case round =>
                  obtain ⟨r, hr, rfl, tb, rfl, htb0, hbq⟩ := hrel
                  rename World => wq
                  by_cases hral : r < al
                  · cases tb
                    · have hqa : Hid (als[r]'(by rw [hal'.out]; exact hral) ∈ als) := List.getElem_mem _
                      obtain ⟨ug, ucap, hug, a0, a1, a2, a3, a4⟩ := ON.out.cellsA r hral hal'.out
                      injection hug with hug1 _ hug2
                      subst hug1
                      subst hug2
                      have hcl := ON.out.al _ hqa.out
                      have hk0 : Hid (r = k0 → alike (⟨xa, xn, ya, yn, za0, zc0, nums zs⟩ : Pc) (als[r]'(by rw [hal'.out]; exact hral))) := fun h => by subst h; exact hwit.out
                      generalize als[r]'(by rw [hal'.out]; exact hral) = A at *
                      obtain ⟨aa, an, ba, bn, ca, cc, cb'⟩ := A
                      simp only [] at a0 a1 a2 a3 a4 hcl
                      obtain ⟨hcn1, cs, hcs, hcrd0⟩ := hcl
                      generalize hcl' : cb'.length = cn at *
                      have hcn : Hid (cs.length = cn) := by show _ = _; rw [← hcl', hcs, nums_len]
                      have hcnil : Hid (ca = none → cc = 0) := hcn1
                      have hcrd : Hid (Rd8 wq.drew ca (nums cs)) := by
                        show Rd8 _ _ _
                        rw [← hcs]
                        exact ((hcrd0.below BW7.out).below (hbq.out)).below ((Below.refl _ wq).drew)
                      have hzrd : Hid (Rd8 wq.drew za (nums zs)) := (BY.out.rd.below hbq.out).below ((Below.refl _ wq).drew)
                      have hK28 : Hid (∀ W, Below wq.drew.heap.size wq.drew W → (fun w' => w'.cell? ⟨ug, r * 5, none⟩ = some (.bool aa) ∧ w'.cell? ⟨ug, r * 5 + 1, none⟩ = some (.int .i64 an) ∧ w'.cell? ⟨ug, r * 5 + 2, none⟩ = some (.bool ba) ∧ w'.cell? ⟨ug, r * 5 + 3, none⟩ = some (.int .i64 bn) ∧ w'.cell? ⟨ug, r * 5 + 4, none⟩ = some (.slice ca cn cc) ∧ w'.cell? ⟨X, 0, none⟩ = some (.bool xa) ∧ w'.cell? ⟨X, 1, none⟩ = some (.int .i64 xn) ∧ w'.cell? ⟨X, 2, none⟩ = some (.bool ya) ∧ w'.cell? ⟨X, 3, none⟩ = some (.int .i64 yn) ∧ w'.cell? ⟨X, 4, none⟩ = some (.slice za zn zc)) W) := fun W hW => by
                        have hX1 := (IX.out.below hbq.out).below ((Below.refl _ wq).drew.trans hW)
                        have cel : ∀ {ad : Addr} {u : Value}, W7.cell? ad = some u → W.cell? ad = some u := fun h => by
                          have h1 := (hbq.out.cell (lt_of_cell h)).trans h
                          exact (hW.cell (p := _) (lt_of_cell (show wq.drew.cell? _ = some _ from h1))).trans h1
                        exact ⟨cel a0, cel a1, cel a2, cel a3, cel a4, hX1.cells5⟩
                      have HS28 := hide (hK28.out wq.drew (Below.refl _ _))
                      have hsame : Hid (r = k0 → aa = xa ∧ an = xn ∧ ba = ya ∧ bn = yn ∧ cs = zs) := fun h => by
                        obtain ⟨h1, h2, h3, h4, h5⟩ := hk0.out h
                        refine ⟨h1, h2, h3, h4, ?_⟩
                        simp only [] at h5
                        rw [hcs] at h5
                        exact nums_inj h5
                      clear a0 a1 a2 a3 a4 hcs hcrd0 hcn1 hcl' hk0 hqa
                      go_wp2
                      refine regionL 10 (fun w' => w'.cell? ⟨ug, r * 5, none⟩ = some (.bool aa) ∧ w'.cell? ⟨ug, r * 5 + 1, none⟩ = some (.int .i64 an) ∧ w'.cell? ⟨ug, r * 5 + 2, none⟩ = some (.bool ba) ∧ w'.cell? ⟨ug, r * 5 + 3, none⟩ = some (.int .i64 bn) ∧ w'.cell? ⟨ug, r * 5 + 4, none⟩ = some (.slice ca cn cc) ∧ w'.cell? ⟨X, 0, none⟩ = some (.bool xa) ∧ w'.cell? ⟨X, 1, none⟩ = some (.int .i64 xn) ∧ w'.cell? ⟨X, 2, none⟩ = some (.bool ya) ∧ w'.cell? ⟨X, 3, none⟩ = some (.int .i64 yn) ∧ w'.cell? ⟨X, 4, none⟩ = some (.slice za zn zc)) mixed HS28.out (fun hHeld => ?_)
                      refine pickA (v := ?_) 0 (some 98) rfl rfl (by kernel_rfl) (by kernel_rfl) (by kernel_rfl) (by decide) (fun _ _ _ h => h) (by rfl) ?_ (by assumption) ?_
                      rotate_left
                      · intro w'
                        go_simp
                        try with_reducible rfl
                      try simp only [Act.put, List.setIfInBounds_toArray, List.set_cons_zero, List.set_cons_succ]
                      refine pickA (v := ?_) 1 (some 99) rfl rfl (by kernel_rfl) (by kernel_rfl) (by kernel_rfl) (by decide) (fun _ _ _ h => h) (by rfl) ?_ (by assumption) ?_
                      rotate_left
                      · intro w'
                        go_simp
                        try with_reducible rfl
                      try simp only [Act.put, List.setIfInBounds_toArray, List.set_cons_zero, List.set_cons_succ]
                      refine pickA (v := ?_) 2 (some 100) rfl rfl (by kernel_rfl) (by kernel_rfl) (by kernel_rfl) (by decide) (fun _ _ _ h => h) (by rfl) ?_ (by assumption) ?_
                      rotate_left
                      · intro w'
                        go_simp
                        try with_reducible rfl
                      try simp only [Act.put, List.setIfInBounds_toArray, List.set_cons_zero, List.set_cons_succ]
                      refine pickA (v := ?_) 3 (some 101) rfl rfl (by kernel_rfl) (by kernel_rfl) (by kernel_rfl) (by decide) (fun _ _ _ h => h) (by rfl) ?_ (by assumption) ?_
                      rotate_left
                      · intro w'
                        go_simp
                        try with_reducible rfl
                      try simp only [Act.put, List.setIfInBounds_toArray, List.set_cons_zero, List.set_cons_succ]
                      refine pickA (v := ?_) 4 (some 102) rfl rfl (by kernel_rfl) (by kernel_rfl) (by kernel_rfl) (by decide) (fun _ _ _ h => h) (by rfl) ?_ (by assumption) ?_
                      rotate_left
                      · intro w'
                        go_simp
                        try with_reducible rfl
                      try simp only [Act.put, List.setIfInBounds_toArray, List.set_cons_zero, List.set_cons_succ]
                      refine pickL (v := ?_) 5 (some 103) rfl rfl (by kernel_rfl) (by kernel_rfl) (by kernel_rfl) (by decide) (by kernel_rfl) (by kernel_rfl) (fun _ _ _ h => h) (by rfl) ?_ (by assumption) ?_
                      rotate_left
                      · intro w' hSw
                        obtain ⟨e0, e1, e2, e3, e4, x0, x1, x2, x3, x4⟩ := hSw
                        go_simp
                        try with_reducible rfl
                      try simp only [Act.put, List.setIfInBounds_toArray, List.set_cons_zero, List.set_cons_succ]
                      refine pickL (v := ?_) 6 (some 104) rfl rfl (by kernel_rfl) (by kernel_rfl) (by kernel_rfl) (by decide) (by kernel_rfl) (by kernel_rfl) (fun _ _ _ h => h) (by rfl) ?_ (by assumption) ?_
                      rotate_left
                      · intro w' hSw
                        obtain ⟨e0, e1, e2, e3, e4, x0, x1, x2, x3, x4⟩ := hSw
                        go_simp
                        try with_reducible rfl
                      try simp only [Act.put, List.setIfInBounds_toArray, List.set_cons_zero, List.set_cons_succ]
                      refine oneL (i := 7) (by kernel_rfl) rfl (fun K hK => ?_)
                      go_simp
                      refine (same_any' aa xa an xn ba ya bn yn ca za cc zc cn zn cs zs hcn.out hzn.out hcnil.out hznil.out wq.drew hcrd.out hzrd.out).mono ?_
                      rintro e w9 ⟨⟨tb, rfl, htb⟩, hb9⟩
                      have hS9 := hide (hK28.out w9 hb9)
                      refine hK.out _ _ ?_ ?_
                      · exact hS9.out
                      clear hK K
                      try simp only [Act.put, List.setIfInBounds_toArray, List.set_cons_zero, List.set_cons_succ]
                      clear hHeld
                      have hHeld := hS9.out
                      refine pickA (v := ?_) 8 (some 106) rfl rfl (by kernel_rfl) (by kernel_rfl) (by kernel_rfl) (by decide) (fun _ _ _ h => h) (by rfl) ?_ (by assumption) ?_
                      rotate_left
                      · intro w'
                        go_simp
                        try with_reducible rfl
                      try simp only [Act.put, List.setIfInBounds_toArray, List.set_cons_zero, List.set_cons_succ]
                      refine pickA (v := ?_) 9 (some 12) rfl rfl (by kernel_rfl) (by kernel_rfl) (by kernel_rfl) (by decide) (fun _ _ _ h => h) (by rfl) ?_ (by assumption) ?_
                      rotate_left
                      · intro w'
                        go_simp
                        try with_reducible rfl
                      try simp only [Act.put, List.setIfInBounds_toArray, List.set_cons_zero, List.set_cons_succ]
                      refine doneL (by kernel_rfl) ?_ _
                      clear hHeld
                      have hb10 := hide (hbq.out.trans ((Below.refl _ wq).drew.trans hb9 |>.mono hbq.out.size))
                      clear hb9
                      go_wp2
                      refine ⟨⟨r + 1, by omega, by simp, _, rfl, (fun h => ?_), hb10.out⟩, by simp [intOf]; omega⟩
                      rcases Nat.lt_or_ge k0 r with h1 | h1
                      · have := htb0.out h1
                        cases this
                      · obtain ⟨g1, g2, g3, g4, g5⟩ := hsame.out (by omega)
                        exact htb g1 g2 g3 g4 g5
                    · go_wp2
                      refine regionL 10 (fun _ => True) mixed trivial (fun hHeld => ?_)
                      refine pickA (v := ?_) 0 (some 98) rfl rfl (by kernel_rfl) (by kernel_rfl) (by kernel_rfl) (by decide) (fun _ _ _ h => h) (by rfl) ?_ (by assumption) ?_
                      rotate_left
                      · intro w'
                        go_simp
                        try with_reducible rfl
                      try simp only [Act.put, List.setIfInBounds_toArray, List.set_cons_zero, List.set_cons_succ]
                      refine pickA (v := ?_) 1 (some 99) rfl rfl (by kernel_rfl) (by kernel_rfl) (by kernel_rfl) (by decide) (fun _ _ _ h => h) (by rfl) ?_ (by assumption) ?_
                      rotate_left
                      · intro w'
                        go_simp
                        try with_reducible rfl
                      try simp only [Act.put, List.setIfInBounds_toArray, List.set_cons_zero, List.set_cons_succ]
                      refine pickN 2 (some 100) rfl rfl (by kernel_rfl) (by kernel_rfl) (by kernel_rfl) (by decide) (fun _ _ _ h => h) (by rfl) (by assumption) ?_
                      try simp only [Act.put, List.setIfInBounds_toArray, List.set_cons_zero, List.set_cons_succ]
                      refine pickN 3 (some 101) rfl rfl (by kernel_rfl) (by kernel_rfl) (by kernel_rfl) (by decide) (fun _ _ _ h => h) (by rfl) (by assumption) ?_
                      try simp only [Act.put, List.setIfInBounds_toArray, List.set_cons_zero, List.set_cons_succ]
                      refine pickN 4 (some 102) rfl rfl (by kernel_rfl) (by kernel_rfl) (by kernel_rfl) (by decide) (fun _ _ _ h => h) (by rfl) (by assumption) ?_
                      try simp only [Act.put, List.setIfInBounds_toArray, List.set_cons_zero, List.set_cons_succ]
                      refine pickN 5 (some 103) rfl rfl (by kernel_rfl) (by kernel_rfl) (by kernel_rfl) (by decide) (fun _ _ _ h => h) (by rfl) (by assumption) ?_
                      try simp only [Act.put, List.setIfInBounds_toArray, List.set_cons_zero, List.set_cons_succ]
                      refine pickN 6 (some 104) rfl rfl (by kernel_rfl) (by kernel_rfl) (by kernel_rfl) (by decide) (fun _ _ _ h => h) (by rfl) (by assumption) ?_
                      try simp only [Act.put, List.setIfInBounds_toArray, List.set_cons_zero, List.set_cons_succ]
                      refine pickN 7 (some 105) rfl rfl (by kernel_rfl) (by kernel_rfl) (by kernel_rfl) (by decide) (fun _ _ _ h => h) (by rfl) (by assumption) ?_
                      try simp only [Act.put, List.setIfInBounds_toArray, List.set_cons_zero, List.set_cons_succ]
                      refine pickA (v := ?_) 8 (some 106) rfl rfl (by kernel_rfl) (by kernel_rfl) (by kernel_rfl) (by decide) (fun _ _ _ h => h) (by rfl) ?_ (by assumption) ?_
                      rotate_left
                      · intro w'
                        go_simp
                        try with_reducible rfl
                      try simp only [Act.put, List.setIfInBounds_toArray, List.set_cons_zero, List.set_cons_succ]
                      refine pickA (v := ?_) 9 (some 12) rfl rfl (by kernel_rfl) (by kernel_rfl) (by kernel_rfl) (by decide) (fun _ _ _ h => h) (by rfl) ?_ (by assumption) ?_
                      rotate_left
                      · intro w'
                        go_simp
                        try with_reducible rfl
                      try simp only [Act.put, List.setIfInBounds_toArray, List.set_cons_zero, List.set_cons_succ]
                      refine doneL (by kernel_rfl) ?_ _
                      go_wp2
                      exact ⟨⟨r + 1, by omega, by simp, _, rfl, fun _ => rfl, hbq.out.trans (((Below.refl _ wq).drew).mono hbq.out.size)⟩, by simp [intOf]; omega⟩
                  · cases tb
                    · have := htb0.out (by have := hk0al.out; omega)
                      cases this
                    · have ON8 := hide (ON.out.bel hbq.out)
                      have IX8 := hide (IX.out.below hbq.out)
                      have BY8 := hide (BY.out.below hbq.out)
                      have sz8 := hide hbq.out.size
                      clear htb0
                      replace hbq := True.intro
                      clear IX BY
                      rcases BY8.out.blk with hza | ⟨q, qcur, hza, hqh⟩
                      · have hz0 : zn = 0 := by
                          rcases BY8.out.rd with ⟨-, h⟩ | ⟨ad, h, -⟩
                          · rw [← hzn.out, ← nums_len, h]; rfl
                          · rw [hza] at h; cases h
                        subst hz0
                        subst hza
                        have hc4 : wq.cell? ⟨X, 4, none⟩ = some (.slice none 0 zc) := IX8.out.cell 4
                        clear hzrd0
                        go_wp2
                        go_loopw [14] (fun i w8 => i = .int .i64 0 ∧ w8 = wq) (fun _ _ => 0)
                        case atStart => exact ⟨rfl, rfl⟩
                        case round =>
                          obtain ⟨rfl, rfl⟩ := hrel
                          go_wp2
                          exact ⟨⟨j + 1, by omega, by simp, _, _, _, _, _, ON8.out, by omega⟩, by simp [intOf]; omega⟩
                      · subst hza
                        have hqX : q ≠ X := fun h => by
                          have := IX8.out
                          unfold IsB at this
                          rw [← h, hqh] at this
                          injection this with this
                          injection this with _ this
                          cases this
                        have hc4 : wq.cell? ⟨X, 4, none⟩ = some (.slice (some ⟨q, 0, none⟩) zn zc) := IX8.out.cell 4
                        have RB : Hid (Rw wq 5 1 (.slice (some ⟨q, 0, none⟩) zn zc) zn (u8s (nums zs))) := by
                          have h1 := BY8.out.1
                          have h2 : (nums zs).length = zn := by rw [nums_len]; exact hzn.out
                          rw [h2] at h1
                          exact h1
                        have hq1 : Hid (w1.heap.size ≤ q) := hzf.out ⟨q, 0, none⟩ rfl
                        have hqo : Hid (∀ p ∈ ps, p.off q) := hzo.out ⟨q, 0, none⟩ rfl
                        go_wp2
                        go_loopw [14] (fun i w8 => ∃ t : Nat, t ≤ zn ∧ i = .int .i64 (t : Int) ∧ Turn q zn zc wq w8) (fun i _ => zn - (intOf i).toNat)
                        case atStart => exact ⟨0, by omega, rfl, Kp.refl _ _, nums zs, by rw [nums_len]; exact hzn.out, RB.out⟩
                        case round =>
                          obtain ⟨t, ht, rfl, hTu⟩ := hrel
                          replace hTu := hide hTu
                          rename World => wr'
                          have hx4 : wr'.cell? ⟨X, 4, none⟩ = some (.slice (some ⟨q, 0, none⟩) zn zc) := ((IX8.out.kp hTu.out.1 (by simpa using Ne.symm hqX)).cell 4)
                          by_cases htn : t < zn
                          · obtain ⟨y, hy, hfz, hnext⟩ := hTu.out.step t htn
                            replace hnext := hide hnext
                            go_wp2
                            refine regionL 10 (fun w' => w'.cell? ⟨X, 4, none⟩ = some (.slice (some ⟨q, 0, none⟩) zn zc) ∧ w'.cell? ⟨q, t, none⟩ = some (.int .u8 y)) mixed ⟨hx4, hy⟩ (fun hHeld => ?_)
                            refine pickA (v := ?_) 0 (some 116) rfl rfl (by kernel_rfl) (by kernel_rfl) (by kernel_rfl) (by decide) (fun _ _ _ h => h) (by rfl) ?_ (by assumption) ?_
                            rotate_left
                            · intro w'
                              go_simp
                              try with_reducible rfl
                            try simp only [Act.put, List.setIfInBounds_toArray, List.set_cons_zero, List.set_cons_succ]
                            refine pickL (v := ?_) 1 (some 117) rfl rfl (by kernel_rfl) (by kernel_rfl) (by kernel_rfl) (by decide) (by kernel_rfl) (by kernel_rfl) (fun _ _ _ h => h) (by rfl) ?_ (by assumption) ?_
                            rotate_left
                            · intro w' hSw
                              obtain ⟨g0, g1⟩ := hSw
                              go_simp
                              try with_reducible rfl
                            try simp only [Act.put, List.setIfInBounds_toArray, List.set_cons_zero, List.set_cons_succ]
                            refine pickA (v := ?_) 2 (some 118) rfl rfl (by kernel_rfl) (by kernel_rfl) (by kernel_rfl) (by decide) (fun _ _ _ h => h) (by rfl) ?_ (by assumption) ?_
                            rotate_left
                            · intro w'
                              go_simp
                              try with_reducible rfl
                            try simp only [Act.put, List.setIfInBounds_toArray, List.set_cons_zero, List.set_cons_succ]
                            refine pickA (v := ?_) 3 (some 119) rfl rfl (by kernel_rfl) (by kernel_rfl) (by kernel_rfl) (by decide) (fun _ _ _ h => h) (by rfl) ?_ (by assumption) ?_
                            rotate_left
                            · intro w'
                              go_simp
                              try with_reducible rfl
                            try simp only [Act.put, List.setIfInBounds_toArray, List.set_cons_zero, List.set_cons_succ]
                            refine pickL (v := ?_) 4 (some 120) rfl rfl (by kernel_rfl) (by kernel_rfl) (by kernel_rfl) (by decide) (by kernel_rfl) (by kernel_rfl) (fun _ _ _ h => h) (by rfl) ?_ (by assumption) ?_
                            rotate_left
                            · intro w' hSw
                              obtain ⟨g0, g1⟩ := hSw
                              go_simp
                              try with_reducible rfl
                            try simp only [Act.put, List.setIfInBounds_toArray, List.set_cons_zero, List.set_cons_succ]
                            refine pickA (v := ?_) 5 (some 121) rfl rfl (by kernel_rfl) (by kernel_rfl) (by kernel_rfl) (by decide) (fun _ _ _ h => h) (by rfl) ?_ (by assumption) ?_
                            rotate_left
                            · intro w'
                              go_simp
                              try with_reducible rfl
                            try simp only [Act.put, List.setIfInBounds_toArray, List.set_cons_zero, List.set_cons_succ]
                            refine pickA (v := ?_) 6 (some 122) rfl rfl (by kernel_rfl) (by kernel_rfl) (by kernel_rfl) (by decide) (fun _ _ _ h => h) (by rfl) ?_ (by assumption) ?_
                            rotate_left
                            · intro w'
                              go_simp
                              try with_reducible rfl
                            try simp only [Act.put, List.setIfInBounds_toArray, List.set_cons_zero, List.set_cons_succ]
                            refine pickL (v := ?_) 7 (some 123) rfl rfl (by kernel_rfl) (by kernel_rfl) (by kernel_rfl) (by decide) (by kernel_rfl) (by kernel_rfl) (fun _ _ _ h => h) (by rfl) ?_ (by assumption) ?_
                            rotate_left
                            · intro w' hSw
                              obtain ⟨g0, g1⟩ := hSw
                              go_simp
                              try with_reducible rfl
                            try simp only [Act.put, List.setIfInBounds_toArray, List.set_cons_zero, List.set_cons_succ]
                            refine pickA (v := ?_) 8 (some 124) rfl rfl (by kernel_rfl) (by kernel_rfl) (by kernel_rfl) (by decide) (fun _ _ _ h => h) (by rfl) ?_ (by assumption) ?_
                            rotate_left
                            · intro w'
                              go_simp
                              try with_reducible rfl
                            try simp only [Act.put, List.setIfInBounds_toArray, List.set_cons_zero, List.set_cons_succ]
                            refine pickA (v := ?_) 9 (some 125) rfl rfl (by kernel_rfl) (by kernel_rfl) (by kernel_rfl) (by decide) (fun _ _ _ h => h) (by rfl) ?_ (by assumption) ?_
                            rotate_left
                            · intro w'
                              go_simp
                              try with_reducible rfl
                            try simp only [Act.put, List.setIfInBounds_toArray, List.set_cons_zero, List.set_cons_succ]
                            refine lateL (i := 10) (by kernel_rfl) rfl (by decide) (by kernel_rfl) (fun K hK => ?_)
                            go_simp
                            refine hK.out _ _ ?_
                            clear hK K
                            try simp only [Act.put]
                            refine doneL (by kernel_rfl) ?_ _
                            go_wp2
                            exact ⟨⟨t + 1, by omega, by simp, (hnext.out _).drew'⟩, by simp [intOf]; omega⟩
                          · go_wp2
                            exact ⟨⟨j + 1, by omega, by simp, _, _, _, _, _, ON8.out.kq hTu.out.1 hq1.out ⟨qcur, hqh⟩ hqo.out, by omega⟩, by simp [intOf]; omega⟩
              · have hin' : inR ps.length I = false := by simpa using hin
                clear hin
                go_wp2_with fail
                refine (twin_bad b m _ _ _ k _ O3.out.nx.ns I hin').mono ?_; rintro e w4 ⟨rfl, hb4⟩
                unfold zeroE
                have O4 := hide ((O3.out.bel hb4).bel ((Below.refl w4.heap.size w4).alloc (Nat.le_refl _) (.cells #[.bool false, .int .i64 0, .bool false, .int .i64 0, .slice none 0 0] 35)))
                have I4 := hide (IsB.new w4 #[.bool false, .int .i64 0, .bool false, .int .i64 0, .slice none 0 0] 35)
                have bel34 := ((Below.refl w2.heap.size w2).alloc (Nat.le_refl _) (.cells #[.bool fa, .int .i64 fn, .bool ta, .int .i64 tn, .slice pa bs.length pc] 35)).trans (hb4.mono (by simp))
                have o0 : w4.cell? ⟨OB, 0, none⟩ = some (.int .i64 3) := (bel34.cell (by exact olt)).trans q0
                have o6 : w4.cell? ⟨OB, 6, none⟩ = some (.int .i64 I) := (bel34.cell (by exact olt)).trans q6
                have o4lt : OB < w4.heap.size := Nat.lt_of_lt_of_le olt bel34.size
                have Ob := O3.out.bel hb4
                have NF : w4.heap.size ∉ foot b m v := fun hm => by have := Ob.nx.ns.lt _ hm; omega
                have HX : w1.heap.size ≤ w4.heap.size := Ob.nx.kp.size
                have NU : (Value.slice ua al uc).ownBlock ≠ some w4.heap.size := fun e => by have := (Ob.row.lt _ e).1; omega
                replace NF := hide NF
                replace HX := hide HX
                replace NU := hide NU
                clear hb4 O3 bel34 Ob
                go_wp2
                generalize w4.heap.size = X at *
                generalize w4.alloc (.cells #[.bool false, .int .i64 0, .bool false, .int .i64 0, .slice none 0 0] 35) = W7 at *
                have ON := O4
                have IX := I4
                clear o0 o6 o4lt
                go_loopw [12, 13] (fun tt i wq => ∃ r : Nat, r ≤ al ∧ i = .int .i64 (r : Int) ∧ ∃ tb, tt = .bool tb ∧ Hid (tb = true) ∧ Hid (Below W7.heap.size W7 wq)) (fun _ i _ => al - (intOf i).toNat)
                case atStart => exact ⟨0, by omega, rfl, _, rfl, rfl, Below.refl _ _⟩
                case round =>
                  obtain ⟨r, hr, rfl, tb, rfl, htb0, hbq⟩ := hrel
                  rename World => wq
                  by_cases hral : r < al
                  · cases tb
                    · have := htb0.out
                      cases this
                    · go_wp2
                      refine regionL 10 (fun _ => True) mixed trivial (fun hHeld => ?_)
                      refine pickA (v := ?_) 0 (some 98) rfl rfl (by kernel_rfl) (by kernel_rfl) (by kernel_rfl) (by decide) (fun _ _ _ h => h) (by rfl) ?_ (by assumption) ?_
                      rotate_left
                      · intro w'
                        go_simp
                        try with_reducible rfl
                      try simp only [Act.put, List.setIfInBounds_toArray, List.set_cons_zero, List.set_cons_succ]
                      refine pickA (v := ?_) 1 (some 99) rfl rfl (by kernel_rfl) (by kernel_rfl) (by kernel_rfl) (by decide) (fun _ _ _ h => h) (by rfl) ?_ (by assumption) ?_
                      rotate_left
                      · intro w'
                        go_simp
                        try with_reducible rfl
                      try simp only [Act.put, List.setIfInBounds_toArray, List.set_cons_zero, List.set_cons_succ]
                      refine pickN 2 (some 100) rfl rfl (by kernel_rfl) (by kernel_rfl) (by kernel_rfl) (by decide) (fun _ _ _ h => h) (by rfl) (by assumption) ?_
                      try simp only [Act.put, List.setIfInBounds_toArray, List.set_cons_zero, List.set_cons_succ]
                      refine pickN 3 (some 101) rfl rfl (by kernel_rfl) (by kernel_rfl) (by kernel_rfl) (by decide) (fun _ _ _ h => h) (by rfl) (by assumption) ?_
                      try simp only [Act.put, List.setIfInBounds_toArray, List.set_cons_zero, List.set_cons_succ]
                      refine pickN 4 (some 102) rfl rfl (by kernel_rfl) (by kernel_rfl) (by kernel_rfl) (by decide) (fun _ _ _ h => h) (by rfl) (by assumption) ?_
                      try simp only [Act.put, List.setIfInBounds_toArray, List.set_cons_zero, List.set_cons_succ]
                      refine pickN 5 (some 103) rfl rfl (by kernel_rfl) (by kernel_rfl) (by kernel_rfl) (by decide) (fun _ _ _ h => h) (by rfl) (by assumption) ?_
                      try simp only [Act.put, List.setIfInBounds_toArray, List.set_cons_zero, List.set_cons_succ]
                      refine pickN 6 (some 104) rfl rfl (by kernel_rfl) (by kernel_rfl) (by kernel_rfl) (by decide) (fun _ _ _ h => h) (by rfl) (by assumption) ?_
                      try simp only [Act.put, List.setIfInBounds_toArray, List.set_cons_zero, List.set_cons_succ]
                      refine pickN 7 (some 105) rfl rfl (by kernel_rfl) (by kernel_rfl) (by kernel_rfl) (by decide) (fun _ _ _ h => h) (by rfl) (by assumption) ?_
                      try simp only [Act.put, List.setIfInBounds_toArray, List.set_cons_zero, List.set_cons_succ]
                      refine pickA (v := ?_) 8 (some 106) rfl rfl (by kernel_rfl) (by kernel_rfl) (by kernel_rfl) (by decide) (fun _ _ _ h => h) (by rfl) ?_ (by assumption) ?_
                      rotate_left
                      · intro w'
                        go_simp
                        try with_reducible rfl
                      try simp only [Act.put, List.setIfInBounds_toArray, List.set_cons_zero, List.set_cons_succ]
                      refine pickA (v := ?_) 9 (some 12) rfl rfl (by kernel_rfl) (by kernel_rfl) (by kernel_rfl) (by decide) (fun _ _ _ h => h) (by rfl) ?_ (by assumption) ?_
                      rotate_left
                      · intro w'
                        go_simp
                        try with_reducible rfl
                      try simp only [Act.put, List.setIfInBounds_toArray, List.set_cons_zero, List.set_cons_succ]
                      refine doneL (by kernel_rfl) ?_ _
                      go_wp2
                      exact ⟨⟨r + 1, by omega, by simp, _, rfl, rfl, hbq.out.trans (((Below.refl _ wq).drew).mono hbq.out.size)⟩, by simp [intOf]; omega⟩
                  · cases tb
                    · have := htb0.out
                      cases this
                    · have ON8 := hide (ON.out.bel hbq.out)
                      have IX8 := hide (IX.out.below hbq.out)
                      clear htb0
                      replace hbq := True.intro
                      clear IX
                      have hc4 : wq.cell? ⟨X, 4, none⟩ = some (.slice none 0 0) := IX8.out.cell 4
                      go_wp2
                      go_loopw [14] (fun i w8 => i = .int .i64 0 ∧ w8 = wq) (fun _ _ => 0)
                      case atStart => exact ⟨rfl, rfl⟩
                      case round =>
                        obtain ⟨rfl, rfl⟩ := hrel
                        go_wp2
                        exact ⟨⟨j + 1, by omega, by simp, _, _, _, _, _, ON8.out, by omega⟩, by simp [intOf]; omega⟩
            · skip
              by_cases k5 : kd = 5
              · subst k5
                have O3 := hide (O2.out.bel ((Below.refl w2.heap.size w2).alloc (Nat.le_refl _) (.cells #[.bool fa, .int .i64 fn, .bool ta, .int .i64 tn, .slice pa bs.length pc] 35)))
                by_cases hin : (inR ps.length I && inR ps.length KK) = true
                · rw [Bool.and_eq_true] at hin
                  obtain ⟨i, rfl, hi⟩ := inR_nat2 hin.1
                  obtain ⟨i', rfl, hi'⟩ := inR_nat2 hin.2
                  clear hin
                  go_wp2_with fail
                  refine (swap_ok b m _ _ _ k _ O3.out.nx.ns i i' hi hi').mono ?_; rintro e w3 ⟨rfl, hx3⟩
                  have ON := hide (O3.out.call hx3 (Nat.le_refl _) (fun p hp => O3.out.link p (swp_mem hi hi' hp)))
                  clear hx3 O3
                  go_wp2
                  exact ⟨⟨j + 1, by omega, by simp, _, _, _, _, _, ON.out, by omega⟩, by simp [intOf]; omega⟩
                · have hin' : (inR ps.length I && inR ps.length KK) = false := by simpa using hin
                  clear hin
                  go_wp2_with fail
                  refine (swap_bad b m _ _ _ k _ O3.out.nx.ns I KK hin').mono ?_; rintro e w3 ⟨rfl, hb⟩
                  have ON := hide (O3.out.bel hb)
                  clear hb O3
                  go_wp2
                  exact ⟨⟨j + 1, by omega, by simp, _, _, _, _, _, ON.out, by omega⟩, by simp [intOf]; omega⟩
              · skip
                have ON := hide (O2.out.bel ((Below.refl w2.heap.size w2).alloc (Nat.le_refl _) (.cells #[.bool fa, .int .i64 fn, .bool ta, .int .i64 tn, .slice pa bs.length pc] 35)))
                go_wp2
                exact ⟨⟨j + 1, by omega, by simp, _, _, _, _, _, ON.out, by omega⟩, by simp [intOf]; omega⟩
      · go_wp2_with fail
        refine (alive_any wr).mono ?_; rintro e w9 ⟨rfl, hb⟩
        have HB9 := hide (HBw.out.trans (hb.mono HBw.out.size))
        clear hb
        go_wp2
        go_ret
        exact ⟨rfl, HB9.out⟩
    · go_wp2_with fail
      refine (alive_any wr).mono ?_; rintro e w9 ⟨rfl, hb⟩
      have HB9 := hide (HBw.out.trans (hb.mono HBw.out.size))
      clear hb
      go_wp2
      go_ret
      exact ⟨rfl, HB9.out⟩

end Go.Proofs.Ytjfjogoojfibiaa
