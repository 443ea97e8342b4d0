/- The document's asked: what a call that does not write is told. -/
import Derived.Test.YtfnpapaibgbjpaaYE
namespace Go.Proofs.Ytfnpapaibgbjpaa
open Go.RowKit Go.Maps

/-- A result that can be read. -/
structure RsRd (w : World) (r : Rs) : Prop where
  rd : Rd8 w r.va r.vb
  vn : r.va = none → r.vc = 0
  it : Sl w (.slice r.ia r.il.length r.ic) r.il
theorem RsRd.below {w w' : World} {r : Rs} (h : RsRd w r) (hb : Below w.heap.size w w') : RsRd w' r := ⟨h.rd.below hb, h.vn, h.it.below hb⟩
theorem RsOk.rd {w : World} {base : Nat} {r : Rs} (h : RsOk w base r) : RsRd w r := ⟨h.by_.rd, h.vn, h.it.sl⟩
theorem RsRd.plain (w : World) (e : Int) : RsRd w ⟨e, 0, none, 0, [], none, 0, [], false⟩ := (RsOk.plain w 0 e).rd
/-- A result of the document's: its bytes are an item's, its items lie in a row of its own. -/
structure RsD (w w' : World) (l : List It) (r : Rs) : Prop where
  vb : (r.va = none ∧ r.vc = 0 ∧ r.vb = []) ∨ ∃ it ∈ l, it.a = r.va ∧ it.c = r.vc ∧ it.bs = r.vb
  row : Rw w' 61 2 (.slice r.ia r.il.length r.ic) r.il.length (its r.il)
  new : ∀ k, (Value.slice r.ia r.il.length r.ic).ownBlock = some k → w.heap.size ≤ k
  mem : ∀ it ∈ r.il, it ∈ l
theorem RsD.plain (w w' : World) (l : List It) (e : Int) : RsD w w' l ⟨e, 0, none, 0, [], none, 0, [], false⟩ := ⟨Or.inl ⟨rfl, rfl, rfl⟩, ⟨rfl, Or.inl ⟨rfl, rfl⟩⟩, fun k hk => (by cases hk), by simp⟩
theorem RsD.rd {w w5 w7 w8 : World} {l : List It} {r : Rs} {b : Nat} (h : RsD w5 w7 l r) (hk : Kp [b] w7 w8) (hb : b < w5.heap.size) (hl : ∀ it ∈ l, RdI w it) (B8 : Below w.heap.size w w8) : RsRd w8 r := by
  refine ⟨?_, ?_, (h.row.kp hk (fun k hv hm => by simp at hm; have := h.new k hv; omega)).sl (fun it hi => (hl it (h.mem it hi)).below B8)⟩
  · rcases h.vb with ⟨h1, -, h3⟩ | ⟨it, hi, h1, -, h3⟩
    · exact Or.inl ⟨h1, h3⟩
    · rw [← h1, ← h3]; exact (hl it hi).1.below B8
  · rcases h.vb with ⟨h1, h2, -⟩ | ⟨it, hi, h1, h2, -⟩
    · exact fun _ => h2
    · intro h9
      rw [← h2]
      exact (hl it hi).2 (h1.trans h9)
theorem filter_range {l : List It} (ho : okM l) (low high : Int) : l.filter (fun it => decide (low ≤ it.k) && decide (it.k ≤ high)) = (l.drop (pl low l)).take (cnt l low high) := by
  have e : l = l.take (pl low l) ++ ((l.drop (pl low l)).take (cnt l low high) ++ (l.drop (pl low l)).drop (cnt l low high)) := by rw [List.take_append_drop, List.take_append_drop]
  have hp := pl_le low l
  have hc := cnt_le l low high
  conv => lhs; rw [e]
  rw [List.filter_append, List.filter_append]
  have f1 : (l.take (pl low l)).filter (fun it => decide (low ≤ it.k) && decide (it.k ≤ high)) = [] := by
    rw [List.filter_eq_nil_iff]
    intro it hi
    have := pl_lt it hi
    simp
    omega
  have f2 : ((l.drop (pl low l)).take (cnt l low high)).filter (fun it => decide (low ≤ it.k) && decide (it.k ≤ high)) = (l.drop (pl low l)).take (cnt l low high) := by
    rw [List.filter_eq_self]
    intro it hi
    obtain ⟨j, hj, rfl⟩ := List.getElem_of_mem hi
    rw [List.length_take, List.length_drop] at hj
    rw [List.getElem_take, List.getElem_drop]
    have h1 := (low_iff ho low (pl low l + j) (by omega)).2 (by omega)
    have h2 := (high_iff ho low high (pl low l + j) (by omega) (by omega)).2 (by omega)
    simp [h1, h2]
  have f3 : ((l.drop (pl low l)).drop (cnt l low high)).filter (fun it => decide (low ≤ it.k) && decide (it.k ≤ high)) = [] := by
    rw [List.filter_eq_nil_iff]
    intro it hi
    obtain ⟨j, hj, rfl⟩ := List.getElem_of_mem hi
    rw [List.length_drop, List.length_drop] at hj
    rw [List.getElem_drop, List.getElem_drop]
    have h2 := (high_iff ho low high (pl low l + (cnt l low high + j)) (by omega) (by omega))
    simp
    intro _
    apply Int.lt_of_not_ge
    intro hle
    have := h2.1 hle
    omega
  rw [f1, f2, f3]
  simp
theorem cnt_max {l : List It} (low : Int) (hk : ∀ it ∈ l, it.k ≤ 18446744073709551615) : (l.drop (pl low l)).take (cnt l low 18446744073709551615) = l.drop (pl low l) := by
  apply List.take_of_length_le
  unfold cnt
  rw [show ph 18446744073709551615 (l.drop (pl low l)) = (l.drop (pl low l)).length from tw_len _ _ (Nat.le_refl _) (fun q hq _ => by simpa using hk _ (List.mem_of_mem_drop (List.getElem_mem hq))) (fun h => absurd h (Nat.lt_irrefl _))]
  exact Nat.le_refl _
theorem cnt_one {l : List It} (ho : okM l) (key : Int) : (l.drop (pl key l)).take (cnt l key key) = if th l key then [l[pl key l]?.getD ⟨0, none, 0, []⟩] else [] := by
  cases ht : th l key with
  | true =>
    have hlt := th_lt ht
    have hk : l[pl key l].k = key := by
      unfold th at ht
      rw [List.getElem?_eq_getElem hlt] at ht
      simpa using ht
    have hc : cnt l key key = 1 := by
      unfold cnt
      refine tw_len _ _ (by rw [List.length_drop]; omega) (fun q hq hq1 => ?_) (fun h => ?_)
      · have e : (l.drop (pl key l))[q] = l[pl key l] := by
          rw [List.getElem_drop]
          congr 1
          omega
        rw [e, hk]
        simp
      · rw [List.getElem_drop]
        rw [List.length_drop] at h
        have := okM_lt2 ho (i := pl key l) (j := pl key l + 1) (by omega) (by omega)
        simp
        omega
    rw [hc, List.drop_eq_getElem_cons hlt, List.getElem?_eq_getElem hlt]
    rfl
  | false =>
    have hc : cnt l key key = 0 := by
      unfold cnt
      refine tw_len _ _ (by omega) (fun q hq hq1 => by omega) (fun h => ?_)
      have h9 := pl_gt ho ht _ (List.getElem_mem h)
      exact decide_eq_false (by omega)
    rw [hc]
    simp

set_option maxHeartbeats 1000000 in
theorem err_any (e : Int) (w : World) : Calls Try.prog 40 #[.int .i64 e] w fun e' w' => e' = .returned (.agg #[.int .i64 e, .int .u64 0, .slice none 0 0, .slice none 0 0, .int .i64 0, .int .i64 0, .int .u64 0, .int .i64 0, .int .u64 0, .int .i64 0, .int .i64 0, .int .u64 0, .int .i64 0, .int .u64 0, .bool false]) ∧ Below w.heap.size w w' := by
  go_enter Try.func40, Try.ntmps40
  go_wp2
  refine ret_res (p := 2) (b := w.heap.size) Try.results40 rfl rfl (IsB.new w #[.int .i64 e, .int .u64 0, .slice none 0 0, .slice none 0 0, .int .i64 0, .int .i64 0, .int .u64 0, .int .i64 0, .int .u64 0, .int .i64 0, .int .i64 0, .int .u64 0, .int .i64 0, .int .u64 0, .bool false] 46) ?_
  exact ⟨rfl, (Below.refl _ w).alloc (Nat.le_refl _) _⟩

set_option maxHeartbeats 1000000 in
set_option maxRecDepth 100000 in
theorem asked_3 (v : Value) (l : List It) (hl : l.length ≤ 100000) (ho : okM l) (key high : Int) (ca : Option Addr) (cn cc : Nat) (w : World) (h : Sl w v l) :
    Calls Try.prog 43 #[v, .agg #[.int .i64 3, .int .u64 key, .int .u64 high, .slice ca cn cc]] w fun e w' => ∃ r : Rs, e = .returned (.agg r.cells) ∧ r.val = tl l 3 key high ∧ RsD w w' l r ∧ Below w.heap.size w w' := by
  have mixed : Try.prog.follows .mixedOrders = true := by kernel_rfl
  have b1 := ((Below.refl w.heap.size w).alloc (Nat.le_refl _) (.cells #[.int .i64 3, .int .u64 key, .int .u64 high, .slice ca cn cc] 27)).alloc (by simp) (.cells #[.int .i64 0, .int .u64 0, .slice none 0 0, .slice none 0 0, .int .i64 0, .int .i64 0, .int .u64 0, .int .i64 0, .int .u64 0, .int .i64 0, .int .i64 0, .int .u64 0, .int .i64 0, .int .u64 0, .bool false] 46)
  have I0 : Hid (IsB ((w.alloc (.cells #[.int .i64 3, .int .u64 key, .int .u64 high, .slice ca cn cc] 27)).alloc (.cells #[.int .i64 0, .int .u64 0, .slice none 0 0, .slice none 0 0, .int .i64 0, .int .i64 0, .int .u64 0, .int .i64 0, .int .u64 0, .int .i64 0, .int .i64 0, .int .u64 0, .int .i64 0, .int .u64 0, .bool false] 46)) w.heap.size #[.int .i64 3, .int .u64 key, .int .u64 high, .slice ca cn cc] 27) := (IsB.new w #[.int .i64 3, .int .u64 key, .int .u64 high, .slice ca cn cc] _).below ((Below.refl _ _).alloc (Nat.le_refl _) _)
  have I1 : Hid (IsB ((w.alloc (.cells #[.int .i64 3, .int .u64 key, .int .u64 high, .slice ca cn cc] 27)).alloc (.cells #[.int .i64 0, .int .u64 0, .slice none 0 0, .slice none 0 0, .int .i64 0, .int .i64 0, .int .u64 0, .int .i64 0, .int .u64 0, .int .i64 0, .int .i64 0, .int .u64 0, .int .i64 0, .int .u64 0, .bool false] 46)) (w.heap.size + 1) #[.int .i64 0, .int .u64 0, .slice none 0 0, .slice none 0 0, .int .i64 0, .int .i64 0, .int .u64 0, .int .i64 0, .int .u64 0, .int .i64 0, .int .i64 0, .int .u64 0, .int .i64 0, .int .u64 0, .bool false] 46) := by
    have := IsB.new (w.alloc (.cells #[.int .i64 3, .int .u64 key, .int .u64 high, .slice ca cn cc] 27)) #[.int .i64 0, .int .u64 0, .slice none 0 0, .slice none 0 0, .int .i64 0, .int .i64 0, .int .u64 0, .int .i64 0, .int .u64 0, .int .i64 0, .int .i64 0, .int .u64 0, .int .i64 0, .int .u64 0, .bool false] 46
    rwa [World.size_alloc] at this
  have BT := hide (rbetween_any v l hl key key _ (h.below b1))
  have HB := hide b1
  have hbs0 : Hid (w.heap.size + 1 < ((w.alloc (.cells #[.int .i64 3, .int .u64 key, .int .u64 high, .slice ca cn cc] 27)).alloc (.cells #[.int .i64 0, .int .u64 0, .slice none 0 0, .slice none 0 0, .int .i64 0, .int .i64 0, .int .u64 0, .int .i64 0, .int .u64 0, .int .i64 0, .int .i64 0, .int .u64 0, .int .i64 0, .int .u64 0, .bool false] 46)).heap.size) := by show _ < _; simp
  clear h b1
  have c0 := I0.out.cell 0
  have c1 := I0.out.cell 1
  have c2 := I0.out.cell 2
  simp at c0 c1 c2
  go_enter Try.func43, Try.ntmps43
  go_wp2_with fail
  generalize ((w.alloc (.cells #[.int .i64 3, .int .u64 key, .int .u64 high, .slice ca cn cc] 27)).alloc (.cells #[.int .i64 0, .int .u64 0, .slice none 0 0, .slice none 0 0, .int .i64 0, .int .i64 0, .int .u64 0, .int .i64 0, .int .u64 0, .int .i64 0, .int .i64 0, .int .u64 0, .int .i64 0, .int .u64 0, .bool false] 46)) = W2 at *
  generalize hH : w.heap.size = H at I0 I1 hbs0 ⊢
  replace hH := hide hH
  refine BT.out.mono ?_
  rintro e w1 ⟨vb, rfl, hS⟩
  have hb := hS.bel
  have HBL : Hid (∀ it ∈ l.filter (fun it => decide (key ≤ it.k) && decide (it.k ≤ key)), it ∈ l) := fun it hi => (List.mem_filter.1 hi).1
  have HNW : Hid (∀ k, vb.ownBlock = some k → H + 1 < k) := fun k hk => by have h9 := hS.new k hk; have := hbs0.out; omega
  have J0 := hide (I0.out.below hb)
  have J1 := hide (I1.out.below hb)
  have SB := hide hS
  have JB := hide (HB.out.trans (hb.mono HB.out.size))
  have hbs : Hid (H + 1 < w1.heap.size) := Nat.lt_of_lt_of_le hbs0.out hb.size
  clear hb BT I0 I1 HB hS c0 c1 c2 hbs0
  have j0 := J0.out.cell 0
  simp at j0
  rw [filter_range ho, cnt_one ho key] at SB HBL
  have HV0 : Hid (∀ bl : List It, bl = (if th l key then [l[pl key l]?.getD ⟨0, none, 0, []⟩] else []) → tl l 3 key high = (match bl with | [] => (101, 0, [], [], false) | it :: _ => (0, it.k, it.bs, [], true))) := fun bl hbl => by
    cases ht : th l key with
    | true =>
      have hlt := th_lt ht
      rw [ht] at hbl
      subst hbl
      simp [tl, ht, List.getElem?_eq_getElem hlt]
    | false =>
      rw [ht] at hbl
      subst hbl
      simp [tl, ht]
  generalize hbl : (if th l key then [l[pl key l]?.getD ⟨0, none, 0, []⟩] else []) = bl at SB HBL
  replace HV0 := hide (HV0.out bl hbl.symm)
  clear hbl
  obtain ⟨ba, bc, rfl, -, -⟩ := SB.out.sl.shape
  cases bl with
  | nil =>
    have HV : Hid (Rs.val ⟨101, 0, none, 0, [], none, 0, [], false⟩ = tl l 3 key high) := by show _ = _; rw [HV0.out]; rfl
    simp only [List.length_nil] at *
    go_wp2_with fail
    refine (err_any 101 w1).mono ?_
    rintro e w2 ⟨rfl, hb⟩
    obtain ⟨w3, hst, K3, k3⟩ := store_res (J1.out.below hb) (cs := #[.int .i64 101, .int .u64 0, .slice none 0 0, .slice none 0 0, .int .i64 0, .int .i64 0, .int .u64 0, .int .i64 0, .int .u64 0, .int .i64 0, .int .i64 0, .int .u64 0, .int .i64 0, .int .u64 0, .bool false]) rfl rfl (by kernel_rfl)
    have HST := hide hst
    have L3 := hide K3
    have B3 : Hid (Below w.heap.size w w3) := (JB.out.trans (hb.mono JB.out.size)).trans (k3.to_below (by have := hbs.out; have := hH.out; have := hb.size; omega) (by simp; have := hH.out; omega))
    clear hst K3 k3 hb
    go_wp2_with ((with_reducible refine wpList_store_w ?hw 46 (.tmp 4) (.tmp 42) ?ho ?hx ?hy HST.out ?h); (case ho => rfl); (case hw => rfl); (case hx => rfl); (case hy => rfl))
    refine ret_res (p := 4) (b := H + 1) Try.results43 rfl rfl L3.out ?_
    exact ⟨⟨101, 0, none, 0, [], none, 0, [], false⟩, rfl, HV.out, RsD.plain _ _ _ _, B3.out⟩
  | cons IT rest =>
    obtain ⟨x, xa, xc, xb⟩ := IT
    have HV : Hid (Rs.val ⟨0, x, xa, xc, xb, none, 0, [], true⟩ = tl l 3 key high) := by show _ = _; rw [HV0.out]; rfl
    have hne : (((rest.length + 1 : Nat) : Int) == 0) = false := by simp; omega
    simp only [List.length_cons] at *
    obtain ⟨g, o, c, ev, -, -, h2, h3⟩ := SB.out.sl.cells 0 (by simp)
    injection ev with ev el ec
    clear el
    subst ev ec
    simp only [List.getElem_cons_zero, Nat.zero_mul, Nat.add_zero] at h2 h3
    have RX := hide (HBL.out ⟨x, xa, xc, xb⟩ (by simp))
    generalize hxn : xb.length = xn at h3
    replace hxn := hide hxn
    go_wp2
    refine regionL 9 (fun w' => w'.cell? ⟨g, o, none⟩ = some (.int .u64 x) ∧ w'.cell? ⟨g, o + 1, none⟩ = some (.slice xa xn xc)) mixed ⟨h2, h3⟩ (fun hHeld => ?_)
    refine pickA (v := ?_) 0 (some 43) rfl rfl (by kernel_rfl) (by kernel_rfl) (by kernel_rfl) (by decide) (fun _ _ _ h => h) (by rfl) ?_ (by assumption) ?_
    rotate_left
    · intro w'
      go_simp
      try with_reducible rfl
    try simp only [Act.put, List.setIfInBounds_toArray, List.set_cons_zero, List.set_cons_succ]
    refine pickA (v := ?_) 1 (some 44) rfl rfl (by kernel_rfl) (by kernel_rfl) (by kernel_rfl) (by decide) (fun _ _ _ h => h) (by rfl) ?_ (by assumption) ?_
    rotate_left
    · intro w'
      go_simp
      try with_reducible rfl
    try simp only [Act.put, List.setIfInBounds_toArray, List.set_cons_zero, List.set_cons_succ]
    refine pickA (v := ?_) 2 (some 45) rfl rfl (by kernel_rfl) (by kernel_rfl) (by kernel_rfl) (by decide) (fun _ _ _ h => h) (by rfl) ?_ (by assumption) ?_
    rotate_left
    · intro w'
      go_simp
      try with_reducible rfl
    try simp only [Act.put, List.setIfInBounds_toArray, List.set_cons_zero, List.set_cons_succ]
    refine pickL (v := ?_) 3 (some 46) rfl rfl (by kernel_rfl) (by kernel_rfl) (by kernel_rfl) (by decide) (by kernel_rfl) (by kernel_rfl) (fun _ _ _ h => h) (by rfl) ?_ (by assumption) ?_
    rotate_left
    · intro w' hSw
      obtain ⟨q0, q1⟩ := hSw
      go_simp
      try with_reducible rfl
    try simp only [Act.put, List.setIfInBounds_toArray, List.set_cons_zero, List.set_cons_succ]
    refine pickA (v := ?_) 4 (some 47) rfl rfl (by kernel_rfl) (by kernel_rfl) (by kernel_rfl) (by decide) (fun _ _ _ h => h) (by rfl) ?_ (by assumption) ?_
    rotate_left
    · intro w'
      go_simp
      try with_reducible rfl
    try simp only [Act.put, List.setIfInBounds_toArray, List.set_cons_zero, List.set_cons_succ]
    refine pickA (v := ?_) 5 (some 48) rfl rfl (by kernel_rfl) (by kernel_rfl) (by kernel_rfl) (by decide) (fun _ _ _ h => h) (by rfl) ?_ (by assumption) ?_
    rotate_left
    · intro w'
      go_simp
      try with_reducible rfl
    try simp only [Act.put, List.setIfInBounds_toArray, List.set_cons_zero, List.set_cons_succ]
    refine pickA (v := ?_) 6 (some 49) rfl rfl (by kernel_rfl) (by kernel_rfl) (by kernel_rfl) (by decide) (fun _ _ _ h => h) (by rfl) ?_ (by assumption) ?_
    rotate_left
    · intro w'
      go_simp
      try with_reducible rfl
    try simp only [Act.put, List.setIfInBounds_toArray, List.set_cons_zero, List.set_cons_succ]
    refine pickL (v := ?_) 7 (some 50) rfl rfl (by kernel_rfl) (by kernel_rfl) (by kernel_rfl) (by decide) (by kernel_rfl) (by kernel_rfl) (fun _ _ _ h => h) (by rfl) ?_ (by assumption) ?_
    rotate_left
    · intro w' hSw
      obtain ⟨q0, q1⟩ := hSw
      go_simp
      try with_reducible rfl
    try simp only [Act.put, List.setIfInBounds_toArray, List.set_cons_zero, List.set_cons_succ]
    refine pickA (v := .agg #[.int .i64 0, .int .u64 x, .slice xa xn xc, .slice none 0 0, .int .i64 0, .int .i64 0, .int .u64 0, .int .i64 0, .int .u64 0, .int .i64 0, .int .i64 0, .int .u64 0, .int .i64 0, .int .u64 0, .bool true]) 8 (some 51) rfl rfl (by kernel_rfl) (by kernel_rfl) (by kernel_rfl) (by decide) (fun _ _ _ h => h) (by rfl) ?_ (by assumption) ?_
    · intro w'
      go_simp
    try simp only [Act.put, List.setIfInBounds_toArray, List.set_cons_zero, List.set_cons_succ]
    refine lateL (i := 9) (by kernel_rfl) rfl (by decide) (by kernel_rfl) (fun K hK => ?_)
    obtain ⟨w3, hst, K3, k3⟩ := store_res (J1.out.below ((Below.refl _ _).drew)) (cs := #[.int .i64 0, .int .u64 x, .slice xa xn xc, .slice none 0 0, .int .i64 0, .int .i64 0, .int .u64 0, .int .i64 0, .int .u64 0, .int .i64 0, .int .i64 0, .int .u64 0, .int .i64 0, .int .u64 0, .bool true]) rfl rfl (by kernel_rfl)
    have HST := hide hst
    have L3 := hide K3
    have B3 : Hid (Below w.heap.size w w3) := (JB.out.trans (((Below.refl w1.heap.size w1).drew).mono JB.out.size)).trans (k3.to_below (by have := hbs.out; have := hH.out; show w.heap.size ≤ w1.heap.size; omega) (by simp; have := hH.out; omega))
    clear hst K3 k3
    refine step_store_w rfl 46 (.tmp 4) (.tmp 51) rfl rfl rfl HST.out ?_
    refine hK.out _ _ ?_
    clear hK K
    try simp only [Act.put, List.setIfInBounds_toArray]
    refine doneL (by kernel_rfl) ?_ _
    clear hHeld
    go_wp2
    refine ret_res (p := 4) (b := H + 1) Try.results43 rfl rfl L3.out ?_
    exact ⟨⟨0, x, xa, xc, xb, none, 0, [], true⟩, by rw [← hxn.out]; rfl, HV.out, ⟨Or.inr ⟨⟨x, xa, xc, xb⟩, RX.out, rfl, rfl, rfl⟩, ⟨rfl, Or.inl ⟨rfl, rfl⟩⟩, fun k hk => (by cases hk), by simp⟩, B3.out⟩

set_option maxHeartbeats 1000000 in
set_option maxRecDepth 100000 in
theorem asked_4 (v : Value) (l : List It) (hl : l.length ≤ 100000) (ho : okM l) (hkm : ∀ it ∈ l, it.k ≤ 18446744073709551615) (key high : Int) (ca : Option Addr) (cn cc : Nat) (w : World) (h : Sl w v l) :
    Calls Try.prog 43 #[v, .agg #[.int .i64 4, .int .u64 key, .int .u64 high, .slice ca cn cc]] w fun e w' => ∃ r : Rs, e = .returned (.agg r.cells) ∧ r.val = tl l 4 key high ∧ RsD w w' l r ∧ Below w.heap.size w w' := by
  have mixed : Try.prog.follows .mixedOrders = true := by kernel_rfl
  have b1 := ((Below.refl w.heap.size w).alloc (Nat.le_refl _) (.cells #[.int .i64 4, .int .u64 key, .int .u64 high, .slice ca cn cc] 27)).alloc (by simp) (.cells #[.int .i64 0, .int .u64 0, .slice none 0 0, .slice none 0 0, .int .i64 0, .int .i64 0, .int .u64 0, .int .i64 0, .int .u64 0, .int .i64 0, .int .i64 0, .int .u64 0, .int .i64 0, .int .u64 0, .bool false] 46)
  have I0 : Hid (IsB ((w.alloc (.cells #[.int .i64 4, .int .u64 key, .int .u64 high, .slice ca cn cc] 27)).alloc (.cells #[.int .i64 0, .int .u64 0, .slice none 0 0, .slice none 0 0, .int .i64 0, .int .i64 0, .int .u64 0, .int .i64 0, .int .u64 0, .int .i64 0, .int .i64 0, .int .u64 0, .int .i64 0, .int .u64 0, .bool false] 46)) w.heap.size #[.int .i64 4, .int .u64 key, .int .u64 high, .slice ca cn cc] 27) := (IsB.new w #[.int .i64 4, .int .u64 key, .int .u64 high, .slice ca cn cc] _).below ((Below.refl _ _).alloc (Nat.le_refl _) _)
  have I1 : Hid (IsB ((w.alloc (.cells #[.int .i64 4, .int .u64 key, .int .u64 high, .slice ca cn cc] 27)).alloc (.cells #[.int .i64 0, .int .u64 0, .slice none 0 0, .slice none 0 0, .int .i64 0, .int .i64 0, .int .u64 0, .int .i64 0, .int .u64 0, .int .i64 0, .int .i64 0, .int .u64 0, .int .i64 0, .int .u64 0, .bool false] 46)) (w.heap.size + 1) #[.int .i64 0, .int .u64 0, .slice none 0 0, .slice none 0 0, .int .i64 0, .int .i64 0, .int .u64 0, .int .i64 0, .int .u64 0, .int .i64 0, .int .i64 0, .int .u64 0, .int .i64 0, .int .u64 0, .bool false] 46) := by
    have := IsB.new (w.alloc (.cells #[.int .i64 4, .int .u64 key, .int .u64 high, .slice ca cn cc] 27)) #[.int .i64 0, .int .u64 0, .slice none 0 0, .slice none 0 0, .int .i64 0, .int .i64 0, .int .u64 0, .int .i64 0, .int .u64 0, .int .i64 0, .int .i64 0, .int .u64 0, .int .i64 0, .int .u64 0, .bool false] 46
    rwa [World.size_alloc] at this
  have BT := hide (rbetween_any v l hl key 18446744073709551615 _ (h.below b1))
  have HB := hide b1
  have hbs0 : Hid (w.heap.size + 1 < ((w.alloc (.cells #[.int .i64 4, .int .u64 key, .int .u64 high, .slice ca cn cc] 27)).alloc (.cells #[.int .i64 0, .int .u64 0, .slice none 0 0, .slice none 0 0, .int .i64 0, .int .i64 0, .int .u64 0, .int .i64 0, .int .u64 0, .int .i64 0, .int .i64 0, .int .u64 0, .int .i64 0, .int .u64 0, .bool false] 46)).heap.size) := by show _ < _; simp
  clear h b1
  have c0 := I0.out.cell 0
  have c1 := I0.out.cell 1
  have c2 := I0.out.cell 2
  simp at c0 c1 c2
  go_enter Try.func43, Try.ntmps43
  go_wp2_with fail
  generalize ((w.alloc (.cells #[.int .i64 4, .int .u64 key, .int .u64 high, .slice ca cn cc] 27)).alloc (.cells #[.int .i64 0, .int .u64 0, .slice none 0 0, .slice none 0 0, .int .i64 0, .int .i64 0, .int .u64 0, .int .i64 0, .int .u64 0, .int .i64 0, .int .i64 0, .int .u64 0, .int .i64 0, .int .u64 0, .bool false] 46)) = W2 at *
  generalize hH : w.heap.size = H at I0 I1 hbs0 ⊢
  replace hH := hide hH
  refine BT.out.mono ?_
  rintro e w1 ⟨vb, rfl, hS⟩
  have hb := hS.bel
  have HBL : Hid (∀ it ∈ l.filter (fun it => decide (key ≤ it.k) && decide (it.k ≤ 18446744073709551615)), it ∈ l) := fun it hi => (List.mem_filter.1 hi).1
  have HNW : Hid (∀ k, vb.ownBlock = some k → H + 1 < k) := fun k hk => by have h9 := hS.new k hk; have := hbs0.out; omega
  have J0 := hide (I0.out.below hb)
  have J1 := hide (I1.out.below hb)
  have SB := hide hS
  have JB := hide (HB.out.trans (hb.mono HB.out.size))
  have hbs : Hid (H + 1 < w1.heap.size) := Nat.lt_of_lt_of_le hbs0.out hb.size
  clear hb BT I0 I1 HB hS c0 c1 c2 hbs0
  have j0 := J0.out.cell 0
  simp at j0
  rw [filter_range ho, cnt_max key hkm] at SB HBL
  have HV0 : Hid (∀ bl : List It, bl = (l.drop (pl key l)) → tl l 4 key high = (match bl with | [] => (101, 0, [], [], false) | it :: _ => (0, it.k, it.bs, [], true))) := fun bl hbl => by
    by_cases hlt : pl key l < l.length
    · rw [List.drop_eq_getElem_cons hlt] at hbl
      subst hbl
      simp [tl, List.getElem?_eq_getElem hlt]
    · rw [List.drop_of_length_le (by omega)] at hbl
      subst hbl
      simp [tl, List.getElem?_eq_none (show l.length ≤ pl key l by omega)]
  generalize hbl : (l.drop (pl key l)) = bl at SB HBL
  replace HV0 := hide (HV0.out bl hbl.symm)
  clear hbl
  obtain ⟨ba, bc, rfl, -, -⟩ := SB.out.sl.shape
  cases bl with
  | nil =>
    have HV : Hid (Rs.val ⟨101, 0, none, 0, [], none, 0, [], false⟩ = tl l 4 key high) := by show _ = _; rw [HV0.out]; rfl
    simp only [List.length_nil] at *
    go_wp2_with fail
    refine (err_any 101 w1).mono ?_
    rintro e w2 ⟨rfl, hb⟩
    obtain ⟨w3, hst, K3, k3⟩ := store_res (J1.out.below hb) (cs := #[.int .i64 101, .int .u64 0, .slice none 0 0, .slice none 0 0, .int .i64 0, .int .i64 0, .int .u64 0, .int .i64 0, .int .u64 0, .int .i64 0, .int .i64 0, .int .u64 0, .int .i64 0, .int .u64 0, .bool false]) rfl rfl (by kernel_rfl)
    have HST := hide hst
    have L3 := hide K3
    have B3 : Hid (Below w.heap.size w w3) := (JB.out.trans (hb.mono JB.out.size)).trans (k3.to_below (by have := hbs.out; have := hH.out; have := hb.size; omega) (by simp; have := hH.out; omega))
    clear hst K3 k3 hb
    go_wp2_with ((with_reducible refine wpList_store_w ?hw 46 (.tmp 4) (.tmp 42) ?ho ?hx ?hy HST.out ?h); (case ho => rfl); (case hw => rfl); (case hx => rfl); (case hy => rfl))
    refine ret_res (p := 4) (b := H + 1) Try.results43 rfl rfl L3.out ?_
    exact ⟨⟨101, 0, none, 0, [], none, 0, [], false⟩, rfl, HV.out, RsD.plain _ _ _ _, B3.out⟩
  | cons IT rest =>
    obtain ⟨x, xa, xc, xb⟩ := IT
    have HV : Hid (Rs.val ⟨0, x, xa, xc, xb, none, 0, [], true⟩ = tl l 4 key high) := by show _ = _; rw [HV0.out]; rfl
    have hne : (((rest.length + 1 : Nat) : Int) == 0) = false := by simp; omega
    simp only [List.length_cons] at *
    obtain ⟨g, o, c, ev, -, -, h2, h3⟩ := SB.out.sl.cells 0 (by simp)
    injection ev with ev el ec
    clear el
    subst ev ec
    simp only [List.getElem_cons_zero, Nat.zero_mul, Nat.add_zero] at h2 h3
    have RX := hide (HBL.out ⟨x, xa, xc, xb⟩ (by simp))
    generalize hxn : xb.length = xn at h3
    replace hxn := hide hxn
    go_wp2
    refine regionL 9 (fun w' => w'.cell? ⟨g, o, none⟩ = some (.int .u64 x) ∧ w'.cell? ⟨g, o + 1, none⟩ = some (.slice xa xn xc)) mixed ⟨h2, h3⟩ (fun hHeld => ?_)
    refine pickA (v := ?_) 0 (some 43) rfl rfl (by kernel_rfl) (by kernel_rfl) (by kernel_rfl) (by decide) (fun _ _ _ h => h) (by rfl) ?_ (by assumption) ?_
    rotate_left
    · intro w'
      go_simp
      try with_reducible rfl
    try simp only [Act.put, List.setIfInBounds_toArray, List.set_cons_zero, List.set_cons_succ]
    refine pickA (v := ?_) 1 (some 44) rfl rfl (by kernel_rfl) (by kernel_rfl) (by kernel_rfl) (by decide) (fun _ _ _ h => h) (by rfl) ?_ (by assumption) ?_
    rotate_left
    · intro w'
      go_simp
      try with_reducible rfl
    try simp only [Act.put, List.setIfInBounds_toArray, List.set_cons_zero, List.set_cons_succ]
    refine pickA (v := ?_) 2 (some 45) rfl rfl (by kernel_rfl) (by kernel_rfl) (by kernel_rfl) (by decide) (fun _ _ _ h => h) (by rfl) ?_ (by assumption) ?_
    rotate_left
    · intro w'
      go_simp
      try with_reducible rfl
    try simp only [Act.put, List.setIfInBounds_toArray, List.set_cons_zero, List.set_cons_succ]
    refine pickL (v := ?_) 3 (some 46) rfl rfl (by kernel_rfl) (by kernel_rfl) (by kernel_rfl) (by decide) (by kernel_rfl) (by kernel_rfl) (fun _ _ _ h => h) (by rfl) ?_ (by assumption) ?_
    rotate_left
    · intro w' hSw
      obtain ⟨q0, q1⟩ := hSw
      go_simp
      try with_reducible rfl
    try simp only [Act.put, List.setIfInBounds_toArray, List.set_cons_zero, List.set_cons_succ]
    refine pickA (v := ?_) 4 (some 47) rfl rfl (by kernel_rfl) (by kernel_rfl) (by kernel_rfl) (by decide) (fun _ _ _ h => h) (by rfl) ?_ (by assumption) ?_
    rotate_left
    · intro w'
      go_simp
      try with_reducible rfl
    try simp only [Act.put, List.setIfInBounds_toArray, List.set_cons_zero, List.set_cons_succ]
    refine pickA (v := ?_) 5 (some 48) rfl rfl (by kernel_rfl) (by kernel_rfl) (by kernel_rfl) (by decide) (fun _ _ _ h => h) (by rfl) ?_ (by assumption) ?_
    rotate_left
    · intro w'
      go_simp
      try with_reducible rfl
    try simp only [Act.put, List.setIfInBounds_toArray, List.set_cons_zero, List.set_cons_succ]
    refine pickA (v := ?_) 6 (some 49) rfl rfl (by kernel_rfl) (by kernel_rfl) (by kernel_rfl) (by decide) (fun _ _ _ h => h) (by rfl) ?_ (by assumption) ?_
    rotate_left
    · intro w'
      go_simp
      try with_reducible rfl
    try simp only [Act.put, List.setIfInBounds_toArray, List.set_cons_zero, List.set_cons_succ]
    refine pickL (v := ?_) 7 (some 50) rfl rfl (by kernel_rfl) (by kernel_rfl) (by kernel_rfl) (by decide) (by kernel_rfl) (by kernel_rfl) (fun _ _ _ h => h) (by rfl) ?_ (by assumption) ?_
    rotate_left
    · intro w' hSw
      obtain ⟨q0, q1⟩ := hSw
      go_simp
      try with_reducible rfl
    try simp only [Act.put, List.setIfInBounds_toArray, List.set_cons_zero, List.set_cons_succ]
    refine pickA (v := .agg #[.int .i64 0, .int .u64 x, .slice xa xn xc, .slice none 0 0, .int .i64 0, .int .i64 0, .int .u64 0, .int .i64 0, .int .u64 0, .int .i64 0, .int .i64 0, .int .u64 0, .int .i64 0, .int .u64 0, .bool true]) 8 (some 51) rfl rfl (by kernel_rfl) (by kernel_rfl) (by kernel_rfl) (by decide) (fun _ _ _ h => h) (by rfl) ?_ (by assumption) ?_
    · intro w'
      go_simp
    try simp only [Act.put, List.setIfInBounds_toArray, List.set_cons_zero, List.set_cons_succ]
    refine lateL (i := 9) (by kernel_rfl) rfl (by decide) (by kernel_rfl) (fun K hK => ?_)
    obtain ⟨w3, hst, K3, k3⟩ := store_res (J1.out.below ((Below.refl _ _).drew)) (cs := #[.int .i64 0, .int .u64 x, .slice xa xn xc, .slice none 0 0, .int .i64 0, .int .i64 0, .int .u64 0, .int .i64 0, .int .u64 0, .int .i64 0, .int .i64 0, .int .u64 0, .int .i64 0, .int .u64 0, .bool true]) rfl rfl (by kernel_rfl)
    have HST := hide hst
    have L3 := hide K3
    have B3 : Hid (Below w.heap.size w w3) := (JB.out.trans (((Below.refl w1.heap.size w1).drew).mono JB.out.size)).trans (k3.to_below (by have := hbs.out; have := hH.out; show w.heap.size ≤ w1.heap.size; omega) (by simp; have := hH.out; omega))
    clear hst K3 k3
    refine step_store_w rfl 46 (.tmp 4) (.tmp 51) rfl rfl rfl HST.out ?_
    refine hK.out _ _ ?_
    clear hK K
    try simp only [Act.put, List.setIfInBounds_toArray]
    refine doneL (by kernel_rfl) ?_ _
    clear hHeld
    go_wp2
    refine ret_res (p := 4) (b := H + 1) Try.results43 rfl rfl L3.out ?_
    exact ⟨⟨0, x, xa, xc, xb, none, 0, [], true⟩, by rw [← hxn.out]; rfl, HV.out, ⟨Or.inr ⟨⟨x, xa, xc, xb⟩, RX.out, rfl, rfl, rfl⟩, ⟨rfl, Or.inl ⟨rfl, rfl⟩⟩, fun k hk => (by cases hk), by simp⟩, B3.out⟩

set_option maxHeartbeats 1000000 in
set_option maxRecDepth 100000 in
theorem asked_5 (v : Value) (l : List It) (hl : l.length ≤ 100000) (ho : okM l) (key high : Int) (ca : Option Addr) (cn cc : Nat) (w : World) (h : Sl w v l) :
    Calls Try.prog 43 #[v, .agg #[.int .i64 5, .int .u64 key, .int .u64 high, .slice ca cn cc]] w fun e w' => ∃ r : Rs, e = .returned (.agg r.cells) ∧ r.val = tl l 5 key high ∧ RsD w w' l r ∧ Below w.heap.size w w' := by
  have mixed : Try.prog.follows .mixedOrders = true := by kernel_rfl
  have b1 := ((Below.refl w.heap.size w).alloc (Nat.le_refl _) (.cells #[.int .i64 5, .int .u64 key, .int .u64 high, .slice ca cn cc] 27)).alloc (by simp) (.cells #[.int .i64 0, .int .u64 0, .slice none 0 0, .slice none 0 0, .int .i64 0, .int .i64 0, .int .u64 0, .int .i64 0, .int .u64 0, .int .i64 0, .int .i64 0, .int .u64 0, .int .i64 0, .int .u64 0, .bool false] 46)
  have I0 : Hid (IsB ((w.alloc (.cells #[.int .i64 5, .int .u64 key, .int .u64 high, .slice ca cn cc] 27)).alloc (.cells #[.int .i64 0, .int .u64 0, .slice none 0 0, .slice none 0 0, .int .i64 0, .int .i64 0, .int .u64 0, .int .i64 0, .int .u64 0, .int .i64 0, .int .i64 0, .int .u64 0, .int .i64 0, .int .u64 0, .bool false] 46)) w.heap.size #[.int .i64 5, .int .u64 key, .int .u64 high, .slice ca cn cc] 27) := (IsB.new w #[.int .i64 5, .int .u64 key, .int .u64 high, .slice ca cn cc] _).below ((Below.refl _ _).alloc (Nat.le_refl _) _)
  have I1 : Hid (IsB ((w.alloc (.cells #[.int .i64 5, .int .u64 key, .int .u64 high, .slice ca cn cc] 27)).alloc (.cells #[.int .i64 0, .int .u64 0, .slice none 0 0, .slice none 0 0, .int .i64 0, .int .i64 0, .int .u64 0, .int .i64 0, .int .u64 0, .int .i64 0, .int .i64 0, .int .u64 0, .int .i64 0, .int .u64 0, .bool false] 46)) (w.heap.size + 1) #[.int .i64 0, .int .u64 0, .slice none 0 0, .slice none 0 0, .int .i64 0, .int .i64 0, .int .u64 0, .int .i64 0, .int .u64 0, .int .i64 0, .int .i64 0, .int .u64 0, .int .i64 0, .int .u64 0, .bool false] 46) := by
    have := IsB.new (w.alloc (.cells #[.int .i64 5, .int .u64 key, .int .u64 high, .slice ca cn cc] 27)) #[.int .i64 0, .int .u64 0, .slice none 0 0, .slice none 0 0, .int .i64 0, .int .i64 0, .int .u64 0, .int .i64 0, .int .u64 0, .int .i64 0, .int .i64 0, .int .u64 0, .int .i64 0, .int .u64 0, .bool false] 46
    rwa [World.size_alloc] at this
  have BT := hide (rbetween_any v l hl key high _ (h.below b1))
  have HB := hide b1
  have hbs0 : Hid (w.heap.size + 1 < ((w.alloc (.cells #[.int .i64 5, .int .u64 key, .int .u64 high, .slice ca cn cc] 27)).alloc (.cells #[.int .i64 0, .int .u64 0, .slice none 0 0, .slice none 0 0, .int .i64 0, .int .i64 0, .int .u64 0, .int .i64 0, .int .u64 0, .int .i64 0, .int .i64 0, .int .u64 0, .int .i64 0, .int .u64 0, .bool false] 46)).heap.size) := by show _ < _; simp
  clear h b1
  have c0 := I0.out.cell 0
  have c1 := I0.out.cell 1
  have c2 := I0.out.cell 2
  simp at c0 c1 c2
  go_enter Try.func43, Try.ntmps43
  go_wp2_with fail
  generalize ((w.alloc (.cells #[.int .i64 5, .int .u64 key, .int .u64 high, .slice ca cn cc] 27)).alloc (.cells #[.int .i64 0, .int .u64 0, .slice none 0 0, .slice none 0 0, .int .i64 0, .int .i64 0, .int .u64 0, .int .i64 0, .int .u64 0, .int .i64 0, .int .i64 0, .int .u64 0, .int .i64 0, .int .u64 0, .bool false] 46)) = W2 at *
  generalize hH : w.heap.size = H at I0 I1 hbs0 ⊢
  replace hH := hide hH
  refine BT.out.mono ?_
  rintro e w1 ⟨vb, rfl, hS⟩
  have hb := hS.bel
  have HBL : Hid (∀ it ∈ l.filter (fun it => decide (key ≤ it.k) && decide (it.k ≤ high)), it ∈ l) := fun it hi => (List.mem_filter.1 hi).1
  have HNW : Hid (∀ k, vb.ownBlock = some k → H + 1 < k) := fun k hk => by have h9 := hS.new k hk; have := hbs0.out; omega
  have J0 := hide (I0.out.below hb)
  have J1 := hide (I1.out.below hb)
  have SB := hide hS
  have JB := hide (HB.out.trans (hb.mono HB.out.size))
  have hbs : Hid (H + 1 < w1.heap.size) := Nat.lt_of_lt_of_le hbs0.out hb.size
  clear hb BT I0 I1 HB hS c0 c1 c2 hbs0
  have j0 := J0.out.cell 0
  simp at j0
  rw [filter_range ho] at SB HBL
  have hlen : ((l.drop (pl key l)).take (cnt l key high)).length = cnt l key high := by rw [List.length_take, List.length_drop]; have := cnt_le l key high; omega
  obtain ⟨ba, bc, rfl, -, -⟩ := SB.out.sl.shape
  rw [hlen] at SB HNW ⊢
  generalize hc : cnt l key high = c at *
  by_cases h64 : 64 < c
  · have hd : decide ((64 : Int) < (c : Int)) = true := by simp; omega
    have HV : Hid (Rs.val ⟨102, 0, none, 0, [], none, 0, [], false⟩ = tl l 5 key high) := by show _ = _; rw [range_large (by rw [hc]; exact h64)]; rfl
    go_wp2_with fail
    refine (err_any 102 w1).mono ?_
    rintro e w2 ⟨rfl, hb⟩
    obtain ⟨w3, hst, K3, k3⟩ := store_res (J1.out.below hb) (cs := #[.int .i64 102, .int .u64 0, .slice none 0 0, .slice none 0 0, .int .i64 0, .int .i64 0, .int .u64 0, .int .i64 0, .int .u64 0, .int .i64 0, .int .i64 0, .int .u64 0, .int .i64 0, .int .u64 0, .bool false]) rfl rfl (by kernel_rfl)
    have HST := hide hst
    have L3 := hide K3
    have B3 : Hid (Below w.heap.size w w3) := (JB.out.trans (hb.mono JB.out.size)).trans (k3.to_below (by have := hbs.out; have := hH.out; have := hb.size; omega) (by simp; have := hH.out; omega))
    clear hst K3 k3 hb
    go_wp2_with ((with_reducible refine wpList_store_w ?hw 46 (.tmp 4) (.tmp 31) ?ho ?hx ?hy HST.out ?h); (case ho => rfl); (case hw => rfl); (case hx => rfl); (case hy => rfl))
    refine ret_res (p := 4) (b := H + 1) Try.results43 rfl rfl L3.out ?_
    exact ⟨⟨102, 0, none, 0, [], none, 0, [], false⟩, rfl, HV.out, RsD.plain _ _ _ _, B3.out⟩
  · have hd : decide ((64 : Int) < (c : Int)) = false := by simp; omega
    have HV : Hid (∀ il : List It, il = (l.drop (pl key l)).take c → Rs.val ⟨0, 0, none, 0, [], ba, bc, il, false⟩ = tl l 5 key high) := fun il hil => by rw [range_all (by rw [hc]; exact h64), hc, hil]; rfl
    obtain ⟨w3, hst, K3, k3⟩ := store_res J1.out (cs := #[.int .i64 0, .int .u64 0, .slice none 0 0, .slice ba c bc, .int .i64 0, .int .i64 0, .int .u64 0, .int .i64 0, .int .u64 0, .int .i64 0, .int .i64 0, .int .u64 0, .int .i64 0, .int .u64 0, .bool false]) rfl rfl (by kernel_rfl)
    have HST := hide hst
    have L3 := hide K3
    have B3 : Hid (Below w.heap.size w w3) := JB.out.trans (k3.to_below (by have := hbs.out; have := hH.out; omega) (by simp; have := hH.out; omega))
    have S3 : Hid (Rw w3 61 2 (.slice ba ((l.drop (pl key l)).take c).length bc) ((l.drop (pl key l)).take c).length (its ((l.drop (pl key l)).take c))) := by
      show Rw _ _ _ _ _ _
      rw [hlen]
      have h8 := SB.out.row
      rw [hlen] at h8
      exact h8.kp k3 (fun k hv hm => by simp at hm; have := HNW.out k hv; omega)
    clear hst K3 k3
    go_wp2_with ((with_reducible refine wpList_store_w ?hw 46 (.tmp 4) (.tmp 37) ?ho ?hx ?hy HST.out ?h); (case ho => rfl); (case hw => rfl); (case hx => rfl); (case hy => rfl))
    refine ret_res (p := 4) (b := H + 1) Try.results43 rfl rfl L3.out ?_
    refine ⟨⟨0, 0, none, 0, [], ba, bc, (l.drop (pl key l)).take c, false⟩, by simp only [Rs.cells]; rw [hlen]; rfl, HV.out _ rfl, ⟨Or.inl ⟨rfl, rfl, rfl⟩, S3.out, fun k hk => by simp only [] at hk; rw [hlen] at hk; have := HNW.out k hk; have := hH.out; omega, HBL.out⟩, B3.out⟩

end Go.Proofs.Ytfnpapaibgbjpaa
