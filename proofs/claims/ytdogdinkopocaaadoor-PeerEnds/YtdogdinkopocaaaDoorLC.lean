/- Package lock: slices.Index; a lock in memory; New, lay, lose. -/
import Derived.Test.YtdogdinkopocaaaDoorLB
namespace Go.Proofs.YtdogdinkopocaaaDoor
open Go.RowKit Go.Maps

theorem owner_eq (a o x y : Int) (w : World) : (binOp .eql 52 (.agg #[.int .i64 a, .int .i64 o]) (.agg #[.int .i64 x, .int .i64 y])).run Tryd.prog w = .ok (.bool (a == x && o == y)) w := by
  have u4 := Tryd.underlying3
  have a4 := Tryd.isAgg3
  have z4 := Tryd.sizeOf3
  have hS : Tryd.prog.underlying 52 = some (.struct (Tryd.prog.fieldsOf 52)) := by kernel_rfl
  have hp : Tryd.prog.stoodInHeld 52 = false := by kernel_rfl
  rw [run_eql_struct, show (10000 : Nat) = 9999 + 1 from rfl, run_equalIn_agg w 9999 52 _ _ hS hp]
  simp only [Program.fieldsOf, Tryd.underlying52]
  go_simp
  by_cases h1 : a = x <;> by_cases h2 : o = y <;> simp [h1, h2]
theorem owner_ne (a o x y : Int) (w : World) : (binOp .neq 52 (.agg #[.int .i64 a, .int .i64 o]) (.agg #[.int .i64 x, .int .i64 y])).run Tryd.prog w = .ok (.bool (!(a == x && o == y))) w := by
  have u4 := Tryd.underlying3
  have a4 := Tryd.isAgg3
  have z4 := Tryd.sizeOf3
  have hS : Tryd.prog.underlying 52 = some (.struct (Tryd.prog.fieldsOf 52)) := by kernel_rfl
  have hp : Tryd.prog.stoodInHeld 52 = false := by kernel_rfl
  rw [run_neq_struct, show (10000 : Nat) = 9999 + 1 from rfl, run_equalIn_agg w 9999 52 _ _ hS hp]
  simp only [Program.fieldsOf, Tryd.underlying52]
  go_simp
  by_cases h1 : a = x <;> by_cases h2 : o = y <;> simp [h1, h2]

/-- Where an owner stands; below 0: nowhere. -/
def plc (p : Ow) (l : List Ow) : Int := if p ∈ l then (l.idxOf p : Int) else -1
theorem plc_at {p : Ow} {l : List Ow} {j : Nat} (hj : j < l.length) (he : l[j] = p) (hn : ∀ q (_ : q < j) (hq : q < l.length), l[q] ≠ p) : plc p l = (j : Int) := by
  have hm : p ∈ l := he ▸ List.getElem_mem hj
  unfold plc
  rw [if_pos hm]
  have h1 : l.idxOf p < l.length := List.idxOf_lt_length_iff.2 hm
  have h2 : l[l.idxOf p] = p := List.getElem_idxOf h1
  rcases Nat.lt_trichotomy (l.idxOf p) j with h | h | h
  · exact absurd h2 (hn _ h h1)
  · rw [h]
  · exfalso
    have := List.not_of_lt_findIdx (p := (· == p)) (xs := l) (i := j) h
    simp [he] at this
theorem plc_no {p : Ow} {l : List Ow} (hn : ∀ q (hq : q < l.length), l[q] ≠ p) : plc p l = -1 := by
  unfold plc
  rw [if_neg]
  intro hm
  obtain ⟨q, hq, he⟩ := List.getElem_of_mem hm
  exact hn q hq he

set_option maxHeartbeats 4000000 in
set_option maxRecDepth 100000 in
theorem index_any (v : Value) (l : List Ow) (hl : l.length ≤ 100000) (a o : Int) (w : World) (h : Sl w v l) :
    Calls Tryd.prog 78 #[v, .agg #[.int .i64 a, .int .i64 o]] w fun e w' => e = .returned (.int .i64 (plc (a, o) l)) ∧ Below w.heap.size w w' := by
  have mixed : Tryd.prog.follows .mixedOrders = true := by kernel_rfl
  obtain ⟨va, vc, rfl, -, -⟩ := h.shape
  have bel := (Below.refl w.heap.size w).alloc (Nat.le_refl _) (.cells #[.int .i64 a, .int .i64 o] 52)
  have I := hide (IsB.new w #[.int .i64 a, .int .i64 o] 52)
  have H1 := hide (h.below bel)
  have HB1 := hide bel
  clear h bel
  go_enter Tryd.func78, Tryd.ntmps78
  go_wp2
  generalize w.alloc (.cells #[.int .i64 a, .int .i64 o] 52) = W1 at *
  generalize hH : w.heap.size = H at I ⊢
  generalize hn : l.length = n at *
  replace hn := hide hn
  have HZ : Hid (w.heap.size ≤ W1.heap.size) := HB1.out.size
  replace hH := hide hH
  go_loopw [8] (fun i wr => ∃ j : Nat, j ≤ n ∧ i = .int .i64 (j : Int) ∧ Hid (Below W1.heap.size W1 wr) ∧ Hid (∀ q (_ : q < j) (hq : q < l.length), l[q] ≠ (a, o))) (fun i _ => n - (intOf i).toNat)
  case atStart => exact ⟨0, by omega, rfl, Below.refl _ _, fun q h _ => by omega⟩
  case round =>
    obtain ⟨j, hj, rfl, HB, HQ⟩ := hrel
    by_cases hlt : j < n
    · have hjl : j < l.length := by rw [hn.out]; exact hlt
      obtain ⟨g, k, c, ev, -, -, h2, h3⟩ := (H1.out.below HB.out).cells j hjl
      injection ev with ev el ec
      clear el
      subst ev ec
      have h0 := (I.out.below HB.out).cell 0
      have h1 := (I.out.below HB.out).cell 1
      simp at h0 h1
      have HX : Hid (l[j] = (l[j].1, l[j].2)) := rfl
      generalize l[j].1 = x at h2 HX
      generalize l[j].2 = y at h3 HX
      by_cases hxy : a = x ∧ o = y
      · replace hxy := hide hxy
        have hE : Hid (plc (a, o) l = (j : Int)) := plc_at hjl (by rw [HX.out, hxy.out.1, hxy.out.2]) HQ.out
        go_wp2
        refine regionL 6 (fun w' => w'.cell? ⟨H, 0, none⟩ = some (.int .i64 a) ∧ w'.cell? ⟨H, 1, none⟩ = some (.int .i64 o) ∧ w'.cell? ⟨g, k + j * 2, none⟩ = some (.int .i64 x) ∧ w'.cell? ⟨g, k + j * 2 + 1, none⟩ = some (.int .i64 y)) mixed ⟨h0, h1, h2, h3⟩ (fun hHeld => ?_)
        refine pickL (v := ?_) 0 (some 11) rfl rfl (by kernel_rfl) (by kernel_rfl) (by kernel_rfl) (by decide) (by kernel_rfl) (by kernel_rfl) (fun _ _ _ h => h) (by rfl) ?_ (by assumption) ?_
        rotate_left
        · intro w' hSw
          obtain ⟨q0, q1, q2, q3⟩ := hSw
          go_simp
          try with_reducible rfl
        try simp only [Act.put, List.setIfInBounds_toArray, List.set_cons_zero, List.set_cons_succ]
        refine pickA (v := ?_) 1 (some 12) rfl rfl (by kernel_rfl) (by kernel_rfl) (by kernel_rfl) (by decide) (fun _ _ _ h => h) (by rfl) ?_ (by assumption) ?_
        rotate_left
        · intro w'
          go_simp
          try with_reducible rfl
        try simp only [Act.put, List.setIfInBounds_toArray, List.set_cons_zero, List.set_cons_succ]
        refine pickA (v := ?_) 2 (some 13) rfl rfl (by kernel_rfl) (by kernel_rfl) (by kernel_rfl) (by decide) (fun _ _ _ h => h) (by rfl) ?_ (by assumption) ?_
        rotate_left
        · intro w'
          go_simp
          try with_reducible rfl
        try simp only [Act.put, List.setIfInBounds_toArray, List.set_cons_zero, List.set_cons_succ]
        refine pickA (v := ?_) 3 (some 14) rfl rfl (by kernel_rfl) (by kernel_rfl) (by kernel_rfl) (by decide) (fun _ _ _ h => h) (by rfl) ?_ (by assumption) ?_
        rotate_left
        · intro w'
          go_simp
          try with_reducible rfl
        try simp only [Act.put, List.setIfInBounds_toArray, List.set_cons_zero, List.set_cons_succ]
        refine pickL (v := ?_) 4 (some 15) rfl rfl (by kernel_rfl) (by kernel_rfl) (by kernel_rfl) (by decide) (by kernel_rfl) (by kernel_rfl) (fun _ _ _ h => h) (by rfl) ?_ (by assumption) ?_
        rotate_left
        · intro w' hSw
          obtain ⟨q0, q1, q2, q3⟩ := hSw
          go_simp
          try with_reducible rfl
        try simp only [Act.put, List.setIfInBounds_toArray, List.set_cons_zero, List.set_cons_succ]
        refine pickA (v := .bool true) 5 (some 16) rfl rfl (by kernel_rfl) (by kernel_rfl) (by kernel_rfl) (by decide) (fun _ _ _ h => h) (by rfl) ?_ (by assumption) ?_
        · intro w'
          go_simp
          simp [hxy.out.1, hxy.out.2]
        try simp only [Act.put, List.setIfInBounds_toArray, List.set_cons_zero, List.set_cons_succ]
        refine doneL (by kernel_rfl) ?_ _
        clear hHeld
        go_wp2
        go_ret
        exact ⟨by rw [hE.out]; rfl, HB1.out.trans (((HB.out.trans (((Below.refl _ wr).drew).mono HB.out.size))).mono HZ.out)⟩
      · replace hxy : Hid (a = x → ¬o = y) := fun h1 h2 => hxy ⟨h1, h2⟩
        have HQ2 : Hid (∀ q (_ : q < j + 1) (hq : q < l.length), l[q] ≠ (a, o)) := fun q h1 h2 => by
          by_cases e : q = j
          · subst e
            intro he
            rw [HX.out] at he
            injection he with e1 e2
            exact hxy.out e1.symm e2.symm
          · exact HQ.out q (by omega) h2
        go_wp2
        refine regionL 6 (fun w' => w'.cell? ⟨H, 0, none⟩ = some (.int .i64 a) ∧ w'.cell? ⟨H, 1, none⟩ = some (.int .i64 o) ∧ w'.cell? ⟨g, k + j * 2, none⟩ = some (.int .i64 x) ∧ w'.cell? ⟨g, k + j * 2 + 1, none⟩ = some (.int .i64 y)) mixed ⟨h0, h1, h2, h3⟩ (fun hHeld => ?_)
        refine pickL (v := ?_) 0 (some 11) rfl rfl (by kernel_rfl) (by kernel_rfl) (by kernel_rfl) (by decide) (by kernel_rfl) (by kernel_rfl) (fun _ _ _ h => h) (by rfl) ?_ (by assumption) ?_
        rotate_left
        · intro w' hSw
          obtain ⟨q0, q1, q2, q3⟩ := hSw
          go_simp
          try with_reducible rfl
        try simp only [Act.put, List.setIfInBounds_toArray, List.set_cons_zero, List.set_cons_succ]
        refine pickA (v := ?_) 1 (some 12) rfl rfl (by kernel_rfl) (by kernel_rfl) (by kernel_rfl) (by decide) (fun _ _ _ h => h) (by rfl) ?_ (by assumption) ?_
        rotate_left
        · intro w'
          go_simp
          try with_reducible rfl
        try simp only [Act.put, List.setIfInBounds_toArray, List.set_cons_zero, List.set_cons_succ]
        refine pickA (v := ?_) 2 (some 13) rfl rfl (by kernel_rfl) (by kernel_rfl) (by kernel_rfl) (by decide) (fun _ _ _ h => h) (by rfl) ?_ (by assumption) ?_
        rotate_left
        · intro w'
          go_simp
          try with_reducible rfl
        try simp only [Act.put, List.setIfInBounds_toArray, List.set_cons_zero, List.set_cons_succ]
        refine pickA (v := ?_) 3 (some 14) rfl rfl (by kernel_rfl) (by kernel_rfl) (by kernel_rfl) (by decide) (fun _ _ _ h => h) (by rfl) ?_ (by assumption) ?_
        rotate_left
        · intro w'
          go_simp
          try with_reducible rfl
        try simp only [Act.put, List.setIfInBounds_toArray, List.set_cons_zero, List.set_cons_succ]
        refine pickL (v := ?_) 4 (some 15) rfl rfl (by kernel_rfl) (by kernel_rfl) (by kernel_rfl) (by decide) (by kernel_rfl) (by kernel_rfl) (fun _ _ _ h => h) (by rfl) ?_ (by assumption) ?_
        rotate_left
        · intro w' hSw
          obtain ⟨q0, q1, q2, q3⟩ := hSw
          go_simp
          try with_reducible rfl
        try simp only [Act.put, List.setIfInBounds_toArray, List.set_cons_zero, List.set_cons_succ]
        refine pickA (v := .bool false) 5 (some 16) rfl rfl (by kernel_rfl) (by kernel_rfl) (by kernel_rfl) (by decide) (fun _ _ _ h => h) (by rfl) ?_ (by assumption) ?_
        · intro w'
          go_simp
          exact hxy.out
        try simp only [Act.put, List.setIfInBounds_toArray, List.set_cons_zero, List.set_cons_succ]
        refine doneL (by kernel_rfl) ?_ _
        clear hHeld
        go_wp2
        exact ⟨⟨j + 1, by omega, by simp, HB.out.trans (((Below.refl _ wr).drew).mono HB.out.size), HQ2⟩, by simp [intOf]; omega⟩
    · have hE : Hid (plc (a, o) l = -1) := plc_no fun q hq => HQ.out q (by rw [hn.out] at hq; omega) hq
      go_wp2
      go_ret
      exact ⟨by rw [hE.out]; rfl, HB1.out.trans (HB.out.mono HZ.out)⟩

/-- Block b is a lock that was made: who holds it, and those that wait, are these, in a row. -/
structure LS (w : World) (b : Nat) (v : Value) (os : List Ow) : Prop where
  blk : IsB w b #[v, .bool true] 154
  row : Rw w 52 2 v os.length (ows os)
  len : os.length ≤ 65
theorem LS.below {w w' : World} {b : Nat} {v : Value} {os : List Ow} (h : LS w b v os) (hb : Below w.heap.size w w') : LS w' b v os := ⟨h.blk.below hb, h.row.below hb, h.len⟩
theorem LS.apart {w : World} {b : Nat} {v : Value} {os : List Ow} (h : LS w b v os) : ∀ k, v.ownBlock = some k → k ≠ b := by
  intro k hk e
  obtain ⟨-, cur, hc⟩ := h.row.lt k hk
  have h1 := h.blk
  unfold IsB at h1
  rw [e, h1] at hc
  injection hc with hc
  injection hc with _ hc
  cases hc
/-- What a call makes of a lock: what it is now, that no block but its own has turned, and where its row lies. -/
structure Lx (w w' : World) (b : Nat) (v v' : Value) (os' : List Ow) : Prop where
  ls : LS w' b v' os'
  kp : Kp [b] w w'
  at_ : ∀ q, v'.ownBlock = some q → v.ownBlock = some q ∨ w.heap.size ≤ q
theorem Lx.bel {w w1 w2 : World} {b : Nat} {v v1 : Value} {os1 : List Ow} (h : Lx w w1 b v v1 os1) (hb : Below w1.heap.size w1 w2) : Lx w w2 b v v1 os1 := ⟨h.ls.below hb, h.kp.bel hb, h.at_⟩
theorem Lx.trans {w w1 w2 : World} {b : Nat} {v v1 v2 : Value} {os1 os2 : List Ow} (h : Lx w w1 b v v1 os1) (g : Lx w1 w2 b v1 v2 os2) : Lx w w2 b v v2 os2 := ⟨g.ls, h.kp.trans g.kp (by simp), fun q hq => by
  rcases g.at_ q hq with h1 | h1
  · exact h.at_ q h1
  · exact Or.inr (Nat.le_trans h.kp.size h1)⟩
theorem LS.lx {w w' : World} {b : Nat} {v : Value} {os : List Ow} (h : LS w b v os) (hb : Below w.heap.size w w') : Lx w w' b v v os := ⟨h.below hb, Kp.of_below hb, fun _ hq => Or.inl hq⟩

set_option maxHeartbeats 800000 in
theorem new_any (w : World) : Calls Tryd.prog 76 #[] w fun e w' => ∃ b, e = .returned (.pointer (some ⟨b, 0, none⟩)) ∧ w.heap.size ≤ b ∧ LS w' b (.slice none 0 0) [] ∧ Below w.heap.size w w' := by
  go_enter Tryd.func76, Tryd.ntmps76
  go_wp2
  go_ret
  exact ⟨w.heap.size, rfl, Nat.le_refl _, ⟨IsB.new w _ _, ⟨rfl, Or.inl ⟨rfl, rfl⟩⟩, by simp⟩, (Below.refl _ w).alloc (Nat.le_refl _) _⟩

theorem Tryd.infoO : (Tryd.prog.info? 52).map (fun i => (i.zero, i.size, i.bytes)) = some (some (.agg #[.int .i64 0, .int .i64 0]), 2, 16) := by kernel_rfl
theorem Sl.src {w : World} {x : Value} {l : List Ow} (h : Sl w x l) : (∃ a c, x = .slice (some a) l.length c ∧ ∀ j u, (ows l)[j]? = some u → w.cell? (a.add j) = some u) ∨ (x = .slice none 0 0 ∧ l.length = 0) := by
  rcases h with ⟨rfl, rfl⟩ | ⟨g, o, c, rfl, h1, h2, h3, h4⟩
  · exact Or.inr ⟨rfl, rfl⟩
  · exact Or.inl ⟨⟨g, o, none⟩, c, rfl, fun j u hu => by rw [add_none]; exact h4 j u hu⟩
theorem IsB.grown {w w' : World} {b : Nat} {cs : Array Value} {t : TypeId} {row : Option Nat} (h : IsB w b cs t) (hg : w.grownBy w' row) (hn : some b ≠ row) : IsB w' b cs t := (hg.block b h.lt hn).trans h

/-- What 'lay' does with the row, once the row's front is cut. -/
theorem laid_row {w : World} {b : Nat} {v : Value} {os : List Ow} (h : LS w b v os) (n : Nat) (hn : n ≤ os.length) (x : Value) (ms : List Ow) (hx : Sl w x ms) (hm : n + ms.length ≤ 65) (a : Option Addr) (hr : Rw w 52 2 (.slice a n n) n (ows (os.take n))) (ha : (Value.slice a n n).ownBlock = v.ownBlock) (ty : TypeId) :
    ∃ va vn vc w1, (Builtin.append_ #[105, 105] ty #[.slice a n n, x]).run Tryd.prog w = .ok (.slice va vn vc) w1 ∧ IsB w1 b #[v, .bool true] 154 ∧ Lx w (w1.setCell ⟨b, 0, none⟩ (.slice va vn vc)) b v (.slice va vn vc) (os.take n ++ ms) := by
  obtain ⟨i0, hi0, hz0, hz1, hz2⟩ := info_parts Tryd.infoO
  obtain ⟨v', w', hrun, hrw, hgr, hat⟩ := run_append_cut (P := Tryd.prog) w 105 ty 52 i0 _ 2 16 Tryd.underlying105 hi0 hz0 hz1 hz2 rfl a n (ows (os.take n)) hr x ms.length (ows ms) (ows_len ms) hx.src (by unfold maxLen; omega) (by omega)
  have hlen : n + ms.length = (os.take n ++ ms).length := by rw [List.length_append, List.length_take]; omega
  rw [← ows_app, hlen] at hrw
  obtain ⟨va, vc, rfl, -, -⟩ := hrw.shape
  have hB := h.blk.grown hgr (by simp)
  refine ⟨va, _, vc, w', hrun, hB, ⟨by simpa using hB.set 0 (.slice va (os.take n ++ ms).length vc), hrw.kept fun k hk => Below.heap_setCell _ _ _ _ ?_, by omega⟩, (Kp.of_grown hgr (by simp)).set _ _ (Or.inl (by simp)), fun q hq => by
    rcases hat with h1 | h1
    · exact Or.inl (ha ▸ h1 ▸ hq)
    · rw [h1] at hq; exact Or.inr (Nat.le_of_eq (Option.some.inj hq))⟩
  intro e
  obtain ⟨-, cur, hc⟩ := hrw.lt k hk
  unfold IsB at hB
  simp only [] at e
  rw [e, hB] at hc
  injection hc with hc
  injection hc with _ hc
  cases hc

set_option maxHeartbeats 4000000 in
set_option maxRecDepth 100000 in
theorem lay_any (b : Nat) (v : Value) (os : List Ow) (w : World) (h : LS w b v os) (n : Nat) (hn : n ≤ os.length) (x : Value) (ms : List Ow) (hx : Sl w x ms) (hm : n + ms.length ≤ 65) :
    Calls Tryd.prog 79 #[.pointer (some ⟨b, 0, none⟩), .int .i64 (n : Int), x] w fun e w' => e = .returned (.tuple #[]) ∧ ∃ v', Lx w w' b v v' (os.take n ++ ms) := by
  have hb0 := h.blk.cell 0
  simp at hb0
  have hnat : (n : Int) ≤ 65 := by omega
  obtain ⟨xa, xc, rfl, -, -⟩ := hx.shape
  rcases h.row.2 with ⟨rfl, h0⟩ | ⟨g, cap, cur, rfl, hg, hnc, hcm, -⟩
  · have hos : os = [] := List.eq_nil_of_length_eq_zero h0
    subst hos
    obtain rfl : n = 0 := by simpa using hn
    obtain ⟨va, vn, vc, w1, hrun, hB, hL⟩ := laid_row h 0 hn _ ms hx hm none ⟨rfl, Or.inl ⟨rfl, rfl⟩⟩ rfl 105
    have hb1 := hB.cell 0
    have hf1 := hB.free 0
    simp at hb1
    replace hL := hide hL
    replace h := hide h
    replace hx := hide hx
    clear h0
    generalize ms.length = m at *
    go_enter Tryd.func79, Tryd.ntmps79
    go_wp2_with (at_builtin; refine wpList_append_eq rfl (.tmp 13) (.tmp 14) 105 rfl _ _ (.slice va vn vc) w1 rfl rfl hrun ?_)
    refine bodyPost_end (results_none rfl _ _ _) rfl ?_
    exact ⟨rfl, _, hL.out⟩
  · obtain ⟨va, vn, vc, w1, hrun, hB, hL⟩ := laid_row h n hn _ ms hx hm (some ⟨g, 0, none⟩) (by have := h.row.head n n hn (Nat.le_refl _) (by omega); rw [ows_take] at this; exact this) rfl 105
    have hb1 := hB.cell 0
    have hf1 := hB.free 0
    simp at hb1
    replace hL := hide hL
    replace h := hide h
    replace hx := hide hx
    clear hg
    generalize os.length = l at *
    generalize ms.length = m at *
    go_enter Tryd.func79, Tryd.ntmps79
    go_wp2_with (at_builtin; refine wpList_append_eq rfl (.tmp 13) (.tmp 14) 105 rfl _ _ (.slice va vn vc) w1 rfl rfl hrun ?_)
    refine bodyPost_end (results_none rfl _ _ _) rfl ?_
    exact ⟨rfl, _, hL.out⟩

theorem LS.tail {w : World} {b : Nat} {g cap : Nat} {os : List Ow} (h : LS w b (.slice (some ⟨g, 0, none⟩) os.length cap) os) (q : Nat) (hq : q ≤ os.length) :
    Sl w (.slice (if cap = q then some ⟨g, 0, none⟩ else some ⟨g, q * 2, none⟩) (os.length - q) (cap - q)) (os.drop q) := by
  rcases h.row.2 with ⟨h1, -⟩ | ⟨g', cap', cur, h1, hg, hnc, hcm, -⟩
  · cases h1
  · injection h1 with h1 _ h2
    injection h1 with h1
    injection h1 with h1
    subst h1 h2
    have hlen : (os.drop q).length = os.length - q := by simp
    refine Or.inr ⟨g, if cap = q then 0 else q * 2, cap - q, ?_, by omega, by omega, lt_of_heap hg, ?_⟩
    · rw [hlen]; split <;> rfl
    · intro j u hu
      have hj : j < (os.length - q) * 2 := by have := (List.getElem?_eq_some_iff.1 hu).1; rw [ows_len, hlen] at this; exact this
      rw [if_neg (by omega), h.row.cellAt (q * 2 + j) (by omega), ← List.getElem?_drop, ows_drop]
      exact hu

end Go.Proofs.YtdogdinkopocaaaDoor
