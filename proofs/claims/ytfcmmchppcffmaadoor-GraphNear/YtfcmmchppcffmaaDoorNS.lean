/- The document's sorted: one after another is put in at its place. -/
import Derived.Test.YtfcmmchppcffmaaDoorNA
namespace Go.Proofs.YtfcmmchppcffmaaDoor
open Go.RowKit Go.Maps Go.ChangeMaps

def hdV (a : Option Addr) (q c : Nat) : Value := sliced a 0 q c 5
def tlV (a : Option Addr) (q n c : Nat) : Value := sliced a q n c 5
theorem sl_head (a : Option Addr) (n c q : Nat) (hq : q ≤ c) (w : World) : (Instr.slice 22 (.slice a n c) none (some (.int .i64 (q : Int))) none).run Tryd.prog w = .ok (hdV a q c) w := by
  rw [run_slice_h w 22 a n c (by kernel_rfl) .i64 (q : Int) (by omega) (by omega)]
  rw [show Tryd.prog.elem 22 = 30 by kernel_rfl]
  simp [Tryd.sizeOf30, Result.andThen, hdV]
theorem sl_tail (a : Option Addr) (n c q : Nat) (hq : q ≤ n) (w : World) : (Instr.slice 22 (.slice a n c) (some (.int .i64 (q : Int))) none none).run Tryd.prog w = .ok (tlV a q n c) w := by
  rw [run_slice_l w 22 a n c (by kernel_rfl) .i64 (q : Int) (by omega) (by omega)]
  rw [show Tryd.prog.elem 22 = 30 by kernel_rfl]
  simp [Tryd.sizeOf30, Result.andThen, tlV]
theorem exec_slice {t : TypeId} {x : Operand} {lo hi mx : Option Operand} {oi : Oper} {ρ : Operand → Value} {v : Value} {w : World} (hop : oi.op = Op.slice t x lo hi mx) (hu : Tryd.prog.underlying t = some (.slice (Tryd.prog.elem t))) (hl : (Instr.slice t (ρ x) (lo.map ρ) (hi.map ρ) (mx.map ρ)).run Tryd.prog w = .ok v w) : (execOp ρ oi).run Tryd.prog w = .ok (.value v) w := by
  have h2 := run_sliceAt_slice (P := Tryd.prog) w t (ρ x) (lo.map ρ) (hi.map ρ) (mx.map ρ) hu
  rw [hl] at h2
  simp [execOp, hop, h2, Result.andThen]
/-- The first ones, and the last ones, as an append's source. -/
theorem Gr5.head {base : Nat} {w : World} {a : Option Addr} {n c : Nat} {m : List Rf} (h : Gr5 base w (.slice a n c) m) (q : Nat) (hq : q ≤ m.length) : (∃ b d, hdV a q c = .slice (some b) (m.take q).length d ∧ ∀ j u, ((m.take q).map Rf.cs).flatten[j]? = some u → w.cell? (b.add j) = some u) ∨ (hdV a q c = .slice none 0 0 ∧ (m.take q).length = 0) := by
  have hl : (m.take q).length = q := by rw [List.length_take]; omega
  rw [hl]
  rcases h.row.2 with ⟨hv, h0⟩ | ⟨g, cap, cur, hv, hg, h1, h2, h3⟩
  · simp only [Value.slice.injEq] at hv
    obtain ⟨rfl, rfl, rfl⟩ := hv
    rw [List.length_map] at h0
    have : q = 0 := by omega
    subst this
    exact Or.inr ⟨rfl, rfl⟩
  · simp only [Value.slice.injEq] at hv
    obtain ⟨rfl, rfl, rfl⟩ := hv
    refine Or.inl ⟨⟨g, 0, none⟩, c, ?_, ?_⟩
    · unfold hdV sliced
      simp [gadd]
    · rw [List.map_take]
      exact Rg.srcTake h q
theorem Gr5.tail {base : Nat} {w : World} {a : Option Addr} {n c : Nat} {m : List Rf} (h : Gr5 base w (.slice a n c) m) (q : Nat) (hq : q ≤ m.length) : (∃ b d, tlV a q m.length c = .slice (some b) (m.drop q).length d ∧ ∀ j u, ((m.drop q).map Rf.cs).flatten[j]? = some u → w.cell? (b.add j) = some u) ∨ (tlV a q m.length c = .slice none 0 0 ∧ (m.drop q).length = 0) := by
  rw [List.length_drop]
  rcases h.row.2 with ⟨hv, h0⟩ | ⟨g, cap, cur, hv, hg, h1, h2, h3⟩
  · simp only [Value.slice.injEq] at hv
    obtain ⟨rfl, rfl, rfl⟩ := hv
    rw [List.length_map] at h0
    have : q = 0 := by omega
    subst this
    exact Or.inr ⟨by unfold tlV sliced; simp [h0], by omega⟩
  · simp only [Value.slice.injEq] at hv
    obtain ⟨rfl, rfl, rfl⟩ := hv
    rw [List.length_map] at h1
    by_cases hc : c = q
    · have hz : m.length - q = 0 := by omega
      refine Or.inl ⟨⟨g, 0, none⟩, c - q, ?_, ?_⟩
      · unfold tlV sliced
        rw [if_pos hc]
      · have : m.drop q = [] := List.drop_eq_nil_of_le (by omega)
        rw [this]
        intro j u hu
        simp at hu
    · refine Or.inl ⟨⟨g, q * 5, none⟩, c - q, ?_, ?_⟩
      · unfold tlV sliced
        rw [if_neg hc]
        simp [gadd]
      · rw [List.map_drop]
        exact Rg.srcDrop h q
/-- What is behind the copy of the first ones and the new one: one appended, then the last ones. -/
theorem ins_end {base : Nat} {w1 w2 : World} {a : Option Addr} {n c q : Nat} {m : List Rf} (z : Rf) (h : Gr5 base w1 (.slice a n c) m) (hq : q ≤ m.length) (hlen : m.length ≤ 10000) {G : Nat} (hG : w1.heap.size ≤ G) (hb : Below w1.heap.size w1 w2) {ea : Option Addr} {ec gz : Nat} (hE : Gr5 G w2 (.slice ea q ec) (m.take q)) (hz : IsB w2 gz z.cells 30) (hG2 : G ≤ w2.heap.size) :
    ∃ ra rc w3, (Builtin.append_ #[22, 22] 22 #[.slice ea q ec, .slice (some ⟨gz, 0, none⟩) 1 1]).run Tryd.prog w2 = .ok (.slice ra (q + 1) rc) w3 ∧ Below w1.heap.size w1 w3 ∧ ∃ sa sc w4, (Builtin.append_ #[22, 22] 22 #[.slice ra (q + 1) rc, tlV a q m.length c]).run Tryd.prog w3 = .ok (.slice sa (m.length + 1) sc) w4 ∧ Gr5 G w4 (.slice sa (m.length + 1) sc) (m.take q ++ z :: m.drop q) ∧ Below w1.heap.size w1 w4 := by
  have hl : (m.take q).length = q := by rw [List.length_take]; omega
  obtain ⟨ra, rc, w3, r1, r2, r3⟩ := Rg.push ty_ref (by omega) hE z.cs rfl ((es_rfs [z]).one z.cs (by simp)) gz 1 hz (by simp; omega) hG2 22
  have b3 : Below w1.heap.size w1 w3 := hb.trans (r3.to_below hb.size (fun k hk => Nat.le_trans hG (hE.new k (by simpa using hk))))
  have h3 : Gr5 base w3 (.slice a n c) m := h.below b3
  rw [List.length_map, hl] at r1 r2
  have hsz : G ≤ w3.heap.size := Nat.le_trans hG2 r3.size
  have ht := h3.tail q hq
  have hd : ((m.drop q).map Rf.cs).length = (m.drop q).length := by simp
  rw [← hd] at ht
  obtain ⟨sa, sc, w4, s1, s2, s3⟩ := Rg.app ty_ref (by omega) r2 (tlV a q m.length c) ((m.drop q).map Rf.cs) (es_rfs _) ht (by simp; omega) hsz 22
  have e : (List.map Rf.cs (List.take q m) ++ [z.cs]).length + (List.map Rf.cs (List.drop q m)).length = m.length + 1 := by simp; omega
  have e2 : (List.map Rf.cs (List.take q m) ++ [z.cs]).length = q + 1 := by simp; omega
  rw [e] at s1 s2
  refine ⟨ra, rc, w3, r1, b3, sa, sc, w4, s1, ?_, b3.trans (s3.to_below b3.size (fun k hk => Nat.le_trans hG (r2.new k (by simpa using hk))))⟩
  unfold Gr5
  simpa using s2
/-- The copy of the first ones. -/
theorem ins_copy {base : Nat} {w1 w2 : World} {a : Option Addr} {n c q : Nat} {m : List Rf} (h : Gr5 base w1 (.slice a n c) m) (hq : q ≤ m.length) (hlen : m.length ≤ 10000) (hb : Below w1.heap.size w1 w2) {ge : Nat} (hE : IsB w2 ge #[] 30) (hge : w1.heap.size ≤ ge) :
    ∃ ea ec w3, (Builtin.append_ #[22, 22] 22 #[.slice (some ⟨ge, 0, none⟩) 0 0, hdV a q c]).run Tryd.prog w2 = .ok (.slice ea q ec) w3 ∧ Gr5 w1.heap.size w3 (.slice ea q ec) (m.take q) ∧ Kp [ge] w2 w3 := by
  have hl : (m.take q).length = q := by rw [List.length_take]; omega
  have hR : Rg 30 5 w1.heap.size w2 (.slice (some ⟨ge, 0, none⟩) 0 0) [] := ⟨⟨by simp, Or.inr ⟨ge, 0, #[], rfl, hE, Nat.le_refl _, by unfold maxLen; omega, by simp, by simp⟩⟩, Es.nil 5, fun j hj => by have := Option.some.inj (show some ge = some j from hj); omega⟩
  have ht := (h.below hb).head q hq
  have hd : ((m.take q).map Rf.cs).length = (m.take q).length := by simp
  rw [← hd] at ht
  obtain ⟨ea, ec, w3, s1, s2, s3⟩ := Rg.app ty_ref (by omega) hR (hdV a q c) ((m.take q).map Rf.cs) (es_rfs _) ht (by simp; omega) hb.size 22
  simp only [List.length_nil, Nat.zero_add, List.length_map, hl, List.nil_append] at s1 s2
  exact ⟨ea, ec, w3, s1, s2, s3⟩

theorem insL_at {m : List Rf} {z : Rf} {q : Nat} (h : ∀ y ∈ m.take q, klt (y.rk, y.kn) (z.rk, z.kn) = true) (h2 : ∀ hq : q < m.length, klt (m[q].rk, m[q].kn) (z.rk, z.kn) = false) : insL m z = m.take q ++ z :: m.drop q := by
  have e : m = m.take q ++ m.drop q := (List.take_append_drop q m).symm
  have h3 : (m.drop q).takeWhile (fun y => klt (y.rk, y.kn) (z.rk, z.kn)) = [] ∧ (m.drop q).dropWhile (fun y => klt (y.rk, y.kn) (z.rk, z.kn)) = m.drop q := by
    by_cases hq : q < m.length
    · have h4 := h2 hq
      rw [List.drop_eq_getElem_cons hq]
      constructor
      · rw [List.takeWhile_cons, if_neg (by simp [h4])]
      · rw [List.dropWhile_cons, if_neg (by simp [h4])]
    · rw [List.drop_eq_nil_of_le (by omega)]
      simp
  unfold insL
  have t1 : m.takeWhile (fun y => klt (y.rk, y.kn) (z.rk, z.kn)) = m.take q := by
    conv => lhs; rw [e]
    rw [List.takeWhile_append_of_pos h, h3.1, List.append_nil]
  have t2 : m.dropWhile (fun y => klt (y.rk, y.kn) (z.rk, z.kn)) = m.drop q := by
    conv => lhs; rw [e]
    rw [List.dropWhile_append_of_pos h, h3.2]
  rw [t1, t2]
theorem gal1 (w : World) (o : Obj) : Below w.heap.size w (w.alloc o) := (Below.refl _ _).alloc (Nat.le_refl _) o
theorem hide_out {p : Prop} (h : Hid p) : p := h

set_option maxHeartbeats 8000000 in
set_option maxRecDepth 100000 in
theorem sorted_any (v : Value) (l : List Rf) (hl : l.length ≤ 2000) (w : World) (R : RSl w v l) : Calls Tryd.prog 44 #[v] w fun e' w' => ∃ v', e' = .returned v' ∧ Gr5 w.heap.size w' v' (sortL l) ∧ Below w.heap.size w w' := by
  have mixed : Tryd.prog.follows .mixedOrders = true := by kernel_rfl
  obtain ⟨va, vc, rfl, -, -⟩ := R.shape
  generalize hn : l.length = n at *
  replace hn := hide hn
  obtain ⟨G, hG⟩ : ∃ G, w.heap.size = G := ⟨_, rfl⟩
  have HG : Hid (w.heap.size = G) := hG
  have RA : Hid (∀ w', Below G w w' → RSl w' (.slice va n vc) l) := fun w' hb => R.below (hG ▸ hb)
  have B0 : Hid (Below G w w) := Below.refl _ _
  rw [hG]
  clear R hG
  go_enter Tryd.func44, Tryd.ntmps44
  go_wp2_with fail
  go_loopw [3, 4] (fun mv i wr => ∃ (j : Nat) (qa : Option Addr) (qc : Nat) (m : List Rf), j ≤ n ∧ i = .int .i64 (j : Int) ∧ mv = .slice qa m.length qc ∧ Hid (m = sortL (l.take j)) ∧ Hid (Gr5 G wr (.slice qa m.length qc) m) ∧ Hid (Below G w wr)) (fun _ i _ => n - (intOf i).toNat)
  case atStart => exact ⟨0, none, 0, [], by omega, rfl, rfl, rfl, Rg.nil _ _ _ _, B0⟩
  case round =>
    obtain ⟨j, qa, qc, m, hj, rfl, rfl, HM, RX, B⟩ := hrel
    have hml : m.length ≤ 3000 := by
      have h1 := hn.out
      rw [HM.out, sortL_len, List.length_take]
      omega
    by_cases hlt : j < n
    rotate_left
    · obtain rfl : j = n := by omega
      have d1 : decide ((j : Int) < j) = false := by simp
      have HF : Hid (m = sortL l) := by show _ = _; rw [HM.out, List.take_of_length_le (Nat.le_of_eq hn.out)]
      go_wp2
      go_ret
      exact ⟨_, rfl, HF.out ▸ RX.out, B.out⟩
    have hjl : j < l.length := by rw [hn.out]; exact hlt
    have hlt2 : (j : Int) < n := by omega
    obtain ⟨g, o, cap, ev, hcap, -⟩ := (RA.out _ B.out).form (by omega)
    injection ev with ev el ec
    clear el
    subst ev ec
    have LK : Hid (∀ w', Below G w w' → (Instr.loadAt 26 (.pointer (some ⟨g, o + j * 5 + 1, none⟩))).run Tryd.prog w' = .ok (.agg #[.int .i64 l[j].rk, .int .u64 l[j].kn]) w') := fun w' hb => (RA.out _ hb).ldk j hjl
    have LR : Hid (∀ w', Below G w w' → (Instr.loadAt 30 (.pointer (some ⟨g, o + j * 5, none⟩))).run Tryd.prog w' = .ok (.agg #[.int .i64 l[j].id, .int .i64 l[j].rk, .int .u64 l[j].kn, .int .i64 l[j].ln, .int .u64 l[j].bt]) w') := fun w' hb => (RA.out _ hb).ldr j hjl
    have HT : Hid (sortL (l.take (j + 1)) = insL m l[j]) := by show _ = _; unfold sortL; rw [List.take_succ_eq_append_getElem hjl, List.foldl_append, HM.out]; rfl
    clear HM
    generalize l[j] = z at *
    generalize hmn : m.length = mn at *
    replace hmn := hide hmn
    have d0 : decide ((j : Int) < n) = true := by simpa using hlt
    go_wp2_with fail
    generalize hNB : wr = w0 at RX B
    skip
    go_loopw [5] (fun k wr => ∃ q : Nat, q ≤ mn ∧ k = .int .i64 (q : Int) ∧ Hid (∀ y ∈ m.take q, klt (y.rk, y.kn) (z.rk, z.kn) = true) ∧ Hid (Gr5 G wr (.slice qa mn qc) m) ∧ Hid (Below G w wr)) (fun k _ => mn - (intOf k).toNat)
    case atStart => exact ⟨0, by omega, rfl, by simp [Hid], RX, B⟩
    case round =>
      clear RX B
      obtain ⟨q, hq, rfl, HQ, RX, B⟩ := hrel
      by_cases hlq : q < mn
      rotate_left
      · have hqm : Hid (q = mn) := by show _ = _; omega
        have d2 : decide ((q : Int) < mn) = false := by simp; omega
        go_wp2_with fail
        replace B := hide (B.out.drew)
        replace RX := hide (RX.out.below ((Below.refl _ _).drew))
        refine regionL 17 (fun w' => True) mixed trivial (fun hHeld => ?_)
        generalize hW6 : wr.drew = W6 at *
        clear hW6
        refine pickA (v := ?_) 0 (some 12) rfl rfl (by kernel_rfl) (by kernel_rfl) (by kernel_rfl) (by decide) (fun _ _ _ h => h) (by rfl) ?_ (by assumption) ?_
        rotate_left
        · intro w'
          go_simp
          try with_reducible rfl
        try simp only [Act.put, List.setIfInBounds_toArray, List.set_cons_zero, List.set_cons_succ]
        refine pickA (v := ?_) 1 (some 13) rfl rfl (by kernel_rfl) (by kernel_rfl) (by kernel_rfl) (by decide) (fun _ _ _ h => h) (by rfl) ?_ (by assumption) ?_
        rotate_left
        · intro w'
          go_simp
          try with_reducible rfl
        try simp only [Act.put, List.setIfInBounds_toArray, List.set_cons_zero, List.set_cons_succ]
        refine pickA (v := ?_) 2 (some 14) rfl rfl (by kernel_rfl) (by kernel_rfl) (by kernel_rfl) (by decide) (fun _ _ _ h => h) (by rfl) ?_ (by assumption) ?_
        rotate_left
        · intro w'
          go_simp
          try with_reducible rfl
        try simp only [Act.put, List.setIfInBounds_toArray, List.set_cons_zero, List.set_cons_succ]
        refine pickA (v := ?_) 3 (some 15) rfl rfl (by kernel_rfl) (by kernel_rfl) (by kernel_rfl) (by decide) (fun _ _ _ h => h) (by rfl) ?_ (by assumption) ?_
        rotate_left
        · intro w'
          go_simp
          try with_reducible rfl
        try simp only [Act.put, List.setIfInBounds_toArray, List.set_cons_zero, List.set_cons_succ]
        refine pickA (v := ?_) 4 (some 16) rfl rfl (by kernel_rfl) (by kernel_rfl) (by kernel_rfl) (by decide) (fun _ _ _ h => h) (by rfl) ?_ (by assumption) ?_
        rotate_left
        · intro w'
          go_simp
          try with_reducible rfl
        try simp only [Act.put, List.setIfInBounds_toArray, List.set_cons_zero, List.set_cons_succ]
        refine pickN 5 (some 17) rfl rfl (by kernel_rfl) (by kernel_rfl) (by kernel_rfl) (by decide) (fun _ _ _ h => h) (by rfl) (by assumption) ?_
        try simp only [Act.put, List.setIfInBounds_toArray, List.set_cons_zero, List.set_cons_succ]
        refine pickN 6 (some 18) rfl rfl (by kernel_rfl) (by kernel_rfl) (by kernel_rfl) (by decide) (fun _ _ _ h => h) (by rfl) (by assumption) ?_
        try simp only [Act.put, List.setIfInBounds_toArray, List.set_cons_zero, List.set_cons_succ]
        refine pickN 7 (some 19) rfl rfl (by kernel_rfl) (by kernel_rfl) (by kernel_rfl) (by decide) (fun _ _ _ h => h) (by rfl) (by assumption) ?_
        try simp only [Act.put, List.setIfInBounds_toArray, List.set_cons_zero, List.set_cons_succ]
        refine pickN 8 (some 20) rfl rfl (by kernel_rfl) (by kernel_rfl) (by kernel_rfl) (by decide) (fun _ _ _ h => h) (by rfl) (by assumption) ?_
        try simp only [Act.put, List.setIfInBounds_toArray, List.set_cons_zero, List.set_cons_succ]
        refine pickN 9 (some 21) rfl rfl (by kernel_rfl) (by kernel_rfl) (by kernel_rfl) (by decide) (fun _ _ _ h => h) (by rfl) (by assumption) ?_
        try simp only [Act.put, List.setIfInBounds_toArray, List.set_cons_zero, List.set_cons_succ]
        refine pickN 10 (some 22) rfl rfl (by kernel_rfl) (by kernel_rfl) (by kernel_rfl) (by decide) (fun _ _ _ h => h) (by rfl) (by assumption) ?_
        try simp only [Act.put, List.setIfInBounds_toArray, List.set_cons_zero, List.set_cons_succ]
        refine pickN 11 (some 23) rfl rfl (by kernel_rfl) (by kernel_rfl) (by kernel_rfl) (by decide) (fun _ _ _ h => h) (by rfl) (by assumption) ?_
        try simp only [Act.put, List.setIfInBounds_toArray, List.set_cons_zero, List.set_cons_succ]
        refine pickN 12 (some 24) rfl rfl (by kernel_rfl) (by kernel_rfl) (by kernel_rfl) (by decide) (fun _ _ _ h => h) (by rfl) (by assumption) ?_
        try simp only [Act.put, List.setIfInBounds_toArray, List.set_cons_zero, List.set_cons_succ]
        refine pickN 13 (some 25) rfl rfl (by kernel_rfl) (by kernel_rfl) (by kernel_rfl) (by decide) (fun _ _ _ h => h) (by rfl) (by assumption) ?_
        try simp only [Act.put, List.setIfInBounds_toArray, List.set_cons_zero, List.set_cons_succ]
        refine pickN 14 (some 26) rfl rfl (by kernel_rfl) (by kernel_rfl) (by kernel_rfl) (by decide) (fun _ _ _ h => h) (by rfl) (by assumption) ?_
        try simp only [Act.put, List.setIfInBounds_toArray, List.set_cons_zero, List.set_cons_succ]
        refine pickN 15 (some 27) rfl rfl (by kernel_rfl) (by kernel_rfl) (by kernel_rfl) (by decide) (fun _ _ _ h => h) (by rfl) (by assumption) ?_
        try simp only [Act.put, List.setIfInBounds_toArray, List.set_cons_zero, List.set_cons_succ]
        refine pickA (v := ?_) 16 (some 28) rfl rfl (by kernel_rfl) (by kernel_rfl) (by kernel_rfl) (by decide) (fun _ _ _ h => h) (by rfl) ?_ (by assumption) ?_
        rotate_left
        · intro w'
          go_simp
          try with_reducible rfl
        try simp only [Act.put, List.setIfInBounds_toArray, List.set_cons_zero, List.set_cons_succ]
        refine doneL (by kernel_rfl) ?_ _
        clear hHeld
        have hq2 : Hid (q ≤ m.length) := by show _ ≤ _; rw [hmn.out]; exact hq
        have hqc : Hid (q ≤ qc) := by obtain ⟨a2, c2, e, h1, -⟩ := RX.out.shape; injection e with _ _ e; show q ≤ qc; rw [e]; have := hq2.out; omega
        have HT2 : Hid (m.take q ++ z :: m.drop q = sortL (l.take (j + 1))) := by show _ = _; rw [HT.out]; exact (insL_at HQ.out (fun hq3 => absurd hq3 (by have := hmn.out; have := hqm.out; omega))).symm
        clear HT HQ
        go_wp2_with fail
        replace B := hide (B.out.drew)
        replace RX := hide (RX.out.below ((Below.refl _ _).drew))
        have L8 := hide (LR.out _ B.out)
        refine regionL 16 (fun w' => (Instr.loadAt 30 (.pointer (some ⟨g, o + j * 5, none⟩))).run Tryd.prog w' = .ok (.agg #[.int .i64 z.id, .int .i64 z.rk, .int .u64 z.kn, .int .i64 z.ln, .int .u64 z.bt]) w') mixed L8.out (fun hHeld => ?_)
        generalize hWD : W6.drew = WD at *
        clear hWD
        refine pickA (v := ?_) 1 (some 32) rfl rfl (by kernel_rfl) (by kernel_rfl) (by kernel_rfl) (by decide) (fun _ _ _ h => h) (by rfl) ?_ (by assumption) ?_
        rotate_left
        · intro w'
          go_simp
          try with_reducible rfl
        try simp only [Act.put, List.setIfInBounds_toArray, List.set_cons_zero, List.set_cons_succ]
        refine pickA (v := ?_) 2 (some 33) rfl rfl (by kernel_rfl) (by kernel_rfl) (by kernel_rfl) (by decide) (fun _ _ _ h => h) (by rfl) ?_ (by assumption) ?_
        rotate_left
        · intro w'
          go_simp
          try with_reducible rfl
        try simp only [Act.put, List.setIfInBounds_toArray, List.set_cons_zero, List.set_cons_succ]
        refine pickA (v := (hdV qa q qc)) 3 (some 34) rfl rfl (by kernel_rfl) (by kernel_rfl) (by kernel_rfl) (by decide) (fun _ _ _ h => h) (by rfl) ?_ (by assumption) ?_
        · intro w'
          exact exec_slice rfl (by kernel_rfl) (sl_head qa mn qc q (by have := hqc.out; omega) w')
        try simp only [Act.put, List.setIfInBounds_toArray, List.set_cons_zero, List.set_cons_succ]
        refine pickA (v := ?_) 5 (some 36) rfl rfl (by kernel_rfl) (by kernel_rfl) (by kernel_rfl) (by decide) (fun _ _ _ h => h) (by rfl) ?_ (by assumption) ?_
        rotate_left
        · intro w'
          go_simp
          try with_reducible rfl
        try simp only [Act.put, List.setIfInBounds_toArray, List.set_cons_zero, List.set_cons_succ]
        refine pickA (v := ?_) 6 (some 37) rfl rfl (by kernel_rfl) (by kernel_rfl) (by kernel_rfl) (by decide) (fun _ _ _ h => h) (by rfl) ?_ (by assumption) ?_
        rotate_left
        · intro w'
          go_simp
          try with_reducible rfl
        try simp only [Act.put, List.setIfInBounds_toArray, List.set_cons_zero, List.set_cons_succ]
        refine pickA (v := ?_) 7 (some 38) rfl rfl (by kernel_rfl) (by kernel_rfl) (by kernel_rfl) (by decide) (fun _ _ _ h => h) (by rfl) ?_ (by assumption) ?_
        rotate_left
        · intro w'
          go_simp
          try with_reducible rfl
        try simp only [Act.put, List.setIfInBounds_toArray, List.set_cons_zero, List.set_cons_succ]
        refine pickL (v := .agg #[.int .i64 z.id, .int .i64 z.rk, .int .u64 z.kn, .int .i64 z.ln, .int .u64 z.bt]) 8 (some 39) rfl rfl (by kernel_rfl) (by kernel_rfl) (by kernel_rfl) (by decide) (by kernel_rfl) (by kernel_rfl) (fun _ _ _ h => h) (by rfl) ?_ (by assumption) ?_
        · intro w' hSw
          skip
          exact exec_load rfl rfl hSw
        try simp only [Act.put, List.setIfInBounds_toArray, List.set_cons_zero, List.set_cons_succ]
        refine pickA (v := ?_) 11 (some 42) rfl rfl (by kernel_rfl) (by kernel_rfl) (by kernel_rfl) (by decide) (fun _ _ _ h => h) (by rfl) ?_ (by assumption) ?_
        rotate_left
        · intro w'
          go_simp
          try with_reducible rfl
        try simp only [Act.put, List.setIfInBounds_toArray, List.set_cons_zero, List.set_cons_succ]
        refine pickA (v := ?_) 12 (some 43) rfl rfl (by kernel_rfl) (by kernel_rfl) (by kernel_rfl) (by decide) (fun _ _ _ h => h) (by rfl) ?_ (by assumption) ?_
        rotate_left
        · intro w'
          go_simp
          try with_reducible rfl
        try simp only [Act.put, List.setIfInBounds_toArray, List.set_cons_zero, List.set_cons_succ]
        refine pickA (v := (tlV qa q mn qc)) 13 (some 44) rfl rfl (by kernel_rfl) (by kernel_rfl) (by kernel_rfl) (by decide) (fun _ _ _ h => h) (by rfl) ?_ (by assumption) ?_
        · intro w'
          exact exec_slice rfl (by kernel_rfl) (sl_tail qa mn qc q hq w')
        try simp only [Act.put, List.setIfInBounds_toArray, List.set_cons_zero, List.set_cons_succ]
        have BC0 : Hid (Below WD.heap.size WD WD) := Below.refl _ _
        refine manyL (L := [0, 9]) (by kernel_rfl) (by decide) (fun i hi => ?_)
        simp only [List.mem_cons, List.not_mem_nil, or_false] at hi
        rcases hi with rfl | rfl
        · refine ⟨_, rfl, fun K hK => ?_⟩
          go_simp
          have bE := gal1 WD (.cells #[] 30)
          have bC1 := BC0.out.trans (bE.mono (Nat.le_trans (Nat.le_refl _) BC0.out.size))
          have hE := hide (IsB.new WD #[] 30)
          clear bE
          have BC1 := hide bC1
          clear bC1
          have BG1 : Hid (Below G w (WD.alloc (.cells #[] 30))) := B.out.trans (BC1.out.mono (by rw [← HG.out]; exact (HG.out.symm ▸ B.out).size))
          refine hK.out _ _ ?_ ?_
          · exact LR.out _ BG1.out
          clear hK K
          try simp only [Act.put, List.setIfInBounds_toArray, List.set_cons_zero, List.set_cons_succ]
          clear hHeld
          have hHeld : (fun w' => (Instr.loadAt 30 (.pointer (some ⟨g, o + j * 5, none⟩))).run Tryd.prog w' = .ok (.agg #[.int .i64 z.id, .int .i64 z.rk, .int .u64 z.kn, .int .i64 z.ln, .int .u64 z.bt]) w') (WD.alloc (.cells #[] 30)) := LR.out _ BG1.out
          refine manyL (L := [4, 9]) (by kernel_rfl) (by decide) (fun i hi => ?_)
          simp only [List.mem_cons, List.not_mem_nil, or_false] at hi
          rcases hi with rfl | rfl
          · refine ⟨_, rfl, fun K hK => ?_⟩
            obtain ⟨ea, ec, w4, hap4, hg4, hk4⟩ := ins_copy RX.out hq2.out (by have := hmn.out; omega) BC1.out hE.out (by have := BC1.out.size; first | exact Nat.le_refl _ | (simp; done) | (simp at this ⊢; omega) | (simp; omega))
            have HA4 := hide hap4
            have BC2 : Hid (Below WD.heap.size WD w4) := BC1.out.trans (hk4.to_below BC1.out.size (by simp <;> omega))
            have hE4 := hide hg4
            clear hap4 hg4 hk4
            refine step_append_eq rfl (.tmp 31) (.tmp 34) 22 rfl _ _ (.slice ea q ec) w4 rfl rfl HA4.out ?_
            have BG2 : Hid (Below G w w4) := B.out.trans (BC2.out.mono (by rw [← HG.out]; exact (HG.out.symm ▸ B.out).size))
            refine hK.out _ _ ?_ ?_
            · exact LR.out _ BG2.out
            clear hK K
            try simp only [Act.put, List.setIfInBounds_toArray]
            clear hHeld
            have hHeld : (fun w' => (Instr.loadAt 30 (.pointer (some ⟨g, o + j * 5, none⟩))).run Tryd.prog w' = .ok (.agg #[.int .i64 z.id, .int .i64 z.rk, .int .u64 z.kn, .int .i64 z.ln, .int .u64 z.bt]) w') w4 := LR.out _ BG2.out
            refine oneL (i := 9) (by kernel_rfl) rfl (fun K hK => ?_)
            go_simp
            have bZ := gal1 w4 (.cells #[.int .i64 z.id, .int .i64 z.rk, .int .u64 z.kn, .int .i64 z.ln, .int .u64 z.bt] 30)
            have bC3 := BC2.out.trans (bZ.mono BC2.out.size)
            have hZ0 : Hid (IsB (w4.alloc (.cells #[.int .i64 z.id, .int .i64 z.rk, .int .u64 z.kn, .int .i64 z.ln, .int .u64 z.bt] 30)) w4.heap.size z.cells 30) := IsB.new w4 z.cells 30
            have hZ := hZ0
            have hEr := hide (Rg.below hE4.out bZ)
            clear bZ
            have BC3 := hide bC3
            clear bC3
            have BG3 : Hid (Below G w (w4.alloc (.cells #[.int .i64 z.id, .int .i64 z.rk, .int .u64 z.kn, .int .i64 z.ln, .int .u64 z.bt] 30))) := B.out.trans (BC3.out.mono (by rw [← HG.out]; exact (HG.out.symm ▸ B.out).size))
            refine hK.out _ _ ?_ ?_
            · exact LR.out _ BG3.out
            clear hK K
            try simp only [Act.put, List.setIfInBounds_toArray, List.set_cons_zero, List.set_cons_succ]
            clear hHeld
            have hHeld : (fun w' => (Instr.loadAt 30 (.pointer (some ⟨g, o + j * 5, none⟩))).run Tryd.prog w' = .ok (.agg #[.int .i64 z.id, .int .i64 z.rk, .int .u64 z.kn, .int .i64 z.ln, .int .u64 z.bt]) w') (w4.alloc (.cells #[.int .i64 z.id, .int .i64 z.rk, .int .u64 z.kn, .int .i64 z.ln, .int .u64 z.bt] 30)) := LR.out _ BG3.out
            refine oneL (i := 10) (by kernel_rfl) rfl (fun K hK => ?_)
            obtain ⟨ra, rc, w5, hap5, hb5, sa, sc, w6, hap6, hg6, hb6⟩ := ins_end z RX.out hq2.out (by have := hmn.out; omega) (Nat.le_refl _) BC3.out hEr.out hZ.out BC3.out.size
            rw [hmn.out] at hap6 hg6
            have HA5 := hide hap5
            have HA6 := hide hap6
            have BC4 := hide hb5
            have BC5 := hide hb6
            have HG6 := hide hg6
            clear hap5 hap6 hb5 hb6 hg6
            refine step_append_eq rfl (.tmp 35) (.tmp 40) 22 rfl _ _ (.slice ra (q + 1) rc) w5 rfl rfl HA5.out ?_
            have BG4 : Hid (Below G w w5) := B.out.trans (BC4.out.mono (by rw [← HG.out]; exact (HG.out.symm ▸ B.out).size))
            refine hK.out _ _ ?_ ?_
            · exact LR.out _ BG4.out
            clear hK K
            try simp only [Act.put, List.setIfInBounds_toArray]
            clear hHeld
            have hHeld : (fun w' => (Instr.loadAt 30 (.pointer (some ⟨g, o + j * 5, none⟩))).run Tryd.prog w' = .ok (.agg #[.int .i64 z.id, .int .i64 z.rk, .int .u64 z.kn, .int .i64 z.ln, .int .u64 z.bt]) w') w5 := LR.out _ BG4.out
            refine oneL (i := 14) (by kernel_rfl) rfl (fun K hK => ?_)
            have HR8 : Hid (Gr5 G w6 (.slice sa (mn + 1) sc) (m.take q ++ z :: m.drop q)) := Rg.mono HG6.out (by rw [← HG.out]; exact (HG.out.symm ▸ B.out).size)
            refine step_append_eq rfl (.tmp 41) (.tmp 44) 22 rfl _ _ (.slice sa (mn + 1) sc) w6 rfl rfl HA6.out ?_
            have BG5 : Hid (Below G w w6) := B.out.trans (BC5.out.mono (by rw [← HG.out]; exact (HG.out.symm ▸ B.out).size))
            have B8 := BG5
            refine hK.out _ _ ?_ ?_
            · exact LR.out _ BG5.out
            clear hK K
            try simp only [Act.put]
            clear hHeld
            have hHeld : (fun w' => (Instr.loadAt 30 (.pointer (some ⟨g, o + j * 5, none⟩))).run Tryd.prog w' = .ok (.agg #[.int .i64 z.id, .int .i64 z.rk, .int .u64 z.kn, .int .i64 z.ln, .int .u64 z.bt]) w') w6 := LR.out _ BG5.out
            refine pickA (v := ?_) 15 (some 3) rfl rfl (by kernel_rfl) (by kernel_rfl) (by kernel_rfl) (by decide) (fun _ _ _ h => h) (by rfl) ?_ (by assumption) ?_
            rotate_left
            · intro w'
              go_simp
              try with_reducible rfl
            try simp only [Act.put]
            refine doneL (by kernel_rfl) ?_ _
            clear hHeld
            have e8 : (m.take q ++ z :: m.drop q).length = mn + 1 := by
              simp
              have := hmn.out
              omega
            go_wp2
            exact ⟨⟨j + 1, sa, sc, m.take q ++ z :: m.drop q, by omega, by simp, by rw [e8], HT2, by rw [e8]; exact HR8, B8⟩, by simp [intOf]; omega⟩
          · refine ⟨_, rfl, fun K hK => ?_⟩
            go_simp
            have bZ := gal1 (WD.alloc (.cells #[] 30)) (.cells #[.int .i64 z.id, .int .i64 z.rk, .int .u64 z.kn, .int .i64 z.ln, .int .u64 z.bt] 30)
            have bC2 := BC1.out.trans (bZ.mono BC1.out.size)
            have hZ0 : Hid (IsB ((WD.alloc (.cells #[] 30)).alloc (.cells #[.int .i64 z.id, .int .i64 z.rk, .int .u64 z.kn, .int .i64 z.ln, .int .u64 z.bt] 30)) (WD.heap.size + 1) z.cells 30) := by have h7 := IsB.new (WD.alloc (.cells #[] 30)) z.cells 30; rw [World.size_alloc] at h7; exact h7
            have hE2 := hide (hE.out.below bZ)
            have hZ := hZ0
            clear bZ
            have BC2 := hide bC2
            clear bC2
            have BG2 : Hid (Below G w ((WD.alloc (.cells #[] 30)).alloc (.cells #[.int .i64 z.id, .int .i64 z.rk, .int .u64 z.kn, .int .i64 z.ln, .int .u64 z.bt] 30))) := B.out.trans (BC2.out.mono (by rw [← HG.out]; exact (HG.out.symm ▸ B.out).size))
            refine hK.out _ _ ?_ ?_
            · exact LR.out _ BG2.out
            clear hK K
            try simp only [Act.put, List.setIfInBounds_toArray, List.set_cons_zero, List.set_cons_succ]
            clear hHeld
            have hHeld : (fun w' => (Instr.loadAt 30 (.pointer (some ⟨g, o + j * 5, none⟩))).run Tryd.prog w' = .ok (.agg #[.int .i64 z.id, .int .i64 z.rk, .int .u64 z.kn, .int .i64 z.ln, .int .u64 z.bt]) w') ((WD.alloc (.cells #[] 30)).alloc (.cells #[.int .i64 z.id, .int .i64 z.rk, .int .u64 z.kn, .int .i64 z.ln, .int .u64 z.bt] 30)) := LR.out _ BG2.out
            refine oneL (i := 4) (by kernel_rfl) rfl (fun K hK => ?_)
            obtain ⟨ea, ec, w4, hap4, hg4, hk4⟩ := ins_copy RX.out hq2.out (by have := hmn.out; omega) BC2.out hE2.out (by have := BC2.out.size; first | exact Nat.le_refl _ | (simp; done) | (simp at this ⊢; omega) | (simp; omega))
            have HA4 := hide hap4
            have BC3 : Hid (Below WD.heap.size WD w4) := BC2.out.trans (hk4.to_below BC2.out.size (by simp <;> omega))
            have hE4 := hide hg4
            have hZ4 := hide (hZ.out.kp hk4 (by simp <;> omega))
            have hEr := hE4
            clear hap4 hg4 hk4
            refine step_append_eq rfl (.tmp 31) (.tmp 34) 22 rfl _ _ (.slice ea q ec) w4 rfl rfl HA4.out ?_
            have BG3 : Hid (Below G w w4) := B.out.trans (BC3.out.mono (by rw [← HG.out]; exact (HG.out.symm ▸ B.out).size))
            refine hK.out _ _ ?_ ?_
            · exact LR.out _ BG3.out
            clear hK K
            try simp only [Act.put, List.setIfInBounds_toArray]
            clear hHeld
            have hHeld : (fun w' => (Instr.loadAt 30 (.pointer (some ⟨g, o + j * 5, none⟩))).run Tryd.prog w' = .ok (.agg #[.int .i64 z.id, .int .i64 z.rk, .int .u64 z.kn, .int .i64 z.ln, .int .u64 z.bt]) w') w4 := LR.out _ BG3.out
            refine oneL (i := 10) (by kernel_rfl) rfl (fun K hK => ?_)
            obtain ⟨ra, rc, w5, hap5, hb5, sa, sc, w6, hap6, hg6, hb6⟩ := ins_end z RX.out hq2.out (by have := hmn.out; omega) (Nat.le_refl _) BC3.out hEr.out hZ4.out BC3.out.size
            rw [hmn.out] at hap6 hg6
            have HA5 := hide hap5
            have HA6 := hide hap6
            have BC4 := hide hb5
            have BC5 := hide hb6
            have HG6 := hide hg6
            clear hap5 hap6 hb5 hb6 hg6
            refine step_append_eq rfl (.tmp 35) (.tmp 40) 22 rfl _ _ (.slice ra (q + 1) rc) w5 rfl rfl HA5.out ?_
            have BG4 : Hid (Below G w w5) := B.out.trans (BC4.out.mono (by rw [← HG.out]; exact (HG.out.symm ▸ B.out).size))
            refine hK.out _ _ ?_ ?_
            · exact LR.out _ BG4.out
            clear hK K
            try simp only [Act.put]
            clear hHeld
            have hHeld : (fun w' => (Instr.loadAt 30 (.pointer (some ⟨g, o + j * 5, none⟩))).run Tryd.prog w' = .ok (.agg #[.int .i64 z.id, .int .i64 z.rk, .int .u64 z.kn, .int .i64 z.ln, .int .u64 z.bt]) w') w5 := LR.out _ BG4.out
            refine oneL (i := 14) (by kernel_rfl) rfl (fun K hK => ?_)
            have HR8 : Hid (Gr5 G w6 (.slice sa (mn + 1) sc) (m.take q ++ z :: m.drop q)) := Rg.mono HG6.out (by rw [← HG.out]; exact (HG.out.symm ▸ B.out).size)
            refine step_append_eq rfl (.tmp 41) (.tmp 44) 22 rfl _ _ (.slice sa (mn + 1) sc) w6 rfl rfl HA6.out ?_
            have BG5 : Hid (Below G w w6) := B.out.trans (BC5.out.mono (by rw [← HG.out]; exact (HG.out.symm ▸ B.out).size))
            have B8 := BG5
            refine hK.out _ _ ?_ ?_
            · exact LR.out _ BG5.out
            clear hK K
            try simp only [Act.put]
            clear hHeld
            have hHeld : (fun w' => (Instr.loadAt 30 (.pointer (some ⟨g, o + j * 5, none⟩))).run Tryd.prog w' = .ok (.agg #[.int .i64 z.id, .int .i64 z.rk, .int .u64 z.kn, .int .i64 z.ln, .int .u64 z.bt]) w') w6 := LR.out _ BG5.out
            refine pickA (v := ?_) 15 (some 3) rfl rfl (by kernel_rfl) (by kernel_rfl) (by kernel_rfl) (by decide) (fun _ _ _ h => h) (by rfl) ?_ (by assumption) ?_
            rotate_left
            · intro w'
              go_simp
              try with_reducible rfl
            try simp only [Act.put]
            refine doneL (by kernel_rfl) ?_ _
            clear hHeld
            have e8 : (m.take q ++ z :: m.drop q).length = mn + 1 := by
              simp
              have := hmn.out
              omega
            go_wp2
            exact ⟨⟨j + 1, sa, sc, m.take q ++ z :: m.drop q, by omega, by simp, by rw [e8], HT2, by rw [e8]; exact HR8, B8⟩, by simp [intOf]; omega⟩
        · refine ⟨_, rfl, fun K hK => ?_⟩
          go_simp
          have bZ := gal1 WD (.cells #[.int .i64 z.id, .int .i64 z.rk, .int .u64 z.kn, .int .i64 z.ln, .int .u64 z.bt] 30)
          have bC1 := BC0.out.trans (bZ.mono BC0.out.size)
          have hZ0 : Hid (IsB (WD.alloc (.cells #[.int .i64 z.id, .int .i64 z.rk, .int .u64 z.kn, .int .i64 z.ln, .int .u64 z.bt] 30)) WD.heap.size z.cells 30) := IsB.new WD z.cells 30
          clear bZ
          have BC1 := hide bC1
          clear bC1
          have BG1 : Hid (Below G w (WD.alloc (.cells #[.int .i64 z.id, .int .i64 z.rk, .int .u64 z.kn, .int .i64 z.ln, .int .u64 z.bt] 30))) := B.out.trans (BC1.out.mono (by rw [← HG.out]; exact (HG.out.symm ▸ B.out).size))
          refine hK.out _ _ ?_ ?_
          · exact LR.out _ BG1.out
          clear hK K
          try simp only [Act.put, List.setIfInBounds_toArray, List.set_cons_zero, List.set_cons_succ]
          clear hHeld
          have hHeld : (fun w' => (Instr.loadAt 30 (.pointer (some ⟨g, o + j * 5, none⟩))).run Tryd.prog w' = .ok (.agg #[.int .i64 z.id, .int .i64 z.rk, .int .u64 z.kn, .int .i64 z.ln, .int .u64 z.bt]) w') (WD.alloc (.cells #[.int .i64 z.id, .int .i64 z.rk, .int .u64 z.kn, .int .i64 z.ln, .int .u64 z.bt] 30)) := LR.out _ BG1.out
          refine oneL (i := 0) (by kernel_rfl) rfl (fun K hK => ?_)
          go_simp
          have bE := gal1 (WD.alloc (.cells #[.int .i64 z.id, .int .i64 z.rk, .int .u64 z.kn, .int .i64 z.ln, .int .u64 z.bt] 30)) (.cells #[] 30)
          have bC2 := BC1.out.trans (bE.mono (Nat.le_trans (Nat.le_refl _) BC1.out.size))
          have hE : Hid (IsB ((WD.alloc (.cells #[.int .i64 z.id, .int .i64 z.rk, .int .u64 z.kn, .int .i64 z.ln, .int .u64 z.bt] 30)).alloc (.cells #[] 30)) (WD.heap.size + 1) #[] 30) := by have h7 := IsB.new (WD.alloc (.cells #[.int .i64 z.id, .int .i64 z.rk, .int .u64 z.kn, .int .i64 z.ln, .int .u64 z.bt] 30)) #[] 30; rw [World.size_alloc] at h7; exact h7
          have hZ := hide (hZ0.out.below bE)
          clear bE
          have BC2 := hide bC2
          clear bC2
          have BG2 : Hid (Below G w ((WD.alloc (.cells #[.int .i64 z.id, .int .i64 z.rk, .int .u64 z.kn, .int .i64 z.ln, .int .u64 z.bt] 30)).alloc (.cells #[] 30))) := B.out.trans (BC2.out.mono (by rw [← HG.out]; exact (HG.out.symm ▸ B.out).size))
          refine hK.out _ _ ?_ ?_
          · exact LR.out _ BG2.out
          clear hK K
          try simp only [Act.put, List.setIfInBounds_toArray, List.set_cons_zero, List.set_cons_succ]
          clear hHeld
          have hHeld : (fun w' => (Instr.loadAt 30 (.pointer (some ⟨g, o + j * 5, none⟩))).run Tryd.prog w' = .ok (.agg #[.int .i64 z.id, .int .i64 z.rk, .int .u64 z.kn, .int .i64 z.ln, .int .u64 z.bt]) w') ((WD.alloc (.cells #[.int .i64 z.id, .int .i64 z.rk, .int .u64 z.kn, .int .i64 z.ln, .int .u64 z.bt] 30)).alloc (.cells #[] 30)) := LR.out _ BG2.out
          refine oneL (i := 4) (by kernel_rfl) rfl (fun K hK => ?_)
          obtain ⟨ea, ec, w4, hap4, hg4, hk4⟩ := ins_copy RX.out hq2.out (by have := hmn.out; omega) BC2.out hE.out (by have := BC2.out.size; first | exact Nat.le_refl _ | (simp; done) | (simp at this ⊢; omega) | (simp; omega))
          have HA4 := hide hap4
          have BC3 : Hid (Below WD.heap.size WD w4) := BC2.out.trans (hk4.to_below BC2.out.size (by simp <;> omega))
          have hE4 := hide hg4
          have hZ4 := hide (hZ.out.kp hk4 (by simp <;> omega))
          have hEr := hE4
          clear hap4 hg4 hk4
          refine step_append_eq rfl (.tmp 31) (.tmp 34) 22 rfl _ _ (.slice ea q ec) w4 rfl rfl HA4.out ?_
          have BG3 : Hid (Below G w w4) := B.out.trans (BC3.out.mono (by rw [← HG.out]; exact (HG.out.symm ▸ B.out).size))
          refine hK.out _ _ ?_ ?_
          · exact LR.out _ BG3.out
          clear hK K
          try simp only [Act.put, List.setIfInBounds_toArray]
          clear hHeld
          have hHeld : (fun w' => (Instr.loadAt 30 (.pointer (some ⟨g, o + j * 5, none⟩))).run Tryd.prog w' = .ok (.agg #[.int .i64 z.id, .int .i64 z.rk, .int .u64 z.kn, .int .i64 z.ln, .int .u64 z.bt]) w') w4 := LR.out _ BG3.out
          refine oneL (i := 10) (by kernel_rfl) rfl (fun K hK => ?_)
          obtain ⟨ra, rc, w5, hap5, hb5, sa, sc, w6, hap6, hg6, hb6⟩ := ins_end z RX.out hq2.out (by have := hmn.out; omega) (Nat.le_refl _) BC3.out hEr.out hZ4.out BC3.out.size
          rw [hmn.out] at hap6 hg6
          have HA5 := hide hap5
          have HA6 := hide hap6
          have BC4 := hide hb5
          have BC5 := hide hb6
          have HG6 := hide hg6
          clear hap5 hap6 hb5 hb6 hg6
          refine step_append_eq rfl (.tmp 35) (.tmp 40) 22 rfl _ _ (.slice ra (q + 1) rc) w5 rfl rfl HA5.out ?_
          have BG4 : Hid (Below G w w5) := B.out.trans (BC4.out.mono (by rw [← HG.out]; exact (HG.out.symm ▸ B.out).size))
          refine hK.out _ _ ?_ ?_
          · exact LR.out _ BG4.out
          clear hK K
          try simp only [Act.put]
          clear hHeld
          have hHeld : (fun w' => (Instr.loadAt 30 (.pointer (some ⟨g, o + j * 5, none⟩))).run Tryd.prog w' = .ok (.agg #[.int .i64 z.id, .int .i64 z.rk, .int .u64 z.kn, .int .i64 z.ln, .int .u64 z.bt]) w') w5 := LR.out _ BG4.out
          refine oneL (i := 14) (by kernel_rfl) rfl (fun K hK => ?_)
          have HR8 : Hid (Gr5 G w6 (.slice sa (mn + 1) sc) (m.take q ++ z :: m.drop q)) := Rg.mono HG6.out (by rw [← HG.out]; exact (HG.out.symm ▸ B.out).size)
          refine step_append_eq rfl (.tmp 41) (.tmp 44) 22 rfl _ _ (.slice sa (mn + 1) sc) w6 rfl rfl HA6.out ?_
          have BG5 : Hid (Below G w w6) := B.out.trans (BC5.out.mono (by rw [← HG.out]; exact (HG.out.symm ▸ B.out).size))
          have B8 := BG5
          refine hK.out _ _ ?_ ?_
          · exact LR.out _ BG5.out
          clear hK K
          try simp only [Act.put]
          clear hHeld
          have hHeld : (fun w' => (Instr.loadAt 30 (.pointer (some ⟨g, o + j * 5, none⟩))).run Tryd.prog w' = .ok (.agg #[.int .i64 z.id, .int .i64 z.rk, .int .u64 z.kn, .int .i64 z.ln, .int .u64 z.bt]) w') w6 := LR.out _ BG5.out
          refine pickA (v := ?_) 15 (some 3) rfl rfl (by kernel_rfl) (by kernel_rfl) (by kernel_rfl) (by decide) (fun _ _ _ h => h) (by rfl) ?_ (by assumption) ?_
          rotate_left
          · intro w'
            go_simp
            try with_reducible rfl
          try simp only [Act.put]
          refine doneL (by kernel_rfl) ?_ _
          clear hHeld
          have e8 : (m.take q ++ z :: m.drop q).length = mn + 1 := by
            simp
            have := hmn.out
            omega
          go_wp2
          exact ⟨⟨j + 1, sa, sc, m.take q ++ z :: m.drop q, by omega, by simp, by rw [e8], HT2, by rw [e8]; exact HR8, B8⟩, by simp [intOf]; omega⟩
      have hql : q < m.length := by rw [hmn.out]; exact hlq
      have hlq2 : (q : Int) < mn := by omega
      obtain ⟨gm, om, capm, ev, -, -⟩ := RX.out.rsl.form (by omega)
      injection ev with ev el ec
      clear el
      subst ev ec
      have LYA : Hid (∀ w', Gr5 G w' (.slice (some ⟨gm, om, none⟩) mn qc) m → (Instr.loadAt 26 (.pointer (some ⟨gm, om + q * 5 + 1, none⟩))).run Tryd.prog w' = .ok (.agg #[.int .i64 m[q].rk, .int .u64 m[q].kn]) w') := fun w' h => h.rsl.ldk q hql
      have HTk : Hid (klt (m[q].rk, m[q].kn) (z.rk, z.kn) = true → ∀ y ∈ m.take (q + 1), klt (y.rk, y.kn) (z.rk, z.kn) = true) := fun hx y hy => by
        rw [List.take_succ_eq_append_getElem hql] at hy
        rcases List.mem_append.1 hy with h2 | h2
        · exact HQ.out y h2
        · simp only [List.mem_singleton] at h2; rw [h2]; exact hx
      have HNo : Hid (klt (m[q].rk, m[q].kn) (z.rk, z.kn) = false → ∀ hq3 : q < m.length, klt (m[q].rk, m[q].kn) (z.rk, z.kn) = false) := fun hx _ => hx
      obtain ⟨y, hy⟩ : ∃ y, m[q] = y := ⟨_, rfl⟩
      rw [hy] at LYA HTk
      have hyq : Hid (∀ hq3 : q < m.length, m[q] = y) := fun _ => hy
      clear hy HNo
      go_wp2_with fail
      replace B := hide (B.out.drew)
      replace RX := hide (RX.out.below ((Below.refl _ _).drew))
      have LY := hide (LYA.out _ RX.out)
      have LK1 := hide (LK.out _ B.out)
      cases hB : klt (y.rk, y.kn) (z.rk, z.kn) with
      | true =>
        have HQ2 := hide (HTk.out hB)
        clear HTk HQ
        have HB := hide hB
        clear hB
        refine regionL 17 (fun w' => (Instr.loadAt 26 (.pointer (some ⟨gm, om + q * 5 + 1, none⟩))).run Tryd.prog w' = .ok (.agg #[.int .i64 (y.rk), .int .u64 (y.kn)]) w' ∧ (Instr.loadAt 26 (.pointer (some ⟨g, o + j * 5 + 1, none⟩))).run Tryd.prog w' = .ok (.agg #[.int .i64 (z.rk), .int .u64 (z.kn)]) w') mixed ⟨LY.out, LK1.out⟩ (fun hHeld => ?_)
        generalize hW6 : wr.drew = W6 at *
        clear hW6
        refine pickA (v := ?_) 0 (some 12) rfl rfl (by kernel_rfl) (by kernel_rfl) (by kernel_rfl) (by decide) (fun _ _ _ h => h) (by rfl) ?_ (by assumption) ?_
        rotate_left
        · intro w'
          go_simp
          try with_reducible rfl
        try simp only [Act.put, List.setIfInBounds_toArray, List.set_cons_zero, List.set_cons_succ]
        refine pickA (v := ?_) 1 (some 13) rfl rfl (by kernel_rfl) (by kernel_rfl) (by kernel_rfl) (by decide) (fun _ _ _ h => h) (by rfl) ?_ (by assumption) ?_
        rotate_left
        · intro w'
          go_simp
          try with_reducible rfl
        try simp only [Act.put, List.setIfInBounds_toArray, List.set_cons_zero, List.set_cons_succ]
        refine pickA (v := ?_) 2 (some 14) rfl rfl (by kernel_rfl) (by kernel_rfl) (by kernel_rfl) (by decide) (fun _ _ _ h => h) (by rfl) ?_ (by assumption) ?_
        rotate_left
        · intro w'
          go_simp
          try with_reducible rfl
        try simp only [Act.put, List.setIfInBounds_toArray, List.set_cons_zero, List.set_cons_succ]
        refine pickA (v := ?_) 3 (some 15) rfl rfl (by kernel_rfl) (by kernel_rfl) (by kernel_rfl) (by decide) (fun _ _ _ h => h) (by rfl) ?_ (by assumption) ?_
        rotate_left
        · intro w'
          go_simp
          try with_reducible rfl
        try simp only [Act.put, List.setIfInBounds_toArray, List.set_cons_zero, List.set_cons_succ]
        refine pickA (v := ?_) 4 (some 16) rfl rfl (by kernel_rfl) (by kernel_rfl) (by kernel_rfl) (by decide) (fun _ _ _ h => h) (by rfl) ?_ (by assumption) ?_
        rotate_left
        · intro w'
          go_simp
          try with_reducible rfl
        try simp only [Act.put, List.setIfInBounds_toArray, List.set_cons_zero, List.set_cons_succ]
        refine pickA (v := ?_) 5 (some 17) rfl rfl (by kernel_rfl) (by kernel_rfl) (by kernel_rfl) (by decide) (fun _ _ _ h => h) (by rfl) ?_ (by assumption) ?_
        rotate_left
        · intro w'
          go_simp
          try with_reducible rfl
        try simp only [Act.put, List.setIfInBounds_toArray, List.set_cons_zero, List.set_cons_succ]
        refine pickA (v := ?_) 6 (some 18) rfl rfl (by kernel_rfl) (by kernel_rfl) (by kernel_rfl) (by decide) (fun _ _ _ h => h) (by rfl) ?_ (by assumption) ?_
        rotate_left
        · intro w'
          go_simp
          try with_reducible rfl
        try simp only [Act.put, List.setIfInBounds_toArray, List.set_cons_zero, List.set_cons_succ]
        refine pickA (v := ?_) 7 (some 19) rfl rfl (by kernel_rfl) (by kernel_rfl) (by kernel_rfl) (by decide) (fun _ _ _ h => h) (by rfl) ?_ (by assumption) ?_
        rotate_left
        · intro w'
          go_simp
          try with_reducible rfl
        try simp only [Act.put, List.setIfInBounds_toArray, List.set_cons_zero, List.set_cons_succ]
        refine pickA (v := ?_) 8 (some 20) rfl rfl (by kernel_rfl) (by kernel_rfl) (by kernel_rfl) (by decide) (fun _ _ _ h => h) (by rfl) ?_ (by assumption) ?_
        rotate_left
        · intro w'
          go_simp
          try with_reducible rfl
        try simp only [Act.put, List.setIfInBounds_toArray, List.set_cons_zero, List.set_cons_succ]
        refine pickL (v := (.agg #[.int .i64 (y.rk), .int .u64 (y.kn)])) 9 (some 21) rfl rfl (by kernel_rfl) (by kernel_rfl) (by kernel_rfl) (by decide) (by kernel_rfl) (by kernel_rfl) (fun _ _ _ h => h) (by rfl) ?_ (by assumption) ?_
        · intro w' hSw
          obtain ⟨q0, q1⟩ := hSw
          exact exec_load rfl rfl q0
        try simp only [Act.put, List.setIfInBounds_toArray, List.set_cons_zero, List.set_cons_succ]
        refine pickA (v := ?_) 10 (some 22) rfl rfl (by kernel_rfl) (by kernel_rfl) (by kernel_rfl) (by decide) (fun _ _ _ h => h) (by rfl) ?_ (by assumption) ?_
        rotate_left
        · intro w'
          go_simp
          try with_reducible rfl
        try simp only [Act.put, List.setIfInBounds_toArray, List.set_cons_zero, List.set_cons_succ]
        refine pickA (v := ?_) 11 (some 23) rfl rfl (by kernel_rfl) (by kernel_rfl) (by kernel_rfl) (by decide) (fun _ _ _ h => h) (by rfl) ?_ (by assumption) ?_
        rotate_left
        · intro w'
          go_simp
          try with_reducible rfl
        try simp only [Act.put, List.setIfInBounds_toArray, List.set_cons_zero, List.set_cons_succ]
        refine pickA (v := ?_) 12 (some 24) rfl rfl (by kernel_rfl) (by kernel_rfl) (by kernel_rfl) (by decide) (fun _ _ _ h => h) (by rfl) ?_ (by assumption) ?_
        rotate_left
        · intro w'
          go_simp
          try with_reducible rfl
        try simp only [Act.put, List.setIfInBounds_toArray, List.set_cons_zero, List.set_cons_succ]
        refine pickA (v := ?_) 13 (some 25) rfl rfl (by kernel_rfl) (by kernel_rfl) (by kernel_rfl) (by decide) (fun _ _ _ h => h) (by rfl) ?_ (by assumption) ?_
        rotate_left
        · intro w'
          go_simp
          try with_reducible rfl
        try simp only [Act.put, List.setIfInBounds_toArray, List.set_cons_zero, List.set_cons_succ]
        refine pickL (v := (.agg #[.int .i64 (z.rk), .int .u64 (z.kn)])) 14 (some 26) rfl rfl (by kernel_rfl) (by kernel_rfl) (by kernel_rfl) (by decide) (by kernel_rfl) (by kernel_rfl) (fun _ _ _ h => h) (by rfl) ?_ (by assumption) ?_
        · intro w' hSw
          obtain ⟨q0, q1⟩ := hSw
          exact exec_load rfl rfl q1
        try simp only [Act.put, List.setIfInBounds_toArray, List.set_cons_zero, List.set_cons_succ]
        refine oneL (i := 15) (by kernel_rfl) rfl (fun K hK => ?_)
        go_simp
        refine (r9Less_any y.rk y.kn z.rk z.kn W6).mono ?_
        rintro e u1 ⟨rfl, hb⟩
        rw [HB.out]
        have B2 : Hid (Below G w u1) := B.out.trans (hb.mono (by rw [← HG.out]; exact (HG.out.symm ▸ B.out).size))
        replace RX := hide (RX.out.below hb)
        replace B := B2
        clear B2
        have LY2 := hide (LYA.out _ RX.out)
        have LK2 := hide (LK.out _ B.out)
        clear hb
        refine hK.out _ _ ?_ ?_
        · exact ⟨LY2.out, LK2.out⟩
        clear hK K
        try simp only [Act.put, List.setIfInBounds_toArray, List.set_cons_zero, List.set_cons_succ]
        clear hHeld
        have hHeld : (fun w' => (Instr.loadAt 26 (.pointer (some ⟨gm, om + q * 5 + 1, none⟩))).run Tryd.prog w' = .ok (.agg #[.int .i64 (y.rk), .int .u64 (y.kn)]) w' ∧ (Instr.loadAt 26 (.pointer (some ⟨g, o + j * 5 + 1, none⟩))).run Tryd.prog w' = .ok (.agg #[.int .i64 (z.rk), .int .u64 (z.kn)]) w') u1 := ⟨LY2.out, LK2.out⟩
        refine pickA (v := ?_) 16 (some 28) rfl rfl (by kernel_rfl) (by kernel_rfl) (by kernel_rfl) (by decide) (fun _ _ _ h => h) (by rfl) ?_ (by assumption) ?_
        rotate_left
        · intro w'
          go_simp
          try with_reducible rfl
        try simp only [Act.put, List.setIfInBounds_toArray, List.set_cons_zero, List.set_cons_succ]
        refine doneL (by kernel_rfl) ?_ _
        clear hHeld
        go_wp2
        exact ⟨⟨q + 1, by omega, by simp, HQ2, RX, B⟩, by simp [intOf]; omega⟩
      | false =>
        have HQ3 : Hid (∀ hq3 : q < m.length, klt (m[q].rk, m[q].kn) (z.rk, z.kn) = false) := fun hq3 => by rw [hyq.out hq3]; exact hB
        clear HTk
        have HB := hide hB
        clear hB
        refine regionL 17 (fun w' => (Instr.loadAt 26 (.pointer (some ⟨gm, om + q * 5 + 1, none⟩))).run Tryd.prog w' = .ok (.agg #[.int .i64 (y.rk), .int .u64 (y.kn)]) w' ∧ (Instr.loadAt 26 (.pointer (some ⟨g, o + j * 5 + 1, none⟩))).run Tryd.prog w' = .ok (.agg #[.int .i64 (z.rk), .int .u64 (z.kn)]) w') mixed ⟨LY.out, LK1.out⟩ (fun hHeld => ?_)
        generalize hW6 : wr.drew = W6 at *
        clear hW6
        refine pickA (v := ?_) 0 (some 12) rfl rfl (by kernel_rfl) (by kernel_rfl) (by kernel_rfl) (by decide) (fun _ _ _ h => h) (by rfl) ?_ (by assumption) ?_
        rotate_left
        · intro w'
          go_simp
          try with_reducible rfl
        try simp only [Act.put, List.setIfInBounds_toArray, List.set_cons_zero, List.set_cons_succ]
        refine pickA (v := ?_) 1 (some 13) rfl rfl (by kernel_rfl) (by kernel_rfl) (by kernel_rfl) (by decide) (fun _ _ _ h => h) (by rfl) ?_ (by assumption) ?_
        rotate_left
        · intro w'
          go_simp
          try with_reducible rfl
        try simp only [Act.put, List.setIfInBounds_toArray, List.set_cons_zero, List.set_cons_succ]
        refine pickA (v := ?_) 2 (some 14) rfl rfl (by kernel_rfl) (by kernel_rfl) (by kernel_rfl) (by decide) (fun _ _ _ h => h) (by rfl) ?_ (by assumption) ?_
        rotate_left
        · intro w'
          go_simp
          try with_reducible rfl
        try simp only [Act.put, List.setIfInBounds_toArray, List.set_cons_zero, List.set_cons_succ]
        refine pickA (v := ?_) 3 (some 15) rfl rfl (by kernel_rfl) (by kernel_rfl) (by kernel_rfl) (by decide) (fun _ _ _ h => h) (by rfl) ?_ (by assumption) ?_
        rotate_left
        · intro w'
          go_simp
          try with_reducible rfl
        try simp only [Act.put, List.setIfInBounds_toArray, List.set_cons_zero, List.set_cons_succ]
        refine pickA (v := ?_) 4 (some 16) rfl rfl (by kernel_rfl) (by kernel_rfl) (by kernel_rfl) (by decide) (fun _ _ _ h => h) (by rfl) ?_ (by assumption) ?_
        rotate_left
        · intro w'
          go_simp
          try with_reducible rfl
        try simp only [Act.put, List.setIfInBounds_toArray, List.set_cons_zero, List.set_cons_succ]
        refine pickA (v := ?_) 5 (some 17) rfl rfl (by kernel_rfl) (by kernel_rfl) (by kernel_rfl) (by decide) (fun _ _ _ h => h) (by rfl) ?_ (by assumption) ?_
        rotate_left
        · intro w'
          go_simp
          try with_reducible rfl
        try simp only [Act.put, List.setIfInBounds_toArray, List.set_cons_zero, List.set_cons_succ]
        refine pickA (v := ?_) 6 (some 18) rfl rfl (by kernel_rfl) (by kernel_rfl) (by kernel_rfl) (by decide) (fun _ _ _ h => h) (by rfl) ?_ (by assumption) ?_
        rotate_left
        · intro w'
          go_simp
          try with_reducible rfl
        try simp only [Act.put, List.setIfInBounds_toArray, List.set_cons_zero, List.set_cons_succ]
        refine pickA (v := ?_) 7 (some 19) rfl rfl (by kernel_rfl) (by kernel_rfl) (by kernel_rfl) (by decide) (fun _ _ _ h => h) (by rfl) ?_ (by assumption) ?_
        rotate_left
        · intro w'
          go_simp
          try with_reducible rfl
        try simp only [Act.put, List.setIfInBounds_toArray, List.set_cons_zero, List.set_cons_succ]
        refine pickA (v := ?_) 8 (some 20) rfl rfl (by kernel_rfl) (by kernel_rfl) (by kernel_rfl) (by decide) (fun _ _ _ h => h) (by rfl) ?_ (by assumption) ?_
        rotate_left
        · intro w'
          go_simp
          try with_reducible rfl
        try simp only [Act.put, List.setIfInBounds_toArray, List.set_cons_zero, List.set_cons_succ]
        refine pickL (v := (.agg #[.int .i64 (y.rk), .int .u64 (y.kn)])) 9 (some 21) rfl rfl (by kernel_rfl) (by kernel_rfl) (by kernel_rfl) (by decide) (by kernel_rfl) (by kernel_rfl) (fun _ _ _ h => h) (by rfl) ?_ (by assumption) ?_
        · intro w' hSw
          obtain ⟨q0, q1⟩ := hSw
          exact exec_load rfl rfl q0
        try simp only [Act.put, List.setIfInBounds_toArray, List.set_cons_zero, List.set_cons_succ]
        refine pickA (v := ?_) 10 (some 22) rfl rfl (by kernel_rfl) (by kernel_rfl) (by kernel_rfl) (by decide) (fun _ _ _ h => h) (by rfl) ?_ (by assumption) ?_
        rotate_left
        · intro w'
          go_simp
          try with_reducible rfl
        try simp only [Act.put, List.setIfInBounds_toArray, List.set_cons_zero, List.set_cons_succ]
        refine pickA (v := ?_) 11 (some 23) rfl rfl (by kernel_rfl) (by kernel_rfl) (by kernel_rfl) (by decide) (fun _ _ _ h => h) (by rfl) ?_ (by assumption) ?_
        rotate_left
        · intro w'
          go_simp
          try with_reducible rfl
        try simp only [Act.put, List.setIfInBounds_toArray, List.set_cons_zero, List.set_cons_succ]
        refine pickA (v := ?_) 12 (some 24) rfl rfl (by kernel_rfl) (by kernel_rfl) (by kernel_rfl) (by decide) (fun _ _ _ h => h) (by rfl) ?_ (by assumption) ?_
        rotate_left
        · intro w'
          go_simp
          try with_reducible rfl
        try simp only [Act.put, List.setIfInBounds_toArray, List.set_cons_zero, List.set_cons_succ]
        refine pickA (v := ?_) 13 (some 25) rfl rfl (by kernel_rfl) (by kernel_rfl) (by kernel_rfl) (by decide) (fun _ _ _ h => h) (by rfl) ?_ (by assumption) ?_
        rotate_left
        · intro w'
          go_simp
          try with_reducible rfl
        try simp only [Act.put, List.setIfInBounds_toArray, List.set_cons_zero, List.set_cons_succ]
        refine pickL (v := (.agg #[.int .i64 (z.rk), .int .u64 (z.kn)])) 14 (some 26) rfl rfl (by kernel_rfl) (by kernel_rfl) (by kernel_rfl) (by decide) (by kernel_rfl) (by kernel_rfl) (fun _ _ _ h => h) (by rfl) ?_ (by assumption) ?_
        · intro w' hSw
          obtain ⟨q0, q1⟩ := hSw
          exact exec_load rfl rfl q1
        try simp only [Act.put, List.setIfInBounds_toArray, List.set_cons_zero, List.set_cons_succ]
        refine oneL (i := 15) (by kernel_rfl) rfl (fun K hK => ?_)
        go_simp
        refine (r9Less_any y.rk y.kn z.rk z.kn W6).mono ?_
        rintro e u1 ⟨rfl, hb⟩
        rw [HB.out]
        have B2 : Hid (Below G w u1) := B.out.trans (hb.mono (by rw [← HG.out]; exact (HG.out.symm ▸ B.out).size))
        replace RX := hide (RX.out.below hb)
        replace B := B2
        clear B2
        have LY2 := hide (LYA.out _ RX.out)
        have LK2 := hide (LK.out _ B.out)
        clear hb
        refine hK.out _ _ ?_ ?_
        · exact ⟨LY2.out, LK2.out⟩
        clear hK K
        try simp only [Act.put, List.setIfInBounds_toArray, List.set_cons_zero, List.set_cons_succ]
        clear hHeld
        have hHeld : (fun w' => (Instr.loadAt 26 (.pointer (some ⟨gm, om + q * 5 + 1, none⟩))).run Tryd.prog w' = .ok (.agg #[.int .i64 (y.rk), .int .u64 (y.kn)]) w' ∧ (Instr.loadAt 26 (.pointer (some ⟨g, o + j * 5 + 1, none⟩))).run Tryd.prog w' = .ok (.agg #[.int .i64 (z.rk), .int .u64 (z.kn)]) w') u1 := ⟨LY2.out, LK2.out⟩
        refine pickA (v := ?_) 16 (some 28) rfl rfl (by kernel_rfl) (by kernel_rfl) (by kernel_rfl) (by decide) (fun _ _ _ h => h) (by rfl) ?_ (by assumption) ?_
        rotate_left
        · intro w'
          go_simp
          try with_reducible rfl
        try simp only [Act.put, List.setIfInBounds_toArray, List.set_cons_zero, List.set_cons_succ]
        refine doneL (by kernel_rfl) ?_ _
        clear hHeld
        have hq2 : Hid (q ≤ m.length) := by show _ ≤ _; rw [hmn.out]; exact hq
        have hqc : Hid (q ≤ qc) := by obtain ⟨a2, c2, e, h1, -⟩ := RX.out.shape; injection e with _ _ e; show q ≤ qc; rw [e]; have := hq2.out; omega
        have HT2 : Hid (m.take q ++ z :: m.drop q = sortL (l.take (j + 1))) := by show _ = _; rw [HT.out]; exact (insL_at HQ.out HQ3.out).symm
        clear HT HQ
        go_wp2_with fail
        replace B := hide (B.out.drew)
        replace RX := hide (RX.out.below ((Below.refl _ _).drew))
        have L8 := hide (LR.out _ B.out)
        refine regionL 16 (fun w' => (Instr.loadAt 30 (.pointer (some ⟨g, o + j * 5, none⟩))).run Tryd.prog w' = .ok (.agg #[.int .i64 z.id, .int .i64 z.rk, .int .u64 z.kn, .int .i64 z.ln, .int .u64 z.bt]) w') mixed L8.out (fun hHeld => ?_)
        generalize hWD : u1.drew = WD at *
        clear hWD
        refine pickA (v := ?_) 1 (some 32) rfl rfl (by kernel_rfl) (by kernel_rfl) (by kernel_rfl) (by decide) (fun _ _ _ h => h) (by rfl) ?_ (by assumption) ?_
        rotate_left
        · intro w'
          go_simp
          try with_reducible rfl
        try simp only [Act.put, List.setIfInBounds_toArray, List.set_cons_zero, List.set_cons_succ]
        refine pickA (v := ?_) 2 (some 33) rfl rfl (by kernel_rfl) (by kernel_rfl) (by kernel_rfl) (by decide) (fun _ _ _ h => h) (by rfl) ?_ (by assumption) ?_
        rotate_left
        · intro w'
          go_simp
          try with_reducible rfl
        try simp only [Act.put, List.setIfInBounds_toArray, List.set_cons_zero, List.set_cons_succ]
        refine pickA (v := (hdV (some ⟨gm, om, none⟩) q qc)) 3 (some 34) rfl rfl (by kernel_rfl) (by kernel_rfl) (by kernel_rfl) (by decide) (fun _ _ _ h => h) (by rfl) ?_ (by assumption) ?_
        · intro w'
          exact exec_slice rfl (by kernel_rfl) (sl_head (some ⟨gm, om, none⟩) mn qc q (by have := hqc.out; omega) w')
        try simp only [Act.put, List.setIfInBounds_toArray, List.set_cons_zero, List.set_cons_succ]
        refine pickA (v := ?_) 5 (some 36) rfl rfl (by kernel_rfl) (by kernel_rfl) (by kernel_rfl) (by decide) (fun _ _ _ h => h) (by rfl) ?_ (by assumption) ?_
        rotate_left
        · intro w'
          go_simp
          try with_reducible rfl
        try simp only [Act.put, List.setIfInBounds_toArray, List.set_cons_zero, List.set_cons_succ]
        refine pickA (v := ?_) 6 (some 37) rfl rfl (by kernel_rfl) (by kernel_rfl) (by kernel_rfl) (by decide) (fun _ _ _ h => h) (by rfl) ?_ (by assumption) ?_
        rotate_left
        · intro w'
          go_simp
          try with_reducible rfl
        try simp only [Act.put, List.setIfInBounds_toArray, List.set_cons_zero, List.set_cons_succ]
        refine pickA (v := ?_) 7 (some 38) rfl rfl (by kernel_rfl) (by kernel_rfl) (by kernel_rfl) (by decide) (fun _ _ _ h => h) (by rfl) ?_ (by assumption) ?_
        rotate_left
        · intro w'
          go_simp
          try with_reducible rfl
        try simp only [Act.put, List.setIfInBounds_toArray, List.set_cons_zero, List.set_cons_succ]
        refine pickL (v := .agg #[.int .i64 z.id, .int .i64 z.rk, .int .u64 z.kn, .int .i64 z.ln, .int .u64 z.bt]) 8 (some 39) rfl rfl (by kernel_rfl) (by kernel_rfl) (by kernel_rfl) (by decide) (by kernel_rfl) (by kernel_rfl) (fun _ _ _ h => h) (by rfl) ?_ (by assumption) ?_
        · intro w' hSw
          skip
          exact exec_load rfl rfl hSw
        try simp only [Act.put, List.setIfInBounds_toArray, List.set_cons_zero, List.set_cons_succ]
        refine pickA (v := ?_) 11 (some 42) rfl rfl (by kernel_rfl) (by kernel_rfl) (by kernel_rfl) (by decide) (fun _ _ _ h => h) (by rfl) ?_ (by assumption) ?_
        rotate_left
        · intro w'
          go_simp
          try with_reducible rfl
        try simp only [Act.put, List.setIfInBounds_toArray, List.set_cons_zero, List.set_cons_succ]
        refine pickA (v := ?_) 12 (some 43) rfl rfl (by kernel_rfl) (by kernel_rfl) (by kernel_rfl) (by decide) (fun _ _ _ h => h) (by rfl) ?_ (by assumption) ?_
        rotate_left
        · intro w'
          go_simp
          try with_reducible rfl
        try simp only [Act.put, List.setIfInBounds_toArray, List.set_cons_zero, List.set_cons_succ]
        refine pickA (v := (tlV (some ⟨gm, om, none⟩) q mn qc)) 13 (some 44) rfl rfl (by kernel_rfl) (by kernel_rfl) (by kernel_rfl) (by decide) (fun _ _ _ h => h) (by rfl) ?_ (by assumption) ?_
        · intro w'
          exact exec_slice rfl (by kernel_rfl) (sl_tail (some ⟨gm, om, none⟩) mn qc q hq w')
        try simp only [Act.put, List.setIfInBounds_toArray, List.set_cons_zero, List.set_cons_succ]
        have BC0 : Hid (Below WD.heap.size WD WD) := Below.refl _ _
        refine manyL (L := [0, 9]) (by kernel_rfl) (by decide) (fun i hi => ?_)
        simp only [List.mem_cons, List.not_mem_nil, or_false] at hi
        rcases hi with rfl | rfl
        · refine ⟨_, rfl, fun K hK => ?_⟩
          go_simp
          have bE := gal1 WD (.cells #[] 30)
          have bC1 := BC0.out.trans (bE.mono (Nat.le_trans (Nat.le_refl _) BC0.out.size))
          have hE := hide (IsB.new WD #[] 30)
          clear bE
          have BC1 := hide bC1
          clear bC1
          have BG1 : Hid (Below G w (WD.alloc (.cells #[] 30))) := B.out.trans (BC1.out.mono (by rw [← HG.out]; exact (HG.out.symm ▸ B.out).size))
          refine hK.out _ _ ?_ ?_
          · exact LR.out _ BG1.out
          clear hK K
          try simp only [Act.put, List.setIfInBounds_toArray, List.set_cons_zero, List.set_cons_succ]
          clear hHeld
          have hHeld : (fun w' => (Instr.loadAt 30 (.pointer (some ⟨g, o + j * 5, none⟩))).run Tryd.prog w' = .ok (.agg #[.int .i64 z.id, .int .i64 z.rk, .int .u64 z.kn, .int .i64 z.ln, .int .u64 z.bt]) w') (WD.alloc (.cells #[] 30)) := LR.out _ BG1.out
          refine manyL (L := [4, 9]) (by kernel_rfl) (by decide) (fun i hi => ?_)
          simp only [List.mem_cons, List.not_mem_nil, or_false] at hi
          rcases hi with rfl | rfl
          · refine ⟨_, rfl, fun K hK => ?_⟩
            obtain ⟨ea, ec, w4, hap4, hg4, hk4⟩ := ins_copy RX.out hq2.out (by have := hmn.out; omega) BC1.out hE.out (by have := BC1.out.size; first | exact Nat.le_refl _ | (simp; done) | (simp at this ⊢; omega) | (simp; omega))
            have HA4 := hide hap4
            have BC2 : Hid (Below WD.heap.size WD w4) := BC1.out.trans (hk4.to_below BC1.out.size (by simp <;> omega))
            have hE4 := hide hg4
            clear hap4 hg4 hk4
            refine step_append_eq rfl (.tmp 31) (.tmp 34) 22 rfl _ _ (.slice ea q ec) w4 rfl rfl HA4.out ?_
            have BG2 : Hid (Below G w w4) := B.out.trans (BC2.out.mono (by rw [← HG.out]; exact (HG.out.symm ▸ B.out).size))
            refine hK.out _ _ ?_ ?_
            · exact LR.out _ BG2.out
            clear hK K
            try simp only [Act.put, List.setIfInBounds_toArray]
            clear hHeld
            have hHeld : (fun w' => (Instr.loadAt 30 (.pointer (some ⟨g, o + j * 5, none⟩))).run Tryd.prog w' = .ok (.agg #[.int .i64 z.id, .int .i64 z.rk, .int .u64 z.kn, .int .i64 z.ln, .int .u64 z.bt]) w') w4 := LR.out _ BG2.out
            refine oneL (i := 9) (by kernel_rfl) rfl (fun K hK => ?_)
            go_simp
            have bZ := gal1 w4 (.cells #[.int .i64 z.id, .int .i64 z.rk, .int .u64 z.kn, .int .i64 z.ln, .int .u64 z.bt] 30)
            have bC3 := BC2.out.trans (bZ.mono BC2.out.size)
            have hZ0 : Hid (IsB (w4.alloc (.cells #[.int .i64 z.id, .int .i64 z.rk, .int .u64 z.kn, .int .i64 z.ln, .int .u64 z.bt] 30)) w4.heap.size z.cells 30) := IsB.new w4 z.cells 30
            have hZ := hZ0
            have hEr := hide (Rg.below hE4.out bZ)
            clear bZ
            have BC3 := hide bC3
            clear bC3
            have BG3 : Hid (Below G w (w4.alloc (.cells #[.int .i64 z.id, .int .i64 z.rk, .int .u64 z.kn, .int .i64 z.ln, .int .u64 z.bt] 30))) := B.out.trans (BC3.out.mono (by rw [← HG.out]; exact (HG.out.symm ▸ B.out).size))
            refine hK.out _ _ ?_ ?_
            · exact LR.out _ BG3.out
            clear hK K
            try simp only [Act.put, List.setIfInBounds_toArray, List.set_cons_zero, List.set_cons_succ]
            clear hHeld
            have hHeld : (fun w' => (Instr.loadAt 30 (.pointer (some ⟨g, o + j * 5, none⟩))).run Tryd.prog w' = .ok (.agg #[.int .i64 z.id, .int .i64 z.rk, .int .u64 z.kn, .int .i64 z.ln, .int .u64 z.bt]) w') (w4.alloc (.cells #[.int .i64 z.id, .int .i64 z.rk, .int .u64 z.kn, .int .i64 z.ln, .int .u64 z.bt] 30)) := LR.out _ BG3.out
            refine oneL (i := 10) (by kernel_rfl) rfl (fun K hK => ?_)
            obtain ⟨ra, rc, w5, hap5, hb5, sa, sc, w6, hap6, hg6, hb6⟩ := ins_end z RX.out hq2.out (by have := hmn.out; omega) (Nat.le_refl _) BC3.out hEr.out hZ.out BC3.out.size
            rw [hmn.out] at hap6 hg6
            have HA5 := hide hap5
            have HA6 := hide hap6
            have BC4 := hide hb5
            have BC5 := hide hb6
            have HG6 := hide hg6
            clear hap5 hap6 hb5 hb6 hg6
            refine step_append_eq rfl (.tmp 35) (.tmp 40) 22 rfl _ _ (.slice ra (q + 1) rc) w5 rfl rfl HA5.out ?_
            have BG4 : Hid (Below G w w5) := B.out.trans (BC4.out.mono (by rw [← HG.out]; exact (HG.out.symm ▸ B.out).size))
            refine hK.out _ _ ?_ ?_
            · exact LR.out _ BG4.out
            clear hK K
            try simp only [Act.put, List.setIfInBounds_toArray]
            clear hHeld
            have hHeld : (fun w' => (Instr.loadAt 30 (.pointer (some ⟨g, o + j * 5, none⟩))).run Tryd.prog w' = .ok (.agg #[.int .i64 z.id, .int .i64 z.rk, .int .u64 z.kn, .int .i64 z.ln, .int .u64 z.bt]) w') w5 := LR.out _ BG4.out
            refine oneL (i := 14) (by kernel_rfl) rfl (fun K hK => ?_)
            have HR8 : Hid (Gr5 G w6 (.slice sa (mn + 1) sc) (m.take q ++ z :: m.drop q)) := Rg.mono HG6.out (by rw [← HG.out]; exact (HG.out.symm ▸ B.out).size)
            refine step_append_eq rfl (.tmp 41) (.tmp 44) 22 rfl _ _ (.slice sa (mn + 1) sc) w6 rfl rfl HA6.out ?_
            have BG5 : Hid (Below G w w6) := B.out.trans (BC5.out.mono (by rw [← HG.out]; exact (HG.out.symm ▸ B.out).size))
            have B8 := BG5
            refine hK.out _ _ ?_ ?_
            · exact LR.out _ BG5.out
            clear hK K
            try simp only [Act.put]
            clear hHeld
            have hHeld : (fun w' => (Instr.loadAt 30 (.pointer (some ⟨g, o + j * 5, none⟩))).run Tryd.prog w' = .ok (.agg #[.int .i64 z.id, .int .i64 z.rk, .int .u64 z.kn, .int .i64 z.ln, .int .u64 z.bt]) w') w6 := LR.out _ BG5.out
            refine pickA (v := ?_) 15 (some 3) rfl rfl (by kernel_rfl) (by kernel_rfl) (by kernel_rfl) (by decide) (fun _ _ _ h => h) (by rfl) ?_ (by assumption) ?_
            rotate_left
            · intro w'
              go_simp
              try with_reducible rfl
            try simp only [Act.put]
            refine doneL (by kernel_rfl) ?_ _
            clear hHeld
            have e8 : (m.take q ++ z :: m.drop q).length = mn + 1 := by
              simp
              have := hmn.out
              omega
            go_wp2
            exact ⟨⟨j + 1, sa, sc, m.take q ++ z :: m.drop q, by omega, by simp, by rw [e8], HT2, by rw [e8]; exact HR8, B8⟩, by simp [intOf]; omega⟩
          · refine ⟨_, rfl, fun K hK => ?_⟩
            go_simp
            have bZ := gal1 (WD.alloc (.cells #[] 30)) (.cells #[.int .i64 z.id, .int .i64 z.rk, .int .u64 z.kn, .int .i64 z.ln, .int .u64 z.bt] 30)
            have bC2 := BC1.out.trans (bZ.mono BC1.out.size)
            have hZ0 : Hid (IsB ((WD.alloc (.cells #[] 30)).alloc (.cells #[.int .i64 z.id, .int .i64 z.rk, .int .u64 z.kn, .int .i64 z.ln, .int .u64 z.bt] 30)) (WD.heap.size + 1) z.cells 30) := by have h7 := IsB.new (WD.alloc (.cells #[] 30)) z.cells 30; rw [World.size_alloc] at h7; exact h7
            have hE2 := hide (hE.out.below bZ)
            have hZ := hZ0
            clear bZ
            have BC2 := hide bC2
            clear bC2
            have BG2 : Hid (Below G w ((WD.alloc (.cells #[] 30)).alloc (.cells #[.int .i64 z.id, .int .i64 z.rk, .int .u64 z.kn, .int .i64 z.ln, .int .u64 z.bt] 30))) := B.out.trans (BC2.out.mono (by rw [← HG.out]; exact (HG.out.symm ▸ B.out).size))
            refine hK.out _ _ ?_ ?_
            · exact LR.out _ BG2.out
            clear hK K
            try simp only [Act.put, List.setIfInBounds_toArray, List.set_cons_zero, List.set_cons_succ]
            clear hHeld
            have hHeld : (fun w' => (Instr.loadAt 30 (.pointer (some ⟨g, o + j * 5, none⟩))).run Tryd.prog w' = .ok (.agg #[.int .i64 z.id, .int .i64 z.rk, .int .u64 z.kn, .int .i64 z.ln, .int .u64 z.bt]) w') ((WD.alloc (.cells #[] 30)).alloc (.cells #[.int .i64 z.id, .int .i64 z.rk, .int .u64 z.kn, .int .i64 z.ln, .int .u64 z.bt] 30)) := LR.out _ BG2.out
            refine oneL (i := 4) (by kernel_rfl) rfl (fun K hK => ?_)
            obtain ⟨ea, ec, w4, hap4, hg4, hk4⟩ := ins_copy RX.out hq2.out (by have := hmn.out; omega) BC2.out hE2.out (by have := BC2.out.size; first | exact Nat.le_refl _ | (simp; done) | (simp at this ⊢; omega) | (simp; omega))
            have HA4 := hide hap4
            have BC3 : Hid (Below WD.heap.size WD w4) := BC2.out.trans (hk4.to_below BC2.out.size (by simp <;> omega))
            have hE4 := hide hg4
            have hZ4 := hide (hZ.out.kp hk4 (by simp <;> omega))
            have hEr := hE4
            clear hap4 hg4 hk4
            refine step_append_eq rfl (.tmp 31) (.tmp 34) 22 rfl _ _ (.slice ea q ec) w4 rfl rfl HA4.out ?_
            have BG3 : Hid (Below G w w4) := B.out.trans (BC3.out.mono (by rw [← HG.out]; exact (HG.out.symm ▸ B.out).size))
            refine hK.out _ _ ?_ ?_
            · exact LR.out _ BG3.out
            clear hK K
            try simp only [Act.put, List.setIfInBounds_toArray]
            clear hHeld
            have hHeld : (fun w' => (Instr.loadAt 30 (.pointer (some ⟨g, o + j * 5, none⟩))).run Tryd.prog w' = .ok (.agg #[.int .i64 z.id, .int .i64 z.rk, .int .u64 z.kn, .int .i64 z.ln, .int .u64 z.bt]) w') w4 := LR.out _ BG3.out
            refine oneL (i := 10) (by kernel_rfl) rfl (fun K hK => ?_)
            obtain ⟨ra, rc, w5, hap5, hb5, sa, sc, w6, hap6, hg6, hb6⟩ := ins_end z RX.out hq2.out (by have := hmn.out; omega) (Nat.le_refl _) BC3.out hEr.out hZ4.out BC3.out.size
            rw [hmn.out] at hap6 hg6
            have HA5 := hide hap5
            have HA6 := hide hap6
            have BC4 := hide hb5
            have BC5 := hide hb6
            have HG6 := hide hg6
            clear hap5 hap6 hb5 hb6 hg6
            refine step_append_eq rfl (.tmp 35) (.tmp 40) 22 rfl _ _ (.slice ra (q + 1) rc) w5 rfl rfl HA5.out ?_
            have BG4 : Hid (Below G w w5) := B.out.trans (BC4.out.mono (by rw [← HG.out]; exact (HG.out.symm ▸ B.out).size))
            refine hK.out _ _ ?_ ?_
            · exact LR.out _ BG4.out
            clear hK K
            try simp only [Act.put]
            clear hHeld
            have hHeld : (fun w' => (Instr.loadAt 30 (.pointer (some ⟨g, o + j * 5, none⟩))).run Tryd.prog w' = .ok (.agg #[.int .i64 z.id, .int .i64 z.rk, .int .u64 z.kn, .int .i64 z.ln, .int .u64 z.bt]) w') w5 := LR.out _ BG4.out
            refine oneL (i := 14) (by kernel_rfl) rfl (fun K hK => ?_)
            have HR8 : Hid (Gr5 G w6 (.slice sa (mn + 1) sc) (m.take q ++ z :: m.drop q)) := Rg.mono HG6.out (by rw [← HG.out]; exact (HG.out.symm ▸ B.out).size)
            refine step_append_eq rfl (.tmp 41) (.tmp 44) 22 rfl _ _ (.slice sa (mn + 1) sc) w6 rfl rfl HA6.out ?_
            have BG5 : Hid (Below G w w6) := B.out.trans (BC5.out.mono (by rw [← HG.out]; exact (HG.out.symm ▸ B.out).size))
            have B8 := BG5
            refine hK.out _ _ ?_ ?_
            · exact LR.out _ BG5.out
            clear hK K
            try simp only [Act.put]
            clear hHeld
            have hHeld : (fun w' => (Instr.loadAt 30 (.pointer (some ⟨g, o + j * 5, none⟩))).run Tryd.prog w' = .ok (.agg #[.int .i64 z.id, .int .i64 z.rk, .int .u64 z.kn, .int .i64 z.ln, .int .u64 z.bt]) w') w6 := LR.out _ BG5.out
            refine pickA (v := ?_) 15 (some 3) rfl rfl (by kernel_rfl) (by kernel_rfl) (by kernel_rfl) (by decide) (fun _ _ _ h => h) (by rfl) ?_ (by assumption) ?_
            rotate_left
            · intro w'
              go_simp
              try with_reducible rfl
            try simp only [Act.put]
            refine doneL (by kernel_rfl) ?_ _
            clear hHeld
            have e8 : (m.take q ++ z :: m.drop q).length = mn + 1 := by
              simp
              have := hmn.out
              omega
            go_wp2
            exact ⟨⟨j + 1, sa, sc, m.take q ++ z :: m.drop q, by omega, by simp, by rw [e8], HT2, by rw [e8]; exact HR8, B8⟩, by simp [intOf]; omega⟩
        · refine ⟨_, rfl, fun K hK => ?_⟩
          go_simp
          have bZ := gal1 WD (.cells #[.int .i64 z.id, .int .i64 z.rk, .int .u64 z.kn, .int .i64 z.ln, .int .u64 z.bt] 30)
          have bC1 := BC0.out.trans (bZ.mono BC0.out.size)
          have hZ0 : Hid (IsB (WD.alloc (.cells #[.int .i64 z.id, .int .i64 z.rk, .int .u64 z.kn, .int .i64 z.ln, .int .u64 z.bt] 30)) WD.heap.size z.cells 30) := IsB.new WD z.cells 30
          clear bZ
          have BC1 := hide bC1
          clear bC1
          have BG1 : Hid (Below G w (WD.alloc (.cells #[.int .i64 z.id, .int .i64 z.rk, .int .u64 z.kn, .int .i64 z.ln, .int .u64 z.bt] 30))) := B.out.trans (BC1.out.mono (by rw [← HG.out]; exact (HG.out.symm ▸ B.out).size))
          refine hK.out _ _ ?_ ?_
          · exact LR.out _ BG1.out
          clear hK K
          try simp only [Act.put, List.setIfInBounds_toArray, List.set_cons_zero, List.set_cons_succ]
          clear hHeld
          have hHeld : (fun w' => (Instr.loadAt 30 (.pointer (some ⟨g, o + j * 5, none⟩))).run Tryd.prog w' = .ok (.agg #[.int .i64 z.id, .int .i64 z.rk, .int .u64 z.kn, .int .i64 z.ln, .int .u64 z.bt]) w') (WD.alloc (.cells #[.int .i64 z.id, .int .i64 z.rk, .int .u64 z.kn, .int .i64 z.ln, .int .u64 z.bt] 30)) := LR.out _ BG1.out
          refine oneL (i := 0) (by kernel_rfl) rfl (fun K hK => ?_)
          go_simp
          have bE := gal1 (WD.alloc (.cells #[.int .i64 z.id, .int .i64 z.rk, .int .u64 z.kn, .int .i64 z.ln, .int .u64 z.bt] 30)) (.cells #[] 30)
          have bC2 := BC1.out.trans (bE.mono (Nat.le_trans (Nat.le_refl _) BC1.out.size))
          have hE : Hid (IsB ((WD.alloc (.cells #[.int .i64 z.id, .int .i64 z.rk, .int .u64 z.kn, .int .i64 z.ln, .int .u64 z.bt] 30)).alloc (.cells #[] 30)) (WD.heap.size + 1) #[] 30) := by have h7 := IsB.new (WD.alloc (.cells #[.int .i64 z.id, .int .i64 z.rk, .int .u64 z.kn, .int .i64 z.ln, .int .u64 z.bt] 30)) #[] 30; rw [World.size_alloc] at h7; exact h7
          have hZ := hide (hZ0.out.below bE)
          clear bE
          have BC2 := hide bC2
          clear bC2
          have BG2 : Hid (Below G w ((WD.alloc (.cells #[.int .i64 z.id, .int .i64 z.rk, .int .u64 z.kn, .int .i64 z.ln, .int .u64 z.bt] 30)).alloc (.cells #[] 30))) := B.out.trans (BC2.out.mono (by rw [← HG.out]; exact (HG.out.symm ▸ B.out).size))
          refine hK.out _ _ ?_ ?_
          · exact LR.out _ BG2.out
          clear hK K
          try simp only [Act.put, List.setIfInBounds_toArray, List.set_cons_zero, List.set_cons_succ]
          clear hHeld
          have hHeld : (fun w' => (Instr.loadAt 30 (.pointer (some ⟨g, o + j * 5, none⟩))).run Tryd.prog w' = .ok (.agg #[.int .i64 z.id, .int .i64 z.rk, .int .u64 z.kn, .int .i64 z.ln, .int .u64 z.bt]) w') ((WD.alloc (.cells #[.int .i64 z.id, .int .i64 z.rk, .int .u64 z.kn, .int .i64 z.ln, .int .u64 z.bt] 30)).alloc (.cells #[] 30)) := LR.out _ BG2.out
          refine oneL (i := 4) (by kernel_rfl) rfl (fun K hK => ?_)
          obtain ⟨ea, ec, w4, hap4, hg4, hk4⟩ := ins_copy RX.out hq2.out (by have := hmn.out; omega) BC2.out hE.out (by have := BC2.out.size; first | exact Nat.le_refl _ | (simp; done) | (simp at this ⊢; omega) | (simp; omega))
          have HA4 := hide hap4
          have BC3 : Hid (Below WD.heap.size WD w4) := BC2.out.trans (hk4.to_below BC2.out.size (by simp <;> omega))
          have hE4 := hide hg4
          have hZ4 := hide (hZ.out.kp hk4 (by simp <;> omega))
          have hEr := hE4
          clear hap4 hg4 hk4
          refine step_append_eq rfl (.tmp 31) (.tmp 34) 22 rfl _ _ (.slice ea q ec) w4 rfl rfl HA4.out ?_
          have BG3 : Hid (Below G w w4) := B.out.trans (BC3.out.mono (by rw [← HG.out]; exact (HG.out.symm ▸ B.out).size))
          refine hK.out _ _ ?_ ?_
          · exact LR.out _ BG3.out
          clear hK K
          try simp only [Act.put, List.setIfInBounds_toArray]
          clear hHeld
          have hHeld : (fun w' => (Instr.loadAt 30 (.pointer (some ⟨g, o + j * 5, none⟩))).run Tryd.prog w' = .ok (.agg #[.int .i64 z.id, .int .i64 z.rk, .int .u64 z.kn, .int .i64 z.ln, .int .u64 z.bt]) w') w4 := LR.out _ BG3.out
          refine oneL (i := 10) (by kernel_rfl) rfl (fun K hK => ?_)
          obtain ⟨ra, rc, w5, hap5, hb5, sa, sc, w6, hap6, hg6, hb6⟩ := ins_end z RX.out hq2.out (by have := hmn.out; omega) (Nat.le_refl _) BC3.out hEr.out hZ4.out BC3.out.size
          rw [hmn.out] at hap6 hg6
          have HA5 := hide hap5
          have HA6 := hide hap6
          have BC4 := hide hb5
          have BC5 := hide hb6
          have HG6 := hide hg6
          clear hap5 hap6 hb5 hb6 hg6
          refine step_append_eq rfl (.tmp 35) (.tmp 40) 22 rfl _ _ (.slice ra (q + 1) rc) w5 rfl rfl HA5.out ?_
          have BG4 : Hid (Below G w w5) := B.out.trans (BC4.out.mono (by rw [← HG.out]; exact (HG.out.symm ▸ B.out).size))
          refine hK.out _ _ ?_ ?_
          · exact LR.out _ BG4.out
          clear hK K
          try simp only [Act.put]
          clear hHeld
          have hHeld : (fun w' => (Instr.loadAt 30 (.pointer (some ⟨g, o + j * 5, none⟩))).run Tryd.prog w' = .ok (.agg #[.int .i64 z.id, .int .i64 z.rk, .int .u64 z.kn, .int .i64 z.ln, .int .u64 z.bt]) w') w5 := LR.out _ BG4.out
          refine oneL (i := 14) (by kernel_rfl) rfl (fun K hK => ?_)
          have HR8 : Hid (Gr5 G w6 (.slice sa (mn + 1) sc) (m.take q ++ z :: m.drop q)) := Rg.mono HG6.out (by rw [← HG.out]; exact (HG.out.symm ▸ B.out).size)
          refine step_append_eq rfl (.tmp 41) (.tmp 44) 22 rfl _ _ (.slice sa (mn + 1) sc) w6 rfl rfl HA6.out ?_
          have BG5 : Hid (Below G w w6) := B.out.trans (BC5.out.mono (by rw [← HG.out]; exact (HG.out.symm ▸ B.out).size))
          have B8 := BG5
          refine hK.out _ _ ?_ ?_
          · exact LR.out _ BG5.out
          clear hK K
          try simp only [Act.put]
          clear hHeld
          have hHeld : (fun w' => (Instr.loadAt 30 (.pointer (some ⟨g, o + j * 5, none⟩))).run Tryd.prog w' = .ok (.agg #[.int .i64 z.id, .int .i64 z.rk, .int .u64 z.kn, .int .i64 z.ln, .int .u64 z.bt]) w') w6 := LR.out _ BG5.out
          refine pickA (v := ?_) 15 (some 3) rfl rfl (by kernel_rfl) (by kernel_rfl) (by kernel_rfl) (by decide) (fun _ _ _ h => h) (by rfl) ?_ (by assumption) ?_
          rotate_left
          · intro w'
            go_simp
            try with_reducible rfl
          try simp only [Act.put]
          refine doneL (by kernel_rfl) ?_ _
          clear hHeld
          have e8 : (m.take q ++ z :: m.drop q).length = mn + 1 := by
            simp
            have := hmn.out
            omega
          go_wp2
          exact ⟨⟨j + 1, sa, sc, m.take q ++ z :: m.drop q, by omega, by simp, by rw [e8], HT2, by rw [e8]; exact HR8, B8⟩, by simp [intOf]; omega⟩

end Go.Proofs.YtfcmmchppcffmaaDoor
