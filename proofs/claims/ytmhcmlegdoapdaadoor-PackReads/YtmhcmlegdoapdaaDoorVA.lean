/- The document's powers of two, and the vector of a row of bits. -/
import Derived.Test.YtmhcmlegdoapdaaDoorRV
namespace Go.Proofs.YtmhcmlegdoapdaaDoor
open Go.RowKit

theorem wrap_u64 {x : Int} (h0 : 0 ≤ x) (h1 : x < 18446744073709551616) : IntKind.u64.wrap x = x := by
  simp only [IntKind.wrap]; exact Int.emod_eq_of_lt h0 h1
theorem pow_step (k : Nat) (h : k < 63) : IntKind.u64.wrap (2 ^ k * 2) = ((2 ^ (k + 1) : Nat) : Int) := by
  have hp : 2 ^ (k + 1) ≤ 2 ^ 63 := Nat.pow_le_pow_right (by omega) (by omega)
  have e : ((2 : Int) ^ k * 2) = ((2 ^ (k + 1) : Nat) : Int) := by rw [Nat.pow_succ]; simp
  rw [e]
  have hq : 0 < 2 ^ (k + 1) := Nat.two_pow_pos _
  generalize 2 ^ (k + 1) = y at *
  exact wrap_u64 (by omega) (by omega)

set_option maxHeartbeats 400000 in
set_option maxRecDepth 100000 in
theorem power_any (m : Nat) (hm : m ≤ 63) (w : World) :
    Calls Tryd.prog 54 #[.int .i64 (m : Int)] w fun e w' => e = .returned (.int .u64 ((2 ^ m : Nat) : Int)) ∧ w' = w := by
  go_enter Tryd.func54, Tryd.ntmps54
  go_wp2
  go_loop [0, 3] (fun i x => ∃ k : Nat, k ≤ m ∧ i = .int .i64 ((m - k : Nat) : Int) ∧ x = .int .u64 ((2 ^ k : Nat) : Int)) (fun i _ => (intOf i).toNat)
  case atStart => exact ⟨0, by omega, by simp, rfl⟩
  case round =>
    obtain ⟨k, hk, rfl, rfl⟩ := hrel
    by_cases hlt : k < m
    · have H : Hid (IntKind.u64.wrap (2 ^ k * 2) = ((2 ^ (k + 1) : Nat) : Int)) := pow_step k (by omega)
      go_wp2
      refine ⟨⟨k + 1, by omega, ?_, ?_⟩, ?_⟩
      · rw [show ((m - k : Nat) : Int) - 1 = ((m - (k + 1) : Nat) : Int) from by omega]
      · rw [H.out]
      · simp [intOf]; omega
    · go_wp2
      go_ret
      have e : k = m := by omega
      rw [e]; simp

/-- The number of a row of bits, the highest first. -/
def ofl (l : List Nat) : Nat := l.foldl (fun a x => a * 2 + x) 0
theorem ofl_snoc (l : List Nat) (x : Nat) : ofl (l ++ [x]) = ofl l * 2 + x := by unfold ofl; rw [List.foldl_append]; rfl
theorem ofl_lt (l : List Nat) (h : ∀ x ∈ l, x ≤ 1) : ofl l < 2 ^ l.length := by
  rw [← List.reverse_reverse l] at h ⊢
  generalize l.reverse = r at h ⊢
  induction r with
  | nil => simp [ofl]
  | cons c r ih =>
    rw [List.reverse_cons, ofl_snoc]
    have h1 := ih (fun x hx => h x (by rw [List.reverse_cons]; exact List.mem_append_left _ hx))
    have h2 := h c (by simp)
    rw [List.length_append, List.length_singleton, Nat.pow_succ]
    omega
theorem take_snoc (l : List Nat) (k : Nat) (h : k < l.length) : l.take (k + 1) = l.take k ++ [l.getD k 0] := by
  rw [List.take_succ_eq_append_getElem h]; simp [h]
theorem ofl_take (l : List Nat) (h : ∀ x ∈ l, x ≤ 1) (k : Nat) (hk : k ≤ l.length) (h32 : l.length ≤ 60) : ofl (l.take k) < 1152921504606846976 := by
  have h1 := ofl_lt (l.take k) (fun x hx => h x (List.mem_of_mem_take hx))
  have h2 : 2 ^ (l.take k).length ≤ 2 ^ 60 := Nat.pow_le_pow_right (by omega) (by rw [List.length_take]; omega)
  exact Nat.lt_of_lt_of_le h1 h2
theorem getD_le (l : List Nat) (h : ∀ x ∈ l, x ≤ 1) (k : Nat) : l.getD k 0 ≤ 1 := by
  by_cases hk : k < l.length
  · have e : l.getD k 0 = l[k] := by simp [hk]
    rw [e]; exact h _ (List.getElem_mem hk)
  · have e : l.getD k 0 = 0 := by simp [hk]
    omega
/-- What a slice of bits holds. -/
def Bits (w : World) (g o : Nat) (l : List Nat) : Prop := ∀ j, j < l.length → w.cell? ⟨g, o + j, none⟩ = some (.int .i64 (l.getD j 0 : Nat))
theorem rof_results (W : World) (g : Nat) (cs : Array Value) (h : IsB W g cs 27) (hs : cs.size = 2) (T : Array Value) (hp : T.getD 2 undef = .pointer (some ⟨g, 0, none⟩)) : (results Tryd.f74 T).run Tryd.prog W = .ok (.agg cs) W :=
  results_cell_row rfl T W g 27 cs (0, 0) _ hp h Tryd.underlying27 rfl (by rw [hs]; exact vec_info)

set_option maxHeartbeats 2000000 in
set_option maxRecDepth 100000 in
theorem of_any (g o n cap : Nat) (l : List Nat) (w : World) (hl : l.length = n) (hn : n ≤ 60) (h01 : ∀ x ∈ l, x ≤ 1) (hg : g < w.heap.size) (hrow : Bits w g o l) :
    Calls Tryd.prog 74 #[.slice (some ⟨g, o, none⟩) n cap] w fun e w' => e = .returned ((.agg #[.int .i64 ((n : Int)), .int .u64 ((ofl l : Nat))])) ∧ Gr w w' := by
  go_enter Tryd.func74, Tryd.ntmps74
  go_wp2
  go_loopw [4] (fun i wr => ∃ k : Nat, k ≤ n ∧ i = .int .i64 (k : Int) ∧ IsB wr w.heap.size #[.int .i64 0, .int .u64 0] 27 ∧ IsB wr (w.heap.size + 1) #[.int .i64 (n : Int), .int .u64 (ofl (l.take k) : Nat)] 27 ∧ Gr w wr)
    (fun i _ => n - (intOf i).toNat)
  case atStart =>
    refine ⟨0, by omega, rfl, ?_, ?_, ?_⟩
    · exact (IsB.new w _ _).alloc _
    · have := IsB.new (w.alloc (.cells #[.int .i64 0, .int .u64 0] 27)) #[.int .i64 (n : Int), .int .u64 0] 27
      simpa [ofl] using this
    · exact ((Gr.refl w).alloc _).alloc _
  case round =>
    obtain ⟨k, hk, rfl, i0, i1, hb⟩ := hrel
    have H0 := hide i0
    have H1 := hide i1
    have HG := hide hb
    have a0 : wr.cell? ⟨w.heap.size, 0, none⟩ = some (.int .i64 0) := i0.cell 0
    have a1 : wr.cell? ⟨w.heap.size, 1, none⟩ = some (.int .u64 0) := i0.cell 1
    have a2 := i0.free 0
    have a3 := i0.free 1
    have b0 : wr.cell? ⟨w.heap.size + 1, 0, none⟩ = some (.int .i64 (n : Int)) := i1.cell 0
    have b1 : wr.cell? ⟨w.heap.size + 1, 1, none⟩ = some (.int .u64 (ofl (l.take k) : Nat)) := i1.cell 1
    have b2 := i1.free 0
    have b3 := i1.free 1
    clear i0 i1
    by_cases hlt : k < n
    · have hcx : wr.cell? ⟨g, o + k, none⟩ = some (.int .i64 (l.getD k 0 : Nat)) := hb.cell (x := ⟨g, o + k, none⟩) hg (hrow k (by omega))
      have hx := getD_le l h01 k
      have hq := ofl_take l h01 k (by omega) (by omega)
      have HS : Hid (ofl (l.take (k + 1)) = ofl (l.take k) * 2 + l.getD k 0) := by
        show _ = _
        rw [take_snoc l k (by omega), ofl_snoc]
      generalize l.getD k 0 = x at *
      generalize ofl (l.take k) = q at *
      have i1 : (k : Int) < n := by omega
      have i2 : (0 : Int) ≤ k := by omega
      clear hrow h01 hb
      go_wp2
      go_region
      go_wp2
      refine ⟨⟨k + 1, by omega, by simp, ?_, ?_, ?_⟩, ?_⟩
      · exact (H0.out.setOther (a := ⟨w.heap.size + 1, 1, none⟩) (by simp) _).gr (Gr.refl _).drew
      · rw [HS.out]
        have := IsB.gr (H1.out.set1of2 (.int .u64 ((q : Int) * 2 + x))) (Gr.refl _).drew
        simpa using this
      · exact (HG.out.set (w.heap.size + 1) 1 _ (by omega)).drew
      · simp [intOf]; omega
    · have e : ofl (l.take k) = ofl l := by rw [List.take_of_length_le (by omega)]
      rw [e] at H1 b1
      clear e hb
      go_wp2
      exact bodyPost_ret (rof_results _ w.heap.size _ (IsB.set1of2 (H0.out.set0of2 (.int .i64 (n : Int))) (.int .u64 (ofl l : Nat))) rfl _ rfl) rfl ⟨rfl, (HG.out.set w.heap.size 0 _ (Nat.le_refl _)).set w.heap.size 1 _ (Nat.le_refl _)⟩

set_option maxHeartbeats 400000 in
set_option maxRecDepth 100000 in
theorem of_nil (w : World) :
    Calls Tryd.prog 74 #[.slice none 0 0] w fun e w' => e = .returned ((.agg #[.int .i64 (0), .int .u64 (0)])) ∧ Gr w w' := by
  go_enter Tryd.func74, Tryd.ntmps74
  go_wp2
  go_loopw [4] (fun i wr => i = .int .i64 0 ∧ IsB wr w.heap.size #[.int .i64 0, .int .u64 0] 27 ∧ IsB wr (w.heap.size + 1) #[.int .i64 0, .int .u64 0] 27 ∧ Gr w wr)
    (fun _ _ => 0)
  case atStart =>
    refine ⟨rfl, ?_, ?_, ?_⟩
    · exact (IsB.new w _ _).alloc _
    · have := IsB.new (w.alloc (.cells #[.int .i64 0, .int .u64 0] 27)) #[.int .i64 0, .int .u64 0] 27
      simpa using this
    · exact ((Gr.refl w).alloc _).alloc _
  case round =>
    obtain ⟨rfl, i0, i1, hb⟩ := hrel
    have H0 := hide i0
    have HG := hide hb
    have a2 := i0.free 0
    have a3 := i0.free 1
    have b0 : wr.cell? ⟨w.heap.size + 1, 0, none⟩ = some (.int .i64 0) := i1.cell 0
    have b1 : wr.cell? ⟨w.heap.size + 1, 1, none⟩ = some (.int .u64 0) := i1.cell 1
    have a0 : wr.cell? ⟨w.heap.size, 0, none⟩ = some (.int .i64 0) := i0.cell 0
    have a1 : wr.cell? ⟨w.heap.size, 1, none⟩ = some (.int .u64 0) := i0.cell 1
    clear i0 i1 hb
    go_wp2
    exact bodyPost_ret (rof_results _ w.heap.size _ (IsB.set1of2 (H0.out.set0of2 (.int .i64 0)) (.int .u64 0)) rfl _ rfl) rfl ⟨rfl, (HG.out.set w.heap.size 0 _ (Nat.le_refl _)).set w.heap.size 1 _ (Nat.le_refl _)⟩

end Go.Proofs.YtmhcmlegdoapdaaDoor

/- The document's reader: vectors, of any bytes. -/
namespace Go.Proofs.YtmhcmlegdoapdaaDoor
open Go.RowKit

theorem DR.grown {w w' : World} {Q sb : Nat} {L : List Int} {p : Nat} {e : Int} (h : DR w Q sb L p e) {row : Option Nat} (hg : w.grownBy w' row) (hq : some Q ≠ row) (hs : some sb ≠ row) : DR w' Q sb L p e := by
  obtain ⟨ad, cap, h1, h2, h3, h4, h5, h6, h7, h8⟩ := h
  refine ⟨ad, cap, IsB.grown h1 hg hq, h2, h3, h4, h5, h6, h7, ?_⟩
  rcases h8 with h8 | ⟨b, o, g1, g2, g3, g4⟩
  · exact Or.inl h8
  · refine Or.inr ⟨b, o, g1, g2, Nat.lt_of_lt_of_le g3 hg.size, fun j hj => ?_⟩
    have hb : b = sb := h7 _ g1
    rw [World.cell?_of_block (w := w) (hg.block b g3 (by rw [hb]; exact hs))]; exact g4 j hj
theorem grown_far {w w1 w2 : World} {row row' : Option Nat} (h : w.grownBy w1 row) (k : w1.grownBy w2 row') (hr : ∀ j, row' = some j → w.heap.size ≤ j) : w.grownBy w2 row :=
  ⟨k.os.trans h.os, k.tape.trans h.tape, k.output.trans h.output, Nat.le_trans h.size k.size, fun j hj hne => (k.block j (Nat.lt_of_lt_of_le hj h.size) (fun he => by have := hr j he.symm; omega)).trans (h.block j hj hne)⟩
theorem rvec_results (W : World) (g : Nat) (cs : Array Value) (h : IsB W g cs 27) (hs : cs.size = 2) (T : Array Value) (hp : T.getD 2 undef = .pointer (some ⟨g, 0, none⟩)) : (results Tryd.f60 T).run Tryd.prog W = .ok (.agg cs) W :=
  results_cell_row rfl T W g 27 cs (0, 0) _ hp h Tryd.underlying27 rfl (by rw [hs]; exact vec_info)

set_option maxHeartbeats 4000000 in
set_option maxRecDepth 100000 in
/-- The document's vector whose first byte is 0, or is none. -/
theorem rvec_zero (Q sb : Nat) (L : List Int) (q : Nat) (er : Int) (w : World) (hQ : Q < w.heap.size) (hsb : sb < w.heap.size)
    (hb : ∀ W, Gr w W → Calls Tryd.prog 59 #[.pointer (some ⟨Q, 0, none⟩), .int .u8 0, .int .u8 32] W fun r w' => r = .returned (.int .u8 0) ∧ DR w' Q sb L q er ∧ W.grownBy w' (some Q)) :
    Calls Tryd.prog 60 #[.pointer (some ⟨Q, 0, none⟩)] w fun e w' => e = .returned ((.agg #[.int .i64 (0), .int .u64 (0)])) ∧ DR w' Q sb L q er ∧ w.grownBy w' (some Q) := by
  have I0 := IsB.new w #[.int .i64 0, .int .u64 0] 27
  have HG0 := hide (show Gr w (w.alloc (.cells #[.int .i64 0, .int .u64 0] 27)) from (Gr.refl w).alloc _)
  have h1 := hide (hb _ HG0.out)
  have hl0 := I0.lt
  replace I0 := hide I0
  clear hb
  go_enter Tryd.func60, Tryd.ntmps60
  go_wp2_with fail
  generalize w.alloc (.cells #[.int .i64 0, .int .u64 0] 27) = W0 at h1 I0 HG0 hl0 ⊢
  refine h1.out.mono ?_; rintro r w1 ⟨rfl, hd, hg⟩
  have hs1 := hg.size
  have HA := hide (I0.out.grown hg (by simp; omega))
  have HD := hide hd
  have HG := hide (grown_trans (grown_of_gr HG0.out (some Q)) hg)
  clear hd hg h1 I0
  go_wp2
  go_loopw [4, 5] (fun la i wr => la = .slice none 0 0 ∧ i = .int .i64 0 ∧ wr = w1) (fun _ _ _ => 0)
  case atStart => exact ⟨rfl, rfl, rfl⟩
  case round =>
    obtain ⟨rfl, rfl, rfl⟩ := hrel
    go_wp2_with fail
    go_at_call 74
    refine (of_nil wr).mono ?_
    rintro e w2 ⟨rfl, hg2⟩
    have HA2 := hide (HA.out.gr hg2)
    have HD2 := hide (HD.out.gr hg2)
    have HG2 := hide (grown_trans HG.out (grown_of_gr hg2 _))
    have f0 := HA2.out.free 0
    have f1 := HA2.out.free 1
    have a0 : w2.cell? ⟨w.heap.size, 0, none⟩ = some (.int .i64 0) := HA2.out.cell 0
    have a1 : w2.cell? ⟨w.heap.size, 1, none⟩ = some (.int .u64 0) := HA2.out.cell 1
    clear hg2
    go_wp2
    refine bodyPost_ret (rvec_results _ w.heap.size _ (IsB.set1of2 (HA2.out.set0of2 (.int .i64 0)) (.int .u64 0)) rfl _ rfl) rfl ⟨rfl, ?_, grown_new (grown_new HG2.out (a := ⟨w.heap.size, 0, none⟩) (by simp) _) (a := ⟨w.heap.size, 1, none⟩) (by simp) _⟩
    exact (HD2.out.set (a := ⟨w.heap.size, 0, none⟩) (by simp only []; omega) (by simp only []; omega) (.int .i64 0)).set (a := ⟨w.heap.size, 1, none⟩) (by simp only []; omega) (by simp only []; omega) (.int .u64 0)

/-- What a vector of n bits says, behind its first byte. -/
def vrest (n : Nat) (l : List Int) : PR (Int × Int) := match phigh ((n + 7) / 8) l with
    | .ok x m => if x % 2 ^ spare n = 0 then .ok ((n : Int), x / 2 ^ spare n) (m + 1) else .bad m 31
    | .bad i e => .bad (i + 1) e
def i64s (l : List Nat) : List Value := l.map fun x => .int .i64 ((x : Nat) : Int)
theorem infoI64 : (Tryd.prog.info? 3).map (fun i => (i.zero, i.size, i.bytes)) = some (some (.int .i64 0), 1, 8) := by kernel_rfl
/-- How far the document's vector has come. -/
structure VL (w wr : World) (Q sb : Nat) (L rest : List Int) (p n : Nat) (la : Value) (bl : List Nat) : Prop where
  one : ∀ x ∈ bl, x ≤ 1
  own : wr.ownsRow (w.heap.size + 1) 3 1 la bl.length (i64s bl)
  at_ : IsB wr w.heap.size #[.int .i64 0, .int .u64 0] 27
  gr : w.grownBy wr (some Q)
  si : w.heap.size + 1 ≤ wr.heap.size

theorem VL.next {w wr w2 : World} {Q sb : Nat} {L rest : List Int} {p n : Nat} {la : Value} {bl : List Nat} (h : VL w wr Q sb L rest p n la bl) (hQ : Q < w.heap.size) (hg : wr.grownBy w2 (some Q)) : VL w w2 Q sb L rest p n la bl :=
  ⟨h.one, h.own.kept hg (by right; intro he; have := h.own.lt _ he; omega), h.at_.grown hg (by simp; omega), grown_trans h.gr hg, Nat.le_trans h.si hg.size⟩
theorem VL.add {w wr w6 : World} {Q sb : Nat} {L rest : List Int} {p n : Nat} {la : Value} {bl : List Nat} (h : VL w wr Q sb L rest p n la bl) {ob : Obj} (hg : (wr.alloc ob).grownBy w6 la.ownBlock) {v : Nat} (hv : v ≤ 1) {g cap : Nat}
    (hown : w6.ownsRow (w.heap.size + 1) 3 1 (.slice (some ⟨g, 0, none⟩) (bl.length + 1) cap) (bl.length + 1) (i64s (bl ++ [v]))) : VL w w6 Q sb L rest p n (.slice (some ⟨g, 0, none⟩) (bl.length + 1) cap) (bl ++ [v]) := by
  have h0 := hg.size
  have h1 := World.size_alloc wr ob
  refine ⟨fun x hx => ?_, ?_, (h.at_.alloc ob).grown hg (by intro he; have := h.own.lt _ he.symm; omega), grown_far (grown_trans h.gr (grown_of_gr ((Gr.refl wr).alloc ob) _)) hg (fun j hj => by have := h.own.lt _ hj; omega), by have := h.si; omega⟩
  · rcases List.mem_append.1 hx with hx | hx
    · exact h.one x hx
    · rw [List.mem_singleton.1 hx]; exact hv
  · rw [List.length_append, List.length_singleton]; exact hown
theorem VL.dr {w wr w6 : World} {Q sb : Nat} {L rest : List Int} {p n : Nat} {la : Value} {bl : List Nat} (h : VL w wr Q sb L rest p n la bl) (hQ : Q < w.heap.size) (hs : sb < w.heap.size) {ob : Obj} (hg : (wr.alloc ob).grownBy w6 la.ownBlock) {q : Nat} {er : Int} (hd : DR wr Q sb L q er) : DR w6 Q sb L q er :=
  (hd.gr ((Gr.refl wr).alloc ob)).grown hg (by intro he; have := h.own.lt _ he.symm; omega) (by intro he; have := h.own.lt _ he.symm; omega)
theorem append_bit {w : World} {ops : Array Oper} {rest : List Oper} {o : Oper} {a : Act} {Q : Exit → Act → World → Prop} (hgd : o.guard = none) (s x : Operand)
    (ho : o.op = .call { callee := .builtin .append, args := #[s, x], argTypes := #[104, 104] })
    (base : Nat) (la : Value) (bl : List Nat) (hs : a.eval s = la) (hown : w.ownsRow base 3 1 la bl.length (i64s bl))
    (B v : Nat) (hx : a.eval x = .slice (some ⟨B, 0, none⟩) 1 1) (hB : IsB w B #[.int .i64 (v : Int)] 3) (hm : bl.length ≤ 1000) (hbase : base ≤ w.heap.size)
    (h : ∀ g cap w', w'.ownsRow base 3 1 (.slice (some ⟨g, 0, none⟩) (bl.length + 1) cap) (bl.length + 1) (i64s (bl ++ [v])) → w.grownBy w' la.ownBlock → wpList Tryd.prog ops Q rest (a.put o.dst (.slice (some ⟨g, 0, none⟩) (bl.length + 1) cap)) w') : wpList Tryd.prog ops Q (o :: rest) a w := by
  obtain ⟨i0, hi, hz0, hz1, hz2⟩ := info_parts infoI64
  refine wpList_append_lies _ hgd s x 104 ho base 3 i0 (.int .i64 0) 1 8 Tryd.underlying104 hi hz0 hz1 hz2 rfl (by decide) _ _ _ hs hown ⟨B, 0, none⟩ 1 1 #[.int .i64 (v : Int)].toList hx rfl (World.news_of_block (cs := #[.int .i64 (v : Int)]) (t := 3) (fr := (0, 0)) hB) (by intro u hu; simp at hu; subst hu; rfl) (by decide) (by unfold maxLen; omega) (by omega) hbase _ rfl ?_
  intro g cap w' h1 h2 _ _
  refine h g cap w' ?_ h2
  have e : i64s (bl ++ [v]) = i64s bl ++ #[.int .i64 (v : Int)].toList := by simp [i64s]
  rw [e]; exact h1
theorem vec_fin (o h : Int) (c kk : Nat) (hk : kk ≤ 8) (he : o = h * 2 ^ kk + (c : Int) / 2 ^ (8 - kk)) (hz : c % 2 ^ (8 - kk) = 0) : o * 2 ^ (8 - kk) = h * 256 + c := by
  have hc : ((c : Int) / 2 ^ (8 - kk)) * 2 ^ (8 - kk) = c := by
    have h1 : (c / 2 ^ (8 - kk)) * 2 ^ (8 - kk) = c := Nat.div_mul_cancel (Nat.dvd_of_mod_eq_zero hz)
    have h2 := congrArg (fun x : Nat => (x : Int)) h1
    simpa using h2
  rw [he, Int.add_mul, hc, Int.mul_assoc, ← Int.pow_add, show kk + (8 - kk) = 8 from by omega]
  rfl
theorem vec_bit (h : Int) (b : List Nat) (c kk : Nat) (hk : kk < 8) (he : (ofl b : Int) = h * 2 ^ kk + (c : Int) / 2 ^ (8 - kk)) : (ofl (b ++ [c / 2 ^ (7 - kk) % 2]) : Int) = h * 2 ^ (kk + 1) + (c : Int) / 2 ^ (8 - (kk + 1)) := by
  have e1 : 8 - kk = (7 - kk) + 1 := by omega
  have e2 : (c : Int) / 2 ^ (8 - kk) = ((c / 2 ^ (7 - kk) / 2 : Nat) : Int) := by
    rw [e1, Nat.div_div_eq_div_mul, ← Nat.pow_succ]; simp
  have e3 : (c : Int) / 2 ^ (8 - (kk + 1)) = ((c / 2 ^ (7 - kk) : Nat) : Int) := by
    rw [show 8 - (kk + 1) = 7 - kk from by omega]; simp
  rw [ofl_snoc, Int.natCast_add, Int.natCast_mul, he, e2, e3, Int.pow_succ, ← Int.mul_assoc, Int.add_mul]
  generalize c / 2 ^ (7 - kk) = q
  generalize h * 2 ^ kk = y
  omega
theorem vec_bad (h : Int) (c s : Nat) (hs : s ≤ 8) (hz : c % 2 ^ s ≠ 0) : (h * 256 + c) % 2 ^ s ≠ 0 := by
  have e : (256 : Int) = 2 ^ (8 - s) * 2 ^ s := by rw [← Int.pow_add, show 8 - s + s = 8 from by omega]; rfl
  rw [e, ← Int.mul_assoc, Int.add_comm, Int.add_mul_emod_self_right]
  intro h0
  apply hz
  have : ((c % 2 ^ s : Nat) : Int) = 0 := by simpa using h0
  omega
theorem own_nil {w : World} {base : Nat} : w.ownsRow base 3 1 (.slice none 0 0) 0 (i64s []) := ⟨rfl, Or.inl ⟨rfl, rfl⟩⟩

set_option maxHeartbeats 8000000 in
set_option maxRecDepth 100000 in
theorem rvec_some (Q sb : Nat) (L rest : List Int) (p n : Nat) (hn1 : 1 ≤ n) (hn : n ≤ 32) (hrest : L.drop (p + 1) = rest) (w : World) (hQ : Q < w.heap.size) (hsb : sb < w.heap.size) (hbd : ∀ c ∈ L, 0 ≤ c ∧ c < 256)
    (hb : ∀ W, Gr w W → Calls Tryd.prog 59 #[.pointer (some ⟨Q, 0, none⟩), .int .u8 0, .int .u8 32] W fun r w' => r = .returned (.int .u8 (n : Int)) ∧ DR w' Q sb L (p + 1) 0 ∧ W.grownBy w' (some Q)) :
    Calls Tryd.prog 60 #[.pointer (some ⟨Q, 0, none⟩)] w fun e w' => DPair w Q sb L p (vrest n rest) e w' := by
  have mixed : Tryd.prog.follows .mixedOrders = true := by kernel_rfl
  have I0 := IsB.new w #[.int .i64 0, .int .u64 0] 27
  have HG0 := hide (show Gr w (w.alloc (.cells #[.int .i64 0, .int .u64 0] 27)) from (Gr.refl w).alloc _)
  have h1 := hide (hb _ HG0.out)
  have hl0 := I0.lt
  replace I0 := hide I0
  have hwn : IntKind.i64.wrap (n : Int) = (n : Int) := by rw [IntKind.wrap_i64]; omega
  have HBD := hide hbd
  have HRS := hide hrest
  clear hb hbd hrest
  go_enter Tryd.func60, Tryd.ntmps60
  go_wp2_with fail
  generalize w.alloc (.cells #[.int .i64 0, .int .u64 0] 27) = W0 at h1 I0 HG0 hl0 ⊢
  refine h1.out.mono ?_; rintro r w1 ⟨rfl, hd, hg⟩
  have hs1 := hg.size
  have HV := hide (VL.mk (w := w) (wr := w1) (Q := Q) (sb := sb) (L := L) (rest := rest) (p := p) (n := n) (la := .slice none 0 0) (bl := []) (by simp) own_nil (I0.out.grown hg (by simp; omega)) (grown_trans (grown_of_gr HG0.out (some Q)) hg) (by omega))
  have HD := hide hd
  clear hd hg h1 I0 HG0
  go_wp2
  go_loopw [4, 5] (fun la i wr => ∃ (j : Nat) (bl : List Nat), i = .int .i64 ((8 * j : Nat) : Int) ∧ 8 * j < n + 8 ∧ j ≤ rest.length ∧ bl.length = min (8 * j) n ∧ Hid ((ofl bl : Int) * 2 ^ (8 * j - n) = hval (rest.take j)) ∧ Hid (VL w wr Q sb L rest p n la bl) ∧ Hid (DR wr Q sb L (p + 1 + j) 0)) (fun _ i _ => (40 - intOf i).toNat)
  case atStart => exact ⟨0, [], rfl, by omega, by omega, rfl, hide (by simp [ofl, hval]), HV, HD⟩
  case round =>
    clear HD HV
    obtain ⟨j, bl, rfl, hj8, hjr, hbl, HX, HV, HD⟩ := hrel
    have hle := HD.out.le
    by_cases hjn : 8 * j < n
    · have hjn' : ((8 * j : Nat) : Int) < (n : Int) := by omega
      by_cases hsh : j < rest.length
      · have hpl : p + 1 + j < L.length := by
          have h1 := congrArg List.length HRS.out
          rw [List.length_drop] at h1
          omega
        have hnx := hide (rnext_ok Q sb L (p + 1 + j) hpl wr HD.out)
        have hcb := HBD.out _ (List.getElem_mem hpl)
        have HT : Hid (hval (rest.take (j + 1)) = hval (rest.take j) * 256 + L[p + 1 + j]) := by
          show _ = _
          have hc : rest[j] = L[p + 1 + j] := by
            have := HRS.out
            subst this
            rw [List.getElem_drop]
          rw [List.take_succ_eq_append_getElem hsh, hval_snoc, hc]
        generalize L[p + 1 + j] = c at hnx hcb HT
        obtain ⟨c, rfl⟩ := Int.eq_ofNat_of_zero_le hcb.1
        go_wp2_with fail
        go_at_call 72
        refine hnx.out.mono ?_
        rintro e w2 ⟨rfl, hd2, hg2⟩
        have HD2 := hide hd2
        have HV2 := hide (HV.out.next hQ hg2)
        have r1 : w2.cell? ⟨Q, 1, none⟩ = some (.int .i64 ((p + 1 + j : Nat) : Int)) := by obtain ⟨_, _, h1, _⟩ := hd2; exact h1.cell 1
        have r2 : w2.frozen? ⟨Q, 1, none⟩ = false := by obtain ⟨_, _, h1, _⟩ := hd2; exact h1.free 1
        have r3 : w2.frozen? ⟨Q, 2, none⟩ = false := by obtain ⟨_, _, h1, _⟩ := hd2; exact h1.free 2
        have r4 : w2.cell? ⟨Q, 2, none⟩ = some (.int .i64 0) := by obtain ⟨_, _, h1, _⟩ := hd2; exact h1.cell 2
        clear hd2 hg2 hnx HV HD
        by_cases hlf : 8 ≤ n - 8 * j
        · have hlf' : ¬ ((n : Int) - 8 * (j : Int) < 8) := by omega
          have HZ : Hid (∀ kk : Nat, kk ≤ 8 → ¬ (kk < 8 ∧ 8 * j + kk < n) → 8 * j + kk ≤ n → c % 2 ^ (8 - kk) = 0) := by
            intro kk h1 h2 h3
            rw [show 8 - kk = 0 from by omega, Nat.pow_zero]; omega
          go_wp2
          have HD3 := hide (HD2.out.step hpl)
          have HV3 := hide (HV2.out.next hQ (grown_set _ Q 1 (.int .i64 ((p + 1 + j + 1 : Nat) : Int))))
          have HB0 : Hid ((ofl bl : Int) = hval (rest.take j)) := by
            have h := HX.out
            rw [show 8 * j - n = 0 from by omega, Int.pow_zero, Int.mul_one] at h
            exact h
          clear HD2 HV2 HX
          try simp only [Int.natCast_add, Int.natCast_one] at HD3 HV3
          go_loopw [4, 9] (fun la k wr => ∃ (kk : Nat) (bk : List Nat), k = .int .i64 (kk : Int) ∧ kk ≤ 8 ∧ 8 * j + kk ≤ n ∧ bk.length = 8 * j + kk ∧ Hid ((ofl bk : Int) = hval (rest.take j) * 2 ^ kk + c / 2 ^ (8 - kk)) ∧ Hid (VL w wr Q sb L rest p n la bk) ∧ Hid (DR wr Q sb L (p + 1 + j + 1) 0)) (fun _ k _ => (8 - intOf k).toNat)
          case atStart => exact ⟨0, bl, rfl, by omega, by omega, by omega, hide (by rw [HB0.out, show (2 : Int) ^ (8 - 0) = 256 from by decide, Int.ediv_eq_zero_of_lt (by omega) (by omega)]; simp), HV3, HD3⟩
          case round =>
            clear HD3 HV3 r1 r2 r3 r4
            obtain ⟨kk, bk, rfl, hk8, hkn, hbk, HK, HV4, HD4⟩ := hrel
            by_cases hk : kk < 8 ∧ 8 * j + kk < n
            · have hk1 : (kk : Int) < 8 := by omega
              have hk2 : (kk : Int) < (n : Int) - 8 * (j : Int) := by omega
              have hpw := power_any (7 - kk) (by omega) wr
              have hP1 : 1 ≤ 2 ^ (7 - kk) := Nat.one_le_two_pow
              have hP2 : 2 ^ (7 - kk) ≤ 2 ^ 7 := Nat.pow_le_pow_right (by omega) (by omega)
              rw [show ((7 - kk : Nat) : Int) = 7 - (kk : Int) from by omega] at hpw
              generalize hP : 2 ^ (7 - kk) = P at hpw hP1 hP2
              have hPw : IntKind.u8.wrap (P : Int) = (P : Int) := by
                have : IntKind.u8.wrap (P : Int) = (P : Int) % 256 := rfl
                rw [this]; omega
              have hPn : ((P : Int) == 0) = false := by simp; omega
              have hxc : ((c / P % 2 : Nat) : Int) = (c : Int) / (P : Int) % 2 := by rw [Int.natCast_emod, Int.natCast_ediv]; rfl
              replace hpw := hide hpw
              have hsi := HV4.out.si
              go_wp2_with fail
              refine hpw.out.mono ?_
              rintro e w5 ⟨rfl, rfl⟩
              clear hpw
              go_wp2_with (at_builtin; refine append_bit rfl (.tmp 60) (.tmp 69) rfl (w.heap.size + 1) _ bk rfl (HV4.out.own.alloc _) w5.heap.size (c / P % 2) rfl (by rw [hxc]; exact IsB.new w5 _ _) (by omega) (by rw [World.size_alloc]; omega) ?_; intro g6 c6 w6 hown6 hgrow6)
              have HV6 := hide (HV4.out.add hgrow6 (by omega) hown6)
              have HD6 := hide (HV4.out.dr hQ hsb hgrow6 HD4.out)
              have HK6 := hide (vec_bit _ bk c kk hk.1 HK.out)
              rw [hP] at HK6
              clear hown6 hgrow6 HV4 HD4 HK
              go_wp2
              refine ⟨⟨kk + 1, bk ++ [c / P % 2], by simp, by omega, by omega, by rw [List.length_append, List.length_singleton]; omega, HK6, by rw [← hbk]; exact HV6, HD6⟩, ?_⟩
              simp [intOf]; omega
            · have hFX : (ofl bk : Int) * 2 ^ (8 * (j + 1) - n) = hval (rest.take (j + 1)) := by
                rw [show 8 * (j + 1) - n = 8 - kk from by omega, HT.out]
                exact vec_fin _ _ c kk hk8 HK.out (HZ.out kk hk8 hk hkn)
              have HFX := hide hFX
              clear hFX
              by_cases hk1 : kk < 8
              · have hk1' : (kk : Int) < 8 := by omega
                have hk2 : ¬ ((kk : Int) < (n : Int) - 8 * (j : Int)) := by omega
                go_wp2
                refine ⟨⟨j + 1, bk, by congr 1, by omega, by omega, by omega, HFX, HV4, HD4⟩, ?_⟩
                simp [intOf]; omega
              · have hk1' : ¬ ((kk : Int) < 8) := by omega
                go_wp2
                refine ⟨⟨j + 1, bk, by congr 1, by omega, by omega, by omega, HFX, HV4, HD4⟩, ?_⟩
                simp [intOf]; omega
        · have hlf' : ((n : Int) - 8 * (j : Int) < 8) := by omega
          have hpw := power_any (8 - (n - 8 * j)) (by omega) w2
          have hP1 : 1 ≤ 2 ^ (8 - (n - 8 * j)) := Nat.one_le_two_pow
          have hP2 : 2 ^ (8 - (n - 8 * j)) ≤ 2 ^ 7 := Nat.pow_le_pow_right (by omega) (by omega)
          rw [show ((8 - (n - 8 * j) : Nat) : Int) = 8 - ((n : Int) - 8 * (j : Int)) from by omega] at hpw
          generalize hP : 2 ^ (8 - (n - 8 * j)) = P at hpw hP1 hP2
          have hPw : IntKind.u8.wrap (P : Int) = (P : Int) := by
            have : IntKind.u8.wrap (P : Int) = (P : Int) % 256 := rfl
            rw [this]; omega
          have hPn : ((P : Int) == 0) = false := by simp; omega
          replace hpw := hide hpw
          go_wp2_with fail
          refine hpw.out.mono ?_
          rintro e w5 ⟨rfl, rfl⟩
          by_cases hz : c % P = 0
          · have hz' : (c : Int) % (P : Int) = 0 := by have := congrArg (fun x : Nat => (x : Int)) hz; simpa using this
            have HZ : Hid (∀ kk : Nat, kk ≤ 8 → ¬ (kk < 8 ∧ 8 * j + kk < n) → 8 * j + kk ≤ n → c % 2 ^ (8 - kk) = 0) := by
              intro kk h1 h2 h3
              rw [show 8 - kk = 8 - (n - 8 * j) from by omega, hP]; exact hz
            clear hpw
            go_wp2
            clear hz hz'
            have HD3 := hide (HD2.out.step hpl)
            have HV3 := hide (HV2.out.next hQ (grown_set _ Q 1 (.int .i64 ((p + 1 + j + 1 : Nat) : Int))))
            have HB0 : Hid ((ofl bl : Int) = hval (rest.take j)) := by
              have h := HX.out
              rw [show 8 * j - n = 0 from by omega, Int.pow_zero, Int.mul_one] at h
              exact h
            clear HD2 HV2 HX
            try simp only [Int.natCast_add, Int.natCast_one] at HD3 HV3
            go_loopw [4, 9] (fun la k wr => ∃ (kk : Nat) (bk : List Nat), k = .int .i64 (kk : Int) ∧ kk ≤ 8 ∧ 8 * j + kk ≤ n ∧ bk.length = 8 * j + kk ∧ Hid ((ofl bk : Int) = hval (rest.take j) * 2 ^ kk + c / 2 ^ (8 - kk)) ∧ Hid (VL w wr Q sb L rest p n la bk) ∧ Hid (DR wr Q sb L (p + 1 + j + 1) 0)) (fun _ k _ => (8 - intOf k).toNat)
            case atStart => exact ⟨0, bl, rfl, by omega, by omega, by omega, hide (by rw [HB0.out, show (2 : Int) ^ (8 - 0) = 256 from by decide, Int.ediv_eq_zero_of_lt (by omega) (by omega)]; simp), HV3, HD3⟩
            case round =>
              clear HD3 HV3 r1 r2 r3 r4
              obtain ⟨kk, bk, rfl, hk8, hkn, hbk, HK, HV4, HD4⟩ := hrel
              by_cases hk : kk < 8 ∧ 8 * j + kk < n
              · have hk1 : (kk : Int) < 8 := by omega
                have hk2 : (kk : Int) < (n : Int) - 8 * (j : Int) := by omega
                have hpw := power_any (7 - kk) (by omega) wr
                have hP1 : 1 ≤ 2 ^ (7 - kk) := Nat.one_le_two_pow
                have hP2 : 2 ^ (7 - kk) ≤ 2 ^ 7 := Nat.pow_le_pow_right (by omega) (by omega)
                rw [show ((7 - kk : Nat) : Int) = 7 - (kk : Int) from by omega] at hpw
                generalize hP : 2 ^ (7 - kk) = P at hpw hP1 hP2
                have hPw : IntKind.u8.wrap (P : Int) = (P : Int) := by
                  have : IntKind.u8.wrap (P : Int) = (P : Int) % 256 := rfl
                  rw [this]; omega
                have hPn : ((P : Int) == 0) = false := by simp; omega
                have hxc : ((c / P % 2 : Nat) : Int) = (c : Int) / (P : Int) % 2 := by rw [Int.natCast_emod, Int.natCast_ediv]; rfl
                replace hpw := hide hpw
                have hsi := HV4.out.si
                go_wp2_with fail
                refine hpw.out.mono ?_
                rintro e w5 ⟨rfl, rfl⟩
                clear hpw
                go_wp2_with (at_builtin; refine append_bit rfl (.tmp 60) (.tmp 69) rfl (w.heap.size + 1) _ bk rfl (HV4.out.own.alloc _) w5.heap.size (c / P % 2) rfl (by rw [hxc]; exact IsB.new w5 _ _) (by omega) (by rw [World.size_alloc]; omega) ?_; intro g6 c6 w6 hown6 hgrow6)
                have HV6 := hide (HV4.out.add hgrow6 (by omega) hown6)
                have HD6 := hide (HV4.out.dr hQ hsb hgrow6 HD4.out)
                have HK6 := hide (vec_bit _ bk c kk hk.1 HK.out)
                rw [hP] at HK6
                clear hown6 hgrow6 HV4 HD4 HK
                go_wp2
                refine ⟨⟨kk + 1, bk ++ [c / P % 2], by simp, by omega, by omega, by rw [List.length_append, List.length_singleton]; omega, HK6, by rw [← hbk]; exact HV6, HD6⟩, ?_⟩
                simp [intOf]; omega
              · have hFX : (ofl bk : Int) * 2 ^ (8 * (j + 1) - n) = hval (rest.take (j + 1)) := by
                  rw [show 8 * (j + 1) - n = 8 - kk from by omega, HT.out]
                  exact vec_fin _ _ c kk hk8 HK.out (HZ.out kk hk8 hk hkn)
                have HFX := hide hFX
                clear hFX
                by_cases hk1 : kk < 8
                · have hk1' : (kk : Int) < 8 := by omega
                  have hk2 : ¬ ((kk : Int) < (n : Int) - 8 * (j : Int)) := by omega
                  go_wp2
                  refine ⟨⟨j + 1, bk, by congr 1, by omega, by omega, by omega, HFX, HV4, HD4⟩, ?_⟩
                  simp [intOf]; omega
                · have hk1' : ¬ ((kk : Int) < 8) := by omega
                  go_wp2
                  refine ⟨⟨j + 1, bk, by congr 1, by omega, by omega, by omega, HFX, HV4, HD4⟩, ?_⟩
                  simp [intOf]; omega
          · have hz' : ¬ ((c : Int) % (P : Int) = 0) := by intro h; apply hz; have : ((c % P : Nat) : Int) = 0 := by simpa using h
                                                           omega
            have hv : vrest n rest = .bad (j + 1) 31 := by
              unfold vrest phigh
              rw [show (n + 7) / 8 = j + 1 from by omega, if_pos (by omega), HT.out]
              simp only []
              rw [show spare n = 8 - (n - 8 * j) from by unfold spare; omega, if_neg (vec_bad _ c _ (by omega) (by rw [hP]; exact hz))]
            have HA3 := hide (HV2.out.next hQ (grown_set _ Q 2 (.int .i64 31))).at_
            have HG3 := hide (HV2.out.next hQ (grown_set _ Q 2 (.int .i64 31))).gr
            have HD3 := hide (HD2.out.setE 31)
            have f0 := HA3.out.free 0
            have f1 := HA3.out.free 1
            have a0 : (w5.setCell ⟨Q, 2, none⟩ (.int .i64 31)).cell? ⟨w.heap.size, 0, none⟩ = some (.int .i64 0) := HA3.out.cell 0
            have a1 : (w5.setCell ⟨Q, 2, none⟩ (.int .i64 31)).cell? ⟨w.heap.size, 1, none⟩ = some (.int .u64 0) := HA3.out.cell 1
            clear hpw HV2 HD2 HX
            go_wp2
            rw [hv]
            refine bodyPost_ret (rvec_results _ w.heap.size _ (IsB.set1of2 (HA3.out.set0of2 (.int .i64 0)) (.int .u64 0)) rfl _ rfl) rfl ⟨⟨⟨0, 0, rfl⟩, ?_, by omega⟩, grown_new (grown_new HG3.out (a := ⟨w.heap.size, 0, none⟩) (by simp) _) (a := ⟨w.heap.size, 1, none⟩) (by simp) _⟩
            rw [show p + (j + 1) = p + 1 + j from by omega]
            exact (HD3.out.set (a := ⟨w.heap.size, 0, none⟩) (by simp only []; omega) (by simp only []; omega) (.int .i64 0)).set (a := ⟨w.heap.size, 1, none⟩) (by simp only []; omega) (by simp only []; omega) (.int .u64 0)
      · have hjl : p + 1 + j = L.length := by
          have h1 := congrArg List.length HRS.out
          rw [List.length_drop] at h1
          omega
        rw [hjl] at HD
        have hne := hide (rnext_end Q sb L wr HD.out)
        have hv : vrest n rest = .bad (j + 1) 32 := by
          unfold vrest phigh
          rw [if_neg (by omega), show j = rest.length from by omega]
        clear HX HD
        go_wp2_with fail
        go_at_call 72
        refine hne.out.mono ?_
        rintro e w2 ⟨rfl, hd2, hg2⟩
        have HD2 := hide hd2
        have HA2 := hide (HV.out.at_.grown hg2 (by simp; omega))
        have HG2 := hide (grown_trans HV.out.gr hg2)
        have f0 := HA2.out.free 0
        have f1 := HA2.out.free 1
        have a0 : w2.cell? ⟨w.heap.size, 0, none⟩ = some (.int .i64 0) := HA2.out.cell 0
        have a1 : w2.cell? ⟨w.heap.size, 1, none⟩ = some (.int .u64 0) := HA2.out.cell 1
        clear hd2 hg2 hne HV
        go_wp2
        rw [hv]
        refine bodyPost_ret (rvec_results _ w.heap.size _ (IsB.set1of2 (HA2.out.set0of2 (.int .i64 0)) (.int .u64 0)) rfl _ rfl) rfl ⟨⟨⟨0, 0, rfl⟩, ?_, by omega⟩, grown_new (grown_new HG2.out (a := ⟨w.heap.size, 0, none⟩) (by simp) _) (a := ⟨w.heap.size, 1, none⟩) (by simp) _⟩
        rw [show p + (j + 1) = L.length from by omega]
        exact (HD2.out.set (a := ⟨w.heap.size, 0, none⟩) (by simp only []; omega) (by simp only []; omega) (.int .i64 0)).set (a := ⟨w.heap.size, 1, none⟩) (by simp only []; omega) (by simp only []; omega) (.int .u64 0)
    · have hjm : (n + 7) / 8 = j := by omega
      have hbn : bl.length = n := by omega
      have hv : vrest n rest = .ok ((n : Int), (ofl bl : Int)) (j + 1) := by
        have hsp : spare n = 8 * j - n := by unfold spare; rw [hjm]
        have hp : (2 : Int) ^ (8 * j - n) ≠ 0 := Int.ne_of_gt (Int.pow_pos (by omega))
        unfold vrest phigh
        rw [hjm, if_pos hjr, hsp, ← HX.out]
        simp only []
        rw [if_pos (Int.mul_emod_left _ _), Int.mul_ediv_cancel _ hp]
      obtain ⟨g, cp, rfl, hg1, hg2⟩ := HV.out.own.form (by omega)
      have hof := hide (of_any g 0 n cp bl wr hbn (by omega) HV.out.one hg2 (fun i hi => by
        have h1 := HV.out.own.cellAt i (by omega)
        rw [Nat.zero_add, h1]
        simp [i64s, hi]))
      rw [hbn]
      go_wp2_with fail
      go_at_call 74
      refine hof.out.mono ?_
      rintro e w2 ⟨rfl, hg2⟩
      have HA2 := hide (HV.out.at_.gr hg2)
      have HD2 := hide (HD.out.gr hg2)
      have HG2 := hide (grown_trans HV.out.gr (grown_of_gr hg2 _))
      have f0 := HA2.out.free 0
      have f1 := HA2.out.free 1
      have a0 : w2.cell? ⟨w.heap.size, 0, none⟩ = some (.int .i64 0) := HA2.out.cell 0
      have a1 : w2.cell? ⟨w.heap.size, 1, none⟩ = some (.int .u64 0) := HA2.out.cell 1
      clear hg2 hof
      go_wp2
      rw [hv]
      refine bodyPost_ret (rvec_results _ w.heap.size _ (IsB.set1of2 (HA2.out.set0of2 (.int .i64 (n : Int))) (.int .u64 ((ofl bl : Nat) : Int))) rfl _ rfl) rfl ⟨⟨rfl, ?_⟩, grown_new (grown_new HG2.out (a := ⟨w.heap.size, 0, none⟩) (by simp) _) (a := ⟨w.heap.size, 1, none⟩) (by simp) _⟩
      rw [show p + (j + 1) = p + 1 + j from by omega]
      exact (HD2.out.set (a := ⟨w.heap.size, 0, none⟩) (by simp only []; omega) (by simp only []; omega) (.int .i64 (n : Int))).set (a := ⟨w.heap.size, 1, none⟩) (by simp only []; omega) (by simp only []; omega) (.int .u64 ((ofl bl : Nat) : Int))

end Go.Proofs.YtmhcmlegdoapdaaDoor

/- The document's reader: vectors, whole. -/
namespace Go.Proofs.YtmhcmlegdoapdaaDoor
open Go.RowKit

theorem pvec_rest (n : Nat) (hn : n ≤ 32) (l : List Int) : pvec ((n : Int) :: l) = vrest n l := by
  unfold pvec
  simp only []
  rw [if_pos (by omega), Int.toNat_natCast]
  unfold vrest
  rfl
theorem vrest_zero (l : List Int) : vrest 0 l = .ok (0, 0) 1 := by
  unfold vrest phigh
  rw [if_pos (by omega)]
  simp [hval, spare]

/-- The document's vector, of any bytes. -/
theorem rvec_any (Q sb : Nat) (L : List Int) (p : Nat) (w : World) (h : DR w Q sb L p 0) (hsb : sb < w.heap.size) :
    Calls Tryd.prog 60 #[.pointer (some ⟨Q, 0, none⟩)] w fun e w' => DPair w Q sb L p (pvec (L.drop p)) e w' := by
  have hbd := h.bd
  have hQ := h.lt
  have hby := fun (W : World) (hg : Gr w W) => rbyte_any Q sb L p 0 32 W (h.gr hg)
  rcases hd : L.drop p with _ | ⟨c, rest⟩
  · rw [hd] at hby
    have hb0 : pbyte 0 32 ([] : List Int) = .bad 0 32 := rfl
    rw [hb0] at hby
    refine (rvec_zero Q sb L p 32 w hQ hsb (fun W hg => (hby W hg).mono ?_)).mono ?_
    · rintro r w' ⟨⟨rfl, hd', _⟩, hg'⟩
      exact ⟨rfl, hd', hg'⟩
    · rintro e w' ⟨rfl, hd', hg'⟩
      exact ⟨⟨⟨0, 0, rfl⟩, hd', by omega⟩, hg'⟩
  · have hcb := hbd c (List.mem_of_mem_drop (by rw [hd]; exact List.mem_cons_self))
    have hr1 : L.drop (p + 1) = rest := by
      have : L.drop (p + 1) = (L.drop p).drop 1 := by rw [List.drop_drop]
      rw [this, hd]; rfl
    rw [hd] at hby
    obtain ⟨n, rfl⟩ := Int.eq_ofNat_of_zero_le hcb.1
    by_cases hc : n ≤ 32
    · have hb0 : pbyte 0 32 ((n : Int) :: rest) = .ok (n : Int) 1 := if_pos ⟨by omega, by omega⟩
      rw [hb0] at hby
      rw [pvec_rest n hc]
      by_cases h0 : n = 0
      · subst h0
        rw [vrest_zero]
        refine (rvec_zero Q sb L (p + 1) 0 w hQ hsb (fun W hg => (hby W hg).mono ?_)).mono ?_
        · rintro r w' ⟨⟨rfl, hd'⟩, hg'⟩
          exact ⟨rfl, hd', hg'⟩
        · rintro e w' ⟨rfl, hd', hg'⟩
          exact ⟨⟨rfl, hd'⟩, hg'⟩
      · refine rvec_some Q sb L rest p n (by omega) hc hr1 w hQ hsb hbd (fun W hg => (hby W hg).mono ?_)
        rintro r w' ⟨⟨rfl, hd'⟩, hg'⟩
        exact ⟨rfl, hd', hg'⟩
    · have hb0 : pbyte 0 32 ((n : Int) :: rest) = .bad 0 31 := if_neg (by omega)
      rw [hb0] at hby
      have hpk : pvec ((n : Int) :: rest) = .bad 0 31 := if_neg (by omega)
      rw [hpk]
      refine (rvec_zero Q sb L p 31 w hQ hsb (fun W hg => (hby W hg).mono ?_)).mono ?_
      · rintro r w' ⟨⟨rfl, hd', _⟩, hg'⟩
        exact ⟨rfl, hd', hg'⟩
      · rintro e w' ⟨rfl, hd', hg'⟩
        exact ⟨⟨⟨0, 0, rfl⟩, hd', by omega⟩, hg'⟩
/-- The document's vector behind a fault. -/
theorem rvec_bad (Q sb : Nat) (L : List Int) (p : Nat) (er : Int) (he : er ≠ 0) (w : World) (h : DR w Q sb L p er) (hsb : sb < w.heap.size) :
    Calls Tryd.prog 60 #[.pointer (some ⟨Q, 0, none⟩)] w fun e w' => e = .returned ((.agg #[.int .i64 (0), .int .u64 (0)])) ∧ DR w' Q sb L p er ∧ w.grownBy w' (some Q) := by
  refine rvec_zero Q sb L p er w h.lt hsb (fun W hg => (rbyte_bad Q sb L p er he 0 32 W (h.gr hg)).mono ?_)
  rintro r w' ⟨rfl, rfl⟩
  exact ⟨rfl, h.gr hg, ⟨rfl, rfl, rfl, Nat.le_refl _, fun _ _ _ => rfl⟩⟩

end Go.Proofs.YtmhcmlegdoapdaaDoor
