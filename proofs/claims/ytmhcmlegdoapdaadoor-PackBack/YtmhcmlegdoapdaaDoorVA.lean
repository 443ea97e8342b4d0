/- The document's powers of two, and the vector of a row of bits. -/
import Derived.Test.YtmhcmlegdoapdaaDoorRV
import Derived.Test.YtmhcmlegdoapdaaDoorRP
namespace Go.Proofs.YtmhcmlegdoapdaaDoor
open Go.RowKit

theorem wrap_u64 {x : Int} (h0 : 0 ≤ x) (h1 : x < 18446744073709551616) : IntKind.u64.wrap x = x := by
  simp only [IntKind.wrap]; exact Int.emod_eq_of_lt h0 h1
theorem pow_step (k : Nat) (h : k < 63) : IntKind.u64.wrap (2 ^ k * 2) = ((2 ^ (k + 1) : Nat) : Int) := by
  have hp : 2 ^ (k + 1) ≤ 2 ^ 63 := Nat.pow_le_pow_right (by omega) (by omega)
  have e : ((2 : Int) ^ k * 2) = ((2 ^ (k + 1) : Nat) : Int) := by rw [Nat.pow_succ]; simp
  rw [e]
  have hq : 0 < 2 ^ (k + 1) := Nat.two_pow_pos _
  generalize 2 ^ (k + 1) = y at *
  exact wrap_u64 (by omega) (by omega)

set_option maxHeartbeats 400000 in
set_option maxRecDepth 100000 in
theorem power_any (m : Nat) (hm : m ≤ 63) (w : World) :
    Calls Tryd.prog 54 #[.int .i64 (m : Int)] w fun e w' => e = .returned (.int .u64 ((2 ^ m : Nat) : Int)) ∧ w' = w := by
  go_enter Tryd.func54, Tryd.ntmps54
  go_wp2
  go_loop [0, 3] (fun i x => ∃ k : Nat, k ≤ m ∧ i = .int .i64 ((m - k : Nat) : Int) ∧ x = .int .u64 ((2 ^ k : Nat) : Int)) (fun i _ => (intOf i).toNat)
  case atStart => exact ⟨0, by omega, by simp, rfl⟩
  case round =>
    obtain ⟨k, hk, rfl, rfl⟩ := hrel
    by_cases hlt : k < m
    · have H : Hid (IntKind.u64.wrap (2 ^ k * 2) = ((2 ^ (k + 1) : Nat) : Int)) := pow_step k (by omega)
      go_wp2
      refine ⟨⟨k + 1, by omega, ?_, ?_⟩, ?_⟩
      · rw [show ((m - k : Nat) : Int) - 1 = ((m - (k + 1) : Nat) : Int) from by omega]
      · rw [H.out]
      · simp [intOf]; omega
    · go_wp2
      go_ret
      have e : k = m := by omega
      rw [e]; simp

/-- The number of a row of bits, the highest first. -/
def ofl (l : List Nat) : Nat := l.foldl (fun a x => a * 2 + x) 0
theorem ofl_snoc (l : List Nat) (x : Nat) : ofl (l ++ [x]) = ofl l * 2 + x := by unfold ofl; rw [List.foldl_append]; rfl
theorem ofl_lt (l : List Nat) (h : ∀ x ∈ l, x ≤ 1) : ofl l < 2 ^ l.length := by
  rw [← List.reverse_reverse l] at h ⊢
  generalize l.reverse = r at h ⊢
  induction r with
  | nil => simp [ofl]
  | cons c r ih =>
    rw [List.reverse_cons, ofl_snoc]
    have h1 := ih (fun x hx => h x (by rw [List.reverse_cons]; exact List.mem_append_left _ hx))
    have h2 := h c (by simp)
    rw [List.length_append, List.length_singleton, Nat.pow_succ]
    omega
theorem take_snoc (l : List Nat) (k : Nat) (h : k < l.length) : l.take (k + 1) = l.take k ++ [l.getD k 0] := by
  rw [List.take_succ_eq_append_getElem h]; simp [h]
theorem ofl_take (l : List Nat) (h : ∀ x ∈ l, x ≤ 1) (k : Nat) (hk : k ≤ l.length) (h32 : l.length ≤ 60) : ofl (l.take k) < 1152921504606846976 := by
  have h1 := ofl_lt (l.take k) (fun x hx => h x (List.mem_of_mem_take hx))
  have h2 : 2 ^ (l.take k).length ≤ 2 ^ 60 := Nat.pow_le_pow_right (by omega) (by rw [List.length_take]; omega)
  exact Nat.lt_of_lt_of_le h1 h2
theorem getD_le (l : List Nat) (h : ∀ x ∈ l, x ≤ 1) (k : Nat) : l.getD k 0 ≤ 1 := by
  by_cases hk : k < l.length
  · have e : l.getD k 0 = l[k] := by simp [hk]
    rw [e]; exact h _ (List.getElem_mem hk)
  · have e : l.getD k 0 = 0 := by simp [hk]
    omega
/-- What a slice of bits holds. -/
def Bits (w : World) (g o : Nat) (l : List Nat) : Prop := ∀ j, j < l.length → w.cell? ⟨g, o + j, none⟩ = some (.int .i64 (l.getD j 0 : Nat))
theorem rof_results (W : World) (g : Nat) (cs : Array Value) (h : IsB W g cs 27) (hs : cs.size = 2) (T : Array Value) (hp : T.getD 2 undef = .pointer (some ⟨g, 0, none⟩)) : (results Tryd.f74 T).run Tryd.prog W = .ok (.agg cs) W :=
  results_cell_row rfl T W g 27 cs (0, 0) _ hp h Tryd.underlying27 rfl (by rw [hs]; exact vec_info)

set_option maxHeartbeats 2000000 in
set_option maxRecDepth 100000 in
theorem of_any (g o n cap : Nat) (l : List Nat) (w : World) (hl : l.length = n) (hn : n ≤ 60) (h01 : ∀ x ∈ l, x ≤ 1) (hg : g < w.heap.size) (hrow : Bits w g o l) :
    Calls Tryd.prog 74 #[.slice (some ⟨g, o, none⟩) n cap] w fun e w' => e = .returned ((.agg #[.int .i64 ((n : Int)), .int .u64 ((ofl l : Nat))])) ∧ Gr w w' := by
  go_enter Tryd.func74, Tryd.ntmps74
  go_wp2
  go_loopw [4] (fun i wr => ∃ k : Nat, k ≤ n ∧ i = .int .i64 (k : Int) ∧ IsB wr w.heap.size #[.int .i64 0, .int .u64 0] 27 ∧ IsB wr (w.heap.size + 1) #[.int .i64 (n : Int), .int .u64 (ofl (l.take k) : Nat)] 27 ∧ Gr w wr)
    (fun i _ => n - (intOf i).toNat)
  case atStart =>
    refine ⟨0, by omega, rfl, ?_, ?_, ?_⟩
    · exact (IsB.new w _ _).alloc _
    · have := IsB.new (w.alloc (.cells #[.int .i64 0, .int .u64 0] 27)) #[.int .i64 (n : Int), .int .u64 0] 27
      simpa [ofl] using this
    · exact ((Gr.refl w).alloc _).alloc _
  case round =>
    obtain ⟨k, hk, rfl, i0, i1, hb⟩ := hrel
    have H0 := hide i0
    have H1 := hide i1
    have HG := hide hb
    have a0 : wr.cell? ⟨w.heap.size, 0, none⟩ = some (.int .i64 0) := i0.cell 0
    have a1 : wr.cell? ⟨w.heap.size, 1, none⟩ = some (.int .u64 0) := i0.cell 1
    have a2 := i0.free 0
    have a3 := i0.free 1
    have b0 : wr.cell? ⟨w.heap.size + 1, 0, none⟩ = some (.int .i64 (n : Int)) := i1.cell 0
    have b1 : wr.cell? ⟨w.heap.size + 1, 1, none⟩ = some (.int .u64 (ofl (l.take k) : Nat)) := i1.cell 1
    have b2 := i1.free 0
    have b3 := i1.free 1
    clear i0 i1
    by_cases hlt : k < n
    · have hcx : wr.cell? ⟨g, o + k, none⟩ = some (.int .i64 (l.getD k 0 : Nat)) := hb.cell (x := ⟨g, o + k, none⟩) hg (hrow k (by omega))
      have hx := getD_le l h01 k
      have hq := ofl_take l h01 k (by omega) (by omega)
      have HS : Hid (ofl (l.take (k + 1)) = ofl (l.take k) * 2 + l.getD k 0) := by
        show _ = _
        rw [take_snoc l k (by omega), ofl_snoc]
      generalize l.getD k 0 = x at *
      generalize ofl (l.take k) = q at *
      have i1 : (k : Int) < n := by omega
      have i2 : (0 : Int) ≤ k := by omega
      clear hrow h01 hb
      go_wp2
      go_region
      go_wp2
      refine ⟨⟨k + 1, by omega, by simp, ?_, ?_, ?_⟩, ?_⟩
      · exact (H0.out.setOther (a := ⟨w.heap.size + 1, 1, none⟩) (by simp) _).gr (Gr.refl _).drew
      · rw [HS.out]
        have := IsB.gr (H1.out.set1of2 (.int .u64 ((q : Int) * 2 + x))) (Gr.refl _).drew
        simpa using this
      · exact (HG.out.set (w.heap.size + 1) 1 _ (by omega)).drew
      · simp [intOf]; omega
    · have e : ofl (l.take k) = ofl l := by rw [List.take_of_length_le (by omega)]
      rw [e] at H1 b1
      clear e hb
      go_wp2
      exact bodyPost_ret (rof_results _ w.heap.size _ (IsB.set1of2 (H0.out.set0of2 (.int .i64 (n : Int))) (.int .u64 (ofl l : Nat))) rfl _ rfl) rfl ⟨rfl, (HG.out.set w.heap.size 0 _ (Nat.le_refl _)).set w.heap.size 1 _ (Nat.le_refl _)⟩

set_option maxHeartbeats 400000 in
set_option maxRecDepth 100000 in
theorem of_nil (w : World) :
    Calls Tryd.prog 74 #[.slice none 0 0] w fun e w' => e = .returned ((.agg #[.int .i64 (0), .int .u64 (0)])) ∧ Gr w w' := by
  go_enter Tryd.func74, Tryd.ntmps74
  go_wp2
  go_loopw [4] (fun i wr => i = .int .i64 0 ∧ IsB wr w.heap.size #[.int .i64 0, .int .u64 0] 27 ∧ IsB wr (w.heap.size + 1) #[.int .i64 0, .int .u64 0] 27 ∧ Gr w wr)
    (fun _ _ => 0)
  case atStart =>
    refine ⟨rfl, ?_, ?_, ?_⟩
    · exact (IsB.new w _ _).alloc _
    · have := IsB.new (w.alloc (.cells #[.int .i64 0, .int .u64 0] 27)) #[.int .i64 0, .int .u64 0] 27
      simpa using this
    · exact ((Gr.refl w).alloc _).alloc _
  case round =>
    obtain ⟨rfl, i0, i1, hb⟩ := hrel
    have H0 := hide i0
    have HG := hide hb
    have a2 := i0.free 0
    have a3 := i0.free 1
    have b0 : wr.cell? ⟨w.heap.size + 1, 0, none⟩ = some (.int .i64 0) := i1.cell 0
    have b1 : wr.cell? ⟨w.heap.size + 1, 1, none⟩ = some (.int .u64 0) := i1.cell 1
    have a0 : wr.cell? ⟨w.heap.size, 0, none⟩ = some (.int .i64 0) := i0.cell 0
    have a1 : wr.cell? ⟨w.heap.size, 1, none⟩ = some (.int .u64 0) := i0.cell 1
    clear i0 i1 hb
    go_wp2
    exact bodyPost_ret (rof_results _ w.heap.size _ (IsB.set1of2 (H0.out.set0of2 (.int .i64 0)) (.int .u64 0)) rfl _ rfl) rfl ⟨rfl, (HG.out.set w.heap.size 0 _ (Nat.le_refl _)).set w.heap.size 1 _ (Nat.le_refl _)⟩

end Go.Proofs.YtmhcmlegdoapdaaDoor

/- The document's reader: vectors, of any bytes. -/
namespace Go.Proofs.YtmhcmlegdoapdaaDoor
open Go.RowKit

theorem DR.grown {w w' : World} {Q sb : Nat} {L : List Int} {p : Nat} {e : Int} (h : DR w Q sb L p e) {row : Option Nat} (hg : w.grownBy w' row) (hq : some Q ≠ row) (hs : some sb ≠ row) : DR w' Q sb L p e := by
  obtain ⟨ad, cap, h1, h2, h3, h4, h5, h6, h7, h8⟩ := h
  refine ⟨ad, cap, IsB.grown h1 hg hq, h2, h3, h4, h5, h6, h7, ?_⟩
  rcases h8 with h8 | ⟨b, o, g1, g2, g3, g4⟩
  · exact Or.inl h8
  · refine Or.inr ⟨b, o, g1, g2, Nat.lt_of_lt_of_le g3 hg.size, fun j hj => ?_⟩
    have hb : b = sb := h7 _ g1
    rw [World.cell?_of_block (w := w) (hg.block b g3 (by rw [hb]; exact hs))]; exact g4 j hj
theorem grown_far {w w1 w2 : World} {row row' : Option Nat} (h : w.grownBy w1 row) (k : w1.grownBy w2 row') (hr : ∀ j, row' = some j → w.heap.size ≤ j) : w.grownBy w2 row :=
  ⟨k.os.trans h.os, k.tape.trans h.tape, k.output.trans h.output, Nat.le_trans h.size k.size, fun j hj hne => (k.block j (Nat.lt_of_lt_of_le hj h.size) (fun he => by have := hr j he.symm; omega)).trans (h.block j hj hne)⟩
theorem rvec_results (W : World) (g : Nat) (cs : Array Value) (h : IsB W g cs 27) (hs : cs.size = 2) (T : Array Value) (hp : T.getD 2 undef = .pointer (some ⟨g, 0, none⟩)) : (results Tryd.f60 T).run Tryd.prog W = .ok (.agg cs) W :=
  results_cell_row rfl T W g 27 cs (0, 0) _ hp h Tryd.underlying27 rfl (by rw [hs]; exact vec_info)

set_option maxHeartbeats 4000000 in
set_option maxRecDepth 100000 in
/-- The document's vector whose first byte is 0, or is none. -/
theorem rvec_zero (Q sb : Nat) (L : List Int) (q : Nat) (er : Int) (w : World) (hQ : Q < w.heap.size) (hsb : sb < w.heap.size)
    (hb : ∀ W, Gr w W → Calls Tryd.prog 59 #[.pointer (some ⟨Q, 0, none⟩), .int .u8 0, .int .u8 32] W fun r w' => r = .returned (.int .u8 0) ∧ DR w' Q sb L q er ∧ W.grownBy w' (some Q)) :
    Calls Tryd.prog 60 #[.pointer (some ⟨Q, 0, none⟩)] w fun e w' => e = .returned ((.agg #[.int .i64 (0), .int .u64 (0)])) ∧ DR w' Q sb L q er ∧ w.grownBy w' (some Q) := by
  have I0 := IsB.new w #[.int .i64 0, .int .u64 0] 27
  have HG0 := hide (show Gr w (w.alloc (.cells #[.int .i64 0, .int .u64 0] 27)) from (Gr.refl w).alloc _)
  have h1 := hide (hb _ HG0.out)
  have hl0 := I0.lt
  replace I0 := hide I0
  clear hb
  go_enter Tryd.func60, Tryd.ntmps60
  go_wp2_with fail
  generalize w.alloc (.cells #[.int .i64 0, .int .u64 0] 27) = W0 at h1 I0 HG0 hl0 ⊢
  refine h1.out.mono ?_; rintro r w1 ⟨rfl, hd, hg⟩
  have hs1 := hg.size
  have HA := hide (I0.out.grown hg (by simp; omega))
  have HD := hide hd
  have HG := hide (grown_trans (grown_of_gr HG0.out (some Q)) hg)
  clear hd hg h1 I0
  go_wp2
  go_loopw [4, 5] (fun la i wr => la = .slice none 0 0 ∧ i = .int .i64 0 ∧ wr = w1) (fun _ _ _ => 0)
  case atStart => exact ⟨rfl, rfl, rfl⟩
  case round =>
    obtain ⟨rfl, rfl, rfl⟩ := hrel
    go_wp2_with fail
    go_at_call 74
    refine (of_nil wr).mono ?_
    rintro e w2 ⟨rfl, hg2⟩
    have HA2 := hide (HA.out.gr hg2)
    have HD2 := hide (HD.out.gr hg2)
    have HG2 := hide (grown_trans HG.out (grown_of_gr hg2 _))
    have f0 := HA2.out.free 0
    have f1 := HA2.out.free 1
    have a0 : w2.cell? ⟨w.heap.size, 0, none⟩ = some (.int .i64 0) := HA2.out.cell 0
    have a1 : w2.cell? ⟨w.heap.size, 1, none⟩ = some (.int .u64 0) := HA2.out.cell 1
    clear hg2
    go_wp2
    refine bodyPost_ret (rvec_results _ w.heap.size _ (IsB.set1of2 (HA2.out.set0of2 (.int .i64 0)) (.int .u64 0)) rfl _ rfl) rfl ⟨rfl, ?_, grown_new (grown_new HG2.out (a := ⟨w.heap.size, 0, none⟩) (by simp) _) (a := ⟨w.heap.size, 1, none⟩) (by simp) _⟩
    exact (HD2.out.set (a := ⟨w.heap.size, 0, none⟩) (by simp only []; omega) (by simp only []; omega) (.int .i64 0)).set (a := ⟨w.heap.size, 1, none⟩) (by simp only []; omega) (by simp only []; omega) (.int .u64 0)

/-- What a vector of n bits says, behind its first byte. -/
def vrest (n : Nat) (l : List Int) : PR (Int × Int) := match phigh ((n + 7) / 8) l with
    | .ok x m => if x % 2 ^ spare n = 0 then .ok ((n : Int), x / 2 ^ spare n) (m + 1) else .bad m 31
    | .bad i e => .bad (i + 1) e
def i64s (l : List Nat) : List Value := l.map fun x => .int .i64 ((x : Nat) : Int)
theorem infoI64 : (Tryd.prog.info? 3).map (fun i => (i.zero, i.size, i.bytes)) = some (some (.int .i64 0), 1, 8) := by kernel_rfl
/-- How far the document's vector has come. -/
structure VL (w wr : World) (Q sb : Nat) (L rest : List Int) (p n : Nat) (la : Value) (bl : List Nat) : Prop where
  one : ∀ x ∈ bl, x ≤ 1
  own : wr.ownsRow (w.heap.size + 1) 3 1 la bl.length (i64s bl)
  at_ : IsB wr w.heap.size #[.int .i64 0, .int .u64 0] 27
  gr : w.grownBy wr (some Q)
  si : w.heap.size + 1 ≤ wr.heap.size

theorem VL.next {w wr w2 : World} {Q sb : Nat} {L rest : List Int} {p n : Nat} {la : Value} {bl : List Nat} (h : VL w wr Q sb L rest p n la bl) (hQ : Q < w.heap.size) (hg : wr.grownBy w2 (some Q)) : VL w w2 Q sb L rest p n la bl :=
  ⟨h.one, h.own.kept hg (by right; intro he; have := h.own.lt _ he; omega), h.at_.grown hg (by simp; omega), grown_trans h.gr hg, Nat.le_trans h.si hg.size⟩
theorem VL.add {w wr w6 : World} {Q sb : Nat} {L rest : List Int} {p n : Nat} {la : Value} {bl : List Nat} (h : VL w wr Q sb L rest p n la bl) {ob : Obj} (hg : (wr.alloc ob).grownBy w6 la.ownBlock) {v : Nat} (hv : v ≤ 1) {g cap : Nat}
    (hown : w6.ownsRow (w.heap.size + 1) 3 1 (.slice (some ⟨g, 0, none⟩) (bl.length + 1) cap) (bl.length + 1) (i64s (bl ++ [v]))) : VL w w6 Q sb L rest p n (.slice (some ⟨g, 0, none⟩) (bl.length + 1) cap) (bl ++ [v]) := by
  have h0 := hg.size
  have h1 := World.size_alloc wr ob
  refine ⟨fun x hx => ?_, ?_, (h.at_.alloc ob).grown hg (by intro he; have := h.own.lt _ he.symm; omega), grown_far (grown_trans h.gr (grown_of_gr ((Gr.refl wr).alloc ob) _)) hg (fun j hj => by have := h.own.lt _ hj; omega), by have := h.si; omega⟩
  · rcases List.mem_append.1 hx with hx | hx
    · exact h.one x hx
    · rw [List.mem_singleton.1 hx]; exact hv
  · rw [List.length_append, List.length_singleton]; exact hown
theorem VL.dr {w wr w6 : World} {Q sb : Nat} {L rest : List Int} {p n : Nat} {la : Value} {bl : List Nat} (h : VL w wr Q sb L rest p n la bl) (hQ : Q < w.heap.size) (hs : sb < w.heap.size) {ob : Obj} (hg : (wr.alloc ob).grownBy w6 la.ownBlock) {q : Nat} {er : Int} (hd : DR wr Q sb L q er) : DR w6 Q sb L q er :=
  (hd.gr ((Gr.refl wr).alloc ob)).grown hg (by intro he; have := h.own.lt _ he.symm; omega) (by intro he; have := h.own.lt _ he.symm; omega)
theorem append_bit {w : World} {ops : Array Oper} {rest : List Oper} {o : Oper} {a : Act} {Q : Exit → Act → World → Prop} (hgd : o.guard = none) (s x : Operand)
    (ho : o.op = .call { callee := .builtin .append, args := #[s, x], argTypes := #[104, 104] })
    (base : Nat) (la : Value) (bl : List Nat) (hs : a.eval s = la) (hown : w.ownsRow base 3 1 la bl.length (i64s bl))
    (B v : Nat) (hx : a.eval x = .slice (some ⟨B, 0, none⟩) 1 1) (hB : IsB w B #[.int .i64 (v : Int)] 3) (hm : bl.length ≤ 1000) (hbase : base ≤ w.heap.size)
    (h : ∀ g cap w', w'.ownsRow base 3 1 (.slice (some ⟨g, 0, none⟩) (bl.length + 1) cap) (bl.length + 1) (i64s (bl ++ [v])) → w.grownBy w' la.ownBlock → wpList Tryd.prog ops Q rest (a.put o.dst (.slice (some ⟨g, 0, none⟩) (bl.length + 1) cap)) w') : wpList Tryd.prog ops Q (o :: rest) a w := by
  obtain ⟨i0, hi, hz0, hz1, hz2⟩ := info_parts infoI64
  refine wpList_append_lies _ hgd s x 104 ho base 3 i0 (.int .i64 0) 1 8 Tryd.underlying104 hi hz0 hz1 hz2 rfl (by decide) _ _ _ hs hown ⟨B, 0, none⟩ 1 1 #[.int .i64 (v : Int)].toList hx rfl (World.news_of_block (cs := #[.int .i64 (v : Int)]) (t := 3) (fr := (0, 0)) hB) (by intro u hu; simp at hu; subst hu; rfl) (by decide) (by unfold maxLen; omega) (by omega) hbase _ rfl ?_
  intro g cap w' h1 h2 _ _
  refine h g cap w' ?_ h2
  have e : i64s (bl ++ [v]) = i64s bl ++ #[.int .i64 (v : Int)].toList := by simp [i64s]
  rw [e]; exact h1
theorem vec_fin (o h : Int) (c kk : Nat) (hk : kk ≤ 8) (he : o = h * 2 ^ kk + (c : Int) / 2 ^ (8 - kk)) (hz : c % 2 ^ (8 - kk) = 0) : o * 2 ^ (8 - kk) = h * 256 + c := by
  have hc : ((c : Int) / 2 ^ (8 - kk)) * 2 ^ (8 - kk) = c := by
    have h1 : (c / 2 ^ (8 - kk)) * 2 ^ (8 - kk) = c := Nat.div_mul_cancel (Nat.dvd_of_mod_eq_zero hz)
    have h2 := congrArg (fun x : Nat => (x : Int)) h1
    simpa using h2
  rw [he, Int.add_mul, hc, Int.mul_assoc, ← Int.pow_add, show kk + (8 - kk) = 8 from by omega]
  rfl
theorem vec_bit (h : Int) (b : List Nat) (c kk : Nat) (hk : kk < 8) (he : (ofl b : Int) = h * 2 ^ kk + (c : Int) / 2 ^ (8 - kk)) : (ofl (b ++ [c / 2 ^ (7 - kk) % 2]) : Int) = h * 2 ^ (kk + 1) + (c : Int) / 2 ^ (8 - (kk + 1)) := by
  have e1 : 8 - kk = (7 - kk) + 1 := by omega
  have e2 : (c : Int) / 2 ^ (8 - kk) = ((c / 2 ^ (7 - kk) / 2 : Nat) : Int) := by
    rw [e1, Nat.div_div_eq_div_mul, ← Nat.pow_succ]; simp
  have e3 : (c : Int) / 2 ^ (8 - (kk + 1)) = ((c / 2 ^ (7 - kk) : Nat) : Int) := by
    rw [show 8 - (kk + 1) = 7 - kk from by omega]; simp
  rw [ofl_snoc, Int.natCast_add, Int.natCast_mul, he, e2, e3, Int.pow_succ, ← Int.mul_assoc, Int.add_mul]
  generalize c / 2 ^ (7 - kk) = q
  generalize h * 2 ^ kk = y
  omega
theorem vec_bad (h : Int) (c s : Nat) (hs : s ≤ 8) (hz : c % 2 ^ s ≠ 0) : (h * 256 + c) % 2 ^ s ≠ 0 := by
  have e : (256 : Int) = 2 ^ (8 - s) * 2 ^ s := by rw [← Int.pow_add, show 8 - s + s = 8 from by omega]; rfl
  rw [e, ← Int.mul_assoc, Int.add_comm, Int.add_mul_emod_self_right]
  intro h0
  apply hz
  have : ((c % 2 ^ s : Nat) : Int) = 0 := by simpa using h0
  omega
theorem own_nil {w : World} {base : Nat} : w.ownsRow base 3 1 (.slice none 0 0) 0 (i64s []) := ⟨rfl, Or.inl ⟨rfl, rfl⟩⟩

set_option maxHeartbeats 8000000 in
set_option maxRecDepth 100000 in
theorem rvec_some (Q sb : Nat) (L rest : List Int) (p n : Nat) (hn1 : 1 ≤ n) (hn : n ≤ 32) (hrest : L.drop (p + 1) = rest) (w : World) (hQ : Q < w.heap.size) (hsb : sb < w.heap.size) (hbd : ∀ c ∈ L, 0 ≤ c ∧ c < 256)
    (hb : ∀ W, Gr w W → Calls Tryd.prog 59 #[.pointer (some ⟨Q, 0, none⟩), .int .u8 0, .int .u8 32] W fun r w' => r = .returned (.int .u8 (n : Int)) ∧ DR w' Q sb L (p + 1) 0 ∧ W.grownBy w' (some Q)) :
    Calls Tryd.prog 60 #[.pointer (some ⟨Q, 0, none⟩)] w fun e w' => DPair w Q sb L p (vrest n rest) e w' := by
  have mixed : Tryd.prog.follows .mixedOrders = true := by kernel_rfl
  have I0 := IsB.new w #[.int .i64 0, .int .u64 0] 27
  have HG0 := hide (show Gr w (w.alloc (.cells #[.int .i64 0, .int .u64 0] 27)) from (Gr.refl w).alloc _)
  have h1 := hide (hb _ HG0.out)
  have hl0 := I0.lt
  replace I0 := hide I0
  have hwn : IntKind.i64.wrap (n : Int) = (n : Int) := by rw [IntKind.wrap_i64]; omega
  have HBD := hide hbd
  have HRS := hide hrest
  clear hb hbd hrest
  go_enter Tryd.func60, Tryd.ntmps60
  go_wp2_with fail
  generalize w.alloc (.cells #[.int .i64 0, .int .u64 0] 27) = W0 at h1 I0 HG0 hl0 ⊢
  refine h1.out.mono ?_; rintro r w1 ⟨rfl, hd, hg⟩
  have hs1 := hg.size
  have HV := hide (VL.mk (w := w) (wr := w1) (Q := Q) (sb := sb) (L := L) (rest := rest) (p := p) (n := n) (la := .slice none 0 0) (bl := []) (by simp) own_nil (I0.out.grown hg (by simp; omega)) (grown_trans (grown_of_gr HG0.out (some Q)) hg) (by omega))
  have HD := hide hd
  clear hd hg h1 I0 HG0
  go_wp2
  go_loopw [4, 5] (fun la i wr => ∃ (j : Nat) (bl : List Nat), i = .int .i64 ((8 * j : Nat) : Int) ∧ 8 * j < n + 8 ∧ j ≤ rest.length ∧ bl.length = min (8 * j) n ∧ Hid ((ofl bl : Int) * 2 ^ (8 * j - n) = hval (rest.take j)) ∧ Hid (VL w wr Q sb L rest p n la bl) ∧ Hid (DR wr Q sb L (p + 1 + j) 0)) (fun _ i _ => (40 - intOf i).toNat)
  case atStart => exact ⟨0, [], rfl, by omega, by omega, rfl, hide (by simp [ofl, hval]), HV, HD⟩
  case round =>
    clear HD HV
    obtain ⟨j, bl, rfl, hj8, hjr, hbl, HX, HV, HD⟩ := hrel
    have hle := HD.out.le
    by_cases hjn : 8 * j < n
    · have hjn' : ((8 * j : Nat) : Int) < (n : Int) := by omega
      by_cases hsh : j < rest.length
      · have hpl : p + 1 + j < L.length := by
          have h1 := congrArg List.length HRS.out
          rw [List.length_drop] at h1
          omega
        have hnx := hide (rnext_ok Q sb L (p + 1 + j) hpl wr HD.out)
        have hcb := HBD.out _ (List.getElem_mem hpl)
        have HT : Hid (hval (rest.take (j + 1)) = hval (rest.take j) * 256 + L[p + 1 + j]) := by
          show _ = _
          have hc : rest[j] = L[p + 1 + j] := by
            have := HRS.out
            subst this
            rw [List.getElem_drop]
          rw [List.take_succ_eq_append_getElem hsh, hval_snoc, hc]
        generalize L[p + 1 + j] = c at hnx hcb HT
        obtain ⟨c, rfl⟩ := Int.eq_ofNat_of_zero_le hcb.1
        go_wp2_with fail
        go_at_call 72
        refine hnx.out.mono ?_
        rintro e w2 ⟨rfl, hd2, hg2⟩
        have HD2 := hide hd2
        have HV2 := hide (HV.out.next hQ hg2)
        have r1 : w2.cell? ⟨Q, 1, none⟩ = some (.int .i64 ((p + 1 + j : Nat) : Int)) := by obtain ⟨_, _, h1, _⟩ := hd2; exact h1.cell 1
        have r2 : w2.frozen? ⟨Q, 1, none⟩ = false := by obtain ⟨_, _, h1, _⟩ := hd2; exact h1.free 1
        have r3 : w2.frozen? ⟨Q, 2, none⟩ = false := by obtain ⟨_, _, h1, _⟩ := hd2; exact h1.free 2
        have r4 : w2.cell? ⟨Q, 2, none⟩ = some (.int .i64 0) := by obtain ⟨_, _, h1, _⟩ := hd2; exact h1.cell 2
        clear hd2 hg2 hnx HV HD
        by_cases hlf : 8 ≤ n - 8 * j
        · have hlf' : ¬ ((n : Int) - 8 * (j : Int) < 8) := by omega
          have HZ : Hid (∀ kk : Nat, kk ≤ 8 → ¬ (kk < 8 ∧ 8 * j + kk < n) → 8 * j + kk ≤ n → c % 2 ^ (8 - kk) = 0) := by
            intro kk h1 h2 h3
            rw [show 8 - kk = 0 from by omega, Nat.pow_zero]; omega
          go_wp2
          have HD3 := hide (HD2.out.step hpl)
          have HV3 := hide (HV2.out.next hQ (grown_set _ Q 1 (.int .i64 ((p + 1 + j + 1 : Nat) : Int))))
          have HB0 : Hid ((ofl bl : Int) = hval (rest.take j)) := by
            have h := HX.out
            rw [show 8 * j - n = 0 from by omega, Int.pow_zero, Int.mul_one] at h
            exact h
          clear HD2 HV2 HX
          try simp only [Int.natCast_add, Int.natCast_one] at HD3 HV3
          go_loopw [4, 9] (fun la k wr => ∃ (kk : Nat) (bk : List Nat), k = .int .i64 (kk : Int) ∧ kk ≤ 8 ∧ 8 * j + kk ≤ n ∧ bk.length = 8 * j + kk ∧ Hid ((ofl bk : Int) = hval (rest.take j) * 2 ^ kk + c / 2 ^ (8 - kk)) ∧ Hid (VL w wr Q sb L rest p n la bk) ∧ Hid (DR wr Q sb L (p + 1 + j + 1) 0)) (fun _ k _ => (8 - intOf k).toNat)
          case atStart => exact ⟨0, bl, rfl, by omega, by omega, by omega, hide (by rw [HB0.out, show (2 : Int) ^ (8 - 0) = 256 from by decide, Int.ediv_eq_zero_of_lt (by omega) (by omega)]; simp), HV3, HD3⟩
          case round =>
            clear HD3 HV3 r1 r2 r3 r4
            obtain ⟨kk, bk, rfl, hk8, hkn, hbk, HK, HV4, HD4⟩ := hrel
            by_cases hk : kk < 8 ∧ 8 * j + kk < n
            · have hk1 : (kk : Int) < 8 := by omega
              have hk2 : (kk : Int) < (n : Int) - 8 * (j : Int) := by omega
              have hpw := power_any (7 - kk) (by omega) wr
              have hP1 : 1 ≤ 2 ^ (7 - kk) := Nat.one_le_two_pow
              have hP2 : 2 ^ (7 - kk) ≤ 2 ^ 7 := Nat.pow_le_pow_right (by omega) (by omega)
              rw [show ((7 - kk : Nat) : Int) = 7 - (kk : Int) from by omega] at hpw
              generalize hP : 2 ^ (7 - kk) = P at hpw hP1 hP2
              have hPw : IntKind.u8.wrap (P : Int) = (P : Int) := by
                have : IntKind.u8.wrap (P : Int) = (P : Int) % 256 := rfl
                rw [this]; omega
              have hPn : ((P : Int) == 0) = false := by simp; omega
              have hxc : ((c / P % 2 : Nat) : Int) = (c : Int) / (P : Int) % 2 := by rw [Int.natCast_emod, Int.natCast_ediv]; rfl
              replace hpw := hide hpw
              have hsi := HV4.out.si
              go_wp2_with fail
              refine hpw.out.mono ?_
              rintro e w5 ⟨rfl, rfl⟩
              clear hpw
              go_wp2_with (at_builtin; refine append_bit rfl (.tmp 60) (.tmp 69) rfl (w.heap.size + 1) _ bk rfl (HV4.out.own.alloc _) w5.heap.size (c / P % 2) rfl (by rw [hxc]; exact IsB.new w5 _ _) (by omega) (by rw [World.size_alloc]; omega) ?_; intro g6 c6 w6 hown6 hgrow6)
              have HV6 := hide (HV4.out.add hgrow6 (by omega) hown6)
              have HD6 := hide (HV4.out.dr hQ hsb hgrow6 HD4.out)
              have HK6 := hide (vec_bit _ bk c kk hk.1 HK.out)
              rw [hP] at HK6
              clear hown6 hgrow6 HV4 HD4 HK
              go_wp2
              refine ⟨⟨kk + 1, bk ++ [c / P % 2], by simp, by omega, by omega, by rw [List.length_append, List.length_singleton]; omega, HK6, by rw [← hbk]; exact HV6, HD6⟩, ?_⟩
              simp [intOf]; omega
            · have hFX : (ofl bk : Int) * 2 ^ (8 * (j + 1) - n) = hval (rest.take (j + 1)) := by
                rw [show 8 * (j + 1) - n = 8 - kk from by omega, HT.out]
                exact vec_fin _ _ c kk hk8 HK.out (HZ.out kk hk8 hk hkn)
              have HFX := hide hFX
              clear hFX
              by_cases hk1 : kk < 8
              · have hk1' : (kk : Int) < 8 := by omega
                have hk2 : ¬ ((kk : Int) < (n : Int) - 8 * (j : Int)) := by omega
                go_wp2
                refine ⟨⟨j + 1, bk, by congr 1, by omega, by omega, by omega, HFX, HV4, HD4⟩, ?_⟩
                simp [intOf]; omega
              · have hk1' : ¬ ((kk : Int) < 8) := by omega
                go_wp2
                refine ⟨⟨j + 1, bk, by congr 1, by omega, by omega, by omega, HFX, HV4, HD4⟩, ?_⟩
                simp [intOf]; omega
        · have hlf' : ((n : Int) - 8 * (j : Int) < 8) := by omega
          have hpw := power_any (8 - (n - 8 * j)) (by omega) w2
          have hP1 : 1 ≤ 2 ^ (8 - (n - 8 * j)) := Nat.one_le_two_pow
          have hP2 : 2 ^ (8 - (n - 8 * j)) ≤ 2 ^ 7 := Nat.pow_le_pow_right (by omega) (by omega)
          rw [show ((8 - (n - 8 * j) : Nat) : Int) = 8 - ((n : Int) - 8 * (j : Int)) from by omega] at hpw
          generalize hP : 2 ^ (8 - (n - 8 * j)) = P at hpw hP1 hP2
          have hPw : IntKind.u8.wrap (P : Int) = (P : Int) := by
            have : IntKind.u8.wrap (P : Int) = (P : Int) % 256 := rfl
            rw [this]; omega
          have hPn : ((P : Int) == 0) = false := by simp; omega
          replace hpw := hide hpw
          go_wp2_with fail
          refine hpw.out.mono ?_
          rintro e w5 ⟨rfl, rfl⟩
          by_cases hz : c % P = 0
          · have hz' : (c : Int) % (P : Int) = 0 := by have := congrArg (fun x : Nat => (x : Int)) hz; simpa using this
            have HZ : Hid (∀ kk : Nat, kk ≤ 8 → ¬ (kk < 8 ∧ 8 * j + kk < n) → 8 * j + kk ≤ n → c % 2 ^ (8 - kk) = 0) := by
              intro kk h1 h2 h3
              rw [show 8 - kk = 8 - (n - 8 * j) from by omega, hP]; exact hz
            clear hpw
            go_wp2
            clear hz hz'
            have HD3 := hide (HD2.out.step hpl)
            have HV3 := hide (HV2.out.next hQ (grown_set _ Q 1 (.int .i64 ((p + 1 + j + 1 : Nat) : Int))))
            have HB0 : Hid ((ofl bl : Int) = hval (rest.take j)) := by
              have h := HX.out
              rw [show 8 * j - n = 0 from by omega, Int.pow_zero, Int.mul_one] at h
              exact h
            clear HD2 HV2 HX
            try simp only [Int.natCast_add, Int.natCast_one] at HD3 HV3
            go_loopw [4, 9] (fun la k wr => ∃ (kk : Nat) (bk : List Nat), k = .int .i64 (kk : Int) ∧ kk ≤ 8 ∧ 8 * j + kk ≤ n ∧ bk.length = 8 * j + kk ∧ Hid ((ofl bk : Int) = hval (rest.take j) * 2 ^ kk + c / 2 ^ (8 - kk)) ∧ Hid (VL w wr Q sb L rest p n la bk) ∧ Hid (DR wr Q sb L (p + 1 + j + 1) 0)) (fun _ k _ => (8 - intOf k).toNat)
            case atStart => exact ⟨0, bl, rfl, by omega, by omega, by omega, hide (by rw [HB0.out, show (2 : Int) ^ (8 - 0) = 256 from by decide, Int.ediv_eq_zero_of_lt (by omega) (by omega)]; simp), HV3, HD3⟩
            case round =>
              clear HD3 HV3 r1 r2 r3 r4
              obtain ⟨kk, bk, rfl, hk8, hkn, hbk, HK, HV4, HD4⟩ := hrel
              by_cases hk : kk < 8 ∧ 8 * j + kk < n
              · have hk1 : (kk : Int) < 8 := by omega
                have hk2 : (kk : Int) < (n : Int) - 8 * (j : Int) := by omega
                have hpw := power_any (7 - kk) (by omega) wr
                have hP1 : 1 ≤ 2 ^ (7 - kk) := Nat.one_le_two_pow
                have hP2 : 2 ^ (7 - kk) ≤ 2 ^ 7 := Nat.pow_le_pow_right (by omega) (by omega)
                rw [show ((7 - kk : Nat) : Int) = 7 - (kk : Int) from by omega] at hpw
                generalize hP : 2 ^ (7 - kk) = P at hpw hP1 hP2
                have hPw : IntKind.u8.wrap (P : Int) = (P : Int) := by
                  have : IntKind.u8.wrap (P : Int) = (P : Int) % 256 := rfl
                  rw [this]; omega
                have hPn : ((P : Int) == 0) = false := by simp; omega
                have hxc : ((c / P % 2 : Nat) : Int) = (c : Int) / (P : Int) % 2 := by rw [Int.natCast_emod, Int.natCast_ediv]; rfl
                replace hpw := hide hpw
                have hsi := HV4.out.si
                go_wp2_with fail
                refine hpw.out.mono ?_
                rintro e w5 ⟨rfl, rfl⟩
                clear hpw
                go_wp2_with (at_builtin; refine append_bit rfl (.tmp 60) (.tmp 69) rfl (w.heap.size + 1) _ bk rfl (HV4.out.own.alloc _) w5.heap.size (c / P % 2) rfl (by rw [hxc]; exact IsB.new w5 _ _) (by omega) (by rw [World.size_alloc]; omega) ?_; intro g6 c6 w6 hown6 hgrow6)
                have HV6 := hide (HV4.out.add hgrow6 (by omega) hown6)
                have HD6 := hide (HV4.out.dr hQ hsb hgrow6 HD4.out)
                have HK6 := hide (vec_bit _ bk c kk hk.1 HK.out)
                rw [hP] at HK6
                clear hown6 hgrow6 HV4 HD4 HK
                go_wp2
                refine ⟨⟨kk + 1, bk ++ [c / P % 2], by simp, by omega, by omega, by rw [List.length_append, List.length_singleton]; omega, HK6, by rw [← hbk]; exact HV6, HD6⟩, ?_⟩
                simp [intOf]; omega
              · have hFX : (ofl bk : Int) * 2 ^ (8 * (j + 1) - n) = hval (rest.take (j + 1)) := by
                  rw [show 8 * (j + 1) - n = 8 - kk from by omega, HT.out]
                  exact vec_fin _ _ c kk hk8 HK.out (HZ.out kk hk8 hk hkn)
                have HFX := hide hFX
                clear hFX
                by_cases hk1 : kk < 8
                · have hk1' : (kk : Int) < 8 := by omega
                  have hk2 : ¬ ((kk : Int) < (n : Int) - 8 * (j : Int)) := by omega
                  go_wp2
                  refine ⟨⟨j + 1, bk, by congr 1, by omega, by omega, by omega, HFX, HV4, HD4⟩, ?_⟩
                  simp [intOf]; omega
                · have hk1' : ¬ ((kk : Int) < 8) := by omega
                  go_wp2
                  refine ⟨⟨j + 1, bk, by congr 1, by omega, by omega, by omega, HFX, HV4, HD4⟩, ?_⟩
                  simp [intOf]; omega
          · have hz' : ¬ ((c : Int) % (P : Int) = 0) := by intro h; apply hz; have : ((c % P : Nat) : Int) = 0 := by simpa using h
                                                           omega
            have hv : vrest n rest = .bad (j + 1) 31 := by
              unfold vrest phigh
              rw [show (n + 7) / 8 = j + 1 from by omega, if_pos (by omega), HT.out]
              simp only []
              rw [show spare n = 8 - (n - 8 * j) from by unfold spare; omega, if_neg (vec_bad _ c _ (by omega) (by rw [hP]; exact hz))]
            have HA3 := hide (HV2.out.next hQ (grown_set _ Q 2 (.int .i64 31))).at_
            have HG3 := hide (HV2.out.next hQ (grown_set _ Q 2 (.int .i64 31))).gr
            have HD3 := hide (HD2.out.setE 31)
            have f0 := HA3.out.free 0
            have f1 := HA3.out.free 1
            have a0 : (w5.setCell ⟨Q, 2, none⟩ (.int .i64 31)).cell? ⟨w.heap.size, 0, none⟩ = some (.int .i64 0) := HA3.out.cell 0
            have a1 : (w5.setCell ⟨Q, 2, none⟩ (.int .i64 31)).cell? ⟨w.heap.size, 1, none⟩ = some (.int .u64 0) := HA3.out.cell 1
            clear hpw HV2 HD2 HX
            go_wp2
            rw [hv]
            refine bodyPost_ret (rvec_results _ w.heap.size _ (IsB.set1of2 (HA3.out.set0of2 (.int .i64 0)) (.int .u64 0)) rfl _ rfl) rfl ⟨⟨⟨0, 0, rfl⟩, ?_, by omega⟩, grown_new (grown_new HG3.out (a := ⟨w.heap.size, 0, none⟩) (by simp) _) (a := ⟨w.heap.size, 1, none⟩) (by simp) _⟩
            rw [show p + (j + 1) = p + 1 + j from by omega]
            exact (HD3.out.set (a := ⟨w.heap.size, 0, none⟩) (by simp only []; omega) (by simp only []; omega) (.int .i64 0)).set (a := ⟨w.heap.size, 1, none⟩) (by simp only []; omega) (by simp only []; omega) (.int .u64 0)
      · have hjl : p + 1 + j = L.length := by
          have h1 := congrArg List.length HRS.out
          rw [List.length_drop] at h1
          omega
        rw [hjl] at HD
        have hne := hide (rnext_end Q sb L wr HD.out)
        have hv : vrest n rest = .bad (j + 1) 32 := by
          unfold vrest phigh
          rw [if_neg (by omega), show j = rest.length from by omega]
        clear HX HD
        go_wp2_with fail
        go_at_call 72
        refine hne.out.mono ?_
        rintro e w2 ⟨rfl, hd2, hg2⟩
        have HD2 := hide hd2
        have HA2 := hide (HV.out.at_.grown hg2 (by simp; omega))
        have HG2 := hide (grown_trans HV.out.gr hg2)
        have f0 := HA2.out.free 0
        have f1 := HA2.out.free 1
        have a0 : w2.cell? ⟨w.heap.size, 0, none⟩ = some (.int .i64 0) := HA2.out.cell 0
        have a1 : w2.cell? ⟨w.heap.size, 1, none⟩ = some (.int .u64 0) := HA2.out.cell 1
        clear hd2 hg2 hne HV
        go_wp2
        rw [hv]
        refine bodyPost_ret (rvec_results _ w.heap.size _ (IsB.set1of2 (HA2.out.set0of2 (.int .i64 0)) (.int .u64 0)) rfl _ rfl) rfl ⟨⟨⟨0, 0, rfl⟩, ?_, by omega⟩, grown_new (grown_new HG2.out (a := ⟨w.heap.size, 0, none⟩) (by simp) _) (a := ⟨w.heap.size, 1, none⟩) (by simp) _⟩
        rw [show p + (j + 1) = L.length from by omega]
        exact (HD2.out.set (a := ⟨w.heap.size, 0, none⟩) (by simp only []; omega) (by simp only []; omega) (.int .i64 0)).set (a := ⟨w.heap.size, 1, none⟩) (by simp only []; omega) (by simp only []; omega) (.int .u64 0)
    · have hjm : (n + 7) / 8 = j := by omega
      have hbn : bl.length = n := by omega
      have hv : vrest n rest = .ok ((n : Int), (ofl bl : Int)) (j + 1) := by
        have hsp : spare n = 8 * j - n := by unfold spare; rw [hjm]
        have hp : (2 : Int) ^ (8 * j - n) ≠ 0 := Int.ne_of_gt (Int.pow_pos (by omega))
        unfold vrest phigh
        rw [hjm, if_pos hjr, hsp, ← HX.out]
        simp only []
        rw [if_pos (Int.mul_emod_left _ _), Int.mul_ediv_cancel _ hp]
      obtain ⟨g, cp, rfl, hg1, hg2⟩ := HV.out.own.form (by omega)
      have hof := hide (of_any g 0 n cp bl wr hbn (by omega) HV.out.one hg2 (fun i hi => by
        have h1 := HV.out.own.cellAt i (by omega)
        rw [Nat.zero_add, h1]
        simp [i64s, hi]))
      rw [hbn]
      go_wp2_with fail
      go_at_call 74
      refine hof.out.mono ?_
      rintro e w2 ⟨rfl, hg2⟩
      have HA2 := hide (HV.out.at_.gr hg2)
      have HD2 := hide (HD.out.gr hg2)
      have HG2 := hide (grown_trans HV.out.gr (grown_of_gr hg2 _))
      have f0 := HA2.out.free 0
      have f1 := HA2.out.free 1
      have a0 : w2.cell? ⟨w.heap.size, 0, none⟩ = some (.int .i64 0) := HA2.out.cell 0
      have a1 : w2.cell? ⟨w.heap.size, 1, none⟩ = some (.int .u64 0) := HA2.out.cell 1
      clear hg2 hof
      go_wp2
      rw [hv]
      refine bodyPost_ret (rvec_results _ w.heap.size _ (IsB.set1of2 (HA2.out.set0of2 (.int .i64 (n : Int))) (.int .u64 ((ofl bl : Nat) : Int))) rfl _ rfl) rfl ⟨⟨rfl, ?_⟩, grown_new (grown_new HG2.out (a := ⟨w.heap.size, 0, none⟩) (by simp) _) (a := ⟨w.heap.size, 1, none⟩) (by simp) _⟩
      rw [show p + (j + 1) = p + 1 + j from by omega]
      exact (HD2.out.set (a := ⟨w.heap.size, 0, none⟩) (by simp only []; omega) (by simp only []; omega) (.int .i64 (n : Int))).set (a := ⟨w.heap.size, 1, none⟩) (by simp only []; omega) (by simp only []; omega) (.int .u64 ((ofl bl : Nat) : Int))

end Go.Proofs.YtmhcmlegdoapdaaDoor

/- The document's reader: vectors, whole. -/
namespace Go.Proofs.YtmhcmlegdoapdaaDoor
open Go.RowKit

theorem pvec_rest (n : Nat) (hn : n ≤ 32) (l : List Int) : pvec ((n : Int) :: l) = vrest n l := by
  unfold pvec
  simp only []
  rw [if_pos (by omega), Int.toNat_natCast]
  unfold vrest
  rfl
theorem vrest_zero (l : List Int) : vrest 0 l = .ok (0, 0) 1 := by
  unfold vrest phigh
  rw [if_pos (by omega)]
  simp [hval, spare]

/-- The document's vector, of any bytes. -/
theorem rvec_any (Q sb : Nat) (L : List Int) (p : Nat) (w : World) (h : DR w Q sb L p 0) (hsb : sb < w.heap.size) :
    Calls Tryd.prog 60 #[.pointer (some ⟨Q, 0, none⟩)] w fun e w' => DPair w Q sb L p (pvec (L.drop p)) e w' := by
  have hbd := h.bd
  have hQ := h.lt
  have hby := fun (W : World) (hg : Gr w W) => rbyte_any Q sb L p 0 32 W (h.gr hg)
  rcases hd : L.drop p with _ | ⟨c, rest⟩
  · rw [hd] at hby
    have hb0 : pbyte 0 32 ([] : List Int) = .bad 0 32 := rfl
    rw [hb0] at hby
    refine (rvec_zero Q sb L p 32 w hQ hsb (fun W hg => (hby W hg).mono ?_)).mono ?_
    · rintro r w' ⟨⟨rfl, hd', _⟩, hg'⟩
      exact ⟨rfl, hd', hg'⟩
    · rintro e w' ⟨rfl, hd', hg'⟩
      exact ⟨⟨⟨0, 0, rfl⟩, hd', by omega⟩, hg'⟩
  · have hcb := hbd c (List.mem_of_mem_drop (by rw [hd]; exact List.mem_cons_self))
    have hr1 : L.drop (p + 1) = rest := by
      have : L.drop (p + 1) = (L.drop p).drop 1 := by rw [List.drop_drop]
      rw [this, hd]; rfl
    rw [hd] at hby
    obtain ⟨n, rfl⟩ := Int.eq_ofNat_of_zero_le hcb.1
    by_cases hc : n ≤ 32
    · have hb0 : pbyte 0 32 ((n : Int) :: rest) = .ok (n : Int) 1 := if_pos ⟨by omega, by omega⟩
      rw [hb0] at hby
      rw [pvec_rest n hc]
      by_cases h0 : n = 0
      · subst h0
        rw [vrest_zero]
        refine (rvec_zero Q sb L (p + 1) 0 w hQ hsb (fun W hg => (hby W hg).mono ?_)).mono ?_
        · rintro r w' ⟨⟨rfl, hd'⟩, hg'⟩
          exact ⟨rfl, hd', hg'⟩
        · rintro e w' ⟨rfl, hd', hg'⟩
          exact ⟨⟨rfl, hd'⟩, hg'⟩
      · refine rvec_some Q sb L rest p n (by omega) hc hr1 w hQ hsb hbd (fun W hg => (hby W hg).mono ?_)
        rintro r w' ⟨⟨rfl, hd'⟩, hg'⟩
        exact ⟨rfl, hd', hg'⟩
    · have hb0 : pbyte 0 32 ((n : Int) :: rest) = .bad 0 31 := if_neg (by omega)
      rw [hb0] at hby
      have hpk : pvec ((n : Int) :: rest) = .bad 0 31 := if_neg (by omega)
      rw [hpk]
      refine (rvec_zero Q sb L p 31 w hQ hsb (fun W hg => (hby W hg).mono ?_)).mono ?_
      · rintro r w' ⟨⟨rfl, hd', _⟩, hg'⟩
        exact ⟨rfl, hd', hg'⟩
      · rintro e w' ⟨rfl, hd', hg'⟩
        exact ⟨⟨⟨0, 0, rfl⟩, hd', by omega⟩, hg'⟩
/-- The document's vector behind a fault. -/
theorem rvec_bad (Q sb : Nat) (L : List Int) (p : Nat) (er : Int) (he : er ≠ 0) (w : World) (h : DR w Q sb L p er) (hsb : sb < w.heap.size) :
    Calls Tryd.prog 60 #[.pointer (some ⟨Q, 0, none⟩)] w fun e w' => e = .returned ((.agg #[.int .i64 (0), .int .u64 (0)])) ∧ DR w' Q sb L p er ∧ w.grownBy w' (some Q) := by
  refine rvec_zero Q sb L p er w h.lt hsb (fun W hg => (rbyte_bad Q sb L p er he 0 32 W (h.gr hg)).mono ?_)
  rintro r w' ⟨rfl, rfl⟩
  exact ⟨rfl, h.gr hg, ⟨rfl, rfl, rfl, Nat.le_refl _, fun _ _ _ => rfl⟩⟩

end Go.Proofs.YtmhcmlegdoapdaaDoor

/- The document's reader: fields of a number, an int, a truth, a vector, a key. -/
namespace Go.Proofs.YtmhcmlegdoapdaaDoor
open Go.RowKit

theorem putCells_dr {b : Nat} {Q sb : Nat} {L : List Int} {p : Nat} {e : Int} (hq : Q ≠ b) (hs : sb ≠ b) (vs : List Value) : ∀ (w : World) (j : Nat), DR w Q sb L p e → DR (putCells w b j vs) Q sb L p e := by
  induction vs with
  | nil => intro w j h; exact h
  | cons v vs ih => intro w j h; exact ih _ (j + 1) (h.set (a := ⟨b, j, none⟩) hq hs v)
theorem rfield_results (W : World) (g : Nat) (cs : Array Value) (h : IsB W g cs 34) (hs : cs.size = 14) (T : Array Value) (hp : T.getD 4 undef = .pointer (some ⟨g, 0, none⟩)) : (results Tryd.f37 T).run Tryd.prog W = .ok (.agg cs) W :=
  results_cell_row rfl T W g 34 cs (0, 0) _ hp h Tryd.underlying34 rfl (by rw [hs]; exact field_info)

set_option maxHeartbeats 4000000 in
set_option maxRecDepth 100000 in
theorem rfield_num (Q sb : Nat) (L : List Int) (x : Int) (q : Nat) (er : Int) (w : World) (hQ : Q < w.heap.size) (hsb : sb < w.heap.size)
    (hb : ∀ W, Gr w W → Calls Tryd.prog 57 #[.pointer (some ⟨Q, 0, none⟩), .int .u64 18446744073709551615] W fun r w' => r = .returned (.int .u64 x) ∧ DR w' Q sb L q er ∧ W.grownBy w' (some Q)) :
    Calls Tryd.prog 37 #[.pointer (some ⟨Q, 0, none⟩), .int .i64 1] w fun e w' => e = .returned (.agg #[.int .i64 1, .int .u64 x, .int .i64 0, .bool false, .slice none 0 0, .int .i64 0, .int .u64 0, .int .i64 0, .int .u64 0, .int .i64 0, .int .i64 0, .int .u64 0, .int .i64 0, .int .u64 0]) ∧ DR w' Q sb L q er ∧ w.grownBy w' (some Q) := by
  have I0 := (IsB.new w #[.int .i64 0, .int .u64 0, .int .i64 0, .bool false, .slice none 0 0, .int .i64 0, .int .u64 0, .int .i64 0, .int .u64 0, .int .i64 0, .int .i64 0, .int .u64 0, .int .i64 0, .int .u64 0] 34).alloc (.cells #[.int .i64 1, .int .u64 0, .int .i64 0, .bool false, .slice none 0 0, .int .i64 0, .int .u64 0, .int .i64 0, .int .u64 0, .int .i64 0, .int .i64 0, .int .u64 0, .int .i64 0, .int .u64 0] 34)
  have I1 := IsB.new (w.alloc (.cells #[.int .i64 0, .int .u64 0, .int .i64 0, .bool false, .slice none 0 0, .int .i64 0, .int .u64 0, .int .i64 0, .int .u64 0, .int .i64 0, .int .i64 0, .int .u64 0, .int .i64 0, .int .u64 0] 34)) #[.int .i64 1, .int .u64 0, .int .i64 0, .bool false, .slice none 0 0, .int .i64 0, .int .u64 0, .int .i64 0, .int .u64 0, .int .i64 0, .int .i64 0, .int .u64 0, .int .i64 0, .int .u64 0] 34
  rw [World.size_alloc] at I1
  have HG := hide (show Gr w ((w.alloc (.cells #[.int .i64 0, .int .u64 0, .int .i64 0, .bool false, .slice none 0 0, .int .i64 0, .int .u64 0, .int .i64 0, .int .u64 0, .int .i64 0, .int .i64 0, .int .u64 0, .int .i64 0, .int .u64 0] 34)).alloc (.cells #[.int .i64 1, .int .u64 0, .int .i64 0, .bool false, .slice none 0 0, .int .i64 0, .int .u64 0, .int .i64 0, .int .u64 0, .int .i64 0, .int .i64 0, .int .u64 0, .int .i64 0, .int .u64 0] 34)) from ((Gr.refl w).alloc _).alloc _)
  have hrow := hide (hb _ HG.out)
  have hl01 := I1.lt
  replace I0 := hide I0
  replace I1 := hide I1
  clear hb
  go_enter Tryd.func37, Tryd.ntmps37
  go_wp2_with fail
  generalize (w.alloc (.cells #[.int .i64 0, .int .u64 0, .int .i64 0, .bool false, .slice none 0 0, .int .i64 0, .int .u64 0, .int .i64 0, .int .u64 0, .int .i64 0, .int .i64 0, .int .u64 0, .int .i64 0, .int .u64 0] 34)).alloc (.cells #[.int .i64 1, .int .u64 0, .int .i64 0, .bool false, .slice none 0 0, .int .i64 0, .int .u64 0, .int .i64 0, .int .u64 0, .int .i64 0, .int .i64 0, .int .u64 0, .int .i64 0, .int .u64 0] 34) = W0 at I0 I1 HG hrow hl01 ⊢
  refine hrow.out.mono ?_
  rintro e w1 ⟨rfl, hrd, hgr⟩
  replace I0 := hide (I0.out.grown hgr (by intro h; simp only [Option.some.injEq] at h; omega))
  replace I1 := hide (I1.out.grown hgr (by intro h; simp only [Option.some.injEq] at h; omega))
  have HRD := hide hrd
  have HGR := hide (grown_trans (grown_of_gr HG.out _) hgr)
  have hlW := I0.out.lt
  have hlW0 : w.heap.size + 1 < W0.heap.size := hl01
  clear hrow hrd hgr
  have a0 : w1.cell? ⟨w.heap.size, 0, none⟩ = some (.int .i64 0) := I0.out.cell 0
  have a1 : w1.cell? ⟨w.heap.size, 1, none⟩ = some (.int .u64 0) := I0.out.cell 1
  have a2 : w1.cell? ⟨w.heap.size, 2, none⟩ = some (.int .i64 0) := I0.out.cell 2
  have a3 : w1.cell? ⟨w.heap.size, 3, none⟩ = some (.bool false) := I0.out.cell 3
  have a4 : w1.cell? ⟨w.heap.size, 4, none⟩ = some (.slice none 0 0) := I0.out.cell 4
  have a5 : w1.cell? ⟨w.heap.size, 5, none⟩ = some (.int .i64 0) := I0.out.cell 5
  have a6 : w1.cell? ⟨w.heap.size, 6, none⟩ = some (.int .u64 0) := I0.out.cell 6
  have a7 : w1.cell? ⟨w.heap.size, 7, none⟩ = some (.int .i64 0) := I0.out.cell 7
  have a8 : w1.cell? ⟨w.heap.size, 8, none⟩ = some (.int .u64 0) := I0.out.cell 8
  have a9 : w1.cell? ⟨w.heap.size, 9, none⟩ = some (.int .i64 0) := I0.out.cell 9
  have a10 : w1.cell? ⟨w.heap.size, 10, none⟩ = some (.int .i64 0) := I0.out.cell 10
  have a11 : w1.cell? ⟨w.heap.size, 11, none⟩ = some (.int .u64 0) := I0.out.cell 11
  have a12 : w1.cell? ⟨w.heap.size, 12, none⟩ = some (.int .i64 0) := I0.out.cell 12
  have a13 : w1.cell? ⟨w.heap.size, 13, none⟩ = some (.int .u64 0) := I0.out.cell 13
  have b0 : w1.cell? ⟨w.heap.size + 1, 0, none⟩ = some (.int .i64 1) := I1.out.cell 0
  have b1 : w1.cell? ⟨w.heap.size + 1, 1, none⟩ = some (.int .u64 0) := I1.out.cell 1
  have b2 : w1.cell? ⟨w.heap.size + 1, 2, none⟩ = some (.int .i64 0) := I1.out.cell 2
  have b3 : w1.cell? ⟨w.heap.size + 1, 3, none⟩ = some (.bool false) := I1.out.cell 3
  have b4 : w1.cell? ⟨w.heap.size + 1, 4, none⟩ = some (.slice none 0 0) := I1.out.cell 4
  have b5 : w1.cell? ⟨w.heap.size + 1, 5, none⟩ = some (.int .i64 0) := I1.out.cell 5
  have b6 : w1.cell? ⟨w.heap.size + 1, 6, none⟩ = some (.int .u64 0) := I1.out.cell 6
  have b7 : w1.cell? ⟨w.heap.size + 1, 7, none⟩ = some (.int .i64 0) := I1.out.cell 7
  have b8 : w1.cell? ⟨w.heap.size + 1, 8, none⟩ = some (.int .u64 0) := I1.out.cell 8
  have b9 : w1.cell? ⟨w.heap.size + 1, 9, none⟩ = some (.int .i64 0) := I1.out.cell 9
  have b10 : w1.cell? ⟨w.heap.size + 1, 10, none⟩ = some (.int .i64 0) := I1.out.cell 10
  have b11 : w1.cell? ⟨w.heap.size + 1, 11, none⟩ = some (.int .u64 0) := I1.out.cell 11
  have b12 : w1.cell? ⟨w.heap.size + 1, 12, none⟩ = some (.int .i64 0) := I1.out.cell 12
  have b13 : w1.cell? ⟨w.heap.size + 1, 13, none⟩ = some (.int .u64 0) := I1.out.cell 13
  have f0 := I0.out.free 0
  have f1 := I0.out.free 1
  have f2 := I0.out.free 2
  have f3 := I0.out.free 3
  have f4 := I0.out.free 4
  have f5 := I0.out.free 5
  have f6 := I0.out.free 6
  have f7 := I0.out.free 7
  have f8 := I0.out.free 8
  have f9 := I0.out.free 9
  have f10 := I0.out.free 10
  have f11 := I0.out.free 11
  have f12 := I0.out.free 12
  have f13 := I0.out.free 13
  have q1 := I1.out.free 1
  go_wp2
  have hW : (((((((((((((((w1.setCell ⟨w.heap.size + 1, 1, none⟩ (.int .u64 x)).setCell ⟨w.heap.size, 0, none⟩ (.int .i64 1)).setCell ⟨w.heap.size, 1, none⟩ (.int .u64 x)).setCell ⟨w.heap.size, 2, none⟩ (.int .i64 0)).setCell ⟨w.heap.size, 3, none⟩ (.bool false)).setCell ⟨w.heap.size, 4, none⟩ (.slice none 0 0)).setCell ⟨w.heap.size, 5, none⟩ (.int .i64 0)).setCell ⟨w.heap.size, 6, none⟩ (.int .u64 0)).setCell ⟨w.heap.size, 7, none⟩ (.int .i64 0)).setCell ⟨w.heap.size, 8, none⟩ (.int .u64 0)).setCell ⟨w.heap.size, 9, none⟩ (.int .i64 0)).setCell ⟨w.heap.size, 10, none⟩ (.int .i64 0)).setCell ⟨w.heap.size, 11, none⟩ (.int .u64 0)).setCell ⟨w.heap.size, 12, none⟩ (.int .i64 0)).setCell ⟨w.heap.size, 13, none⟩ (.int .u64 0)) = putCells (w1.setCell ⟨w.heap.size + 1, 1, none⟩ (.int .u64 x)) w.heap.size 0 [.int .i64 1, .int .u64 x, .int .i64 0, .bool false, .slice none 0 0, .int .i64 0, .int .u64 0, .int .i64 0, .int .u64 0, .int .i64 0, .int .i64 0, .int .u64 0, .int .i64 0, .int .u64 0] := rfl
  rw [hW]
  clear hW
  have hfin := putCells_is (cs := [.int .i64 0, .int .u64 0, .int .i64 0, .bool false, .slice none 0 0, .int .i64 0, .int .u64 0, .int .i64 0, .int .u64 0, .int .i64 0, .int .i64 0, .int .u64 0, .int .i64 0, .int .u64 0]) ((IsB.setOther (I0.out) (a := ⟨w.heap.size + 1, 1, none⟩) (by simp) (.int .u64 x))) [.int .i64 1, .int .u64 x, .int .i64 0, .bool false, .slice none 0 0, .int .i64 0, .int .u64 0, .int .i64 0, .int .u64 0, .int .i64 0, .int .i64 0, .int .u64 0, .int .i64 0, .int .u64 0] rfl
  have hrd := putCells_dr (b := w.heap.size) (show Q ≠ w.heap.size by omega) (show sb ≠ w.heap.size by omega) [.int .i64 1, .int .u64 x, .int .i64 0, .bool false, .slice none 0 0, .int .i64 0, .int .u64 0, .int .i64 0, .int .u64 0, .int .i64 0, .int .i64 0, .int .u64 0, .int .i64 0, .int .u64 0] _ 0 (DR.set (HRD.out) (a := ⟨w.heap.size + 1, 1, none⟩) (by simp only []; omega) (by simp only []; omega) (.int .u64 x))
  have hgr := putCells_grown (b := w.heap.size) (Nat.le_refl _) [.int .i64 1, .int .u64 x, .int .i64 0, .bool false, .slice none 0 0, .int .i64 0, .int .u64 0, .int .i64 0, .int .u64 0, .int .i64 0, .int .i64 0, .int .u64 0, .int .i64 0, .int .u64 0] _ 0 (grown_new (HGR.out) (a := ⟨w.heap.size + 1, 1, none⟩) (by simp) (.int .u64 x))
  generalize putCells (w1.setCell ⟨w.heap.size + 1, 1, none⟩ (.int .u64 x)) w.heap.size 0 [.int .i64 1, .int .u64 x, .int .i64 0, .bool false, .slice none 0 0, .int .i64 0, .int .u64 0, .int .i64 0, .int .u64 0, .int .i64 0, .int .i64 0, .int .u64 0, .int .i64 0, .int .u64 0] = W at hfin hrd hgr ⊢
  refine bodyPost_ret (rfield_results W _ _ hfin rfl _ rfl) rfl ?_
  exact ⟨rfl, hrd, hgr⟩

set_option maxHeartbeats 4000000 in
set_option maxRecDepth 100000 in
theorem rfield_int (Q sb : Nat) (L : List Int) (x : Int) (q : Nat) (er : Int) (w : World) (hQ : Q < w.heap.size) (hsb : sb < w.heap.size)
    (hb : ∀ W, Gr w W → Calls Tryd.prog 58 #[.pointer (some ⟨Q, 0, none⟩)] W fun r w' => r = .returned (.int .i64 x) ∧ DR w' Q sb L q er ∧ W.grownBy w' (some Q)) :
    Calls Tryd.prog 37 #[.pointer (some ⟨Q, 0, none⟩), .int .i64 2] w fun e w' => e = .returned (.agg #[.int .i64 2, .int .u64 0, .int .i64 x, .bool false, .slice none 0 0, .int .i64 0, .int .u64 0, .int .i64 0, .int .u64 0, .int .i64 0, .int .i64 0, .int .u64 0, .int .i64 0, .int .u64 0]) ∧ DR w' Q sb L q er ∧ w.grownBy w' (some Q) := by
  have I0 := (IsB.new w #[.int .i64 0, .int .u64 0, .int .i64 0, .bool false, .slice none 0 0, .int .i64 0, .int .u64 0, .int .i64 0, .int .u64 0, .int .i64 0, .int .i64 0, .int .u64 0, .int .i64 0, .int .u64 0] 34).alloc (.cells #[.int .i64 2, .int .u64 0, .int .i64 0, .bool false, .slice none 0 0, .int .i64 0, .int .u64 0, .int .i64 0, .int .u64 0, .int .i64 0, .int .i64 0, .int .u64 0, .int .i64 0, .int .u64 0] 34)
  have I1 := IsB.new (w.alloc (.cells #[.int .i64 0, .int .u64 0, .int .i64 0, .bool false, .slice none 0 0, .int .i64 0, .int .u64 0, .int .i64 0, .int .u64 0, .int .i64 0, .int .i64 0, .int .u64 0, .int .i64 0, .int .u64 0] 34)) #[.int .i64 2, .int .u64 0, .int .i64 0, .bool false, .slice none 0 0, .int .i64 0, .int .u64 0, .int .i64 0, .int .u64 0, .int .i64 0, .int .i64 0, .int .u64 0, .int .i64 0, .int .u64 0] 34
  rw [World.size_alloc] at I1
  have HG := hide (show Gr w ((w.alloc (.cells #[.int .i64 0, .int .u64 0, .int .i64 0, .bool false, .slice none 0 0, .int .i64 0, .int .u64 0, .int .i64 0, .int .u64 0, .int .i64 0, .int .i64 0, .int .u64 0, .int .i64 0, .int .u64 0] 34)).alloc (.cells #[.int .i64 2, .int .u64 0, .int .i64 0, .bool false, .slice none 0 0, .int .i64 0, .int .u64 0, .int .i64 0, .int .u64 0, .int .i64 0, .int .i64 0, .int .u64 0, .int .i64 0, .int .u64 0] 34)) from ((Gr.refl w).alloc _).alloc _)
  have hrow := hide (hb _ HG.out)
  have hl01 := I1.lt
  replace I0 := hide I0
  replace I1 := hide I1
  clear hb
  go_enter Tryd.func37, Tryd.ntmps37
  go_wp2_with fail
  generalize (w.alloc (.cells #[.int .i64 0, .int .u64 0, .int .i64 0, .bool false, .slice none 0 0, .int .i64 0, .int .u64 0, .int .i64 0, .int .u64 0, .int .i64 0, .int .i64 0, .int .u64 0, .int .i64 0, .int .u64 0] 34)).alloc (.cells #[.int .i64 2, .int .u64 0, .int .i64 0, .bool false, .slice none 0 0, .int .i64 0, .int .u64 0, .int .i64 0, .int .u64 0, .int .i64 0, .int .i64 0, .int .u64 0, .int .i64 0, .int .u64 0] 34) = W0 at I0 I1 HG hrow hl01 ⊢
  refine hrow.out.mono ?_
  rintro e w1 ⟨rfl, hrd, hgr⟩
  replace I0 := hide (I0.out.grown hgr (by intro h; simp only [Option.some.injEq] at h; omega))
  replace I1 := hide (I1.out.grown hgr (by intro h; simp only [Option.some.injEq] at h; omega))
  have HRD := hide hrd
  have HGR := hide (grown_trans (grown_of_gr HG.out _) hgr)
  have hlW := I0.out.lt
  have hlW0 : w.heap.size + 1 < W0.heap.size := hl01
  clear hrow hrd hgr
  have a0 : w1.cell? ⟨w.heap.size, 0, none⟩ = some (.int .i64 0) := I0.out.cell 0
  have a1 : w1.cell? ⟨w.heap.size, 1, none⟩ = some (.int .u64 0) := I0.out.cell 1
  have a2 : w1.cell? ⟨w.heap.size, 2, none⟩ = some (.int .i64 0) := I0.out.cell 2
  have a3 : w1.cell? ⟨w.heap.size, 3, none⟩ = some (.bool false) := I0.out.cell 3
  have a4 : w1.cell? ⟨w.heap.size, 4, none⟩ = some (.slice none 0 0) := I0.out.cell 4
  have a5 : w1.cell? ⟨w.heap.size, 5, none⟩ = some (.int .i64 0) := I0.out.cell 5
  have a6 : w1.cell? ⟨w.heap.size, 6, none⟩ = some (.int .u64 0) := I0.out.cell 6
  have a7 : w1.cell? ⟨w.heap.size, 7, none⟩ = some (.int .i64 0) := I0.out.cell 7
  have a8 : w1.cell? ⟨w.heap.size, 8, none⟩ = some (.int .u64 0) := I0.out.cell 8
  have a9 : w1.cell? ⟨w.heap.size, 9, none⟩ = some (.int .i64 0) := I0.out.cell 9
  have a10 : w1.cell? ⟨w.heap.size, 10, none⟩ = some (.int .i64 0) := I0.out.cell 10
  have a11 : w1.cell? ⟨w.heap.size, 11, none⟩ = some (.int .u64 0) := I0.out.cell 11
  have a12 : w1.cell? ⟨w.heap.size, 12, none⟩ = some (.int .i64 0) := I0.out.cell 12
  have a13 : w1.cell? ⟨w.heap.size, 13, none⟩ = some (.int .u64 0) := I0.out.cell 13
  have b0 : w1.cell? ⟨w.heap.size + 1, 0, none⟩ = some (.int .i64 2) := I1.out.cell 0
  have b1 : w1.cell? ⟨w.heap.size + 1, 1, none⟩ = some (.int .u64 0) := I1.out.cell 1
  have b2 : w1.cell? ⟨w.heap.size + 1, 2, none⟩ = some (.int .i64 0) := I1.out.cell 2
  have b3 : w1.cell? ⟨w.heap.size + 1, 3, none⟩ = some (.bool false) := I1.out.cell 3
  have b4 : w1.cell? ⟨w.heap.size + 1, 4, none⟩ = some (.slice none 0 0) := I1.out.cell 4
  have b5 : w1.cell? ⟨w.heap.size + 1, 5, none⟩ = some (.int .i64 0) := I1.out.cell 5
  have b6 : w1.cell? ⟨w.heap.size + 1, 6, none⟩ = some (.int .u64 0) := I1.out.cell 6
  have b7 : w1.cell? ⟨w.heap.size + 1, 7, none⟩ = some (.int .i64 0) := I1.out.cell 7
  have b8 : w1.cell? ⟨w.heap.size + 1, 8, none⟩ = some (.int .u64 0) := I1.out.cell 8
  have b9 : w1.cell? ⟨w.heap.size + 1, 9, none⟩ = some (.int .i64 0) := I1.out.cell 9
  have b10 : w1.cell? ⟨w.heap.size + 1, 10, none⟩ = some (.int .i64 0) := I1.out.cell 10
  have b11 : w1.cell? ⟨w.heap.size + 1, 11, none⟩ = some (.int .u64 0) := I1.out.cell 11
  have b12 : w1.cell? ⟨w.heap.size + 1, 12, none⟩ = some (.int .i64 0) := I1.out.cell 12
  have b13 : w1.cell? ⟨w.heap.size + 1, 13, none⟩ = some (.int .u64 0) := I1.out.cell 13
  have f0 := I0.out.free 0
  have f1 := I0.out.free 1
  have f2 := I0.out.free 2
  have f3 := I0.out.free 3
  have f4 := I0.out.free 4
  have f5 := I0.out.free 5
  have f6 := I0.out.free 6
  have f7 := I0.out.free 7
  have f8 := I0.out.free 8
  have f9 := I0.out.free 9
  have f10 := I0.out.free 10
  have f11 := I0.out.free 11
  have f12 := I0.out.free 12
  have f13 := I0.out.free 13
  have q2 := I1.out.free 2
  go_wp2
  have hW : (((((((((((((((w1.setCell ⟨w.heap.size + 1, 2, none⟩ (.int .i64 x)).setCell ⟨w.heap.size, 0, none⟩ (.int .i64 2)).setCell ⟨w.heap.size, 1, none⟩ (.int .u64 0)).setCell ⟨w.heap.size, 2, none⟩ (.int .i64 x)).setCell ⟨w.heap.size, 3, none⟩ (.bool false)).setCell ⟨w.heap.size, 4, none⟩ (.slice none 0 0)).setCell ⟨w.heap.size, 5, none⟩ (.int .i64 0)).setCell ⟨w.heap.size, 6, none⟩ (.int .u64 0)).setCell ⟨w.heap.size, 7, none⟩ (.int .i64 0)).setCell ⟨w.heap.size, 8, none⟩ (.int .u64 0)).setCell ⟨w.heap.size, 9, none⟩ (.int .i64 0)).setCell ⟨w.heap.size, 10, none⟩ (.int .i64 0)).setCell ⟨w.heap.size, 11, none⟩ (.int .u64 0)).setCell ⟨w.heap.size, 12, none⟩ (.int .i64 0)).setCell ⟨w.heap.size, 13, none⟩ (.int .u64 0)) = putCells (w1.setCell ⟨w.heap.size + 1, 2, none⟩ (.int .i64 x)) w.heap.size 0 [.int .i64 2, .int .u64 0, .int .i64 x, .bool false, .slice none 0 0, .int .i64 0, .int .u64 0, .int .i64 0, .int .u64 0, .int .i64 0, .int .i64 0, .int .u64 0, .int .i64 0, .int .u64 0] := rfl
  rw [hW]
  clear hW
  have hfin := putCells_is (cs := [.int .i64 0, .int .u64 0, .int .i64 0, .bool false, .slice none 0 0, .int .i64 0, .int .u64 0, .int .i64 0, .int .u64 0, .int .i64 0, .int .i64 0, .int .u64 0, .int .i64 0, .int .u64 0]) ((IsB.setOther (I0.out) (a := ⟨w.heap.size + 1, 2, none⟩) (by simp) (.int .i64 x))) [.int .i64 2, .int .u64 0, .int .i64 x, .bool false, .slice none 0 0, .int .i64 0, .int .u64 0, .int .i64 0, .int .u64 0, .int .i64 0, .int .i64 0, .int .u64 0, .int .i64 0, .int .u64 0] rfl
  have hrd := putCells_dr (b := w.heap.size) (show Q ≠ w.heap.size by omega) (show sb ≠ w.heap.size by omega) [.int .i64 2, .int .u64 0, .int .i64 x, .bool false, .slice none 0 0, .int .i64 0, .int .u64 0, .int .i64 0, .int .u64 0, .int .i64 0, .int .i64 0, .int .u64 0, .int .i64 0, .int .u64 0] _ 0 (DR.set (HRD.out) (a := ⟨w.heap.size + 1, 2, none⟩) (by simp only []; omega) (by simp only []; omega) (.int .i64 x))
  have hgr := putCells_grown (b := w.heap.size) (Nat.le_refl _) [.int .i64 2, .int .u64 0, .int .i64 x, .bool false, .slice none 0 0, .int .i64 0, .int .u64 0, .int .i64 0, .int .u64 0, .int .i64 0, .int .i64 0, .int .u64 0, .int .i64 0, .int .u64 0] _ 0 (grown_new (HGR.out) (a := ⟨w.heap.size + 1, 2, none⟩) (by simp) (.int .i64 x))
  generalize putCells (w1.setCell ⟨w.heap.size + 1, 2, none⟩ (.int .i64 x)) w.heap.size 0 [.int .i64 2, .int .u64 0, .int .i64 x, .bool false, .slice none 0 0, .int .i64 0, .int .u64 0, .int .i64 0, .int .u64 0, .int .i64 0, .int .i64 0, .int .u64 0, .int .i64 0, .int .u64 0] = W at hfin hrd hgr ⊢
  refine bodyPost_ret (rfield_results W _ _ hfin rfl _ rfl) rfl ?_
  exact ⟨rfl, hrd, hgr⟩

set_option maxHeartbeats 4000000 in
set_option maxRecDepth 100000 in
theorem rfield_truth (Q sb : Nat) (L : List Int) (x : Int) (q : Nat) (er : Int) (w : World) (hQ : Q < w.heap.size) (hsb : sb < w.heap.size)
    (hb : ∀ W, Gr w W → Calls Tryd.prog 59 #[.pointer (some ⟨Q, 0, none⟩), .int .u8 0, .int .u8 1] W fun r w' => r = .returned (.int .u8 x) ∧ DR w' Q sb L q er ∧ W.grownBy w' (some Q)) :
    Calls Tryd.prog 37 #[.pointer (some ⟨Q, 0, none⟩), .int .i64 3] w fun e w' => e = .returned (.agg #[.int .i64 3, .int .u64 0, .int .i64 0, .bool (x == 1), .slice none 0 0, .int .i64 0, .int .u64 0, .int .i64 0, .int .u64 0, .int .i64 0, .int .i64 0, .int .u64 0, .int .i64 0, .int .u64 0]) ∧ DR w' Q sb L q er ∧ w.grownBy w' (some Q) := by
  have I0 := (IsB.new w #[.int .i64 0, .int .u64 0, .int .i64 0, .bool false, .slice none 0 0, .int .i64 0, .int .u64 0, .int .i64 0, .int .u64 0, .int .i64 0, .int .i64 0, .int .u64 0, .int .i64 0, .int .u64 0] 34).alloc (.cells #[.int .i64 3, .int .u64 0, .int .i64 0, .bool false, .slice none 0 0, .int .i64 0, .int .u64 0, .int .i64 0, .int .u64 0, .int .i64 0, .int .i64 0, .int .u64 0, .int .i64 0, .int .u64 0] 34)
  have I1 := IsB.new (w.alloc (.cells #[.int .i64 0, .int .u64 0, .int .i64 0, .bool false, .slice none 0 0, .int .i64 0, .int .u64 0, .int .i64 0, .int .u64 0, .int .i64 0, .int .i64 0, .int .u64 0, .int .i64 0, .int .u64 0] 34)) #[.int .i64 3, .int .u64 0, .int .i64 0, .bool false, .slice none 0 0, .int .i64 0, .int .u64 0, .int .i64 0, .int .u64 0, .int .i64 0, .int .i64 0, .int .u64 0, .int .i64 0, .int .u64 0] 34
  rw [World.size_alloc] at I1
  have HG := hide (show Gr w ((w.alloc (.cells #[.int .i64 0, .int .u64 0, .int .i64 0, .bool false, .slice none 0 0, .int .i64 0, .int .u64 0, .int .i64 0, .int .u64 0, .int .i64 0, .int .i64 0, .int .u64 0, .int .i64 0, .int .u64 0] 34)).alloc (.cells #[.int .i64 3, .int .u64 0, .int .i64 0, .bool false, .slice none 0 0, .int .i64 0, .int .u64 0, .int .i64 0, .int .u64 0, .int .i64 0, .int .i64 0, .int .u64 0, .int .i64 0, .int .u64 0] 34)) from ((Gr.refl w).alloc _).alloc _)
  have hrow := hide (hb _ HG.out)
  have hl01 := I1.lt
  replace I0 := hide I0
  replace I1 := hide I1
  clear hb
  go_enter Tryd.func37, Tryd.ntmps37
  go_wp2_with fail
  generalize (w.alloc (.cells #[.int .i64 0, .int .u64 0, .int .i64 0, .bool false, .slice none 0 0, .int .i64 0, .int .u64 0, .int .i64 0, .int .u64 0, .int .i64 0, .int .i64 0, .int .u64 0, .int .i64 0, .int .u64 0] 34)).alloc (.cells #[.int .i64 3, .int .u64 0, .int .i64 0, .bool false, .slice none 0 0, .int .i64 0, .int .u64 0, .int .i64 0, .int .u64 0, .int .i64 0, .int .i64 0, .int .u64 0, .int .i64 0, .int .u64 0] 34) = W0 at I0 I1 HG hrow hl01 ⊢
  refine hrow.out.mono ?_
  rintro e w1 ⟨rfl, hrd, hgr⟩
  replace I0 := hide (I0.out.grown hgr (by intro h; simp only [Option.some.injEq] at h; omega))
  replace I1 := hide (I1.out.grown hgr (by intro h; simp only [Option.some.injEq] at h; omega))
  have HRD := hide hrd
  have HGR := hide (grown_trans (grown_of_gr HG.out _) hgr)
  have hlW := I0.out.lt
  have hlW0 : w.heap.size + 1 < W0.heap.size := hl01
  clear hrow hrd hgr
  have a0 : w1.cell? ⟨w.heap.size, 0, none⟩ = some (.int .i64 0) := I0.out.cell 0
  have a1 : w1.cell? ⟨w.heap.size, 1, none⟩ = some (.int .u64 0) := I0.out.cell 1
  have a2 : w1.cell? ⟨w.heap.size, 2, none⟩ = some (.int .i64 0) := I0.out.cell 2
  have a3 : w1.cell? ⟨w.heap.size, 3, none⟩ = some (.bool false) := I0.out.cell 3
  have a4 : w1.cell? ⟨w.heap.size, 4, none⟩ = some (.slice none 0 0) := I0.out.cell 4
  have a5 : w1.cell? ⟨w.heap.size, 5, none⟩ = some (.int .i64 0) := I0.out.cell 5
  have a6 : w1.cell? ⟨w.heap.size, 6, none⟩ = some (.int .u64 0) := I0.out.cell 6
  have a7 : w1.cell? ⟨w.heap.size, 7, none⟩ = some (.int .i64 0) := I0.out.cell 7
  have a8 : w1.cell? ⟨w.heap.size, 8, none⟩ = some (.int .u64 0) := I0.out.cell 8
  have a9 : w1.cell? ⟨w.heap.size, 9, none⟩ = some (.int .i64 0) := I0.out.cell 9
  have a10 : w1.cell? ⟨w.heap.size, 10, none⟩ = some (.int .i64 0) := I0.out.cell 10
  have a11 : w1.cell? ⟨w.heap.size, 11, none⟩ = some (.int .u64 0) := I0.out.cell 11
  have a12 : w1.cell? ⟨w.heap.size, 12, none⟩ = some (.int .i64 0) := I0.out.cell 12
  have a13 : w1.cell? ⟨w.heap.size, 13, none⟩ = some (.int .u64 0) := I0.out.cell 13
  have b0 : w1.cell? ⟨w.heap.size + 1, 0, none⟩ = some (.int .i64 3) := I1.out.cell 0
  have b1 : w1.cell? ⟨w.heap.size + 1, 1, none⟩ = some (.int .u64 0) := I1.out.cell 1
  have b2 : w1.cell? ⟨w.heap.size + 1, 2, none⟩ = some (.int .i64 0) := I1.out.cell 2
  have b3 : w1.cell? ⟨w.heap.size + 1, 3, none⟩ = some (.bool false) := I1.out.cell 3
  have b4 : w1.cell? ⟨w.heap.size + 1, 4, none⟩ = some (.slice none 0 0) := I1.out.cell 4
  have b5 : w1.cell? ⟨w.heap.size + 1, 5, none⟩ = some (.int .i64 0) := I1.out.cell 5
  have b6 : w1.cell? ⟨w.heap.size + 1, 6, none⟩ = some (.int .u64 0) := I1.out.cell 6
  have b7 : w1.cell? ⟨w.heap.size + 1, 7, none⟩ = some (.int .i64 0) := I1.out.cell 7
  have b8 : w1.cell? ⟨w.heap.size + 1, 8, none⟩ = some (.int .u64 0) := I1.out.cell 8
  have b9 : w1.cell? ⟨w.heap.size + 1, 9, none⟩ = some (.int .i64 0) := I1.out.cell 9
  have b10 : w1.cell? ⟨w.heap.size + 1, 10, none⟩ = some (.int .i64 0) := I1.out.cell 10
  have b11 : w1.cell? ⟨w.heap.size + 1, 11, none⟩ = some (.int .u64 0) := I1.out.cell 11
  have b12 : w1.cell? ⟨w.heap.size + 1, 12, none⟩ = some (.int .i64 0) := I1.out.cell 12
  have b13 : w1.cell? ⟨w.heap.size + 1, 13, none⟩ = some (.int .u64 0) := I1.out.cell 13
  have f0 := I0.out.free 0
  have f1 := I0.out.free 1
  have f2 := I0.out.free 2
  have f3 := I0.out.free 3
  have f4 := I0.out.free 4
  have f5 := I0.out.free 5
  have f6 := I0.out.free 6
  have f7 := I0.out.free 7
  have f8 := I0.out.free 8
  have f9 := I0.out.free 9
  have f10 := I0.out.free 10
  have f11 := I0.out.free 11
  have f12 := I0.out.free 12
  have f13 := I0.out.free 13
  have q3 := I1.out.free 3
  go_wp2
  have hW : (((((((((((((((w1.setCell ⟨w.heap.size + 1, 3, none⟩ (.bool (x == 1))).setCell ⟨w.heap.size, 0, none⟩ (.int .i64 3)).setCell ⟨w.heap.size, 1, none⟩ (.int .u64 0)).setCell ⟨w.heap.size, 2, none⟩ (.int .i64 0)).setCell ⟨w.heap.size, 3, none⟩ (.bool (x == 1))).setCell ⟨w.heap.size, 4, none⟩ (.slice none 0 0)).setCell ⟨w.heap.size, 5, none⟩ (.int .i64 0)).setCell ⟨w.heap.size, 6, none⟩ (.int .u64 0)).setCell ⟨w.heap.size, 7, none⟩ (.int .i64 0)).setCell ⟨w.heap.size, 8, none⟩ (.int .u64 0)).setCell ⟨w.heap.size, 9, none⟩ (.int .i64 0)).setCell ⟨w.heap.size, 10, none⟩ (.int .i64 0)).setCell ⟨w.heap.size, 11, none⟩ (.int .u64 0)).setCell ⟨w.heap.size, 12, none⟩ (.int .i64 0)).setCell ⟨w.heap.size, 13, none⟩ (.int .u64 0)) = putCells (w1.setCell ⟨w.heap.size + 1, 3, none⟩ (.bool (x == 1))) w.heap.size 0 [.int .i64 3, .int .u64 0, .int .i64 0, .bool (x == 1), .slice none 0 0, .int .i64 0, .int .u64 0, .int .i64 0, .int .u64 0, .int .i64 0, .int .i64 0, .int .u64 0, .int .i64 0, .int .u64 0] := rfl
  rw [hW]
  clear hW
  have hfin := putCells_is (cs := [.int .i64 0, .int .u64 0, .int .i64 0, .bool false, .slice none 0 0, .int .i64 0, .int .u64 0, .int .i64 0, .int .u64 0, .int .i64 0, .int .i64 0, .int .u64 0, .int .i64 0, .int .u64 0]) ((IsB.setOther (I0.out) (a := ⟨w.heap.size + 1, 3, none⟩) (by simp) (.bool (x == 1)))) [.int .i64 3, .int .u64 0, .int .i64 0, .bool (x == 1), .slice none 0 0, .int .i64 0, .int .u64 0, .int .i64 0, .int .u64 0, .int .i64 0, .int .i64 0, .int .u64 0, .int .i64 0, .int .u64 0] rfl
  have hrd := putCells_dr (b := w.heap.size) (show Q ≠ w.heap.size by omega) (show sb ≠ w.heap.size by omega) [.int .i64 3, .int .u64 0, .int .i64 0, .bool (x == 1), .slice none 0 0, .int .i64 0, .int .u64 0, .int .i64 0, .int .u64 0, .int .i64 0, .int .i64 0, .int .u64 0, .int .i64 0, .int .u64 0] _ 0 (DR.set (HRD.out) (a := ⟨w.heap.size + 1, 3, none⟩) (by simp only []; omega) (by simp only []; omega) (.bool (x == 1)))
  have hgr := putCells_grown (b := w.heap.size) (Nat.le_refl _) [.int .i64 3, .int .u64 0, .int .i64 0, .bool (x == 1), .slice none 0 0, .int .i64 0, .int .u64 0, .int .i64 0, .int .u64 0, .int .i64 0, .int .i64 0, .int .u64 0, .int .i64 0, .int .u64 0] _ 0 (grown_new (HGR.out) (a := ⟨w.heap.size + 1, 3, none⟩) (by simp) (.bool (x == 1)))
  generalize putCells (w1.setCell ⟨w.heap.size + 1, 3, none⟩ (.bool (x == 1))) w.heap.size 0 [.int .i64 3, .int .u64 0, .int .i64 0, .bool (x == 1), .slice none 0 0, .int .i64 0, .int .u64 0, .int .i64 0, .int .u64 0, .int .i64 0, .int .i64 0, .int .u64 0, .int .i64 0, .int .u64 0] = W at hfin hrd hgr ⊢
  refine bodyPost_ret (rfield_results W _ _ hfin rfl _ rfl) rfl ?_
  exact ⟨rfl, hrd, hgr⟩

set_option maxHeartbeats 4000000 in
set_option maxRecDepth 100000 in
theorem rfield_vec (Q sb : Nat) (L : List Int) (PP : Int → Int → Prop) (q : Nat) (er : Int) (w : World) (hQ : Q < w.heap.size) (hsb : sb < w.heap.size)
    (hb : ∀ W, Gr w W → Calls Tryd.prog 60 #[.pointer (some ⟨Q, 0, none⟩)] W fun r w' => ∃ x y, PP x y ∧ r = .returned ((.agg #[.int .i64 (x), .int .u64 (y)])) ∧ DR w' Q sb L q er ∧ W.grownBy w' (some Q)) :
    Calls Tryd.prog 37 #[.pointer (some ⟨Q, 0, none⟩), .int .i64 5] w fun e w' => ∃ x y, PP x y ∧ e = .returned (.agg #[.int .i64 5, .int .u64 0, .int .i64 0, .bool false, .slice none 0 0, .int .i64 x, .int .u64 y, .int .i64 0, .int .u64 0, .int .i64 0, .int .i64 0, .int .u64 0, .int .i64 0, .int .u64 0]) ∧ DR w' Q sb L q er ∧ w.grownBy w' (some Q) := by
  have I0 := (IsB.new w #[.int .i64 0, .int .u64 0, .int .i64 0, .bool false, .slice none 0 0, .int .i64 0, .int .u64 0, .int .i64 0, .int .u64 0, .int .i64 0, .int .i64 0, .int .u64 0, .int .i64 0, .int .u64 0] 34).alloc (.cells #[.int .i64 5, .int .u64 0, .int .i64 0, .bool false, .slice none 0 0, .int .i64 0, .int .u64 0, .int .i64 0, .int .u64 0, .int .i64 0, .int .i64 0, .int .u64 0, .int .i64 0, .int .u64 0] 34)
  have I1 := IsB.new (w.alloc (.cells #[.int .i64 0, .int .u64 0, .int .i64 0, .bool false, .slice none 0 0, .int .i64 0, .int .u64 0, .int .i64 0, .int .u64 0, .int .i64 0, .int .i64 0, .int .u64 0, .int .i64 0, .int .u64 0] 34)) #[.int .i64 5, .int .u64 0, .int .i64 0, .bool false, .slice none 0 0, .int .i64 0, .int .u64 0, .int .i64 0, .int .u64 0, .int .i64 0, .int .i64 0, .int .u64 0, .int .i64 0, .int .u64 0] 34
  rw [World.size_alloc] at I1
  have HG := hide (show Gr w ((w.alloc (.cells #[.int .i64 0, .int .u64 0, .int .i64 0, .bool false, .slice none 0 0, .int .i64 0, .int .u64 0, .int .i64 0, .int .u64 0, .int .i64 0, .int .i64 0, .int .u64 0, .int .i64 0, .int .u64 0] 34)).alloc (.cells #[.int .i64 5, .int .u64 0, .int .i64 0, .bool false, .slice none 0 0, .int .i64 0, .int .u64 0, .int .i64 0, .int .u64 0, .int .i64 0, .int .i64 0, .int .u64 0, .int .i64 0, .int .u64 0] 34)) from ((Gr.refl w).alloc _).alloc _)
  have hrow := hide (hb _ HG.out)
  have hl01 := I1.lt
  replace I0 := hide I0
  replace I1 := hide I1
  clear hb
  go_enter Tryd.func37, Tryd.ntmps37
  go_wp2_with fail
  generalize (w.alloc (.cells #[.int .i64 0, .int .u64 0, .int .i64 0, .bool false, .slice none 0 0, .int .i64 0, .int .u64 0, .int .i64 0, .int .u64 0, .int .i64 0, .int .i64 0, .int .u64 0, .int .i64 0, .int .u64 0] 34)).alloc (.cells #[.int .i64 5, .int .u64 0, .int .i64 0, .bool false, .slice none 0 0, .int .i64 0, .int .u64 0, .int .i64 0, .int .u64 0, .int .i64 0, .int .i64 0, .int .u64 0, .int .i64 0, .int .u64 0] 34) = W0 at I0 I1 HG hrow hl01 ⊢
  refine hrow.out.mono ?_
  rintro e w1 ⟨x, y, hpp, rfl, hrd, hgr⟩
  replace I0 := hide (I0.out.grown hgr (by intro h; simp only [Option.some.injEq] at h; omega))
  replace I1 := hide (I1.out.grown hgr (by intro h; simp only [Option.some.injEq] at h; omega))
  have HRD := hide hrd
  have HGR := hide (grown_trans (grown_of_gr HG.out _) hgr)
  have hlW := I0.out.lt
  have hlW0 : w.heap.size + 1 < W0.heap.size := hl01
  clear hrow hrd hgr
  have a0 : w1.cell? ⟨w.heap.size, 0, none⟩ = some (.int .i64 0) := I0.out.cell 0
  have a1 : w1.cell? ⟨w.heap.size, 1, none⟩ = some (.int .u64 0) := I0.out.cell 1
  have a2 : w1.cell? ⟨w.heap.size, 2, none⟩ = some (.int .i64 0) := I0.out.cell 2
  have a3 : w1.cell? ⟨w.heap.size, 3, none⟩ = some (.bool false) := I0.out.cell 3
  have a4 : w1.cell? ⟨w.heap.size, 4, none⟩ = some (.slice none 0 0) := I0.out.cell 4
  have a5 : w1.cell? ⟨w.heap.size, 5, none⟩ = some (.int .i64 0) := I0.out.cell 5
  have a6 : w1.cell? ⟨w.heap.size, 6, none⟩ = some (.int .u64 0) := I0.out.cell 6
  have a7 : w1.cell? ⟨w.heap.size, 7, none⟩ = some (.int .i64 0) := I0.out.cell 7
  have a8 : w1.cell? ⟨w.heap.size, 8, none⟩ = some (.int .u64 0) := I0.out.cell 8
  have a9 : w1.cell? ⟨w.heap.size, 9, none⟩ = some (.int .i64 0) := I0.out.cell 9
  have a10 : w1.cell? ⟨w.heap.size, 10, none⟩ = some (.int .i64 0) := I0.out.cell 10
  have a11 : w1.cell? ⟨w.heap.size, 11, none⟩ = some (.int .u64 0) := I0.out.cell 11
  have a12 : w1.cell? ⟨w.heap.size, 12, none⟩ = some (.int .i64 0) := I0.out.cell 12
  have a13 : w1.cell? ⟨w.heap.size, 13, none⟩ = some (.int .u64 0) := I0.out.cell 13
  have b0 : w1.cell? ⟨w.heap.size + 1, 0, none⟩ = some (.int .i64 5) := I1.out.cell 0
  have b1 : w1.cell? ⟨w.heap.size + 1, 1, none⟩ = some (.int .u64 0) := I1.out.cell 1
  have b2 : w1.cell? ⟨w.heap.size + 1, 2, none⟩ = some (.int .i64 0) := I1.out.cell 2
  have b3 : w1.cell? ⟨w.heap.size + 1, 3, none⟩ = some (.bool false) := I1.out.cell 3
  have b4 : w1.cell? ⟨w.heap.size + 1, 4, none⟩ = some (.slice none 0 0) := I1.out.cell 4
  have b5 : w1.cell? ⟨w.heap.size + 1, 5, none⟩ = some (.int .i64 0) := I1.out.cell 5
  have b6 : w1.cell? ⟨w.heap.size + 1, 6, none⟩ = some (.int .u64 0) := I1.out.cell 6
  have b7 : w1.cell? ⟨w.heap.size + 1, 7, none⟩ = some (.int .i64 0) := I1.out.cell 7
  have b8 : w1.cell? ⟨w.heap.size + 1, 8, none⟩ = some (.int .u64 0) := I1.out.cell 8
  have b9 : w1.cell? ⟨w.heap.size + 1, 9, none⟩ = some (.int .i64 0) := I1.out.cell 9
  have b10 : w1.cell? ⟨w.heap.size + 1, 10, none⟩ = some (.int .i64 0) := I1.out.cell 10
  have b11 : w1.cell? ⟨w.heap.size + 1, 11, none⟩ = some (.int .u64 0) := I1.out.cell 11
  have b12 : w1.cell? ⟨w.heap.size + 1, 12, none⟩ = some (.int .i64 0) := I1.out.cell 12
  have b13 : w1.cell? ⟨w.heap.size + 1, 13, none⟩ = some (.int .u64 0) := I1.out.cell 13
  have f0 := I0.out.free 0
  have f1 := I0.out.free 1
  have f2 := I0.out.free 2
  have f3 := I0.out.free 3
  have f4 := I0.out.free 4
  have f5 := I0.out.free 5
  have f6 := I0.out.free 6
  have f7 := I0.out.free 7
  have f8 := I0.out.free 8
  have f9 := I0.out.free 9
  have f10 := I0.out.free 10
  have f11 := I0.out.free 11
  have f12 := I0.out.free 12
  have f13 := I0.out.free 13
  have q5 := I1.out.free 5
  have q6 := I1.out.free 6
  go_wp2
  have hW : ((((((((((((((((w1.setCell ⟨w.heap.size + 1, 5, none⟩ (.int .i64 x)).setCell ⟨w.heap.size + 1, 6, none⟩ (.int .u64 y)).setCell ⟨w.heap.size, 0, none⟩ (.int .i64 5)).setCell ⟨w.heap.size, 1, none⟩ (.int .u64 0)).setCell ⟨w.heap.size, 2, none⟩ (.int .i64 0)).setCell ⟨w.heap.size, 3, none⟩ (.bool false)).setCell ⟨w.heap.size, 4, none⟩ (.slice none 0 0)).setCell ⟨w.heap.size, 5, none⟩ (.int .i64 x)).setCell ⟨w.heap.size, 6, none⟩ (.int .u64 y)).setCell ⟨w.heap.size, 7, none⟩ (.int .i64 0)).setCell ⟨w.heap.size, 8, none⟩ (.int .u64 0)).setCell ⟨w.heap.size, 9, none⟩ (.int .i64 0)).setCell ⟨w.heap.size, 10, none⟩ (.int .i64 0)).setCell ⟨w.heap.size, 11, none⟩ (.int .u64 0)).setCell ⟨w.heap.size, 12, none⟩ (.int .i64 0)).setCell ⟨w.heap.size, 13, none⟩ (.int .u64 0)) = putCells ((w1.setCell ⟨w.heap.size + 1, 5, none⟩ (.int .i64 x)).setCell ⟨w.heap.size + 1, 6, none⟩ (.int .u64 y)) w.heap.size 0 [.int .i64 5, .int .u64 0, .int .i64 0, .bool false, .slice none 0 0, .int .i64 x, .int .u64 y, .int .i64 0, .int .u64 0, .int .i64 0, .int .i64 0, .int .u64 0, .int .i64 0, .int .u64 0] := rfl
  rw [hW]
  clear hW
  have hfin := putCells_is (cs := [.int .i64 0, .int .u64 0, .int .i64 0, .bool false, .slice none 0 0, .int .i64 0, .int .u64 0, .int .i64 0, .int .u64 0, .int .i64 0, .int .i64 0, .int .u64 0, .int .i64 0, .int .u64 0]) ((IsB.setOther ((IsB.setOther (I0.out) (a := ⟨w.heap.size + 1, 5, none⟩) (by simp) (.int .i64 x))) (a := ⟨w.heap.size + 1, 6, none⟩) (by simp) (.int .u64 y))) [.int .i64 5, .int .u64 0, .int .i64 0, .bool false, .slice none 0 0, .int .i64 x, .int .u64 y, .int .i64 0, .int .u64 0, .int .i64 0, .int .i64 0, .int .u64 0, .int .i64 0, .int .u64 0] rfl
  have hrd := putCells_dr (b := w.heap.size) (show Q ≠ w.heap.size by omega) (show sb ≠ w.heap.size by omega) [.int .i64 5, .int .u64 0, .int .i64 0, .bool false, .slice none 0 0, .int .i64 x, .int .u64 y, .int .i64 0, .int .u64 0, .int .i64 0, .int .i64 0, .int .u64 0, .int .i64 0, .int .u64 0] _ 0 (DR.set ((DR.set (HRD.out) (a := ⟨w.heap.size + 1, 5, none⟩) (by simp only []; omega) (by simp only []; omega) (.int .i64 x))) (a := ⟨w.heap.size + 1, 6, none⟩) (by simp only []; omega) (by simp only []; omega) (.int .u64 y))
  have hgr := putCells_grown (b := w.heap.size) (Nat.le_refl _) [.int .i64 5, .int .u64 0, .int .i64 0, .bool false, .slice none 0 0, .int .i64 x, .int .u64 y, .int .i64 0, .int .u64 0, .int .i64 0, .int .i64 0, .int .u64 0, .int .i64 0, .int .u64 0] _ 0 (grown_new ((grown_new (HGR.out) (a := ⟨w.heap.size + 1, 5, none⟩) (by simp) (.int .i64 x))) (a := ⟨w.heap.size + 1, 6, none⟩) (by simp) (.int .u64 y))
  generalize putCells ((w1.setCell ⟨w.heap.size + 1, 5, none⟩ (.int .i64 x)).setCell ⟨w.heap.size + 1, 6, none⟩ (.int .u64 y)) w.heap.size 0 [.int .i64 5, .int .u64 0, .int .i64 0, .bool false, .slice none 0 0, .int .i64 x, .int .u64 y, .int .i64 0, .int .u64 0, .int .i64 0, .int .i64 0, .int .u64 0, .int .i64 0, .int .u64 0] = W at hfin hrd hgr ⊢
  refine bodyPost_ret (rfield_results W _ _ hfin rfl _ rfl) rfl ?_
  exact ⟨x, y, hpp, rfl, hrd, hgr⟩

set_option maxHeartbeats 4000000 in
set_option maxRecDepth 100000 in
theorem rfield_key (Q sb : Nat) (L : List Int) (PP : Int → Int → Prop) (q : Nat) (er : Int) (w : World) (hQ : Q < w.heap.size) (hsb : sb < w.heap.size)
    (hb : ∀ W, Gr w W → Calls Tryd.prog 61 #[.pointer (some ⟨Q, 0, none⟩)] W fun r w' => ∃ x y, PP x y ∧ r = .returned ((.agg #[.int .i64 (x), .int .u64 (y)])) ∧ DR w' Q sb L q er ∧ W.grownBy w' (some Q)) :
    Calls Tryd.prog 37 #[.pointer (some ⟨Q, 0, none⟩), .int .i64 6] w fun e w' => ∃ x y, PP x y ∧ e = .returned (.agg #[.int .i64 6, .int .u64 0, .int .i64 0, .bool false, .slice none 0 0, .int .i64 0, .int .u64 0, .int .i64 x, .int .u64 y, .int .i64 0, .int .i64 0, .int .u64 0, .int .i64 0, .int .u64 0]) ∧ DR w' Q sb L q er ∧ w.grownBy w' (some Q) := by
  have I0 := (IsB.new w #[.int .i64 0, .int .u64 0, .int .i64 0, .bool false, .slice none 0 0, .int .i64 0, .int .u64 0, .int .i64 0, .int .u64 0, .int .i64 0, .int .i64 0, .int .u64 0, .int .i64 0, .int .u64 0] 34).alloc (.cells #[.int .i64 6, .int .u64 0, .int .i64 0, .bool false, .slice none 0 0, .int .i64 0, .int .u64 0, .int .i64 0, .int .u64 0, .int .i64 0, .int .i64 0, .int .u64 0, .int .i64 0, .int .u64 0] 34)
  have I1 := IsB.new (w.alloc (.cells #[.int .i64 0, .int .u64 0, .int .i64 0, .bool false, .slice none 0 0, .int .i64 0, .int .u64 0, .int .i64 0, .int .u64 0, .int .i64 0, .int .i64 0, .int .u64 0, .int .i64 0, .int .u64 0] 34)) #[.int .i64 6, .int .u64 0, .int .i64 0, .bool false, .slice none 0 0, .int .i64 0, .int .u64 0, .int .i64 0, .int .u64 0, .int .i64 0, .int .i64 0, .int .u64 0, .int .i64 0, .int .u64 0] 34
  rw [World.size_alloc] at I1
  have HG := hide (show Gr w ((w.alloc (.cells #[.int .i64 0, .int .u64 0, .int .i64 0, .bool false, .slice none 0 0, .int .i64 0, .int .u64 0, .int .i64 0, .int .u64 0, .int .i64 0, .int .i64 0, .int .u64 0, .int .i64 0, .int .u64 0] 34)).alloc (.cells #[.int .i64 6, .int .u64 0, .int .i64 0, .bool false, .slice none 0 0, .int .i64 0, .int .u64 0, .int .i64 0, .int .u64 0, .int .i64 0, .int .i64 0, .int .u64 0, .int .i64 0, .int .u64 0] 34)) from ((Gr.refl w).alloc _).alloc _)
  have hrow := hide (hb _ HG.out)
  have hl01 := I1.lt
  replace I0 := hide I0
  replace I1 := hide I1
  clear hb
  go_enter Tryd.func37, Tryd.ntmps37
  go_wp2_with fail
  generalize (w.alloc (.cells #[.int .i64 0, .int .u64 0, .int .i64 0, .bool false, .slice none 0 0, .int .i64 0, .int .u64 0, .int .i64 0, .int .u64 0, .int .i64 0, .int .i64 0, .int .u64 0, .int .i64 0, .int .u64 0] 34)).alloc (.cells #[.int .i64 6, .int .u64 0, .int .i64 0, .bool false, .slice none 0 0, .int .i64 0, .int .u64 0, .int .i64 0, .int .u64 0, .int .i64 0, .int .i64 0, .int .u64 0, .int .i64 0, .int .u64 0] 34) = W0 at I0 I1 HG hrow hl01 ⊢
  refine hrow.out.mono ?_
  rintro e w1 ⟨x, y, hpp, rfl, hrd, hgr⟩
  replace I0 := hide (I0.out.grown hgr (by intro h; simp only [Option.some.injEq] at h; omega))
  replace I1 := hide (I1.out.grown hgr (by intro h; simp only [Option.some.injEq] at h; omega))
  have HRD := hide hrd
  have HGR := hide (grown_trans (grown_of_gr HG.out _) hgr)
  have hlW := I0.out.lt
  have hlW0 : w.heap.size + 1 < W0.heap.size := hl01
  clear hrow hrd hgr
  have a0 : w1.cell? ⟨w.heap.size, 0, none⟩ = some (.int .i64 0) := I0.out.cell 0
  have a1 : w1.cell? ⟨w.heap.size, 1, none⟩ = some (.int .u64 0) := I0.out.cell 1
  have a2 : w1.cell? ⟨w.heap.size, 2, none⟩ = some (.int .i64 0) := I0.out.cell 2
  have a3 : w1.cell? ⟨w.heap.size, 3, none⟩ = some (.bool false) := I0.out.cell 3
  have a4 : w1.cell? ⟨w.heap.size, 4, none⟩ = some (.slice none 0 0) := I0.out.cell 4
  have a5 : w1.cell? ⟨w.heap.size, 5, none⟩ = some (.int .i64 0) := I0.out.cell 5
  have a6 : w1.cell? ⟨w.heap.size, 6, none⟩ = some (.int .u64 0) := I0.out.cell 6
  have a7 : w1.cell? ⟨w.heap.size, 7, none⟩ = some (.int .i64 0) := I0.out.cell 7
  have a8 : w1.cell? ⟨w.heap.size, 8, none⟩ = some (.int .u64 0) := I0.out.cell 8
  have a9 : w1.cell? ⟨w.heap.size, 9, none⟩ = some (.int .i64 0) := I0.out.cell 9
  have a10 : w1.cell? ⟨w.heap.size, 10, none⟩ = some (.int .i64 0) := I0.out.cell 10
  have a11 : w1.cell? ⟨w.heap.size, 11, none⟩ = some (.int .u64 0) := I0.out.cell 11
  have a12 : w1.cell? ⟨w.heap.size, 12, none⟩ = some (.int .i64 0) := I0.out.cell 12
  have a13 : w1.cell? ⟨w.heap.size, 13, none⟩ = some (.int .u64 0) := I0.out.cell 13
  have b0 : w1.cell? ⟨w.heap.size + 1, 0, none⟩ = some (.int .i64 6) := I1.out.cell 0
  have b1 : w1.cell? ⟨w.heap.size + 1, 1, none⟩ = some (.int .u64 0) := I1.out.cell 1
  have b2 : w1.cell? ⟨w.heap.size + 1, 2, none⟩ = some (.int .i64 0) := I1.out.cell 2
  have b3 : w1.cell? ⟨w.heap.size + 1, 3, none⟩ = some (.bool false) := I1.out.cell 3
  have b4 : w1.cell? ⟨w.heap.size + 1, 4, none⟩ = some (.slice none 0 0) := I1.out.cell 4
  have b5 : w1.cell? ⟨w.heap.size + 1, 5, none⟩ = some (.int .i64 0) := I1.out.cell 5
  have b6 : w1.cell? ⟨w.heap.size + 1, 6, none⟩ = some (.int .u64 0) := I1.out.cell 6
  have b7 : w1.cell? ⟨w.heap.size + 1, 7, none⟩ = some (.int .i64 0) := I1.out.cell 7
  have b8 : w1.cell? ⟨w.heap.size + 1, 8, none⟩ = some (.int .u64 0) := I1.out.cell 8
  have b9 : w1.cell? ⟨w.heap.size + 1, 9, none⟩ = some (.int .i64 0) := I1.out.cell 9
  have b10 : w1.cell? ⟨w.heap.size + 1, 10, none⟩ = some (.int .i64 0) := I1.out.cell 10
  have b11 : w1.cell? ⟨w.heap.size + 1, 11, none⟩ = some (.int .u64 0) := I1.out.cell 11
  have b12 : w1.cell? ⟨w.heap.size + 1, 12, none⟩ = some (.int .i64 0) := I1.out.cell 12
  have b13 : w1.cell? ⟨w.heap.size + 1, 13, none⟩ = some (.int .u64 0) := I1.out.cell 13
  have f0 := I0.out.free 0
  have f1 := I0.out.free 1
  have f2 := I0.out.free 2
  have f3 := I0.out.free 3
  have f4 := I0.out.free 4
  have f5 := I0.out.free 5
  have f6 := I0.out.free 6
  have f7 := I0.out.free 7
  have f8 := I0.out.free 8
  have f9 := I0.out.free 9
  have f10 := I0.out.free 10
  have f11 := I0.out.free 11
  have f12 := I0.out.free 12
  have f13 := I0.out.free 13
  have q7 := I1.out.free 7
  have q8 := I1.out.free 8
  go_wp2
  have hW : ((((((((((((((((w1.setCell ⟨w.heap.size + 1, 7, none⟩ (.int .i64 x)).setCell ⟨w.heap.size + 1, 8, none⟩ (.int .u64 y)).setCell ⟨w.heap.size, 0, none⟩ (.int .i64 6)).setCell ⟨w.heap.size, 1, none⟩ (.int .u64 0)).setCell ⟨w.heap.size, 2, none⟩ (.int .i64 0)).setCell ⟨w.heap.size, 3, none⟩ (.bool false)).setCell ⟨w.heap.size, 4, none⟩ (.slice none 0 0)).setCell ⟨w.heap.size, 5, none⟩ (.int .i64 0)).setCell ⟨w.heap.size, 6, none⟩ (.int .u64 0)).setCell ⟨w.heap.size, 7, none⟩ (.int .i64 x)).setCell ⟨w.heap.size, 8, none⟩ (.int .u64 y)).setCell ⟨w.heap.size, 9, none⟩ (.int .i64 0)).setCell ⟨w.heap.size, 10, none⟩ (.int .i64 0)).setCell ⟨w.heap.size, 11, none⟩ (.int .u64 0)).setCell ⟨w.heap.size, 12, none⟩ (.int .i64 0)).setCell ⟨w.heap.size, 13, none⟩ (.int .u64 0)) = putCells ((w1.setCell ⟨w.heap.size + 1, 7, none⟩ (.int .i64 x)).setCell ⟨w.heap.size + 1, 8, none⟩ (.int .u64 y)) w.heap.size 0 [.int .i64 6, .int .u64 0, .int .i64 0, .bool false, .slice none 0 0, .int .i64 0, .int .u64 0, .int .i64 x, .int .u64 y, .int .i64 0, .int .i64 0, .int .u64 0, .int .i64 0, .int .u64 0] := rfl
  rw [hW]
  clear hW
  have hfin := putCells_is (cs := [.int .i64 0, .int .u64 0, .int .i64 0, .bool false, .slice none 0 0, .int .i64 0, .int .u64 0, .int .i64 0, .int .u64 0, .int .i64 0, .int .i64 0, .int .u64 0, .int .i64 0, .int .u64 0]) ((IsB.setOther ((IsB.setOther (I0.out) (a := ⟨w.heap.size + 1, 7, none⟩) (by simp) (.int .i64 x))) (a := ⟨w.heap.size + 1, 8, none⟩) (by simp) (.int .u64 y))) [.int .i64 6, .int .u64 0, .int .i64 0, .bool false, .slice none 0 0, .int .i64 0, .int .u64 0, .int .i64 x, .int .u64 y, .int .i64 0, .int .i64 0, .int .u64 0, .int .i64 0, .int .u64 0] rfl
  have hrd := putCells_dr (b := w.heap.size) (show Q ≠ w.heap.size by omega) (show sb ≠ w.heap.size by omega) [.int .i64 6, .int .u64 0, .int .i64 0, .bool false, .slice none 0 0, .int .i64 0, .int .u64 0, .int .i64 x, .int .u64 y, .int .i64 0, .int .i64 0, .int .u64 0, .int .i64 0, .int .u64 0] _ 0 (DR.set ((DR.set (HRD.out) (a := ⟨w.heap.size + 1, 7, none⟩) (by simp only []; omega) (by simp only []; omega) (.int .i64 x))) (a := ⟨w.heap.size + 1, 8, none⟩) (by simp only []; omega) (by simp only []; omega) (.int .u64 y))
  have hgr := putCells_grown (b := w.heap.size) (Nat.le_refl _) [.int .i64 6, .int .u64 0, .int .i64 0, .bool false, .slice none 0 0, .int .i64 0, .int .u64 0, .int .i64 x, .int .u64 y, .int .i64 0, .int .i64 0, .int .u64 0, .int .i64 0, .int .u64 0] _ 0 (grown_new ((grown_new (HGR.out) (a := ⟨w.heap.size + 1, 7, none⟩) (by simp) (.int .i64 x))) (a := ⟨w.heap.size + 1, 8, none⟩) (by simp) (.int .u64 y))
  generalize putCells ((w1.setCell ⟨w.heap.size + 1, 7, none⟩ (.int .i64 x)).setCell ⟨w.heap.size + 1, 8, none⟩ (.int .u64 y)) w.heap.size 0 [.int .i64 6, .int .u64 0, .int .i64 0, .bool false, .slice none 0 0, .int .i64 0, .int .u64 0, .int .i64 x, .int .u64 y, .int .i64 0, .int .i64 0, .int .u64 0, .int .i64 0, .int .u64 0] = W at hfin hrd hgr ⊢
  refine bodyPost_ret (rfield_results W _ _ hfin rfl _ rfl) rfl ?_
  exact ⟨x, y, hpp, rfl, hrd, hgr⟩

end Go.Proofs.YtmhcmlegdoapdaaDoor

/- The document's reader: fields of a ref. -/
namespace Go.Proofs.YtmhcmlegdoapdaaDoor
open Go.RowKit

set_option maxHeartbeats 8000000 in
set_option maxRecDepth 100000 in
theorem rfield_ref (Q sb : Nat) (L : List Int) (x : Int) (PP PV : Int → Int → Prop) (q1 q2 q : Nat) (er1 er2 er : Int) (w : World) (hQ : Q < w.heap.size) (hsb : sb < w.heap.size)
    (hb : ∀ W, Gr w W → Calls Tryd.prog 58 #[.pointer (some ⟨Q, 0, none⟩)] W fun r w' => r = .returned (.int .i64 x) ∧ DR w' Q sb L q1 er1 ∧ W.grownBy w' (some Q))
    (hk : ∀ W, DR W Q sb L q1 er1 → sb < W.heap.size → Calls Tryd.prog 61 #[.pointer (some ⟨Q, 0, none⟩)] W fun r w' => ∃ y1 y2, PP y1 y2 ∧ r = .returned ((.agg #[.int .i64 (y1), .int .u64 (y2)])) ∧ DR w' Q sb L q2 er2 ∧ W.grownBy w' (some Q))
    (hv : ∀ W, DR W Q sb L q2 er2 → sb < W.heap.size → Calls Tryd.prog 60 #[.pointer (some ⟨Q, 0, none⟩)] W fun r w' => ∃ z1 z2, PV z1 z2 ∧ r = .returned ((.agg #[.int .i64 (z1), .int .u64 (z2)])) ∧ DR w' Q sb L q er ∧ W.grownBy w' (some Q)) :
    Calls Tryd.prog 37 #[.pointer (some ⟨Q, 0, none⟩), .int .i64 7] w fun e w' => ∃ y1 y2 z1 z2, PP y1 y2 ∧ PV z1 z2 ∧ e = .returned (.agg #[.int .i64 7, .int .u64 0, .int .i64 0, .bool false, .slice none 0 0, .int .i64 0, .int .u64 0, .int .i64 0, .int .u64 0, .int .i64 x, .int .i64 y1, .int .u64 y2, .int .i64 z1, .int .u64 z2]) ∧ DR w' Q sb L q er ∧ w.grownBy w' (some Q) := by
  have I0 := (IsB.new w #[.int .i64 0, .int .u64 0, .int .i64 0, .bool false, .slice none 0 0, .int .i64 0, .int .u64 0, .int .i64 0, .int .u64 0, .int .i64 0, .int .i64 0, .int .u64 0, .int .i64 0, .int .u64 0] 34).alloc (.cells #[.int .i64 7, .int .u64 0, .int .i64 0, .bool false, .slice none 0 0, .int .i64 0, .int .u64 0, .int .i64 0, .int .u64 0, .int .i64 0, .int .i64 0, .int .u64 0, .int .i64 0, .int .u64 0] 34)
  have I1 := IsB.new (w.alloc (.cells #[.int .i64 0, .int .u64 0, .int .i64 0, .bool false, .slice none 0 0, .int .i64 0, .int .u64 0, .int .i64 0, .int .u64 0, .int .i64 0, .int .i64 0, .int .u64 0, .int .i64 0, .int .u64 0] 34)) #[.int .i64 7, .int .u64 0, .int .i64 0, .bool false, .slice none 0 0, .int .i64 0, .int .u64 0, .int .i64 0, .int .u64 0, .int .i64 0, .int .i64 0, .int .u64 0, .int .i64 0, .int .u64 0] 34
  rw [World.size_alloc] at I1
  have HG := hide (show Gr w ((w.alloc (.cells #[.int .i64 0, .int .u64 0, .int .i64 0, .bool false, .slice none 0 0, .int .i64 0, .int .u64 0, .int .i64 0, .int .u64 0, .int .i64 0, .int .i64 0, .int .u64 0, .int .i64 0, .int .u64 0] 34)).alloc (.cells #[.int .i64 7, .int .u64 0, .int .i64 0, .bool false, .slice none 0 0, .int .i64 0, .int .u64 0, .int .i64 0, .int .u64 0, .int .i64 0, .int .i64 0, .int .u64 0, .int .i64 0, .int .u64 0] 34)) from ((Gr.refl w).alloc _).alloc _)
  have hrow := hide (hb _ HG.out)
  have hl01 := I1.lt
  replace I0 := hide I0
  replace I1 := hide I1
  have HHK := hide hk
  have HHV := hide hv
  clear hb hk hv
  go_enter Tryd.func37, Tryd.ntmps37
  go_wp2_with fail
  generalize (w.alloc (.cells #[.int .i64 0, .int .u64 0, .int .i64 0, .bool false, .slice none 0 0, .int .i64 0, .int .u64 0, .int .i64 0, .int .u64 0, .int .i64 0, .int .i64 0, .int .u64 0, .int .i64 0, .int .u64 0] 34)).alloc (.cells #[.int .i64 7, .int .u64 0, .int .i64 0, .bool false, .slice none 0 0, .int .i64 0, .int .u64 0, .int .i64 0, .int .u64 0, .int .i64 0, .int .i64 0, .int .u64 0, .int .i64 0, .int .u64 0] 34) = W0 at I0 I1 HG hrow hl01 ⊢
  refine hrow.out.mono ?_
  rintro e w1 ⟨rfl, hrd, hgr⟩
  have hlW0 : w.heap.size + 1 < W0.heap.size := hl01
  have HGR := hide (grown_trans (grown_of_gr HG.out _) hgr)
  clear hrow
  replace I0 := hide (I0.out.grown hgr (by intro h; simp only [Option.some.injEq] at h; omega))
  replace I1 := hide (I1.out.grown hgr (by intro h; simp only [Option.some.injEq] at h; omega))
  have b9 : w1.cell? ⟨w.heap.size + 1, 9, none⟩ = some (.int .i64 0) := I1.out.cell 9
  have q9 := I1.out.free 9
  have HRD := hide hrd
  have hsz := hgr.size
  clear hrd hgr
  go_wp2_with fail
  have HRD2 := hide (DR.set HRD.out (a := ⟨w.heap.size + 1, 9, none⟩) (by simp only []; omega) (by simp only []; omega) (.int .i64 x))
  replace I0 := hide (IsB.setOther I0.out (a := ⟨w.heap.size + 1, 9, none⟩) (by simp) (.int .i64 x))
  replace I1 := hide (I1.out.setj 9 (.int .i64 x))
  replace HGR := hide (grown_new HGR.out (a := ⟨w.heap.size + 1, 9, none⟩) (by simp) (.int .i64 x))
  have hs2 := size_setCell w1 ⟨w.heap.size + 1, 9, none⟩ (.int .i64 x)
  clear b9 q9 HRD
  generalize w1.setCell ⟨w.heap.size + 1, 9, none⟩ (.int .i64 x) = W1 at I0 I1 HGR HRD2 hs2 ⊢
  refine (HHK.out W1 HRD2.out (by omega)).mono ?_
  rintro e w2 ⟨y1, y2, hpk, rfl, hrd, hgr⟩
  replace HGR := hide (grown_trans HGR.out hgr)
  clear HRD2 HHK
  replace I0 := hide (I0.out.grown hgr (by intro h; simp only [Option.some.injEq] at h; omega))
  replace I1 := hide (I1.out.grown hgr (by intro h; simp only [Option.some.injEq] at h; omega))
  have b10 : w2.cell? ⟨w.heap.size + 1, 10, none⟩ = some (.int .i64 0) := I1.out.cell 10
  have q10 := I1.out.free 10
  have b11 : w2.cell? ⟨w.heap.size + 1, 11, none⟩ = some (.int .u64 0) := I1.out.cell 11
  have q11 := I1.out.free 11
  have HRD := hide hrd
  have hsz := hgr.size
  clear hrd hgr
  go_wp2_with fail
  have HRD2 := hide (DR.set (DR.set HRD.out (a := ⟨w.heap.size + 1, 10, none⟩) (by simp only []; omega) (by simp only []; omega) (.int .i64 y1)) (a := ⟨w.heap.size + 1, 11, none⟩) (by simp only []; omega) (by simp only []; omega) (.int .u64 y2))
  replace I0 := hide (IsB.setOther (IsB.setOther I0.out (a := ⟨w.heap.size + 1, 10, none⟩) (by simp) (.int .i64 y1)) (a := ⟨w.heap.size + 1, 11, none⟩) (by simp) (.int .u64 y2))
  replace I1 := hide (IsB.setj (IsB.setj I1.out 10 (.int .i64 y1)) 11 (.int .u64 y2))
  replace HGR := hide (grown_new (grown_new HGR.out (a := ⟨w.heap.size + 1, 10, none⟩) (by simp) (.int .i64 y1)) (a := ⟨w.heap.size + 1, 11, none⟩) (by simp) (.int .u64 y2))
  have hs3 : ((w2.setCell ⟨w.heap.size + 1, 10, none⟩ (.int .i64 y1)).setCell ⟨w.heap.size + 1, 11, none⟩ (.int .u64 y2)).heap.size = w2.heap.size := by rw [size_setCell, size_setCell]
  clear b10 q10 b11 q11 HRD
  generalize (w2.setCell ⟨w.heap.size + 1, 10, none⟩ (.int .i64 y1)).setCell ⟨w.heap.size + 1, 11, none⟩ (.int .u64 y2) = W2 at I0 I1 HGR HRD2 hs3 ⊢
  refine (HHV.out W2 HRD2.out (by omega)).mono ?_
  rintro e w3 ⟨z1, z2, hpv, rfl, hrd, hgr⟩
  replace HGR := hide (grown_trans HGR.out hgr)
  clear HRD2 HHV
  replace I0 := hide (I0.out.grown hgr (by intro h; simp only [Option.some.injEq] at h; omega))
  replace I1 := hide (I1.out.grown hgr (by intro h; simp only [Option.some.injEq] at h; omega))
  have HRD := hide hrd
  clear hrd hgr
  have a0 : w3.cell? ⟨w.heap.size, 0, none⟩ = some (.int .i64 0) := I0.out.cell 0
  have a1 : w3.cell? ⟨w.heap.size, 1, none⟩ = some (.int .u64 0) := I0.out.cell 1
  have a2 : w3.cell? ⟨w.heap.size, 2, none⟩ = some (.int .i64 0) := I0.out.cell 2
  have a3 : w3.cell? ⟨w.heap.size, 3, none⟩ = some (.bool false) := I0.out.cell 3
  have a4 : w3.cell? ⟨w.heap.size, 4, none⟩ = some (.slice none 0 0) := I0.out.cell 4
  have a5 : w3.cell? ⟨w.heap.size, 5, none⟩ = some (.int .i64 0) := I0.out.cell 5
  have a6 : w3.cell? ⟨w.heap.size, 6, none⟩ = some (.int .u64 0) := I0.out.cell 6
  have a7 : w3.cell? ⟨w.heap.size, 7, none⟩ = some (.int .i64 0) := I0.out.cell 7
  have a8 : w3.cell? ⟨w.heap.size, 8, none⟩ = some (.int .u64 0) := I0.out.cell 8
  have a9 : w3.cell? ⟨w.heap.size, 9, none⟩ = some (.int .i64 0) := I0.out.cell 9
  have a10 : w3.cell? ⟨w.heap.size, 10, none⟩ = some (.int .i64 0) := I0.out.cell 10
  have a11 : w3.cell? ⟨w.heap.size, 11, none⟩ = some (.int .u64 0) := I0.out.cell 11
  have a12 : w3.cell? ⟨w.heap.size, 12, none⟩ = some (.int .i64 0) := I0.out.cell 12
  have a13 : w3.cell? ⟨w.heap.size, 13, none⟩ = some (.int .u64 0) := I0.out.cell 13
  have b0 : w3.cell? ⟨w.heap.size + 1, 0, none⟩ = some (.int .i64 7) := I1.out.cell 0
  have b1 : w3.cell? ⟨w.heap.size + 1, 1, none⟩ = some (.int .u64 0) := I1.out.cell 1
  have b2 : w3.cell? ⟨w.heap.size + 1, 2, none⟩ = some (.int .i64 0) := I1.out.cell 2
  have b3 : w3.cell? ⟨w.heap.size + 1, 3, none⟩ = some (.bool false) := I1.out.cell 3
  have b4 : w3.cell? ⟨w.heap.size + 1, 4, none⟩ = some (.slice none 0 0) := I1.out.cell 4
  have b5 : w3.cell? ⟨w.heap.size + 1, 5, none⟩ = some (.int .i64 0) := I1.out.cell 5
  have b6 : w3.cell? ⟨w.heap.size + 1, 6, none⟩ = some (.int .u64 0) := I1.out.cell 6
  have b7 : w3.cell? ⟨w.heap.size + 1, 7, none⟩ = some (.int .i64 0) := I1.out.cell 7
  have b8 : w3.cell? ⟨w.heap.size + 1, 8, none⟩ = some (.int .u64 0) := I1.out.cell 8
  have b9 : w3.cell? ⟨w.heap.size + 1, 9, none⟩ = some (.int .i64 x) := I1.out.cell 9
  have b10 : w3.cell? ⟨w.heap.size + 1, 10, none⟩ = some (.int .i64 y1) := I1.out.cell 10
  have b11 : w3.cell? ⟨w.heap.size + 1, 11, none⟩ = some (.int .u64 y2) := I1.out.cell 11
  have b12 : w3.cell? ⟨w.heap.size + 1, 12, none⟩ = some (.int .i64 0) := I1.out.cell 12
  have b13 : w3.cell? ⟨w.heap.size + 1, 13, none⟩ = some (.int .u64 0) := I1.out.cell 13
  have f0 := I0.out.free 0
  have f1 := I0.out.free 1
  have f2 := I0.out.free 2
  have f3 := I0.out.free 3
  have f4 := I0.out.free 4
  have f5 := I0.out.free 5
  have f6 := I0.out.free 6
  have f7 := I0.out.free 7
  have f8 := I0.out.free 8
  have f9 := I0.out.free 9
  have f10 := I0.out.free 10
  have f11 := I0.out.free 11
  have f12 := I0.out.free 12
  have f13 := I0.out.free 13
  have q12 := I1.out.free 12
  have q13 := I1.out.free 13
  go_wp2
  have hW : ((((((((((((((((w3.setCell ⟨w.heap.size + 1, 12, none⟩ (.int .i64 z1)).setCell ⟨w.heap.size + 1, 13, none⟩ (.int .u64 z2)).setCell ⟨w.heap.size, 0, none⟩ (.int .i64 7)).setCell ⟨w.heap.size, 1, none⟩ (.int .u64 0)).setCell ⟨w.heap.size, 2, none⟩ (.int .i64 0)).setCell ⟨w.heap.size, 3, none⟩ (.bool false)).setCell ⟨w.heap.size, 4, none⟩ (.slice none 0 0)).setCell ⟨w.heap.size, 5, none⟩ (.int .i64 0)).setCell ⟨w.heap.size, 6, none⟩ (.int .u64 0)).setCell ⟨w.heap.size, 7, none⟩ (.int .i64 0)).setCell ⟨w.heap.size, 8, none⟩ (.int .u64 0)).setCell ⟨w.heap.size, 9, none⟩ (.int .i64 x)).setCell ⟨w.heap.size, 10, none⟩ (.int .i64 y1)).setCell ⟨w.heap.size, 11, none⟩ (.int .u64 y2)).setCell ⟨w.heap.size, 12, none⟩ (.int .i64 z1)).setCell ⟨w.heap.size, 13, none⟩ (.int .u64 z2)) = putCells ((w3.setCell ⟨w.heap.size + 1, 12, none⟩ (.int .i64 z1)).setCell ⟨w.heap.size + 1, 13, none⟩ (.int .u64 z2)) w.heap.size 0 [.int .i64 7, .int .u64 0, .int .i64 0, .bool false, .slice none 0 0, .int .i64 0, .int .u64 0, .int .i64 0, .int .u64 0, .int .i64 x, .int .i64 y1, .int .u64 y2, .int .i64 z1, .int .u64 z2] := rfl
  rw [hW]
  clear hW
  have hfin := putCells_is (cs := [.int .i64 0, .int .u64 0, .int .i64 0, .bool false, .slice none 0 0, .int .i64 0, .int .u64 0, .int .i64 0, .int .u64 0, .int .i64 0, .int .i64 0, .int .u64 0, .int .i64 0, .int .u64 0]) ((IsB.setOther ((IsB.setOther (I0.out) (a := ⟨w.heap.size + 1, 12, none⟩) (by simp) (.int .i64 z1))) (a := ⟨w.heap.size + 1, 13, none⟩) (by simp) (.int .u64 z2))) [.int .i64 7, .int .u64 0, .int .i64 0, .bool false, .slice none 0 0, .int .i64 0, .int .u64 0, .int .i64 0, .int .u64 0, .int .i64 x, .int .i64 y1, .int .u64 y2, .int .i64 z1, .int .u64 z2] rfl
  have hrd := putCells_dr (b := w.heap.size) (show Q ≠ w.heap.size by omega) (show sb ≠ w.heap.size by omega) [.int .i64 7, .int .u64 0, .int .i64 0, .bool false, .slice none 0 0, .int .i64 0, .int .u64 0, .int .i64 0, .int .u64 0, .int .i64 x, .int .i64 y1, .int .u64 y2, .int .i64 z1, .int .u64 z2] _ 0 (DR.set ((DR.set (HRD.out) (a := ⟨w.heap.size + 1, 12, none⟩) (by simp only []; omega) (by simp only []; omega) (.int .i64 z1))) (a := ⟨w.heap.size + 1, 13, none⟩) (by simp only []; omega) (by simp only []; omega) (.int .u64 z2))
  have hgr := putCells_grown (b := w.heap.size) (Nat.le_refl _) [.int .i64 7, .int .u64 0, .int .i64 0, .bool false, .slice none 0 0, .int .i64 0, .int .u64 0, .int .i64 0, .int .u64 0, .int .i64 x, .int .i64 y1, .int .u64 y2, .int .i64 z1, .int .u64 z2] _ 0 (grown_new ((grown_new (HGR.out) (a := ⟨w.heap.size + 1, 12, none⟩) (by simp) (.int .i64 z1))) (a := ⟨w.heap.size + 1, 13, none⟩) (by simp) (.int .u64 z2))
  generalize putCells ((w3.setCell ⟨w.heap.size + 1, 12, none⟩ (.int .i64 z1)).setCell ⟨w.heap.size + 1, 13, none⟩ (.int .u64 z2)) w.heap.size 0 [.int .i64 7, .int .u64 0, .int .i64 0, .bool false, .slice none 0 0, .int .i64 0, .int .u64 0, .int .i64 0, .int .u64 0, .int .i64 x, .int .i64 y1, .int .u64 y2, .int .i64 z1, .int .u64 z2] = W at hfin hrd hgr ⊢
  refine bodyPost_ret (rfield_results W _ _ hfin rfl _ rfl) rfl ?_
  exact ⟨y1, y2, z1, z2, hpk, hpv, rfl, hrd, hgr⟩

end Go.Proofs.YtmhcmlegdoapdaaDoor

/- The document's reader: fields of bytes. -/
namespace Go.Proofs.YtmhcmlegdoapdaaDoor
open Go.RowKit

/-- How far the document's row has come: k of n bytes, behind q. -/
structure RL (w wr : World) (Q sb : Nat) (L : List Int) (q n k : Nat) (la : Value) (bl : List Int) : Prop where
  own : wr.ownsRow (w.heap.size + 1 + 1) 5 1 la bl.length (u8s bl)
  at0 : IsB wr w.heap.size #[.int .i64 0, .int .u64 0, .int .i64 0, .bool false, .slice none 0 0, .int .i64 0, .int .u64 0, .int .i64 0, .int .u64 0, .int .i64 0, .int .i64 0, .int .u64 0, .int .i64 0, .int .u64 0] 34
  at1 : IsB wr (w.heap.size + 1) #[.int .i64 4, .int .u64 0, .int .i64 0, .bool false, la, .int .i64 0, .int .u64 0, .int .i64 0, .int .u64 0, .int .i64 0, .int .i64 0, .int .u64 0, .int .i64 0, .int .u64 0] 34
  gr : w.grownBy wr (some Q)
  si : w.heap.size + 1 + 1 ≤ wr.heap.size
  ph : (bl = (L.drop q).take k ∧ q + k ≤ L.length ∧ DR wr Q sb L (q + k) 0) ∨ (bl.length ≤ n ∧ L.length < q + n ∧ DR wr Q sb L L.length 32)

/-- What is left behind the document's row. -/
def RDone (w wr : World) (Q sb : Nat) (L : List Int) (q n : Nat) (la : Value) (bl : List Int) : Prop :=
  wr.ownsRow (w.heap.size + 1 + 1) 5 1 la bl.length (u8s bl) ∧ w.grownBy wr (some Q) ∧ w.heap.size + 1 + 1 ≤ wr.heap.size ∧
  ((bl = (L.drop q).take n ∧ q + n ≤ L.length ∧ DR wr Q sb L (q + n) 0) ∨ (bl.length ≤ n ∧ L.length < q + n ∧ DR wr Q sb L L.length 32))
theorem putCells_own {b : Nat} {base : Nat} {e : TypeId} {sz : Nat} {v : Value} {n : Nat} {xs : List Value} (hne : ∀ j, v.ownBlock = some j → j ≠ b) (vs : List Value) : ∀ (w : World) (j : Nat), w.ownsRow base e sz v n xs → (putCells w b j vs).ownsRow base e sz v n xs := by
  induction vs with
  | nil => intro w j h; exact h
  | cons u vs ih => intro w j h; exact ih _ (j + 1) (ownsRow_setCell_other h (by intro he; exact hne _ he rfl) _)

set_option maxHeartbeats 8000000 in
set_option maxRecDepth 100000 in
theorem rfield_row (Q sb : Nat) (L : List Int) (q n : Nat) (hn : n ≤ 65536) (w : World) (hQ : Q < w.heap.size) (hsb : sb < w.heap.size) (hbd : ∀ c ∈ L, 0 ≤ c ∧ c < 256)
    (hb : ∀ W, Gr w W → Calls Tryd.prog 57 #[.pointer (some ⟨Q, 0, none⟩), .int .u64 65536] W fun r w' => r = .returned (.int .u64 (n : Int)) ∧ DR w' Q sb L q 0 ∧ W.grownBy w' (some Q)) :
    Calls Tryd.prog 37 #[.pointer (some ⟨Q, 0, none⟩), .int .i64 4] w fun e w' => ∃ la bl, e = .returned (.agg #[.int .i64 4, .int .u64 0, .int .i64 0, .bool false, la, .int .i64 0, .int .u64 0, .int .i64 0, .int .u64 0, .int .i64 0, .int .i64 0, .int .u64 0, .int .i64 0, .int .u64 0]) ∧ RDone w w' Q sb L q n la bl := by
  have mixed : Tryd.prog.follows .mixedOrders = true := by kernel_rfl
  have I0 := (IsB.new w #[.int .i64 0, .int .u64 0, .int .i64 0, .bool false, .slice none 0 0, .int .i64 0, .int .u64 0, .int .i64 0, .int .u64 0, .int .i64 0, .int .i64 0, .int .u64 0, .int .i64 0, .int .u64 0] 34).alloc (.cells #[.int .i64 4, .int .u64 0, .int .i64 0, .bool false, .slice none 0 0, .int .i64 0, .int .u64 0, .int .i64 0, .int .u64 0, .int .i64 0, .int .i64 0, .int .u64 0, .int .i64 0, .int .u64 0] 34)
  have I1 := IsB.new (w.alloc (.cells #[.int .i64 0, .int .u64 0, .int .i64 0, .bool false, .slice none 0 0, .int .i64 0, .int .u64 0, .int .i64 0, .int .u64 0, .int .i64 0, .int .i64 0, .int .u64 0, .int .i64 0, .int .u64 0] 34)) #[.int .i64 4, .int .u64 0, .int .i64 0, .bool false, .slice none 0 0, .int .i64 0, .int .u64 0, .int .i64 0, .int .u64 0, .int .i64 0, .int .i64 0, .int .u64 0, .int .i64 0, .int .u64 0] 34
  rw [World.size_alloc] at I1
  have HG := hide (show Gr w ((w.alloc (.cells #[.int .i64 0, .int .u64 0, .int .i64 0, .bool false, .slice none 0 0, .int .i64 0, .int .u64 0, .int .i64 0, .int .u64 0, .int .i64 0, .int .i64 0, .int .u64 0, .int .i64 0, .int .u64 0] 34)).alloc (.cells #[.int .i64 4, .int .u64 0, .int .i64 0, .bool false, .slice none 0 0, .int .i64 0, .int .u64 0, .int .i64 0, .int .u64 0, .int .i64 0, .int .i64 0, .int .u64 0, .int .i64 0, .int .u64 0] 34)) from ((Gr.refl w).alloc _).alloc _)
  have hrow := hide (hb _ HG.out)
  have hl01 := I1.lt
  replace I0 := hide I0
  replace I1 := hide I1
  have HBD := hide hbd
  clear hb hbd
  go_enter Tryd.func37, Tryd.ntmps37
  go_wp2_with fail
  generalize (w.alloc (.cells #[.int .i64 0, .int .u64 0, .int .i64 0, .bool false, .slice none 0 0, .int .i64 0, .int .u64 0, .int .i64 0, .int .u64 0, .int .i64 0, .int .i64 0, .int .u64 0, .int .i64 0, .int .u64 0] 34)).alloc (.cells #[.int .i64 4, .int .u64 0, .int .i64 0, .bool false, .slice none 0 0, .int .i64 0, .int .u64 0, .int .i64 0, .int .u64 0, .int .i64 0, .int .i64 0, .int .u64 0, .int .i64 0, .int .u64 0] 34) = W0 at I0 I1 HG hrow hl01 ⊢
  refine hrow.out.mono ?_
  rintro e w1 ⟨rfl, hrd, hgr⟩
  have hlW0 : w.heap.size + 1 < W0.heap.size := hl01
  have hsz := hgr.size
  have hle := hrd.le
  have HR := hide (RL.mk (w := w) (wr := w1) (Q := Q) (sb := sb) (L := L) (q := q) (n := n) (k := 0) (la := .slice none 0 0) (bl := []) ⟨rfl, Or.inl ⟨rfl, rfl⟩⟩ (I0.out.grown hgr (by intro h; simp only [Option.some.injEq] at h; omega)) (I1.out.grown hgr (by intro h; simp only [Option.some.injEq] at h; omega)) (grown_trans (grown_of_gr HG.out _) hgr) (by omega) (Or.inl ⟨by simp, by omega, hrd⟩))
  clear hrow hrd hgr I0 I1 HG
  go_wp2
  go_loopw [7] (fun i wr => ∃ (k : Nat) (la : Value) (bl : List Int), i = .int .u64 (k : Int) ∧ k ≤ n ∧ Hid (RL w wr Q sb L q n k la bl)) (fun i _ => (65537 - intOf i).toNat)
  case atStart => exact ⟨0, _, _, rfl, by omega, HR⟩
  case round =>
    clear HR
    obtain ⟨k, la, bl, rfl, hk, HR⟩ := hrel
    by_cases hkn : k < n
    · have hkn' : (k : Int) < (n : Int) := by omega
      rcases HR.out.ph with ⟨p1, p2, p3⟩ | ⟨p1, p2, p3⟩
      · have e2 : wr.cell? ⟨Q, 2, none⟩ = some (.int .i64 0) := by obtain ⟨_, _, h1, _⟩ := p3; exact h1.cell 2
        have b4 : wr.cell? ⟨w.heap.size + 1, 4, none⟩ = some la := HR.out.at1.cell 4
        obtain ⟨c, q', er', hcb, hby, hnext⟩ : ∃ (c : Int) (q' : Nat) (er' : Int), (0 ≤ c ∧ c < 256) ∧ (Calls Tryd.prog 59 #[.pointer (some ⟨Q, 0, none⟩), .int .u8 0, .int .u8 255] wr.drew fun r w' => r = .returned (.int .u8 c) ∧ DR w' Q sb L q' er' ∧ wr.drew.grownBy w' (some Q)) ∧
            (∀ W, DR W Q sb L q' er' → (bl ++ [c] = (L.drop q).take (k + 1) ∧ q + (k + 1) ≤ L.length ∧ DR W Q sb L (q + (k + 1)) 0) ∨ ((bl ++ [c]).length ≤ n ∧ L.length < q + n ∧ DR W Q sb L L.length 32)) := by
          have hbl : bl.length = k := by rw [p1, List.length_take, List.length_drop]; omega
          have hba := rbyte_any Q sb L (q + k) 0 255 wr.drew p3
          by_cases hav : q + k < L.length
          · have hc := HBD.out _ (List.getElem_mem hav)
            rw [List.drop_eq_getElem_cons hav, pbyte_all _ _ hc] at hba
            refine ⟨L[q + k], q + (k + 1), 0, hc, hba.mono ?_, fun W hW => Or.inl ⟨?_, by omega, hW⟩⟩
            · rintro r w' ⟨⟨rfl, h1⟩, h2⟩; exact ⟨rfl, h1, h2⟩
            · rw [List.take_succ_eq_append_getElem (by rw [List.length_drop]; omega), ← p1, List.getElem_drop]
          · have hl : q + k = L.length := by omega
            have hb0 : pbyte 0 255 (L.drop (q + k)) = .bad 0 32 := by rw [List.drop_eq_nil_of_le (by omega)]; rfl
            rw [hb0] at hba
            refine ⟨0, L.length, 32, by omega, hba.mono ?_, fun W hW => Or.inr ⟨by rw [List.length_append, List.length_singleton]; omega, by omega, hW⟩⟩
            rintro r w' ⟨⟨rfl, h1, _⟩, h2⟩; exact ⟨rfl, by rw [← hl]; exact h1, h2⟩
        have hbl : bl.length ≤ 65536 := by rw [p1, List.length_take]; omega
        replace hby := hide hby
        replace hnext := hide hnext
        have hsi := HR.out.si
        have bd4 : wr.drew.cell? ⟨w.heap.size + 1, 4, none⟩ = some la := b4
        clear p1 p2 p3
        obtain ⟨i0, hi, hz0, hz1, hz2⟩ := info_parts Tryd.infoU8
        go_wp2_with fail
        refine wp_region_noPanic ?_
        refine wp_region_held_drew (S := fun _ => True) (by assumption) trivial (fun _ => ?_)
        refine take_yes (v := ?_) 0 (some 43) rfl rfl (by kernel_rfl) (by kernel_rfl) (by kernel_rfl) (fun _ _ _ h => (h : False).elim) (by rfl) ?_ trivial ?_
        rotate_left
        · intro w' hSw
          go_simp
          try with_reducible rfl
        try simp only [Act.put, List.setIfInBounds_toArray, List.set_cons_zero, List.set_cons_succ]
        refine take_yes (v := ?_) 2 (some 45) rfl rfl (by kernel_rfl) (by kernel_rfl) (by kernel_rfl) (fun _ _ _ h => (h : False).elim) (by rfl) ?_ trivial ?_
        rotate_left
        · intro w' hSw
          go_simp
          try with_reducible rfl
        try simp only [Act.put, List.setIfInBounds_toArray, List.set_cons_zero, List.set_cons_succ]
        refine wpAnyH_ready (rs := [1, 3]) (by kernel_rfl) (by simp) ?_
        refine (AllReadyH.cons rfl (fun K hK => ?_) (AllReadyH.cons rfl (fun K hK => ?_) AllReadyH.nil))
        · go_simp
          refine hK.out _ _ trivial (fun _ => ?_)
          clear hK K
          try simp only [Act.put, List.setIfInBounds_toArray, List.set_cons_zero, List.set_cons_succ]
          refine wpAnyH_ready (rs := [3]) (by kernel_rfl) (by simp) ?_
          refine (AllReadyH.cons rfl (fun K hK => ?_) AllReadyH.nil)
          · go_simp
            go_at_call 59
            refine hby.out.mono ?_
            rintro e w5 ⟨rfl, hd5, hg5'⟩
            have hg5 : wr.grownBy w5 (some Q) := grown_trans (grown_of_gr ((Gr.refl wr).drew) (some Q)) hg5'
            clear hg5'
            have hs5 := hg5.size
            have HA0 := hide ((HR.out.at0.grown hg5 (by intro h; simp only [Option.some.injEq] at h; omega)).alloc (.cells #[.int .u8 c] 5))
            have HI1 := HR.out.at1.grown hg5 (by intro h; simp only [Option.some.injEq] at h; omega)
            have HA1 := hide (HI1.alloc (.cells #[.int .u8 c] 5))
            have HO5 := hide ((HR.out.own.kept hg5 (by right; intro he; have := HR.out.own.lt _ he; omega)).alloc (.cells #[.int .u8 c] 5))
            have HOL : Hid (∀ j, la.ownBlock = some j → w.heap.size + 1 + 1 ≤ j) := fun j hj => (HR.out.own.lt j hj).1
            have HD5 := hide (hd5.gr ((Gr.refl w5).alloc (.cells #[.int .u8 c] 5)))
            have HG5 := hide (grown_trans (grown_trans HR.out.gr hg5) (grown_of_gr ((Gr.refl w5).alloc (.cells #[.int .u8 c] 5)) _))
            have c4 : w5.cell? ⟨w.heap.size + 1, 4, none⟩ = some la := HI1.cell 4
            have d4 : (w5.alloc (.cells #[.int .u8 c] 5)).cell? ⟨w.heap.size + 1, 4, none⟩ = some la := HA1.out.cell 4
            clear hd5 hg5 HI1
            first | refine hK.out _ _ trivial (fun _ => ?_) | (go_wp2_with fail; refine hK.out _ _ trivial (fun _ => ?_))
            clear hK K
            try simp only [Act.put, List.setIfInBounds_toArray, List.set_cons_zero, List.set_cons_succ]
            refine wpAnyH_ready (rs := [4]) (by kernel_rfl) (by simp) ?_
            refine (AllReadyH.cons rfl (fun K hK => ?_) AllReadyH.nil)
            · go_simp
              refine hK.out _ _ trivial (fun _ => ?_)
              clear hK K
              try simp only [Act.put, List.setIfInBounds_toArray, List.set_cons_zero, List.set_cons_succ]
              refine wpAnyH_ready (rs := [5]) (by kernel_rfl) (by simp) ?_
              refine (AllReadyH.cons rfl (fun K hK => ?_) AllReadyH.nil)
              · refine step_append_lies _ (by rfl) (.tmp 44) (.tmp 47) 25 (by rfl) (w.heap.size + 1 + 1) 5 i0 (.int .u8 0) 1 1 Tryd.underlying25 hi hz0 hz1 hz2 rfl (by decide) _ _ _ (by rfl) HO5.out ⟨w5.heap.size, 0, none⟩ 1 1 #[.int .u8 c].toList (by rfl) rfl (World.news_of_block (heap_alloc_new w5 _)) (by intro u hu; simp at hu; subst hu; rfl) (by decide) (by unfold maxLen; omega) (by omega) (by rw [World.size_alloc]; omega) (w5.heap.size + 1) (World.size_alloc _ _) ?_
                intro g6 c6 w6 hown6 hgrow6 _ hg6
                have hs6 := hgrow6.size
                have hs7 := World.size_alloc w5 (.cells #[.int .u8 c] 5)
                have hown6' : w6.ownsRow (w.heap.size + 1 + 1) 5 1 (.slice (some ⟨g6, 0, none⟩) (bl.length + 1) c6) (bl.length + 1) (u8s (bl ++ [c])) := by rw [u8s_app]; exact hown6
                have HO6 := hide hown6'
                have HB0 := hide (HA0.out.grown hgrow6 (by intro he; have := HOL.out _ he.symm; omega))
                have HB1 := hide (HA1.out.grown hgrow6 (by intro he; have := HOL.out _ he.symm; omega))
                have HD6 := hide (HD5.out.grown hgrow6 (by intro he; have := HOL.out _ he.symm; omega) (by intro he; have := HOL.out _ he.symm; omega))
                have HG6 := hide (grown_far HG5.out hgrow6 (fun j hj => by have := HOL.out _ hj; omega))
                have s2 : w6.cell? ⟨w.heap.size + 1, 4, none⟩ = some la := HB1.out.cell 4
                have s3 := HB1.out.free 4
                clear hown6 hown6' hgrow6 HA0 HA1 HD5 HG5 HO5 HOL
                refine hK.out _ _ trivial (fun _ => ?_)
                clear hK K
                try simp only [Act.put, List.setIfInBounds_toArray]
                refine wpAnyH_ready (rs := [6]) (by kernel_rfl) (by simp) ?_
                refine (AllReadyH.cons rfl (fun K hK => ?_) AllReadyH.nil)
                · go_simp
                  refine hK.out _ _ trivial (fun _ => ?_)
                  clear hK K
                  try simp only [Act.put, List.setIfInBounds_toArray, List.set_cons_zero, List.set_cons_succ]
                  refine wpAnyH_ready (rs := [7]) (by kernel_rfl) (by simp) ?_
                  refine (AllReadyH.cons rfl (fun K hK => ?_) AllReadyH.nil)
                  · go_simp
                    refine hK.out _ _ trivial (fun _ => ?_)
                    clear hK K
                    try simp only [Act.put, List.setIfInBounds_toArray]
                    refine wpAnyH_done (by kernel_rfl) ?_ _
                    refine NoPanic.normal ?_
                    have HN : Hid (RL w (w6.setCell ⟨w.heap.size + 1, 4, none⟩ (.slice (some ⟨g6, 0, none⟩) (bl.length + 1) c6)) Q sb L q n (k + 1) (.slice (some ⟨g6, 0, none⟩) (bl.length + 1) c6) (bl ++ [c])) := ⟨by rw [List.length_append, List.length_singleton]; exact ownsRow_setCell_other HO6.out (a := ⟨w.heap.size + 1, 4, none⟩) (by simp only [Value.ownBlock, ne_eq, Option.some.injEq]; have := HO6.out.lt g6 rfl; omega) _, HB0.out.setOther (a := ⟨w.heap.size + 1, 4, none⟩) (by simp) _, HB1.out.setj 4 _, grown_new HG6.out (a := ⟨w.heap.size + 1, 4, none⟩) (by simp) _, by rw [size_setCell]; omega, hnext.out _ (HD6.out.set (a := ⟨w.heap.size + 1, 4, none⟩) (by simp only []; omega) (by simp only []; omega) _)⟩
                    clear HO6 HB0 HB1 HG6 HD6 s2 s3
                    generalize w6.setCell ⟨w.heap.size + 1, 4, none⟩ (.slice (some ⟨g6, 0, none⟩) (bl.length + 1) c6) = w7 at HN ⊢
                    go_wp2
                    go_roundw
                    case rel => exact ⟨k + 1, _, _, by go_num, by omega, HN⟩
                    case measure => simp [intOf]; omega
        · go_simp
          go_at_call 59
          refine hby.out.mono ?_
          rintro e w5 ⟨rfl, hd5, hg5'⟩
          have hg5 : wr.grownBy w5 (some Q) := grown_trans (grown_of_gr ((Gr.refl wr).drew) (some Q)) hg5'
          clear hg5'
          have hs5 := hg5.size
          have HA0 := hide ((HR.out.at0.grown hg5 (by intro h; simp only [Option.some.injEq] at h; omega)).alloc (.cells #[.int .u8 c] 5))
          have HI1 := HR.out.at1.grown hg5 (by intro h; simp only [Option.some.injEq] at h; omega)
          have HA1 := hide (HI1.alloc (.cells #[.int .u8 c] 5))
          have HO5 := hide ((HR.out.own.kept hg5 (by right; intro he; have := HR.out.own.lt _ he; omega)).alloc (.cells #[.int .u8 c] 5))
          have HOL : Hid (∀ j, la.ownBlock = some j → w.heap.size + 1 + 1 ≤ j) := fun j hj => (HR.out.own.lt j hj).1
          have HD5 := hide (hd5.gr ((Gr.refl w5).alloc (.cells #[.int .u8 c] 5)))
          have HG5 := hide (grown_trans (grown_trans HR.out.gr hg5) (grown_of_gr ((Gr.refl w5).alloc (.cells #[.int .u8 c] 5)) _))
          have c4 : w5.cell? ⟨w.heap.size + 1, 4, none⟩ = some la := HI1.cell 4
          have d4 : (w5.alloc (.cells #[.int .u8 c] 5)).cell? ⟨w.heap.size + 1, 4, none⟩ = some la := HA1.out.cell 4
          clear hd5 hg5 HI1
          first | refine hK.out _ _ trivial (fun _ => ?_) | (go_wp2_with fail; refine hK.out _ _ trivial (fun _ => ?_))
          clear hK K
          try simp only [Act.put, List.setIfInBounds_toArray, List.set_cons_zero, List.set_cons_succ]
          refine wpAnyH_ready (rs := [1, 4]) (by kernel_rfl) (by simp) ?_
          refine (AllReadyH.cons rfl (fun K hK => ?_) (AllReadyH.cons rfl (fun K hK => ?_) AllReadyH.nil))
          · go_simp
            refine hK.out _ _ trivial (fun _ => ?_)
            clear hK K
            try simp only [Act.put, List.setIfInBounds_toArray, List.set_cons_zero, List.set_cons_succ]
            refine wpAnyH_ready (rs := [4]) (by kernel_rfl) (by simp) ?_
            refine (AllReadyH.cons rfl (fun K hK => ?_) AllReadyH.nil)
            · go_simp
              refine hK.out _ _ trivial (fun _ => ?_)
              clear hK K
              try simp only [Act.put, List.setIfInBounds_toArray, List.set_cons_zero, List.set_cons_succ]
              refine wpAnyH_ready (rs := [5]) (by kernel_rfl) (by simp) ?_
              refine (AllReadyH.cons rfl (fun K hK => ?_) AllReadyH.nil)
              · refine step_append_lies _ (by rfl) (.tmp 44) (.tmp 47) 25 (by rfl) (w.heap.size + 1 + 1) 5 i0 (.int .u8 0) 1 1 Tryd.underlying25 hi hz0 hz1 hz2 rfl (by decide) _ _ _ (by rfl) HO5.out ⟨w5.heap.size, 0, none⟩ 1 1 #[.int .u8 c].toList (by rfl) rfl (World.news_of_block (heap_alloc_new w5 _)) (by intro u hu; simp at hu; subst hu; rfl) (by decide) (by unfold maxLen; omega) (by omega) (by rw [World.size_alloc]; omega) (w5.heap.size + 1) (World.size_alloc _ _) ?_
                intro g6 c6 w6 hown6 hgrow6 _ hg6
                have hs6 := hgrow6.size
                have hs7 := World.size_alloc w5 (.cells #[.int .u8 c] 5)
                have hown6' : w6.ownsRow (w.heap.size + 1 + 1) 5 1 (.slice (some ⟨g6, 0, none⟩) (bl.length + 1) c6) (bl.length + 1) (u8s (bl ++ [c])) := by rw [u8s_app]; exact hown6
                have HO6 := hide hown6'
                have HB0 := hide (HA0.out.grown hgrow6 (by intro he; have := HOL.out _ he.symm; omega))
                have HB1 := hide (HA1.out.grown hgrow6 (by intro he; have := HOL.out _ he.symm; omega))
                have HD6 := hide (HD5.out.grown hgrow6 (by intro he; have := HOL.out _ he.symm; omega) (by intro he; have := HOL.out _ he.symm; omega))
                have HG6 := hide (grown_far HG5.out hgrow6 (fun j hj => by have := HOL.out _ hj; omega))
                have s2 : w6.cell? ⟨w.heap.size + 1, 4, none⟩ = some la := HB1.out.cell 4
                have s3 := HB1.out.free 4
                clear hown6 hown6' hgrow6 HA0 HA1 HD5 HG5 HO5 HOL
                refine hK.out _ _ trivial (fun _ => ?_)
                clear hK K
                try simp only [Act.put, List.setIfInBounds_toArray]
                refine wpAnyH_ready (rs := [6]) (by kernel_rfl) (by simp) ?_
                refine (AllReadyH.cons rfl (fun K hK => ?_) AllReadyH.nil)
                · go_simp
                  refine hK.out _ _ trivial (fun _ => ?_)
                  clear hK K
                  try simp only [Act.put, List.setIfInBounds_toArray, List.set_cons_zero, List.set_cons_succ]
                  refine wpAnyH_ready (rs := [7]) (by kernel_rfl) (by simp) ?_
                  refine (AllReadyH.cons rfl (fun K hK => ?_) AllReadyH.nil)
                  · go_simp
                    refine hK.out _ _ trivial (fun _ => ?_)
                    clear hK K
                    try simp only [Act.put, List.setIfInBounds_toArray]
                    refine wpAnyH_done (by kernel_rfl) ?_ _
                    refine NoPanic.normal ?_
                    have HN : Hid (RL w (w6.setCell ⟨w.heap.size + 1, 4, none⟩ (.slice (some ⟨g6, 0, none⟩) (bl.length + 1) c6)) Q sb L q n (k + 1) (.slice (some ⟨g6, 0, none⟩) (bl.length + 1) c6) (bl ++ [c])) := ⟨by rw [List.length_append, List.length_singleton]; exact ownsRow_setCell_other HO6.out (a := ⟨w.heap.size + 1, 4, none⟩) (by simp only [Value.ownBlock, ne_eq, Option.some.injEq]; have := HO6.out.lt g6 rfl; omega) _, HB0.out.setOther (a := ⟨w.heap.size + 1, 4, none⟩) (by simp) _, HB1.out.setj 4 _, grown_new HG6.out (a := ⟨w.heap.size + 1, 4, none⟩) (by simp) _, by rw [size_setCell]; omega, hnext.out _ (HD6.out.set (a := ⟨w.heap.size + 1, 4, none⟩) (by simp only []; omega) (by simp only []; omega) _)⟩
                    clear HO6 HB0 HB1 HG6 HD6 s2 s3
                    generalize w6.setCell ⟨w.heap.size + 1, 4, none⟩ (.slice (some ⟨g6, 0, none⟩) (bl.length + 1) c6) = w7 at HN ⊢
                    go_wp2
                    go_roundw
                    case rel => exact ⟨k + 1, _, _, by go_num, by omega, HN⟩
                    case measure => simp [intOf]; omega
          · go_simp
            refine hK.out _ _ trivial (fun _ => ?_)
            clear hK K
            try simp only [Act.put, List.setIfInBounds_toArray, List.set_cons_zero, List.set_cons_succ]
            refine wpAnyH_ready (rs := [1]) (by kernel_rfl) (by simp) ?_
            refine (AllReadyH.cons rfl (fun K hK => ?_) AllReadyH.nil)
            · go_simp
              refine hK.out _ _ trivial (fun _ => ?_)
              clear hK K
              try simp only [Act.put, List.setIfInBounds_toArray, List.set_cons_zero, List.set_cons_succ]
              refine wpAnyH_ready (rs := [5]) (by kernel_rfl) (by simp) ?_
              refine (AllReadyH.cons rfl (fun K hK => ?_) AllReadyH.nil)
              · refine step_append_lies _ (by rfl) (.tmp 44) (.tmp 47) 25 (by rfl) (w.heap.size + 1 + 1) 5 i0 (.int .u8 0) 1 1 Tryd.underlying25 hi hz0 hz1 hz2 rfl (by decide) _ _ _ (by rfl) HO5.out ⟨w5.heap.size, 0, none⟩ 1 1 #[.int .u8 c].toList (by rfl) rfl (World.news_of_block (heap_alloc_new w5 _)) (by intro u hu; simp at hu; subst hu; rfl) (by decide) (by unfold maxLen; omega) (by omega) (by rw [World.size_alloc]; omega) (w5.heap.size + 1) (World.size_alloc _ _) ?_
                intro g6 c6 w6 hown6 hgrow6 _ hg6
                have hs6 := hgrow6.size
                have hs7 := World.size_alloc w5 (.cells #[.int .u8 c] 5)
                have hown6' : w6.ownsRow (w.heap.size + 1 + 1) 5 1 (.slice (some ⟨g6, 0, none⟩) (bl.length + 1) c6) (bl.length + 1) (u8s (bl ++ [c])) := by rw [u8s_app]; exact hown6
                have HO6 := hide hown6'
                have HB0 := hide (HA0.out.grown hgrow6 (by intro he; have := HOL.out _ he.symm; omega))
                have HB1 := hide (HA1.out.grown hgrow6 (by intro he; have := HOL.out _ he.symm; omega))
                have HD6 := hide (HD5.out.grown hgrow6 (by intro he; have := HOL.out _ he.symm; omega) (by intro he; have := HOL.out _ he.symm; omega))
                have HG6 := hide (grown_far HG5.out hgrow6 (fun j hj => by have := HOL.out _ hj; omega))
                have s2 : w6.cell? ⟨w.heap.size + 1, 4, none⟩ = some la := HB1.out.cell 4
                have s3 := HB1.out.free 4
                clear hown6 hown6' hgrow6 HA0 HA1 HD5 HG5 HO5 HOL
                refine hK.out _ _ trivial (fun _ => ?_)
                clear hK K
                try simp only [Act.put, List.setIfInBounds_toArray]
                refine wpAnyH_ready (rs := [6]) (by kernel_rfl) (by simp) ?_
                refine (AllReadyH.cons rfl (fun K hK => ?_) AllReadyH.nil)
                · go_simp
                  refine hK.out _ _ trivial (fun _ => ?_)
                  clear hK K
                  try simp only [Act.put, List.setIfInBounds_toArray, List.set_cons_zero, List.set_cons_succ]
                  refine wpAnyH_ready (rs := [7]) (by kernel_rfl) (by simp) ?_
                  refine (AllReadyH.cons rfl (fun K hK => ?_) AllReadyH.nil)
                  · go_simp
                    refine hK.out _ _ trivial (fun _ => ?_)
                    clear hK K
                    try simp only [Act.put, List.setIfInBounds_toArray]
                    refine wpAnyH_done (by kernel_rfl) ?_ _
                    refine NoPanic.normal ?_
                    have HN : Hid (RL w (w6.setCell ⟨w.heap.size + 1, 4, none⟩ (.slice (some ⟨g6, 0, none⟩) (bl.length + 1) c6)) Q sb L q n (k + 1) (.slice (some ⟨g6, 0, none⟩) (bl.length + 1) c6) (bl ++ [c])) := ⟨by rw [List.length_append, List.length_singleton]; exact ownsRow_setCell_other HO6.out (a := ⟨w.heap.size + 1, 4, none⟩) (by simp only [Value.ownBlock, ne_eq, Option.some.injEq]; have := HO6.out.lt g6 rfl; omega) _, HB0.out.setOther (a := ⟨w.heap.size + 1, 4, none⟩) (by simp) _, HB1.out.setj 4 _, grown_new HG6.out (a := ⟨w.heap.size + 1, 4, none⟩) (by simp) _, by rw [size_setCell]; omega, hnext.out _ (HD6.out.set (a := ⟨w.heap.size + 1, 4, none⟩) (by simp only []; omega) (by simp only []; omega) _)⟩
                    clear HO6 HB0 HB1 HG6 HD6 s2 s3
                    generalize w6.setCell ⟨w.heap.size + 1, 4, none⟩ (.slice (some ⟨g6, 0, none⟩) (bl.length + 1) c6) = w7 at HN ⊢
                    go_wp2
                    go_roundw
                    case rel => exact ⟨k + 1, _, _, by go_num, by omega, HN⟩
                    case measure => simp [intOf]; omega
      · have e2 : wr.cell? ⟨Q, 2, none⟩ = some (.int .i64 32) := by obtain ⟨_, _, h1, _⟩ := p3; exact h1.cell 2
        have he2 : ((32 : Int) == 0) = false := rfl
        obtain ⟨la, lc, rfl⟩ : ∃ a cp, la = .slice a bl.length cp := by
          rcases HR.out.own.2 with ⟨h1, h2⟩ | ⟨g, cp, cur, h1, _⟩
          · exact ⟨none, 0, by rw [h1, h2]⟩
          · exact ⟨_, _, h1⟩
        have a0 : wr.cell? ⟨w.heap.size, 0, none⟩ = some (.int .i64 0) := HR.out.at0.cell 0
        have a1 : wr.cell? ⟨w.heap.size, 1, none⟩ = some (.int .u64 0) := HR.out.at0.cell 1
        have a2 : wr.cell? ⟨w.heap.size, 2, none⟩ = some (.int .i64 0) := HR.out.at0.cell 2
        have a3 : wr.cell? ⟨w.heap.size, 3, none⟩ = some (.bool false) := HR.out.at0.cell 3
        have a4 : wr.cell? ⟨w.heap.size, 4, none⟩ = some (.slice none 0 0) := HR.out.at0.cell 4
        have a5 : wr.cell? ⟨w.heap.size, 5, none⟩ = some (.int .i64 0) := HR.out.at0.cell 5
        have a6 : wr.cell? ⟨w.heap.size, 6, none⟩ = some (.int .u64 0) := HR.out.at0.cell 6
        have a7 : wr.cell? ⟨w.heap.size, 7, none⟩ = some (.int .i64 0) := HR.out.at0.cell 7
        have a8 : wr.cell? ⟨w.heap.size, 8, none⟩ = some (.int .u64 0) := HR.out.at0.cell 8
        have a9 : wr.cell? ⟨w.heap.size, 9, none⟩ = some (.int .i64 0) := HR.out.at0.cell 9
        have a10 : wr.cell? ⟨w.heap.size, 10, none⟩ = some (.int .i64 0) := HR.out.at0.cell 10
        have a11 : wr.cell? ⟨w.heap.size, 11, none⟩ = some (.int .u64 0) := HR.out.at0.cell 11
        have a12 : wr.cell? ⟨w.heap.size, 12, none⟩ = some (.int .i64 0) := HR.out.at0.cell 12
        have a13 : wr.cell? ⟨w.heap.size, 13, none⟩ = some (.int .u64 0) := HR.out.at0.cell 13
        have b0 : wr.cell? ⟨w.heap.size + 1, 0, none⟩ = some (.int .i64 4) := HR.out.at1.cell 0
        have b1 : wr.cell? ⟨w.heap.size + 1, 1, none⟩ = some (.int .u64 0) := HR.out.at1.cell 1
        have b2 : wr.cell? ⟨w.heap.size + 1, 2, none⟩ = some (.int .i64 0) := HR.out.at1.cell 2
        have b3 : wr.cell? ⟨w.heap.size + 1, 3, none⟩ = some (.bool false) := HR.out.at1.cell 3
        have b4 : wr.cell? ⟨w.heap.size + 1, 4, none⟩ = some (.slice la bl.length lc) := HR.out.at1.cell 4
        have b5 : wr.cell? ⟨w.heap.size + 1, 5, none⟩ = some (.int .i64 0) := HR.out.at1.cell 5
        have b6 : wr.cell? ⟨w.heap.size + 1, 6, none⟩ = some (.int .u64 0) := HR.out.at1.cell 6
        have b7 : wr.cell? ⟨w.heap.size + 1, 7, none⟩ = some (.int .i64 0) := HR.out.at1.cell 7
        have b8 : wr.cell? ⟨w.heap.size + 1, 8, none⟩ = some (.int .u64 0) := HR.out.at1.cell 8
        have b9 : wr.cell? ⟨w.heap.size + 1, 9, none⟩ = some (.int .i64 0) := HR.out.at1.cell 9
        have b10 : wr.cell? ⟨w.heap.size + 1, 10, none⟩ = some (.int .i64 0) := HR.out.at1.cell 10
        have b11 : wr.cell? ⟨w.heap.size + 1, 11, none⟩ = some (.int .u64 0) := HR.out.at1.cell 11
        have b12 : wr.cell? ⟨w.heap.size + 1, 12, none⟩ = some (.int .i64 0) := HR.out.at1.cell 12
        have b13 : wr.cell? ⟨w.heap.size + 1, 13, none⟩ = some (.int .u64 0) := HR.out.at1.cell 13
        have f0 := HR.out.at0.free 0
        have f1 := HR.out.at0.free 1
        have f2 := HR.out.at0.free 2
        have f3 := HR.out.at0.free 3
        have f4 := HR.out.at0.free 4
        have f5 := HR.out.at0.free 5
        have f6 := HR.out.at0.free 6
        have f7 := HR.out.at0.free 7
        have f8 := HR.out.at0.free 8
        have f9 := HR.out.at0.free 9
        have f10 := HR.out.at0.free 10
        have f11 := HR.out.at0.free 11
        have f12 := HR.out.at0.free 12
        have f13 := HR.out.at0.free 13
        go_wp2
        have hW : ((((((((((((((wr.setCell ⟨w.heap.size, 0, none⟩ (.int .i64 4)).setCell ⟨w.heap.size, 1, none⟩ (.int .u64 0)).setCell ⟨w.heap.size, 2, none⟩ (.int .i64 0)).setCell ⟨w.heap.size, 3, none⟩ (.bool false)).setCell ⟨w.heap.size, 4, none⟩ (.slice la bl.length lc)).setCell ⟨w.heap.size, 5, none⟩ (.int .i64 0)).setCell ⟨w.heap.size, 6, none⟩ (.int .u64 0)).setCell ⟨w.heap.size, 7, none⟩ (.int .i64 0)).setCell ⟨w.heap.size, 8, none⟩ (.int .u64 0)).setCell ⟨w.heap.size, 9, none⟩ (.int .i64 0)).setCell ⟨w.heap.size, 10, none⟩ (.int .i64 0)).setCell ⟨w.heap.size, 11, none⟩ (.int .u64 0)).setCell ⟨w.heap.size, 12, none⟩ (.int .i64 0)).setCell ⟨w.heap.size, 13, none⟩ (.int .u64 0)) = putCells wr w.heap.size 0 [.int .i64 4, .int .u64 0, .int .i64 0, .bool false, .slice la bl.length lc, .int .i64 0, .int .u64 0, .int .i64 0, .int .u64 0, .int .i64 0, .int .i64 0, .int .u64 0, .int .i64 0, .int .u64 0] := rfl
        rw [hW]
        clear hW
        have hfin := putCells_is (cs := [.int .i64 0, .int .u64 0, .int .i64 0, .bool false, .slice none 0 0, .int .i64 0, .int .u64 0, .int .i64 0, .int .u64 0, .int .i64 0, .int .i64 0, .int .u64 0, .int .i64 0, .int .u64 0]) HR.out.at0 [.int .i64 4, .int .u64 0, .int .i64 0, .bool false, .slice la bl.length lc, .int .i64 0, .int .u64 0, .int .i64 0, .int .u64 0, .int .i64 0, .int .i64 0, .int .u64 0, .int .i64 0, .int .u64 0] rfl
        have hat1 := putCells_other (b := w.heap.size) (show w.heap.size + 1 ≠ w.heap.size by omega) [.int .i64 4, .int .u64 0, .int .i64 0, .bool false, .slice la bl.length lc, .int .i64 0, .int .u64 0, .int .i64 0, .int .u64 0, .int .i64 0, .int .i64 0, .int .u64 0, .int .i64 0, .int .u64 0] _ 0 HR.out.at1
        have hgr := putCells_grown (b := w.heap.size) (Nat.le_refl _) [.int .i64 4, .int .u64 0, .int .i64 0, .bool false, .slice la bl.length lc, .int .i64 0, .int .u64 0, .int .i64 0, .int .u64 0, .int .i64 0, .int .i64 0, .int .u64 0, .int .i64 0, .int .u64 0] _ 0 HR.out.gr
        have hown := putCells_own (b := w.heap.size) (fun j hj => by have := HR.out.own.lt j hj; omega) [.int .i64 4, .int .u64 0, .int .i64 0, .bool false, .slice la bl.length lc, .int .i64 0, .int .u64 0, .int .i64 0, .int .u64 0, .int .i64 0, .int .i64 0, .int .u64 0, .int .i64 0, .int .u64 0] _ 0 HR.out.own
        have hsz7 := putCells_size w.heap.size [.int .i64 4, .int .u64 0, .int .i64 0, .bool false, .slice la bl.length lc, .int .i64 0, .int .u64 0, .int .i64 0, .int .u64 0, .int .i64 0, .int .i64 0, .int .u64 0, .int .i64 0, .int .u64 0] wr 0
        have hdr := fun (x : Nat) (y : Int) (h : DR wr Q sb L x y) => putCells_dr (b := w.heap.size) (show Q ≠ w.heap.size by omega) (show sb ≠ w.heap.size by omega) [.int .i64 4, .int .u64 0, .int .i64 0, .bool false, .slice la bl.length lc, .int .i64 0, .int .u64 0, .int .i64 0, .int .u64 0, .int .i64 0, .int .i64 0, .int .u64 0, .int .i64 0, .int .u64 0] _ 0 h
        have hph := HR.out.ph
        have hsi := HR.out.si
        generalize putCells wr w.heap.size 0 [.int .i64 4, .int .u64 0, .int .i64 0, .bool false, .slice la bl.length lc, .int .i64 0, .int .u64 0, .int .i64 0, .int .u64 0, .int .i64 0, .int .i64 0, .int .u64 0, .int .i64 0, .int .u64 0] = W at hfin hat1 hgr hown hsz7 hdr ⊢
        refine bodyPost_ret (rfield_results W _ _ hfin rfl _ rfl) rfl ?_
        first | refine ⟨_, bl, rfl, hown, hgr, by omega, ?_⟩ | refine ⟨_, rfl, bl, hown, hgr, by omega, ?_⟩
        exact Or.inr ⟨p1, p2, hdr _ _ p3⟩
    · have hkn' : ¬ ((k : Int) < (n : Int)) := by omega
      obtain rfl : k = n := by omega
      obtain ⟨la, lc, rfl⟩ : ∃ a cp, la = .slice a bl.length cp := by
        rcases HR.out.own.2 with ⟨h1, h2⟩ | ⟨g, cp, cur, h1, _⟩
        · exact ⟨none, 0, by rw [h1, h2]⟩
        · exact ⟨_, _, h1⟩
      have a0 : wr.cell? ⟨w.heap.size, 0, none⟩ = some (.int .i64 0) := HR.out.at0.cell 0
      have a1 : wr.cell? ⟨w.heap.size, 1, none⟩ = some (.int .u64 0) := HR.out.at0.cell 1
      have a2 : wr.cell? ⟨w.heap.size, 2, none⟩ = some (.int .i64 0) := HR.out.at0.cell 2
      have a3 : wr.cell? ⟨w.heap.size, 3, none⟩ = some (.bool false) := HR.out.at0.cell 3
      have a4 : wr.cell? ⟨w.heap.size, 4, none⟩ = some (.slice none 0 0) := HR.out.at0.cell 4
      have a5 : wr.cell? ⟨w.heap.size, 5, none⟩ = some (.int .i64 0) := HR.out.at0.cell 5
      have a6 : wr.cell? ⟨w.heap.size, 6, none⟩ = some (.int .u64 0) := HR.out.at0.cell 6
      have a7 : wr.cell? ⟨w.heap.size, 7, none⟩ = some (.int .i64 0) := HR.out.at0.cell 7
      have a8 : wr.cell? ⟨w.heap.size, 8, none⟩ = some (.int .u64 0) := HR.out.at0.cell 8
      have a9 : wr.cell? ⟨w.heap.size, 9, none⟩ = some (.int .i64 0) := HR.out.at0.cell 9
      have a10 : wr.cell? ⟨w.heap.size, 10, none⟩ = some (.int .i64 0) := HR.out.at0.cell 10
      have a11 : wr.cell? ⟨w.heap.size, 11, none⟩ = some (.int .u64 0) := HR.out.at0.cell 11
      have a12 : wr.cell? ⟨w.heap.size, 12, none⟩ = some (.int .i64 0) := HR.out.at0.cell 12
      have a13 : wr.cell? ⟨w.heap.size, 13, none⟩ = some (.int .u64 0) := HR.out.at0.cell 13
      have b0 : wr.cell? ⟨w.heap.size + 1, 0, none⟩ = some (.int .i64 4) := HR.out.at1.cell 0
      have b1 : wr.cell? ⟨w.heap.size + 1, 1, none⟩ = some (.int .u64 0) := HR.out.at1.cell 1
      have b2 : wr.cell? ⟨w.heap.size + 1, 2, none⟩ = some (.int .i64 0) := HR.out.at1.cell 2
      have b3 : wr.cell? ⟨w.heap.size + 1, 3, none⟩ = some (.bool false) := HR.out.at1.cell 3
      have b4 : wr.cell? ⟨w.heap.size + 1, 4, none⟩ = some (.slice la bl.length lc) := HR.out.at1.cell 4
      have b5 : wr.cell? ⟨w.heap.size + 1, 5, none⟩ = some (.int .i64 0) := HR.out.at1.cell 5
      have b6 : wr.cell? ⟨w.heap.size + 1, 6, none⟩ = some (.int .u64 0) := HR.out.at1.cell 6
      have b7 : wr.cell? ⟨w.heap.size + 1, 7, none⟩ = some (.int .i64 0) := HR.out.at1.cell 7
      have b8 : wr.cell? ⟨w.heap.size + 1, 8, none⟩ = some (.int .u64 0) := HR.out.at1.cell 8
      have b9 : wr.cell? ⟨w.heap.size + 1, 9, none⟩ = some (.int .i64 0) := HR.out.at1.cell 9
      have b10 : wr.cell? ⟨w.heap.size + 1, 10, none⟩ = some (.int .i64 0) := HR.out.at1.cell 10
      have b11 : wr.cell? ⟨w.heap.size + 1, 11, none⟩ = some (.int .u64 0) := HR.out.at1.cell 11
      have b12 : wr.cell? ⟨w.heap.size + 1, 12, none⟩ = some (.int .i64 0) := HR.out.at1.cell 12
      have b13 : wr.cell? ⟨w.heap.size + 1, 13, none⟩ = some (.int .u64 0) := HR.out.at1.cell 13
      have f0 := HR.out.at0.free 0
      have f1 := HR.out.at0.free 1
      have f2 := HR.out.at0.free 2
      have f3 := HR.out.at0.free 3
      have f4 := HR.out.at0.free 4
      have f5 := HR.out.at0.free 5
      have f6 := HR.out.at0.free 6
      have f7 := HR.out.at0.free 7
      have f8 := HR.out.at0.free 8
      have f9 := HR.out.at0.free 9
      have f10 := HR.out.at0.free 10
      have f11 := HR.out.at0.free 11
      have f12 := HR.out.at0.free 12
      have f13 := HR.out.at0.free 13
      go_wp2
      have hW : ((((((((((((((wr.setCell ⟨w.heap.size, 0, none⟩ (.int .i64 4)).setCell ⟨w.heap.size, 1, none⟩ (.int .u64 0)).setCell ⟨w.heap.size, 2, none⟩ (.int .i64 0)).setCell ⟨w.heap.size, 3, none⟩ (.bool false)).setCell ⟨w.heap.size, 4, none⟩ (.slice la bl.length lc)).setCell ⟨w.heap.size, 5, none⟩ (.int .i64 0)).setCell ⟨w.heap.size, 6, none⟩ (.int .u64 0)).setCell ⟨w.heap.size, 7, none⟩ (.int .i64 0)).setCell ⟨w.heap.size, 8, none⟩ (.int .u64 0)).setCell ⟨w.heap.size, 9, none⟩ (.int .i64 0)).setCell ⟨w.heap.size, 10, none⟩ (.int .i64 0)).setCell ⟨w.heap.size, 11, none⟩ (.int .u64 0)).setCell ⟨w.heap.size, 12, none⟩ (.int .i64 0)).setCell ⟨w.heap.size, 13, none⟩ (.int .u64 0)) = putCells wr w.heap.size 0 [.int .i64 4, .int .u64 0, .int .i64 0, .bool false, .slice la bl.length lc, .int .i64 0, .int .u64 0, .int .i64 0, .int .u64 0, .int .i64 0, .int .i64 0, .int .u64 0, .int .i64 0, .int .u64 0] := rfl
      rw [hW]
      clear hW
      have hfin := putCells_is (cs := [.int .i64 0, .int .u64 0, .int .i64 0, .bool false, .slice none 0 0, .int .i64 0, .int .u64 0, .int .i64 0, .int .u64 0, .int .i64 0, .int .i64 0, .int .u64 0, .int .i64 0, .int .u64 0]) HR.out.at0 [.int .i64 4, .int .u64 0, .int .i64 0, .bool false, .slice la bl.length lc, .int .i64 0, .int .u64 0, .int .i64 0, .int .u64 0, .int .i64 0, .int .i64 0, .int .u64 0, .int .i64 0, .int .u64 0] rfl
      have hat1 := putCells_other (b := w.heap.size) (show w.heap.size + 1 ≠ w.heap.size by omega) [.int .i64 4, .int .u64 0, .int .i64 0, .bool false, .slice la bl.length lc, .int .i64 0, .int .u64 0, .int .i64 0, .int .u64 0, .int .i64 0, .int .i64 0, .int .u64 0, .int .i64 0, .int .u64 0] _ 0 HR.out.at1
      have hgr := putCells_grown (b := w.heap.size) (Nat.le_refl _) [.int .i64 4, .int .u64 0, .int .i64 0, .bool false, .slice la bl.length lc, .int .i64 0, .int .u64 0, .int .i64 0, .int .u64 0, .int .i64 0, .int .i64 0, .int .u64 0, .int .i64 0, .int .u64 0] _ 0 HR.out.gr
      have hown := putCells_own (b := w.heap.size) (fun j hj => by have := HR.out.own.lt j hj; omega) [.int .i64 4, .int .u64 0, .int .i64 0, .bool false, .slice la bl.length lc, .int .i64 0, .int .u64 0, .int .i64 0, .int .u64 0, .int .i64 0, .int .i64 0, .int .u64 0, .int .i64 0, .int .u64 0] _ 0 HR.out.own
      have hsz7 := putCells_size w.heap.size [.int .i64 4, .int .u64 0, .int .i64 0, .bool false, .slice la bl.length lc, .int .i64 0, .int .u64 0, .int .i64 0, .int .u64 0, .int .i64 0, .int .i64 0, .int .u64 0, .int .i64 0, .int .u64 0] wr 0
      have hdr := fun (x : Nat) (y : Int) (h : DR wr Q sb L x y) => putCells_dr (b := w.heap.size) (show Q ≠ w.heap.size by omega) (show sb ≠ w.heap.size by omega) [.int .i64 4, .int .u64 0, .int .i64 0, .bool false, .slice la bl.length lc, .int .i64 0, .int .u64 0, .int .i64 0, .int .u64 0, .int .i64 0, .int .i64 0, .int .u64 0, .int .i64 0, .int .u64 0] _ 0 h
      have hph := HR.out.ph
      have hsi := HR.out.si
      generalize putCells wr w.heap.size 0 [.int .i64 4, .int .u64 0, .int .i64 0, .bool false, .slice la bl.length lc, .int .i64 0, .int .u64 0, .int .i64 0, .int .u64 0, .int .i64 0, .int .i64 0, .int .u64 0, .int .i64 0, .int .u64 0] = W at hfin hat1 hgr hown hsz7 hdr ⊢
      refine bodyPost_ret (rfield_results W _ _ hfin rfl _ rfl) rfl ?_
      first | refine ⟨_, bl, rfl, hown, hgr, by omega, ?_⟩ | refine ⟨_, rfl, bl, hown, hgr, by omega, ?_⟩
      rcases hph with ⟨p1, p2, p3⟩ | ⟨p1, p2, p3⟩
      · exact Or.inl ⟨p1, p2, hdr _ _ p3⟩
      · exact Or.inr ⟨p1, p2, hdr _ _ p3⟩

end Go.Proofs.YtmhcmlegdoapdaaDoor

/- The document's reader: a field of any kind, of any bytes. -/
namespace Go.Proofs.YtmhcmlegdoapdaaDoor
open Go.RowKit

set_option maxHeartbeats 4000000 in
set_option maxRecDepth 100000 in
theorem rfield_row0 (Q sb : Nat) (L : List Int)  (q : Nat) (er : Int) (w : World) (hQ : Q < w.heap.size) (hsb : sb < w.heap.size)
    (hb : ∀ W, Gr w W → Calls Tryd.prog 57 #[.pointer (some ⟨Q, 0, none⟩), .int .u64 65536] W fun r w' => r = .returned (.int .u64 0) ∧ DR w' Q sb L q er ∧ W.grownBy w' (some Q)) :
    Calls Tryd.prog 37 #[.pointer (some ⟨Q, 0, none⟩), .int .i64 4] w fun e w' => e = .returned (.agg #[.int .i64 4, .int .u64 0, .int .i64 0, .bool false, .slice none 0 0, .int .i64 0, .int .u64 0, .int .i64 0, .int .u64 0, .int .i64 0, .int .i64 0, .int .u64 0, .int .i64 0, .int .u64 0]) ∧ DR w' Q sb L q er ∧ w.grownBy w' (some Q) := by
  have I0 := (IsB.new w #[.int .i64 0, .int .u64 0, .int .i64 0, .bool false, .slice none 0 0, .int .i64 0, .int .u64 0, .int .i64 0, .int .u64 0, .int .i64 0, .int .i64 0, .int .u64 0, .int .i64 0, .int .u64 0] 34).alloc (.cells #[.int .i64 4, .int .u64 0, .int .i64 0, .bool false, .slice none 0 0, .int .i64 0, .int .u64 0, .int .i64 0, .int .u64 0, .int .i64 0, .int .i64 0, .int .u64 0, .int .i64 0, .int .u64 0] 34)
  have I1 := IsB.new (w.alloc (.cells #[.int .i64 0, .int .u64 0, .int .i64 0, .bool false, .slice none 0 0, .int .i64 0, .int .u64 0, .int .i64 0, .int .u64 0, .int .i64 0, .int .i64 0, .int .u64 0, .int .i64 0, .int .u64 0] 34)) #[.int .i64 4, .int .u64 0, .int .i64 0, .bool false, .slice none 0 0, .int .i64 0, .int .u64 0, .int .i64 0, .int .u64 0, .int .i64 0, .int .i64 0, .int .u64 0, .int .i64 0, .int .u64 0] 34
  rw [World.size_alloc] at I1
  have HG := hide (show Gr w ((w.alloc (.cells #[.int .i64 0, .int .u64 0, .int .i64 0, .bool false, .slice none 0 0, .int .i64 0, .int .u64 0, .int .i64 0, .int .u64 0, .int .i64 0, .int .i64 0, .int .u64 0, .int .i64 0, .int .u64 0] 34)).alloc (.cells #[.int .i64 4, .int .u64 0, .int .i64 0, .bool false, .slice none 0 0, .int .i64 0, .int .u64 0, .int .i64 0, .int .u64 0, .int .i64 0, .int .i64 0, .int .u64 0, .int .i64 0, .int .u64 0] 34)) from ((Gr.refl w).alloc _).alloc _)
  have hrow := hide (hb _ HG.out)
  have hl01 := I1.lt
  replace I0 := hide I0
  replace I1 := hide I1
  clear hb
  go_enter Tryd.func37, Tryd.ntmps37
  go_wp2_with fail
  generalize (w.alloc (.cells #[.int .i64 0, .int .u64 0, .int .i64 0, .bool false, .slice none 0 0, .int .i64 0, .int .u64 0, .int .i64 0, .int .u64 0, .int .i64 0, .int .i64 0, .int .u64 0, .int .i64 0, .int .u64 0] 34)).alloc (.cells #[.int .i64 4, .int .u64 0, .int .i64 0, .bool false, .slice none 0 0, .int .i64 0, .int .u64 0, .int .i64 0, .int .u64 0, .int .i64 0, .int .i64 0, .int .u64 0, .int .i64 0, .int .u64 0] 34) = W0 at I0 I1 HG hrow hl01 ⊢
  refine hrow.out.mono ?_
  rintro e w1 ⟨rfl, hrd, hgr⟩
  replace I0 := hide (I0.out.grown hgr (by intro h; simp only [Option.some.injEq] at h; omega))
  replace I1 := hide (I1.out.grown hgr (by intro h; simp only [Option.some.injEq] at h; omega))
  have HRD := hide hrd
  have HGR := hide (grown_trans (grown_of_gr HG.out _) hgr)
  have hlW := I0.out.lt
  have hlW0 : w.heap.size + 1 < W0.heap.size := hl01
  clear hrow hrd hgr
  have a0 : w1.cell? ⟨w.heap.size, 0, none⟩ = some (.int .i64 0) := I0.out.cell 0
  have a1 : w1.cell? ⟨w.heap.size, 1, none⟩ = some (.int .u64 0) := I0.out.cell 1
  have a2 : w1.cell? ⟨w.heap.size, 2, none⟩ = some (.int .i64 0) := I0.out.cell 2
  have a3 : w1.cell? ⟨w.heap.size, 3, none⟩ = some (.bool false) := I0.out.cell 3
  have a4 : w1.cell? ⟨w.heap.size, 4, none⟩ = some (.slice none 0 0) := I0.out.cell 4
  have a5 : w1.cell? ⟨w.heap.size, 5, none⟩ = some (.int .i64 0) := I0.out.cell 5
  have a6 : w1.cell? ⟨w.heap.size, 6, none⟩ = some (.int .u64 0) := I0.out.cell 6
  have a7 : w1.cell? ⟨w.heap.size, 7, none⟩ = some (.int .i64 0) := I0.out.cell 7
  have a8 : w1.cell? ⟨w.heap.size, 8, none⟩ = some (.int .u64 0) := I0.out.cell 8
  have a9 : w1.cell? ⟨w.heap.size, 9, none⟩ = some (.int .i64 0) := I0.out.cell 9
  have a10 : w1.cell? ⟨w.heap.size, 10, none⟩ = some (.int .i64 0) := I0.out.cell 10
  have a11 : w1.cell? ⟨w.heap.size, 11, none⟩ = some (.int .u64 0) := I0.out.cell 11
  have a12 : w1.cell? ⟨w.heap.size, 12, none⟩ = some (.int .i64 0) := I0.out.cell 12
  have a13 : w1.cell? ⟨w.heap.size, 13, none⟩ = some (.int .u64 0) := I0.out.cell 13
  have b0 : w1.cell? ⟨w.heap.size + 1, 0, none⟩ = some (.int .i64 4) := I1.out.cell 0
  have b1 : w1.cell? ⟨w.heap.size + 1, 1, none⟩ = some (.int .u64 0) := I1.out.cell 1
  have b2 : w1.cell? ⟨w.heap.size + 1, 2, none⟩ = some (.int .i64 0) := I1.out.cell 2
  have b3 : w1.cell? ⟨w.heap.size + 1, 3, none⟩ = some (.bool false) := I1.out.cell 3
  have b4 : w1.cell? ⟨w.heap.size + 1, 4, none⟩ = some (.slice none 0 0) := I1.out.cell 4
  have b5 : w1.cell? ⟨w.heap.size + 1, 5, none⟩ = some (.int .i64 0) := I1.out.cell 5
  have b6 : w1.cell? ⟨w.heap.size + 1, 6, none⟩ = some (.int .u64 0) := I1.out.cell 6
  have b7 : w1.cell? ⟨w.heap.size + 1, 7, none⟩ = some (.int .i64 0) := I1.out.cell 7
  have b8 : w1.cell? ⟨w.heap.size + 1, 8, none⟩ = some (.int .u64 0) := I1.out.cell 8
  have b9 : w1.cell? ⟨w.heap.size + 1, 9, none⟩ = some (.int .i64 0) := I1.out.cell 9
  have b10 : w1.cell? ⟨w.heap.size + 1, 10, none⟩ = some (.int .i64 0) := I1.out.cell 10
  have b11 : w1.cell? ⟨w.heap.size + 1, 11, none⟩ = some (.int .u64 0) := I1.out.cell 11
  have b12 : w1.cell? ⟨w.heap.size + 1, 12, none⟩ = some (.int .i64 0) := I1.out.cell 12
  have b13 : w1.cell? ⟨w.heap.size + 1, 13, none⟩ = some (.int .u64 0) := I1.out.cell 13
  have f0 := I0.out.free 0
  have f1 := I0.out.free 1
  have f2 := I0.out.free 2
  have f3 := I0.out.free 3
  have f4 := I0.out.free 4
  have f5 := I0.out.free 5
  have f6 := I0.out.free 6
  have f7 := I0.out.free 7
  have f8 := I0.out.free 8
  have f9 := I0.out.free 9
  have f10 := I0.out.free 10
  have f11 := I0.out.free 11
  have f12 := I0.out.free 12
  have f13 := I0.out.free 13
  go_wp2
  go_loopw [7] (fun i wr => i = .int .u64 0 ∧ wr = w1) (fun _ _ => 0)
  case atStart => exact ⟨rfl, rfl⟩
  case round =>
  obtain ⟨rfl, hwr⟩ := hrel
  rw [hwr]
  clear hwr
  go_wp2
  have hW : ((((((((((((((w1.setCell ⟨w.heap.size, 0, none⟩ (.int .i64 4)).setCell ⟨w.heap.size, 1, none⟩ (.int .u64 0)).setCell ⟨w.heap.size, 2, none⟩ (.int .i64 0)).setCell ⟨w.heap.size, 3, none⟩ (.bool false)).setCell ⟨w.heap.size, 4, none⟩ (.slice none 0 0)).setCell ⟨w.heap.size, 5, none⟩ (.int .i64 0)).setCell ⟨w.heap.size, 6, none⟩ (.int .u64 0)).setCell ⟨w.heap.size, 7, none⟩ (.int .i64 0)).setCell ⟨w.heap.size, 8, none⟩ (.int .u64 0)).setCell ⟨w.heap.size, 9, none⟩ (.int .i64 0)).setCell ⟨w.heap.size, 10, none⟩ (.int .i64 0)).setCell ⟨w.heap.size, 11, none⟩ (.int .u64 0)).setCell ⟨w.heap.size, 12, none⟩ (.int .i64 0)).setCell ⟨w.heap.size, 13, none⟩ (.int .u64 0)) = putCells w1 w.heap.size 0 [.int .i64 4, .int .u64 0, .int .i64 0, .bool false, .slice none 0 0, .int .i64 0, .int .u64 0, .int .i64 0, .int .u64 0, .int .i64 0, .int .i64 0, .int .u64 0, .int .i64 0, .int .u64 0] := rfl
  rw [hW]
  clear hW
  have hfin := putCells_is (cs := [.int .i64 0, .int .u64 0, .int .i64 0, .bool false, .slice none 0 0, .int .i64 0, .int .u64 0, .int .i64 0, .int .u64 0, .int .i64 0, .int .i64 0, .int .u64 0, .int .i64 0, .int .u64 0]) (I0.out) [.int .i64 4, .int .u64 0, .int .i64 0, .bool false, .slice none 0 0, .int .i64 0, .int .u64 0, .int .i64 0, .int .u64 0, .int .i64 0, .int .i64 0, .int .u64 0, .int .i64 0, .int .u64 0] rfl
  have hrd := putCells_dr (b := w.heap.size) (show Q ≠ w.heap.size by omega) (show sb ≠ w.heap.size by omega) [.int .i64 4, .int .u64 0, .int .i64 0, .bool false, .slice none 0 0, .int .i64 0, .int .u64 0, .int .i64 0, .int .u64 0, .int .i64 0, .int .i64 0, .int .u64 0, .int .i64 0, .int .u64 0] _ 0 HRD.out
  have hgr := putCells_grown (b := w.heap.size) (Nat.le_refl _) [.int .i64 4, .int .u64 0, .int .i64 0, .bool false, .slice none 0 0, .int .i64 0, .int .u64 0, .int .i64 0, .int .u64 0, .int .i64 0, .int .i64 0, .int .u64 0, .int .i64 0, .int .u64 0] _ 0 HGR.out
  generalize putCells w1 w.heap.size 0 [.int .i64 4, .int .u64 0, .int .i64 0, .bool false, .slice none 0 0, .int .i64 0, .int .u64 0, .int .i64 0, .int .u64 0, .int .i64 0, .int .i64 0, .int .u64 0, .int .i64 0, .int .u64 0] = W at hfin hrd hgr ⊢
  refine bodyPost_ret (rfield_results W _ _ hfin rfl _ rfl) rfl ?_
  exact ⟨rfl, hrd, hgr⟩

/-- f is v in this memory; its row is one of the blocks from base on, or nil. -/
def FV.DAt (w : World) (base : Nat) (v : FV) (f : Fd) : Prop :=
  (v.row = none ∧ f = v.fd none 0 0) ∨ ∃ l a c, v.row = some l ∧ f = v.fd a l.length c ∧ w.ownsRow base 5 1 (.slice a l.length c) l.length (u8s l)
theorem FV.At.d {w : World} {base : Nat} {v : FV} {f : Fd} (h : v.At w base f) : v.DAt w base f := by
  rcases h with h | ⟨l, g, c, h1, h2, h3⟩
  · exact Or.inl h
  · exact Or.inr ⟨l, _, c, h1, h2, h3⟩
/-- What the document's reader leaves of a field. -/
def DPostF (w : World) (Q sb : Nat) (L : List Int) (p : Nat) (r : PR FV) (e : Ending) (w' : World) : Prop :=
  ∃ f : Fd, e = .returned (.agg f.cs) ∧ w.grownBy w' (some Q) ∧
  (match r with
    | .ok v n => v.DAt w' w.heap.size f ∧ DR w' Q sb L (p + n) 0
    | .bad i er => DR w' Q sb L (p + i) er ∧ er ≠ 0)
theorem DPostF.okI {w : World} {Q sb : Nat} {L : List Int} {p : Nat} {r : PR FV} {e : Ending} {w' : World} (v : FV) (n : Nat) (hr : r = .ok v n) (f : Fd) (he : e = .returned (.agg f.cs)) (hat : v.DAt w' w.heap.size f) (hd : DR w' Q sb L (p + n) 0) (hg : w.grownBy w' (some Q)) : DPostF w Q sb L p r e w' := by
  subst hr; exact ⟨f, he, hg, hat, hd⟩
theorem DPostF.badI {w : World} {Q sb : Nat} {L : List Int} {p : Nat} {r : PR FV} {e : Ending} {w' : World} (i : Nat) (er : Int) (hr : r = .bad i er) (f : Fd) (he : e = .returned (.agg f.cs)) (hd : DR w' Q sb L (p + i) er) (hn : er ≠ 0) (hg : w.grownBy w' (some Q)) : DPostF w Q sb L p r e w' := by
  subst hr; exact ⟨f, he, hg, hd, hn⟩

theorem pnum_err (most : Nat) : ∀ (l : List Int) (k m i : Nat) (e : Int), pnum most k m l = .bad i e → e ≠ 0 := by
  intro l
  induction l with
  | nil => intro k m i e h; rw [pnum_nil] at h; cases h; decide
  | cons c r ih =>
    intro k m i e h
    unfold pnum at h
    split at h
    · split at h
      · cases h
      · exact ih _ _ _ _ h
    · cases h; decide
theorem pwhole_err (l : List Int) (i : Nat) (e : Int) (h : pwhole l = .bad i e) : e ≠ 0 := by
  unfold pwhole at h
  rcases hp : pnum M64 0 0 l with ⟨x, n⟩ | ⟨j, er⟩
  · rw [hp] at h; cases h
  · rw [hp] at h; cases h; exact pnum_err _ _ _ _ _ _ hp
theorem phigh_err (n : Nat) (l : List Int) (i : Nat) (e : Int) (h : phigh n l = .bad i e) : e ≠ 0 := by
  unfold phigh at h
  split at h
  · cases h
  · cases h; decide
theorem pkey_err (l : List Int) (i : Nat) (e : Int) (h : pkey l = .bad i e) : e ≠ 0 := by
  rcases l with _ | ⟨r, l⟩
  · cases h; decide
  · by_cases hr : 1 ≤ r ∧ r ≤ 3
    · have hp2 : (match phigh (if r = 2 then 8 else 0) l with
        | .ok x n => PR.ok (r, x) (n + 1)
        | .bad i e => .bad (i + 1) e) = .bad i e := by rw [← h]; exact (if_pos hr).symm
      rcases hp : phigh (if r = 2 then 8 else 0) l with ⟨x, n⟩ | ⟨j, er⟩
      · rw [hp] at hp2; cases hp2
      · rw [hp] at hp2; cases hp2; exact phigh_err _ _ _ _ hp
    · have : pkey (r :: l) = .bad 0 31 := if_neg hr
      rw [this] at h; cases h; decide
theorem pvec_err (l : List Int) (i : Nat) (e : Int) (h : pvec l = .bad i e) : e ≠ 0 := by
  rcases l with _ | ⟨c, l⟩
  · cases h; decide
  · by_cases hr : c ≤ 32
    · have hp2 : (match phigh ((c.toNat + 7) / 8) l with
        | .ok x n => if x % 2 ^ spare c.toNat = 0 then PR.ok (c, x / 2 ^ spare c.toNat) (n + 1) else .bad n 31
        | .bad i e => .bad (i + 1) e) = .bad i e := by rw [← h]; exact (if_pos hr).symm
      rcases hp : phigh ((c.toNat + 7) / 8) l with ⟨x, n⟩ | ⟨j, er⟩
      · rw [hp] at hp2
        simp only [] at hp2
        by_cases hz : x % 2 ^ spare c.toNat = 0
        · rw [if_pos hz] at hp2; cases hp2
        · rw [if_neg hz] at hp2; cases hp2; decide
      · rw [hp] at hp2; cases hp2; exact phigh_err _ _ _ _ hp
    · have : pvec (c :: l) = .bad 0 31 := if_neg hr
      rw [this] at h; cases h; decide

theorem rfield1_any (Q sb : Nat) (L : List Int) (p : Nat) (w : World) (h : DR w Q sb L p 0) (hsb : sb < w.heap.size) :
    Calls Tryd.prog 37 #[.pointer (some ⟨Q, 0, none⟩), .int .i64 1] w fun e w' => DPostF w Q sb L p (pfield 1 (L.drop p)) e w' := by
  have hb := fun W (hg : Gr w W) => rnumber_max Q sb L p W (h.gr hg)
  rcases hp : pnum M64 0 0 (L.drop p) with ⟨x, n⟩ | ⟨i, er⟩
  · rw [hp] at hb
    refine (rfield_num Q sb L x (p + n) 0 w h.lt hsb (fun W hg => (hb W hg).mono ?_)).mono ?_
    · rintro r w' ⟨⟨rfl, h1⟩, h2⟩; exact ⟨rfl, h1, h2⟩
    · rintro e w' ⟨rfl, hd, hg⟩
      exact DPostF.okI (.num x) n (by unfold pfield; rw [if_pos rfl, hp]; rfl) ⟨1, x, 0, false, none, 0, 0, 0, 0, 0, 0, 0, 0, 0, 0, 0⟩ rfl (Or.inl ⟨rfl, rfl⟩) hd hg
  · rw [hp] at hb
    refine (rfield_num Q sb L 0 (p + i) er w h.lt hsb (fun W hg => (hb W hg).mono ?_)).mono ?_
    · rintro r w' ⟨⟨rfl, h1, _⟩, h2⟩; exact ⟨rfl, h1, h2⟩
    · rintro e w' ⟨rfl, hd, hg⟩
      exact DPostF.badI i er (by unfold pfield; rw [if_pos rfl, hp]; rfl) ⟨1, 0, 0, false, none, 0, 0, 0, 0, 0, 0, 0, 0, 0, 0, 0⟩ rfl hd (pnum_err _ _ _ _ _ _ hp) hg
theorem rfield2_any (Q sb : Nat) (L : List Int) (p : Nat) (w : World) (h : DR w Q sb L p 0) (hsb : sb < w.heap.size) :
    Calls Tryd.prog 37 #[.pointer (some ⟨Q, 0, none⟩), .int .i64 2] w fun e w' => DPostF w Q sb L p (pfield 2 (L.drop p)) e w' := by
  have hb := fun W (hg : Gr w W) => rint_any Q sb L p W (h.gr hg)
  have e2 : pfield 2 (L.drop p) = (pwhole (L.drop p)).map FV.int := by unfold pfield; rw [if_neg (by decide), if_pos rfl]
  rw [e2]
  rcases hp : pwhole (L.drop p) with ⟨x, n⟩ | ⟨i, er⟩
  · rw [hp] at hb
    refine (rfield_int Q sb L x (p + n) 0 w h.lt hsb (fun W hg => (hb W hg).mono ?_)).mono ?_
    · rintro r w' ⟨⟨rfl, h1⟩, h2⟩; exact ⟨rfl, h1, h2⟩
    · rintro e w' ⟨rfl, hd, hg⟩
      exact DPostF.okI (.int x) n rfl ⟨2, 0, x, false, none, 0, 0, 0, 0, 0, 0, 0, 0, 0, 0, 0⟩ rfl (Or.inl ⟨rfl, rfl⟩) hd hg
  · rw [hp] at hb
    refine (rfield_int Q sb L 0 (p + i) er w h.lt hsb (fun W hg => (hb W hg).mono ?_)).mono ?_
    · rintro r w' ⟨⟨rfl, h1, _⟩, h2⟩; exact ⟨rfl, h1, h2⟩
    · rintro e w' ⟨rfl, hd, hg⟩
      exact DPostF.badI i er rfl ⟨2, 0, 0, false, none, 0, 0, 0, 0, 0, 0, 0, 0, 0, 0, 0⟩ rfl hd (pwhole_err _ _ _ hp) hg
theorem rfield3_any (Q sb : Nat) (L : List Int) (p : Nat) (w : World) (h : DR w Q sb L p 0) (hsb : sb < w.heap.size) :
    Calls Tryd.prog 37 #[.pointer (some ⟨Q, 0, none⟩), .int .i64 3] w fun e w' => DPostF w Q sb L p (pfield 3 (L.drop p)) e w' := by
  have hbd := h.bd
  have hb := fun W (hg : Gr w W) => rbyte_any Q sb L p 0 1 W (h.gr hg)
  have e2 : pfield 3 (L.drop p) = (ptruth (L.drop p)).map FV.truth := by unfold pfield; rw [if_neg (by decide), if_neg (by decide), if_pos rfl]
  rw [e2]
  have bad : ∀ er, er ≠ 0 → pbyte 0 1 (L.drop p) = .bad 0 er → ptruth (L.drop p) = .bad 0 er → Calls Tryd.prog 37 #[.pointer (some ⟨Q, 0, none⟩), .int .i64 3] w fun e w' => DPostF w Q sb L p ((ptruth (L.drop p)).map FV.truth) e w' := fun er hn hp hq => by
    rw [hp] at hb
    rw [hq]
    refine (rfield_truth Q sb L 0 (p + 0) er w h.lt hsb (fun W hg => (hb W hg).mono ?_)).mono ?_
    · rintro r w' ⟨⟨rfl, h1, _⟩, h2⟩; exact ⟨rfl, h1, h2⟩
    · rintro e w' ⟨rfl, hd, hg⟩
      exact DPostF.badI 0 er rfl ⟨3, 0, 0, false, none, 0, 0, 0, 0, 0, 0, 0, 0, 0, 0, 0⟩ rfl hd hn hg
  rcases hl : L.drop p with _ | ⟨c, r⟩
  · rw [hl] at bad
    exact bad 32 (by decide) rfl rfl
  · have hc := hbd c (List.mem_of_mem_drop (by rw [hl]; exact List.mem_cons_self))
    by_cases h1 : c ≤ 1
    · have hp : pbyte 0 1 (L.drop p) = .ok c 1 := by rw [hl]; exact if_pos ⟨hc.1, h1⟩
      have hq : ptruth (c :: r) = .ok (decide (c = 1)) 1 := if_pos h1
      rw [hp] at hb
      rw [hq]
      refine (rfield_truth Q sb L c (p + 1) 0 w h.lt hsb (fun W hg => (hb W hg).mono ?_)).mono ?_
      · rintro r w' ⟨⟨rfl, h1⟩, h2⟩; exact ⟨rfl, h1, h2⟩
      · rintro e w' ⟨rfl, hd, hg⟩
        exact DPostF.okI (.truth (c == 1)) 1 (by rw [show (c == 1) = decide (c = 1) from rfl]; rfl) ⟨3, 0, 0, c == 1, none, 0, 0, 0, 0, 0, 0, 0, 0, 0, 0, 0⟩ rfl (Or.inl ⟨rfl, rfl⟩) hd hg
    · rw [hl] at bad
      exact bad 31 (by decide) (if_neg (fun h => h1 h.2)) (if_neg h1)
theorem rfield4_any (Q sb : Nat) (L : List Int) (p : Nat) (w : World) (h : DR w Q sb L p 0) (hsb : sb < w.heap.size) :
    Calls Tryd.prog 37 #[.pointer (some ⟨Q, 0, none⟩), .int .i64 4] w fun e w' => DPostF w Q sb L p (pfield 4 (L.drop p)) e w' := by
  have hbd := h.bd
  have hle := h.le
  have hb := fun W (hg : Gr w W) => rnumber_row Q sb L p W (h.gr hg)
  have e2 : pfield 4 (L.drop p) = (prow (L.drop p)).map FV.bytes := by unfold pfield; rw [if_neg (by decide), if_neg (by decide), if_neg (by decide), if_pos rfl]
  rw [e2]
  rcases hp : pnum 65536 0 0 (L.drop p) with ⟨x, n⟩ | ⟨i, er⟩
  · rw [hp] at hb
    have hx := pnum_le 65536 _ 0 0 x n (fun c hc => hbd c (List.mem_of_mem_drop hc)) (by omega) hp
    have hn := (pnum_n 65536 _ 0 0 x n hp).1
    rw [List.length_drop] at hn
    refine (rfield_row Q sb L (p + n) x hx w h.lt hsb hbd (fun W hg => (hb W hg).mono ?_)).mono ?_
    · rintro r w' ⟨⟨rfl, h1⟩, h2⟩; exact ⟨rfl, h1, h2⟩
    · rintro e w' ⟨la, bl, rfl, ho, hg, hs, hph⟩
      obtain ⟨a, c, rfl⟩ : ∃ a c, la = .slice a bl.length c := by
        rcases ho.2 with ⟨h1, h2⟩ | ⟨g, cp, cur, h1, _⟩
        · exact ⟨none, 0, by rw [h1, h2]⟩
        · exact ⟨_, _, h1⟩
      have hdl : ((L.drop p).drop n).length = L.length - (p + n) := by rw [List.drop_drop, List.length_drop]
      rcases hph with ⟨h1, h2, h3⟩ | ⟨h1, h2, h3⟩
      · have hr : prow (L.drop p) = .ok bl (n + x) := by
          unfold prow
          rw [hp]
          simp only []
          rw [if_pos (by omega), h1, List.drop_drop]
        rw [hr]
        exact DPostF.okI (.bytes bl) (n + x) rfl ⟨4, 0, 0, false, a, bl.length, c, 0, 0, 0, 0, 0, 0, 0, 0, 0⟩ rfl (Or.inr ⟨bl, a, c, rfl, rfl, owns_base (by omega) ho⟩) (by rw [← Nat.add_assoc]; exact h3) hg
      · have hr : prow (L.drop p) = .bad (n + (L.length - (p + n))) 32 := by
          unfold prow
          rw [hp]
          simp only []
          rw [if_neg (by omega), hdl]
        rw [hr]
        exact DPostF.badI (n + (L.length - (p + n))) 32 rfl ⟨4, 0, 0, false, a, bl.length, c, 0, 0, 0, 0, 0, 0, 0, 0, 0⟩ rfl (by rw [show p + (n + (L.length - (p + n))) = L.length from by omega]; exact h3) (by decide) hg
  · rw [hp] at hb
    have hr : prow (L.drop p) = .bad i er := by unfold prow; rw [hp]
    rw [hr]
    refine (rfield_row0 Q sb L (p + i) er w h.lt hsb (fun W hg => (hb W hg).mono ?_)).mono ?_
    · rintro r w' ⟨⟨rfl, h1, _⟩, h2⟩; exact ⟨rfl, h1, h2⟩
    · rintro e w' ⟨rfl, hd, hg⟩
      exact DPostF.badI i er rfl ⟨4, 0, 0, false, none, 0, 0, 0, 0, 0, 0, 0, 0, 0, 0, 0⟩ rfl hd (pnum_err _ _ _ _ _ _ hp) hg
theorem rfield5_any (Q sb : Nat) (L : List Int) (p : Nat) (w : World) (h : DR w Q sb L p 0) (hsb : sb < w.heap.size) :
    Calls Tryd.prog 37 #[.pointer (some ⟨Q, 0, none⟩), .int .i64 5] w fun e w' => DPostF w Q sb L p (pfield 5 (L.drop p)) e w' := by
  have hbd := h.bd
  have hb := fun W (hg : Gr w W) => rvec_any Q sb L p W (h.gr hg) (Nat.lt_of_lt_of_le hsb hg.le)
  have e2 : pfield 5 (L.drop p) = (pvec (L.drop p)).map (fun x => FV.vec x.1.toNat x.2.toNat) := by unfold pfield; rw [if_neg (by decide), if_neg (by decide), if_neg (by decide), if_neg (by decide), if_pos rfl]
  rw [e2]
  rcases hp : pvec (L.drop p) with ⟨⟨x, y⟩, n⟩ | ⟨i, er⟩
  · rw [hp] at hb
    have hnn := pvec_nn _ (fun c hc => hbd c (List.mem_of_mem_drop hc)) x y n hp
    refine (rfield_vec Q sb L (fun a b => a = x ∧ b = y) (p + n) 0 w h.lt hsb (fun W hg => (hb W hg).mono ?_)).mono ?_
    · rintro r w' ⟨⟨rfl, h1⟩, h2⟩; exact ⟨x, y, ⟨rfl, rfl⟩, rfl, h1, h2⟩
    · rintro e w' ⟨_, _, ⟨rfl, rfl⟩, rfl, hd, hg⟩
      exact DPostF.okI (.vec _ _) n rfl ⟨5, 0, 0, false, none, 0, 0, _, _, 0, 0, 0, 0, 0, 0, 0⟩ rfl (Or.inl ⟨rfl, by simp only [FV.fd, Int.toNat_of_nonneg hnn.1, Int.toNat_of_nonneg hnn.2]⟩) hd hg
  · rw [hp] at hb
    refine (rfield_vec Q sb L (fun _ _ => True) (p + i) er w h.lt hsb (fun W hg => (hb W hg).mono ?_)).mono ?_
    · rintro r w' ⟨⟨⟨x, y, rfl⟩, h1, _⟩, h2⟩; exact ⟨x, y, trivial, rfl, h1, h2⟩
    · rintro e w' ⟨x, y, _, rfl, hd, hg⟩
      exact DPostF.badI i er rfl ⟨5, 0, 0, false, none, 0, 0, x, y, 0, 0, 0, 0, 0, 0, 0⟩ rfl hd (pvec_err _ _ _ hp) hg
theorem rfield6_any (Q sb : Nat) (L : List Int) (p : Nat) (w : World) (h : DR w Q sb L p 0) (hsb : sb < w.heap.size) :
    Calls Tryd.prog 37 #[.pointer (some ⟨Q, 0, none⟩), .int .i64 6] w fun e w' => DPostF w Q sb L p (pfield 6 (L.drop p)) e w' := by
  have hb := fun W (hg : Gr w W) => rkey_any Q sb L p W (h.gr hg) (Nat.lt_of_lt_of_le hsb hg.le)
  have e2 : pfield 6 (L.drop p) = (pkey (L.drop p)).map (fun x => FV.key x.1 x.2) := by unfold pfield; rw [if_neg (by decide), if_neg (by decide), if_neg (by decide), if_neg (by decide), if_neg (by decide), if_pos rfl]
  rw [e2]
  rcases hp : pkey (L.drop p) with ⟨⟨x, y⟩, n⟩ | ⟨i, er⟩
  · rw [hp] at hb
    refine (rfield_key Q sb L (fun a b => a = x ∧ b = y) (p + n) 0 w h.lt hsb (fun W hg => (hb W hg).mono ?_)).mono ?_
    · rintro r w' ⟨⟨rfl, h1⟩, h2⟩; exact ⟨x, y, ⟨rfl, rfl⟩, rfl, h1, h2⟩
    · rintro e w' ⟨_, _, ⟨rfl, rfl⟩, rfl, hd, hg⟩
      exact DPostF.okI (.key _ _) n rfl ⟨6, 0, 0, false, none, 0, 0, 0, 0, _, _, 0, 0, 0, 0, 0⟩ rfl (Or.inl ⟨rfl, rfl⟩) hd hg
  · rw [hp] at hb
    refine (rfield_key Q sb L (fun _ _ => True) (p + i) er w h.lt hsb (fun W hg => (hb W hg).mono ?_)).mono ?_
    · rintro r w' ⟨⟨⟨x, y, rfl⟩, h1, _⟩, h2⟩; exact ⟨x, y, trivial, rfl, h1, h2⟩
    · rintro e w' ⟨x, y, _, rfl, hd, hg⟩
      exact DPostF.badI i er rfl ⟨6, 0, 0, false, none, 0, 0, 0, 0, x, y, 0, 0, 0, 0, 0⟩ rfl hd (pkey_err _ _ _ hp) hg
theorem rfield7_any (Q sb : Nat) (L : List Int) (p : Nat) (w : World) (h : DR w Q sb L p 0) (hsb : sb < w.heap.size) :
    Calls Tryd.prog 37 #[.pointer (some ⟨Q, 0, none⟩), .int .i64 7] w fun e w' => DPostF w Q sb L p (pfield 7 (L.drop p)) e w' := by
  have hbd := h.bd
  have hb := fun W (hg : Gr w W) => rint_any Q sb L p W (h.gr hg)
  have e2 : pfield 7 (L.drop p) = (pref (L.drop p)).map (fun x => FV.ref x.1 x.2.1.1 x.2.1.2 x.2.2.1.toNat x.2.2.2.toNat) := by unfold pfield; rw [if_neg (by decide), if_neg (by decide), if_neg (by decide), if_neg (by decide), if_neg (by decide), if_neg (by decide)]
  rw [e2]
  unfold pref
  rcases hp : pwhole (L.drop p) with ⟨x, n⟩ | ⟨i, er⟩
  · rw [hp] at hb
    simp only []
    rcases hk : pkey ((L.drop p).drop n) with ⟨⟨y1, y2⟩, n2⟩ | ⟨i, er⟩
    · simp only []
      rcases hv : pvec (((L.drop p).drop n).drop n2) with ⟨⟨z1, z2⟩, n3⟩ | ⟨i, er⟩
      · simp only []
        have hnn := pvec_nn _ (fun c hc => hbd c (List.mem_of_mem_drop (List.mem_of_mem_drop (List.mem_of_mem_drop hc)))) z1 z2 n3 hv
        refine (rfield_ref Q sb L x (fun a b => a = y1 ∧ b = y2) (fun a b => a = z1 ∧ b = z2) (p + n) (p + n + n2) (p + n + n2 + n3) 0 0 0 w h.lt hsb (fun W hg => (hb W hg).mono ?_) (fun W hd hs => ?_) (fun W hd hs => ?_)).mono ?_
        · rintro r w' ⟨⟨rfl, h1⟩, h2⟩; exact ⟨rfl, h1, h2⟩
        · have := rkey_any Q sb L (p + n) W hd hs
          rw [← List.drop_drop, hk] at this
          refine this.mono ?_
          rintro r w' ⟨⟨rfl, h1⟩, h2⟩; exact ⟨_, _, ⟨rfl, rfl⟩, rfl, h1, h2⟩
        · have := rvec_any Q sb L (p + n + n2) W hd hs
          rw [← List.drop_drop, ← List.drop_drop, hv] at this
          refine this.mono ?_
          rintro r w' ⟨⟨rfl, h1⟩, h2⟩; exact ⟨_, _, ⟨rfl, rfl⟩, rfl, h1, h2⟩
        · rintro e w' ⟨_, _, _, _, ⟨rfl, rfl⟩, ⟨rfl, rfl⟩, rfl, hd, hg⟩
          exact DPostF.okI (.ref _ _ _ _ _) (n + n2 + n3) rfl ⟨7, 0, 0, false, none, 0, 0, 0, 0, 0, 0, _, _, _, _, _⟩ rfl (Or.inl ⟨rfl, by simp only [FV.fd, Int.toNat_of_nonneg hnn.1, Int.toNat_of_nonneg hnn.2]⟩) (by rw [← Nat.add_assoc, ← Nat.add_assoc]; exact hd) hg
      · simp only []
        refine (rfield_ref Q sb L x (fun a b => a = y1 ∧ b = y2) (fun _ _ => True) (p + n) (p + n + n2) (p + n + n2 + i) 0 0 er w h.lt hsb (fun W hg => (hb W hg).mono ?_) (fun W hd hs => ?_) (fun W hd hs => ?_)).mono ?_
        · rintro r w' ⟨⟨rfl, h1⟩, h2⟩; exact ⟨rfl, h1, h2⟩
        · have := rkey_any Q sb L (p + n) W hd hs
          rw [← List.drop_drop, hk] at this
          refine this.mono ?_
          rintro r w' ⟨⟨rfl, h1⟩, h2⟩; exact ⟨_, _, ⟨rfl, rfl⟩, rfl, h1, h2⟩
        · have := rvec_any Q sb L (p + n + n2) W hd hs
          rw [← List.drop_drop, ← List.drop_drop, hv] at this
          refine this.mono ?_
          rintro r w' ⟨⟨⟨z1, z2, rfl⟩, h1, _⟩, h2⟩; exact ⟨z1, z2, trivial, rfl, h1, h2⟩
        · rintro e w' ⟨_, _, z1, z2, ⟨rfl, rfl⟩, _, rfl, hd, hg⟩
          exact DPostF.badI (n + n2 + i) er rfl ⟨7, 0, 0, false, none, 0, 0, 0, 0, 0, 0, _, _, _, _, _⟩ rfl (by rw [← Nat.add_assoc, ← Nat.add_assoc]; exact hd) (pvec_err _ _ _ hv) hg
    · simp only []
      have her := pkey_err _ _ _ hk
      refine (rfield_ref Q sb L x (fun _ _ => True) (fun _ _ => True) (p + n) (p + n + i) (p + n + i) 0 er er w h.lt hsb (fun W hg => (hb W hg).mono ?_) (fun W hd hs => ?_) (fun W hd hs => ?_)).mono ?_
      · rintro r w' ⟨⟨rfl, h1⟩, h2⟩; exact ⟨rfl, h1, h2⟩
      · have := rkey_any Q sb L (p + n) W hd hs
        rw [← List.drop_drop, hk] at this
        refine this.mono ?_
        rintro r w' ⟨⟨⟨z1, z2, rfl⟩, h1, _⟩, h2⟩; exact ⟨z1, z2, trivial, rfl, h1, h2⟩
      · refine (rvec_bad Q sb L _ er her W hd hs).mono ?_
        rintro r w' ⟨rfl, h1, h2⟩; exact ⟨_, _, trivial, rfl, h1, h2⟩
      · rintro e w' ⟨y1, y2, z1, z2, _, _, rfl, hd, hg⟩
        exact DPostF.badI (n + i) er rfl ⟨7, 0, 0, false, none, 0, 0, 0, 0, 0, 0, _, _, _, _, _⟩ rfl (by rw [← Nat.add_assoc]; exact hd) her hg
  · rw [hp] at hb
    have her := pwhole_err _ _ _ hp
    refine (rfield_ref Q sb L 0 (fun _ _ => True) (fun _ _ => True) (p + i) (p + i) (p + i) er er er w h.lt hsb (fun W hg => (hb W hg).mono ?_) (fun W hd hs => ?_) (fun W hd hs => ?_)).mono ?_
    · rintro r w' ⟨⟨rfl, h1, _⟩, h2⟩; exact ⟨rfl, h1, h2⟩
    · refine (rkey_bad Q sb L _ er her W hd hs).mono ?_
      rintro r w' ⟨rfl, h1, h2⟩; exact ⟨_, _, trivial, rfl, h1, h2⟩
    · refine (rvec_bad Q sb L _ er her W hd hs).mono ?_
      rintro r w' ⟨rfl, h1, h2⟩; exact ⟨_, _, trivial, rfl, h1, h2⟩
    · rintro e w' ⟨y1, y2, z1, z2, _, _, rfl, hd, hg⟩
      exact DPostF.badI i er rfl ⟨7, 0, 0, false, none, 0, 0, 0, 0, 0, 0, _, _, _, _, _⟩ rfl hd her hg
/-- A field of any kind, of any bytes. -/
theorem rfield_any (k : Int) (h1 : 1 ≤ k) (h7 : k ≤ 7) (Q sb : Nat) (L : List Int) (p : Nat) (w : World) (h : DR w Q sb L p 0) (hsb : sb < w.heap.size) :
    Calls Tryd.prog 37 #[.pointer (some ⟨Q, 0, none⟩), .int .i64 k] w fun e w' => DPostF w Q sb L p (pfield k (L.drop p)) e w' := by
  obtain rfl | rfl | rfl | rfl | rfl | rfl | rfl : k = 1 ∨ k = 2 ∨ k = 3 ∨ k = 4 ∨ k = 5 ∨ k = 6 ∨ k = 7 := by omega
  · exact rfield1_any Q sb L p w h hsb
  · exact rfield2_any Q sb L p w h hsb
  · exact rfield3_any Q sb L p w h hsb
  · exact rfield4_any Q sb L p w h hsb
  · exact rfield5_any Q sb L p w h hsb
  · exact rfield6_any Q sb L p w h hsb
  · exact rfield7_any Q sb L p w h hsb

end Go.Proofs.YtmhcmlegdoapdaaDoor

/- The document's First, of any bytes. -/
namespace Go.Proofs.YtmhcmlegdoapdaaDoor
open Go.RowKit

theorem FV.fd_blk (v : FV) (l : List Int) (h : v.row = some l) (a : Option Addr) (n c : Nat) : (v.fd a n c).blk = a.map (·.block) := by
  cases v <;> first | rfl | cases h
theorem FV.DAt.blk {w : World} {base : Nat} {v : FV} {f : Fd} (h : v.DAt w base f) : f.blk = none ∨ ∃ g, f.blk = some g ∧ base ≤ g ∧ g < w.heap.size := by
  rcases h with ⟨hr, rfl⟩ | ⟨l, a, c, hr, rfl, ho⟩
  · exact Or.inl (v.fd_none hr)
  · rw [v.fd_blk l hr]
    rcases ho.2 with ⟨h1, _⟩ | ⟨g, cp, cur, h1, _⟩
    · injection h1 with h1 _ _
      rw [h1]; exact Or.inl rfl
    · injection h1 with h1 _ _
      subst h1
      exact Or.inr ⟨g, rfl, ho.lt g rfl⟩
theorem FV.DAt.kept {w w' : World} {base : Nat} {v : FV} {f : Fd} (h : v.DAt w base f) {row : Option Nat} (hg : w.grownBy w' row) (hne : f.blk = none ∨ f.blk ≠ row) : v.DAt w' base f := by
  rcases h with ⟨hr, hf⟩ | ⟨l, a, c, hr, rfl, ho⟩
  · exact Or.inl ⟨hr, hf⟩
  · refine Or.inr ⟨l, a, c, hr, rfl, ho.kept hg ?_⟩
    rw [v.fd_blk l hr] at hne
    rcases ho.2 with ⟨h1, _⟩ | ⟨g, cp, cur, h1, _⟩
    · injection h1 with h1 _ _
      rw [h1]; exact Or.inl rfl
    · injection h1 with h1 _ _
      subst h1
      rcases hne with h | h
      · cases h
      · exact Or.inr h
theorem FV.DAt.mono {w : World} {base base' : Nat} {v : FV} {f : Fd} (h : v.DAt w base f) (hb : base' ≤ base) : v.DAt w base' f := by
  rcases h with ⟨hr, hf⟩ | ⟨l, a, c, hr, hf, ho⟩
  · exact Or.inl ⟨hr, hf⟩
  · exact Or.inr ⟨l, a, c, hr, hf, owns_base hb ho⟩
theorem one_fd (f : Fd) : ∀ u ∈ f.cs.toList, u.oneCell' = true := by
  obtain ⟨f0, f1, f2, f3, f4, f5, f6, f7, f8, f9, f10, f11, f12, f13, f14, f15⟩ := f
  exact one14 f0 f1 f2 f3 f4 f5 f6 f7 f8 f9 f10 f11 f12 f13 f14 f15
theorem cs_size (f : Fd) : f.cs.toList.length = 14 := by cases f; rfl
theorem append_fd {w : World} {ops : Array Oper} {rest : List Oper} {o : Oper} {a : Act} {Q : Exit → Act → World → Prop} (hgd : o.guard = none) (s x : Operand)
    (ho : o.op = .call { callee := .builtin .append, args := #[s, x], argTypes := #[22, 22] })
    (base : Nat) (la : Value) (n : Nat) (fs : List Fd) (hs : a.eval s = la) (hown : w.ownsRow base 34 14 la n (cellsOf fs))
    (B : Nat) (f : Fd) (hx : a.eval x = .slice (some ⟨B, 0, none⟩) 1 1) (hB : IsB w B f.cs 34) (hm : n ≤ 1000) (hbase : base ≤ w.heap.size)
    (h : ∀ g cap w', w'.ownsRow base 34 14 (.slice (some ⟨g, 0, none⟩) (n + 1) cap) (n + 1) (cellsOf fs ++ f.cs.toList) → w.grownBy w' la.ownBlock → (la.ownBlock = some g ∨ g = w.heap.size) → wpList Tryd.prog ops Q rest (a.put o.dst (.slice (some ⟨g, 0, none⟩) (n + 1) cap)) w') : wpList Tryd.prog ops Q (o :: rest) a w := by
  obtain ⟨i0, hi, hz0, hz1, hz2⟩ := info_parts Tryd.infoField
  refine wpList_append_lies _ hgd s x 22 ho base 34 i0 _ 14 128 Tryd.underlying22 hi hz0 hz1 hz2 rfl (by decide) _ _ _ hs hown ⟨B, 0, none⟩ 1 1 f.cs.toList hx (cs_size f) (World.news_of_block (cs := f.cs) (t := 34) (fr := (0, 0)) hB) (one_fd f) (by decide) (by unfold maxLen; omega) (by omega) hbase _ rfl ?_
  intro g cap w' h1 h2 h3 _
  exact h g cap w' h1 h2 h3

theorem own_mono {w : World} {base base' : Nat} (hb : base' ≤ base) {e : TypeId} {size : Nat} {v : Value} {n : Nat} {xs : List Value} (h : w.ownsRow base e size v n xs) : w.ownsRow base' e size v n xs := by
  refine ⟨h.1, ?_⟩
  rcases h.2 with h2 | ⟨g, cap, cur, h1, h2, h3⟩
  · exact Or.inl h2
  · exact Or.inr ⟨g, cap, cur, h1, Nat.le_trans hb h2, h3⟩
/-- How far the document's First has come. -/
structure DN (w W : World) (Q sb : Nat) (L : List Int) (p : Nat) (vs : List FV) (fa : Option Addr) (fc : Nat) (fs : List Fd) (wr : World) : Prop where
  flen : fs.length = vs.length
  rows : ∀ (j : Nat) (v : FV) (f : Fd), vs[j]? = some v → fs[j]? = some f → v.DAt wr W.heap.size f ∧ (f.blk = none ∨ f.blk ≠ (Value.slice fa vs.length fc).ownBlock)
  own : wr.ownsRow W.heap.size 34 14 (.slice fa vs.length fc) vs.length (cellsOf fs)
  dr : DR wr Q sb L p 0
  below : RowKit.Below w.heap.size w wr
  size : W.heap.size ≤ wr.heap.size
theorem DN.step {w W : World} {vs : List FV} {Q sb : Nat} {L : List Int} {p q : Nat} {fa : Option Addr} {fc : Nat} {fs : List Fd} {wr : World} (h : DN w W Q sb L p vs fa fc fs wr)
    (hR : Q < W.heap.size) (hRw : w.heap.size ≤ Q) (hW : w.heap.size ≤ W.heap.size) (hsW : sb < W.heap.size)
    {v : FV} {f : Fd} {w1 : World} (hat : v.DAt w1 wr.heap.size f) (hl2 : DR w1 Q sb L q 0) (hg1 : wr.grownBy w1 (some Q))
    {ob : Obj} {g cp : Nat} {w2 : World} (hown : w2.ownsRow W.heap.size 34 14 (.slice (some ⟨g, 0, none⟩) (vs.length + 1) cp) (vs.length + 1) (cellsOf fs ++ f.cs.toList)) (hg2 : (w1.alloc ob).grownBy w2 (Value.slice fa vs.length fc).ownBlock)
    (hwh : (Value.slice fa vs.length fc).ownBlock = some g ∨ g = w1.heap.size + 1) :
    DN w W Q sb L q (vs ++ [v]) (some ⟨g, 0, none⟩) cp (fs ++ [f]) w2 := by
  have hvl : (vs ++ [v]).length = vs.length + 1 := by rw [List.length_append]; rfl
  have hob : ∀ j, (Value.slice fa vs.length fc).ownBlock = some j → W.heap.size ≤ j ∧ j < wr.heap.size := h.own.lt
  have hneR : ∀ (x : Nat), x < W.heap.size → some x ≠ (Value.slice fa vs.length fc).ownBlock := fun x hx he => by have := hob x he.symm; omega
  have hsz1 := hg1.size
  have hs := h.size
  have hsz2 := hg2.size
  rw [World.size_alloc] at hsz2
  have hgg : W.heap.size ≤ g := (hown.lt g rfl).1
  refine ⟨by rw [List.length_append, List.length_append, h.flen]; rfl, ?_, ?_, ?_, ?_, ?_⟩
  · intro j v' f' hv' hf'
    rw [hvl]
    rcases Nat.lt_or_ge j vs.length with hjk | hjk
    · rw [List.getElem?_append_left (by rw [h.flen]; exact hjk)] at hf'
      rw [List.getElem?_append_left hjk] at hv'
      obtain ⟨ha, hb⟩ := h.rows j v' f' hv' hf'
      have hbl := ha.blk
      refine ⟨((ha.kept hg1 ?_).kept (World.grownBy_alloc w1 ob none) ?_).kept hg2 hb, ?_⟩
      · rcases hbl with hbl | ⟨x, hx, h1, h2⟩
        · exact Or.inl hbl
        · right; rw [hx]; simp only [ne_eq, Option.some.injEq]; omega
      · rcases hbl with hbl | ⟨x, hx, h1, h2⟩
        · exact Or.inl hbl
        · right; rw [hx]; simp
      · rcases hbl with hbl | ⟨x, hx, h1, h2⟩
        · exact Or.inl hbl
        · right
          rcases hwh with hwh | hwh
          · rcases hb with hb | hb
            · rw [hx] at hb; cases hb
            · rw [hwh] at hb; exact hb
          · rw [hx]; simp only [Value.ownBlock, ne_eq, Option.some.injEq]; omega
    · have hjl : j < (fs ++ [f]).length := (List.getElem?_eq_some_iff.1 hf').1
      rw [List.length_append, h.flen] at hjl
      simp only [List.length_singleton] at hjl
      obtain rfl : j = vs.length := by omega
      rw [List.getElem?_append_right (Nat.le_refl _), Nat.sub_self] at hv'
      obtain rfl : v = v' := by simpa using hv'
      have hf2 : f' = f := by
        rw [← h.flen, List.getElem?_append_right (Nat.le_refl _)] at hf'
        simpa using hf'.symm
      subst hf2
      have hbl := hat.blk
      refine ⟨((hat.mono hs).kept (World.grownBy_alloc w1 ob none) ?_).kept hg2 ?_, ?_⟩
      · rcases hbl with hbl | ⟨x, hx, h1, h2⟩
        · exact Or.inl hbl
        · right; rw [hx]; simp
      · rcases hbl with hbl | ⟨x, hx, h1, h2⟩
        · exact Or.inl hbl
        · right; rw [hx]; intro he; have := hob x he.symm; omega
      · rcases hbl with hbl | ⟨x, hx, h1, h2⟩
        · exact Or.inl hbl
        · right
          rw [hx]
          simp only [Value.ownBlock, ne_eq, Option.some.injEq]
          rcases hwh with hwh | hwh
          · have := hob g hwh; omega
          · omega
  · rw [hvl]
    have e : cellsOf (fs ++ [f]) = cellsOf fs ++ f.cs.toList := by unfold cellsOf; rw [List.flatMap_append]; simp
    rw [e]
    exact hown
  · exact (hl2.gr ((Gr.refl w1).alloc ob)).grown hg2 (hneR _ hR) (hneR _ hsW)
  · exact ((grown_below h.below hg1 hRw).alloc (Nat.le_trans hW (by omega)) ob).grown hg2 (Nat.le_trans hW (by rw [World.size_alloc]; omega)) (fun j hj => Nat.le_trans hW (hob j hj).1)
  · omega

/-- These fields were read by the document. -/
def DReadTo (w w' : World) (vs : List FV) (fa : Option Addr) (fc : Nat) : Prop :=
  ∃ fs : List Fd, fs.length = vs.length ∧ w'.ownsRow w.heap.size 34 14 (.slice fa vs.length fc) vs.length (cellsOf fs) ∧ (∀ (j : Nat) (v : FV) (f : Fd), vs[j]? = some v → fs[j]? = some f → v.DAt w' w.heap.size f) ∧ RowKit.Below w.heap.size w w'
theorem ReadTo.d {w w' : World} {vs : List FV} {fa : Option Addr} {fc : Nat} (h : ReadTo w w' vs fa fc) : DReadTo w w' vs fa fc := by
  obtain ⟨fs, h1, h2, h3, h4⟩ := h
  exact ⟨fs, h1, h2, fun j v f a b => (h3 j v f a b).d, h4⟩
def DTold (w : World) (p : PR (List FV)) (e : Ending) (w' : World) : Prop :=
  (match p with
    | .ok vs n => ∃ fa fc, e = .returned (.tuple #[.slice fa vs.length fc, .int .i64 (n : Int), .int .i64 0]) ∧ DReadTo w w' vs fa fc
    | .bad i er => e = .returned (.tuple #[.slice none 0 0, .int .i64 (i : Int), .int .i64 er]) ∧ er ≠ 0) ∧ RowKit.Below w.heap.size w w'
theorem Bys.dr {w W : World} {sb : Nat} {a : Option Addr} {cap : Nat} {l : List Int} (h : Bys w sb a cap l) {R : Nat} (hR : w.heap.size ≤ R) (hg : Gr w W) (hI : IsB W R #[.slice a l.length cap, .int .i64 0, .int .i64 0] 73) : DR W R sb l 0 0 := by
  obtain ⟨h1, h2, h3, h4, h5, h6⟩ := h
  refine ⟨a, cap, hI, by omega, h3, h1, h2, h4, fun x hx => ?_, ?_⟩
  · rcases h6 with ⟨ha, _⟩ | ⟨o, ha, _⟩
    · rw [ha] at hx; cases hx
    · rw [ha] at hx; cases hx; rfl
  · rcases h6 with h6 | ⟨o, ha, hc⟩
    · exact Or.inl h6
    · exact Or.inr ⟨sb, o, ha, by omega, Nat.lt_of_lt_of_le h5 hg.le, fun j hj => hg.cell (by exact h5) (hc j hj)⟩
theorem risKind_any (k : Int) (w : World) : Calls Tryd.prog 32 #[.int .i64 k] w fun e w' => e = .returned (.bool (decide (1 ≤ k ∧ k ≤ 7))) ∧ w' = w := by
  by_cases h1 : 1 ≤ k
  · have e : decide (1 ≤ k ∧ k ≤ 7) = decide (k ≤ 7) := by simp [h1]
    rw [e]; clear e
    go_enter Tryd.func32, Tryd.ntmps32
    go_wp2
    go_ret
    exact ⟨by simp, rfl⟩
  · have e : decide (1 ≤ k ∧ k ≤ 7) = false := by simp [h1]
    rw [e]; clear e
    go_enter Tryd.func32, Tryd.ntmps32
    go_wp2
    go_ret
    exact ⟨by simp, rfl⟩
theorem risKind_yes (k : Int) (h1 : 1 ≤ k) (h7 : k ≤ 7) (w : World) : Calls Tryd.prog 32 #[.int .i64 k] w fun e w' => e = .returned (.bool true) ∧ w' = w := by
  have := risKind_any k w
  rw [show decide (1 ≤ k ∧ k ≤ 7) = true from by simp [h1, h7]] at this
  exact this
theorem risKind_no (k : Int) (h : ¬ (1 ≤ k ∧ k ≤ 7)) (w : World) : Calls Tryd.prog 32 #[.int .i64 k] w fun e w' => e = .returned (.bool false) ∧ w' = w := by
  have := risKind_any k w
  rw [show decide (1 ≤ k ∧ k ≤ 7) = false from by simpa using h] at this
  exact this

set_option maxHeartbeats 8000000 in
set_option maxRecDepth 100000 in
theorem rfirst_any (ks l : List Int) (hks : ∀ k ∈ ks, 1 ≤ k ∧ k ≤ 7) (hn : ks.length ≤ 1000) (sb : Nat) (a : Option Addr) (cap : Nat) (ka : Option Addr) (kc : Nat) (w : World) (hB : Bys w sb a cap l)
    (hK : ∀ (j : Nat) (k : Int), ks[j]? = some k → ∃ kb ko, ka = some ⟨kb, ko, none⟩ ∧ w.cell? ⟨kb, ko + j, none⟩ = some (.int .i64 k)) :
    Calls Tryd.prog 22 #[.slice a l.length cap, .slice ka ks.length kc] w fun e w' => DTold w (pfields ks l) e w' := by
  have mixed : Tryd.prog.follows .mixedOrders = true := by kernel_rfl
  have hsb : sb < w.heap.size := hB.2.2.2.2.1
  have HB := hide hB
  have HK := hide hK
  have HKS := hide hks
  clear hB hK hks
  go_enter Tryd.func22, Tryd.ntmps22
  go_wp2
  go_loop [7] (fun i => ∃ k : Nat, k ≤ ks.length ∧ i = .int .i64 (k : Int)) (fun i => ks.length - (intOf i).toNat)
  case atStart => exact ⟨0, by omega, rfl⟩
  case round =>
    obtain ⟨k, hk, rfl⟩ := hrel
    by_cases hlt : k < ks.length
    · obtain ⟨kb, ko, rfl, hkc⟩ := HK.out k _ (List.getElem?_eq_getElem hlt)
      obtain ⟨hq1, hq2⟩ := HKS.out _ (List.getElem_mem hlt)
      generalize ks[k] = q at hkc hq1 hq2
      go_wp2_with fail
      refine (risKind_yes q hq1 hq2 _).mono ?_; rintro e w1 ⟨rfl, rfl⟩
      go_wp2
      go_round
      case rel => exact ⟨k + 1, by omega, by go_num⟩
      case measure => simp [intOf]; omega
    · obtain rfl : k = ks.length := by omega
      clear hlt hk
      have I3 := IsB.new w #[.slice a l.length cap, .int .i64 0, .int .i64 0] 73
      have HG := hide (show Gr w (w.alloc (.cells #[.slice a l.length cap, .int .i64 0, .int .i64 0] 73)) from (Gr.refl w).alloc _)
      have hl3 := I3.lt
      have HD0 := hide (HB.out.dr (Nat.le_refl _) HG.out I3)
      clear I3 HB
      go_wp2
      generalize w.alloc (.cells #[.slice a l.length cap, .int .i64 0, .int .i64 0] 73) = W at *
      have hWs := HG.out.le
      have HF0 := hide (show DN w W w.heap.size sb l 0 [] none 0 [] W from
        ⟨rfl, (fun j v f _ h => by simp at h), World.ownsRow_nil _ _ _ _, HD0.out, HG.out.below, Nat.le_refl _⟩)
      clear HD0
      go_loopw [9, 10] (fun u i wr => ∃ (k : Nat) (vs : List FV) (n : Nat) (fa : Option Addr) (fc : Nat) (fs : List Fd), k ≤ ks.length ∧ vs.length = k ∧ i = .int .i64 (k : Int) ∧ u = .slice fa vs.length fc ∧ pfields ks l = PR.behind vs n (pfields (ks.drop k) (l.drop n)) ∧ Hid (DN w W w.heap.size sb l n vs fa fc fs wr)) (fun _ i _ => ks.length - (intOf i).toNat)
      case atStart => exact ⟨0, [], 0, none, 0, [], by omega, rfl, rfl, rfl, (behind_nil _).symm, HF0⟩
      case round =>
        clear HF0
        obtain ⟨k, vs, n, fa, fc, fs, hk, hvl, rfl, rfl, hpp, HF⟩ := hrel
        have HPP := hide hpp
        have HVL := hide hvl
        have hvn : vs.length ≤ 1000 := by omega
        clear hpp hvl
        by_cases hlt : k < ks.length
        · have hkk : ks[k]? = some ks[k] := List.getElem?_eq_getElem hlt
          have hd : ks.drop k = ks[k] :: ks.drop (k + 1) := List.drop_eq_getElem_cons hlt
          have hk17 := HKS.out _ (List.getElem_mem hlt)
          obtain ⟨kb, ko, rfl, hkc0⟩ := HK.out k _ hkk
          have hkc : wr.cell? ⟨kb, ko + k, none⟩ = some (.int .i64 ks[k]) := (HF.out.below.cell (lt_of_cell hkc0)).trans hkc0
          generalize ks[k] = q at *
          have hfa := hide (rfield_any q hk17.1 hk17.2 w.heap.size sb l n wr HF.out.dr (show sb < wr.heap.size by have := HF.out.size; omega))
          have hWsz := HF.out.size
          rw [hd] at HPP
          clear hkc0 hkk hd
          rcases hp : pfield q (l.drop n) with ⟨v, m⟩ | ⟨i, er⟩
          · have HBO := hide (behind_ok (ks := ks.drop (k + 1)) (vs := vs) (n := n) hp)
            rw [List.drop_drop] at HBO
            rw [hp] at hfa
            clear hp
            go_wp2_with fail
            refine hfa.out.mono ?_
            rintro e w1 ⟨f, rfl, hg1, hat, hd2⟩
            obtain ⟨f0, f1, f2, f3, f4, f5, f6, f7, f8, f9, f10, f11, f12, f13, f14, f15⟩ := f
            simp only [Fd.cs]
            have hown1 := hide (HF.out.own.kept hg1 (by right; intro he; have := HF.out.own.lt _ he; simp only [Option.some.injEq] at *; omega))
            have hsz1 := hg1.size
            have HG1 := hide hg1
            have HD2 := hide hd2
            have HAT := hide hat
            clear hg1 hd2 hat hfa
            go_wp2_with (
              at_builtin
              refine append_fd rfl (.tmp 32) (.tmp 39) rfl W.heap.size _ vs.length fs rfl (hown1.out.alloc _) w1.heap.size ⟨f0, f1, f2, f3, f4, f5, f6, f7, f8, f9, f10, f11, f12, f13, f14, f15⟩ rfl (IsB.new w1 _ _) hvn (by rw [World.size_alloc]; omega) ?_
              intro g6 c6 w6 hown6 hgrow6 hwh6
              rw [World.size_alloc] at hwh6
              have HN := hide (HF.out.step (by omega) (Nat.le_refl _) hWs (by omega) HAT.out HD2.out HG1.out hown6 hgrow6 hwh6)
              have e2 : w6.cell? ⟨w.heap.size, 2, none⟩ = some (.int .i64 0) := by obtain ⟨_, _, h, _⟩ := HN.out.dr; exact h.cell 2
              clear hown6 hgrow6 hwh6 HAT HD2 HG1 hown1)
            go_roundw
            case rel => exact ⟨k + 1, vs ++ [v], n + m, _, _, _, by omega, by rw [List.length_append, HVL.out]; rfl, by go_num, by rw [List.length_append]; rfl, by rw [HPP.out, HBO.out], HN⟩
            case measure => simp [intOf]; omega
          · have HBB := hide (behind_bad (ks := ks.drop (k + 1)) (vs := vs) (n := n) hp)
            rw [hp] at hfa
            clear hp
            go_wp2_with fail
            refine hfa.out.mono ?_
            rintro e w1 ⟨f, rfl, hg1, hd2, hne⟩
            obtain ⟨f0, f1, f2, f3, f4, f5, f6, f7, f8, f9, f10, f11, f12, f13, f14, f15⟩ := f
            simp only [Fd.cs]
            have hown1 := hide (HF.out.own.kept hg1 (by right; intro he; have := HF.out.own.lt _ he; simp only [Option.some.injEq] at *; omega))
            have hsz1 := hg1.size
            have HG1 := hide hg1
            have HD2 := hide hd2
            clear hg1 hd2 hfa
            go_wp2_with (
              at_builtin
              refine append_fd rfl (.tmp 32) (.tmp 39) rfl W.heap.size _ vs.length fs rfl (hown1.out.alloc _) w1.heap.size ⟨f0, f1, f2, f3, f4, f5, f6, f7, f8, f9, f10, f11, f12, f13, f14, f15⟩ rfl (IsB.new w1 _ _) hvn (by rw [World.size_alloc]; omega) ?_
              intro g6 c6 w6 hown6 hgrow6 hwh6
              have HD6 := (HD2.out.gr ((Gr.refl w1).alloc _)).grown hgrow6 (by intro he; have := HF.out.own.lt _ he.symm; omega) (by intro he; have := HF.out.own.lt _ he.symm; omega)
              have HB6 := hide (((grown_below HF.out.below HG1.out (Nat.le_refl _)).alloc (Nat.le_trans hWs (by omega)) _).grown hgrow6 (Nat.le_trans hWs (by rw [World.size_alloc]; omega)) (fun j hj => Nat.le_trans hWs (HF.out.own.lt j hj).1))
              have e1 : w6.cell? ⟨w.heap.size, 1, none⟩ = some (.int .i64 ((n + i : Nat) : Int)) := by obtain ⟨_, _, h, _⟩ := HD6; exact h.cell 1
              have e2 : w6.cell? ⟨w.heap.size, 2, none⟩ = some (.int .i64 er) := by obtain ⟨_, _, h, _⟩ := HD6; exact h.cell 2
              have hne' : (er != 0) = true := by simp [hne]
              replace hne := hide hne
              clear hown6 hgrow6 hwh6 HD2 HG1 hown1 HD6)
            go_region
            go_wp2
            go_ret3
            rw [HPP.out, HBB.out]
            exact ⟨⟨rfl, hne.out⟩, HB6.out.drew⟩
        · obtain rfl : k = ks.length := by omega
          have hd : pfields ks l = .ok vs n := by rw [HPP.out, List.drop_length]; simp [pfields, PR.behind]
          have e1 : wr.cell? ⟨w.heap.size, 1, none⟩ = some (.int .i64 (n : Int)) := by obtain ⟨_, _, h, _⟩ := HF.out.dr; exact h.cell 1
          replace hd := hide hd
          go_wp2
          go_region
          go_wp2
          go_ret3
          rw [hd.out]
          refine ⟨⟨fa, fc, rfl, fs, HF.out.flen, own_mono hWs HF.out.own, fun j v f h1 h2 => ((HF.out.rows j v f h1 h2).1.mono hWs), HF.out.below.drew⟩, HF.out.below.drew⟩

end Go.Proofs.YtmhcmlegdoapdaaDoor

/- Unpack, by the program and by the document, of any bytes; kinds that are none. -/
namespace Go.Proofs.YtmhcmlegdoapdaaDoor
open Go.RowKit

theorem prow_err (l : List Int) (i : Nat) (e : Int) (h : prow l = .bad i e) : e ≠ 0 := by
  unfold prow at h
  rcases hp : pnum 65536 0 0 l with ⟨x, n⟩ | ⟨j, er⟩
  · rw [hp] at h
    simp only [] at h
    split at h
    · cases h
    · cases h; decide
  · rw [hp] at h; cases h; exact pnum_err _ _ _ _ _ _ hp
theorem ptruth_err (l : List Int) (i : Nat) (e : Int) (h : ptruth l = .bad i e) : e ≠ 0 := by
  rcases l with _ | ⟨c, l⟩
  · cases h; decide
  · by_cases hr : c ≤ 1
    · have : ptruth (c :: l) = .ok (decide (c = 1)) 1 := if_pos hr
      rw [this] at h; cases h
    · have : ptruth (c :: l) = .bad 0 31 := if_neg hr
      rw [this] at h; cases h; decide
theorem pref_err (l : List Int) (i : Nat) (e : Int) (h : pref l = .bad i e) : e ≠ 0 := by
  unfold pref at h
  rcases h1 : pwhole l with ⟨x, n⟩ | ⟨j, er⟩
  · rw [h1] at h
    simp only [] at h
    rcases h2 : pkey (l.drop n) with ⟨y, n2⟩ | ⟨j, er⟩
    · rw [h2] at h
      simp only [] at h
      rcases h3 : pvec ((l.drop n).drop n2) with ⟨z, n3⟩ | ⟨j, er⟩
      · rw [h3] at h; cases h
      · rw [h3] at h; cases h; exact pvec_err _ _ _ h3
    · rw [h2] at h; cases h; exact pkey_err _ _ _ h2
  · rw [h1] at h; cases h; exact pwhole_err _ _ _ h1
theorem map_bad {α β : Type} (f : α → β) (p : PR α) (i : Nat) (e : Int) (h : p.map f = .bad i e) : p = .bad i e := by
  cases p with
  | ok x n => cases h
  | bad j er => cases h; rfl
theorem pfield_err (k : Int) (l : List Int) (i : Nat) (e : Int) (h : pfield k l = .bad i e) : e ≠ 0 := by
  unfold pfield at h
  split at h
  · exact pnum_err _ _ _ _ _ _ (map_bad _ _ _ _ h)
  split at h
  · exact pwhole_err _ _ _ (map_bad _ _ _ _ h)
  split at h
  · exact ptruth_err _ _ _ (map_bad _ _ _ _ h)
  split at h
  · exact prow_err _ _ _ (map_bad _ _ _ _ h)
  split at h
  · exact pvec_err _ _ _ (map_bad _ _ _ _ h)
  split at h
  · exact pkey_err _ _ _ (map_bad _ _ _ _ h)
  · exact pref_err _ _ _ (map_bad _ _ _ _ h)
theorem pfields_err (ks : List Int) : ∀ (l : List Int) (i : Nat) (e : Int), pfields ks l = .bad i e → e ≠ 0 := by
  induction ks with
  | nil => intro l i e h; cases h
  | cons k ks ih =>
    intro l i e h
    unfold pfields at h
    rcases h1 : pfield k l with ⟨v, n⟩ | ⟨j, er⟩
    · rw [h1] at h
      simp only [] at h
      rcases h2 : pfields ks (l.drop n) with ⟨us, m⟩ | ⟨j, er⟩
      · rw [h2] at h; cases h
      · rw [h2] at h; cases h; exact ih _ _ _ h2
    · rw [h1] at h; cases h; exact pfield_err _ _ _ _ h1

/-- What Unpack tells. -/
def Unp (w : World) (p : PR (List FV)) (len : Nat) (e : Ending) (w' : World) : Prop :=
  (match p with
    | .ok vs n => (n < len ∧ e = .returned (.tuple #[.slice none 0 0, .int .i64 (n : Int), .int .i64 33])) ∨ (len ≤ n ∧ ∃ fa fc, e = .returned (.tuple #[.slice fa vs.length fc, .int .i64 0, .int .i64 0]) ∧ DReadTo w w' vs fa fc)
    | .bad i er => e = .returned (.tuple #[.slice none 0 0, .int .i64 (i : Int), .int .i64 er])) ∧ RowKit.Below w.heap.size w w'

set_option maxHeartbeats 4000000 in
set_option maxRecDepth 100000 in
theorem unpack_any (ks l : List Int) (hks : ∀ k ∈ ks, 1 ≤ k ∧ k ≤ 7) (hn : ks.length ≤ 1000) (sb : Nat) (a : Option Addr) (cap : Nat) (ka : Option Addr) (kc : Nat) (w : World) (hR : Ranks w) (hB : Bys w sb a cap l)
    (hK : ∀ (j : Nat) (k : Int), ks[j]? = some k → ∃ kb ko, ka = some ⟨kb, ko, none⟩ ∧ w.cell? ⟨kb, ko + j, none⟩ = some (.int .i64 k)) :
    Calls Tryd.prog 19 #[.slice a l.length cap, .slice ka ks.length kc] w fun e w' => Unp w (pfields ks l) l.length e w' := by
  have hr := hide (first_any ks l hks hn sb a cap ka kc w hR hB hK)
  have hbl := hB.2.2.1
  clear hB hK hks hR
  go_enter Tryd.func19, Tryd.ntmps19
  go_wp2_with fail
  refine hr.out.mono ?_
  intro e w1 hE
  rcases hp : pfields ks l with ⟨vs, n⟩ | ⟨i, er⟩
  · rw [hp] at hE
    obtain ⟨⟨fa, fc, rfl, h1⟩, h2⟩ := hE
    have H1 := hide h1.d
    have H2 := hide h2
    have HP := hide hp
    clear h1 h2 hr hp
    by_cases hlt : n < l.length
    · have hlt' : (n : Int) < (l.length : Int) := by omega
      have HL := hide hlt
      clear hlt
      go_wp2
      go_ret3
      rw [HP.out]
      exact ⟨Or.inl ⟨HL.out, rfl⟩, H2.out⟩
    · have hlt' : ¬ (n : Int) < (l.length : Int) := by omega
      have HL := hide hlt
      clear hlt
      go_wp2
      go_ret3
      rw [HP.out]
      exact ⟨Or.inr ⟨by have := HL.out; omega, fa, fc, rfl, H1.out⟩, H2.out⟩
  · rw [hp] at hE
    obtain ⟨rfl, h2⟩ := hE
    have H2 := hide h2
    have hne : (er != 0) = true := by simp [pfields_err ks l i er hp]
    have HP := hide hp
    clear h2 hr hp
    go_wp2
    go_ret3
    rw [HP.out]
    exact ⟨rfl, H2.out⟩

set_option maxHeartbeats 4000000 in
set_option maxRecDepth 100000 in
theorem runpack_any (ks l : List Int) (hks : ∀ k ∈ ks, 1 ≤ k ∧ k ≤ 7) (hn : ks.length ≤ 1000) (sb : Nat) (a : Option Addr) (cap : Nat) (ka : Option Addr) (kc : Nat) (w : World) (hB : Bys w sb a cap l)
    (hK : ∀ (j : Nat) (k : Int), ks[j]? = some k → ∃ kb ko, ka = some ⟨kb, ko, none⟩ ∧ w.cell? ⟨kb, ko + j, none⟩ = some (.int .i64 k)) :
    Calls Tryd.prog 23 #[.slice a l.length cap, .slice ka ks.length kc] w fun e w' => Unp w (pfields ks l) l.length e w' := by
  have hr := hide (rfirst_any ks l hks hn sb a cap ka kc w hB hK)
  have hbl := hB.2.2.1
  clear hB hK hks
  go_enter Tryd.func23, Tryd.ntmps23
  go_wp2_with fail
  refine hr.out.mono ?_
  intro e w1 hE
  rcases hp : pfields ks l with ⟨vs, n⟩ | ⟨i, er⟩
  · rw [hp] at hE
    obtain ⟨⟨fa, fc, rfl, h1⟩, h2⟩ := hE
    have H1 := hide h1
    have H2 := hide h2
    have HP := hide hp
    clear h1 h2 hr hp
    by_cases hlt : n < l.length
    · have hlt' : (n : Int) < (l.length : Int) := by omega
      have HL := hide hlt
      clear hlt
      go_wp2
      go_ret3
      rw [HP.out]
      exact ⟨Or.inl ⟨HL.out, rfl⟩, H2.out⟩
    · have hlt' : ¬ (n : Int) < (l.length : Int) := by omega
      have HL := hide hlt
      clear hlt
      go_wp2
      go_ret3
      rw [HP.out]
      exact ⟨Or.inr ⟨by have := HL.out; omega, fa, fc, rfl, H1.out⟩, H2.out⟩
  · rw [hp] at hE
    obtain ⟨⟨rfl, h3⟩, h2⟩ := hE
    have H2 := hide h2
    have hne : (er != 0) = true := by simp [h3]
    have HP := hide hp
    clear h2 hr hp h3
    go_wp2
    go_ret3
    rw [HP.out]
    exact ⟨rfl, H2.out⟩

set_option maxHeartbeats 4000000 in
set_option maxRecDepth 100000 in
theorem rfirst_none (ks : List Int) (k0 : Nat) (hk0 : k0 < ks.length) (hks : ∀ j (hj : j < k0), 1 ≤ ks[j] ∧ ks[j] ≤ 7) (hbad : ¬ (1 ≤ ks[k0] ∧ ks[k0] ≤ 7)) (hn : ks.length ≤ 1000) (v : Value) (kb ko kc : Nat) (w : World)
    (hK : ∀ (j : Nat) (k : Int), ks[j]? = some k → w.cell? ⟨kb, ko + j, none⟩ = some (.int .i64 k)) :
    Calls Tryd.prog 22 #[v, .slice (some ⟨kb, ko, none⟩) ks.length kc] w fun e w' => e = .returned (.tuple #[.slice none 0 0, .int .i64 0, .int .i64 30]) ∧ w' = w := by
  have HK := hide hK
  have HKS := hide hks
  have HBAD := hide hbad
  clear hK hks hbad
  go_enter Tryd.func22, Tryd.ntmps22
  go_wp2
  go_loop [7] (fun i => ∃ k : Nat, k ≤ k0 ∧ i = .int .i64 (k : Int)) (fun i => ks.length - (intOf i).toNat)
  case atStart => exact ⟨0, by omega, rfl⟩
  case round =>
    obtain ⟨k, hk, rfl⟩ := hrel
    by_cases hlt : k < k0
    · have hkc := HK.out k _ (List.getElem?_eq_getElem (by omega))
      obtain ⟨hq1, hq2⟩ := HKS.out k hlt
      generalize ks[k] = q at hkc hq1 hq2
      go_wp2_with fail
      refine (risKind_yes q hq1 hq2 _).mono ?_; rintro e w1 ⟨rfl, rfl⟩
      go_wp2
      go_round
      case rel => exact ⟨k + 1, by omega, by go_num⟩
      case measure => simp [intOf]; omega
    · obtain rfl : k0 = k := by omega
      have hkc := HK.out k0 _ (List.getElem?_eq_getElem hk0)
      have hb := HBAD.out
      generalize ks[k0] = q at hkc hb
      go_wp2_with fail
      refine (risKind_no q hb _).mono ?_; rintro e w1 ⟨rfl, rfl⟩
      go_wp2
      go_ret3
      exact ⟨rfl, rfl⟩

set_option maxHeartbeats 4000000 in
set_option maxRecDepth 100000 in
theorem unpack_none (a : Option Addr) (len cap : Nat) (v : Value) (w : World)
    (h : Calls Tryd.prog 20 #[.slice a len cap, v] w fun e w' => e = .returned (.tuple #[.slice none 0 0, .int .i64 0, .int .i64 30]) ∧ w' = w) :
    Calls Tryd.prog 19 #[.slice a len cap, v] w fun e w' => e = .returned (.tuple #[.slice none 0 0, .int .i64 0, .int .i64 30]) ∧ w' = w := by
  have hr := hide h
  clear h
  go_enter Tryd.func19, Tryd.ntmps19
  go_wp2_with fail
  refine hr.out.mono ?_
  rintro e w1 ⟨rfl, rfl⟩
  clear hr
  go_wp2
  go_ret3
  exact ⟨rfl, rfl⟩

set_option maxHeartbeats 4000000 in
set_option maxRecDepth 100000 in
theorem runpack_none (a : Option Addr) (len cap : Nat) (v : Value) (w : World)
    (h : Calls Tryd.prog 22 #[.slice a len cap, v] w fun e w' => e = .returned (.tuple #[.slice none 0 0, .int .i64 0, .int .i64 30]) ∧ w' = w) :
    Calls Tryd.prog 23 #[.slice a len cap, v] w fun e w' => e = .returned (.tuple #[.slice none 0 0, .int .i64 0, .int .i64 30]) ∧ w' = w := by
  have hr := hide h
  clear h
  go_enter Tryd.func23, Tryd.ntmps23
  go_wp2_with fail
  refine hr.out.mono ?_
  rintro e w1 ⟨rfl, rfl⟩
  clear hr
  go_wp2
  go_ret3
  exact ⟨rfl, rfl⟩

end Go.Proofs.YtmhcmlegdoapdaaDoor
