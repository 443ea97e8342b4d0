/- The document's First, of any bytes. -/
import Derived.Test.YtmhcmlegdoapdaaDoorWA
import Derived.Test.YtmhcmlegdoapdaaDoorRP
namespace Go.Proofs.YtmhcmlegdoapdaaDoor
open Go.RowKit

theorem FV.fd_blk (v : FV) (l : List Int) (h : v.row = some l) (a : Option Addr) (n c : Nat) : (v.fd a n c).blk = a.map (·.block) := by
  cases v <;> first | rfl | cases h
theorem FV.DAt.blk {w : World} {base : Nat} {v : FV} {f : Fd} (h : v.DAt w base f) : f.blk = none ∨ ∃ g, f.blk = some g ∧ base ≤ g ∧ g < w.heap.size := by
  rcases h with ⟨hr, rfl⟩ | ⟨l, a, c, hr, rfl, ho⟩
  · exact Or.inl (v.fd_none hr)
  · rw [v.fd_blk l hr]
    rcases ho.2 with ⟨h1, _⟩ | ⟨g, cp, cur, h1, _⟩
    · injection h1 with h1 _ _
      rw [h1]; exact Or.inl rfl
    · injection h1 with h1 _ _
      subst h1
      exact Or.inr ⟨g, rfl, ho.lt g rfl⟩
theorem FV.DAt.kept {w w' : World} {base : Nat} {v : FV} {f : Fd} (h : v.DAt w base f) {row : Option Nat} (hg : w.grownBy w' row) (hne : f.blk = none ∨ f.blk ≠ row) : v.DAt w' base f := by
  rcases h with ⟨hr, hf⟩ | ⟨l, a, c, hr, rfl, ho⟩
  · exact Or.inl ⟨hr, hf⟩
  · refine Or.inr ⟨l, a, c, hr, rfl, ho.kept hg ?_⟩
    rw [v.fd_blk l hr] at hne
    rcases ho.2 with ⟨h1, _⟩ | ⟨g, cp, cur, h1, _⟩
    · injection h1 with h1 _ _
      rw [h1]; exact Or.inl rfl
    · injection h1 with h1 _ _
      subst h1
      rcases hne with h | h
      · cases h
      · exact Or.inr h
theorem FV.DAt.mono {w : World} {base base' : Nat} {v : FV} {f : Fd} (h : v.DAt w base f) (hb : base' ≤ base) : v.DAt w base' f := by
  rcases h with ⟨hr, hf⟩ | ⟨l, a, c, hr, hf, ho⟩
  · exact Or.inl ⟨hr, hf⟩
  · exact Or.inr ⟨l, a, c, hr, hf, owns_base hb ho⟩
theorem one_fd (f : Fd) : ∀ u ∈ f.cs.toList, u.oneCell' = true := by
  obtain ⟨f0, f1, f2, f3, f4, f5, f6, f7, f8, f9, f10, f11, f12, f13, f14, f15⟩ := f
  exact one14 f0 f1 f2 f3 f4 f5 f6 f7 f8 f9 f10 f11 f12 f13 f14 f15
theorem cs_size (f : Fd) : f.cs.toList.length = 14 := by cases f; rfl
theorem append_fd {w : World} {ops : Array Oper} {rest : List Oper} {o : Oper} {a : Act} {Q : Exit → Act → World → Prop} (hgd : o.guard = none) (s x : Operand)
    (ho : o.op = .call { callee := .builtin .append, args := #[s, x], argTypes := #[22, 22] })
    (base : Nat) (la : Value) (n : Nat) (fs : List Fd) (hs : a.eval s = la) (hown : w.ownsRow base 34 14 la n (cellsOf fs))
    (B : Nat) (f : Fd) (hx : a.eval x = .slice (some ⟨B, 0, none⟩) 1 1) (hB : IsB w B f.cs 34) (hm : n ≤ 1000) (hbase : base ≤ w.heap.size)
    (h : ∀ g cap w', w'.ownsRow base 34 14 (.slice (some ⟨g, 0, none⟩) (n + 1) cap) (n + 1) (cellsOf fs ++ f.cs.toList) → w.grownBy w' la.ownBlock → (la.ownBlock = some g ∨ g = w.heap.size) → wpList Tryd.prog ops Q rest (a.put o.dst (.slice (some ⟨g, 0, none⟩) (n + 1) cap)) w') : wpList Tryd.prog ops Q (o :: rest) a w := by
  obtain ⟨i0, hi, hz0, hz1, hz2⟩ := info_parts Tryd.infoField
  refine wpList_append_lies _ hgd s x 22 ho base 34 i0 _ 14 128 Tryd.underlying22 hi hz0 hz1 hz2 rfl (by decide) _ _ _ hs hown ⟨B, 0, none⟩ 1 1 f.cs.toList hx (cs_size f) (World.news_of_block (cs := f.cs) (t := 34) (fr := (0, 0)) hB) (one_fd f) (by decide) (by unfold maxLen; omega) (by omega) hbase _ rfl ?_
  intro g cap w' h1 h2 h3 _
  exact h g cap w' h1 h2 h3

theorem own_mono {w : World} {base base' : Nat} (hb : base' ≤ base) {e : TypeId} {size : Nat} {v : Value} {n : Nat} {xs : List Value} (h : w.ownsRow base e size v n xs) : w.ownsRow base' e size v n xs := by
  refine ⟨h.1, ?_⟩
  rcases h.2 with h2 | ⟨g, cap, cur, h1, h2, h3⟩
  · exact Or.inl h2
  · exact Or.inr ⟨g, cap, cur, h1, Nat.le_trans hb h2, h3⟩
/-- How far the document's First has come. -/
structure DN (w W : World) (Q sb : Nat) (L : List Int) (p : Nat) (vs : List FV) (fa : Option Addr) (fc : Nat) (fs : List Fd) (wr : World) : Prop where
  flen : fs.length = vs.length
  rows : ∀ (j : Nat) (v : FV) (f : Fd), vs[j]? = some v → fs[j]? = some f → v.DAt wr W.heap.size f ∧ (f.blk = none ∨ f.blk ≠ (Value.slice fa vs.length fc).ownBlock)
  own : wr.ownsRow W.heap.size 34 14 (.slice fa vs.length fc) vs.length (cellsOf fs)
  dr : DR wr Q sb L p 0
  below : RowKit.Below w.heap.size w wr
  size : W.heap.size ≤ wr.heap.size
theorem DN.step {w W : World} {vs : List FV} {Q sb : Nat} {L : List Int} {p q : Nat} {fa : Option Addr} {fc : Nat} {fs : List Fd} {wr : World} (h : DN w W Q sb L p vs fa fc fs wr)
    (hR : Q < W.heap.size) (hRw : w.heap.size ≤ Q) (hW : w.heap.size ≤ W.heap.size) (hsW : sb < W.heap.size)
    {v : FV} {f : Fd} {w1 : World} (hat : v.DAt w1 wr.heap.size f) (hl2 : DR w1 Q sb L q 0) (hg1 : wr.grownBy w1 (some Q))
    {ob : Obj} {g cp : Nat} {w2 : World} (hown : w2.ownsRow W.heap.size 34 14 (.slice (some ⟨g, 0, none⟩) (vs.length + 1) cp) (vs.length + 1) (cellsOf fs ++ f.cs.toList)) (hg2 : (w1.alloc ob).grownBy w2 (Value.slice fa vs.length fc).ownBlock)
    (hwh : (Value.slice fa vs.length fc).ownBlock = some g ∨ g = w1.heap.size + 1) :
    DN w W Q sb L q (vs ++ [v]) (some ⟨g, 0, none⟩) cp (fs ++ [f]) w2 := by
  have hvl : (vs ++ [v]).length = vs.length + 1 := by rw [List.length_append]; rfl
  have hob : ∀ j, (Value.slice fa vs.length fc).ownBlock = some j → W.heap.size ≤ j ∧ j < wr.heap.size := h.own.lt
  have hneR : ∀ (x : Nat), x < W.heap.size → some x ≠ (Value.slice fa vs.length fc).ownBlock := fun x hx he => by have := hob x he.symm; omega
  have hsz1 := hg1.size
  have hs := h.size
  have hsz2 := hg2.size
  rw [World.size_alloc] at hsz2
  have hgg : W.heap.size ≤ g := (hown.lt g rfl).1
  refine ⟨by rw [List.length_append, List.length_append, h.flen]; rfl, ?_, ?_, ?_, ?_, ?_⟩
  · intro j v' f' hv' hf'
    rw [hvl]
    rcases Nat.lt_or_ge j vs.length with hjk | hjk
    · rw [List.getElem?_append_left (by rw [h.flen]; exact hjk)] at hf'
      rw [List.getElem?_append_left hjk] at hv'
      obtain ⟨ha, hb⟩ := h.rows j v' f' hv' hf'
      have hbl := ha.blk
      refine ⟨((ha.kept hg1 ?_).kept (World.grownBy_alloc w1 ob none) ?_).kept hg2 hb, ?_⟩
      · rcases hbl with hbl | ⟨x, hx, h1, h2⟩
        · exact Or.inl hbl
        · right; rw [hx]; simp only [ne_eq, Option.some.injEq]; omega
      · rcases hbl with hbl | ⟨x, hx, h1, h2⟩
        · exact Or.inl hbl
        · right; rw [hx]; simp
      · rcases hbl with hbl | ⟨x, hx, h1, h2⟩
        · exact Or.inl hbl
        · right
          rcases hwh with hwh | hwh
          · rcases hb with hb | hb
            · rw [hx] at hb; cases hb
            · rw [hwh] at hb; exact hb
          · rw [hx]; simp only [Value.ownBlock, ne_eq, Option.some.injEq]; omega
    · have hjl : j < (fs ++ [f]).length := (List.getElem?_eq_some_iff.1 hf').1
      rw [List.length_append, h.flen] at hjl
      simp only [List.length_singleton] at hjl
      obtain rfl : j = vs.length := by omega
      rw [List.getElem?_append_right (Nat.le_refl _), Nat.sub_self] at hv'
      obtain rfl : v = v' := by simpa using hv'
      have hf2 : f' = f := by
        rw [← h.flen, List.getElem?_append_right (Nat.le_refl _)] at hf'
        simpa using hf'.symm
      subst hf2
      have hbl := hat.blk
      refine ⟨((hat.mono hs).kept (World.grownBy_alloc w1 ob none) ?_).kept hg2 ?_, ?_⟩
      · rcases hbl with hbl | ⟨x, hx, h1, h2⟩
        · exact Or.inl hbl
        · right; rw [hx]; simp
      · rcases hbl with hbl | ⟨x, hx, h1, h2⟩
        · exact Or.inl hbl
        · right; rw [hx]; intro he; have := hob x he.symm; omega
      · rcases hbl with hbl | ⟨x, hx, h1, h2⟩
        · exact Or.inl hbl
        · right
          rw [hx]
          simp only [Value.ownBlock, ne_eq, Option.some.injEq]
          rcases hwh with hwh | hwh
          · have := hob g hwh; omega
          · omega
  · rw [hvl]
    have e : cellsOf (fs ++ [f]) = cellsOf fs ++ f.cs.toList := by unfold cellsOf; rw [List.flatMap_append]; simp
    rw [e]
    exact hown
  · exact (hl2.gr ((Gr.refl w1).alloc ob)).grown hg2 (hneR _ hR) (hneR _ hsW)
  · exact ((grown_below h.below hg1 hRw).alloc (Nat.le_trans hW (by omega)) ob).grown hg2 (Nat.le_trans hW (by rw [World.size_alloc]; omega)) (fun j hj => Nat.le_trans hW (hob j hj).1)
  · omega

/-- These fields were read by the document. -/
def DReadTo (w w' : World) (vs : List FV) (fa : Option Addr) (fc : Nat) : Prop :=
  ∃ fs : List Fd, fs.length = vs.length ∧ w'.ownsRow w.heap.size 34 14 (.slice fa vs.length fc) vs.length (cellsOf fs) ∧ (∀ (j : Nat) (v : FV) (f : Fd), vs[j]? = some v → fs[j]? = some f → v.DAt w' w.heap.size f) ∧ RowKit.Below w.heap.size w w'
theorem ReadTo.d {w w' : World} {vs : List FV} {fa : Option Addr} {fc : Nat} (h : ReadTo w w' vs fa fc) : DReadTo w w' vs fa fc := by
  obtain ⟨fs, h1, h2, h3, h4⟩ := h
  exact ⟨fs, h1, h2, fun j v f a b => (h3 j v f a b).d, h4⟩
def DTold (w : World) (p : PR (List FV)) (e : Ending) (w' : World) : Prop :=
  (match p with
    | .ok vs n => ∃ fa fc, e = .returned (.tuple #[.slice fa vs.length fc, .int .i64 (n : Int), .int .i64 0]) ∧ DReadTo w w' vs fa fc
    | .bad i er => e = .returned (.tuple #[.slice none 0 0, .int .i64 (i : Int), .int .i64 er]) ∧ er ≠ 0) ∧ RowKit.Below w.heap.size w w'
theorem Bys.dr {w W : World} {sb : Nat} {a : Option Addr} {cap : Nat} {l : List Int} (h : Bys w sb a cap l) {R : Nat} (hR : w.heap.size ≤ R) (hg : Gr w W) (hI : IsB W R #[.slice a l.length cap, .int .i64 0, .int .i64 0] 73) : DR W R sb l 0 0 := by
  obtain ⟨h1, h2, h3, h4, h5, h6⟩ := h
  refine ⟨a, cap, hI, by omega, h3, h1, h2, h4, fun x hx => ?_, ?_⟩
  · rcases h6 with ⟨ha, _⟩ | ⟨o, ha, _⟩
    · rw [ha] at hx; cases hx
    · rw [ha] at hx; cases hx; rfl
  · rcases h6 with h6 | ⟨o, ha, hc⟩
    · exact Or.inl h6
    · exact Or.inr ⟨sb, o, ha, by omega, Nat.lt_of_lt_of_le h5 hg.le, fun j hj => hg.cell (by exact h5) (hc j hj)⟩
theorem risKind_any (k : Int) (w : World) : Calls Tryd.prog 32 #[.int .i64 k] w fun e w' => e = .returned (.bool (decide (1 ≤ k ∧ k ≤ 7))) ∧ w' = w := by
  by_cases h1 : 1 ≤ k
  · have e : decide (1 ≤ k ∧ k ≤ 7) = decide (k ≤ 7) := by simp [h1]
    rw [e]; clear e
    go_enter Tryd.func32, Tryd.ntmps32
    go_wp2
    go_ret
    exact ⟨by simp, rfl⟩
  · have e : decide (1 ≤ k ∧ k ≤ 7) = false := by simp [h1]
    rw [e]; clear e
    go_enter Tryd.func32, Tryd.ntmps32
    go_wp2
    go_ret
    exact ⟨by simp, rfl⟩
theorem risKind_yes (k : Int) (h1 : 1 ≤ k) (h7 : k ≤ 7) (w : World) : Calls Tryd.prog 32 #[.int .i64 k] w fun e w' => e = .returned (.bool true) ∧ w' = w := by
  have := risKind_any k w
  rw [show decide (1 ≤ k ∧ k ≤ 7) = true from by simp [h1, h7]] at this
  exact this
theorem risKind_no (k : Int) (h : ¬ (1 ≤ k ∧ k ≤ 7)) (w : World) : Calls Tryd.prog 32 #[.int .i64 k] w fun e w' => e = .returned (.bool false) ∧ w' = w := by
  have := risKind_any k w
  rw [show decide (1 ≤ k ∧ k ≤ 7) = false from by simpa using h] at this
  exact this

set_option maxHeartbeats 8000000 in
set_option maxRecDepth 100000 in
theorem rfirst_any (ks l : List Int) (hks : ∀ k ∈ ks, 1 ≤ k ∧ k ≤ 7) (hn : ks.length ≤ 1000) (sb : Nat) (a : Option Addr) (cap : Nat) (ka : Option Addr) (kc : Nat) (w : World) (hB : Bys w sb a cap l)
    (hK : ∀ (j : Nat) (k : Int), ks[j]? = some k → ∃ kb ko, ka = some ⟨kb, ko, none⟩ ∧ w.cell? ⟨kb, ko + j, none⟩ = some (.int .i64 k)) :
    Calls Tryd.prog 22 #[.slice a l.length cap, .slice ka ks.length kc] w fun e w' => DTold w (pfields ks l) e w' := by
  have mixed : Tryd.prog.follows .mixedOrders = true := by kernel_rfl
  have hsb : sb < w.heap.size := hB.2.2.2.2.1
  have HB := hide hB
  have HK := hide hK
  have HKS := hide hks
  clear hB hK hks
  go_enter Tryd.func22, Tryd.ntmps22
  go_wp2
  go_loop [7] (fun i => ∃ k : Nat, k ≤ ks.length ∧ i = .int .i64 (k : Int)) (fun i => ks.length - (intOf i).toNat)
  case atStart => exact ⟨0, by omega, rfl⟩
  case round =>
    obtain ⟨k, hk, rfl⟩ := hrel
    by_cases hlt : k < ks.length
    · obtain ⟨kb, ko, rfl, hkc⟩ := HK.out k _ (List.getElem?_eq_getElem hlt)
      obtain ⟨hq1, hq2⟩ := HKS.out _ (List.getElem_mem hlt)
      generalize ks[k] = q at hkc hq1 hq2
      go_wp2_with fail
      refine (risKind_yes q hq1 hq2 _).mono ?_; rintro e w1 ⟨rfl, rfl⟩
      go_wp2
      go_round
      case rel => exact ⟨k + 1, by omega, by go_num⟩
      case measure => simp [intOf]; omega
    · obtain rfl : k = ks.length := by omega
      clear hlt hk
      have I3 := IsB.new w #[.slice a l.length cap, .int .i64 0, .int .i64 0] 73
      have HG := hide (show Gr w (w.alloc (.cells #[.slice a l.length cap, .int .i64 0, .int .i64 0] 73)) from (Gr.refl w).alloc _)
      have hl3 := I3.lt
      have HD0 := hide (HB.out.dr (Nat.le_refl _) HG.out I3)
      clear I3 HB
      go_wp2
      generalize w.alloc (.cells #[.slice a l.length cap, .int .i64 0, .int .i64 0] 73) = W at *
      have hWs := HG.out.le
      have HF0 := hide (show DN w W w.heap.size sb l 0 [] none 0 [] W from
        ⟨rfl, (fun j v f _ h => by simp at h), World.ownsRow_nil _ _ _ _, HD0.out, HG.out.below, Nat.le_refl _⟩)
      clear HD0
      go_loopw [9, 10] (fun u i wr => ∃ (k : Nat) (vs : List FV) (n : Nat) (fa : Option Addr) (fc : Nat) (fs : List Fd), k ≤ ks.length ∧ vs.length = k ∧ i = .int .i64 (k : Int) ∧ u = .slice fa vs.length fc ∧ pfields ks l = PR.behind vs n (pfields (ks.drop k) (l.drop n)) ∧ Hid (DN w W w.heap.size sb l n vs fa fc fs wr)) (fun _ i _ => ks.length - (intOf i).toNat)
      case atStart => exact ⟨0, [], 0, none, 0, [], by omega, rfl, rfl, rfl, (behind_nil _).symm, HF0⟩
      case round =>
        clear HF0
        obtain ⟨k, vs, n, fa, fc, fs, hk, hvl, rfl, rfl, hpp, HF⟩ := hrel
        have HPP := hide hpp
        have HVL := hide hvl
        have hvn : vs.length ≤ 1000 := by omega
        clear hpp hvl
        by_cases hlt : k < ks.length
        · have hkk : ks[k]? = some ks[k] := List.getElem?_eq_getElem hlt
          have hd : ks.drop k = ks[k] :: ks.drop (k + 1) := List.drop_eq_getElem_cons hlt
          have hk17 := HKS.out _ (List.getElem_mem hlt)
          obtain ⟨kb, ko, rfl, hkc0⟩ := HK.out k _ hkk
          have hkc : wr.cell? ⟨kb, ko + k, none⟩ = some (.int .i64 ks[k]) := (HF.out.below.cell (lt_of_cell hkc0)).trans hkc0
          generalize ks[k] = q at *
          have hfa := hide (rfield_any q hk17.1 hk17.2 w.heap.size sb l n wr HF.out.dr (show sb < wr.heap.size by have := HF.out.size; omega))
          have hWsz := HF.out.size
          rw [hd] at HPP
          clear hkc0 hkk hd
          rcases hp : pfield q (l.drop n) with ⟨v, m⟩ | ⟨i, er⟩
          · have HBO := hide (behind_ok (ks := ks.drop (k + 1)) (vs := vs) (n := n) hp)
            rw [List.drop_drop] at HBO
            rw [hp] at hfa
            clear hp
            go_wp2_with fail
            refine hfa.out.mono ?_
            rintro e w1 ⟨f, rfl, hg1, hat, hd2⟩
            obtain ⟨f0, f1, f2, f3, f4, f5, f6, f7, f8, f9, f10, f11, f12, f13, f14, f15⟩ := f
            simp only [Fd.cs]
            have hown1 := hide (HF.out.own.kept hg1 (by right; intro he; have := HF.out.own.lt _ he; simp only [Option.some.injEq] at *; omega))
            have hsz1 := hg1.size
            have HG1 := hide hg1
            have HD2 := hide hd2
            have HAT := hide hat
            clear hg1 hd2 hat hfa
            go_wp2_with (
              at_builtin
              refine append_fd rfl (.tmp 32) (.tmp 39) rfl W.heap.size _ vs.length fs rfl (hown1.out.alloc _) w1.heap.size ⟨f0, f1, f2, f3, f4, f5, f6, f7, f8, f9, f10, f11, f12, f13, f14, f15⟩ rfl (IsB.new w1 _ _) hvn (by rw [World.size_alloc]; omega) ?_
              intro g6 c6 w6 hown6 hgrow6 hwh6
              rw [World.size_alloc] at hwh6
              have HN := hide (HF.out.step (by omega) (Nat.le_refl _) hWs (by omega) HAT.out HD2.out HG1.out hown6 hgrow6 hwh6)
              have e2 : w6.cell? ⟨w.heap.size, 2, none⟩ = some (.int .i64 0) := by obtain ⟨_, _, h, _⟩ := HN.out.dr; exact h.cell 2
              clear hown6 hgrow6 hwh6 HAT HD2 HG1 hown1)
            go_roundw
            case rel => exact ⟨k + 1, vs ++ [v], n + m, _, _, _, by omega, by rw [List.length_append, HVL.out]; rfl, by go_num, by rw [List.length_append]; rfl, by rw [HPP.out, HBO.out], HN⟩
            case measure => simp [intOf]; omega
          · have HBB := hide (behind_bad (ks := ks.drop (k + 1)) (vs := vs) (n := n) hp)
            rw [hp] at hfa
            clear hp
            go_wp2_with fail
            refine hfa.out.mono ?_
            rintro e w1 ⟨f, rfl, hg1, hd2, hne⟩
            obtain ⟨f0, f1, f2, f3, f4, f5, f6, f7, f8, f9, f10, f11, f12, f13, f14, f15⟩ := f
            simp only [Fd.cs]
            have hown1 := hide (HF.out.own.kept hg1 (by right; intro he; have := HF.out.own.lt _ he; simp only [Option.some.injEq] at *; omega))
            have hsz1 := hg1.size
            have HG1 := hide hg1
            have HD2 := hide hd2
            clear hg1 hd2 hfa
            go_wp2_with (
              at_builtin
              refine append_fd rfl (.tmp 32) (.tmp 39) rfl W.heap.size _ vs.length fs rfl (hown1.out.alloc _) w1.heap.size ⟨f0, f1, f2, f3, f4, f5, f6, f7, f8, f9, f10, f11, f12, f13, f14, f15⟩ rfl (IsB.new w1 _ _) hvn (by rw [World.size_alloc]; omega) ?_
              intro g6 c6 w6 hown6 hgrow6 hwh6
              have HD6 := (HD2.out.gr ((Gr.refl w1).alloc _)).grown hgrow6 (by intro he; have := HF.out.own.lt _ he.symm; omega) (by intro he; have := HF.out.own.lt _ he.symm; omega)
              have HB6 := hide (((grown_below HF.out.below HG1.out (Nat.le_refl _)).alloc (Nat.le_trans hWs (by omega)) _).grown hgrow6 (Nat.le_trans hWs (by rw [World.size_alloc]; omega)) (fun j hj => Nat.le_trans hWs (HF.out.own.lt j hj).1))
              have e1 : w6.cell? ⟨w.heap.size, 1, none⟩ = some (.int .i64 ((n + i : Nat) : Int)) := by obtain ⟨_, _, h, _⟩ := HD6; exact h.cell 1
              have e2 : w6.cell? ⟨w.heap.size, 2, none⟩ = some (.int .i64 er) := by obtain ⟨_, _, h, _⟩ := HD6; exact h.cell 2
              have hne' : (er != 0) = true := by simp [hne]
              replace hne := hide hne
              clear hown6 hgrow6 hwh6 HD2 HG1 hown1 HD6)
            go_region
            go_wp2
            go_ret3
            rw [HPP.out, HBB.out]
            exact ⟨⟨rfl, hne.out⟩, HB6.out.drew⟩
        · obtain rfl : k = ks.length := by omega
          have hd : pfields ks l = .ok vs n := by rw [HPP.out, List.drop_length]; simp [pfields, PR.behind]
          have e1 : wr.cell? ⟨w.heap.size, 1, none⟩ = some (.int .i64 (n : Int)) := by obtain ⟨_, _, h, _⟩ := HF.out.dr; exact h.cell 1
          replace hd := hide hd
          go_wp2
          go_region
          go_wp2
          go_ret3
          rw [hd.out]
          refine ⟨⟨fa, fc, rfl, fs, HF.out.flen, own_mono hWs HF.out.own, fun j v f h1 h2 => ((HF.out.rows j v f h1 h2).1.mono hWs), HF.out.below.drew⟩, HF.out.below.drew⟩

end Go.Proofs.YtmhcmlegdoapdaaDoor
