/- Package pack: readFields, of any bytes: how far it has come. -/
import Derived.Test.YtmhcmlegdoapdaaDoorRL
import Derived.Test.YtmhcmlegdoapdaaDoorQY
namespace Go.Proofs.YtmhcmlegdoapdaaDoor
open Go.RowKit

/-- Fields of these kinds. -/
def pfields : List Int → List Int → PR (List FV)
  | [], _ => .ok [] 0
  | k :: ks, l => match pfield k l with
    | .bad i e => .bad i e
    | .ok v n => match pfields ks (l.drop n) with
      | .bad i e => .bad (n + i) e
      | .ok vs m => .ok (v :: vs) (n + m)
/-- What is read behind what was read. -/
def PR.behind (vs : List FV) (n : Nat) : PR (List FV) → PR (List FV)
  | .ok us m => .ok (vs ++ us) (n + m)
  | .bad i e => .bad (n + i) e
theorem behind_nil (p : PR (List FV)) : PR.behind [] 0 p = p := by cases p <;> simp [PR.behind]
theorem behind_bad {k : Int} {ks l : List Int} {vs : List FV} {n i : Nat} {e : Int} (h : pfield k l = .bad i e) : PR.behind vs n (pfields (k :: ks) l) = .bad (n + i) e := by
  rw [pfields, h]; rfl
theorem behind_ok {k : Int} {ks l : List Int} {vs : List FV} {n m : Nat} {v : FV} (h : pfield k l = .ok v m) : PR.behind vs n (pfields (k :: ks) l) = PR.behind (vs ++ [v]) (n + m) (pfields ks (l.drop m)) := by
  rw [pfields, h]
  simp only []
  rcases pfields ks (l.drop m) with ⟨us, q⟩ | ⟨i, e⟩
  · simp only [PR.behind, List.append_assoc, List.singleton_append, Nat.add_assoc]
  · simp only [PR.behind, Nat.add_assoc]
theorem Lft.fl {sb : Nat} {w : World} {R : Nat} {l : List Int} {at' : Int} {fl : Value} (h : Lft w R sb l at' fl) (u : Value) (_hs : sb ≠ R) : Lft (w.setCell ⟨R, 2, none⟩ u) R sb l at' u := by
  obtain ⟨ad, cap, h, h1, h2, h3, h4, h5, hz, h6⟩ := h
  refine ⟨ad, cap, IsB.set2 h u, h1, h2, h3, h4, h5, hz, ?_⟩
  rcases h6 with h6 | ⟨b, o, g1, g2, g3, g4⟩
  · exact Or.inl h6
  · refine Or.inr ⟨b, o, g1, g2, by rw [size_setCell]; exact g3, fun j hj => ?_⟩
    rw [World.cell?_of_block (w := w) (Below.heap_setCell w ⟨R, 2, none⟩ u b g2)]; exact g4 j hj
theorem Lft.grown {sb : Nat} {w w' : World} {R : Nat} {l : List Int} {at' : Int} {fl : Value} (h : Lft w R sb l at' fl) {row : Option Nat} (hg : w.grownBy w' row) (hR : some R ≠ row) (hs : some sb ≠ row) : Lft w' R sb l at' fl := by
  obtain ⟨ad, cap, h, h1, h2, h3, h4, h5, hz, h6⟩ := h
  refine ⟨ad, cap, IsB.grown h hg hR, h1, h2, h3, h4, h5, hz, ?_⟩
  rcases h6 with h6 | ⟨b, o, g1, g2, g3, g4⟩
  · exact Or.inl h6
  · have hb : b = sb := by have := hz.2 _ g1; exact this
    exact Or.inr ⟨b, o, g1, g2, Nat.lt_of_lt_of_le g3 hg.size, fun j hj => hg.cell (g4 j hj) (by rw [hb]; exact hs)⟩

/-- How far reading has come. -/
structure RN (w W : World) (A B C R sb : Nat) (vs : List FV) (l : List Int) (at' : Int) (fa : Option Addr) (fc : Nat) (fs : List Fd) (wr : World) : Prop where
  flen : fs.length = vs.length
  rows : ∀ (j : Nat) (v : FV) (f : Fd), vs[j]? = some v → fs[j]? = some f → v.At wr W.heap.size f ∧ (f.blk = none ∨ f.blk ≠ (Value.slice fa vs.length fc).ownBlock)
  own : wr.ownsRow W.heap.size 34 14 (.slice fa vs.length fc) vs.length (cellsOf fs)
  lft : Lft wr R sb l at' (.slice fa vs.length fc)
  iA : IsB wr A #[.slice none 0 0] 22
  iB : IsB wr B #[.int .i64 0] 3
  iC : IsB wr C #[.int .i64 0] 36
  below : RowKit.Below w.heap.size w wr
  size : W.heap.size ≤ wr.heap.size

theorem RN.step {w W : World} {vs : List FV} {A B C R sb : Nat} {l l2 : List Int} {at2 at3 : Int} {fa : Option Addr} {fc : Nat} {fs : List Fd} {wr : World} (h : RN w W A B C R sb vs l at2 fa fc fs wr)
    (hA : A < W.heap.size) (hB : B < W.heap.size) (hC : C < W.heap.size) (hR : R < W.heap.size) (hAR : A ≠ R) (hBR : B ≠ R) (hCR : C ≠ R) (hRw : w.heap.size ≤ R) (hW : w.heap.size ≤ W.heap.size)
    (hsR : sb ≠ R) (hsW : sb < W.heap.size)
    {v : FV} {f : Fd} {w1 : World} (hat : v.At w1 wr.heap.size f) (hl2 : Lft w1 R sb l2 at3 (.slice fa vs.length fc)) (hg1 : wr.grownBy w1 (some R))
    {ob : Obj} {g cp : Nat} {w2 : World} (hown : w2.ownsRow W.heap.size 34 14 (.slice (some ⟨g, 0, none⟩) (vs.length + 1) cp) (vs.length + 1) (cellsOf fs ++ f.cs.toList)) (hg2 : (w1.alloc ob).grownBy w2 (Value.slice fa vs.length fc).ownBlock)
    (hwh : (Value.slice fa vs.length fc).ownBlock = some g ∨ g = w1.heap.size + 1) :
    RN w W A B C R sb (vs ++ [v]) l2 at3 (some ⟨g, 0, none⟩) cp (fs ++ [f]) (w2.setCell ⟨R, 2, none⟩ (.slice (some ⟨g, 0, none⟩) (vs.length + 1) cp)) := by
  have hvl : (vs ++ [v]).length = vs.length + 1 := by rw [List.length_append]; rfl
  have hob : ∀ j, (Value.slice fa vs.length fc).ownBlock = some j → W.heap.size ≤ j ∧ j < wr.heap.size := h.own.lt
  have hneR : ∀ (x : Nat), x < W.heap.size → some x ≠ (Value.slice fa vs.length fc).ownBlock := fun x hx he => by have := hob x he.symm; omega
  have hsz1 := hg1.size
  have hs := h.size
  have hsz2 := hg2.size
  rw [World.size_alloc] at hsz2
  have hset := grown_set w2 R 2 (.slice (some ⟨g, 0, none⟩) (vs.length + 1) cp)
  have hgg : W.heap.size ≤ g := (hown.lt g rfl).1
  have is : ∀ {X : Nat} {cs : Array Value} {t : TypeId}, X < W.heap.size → X ≠ R → IsB wr X cs t → IsB (w2.setCell ⟨R, 2, none⟩ (.slice (some ⟨g, 0, none⟩) (vs.length + 1) cp)) X cs t := fun hx hxr hi =>
    IsB.setOther (((hi.grown hg1 (by simpa using hxr)).alloc ob).grown hg2 (hneR _ hx)) (by simpa using hxr) _
  refine ⟨by rw [List.length_append, List.length_append, h.flen]; rfl, ?_, ?_, ?_, is hA hAR h.iA, is hB hBR h.iB, is hC hCR h.iC, ?_, ?_⟩
  · intro j v' f' hv' hf'
    rw [hvl]
    rcases Nat.lt_or_ge j vs.length with hjk | hjk
    · rw [List.getElem?_append_left (by rw [h.flen]; exact hjk)] at hf'
      rw [List.getElem?_append_left hjk] at hv'
      obtain ⟨ha, hb⟩ := h.rows j v' f' hv' hf'
      have hbl := ha.blk
      refine ⟨(((ha.kept hg1 ?_).kept (World.grownBy_alloc w1 ob none) ?_).kept hg2 hb).kept hset ?_, ?_⟩
      · rcases hbl with hbl | ⟨x, hx, h1, h2⟩
        · exact Or.inl hbl
        · right; rw [hx]; simp only [ne_eq, Option.some.injEq]; omega
      · rcases hbl with hbl | ⟨x, hx, h1, h2⟩
        · exact Or.inl hbl
        · right; rw [hx]; simp
      · rcases hbl with hbl | ⟨x, hx, h1, h2⟩
        · exact Or.inl hbl
        · right; rw [hx]; simp only [ne_eq, Option.some.injEq]; omega
      · rcases hbl with hbl | ⟨x, hx, h1, h2⟩
        · exact Or.inl hbl
        · right
          rcases hwh with hwh | hwh
          · rcases hb with hb | hb
            · rw [hx] at hb; cases hb
            · rw [hwh] at hb; exact hb
          · rw [hx]; simp only [Value.ownBlock, ne_eq, Option.some.injEq]; omega
    · have hjl : j < (fs ++ [f]).length := (List.getElem?_eq_some_iff.1 hf').1
      rw [List.length_append, h.flen] at hjl
      simp only [List.length_singleton] at hjl
      obtain rfl : j = vs.length := by omega
      rw [List.getElem?_append_right (Nat.le_refl _), Nat.sub_self] at hv'
      obtain rfl : v = v' := by simpa using hv'
      have hf2 : f' = f := by
        rw [← h.flen, List.getElem?_append_right (Nat.le_refl _)] at hf'
        simpa using hf'.symm
      subst hf2
      have hbl := hat.blk
      refine ⟨(((hat.mono hs).kept (World.grownBy_alloc w1 ob none) ?_).kept hg2 ?_).kept hset ?_, ?_⟩
      · rcases hbl with hbl | ⟨x, hx, h1, h2⟩
        · exact Or.inl hbl
        · right; rw [hx]; simp
      · rcases hbl with hbl | ⟨x, hx, h1, h2⟩
        · exact Or.inl hbl
        · right; rw [hx]; intro he; have := hob x he.symm; omega
      · rcases hbl with hbl | ⟨x, hx, h1, h2⟩
        · exact Or.inl hbl
        · right; rw [hx]; simp only [ne_eq, Option.some.injEq]; omega
      · rcases hbl with hbl | ⟨x, hx, h1, h2⟩
        · exact Or.inl hbl
        · right
          rw [hx]
          simp only [Value.ownBlock, ne_eq, Option.some.injEq]
          rcases hwh with hwh | hwh
          · have := hob g hwh; omega
          · omega
  · rw [hvl]
    have e : cellsOf (fs ++ [f]) = cellsOf fs ++ f.cs.toList := by unfold cellsOf; rw [List.flatMap_append]; simp
    rw [e]
    exact ownsRow_setCell_other hown (a := ⟨R, 2, none⟩) (by simp only [Value.ownBlock, ne_eq, Option.some.injEq]; omega) _
  · rw [hvl]
    exact ((hl2.gr ((Gr.refl w1).alloc ob)).grown hg2 (hneR _ hR) (hneR _ hsW)).fl _ hsR
  · refine (((grown_below h.below hg1 hRw).alloc (Nat.le_trans hW (by omega)) ob).grown hg2 (Nat.le_trans hW (by rw [World.size_alloc]; omega)) (fun j hj => Nat.le_trans hW (hob j hj).1)).setCell (p := ⟨R, 2, none⟩) hRw _
  · rw [size_setCell]; omega

end Go.Proofs.YtmhcmlegdoapdaaDoor
