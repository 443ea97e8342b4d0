/- Package graph: Way, whatever came in. -/
import Derived.Test.YtjkgacbckdipgaaDoorHB
import Derived.Test.YtjkgacbckdipgaaDoorGU
namespace Go.Proofs.YtjkgacbckdipgaaDoor
open Go.RowKit Go.Maps Go.ChangeMaps

/-- What is true of a way that leads to a key. -/
structure Found (d : Int) (l : List Rf) (tg : Rf) (wy : List Hp) (a b : Rf) : Prop where
  ends : Ends l tg a b
  first : ∃ lv r W, wy = (lv, r) :: W ∧ r.id = d ∧ (W.map (·.2)).getLastD r = a ∧ (lv :: W.map (·.1)).Pairwise (fun x y => y ≤ x) ∧ ((keyLt r tg ∧ (r :: W.map (·.2)).Pairwise keyLt) ∨ (¬keyLt r tg ∧ (r :: W.map (·.2)).Pairwise (fun x y => keyLt y x)))
theorem Ends.perm {m l : List Rf} {tg a b : Rf} (h : Ends m tg a b) (hp : m.Perm l) : Ends l tg a b := ⟨h.1, h.2.1, fun x hx => h.2.2 x (hp.mem_iff.2 hx)⟩
theorem foundR {h d : Int} {l m : List Rf} (M : Mem h m) (hp : m.Perm l) (hso : m.Pairwise keyLt) {tg r : Rf} (hh : ¬keyLt (tlR h) tg) (I : InvR h m tg r) (hd : r.id = d) : Found d l tg ((h, r) :: (goR h m tg h.toNat r).1) (goR h m tg h.toNat r).2 (endY h m (goR h m tg h.toNat r).2) := by
  have h0 := M.h0
  refine ⟨(goR_ends M hso hh _ r I).perm hp, h, r, _, rfl, hd, ?_, ?_, Or.inl ⟨I.2, goR_keys M hso hh _ r I⟩⟩
  · rw [goR_goG]; exact goG_last _ _
  · rw [goR_goG]; exact (goG_levels _ r h (by omega)).1
theorem foundL {h d : Int} {l m : List Rf} (M : Mem h m) (hp : m.Perm l) (hso : m.Pairwise keyLt) {tg r : Rf} (hh : keyLt (hdR h) tg) (I : InvL h m tg r) (hd : r.id = d) : Found d l tg ((h, r) :: (goL h m tg h.toNat r).1) (goL h m tg h.toNat r).2 (endY h m (goL h m tg h.toNat r).2) := by
  have h0 := M.h0
  refine ⟨(goL_ends M hso hh _ r I).perm hp, h, r, _, rfl, hd, ?_, ?_, Or.inr ⟨I.2, goL_keys M hso hh _ r I⟩⟩
  · rw [goL_goG]; exact goG_last _ _
  · rw [goL_goG]; exact (goG_levels _ r h (by omega)).1

set_option maxHeartbeats 1000000 in
theorem way_all (h d tr tn : Int) (htn : 0 ≤ tn) (v : Value) (l : List Rf) (hl : l.length ≤ 1000) (hbt : ∀ r ∈ l, 0 ≤ r.bt) (w : World) (hR : Ranks w) (hs : RSl w v l) :
    ∃ (wy : List Hp) (a b : Rf) (e : Int), (e ≠ 0 ∨ tr = 1 ∨ Found d l (tgR tr tn) wy a b) ∧ Calls Tryd.prog 5 #[.int .i64 h, .int .i64 d, .agg #[.int .i64 tr, .int .u64 tn], v] w fun e' w' => ∃ wv', e' = .returned (.tuple #[wv', .agg a.cells, .agg b.cells, .int .i64 e]) ∧ Rw w' 57 6 wv' wy.length (hps wy) ∧ Below w.heap.size w w' := by
  have hnil : ∀ w' : World, Rw w' 57 6 (.slice none 0 0) ([] : List Hp).length (hps []) := fun w' => ⟨rfl, Or.inl ⟨rfl, rfl⟩⟩
  by_cases hg : okG h l
  rotate_left
  · exact ⟨[], zr, zr, 110, Or.inl (by decide), (way_bad h d tr tn v l hl hbt hg w hR hs).mono fun e' w' hq => ⟨_, hq.1, hnil w', hq.2⟩⟩
  obtain ⟨m, hp, hso⟩ := ex_sorted hg.2.2
  have M := Mem.of hg hbt hl hp
  rcases plI_cases d (rowL h m) with ⟨h1, -⟩ | ⟨i, hi, h1, h2⟩
  · exact ⟨[], zr, zr, 111, Or.inl (by decide), (way_none h d tr tn v l hl hbt hg m hp hso (by omega) w hR hs).mono fun e' w' hq => ⟨_, hq.1, hnil w', hq.2⟩⟩
  by_cases hck : ckE tr tn = 0
  rotate_left
  · exact ⟨[], zr, zr, 1, Or.inl (by decide), (way_arg h d tr tn v l hl hbt hg m hp hso (by omega) hck w hR hs).mono fun e' w' hq => ⟨_, hq.1, hnil w', hq.2⟩⟩
  by_cases htr : tr = 1
  · subst htr
    exact ⟨_, zr, hdR h, 0, Or.inr (Or.inl rfl), way_low h d tn v l hl hbt hg m hp hso i hi h1 hck w hR hs⟩
  have hck2 : tr = 2 ∨ tr = 3 ∧ tn = 0 := by
    unfold ckE at hck
    split at hck
    · omega
    · cases hck
  have hh1 : keyLt (hdR h) (tgR tr tn) := by unfold keyLt hdR tgR; left; simp; omega
  have hh2 : ¬keyLt (tlR h) (tgR tr tn) := by unfold keyLt tlR tgR; simp; omega
  have hmem : (rowL h m)[i] = hdR h ∨ (rowL h m)[i] ∈ m ∨ (rowL h m)[i] = tlR h := by
    have hm2 : ∀ x ∈ rowL h m, x = hdR h ∨ x ∈ m ∨ x = tlR h := fun x hx => by unfold rowL at hx; simpa using hx
    exact hm2 _ (List.getElem_mem hi)
  by_cases hk : keyLt (rowL h m)[i] (tgR tr tn)
  · have I : InvR h m (tgR tr tn) (rowL h m)[i] := ⟨by
      rcases hmem with e | e | e
      · exact Or.inr e
      · exact Or.inl e
      · rw [e] at hk; exact absurd hk hh2, hk⟩
    exact ⟨_, _, _, 0, Or.inr (Or.inr (foundR M hp hso hh2 I h2)), way_right h d tr tn v l hl hbt hg m hp hso i hi h1 hck htr hh2 I w hR hs⟩
  · have I : InvL h m (tgR tr tn) (rowL h m)[i] := ⟨by
      rcases hmem with e | e | e
      · rw [e] at hk; exact absurd hh1 hk
      · exact Or.inl e
      · exact Or.inr e, hk⟩
    exact ⟨_, _, _, 0, Or.inr (Or.inr (foundL M hp hso hh1 I h2)), way_left h d tr tn v l hl hbt hg m hp hso i hi h1 hck htr hh1 I w hR hs⟩

end Go.Proofs.YtjkgacbckdipgaaDoor
