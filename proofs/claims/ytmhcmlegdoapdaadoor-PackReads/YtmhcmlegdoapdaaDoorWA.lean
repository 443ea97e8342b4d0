/- The document's reader: a field of any kind, of any bytes. -/
import Derived.Test.YtmhcmlegdoapdaaDoorVF
namespace Go.Proofs.YtmhcmlegdoapdaaDoor
open Go.RowKit

set_option maxHeartbeats 4000000 in
set_option maxRecDepth 100000 in
theorem rfield_row0 (Q sb : Nat) (L : List Int)  (q : Nat) (er : Int) (w : World) (hQ : Q < w.heap.size) (hsb : sb < w.heap.size)
    (hb : ∀ W, Gr w W → Calls Tryd.prog 57 #[.pointer (some ⟨Q, 0, none⟩), .int .u64 65536] W fun r w' => r = .returned (.int .u64 0) ∧ DR w' Q sb L q er ∧ W.grownBy w' (some Q)) :
    Calls Tryd.prog 37 #[.pointer (some ⟨Q, 0, none⟩), .int .i64 4] w fun e w' => e = .returned (.agg #[.int .i64 4, .int .u64 0, .int .i64 0, .bool false, .slice none 0 0, .int .i64 0, .int .u64 0, .int .i64 0, .int .u64 0, .int .i64 0, .int .i64 0, .int .u64 0, .int .i64 0, .int .u64 0]) ∧ DR w' Q sb L q er ∧ w.grownBy w' (some Q) := by
  have I0 := (IsB.new w #[.int .i64 0, .int .u64 0, .int .i64 0, .bool false, .slice none 0 0, .int .i64 0, .int .u64 0, .int .i64 0, .int .u64 0, .int .i64 0, .int .i64 0, .int .u64 0, .int .i64 0, .int .u64 0] 34).alloc (.cells #[.int .i64 4, .int .u64 0, .int .i64 0, .bool false, .slice none 0 0, .int .i64 0, .int .u64 0, .int .i64 0, .int .u64 0, .int .i64 0, .int .i64 0, .int .u64 0, .int .i64 0, .int .u64 0] 34)
  have I1 := IsB.new (w.alloc (.cells #[.int .i64 0, .int .u64 0, .int .i64 0, .bool false, .slice none 0 0, .int .i64 0, .int .u64 0, .int .i64 0, .int .u64 0, .int .i64 0, .int .i64 0, .int .u64 0, .int .i64 0, .int .u64 0] 34)) #[.int .i64 4, .int .u64 0, .int .i64 0, .bool false, .slice none 0 0, .int .i64 0, .int .u64 0, .int .i64 0, .int .u64 0, .int .i64 0, .int .i64 0, .int .u64 0, .int .i64 0, .int .u64 0] 34
  rw [World.size_alloc] at I1
  have HG := hide (show Gr w ((w.alloc (.cells #[.int .i64 0, .int .u64 0, .int .i64 0, .bool false, .slice none 0 0, .int .i64 0, .int .u64 0, .int .i64 0, .int .u64 0, .int .i64 0, .int .i64 0, .int .u64 0, .int .i64 0, .int .u64 0] 34)).alloc (.cells #[.int .i64 4, .int .u64 0, .int .i64 0, .bool false, .slice none 0 0, .int .i64 0, .int .u64 0, .int .i64 0, .int .u64 0, .int .i64 0, .int .i64 0, .int .u64 0, .int .i64 0, .int .u64 0] 34)) from ((Gr.refl w).alloc _).alloc _)
  have hrow := hide (hb _ HG.out)
  have hl01 := I1.lt
  replace I0 := hide I0
  replace I1 := hide I1
  clear hb
  go_enter Tryd.func37, Tryd.ntmps37
  go_wp2_with fail
  generalize (w.alloc (.cells #[.int .i64 0, .int .u64 0, .int .i64 0, .bool false, .slice none 0 0, .int .i64 0, .int .u64 0, .int .i64 0, .int .u64 0, .int .i64 0, .int .i64 0, .int .u64 0, .int .i64 0, .int .u64 0] 34)).alloc (.cells #[.int .i64 4, .int .u64 0, .int .i64 0, .bool false, .slice none 0 0, .int .i64 0, .int .u64 0, .int .i64 0, .int .u64 0, .int .i64 0, .int .i64 0, .int .u64 0, .int .i64 0, .int .u64 0] 34) = W0 at I0 I1 HG hrow hl01 ⊢
  refine hrow.out.mono ?_
  rintro e w1 ⟨rfl, hrd, hgr⟩
  replace I0 := hide (I0.out.grown hgr (by intro h; simp only [Option.some.injEq] at h; omega))
  replace I1 := hide (I1.out.grown hgr (by intro h; simp only [Option.some.injEq] at h; omega))
  have HRD := hide hrd
  have HGR := hide (grown_trans (grown_of_gr HG.out _) hgr)
  have hlW := I0.out.lt
  have hlW0 : w.heap.size + 1 < W0.heap.size := hl01
  clear hrow hrd hgr
  have a0 : w1.cell? ⟨w.heap.size, 0, none⟩ = some (.int .i64 0) := I0.out.cell 0
  have a1 : w1.cell? ⟨w.heap.size, 1, none⟩ = some (.int .u64 0) := I0.out.cell 1
  have a2 : w1.cell? ⟨w.heap.size, 2, none⟩ = some (.int .i64 0) := I0.out.cell 2
  have a3 : w1.cell? ⟨w.heap.size, 3, none⟩ = some (.bool false) := I0.out.cell 3
  have a4 : w1.cell? ⟨w.heap.size, 4, none⟩ = some (.slice none 0 0) := I0.out.cell 4
  have a5 : w1.cell? ⟨w.heap.size, 5, none⟩ = some (.int .i64 0) := I0.out.cell 5
  have a6 : w1.cell? ⟨w.heap.size, 6, none⟩ = some (.int .u64 0) := I0.out.cell 6
  have a7 : w1.cell? ⟨w.heap.size, 7, none⟩ = some (.int .i64 0) := I0.out.cell 7
  have a8 : w1.cell? ⟨w.heap.size, 8, none⟩ = some (.int .u64 0) := I0.out.cell 8
  have a9 : w1.cell? ⟨w.heap.size, 9, none⟩ = some (.int .i64 0) := I0.out.cell 9
  have a10 : w1.cell? ⟨w.heap.size, 10, none⟩ = some (.int .i64 0) := I0.out.cell 10
  have a11 : w1.cell? ⟨w.heap.size, 11, none⟩ = some (.int .u64 0) := I0.out.cell 11
  have a12 : w1.cell? ⟨w.heap.size, 12, none⟩ = some (.int .i64 0) := I0.out.cell 12
  have a13 : w1.cell? ⟨w.heap.size, 13, none⟩ = some (.int .u64 0) := I0.out.cell 13
  have b0 : w1.cell? ⟨w.heap.size + 1, 0, none⟩ = some (.int .i64 4) := I1.out.cell 0
  have b1 : w1.cell? ⟨w.heap.size + 1, 1, none⟩ = some (.int .u64 0) := I1.out.cell 1
  have b2 : w1.cell? ⟨w.heap.size + 1, 2, none⟩ = some (.int .i64 0) := I1.out.cell 2
  have b3 : w1.cell? ⟨w.heap.size + 1, 3, none⟩ = some (.bool false) := I1.out.cell 3
  have b4 : w1.cell? ⟨w.heap.size + 1, 4, none⟩ = some (.slice none 0 0) := I1.out.cell 4
  have b5 : w1.cell? ⟨w.heap.size + 1, 5, none⟩ = some (.int .i64 0) := I1.out.cell 5
  have b6 : w1.cell? ⟨w.heap.size + 1, 6, none⟩ = some (.int .u64 0) := I1.out.cell 6
  have b7 : w1.cell? ⟨w.heap.size + 1, 7, none⟩ = some (.int .i64 0) := I1.out.cell 7
  have b8 : w1.cell? ⟨w.heap.size + 1, 8, none⟩ = some (.int .u64 0) := I1.out.cell 8
  have b9 : w1.cell? ⟨w.heap.size + 1, 9, none⟩ = some (.int .i64 0) := I1.out.cell 9
  have b10 : w1.cell? ⟨w.heap.size + 1, 10, none⟩ = some (.int .i64 0) := I1.out.cell 10
  have b11 : w1.cell? ⟨w.heap.size + 1, 11, none⟩ = some (.int .u64 0) := I1.out.cell 11
  have b12 : w1.cell? ⟨w.heap.size + 1, 12, none⟩ = some (.int .i64 0) := I1.out.cell 12
  have b13 : w1.cell? ⟨w.heap.size + 1, 13, none⟩ = some (.int .u64 0) := I1.out.cell 13
  have f0 := I0.out.free 0
  have f1 := I0.out.free 1
  have f2 := I0.out.free 2
  have f3 := I0.out.free 3
  have f4 := I0.out.free 4
  have f5 := I0.out.free 5
  have f6 := I0.out.free 6
  have f7 := I0.out.free 7
  have f8 := I0.out.free 8
  have f9 := I0.out.free 9
  have f10 := I0.out.free 10
  have f11 := I0.out.free 11
  have f12 := I0.out.free 12
  have f13 := I0.out.free 13
  go_wp2
  go_loopw [7] (fun i wr => i = .int .u64 0 ∧ wr = w1) (fun _ _ => 0)
  case atStart => exact ⟨rfl, rfl⟩
  case round =>
  obtain ⟨rfl, hwr⟩ := hrel
  rw [hwr]
  clear hwr
  go_wp2
  have hW : ((((((((((((((w1.setCell ⟨w.heap.size, 0, none⟩ (.int .i64 4)).setCell ⟨w.heap.size, 1, none⟩ (.int .u64 0)).setCell ⟨w.heap.size, 2, none⟩ (.int .i64 0)).setCell ⟨w.heap.size, 3, none⟩ (.bool false)).setCell ⟨w.heap.size, 4, none⟩ (.slice none 0 0)).setCell ⟨w.heap.size, 5, none⟩ (.int .i64 0)).setCell ⟨w.heap.size, 6, none⟩ (.int .u64 0)).setCell ⟨w.heap.size, 7, none⟩ (.int .i64 0)).setCell ⟨w.heap.size, 8, none⟩ (.int .u64 0)).setCell ⟨w.heap.size, 9, none⟩ (.int .i64 0)).setCell ⟨w.heap.size, 10, none⟩ (.int .i64 0)).setCell ⟨w.heap.size, 11, none⟩ (.int .u64 0)).setCell ⟨w.heap.size, 12, none⟩ (.int .i64 0)).setCell ⟨w.heap.size, 13, none⟩ (.int .u64 0)) = putCells w1 w.heap.size 0 [.int .i64 4, .int .u64 0, .int .i64 0, .bool false, .slice none 0 0, .int .i64 0, .int .u64 0, .int .i64 0, .int .u64 0, .int .i64 0, .int .i64 0, .int .u64 0, .int .i64 0, .int .u64 0] := rfl
  rw [hW]
  clear hW
  have hfin := putCells_is (cs := [.int .i64 0, .int .u64 0, .int .i64 0, .bool false, .slice none 0 0, .int .i64 0, .int .u64 0, .int .i64 0, .int .u64 0, .int .i64 0, .int .i64 0, .int .u64 0, .int .i64 0, .int .u64 0]) (I0.out) [.int .i64 4, .int .u64 0, .int .i64 0, .bool false, .slice none 0 0, .int .i64 0, .int .u64 0, .int .i64 0, .int .u64 0, .int .i64 0, .int .i64 0, .int .u64 0, .int .i64 0, .int .u64 0] rfl
  have hrd := putCells_dr (b := w.heap.size) (show Q ≠ w.heap.size by omega) (show sb ≠ w.heap.size by omega) [.int .i64 4, .int .u64 0, .int .i64 0, .bool false, .slice none 0 0, .int .i64 0, .int .u64 0, .int .i64 0, .int .u64 0, .int .i64 0, .int .i64 0, .int .u64 0, .int .i64 0, .int .u64 0] _ 0 HRD.out
  have hgr := putCells_grown (b := w.heap.size) (Nat.le_refl _) [.int .i64 4, .int .u64 0, .int .i64 0, .bool false, .slice none 0 0, .int .i64 0, .int .u64 0, .int .i64 0, .int .u64 0, .int .i64 0, .int .i64 0, .int .u64 0, .int .i64 0, .int .u64 0] _ 0 HGR.out
  generalize putCells w1 w.heap.size 0 [.int .i64 4, .int .u64 0, .int .i64 0, .bool false, .slice none 0 0, .int .i64 0, .int .u64 0, .int .i64 0, .int .u64 0, .int .i64 0, .int .i64 0, .int .u64 0, .int .i64 0, .int .u64 0] = W at hfin hrd hgr ⊢
  refine bodyPost_ret (rfield_results W _ _ hfin rfl _ rfl) rfl ?_
  exact ⟨rfl, hrd, hgr⟩

/-- f is v in this memory; its row is one of the blocks from base on, or nil. -/
def FV.DAt (w : World) (base : Nat) (v : FV) (f : Fd) : Prop :=
  (v.row = none ∧ f = v.fd none 0 0) ∨ ∃ l a c, v.row = some l ∧ f = v.fd a l.length c ∧ w.ownsRow base 5 1 (.slice a l.length c) l.length (u8s l)
theorem FV.At.d {w : World} {base : Nat} {v : FV} {f : Fd} (h : v.At w base f) : v.DAt w base f := by
  rcases h with h | ⟨l, g, c, h1, h2, h3⟩
  · exact Or.inl h
  · exact Or.inr ⟨l, _, c, h1, h2, h3⟩
/-- What the document's reader leaves of a field. -/
def DPostF (w : World) (Q sb : Nat) (L : List Int) (p : Nat) (r : PR FV) (e : Ending) (w' : World) : Prop :=
  ∃ f : Fd, e = .returned (.agg f.cs) ∧ w.grownBy w' (some Q) ∧
  (match r with
    | .ok v n => v.DAt w' w.heap.size f ∧ DR w' Q sb L (p + n) 0
    | .bad i er => DR w' Q sb L (p + i) er ∧ er ≠ 0)
theorem DPostF.okI {w : World} {Q sb : Nat} {L : List Int} {p : Nat} {r : PR FV} {e : Ending} {w' : World} (v : FV) (n : Nat) (hr : r = .ok v n) (f : Fd) (he : e = .returned (.agg f.cs)) (hat : v.DAt w' w.heap.size f) (hd : DR w' Q sb L (p + n) 0) (hg : w.grownBy w' (some Q)) : DPostF w Q sb L p r e w' := by
  subst hr; exact ⟨f, he, hg, hat, hd⟩
theorem DPostF.badI {w : World} {Q sb : Nat} {L : List Int} {p : Nat} {r : PR FV} {e : Ending} {w' : World} (i : Nat) (er : Int) (hr : r = .bad i er) (f : Fd) (he : e = .returned (.agg f.cs)) (hd : DR w' Q sb L (p + i) er) (hn : er ≠ 0) (hg : w.grownBy w' (some Q)) : DPostF w Q sb L p r e w' := by
  subst hr; exact ⟨f, he, hg, hd, hn⟩

theorem pnum_err (most : Nat) : ∀ (l : List Int) (k m i : Nat) (e : Int), pnum most k m l = .bad i e → e ≠ 0 := by
  intro l
  induction l with
  | nil => intro k m i e h; rw [pnum_nil] at h; cases h; decide
  | cons c r ih =>
    intro k m i e h
    unfold pnum at h
    split at h
    · split at h
      · cases h
      · exact ih _ _ _ _ h
    · cases h; decide
theorem pwhole_err (l : List Int) (i : Nat) (e : Int) (h : pwhole l = .bad i e) : e ≠ 0 := by
  unfold pwhole at h
  rcases hp : pnum M64 0 0 l with ⟨x, n⟩ | ⟨j, er⟩
  · rw [hp] at h; cases h
  · rw [hp] at h; cases h; exact pnum_err _ _ _ _ _ _ hp
theorem phigh_err (n : Nat) (l : List Int) (i : Nat) (e : Int) (h : phigh n l = .bad i e) : e ≠ 0 := by
  unfold phigh at h
  split at h
  · cases h
  · cases h; decide
theorem pkey_err (l : List Int) (i : Nat) (e : Int) (h : pkey l = .bad i e) : e ≠ 0 := by
  rcases l with _ | ⟨r, l⟩
  · cases h; decide
  · by_cases hr : 1 ≤ r ∧ r ≤ 3
    · have hp2 : (match phigh (if r = 2 then 8 else 0) l with
        | .ok x n => PR.ok (r, x) (n + 1)
        | .bad i e => .bad (i + 1) e) = .bad i e := by rw [← h]; exact (if_pos hr).symm
      rcases hp : phigh (if r = 2 then 8 else 0) l with ⟨x, n⟩ | ⟨j, er⟩
      · rw [hp] at hp2; cases hp2
      · rw [hp] at hp2; cases hp2; exact phigh_err _ _ _ _ hp
    · have : pkey (r :: l) = .bad 0 31 := if_neg hr
      rw [this] at h; cases h; decide
theorem pvec_err (l : List Int) (i : Nat) (e : Int) (h : pvec l = .bad i e) : e ≠ 0 := by
  rcases l with _ | ⟨c, l⟩
  · cases h; decide
  · by_cases hr : c ≤ 32
    · have hp2 : (match phigh ((c.toNat + 7) / 8) l with
        | .ok x n => if x % 2 ^ spare c.toNat = 0 then PR.ok (c, x / 2 ^ spare c.toNat) (n + 1) else .bad n 31
        | .bad i e => .bad (i + 1) e) = .bad i e := by rw [← h]; exact (if_pos hr).symm
      rcases hp : phigh ((c.toNat + 7) / 8) l with ⟨x, n⟩ | ⟨j, er⟩
      · rw [hp] at hp2
        simp only [] at hp2
        by_cases hz : x % 2 ^ spare c.toNat = 0
        · rw [if_pos hz] at hp2; cases hp2
        · rw [if_neg hz] at hp2; cases hp2; decide
      · rw [hp] at hp2; cases hp2; exact phigh_err _ _ _ _ hp
    · have : pvec (c :: l) = .bad 0 31 := if_neg hr
      rw [this] at h; cases h; decide

theorem rfield1_any (Q sb : Nat) (L : List Int) (p : Nat) (w : World) (h : DR w Q sb L p 0) (hsb : sb < w.heap.size) :
    Calls Tryd.prog 37 #[.pointer (some ⟨Q, 0, none⟩), .int .i64 1] w fun e w' => DPostF w Q sb L p (pfield 1 (L.drop p)) e w' := by
  have hb := fun W (hg : Gr w W) => rnumber_max Q sb L p W (h.gr hg)
  rcases hp : pnum M64 0 0 (L.drop p) with ⟨x, n⟩ | ⟨i, er⟩
  · rw [hp] at hb
    refine (rfield_num Q sb L x (p + n) 0 w h.lt hsb (fun W hg => (hb W hg).mono ?_)).mono ?_
    · rintro r w' ⟨⟨rfl, h1⟩, h2⟩; exact ⟨rfl, h1, h2⟩
    · rintro e w' ⟨rfl, hd, hg⟩
      exact DPostF.okI (.num x) n (by unfold pfield; rw [if_pos rfl, hp]; rfl) ⟨1, x, 0, false, none, 0, 0, 0, 0, 0, 0, 0, 0, 0, 0, 0⟩ rfl (Or.inl ⟨rfl, rfl⟩) hd hg
  · rw [hp] at hb
    refine (rfield_num Q sb L 0 (p + i) er w h.lt hsb (fun W hg => (hb W hg).mono ?_)).mono ?_
    · rintro r w' ⟨⟨rfl, h1, _⟩, h2⟩; exact ⟨rfl, h1, h2⟩
    · rintro e w' ⟨rfl, hd, hg⟩
      exact DPostF.badI i er (by unfold pfield; rw [if_pos rfl, hp]; rfl) ⟨1, 0, 0, false, none, 0, 0, 0, 0, 0, 0, 0, 0, 0, 0, 0⟩ rfl hd (pnum_err _ _ _ _ _ _ hp) hg
theorem rfield2_any (Q sb : Nat) (L : List Int) (p : Nat) (w : World) (h : DR w Q sb L p 0) (hsb : sb < w.heap.size) :
    Calls Tryd.prog 37 #[.pointer (some ⟨Q, 0, none⟩), .int .i64 2] w fun e w' => DPostF w Q sb L p (pfield 2 (L.drop p)) e w' := by
  have hb := fun W (hg : Gr w W) => rint_any Q sb L p W (h.gr hg)
  have e2 : pfield 2 (L.drop p) = (pwhole (L.drop p)).map FV.int := by unfold pfield; rw [if_neg (by decide), if_pos rfl]
  rw [e2]
  rcases hp : pwhole (L.drop p) with ⟨x, n⟩ | ⟨i, er⟩
  · rw [hp] at hb
    refine (rfield_int Q sb L x (p + n) 0 w h.lt hsb (fun W hg => (hb W hg).mono ?_)).mono ?_
    · rintro r w' ⟨⟨rfl, h1⟩, h2⟩; exact ⟨rfl, h1, h2⟩
    · rintro e w' ⟨rfl, hd, hg⟩
      exact DPostF.okI (.int x) n rfl ⟨2, 0, x, false, none, 0, 0, 0, 0, 0, 0, 0, 0, 0, 0, 0⟩ rfl (Or.inl ⟨rfl, rfl⟩) hd hg
  · rw [hp] at hb
    refine (rfield_int Q sb L 0 (p + i) er w h.lt hsb (fun W hg => (hb W hg).mono ?_)).mono ?_
    · rintro r w' ⟨⟨rfl, h1, _⟩, h2⟩; exact ⟨rfl, h1, h2⟩
    · rintro e w' ⟨rfl, hd, hg⟩
      exact DPostF.badI i er rfl ⟨2, 0, 0, false, none, 0, 0, 0, 0, 0, 0, 0, 0, 0, 0, 0⟩ rfl hd (pwhole_err _ _ _ hp) hg
theorem rfield3_any (Q sb : Nat) (L : List Int) (p : Nat) (w : World) (h : DR w Q sb L p 0) (hsb : sb < w.heap.size) :
    Calls Tryd.prog 37 #[.pointer (some ⟨Q, 0, none⟩), .int .i64 3] w fun e w' => DPostF w Q sb L p (pfield 3 (L.drop p)) e w' := by
  have hbd := h.bd
  have hb := fun W (hg : Gr w W) => rbyte_any Q sb L p 0 1 W (h.gr hg)
  have e2 : pfield 3 (L.drop p) = (ptruth (L.drop p)).map FV.truth := by unfold pfield; rw [if_neg (by decide), if_neg (by decide), if_pos rfl]
  rw [e2]
  have bad : ∀ er, er ≠ 0 → pbyte 0 1 (L.drop p) = .bad 0 er → ptruth (L.drop p) = .bad 0 er → Calls Tryd.prog 37 #[.pointer (some ⟨Q, 0, none⟩), .int .i64 3] w fun e w' => DPostF w Q sb L p ((ptruth (L.drop p)).map FV.truth) e w' := fun er hn hp hq => by
    rw [hp] at hb
    rw [hq]
    refine (rfield_truth Q sb L 0 (p + 0) er w h.lt hsb (fun W hg => (hb W hg).mono ?_)).mono ?_
    · rintro r w' ⟨⟨rfl, h1, _⟩, h2⟩; exact ⟨rfl, h1, h2⟩
    · rintro e w' ⟨rfl, hd, hg⟩
      exact DPostF.badI 0 er rfl ⟨3, 0, 0, false, none, 0, 0, 0, 0, 0, 0, 0, 0, 0, 0, 0⟩ rfl hd hn hg
  rcases hl : L.drop p with _ | ⟨c, r⟩
  · rw [hl] at bad
    exact bad 32 (by decide) rfl rfl
  · have hc := hbd c (List.mem_of_mem_drop (by rw [hl]; exact List.mem_cons_self))
    by_cases h1 : c ≤ 1
    · have hp : pbyte 0 1 (L.drop p) = .ok c 1 := by rw [hl]; exact if_pos ⟨hc.1, h1⟩
      have hq : ptruth (c :: r) = .ok (decide (c = 1)) 1 := if_pos h1
      rw [hp] at hb
      rw [hq]
      refine (rfield_truth Q sb L c (p + 1) 0 w h.lt hsb (fun W hg => (hb W hg).mono ?_)).mono ?_
      · rintro r w' ⟨⟨rfl, h1⟩, h2⟩; exact ⟨rfl, h1, h2⟩
      · rintro e w' ⟨rfl, hd, hg⟩
        exact DPostF.okI (.truth (c == 1)) 1 (by rw [show (c == 1) = decide (c = 1) from rfl]; rfl) ⟨3, 0, 0, c == 1, none, 0, 0, 0, 0, 0, 0, 0, 0, 0, 0, 0⟩ rfl (Or.inl ⟨rfl, rfl⟩) hd hg
    · rw [hl] at bad
      exact bad 31 (by decide) (if_neg (fun h => h1 h.2)) (if_neg h1)
theorem rfield4_any (Q sb : Nat) (L : List Int) (p : Nat) (w : World) (h : DR w Q sb L p 0) (hsb : sb < w.heap.size) :
    Calls Tryd.prog 37 #[.pointer (some ⟨Q, 0, none⟩), .int .i64 4] w fun e w' => DPostF w Q sb L p (pfield 4 (L.drop p)) e w' := by
  have hbd := h.bd
  have hle := h.le
  have hb := fun W (hg : Gr w W) => rnumber_row Q sb L p W (h.gr hg)
  have e2 : pfield 4 (L.drop p) = (prow (L.drop p)).map FV.bytes := by unfold pfield; rw [if_neg (by decide), if_neg (by decide), if_neg (by decide), if_pos rfl]
  rw [e2]
  rcases hp : pnum 65536 0 0 (L.drop p) with ⟨x, n⟩ | ⟨i, er⟩
  · rw [hp] at hb
    have hx := pnum_le 65536 _ 0 0 x n (fun c hc => hbd c (List.mem_of_mem_drop hc)) (by omega) hp
    have hn := (pnum_n 65536 _ 0 0 x n hp).1
    rw [List.length_drop] at hn
    refine (rfield_row Q sb L (p + n) x hx w h.lt hsb hbd (fun W hg => (hb W hg).mono ?_)).mono ?_
    · rintro r w' ⟨⟨rfl, h1⟩, h2⟩; exact ⟨rfl, h1, h2⟩
    · rintro e w' ⟨la, bl, rfl, ho, hg, hs, hph⟩
      obtain ⟨a, c, rfl⟩ : ∃ a c, la = .slice a bl.length c := by
        rcases ho.2 with ⟨h1, h2⟩ | ⟨g, cp, cur, h1, _⟩
        · exact ⟨none, 0, by rw [h1, h2]⟩
        · exact ⟨_, _, h1⟩
      have hdl : ((L.drop p).drop n).length = L.length - (p + n) := by rw [List.drop_drop, List.length_drop]
      rcases hph with ⟨h1, h2, h3⟩ | ⟨h1, h2, h3⟩
      · have hr : prow (L.drop p) = .ok bl (n + x) := by
          unfold prow
          rw [hp]
          simp only []
          rw [if_pos (by omega), h1, List.drop_drop]
        rw [hr]
        exact DPostF.okI (.bytes bl) (n + x) rfl ⟨4, 0, 0, false, a, bl.length, c, 0, 0, 0, 0, 0, 0, 0, 0, 0⟩ rfl (Or.inr ⟨bl, a, c, rfl, rfl, owns_base (by omega) ho⟩) (by rw [← Nat.add_assoc]; exact h3) hg
      · have hr : prow (L.drop p) = .bad (n + (L.length - (p + n))) 32 := by
          unfold prow
          rw [hp]
          simp only []
          rw [if_neg (by omega), hdl]
        rw [hr]
        exact DPostF.badI (n + (L.length - (p + n))) 32 rfl ⟨4, 0, 0, false, a, bl.length, c, 0, 0, 0, 0, 0, 0, 0, 0, 0⟩ rfl (by rw [show p + (n + (L.length - (p + n))) = L.length from by omega]; exact h3) (by decide) hg
  · rw [hp] at hb
    have hr : prow (L.drop p) = .bad i er := by unfold prow; rw [hp]
    rw [hr]
    refine (rfield_row0 Q sb L (p + i) er w h.lt hsb (fun W hg => (hb W hg).mono ?_)).mono ?_
    · rintro r w' ⟨⟨rfl, h1, _⟩, h2⟩; exact ⟨rfl, h1, h2⟩
    · rintro e w' ⟨rfl, hd, hg⟩
      exact DPostF.badI i er rfl ⟨4, 0, 0, false, none, 0, 0, 0, 0, 0, 0, 0, 0, 0, 0, 0⟩ rfl hd (pnum_err _ _ _ _ _ _ hp) hg
theorem rfield5_any (Q sb : Nat) (L : List Int) (p : Nat) (w : World) (h : DR w Q sb L p 0) (hsb : sb < w.heap.size) :
    Calls Tryd.prog 37 #[.pointer (some ⟨Q, 0, none⟩), .int .i64 5] w fun e w' => DPostF w Q sb L p (pfield 5 (L.drop p)) e w' := by
  have hbd := h.bd
  have hb := fun W (hg : Gr w W) => rvec_any Q sb L p W (h.gr hg) (Nat.lt_of_lt_of_le hsb hg.le)
  have e2 : pfield 5 (L.drop p) = (pvec (L.drop p)).map (fun x => FV.vec x.1.toNat x.2.toNat) := by unfold pfield; rw [if_neg (by decide), if_neg (by decide), if_neg (by decide), if_neg (by decide), if_pos rfl]
  rw [e2]
  rcases hp : pvec (L.drop p) with ⟨⟨x, y⟩, n⟩ | ⟨i, er⟩
  · rw [hp] at hb
    have hnn := pvec_nn _ (fun c hc => hbd c (List.mem_of_mem_drop hc)) x y n hp
    refine (rfield_vec Q sb L (fun a b => a = x ∧ b = y) (p + n) 0 w h.lt hsb (fun W hg => (hb W hg).mono ?_)).mono ?_
    · rintro r w' ⟨⟨rfl, h1⟩, h2⟩; exact ⟨x, y, ⟨rfl, rfl⟩, rfl, h1, h2⟩
    · rintro e w' ⟨_, _, ⟨rfl, rfl⟩, rfl, hd, hg⟩
      exact DPostF.okI (.vec _ _) n rfl ⟨5, 0, 0, false, none, 0, 0, _, _, 0, 0, 0, 0, 0, 0, 0⟩ rfl (Or.inl ⟨rfl, by simp only [FV.fd, Int.toNat_of_nonneg hnn.1, Int.toNat_of_nonneg hnn.2]⟩) hd hg
  · rw [hp] at hb
    refine (rfield_vec Q sb L (fun _ _ => True) (p + i) er w h.lt hsb (fun W hg => (hb W hg).mono ?_)).mono ?_
    · rintro r w' ⟨⟨⟨x, y, rfl⟩, h1, _⟩, h2⟩; exact ⟨x, y, trivial, rfl, h1, h2⟩
    · rintro e w' ⟨x, y, _, rfl, hd, hg⟩
      exact DPostF.badI i er rfl ⟨5, 0, 0, false, none, 0, 0, x, y, 0, 0, 0, 0, 0, 0, 0⟩ rfl hd (pvec_err _ _ _ hp) hg
theorem rfield6_any (Q sb : Nat) (L : List Int) (p : Nat) (w : World) (h : DR w Q sb L p 0) (hsb : sb < w.heap.size) :
    Calls Tryd.prog 37 #[.pointer (some ⟨Q, 0, none⟩), .int .i64 6] w fun e w' => DPostF w Q sb L p (pfield 6 (L.drop p)) e w' := by
  have hb := fun W (hg : Gr w W) => rkey_any Q sb L p W (h.gr hg) (Nat.lt_of_lt_of_le hsb hg.le)
  have e2 : pfield 6 (L.drop p) = (pkey (L.drop p)).map (fun x => FV.key x.1 x.2) := by unfold pfield; rw [if_neg (by decide), if_neg (by decide), if_neg (by decide), if_neg (by decide), if_neg (by decide), if_pos rfl]
  rw [e2]
  rcases hp : pkey (L.drop p) with ⟨⟨x, y⟩, n⟩ | ⟨i, er⟩
  · rw [hp] at hb
    refine (rfield_key Q sb L (fun a b => a = x ∧ b = y) (p + n) 0 w h.lt hsb (fun W hg => (hb W hg).mono ?_)).mono ?_
    · rintro r w' ⟨⟨rfl, h1⟩, h2⟩; exact ⟨x, y, ⟨rfl, rfl⟩, rfl, h1, h2⟩
    · rintro e w' ⟨_, _, ⟨rfl, rfl⟩, rfl, hd, hg⟩
      exact DPostF.okI (.key _ _) n rfl ⟨6, 0, 0, false, none, 0, 0, 0, 0, _, _, 0, 0, 0, 0, 0⟩ rfl (Or.inl ⟨rfl, rfl⟩) hd hg
  · rw [hp] at hb
    refine (rfield_key Q sb L (fun _ _ => True) (p + i) er w h.lt hsb (fun W hg => (hb W hg).mono ?_)).mono ?_
    · rintro r w' ⟨⟨⟨x, y, rfl⟩, h1, _⟩, h2⟩; exact ⟨x, y, trivial, rfl, h1, h2⟩
    · rintro e w' ⟨x, y, _, rfl, hd, hg⟩
      exact DPostF.badI i er rfl ⟨6, 0, 0, false, none, 0, 0, 0, 0, x, y, 0, 0, 0, 0, 0⟩ rfl hd (pkey_err _ _ _ hp) hg
theorem rfield7_any (Q sb : Nat) (L : List Int) (p : Nat) (w : World) (h : DR w Q sb L p 0) (hsb : sb < w.heap.size) :
    Calls Tryd.prog 37 #[.pointer (some ⟨Q, 0, none⟩), .int .i64 7] w fun e w' => DPostF w Q sb L p (pfield 7 (L.drop p)) e w' := by
  have hbd := h.bd
  have hb := fun W (hg : Gr w W) => rint_any Q sb L p W (h.gr hg)
  have e2 : pfield 7 (L.drop p) = (pref (L.drop p)).map (fun x => FV.ref x.1 x.2.1.1 x.2.1.2 x.2.2.1.toNat x.2.2.2.toNat) := by unfold pfield; rw [if_neg (by decide), if_neg (by decide), if_neg (by decide), if_neg (by decide), if_neg (by decide), if_neg (by decide)]
  rw [e2]
  unfold pref
  rcases hp : pwhole (L.drop p) with ⟨x, n⟩ | ⟨i, er⟩
  · rw [hp] at hb
    simp only []
    rcases hk : pkey ((L.drop p).drop n) with ⟨⟨y1, y2⟩, n2⟩ | ⟨i, er⟩
    · simp only []
      rcases hv : pvec (((L.drop p).drop n).drop n2) with ⟨⟨z1, z2⟩, n3⟩ | ⟨i, er⟩
      · simp only []
        have hnn := pvec_nn _ (fun c hc => hbd c (List.mem_of_mem_drop (List.mem_of_mem_drop (List.mem_of_mem_drop hc)))) z1 z2 n3 hv
        refine (rfield_ref Q sb L x (fun a b => a = y1 ∧ b = y2) (fun a b => a = z1 ∧ b = z2) (p + n) (p + n + n2) (p + n + n2 + n3) 0 0 0 w h.lt hsb (fun W hg => (hb W hg).mono ?_) (fun W hd hs => ?_) (fun W hd hs => ?_)).mono ?_
        · rintro r w' ⟨⟨rfl, h1⟩, h2⟩; exact ⟨rfl, h1, h2⟩
        · have := rkey_any Q sb L (p + n) W hd hs
          rw [← List.drop_drop, hk] at this
          refine this.mono ?_
          rintro r w' ⟨⟨rfl, h1⟩, h2⟩; exact ⟨_, _, ⟨rfl, rfl⟩, rfl, h1, h2⟩
        · have := rvec_any Q sb L (p + n + n2) W hd hs
          rw [← List.drop_drop, ← List.drop_drop, hv] at this
          refine this.mono ?_
          rintro r w' ⟨⟨rfl, h1⟩, h2⟩; exact ⟨_, _, ⟨rfl, rfl⟩, rfl, h1, h2⟩
        · rintro e w' ⟨_, _, _, _, ⟨rfl, rfl⟩, ⟨rfl, rfl⟩, rfl, hd, hg⟩
          exact DPostF.okI (.ref _ _ _ _ _) (n + n2 + n3) rfl ⟨7, 0, 0, false, none, 0, 0, 0, 0, 0, 0, _, _, _, _, _⟩ rfl (Or.inl ⟨rfl, by simp only [FV.fd, Int.toNat_of_nonneg hnn.1, Int.toNat_of_nonneg hnn.2]⟩) (by rw [← Nat.add_assoc, ← Nat.add_assoc]; exact hd) hg
      · simp only []
        refine (rfield_ref Q sb L x (fun a b => a = y1 ∧ b = y2) (fun _ _ => True) (p + n) (p + n + n2) (p + n + n2 + i) 0 0 er w h.lt hsb (fun W hg => (hb W hg).mono ?_) (fun W hd hs => ?_) (fun W hd hs => ?_)).mono ?_
        · rintro r w' ⟨⟨rfl, h1⟩, h2⟩; exact ⟨rfl, h1, h2⟩
        · have := rkey_any Q sb L (p + n) W hd hs
          rw [← List.drop_drop, hk] at this
          refine this.mono ?_
          rintro r w' ⟨⟨rfl, h1⟩, h2⟩; exact ⟨_, _, ⟨rfl, rfl⟩, rfl, h1, h2⟩
        · have := rvec_any Q sb L (p + n + n2) W hd hs
          rw [← List.drop_drop, ← List.drop_drop, hv] at this
          refine this.mono ?_
          rintro r w' ⟨⟨⟨z1, z2, rfl⟩, h1, _⟩, h2⟩; exact ⟨z1, z2, trivial, rfl, h1, h2⟩
        · rintro e w' ⟨_, _, z1, z2, ⟨rfl, rfl⟩, _, rfl, hd, hg⟩
          exact DPostF.badI (n + n2 + i) er rfl ⟨7, 0, 0, false, none, 0, 0, 0, 0, 0, 0, _, _, _, _, _⟩ rfl (by rw [← Nat.add_assoc, ← Nat.add_assoc]; exact hd) (pvec_err _ _ _ hv) hg
    · simp only []
      have her := pkey_err _ _ _ hk
      refine (rfield_ref Q sb L x (fun _ _ => True) (fun _ _ => True) (p + n) (p + n + i) (p + n + i) 0 er er w h.lt hsb (fun W hg => (hb W hg).mono ?_) (fun W hd hs => ?_) (fun W hd hs => ?_)).mono ?_
      · rintro r w' ⟨⟨rfl, h1⟩, h2⟩; exact ⟨rfl, h1, h2⟩
      · have := rkey_any Q sb L (p + n) W hd hs
        rw [← List.drop_drop, hk] at this
        refine this.mono ?_
        rintro r w' ⟨⟨⟨z1, z2, rfl⟩, h1, _⟩, h2⟩; exact ⟨z1, z2, trivial, rfl, h1, h2⟩
      · refine (rvec_bad Q sb L _ er her W hd hs).mono ?_
        rintro r w' ⟨rfl, h1, h2⟩; exact ⟨_, _, trivial, rfl, h1, h2⟩
      · rintro e w' ⟨y1, y2, z1, z2, _, _, rfl, hd, hg⟩
        exact DPostF.badI (n + i) er rfl ⟨7, 0, 0, false, none, 0, 0, 0, 0, 0, 0, _, _, _, _, _⟩ rfl (by rw [← Nat.add_assoc]; exact hd) her hg
  · rw [hp] at hb
    have her := pwhole_err _ _ _ hp
    refine (rfield_ref Q sb L 0 (fun _ _ => True) (fun _ _ => True) (p + i) (p + i) (p + i) er er er w h.lt hsb (fun W hg => (hb W hg).mono ?_) (fun W hd hs => ?_) (fun W hd hs => ?_)).mono ?_
    · rintro r w' ⟨⟨rfl, h1, _⟩, h2⟩; exact ⟨rfl, h1, h2⟩
    · refine (rkey_bad Q sb L _ er her W hd hs).mono ?_
      rintro r w' ⟨rfl, h1, h2⟩; exact ⟨_, _, trivial, rfl, h1, h2⟩
    · refine (rvec_bad Q sb L _ er her W hd hs).mono ?_
      rintro r w' ⟨rfl, h1, h2⟩; exact ⟨_, _, trivial, rfl, h1, h2⟩
    · rintro e w' ⟨y1, y2, z1, z2, _, _, rfl, hd, hg⟩
      exact DPostF.badI i er rfl ⟨7, 0, 0, false, none, 0, 0, 0, 0, 0, 0, _, _, _, _, _⟩ rfl hd her hg
/-- A field of any kind, of any bytes. -/
theorem rfield_any (k : Int) (h1 : 1 ≤ k) (h7 : k ≤ 7) (Q sb : Nat) (L : List Int) (p : Nat) (w : World) (h : DR w Q sb L p 0) (hsb : sb < w.heap.size) :
    Calls Tryd.prog 37 #[.pointer (some ⟨Q, 0, none⟩), .int .i64 k] w fun e w' => DPostF w Q sb L p (pfield k (L.drop p)) e w' := by
  obtain rfl | rfl | rfl | rfl | rfl | rfl | rfl : k = 1 ∨ k = 2 ∨ k = 3 ∨ k = 4 ∨ k = 5 ∨ k = 6 ∨ k = 7 := by omega
  · exact rfield1_any Q sb L p w h hsb
  · exact rfield2_any Q sb L p w h hsb
  · exact rfield3_any Q sb L p w h hsb
  · exact rfield4_any Q sb L p w h hsb
  · exact rfield5_any Q sb L p w h hsb
  · exact rfield6_any Q sb L p w h hsb
  · exact rfield7_any Q sb L p w h hsb

end Go.Proofs.YtmhcmlegdoapdaaDoor
