/- The document's reader: a field of any kind, of any bytes. -/
import Derived.Test.YtmhcmlegdoapdaaDoorVD
import Derived.Test.YtmhcmlegdoapdaaDoorRP
namespace Go.Proofs.YtmhcmlegdoapdaaDoor
open Go.RowKit

set_option maxHeartbeats 4000000 in
set_option maxRecDepth 100000 in
theorem rfield_row0 (Q sb : Nat) (L : List Int)  (q : Nat) (er : Int) (w : World) (hQ : Q < w.heap.size) (hsb : sb < w.heap.size)
    (hb : ∀ W, Gr w W → Calls Tryd.prog 57 #[.pointer (some ⟨Q, 0, none⟩), .int .u64 65536] W fun r w' => r = .returned (.int .u64 0) ∧ DR w' Q sb L q er ∧ W.grownBy w' (some Q)) :
    Calls Tryd.prog 37 #[.pointer (some ⟨Q, 0, none⟩), .int .i64 4] w fun e w' => e = .returned (.agg #[.int .i64 4, .int .u64 0, .int .i64 0, .bool false, .slice none 0 0, .int .i64 0, .int .u64 0, .int .i64 0, .int .u64 0, .int .i64 0, .int .i64 0, .int .u64 0, .int .i64 0, .int .u64 0]) ∧ DR w' Q sb L q er ∧ w.grownBy w' (some Q) := by
  have I0 := (IsB.new w #[.int .i64 0, .int .u64 0, .int .i64 0, .bool false, .slice none 0 0, .int .i64 0, .int .u64 0, .int .i64 0, .int .u64 0, .int .i64 0, .int .i64 0, .int .u64 0, .int .i64 0, .int .u64 0] 34).alloc (.cells #[.int .i64 4, .int .u64 0, .int .i64 0, .bool false, .slice none 0 0, .int .i64 0, .int .u64 0, .int .i64 0, .int .u64 0, .int .i64 0, .int .i64 0, .int .u64 0, .int .i64 0, .int .u64 0] 34)
  have I1 := IsB.new (w.alloc (.cells #[.int .i64 0, .int .u64 0, .int .i64 0, .bool false, .slice none 0 0, .int .i64 0, .int .u64 0, .int .i64 0, .int .u64 0, .int .i64 0, .int .i64 0, .int .u64 0, .int .i64 0, .int .u64 0] 34)) #[.int .i64 4, .int .u64 0, .int .i64 0, .bool false, .slice none 0 0, .int .i64 0, .int .u64 0, .int .i64 0, .int .u64 0, .int .i64 0, .int .i64 0, .int .u64 0, .int .i64 0, .int .u64 0] 34
  rw [World.size_alloc] at I1
  have HG := hide (show Gr w ((w.alloc (.cells #[.int .i64 0, .int .u64 0, .int .i64 0, .bool false, .slice none 0 0, .int .i64 0, .int .u64 0, .int .i64 0, .int .u64 0, .int .i64 0, .int .i64 0, .int .u64 0, .int .i64 0, .int .u64 0] 34)).alloc (.cells #[.int .i64 4, .int .u64 0, .int .i64 0, .bool false, .slice none 0 0, .int .i64 0, .int .u64 0, .int .i64 0, .int .u64 0, .int .i64 0, .int .i64 0, .int .u64 0, .int .i64 0, .int .u64 0] 34)) from ((Gr.refl w).alloc _).alloc _)
  have hrow := hide (hb _ HG.out)
  have hl01 := I1.lt
  replace I0 := hide I0
  replace I1 := hide I1
  clear hb
  go_enter Tryd.func37, Tryd.ntmps37
  go_wp2_with fail
  generalize (w.alloc (.cells #[.int .i64 0, .int .u64 0, .int .i64 0, .bool false, .slice none 0 0, .int .i64 0, .int .u64 0, .int .i64 0, .int .u64 0, .int .i64 0, .int .i64 0, .int .u64 0, .int .i64 0, .int .u64 0] 34)).alloc (.cells #[.int .i64 4, .int .u64 0, .int .i64 0, .bool false, .slice none 0 0, .int .i64 0, .int .u64 0, .int .i64 0, .int .u64 0, .int .i64 0, .int .i64 0, .int .u64 0, .int .i64 0, .int .u64 0] 34) = W0 at I0 I1 HG hrow hl01 ⊢
  refine hrow.out.mono ?_
  rintro e w1 ⟨rfl, hrd, hgr⟩
  replace I0 := hide (I0.out.grown hgr (by intro h; simp only [Option.some.injEq] at h; omega))
  replace I1 := hide (I1.out.grown hgr (by intro h; simp only [Option.some.injEq] at h; omega))
  have HRD := hide hrd
  have HGR := hide (grown_trans (grown_of_gr HG.out _) hgr)
  have hlW := I0.out.lt
  have hlW0 : w.heap.size + 1 < W0.heap.size := hl01
  clear hrow hrd hgr
  have a0 : w1.cell? ⟨w.heap.size, 0, none⟩ = some (.int .i64 0) := I0.out.cell 0
  have a1 : w1.cell? ⟨w.heap.size, 1, none⟩ = some (.int .u64 0) := I0.out.cell 1
  have a2 : w1.cell? ⟨w.heap.size, 2, none⟩ = some (.int .i64 0) := I0.out.cell 2
  have a3 : w1.cell? ⟨w.heap.size, 3, none⟩ = some (.bool false) := I0.out.cell 3
  have a4 : w1.cell? ⟨w.heap.size, 4, none⟩ = some (.slice none 0 0) := I0.out.cell 4
  have a5 : w1.cell? ⟨w.heap.size, 5, none⟩ = some (.int .i64 0) := I0.out.cell 5
  have a6 : w1.cell? ⟨w.heap.size, 6, none⟩ = some (.int .u64 0) := I0.out.cell 6
  have a7 : w1.cell? ⟨w.heap.size, 7, none⟩ = some (.int .i64 0) := I0.out.cell 7
  have a8 : w1.cell? ⟨w.heap.size, 8, none⟩ = some (.int .u64 0) := I0.out.cell 8
  have a9 : w1.cell? ⟨w.heap.size, 9, none⟩ = some (.int .i64 0) := I0.out.cell 9
  have a10 : w1.cell? ⟨w.heap.size, 10, none⟩ = some (.int .i64 0) := I0.out.cell 10
  have a11 : w1.cell? ⟨w.heap.size, 11, none⟩ = some (.int .u64 0) := I0.out.cell 11
  have a12 : w1.cell? ⟨w.heap.size, 12, none⟩ = some (.int .i64 0) := I0.out.cell 12
  have a13 : w1.cell? ⟨w.heap.size, 13, none⟩ = some (.int .u64 0) := I0.out.cell 13
  have b0 : w1.cell? ⟨w.heap.size + 1, 0, none⟩ = some (.int .i64 4) := I1.out.cell 0
  have b1 : w1.cell? ⟨w.heap.size + 1, 1, none⟩ = some (.int .u64 0) := I1.out.cell 1
  have b2 : w1.cell? ⟨w.heap.size + 1, 2, none⟩ = some (.int .i64 0) := I1.out.cell 2
  have b3 : w1.cell? ⟨w.heap.size + 1, 3, none⟩ = some (.bool false) := I1.out.cell 3
  have b4 : w1.cell? ⟨w.heap.size + 1, 4, none⟩ = some (.slice none 0 0) := I1.out.cell 4
  have b5 : w1.cell? ⟨w.heap.size + 1, 5, none⟩ = some (.int .i64 0) := I1.out.cell 5
  have b6 : w1.cell? ⟨w.heap.size + 1, 6, none⟩ = some (.int .u64 0) := I1.out.cell 6
  have b7 : w1.cell? ⟨w.heap.size + 1, 7, none⟩ = some (.int .i64 0) := I1.out.cell 7
  have b8 : w1.cell? ⟨w.heap.size + 1, 8, none⟩ = some (.int .u64 0) := I1.out.cell 8
  have b9 : w1.cell? ⟨w.heap.size + 1, 9, none⟩ = some (.int .i64 0) := I1.out.cell 9
  have b10 : w1.cell? ⟨w.heap.size + 1, 10, none⟩ = some (.int .i64 0) := I1.out.cell 10
  have b11 : w1.cell? ⟨w.heap.size + 1, 11, none⟩ = some (.int .u64 0) := I1.out.cell 11
  have b12 : w1.cell? ⟨w.heap.size + 1, 12, none⟩ = some (.int .i64 0) := I1.out.cell 12
  have b13 : w1.cell? ⟨w.heap.size + 1, 13, none⟩ = some (.int .u64 0) := I1.out.cell 13
  have f0 := I0.out.free 0
  have f1 := I0.out.free 1
  have f2 := I0.out.free 2
  have f3 := I0.out.free 3
  have f4 := I0.out.free 4
  have f5 := I0.out.free 5
  have f6 := I0.out.free 6
  have f7 := I0.out.free 7
  have f8 := I0.out.free 8
  have f9 := I0.out.free 9
  have f10 := I0.out.free 10
  have f11 := I0.out.free 11
  have f12 := I0.out.free 12
  have f13 := I0.out.free 13
  go_wp2
  go_loopw [7] (fun i wr => i = .int .u64 0 ∧ wr = w1) (fun _ _ => 0)
  case atStart => exact ⟨rfl, rfl⟩
  case round =>
  obtain ⟨rfl, hwr⟩ := hrel
  rw [hwr]
  clear hwr
  go_wp2
  have hW : ((((((((((((((w1.setCell ⟨w.heap.size, 0, none⟩ (.int .i64 4)).setCell ⟨w.heap.size, 1, none⟩ (.int .u64 0)).setCell ⟨w.heap.size, 2, none⟩ (.int .i64 0)).setCell ⟨w.heap.size, 3, none⟩ (.bool false)).setCell ⟨w.heap.size, 4, none⟩ (.slice none 0 0)).setCell ⟨w.heap.size, 5, none⟩ (.int .i64 0)).setCell ⟨w.heap.size, 6, none⟩ (.int .u64 0)).setCell ⟨w.heap.size, 7, none⟩ (.int .i64 0)).setCell ⟨w.heap.size, 8, none⟩ (.int .u64 0)).setCell ⟨w.heap.size, 9, none⟩ (.int .i64 0)).setCell ⟨w.heap.size, 10, none⟩ (.int .i64 0)).setCell ⟨w.heap.size, 11, none⟩ (.int .u64 0)).setCell ⟨w.heap.size, 12, none⟩ (.int .i64 0)).setCell ⟨w.heap.size, 13, none⟩ (.int .u64 0)) = putCells w1 w.heap.size 0 [.int .i64 4, .int .u64 0, .int .i64 0, .bool false, .slice none 0 0, .int .i64 0, .int .u64 0, .int .i64 0, .int .u64 0, .int .i64 0, .int .i64 0, .int .u64 0, .int .i64 0, .int .u64 0] := rfl
  rw [hW]
  clear hW
  have hfin := putCells_is (cs := [.int .i64 0, .int .u64 0, .int .i64 0, .bool false, .slice none 0 0, .int .i64 0, .int .u64 0, .int .i64 0, .int .u64 0, .int .i64 0, .int .i64 0, .int .u64 0, .int .i64 0, .int .u64 0]) (I0.out) [.int .i64 4, .int .u64 0, .int .i64 0, .bool false, .slice none 0 0, .int .i64 0, .int .u64 0, .int .i64 0, .int .u64 0, .int .i64 0, .int .i64 0, .int .u64 0, .int .i64 0, .int .u64 0] rfl
  have hrd := putCells_dr (b := w.heap.size) (show Q ≠ w.heap.size by omega) (show sb ≠ w.heap.size by omega) [.int .i64 4, .int .u64 0, .int .i64 0, .bool false, .slice none 0 0, .int .i64 0, .int .u64 0, .int .i64 0, .int .u64 0, .int .i64 0, .int .i64 0, .int .u64 0, .int .i64 0, .int .u64 0] _ 0 HRD.out
  have hgr := putCells_grown (b := w.heap.size) (Nat.le_refl _) [.int .i64 4, .int .u64 0, .int .i64 0, .bool false, .slice none 0 0, .int .i64 0, .int .u64 0, .int .i64 0, .int .u64 0, .int .i64 0, .int .i64 0, .int .u64 0, .int .i64 0, .int .u64 0] _ 0 HGR.out
  generalize putCells w1 w.heap.size 0 [.int .i64 4, .int .u64 0, .int .i64 0, .bool false, .slice none 0 0, .int .i64 0, .int .u64 0, .int .i64 0, .int .u64 0, .int .i64 0, .int .i64 0, .int .u64 0, .int .i64 0, .int .u64 0] = W at hfin hrd hgr ⊢
  refine bodyPost_ret (rfield_results W _ _ hfin rfl _ rfl) rfl ?_
  exact ⟨rfl, hrd, hgr⟩

/-- f is v in this memory; its row is one of the blocks from base on, or nil. -/
def FV.DAt (w : World) (base : Nat) (v : FV) (f : Fd) : Prop :=
  (v.row = none ∧ f = v.fd none 0 0) ∨ ∃ l a c, v.row = some l ∧ f = v.fd a l.length c ∧ w.ownsRow base 5 1 (.slice a l.length c) l.length (u8s l)
theorem FV.At.d {w : World} {base : Nat} {v : FV} {f : Fd} (h : v.At w base f) : v.DAt w base f := by
  rcases h with h | ⟨l, g, c, h1, h2, h3⟩
  · exact Or.inl h
  · exact Or.inr ⟨l, _, c, h1, h2, h3⟩
/-- What the document's reader leaves of a field. -/
def DPostF (w : World) (Q sb : Nat) (L : List Int) (p : Nat) (r : PR FV) (e : Ending) (w' : World) : Prop :=
  ∃ f : Fd, e = .returned (.agg f.cs) ∧ w.grownBy w' (some Q) ∧
  (match r with
    | .ok v n => v.DAt w' w.heap.size f ∧ DR w' Q sb L (p + n) 0
    | .bad i er => DR w' Q sb L (p + i) er ∧ er ≠ 0)
theorem DPostF.okI {w : World} {Q sb : Nat} {L : List Int} {p : Nat} {r : PR FV} {e : Ending} {w' : World} (v : FV) (n : Nat) (hr : r = .ok v n) (f : Fd) (he : e = .returned (.agg f.cs)) (hat : v.DAt w' w.heap.size f) (hd : DR w' Q sb L (p + n) 0) (hg : w.grownBy w' (some Q)) : DPostF w Q sb L p r e w' := by
  subst hr; exact ⟨f, he, hg, hat, hd⟩
theorem DPostF.badI {w : World} {Q sb : Nat} {L : List Int} {p : Nat} {r : PR FV} {e : Ending} {w' : World} (i : Nat) (er : Int) (hr : r = .bad i er) (f : Fd) (he : e = .returned (.agg f.cs)) (hd : DR w' Q sb L (p + i) er) (hn : er ≠ 0) (hg : w.grownBy w' (some Q)) : DPostF w Q sb L p r e w' := by
  subst hr; exact ⟨f, he, hg, hd, hn⟩

theorem pnum_err (most : Nat) : ∀ (l : List Int) (k m i : Nat) (e : Int), pnum most k m l = .bad i e → e ≠ 0 := by
  intro l
  induction l with
  | nil => intro k m i e h; rw [pnum_nil] at h; cases h; decide
  | cons c r ih =>
    intro k m i e h
    unfold pnum at h
    split at h
    · split at h
      · cases h
      · exact ih _ _ _ _ h
    · cases h; decide
theorem pwhole_err (l : List Int) (i : Nat) (e : Int) (h : pwhole l = .bad i e) : e ≠ 0 := by
  unfold pwhole at h
  rcases hp : pnum M64 0 0 l with ⟨x, n⟩ | ⟨j, er⟩
  · rw [hp] at h; cases h
  · rw [hp] at h; cases h; exact pnum_err _ _ _ _ _ _ hp
theorem phigh_err (n : Nat) (l : List Int) (i : Nat) (e : Int) (h : phigh n l = .bad i e) : e ≠ 0 := by
  unfold phigh at h
  split at h
  · cases h
  · cases h; decide
theorem pkey_err (l : List Int) (i : Nat) (e : Int) (h : pkey l = .bad i e) : e ≠ 0 := by
  rcases l with _ | ⟨r, l⟩
  · cases h; decide
  · by_cases hr : 1 ≤ r ∧ r ≤ 3
    · have hp2 : (match phigh (if r = 2 then 8 else 0) l with
        | .ok x n => PR.ok (r, x) (n + 1)
        | .bad i e => .bad (i + 1) e) = .bad i e := by rw [← h]; exact (if_pos hr).symm
      rcases hp : phigh (if r = 2 then 8 else 0) l with ⟨x, n⟩ | ⟨j, er⟩
      · rw [hp] at hp2; cases hp2
      · rw [hp] at hp2; cases hp2; exact phigh_err _ _ _ _ hp
    · have : pkey (r :: l) = .bad 0 31 := if_neg hr
      rw [this] at h; cases h; decide
theorem pvec_err (l : List Int) (i : Nat) (e : Int) (h : pvec l = .bad i e) : e ≠ 0 := by
  rcases l with _ | ⟨c, l⟩
  · cases h; decide
  · by_cases hr : c ≤ 32
    · have hp2 : (match phigh ((c.toNat + 7) / 8) l with
        | .ok x n => if x % 2 ^ spare c.toNat = 0 then PR.ok (c, x / 2 ^ spare c.toNat) (n + 1) else .bad n 31
        | .bad i e => .bad (i + 1) e) = .bad i e := by rw [← h]; exact (if_pos hr).symm
      rcases hp : phigh ((c.toNat + 7) / 8) l with ⟨x, n⟩ | ⟨j, er⟩
      · rw [hp] at hp2
        simp only [] at hp2
        by_cases hz : x % 2 ^ spare c.toNat = 0
        · rw [if_pos hz] at hp2; cases hp2
        · rw [if_neg hz] at hp2; cases hp2; decide
      · rw [hp] at hp2; cases hp2; exact phigh_err _ _ _ _ hp
    · have : pvec (c :: l) = .bad 0 31 := if_neg hr
      rw [this] at h; cases h; decide

theorem rfield1_any (Q sb : Nat) (L : List Int) (p : Nat) (w : World) (h : DR w Q sb L p 0) (hsb : sb < w.heap.size) :
    Calls Tryd.prog 37 #[.pointer (some ⟨Q, 0, none⟩), .int .i64 1] w fun e w' => DPostF w Q sb L p (pfield 1 (L.drop p)) e w' := by
  have hb := fun W (hg : Gr w W) => rnumber_max Q sb L p W (h.gr hg)
  rcases hp : pnum M64 0 0 (L.drop p) with ⟨x, n⟩ | ⟨i, er⟩
  · rw [hp] at hb
    refine (rfield_num Q sb L x (p + n) 0 w h.lt hsb (fun W hg => (hb W hg).mono ?_)).mono ?_
    · rintro r w' ⟨⟨rfl, h1⟩, h2⟩; exact ⟨rfl, h1, h2⟩
    · rintro e w' ⟨rfl, hd, hg⟩
      exact DPostF.okI (.num x) n (by unfold pfield; rw [if_pos rfl, hp]; rfl) ⟨1, x, 0, false, none, 0, 0, 0, 0, 0, 0, 0, 0, 0, 0, 0⟩ rfl (Or.inl ⟨rfl, rfl⟩) hd hg
  · rw [hp] at hb
    refine (rfield_num Q sb L 0 (p + i) er w h.lt hsb (fun W hg => (hb W hg).mono ?_)).mono ?_
    · rintro r w' ⟨⟨rfl, h1, _⟩, h2⟩; exact ⟨rfl, h1, h2⟩
    · rintro e w' ⟨rfl, hd, hg⟩
      exact DPostF.badI i er (by unfold pfield; rw [if_pos rfl, hp]; rfl) ⟨1, 0, 0, false, none, 0, 0, 0, 0, 0, 0, 0, 0, 0, 0, 0⟩ rfl hd (pnum_err _ _ _ _ _ _ hp) hg
theorem rfield2_any (Q sb : Nat) (L : List Int) (p : Nat) (w : World) (h : DR w Q sb L p 0) (hsb : sb < w.heap.size) :
    Calls Tryd.prog 37 #[.pointer (some ⟨Q, 0, none⟩), .int .i64 2] w fun e w' => DPostF w Q sb L p (pfield 2 (L.drop p)) e w' := by
  have hb := fun W (hg : Gr w W) => rint_any Q sb L p W (h.gr hg)
  have e2 : pfield 2 (L.drop p) = (pwhole (L.drop p)).map FV.int := by unfold pfield; rw [if_neg (by decide), if_pos rfl]
  rw [e2]
  rcases hp : pwhole (L.drop p) with ⟨x, n⟩ | ⟨i, er⟩
  · rw [hp] at hb
    refine (rfield_int Q sb L x (p + n) 0 w h.lt hsb (fun W hg => (hb W hg).mono ?_)).mono ?_
    · rintro r w' ⟨⟨rfl, h1⟩, h2⟩; exact ⟨rfl, h1, h2⟩
    · rintro e w' ⟨rfl, hd, hg⟩
      exact DPostF.okI (.int x) n rfl ⟨2, 0, x, false, none, 0, 0, 0, 0, 0, 0, 0, 0, 0, 0, 0⟩ rfl (Or.inl ⟨rfl, rfl⟩) hd hg
  · rw [hp] at hb
    refine (rfield_int Q sb L 0 (p + i) er w h.lt hsb (fun W hg => (hb W hg).mono ?_)).mono ?_
    · rintro r w' ⟨⟨rfl, h1, _⟩, h2⟩; exact ⟨rfl, h1, h2⟩
    · rintro e w' ⟨rfl, hd, hg⟩
      exact DPostF.badI i er rfl ⟨2, 0, 0, false, none, 0, 0, 0, 0, 0, 0, 0, 0, 0, 0, 0⟩ rfl hd (pwhole_err _ _ _ hp) hg
theorem rfield3_any (Q sb : Nat) (L : List Int) (p : Nat) (w : World) (h : DR w Q sb L p 0) (hsb : sb < w.heap.size) :
    Calls Tryd.prog 37 #[.pointer (some ⟨Q, 0, none⟩), .int .i64 3] w fun e w' => DPostF w Q sb L p (pfield 3 (L.drop p)) e w' := by
  have hbd := h.bd
  have hb := fun W (hg : Gr w W) => rbyte_any Q sb L p 0 1 W (h.gr hg)
  have e2 : pfield 3 (L.drop p) = (ptruth (L.drop p)).map FV.truth := by unfold pfield; rw [if_neg (by decide), if_neg (by decide), if_pos rfl]
  rw [e2]
  have bad : ∀ er, er ≠ 0 → pbyte 0 1 (L.drop p) = .bad 0 er → ptruth (L.drop p) = .bad 0 er → Calls Tryd.prog 37 #[.pointer (some ⟨Q, 0, none⟩), .int .i64 3] w fun e w' => DPostF w Q sb L p ((ptruth (L.drop p)).map FV.truth) e w' := fun er hn hp hq => by
    rw [hp] at hb
    rw [hq]
    refine (rfield_truth Q sb L 0 (p + 0) er w h.lt hsb (fun W hg => (hb W hg).mono ?_)).mono ?_
    · rintro r w' ⟨⟨rfl, h1, _⟩, h2⟩; exact ⟨rfl, h1, h2⟩
    · rintro e w' ⟨rfl, hd, hg⟩
      exact DPostF.badI 0 er rfl ⟨3, 0, 0, false, none, 0, 0, 0, 0, 0, 0, 0, 0, 0, 0, 0⟩ rfl hd hn hg
  rcases hl : L.drop p with _ | ⟨c, r⟩
  · rw [hl] at bad
    exact bad 32 (by decide) rfl rfl
  · have hc := hbd c (List.mem_of_mem_drop (by rw [hl]; exact List.mem_cons_self))
    by_cases h1 : c ≤ 1
    · have hp : pbyte 0 1 (L.drop p) = .ok c 1 := by rw [hl]; exact if_pos ⟨hc.1, h1⟩
      have hq : ptruth (c :: r) = .ok (decide (c = 1)) 1 := if_pos h1
      rw [hp] at hb
      rw [hq]
      refine (rfield_truth Q sb L c (p + 1) 0 w h.lt hsb (fun W hg => (hb W hg).mono ?_)).mono ?_
      · rintro r w' ⟨⟨rfl, h1⟩, h2⟩; exact ⟨rfl, h1, h2⟩
      · rintro e w' ⟨rfl, hd, hg⟩
        exact DPostF.okI (.truth (c == 1)) 1 (by rw [show (c == 1) = decide (c = 1) from rfl]; rfl) ⟨3, 0, 0, c == 1, none, 0, 0, 0, 0, 0, 0, 0, 0, 0, 0, 0⟩ rfl (Or.inl ⟨rfl, rfl⟩) hd hg
    · rw [hl] at bad
      exact bad 31 (by decide) (if_neg (fun h => h1 h.2)) (if_neg h1)
theorem rfield4_any (Q sb : Nat) (L : List Int) (p : Nat) (w : World) (h : DR w Q sb L p 0) (hsb : sb < w.heap.size) :
    Calls Tryd.prog 37 #[.pointer (some ⟨Q, 0, none⟩), .int .i64 4] w fun e w' => DPostF w Q sb L p (pfield 4 (L.drop p)) e w' := by
  have hbd := h.bd
  have hle := h.le
  have hb := fun W (hg : Gr w W) => rnumber_row Q sb L p W (h.gr hg)
  have e2 : pfield 4 (L.drop p) = (prow (L.drop p)).map FV.bytes := by unfold pfield; rw [if_neg (by decide), if_neg (by decide), if_neg (by decide), if_pos rfl]
  rw [e2]
  rcases hp : pnum 65536 0 0 (L.drop p) with ⟨x, n⟩ | ⟨i, er⟩
  · rw [hp] at hb
    have hx := pnum_le 65536 _ 0 0 x n (fun c hc => hbd c (List.mem_of_mem_drop hc)) (by omega) hp
    have hn := (pnum_n 65536 _ 0 0 x n hp).1
    rw [List.length_drop] at hn
    refine (rfield_row Q sb L (p + n) x hx w h.lt hsb hbd (fun W hg => (hb W hg).mono ?_)).mono ?_
    · rintro r w' ⟨⟨rfl, h1⟩, h2⟩; exact ⟨rfl, h1, h2⟩
    · rintro e w' ⟨la, bl, rfl, ho, hg, hs, hph⟩
      obtain ⟨a, c, rfl⟩ : ∃ a c, la = .slice a bl.length c := by
        rcases ho.2 with ⟨h1, h2⟩ | ⟨g, cp, cur, h1, _⟩
        · exact ⟨none, 0, by rw [h1, h2]⟩
        · exact ⟨_, _, h1⟩
      have hdl : ((L.drop p).drop n).length = L.length - (p + n) := by rw [List.drop_drop, List.length_drop]
      rcases hph with ⟨h1, h2, h3⟩ | ⟨h1, h2, h3⟩
      · have hr : prow (L.drop p) = .ok bl (n + x) := by
          unfold prow
          rw [hp]
          simp only []
          rw [if_pos (by omega), h1, List.drop_drop]
        rw [hr]
        exact DPostF.okI (.bytes bl) (n + x) rfl ⟨4, 0, 0, false, a, bl.length, c, 0, 0, 0, 0, 0, 0, 0, 0, 0⟩ rfl (Or.inr ⟨bl, a, c, rfl, rfl, owns_base (by omega) ho⟩) (by rw [← Nat.add_assoc]; exact h3) hg
      · have hr : prow (L.drop p) = .bad (n + (L.length - (p + n))) 32 := by
          unfold prow
          rw [hp]
          simp only []
          rw [if_neg (by omega), hdl]
        rw [hr]
        exact DPostF.badI (n + (L.length - (p + n))) 32 rfl ⟨4, 0, 0, false, a, bl.length, c, 0, 0, 0, 0, 0, 0, 0, 0, 0⟩ rfl (by rw [show p + (n + (L.length - (p + n))) = L.length from by omega]; exact h3) (by decide) hg
  · rw [hp] at hb
    have hr : prow (L.drop p) = .bad i er := by unfold prow; rw [hp]
    rw [hr]
    refine (rfield_row0 Q sb L (p + i) er w h.lt hsb (fun W hg => (hb W hg).mono ?_)).mono ?_
    · rintro r w' ⟨⟨rfl, h1, _⟩, h2⟩; exact ⟨rfl, h1, h2⟩
    · rintro e w' ⟨rfl, hd, hg⟩
      exact DPostF.badI i er rfl ⟨4, 0, 0, false, none, 0, 0, 0, 0, 0, 0, 0, 0, 0, 0, 0⟩ rfl hd (pnum_err _ _ _ _ _ _ hp) hg
theorem rfield5_any (Q sb : Nat) (L : List Int) (p : Nat) (w : World) (h : DR w Q sb L p 0) (hsb : sb < w.heap.size) :
    Calls Tryd.prog 37 #[.pointer (some ⟨Q, 0, none⟩), .int .i64 5] w fun e w' => DPostF w Q sb L p (pfield 5 (L.drop p)) e w' := by
  have hbd := h.bd
  have hb := fun W (hg : Gr w W) => rvec_any Q sb L p W (h.gr hg) (Nat.lt_of_lt_of_le hsb hg.le)
  have e2 : pfield 5 (L.drop p) = (pvec (L.drop p)).map (fun x => FV.vec x.1.toNat x.2.toNat) := by unfold pfield; rw [if_neg (by decide), if_neg (by decide), if_neg (by decide), if_neg (by decide), if_pos rfl]
  rw [e2]
  rcases hp : pvec (L.drop p) with ⟨⟨x, y⟩, n⟩ | ⟨i, er⟩
  · rw [hp] at hb
    have hnn := pvec_nn _ (fun c hc => hbd c (List.mem_of_mem_drop hc)) x y n hp
    refine (rfield_vec Q sb L (fun a b => a = x ∧ b = y) (p + n) 0 w h.lt hsb (fun W hg => (hb W hg).mono ?_)).mono ?_
    · rintro r w' ⟨⟨rfl, h1⟩, h2⟩; exact ⟨x, y, ⟨rfl, rfl⟩, rfl, h1, h2⟩
    · rintro e w' ⟨_, _, ⟨rfl, rfl⟩, rfl, hd, hg⟩
      exact DPostF.okI (.vec _ _) n rfl ⟨5, 0, 0, false, none, 0, 0, _, _, 0, 0, 0, 0, 0, 0, 0⟩ rfl (Or.inl ⟨rfl, by simp only [FV.fd, Int.toNat_of_nonneg hnn.1, Int.toNat_of_nonneg hnn.2]⟩) hd hg
  · rw [hp] at hb
    refine (rfield_vec Q sb L (fun _ _ => True) (p + i) er w h.lt hsb (fun W hg => (hb W hg).mono ?_)).mono ?_
    · rintro r w' ⟨⟨⟨x, y, rfl⟩, h1, _⟩, h2⟩; exact ⟨x, y, trivial, rfl, h1, h2⟩
    · rintro e w' ⟨x, y, _, rfl, hd, hg⟩
      exact DPostF.badI i er rfl ⟨5, 0, 0, false, none, 0, 0, x, y, 0, 0, 0, 0, 0, 0, 0⟩ rfl hd (pvec_err _ _ _ hp) hg
theorem rfield6_any (Q sb : Nat) (L : List Int) (p : Nat) (w : World) (h : DR w Q sb L p 0) (hsb : sb < w.heap.size) :
    Calls Tryd.prog 37 #[.pointer (some ⟨Q, 0, none⟩), .int .i64 6] w fun e w' => DPostF w Q sb L p (pfield 6 (L.drop p)) e w' := by
  have hb := fun W (hg : Gr w W) => rkey_any Q sb L p W (h.gr hg) (Nat.lt_of_lt_of_le hsb hg.le)
  have e2 : pfield 6 (L.drop p) = (pkey (L.drop p)).map (fun x => FV.key x.1 x.2) := by unfold pfield; rw [if_neg (by decide), if_neg (by decide), if_neg (by decide), if_neg (by decide), if_neg (by decide), if_pos rfl]
  rw [e2]
  rcases hp : pkey (L.drop p) with ⟨⟨x, y⟩, n⟩ | ⟨i, er⟩
  · rw [hp] at hb
    refine (rfield_key Q sb L (fun a b => a = x ∧ b = y) (p + n) 0 w h.lt hsb (fun W hg => (hb W hg).mono ?_)).mono ?_
    · rintro r w' ⟨⟨rfl, h1⟩, h2⟩; exact ⟨x, y, ⟨rfl, rfl⟩, rfl, h1, h2⟩
    · rintro e w' ⟨_, _, ⟨rfl, rfl⟩, rfl, hd, hg⟩
      exact DPostF.okI (.key _ _) n rfl ⟨6, 0, 0, false, none, 0, 0, 0, 0, _, _, 0, 0, 0, 0, 0⟩ rfl (Or.inl ⟨rfl, rfl⟩) hd hg
  · rw [hp] at hb
    refine (rfield_key Q sb L (fun _ _ => True) (p + i) er w h.lt hsb (fun W hg => (hb W hg).mono ?_)).mono ?_
    · rintro r w' ⟨⟨⟨x, y, rfl⟩, h1, _⟩, h2⟩; exact ⟨x, y, trivial, rfl, h1, h2⟩
    · rintro e w' ⟨x, y, _, rfl, hd, hg⟩
      exact DPostF.badI i er rfl ⟨6, 0, 0, false, none, 0, 0, 0, 0, x, y, 0, 0, 0, 0, 0⟩ rfl hd (pkey_err _ _ _ hp) hg
theorem rfield7_any (Q sb : Nat) (L : List Int) (p : Nat) (w : World) (h : DR w Q sb L p 0) (hsb : sb < w.heap.size) :
    Calls Tryd.prog 37 #[.pointer (some ⟨Q, 0, none⟩), .int .i64 7] w fun e w' => DPostF w Q sb L p (pfield 7 (L.drop p)) e w' := by
  have hbd := h.bd
  have hb := fun W (hg : Gr w W) => rint_any Q sb L p W (h.gr hg)
  have e2 : pfield 7 (L.drop p) = (pref (L.drop p)).map (fun x => FV.ref x.1 x.2.1.1 x.2.1.2 x.2.2.1.toNat x.2.2.2.toNat) := by unfold pfield; rw [if_neg (by decide), if_neg (by decide), if_neg (by decide), if_neg (by decide), if_neg (by decide), if_neg (by decide)]
  rw [e2]
  unfold pref
  rcases hp : pwhole (L.drop p) with ⟨x, n⟩ | ⟨i, er⟩
  · rw [hp] at hb
    simp only []
    rcases hk : pkey ((L.drop p).drop n) with ⟨⟨y1, y2⟩, n2⟩ | ⟨i, er⟩
    · simp only []
      rcases hv : pvec (((L.drop p).drop n).drop n2) with ⟨⟨z1, z2⟩, n3⟩ | ⟨i, er⟩
      · simp only []
        have hnn := pvec_nn _ (fun c hc => hbd c (List.mem_of_mem_drop (List.mem_of_mem_drop (List.mem_of_mem_drop hc)))) z1 z2 n3 hv
        refine (rfield_ref Q sb L x (fun a b => a = y1 ∧ b = y2) (fun a b => a = z1 ∧ b = z2) (p + n) (p + n + n2) (p + n + n2 + n3) 0 0 0 w h.lt hsb (fun W hg => (hb W hg).mono ?_) (fun W hd hs => ?_) (fun W hd hs => ?_)).mono ?_
        · rintro r w' ⟨⟨rfl, h1⟩, h2⟩; exact ⟨rfl, h1, h2⟩
        · have := rkey_any Q sb L (p + n) W hd hs
          rw [← List.drop_drop, hk] at this
          refine this.mono ?_
          rintro r w' ⟨⟨rfl, h1⟩, h2⟩; exact ⟨_, _, ⟨rfl, rfl⟩, rfl, h1, h2⟩
        · have := rvec_any Q sb L (p + n + n2) W hd hs
          rw [← List.drop_drop, ← List.drop_drop, hv] at this
          refine this.mono ?_
          rintro r w' ⟨⟨rfl, h1⟩, h2⟩; exact ⟨_, _, ⟨rfl, rfl⟩, rfl, h1, h2⟩
        · rintro e w' ⟨_, _, _, _, ⟨rfl, rfl⟩, ⟨rfl, rfl⟩, rfl, hd, hg⟩
          exact DPostF.okI (.ref _ _ _ _ _) (n + n2 + n3) rfl ⟨7, 0, 0, false, none, 0, 0, 0, 0, 0, 0, _, _, _, _, _⟩ rfl (Or.inl ⟨rfl, by simp only [FV.fd, Int.toNat_of_nonneg hnn.1, Int.toNat_of_nonneg hnn.2]⟩) (by rw [← Nat.add_assoc, ← Nat.add_assoc]; exact hd) hg
      · simp only []
        refine (rfield_ref Q sb L x (fun a b => a = y1 ∧ b = y2) (fun _ _ => True) (p + n) (p + n + n2) (p + n + n2 + i) 0 0 er w h.lt hsb (fun W hg => (hb W hg).mono ?_) (fun W hd hs => ?_) (fun W hd hs => ?_)).mono ?_
        · rintro r w' ⟨⟨rfl, h1⟩, h2⟩; exact ⟨rfl, h1, h2⟩
        · have := rkey_any Q sb L (p + n) W hd hs
          rw [← List.drop_drop, hk] at this
          refine this.mono ?_
          rintro r w' ⟨⟨rfl, h1⟩, h2⟩; exact ⟨_, _, ⟨rfl, rfl⟩, rfl, h1, h2⟩
        · have := rvec_any Q sb L (p + n + n2) W hd hs
          rw [← List.drop_drop, ← List.drop_drop, hv] at this
          refine this.mono ?_
          rintro r w' ⟨⟨⟨z1, z2, rfl⟩, h1, _⟩, h2⟩; exact ⟨z1, z2, trivial, rfl, h1, h2⟩
        · rintro e w' ⟨_, _, z1, z2, ⟨rfl, rfl⟩, _, rfl, hd, hg⟩
          exact DPostF.badI (n + n2 + i) er rfl ⟨7, 0, 0, false, none, 0, 0, 0, 0, 0, 0, _, _, _, _, _⟩ rfl (by rw [← Nat.add_assoc, ← Nat.add_assoc]; exact hd) (pvec_err _ _ _ hv) hg
    · simp only []
      have her := pkey_err _ _ _ hk
      refine (rfield_ref Q sb L x (fun _ _ => True) (fun _ _ => True) (p + n) (p + n + i) (p + n + i) 0 er er w h.lt hsb (fun W hg => (hb W hg).mono ?_) (fun W hd hs => ?_) (fun W hd hs => ?_)).mono ?_
      · rintro r w' ⟨⟨rfl, h1⟩, h2⟩; exact ⟨rfl, h1, h2⟩
      · have := rkey_any Q sb L (p + n) W hd hs
        rw [← List.drop_drop, hk] at this
        refine this.mono ?_
        rintro r w' ⟨⟨⟨z1, z2, rfl⟩, h1, _⟩, h2⟩; exact ⟨z1, z2, trivial, rfl, h1, h2⟩
      · refine (rvec_bad Q sb L _ er her W hd hs).mono ?_
        rintro r w' ⟨rfl, h1, h2⟩; exact ⟨_, _, trivial, rfl, h1, h2⟩
      · rintro e w' ⟨y1, y2, z1, z2, _, _, rfl, hd, hg⟩
        exact DPostF.badI (n + i) er rfl ⟨7, 0, 0, false, none, 0, 0, 0, 0, 0, 0, _, _, _, _, _⟩ rfl (by rw [← Nat.add_assoc]; exact hd) her hg
  · rw [hp] at hb
    have her := pwhole_err _ _ _ hp
    refine (rfield_ref Q sb L 0 (fun _ _ => True) (fun _ _ => True) (p + i) (p + i) (p + i) er er er w h.lt hsb (fun W hg => (hb W hg).mono ?_) (fun W hd hs => ?_) (fun W hd hs => ?_)).mono ?_
    · rintro r w' ⟨⟨rfl, h1, _⟩, h2⟩; exact ⟨rfl, h1, h2⟩
    · refine (rkey_bad Q sb L _ er her W hd hs).mono ?_
      rintro r w' ⟨rfl, h1, h2⟩; exact ⟨_, _, trivial, rfl, h1, h2⟩
    · refine (rvec_bad Q sb L _ er her W hd hs).mono ?_
      rintro r w' ⟨rfl, h1, h2⟩; exact ⟨_, _, trivial, rfl, h1, h2⟩
    · rintro e w' ⟨y1, y2, z1, z2, _, _, rfl, hd, hg⟩
      exact DPostF.badI i er rfl ⟨7, 0, 0, false, none, 0, 0, 0, 0, 0, 0, _, _, _, _, _⟩ rfl hd her hg
/-- A field of any kind, of any bytes. -/
theorem rfield_any (k : Int) (h1 : 1 ≤ k) (h7 : k ≤ 7) (Q sb : Nat) (L : List Int) (p : Nat) (w : World) (h : DR w Q sb L p 0) (hsb : sb < w.heap.size) :
    Calls Tryd.prog 37 #[.pointer (some ⟨Q, 0, none⟩), .int .i64 k] w fun e w' => DPostF w Q sb L p (pfield k (L.drop p)) e w' := by
  obtain rfl | rfl | rfl | rfl | rfl | rfl | rfl : k = 1 ∨ k = 2 ∨ k = 3 ∨ k = 4 ∨ k = 5 ∨ k = 6 ∨ k = 7 := by omega
  · exact rfield1_any Q sb L p w h hsb
  · exact rfield2_any Q sb L p w h hsb
  · exact rfield3_any Q sb L p w h hsb
  · exact rfield4_any Q sb L p w h hsb
  · exact rfield5_any Q sb L p w h hsb
  · exact rfield6_any Q sb L p w h hsb
  · exact rfield7_any Q sb L p w h hsb

end Go.Proofs.YtmhcmlegdoapdaaDoor

/- The document's First, of any bytes. -/
namespace Go.Proofs.YtmhcmlegdoapdaaDoor
open Go.RowKit

theorem FV.fd_blk (v : FV) (l : List Int) (h : v.row = some l) (a : Option Addr) (n c : Nat) : (v.fd a n c).blk = a.map (·.block) := by
  cases v <;> first | rfl | cases h
theorem FV.DAt.blk {w : World} {base : Nat} {v : FV} {f : Fd} (h : v.DAt w base f) : f.blk = none ∨ ∃ g, f.blk = some g ∧ base ≤ g ∧ g < w.heap.size := by
  rcases h with ⟨hr, rfl⟩ | ⟨l, a, c, hr, rfl, ho⟩
  · exact Or.inl (v.fd_none hr)
  · rw [v.fd_blk l hr]
    rcases ho.2 with ⟨h1, _⟩ | ⟨g, cp, cur, h1, _⟩
    · injection h1 with h1 _ _
      rw [h1]; exact Or.inl rfl
    · injection h1 with h1 _ _
      subst h1
      exact Or.inr ⟨g, rfl, ho.lt g rfl⟩
theorem FV.DAt.kept {w w' : World} {base : Nat} {v : FV} {f : Fd} (h : v.DAt w base f) {row : Option Nat} (hg : w.grownBy w' row) (hne : f.blk = none ∨ f.blk ≠ row) : v.DAt w' base f := by
  rcases h with ⟨hr, hf⟩ | ⟨l, a, c, hr, rfl, ho⟩
  · exact Or.inl ⟨hr, hf⟩
  · refine Or.inr ⟨l, a, c, hr, rfl, ho.kept hg ?_⟩
    rw [v.fd_blk l hr] at hne
    rcases ho.2 with ⟨h1, _⟩ | ⟨g, cp, cur, h1, _⟩
    · injection h1 with h1 _ _
      rw [h1]; exact Or.inl rfl
    · injection h1 with h1 _ _
      subst h1
      rcases hne with h | h
      · cases h
      · exact Or.inr h
theorem FV.DAt.mono {w : World} {base base' : Nat} {v : FV} {f : Fd} (h : v.DAt w base f) (hb : base' ≤ base) : v.DAt w base' f := by
  rcases h with ⟨hr, hf⟩ | ⟨l, a, c, hr, hf, ho⟩
  · exact Or.inl ⟨hr, hf⟩
  · exact Or.inr ⟨l, a, c, hr, hf, owns_base hb ho⟩
theorem one_fd (f : Fd) : ∀ u ∈ f.cs.toList, u.oneCell' = true := by
  obtain ⟨f0, f1, f2, f3, f4, f5, f6, f7, f8, f9, f10, f11, f12, f13, f14, f15⟩ := f
  exact one14 f0 f1 f2 f3 f4 f5 f6 f7 f8 f9 f10 f11 f12 f13 f14 f15
theorem cs_size (f : Fd) : f.cs.toList.length = 14 := by cases f; rfl
theorem append_fd {w : World} {ops : Array Oper} {rest : List Oper} {o : Oper} {a : Act} {Q : Exit → Act → World → Prop} (hgd : o.guard = none) (s x : Operand)
    (ho : o.op = .call { callee := .builtin .append, args := #[s, x], argTypes := #[22, 22] })
    (base : Nat) (la : Value) (n : Nat) (fs : List Fd) (hs : a.eval s = la) (hown : w.ownsRow base 34 14 la n (cellsOf fs))
    (B : Nat) (f : Fd) (hx : a.eval x = .slice (some ⟨B, 0, none⟩) 1 1) (hB : IsB w B f.cs 34) (hm : n ≤ 1000) (hbase : base ≤ w.heap.size)
    (h : ∀ g cap w', w'.ownsRow base 34 14 (.slice (some ⟨g, 0, none⟩) (n + 1) cap) (n + 1) (cellsOf fs ++ f.cs.toList) → w.grownBy w' la.ownBlock → (la.ownBlock = some g ∨ g = w.heap.size) → wpList Tryd.prog ops Q rest (a.put o.dst (.slice (some ⟨g, 0, none⟩) (n + 1) cap)) w') : wpList Tryd.prog ops Q (o :: rest) a w := by
  obtain ⟨i0, hi, hz0, hz1, hz2⟩ := info_parts Tryd.infoField
  refine wpList_append_lies _ hgd s x 22 ho base 34 i0 _ 14 128 Tryd.underlying22 hi hz0 hz1 hz2 rfl (by decide) _ _ _ hs hown ⟨B, 0, none⟩ 1 1 f.cs.toList hx (cs_size f) (World.news_of_block (cs := f.cs) (t := 34) (fr := (0, 0)) hB) (one_fd f) (by decide) (by unfold maxLen; omega) (by omega) hbase _ rfl ?_
  intro g cap w' h1 h2 h3 _
  exact h g cap w' h1 h2 h3

theorem own_mono {w : World} {base base' : Nat} (hb : base' ≤ base) {e : TypeId} {size : Nat} {v : Value} {n : Nat} {xs : List Value} (h : w.ownsRow base e size v n xs) : w.ownsRow base' e size v n xs := by
  refine ⟨h.1, ?_⟩
  rcases h.2 with h2 | ⟨g, cap, cur, h1, h2, h3⟩
  · exact Or.inl h2
  · exact Or.inr ⟨g, cap, cur, h1, Nat.le_trans hb h2, h3⟩
/-- How far the document's First has come. -/
structure DN (w W : World) (Q sb : Nat) (L : List Int) (p : Nat) (vs : List FV) (fa : Option Addr) (fc : Nat) (fs : List Fd) (wr : World) : Prop where
  flen : fs.length = vs.length
  rows : ∀ (j : Nat) (v : FV) (f : Fd), vs[j]? = some v → fs[j]? = some f → v.DAt wr W.heap.size f ∧ (f.blk = none ∨ f.blk ≠ (Value.slice fa vs.length fc).ownBlock)
  own : wr.ownsRow W.heap.size 34 14 (.slice fa vs.length fc) vs.length (cellsOf fs)
  dr : DR wr Q sb L p 0
  below : RowKit.Below w.heap.size w wr
  size : W.heap.size ≤ wr.heap.size
theorem DN.step {w W : World} {vs : List FV} {Q sb : Nat} {L : List Int} {p q : Nat} {fa : Option Addr} {fc : Nat} {fs : List Fd} {wr : World} (h : DN w W Q sb L p vs fa fc fs wr)
    (hR : Q < W.heap.size) (hRw : w.heap.size ≤ Q) (hW : w.heap.size ≤ W.heap.size) (hsW : sb < W.heap.size)
    {v : FV} {f : Fd} {w1 : World} (hat : v.DAt w1 wr.heap.size f) (hl2 : DR w1 Q sb L q 0) (hg1 : wr.grownBy w1 (some Q))
    {ob : Obj} {g cp : Nat} {w2 : World} (hown : w2.ownsRow W.heap.size 34 14 (.slice (some ⟨g, 0, none⟩) (vs.length + 1) cp) (vs.length + 1) (cellsOf fs ++ f.cs.toList)) (hg2 : (w1.alloc ob).grownBy w2 (Value.slice fa vs.length fc).ownBlock)
    (hwh : (Value.slice fa vs.length fc).ownBlock = some g ∨ g = w1.heap.size + 1) :
    DN w W Q sb L q (vs ++ [v]) (some ⟨g, 0, none⟩) cp (fs ++ [f]) w2 := by
  have hvl : (vs ++ [v]).length = vs.length + 1 := by rw [List.length_append]; rfl
  have hob : ∀ j, (Value.slice fa vs.length fc).ownBlock = some j → W.heap.size ≤ j ∧ j < wr.heap.size := h.own.lt
  have hneR : ∀ (x : Nat), x < W.heap.size → some x ≠ (Value.slice fa vs.length fc).ownBlock := fun x hx he => by have := hob x he.symm; omega
  have hsz1 := hg1.size
  have hs := h.size
  have hsz2 := hg2.size
  rw [World.size_alloc] at hsz2
  have hgg : W.heap.size ≤ g := (hown.lt g rfl).1
  refine ⟨by rw [List.length_append, List.length_append, h.flen]; rfl, ?_, ?_, ?_, ?_, ?_⟩
  · intro j v' f' hv' hf'
    rw [hvl]
    rcases Nat.lt_or_ge j vs.length with hjk | hjk
    · rw [List.getElem?_append_left (by rw [h.flen]; exact hjk)] at hf'
      rw [List.getElem?_append_left hjk] at hv'
      obtain ⟨ha, hb⟩ := h.rows j v' f' hv' hf'
      have hbl := ha.blk
      refine ⟨((ha.kept hg1 ?_).kept (World.grownBy_alloc w1 ob none) ?_).kept hg2 hb, ?_⟩
      · rcases hbl with hbl | ⟨x, hx, h1, h2⟩
        · exact Or.inl hbl
        · right; rw [hx]; simp only [ne_eq, Option.some.injEq]; omega
      · rcases hbl with hbl | ⟨x, hx, h1, h2⟩
        · exact Or.inl hbl
        · right; rw [hx]; simp
      · rcases hbl with hbl | ⟨x, hx, h1, h2⟩
        · exact Or.inl hbl
        · right
          rcases hwh with hwh | hwh
          · rcases hb with hb | hb
            · rw [hx] at hb; cases hb
            · rw [hwh] at hb; exact hb
          · rw [hx]; simp only [Value.ownBlock, ne_eq, Option.some.injEq]; omega
    · have hjl : j < (fs ++ [f]).length := (List.getElem?_eq_some_iff.1 hf').1
      rw [List.length_append, h.flen] at hjl
      simp only [List.length_singleton] at hjl
      obtain rfl : j = vs.length := by omega
      rw [List.getElem?_append_right (Nat.le_refl _), Nat.sub_self] at hv'
      obtain rfl : v = v' := by simpa using hv'
      have hf2 : f' = f := by
        rw [← h.flen, List.getElem?_append_right (Nat.le_refl _)] at hf'
        simpa using hf'.symm
      subst hf2
      have hbl := hat.blk
      refine ⟨((hat.mono hs).kept (World.grownBy_alloc w1 ob none) ?_).kept hg2 ?_, ?_⟩
      · rcases hbl with hbl | ⟨x, hx, h1, h2⟩
        · exact Or.inl hbl
        · right; rw [hx]; simp
      · rcases hbl with hbl | ⟨x, hx, h1, h2⟩
        · exact Or.inl hbl
        · right; rw [hx]; intro he; have := hob x he.symm; omega
      · rcases hbl with hbl | ⟨x, hx, h1, h2⟩
        · exact Or.inl hbl
        · right
          rw [hx]
          simp only [Value.ownBlock, ne_eq, Option.some.injEq]
          rcases hwh with hwh | hwh
          · have := hob g hwh; omega
          · omega
  · rw [hvl]
    have e : cellsOf (fs ++ [f]) = cellsOf fs ++ f.cs.toList := by unfold cellsOf; rw [List.flatMap_append]; simp
    rw [e]
    exact hown
  · exact (hl2.gr ((Gr.refl w1).alloc ob)).grown hg2 (hneR _ hR) (hneR _ hsW)
  · exact ((grown_below h.below hg1 hRw).alloc (Nat.le_trans hW (by omega)) ob).grown hg2 (Nat.le_trans hW (by rw [World.size_alloc]; omega)) (fun j hj => Nat.le_trans hW (hob j hj).1)
  · omega

/-- These fields were read by the document. -/
def DReadTo (w w' : World) (vs : List FV) (fa : Option Addr) (fc : Nat) : Prop :=
  ∃ fs : List Fd, fs.length = vs.length ∧ w'.ownsRow w.heap.size 34 14 (.slice fa vs.length fc) vs.length (cellsOf fs) ∧ (∀ (j : Nat) (v : FV) (f : Fd), vs[j]? = some v → fs[j]? = some f → v.DAt w' w.heap.size f) ∧ RowKit.Below w.heap.size w w'
theorem ReadTo.d {w w' : World} {vs : List FV} {fa : Option Addr} {fc : Nat} (h : ReadTo w w' vs fa fc) : DReadTo w w' vs fa fc := by
  obtain ⟨fs, h1, h2, h3, h4⟩ := h
  exact ⟨fs, h1, h2, fun j v f a b => (h3 j v f a b).d, h4⟩
def DTold (w : World) (p : PR (List FV)) (e : Ending) (w' : World) : Prop :=
  (match p with
    | .ok vs n => ∃ fa fc, e = .returned (.tuple #[.slice fa vs.length fc, .int .i64 (n : Int), .int .i64 0]) ∧ DReadTo w w' vs fa fc
    | .bad i er => e = .returned (.tuple #[.slice none 0 0, .int .i64 (i : Int), .int .i64 er]) ∧ er ≠ 0) ∧ RowKit.Below w.heap.size w w'
theorem Bys.dr {w W : World} {sb : Nat} {a : Option Addr} {cap : Nat} {l : List Int} (h : Bys w sb a cap l) {R : Nat} (hR : w.heap.size ≤ R) (hg : Gr w W) (hI : IsB W R #[.slice a l.length cap, .int .i64 0, .int .i64 0] 73) : DR W R sb l 0 0 := by
  obtain ⟨h1, h2, h3, h4, h5, h6⟩ := h
  refine ⟨a, cap, hI, by omega, h3, h1, h2, h4, fun x hx => ?_, ?_⟩
  · rcases h6 with ⟨ha, _⟩ | ⟨o, ha, _⟩
    · rw [ha] at hx; cases hx
    · rw [ha] at hx; cases hx; rfl
  · rcases h6 with h6 | ⟨o, ha, hc⟩
    · exact Or.inl h6
    · exact Or.inr ⟨sb, o, ha, by omega, Nat.lt_of_lt_of_le h5 hg.le, fun j hj => hg.cell (by exact h5) (hc j hj)⟩
theorem risKind_any (k : Int) (w : World) : Calls Tryd.prog 32 #[.int .i64 k] w fun e w' => e = .returned (.bool (decide (1 ≤ k ∧ k ≤ 7))) ∧ w' = w := by
  by_cases h1 : 1 ≤ k
  · have e : decide (1 ≤ k ∧ k ≤ 7) = decide (k ≤ 7) := by simp [h1]
    rw [e]; clear e
    go_enter Tryd.func32, Tryd.ntmps32
    go_wp2
    go_ret
    exact ⟨by simp, rfl⟩
  · have e : decide (1 ≤ k ∧ k ≤ 7) = false := by simp [h1]
    rw [e]; clear e
    go_enter Tryd.func32, Tryd.ntmps32
    go_wp2
    go_ret
    exact ⟨by simp, rfl⟩
theorem risKind_yes (k : Int) (h1 : 1 ≤ k) (h7 : k ≤ 7) (w : World) : Calls Tryd.prog 32 #[.int .i64 k] w fun e w' => e = .returned (.bool true) ∧ w' = w := by
  have := risKind_any k w
  rw [show decide (1 ≤ k ∧ k ≤ 7) = true from by simp [h1, h7]] at this
  exact this
theorem risKind_no (k : Int) (h : ¬ (1 ≤ k ∧ k ≤ 7)) (w : World) : Calls Tryd.prog 32 #[.int .i64 k] w fun e w' => e = .returned (.bool false) ∧ w' = w := by
  have := risKind_any k w
  rw [show decide (1 ≤ k ∧ k ≤ 7) = false from by simpa using h] at this
  exact this

set_option maxHeartbeats 8000000 in
set_option maxRecDepth 100000 in
theorem rfirst_any (ks l : List Int) (hks : ∀ k ∈ ks, 1 ≤ k ∧ k ≤ 7) (hn : ks.length ≤ 1000) (sb : Nat) (a : Option Addr) (cap : Nat) (ka : Option Addr) (kc : Nat) (w : World) (hB : Bys w sb a cap l)
    (hK : ∀ (j : Nat) (k : Int), ks[j]? = some k → ∃ kb ko, ka = some ⟨kb, ko, none⟩ ∧ w.cell? ⟨kb, ko + j, none⟩ = some (.int .i64 k)) :
    Calls Tryd.prog 22 #[.slice a l.length cap, .slice ka ks.length kc] w fun e w' => DTold w (pfields ks l) e w' := by
  have mixed : Tryd.prog.follows .mixedOrders = true := by kernel_rfl
  have hsb : sb < w.heap.size := hB.2.2.2.2.1
  have HB := hide hB
  have HK := hide hK
  have HKS := hide hks
  clear hB hK hks
  go_enter Tryd.func22, Tryd.ntmps22
  go_wp2
  go_loop [7] (fun i => ∃ k : Nat, k ≤ ks.length ∧ i = .int .i64 (k : Int)) (fun i => ks.length - (intOf i).toNat)
  case atStart => exact ⟨0, by omega, rfl⟩
  case round =>
    obtain ⟨k, hk, rfl⟩ := hrel
    by_cases hlt : k < ks.length
    · obtain ⟨kb, ko, rfl, hkc⟩ := HK.out k _ (List.getElem?_eq_getElem hlt)
      obtain ⟨hq1, hq2⟩ := HKS.out _ (List.getElem_mem hlt)
      generalize ks[k] = q at hkc hq1 hq2
      go_wp2_with fail
      refine (risKind_yes q hq1 hq2 _).mono ?_; rintro e w1 ⟨rfl, rfl⟩
      go_wp2
      go_round
      case rel => exact ⟨k + 1, by omega, by go_num⟩
      case measure => simp [intOf]; omega
    · obtain rfl : k = ks.length := by omega
      clear hlt hk
      have I3 := IsB.new w #[.slice a l.length cap, .int .i64 0, .int .i64 0] 73
      have HG := hide (show Gr w (w.alloc (.cells #[.slice a l.length cap, .int .i64 0, .int .i64 0] 73)) from (Gr.refl w).alloc _)
      have hl3 := I3.lt
      have HD0 := hide (HB.out.dr (Nat.le_refl _) HG.out I3)
      clear I3 HB
      go_wp2
      generalize w.alloc (.cells #[.slice a l.length cap, .int .i64 0, .int .i64 0] 73) = W at *
      have hWs := HG.out.le
      have HF0 := hide (show DN w W w.heap.size sb l 0 [] none 0 [] W from
        ⟨rfl, (fun j v f _ h => by simp at h), World.ownsRow_nil _ _ _ _, HD0.out, HG.out.below, Nat.le_refl _⟩)
      clear HD0
      go_loopw [9, 10] (fun u i wr => ∃ (k : Nat) (vs : List FV) (n : Nat) (fa : Option Addr) (fc : Nat) (fs : List Fd), k ≤ ks.length ∧ vs.length = k ∧ i = .int .i64 (k : Int) ∧ u = .slice fa vs.length fc ∧ pfields ks l = PR.behind vs n (pfields (ks.drop k) (l.drop n)) ∧ Hid (DN w W w.heap.size sb l n vs fa fc fs wr)) (fun _ i _ => ks.length - (intOf i).toNat)
      case atStart => exact ⟨0, [], 0, none, 0, [], by omega, rfl, rfl, rfl, (behind_nil _).symm, HF0⟩
      case round =>
        clear HF0
        obtain ⟨k, vs, n, fa, fc, fs, hk, hvl, rfl, rfl, hpp, HF⟩ := hrel
        have HPP := hide hpp
        have HVL := hide hvl
        have hvn : vs.length ≤ 1000 := by omega
        clear hpp hvl
        by_cases hlt : k < ks.length
        · have hkk : ks[k]? = some ks[k] := List.getElem?_eq_getElem hlt
          have hd : ks.drop k = ks[k] :: ks.drop (k + 1) := List.drop_eq_getElem_cons hlt
          have hk17 := HKS.out _ (List.getElem_mem hlt)
          obtain ⟨kb, ko, rfl, hkc0⟩ := HK.out k _ hkk
          have hkc : wr.cell? ⟨kb, ko + k, none⟩ = some (.int .i64 ks[k]) := (HF.out.below.cell (lt_of_cell hkc0)).trans hkc0
          generalize ks[k] = q at *
          have hfa := hide (rfield_any q hk17.1 hk17.2 w.heap.size sb l n wr HF.out.dr (show sb < wr.heap.size by have := HF.out.size; omega))
          have hWsz := HF.out.size
          rw [hd] at HPP
          clear hkc0 hkk hd
          rcases hp : pfield q (l.drop n) with ⟨v, m⟩ | ⟨i, er⟩
          · have HBO := hide (behind_ok (ks := ks.drop (k + 1)) (vs := vs) (n := n) hp)
            rw [List.drop_drop] at HBO
            rw [hp] at hfa
            clear hp
            go_wp2_with fail
            refine hfa.out.mono ?_
            rintro e w1 ⟨f, rfl, hg1, hat, hd2⟩
            obtain ⟨f0, f1, f2, f3, f4, f5, f6, f7, f8, f9, f10, f11, f12, f13, f14, f15⟩ := f
            simp only [Fd.cs]
            have hown1 := hide (HF.out.own.kept hg1 (by right; intro he; have := HF.out.own.lt _ he; simp only [Option.some.injEq] at *; omega))
            have hsz1 := hg1.size
            have HG1 := hide hg1
            have HD2 := hide hd2
            have HAT := hide hat
            clear hg1 hd2 hat hfa
            go_wp2_with (
              at_builtin
              refine append_fd rfl (.tmp 32) (.tmp 39) rfl W.heap.size _ vs.length fs rfl (hown1.out.alloc _) w1.heap.size ⟨f0, f1, f2, f3, f4, f5, f6, f7, f8, f9, f10, f11, f12, f13, f14, f15⟩ rfl (IsB.new w1 _ _) hvn (by rw [World.size_alloc]; omega) ?_
              intro g6 c6 w6 hown6 hgrow6 hwh6
              rw [World.size_alloc] at hwh6
              have HN := hide (HF.out.step (by omega) (Nat.le_refl _) hWs (by omega) HAT.out HD2.out HG1.out hown6 hgrow6 hwh6)
              have e2 : w6.cell? ⟨w.heap.size, 2, none⟩ = some (.int .i64 0) := by obtain ⟨_, _, h, _⟩ := HN.out.dr; exact h.cell 2
              clear hown6 hgrow6 hwh6 HAT HD2 HG1 hown1)
            go_roundw
            case rel => exact ⟨k + 1, vs ++ [v], n + m, _, _, _, by omega, by rw [List.length_append, HVL.out]; rfl, by go_num, by rw [List.length_append]; rfl, by rw [HPP.out, HBO.out], HN⟩
            case measure => simp [intOf]; omega
          · have HBB := hide (behind_bad (ks := ks.drop (k + 1)) (vs := vs) (n := n) hp)
            rw [hp] at hfa
            clear hp
            go_wp2_with fail
            refine hfa.out.mono ?_
            rintro e w1 ⟨f, rfl, hg1, hd2, hne⟩
            obtain ⟨f0, f1, f2, f3, f4, f5, f6, f7, f8, f9, f10, f11, f12, f13, f14, f15⟩ := f
            simp only [Fd.cs]
            have hown1 := hide (HF.out.own.kept hg1 (by right; intro he; have := HF.out.own.lt _ he; simp only [Option.some.injEq] at *; omega))
            have hsz1 := hg1.size
            have HG1 := hide hg1
            have HD2 := hide hd2
            clear hg1 hd2 hfa
            go_wp2_with (
              at_builtin
              refine append_fd rfl (.tmp 32) (.tmp 39) rfl W.heap.size _ vs.length fs rfl (hown1.out.alloc _) w1.heap.size ⟨f0, f1, f2, f3, f4, f5, f6, f7, f8, f9, f10, f11, f12, f13, f14, f15⟩ rfl (IsB.new w1 _ _) hvn (by rw [World.size_alloc]; omega) ?_
              intro g6 c6 w6 hown6 hgrow6 hwh6
              have HD6 := (HD2.out.gr ((Gr.refl w1).alloc _)).grown hgrow6 (by intro he; have := HF.out.own.lt _ he.symm; omega) (by intro he; have := HF.out.own.lt _ he.symm; omega)
              have HB6 := hide (((grown_below HF.out.below HG1.out (Nat.le_refl _)).alloc (Nat.le_trans hWs (by omega)) _).grown hgrow6 (Nat.le_trans hWs (by rw [World.size_alloc]; omega)) (fun j hj => Nat.le_trans hWs (HF.out.own.lt j hj).1))
              have e1 : w6.cell? ⟨w.heap.size, 1, none⟩ = some (.int .i64 ((n + i : Nat) : Int)) := by obtain ⟨_, _, h, _⟩ := HD6; exact h.cell 1
              have e2 : w6.cell? ⟨w.heap.size, 2, none⟩ = some (.int .i64 er) := by obtain ⟨_, _, h, _⟩ := HD6; exact h.cell 2
              have hne' : (er != 0) = true := by simp [hne]
              replace hne := hide hne
              clear hown6 hgrow6 hwh6 HD2 HG1 hown1 HD6)
            go_region
            go_wp2
            go_ret3
            rw [HPP.out, HBB.out]
            exact ⟨⟨rfl, hne.out⟩, HB6.out.drew⟩
        · obtain rfl : k = ks.length := by omega
          have hd : pfields ks l = .ok vs n := by rw [HPP.out, List.drop_length]; simp [pfields, PR.behind]
          have e1 : wr.cell? ⟨w.heap.size, 1, none⟩ = some (.int .i64 (n : Int)) := by obtain ⟨_, _, h, _⟩ := HF.out.dr; exact h.cell 1
          replace hd := hide hd
          go_wp2
          go_region
          go_wp2
          go_ret3
          rw [hd.out]
          refine ⟨⟨fa, fc, rfl, fs, HF.out.flen, own_mono hWs HF.out.own, fun j v f h1 h2 => ((HF.out.rows j v f h1 h2).1.mono hWs), HF.out.below.drew⟩, HF.out.below.drew⟩

end Go.Proofs.YtmhcmlegdoapdaaDoor

/- Unpack, by the program and by the document, of any bytes; kinds that are none. -/
namespace Go.Proofs.YtmhcmlegdoapdaaDoor
open Go.RowKit

theorem prow_err (l : List Int) (i : Nat) (e : Int) (h : prow l = .bad i e) : e ≠ 0 := by
  unfold prow at h
  rcases hp : pnum 65536 0 0 l with ⟨x, n⟩ | ⟨j, er⟩
  · rw [hp] at h
    simp only [] at h
    split at h
    · cases h
    · cases h; decide
  · rw [hp] at h; cases h; exact pnum_err _ _ _ _ _ _ hp
theorem ptruth_err (l : List Int) (i : Nat) (e : Int) (h : ptruth l = .bad i e) : e ≠ 0 := by
  rcases l with _ | ⟨c, l⟩
  · cases h; decide
  · by_cases hr : c ≤ 1
    · have : ptruth (c :: l) = .ok (decide (c = 1)) 1 := if_pos hr
      rw [this] at h; cases h
    · have : ptruth (c :: l) = .bad 0 31 := if_neg hr
      rw [this] at h; cases h; decide
theorem pref_err (l : List Int) (i : Nat) (e : Int) (h : pref l = .bad i e) : e ≠ 0 := by
  unfold pref at h
  rcases h1 : pwhole l with ⟨x, n⟩ | ⟨j, er⟩
  · rw [h1] at h
    simp only [] at h
    rcases h2 : pkey (l.drop n) with ⟨y, n2⟩ | ⟨j, er⟩
    · rw [h2] at h
      simp only [] at h
      rcases h3 : pvec ((l.drop n).drop n2) with ⟨z, n3⟩ | ⟨j, er⟩
      · rw [h3] at h; cases h
      · rw [h3] at h; cases h; exact pvec_err _ _ _ h3
    · rw [h2] at h; cases h; exact pkey_err _ _ _ h2
  · rw [h1] at h; cases h; exact pwhole_err _ _ _ h1
theorem map_bad {α β : Type} (f : α → β) (p : PR α) (i : Nat) (e : Int) (h : p.map f = .bad i e) : p = .bad i e := by
  cases p with
  | ok x n => cases h
  | bad j er => cases h; rfl
theorem pfield_err (k : Int) (l : List Int) (i : Nat) (e : Int) (h : pfield k l = .bad i e) : e ≠ 0 := by
  unfold pfield at h
  split at h
  · exact pnum_err _ _ _ _ _ _ (map_bad _ _ _ _ h)
  split at h
  · exact pwhole_err _ _ _ (map_bad _ _ _ _ h)
  split at h
  · exact ptruth_err _ _ _ (map_bad _ _ _ _ h)
  split at h
  · exact prow_err _ _ _ (map_bad _ _ _ _ h)
  split at h
  · exact pvec_err _ _ _ (map_bad _ _ _ _ h)
  split at h
  · exact pkey_err _ _ _ (map_bad _ _ _ _ h)
  · exact pref_err _ _ _ (map_bad _ _ _ _ h)
theorem pfields_err (ks : List Int) : ∀ (l : List Int) (i : Nat) (e : Int), pfields ks l = .bad i e → e ≠ 0 := by
  induction ks with
  | nil => intro l i e h; cases h
  | cons k ks ih =>
    intro l i e h
    unfold pfields at h
    rcases h1 : pfield k l with ⟨v, n⟩ | ⟨j, er⟩
    · rw [h1] at h
      simp only [] at h
      rcases h2 : pfields ks (l.drop n) with ⟨us, m⟩ | ⟨j, er⟩
      · rw [h2] at h; cases h
      · rw [h2] at h; cases h; exact ih _ _ _ h2
    · rw [h1] at h; cases h; exact pfield_err _ _ _ _ h1

/-- What Unpack tells. -/
def Unp (w : World) (p : PR (List FV)) (len : Nat) (e : Ending) (w' : World) : Prop :=
  (match p with
    | .ok vs n => (n < len ∧ e = .returned (.tuple #[.slice none 0 0, .int .i64 (n : Int), .int .i64 33])) ∨ (len ≤ n ∧ ∃ fa fc, e = .returned (.tuple #[.slice fa vs.length fc, .int .i64 0, .int .i64 0]) ∧ DReadTo w w' vs fa fc)
    | .bad i er => e = .returned (.tuple #[.slice none 0 0, .int .i64 (i : Int), .int .i64 er])) ∧ RowKit.Below w.heap.size w w'

set_option maxHeartbeats 4000000 in
set_option maxRecDepth 100000 in
theorem unpack_any (ks l : List Int) (hks : ∀ k ∈ ks, 1 ≤ k ∧ k ≤ 7) (hn : ks.length ≤ 1000) (sb : Nat) (a : Option Addr) (cap : Nat) (ka : Option Addr) (kc : Nat) (w : World) (hR : Ranks w) (hB : Bys w sb a cap l)
    (hK : ∀ (j : Nat) (k : Int), ks[j]? = some k → ∃ kb ko, ka = some ⟨kb, ko, none⟩ ∧ w.cell? ⟨kb, ko + j, none⟩ = some (.int .i64 k)) :
    Calls Tryd.prog 19 #[.slice a l.length cap, .slice ka ks.length kc] w fun e w' => Unp w (pfields ks l) l.length e w' := by
  have hr := hide (first_any ks l hks hn sb a cap ka kc w hR hB hK)
  have hbl := hB.2.2.1
  clear hB hK hks hR
  go_enter Tryd.func19, Tryd.ntmps19
  go_wp2_with fail
  refine hr.out.mono ?_
  intro e w1 hE
  rcases hp : pfields ks l with ⟨vs, n⟩ | ⟨i, er⟩
  · rw [hp] at hE
    obtain ⟨⟨fa, fc, rfl, h1⟩, h2⟩ := hE
    have H1 := hide h1.d
    have H2 := hide h2
    have HP := hide hp
    clear h1 h2 hr hp
    by_cases hlt : n < l.length
    · have hlt' : (n : Int) < (l.length : Int) := by omega
      have HL := hide hlt
      clear hlt
      go_wp2
      go_ret3
      rw [HP.out]
      exact ⟨Or.inl ⟨HL.out, rfl⟩, H2.out⟩
    · have hlt' : ¬ (n : Int) < (l.length : Int) := by omega
      have HL := hide hlt
      clear hlt
      go_wp2
      go_ret3
      rw [HP.out]
      exact ⟨Or.inr ⟨by have := HL.out; omega, fa, fc, rfl, H1.out⟩, H2.out⟩
  · rw [hp] at hE
    obtain ⟨rfl, h2⟩ := hE
    have H2 := hide h2
    have hne : (er != 0) = true := by simp [pfields_err ks l i er hp]
    have HP := hide hp
    clear h2 hr hp
    go_wp2
    go_ret3
    rw [HP.out]
    exact ⟨rfl, H2.out⟩

set_option maxHeartbeats 4000000 in
set_option maxRecDepth 100000 in
theorem runpack_any (ks l : List Int) (hks : ∀ k ∈ ks, 1 ≤ k ∧ k ≤ 7) (hn : ks.length ≤ 1000) (sb : Nat) (a : Option Addr) (cap : Nat) (ka : Option Addr) (kc : Nat) (w : World) (hB : Bys w sb a cap l)
    (hK : ∀ (j : Nat) (k : Int), ks[j]? = some k → ∃ kb ko, ka = some ⟨kb, ko, none⟩ ∧ w.cell? ⟨kb, ko + j, none⟩ = some (.int .i64 k)) :
    Calls Tryd.prog 23 #[.slice a l.length cap, .slice ka ks.length kc] w fun e w' => Unp w (pfields ks l) l.length e w' := by
  have hr := hide (rfirst_any ks l hks hn sb a cap ka kc w hB hK)
  have hbl := hB.2.2.1
  clear hB hK hks
  go_enter Tryd.func23, Tryd.ntmps23
  go_wp2_with fail
  refine hr.out.mono ?_
  intro e w1 hE
  rcases hp : pfields ks l with ⟨vs, n⟩ | ⟨i, er⟩
  · rw [hp] at hE
    obtain ⟨⟨fa, fc, rfl, h1⟩, h2⟩ := hE
    have H1 := hide h1
    have H2 := hide h2
    have HP := hide hp
    clear h1 h2 hr hp
    by_cases hlt : n < l.length
    · have hlt' : (n : Int) < (l.length : Int) := by omega
      have HL := hide hlt
      clear hlt
      go_wp2
      go_ret3
      rw [HP.out]
      exact ⟨Or.inl ⟨HL.out, rfl⟩, H2.out⟩
    · have hlt' : ¬ (n : Int) < (l.length : Int) := by omega
      have HL := hide hlt
      clear hlt
      go_wp2
      go_ret3
      rw [HP.out]
      exact ⟨Or.inr ⟨by have := HL.out; omega, fa, fc, rfl, H1.out⟩, H2.out⟩
  · rw [hp] at hE
    obtain ⟨⟨rfl, h3⟩, h2⟩ := hE
    have H2 := hide h2
    have hne : (er != 0) = true := by simp [h3]
    have HP := hide hp
    clear h2 hr hp h3
    go_wp2
    go_ret3
    rw [HP.out]
    exact ⟨rfl, H2.out⟩

set_option maxHeartbeats 4000000 in
set_option maxRecDepth 100000 in
theorem rfirst_none (ks : List Int) (k0 : Nat) (hk0 : k0 < ks.length) (hks : ∀ j (hj : j < k0), 1 ≤ ks[j] ∧ ks[j] ≤ 7) (hbad : ¬ (1 ≤ ks[k0] ∧ ks[k0] ≤ 7)) (hn : ks.length ≤ 1000) (v : Value) (kb ko kc : Nat) (w : World)
    (hK : ∀ (j : Nat) (k : Int), ks[j]? = some k → w.cell? ⟨kb, ko + j, none⟩ = some (.int .i64 k)) :
    Calls Tryd.prog 22 #[v, .slice (some ⟨kb, ko, none⟩) ks.length kc] w fun e w' => e = .returned (.tuple #[.slice none 0 0, .int .i64 0, .int .i64 30]) ∧ w' = w := by
  have HK := hide hK
  have HKS := hide hks
  have HBAD := hide hbad
  clear hK hks hbad
  go_enter Tryd.func22, Tryd.ntmps22
  go_wp2
  go_loop [7] (fun i => ∃ k : Nat, k ≤ k0 ∧ i = .int .i64 (k : Int)) (fun i => ks.length - (intOf i).toNat)
  case atStart => exact ⟨0, by omega, rfl⟩
  case round =>
    obtain ⟨k, hk, rfl⟩ := hrel
    by_cases hlt : k < k0
    · have hkc := HK.out k _ (List.getElem?_eq_getElem (by omega))
      obtain ⟨hq1, hq2⟩ := HKS.out k hlt
      generalize ks[k] = q at hkc hq1 hq2
      go_wp2_with fail
      refine (risKind_yes q hq1 hq2 _).mono ?_; rintro e w1 ⟨rfl, rfl⟩
      go_wp2
      go_round
      case rel => exact ⟨k + 1, by omega, by go_num⟩
      case measure => simp [intOf]; omega
    · obtain rfl : k0 = k := by omega
      have hkc := HK.out k0 _ (List.getElem?_eq_getElem hk0)
      have hb := HBAD.out
      generalize ks[k0] = q at hkc hb
      go_wp2_with fail
      refine (risKind_no q hb _).mono ?_; rintro e w1 ⟨rfl, rfl⟩
      go_wp2
      go_ret3
      exact ⟨rfl, rfl⟩

set_option maxHeartbeats 4000000 in
set_option maxRecDepth 100000 in
theorem unpack_none (a : Option Addr) (len cap : Nat) (v : Value) (w : World)
    (h : Calls Tryd.prog 20 #[.slice a len cap, v] w fun e w' => e = .returned (.tuple #[.slice none 0 0, .int .i64 0, .int .i64 30]) ∧ w' = w) :
    Calls Tryd.prog 19 #[.slice a len cap, v] w fun e w' => e = .returned (.tuple #[.slice none 0 0, .int .i64 0, .int .i64 30]) ∧ w' = w := by
  have hr := hide h
  clear h
  go_enter Tryd.func19, Tryd.ntmps19
  go_wp2_with fail
  refine hr.out.mono ?_
  rintro e w1 ⟨rfl, rfl⟩
  clear hr
  go_wp2
  go_ret3
  exact ⟨rfl, rfl⟩

set_option maxHeartbeats 4000000 in
set_option maxRecDepth 100000 in
theorem runpack_none (a : Option Addr) (len cap : Nat) (v : Value) (w : World)
    (h : Calls Tryd.prog 22 #[.slice a len cap, v] w fun e w' => e = .returned (.tuple #[.slice none 0 0, .int .i64 0, .int .i64 30]) ∧ w' = w) :
    Calls Tryd.prog 23 #[.slice a len cap, v] w fun e w' => e = .returned (.tuple #[.slice none 0 0, .int .i64 0, .int .i64 30]) ∧ w' = w := by
  have hr := hide h
  clear h
  go_enter Tryd.func23, Tryd.ntmps23
  go_wp2_with fail
  refine hr.out.mono ?_
  rintro e w1 ⟨rfl, rfl⟩
  clear hr
  go_wp2
  go_ret3
  exact ⟨rfl, rfl⟩

end Go.Proofs.YtmhcmlegdoapdaaDoor
