/- Package pack: a field of any kind, read of any bytes. -/
import Derived.Test.YtmhcmlegdoapdaaDoorRJ
import Derived.Test.YtmhcmlegdoapdaaDoorQX
namespace Go.Proofs.YtmhcmlegdoapdaaDoor
open Go.RowKit

def PR.map {α β : Type} (f : α → β) : PR α → PR β
  | .ok x n => .ok (f x) n
  | .bad i e => .bad i e
/-- A field of a kind. -/
def pfield (k : Int) (l : List Int) : PR FV :=
  if k = 1 then (pnum M64 0 0 l).map FV.num else if k = 2 then (pwhole l).map FV.int else if k = 3 then (ptruth l).map FV.truth else if k = 4 then (prow l).map FV.bytes
  else if k = 5 then (pvec l).map (fun x => FV.vec x.1.toNat x.2.toNat) else if k = 6 then (pkey l).map (fun x => FV.key x.1 x.2)
  else (pref l).map (fun x => FV.ref x.1 x.2.1.1 x.2.1.2 x.2.2.1.toNat x.2.2.2.toNat)
/-- What a call leaves that reads a field. -/
def PostF (w : World) (R sb : Nat) (l : List Int) (at' : Int) (fl : Value) (p : PR FV) (e : Ending) (w' : World) : Prop :=
  (match p with
    | .ok v n => (∃ f0 f1 f2 f3 f4 f5 f6 f7 f8 f9 f10 f11 f12 f13 f14 f15, e = .returned (.agg #[.int .i64 f0, .int .u64 f1, .int .i64 f2, .bool f3, .slice f4 f5 f6, .int .i64 f7, .int .u64 f8, .int .i64 f9, .int .u64 f10, .int .i64 f11, .int .i64 f12, .int .u64 f13, .int .i64 f14, .int .u64 f15]) ∧ v.At w' w.heap.size ⟨f0, f1, f2, f3, f4, f5, f6, f7, f8, f9, f10, f11, f12, f13, f14, f15⟩) ∧ n ≤ l.length ∧ Lft w' R sb (l.drop n) (at' + (n : Int)) fl
    | .bad i er => e = .panicked (flt (at' + (i : Int)) er)) ∧ w.grownBy w' (some R)
theorem PostF.badI {w : World} {R sb : Nat} {l : List Int} {at' : Int} {fl : Value} {p : PR FV} {e : Ending} {w' : World} (i : Nat) (er : Int) (hp : p = .bad i er) (he : e = .panicked (flt (at' + (i : Int)) er)) (hg : w.grownBy w' (some R)) : PostF w R sb l at' fl p e w' := by
  subst hp; exact ⟨he, hg⟩
theorem PostF.okI {w : World} {R sb : Nat} {l : List Int} {at' : Int} {fl : Value} {p : PR FV} {e : Ending} {w' : World} (v : FV) (n : Nat) (hp : p = .ok v n) (f : Fd) (he : e = .returned (.agg f.cs)) (hat : v.At w' w.heap.size f) (hn : n ≤ l.length) (hl : Lft w' R sb (l.drop n) (at' + (n : Int)) fl) (hg : w.grownBy w' (some R)) : PostF w R sb l at' fl p e w' := by
  subst hp
  obtain ⟨f0, f1, f2, f3, f4, f5, f6, f7, f8, f9, f10, f11, f12, f13, f14, f15⟩ := f
  exact ⟨⟨⟨f0, f1, f2, f3, f4, f5, f6, f7, f8, f9, f10, f11, f12, f13, f14, f15, he, hat⟩, hn, hl⟩, hg⟩
theorem hval_nn (l : List Int) (h : ∀ c ∈ l, 0 ≤ c ∧ c < 256) (m : Nat) (x : Int) (n : Nat) (hp : phigh m l = .ok x n) : 0 ≤ x := by
  unfold phigh at hp
  by_cases hm : m ≤ l.length
  · rw [if_pos hm] at hp
    cases hp
    exact (hval_bd _ (fun c hc => h c (List.mem_of_mem_take hc))).1
  · rw [if_neg hm] at hp; cases hp
theorem pvec_nn (l : List Int) (h : ∀ c ∈ l, 0 ≤ c ∧ c < 256) (c x : Int) (n : Nat) (hp : pvec l = .ok (c, x) n) : 0 ≤ c ∧ 0 ≤ x := by
  rcases l with _ | ⟨d, r⟩
  · cases hp
  · have hd := (h d List.mem_cons_self).1
    by_cases h32 : d ≤ 32
    · have hp2 : (match phigh ((d.toNat + 7) / 8) r with
        | .ok x n => if x % 2 ^ spare d.toNat = 0 then PR.ok (d, x / 2 ^ spare d.toNat) (n + 1) else .bad n 31
        | .bad i e => .bad (i + 1) e) = .ok (c, x) n := by
          rw [← hp]; exact (if_pos h32).symm
      rcases hq : phigh ((d.toNat + 7) / 8) r with ⟨y, n'⟩ | ⟨i, e⟩
      · rw [hq] at hp2
        simp only [] at hp2
        by_cases hz : y % 2 ^ spare d.toNat = 0
        · rw [if_pos hz] at hp2
          cases hp2
          exact ⟨hd, Int.ediv_nonneg (hval_nn r (fun z hz => h z (List.mem_cons_of_mem _ hz)) _ y n' hq) (Int.le_of_lt (Int.pow_pos (by omega)))⟩
        · rw [if_neg hz] at hp2; cases hp2
      · rw [hq] at hp2; cases hp2
    · have : pvec (d :: r) = .bad 0 31 := if_neg h32
      rw [this] at hp; cases hp
theorem pref_nn (l : List Int) (h : ∀ c ∈ l, 0 ≤ c ∧ c < 256) (i k1 k2 c x : Int) (n : Nat) (hp : pref l = .ok (i, (k1, k2), (c, x)) n) : 0 ≤ c ∧ 0 ≤ x := by
  unfold pref at hp
  rcases h1 : pwhole l with ⟨id, n1⟩ | ⟨j, er⟩
  · rw [h1] at hp
    simp only [] at hp
    rcases h2 : pkey (l.drop n1) with ⟨k, n2⟩ | ⟨j, er⟩
    · rw [h2] at hp
      simp only [] at hp
      rcases h3 : pvec ((l.drop n1).drop n2) with ⟨⟨v1, v2⟩, n3⟩ | ⟨j, er⟩
      · rw [h3] at hp
        cases hp
        exact pvec_nn _ (fun z hz => h z (List.mem_of_mem_drop (List.mem_of_mem_drop hz))) _ _ _ h3
      · rw [h3] at hp; cases hp
    · rw [h2] at hp; cases hp
  · rw [h1] at hp; cases hp

set_option maxHeartbeats 4000000 in
set_option maxRecDepth 100000 in
theorem field1_any {sb : Nat} (R : Nat) (l : List Int) (at' : Int) (fl : Value) (w : World) (h : Lft w R sb l at' fl) (hsb : sb < w.heap.size) :
    Calls Tryd.prog 56 #[.pointer (some ⟨R, 0, none⟩), .int .i64 1] w fun e w' => PostF w R sb l at' fl (pfield 1 l) e w' := by
  have hRl := h.lt
  have I0 := (IsB.new w #[.int .i64 0, .int .u64 0, .int .i64 0, .bool false, .slice none 0 0, .int .i64 0, .int .u64 0, .int .i64 0, .int .u64 0, .int .i64 0, .int .i64 0, .int .u64 0, .int .i64 0, .int .u64 0] 34).alloc (.cells #[.int .i64 1, .int .u64 0, .int .i64 0, .bool false, .slice none 0 0, .int .i64 0, .int .u64 0, .int .i64 0, .int .u64 0, .int .i64 0, .int .i64 0, .int .u64 0, .int .i64 0, .int .u64 0] 34)
  have I1 := IsB.new (w.alloc (.cells #[.int .i64 0, .int .u64 0, .int .i64 0, .bool false, .slice none 0 0, .int .i64 0, .int .u64 0, .int .i64 0, .int .u64 0, .int .i64 0, .int .i64 0, .int .u64 0, .int .i64 0, .int .u64 0] 34)) #[.int .i64 1, .int .u64 0, .int .i64 0, .bool false, .slice none 0 0, .int .i64 0, .int .u64 0, .int .i64 0, .int .u64 0, .int .i64 0, .int .i64 0, .int .u64 0, .int .i64 0, .int .u64 0] 34
  rw [World.size_alloc] at I1
  have HG := hide (show Gr w ((w.alloc (.cells #[.int .i64 0, .int .u64 0, .int .i64 0, .bool false, .slice none 0 0, .int .i64 0, .int .u64 0, .int .i64 0, .int .u64 0, .int .i64 0, .int .i64 0, .int .u64 0, .int .i64 0, .int .u64 0] 34)).alloc (.cells #[.int .i64 1, .int .u64 0, .int .i64 0, .bool false, .slice none 0 0, .int .i64 0, .int .u64 0, .int .i64 0, .int .u64 0, .int .i64 0, .int .i64 0, .int .u64 0, .int .i64 0, .int .u64 0] 34)) from ((Gr.refl w).alloc _).alloc _)
  have hrow := number_any M64 (by decide) R l at' fl _ (h.gr HG.out)
  rw [M64_eq] at hrow
  replace hrow := hide hrow
  have HPF : pfield 1 l = (pnum M64 0 0 l).map FV.num := rfl
  have hbd := h.bd
  have hl01 := I1.lt
  replace I0 := hide I0
  replace I1 := hide I1
  clear h
  rcases hp : pnum M64 0 0 l with ⟨x, n⟩ | ⟨i, er⟩
  · rw [hp] at HPF
    replace HPF := hide HPF
    replace hp := hide hp
    clear hbd
    go_enter Tryd.func56, Tryd.ntmps56
    go_wp2_with fail
    generalize (w.alloc (.cells #[.int .i64 0, .int .u64 0, .int .i64 0, .bool false, .slice none 0 0, .int .i64 0, .int .u64 0, .int .i64 0, .int .u64 0, .int .i64 0, .int .i64 0, .int .u64 0, .int .i64 0, .int .u64 0] 34)).alloc (.cells #[.int .i64 1, .int .u64 0, .int .i64 0, .bool false, .slice none 0 0, .int .i64 0, .int .u64 0, .int .i64 0, .int .u64 0, .int .i64 0, .int .i64 0, .int .u64 0, .int .i64 0, .int .u64 0] 34) = W0 at I0 I1 HG hrow hl01 ⊢
    refine hrow.out.mono ?_
    intro e w1 hE
    unfold Post at hE
    rw [hp.out] at hE
    obtain ⟨⟨rfl, hn, hl⟩, hgr⟩ := hE
    replace I0 := hide (I0.out.grown hgr (by intro h; simp only [Option.some.injEq] at h; omega))
    replace I1 := hide (I1.out.grown hgr (by intro h; simp only [Option.some.injEq] at h; omega))
    have HL := hide hl
    have HGR := hide (grown_trans (grown_of_gr HG.out _) hgr)
    have hlW := I0.out.lt
    have hlW0 : w.heap.size + 1 < W0.heap.size := hl01
    clear hrow hl hgr 
    have a0 : w1.cell? ⟨w.heap.size, 0, none⟩ = some (.int .i64 0) := I0.out.cell 0
    have a1 : w1.cell? ⟨w.heap.size, 1, none⟩ = some (.int .u64 0) := I0.out.cell 1
    have a2 : w1.cell? ⟨w.heap.size, 2, none⟩ = some (.int .i64 0) := I0.out.cell 2
    have a3 : w1.cell? ⟨w.heap.size, 3, none⟩ = some (.bool false) := I0.out.cell 3
    have a4 : w1.cell? ⟨w.heap.size, 4, none⟩ = some (.slice none 0 0) := I0.out.cell 4
    have a5 : w1.cell? ⟨w.heap.size, 5, none⟩ = some (.int .i64 0) := I0.out.cell 5
    have a6 : w1.cell? ⟨w.heap.size, 6, none⟩ = some (.int .u64 0) := I0.out.cell 6
    have a7 : w1.cell? ⟨w.heap.size, 7, none⟩ = some (.int .i64 0) := I0.out.cell 7
    have a8 : w1.cell? ⟨w.heap.size, 8, none⟩ = some (.int .u64 0) := I0.out.cell 8
    have a9 : w1.cell? ⟨w.heap.size, 9, none⟩ = some (.int .i64 0) := I0.out.cell 9
    have a10 : w1.cell? ⟨w.heap.size, 10, none⟩ = some (.int .i64 0) := I0.out.cell 10
    have a11 : w1.cell? ⟨w.heap.size, 11, none⟩ = some (.int .u64 0) := I0.out.cell 11
    have a12 : w1.cell? ⟨w.heap.size, 12, none⟩ = some (.int .i64 0) := I0.out.cell 12
    have a13 : w1.cell? ⟨w.heap.size, 13, none⟩ = some (.int .u64 0) := I0.out.cell 13
    have b0 : w1.cell? ⟨w.heap.size + 1, 0, none⟩ = some (.int .i64 1) := I1.out.cell 0
    have b1 : w1.cell? ⟨w.heap.size + 1, 1, none⟩ = some (.int .u64 0) := I1.out.cell 1
    have b2 : w1.cell? ⟨w.heap.size + 1, 2, none⟩ = some (.int .i64 0) := I1.out.cell 2
    have b3 : w1.cell? ⟨w.heap.size + 1, 3, none⟩ = some (.bool false) := I1.out.cell 3
    have b4 : w1.cell? ⟨w.heap.size + 1, 4, none⟩ = some (.slice none 0 0) := I1.out.cell 4
    have b5 : w1.cell? ⟨w.heap.size + 1, 5, none⟩ = some (.int .i64 0) := I1.out.cell 5
    have b6 : w1.cell? ⟨w.heap.size + 1, 6, none⟩ = some (.int .u64 0) := I1.out.cell 6
    have b7 : w1.cell? ⟨w.heap.size + 1, 7, none⟩ = some (.int .i64 0) := I1.out.cell 7
    have b8 : w1.cell? ⟨w.heap.size + 1, 8, none⟩ = some (.int .u64 0) := I1.out.cell 8
    have b9 : w1.cell? ⟨w.heap.size + 1, 9, none⟩ = some (.int .i64 0) := I1.out.cell 9
    have b10 : w1.cell? ⟨w.heap.size + 1, 10, none⟩ = some (.int .i64 0) := I1.out.cell 10
    have b11 : w1.cell? ⟨w.heap.size + 1, 11, none⟩ = some (.int .u64 0) := I1.out.cell 11
    have b12 : w1.cell? ⟨w.heap.size + 1, 12, none⟩ = some (.int .i64 0) := I1.out.cell 12
    have b13 : w1.cell? ⟨w.heap.size + 1, 13, none⟩ = some (.int .u64 0) := I1.out.cell 13
    have f0 := I0.out.free 0
    have f1 := I0.out.free 1
    have f2 := I0.out.free 2
    have f3 := I0.out.free 3
    have f4 := I0.out.free 4
    have f5 := I0.out.free 5
    have f6 := I0.out.free 6
    have f7 := I0.out.free 7
    have f8 := I0.out.free 8
    have f9 := I0.out.free 9
    have f10 := I0.out.free 10
    have f11 := I0.out.free 11
    have f12 := I0.out.free 12
    have f13 := I0.out.free 13
    have q1 := I1.out.free 1
    go_wp2
    have hW : (((((((((((((((w1.setCell ⟨w.heap.size + 1, 1, none⟩ (.int .u64 (x : Int))).setCell ⟨w.heap.size, 0, none⟩ (.int .i64 1)).setCell ⟨w.heap.size, 1, none⟩ (.int .u64 (x : Int))).setCell ⟨w.heap.size, 2, none⟩ (.int .i64 0)).setCell ⟨w.heap.size, 3, none⟩ (.bool false)).setCell ⟨w.heap.size, 4, none⟩ (.slice none 0 0)).setCell ⟨w.heap.size, 5, none⟩ (.int .i64 0)).setCell ⟨w.heap.size, 6, none⟩ (.int .u64 0)).setCell ⟨w.heap.size, 7, none⟩ (.int .i64 0)).setCell ⟨w.heap.size, 8, none⟩ (.int .u64 0)).setCell ⟨w.heap.size, 9, none⟩ (.int .i64 0)).setCell ⟨w.heap.size, 10, none⟩ (.int .i64 0)).setCell ⟨w.heap.size, 11, none⟩ (.int .u64 0)).setCell ⟨w.heap.size, 12, none⟩ (.int .i64 0)).setCell ⟨w.heap.size, 13, none⟩ (.int .u64 0)) = putCells (w1.setCell ⟨w.heap.size + 1, 1, none⟩ (.int .u64 (x : Int))) w.heap.size 0 [.int .i64 1, .int .u64 (x : Int), .int .i64 0, .bool false, .slice none 0 0, .int .i64 0, .int .u64 0, .int .i64 0, .int .u64 0, .int .i64 0, .int .i64 0, .int .u64 0, .int .i64 0, .int .u64 0] := rfl
    rw [hW]
    clear hW
    have hfin := putCells_is (cs := [.int .i64 0, .int .u64 0, .int .i64 0, .bool false, .slice none 0 0, .int .i64 0, .int .u64 0, .int .i64 0, .int .u64 0, .int .i64 0, .int .i64 0, .int .u64 0, .int .i64 0, .int .u64 0]) ((IsB.setOther (I0.out) (a := ⟨w.heap.size + 1, 1, none⟩) (by simp) (.int .u64 (x : Int)))) [.int .i64 1, .int .u64 (x : Int), .int .i64 0, .bool false, .slice none 0 0, .int .i64 0, .int .u64 0, .int .i64 0, .int .u64 0, .int .i64 0, .int .i64 0, .int .u64 0, .int .i64 0, .int .u64 0] rfl
    have hl := putCells_left (b := w.heap.size) (show R ≠ w.heap.size by omega) (by omega) [.int .i64 1, .int .u64 (x : Int), .int .i64 0, .bool false, .slice none 0 0, .int .i64 0, .int .u64 0, .int .i64 0, .int .u64 0, .int .i64 0, .int .i64 0, .int .u64 0, .int .i64 0, .int .u64 0] _ 0 (Lft.set (HL.out) (a := ⟨w.heap.size + 1, 1, none⟩) (by simp only []; omega) (by simp only []; omega) (.int .u64 (x : Int)))
    have hgr := putCells_grown (b := w.heap.size) (Nat.le_refl _) [.int .i64 1, .int .u64 (x : Int), .int .i64 0, .bool false, .slice none 0 0, .int .i64 0, .int .u64 0, .int .i64 0, .int .u64 0, .int .i64 0, .int .i64 0, .int .u64 0, .int .i64 0, .int .u64 0] _ 0 (grown_new (HGR.out) (a := ⟨w.heap.size + 1, 1, none⟩) (by simp) (.int .u64 (x : Int)))
    generalize putCells (w1.setCell ⟨w.heap.size + 1, 1, none⟩ (.int .u64 (x : Int))) w.heap.size 0 [.int .i64 1, .int .u64 (x : Int), .int .i64 0, .bool false, .slice none 0 0, .int .i64 0, .int .u64 0, .int .i64 0, .int .u64 0, .int .i64 0, .int .i64 0, .int .u64 0, .int .i64 0, .int .u64 0] = W at hfin hl hgr  ⊢
    refine bodyPost_ret (field_results W _ _ hfin rfl _ rfl) rfl ?_
    exact PostF.okI (.num x) n HPF.out (FV.fd none 0 0 (.num x)) rfl (Or.inl ⟨rfl, rfl⟩) hn hl hgr
  · rw [hp] at HPF
    replace HPF := hide HPF
    replace hp := hide hp
    clear hbd
    go_enter Tryd.func56, Tryd.ntmps56
    go_wp2_with fail
    generalize (w.alloc (.cells #[.int .i64 0, .int .u64 0, .int .i64 0, .bool false, .slice none 0 0, .int .i64 0, .int .u64 0, .int .i64 0, .int .u64 0, .int .i64 0, .int .i64 0, .int .u64 0, .int .i64 0, .int .u64 0] 34)).alloc (.cells #[.int .i64 1, .int .u64 0, .int .i64 0, .bool false, .slice none 0 0, .int .i64 0, .int .u64 0, .int .i64 0, .int .u64 0, .int .i64 0, .int .i64 0, .int .u64 0, .int .i64 0, .int .u64 0] 34) = W0 at I0 I1 HG hrow hl01 ⊢
    refine hrow.out.mono ?_
    intro e w1 hE
    unfold Post at hE
    rw [hp.out] at hE
    obtain ⟨rfl, hgr⟩ := hE
    exact ⟨rfl, PostF.badI i er HPF.out rfl (grown_trans (grown_of_gr HG.out _) hgr)⟩

set_option maxHeartbeats 4000000 in
set_option maxRecDepth 100000 in
theorem field2_any {sb : Nat} (R : Nat) (l : List Int) (at' : Int) (fl : Value) (w : World) (h : Lft w R sb l at' fl) (hsb : sb < w.heap.size) :
    Calls Tryd.prog 56 #[.pointer (some ⟨R, 0, none⟩), .int .i64 2] w fun e w' => PostF w R sb l at' fl (pfield 2 l) e w' := by
  have hRl := h.lt
  have I0 := (IsB.new w #[.int .i64 0, .int .u64 0, .int .i64 0, .bool false, .slice none 0 0, .int .i64 0, .int .u64 0, .int .i64 0, .int .u64 0, .int .i64 0, .int .i64 0, .int .u64 0, .int .i64 0, .int .u64 0] 34).alloc (.cells #[.int .i64 2, .int .u64 0, .int .i64 0, .bool false, .slice none 0 0, .int .i64 0, .int .u64 0, .int .i64 0, .int .u64 0, .int .i64 0, .int .i64 0, .int .u64 0, .int .i64 0, .int .u64 0] 34)
  have I1 := IsB.new (w.alloc (.cells #[.int .i64 0, .int .u64 0, .int .i64 0, .bool false, .slice none 0 0, .int .i64 0, .int .u64 0, .int .i64 0, .int .u64 0, .int .i64 0, .int .i64 0, .int .u64 0, .int .i64 0, .int .u64 0] 34)) #[.int .i64 2, .int .u64 0, .int .i64 0, .bool false, .slice none 0 0, .int .i64 0, .int .u64 0, .int .i64 0, .int .u64 0, .int .i64 0, .int .i64 0, .int .u64 0, .int .i64 0, .int .u64 0] 34
  rw [World.size_alloc] at I1
  have HG := hide (show Gr w ((w.alloc (.cells #[.int .i64 0, .int .u64 0, .int .i64 0, .bool false, .slice none 0 0, .int .i64 0, .int .u64 0, .int .i64 0, .int .u64 0, .int .i64 0, .int .i64 0, .int .u64 0, .int .i64 0, .int .u64 0] 34)).alloc (.cells #[.int .i64 2, .int .u64 0, .int .i64 0, .bool false, .slice none 0 0, .int .i64 0, .int .u64 0, .int .i64 0, .int .u64 0, .int .i64 0, .int .i64 0, .int .u64 0, .int .i64 0, .int .u64 0] 34)) from ((Gr.refl w).alloc _).alloc _)
  have hrow := whole_any R l at' fl _ (h.gr HG.out)
  replace hrow := hide hrow
  have HPF : pfield 2 l = (pwhole l).map FV.int := rfl
  have hbd := h.bd
  have hl01 := I1.lt
  replace I0 := hide I0
  replace I1 := hide I1
  clear h
  rcases hp : pwhole l with ⟨x, n⟩ | ⟨i, er⟩
  · rw [hp] at HPF
    replace HPF := hide HPF
    replace hp := hide hp
    clear hbd
    go_enter Tryd.func56, Tryd.ntmps56
    go_wp2_with fail
    generalize (w.alloc (.cells #[.int .i64 0, .int .u64 0, .int .i64 0, .bool false, .slice none 0 0, .int .i64 0, .int .u64 0, .int .i64 0, .int .u64 0, .int .i64 0, .int .i64 0, .int .u64 0, .int .i64 0, .int .u64 0] 34)).alloc (.cells #[.int .i64 2, .int .u64 0, .int .i64 0, .bool false, .slice none 0 0, .int .i64 0, .int .u64 0, .int .i64 0, .int .u64 0, .int .i64 0, .int .i64 0, .int .u64 0, .int .i64 0, .int .u64 0] 34) = W0 at I0 I1 HG hrow hl01 ⊢
    refine hrow.out.mono ?_
    intro e w1 hE
    unfold Post at hE
    rw [hp.out] at hE
    obtain ⟨⟨rfl, hn, hl⟩, hgr⟩ := hE
    replace I0 := hide (I0.out.grown hgr (by intro h; simp only [Option.some.injEq] at h; omega))
    replace I1 := hide (I1.out.grown hgr (by intro h; simp only [Option.some.injEq] at h; omega))
    have HL := hide hl
    have HGR := hide (grown_trans (grown_of_gr HG.out _) hgr)
    have hlW := I0.out.lt
    have hlW0 : w.heap.size + 1 < W0.heap.size := hl01
    clear hrow hl hgr 
    have a0 : w1.cell? ⟨w.heap.size, 0, none⟩ = some (.int .i64 0) := I0.out.cell 0
    have a1 : w1.cell? ⟨w.heap.size, 1, none⟩ = some (.int .u64 0) := I0.out.cell 1
    have a2 : w1.cell? ⟨w.heap.size, 2, none⟩ = some (.int .i64 0) := I0.out.cell 2
    have a3 : w1.cell? ⟨w.heap.size, 3, none⟩ = some (.bool false) := I0.out.cell 3
    have a4 : w1.cell? ⟨w.heap.size, 4, none⟩ = some (.slice none 0 0) := I0.out.cell 4
    have a5 : w1.cell? ⟨w.heap.size, 5, none⟩ = some (.int .i64 0) := I0.out.cell 5
    have a6 : w1.cell? ⟨w.heap.size, 6, none⟩ = some (.int .u64 0) := I0.out.cell 6
    have a7 : w1.cell? ⟨w.heap.size, 7, none⟩ = some (.int .i64 0) := I0.out.cell 7
    have a8 : w1.cell? ⟨w.heap.size, 8, none⟩ = some (.int .u64 0) := I0.out.cell 8
    have a9 : w1.cell? ⟨w.heap.size, 9, none⟩ = some (.int .i64 0) := I0.out.cell 9
    have a10 : w1.cell? ⟨w.heap.size, 10, none⟩ = some (.int .i64 0) := I0.out.cell 10
    have a11 : w1.cell? ⟨w.heap.size, 11, none⟩ = some (.int .u64 0) := I0.out.cell 11
    have a12 : w1.cell? ⟨w.heap.size, 12, none⟩ = some (.int .i64 0) := I0.out.cell 12
    have a13 : w1.cell? ⟨w.heap.size, 13, none⟩ = some (.int .u64 0) := I0.out.cell 13
    have b0 : w1.cell? ⟨w.heap.size + 1, 0, none⟩ = some (.int .i64 2) := I1.out.cell 0
    have b1 : w1.cell? ⟨w.heap.size + 1, 1, none⟩ = some (.int .u64 0) := I1.out.cell 1
    have b2 : w1.cell? ⟨w.heap.size + 1, 2, none⟩ = some (.int .i64 0) := I1.out.cell 2
    have b3 : w1.cell? ⟨w.heap.size + 1, 3, none⟩ = some (.bool false) := I1.out.cell 3
    have b4 : w1.cell? ⟨w.heap.size + 1, 4, none⟩ = some (.slice none 0 0) := I1.out.cell 4
    have b5 : w1.cell? ⟨w.heap.size + 1, 5, none⟩ = some (.int .i64 0) := I1.out.cell 5
    have b6 : w1.cell? ⟨w.heap.size + 1, 6, none⟩ = some (.int .u64 0) := I1.out.cell 6
    have b7 : w1.cell? ⟨w.heap.size + 1, 7, none⟩ = some (.int .i64 0) := I1.out.cell 7
    have b8 : w1.cell? ⟨w.heap.size + 1, 8, none⟩ = some (.int .u64 0) := I1.out.cell 8
    have b9 : w1.cell? ⟨w.heap.size + 1, 9, none⟩ = some (.int .i64 0) := I1.out.cell 9
    have b10 : w1.cell? ⟨w.heap.size + 1, 10, none⟩ = some (.int .i64 0) := I1.out.cell 10
    have b11 : w1.cell? ⟨w.heap.size + 1, 11, none⟩ = some (.int .u64 0) := I1.out.cell 11
    have b12 : w1.cell? ⟨w.heap.size + 1, 12, none⟩ = some (.int .i64 0) := I1.out.cell 12
    have b13 : w1.cell? ⟨w.heap.size + 1, 13, none⟩ = some (.int .u64 0) := I1.out.cell 13
    have f0 := I0.out.free 0
    have f1 := I0.out.free 1
    have f2 := I0.out.free 2
    have f3 := I0.out.free 3
    have f4 := I0.out.free 4
    have f5 := I0.out.free 5
    have f6 := I0.out.free 6
    have f7 := I0.out.free 7
    have f8 := I0.out.free 8
    have f9 := I0.out.free 9
    have f10 := I0.out.free 10
    have f11 := I0.out.free 11
    have f12 := I0.out.free 12
    have f13 := I0.out.free 13
    have q2 := I1.out.free 2
    go_wp2
    have hW : (((((((((((((((w1.setCell ⟨w.heap.size + 1, 2, none⟩ (.int .i64 x)).setCell ⟨w.heap.size, 0, none⟩ (.int .i64 2)).setCell ⟨w.heap.size, 1, none⟩ (.int .u64 0)).setCell ⟨w.heap.size, 2, none⟩ (.int .i64 x)).setCell ⟨w.heap.size, 3, none⟩ (.bool false)).setCell ⟨w.heap.size, 4, none⟩ (.slice none 0 0)).setCell ⟨w.heap.size, 5, none⟩ (.int .i64 0)).setCell ⟨w.heap.size, 6, none⟩ (.int .u64 0)).setCell ⟨w.heap.size, 7, none⟩ (.int .i64 0)).setCell ⟨w.heap.size, 8, none⟩ (.int .u64 0)).setCell ⟨w.heap.size, 9, none⟩ (.int .i64 0)).setCell ⟨w.heap.size, 10, none⟩ (.int .i64 0)).setCell ⟨w.heap.size, 11, none⟩ (.int .u64 0)).setCell ⟨w.heap.size, 12, none⟩ (.int .i64 0)).setCell ⟨w.heap.size, 13, none⟩ (.int .u64 0)) = putCells (w1.setCell ⟨w.heap.size + 1, 2, none⟩ (.int .i64 x)) w.heap.size 0 [.int .i64 2, .int .u64 0, .int .i64 x, .bool false, .slice none 0 0, .int .i64 0, .int .u64 0, .int .i64 0, .int .u64 0, .int .i64 0, .int .i64 0, .int .u64 0, .int .i64 0, .int .u64 0] := rfl
    rw [hW]
    clear hW
    have hfin := putCells_is (cs := [.int .i64 0, .int .u64 0, .int .i64 0, .bool false, .slice none 0 0, .int .i64 0, .int .u64 0, .int .i64 0, .int .u64 0, .int .i64 0, .int .i64 0, .int .u64 0, .int .i64 0, .int .u64 0]) ((IsB.setOther (I0.out) (a := ⟨w.heap.size + 1, 2, none⟩) (by simp) (.int .i64 x))) [.int .i64 2, .int .u64 0, .int .i64 x, .bool false, .slice none 0 0, .int .i64 0, .int .u64 0, .int .i64 0, .int .u64 0, .int .i64 0, .int .i64 0, .int .u64 0, .int .i64 0, .int .u64 0] rfl
    have hl := putCells_left (b := w.heap.size) (show R ≠ w.heap.size by omega) (by omega) [.int .i64 2, .int .u64 0, .int .i64 x, .bool false, .slice none 0 0, .int .i64 0, .int .u64 0, .int .i64 0, .int .u64 0, .int .i64 0, .int .i64 0, .int .u64 0, .int .i64 0, .int .u64 0] _ 0 (Lft.set (HL.out) (a := ⟨w.heap.size + 1, 2, none⟩) (by simp only []; omega) (by simp only []; omega) (.int .i64 x))
    have hgr := putCells_grown (b := w.heap.size) (Nat.le_refl _) [.int .i64 2, .int .u64 0, .int .i64 x, .bool false, .slice none 0 0, .int .i64 0, .int .u64 0, .int .i64 0, .int .u64 0, .int .i64 0, .int .i64 0, .int .u64 0, .int .i64 0, .int .u64 0] _ 0 (grown_new (HGR.out) (a := ⟨w.heap.size + 1, 2, none⟩) (by simp) (.int .i64 x))
    generalize putCells (w1.setCell ⟨w.heap.size + 1, 2, none⟩ (.int .i64 x)) w.heap.size 0 [.int .i64 2, .int .u64 0, .int .i64 x, .bool false, .slice none 0 0, .int .i64 0, .int .u64 0, .int .i64 0, .int .u64 0, .int .i64 0, .int .i64 0, .int .u64 0, .int .i64 0, .int .u64 0] = W at hfin hl hgr  ⊢
    refine bodyPost_ret (field_results W _ _ hfin rfl _ rfl) rfl ?_
    exact PostF.okI (.int x) n HPF.out (FV.fd none 0 0 (.int x)) rfl (Or.inl ⟨rfl, rfl⟩) hn hl hgr
  · rw [hp] at HPF
    replace HPF := hide HPF
    replace hp := hide hp
    clear hbd
    go_enter Tryd.func56, Tryd.ntmps56
    go_wp2_with fail
    generalize (w.alloc (.cells #[.int .i64 0, .int .u64 0, .int .i64 0, .bool false, .slice none 0 0, .int .i64 0, .int .u64 0, .int .i64 0, .int .u64 0, .int .i64 0, .int .i64 0, .int .u64 0, .int .i64 0, .int .u64 0] 34)).alloc (.cells #[.int .i64 2, .int .u64 0, .int .i64 0, .bool false, .slice none 0 0, .int .i64 0, .int .u64 0, .int .i64 0, .int .u64 0, .int .i64 0, .int .i64 0, .int .u64 0, .int .i64 0, .int .u64 0] 34) = W0 at I0 I1 HG hrow hl01 ⊢
    refine hrow.out.mono ?_
    intro e w1 hE
    unfold Post at hE
    rw [hp.out] at hE
    obtain ⟨rfl, hgr⟩ := hE
    exact ⟨rfl, PostF.badI i er HPF.out rfl (grown_trans (grown_of_gr HG.out _) hgr)⟩

end Go.Proofs.YtmhcmlegdoapdaaDoor
