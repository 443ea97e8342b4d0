/- Package pack: fields are read one behind the other, where nothing is at fault. -/
import Derived.Test.YtmhcmlegdoapdaaDoorQW
import Derived.Test.YtmhcmlegdoapdaaDoorQD
import Derived.Test.YtmhcmlegdoapdaaDoorQI
import Derived.Test.YtmhcmlegdoapdaaDoorQN
namespace Go.Proofs.YtmhcmlegdoapdaaDoor
open Go.RowKit

/-- A field that may be. -/
inductive FV where
  | num (n : Nat) | int (i : Int) | truth (t : Bool) | bytes (l : List Int) | vec (n b : Nat) | key (r x : Int) | ref (i r x : Int) (n b : Nat)
/-- Its kind. -/
def FV.kind : FV → Int
  | .num _ => 1 | .int _ => 2 | .truth _ => 3 | .bytes _ => 4 | .vec _ _ => 5 | .key _ _ => 6 | .ref _ _ _ _ _ => 7
/-- Its bytes. -/
def FV.enc : FV → List Int
  | .num n => nb n | .int i => nb (fold i) | .truth t => [if t then 1 else 0] | .bytes l => nb l.length ++ l | .vec n b => vb n b | .key r x => kyb r x | .ref i r x n b => nb (fold i) ++ (kyb r x ++ vb n b)
/-- Its parts; the row's place is told. -/
def FV.fd (a : Option Addr) (len c : Nat) : FV → Fd
  | .num n => ⟨1, n, 0, false, none, 0, 0, 0, 0, 0, 0, 0, 0, 0, 0, 0⟩
  | .int i => ⟨2, 0, i, false, none, 0, 0, 0, 0, 0, 0, 0, 0, 0, 0, 0⟩
  | .truth t => ⟨3, 0, 0, t, none, 0, 0, 0, 0, 0, 0, 0, 0, 0, 0, 0⟩
  | .bytes _ => ⟨4, 0, 0, false, a, len, c, 0, 0, 0, 0, 0, 0, 0, 0, 0⟩
  | .vec n b => ⟨5, 0, 0, false, none, 0, 0, n, b, 0, 0, 0, 0, 0, 0, 0⟩
  | .key r x => ⟨6, 0, 0, false, none, 0, 0, 0, 0, r, x, 0, 0, 0, 0, 0⟩
  | .ref i r x n b => ⟨7, 0, 0, false, none, 0, 0, 0, 0, 0, 0, i, r, x, n, b⟩
/-- Its row. -/
def FV.row : FV → Option (List Int)
  | .bytes l => some l
  | _ => none
/-- The block of its row. -/
def Fd.blk (f : Fd) : Option Nat := f.f4.map (·.block)
/-- f is v in this memory; its row is one of the blocks from base on. -/
def FV.At (w : World) (base : Nat) (v : FV) (f : Fd) : Prop :=
  (v.row = none ∧ f = v.fd none 0 0) ∨ ∃ l g c, v.row = some l ∧ f = v.fd (some ⟨g, 0, none⟩) l.length c ∧ w.ownsRow base 5 1 (.slice (some ⟨g, 0, none⟩) l.length c) l.length (u8s l)
theorem FV.fd_none (v : FV) (h : v.row = none) : (v.fd none 0 0).blk = none := by
  cases v <;> first | rfl | cases h
theorem FV.fd_some (v : FV) (l : List Int) (h : v.row = some l) (g n c : Nat) : (v.fd (some ⟨g, 0, none⟩) n c).blk = some g := by
  cases v <;> first | rfl | cases h
theorem FV.At.blk {w : World} {base : Nat} {v : FV} {f : Fd} (h : v.At w base f) : f.blk = none ∨ ∃ g, f.blk = some g ∧ base ≤ g ∧ g < w.heap.size := by
  rcases h with ⟨hr, rfl⟩ | ⟨l, g, c, hr, rfl, ho⟩
  · exact Or.inl (v.fd_none hr)
  · exact Or.inr ⟨g, v.fd_some l hr g _ _, ho.lt g rfl⟩
theorem FV.At.kept {w w' : World} {base : Nat} {v : FV} {f : Fd} (h : v.At w base f) {row : Option Nat} (hg : w.grownBy w' row) (hne : f.blk = none ∨ f.blk ≠ row) : v.At w' base f := by
  rcases h with ⟨hr, hf⟩ | ⟨l, g, c, hr, rfl, ho⟩
  · exact Or.inl ⟨hr, hf⟩
  · refine Or.inr ⟨l, g, c, hr, rfl, ho.kept hg ?_⟩
    rw [v.fd_some l hr] at hne
    rcases hne with h | h
    · cases h
    · exact Or.inr h
theorem FV.At.mono {w : World} {base base' : Nat} {v : FV} {f : Fd} (h : v.At w base f) (hb : base' ≤ base) : v.At w base' f := by
  rcases h with ⟨hr, hf⟩ | ⟨l, g, c, hr, hf, ho⟩
  · exact Or.inl ⟨hr, hf⟩
  · exact Or.inr ⟨l, g, c, hr, hf, owns_base hb ho⟩

/-- A field is read of its bytes. -/
def Reads (v : FV) : Prop := ∀ (R b o len cap : Nat) (at' : Int) (_ : 0 ≤ at') (_ : at' ≤ 100000000) (fl : Value) (w : World) (_ : Rd w R (some ⟨b, o, none⟩) len cap at' fl) (_ : b ≠ R)
    (_ : v.enc.length ≤ len) (_ : len ≤ cap) (_ : cap ≤ 1000000000) (_ : ∀ j (hj : j < v.enc.length), w.cell? ⟨b, o + j, none⟩ = some (.int .u8 v.enc[j])) (_ : Ranks w),
    Calls Tryd.prog 56 #[.pointer (some ⟨R, 0, none⟩), .int .i64 v.kind] w fun e w' => (∃ f0 f1 f2 f3 f4 f5 f6 f7 f8 f9 f10 f11 f12 f13 f14 f15, e = .returned (.agg #[.int .i64 f0, .int .u64 f1, .int .i64 f2, .bool f3, .slice f4 f5 f6, .int .i64 f7, .int .u64 f8, .int .i64 f9, .int .u64 f10, .int .i64 f11, .int .i64 f12, .int .u64 f13, .int .i64 f14, .int .u64 f15]) ∧ v.At w' w.heap.size ⟨f0, f1, f2, f3, f4, f5, f6, f7, f8, f9, f10, f11, f12, f13, f14, f15⟩) ∧
      (∃ o', (v.enc.length < len → o' = o + v.enc.length) ∧ Rd w' R (some ⟨b, o', none⟩) (len - v.enc.length) (cap - v.enc.length) (at' + (v.enc.length : Int)) fl) ∧ w.grownBy w' (some R)

theorem reads_bytes (l : List Int) (hl : l.length ≤ 65536) : Reads (.bytes l) := by
  intro R b o len cap at' h0 h1 fl w hR hne hlen hcap hcap2 hC _
  refine (field_bytes l hl R b o len cap at' h0 h1 fl w hR hne hlen hcap hcap2 hC).mono ?_
  rintro e w' ⟨g, c, rfl, hgl, ho, hrd, hgr⟩
  exact ⟨⟨_, _, _, _, _, _, _, _, _, _, _, _, _, _, _, _, rfl, Or.inr ⟨l, g, c, rfl, rfl, ho⟩⟩, hrd, hgr⟩

/-- All bytes of fields. -/
def encs (vs : List FV) : List Int := vs.flatMap FV.enc
theorem encs_snoc (vs : List FV) (k : Nat) (v : FV) (h : vs[k]? = some v) : encs (vs.take (k + 1)) = encs (vs.take k) ++ v.enc := by
  unfold encs
  obtain ⟨hk, e⟩ := List.getElem?_eq_some_iff.1 h
  rw [List.take_succ_eq_append_getElem hk, e, List.flatMap_append]
  simp
theorem encs_split (vs : List FV) (k : Nat) : encs vs = encs (vs.take k) ++ encs (vs.drop k) := by
  unfold encs; rw [← List.flatMap_append, List.take_append_drop]
theorem encs_le (vs : List FV) (k : Nat) : (encs (vs.take k)).length ≤ (encs vs).length := by
  rw [encs_split vs k, List.length_append]; omega
theorem encs_at (vs : List FV) (k : Nat) (v : FV) (h : vs[k]? = some v) (j : Nat) (hj : j < v.enc.length) : ∃ h2, (encs vs)[(encs (vs.take k)).length + j]'h2 = v.enc[j] := by
  have e : encs vs = (encs (vs.take k) ++ v.enc) ++ encs (vs.drop (k + 1)) := by rw [← encs_snoc vs k v h]; exact encs_split vs (k + 1)
  have hl : (encs (vs.take k)).length + j < (encs vs).length := by rw [e, List.length_append, List.length_append]; omega
  refine ⟨hl, ?_⟩
  have : (encs vs)[(encs (vs.take k)).length + j]? = some v.enc[j] := by
    rw [e, List.getElem?_append_left (by rw [List.length_append]; omega), List.getElem?_append_right (by omega), Nat.add_sub_cancel_left]
    exact List.getElem?_eq_getElem hj
  rw [List.getElem?_eq_getElem hl] at this
  exact Option.some.inj this
/-- The cells of fields. -/
def cellsOf (fs : List Fd) : List Value := fs.flatMap (fun f => f.cs.toList)

/-- How far reading has come. -/
structure RF (w W : World) (vs : List FV) (A B C R b o len cap : Nat) (k : Nat) (fa : Option Addr) (fc : Nat) (fs : List Fd) (wr : World) : Prop where
  flen : fs.length = k
  rows : ∀ (j : Nat) (v : FV) (f : Fd), vs[j]? = some v → fs[j]? = some f → v.At wr W.heap.size f ∧ (f.blk = none ∨ f.blk ≠ (Value.slice fa k fc).ownBlock)
  own : wr.ownsRow W.heap.size 34 14 (.slice fa k fc) k (cellsOf fs)
  rd : ∃ o', ((encs (vs.take k)).length < len → o' = o + (encs (vs.take k)).length) ∧ Rd wr R (some ⟨b, o', none⟩) (len - (encs (vs.take k)).length) (cap - (encs (vs.take k)).length) ((encs (vs.take k)).length : Int) (.slice fa k fc)
  iA : IsB wr A #[.slice none 0 0] 22
  iB : IsB wr B #[.int .i64 0] 3
  iC : IsB wr C #[.int .i64 0] 36
  below : RowKit.Below w.heap.size w wr
  size : W.heap.size ≤ wr.heap.size

theorem grown_below {w w1 w2 : World} {r : Nat} (hb : RowKit.Below w.heap.size w w1) (hg : w1.grownBy w2 (some r)) (hr : w.heap.size ≤ r) : RowKit.Below w.heap.size w w2 :=
  hb.grown hg hb.size (fun j hj => by cases hj; exact hr)
theorem RF.step {w W : World} {vs : List FV} {A B C R b o len cap k : Nat} {fa : Option Addr} {fc : Nat} {fs : List Fd} {wr : World} (h : RF w W vs A B C R b o len cap k fa fc fs wr)
    (hA : A < W.heap.size) (hB : B < W.heap.size) (hC : C < W.heap.size) (hR : R < W.heap.size) (hAR : A ≠ R) (hBR : B ≠ R) (hCR : C ≠ R) (hRw : w.heap.size ≤ R) (hW : w.heap.size ≤ W.heap.size)
    {v : FV} (hv : vs[k]? = some v) {f : Fd} {w1 : World} (hat : v.At w1 wr.heap.size f) {o' : Nat} (hoo : (encs (vs.take (k + 1))).length < len → o' = o + (encs (vs.take (k + 1))).length)
    (hrd : Rd w1 R (some ⟨b, o', none⟩) (len - (encs (vs.take (k + 1))).length) (cap - (encs (vs.take (k + 1))).length) ((encs (vs.take (k + 1))).length : Int) (.slice fa k fc)) (hg1 : wr.grownBy w1 (some R))
    {ob : Obj} {g cp : Nat} {w2 : World} (hown : w2.ownsRow W.heap.size 34 14 (.slice (some ⟨g, 0, none⟩) (k + 1) cp) (k + 1) (cellsOf fs ++ f.cs.toList)) (hg2 : (w1.alloc ob).grownBy w2 (Value.slice fa k fc).ownBlock)
    (hwh : (Value.slice fa k fc).ownBlock = some g ∨ g = w1.heap.size + 1) :
    RF w W vs A B C R b o len cap (k + 1) (some ⟨g, 0, none⟩) cp (fs ++ [f]) (w2.setCell ⟨R, 2, none⟩ (.slice (some ⟨g, 0, none⟩) (k + 1) cp)) := by
  have hob : ∀ j, (Value.slice fa k fc).ownBlock = some j → W.heap.size ≤ j ∧ j < wr.heap.size := h.own.lt
  have hneR : ∀ (x : Nat), x < W.heap.size → some x ≠ (Value.slice fa k fc).ownBlock := fun x hx he => by have := hob x he.symm; omega
  have hsz1 := hg1.size
  have hs := h.size
  have hsz2 := hg2.size
  rw [World.size_alloc] at hsz2
  have hset := grown_set w2 R 2 (.slice (some ⟨g, 0, none⟩) (k + 1) cp)
  have hgg : W.heap.size ≤ g := (hown.lt g rfl).1
  have is : ∀ {X : Nat} {cs : Array Value} {t : TypeId}, X < W.heap.size → X ≠ R → IsB wr X cs t → IsB (w2.setCell ⟨R, 2, none⟩ (.slice (some ⟨g, 0, none⟩) (k + 1) cp)) X cs t := fun hx hxr hi =>
    IsB.setOther (((hi.grown hg1 (by simpa using hxr)).alloc ob).grown hg2 (hneR _ hx)) (by simpa using hxr) _
  refine ⟨by rw [List.length_append, h.flen]; rfl, ?_, ?_, ?_, is hA hAR h.iA, is hB hBR h.iB, is hC hCR h.iC, ?_, ?_⟩
  · intro j v' f' hv' hf'
    rcases Nat.lt_or_ge j k with hjk | hjk
    · rw [List.getElem?_append_left (by rw [h.flen]; exact hjk)] at hf'
      obtain ⟨ha, hb⟩ := h.rows j v' f' hv' hf'
      have hbl := ha.blk
      refine ⟨(((ha.kept hg1 ?_).kept (World.grownBy_alloc w1 ob none) ?_).kept hg2 hb).kept hset ?_, ?_⟩
      · rcases hbl with hbl | ⟨x, hx, h1, h2⟩
        · exact Or.inl hbl
        · right; rw [hx]; simp only [ne_eq, Option.some.injEq]; omega
      · rcases hbl with hbl | ⟨x, hx, h1, h2⟩
        · exact Or.inl hbl
        · right; rw [hx]; simp
      · rcases hbl with hbl | ⟨x, hx, h1, h2⟩
        · exact Or.inl hbl
        · right; rw [hx]; simp only [ne_eq, Option.some.injEq]; omega
      · rcases hbl with hbl | ⟨x, hx, h1, h2⟩
        · exact Or.inl hbl
        · right
          rcases hwh with hwh | hwh
          · rcases hb with hb | hb
            · rw [hx] at hb; cases hb
            · rw [hwh] at hb; exact hb
          · rw [hx]; simp only [Value.ownBlock, ne_eq, Option.some.injEq]; omega
    · have hjl : j < (fs ++ [f]).length := (List.getElem?_eq_some_iff.1 hf').1
      rw [List.length_append, h.flen] at hjl
      simp only [List.length_singleton] at hjl
      obtain rfl : j = k := by omega
      rw [hv] at hv'
      cases hv'
      have hf2 : f' = f := by
        rw [← h.flen, List.getElem?_append_right (Nat.le_refl _)] at hf'
        simpa using hf'.symm
      subst hf2
      have hbl := hat.blk
      refine ⟨(((hat.mono hs).kept (World.grownBy_alloc w1 ob none) ?_).kept hg2 ?_).kept hset ?_, ?_⟩
      · rcases hbl with hbl | ⟨x, hx, h1, h2⟩
        · exact Or.inl hbl
        · right; rw [hx]; simp
      · rcases hbl with hbl | ⟨x, hx, h1, h2⟩
        · exact Or.inl hbl
        · right; rw [hx]; intro he; have := hob x he.symm; omega
      · rcases hbl with hbl | ⟨x, hx, h1, h2⟩
        · exact Or.inl hbl
        · right; rw [hx]; simp only [ne_eq, Option.some.injEq]; omega
      · rcases hbl with hbl | ⟨x, hx, h1, h2⟩
        · exact Or.inl hbl
        · right
          rw [hx]
          simp only [Value.ownBlock, ne_eq, Option.some.injEq]
          rcases hwh with hwh | hwh
          · have := hob g hwh; omega
          · omega
  · have e : cellsOf (fs ++ [f]) = cellsOf fs ++ f.cs.toList := by unfold cellsOf; rw [List.flatMap_append]; simp
    rw [e]
    exact ownsRow_setCell_other hown (a := ⟨R, 2, none⟩) (by simp only [Value.ownBlock, ne_eq, Option.some.injEq]; omega) _
  · exact ⟨o', hoo, IsB.set2 ((IsB.alloc hrd ob).grown hg2 (hneR _ hR)) _⟩
  · refine (((grown_below h.below hg1 hRw).alloc (Nat.le_trans hW (by omega)) ob).grown hg2 (Nat.le_trans hW (by rw [World.size_alloc]; omega)) (fun j hj => Nat.le_trans hW (hob j hj).1)).setCell (p := ⟨R, 2, none⟩) hRw _
  · rw [size_setCell]; omega

set_option maxHeartbeats 1000000 in
theorem door_idle (T : Array Value) (A B C n : Nat) (fa : Option Addr) (fc : Nat) (y z : Int) (W : World) (Q : Ending → World → Prop) (hA : IsB W A #[.slice fa n fc] 22) (hB : IsB W B #[.int .i64 y] 3) (hC : IsB W C #[.int .i64 z] 36)
    (t4 : T[4]?.getD undef = .pointer (some ⟨A, 0, none⟩)) (t5 : T[5]?.getD undef = .pointer (some ⟨B, 0, none⟩)) (t6 : T[6]?.getD undef = .pointer (some ⟨C, 0, none⟩))
    (hQ : Q (.returned (.tuple #[.slice fa n fc, .int .i64 y, .int .i64 z])) W) :
    bodyPostD Tryd.prog Tryd.f36 Q Exit.ret
      { tmps := T, defers := [{ target := Target.fn (Fn.func 55) #[.pointer (some ⟨A, 0, none⟩), .pointer (some ⟨B, 0, none⟩), .pointer (some ⟨C, 0, none⟩)], args := #[] }] } W := by
  refine leaves_cons (f := 55) (args := #[.pointer (some ⟨A, 0, none⟩), .pointer (some ⟨B, 0, none⟩), .pointer (some ⟨C, 0, none⟩)]) (by simp) (by simp [go_sem]) ?_
  refine (catch_idle A B C W).mono ?_
  rintro e u' w'' ⟨rfl, rfl, rfl⟩
  have a0 : w''.cell? ⟨A, 0, none⟩ = some (.slice fa n fc) := hA.cell 0
  have b0 : w''.cell? ⟨B, 0, none⟩ = some (.int .i64 y) := hB.cell 0
  have c0 : w''.cell? ⟨C, 0, none⟩ = some (.int .i64 z) := hC.cell 0
  simp [Leaves, settle, results, Tryd.results36, go_sem, t4, t5, t6, a0, b0, c0, loadVar]
  exact hQ

end Go.Proofs.YtmhcmlegdoapdaaDoor
