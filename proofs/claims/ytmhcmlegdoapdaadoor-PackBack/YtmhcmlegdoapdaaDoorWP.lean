/- Fields that were read and fields that were handed in: are they alike? Kinds that are gathered. -/
import Derived.Test.YtmhcmlegdoapdaaDoorWM
import Derived.Test.YtmhcmlegdoapdaaDoorWD
import Derived.Test.YtmhcmlegdoapdaaDoorQQ
namespace Go.Proofs.YtmhcmlegdoapdaaDoor
open Go.RowKit

theorem same_in {w : World} {b : Nat} {v : FV} {f g : Fd} {L : List UInt8} (_hv : v.byts) (h : v.DAt w b f) (hs : SAt v g L) (hi : InF w g L) :
    Calls Tryd.prog 17 #[.agg f.cs, .agg g.cs] w fun e w' => e = .returned (.bool true) ∧ Below w.heap.size w w' := by
  have t2 := hi.txt
  obtain ⟨hg, hrow⟩ := hs
  generalize g.f4 = a at *
  generalize g.f5 = n at *
  generalize g.f6 = c at *
  subst hg
  rcases h with ⟨hr, rfl⟩ | ⟨l, a', c', hr, rfl, ho⟩
  · rcases hrow with h1 | ⟨-, rfl⟩
    · rw [hr] at h1; cases h1
    · cases v with
      | bytes l => cases hr
      | num n => exact rsame_parts _ _ _ _ _ _ _ _ _ _ _ _ _ _ _ _ _ _ _ _ w (txt_nil w) t2
      | int i => exact rsame_parts _ _ _ _ _ _ _ _ _ _ _ _ _ _ _ _ _ _ _ _ w (txt_nil w) t2
      | truth t => exact rsame_parts _ _ _ _ _ _ _ _ _ _ _ _ _ _ _ _ _ _ _ _ w (txt_nil w) t2
      | vec n b => exact rsame_parts _ _ _ _ _ _ _ _ _ _ _ _ _ _ _ _ _ _ _ _ w (txt_nil w) t2
      | key r x => exact rsame_parts _ _ _ _ _ _ _ _ _ _ _ _ _ _ _ _ _ _ _ _ w (txt_nil w) t2
      | ref i r x n b => exact rsame_parts _ _ _ _ _ _ _ _ _ _ _ _ _ _ _ _ _ _ _ _ w (txt_nil w) t2
  · rcases hrow with h1 | ⟨h1, -⟩
    · obtain rfl : l = ints L := by rw [hr] at h1; exact Option.some.inj h1
      rw [ints_len] at ho ⊢
      have t1 := txt_any L ho
      cases v with
      | bytes l => exact rsame_parts _ _ _ _ _ _ _ _ _ _ _ _ _ _ _ _ _ _ _ _ w t1 t2
      | num n => cases hr
      | int i => cases hr
      | truth t => cases hr
      | vec n b => cases hr
      | key r x => cases hr
      | ref i r x n b => cases hr
    · rw [hr] at h1; cases h1
/-- A row of fields that were handed in. -/
structure FI (w : World) (vs : List FV) (ys : List (Fd × List UInt8)) (fa : Option Addr) (fc : Nat) (base : Nat) : Prop where
  flen : ys.length = vs.length
  own : w.ownsRow base 34 14 (.slice fa vs.length fc) vs.length (cellsOf (ys.map (·.1)))
  rows : ∀ (j : Nat) (v : FV) (p : Fd × List UInt8), vs[j]? = some v → ys[j]? = some p → SAt v p.1 p.2 ∧ InF w p.1 p.2
theorem FI.below {w w' : World} {vs : List FV} {ys : List (Fd × List UInt8)} {fa : Option Addr} {fc : Nat} {base : Nat} (h : FI w vs ys fa fc base) (hb : Below w.heap.size w w') : FI w' vs ys fa fc base :=
  ⟨h.flen, own_keep h.own hb, fun j v p h1 h2 => ⟨(h.rows j v p h1 h2).1, (h.rows j v p h1 h2).2.below hb⟩⟩
theorem FI.at_ {w : World} {vs : List FV} {ys : List (Fd × List UInt8)} {fa : Option Addr} {fc : Nat} {base : Nat} (h : FI w vs ys fa fc base) (j : Nat) (hj : j < vs.length) :
    ∃ g p, fa = some ⟨g, 0, none⟩ ∧ g < w.heap.size ∧ ys[j]? = some p ∧ SAt vs[j] p.1 p.2 ∧ InF w p.1 p.2 ∧ ∀ i, i < 14 → w.cell? ⟨g, j * 14 + i, none⟩ = p.1.cs[i]? := by
  obtain ⟨g, cap, h1, -⟩ := h.own.form (by omega)
  injection h1 with e1 e2 e3
  subst e1
  have hjf : j < ys.length := by rw [h.flen]; exact hj
  have hf : ys[j]? = some ys[j] := List.getElem?_eq_getElem hjf
  have hf2 : (ys.map (·.1))[j]? = some ys[j].1 := by rw [List.getElem?_map, hf]; rfl
  refine ⟨g, ys[j], rfl, (h.own.lt g rfl).2, hf, (h.rows j _ _ (List.getElem?_eq_getElem hj) hf).1, (h.rows j _ _ (List.getElem?_eq_getElem hj) hf).2, fun i hi => ?_⟩
  have hl := h.own.1
  rw [h.own.cellAt (j * 14 + i) (by have : vs.length * 14 ≥ (j + 1) * 14 := Nat.mul_le_mul_right _ hj; omega)]
  exact cellsOf_get _ j _ hf2 i hi

set_option maxHeartbeats 8000000 in
set_option maxRecDepth 100000 in
theorem sameAll_in (vs : List FV) (hvb : ∀ v ∈ vs, v.byts) (hn : vs.length ≤ 1000) (ys : List (Fd × List UInt8)) (fa fa' : Option Addr) (fc fc' : Nat) (fs : List Fd) (b b' : Nat) (w : World) (h1 : FR w vs fa fc fs b) (h2 : FI w vs ys fa' fc' b') :
    Calls Tryd.prog 24 #[.slice fa vs.length fc, .slice fa' vs.length fc'] w fun e w' => e = .returned (.bool true) ∧ Below w.heap.size w w' := by
  have mixed : Tryd.prog.follows .mixedOrders = true := by kernel_rfl
  replace h1 := hide h1
  replace h2 := hide h2
  go_enter Tryd.func24, Tryd.ntmps24
  go_wp2
  go_loopw [5] (fun i wr => ∃ j : Nat, j ≤ vs.length ∧ i = .int .i64 (j : Int) ∧ Below w.heap.size w wr) (fun i _ => vs.length - (intOf i).toNat)
  case atStart => exact ⟨0, by omega, rfl, Below.refl _ _⟩
  case round =>
    obtain ⟨j, hj, rfl, hbw⟩ := hrel
    by_cases hlt : j < vs.length
    · obtain ⟨g, f, rfl, hg, hf, AT1, hc⟩ := (h1.out.below hbw).at_ j hlt
      obtain ⟨g', p', rfl, hg', hf', AS2, AT2, hc'⟩ := (h2.out.below hbw).at_ j hlt
      have hvm : vs[j] ∈ vs := List.getElem_mem hlt
      generalize vs[j] = v at *
      obtain ⟨f0, f1, f2, f3, f4, f5, f6, f7, f8, f9, f10, f11, f12, f13, f14, f15⟩ := f
      obtain ⟨⟨y0, y1, y2, y3, y4, y5, y6, y7, y8, y9, y10, y11, y12, y13, y14, y15⟩, LL⟩ := p'
      replace AT1 := hide AT1
      replace AT2 := hide AT2
      replace AS2 := hide AS2
      have hKeep : Hid (∀ W, Below wr.heap.size wr W → (fun w' => w'.cell? ⟨g, j * 14, none⟩ = some (.int .i64 f0) ∧ w'.cell? ⟨g, j * 14 + 1, none⟩ = some (.int .u64 f1) ∧ w'.cell? ⟨g, j * 14 + 2, none⟩ = some (.int .i64 f2) ∧ w'.cell? ⟨g, j * 14 + 3, none⟩ = some (.bool f3) ∧ w'.cell? ⟨g, j * 14 + 4, none⟩ = some (.slice f4 f5 f6) ∧ w'.cell? ⟨g, j * 14 + 5, none⟩ = some (.int .i64 f7) ∧ w'.cell? ⟨g, j * 14 + 6, none⟩ = some (.int .u64 f8) ∧ w'.cell? ⟨g, j * 14 + 7, none⟩ = some (.int .i64 f9) ∧ w'.cell? ⟨g, j * 14 + 8, none⟩ = some (.int .u64 f10) ∧ w'.cell? ⟨g, j * 14 + 9, none⟩ = some (.int .i64 f11) ∧ w'.cell? ⟨g, j * 14 + 10, none⟩ = some (.int .i64 f12) ∧ w'.cell? ⟨g, j * 14 + 11, none⟩ = some (.int .u64 f13) ∧ w'.cell? ⟨g, j * 14 + 12, none⟩ = some (.int .i64 f14) ∧ w'.cell? ⟨g, j * 14 + 13, none⟩ = some (.int .u64 f15) ∧ w'.cell? ⟨g', j * 14, none⟩ = some (.int .i64 y0) ∧ w'.cell? ⟨g', j * 14 + 1, none⟩ = some (.int .u64 y1) ∧ w'.cell? ⟨g', j * 14 + 2, none⟩ = some (.int .i64 y2) ∧ w'.cell? ⟨g', j * 14 + 3, none⟩ = some (.bool y3) ∧ w'.cell? ⟨g', j * 14 + 4, none⟩ = some (.slice y4 y5 y6) ∧ w'.cell? ⟨g', j * 14 + 5, none⟩ = some (.int .i64 y7) ∧ w'.cell? ⟨g', j * 14 + 6, none⟩ = some (.int .u64 y8) ∧ w'.cell? ⟨g', j * 14 + 7, none⟩ = some (.int .i64 y9) ∧ w'.cell? ⟨g', j * 14 + 8, none⟩ = some (.int .u64 y10) ∧ w'.cell? ⟨g', j * 14 + 9, none⟩ = some (.int .i64 y11) ∧ w'.cell? ⟨g', j * 14 + 10, none⟩ = some (.int .i64 y12) ∧ w'.cell? ⟨g', j * 14 + 11, none⟩ = some (.int .u64 y13) ∧ w'.cell? ⟨g', j * 14 + 12, none⟩ = some (.int .i64 y14) ∧ w'.cell? ⟨g', j * 14 + 13, none⟩ = some (.int .u64 y15)) W) := fun W hW => by
        have k1 : ∀ i, i < 14 → W.cell? ⟨g, j * 14 + i, none⟩ = (#[.int .i64 f0, .int .u64 f1, .int .i64 f2, .bool f3, .slice f4 f5 f6, .int .i64 f7, .int .u64 f8, .int .i64 f9, .int .u64 f10, .int .i64 f11, .int .i64 f12, .int .u64 f13, .int .i64 f14, .int .u64 f15] : Array Value)[i]? := fun i hi => by
          exact (hW.cell (show g < wr.heap.size from hg)).trans (hc i hi)
        have k2 : ∀ i, i < 14 → W.cell? ⟨g', j * 14 + i, none⟩ = (#[.int .i64 y0, .int .u64 y1, .int .i64 y2, .bool y3, .slice y4 y5 y6, .int .i64 y7, .int .u64 y8, .int .i64 y9, .int .u64 y10, .int .i64 y11, .int .i64 y12, .int .u64 y13, .int .i64 y14, .int .u64 y15] : Array Value)[i]? := fun i hi => by
          exact (hW.cell (show g' < wr.heap.size from hg')).trans (hc' i hi)
        exact ⟨k1 0 (by omega), k1 1 (by omega), k1 2 (by omega), k1 3 (by omega), k1 4 (by omega), k1 5 (by omega), k1 6 (by omega), k1 7 (by omega), k1 8 (by omega), k1 9 (by omega), k1 10 (by omega), k1 11 (by omega), k1 12 (by omega), k1 13 (by omega), k2 0 (by omega), k2 1 (by omega), k2 2 (by omega), k2 3 (by omega), k2 4 (by omega), k2 5 (by omega), k2 6 (by omega), k2 7 (by omega), k2 8 (by omega), k2 9 (by omega), k2 10 (by omega), k2 11 (by omega), k2 12 (by omega), k2 13 (by omega)⟩
      have HS := hide (hKeep.out wr.drew ((Below.refl _ _).drew))
      have HBW := hide hbw
      clear hc hc' hf hf' hbw
      go_wp2
      refine regionL 10 (fun w' => w'.cell? ⟨g, j * 14, none⟩ = some (.int .i64 f0) ∧ w'.cell? ⟨g, j * 14 + 1, none⟩ = some (.int .u64 f1) ∧ w'.cell? ⟨g, j * 14 + 2, none⟩ = some (.int .i64 f2) ∧ w'.cell? ⟨g, j * 14 + 3, none⟩ = some (.bool f3) ∧ w'.cell? ⟨g, j * 14 + 4, none⟩ = some (.slice f4 f5 f6) ∧ w'.cell? ⟨g, j * 14 + 5, none⟩ = some (.int .i64 f7) ∧ w'.cell? ⟨g, j * 14 + 6, none⟩ = some (.int .u64 f8) ∧ w'.cell? ⟨g, j * 14 + 7, none⟩ = some (.int .i64 f9) ∧ w'.cell? ⟨g, j * 14 + 8, none⟩ = some (.int .u64 f10) ∧ w'.cell? ⟨g, j * 14 + 9, none⟩ = some (.int .i64 f11) ∧ w'.cell? ⟨g, j * 14 + 10, none⟩ = some (.int .i64 f12) ∧ w'.cell? ⟨g, j * 14 + 11, none⟩ = some (.int .u64 f13) ∧ w'.cell? ⟨g, j * 14 + 12, none⟩ = some (.int .i64 f14) ∧ w'.cell? ⟨g, j * 14 + 13, none⟩ = some (.int .u64 f15) ∧ w'.cell? ⟨g', j * 14, none⟩ = some (.int .i64 y0) ∧ w'.cell? ⟨g', j * 14 + 1, none⟩ = some (.int .u64 y1) ∧ w'.cell? ⟨g', j * 14 + 2, none⟩ = some (.int .i64 y2) ∧ w'.cell? ⟨g', j * 14 + 3, none⟩ = some (.bool y3) ∧ w'.cell? ⟨g', j * 14 + 4, none⟩ = some (.slice y4 y5 y6) ∧ w'.cell? ⟨g', j * 14 + 5, none⟩ = some (.int .i64 y7) ∧ w'.cell? ⟨g', j * 14 + 6, none⟩ = some (.int .u64 y8) ∧ w'.cell? ⟨g', j * 14 + 7, none⟩ = some (.int .i64 y9) ∧ w'.cell? ⟨g', j * 14 + 8, none⟩ = some (.int .u64 y10) ∧ w'.cell? ⟨g', j * 14 + 9, none⟩ = some (.int .i64 y11) ∧ w'.cell? ⟨g', j * 14 + 10, none⟩ = some (.int .i64 y12) ∧ w'.cell? ⟨g', j * 14 + 11, none⟩ = some (.int .u64 y13) ∧ w'.cell? ⟨g', j * 14 + 12, none⟩ = some (.int .i64 y14) ∧ w'.cell? ⟨g', j * 14 + 13, none⟩ = some (.int .u64 y15)) mixed HS.out (fun hHeld => ?_)
      refine pickA (v := ?_) 0 (some 17) rfl rfl (by kernel_rfl) (by kernel_rfl) (by kernel_rfl) (by decide) (fun _ _ _ h => h) (by rfl) ?_ (by assumption) ?_
      rotate_left
      · intro w'
        go_simp
        try with_reducible rfl
      try simp only [Act.put, List.setIfInBounds_toArray, List.set_cons_zero, List.set_cons_succ]
      refine pickA (v := ?_) 1 (some 18) rfl rfl (by kernel_rfl) (by kernel_rfl) (by kernel_rfl) (by decide) (fun _ _ _ h => h) (by rfl) ?_ (by assumption) ?_
      rotate_left
      · intro w'
        go_simp
        try with_reducible rfl
      try simp only [Act.put, List.setIfInBounds_toArray, List.set_cons_zero, List.set_cons_succ]
      refine pickA (v := ?_) 2 (some 19) rfl rfl (by kernel_rfl) (by kernel_rfl) (by kernel_rfl) (by decide) (fun _ _ _ h => h) (by rfl) ?_ (by assumption) ?_
      rotate_left
      · intro w'
        go_simp
        try with_reducible rfl
      try simp only [Act.put, List.setIfInBounds_toArray, List.set_cons_zero, List.set_cons_succ]
      refine pickL (v := ?_) 3 (some 20) rfl rfl (by kernel_rfl) (by kernel_rfl) (by kernel_rfl) (by decide) (by kernel_rfl) (by kernel_rfl) (fun _ _ _ h => h) (by rfl) ?_ (by assumption) ?_
      rotate_left
      · intro w' hSw
        obtain ⟨q0, q1, q2, q3, q4, q5, q6, q7, q8, q9, q10, q11, q12, q13, q14, q15, q16, q17, q18, q19, q20, q21, q22, q23, q24, q25, q26, q27⟩ := hSw
        go_simp
        try with_reducible rfl
      try simp only [Act.put, List.setIfInBounds_toArray, List.set_cons_zero, List.set_cons_succ]
      refine pickA (v := ?_) 4 (some 21) rfl rfl (by kernel_rfl) (by kernel_rfl) (by kernel_rfl) (by decide) (fun _ _ _ h => h) (by rfl) ?_ (by assumption) ?_
      rotate_left
      · intro w'
        go_simp
        try with_reducible rfl
      try simp only [Act.put, List.setIfInBounds_toArray, List.set_cons_zero, List.set_cons_succ]
      refine pickA (v := ?_) 5 (some 22) rfl rfl (by kernel_rfl) (by kernel_rfl) (by kernel_rfl) (by decide) (fun _ _ _ h => h) (by rfl) ?_ (by assumption) ?_
      rotate_left
      · intro w'
        go_simp
        try with_reducible rfl
      try simp only [Act.put, List.setIfInBounds_toArray, List.set_cons_zero, List.set_cons_succ]
      refine pickA (v := ?_) 6 (some 23) rfl rfl (by kernel_rfl) (by kernel_rfl) (by kernel_rfl) (by decide) (fun _ _ _ h => h) (by rfl) ?_ (by assumption) ?_
      rotate_left
      · intro w'
        go_simp
        try with_reducible rfl
      try simp only [Act.put, List.setIfInBounds_toArray, List.set_cons_zero, List.set_cons_succ]
      refine pickL (v := ?_) 7 (some 24) rfl rfl (by kernel_rfl) (by kernel_rfl) (by kernel_rfl) (by decide) (by kernel_rfl) (by kernel_rfl) (fun _ _ _ h => h) (by rfl) ?_ (by assumption) ?_
      rotate_left
      · intro w' hSw
        obtain ⟨q0, q1, q2, q3, q4, q5, q6, q7, q8, q9, q10, q11, q12, q13, q14, q15, q16, q17, q18, q19, q20, q21, q22, q23, q24, q25, q26, q27⟩ := hSw
        go_simp
        try with_reducible rfl
      try simp only [Act.put, List.setIfInBounds_toArray, List.set_cons_zero, List.set_cons_succ]
      refine oneL (i := 8) (by kernel_rfl) rfl (fun K hK => ?_)
      go_simp
      refine (same_in (hvb _ hvm) (AT1.out.below ((Below.refl _ _).drew)) AS2.out (AT2.out.below ((Below.refl _ _).drew))).mono ?_; rintro e W5 ⟨rfl, hb⟩
      have hb5 : Hid (Below wr.heap.size wr W5) := ((Below.refl wr.heap.size wr).drew).trans (hb.mono (Nat.le_refl _))
      have hS5 := hide (hKeep.out W5 hb5.out)
      clear hb
      refine hK.out _ _ ?_ ?_
      · exact hS5.out
      clear hK K
      try simp only [Act.put, List.setIfInBounds_toArray, List.set_cons_zero, List.set_cons_succ]
      clear hHeld
      have hHeld : (fun w' => w'.cell? ⟨g, j * 14, none⟩ = some (.int .i64 f0) ∧ w'.cell? ⟨g, j * 14 + 1, none⟩ = some (.int .u64 f1) ∧ w'.cell? ⟨g, j * 14 + 2, none⟩ = some (.int .i64 f2) ∧ w'.cell? ⟨g, j * 14 + 3, none⟩ = some (.bool f3) ∧ w'.cell? ⟨g, j * 14 + 4, none⟩ = some (.slice f4 f5 f6) ∧ w'.cell? ⟨g, j * 14 + 5, none⟩ = some (.int .i64 f7) ∧ w'.cell? ⟨g, j * 14 + 6, none⟩ = some (.int .u64 f8) ∧ w'.cell? ⟨g, j * 14 + 7, none⟩ = some (.int .i64 f9) ∧ w'.cell? ⟨g, j * 14 + 8, none⟩ = some (.int .u64 f10) ∧ w'.cell? ⟨g, j * 14 + 9, none⟩ = some (.int .i64 f11) ∧ w'.cell? ⟨g, j * 14 + 10, none⟩ = some (.int .i64 f12) ∧ w'.cell? ⟨g, j * 14 + 11, none⟩ = some (.int .u64 f13) ∧ w'.cell? ⟨g, j * 14 + 12, none⟩ = some (.int .i64 f14) ∧ w'.cell? ⟨g, j * 14 + 13, none⟩ = some (.int .u64 f15) ∧ w'.cell? ⟨g', j * 14, none⟩ = some (.int .i64 y0) ∧ w'.cell? ⟨g', j * 14 + 1, none⟩ = some (.int .u64 y1) ∧ w'.cell? ⟨g', j * 14 + 2, none⟩ = some (.int .i64 y2) ∧ w'.cell? ⟨g', j * 14 + 3, none⟩ = some (.bool y3) ∧ w'.cell? ⟨g', j * 14 + 4, none⟩ = some (.slice y4 y5 y6) ∧ w'.cell? ⟨g', j * 14 + 5, none⟩ = some (.int .i64 y7) ∧ w'.cell? ⟨g', j * 14 + 6, none⟩ = some (.int .u64 y8) ∧ w'.cell? ⟨g', j * 14 + 7, none⟩ = some (.int .i64 y9) ∧ w'.cell? ⟨g', j * 14 + 8, none⟩ = some (.int .u64 y10) ∧ w'.cell? ⟨g', j * 14 + 9, none⟩ = some (.int .i64 y11) ∧ w'.cell? ⟨g', j * 14 + 10, none⟩ = some (.int .i64 y12) ∧ w'.cell? ⟨g', j * 14 + 11, none⟩ = some (.int .u64 y13) ∧ w'.cell? ⟨g', j * 14 + 12, none⟩ = some (.int .i64 y14) ∧ w'.cell? ⟨g', j * 14 + 13, none⟩ = some (.int .u64 y15)) W5 := hS5.out
      refine pickA (v := ?_) 9 (some 26) rfl rfl (by kernel_rfl) (by kernel_rfl) (by kernel_rfl) (by decide) (fun _ _ _ h => h) (by rfl) ?_ (by assumption) ?_
      rotate_left
      · intro w'
        go_simp
        try with_reducible rfl
      try simp only [Act.put, List.setIfInBounds_toArray, List.set_cons_zero, List.set_cons_succ]
      refine doneL (by kernel_rfl) ?_ _
      clear hHeld
      go_wp2
      exact ⟨⟨j + 1, by omega, by simp, HBW.out.trans (hb5.out.mono HBW.out.size)⟩, by simp [intOf]; omega⟩
    · have HBW := hide hbw
      clear hbw
      go_wp2
      go_ret
      exact ⟨rfl, HBW.out⟩

theorem infoFK : (Tryd.prog.info? 23).map (fun i => (i.zero, i.size, i.bytes)) = some (some (.int .i64 0), 1, 8) := by kernel_rfl
def ki (l : List Int) : List Value := l.map (Value.int .i64)
theorem append_kind {w : World} {ops : Array Oper} {rest : List Oper} {o : Oper} {a : Act} {Q : Exit → Act → World → Prop} (hgd : o.guard = none) (s x : Operand)
    (ho : o.op = .call { callee := .builtin .append, args := #[s, x], argTypes := #[53, 53] })
    (base : Nat) (la : Value) (n : Nat) (bl : List Int) (hs : a.eval s = la) (hown : w.ownsRow base 23 1 la n (ki bl))
    (B : Nat) (v : Int) (hx : a.eval x = .slice (some ⟨B, 0, none⟩) 1 1) (hB : IsB w B #[.int .i64 v] 23) (hm : n ≤ 1000) (hbase : base ≤ w.heap.size)
    (h : ∀ g cap w', w'.ownsRow base 23 1 (.slice (some ⟨g, 0, none⟩) (n + 1) cap) (n + 1) (ki (bl ++ [v])) → w.grownBy w' la.ownBlock → wpList Tryd.prog ops Q rest (a.put o.dst (.slice (some ⟨g, 0, none⟩) (n + 1) cap)) w') : wpList Tryd.prog ops Q (o :: rest) a w := by
  obtain ⟨i0, hi, hz0, hz1, hz2⟩ := info_parts infoFK
  refine wpList_append_lies _ hgd s x 53 ho base 23 i0 (.int .i64 0) 1 8 Tryd.underlying53 hi hz0 hz1 hz2 rfl (by decide) _ _ _ hs hown ⟨B, 0, none⟩ 1 1 #[.int .i64 v].toList hx rfl (World.news_of_block (cs := #[.int .i64 v]) (t := 23) (fr := (0, 0)) hB) (by intro u hu; simp at hu; subst hu; rfl) (by decide) (by unfold maxLen; omega) (by omega) hbase _ rfl ?_
  intro g cap w' h1 h2 _ _
  refine h g cap w' ?_ h2
  have e : ki (bl ++ [v]) = ki bl ++ #[.int .i64 v].toList := by simp [ki]
  rw [e]; exact h1

end Go.Proofs.YtmhcmlegdoapdaaDoor

/- PackBack: the law walked. -/
namespace Go.Proofs.YtmhcmlegdoapdaaDoor
open Go.RowKit

theorem cells_nth (ys : List (Fd × List UInt8)) (j : Nat) (p : Fd × List UInt8) (h : ys[j]? = some p) : (ys.map (·.1))[j]? = some p.1 := by rw [List.getElem?_map, h]; rfl
/-- Fields that were handed in: each may be, or there is a first that may not. -/
theorem ins_or {W : World} (hR : Ranks W) (ys : List (Fd × List UInt8)) (hI : ∀ p ∈ ys, InF W p.1 p.2 ∧ (0 ≤ p.1.f10 ∧ p.1.f10 < 18446744073709551616) ∧ (0 ≤ p.1.f13 ∧ p.1.f13 < 18446744073709551616)) :
    (∃ vs : List FV, vs.length = ys.length ∧ (∀ v ∈ vs, v.ok) ∧ ∀ (j : Nat) (v : FV) (p : Fd × List UInt8), vs[j]? = some v → ys[j]? = some p → PackOf W p.1 v.enc ∧ SAt v p.1 p.2 ∧ p.1.f0 = v.kind) ∨
    (∃ (k : Nat) (hk : k < ys.length) (vs : List FV), vs.length = k ∧ (∀ v ∈ vs, v.ok) ∧ (∀ (j : Nat) (v : FV) (p : Fd × List UInt8), vs[j]? = some v → ys[j]? = some p → PackOf W p.1 v.enc) ∧ ∀ w, Below W.heap.size W w → Calls Tryd.prog 14 #[.agg ys[k].1.cs] w fun e w' => e = .returned (.int .i64 30) ∧ Below w.heap.size w w') := by
  induction ys with
  | nil => exact Or.inl ⟨[], rfl, by simp, fun j v p h _ => by simp at h⟩
  | cons p r ih =>
    obtain ⟨h1, h2, h3⟩ := hI p List.mem_cons_self
    rcases in_or h1 hR h2 h3 with ⟨v, hv, hp, hs, hk⟩ | hbad
    · rcases ih (fun q hq => hI q (List.mem_cons_of_mem _ hq)) with ⟨vs, e1, e2, e3⟩ | ⟨k, hk', vs, e1, e2, e3, e4⟩
      · refine Or.inl ⟨v :: vs, by simp [e1], by intro x hx; rcases List.mem_cons.1 hx with rfl | hx; exact hv; exact e2 x hx, fun j v' p' hj hp' => ?_⟩
        cases j with
        | zero => simp at hj hp'; subst hj hp'; exact ⟨hp, hs, hk⟩
        | succ j => exact e3 j v' p' (by simpa using hj) (by simpa using hp')
      · refine Or.inr ⟨k + 1, by simpa using hk', v :: vs, by simp [e1], by intro x hx; rcases List.mem_cons.1 hx with rfl | hx; exact hv; exact e2 x hx, fun j v' p' hj hp' => ?_, by simpa using e4⟩
        cases j with
        | zero => simp at hj hp'; subst hj hp'; exact hp
        | succ j => exact e3 j v' p' (by simpa using hj) (by simpa using hp')
    · exact Or.inr ⟨0, by simp, [], rfl, by simp, fun j v p h _ => by simp at h, by simpa using hbad⟩
theorem vb_len (n : Nat) (b : Int) (h : n ≤ 32) : (vb n b).length ≤ 6 := by
  simp only [vb, List.length_cons, hb_len]
  omega
theorem kyb_len (r x : Int) : (kyb r x).length ≤ 9 := by
  simp only [kyb, List.length_cons, hb_len]
  split <;> omega
theorem enc_le (v : FV) (h : v.ok) : v.enc.length ≤ 70000 := by
  have hnb : ∀ x, x < 18446744073709551616 → (nb x).length ≤ 10 := fun x hx => nb_len10 x hx
  cases v with
  | num n => exact Nat.le_trans (hnb n h) (by omega)
  | int i => exact Nat.le_trans (hnb _ (fold_lt i h.1 h.2)) (by omega)
  | truth t => simp [FV.enc]
  | bytes l =>
    have := hnb l.length (by have := h.1; omega)
    have := h.1
    simp only [FV.enc, List.length_append]
    omega
  | vec n b => exact Nat.le_trans (vb_len n b h.1) (by omega)
  | key r x => exact Nat.le_trans (kyb_len r x) (by omega)
  | ref i r x n b =>
    have h1 := hnb _ (fold_lt i h.1.1 h.1.2)
    have h2 := kyb_len r x
    have h3 := vb_len n b h.2.2.1
    simp only [FV.enc, List.length_append]
    omega
theorem encs_total (vs : List FV) (h : ∀ v ∈ vs, v.ok) : (encs vs).length ≤ vs.length * 70000 := by
  induction vs with
  | nil => simp [encs]
  | cons v r ih =>
    have h1 := enc_le v (h v List.mem_cons_self)
    have h2 := ih (fun x hx => h x (List.mem_cons_of_mem _ hx))
    unfold encs at *
    rw [List.flatMap_cons, List.length_append, List.length_cons]
    omega

set_option maxHeartbeats 4000000 in
set_option maxRecDepth 100000 in
theorem size_nil (w : World) : Calls Tryd.prog 12 #[.slice none 0 0] w fun e w' => e = .returned (.tuple #[.int .i64 0, .int .i64 0]) ∧ w' = w := by
  go_enter Tryd.func12, Tryd.ntmps12
  go_wp2
  go_loopw [4, 10] (fun v i wr => i = .int .i64 0 ∧ v = .int .i64 0 ∧ wr = w) (fun _ _ _ => 0)
  case atStart => exact ⟨rfl, rfl, rfl⟩
  case round =>
    obtain ⟨rfl, rfl, hw⟩ := hrel
    rw [hw]
    go_wp2
    go_ret2
    exact ⟨rfl, rfl⟩

set_option maxHeartbeats 4000000 in
set_option maxRecDepth 100000 in
theorem pack_nil (w : World) : Calls Tryd.prog 10 #[.slice none 0 0] w fun e w' => ∃ g, w.heap.size ≤ g ∧ e = .returned (.tuple #[.slice (some ⟨g, 0, none⟩) 0 0, .int .i64 0]) ∧ w'.ownsRow w.heap.size 5 1 (.slice (some ⟨g, 0, none⟩) 0 0) 0 (u8s []) ∧ RowKit.Below w.heap.size w w' := by
  obtain ⟨i0, hi, hz0, hz1, hz2⟩ := info_parts Tryd.infoU8
  have HB := hide (Below.refl w.heap.size w)
  go_enter Tryd.func10, Tryd.ntmps10
  go_wp2_with fail
  refine (size_nil w).mono ?_; rintro e w1 ⟨rfl, rfl⟩
  go_wp2_with (at_make; refine wpList_make_own _ rfl _ _ 25 rfl w1.heap.size 5 i0 (.int .u8 0) 1 Tryd.underlying25 hi hz0 hz1 .i64 .i64 _ 0 rfl rfl (by omega) (by rw [hz2]; omega) (by unfold maxLen; omega) HB.out.size ?_; intro w2 hown2 hgrow2)
  have HB2 := hide (HB.out.grown hgrow2 HB.out.size (by simp))
  clear hgrow2
  go_loopw [6, 21] (fun v i wr => i = .int .i64 0 ∧ v = .slice (some ⟨w1.heap.size, 0, none⟩) 0 0 ∧ wr = w2) (fun _ _ _ => 0)
  case atStart => exact ⟨rfl, rfl, rfl⟩
  case round =>
    obtain ⟨rfl, rfl, hw⟩ := hrel
    rw [hw]
    have HO := hide hown2
    clear hown2 hw
    go_wp2
    go_ret2
    exact ⟨w1.heap.size, Nat.le_refl _, rfl, HO.out, HB2.out⟩

/-- Fields that lie there and may be, packed. -/
theorem packN (vs : List FV) (hv : ∀ v ∈ vs, v.ok) (fs : List Fd) (hfl : fs.length = vs.length) (m : Nat) (hm : vs.length = m) (hm20 : m ≤ 1000) (fa : Option Addr) (fc base : Nat) (w : World)
    (hown : w.ownsRow base 34 14 (.slice fa m fc) m (cellsOf fs)) (hP : ∀ (j : Nat) (v : FV) (f : Fd), vs[j]? = some v → fs[j]? = some f → PackOf w f v.enc) :
    Calls Tryd.prog 10 #[.slice fa m fc] w fun e w' => ∃ g n, n = (encs vs).length ∧ w.heap.size ≤ g ∧ e = .returned (.tuple #[.slice (some ⟨g, 0, none⟩) n n, .int .i64 0]) ∧ w'.ownsRow w.heap.size 5 1 (.slice (some ⟨g, 0, none⟩) n n) n (u8s (encs vs)) ∧ RowKit.Below w.heap.size w w' := by
  rcases Nat.eq_zero_or_pos m with h0 | h0
  · subst h0
    obtain rfl := List.eq_nil_of_length_eq_zero hm
    rcases hown.2 with ⟨h1, -⟩ | ⟨g, cap, cur, h1, -⟩
    · injection h1 with e1 e2 e3
      subst e1 e3
      refine (pack_nil w).mono ?_
      rintro e w' ⟨g, h1, h2, h3, h4⟩
      exact ⟨g, 0, rfl, h1, h2, h3, h4⟩
    · injection h1 with e1 e2 e3
      subst e1
      have := pack_any g 0 fc [] w (fun i p h => by simp at h) (by simp) (by simp [allOf])
      refine this.mono ?_
      rintro e w' ⟨g, h1, h2, h3, h4⟩
      exact ⟨g, 0, rfl, h1, h2, h3, h4⟩
  · obtain ⟨g, cap, h1, -⟩ := hown.form h0
    injection h1 with e1 e2 e3
    subst e1
    obtain ⟨zs, hzs⟩ : ∃ zs : List (Fd × List Int), zs = fs.zip (vs.map FV.enc) := ⟨_, rfl⟩
    have hzl : zs.length = m := by rw [hzs, List.length_zip, List.length_map, hfl, hm]; omega
    have hall : allOf zs = encs vs := by
      rw [hzs]
      unfold allOf encs
      rw [List.flatMap_def, List.flatMap_def]
      congr 1
      rw [show (fun x : Fd × List Int => x.2) = Prod.snd from rfl, List.map_snd_zip (by rw [List.length_map, hfl]; exact Nat.le_refl _)]
    have hF : FieldsAt w g 0 zs := fun i p hp => by
      rw [hzs, List.getElem?_zip_eq_some] at hp
      obtain ⟨h1, h2⟩ := hp
      rw [List.getElem?_map] at h2
      obtain ⟨v, hv1, hv2⟩ := Option.map_eq_some_iff.1 h2
      refine ⟨by rw [← hv2]; exact hP i v p.1 hv1 h1, fun j hj => ?_⟩
      have hil : i < m := by rw [← hm]; exact (List.getElem?_eq_some_iff.1 hv1).1
      rw [Nat.zero_add, hown.cellAt (i * 14 + j) (by have : m * 14 ≥ (i + 1) * 14 := Nat.mul_le_mul_right _ hil; omega)]
      exact cellsOf_get fs i _ h1 j hj
    have htot := encs_total vs hv
    have := pack_any g 0 fc zs w hF (by omega) (by rw [hall]; have : vs.length * 70000 ≤ 1000 * 70000 := Nat.mul_le_mul_right _ (by omega); omega)
    rw [hzl, hall] at this
    refine this.mono ?_
    rintro e w' ⟨g', h1, h2, h3, h4⟩
    exact ⟨g', _, rfl, h1, h2, h3, h4⟩
theorem packX (vs : List FV) (hv : ∀ v ∈ vs, v.ok) (fs : List Fd) (m k : Nat) (hm : fs.length = m) (hk : k < fs.length) (hkv : vs.length = k) (hm20 : m ≤ 1000) (fa : Option Addr) (fc base : Nat) (w : World)
    (hown : w.ownsRow base 34 14 (.slice fa m fc) m (cellsOf fs)) (hP : ∀ (j : Nat) (v : FV) (f : Fd), vs[j]? = some v → fs[j]? = some f → PackOf w f v.enc)
    (hbad : ∀ w', Below w.heap.size w w' → Calls Tryd.prog 14 #[.agg fs[k].cs] w' fun e w'' => e = .returned (.int .i64 30) ∧ Below w'.heap.size w' w'') :
    Calls Tryd.prog 10 #[.slice fa m fc] w fun e w' => e = .returned (.tuple #[.slice none 0 0, .int .i64 30]) ∧ RowKit.Below w.heap.size w w' := by
  obtain ⟨g, cap, h1, -⟩ := hown.form (by omega)
  injection h1 with e1 e2 e3
  subst e1
  obtain ⟨zs, hzs⟩ : ∃ zs : List (Fd × List Int), zs = (fs.take k).zip (vs.map FV.enc) := ⟨_, rfl⟩
  have hzl : zs.length = k := by rw [hzs, List.length_zip, List.length_map, List.length_take, hkv]; omega
  have hall : allOf zs = encs vs := by
    rw [hzs]
    unfold allOf encs
    rw [List.flatMap_def, List.flatMap_def]
    congr 1
    rw [show (fun x : Fd × List Int => x.2) = Prod.snd from rfl, List.map_snd_zip (by rw [List.length_map, List.length_take, hkv]; omega)]
  have hc : ∀ i f, fs[i]? = some f → ∀ j, j < 14 → w.cell? ⟨g, 0 + i * 14 + j, none⟩ = f.cs[j]? := fun i f hf j hj => by
    have hil : i < m := by rw [← hm]; exact (List.getElem?_eq_some_iff.1 hf).1
    rw [Nat.zero_add, hown.cellAt (i * 14 + j) (by have : m * 14 ≥ (i + 1) * 14 := Nat.mul_le_mul_right _ hil; omega)]
    exact cellsOf_get fs i _ hf j hj
  have hF : FieldsAt w g 0 zs := fun i p hp => by
    rw [hzs, List.getElem?_zip_eq_some] at hp
    obtain ⟨h1, h2⟩ := hp
    rw [List.getElem?_map] at h2
    obtain ⟨v, hv1, hv2⟩ := Option.map_eq_some_iff.1 h2
    rw [List.getElem?_take] at h1
    split at h1
    · exact ⟨by rw [← hv2]; exact hP i v p.1 hv1 h1, fun j hj => hc i _ h1 j hj⟩
    · cases h1
  have htot := encs_total vs hv
  exact pack_bad g 0 fc m zs fs[k] w hF hm20 (by omega) (by rw [hall]; have : vs.length * 70000 ≤ 1000 * 70000 := Nat.mul_le_mul_right _ (by omega); omega) (by rw [hzl]; exact fun j hj => hc k _ (List.getElem?_eq_getElem hk) j hj) hbad

end Go.Proofs.YtmhcmlegdoapdaaDoor

/- PackBack: the law walked. -/
namespace Go.Proofs.YtmhcmlegdoapdaaDoor
open Go.RowKit

theorem hb_bd2 (x : Int) : ∀ n, ∀ y ∈ hb x n, 0 ≤ y ∧ y < 256
  | 0 => by simp [hb]
  | n + 1 => by
    intro y hy
    simp only [hb, List.mem_cons] at hy
    rcases hy with rfl | hy
    · exact ⟨Int.emod_nonneg _ (by omega), Int.emod_lt_of_pos _ (by omega)⟩
    · exact hb_bd2 x n y hy
theorem enc_bd (v : FV) (h : v.ok) : ∀ c ∈ v.enc, 0 ≤ c ∧ c < 256 := by
  cases v with
  | num n => exact nb_bd n
  | int i => exact nb_bd _
  | truth t => intro c hc; cases t <;> simp [FV.enc] at hc <;> omega
  | bytes l =>
    intro c hc
    rcases List.mem_append.1 hc with hc | hc
    · exact nb_bd _ c hc
    · exact h.2 c hc
  | vec n b =>
    intro c hc
    rcases List.mem_cons.1 hc with rfl | hc
    · have := h.1; omega
    · exact hb_bd2 _ _ c hc
  | key r x =>
    intro c hc
    rcases List.mem_cons.1 hc with rfl | hc
    · have := h.1; have := h.2.1; omega
    · exact hb_bd2 _ _ c hc
  | ref i r x n b =>
    intro c hc
    rcases List.mem_append.1 hc with hc | hc
    · exact nb_bd _ c hc
    · rcases List.mem_append.1 hc with hc | hc
      · rcases List.mem_cons.1 hc with rfl | hc
        · have := h.2.1.1; have := h.2.1.2.1; omega
        · exact hb_bd2 _ _ c hc
      · rcases List.mem_cons.1 hc with rfl | hc
        · have := h.2.2.1; omega
        · exact hb_bd2 _ _ c hc
theorem encs_bd (vs : List FV) (h : ∀ v ∈ vs, v.ok) : ∀ c ∈ encs vs, 0 ≤ c ∧ c < 256 := by
  intro c hc
  obtain ⟨v, hv, hc⟩ := List.mem_flatMap.1 hc
  exact enc_bd v (h v hv) c hc
theorem kinds_ok (vs : List FV) : ∀ k ∈ vs.map FV.kind, 1 ≤ k ∧ k ≤ 7 := by
  intro k hk
  obtain ⟨v, -, rfl⟩ := List.mem_map.1 hk
  cases v <;> simp [FV.kind]
theorem firstT (ks l : List Int) (hks : ∀ k ∈ ks, 1 ≤ k ∧ k ≤ 7) (n m : Nat) (hl : l.length = n) (hm : ks.length = m) (hn : m ≤ 1000) (sb : Nat) (a : Option Addr) (cap : Nat) (ka : Option Addr) (kc : Nat) (w : World) (hR : Ranks w) (hB : Bys w sb a cap l) (hK : Kds w ka ks) :
    Calls Tryd.prog 20 #[.slice a n cap, .slice ka m kc] w fun e w' => Told w (pfields ks l) e w' := by
  subst hl hm
  exact first_any ks l hks hn sb a cap ka kc w hR hB hK
/-- Bytes of a row of one's own. -/
theorem own_bys {w : World} {base g n : Nat} {l : List Int} (h : w.ownsRow base 5 1 (.slice (some ⟨g, 0, none⟩) n n) n (u8s l)) (hl : l.length = n) (hn : n ≤ 1000000000) (hb : ∀ c ∈ l, 0 ≤ c ∧ c < 256) : Bys w g (some ⟨g, 0, none⟩) n l :=
  ⟨by omega, by omega, by omega, hb, (h.lt g rfl).2, Or.inr ⟨0, rfl, own_cells h⟩⟩
theorem own_kds {w : World} {base n c : Nat} {ka : Option Addr} {l : List Int} (h : w.ownsRow base 23 1 (.slice ka n c) n (ki l)) (hl : l.length = n) : Kds w ka l := fun j k hj => by
  have hjl := (List.getElem?_eq_some_iff.1 hj).1
  obtain ⟨g, cap, h1, -⟩ := h.form (by omega)
  injection h1 with e1 e2 e3
  subst e1
  refine ⟨g, 0, rfl, ?_⟩
  have hl2 := h.1
  rw [Nat.zero_add, h.cellAt j (by omega)]
  unfold ki
  rw [List.getElem?_map, hj]; rfl
theorem txt_row {w : World} {base g n : Nat} (E : List UInt8) (hE : E.length = n) (h : w.ownsRow base 5 1 (.slice (some ⟨g, 0, none⟩) n n) n (u8s (ints E))) : Txt w (.slice (some ⟨g, 0, none⟩) n n) ⟨E.toArray⟩ := by
  subst hE
  exact txt_own E h
/-- The first bytes of those that were handed in. -/
theorem bys_txt {w : World} {sb : Nat} {a : Option Addr} {cap : Nat} {l : List Int} (h : Bys w sb a cap l) (n : Nat) (hn : n ≤ l.length) (E : List UInt8) (hE : l.take n = ints E) : Txt w (.slice a n cap) ⟨E.toArray⟩ := by
  obtain ⟨-, -, -, -, -, h6⟩ := h
  have hl : E.length = n := by
    have := congrArg List.length hE
    rw [List.length_take, ints_len] at this
    omega
  rcases h6 with ⟨h1, h2, h3⟩ | ⟨o, h1, h2⟩
  · subst h1 h2 h3
    obtain rfl : n = 0 := by simpa using hn
    obtain rfl := List.eq_nil_of_length_eq_zero hl
    exact txt_nil w
  · subst h1
    rw [← hl]
    refine txt_cells E fun j hj => ?_
    have h3 := h2 j (by omega)
    rw [h3, ← ints_get E j hj]
    have e : (ints E)[j]'(by rw [ints_len]; exact hj) = (l.take n)[j]'(by rw [List.length_take]; omega) := by simp only [hE]
    rw [e, List.getElem_take]

set_option maxHeartbeats 64000000 in
set_option maxRecDepth 100000 in
theorem packBack_any (xs : List (Fd × List UInt8)) (la : Option Addr) (nx lc : Nat) (hnx : xs.length = nx) (L : List UInt8) (ks : List Int) (sb : Nat) (a : Option Addr) (len cap : Nat) (ka : Option Addr) (m kc : Nat) (w : World) (hR : Ranks w) (hlen : L.length = len) (hkl : ks.length = m)
    (hlc : len ≤ cap) (hcap : cap ≤ 9223372036854775807) (hsb : sb < w.heap.size) (ha : (a = none ∧ L = [] ∧ cap = 0) ∨ ∃ o, a = some ⟨sb, o, none⟩ ∧ ∀ j (hj : j < L.length), w.cell? ⟨sb, o + j, none⟩ = some (.int .u8 (L[j].toNat : Int)))
    (hmc : m ≤ kc) (hkc : kc ≤ 9223372036854775807) (hkn : ka = none → m = 0) (hK : Kds w ka ks) (hX : FIn w la xs) (hX2 : ∀ p ∈ xs, (0 ≤ p.1.f10 ∧ p.1.f10 < 18446744073709551616) ∧ (0 ≤ p.1.f13 ∧ p.1.f13 < 18446744073709551616)) :
    Calls Tryd.prog 6 #[.slice la nx lc, .slice a len cap, .slice ka m kc] w fun e w' => e = .returned (.bool true) ∧ Below w.heap.size w w' := by
  have mixed : Tryd.prog.follows .mixedOrders = true := by kernel_rfl
  obtain ⟨l1, hl1e⟩ : ∃ l1, l1 = ints (L.take 700) := ⟨_, rfl⟩
  have hl0 : Hid (l1.length = min 700 len) := by show _ = _; rw [hl1e, ints_len, List.length_take, hlen]
  have HBY : Hid (Bys w sb a cap l1) := by
    have hl0 := hl0.out
    refine ⟨by omega, hcap, by omega, by rw [hl1e]; exact ints_bd _, hsb, ?_⟩
    rcases ha with ⟨h1, h2, h3⟩ | ⟨o, h1, h2⟩
    · exact Or.inl ⟨h1, by rw [hl1e, h2]; rfl, h3⟩
    · refine Or.inr ⟨o, h1, fun j hj => ?_⟩
      subst hl1e
      rw [ints_len] at hj
      rw [ints_get _ j hj, List.getElem_take]
      rw [List.length_take] at hj
      exact h2 j (by omega)
  have hnone : Hid (a = none → len = 0) := fun h => by
    rcases ha with ⟨h1, h2, h3⟩ | ⟨o, h1, h2⟩
    · rw [← hlen, h2]; rfl
    · rw [h] at h1; cases h1
  have hcn : Hid (a = none → cap = 0) := fun h => by
    rcases ha with ⟨h1, h2, h3⟩ | ⟨o, h1, h2⟩
    · exact h3
    · rw [h] at h1; cases h1
  clear ha hl1e hlen
  have HX := hide hX
  have HX2 := hide hX2
  replace hR := hide hR
  replace hK := hide hK
  replace hkl := hide hkl
  replace hnx := hide hnx
  clear hX hX2
  go_enter Tryd.func6, Tryd.ntmps6
  go_wp2_with fail
  refine (few_any xs la nx lc hnx.out w HX.out).mono ?_; rintro e w1 ⟨oa, oc, rfl, hown, hb1⟩
  obtain ⟨ys, hys⟩ : ∃ ys, ys = fewP xs := ⟨_, rfl⟩
  rw [← hys] at hown ⊢
  have hIn : ∀ p ∈ ys, InF w1 p.1 p.2 ∧ (0 ≤ p.1.f10 ∧ p.1.f10 < 18446744073709551616) ∧ (0 ≤ p.1.f13 ∧ p.1.f13 < 18446744073709551616) := by
    intro p hp
    rw [hys] at hp
    unfold fewP at hp
    obtain ⟨q, hq, rfl⟩ := List.mem_map.1 hp
    have hq2 := List.mem_of_mem_take hq
    obtain ⟨j, hj, rfl⟩ := List.getElem_of_mem hq2
    have h1 := (HX.out j _ (List.getElem?_eq_getElem hj)).2
    have h2 := HX2.out _ hq2
    refine ⟨h1.cut.below hb1, ?_⟩
    unfold cutP cutF
    split <;> exact h2
  have hy20 : ys.length ≤ 20 := by rw [hys]; unfold fewP; rw [List.length_map, List.length_take]; omega
  have HO := hide hown
  have B1 := hide hb1
  replace hIn := hide hIn
  clear hown hb1 HX HX2 hys hnx
  generalize hM : ys.length = M at *
  replace hM := hide hM
  go_wp2_with fail
  refine (fewKinds_any ka m kc hmc hkc hkn _).mono ?_; rintro e w0 ⟨⟨m', hm0, rfl⟩, rfl⟩
  obtain ⟨ks1, hks1⟩ : ∃ ks1, ks1 = ks.take 20 := ⟨_, rfl⟩
  have hm' : Hid (ks1.length = m') := by show _ = _; rw [hks1, List.length_take, hkl.out]; omega
  have hm20 : m' ≤ 1000 := by omega
  have HK : Hid (Kds w ka ks1) := by rw [hks1]; exact hK.out.take 20
  clear hks1 hm0 hK hkl
  rcases ins_or (hR.out.below B1.out) ys hIn.out with ⟨vs, hvl, hvo, hvr⟩ | ⟨k, hk, vs, hvl, hvo, hvr, hbad⟩
  · rw [hM.out] at hvl
    replace hvo := hide hvo
    replace hvr := hide hvr
    go_wp2_with fail
    refine (packN vs hvo.out (ys.map (·.1)) (by rw [List.length_map, hM.out, hvl]) M hvl (by omega) oa oc _ _ HO.out (fun j v f h1 h2 => by
      rw [List.getElem?_map] at h2
      obtain ⟨p, hp1, rfl⟩ := Option.map_eq_some_iff.1 h2
      exact (hvr.out j v p h1 hp1).1)).mono ?_; rintro e w2 ⟨g2, n2, hn2, hg2, rfl, hown2, hb⟩
    subst hvl
    have B2 := hide (B1.out.trans (hb.mono B1.out.size))
    have FI2 : Hid (FI w2 vs ys oa oc w.heap.size) := ⟨hM.out, own_keep HO.out hb, fun j v p h1 h2 => ⟨(hvr.out j v p h1 h2).2.1, (hIn.out p (List.mem_of_getElem? h2)).1.below hb⟩⟩
    have hkd : Hid (ys.map (fun p => p.1.f0) = vs.map FV.kind) := by
      show _ = _
      apply List.ext_getElem?
      intro j
      rw [List.getElem?_map, List.getElem?_map]
      by_cases hj : j < vs.length
      · have hjy : j < ys.length := by rw [hM.out]; exact hj
        rw [List.getElem?_eq_getElem hj, List.getElem?_eq_getElem hjy]
        simp only [Option.map_some]
        rw [(hvr.out j _ _ (List.getElem?_eq_getElem hj) (List.getElem?_eq_getElem hjy)).2.2]
      · rw [List.getElem?_eq_none (by rw [hM.out]; omega), List.getElem?_eq_none (by omega)]
        rfl
    have HO2 := hide hown2
    have hnt : n2 ≤ 1000000000 := by
      have h1 := encs_total vs hvo.out
      have : vs.length * 70000 ≤ 20 * 70000 := Nat.mul_le_mul_right _ hy20
      omega
    replace hn2 := hide hn2
    clear hown2 hb HO B1 hIn hvr hg2
    go_wp2
    go_loopw [9, 10] (fun u i wr => ∃ (j : Nat) (ua : Option Addr) (uc : Nat), j ≤ vs.length ∧ i = .int .i64 (j : Int) ∧ u = .slice ua j uc ∧ Hid (wr.ownsRow w2.heap.size 23 1 (.slice ua j uc) j (ki ((ys.map (fun p => p.1.f0)).take j))) ∧ Hid (Below w2.heap.size w2 wr)) (fun _ i _ => vs.length - (intOf i).toNat)
    case atStart => exact ⟨0, none, 0, by omega, rfl, rfl, World.ownsRow_nil _ _ _ _, Below.refl _ _⟩
    case round =>
      obtain ⟨j, ua, uc, hj, rfl, rfl, HU, HBW⟩ := hrel
      by_cases hlt : j < vs.length
      · obtain ⟨g, p, rfl, hg, hp, -, -, hc⟩ := (FI2.out.below HBW.out).at_ j hlt
        have d0 : wr.cell? ⟨g, j * 14, none⟩ = some (.int .i64 p.1.f0) := hc 0 (by omega)
        have hnext : Hid ((ys.map (fun p => p.1.f0)).take (j + 1) = (ys.map (fun p => p.1.f0)).take j ++ [p.1.f0]) := by
          show _ = _
          have hpj : (ys.map (fun p => p.1.f0))[j]? = some p.1.f0 := by rw [List.getElem?_map, hp]; rfl
          obtain ⟨h1, h2⟩ := List.getElem?_eq_some_iff.1 hpj
          rw [List.take_succ_eq_append_getElem h1, h2]
        have hsz := HBW.out.size
        clear hc hp
        generalize p.1.f0 = kk at *
        go_wp2_with (
          at_builtin
          refine append_kind rfl (.tmp 36) (.tmp 42) rfl w2.heap.size _ j ((ys.map (fun p => p.1.f0)).take j) rfl (HU.out.alloc _) wr.heap.size kk rfl (IsB.new wr _ _) (by omega) (by simp; omega) ?_
          intro g6 c6 w6 hown6 hgrow6
          have HO6 : Hid (w6.ownsRow w2.heap.size 23 1 (.slice (some ⟨g6, 0, none⟩) (j + 1) c6) (j + 1) (ki ((ys.map (fun p => p.1.f0)).take (j + 1)))) := by
            show World.ownsRow _ _ _ _ _ _ _
            rw [hnext.out]
            exact hown6
          have HB6 := hide ((HBW.out.alloc hsz _).grown hgrow6 (by simp; omega) (fun q hq => (HU.out.lt q hq).1))
          clear hown6 hgrow6)
        go_roundw
        case rel => exact ⟨j + 1, _, _, by omega, by go_num, rfl, HO6, HB6⟩
        case measure => simp [intOf]; omega
      · obtain rfl : j = vs.length := by omega
        have hko : Hid (wr.ownsRow w2.heap.size 23 1 (.slice ua vs.length uc) vs.length (ki (vs.map FV.kind))) := by
          have := HU.out
          rw [List.take_of_length_le (by rw [List.length_map, hM.out]; exact Nat.le_refl _), hkd.out] at this
          exact this
        have B3 := hide (B2.out.trans (HBW.out.mono B2.out.size))
        have FI3 := hide (FI2.out.below HBW.out)
        have HO3 := hide (own_keep HO2.out HBW.out)
        have hpe := pfields_enc vs hvo.out []
        rw [List.append_nil] at hpe
        clear hlt HU FI2 HO2
        go_wp2_with fail
        refine (unpackN (vs.map FV.kind) (encs vs) (kinds_ok vs) n2 vs.length hn2.out.symm (List.length_map _) (by omega) g2 _ n2 ua uc _ (hR.out.below B3.out) (own_bys HO3.out hn2.out.symm hnt (encs_bd vs hvo.out)) (own_kds hko.out (List.length_map _))).mono ?_; intro e w4 hE
        rw [hpe] at hE
        obtain ⟨hE, hb⟩ := hE
        obtain ⟨fa4, fc4, fs4, b4, rfl, hF4⟩ : ∃ fa fc fs b, e = .returned (.tuple #[.slice fa vs.length fc, .int .i64 0, .int .i64 0]) ∧ FR w4 vs fa fc fs b := by
          rcases hE with ⟨h, -⟩ | ⟨-, h⟩
          · have := hn2.out; omega
          · exact h
        have B4 := hide (B3.out.trans (hb.mono B3.out.size))
        have FI4 := hide (FI3.out.below hb)
        have FR4 := hide hF4
        have hvb : Hid (∀ v ∈ vs, v.byts) := fun v hv l hr => ints_of l (fun c hc => by
          have := hvo.out v hv
          cases v with
          | bytes r => cases hr; exact this.2 c hc
          | num n => cases hr
          | int i => cases hr
          | truth t => cases hr
          | vec n b => cases hr
          | key r x => cases hr
          | ref i r x n b => cases hr)
        clear hE hb hF4 hko FI3 HO3 hpe B3
        go_wp2_with fail
        refine (sameAll_in vs hvb.out (by omega) ys fa4 oa fc4 oc fs4 _ _ _ FR4.out FI4.out).mono ?_; rintro e w5 ⟨rfl, hb⟩
        have BX := hide (B4.out.trans (hb.mono B4.out.size))
        clear hb FR4 FI4 hvb B4 B2 HBW hkd hn2 hvo hM
        by_cases hbig : len ≤ 700
        · have hl1 : Hid (l1.length = len) := by show _ = _; rw [hl0.out]; omega
          clear hl0
          cases a with
          | none =>
            obtain rfl : len = 0 := hnone.out rfl
            rcases kinds_or ks1 with hks | ⟨k0, hk0, hks, hbad⟩
            · rcases hp : pfields ks1 l1 with ⟨vs2, n2⟩ | ⟨i, er⟩
              · obtain ⟨g1, g2, g3, -⟩ := pfields_dec ks1 hks l1 HBY.out.2.2.2.1 vs2 n2 hp
                have hvl2 : vs2.length ≤ 1000 := by rw [(read_len ks1 l1 hks HBY.out.2.2.2.1 vs2 n2 hp).1, hm'.out]; exact hm20
                replace g1 := hide g1
                replace g3 := hide g3
                have hn2 : n2 ≤ 0 := by rw [← hl1.out]; exact g2
                clear g2
                have hn2i : (n2 : Int) ≤ (0 : Int) := by omega
                replace hks := hide hks
                go_wp2_with fail
                refine (firstT ks1 l1 hks.out 0 m' hl1.out hm'.out hm20 sb none cap ka kc _ (hR.out.below BX.out) (HBY.out.below BX.out) (HK.out.below BX.out)).mono ?_; intro e w7 hE
                rw [hp] at hE
                obtain ⟨⟨za, zc, rfl, fs2, hf1, hf2, hf3, hf4⟩, hb⟩ := hE
                have BY := hide (BX.out.trans (hb.mono BX.out.size))
                have HF2 := hide hf2
                have HP2 : Hid (∀ (j : Nat) (v : FV) (f : Fd), vs2[j]? = some v → fs2[j]? = some f → PackOf w7 f v.enc) := fun j v f h1 h2 => packOf_at (g3.out v (List.mem_of_getElem? h1)) (hR.out.below BY.out) (hf3 j v f h1 h2)
                have hfl2 := hide hf1
                clear hf1 hf2 hf3 hf4 hb
                go_wp2_with fail
                refine (packN vs2 g3.out fs2 hfl2.out vs2.length rfl hvl2 za zc _ w7 HF2.out HP2.out).mono ?_; rintro e w8 ⟨g8, n8, hn8, hg8, rfl, hown8, hb⟩
                have BW0 := hide (BY.out.trans (hb.mono BY.out.size))
                obtain ⟨E, hE⟩ := ints_of (encs vs2) (encs_bd vs2 g3.out)
                have hEl : E.length = n8 := by rw [hn8, hE, ints_len]
                rw [hE] at hown8
                have TW := hide (txt_row E hEl hown8)
                have TB := hide (bys_txt (HBY.out.below BW0.out) n2 (by rw [hl1.out]; exact hn2) E (by rw [g1.out]; exact hE))
                have BW := hide (BW0.out.drew)
                have hnc : n2 ≤ cap := by have := HBY.out.1; rw [hl1.out] at this; omega
                clear hown8 hb HF2 HP2 BY BX BW0 hp hn8 hg8 hE hEl
                obtain rfl : cap = 0 := hcn.out (by first | rfl | trivial)
                obtain rfl : n2 = 0 := by omega
                go_wp2
                generalize w8 = WF at *
                refine regionL 25 (fun w' => Below WF.heap.size WF w') mixed ((Below.refl WF.heap.size WF).drew) (fun hHeld => ?_)
                refine pickA (v := ?_) 0 (some 84) rfl rfl (by kernel_rfl) (by kernel_rfl) (by kernel_rfl) (by decide) (fun _ _ _ h => h) (by rfl) ?_ (by assumption) ?_
                rotate_left
                · intro w'
                  go_simp
                  try with_reducible rfl
                try simp only [Act.put, List.setIfInBounds_toArray, List.set_cons_zero, List.set_cons_succ]
                refine pickA (v := ?_) 1 (some 85) rfl rfl (by kernel_rfl) (by kernel_rfl) (by kernel_rfl) (by decide) (fun _ _ _ h => h) (by rfl) ?_ (by assumption) ?_
                rotate_left
                · intro w'
                  go_simp
                  try with_reducible rfl
                try simp only [Act.put, List.setIfInBounds_toArray, List.set_cons_zero, List.set_cons_succ]
                refine pickA (v := ?_) 2 (some 86) rfl rfl (by kernel_rfl) (by kernel_rfl) (by kernel_rfl) (by decide) (fun _ _ _ h => h) (by rfl) ?_ (by assumption) ?_
                rotate_left
                · intro w'
                  go_simp
                  try with_reducible rfl
                try simp only [Act.put, List.setIfInBounds_toArray, List.set_cons_zero, List.set_cons_succ]
                refine pickA (v := ?_) 3 (some 87) rfl rfl (by kernel_rfl) (by kernel_rfl) (by kernel_rfl) (by decide) (fun _ _ _ h => h) (by rfl) ?_ (by assumption) ?_
                rotate_left
                · intro w'
                  go_simp
                  try with_reducible rfl
                try simp only [Act.put, List.setIfInBounds_toArray, List.set_cons_zero, List.set_cons_succ]
                refine pickA (v := ?_) 4 (some 88) rfl rfl (by kernel_rfl) (by kernel_rfl) (by kernel_rfl) (by decide) (fun _ _ _ h => h) (by rfl) ?_ (by assumption) ?_
                rotate_left
                · intro w'
                  go_simp
                  try with_reducible rfl
                try simp only [Act.put, List.setIfInBounds_toArray, List.set_cons_zero, List.set_cons_succ]
                refine pickA (v := ?_) 5 (some 89) rfl rfl (by kernel_rfl) (by kernel_rfl) (by kernel_rfl) (by decide) (fun _ _ _ h => h) (by rfl) ?_ (by assumption) ?_
                rotate_left
                · intro w'
                  go_simp
                  try with_reducible rfl
                try simp only [Act.put, List.setIfInBounds_toArray, List.set_cons_zero, List.set_cons_succ]
                refine pickA (v := ?_) 6 (some 90) rfl rfl (by kernel_rfl) (by kernel_rfl) (by kernel_rfl) (by decide) (fun _ _ _ h => h) (by rfl) ?_ (by assumption) ?_
                rotate_left
                · intro w'
                  go_simp
                  try with_reducible rfl
                try simp only [Act.put, List.setIfInBounds_toArray, List.set_cons_zero, List.set_cons_succ]
                refine pickA (v := ?_) 7 (some 91) rfl rfl (by kernel_rfl) (by kernel_rfl) (by kernel_rfl) (by decide) (fun _ _ _ h => h) (by rfl) ?_ (by assumption) ?_
                rotate_left
                · intro w'
                  go_simp
                  try with_reducible rfl
                try simp only [Act.put, List.setIfInBounds_toArray, List.set_cons_zero, List.set_cons_succ]
                refine pickA (v := ?_) 8 (some 92) rfl rfl (by kernel_rfl) (by kernel_rfl) (by kernel_rfl) (by decide) (fun _ _ _ h => h) (by rfl) ?_ (by assumption) ?_
                rotate_left
                · intro w'
                  go_simp
                  try with_reducible rfl
                try simp only [Act.put, List.setIfInBounds_toArray, List.set_cons_zero, List.set_cons_succ]
                refine pickA (v := ?_) 9 (some 93) rfl rfl (by kernel_rfl) (by kernel_rfl) (by kernel_rfl) (by decide) (fun _ _ _ h => h) (by rfl) ?_ (by assumption) ?_
                rotate_left
                · intro w'
                  go_simp
                  try with_reducible rfl
                try simp only [Act.put, List.setIfInBounds_toArray, List.set_cons_zero, List.set_cons_succ]
                refine pickA (v := ?_) 10 (some 94) rfl rfl (by kernel_rfl) (by kernel_rfl) (by kernel_rfl) (by decide) (fun _ _ _ h => h) (by rfl) ?_ (by assumption) ?_
                rotate_left
                · intro w'
                  go_simp
                  try with_reducible rfl
                try simp only [Act.put, List.setIfInBounds_toArray, List.set_cons_zero, List.set_cons_succ]
                refine pickA (v := ?_) 11 (some 95) rfl rfl (by kernel_rfl) (by kernel_rfl) (by kernel_rfl) (by decide) (fun _ _ _ h => h) (by rfl) ?_ (by assumption) ?_
                rotate_left
                · intro w'
                  go_simp
                  try with_reducible rfl
                try simp only [Act.put, List.setIfInBounds_toArray, List.set_cons_zero, List.set_cons_succ]
                refine pickA (v := ?_) 12 (some 96) rfl rfl (by kernel_rfl) (by kernel_rfl) (by kernel_rfl) (by decide) (fun _ _ _ h => h) (by rfl) ?_ (by assumption) ?_
                rotate_left
                · intro w'
                  go_simp
                  try with_reducible rfl
                try simp only [Act.put, List.setIfInBounds_toArray, List.set_cons_zero, List.set_cons_succ]
                refine pickA (v := ?_) 13 (some 97) rfl rfl (by kernel_rfl) (by kernel_rfl) (by kernel_rfl) (by decide) (fun _ _ _ h => h) (by rfl) ?_ (by assumption) ?_
                rotate_left
                · intro w'
                  go_simp
                  try with_reducible rfl
                try simp only [Act.put, List.setIfInBounds_toArray, List.set_cons_zero, List.set_cons_succ]
                refine pickL (v := ?_) 14 (some 98) rfl rfl (by kernel_rfl) (by kernel_rfl) (by kernel_rfl) (by decide) (by kernel_rfl) (by kernel_rfl) (fun _ _ _ h => h) (by rfl) ?_ (by assumption) ?_
                rotate_left
                · intro w' hSw
                  have t1 := TW.out w' hSw
                  go_simp
                  try with_reducible rfl
                try simp only [Act.put, List.setIfInBounds_toArray, List.set_cons_zero, List.set_cons_succ]
                refine pickA (v := ?_) 15 (some 99) rfl rfl (by kernel_rfl) (by kernel_rfl) (by kernel_rfl) (by decide) (fun _ _ _ h => h) (by rfl) ?_ (by assumption) ?_
                rotate_left
                · intro w'
                  go_simp
                  try with_reducible rfl
                try simp only [Act.put, List.setIfInBounds_toArray, List.set_cons_zero, List.set_cons_succ]
                refine pickA (v := ?_) 16 (some 100) rfl rfl (by kernel_rfl) (by kernel_rfl) (by kernel_rfl) (by decide) (fun _ _ _ h => h) (by rfl) ?_ (by assumption) ?_
                rotate_left
                · intro w'
                  go_simp
                  try with_reducible rfl
                try simp only [Act.put, List.setIfInBounds_toArray, List.set_cons_zero, List.set_cons_succ]
                refine pickA (v := ?_) 17 (some 101) rfl rfl (by kernel_rfl) (by kernel_rfl) (by kernel_rfl) (by decide) (fun _ _ _ h => h) (by rfl) ?_ (by assumption) ?_
                rotate_left
                · intro w'
                  go_simp
                  try with_reducible rfl
                try simp only [Act.put, List.setIfInBounds_toArray, List.set_cons_zero, List.set_cons_succ]
                refine pickL (v := ?_) 18 (some 102) rfl rfl (by kernel_rfl) (by kernel_rfl) (by kernel_rfl) (by decide) (by kernel_rfl) (by kernel_rfl) (fun _ _ _ h => h) (by rfl) ?_ (by assumption) ?_
                rotate_left
                · intro w' hSw
                  have t1 := TB.out w' hSw
                  go_simp
                  try with_reducible rfl
                try simp only [Act.put, List.setIfInBounds_toArray, List.set_cons_zero, List.set_cons_succ]
                refine pickA (v := ?_) 19 (some 103) rfl rfl (by kernel_rfl) (by kernel_rfl) (by kernel_rfl) (by decide) (fun _ _ _ h => h) (by rfl) ?_ (by assumption) ?_
                rotate_left
                · intro w'
                  go_simp
                  try with_reducible rfl
                try simp only [Act.put, List.setIfInBounds_toArray, List.set_cons_zero, List.set_cons_succ]
                refine pickA (v := ?_) 20 (some 104) rfl rfl (by kernel_rfl) (by kernel_rfl) (by kernel_rfl) (by decide) (fun _ _ _ h => h) (by rfl) ?_ (by assumption) ?_
                rotate_left
                · intro w'
                  go_simp
                  try with_reducible rfl
                try simp only [Act.put, List.setIfInBounds_toArray, List.set_cons_zero, List.set_cons_succ]
                refine pickA (v := ?_) 21 (some 105) rfl rfl (by kernel_rfl) (by kernel_rfl) (by kernel_rfl) (by decide) (fun _ _ _ h => h) (by rfl) ?_ (by assumption) ?_
                rotate_left
                · intro w'
                  go_simp
                  try with_reducible rfl
                try simp only [Act.put, List.setIfInBounds_toArray, List.set_cons_zero, List.set_cons_succ]
                refine oneL (i := 22) (by kernel_rfl) rfl (fun K hK => ?_)
                go_simp
                refine (alive_any _ (hR.out.below BW.out)).mono ?_; rintro e w9 ⟨rfl, hb⟩
                have B9 := hide (BW.out.trans (hb.mono BW.out.size))
                have hS9 : Hid (Below WF.heap.size WF w9) := ((Below.refl WF.heap.size WF).drew).trans (hb.mono (Nat.le_refl _))
                clear hb
                refine hK.out _ _ ?_ ?_
                · exact hS9.out
                clear hK K
                try simp only [Act.put, List.setIfInBounds_toArray, List.set_cons_zero, List.set_cons_succ]
                clear hHeld
                have hHeld : Below WF.heap.size WF w9 := hS9.out
                refine pickA (v := ?_) 23 (some 107) rfl rfl (by kernel_rfl) (by kernel_rfl) (by kernel_rfl) (by decide) (fun _ _ _ h => h) (by rfl) ?_ (by assumption) ?_
                rotate_left
                · intro w'
                  go_simp
                  try with_reducible rfl
                try simp only [Act.put, List.setIfInBounds_toArray, List.set_cons_zero, List.set_cons_succ]
                refine pickA (v := ?_) 24 (some 6) rfl rfl (by kernel_rfl) (by kernel_rfl) (by kernel_rfl) (by decide) (fun _ _ _ h => h) (by rfl) ?_ (by assumption) ?_
                rotate_left
                · intro w'
                  go_simp
                  try with_reducible rfl
                try simp only [Act.put, List.setIfInBounds_toArray, List.set_cons_zero, List.set_cons_succ]
                refine doneL (by kernel_rfl) ?_ _
                clear hHeld
                go_wp2
                go_ret
                exact ⟨rfl, B9.out⟩
              · have her := pfields_err ks1 l1 i er hp
                have hne : (er != 0) = true := by simp [her]
                replace hks := hide hks
                go_wp2_with fail
                refine (firstT ks1 l1 hks.out 0 m' hl1.out hm'.out hm20 sb none cap ka kc _ (hR.out.below BX.out) (HBY.out.below BX.out) (HK.out.below BX.out)).mono ?_; intro e w7 hE
                rw [hp] at hE
                obtain ⟨rfl, hb⟩ := hE
                replace BX := hide (BX.out.trans (hb.mono BX.out.size))
                clear hb her
                go_wp2_with fail
                refine (alive_any _ (hR.out.below BX.out)).mono ?_; rintro e w9 ⟨rfl, hb⟩
                have B9 := hide (BX.out.trans (hb.mono BX.out.size))
                clear hb
                go_wp2
                go_ret
                exact ⟨rfl, B9.out⟩
            · replace hks := hide hks
              replace hbad := hide hbad
              go_wp2_with fail
              refine (firstX ks1 m' hm'.out k0 hk0 hks.out hbad.out hm20 none 0 cap ka kc _ (HK.out.below BX.out)).mono ?_; rintro e w7 ⟨rfl, rfl⟩
              go_wp2_with fail
              refine (alive_any _ (hR.out.below BX.out)).mono ?_; rintro e w9 ⟨rfl, hb⟩
              have B9 := hide (BX.out.trans (hb.mono BX.out.size))
              clear hb
              go_wp2
              go_ret
              exact ⟨rfl, B9.out⟩
          | some ad =>
            rcases kinds_or ks1 with hks | ⟨k0, hk0, hks, hbad⟩
            · rcases hp : pfields ks1 l1 with ⟨vs2, n2⟩ | ⟨i, er⟩
              · obtain ⟨g1, g2, g3, -⟩ := pfields_dec ks1 hks l1 HBY.out.2.2.2.1 vs2 n2 hp
                have hvl2 : vs2.length ≤ 1000 := by rw [(read_len ks1 l1 hks HBY.out.2.2.2.1 vs2 n2 hp).1, hm'.out]; exact hm20
                replace g1 := hide g1
                replace g3 := hide g3
                have hn2 : n2 ≤ len := by rw [← hl1.out]; exact g2
                clear g2
                have hn2i : (n2 : Int) ≤ (len : Int) := by omega
                replace hks := hide hks
                go_wp2_with fail
                refine (firstT ks1 l1 hks.out len m' hl1.out hm'.out hm20 sb (some ad) cap ka kc _ (hR.out.below BX.out) (HBY.out.below BX.out) (HK.out.below BX.out)).mono ?_; intro e w7 hE
                rw [hp] at hE
                obtain ⟨⟨za, zc, rfl, fs2, hf1, hf2, hf3, hf4⟩, hb⟩ := hE
                have BY := hide (BX.out.trans (hb.mono BX.out.size))
                have HF2 := hide hf2
                have HP2 : Hid (∀ (j : Nat) (v : FV) (f : Fd), vs2[j]? = some v → fs2[j]? = some f → PackOf w7 f v.enc) := fun j v f h1 h2 => packOf_at (g3.out v (List.mem_of_getElem? h1)) (hR.out.below BY.out) (hf3 j v f h1 h2)
                have hfl2 := hide hf1
                clear hf1 hf2 hf3 hf4 hb
                go_wp2_with fail
                refine (packN vs2 g3.out fs2 hfl2.out vs2.length rfl hvl2 za zc _ w7 HF2.out HP2.out).mono ?_; rintro e w8 ⟨g8, n8, hn8, hg8, rfl, hown8, hb⟩
                have BW0 := hide (BY.out.trans (hb.mono BY.out.size))
                obtain ⟨E, hE⟩ := ints_of (encs vs2) (encs_bd vs2 g3.out)
                have hEl : E.length = n8 := by rw [hn8, hE, ints_len]
                rw [hE] at hown8
                have TW := hide (txt_row E hEl hown8)
                have TB := hide (bys_txt (HBY.out.below BW0.out) n2 (by rw [hl1.out]; exact hn2) E (by rw [g1.out]; exact hE))
                have BW := hide (BW0.out.drew)
                have hnc : n2 ≤ cap := by have := HBY.out.1; rw [hl1.out] at this; omega
                clear hown8 hb HF2 HP2 BY BX BW0 hp hn8 hg8 hE hEl
                go_wp2
                generalize w8 = WF at *
                refine regionL 25 (fun w' => Below WF.heap.size WF w') mixed ((Below.refl WF.heap.size WF).drew) (fun hHeld => ?_)
                refine pickA (v := ?_) 0 (some 84) rfl rfl (by kernel_rfl) (by kernel_rfl) (by kernel_rfl) (by decide) (fun _ _ _ h => h) (by rfl) ?_ (by assumption) ?_
                rotate_left
                · intro w'
                  go_simp
                  try with_reducible rfl
                try simp only [Act.put, List.setIfInBounds_toArray, List.set_cons_zero, List.set_cons_succ]
                refine pickA (v := ?_) 1 (some 85) rfl rfl (by kernel_rfl) (by kernel_rfl) (by kernel_rfl) (by decide) (fun _ _ _ h => h) (by rfl) ?_ (by assumption) ?_
                rotate_left
                · intro w'
                  go_simp
                  try with_reducible rfl
                try simp only [Act.put, List.setIfInBounds_toArray, List.set_cons_zero, List.set_cons_succ]
                refine pickA (v := ?_) 2 (some 86) rfl rfl (by kernel_rfl) (by kernel_rfl) (by kernel_rfl) (by decide) (fun _ _ _ h => h) (by rfl) ?_ (by assumption) ?_
                rotate_left
                · intro w'
                  go_simp
                  try with_reducible rfl
                try simp only [Act.put, List.setIfInBounds_toArray, List.set_cons_zero, List.set_cons_succ]
                refine pickA (v := ?_) 3 (some 87) rfl rfl (by kernel_rfl) (by kernel_rfl) (by kernel_rfl) (by decide) (fun _ _ _ h => h) (by rfl) ?_ (by assumption) ?_
                rotate_left
                · intro w'
                  go_simp
                  try with_reducible rfl
                try simp only [Act.put, List.setIfInBounds_toArray, List.set_cons_zero, List.set_cons_succ]
                refine pickA (v := ?_) 4 (some 88) rfl rfl (by kernel_rfl) (by kernel_rfl) (by kernel_rfl) (by decide) (fun _ _ _ h => h) (by rfl) ?_ (by assumption) ?_
                rotate_left
                · intro w'
                  go_simp
                  try with_reducible rfl
                try simp only [Act.put, List.setIfInBounds_toArray, List.set_cons_zero, List.set_cons_succ]
                refine pickA (v := ?_) 5 (some 89) rfl rfl (by kernel_rfl) (by kernel_rfl) (by kernel_rfl) (by decide) (fun _ _ _ h => h) (by rfl) ?_ (by assumption) ?_
                rotate_left
                · intro w'
                  go_simp
                  try with_reducible rfl
                try simp only [Act.put, List.setIfInBounds_toArray, List.set_cons_zero, List.set_cons_succ]
                refine pickA (v := ?_) 6 (some 90) rfl rfl (by kernel_rfl) (by kernel_rfl) (by kernel_rfl) (by decide) (fun _ _ _ h => h) (by rfl) ?_ (by assumption) ?_
                rotate_left
                · intro w'
                  go_simp
                  try with_reducible rfl
                try simp only [Act.put, List.setIfInBounds_toArray, List.set_cons_zero, List.set_cons_succ]
                refine pickA (v := ?_) 7 (some 91) rfl rfl (by kernel_rfl) (by kernel_rfl) (by kernel_rfl) (by decide) (fun _ _ _ h => h) (by rfl) ?_ (by assumption) ?_
                rotate_left
                · intro w'
                  go_simp
                  try with_reducible rfl
                try simp only [Act.put, List.setIfInBounds_toArray, List.set_cons_zero, List.set_cons_succ]
                refine pickA (v := ?_) 8 (some 92) rfl rfl (by kernel_rfl) (by kernel_rfl) (by kernel_rfl) (by decide) (fun _ _ _ h => h) (by rfl) ?_ (by assumption) ?_
                rotate_left
                · intro w'
                  go_simp
                  try with_reducible rfl
                try simp only [Act.put, List.setIfInBounds_toArray, List.set_cons_zero, List.set_cons_succ]
                refine pickA (v := ?_) 9 (some 93) rfl rfl (by kernel_rfl) (by kernel_rfl) (by kernel_rfl) (by decide) (fun _ _ _ h => h) (by rfl) ?_ (by assumption) ?_
                rotate_left
                · intro w'
                  go_simp
                  try with_reducible rfl
                try simp only [Act.put, List.setIfInBounds_toArray, List.set_cons_zero, List.set_cons_succ]
                refine pickA (v := ?_) 10 (some 94) rfl rfl (by kernel_rfl) (by kernel_rfl) (by kernel_rfl) (by decide) (fun _ _ _ h => h) (by rfl) ?_ (by assumption) ?_
                rotate_left
                · intro w'
                  go_simp
                  try with_reducible rfl
                try simp only [Act.put, List.setIfInBounds_toArray, List.set_cons_zero, List.set_cons_succ]
                refine pickA (v := ?_) 11 (some 95) rfl rfl (by kernel_rfl) (by kernel_rfl) (by kernel_rfl) (by decide) (fun _ _ _ h => h) (by rfl) ?_ (by assumption) ?_
                rotate_left
                · intro w'
                  go_simp
                  try with_reducible rfl
                try simp only [Act.put, List.setIfInBounds_toArray, List.set_cons_zero, List.set_cons_succ]
                refine pickA (v := ?_) 12 (some 96) rfl rfl (by kernel_rfl) (by kernel_rfl) (by kernel_rfl) (by decide) (fun _ _ _ h => h) (by rfl) ?_ (by assumption) ?_
                rotate_left
                · intro w'
                  go_simp
                  try with_reducible rfl
                try simp only [Act.put, List.setIfInBounds_toArray, List.set_cons_zero, List.set_cons_succ]
                refine pickA (v := ?_) 13 (some 97) rfl rfl (by kernel_rfl) (by kernel_rfl) (by kernel_rfl) (by decide) (fun _ _ _ h => h) (by rfl) ?_ (by assumption) ?_
                rotate_left
                · intro w'
                  go_simp
                  try with_reducible rfl
                try simp only [Act.put, List.setIfInBounds_toArray, List.set_cons_zero, List.set_cons_succ]
                refine pickL (v := ?_) 14 (some 98) rfl rfl (by kernel_rfl) (by kernel_rfl) (by kernel_rfl) (by decide) (by kernel_rfl) (by kernel_rfl) (fun _ _ _ h => h) (by rfl) ?_ (by assumption) ?_
                rotate_left
                · intro w' hSw
                  have t1 := TW.out w' hSw
                  go_simp
                  try with_reducible rfl
                try simp only [Act.put, List.setIfInBounds_toArray, List.set_cons_zero, List.set_cons_succ]
                refine pickA (v := ?_) 15 (some 99) rfl rfl (by kernel_rfl) (by kernel_rfl) (by kernel_rfl) (by decide) (fun _ _ _ h => h) (by rfl) ?_ (by assumption) ?_
                rotate_left
                · intro w'
                  go_simp
                  try with_reducible rfl
                try simp only [Act.put, List.setIfInBounds_toArray, List.set_cons_zero, List.set_cons_succ]
                refine pickA (v := ?_) 16 (some 100) rfl rfl (by kernel_rfl) (by kernel_rfl) (by kernel_rfl) (by decide) (fun _ _ _ h => h) (by rfl) ?_ (by assumption) ?_
                rotate_left
                · intro w'
                  go_simp
                  try with_reducible rfl
                try simp only [Act.put, List.setIfInBounds_toArray, List.set_cons_zero, List.set_cons_succ]
                refine pickA (v := ?_) 17 (some 101) rfl rfl (by kernel_rfl) (by kernel_rfl) (by kernel_rfl) (by decide) (fun _ _ _ h => h) (by rfl) ?_ (by assumption) ?_
                rotate_left
                · intro w'
                  go_simp
                  try with_reducible rfl
                try simp only [Act.put, List.setIfInBounds_toArray, List.set_cons_zero, List.set_cons_succ]
                refine pickL (v := ?_) 18 (some 102) rfl rfl (by kernel_rfl) (by kernel_rfl) (by kernel_rfl) (by decide) (by kernel_rfl) (by kernel_rfl) (fun _ _ _ h => h) (by rfl) ?_ (by assumption) ?_
                rotate_left
                · intro w' hSw
                  have t1 := TB.out w' hSw
                  go_simp
                  try with_reducible rfl
                try simp only [Act.put, List.setIfInBounds_toArray, List.set_cons_zero, List.set_cons_succ]
                refine pickA (v := ?_) 19 (some 103) rfl rfl (by kernel_rfl) (by kernel_rfl) (by kernel_rfl) (by decide) (fun _ _ _ h => h) (by rfl) ?_ (by assumption) ?_
                rotate_left
                · intro w'
                  go_simp
                  try with_reducible rfl
                try simp only [Act.put, List.setIfInBounds_toArray, List.set_cons_zero, List.set_cons_succ]
                refine pickA (v := ?_) 20 (some 104) rfl rfl (by kernel_rfl) (by kernel_rfl) (by kernel_rfl) (by decide) (fun _ _ _ h => h) (by rfl) ?_ (by assumption) ?_
                rotate_left
                · intro w'
                  go_simp
                  try with_reducible rfl
                try simp only [Act.put, List.setIfInBounds_toArray, List.set_cons_zero, List.set_cons_succ]
                refine pickA (v := ?_) 21 (some 105) rfl rfl (by kernel_rfl) (by kernel_rfl) (by kernel_rfl) (by decide) (fun _ _ _ h => h) (by rfl) ?_ (by assumption) ?_
                rotate_left
                · intro w'
                  go_simp
                  try with_reducible rfl
                try simp only [Act.put, List.setIfInBounds_toArray, List.set_cons_zero, List.set_cons_succ]
                refine oneL (i := 22) (by kernel_rfl) rfl (fun K hK => ?_)
                go_simp
                refine (alive_any _ (hR.out.below BW.out)).mono ?_; rintro e w9 ⟨rfl, hb⟩
                have B9 := hide (BW.out.trans (hb.mono BW.out.size))
                have hS9 : Hid (Below WF.heap.size WF w9) := ((Below.refl WF.heap.size WF).drew).trans (hb.mono (Nat.le_refl _))
                clear hb
                refine hK.out _ _ ?_ ?_
                · exact hS9.out
                clear hK K
                try simp only [Act.put, List.setIfInBounds_toArray, List.set_cons_zero, List.set_cons_succ]
                clear hHeld
                have hHeld : Below WF.heap.size WF w9 := hS9.out
                refine pickA (v := ?_) 23 (some 107) rfl rfl (by kernel_rfl) (by kernel_rfl) (by kernel_rfl) (by decide) (fun _ _ _ h => h) (by rfl) ?_ (by assumption) ?_
                rotate_left
                · intro w'
                  go_simp
                  try with_reducible rfl
                try simp only [Act.put, List.setIfInBounds_toArray, List.set_cons_zero, List.set_cons_succ]
                refine pickA (v := ?_) 24 (some 6) rfl rfl (by kernel_rfl) (by kernel_rfl) (by kernel_rfl) (by decide) (fun _ _ _ h => h) (by rfl) ?_ (by assumption) ?_
                rotate_left
                · intro w'
                  go_simp
                  try with_reducible rfl
                try simp only [Act.put, List.setIfInBounds_toArray, List.set_cons_zero, List.set_cons_succ]
                refine doneL (by kernel_rfl) ?_ _
                clear hHeld
                go_wp2
                go_ret
                exact ⟨rfl, B9.out⟩
              · have her := pfields_err ks1 l1 i er hp
                have hne : (er != 0) = true := by simp [her]
                replace hks := hide hks
                go_wp2_with fail
                refine (firstT ks1 l1 hks.out len m' hl1.out hm'.out hm20 sb (some ad) cap ka kc _ (hR.out.below BX.out) (HBY.out.below BX.out) (HK.out.below BX.out)).mono ?_; intro e w7 hE
                rw [hp] at hE
                obtain ⟨rfl, hb⟩ := hE
                replace BX := hide (BX.out.trans (hb.mono BX.out.size))
                clear hb her
                go_wp2_with fail
                refine (alive_any _ (hR.out.below BX.out)).mono ?_; rintro e w9 ⟨rfl, hb⟩
                have B9 := hide (BX.out.trans (hb.mono BX.out.size))
                clear hb
                go_wp2
                go_ret
                exact ⟨rfl, B9.out⟩
            · replace hks := hide hks
              replace hbad := hide hbad
              go_wp2_with fail
              refine (firstX ks1 m' hm'.out k0 hk0 hks.out hbad.out hm20 (some ad) len cap ka kc _ (HK.out.below BX.out)).mono ?_; rintro e w7 ⟨rfl, rfl⟩
              go_wp2_with fail
              refine (alive_any _ (hR.out.below BX.out)).mono ?_; rintro e w9 ⟨rfl, hb⟩
              have B9 := hide (BX.out.trans (hb.mono BX.out.size))
              clear hb
              go_wp2
              go_ret
              exact ⟨rfl, B9.out⟩
        · have hl1 : Hid (l1.length = 700) := by show _ = _; rw [hl0.out]; omega
          clear hl0
          obtain ⟨ad, rfl⟩ : ∃ ad, a = some ad := by
            cases a with
            | none => have := hnone.out rfl; omega
            | some ad => exact ⟨ad, rfl⟩
          rcases kinds_or ks1 with hks | ⟨k0, hk0, hks, hbad⟩
          · rcases hp : pfields ks1 l1 with ⟨vs2, n2⟩ | ⟨i, er⟩
            · obtain ⟨g1, g2, g3, -⟩ := pfields_dec ks1 hks l1 HBY.out.2.2.2.1 vs2 n2 hp
              have hvl2 : vs2.length ≤ 1000 := by rw [(read_len ks1 l1 hks HBY.out.2.2.2.1 vs2 n2 hp).1, hm'.out]; exact hm20
              replace g1 := hide g1
              replace g3 := hide g3
              have hn2 : n2 ≤ 700 := by rw [← hl1.out]; exact g2
              clear g2
              have hn2i : (n2 : Int) ≤ (700 : Int) := by omega
              replace hks := hide hks
              go_wp2_with fail
              refine (firstT ks1 l1 hks.out 700 m' hl1.out hm'.out hm20 sb (some ad) cap ka kc _ (hR.out.below BX.out) (HBY.out.below BX.out) (HK.out.below BX.out)).mono ?_; intro e w7 hE
              rw [hp] at hE
              obtain ⟨⟨za, zc, rfl, fs2, hf1, hf2, hf3, hf4⟩, hb⟩ := hE
              have BY := hide (BX.out.trans (hb.mono BX.out.size))
              have HF2 := hide hf2
              have HP2 : Hid (∀ (j : Nat) (v : FV) (f : Fd), vs2[j]? = some v → fs2[j]? = some f → PackOf w7 f v.enc) := fun j v f h1 h2 => packOf_at (g3.out v (List.mem_of_getElem? h1)) (hR.out.below BY.out) (hf3 j v f h1 h2)
              have hfl2 := hide hf1
              clear hf1 hf2 hf3 hf4 hb
              go_wp2_with fail
              refine (packN vs2 g3.out fs2 hfl2.out vs2.length rfl hvl2 za zc _ w7 HF2.out HP2.out).mono ?_; rintro e w8 ⟨g8, n8, hn8, hg8, rfl, hown8, hb⟩
              have BW0 := hide (BY.out.trans (hb.mono BY.out.size))
              obtain ⟨E, hE⟩ := ints_of (encs vs2) (encs_bd vs2 g3.out)
              have hEl : E.length = n8 := by rw [hn8, hE, ints_len]
              rw [hE] at hown8
              have TW := hide (txt_row E hEl hown8)
              have TB := hide (bys_txt (HBY.out.below BW0.out) n2 (by rw [hl1.out]; exact hn2) E (by rw [g1.out]; exact hE))
              have BW := hide (BW0.out.drew)
              have hnc : n2 ≤ cap := by have := HBY.out.1; rw [hl1.out] at this; omega
              clear hown8 hb HF2 HP2 BY BX BW0 hp hn8 hg8 hE hEl
              go_wp2
              generalize w8 = WF at *
              refine regionL 25 (fun w' => Below WF.heap.size WF w') mixed ((Below.refl WF.heap.size WF).drew) (fun hHeld => ?_)
              refine pickA (v := ?_) 0 (some 84) rfl rfl (by kernel_rfl) (by kernel_rfl) (by kernel_rfl) (by decide) (fun _ _ _ h => h) (by rfl) ?_ (by assumption) ?_
              rotate_left
              · intro w'
                go_simp
                try with_reducible rfl
              try simp only [Act.put, List.setIfInBounds_toArray, List.set_cons_zero, List.set_cons_succ]
              refine pickA (v := ?_) 1 (some 85) rfl rfl (by kernel_rfl) (by kernel_rfl) (by kernel_rfl) (by decide) (fun _ _ _ h => h) (by rfl) ?_ (by assumption) ?_
              rotate_left
              · intro w'
                go_simp
                try with_reducible rfl
              try simp only [Act.put, List.setIfInBounds_toArray, List.set_cons_zero, List.set_cons_succ]
              refine pickA (v := ?_) 2 (some 86) rfl rfl (by kernel_rfl) (by kernel_rfl) (by kernel_rfl) (by decide) (fun _ _ _ h => h) (by rfl) ?_ (by assumption) ?_
              rotate_left
              · intro w'
                go_simp
                try with_reducible rfl
              try simp only [Act.put, List.setIfInBounds_toArray, List.set_cons_zero, List.set_cons_succ]
              refine pickA (v := ?_) 3 (some 87) rfl rfl (by kernel_rfl) (by kernel_rfl) (by kernel_rfl) (by decide) (fun _ _ _ h => h) (by rfl) ?_ (by assumption) ?_
              rotate_left
              · intro w'
                go_simp
                try with_reducible rfl
              try simp only [Act.put, List.setIfInBounds_toArray, List.set_cons_zero, List.set_cons_succ]
              refine pickA (v := ?_) 4 (some 88) rfl rfl (by kernel_rfl) (by kernel_rfl) (by kernel_rfl) (by decide) (fun _ _ _ h => h) (by rfl) ?_ (by assumption) ?_
              rotate_left
              · intro w'
                go_simp
                try with_reducible rfl
              try simp only [Act.put, List.setIfInBounds_toArray, List.set_cons_zero, List.set_cons_succ]
              refine pickA (v := ?_) 5 (some 89) rfl rfl (by kernel_rfl) (by kernel_rfl) (by kernel_rfl) (by decide) (fun _ _ _ h => h) (by rfl) ?_ (by assumption) ?_
              rotate_left
              · intro w'
                go_simp
                try with_reducible rfl
              try simp only [Act.put, List.setIfInBounds_toArray, List.set_cons_zero, List.set_cons_succ]
              refine pickA (v := ?_) 6 (some 90) rfl rfl (by kernel_rfl) (by kernel_rfl) (by kernel_rfl) (by decide) (fun _ _ _ h => h) (by rfl) ?_ (by assumption) ?_
              rotate_left
              · intro w'
                go_simp
                try with_reducible rfl
              try simp only [Act.put, List.setIfInBounds_toArray, List.set_cons_zero, List.set_cons_succ]
              refine pickA (v := ?_) 7 (some 91) rfl rfl (by kernel_rfl) (by kernel_rfl) (by kernel_rfl) (by decide) (fun _ _ _ h => h) (by rfl) ?_ (by assumption) ?_
              rotate_left
              · intro w'
                go_simp
                try with_reducible rfl
              try simp only [Act.put, List.setIfInBounds_toArray, List.set_cons_zero, List.set_cons_succ]
              refine pickA (v := ?_) 8 (some 92) rfl rfl (by kernel_rfl) (by kernel_rfl) (by kernel_rfl) (by decide) (fun _ _ _ h => h) (by rfl) ?_ (by assumption) ?_
              rotate_left
              · intro w'
                go_simp
                try with_reducible rfl
              try simp only [Act.put, List.setIfInBounds_toArray, List.set_cons_zero, List.set_cons_succ]
              refine pickA (v := ?_) 9 (some 93) rfl rfl (by kernel_rfl) (by kernel_rfl) (by kernel_rfl) (by decide) (fun _ _ _ h => h) (by rfl) ?_ (by assumption) ?_
              rotate_left
              · intro w'
                go_simp
                try with_reducible rfl
              try simp only [Act.put, List.setIfInBounds_toArray, List.set_cons_zero, List.set_cons_succ]
              refine pickA (v := ?_) 10 (some 94) rfl rfl (by kernel_rfl) (by kernel_rfl) (by kernel_rfl) (by decide) (fun _ _ _ h => h) (by rfl) ?_ (by assumption) ?_
              rotate_left
              · intro w'
                go_simp
                try with_reducible rfl
              try simp only [Act.put, List.setIfInBounds_toArray, List.set_cons_zero, List.set_cons_succ]
              refine pickA (v := ?_) 11 (some 95) rfl rfl (by kernel_rfl) (by kernel_rfl) (by kernel_rfl) (by decide) (fun _ _ _ h => h) (by rfl) ?_ (by assumption) ?_
              rotate_left
              · intro w'
                go_simp
                try with_reducible rfl
              try simp only [Act.put, List.setIfInBounds_toArray, List.set_cons_zero, List.set_cons_succ]
              refine pickA (v := ?_) 12 (some 96) rfl rfl (by kernel_rfl) (by kernel_rfl) (by kernel_rfl) (by decide) (fun _ _ _ h => h) (by rfl) ?_ (by assumption) ?_
              rotate_left
              · intro w'
                go_simp
                try with_reducible rfl
              try simp only [Act.put, List.setIfInBounds_toArray, List.set_cons_zero, List.set_cons_succ]
              refine pickA (v := ?_) 13 (some 97) rfl rfl (by kernel_rfl) (by kernel_rfl) (by kernel_rfl) (by decide) (fun _ _ _ h => h) (by rfl) ?_ (by assumption) ?_
              rotate_left
              · intro w'
                go_simp
                try with_reducible rfl
              try simp only [Act.put, List.setIfInBounds_toArray, List.set_cons_zero, List.set_cons_succ]
              refine pickL (v := ?_) 14 (some 98) rfl rfl (by kernel_rfl) (by kernel_rfl) (by kernel_rfl) (by decide) (by kernel_rfl) (by kernel_rfl) (fun _ _ _ h => h) (by rfl) ?_ (by assumption) ?_
              rotate_left
              · intro w' hSw
                have t1 := TW.out w' hSw
                go_simp
                try with_reducible rfl
              try simp only [Act.put, List.setIfInBounds_toArray, List.set_cons_zero, List.set_cons_succ]
              refine pickA (v := ?_) 15 (some 99) rfl rfl (by kernel_rfl) (by kernel_rfl) (by kernel_rfl) (by decide) (fun _ _ _ h => h) (by rfl) ?_ (by assumption) ?_
              rotate_left
              · intro w'
                go_simp
                try with_reducible rfl
              try simp only [Act.put, List.setIfInBounds_toArray, List.set_cons_zero, List.set_cons_succ]
              refine pickA (v := ?_) 16 (some 100) rfl rfl (by kernel_rfl) (by kernel_rfl) (by kernel_rfl) (by decide) (fun _ _ _ h => h) (by rfl) ?_ (by assumption) ?_
              rotate_left
              · intro w'
                go_simp
                try with_reducible rfl
              try simp only [Act.put, List.setIfInBounds_toArray, List.set_cons_zero, List.set_cons_succ]
              refine pickA (v := ?_) 17 (some 101) rfl rfl (by kernel_rfl) (by kernel_rfl) (by kernel_rfl) (by decide) (fun _ _ _ h => h) (by rfl) ?_ (by assumption) ?_
              rotate_left
              · intro w'
                go_simp
                try with_reducible rfl
              try simp only [Act.put, List.setIfInBounds_toArray, List.set_cons_zero, List.set_cons_succ]
              refine pickL (v := ?_) 18 (some 102) rfl rfl (by kernel_rfl) (by kernel_rfl) (by kernel_rfl) (by decide) (by kernel_rfl) (by kernel_rfl) (fun _ _ _ h => h) (by rfl) ?_ (by assumption) ?_
              rotate_left
              · intro w' hSw
                have t1 := TB.out w' hSw
                go_simp
                try with_reducible rfl
              try simp only [Act.put, List.setIfInBounds_toArray, List.set_cons_zero, List.set_cons_succ]
              refine pickA (v := ?_) 19 (some 103) rfl rfl (by kernel_rfl) (by kernel_rfl) (by kernel_rfl) (by decide) (fun _ _ _ h => h) (by rfl) ?_ (by assumption) ?_
              rotate_left
              · intro w'
                go_simp
                try with_reducible rfl
              try simp only [Act.put, List.setIfInBounds_toArray, List.set_cons_zero, List.set_cons_succ]
              refine pickA (v := ?_) 20 (some 104) rfl rfl (by kernel_rfl) (by kernel_rfl) (by kernel_rfl) (by decide) (fun _ _ _ h => h) (by rfl) ?_ (by assumption) ?_
              rotate_left
              · intro w'
                go_simp
                try with_reducible rfl
              try simp only [Act.put, List.setIfInBounds_toArray, List.set_cons_zero, List.set_cons_succ]
              refine pickA (v := ?_) 21 (some 105) rfl rfl (by kernel_rfl) (by kernel_rfl) (by kernel_rfl) (by decide) (fun _ _ _ h => h) (by rfl) ?_ (by assumption) ?_
              rotate_left
              · intro w'
                go_simp
                try with_reducible rfl
              try simp only [Act.put, List.setIfInBounds_toArray, List.set_cons_zero, List.set_cons_succ]
              refine oneL (i := 22) (by kernel_rfl) rfl (fun K hK => ?_)
              go_simp
              refine (alive_any _ (hR.out.below BW.out)).mono ?_; rintro e w9 ⟨rfl, hb⟩
              have B9 := hide (BW.out.trans (hb.mono BW.out.size))
              have hS9 : Hid (Below WF.heap.size WF w9) := ((Below.refl WF.heap.size WF).drew).trans (hb.mono (Nat.le_refl _))
              clear hb
              refine hK.out _ _ ?_ ?_
              · exact hS9.out
              clear hK K
              try simp only [Act.put, List.setIfInBounds_toArray, List.set_cons_zero, List.set_cons_succ]
              clear hHeld
              have hHeld : Below WF.heap.size WF w9 := hS9.out
              refine pickA (v := ?_) 23 (some 107) rfl rfl (by kernel_rfl) (by kernel_rfl) (by kernel_rfl) (by decide) (fun _ _ _ h => h) (by rfl) ?_ (by assumption) ?_
              rotate_left
              · intro w'
                go_simp
                try with_reducible rfl
              try simp only [Act.put, List.setIfInBounds_toArray, List.set_cons_zero, List.set_cons_succ]
              refine pickA (v := ?_) 24 (some 6) rfl rfl (by kernel_rfl) (by kernel_rfl) (by kernel_rfl) (by decide) (fun _ _ _ h => h) (by rfl) ?_ (by assumption) ?_
              rotate_left
              · intro w'
                go_simp
                try with_reducible rfl
              try simp only [Act.put, List.setIfInBounds_toArray, List.set_cons_zero, List.set_cons_succ]
              refine doneL (by kernel_rfl) ?_ _
              clear hHeld
              go_wp2
              go_ret
              exact ⟨rfl, B9.out⟩
            · have her := pfields_err ks1 l1 i er hp
              have hne : (er != 0) = true := by simp [her]
              replace hks := hide hks
              go_wp2_with fail
              refine (firstT ks1 l1 hks.out 700 m' hl1.out hm'.out hm20 sb (some ad) cap ka kc _ (hR.out.below BX.out) (HBY.out.below BX.out) (HK.out.below BX.out)).mono ?_; intro e w7 hE
              rw [hp] at hE
              obtain ⟨rfl, hb⟩ := hE
              replace BX := hide (BX.out.trans (hb.mono BX.out.size))
              clear hb her
              go_wp2_with fail
              refine (alive_any _ (hR.out.below BX.out)).mono ?_; rintro e w9 ⟨rfl, hb⟩
              have B9 := hide (BX.out.trans (hb.mono BX.out.size))
              clear hb
              go_wp2
              go_ret
              exact ⟨rfl, B9.out⟩
          · replace hks := hide hks
            replace hbad := hide hbad
            go_wp2_with fail
            refine (firstX ks1 m' hm'.out k0 hk0 hks.out hbad.out hm20 (some ad) 700 cap ka kc _ (HK.out.below BX.out)).mono ?_; rintro e w7 ⟨rfl, rfl⟩
            go_wp2_with fail
            refine (alive_any _ (hR.out.below BX.out)).mono ?_; rintro e w9 ⟨rfl, hb⟩
            have B9 := hide (BX.out.trans (hb.mono BX.out.size))
            clear hb
            go_wp2
            go_ret
            exact ⟨rfl, B9.out⟩
  · have hkM : k < (ys.map (·.1)).length := by rw [List.length_map]; exact hk
    replace hvo := hide hvo
    replace hvr := hide hvr
    replace hbad := hide hbad
    go_wp2_with fail
    refine (packX vs hvo.out (ys.map (·.1)) M k (by rw [List.length_map]; exact hM.out) hkM hvl (by omega) oa oc _ _ HO.out (fun j v f h1 h2 => by
      rw [List.getElem?_map] at h2
      obtain ⟨p, hp1, rfl⟩ := Option.map_eq_some_iff.1 h2
      exact hvr.out j v p h1 hp1) (by rw [List.getElem_map]; exact hbad.out)).mono ?_; rintro e w2 ⟨rfl, hb⟩
    have BX := hide (B1.out.trans (hb.mono B1.out.size))
    clear hb HO hIn hvr hbad hvo B1 hM hvl
    by_cases hbig : len ≤ 700
    · have hl1 : Hid (l1.length = len) := by show _ = _; rw [hl0.out]; omega
      clear hl0
      cases a with
      | none =>
        obtain rfl : len = 0 := hnone.out rfl
        rcases kinds_or ks1 with hks | ⟨k0, hk0, hks, hbad⟩
        · rcases hp : pfields ks1 l1 with ⟨vs2, n2⟩ | ⟨i, er⟩
          · obtain ⟨g1, g2, g3, -⟩ := pfields_dec ks1 hks l1 HBY.out.2.2.2.1 vs2 n2 hp
            have hvl2 : vs2.length ≤ 1000 := by rw [(read_len ks1 l1 hks HBY.out.2.2.2.1 vs2 n2 hp).1, hm'.out]; exact hm20
            replace g1 := hide g1
            replace g3 := hide g3
            have hn2 : n2 ≤ 0 := by rw [← hl1.out]; exact g2
            clear g2
            have hn2i : (n2 : Int) ≤ (0 : Int) := by omega
            replace hks := hide hks
            go_wp2_with fail
            refine (firstT ks1 l1 hks.out 0 m' hl1.out hm'.out hm20 sb none cap ka kc _ (hR.out.below BX.out) (HBY.out.below BX.out) (HK.out.below BX.out)).mono ?_; intro e w7 hE
            rw [hp] at hE
            obtain ⟨⟨za, zc, rfl, fs2, hf1, hf2, hf3, hf4⟩, hb⟩ := hE
            have BY := hide (BX.out.trans (hb.mono BX.out.size))
            have HF2 := hide hf2
            have HP2 : Hid (∀ (j : Nat) (v : FV) (f : Fd), vs2[j]? = some v → fs2[j]? = some f → PackOf w7 f v.enc) := fun j v f h1 h2 => packOf_at (g3.out v (List.mem_of_getElem? h1)) (hR.out.below BY.out) (hf3 j v f h1 h2)
            have hfl2 := hide hf1
            clear hf1 hf2 hf3 hf4 hb
            go_wp2_with fail
            refine (packN vs2 g3.out fs2 hfl2.out vs2.length rfl hvl2 za zc _ w7 HF2.out HP2.out).mono ?_; rintro e w8 ⟨g8, n8, hn8, hg8, rfl, hown8, hb⟩
            have BW0 := hide (BY.out.trans (hb.mono BY.out.size))
            obtain ⟨E, hE⟩ := ints_of (encs vs2) (encs_bd vs2 g3.out)
            have hEl : E.length = n8 := by rw [hn8, hE, ints_len]
            rw [hE] at hown8
            have TW := hide (txt_row E hEl hown8)
            have TB := hide (bys_txt (HBY.out.below BW0.out) n2 (by rw [hl1.out]; exact hn2) E (by rw [g1.out]; exact hE))
            have BW := hide (BW0.out.drew)
            have hnc : n2 ≤ cap := by have := HBY.out.1; rw [hl1.out] at this; omega
            clear hown8 hb HF2 HP2 BY BX BW0 hp hn8 hg8 hE hEl
            obtain rfl : cap = 0 := hcn.out (by first | rfl | trivial)
            obtain rfl : n2 = 0 := by omega
            go_wp2
            generalize w8 = WF at *
            refine regionL 25 (fun w' => Below WF.heap.size WF w') mixed ((Below.refl WF.heap.size WF).drew) (fun hHeld => ?_)
            refine pickA (v := ?_) 0 (some 84) rfl rfl (by kernel_rfl) (by kernel_rfl) (by kernel_rfl) (by decide) (fun _ _ _ h => h) (by rfl) ?_ (by assumption) ?_
            rotate_left
            · intro w'
              go_simp
              try with_reducible rfl
            try simp only [Act.put, List.setIfInBounds_toArray, List.set_cons_zero, List.set_cons_succ]
            refine pickA (v := ?_) 1 (some 85) rfl rfl (by kernel_rfl) (by kernel_rfl) (by kernel_rfl) (by decide) (fun _ _ _ h => h) (by rfl) ?_ (by assumption) ?_
            rotate_left
            · intro w'
              go_simp
              try with_reducible rfl
            try simp only [Act.put, List.setIfInBounds_toArray, List.set_cons_zero, List.set_cons_succ]
            refine pickA (v := ?_) 2 (some 86) rfl rfl (by kernel_rfl) (by kernel_rfl) (by kernel_rfl) (by decide) (fun _ _ _ h => h) (by rfl) ?_ (by assumption) ?_
            rotate_left
            · intro w'
              go_simp
              try with_reducible rfl
            try simp only [Act.put, List.setIfInBounds_toArray, List.set_cons_zero, List.set_cons_succ]
            refine pickA (v := ?_) 3 (some 87) rfl rfl (by kernel_rfl) (by kernel_rfl) (by kernel_rfl) (by decide) (fun _ _ _ h => h) (by rfl) ?_ (by assumption) ?_
            rotate_left
            · intro w'
              go_simp
              try with_reducible rfl
            try simp only [Act.put, List.setIfInBounds_toArray, List.set_cons_zero, List.set_cons_succ]
            refine pickA (v := ?_) 4 (some 88) rfl rfl (by kernel_rfl) (by kernel_rfl) (by kernel_rfl) (by decide) (fun _ _ _ h => h) (by rfl) ?_ (by assumption) ?_
            rotate_left
            · intro w'
              go_simp
              try with_reducible rfl
            try simp only [Act.put, List.setIfInBounds_toArray, List.set_cons_zero, List.set_cons_succ]
            refine pickA (v := ?_) 5 (some 89) rfl rfl (by kernel_rfl) (by kernel_rfl) (by kernel_rfl) (by decide) (fun _ _ _ h => h) (by rfl) ?_ (by assumption) ?_
            rotate_left
            · intro w'
              go_simp
              try with_reducible rfl
            try simp only [Act.put, List.setIfInBounds_toArray, List.set_cons_zero, List.set_cons_succ]
            refine pickA (v := ?_) 6 (some 90) rfl rfl (by kernel_rfl) (by kernel_rfl) (by kernel_rfl) (by decide) (fun _ _ _ h => h) (by rfl) ?_ (by assumption) ?_
            rotate_left
            · intro w'
              go_simp
              try with_reducible rfl
            try simp only [Act.put, List.setIfInBounds_toArray, List.set_cons_zero, List.set_cons_succ]
            refine pickA (v := ?_) 7 (some 91) rfl rfl (by kernel_rfl) (by kernel_rfl) (by kernel_rfl) (by decide) (fun _ _ _ h => h) (by rfl) ?_ (by assumption) ?_
            rotate_left
            · intro w'
              go_simp
              try with_reducible rfl
            try simp only [Act.put, List.setIfInBounds_toArray, List.set_cons_zero, List.set_cons_succ]
            refine pickA (v := ?_) 8 (some 92) rfl rfl (by kernel_rfl) (by kernel_rfl) (by kernel_rfl) (by decide) (fun _ _ _ h => h) (by rfl) ?_ (by assumption) ?_
            rotate_left
            · intro w'
              go_simp
              try with_reducible rfl
            try simp only [Act.put, List.setIfInBounds_toArray, List.set_cons_zero, List.set_cons_succ]
            refine pickA (v := ?_) 9 (some 93) rfl rfl (by kernel_rfl) (by kernel_rfl) (by kernel_rfl) (by decide) (fun _ _ _ h => h) (by rfl) ?_ (by assumption) ?_
            rotate_left
            · intro w'
              go_simp
              try with_reducible rfl
            try simp only [Act.put, List.setIfInBounds_toArray, List.set_cons_zero, List.set_cons_succ]
            refine pickA (v := ?_) 10 (some 94) rfl rfl (by kernel_rfl) (by kernel_rfl) (by kernel_rfl) (by decide) (fun _ _ _ h => h) (by rfl) ?_ (by assumption) ?_
            rotate_left
            · intro w'
              go_simp
              try with_reducible rfl
            try simp only [Act.put, List.setIfInBounds_toArray, List.set_cons_zero, List.set_cons_succ]
            refine pickA (v := ?_) 11 (some 95) rfl rfl (by kernel_rfl) (by kernel_rfl) (by kernel_rfl) (by decide) (fun _ _ _ h => h) (by rfl) ?_ (by assumption) ?_
            rotate_left
            · intro w'
              go_simp
              try with_reducible rfl
            try simp only [Act.put, List.setIfInBounds_toArray, List.set_cons_zero, List.set_cons_succ]
            refine pickA (v := ?_) 12 (some 96) rfl rfl (by kernel_rfl) (by kernel_rfl) (by kernel_rfl) (by decide) (fun _ _ _ h => h) (by rfl) ?_ (by assumption) ?_
            rotate_left
            · intro w'
              go_simp
              try with_reducible rfl
            try simp only [Act.put, List.setIfInBounds_toArray, List.set_cons_zero, List.set_cons_succ]
            refine pickA (v := ?_) 13 (some 97) rfl rfl (by kernel_rfl) (by kernel_rfl) (by kernel_rfl) (by decide) (fun _ _ _ h => h) (by rfl) ?_ (by assumption) ?_
            rotate_left
            · intro w'
              go_simp
              try with_reducible rfl
            try simp only [Act.put, List.setIfInBounds_toArray, List.set_cons_zero, List.set_cons_succ]
            refine pickL (v := ?_) 14 (some 98) rfl rfl (by kernel_rfl) (by kernel_rfl) (by kernel_rfl) (by decide) (by kernel_rfl) (by kernel_rfl) (fun _ _ _ h => h) (by rfl) ?_ (by assumption) ?_
            rotate_left
            · intro w' hSw
              have t1 := TW.out w' hSw
              go_simp
              try with_reducible rfl
            try simp only [Act.put, List.setIfInBounds_toArray, List.set_cons_zero, List.set_cons_succ]
            refine pickA (v := ?_) 15 (some 99) rfl rfl (by kernel_rfl) (by kernel_rfl) (by kernel_rfl) (by decide) (fun _ _ _ h => h) (by rfl) ?_ (by assumption) ?_
            rotate_left
            · intro w'
              go_simp
              try with_reducible rfl
            try simp only [Act.put, List.setIfInBounds_toArray, List.set_cons_zero, List.set_cons_succ]
            refine pickA (v := ?_) 16 (some 100) rfl rfl (by kernel_rfl) (by kernel_rfl) (by kernel_rfl) (by decide) (fun _ _ _ h => h) (by rfl) ?_ (by assumption) ?_
            rotate_left
            · intro w'
              go_simp
              try with_reducible rfl
            try simp only [Act.put, List.setIfInBounds_toArray, List.set_cons_zero, List.set_cons_succ]
            refine pickA (v := ?_) 17 (some 101) rfl rfl (by kernel_rfl) (by kernel_rfl) (by kernel_rfl) (by decide) (fun _ _ _ h => h) (by rfl) ?_ (by assumption) ?_
            rotate_left
            · intro w'
              go_simp
              try with_reducible rfl
            try simp only [Act.put, List.setIfInBounds_toArray, List.set_cons_zero, List.set_cons_succ]
            refine pickL (v := ?_) 18 (some 102) rfl rfl (by kernel_rfl) (by kernel_rfl) (by kernel_rfl) (by decide) (by kernel_rfl) (by kernel_rfl) (fun _ _ _ h => h) (by rfl) ?_ (by assumption) ?_
            rotate_left
            · intro w' hSw
              have t1 := TB.out w' hSw
              go_simp
              try with_reducible rfl
            try simp only [Act.put, List.setIfInBounds_toArray, List.set_cons_zero, List.set_cons_succ]
            refine pickA (v := ?_) 19 (some 103) rfl rfl (by kernel_rfl) (by kernel_rfl) (by kernel_rfl) (by decide) (fun _ _ _ h => h) (by rfl) ?_ (by assumption) ?_
            rotate_left
            · intro w'
              go_simp
              try with_reducible rfl
            try simp only [Act.put, List.setIfInBounds_toArray, List.set_cons_zero, List.set_cons_succ]
            refine pickA (v := ?_) 20 (some 104) rfl rfl (by kernel_rfl) (by kernel_rfl) (by kernel_rfl) (by decide) (fun _ _ _ h => h) (by rfl) ?_ (by assumption) ?_
            rotate_left
            · intro w'
              go_simp
              try with_reducible rfl
            try simp only [Act.put, List.setIfInBounds_toArray, List.set_cons_zero, List.set_cons_succ]
            refine pickA (v := ?_) 21 (some 105) rfl rfl (by kernel_rfl) (by kernel_rfl) (by kernel_rfl) (by decide) (fun _ _ _ h => h) (by rfl) ?_ (by assumption) ?_
            rotate_left
            · intro w'
              go_simp
              try with_reducible rfl
            try simp only [Act.put, List.setIfInBounds_toArray, List.set_cons_zero, List.set_cons_succ]
            refine oneL (i := 22) (by kernel_rfl) rfl (fun K hK => ?_)
            go_simp
            refine (alive_any _ (hR.out.below BW.out)).mono ?_; rintro e w9 ⟨rfl, hb⟩
            have B9 := hide (BW.out.trans (hb.mono BW.out.size))
            have hS9 : Hid (Below WF.heap.size WF w9) := ((Below.refl WF.heap.size WF).drew).trans (hb.mono (Nat.le_refl _))
            clear hb
            refine hK.out _ _ ?_ ?_
            · exact hS9.out
            clear hK K
            try simp only [Act.put, List.setIfInBounds_toArray, List.set_cons_zero, List.set_cons_succ]
            clear hHeld
            have hHeld : Below WF.heap.size WF w9 := hS9.out
            refine pickA (v := ?_) 23 (some 107) rfl rfl (by kernel_rfl) (by kernel_rfl) (by kernel_rfl) (by decide) (fun _ _ _ h => h) (by rfl) ?_ (by assumption) ?_
            rotate_left
            · intro w'
              go_simp
              try with_reducible rfl
            try simp only [Act.put, List.setIfInBounds_toArray, List.set_cons_zero, List.set_cons_succ]
            refine pickA (v := ?_) 24 (some 6) rfl rfl (by kernel_rfl) (by kernel_rfl) (by kernel_rfl) (by decide) (fun _ _ _ h => h) (by rfl) ?_ (by assumption) ?_
            rotate_left
            · intro w'
              go_simp
              try with_reducible rfl
            try simp only [Act.put, List.setIfInBounds_toArray, List.set_cons_zero, List.set_cons_succ]
            refine doneL (by kernel_rfl) ?_ _
            clear hHeld
            go_wp2
            go_ret
            exact ⟨rfl, B9.out⟩
          · have her := pfields_err ks1 l1 i er hp
            have hne : (er != 0) = true := by simp [her]
            replace hks := hide hks
            go_wp2_with fail
            refine (firstT ks1 l1 hks.out 0 m' hl1.out hm'.out hm20 sb none cap ka kc _ (hR.out.below BX.out) (HBY.out.below BX.out) (HK.out.below BX.out)).mono ?_; intro e w7 hE
            rw [hp] at hE
            obtain ⟨rfl, hb⟩ := hE
            replace BX := hide (BX.out.trans (hb.mono BX.out.size))
            clear hb her
            go_wp2_with fail
            refine (alive_any _ (hR.out.below BX.out)).mono ?_; rintro e w9 ⟨rfl, hb⟩
            have B9 := hide (BX.out.trans (hb.mono BX.out.size))
            clear hb
            go_wp2
            go_ret
            exact ⟨rfl, B9.out⟩
        · replace hks := hide hks
          replace hbad := hide hbad
          go_wp2_with fail
          refine (firstX ks1 m' hm'.out k0 hk0 hks.out hbad.out hm20 none 0 cap ka kc _ (HK.out.below BX.out)).mono ?_; rintro e w7 ⟨rfl, rfl⟩
          go_wp2_with fail
          refine (alive_any _ (hR.out.below BX.out)).mono ?_; rintro e w9 ⟨rfl, hb⟩
          have B9 := hide (BX.out.trans (hb.mono BX.out.size))
          clear hb
          go_wp2
          go_ret
          exact ⟨rfl, B9.out⟩
      | some ad =>
        rcases kinds_or ks1 with hks | ⟨k0, hk0, hks, hbad⟩
        · rcases hp : pfields ks1 l1 with ⟨vs2, n2⟩ | ⟨i, er⟩
          · obtain ⟨g1, g2, g3, -⟩ := pfields_dec ks1 hks l1 HBY.out.2.2.2.1 vs2 n2 hp
            have hvl2 : vs2.length ≤ 1000 := by rw [(read_len ks1 l1 hks HBY.out.2.2.2.1 vs2 n2 hp).1, hm'.out]; exact hm20
            replace g1 := hide g1
            replace g3 := hide g3
            have hn2 : n2 ≤ len := by rw [← hl1.out]; exact g2
            clear g2
            have hn2i : (n2 : Int) ≤ (len : Int) := by omega
            replace hks := hide hks
            go_wp2_with fail
            refine (firstT ks1 l1 hks.out len m' hl1.out hm'.out hm20 sb (some ad) cap ka kc _ (hR.out.below BX.out) (HBY.out.below BX.out) (HK.out.below BX.out)).mono ?_; intro e w7 hE
            rw [hp] at hE
            obtain ⟨⟨za, zc, rfl, fs2, hf1, hf2, hf3, hf4⟩, hb⟩ := hE
            have BY := hide (BX.out.trans (hb.mono BX.out.size))
            have HF2 := hide hf2
            have HP2 : Hid (∀ (j : Nat) (v : FV) (f : Fd), vs2[j]? = some v → fs2[j]? = some f → PackOf w7 f v.enc) := fun j v f h1 h2 => packOf_at (g3.out v (List.mem_of_getElem? h1)) (hR.out.below BY.out) (hf3 j v f h1 h2)
            have hfl2 := hide hf1
            clear hf1 hf2 hf3 hf4 hb
            go_wp2_with fail
            refine (packN vs2 g3.out fs2 hfl2.out vs2.length rfl hvl2 za zc _ w7 HF2.out HP2.out).mono ?_; rintro e w8 ⟨g8, n8, hn8, hg8, rfl, hown8, hb⟩
            have BW0 := hide (BY.out.trans (hb.mono BY.out.size))
            obtain ⟨E, hE⟩ := ints_of (encs vs2) (encs_bd vs2 g3.out)
            have hEl : E.length = n8 := by rw [hn8, hE, ints_len]
            rw [hE] at hown8
            have TW := hide (txt_row E hEl hown8)
            have TB := hide (bys_txt (HBY.out.below BW0.out) n2 (by rw [hl1.out]; exact hn2) E (by rw [g1.out]; exact hE))
            have BW := hide (BW0.out.drew)
            have hnc : n2 ≤ cap := by have := HBY.out.1; rw [hl1.out] at this; omega
            clear hown8 hb HF2 HP2 BY BX BW0 hp hn8 hg8 hE hEl
            go_wp2
            generalize w8 = WF at *
            refine regionL 25 (fun w' => Below WF.heap.size WF w') mixed ((Below.refl WF.heap.size WF).drew) (fun hHeld => ?_)
            refine pickA (v := ?_) 0 (some 84) rfl rfl (by kernel_rfl) (by kernel_rfl) (by kernel_rfl) (by decide) (fun _ _ _ h => h) (by rfl) ?_ (by assumption) ?_
            rotate_left
            · intro w'
              go_simp
              try with_reducible rfl
            try simp only [Act.put, List.setIfInBounds_toArray, List.set_cons_zero, List.set_cons_succ]
            refine pickA (v := ?_) 1 (some 85) rfl rfl (by kernel_rfl) (by kernel_rfl) (by kernel_rfl) (by decide) (fun _ _ _ h => h) (by rfl) ?_ (by assumption) ?_
            rotate_left
            · intro w'
              go_simp
              try with_reducible rfl
            try simp only [Act.put, List.setIfInBounds_toArray, List.set_cons_zero, List.set_cons_succ]
            refine pickA (v := ?_) 2 (some 86) rfl rfl (by kernel_rfl) (by kernel_rfl) (by kernel_rfl) (by decide) (fun _ _ _ h => h) (by rfl) ?_ (by assumption) ?_
            rotate_left
            · intro w'
              go_simp
              try with_reducible rfl
            try simp only [Act.put, List.setIfInBounds_toArray, List.set_cons_zero, List.set_cons_succ]
            refine pickA (v := ?_) 3 (some 87) rfl rfl (by kernel_rfl) (by kernel_rfl) (by kernel_rfl) (by decide) (fun _ _ _ h => h) (by rfl) ?_ (by assumption) ?_
            rotate_left
            · intro w'
              go_simp
              try with_reducible rfl
            try simp only [Act.put, List.setIfInBounds_toArray, List.set_cons_zero, List.set_cons_succ]
            refine pickA (v := ?_) 4 (some 88) rfl rfl (by kernel_rfl) (by kernel_rfl) (by kernel_rfl) (by decide) (fun _ _ _ h => h) (by rfl) ?_ (by assumption) ?_
            rotate_left
            · intro w'
              go_simp
              try with_reducible rfl
            try simp only [Act.put, List.setIfInBounds_toArray, List.set_cons_zero, List.set_cons_succ]
            refine pickA (v := ?_) 5 (some 89) rfl rfl (by kernel_rfl) (by kernel_rfl) (by kernel_rfl) (by decide) (fun _ _ _ h => h) (by rfl) ?_ (by assumption) ?_
            rotate_left
            · intro w'
              go_simp
              try with_reducible rfl
            try simp only [Act.put, List.setIfInBounds_toArray, List.set_cons_zero, List.set_cons_succ]
            refine pickA (v := ?_) 6 (some 90) rfl rfl (by kernel_rfl) (by kernel_rfl) (by kernel_rfl) (by decide) (fun _ _ _ h => h) (by rfl) ?_ (by assumption) ?_
            rotate_left
            · intro w'
              go_simp
              try with_reducible rfl
            try simp only [Act.put, List.setIfInBounds_toArray, List.set_cons_zero, List.set_cons_succ]
            refine pickA (v := ?_) 7 (some 91) rfl rfl (by kernel_rfl) (by kernel_rfl) (by kernel_rfl) (by decide) (fun _ _ _ h => h) (by rfl) ?_ (by assumption) ?_
            rotate_left
            · intro w'
              go_simp
              try with_reducible rfl
            try simp only [Act.put, List.setIfInBounds_toArray, List.set_cons_zero, List.set_cons_succ]
            refine pickA (v := ?_) 8 (some 92) rfl rfl (by kernel_rfl) (by kernel_rfl) (by kernel_rfl) (by decide) (fun _ _ _ h => h) (by rfl) ?_ (by assumption) ?_
            rotate_left
            · intro w'
              go_simp
              try with_reducible rfl
            try simp only [Act.put, List.setIfInBounds_toArray, List.set_cons_zero, List.set_cons_succ]
            refine pickA (v := ?_) 9 (some 93) rfl rfl (by kernel_rfl) (by kernel_rfl) (by kernel_rfl) (by decide) (fun _ _ _ h => h) (by rfl) ?_ (by assumption) ?_
            rotate_left
            · intro w'
              go_simp
              try with_reducible rfl
            try simp only [Act.put, List.setIfInBounds_toArray, List.set_cons_zero, List.set_cons_succ]
            refine pickA (v := ?_) 10 (some 94) rfl rfl (by kernel_rfl) (by kernel_rfl) (by kernel_rfl) (by decide) (fun _ _ _ h => h) (by rfl) ?_ (by assumption) ?_
            rotate_left
            · intro w'
              go_simp
              try with_reducible rfl
            try simp only [Act.put, List.setIfInBounds_toArray, List.set_cons_zero, List.set_cons_succ]
            refine pickA (v := ?_) 11 (some 95) rfl rfl (by kernel_rfl) (by kernel_rfl) (by kernel_rfl) (by decide) (fun _ _ _ h => h) (by rfl) ?_ (by assumption) ?_
            rotate_left
            · intro w'
              go_simp
              try with_reducible rfl
            try simp only [Act.put, List.setIfInBounds_toArray, List.set_cons_zero, List.set_cons_succ]
            refine pickA (v := ?_) 12 (some 96) rfl rfl (by kernel_rfl) (by kernel_rfl) (by kernel_rfl) (by decide) (fun _ _ _ h => h) (by rfl) ?_ (by assumption) ?_
            rotate_left
            · intro w'
              go_simp
              try with_reducible rfl
            try simp only [Act.put, List.setIfInBounds_toArray, List.set_cons_zero, List.set_cons_succ]
            refine pickA (v := ?_) 13 (some 97) rfl rfl (by kernel_rfl) (by kernel_rfl) (by kernel_rfl) (by decide) (fun _ _ _ h => h) (by rfl) ?_ (by assumption) ?_
            rotate_left
            · intro w'
              go_simp
              try with_reducible rfl
            try simp only [Act.put, List.setIfInBounds_toArray, List.set_cons_zero, List.set_cons_succ]
            refine pickL (v := ?_) 14 (some 98) rfl rfl (by kernel_rfl) (by kernel_rfl) (by kernel_rfl) (by decide) (by kernel_rfl) (by kernel_rfl) (fun _ _ _ h => h) (by rfl) ?_ (by assumption) ?_
            rotate_left
            · intro w' hSw
              have t1 := TW.out w' hSw
              go_simp
              try with_reducible rfl
            try simp only [Act.put, List.setIfInBounds_toArray, List.set_cons_zero, List.set_cons_succ]
            refine pickA (v := ?_) 15 (some 99) rfl rfl (by kernel_rfl) (by kernel_rfl) (by kernel_rfl) (by decide) (fun _ _ _ h => h) (by rfl) ?_ (by assumption) ?_
            rotate_left
            · intro w'
              go_simp
              try with_reducible rfl
            try simp only [Act.put, List.setIfInBounds_toArray, List.set_cons_zero, List.set_cons_succ]
            refine pickA (v := ?_) 16 (some 100) rfl rfl (by kernel_rfl) (by kernel_rfl) (by kernel_rfl) (by decide) (fun _ _ _ h => h) (by rfl) ?_ (by assumption) ?_
            rotate_left
            · intro w'
              go_simp
              try with_reducible rfl
            try simp only [Act.put, List.setIfInBounds_toArray, List.set_cons_zero, List.set_cons_succ]
            refine pickA (v := ?_) 17 (some 101) rfl rfl (by kernel_rfl) (by kernel_rfl) (by kernel_rfl) (by decide) (fun _ _ _ h => h) (by rfl) ?_ (by assumption) ?_
            rotate_left
            · intro w'
              go_simp
              try with_reducible rfl
            try simp only [Act.put, List.setIfInBounds_toArray, List.set_cons_zero, List.set_cons_succ]
            refine pickL (v := ?_) 18 (some 102) rfl rfl (by kernel_rfl) (by kernel_rfl) (by kernel_rfl) (by decide) (by kernel_rfl) (by kernel_rfl) (fun _ _ _ h => h) (by rfl) ?_ (by assumption) ?_
            rotate_left
            · intro w' hSw
              have t1 := TB.out w' hSw
              go_simp
              try with_reducible rfl
            try simp only [Act.put, List.setIfInBounds_toArray, List.set_cons_zero, List.set_cons_succ]
            refine pickA (v := ?_) 19 (some 103) rfl rfl (by kernel_rfl) (by kernel_rfl) (by kernel_rfl) (by decide) (fun _ _ _ h => h) (by rfl) ?_ (by assumption) ?_
            rotate_left
            · intro w'
              go_simp
              try with_reducible rfl
            try simp only [Act.put, List.setIfInBounds_toArray, List.set_cons_zero, List.set_cons_succ]
            refine pickA (v := ?_) 20 (some 104) rfl rfl (by kernel_rfl) (by kernel_rfl) (by kernel_rfl) (by decide) (fun _ _ _ h => h) (by rfl) ?_ (by assumption) ?_
            rotate_left
            · intro w'
              go_simp
              try with_reducible rfl
            try simp only [Act.put, List.setIfInBounds_toArray, List.set_cons_zero, List.set_cons_succ]
            refine pickA (v := ?_) 21 (some 105) rfl rfl (by kernel_rfl) (by kernel_rfl) (by kernel_rfl) (by decide) (fun _ _ _ h => h) (by rfl) ?_ (by assumption) ?_
            rotate_left
            · intro w'
              go_simp
              try with_reducible rfl
            try simp only [Act.put, List.setIfInBounds_toArray, List.set_cons_zero, List.set_cons_succ]
            refine oneL (i := 22) (by kernel_rfl) rfl (fun K hK => ?_)
            go_simp
            refine (alive_any _ (hR.out.below BW.out)).mono ?_; rintro e w9 ⟨rfl, hb⟩
            have B9 := hide (BW.out.trans (hb.mono BW.out.size))
            have hS9 : Hid (Below WF.heap.size WF w9) := ((Below.refl WF.heap.size WF).drew).trans (hb.mono (Nat.le_refl _))
            clear hb
            refine hK.out _ _ ?_ ?_
            · exact hS9.out
            clear hK K
            try simp only [Act.put, List.setIfInBounds_toArray, List.set_cons_zero, List.set_cons_succ]
            clear hHeld
            have hHeld : Below WF.heap.size WF w9 := hS9.out
            refine pickA (v := ?_) 23 (some 107) rfl rfl (by kernel_rfl) (by kernel_rfl) (by kernel_rfl) (by decide) (fun _ _ _ h => h) (by rfl) ?_ (by assumption) ?_
            rotate_left
            · intro w'
              go_simp
              try with_reducible rfl
            try simp only [Act.put, List.setIfInBounds_toArray, List.set_cons_zero, List.set_cons_succ]
            refine pickA (v := ?_) 24 (some 6) rfl rfl (by kernel_rfl) (by kernel_rfl) (by kernel_rfl) (by decide) (fun _ _ _ h => h) (by rfl) ?_ (by assumption) ?_
            rotate_left
            · intro w'
              go_simp
              try with_reducible rfl
            try simp only [Act.put, List.setIfInBounds_toArray, List.set_cons_zero, List.set_cons_succ]
            refine doneL (by kernel_rfl) ?_ _
            clear hHeld
            go_wp2
            go_ret
            exact ⟨rfl, B9.out⟩
          · have her := pfields_err ks1 l1 i er hp
            have hne : (er != 0) = true := by simp [her]
            replace hks := hide hks
            go_wp2_with fail
            refine (firstT ks1 l1 hks.out len m' hl1.out hm'.out hm20 sb (some ad) cap ka kc _ (hR.out.below BX.out) (HBY.out.below BX.out) (HK.out.below BX.out)).mono ?_; intro e w7 hE
            rw [hp] at hE
            obtain ⟨rfl, hb⟩ := hE
            replace BX := hide (BX.out.trans (hb.mono BX.out.size))
            clear hb her
            go_wp2_with fail
            refine (alive_any _ (hR.out.below BX.out)).mono ?_; rintro e w9 ⟨rfl, hb⟩
            have B9 := hide (BX.out.trans (hb.mono BX.out.size))
            clear hb
            go_wp2
            go_ret
            exact ⟨rfl, B9.out⟩
        · replace hks := hide hks
          replace hbad := hide hbad
          go_wp2_with fail
          refine (firstX ks1 m' hm'.out k0 hk0 hks.out hbad.out hm20 (some ad) len cap ka kc _ (HK.out.below BX.out)).mono ?_; rintro e w7 ⟨rfl, rfl⟩
          go_wp2_with fail
          refine (alive_any _ (hR.out.below BX.out)).mono ?_; rintro e w9 ⟨rfl, hb⟩
          have B9 := hide (BX.out.trans (hb.mono BX.out.size))
          clear hb
          go_wp2
          go_ret
          exact ⟨rfl, B9.out⟩
    · have hl1 : Hid (l1.length = 700) := by show _ = _; rw [hl0.out]; omega
      clear hl0
      obtain ⟨ad, rfl⟩ : ∃ ad, a = some ad := by
        cases a with
        | none => have := hnone.out rfl; omega
        | some ad => exact ⟨ad, rfl⟩
      rcases kinds_or ks1 with hks | ⟨k0, hk0, hks, hbad⟩
      · rcases hp : pfields ks1 l1 with ⟨vs2, n2⟩ | ⟨i, er⟩
        · obtain ⟨g1, g2, g3, -⟩ := pfields_dec ks1 hks l1 HBY.out.2.2.2.1 vs2 n2 hp
          have hvl2 : vs2.length ≤ 1000 := by rw [(read_len ks1 l1 hks HBY.out.2.2.2.1 vs2 n2 hp).1, hm'.out]; exact hm20
          replace g1 := hide g1
          replace g3 := hide g3
          have hn2 : n2 ≤ 700 := by rw [← hl1.out]; exact g2
          clear g2
          have hn2i : (n2 : Int) ≤ (700 : Int) := by omega
          replace hks := hide hks
          go_wp2_with fail
          refine (firstT ks1 l1 hks.out 700 m' hl1.out hm'.out hm20 sb (some ad) cap ka kc _ (hR.out.below BX.out) (HBY.out.below BX.out) (HK.out.below BX.out)).mono ?_; intro e w7 hE
          rw [hp] at hE
          obtain ⟨⟨za, zc, rfl, fs2, hf1, hf2, hf3, hf4⟩, hb⟩ := hE
          have BY := hide (BX.out.trans (hb.mono BX.out.size))
          have HF2 := hide hf2
          have HP2 : Hid (∀ (j : Nat) (v : FV) (f : Fd), vs2[j]? = some v → fs2[j]? = some f → PackOf w7 f v.enc) := fun j v f h1 h2 => packOf_at (g3.out v (List.mem_of_getElem? h1)) (hR.out.below BY.out) (hf3 j v f h1 h2)
          have hfl2 := hide hf1
          clear hf1 hf2 hf3 hf4 hb
          go_wp2_with fail
          refine (packN vs2 g3.out fs2 hfl2.out vs2.length rfl hvl2 za zc _ w7 HF2.out HP2.out).mono ?_; rintro e w8 ⟨g8, n8, hn8, hg8, rfl, hown8, hb⟩
          have BW0 := hide (BY.out.trans (hb.mono BY.out.size))
          obtain ⟨E, hE⟩ := ints_of (encs vs2) (encs_bd vs2 g3.out)
          have hEl : E.length = n8 := by rw [hn8, hE, ints_len]
          rw [hE] at hown8
          have TW := hide (txt_row E hEl hown8)
          have TB := hide (bys_txt (HBY.out.below BW0.out) n2 (by rw [hl1.out]; exact hn2) E (by rw [g1.out]; exact hE))
          have BW := hide (BW0.out.drew)
          have hnc : n2 ≤ cap := by have := HBY.out.1; rw [hl1.out] at this; omega
          clear hown8 hb HF2 HP2 BY BX BW0 hp hn8 hg8 hE hEl
          go_wp2
          generalize w8 = WF at *
          refine regionL 25 (fun w' => Below WF.heap.size WF w') mixed ((Below.refl WF.heap.size WF).drew) (fun hHeld => ?_)
          refine pickA (v := ?_) 0 (some 84) rfl rfl (by kernel_rfl) (by kernel_rfl) (by kernel_rfl) (by decide) (fun _ _ _ h => h) (by rfl) ?_ (by assumption) ?_
          rotate_left
          · intro w'
            go_simp
            try with_reducible rfl
          try simp only [Act.put, List.setIfInBounds_toArray, List.set_cons_zero, List.set_cons_succ]
          refine pickA (v := ?_) 1 (some 85) rfl rfl (by kernel_rfl) (by kernel_rfl) (by kernel_rfl) (by decide) (fun _ _ _ h => h) (by rfl) ?_ (by assumption) ?_
          rotate_left
          · intro w'
            go_simp
            try with_reducible rfl
          try simp only [Act.put, List.setIfInBounds_toArray, List.set_cons_zero, List.set_cons_succ]
          refine pickA (v := ?_) 2 (some 86) rfl rfl (by kernel_rfl) (by kernel_rfl) (by kernel_rfl) (by decide) (fun _ _ _ h => h) (by rfl) ?_ (by assumption) ?_
          rotate_left
          · intro w'
            go_simp
            try with_reducible rfl
          try simp only [Act.put, List.setIfInBounds_toArray, List.set_cons_zero, List.set_cons_succ]
          refine pickA (v := ?_) 3 (some 87) rfl rfl (by kernel_rfl) (by kernel_rfl) (by kernel_rfl) (by decide) (fun _ _ _ h => h) (by rfl) ?_ (by assumption) ?_
          rotate_left
          · intro w'
            go_simp
            try with_reducible rfl
          try simp only [Act.put, List.setIfInBounds_toArray, List.set_cons_zero, List.set_cons_succ]
          refine pickA (v := ?_) 4 (some 88) rfl rfl (by kernel_rfl) (by kernel_rfl) (by kernel_rfl) (by decide) (fun _ _ _ h => h) (by rfl) ?_ (by assumption) ?_
          rotate_left
          · intro w'
            go_simp
            try with_reducible rfl
          try simp only [Act.put, List.setIfInBounds_toArray, List.set_cons_zero, List.set_cons_succ]
          refine pickA (v := ?_) 5 (some 89) rfl rfl (by kernel_rfl) (by kernel_rfl) (by kernel_rfl) (by decide) (fun _ _ _ h => h) (by rfl) ?_ (by assumption) ?_
          rotate_left
          · intro w'
            go_simp
            try with_reducible rfl
          try simp only [Act.put, List.setIfInBounds_toArray, List.set_cons_zero, List.set_cons_succ]
          refine pickA (v := ?_) 6 (some 90) rfl rfl (by kernel_rfl) (by kernel_rfl) (by kernel_rfl) (by decide) (fun _ _ _ h => h) (by rfl) ?_ (by assumption) ?_
          rotate_left
          · intro w'
            go_simp
            try with_reducible rfl
          try simp only [Act.put, List.setIfInBounds_toArray, List.set_cons_zero, List.set_cons_succ]
          refine pickA (v := ?_) 7 (some 91) rfl rfl (by kernel_rfl) (by kernel_rfl) (by kernel_rfl) (by decide) (fun _ _ _ h => h) (by rfl) ?_ (by assumption) ?_
          rotate_left
          · intro w'
            go_simp
            try with_reducible rfl
          try simp only [Act.put, List.setIfInBounds_toArray, List.set_cons_zero, List.set_cons_succ]
          refine pickA (v := ?_) 8 (some 92) rfl rfl (by kernel_rfl) (by kernel_rfl) (by kernel_rfl) (by decide) (fun _ _ _ h => h) (by rfl) ?_ (by assumption) ?_
          rotate_left
          · intro w'
            go_simp
            try with_reducible rfl
          try simp only [Act.put, List.setIfInBounds_toArray, List.set_cons_zero, List.set_cons_succ]
          refine pickA (v := ?_) 9 (some 93) rfl rfl (by kernel_rfl) (by kernel_rfl) (by kernel_rfl) (by decide) (fun _ _ _ h => h) (by rfl) ?_ (by assumption) ?_
          rotate_left
          · intro w'
            go_simp
            try with_reducible rfl
          try simp only [Act.put, List.setIfInBounds_toArray, List.set_cons_zero, List.set_cons_succ]
          refine pickA (v := ?_) 10 (some 94) rfl rfl (by kernel_rfl) (by kernel_rfl) (by kernel_rfl) (by decide) (fun _ _ _ h => h) (by rfl) ?_ (by assumption) ?_
          rotate_left
          · intro w'
            go_simp
            try with_reducible rfl
          try simp only [Act.put, List.setIfInBounds_toArray, List.set_cons_zero, List.set_cons_succ]
          refine pickA (v := ?_) 11 (some 95) rfl rfl (by kernel_rfl) (by kernel_rfl) (by kernel_rfl) (by decide) (fun _ _ _ h => h) (by rfl) ?_ (by assumption) ?_
          rotate_left
          · intro w'
            go_simp
            try with_reducible rfl
          try simp only [Act.put, List.setIfInBounds_toArray, List.set_cons_zero, List.set_cons_succ]
          refine pickA (v := ?_) 12 (some 96) rfl rfl (by kernel_rfl) (by kernel_rfl) (by kernel_rfl) (by decide) (fun _ _ _ h => h) (by rfl) ?_ (by assumption) ?_
          rotate_left
          · intro w'
            go_simp
            try with_reducible rfl
          try simp only [Act.put, List.setIfInBounds_toArray, List.set_cons_zero, List.set_cons_succ]
          refine pickA (v := ?_) 13 (some 97) rfl rfl (by kernel_rfl) (by kernel_rfl) (by kernel_rfl) (by decide) (fun _ _ _ h => h) (by rfl) ?_ (by assumption) ?_
          rotate_left
          · intro w'
            go_simp
            try with_reducible rfl
          try simp only [Act.put, List.setIfInBounds_toArray, List.set_cons_zero, List.set_cons_succ]
          refine pickL (v := ?_) 14 (some 98) rfl rfl (by kernel_rfl) (by kernel_rfl) (by kernel_rfl) (by decide) (by kernel_rfl) (by kernel_rfl) (fun _ _ _ h => h) (by rfl) ?_ (by assumption) ?_
          rotate_left
          · intro w' hSw
            have t1 := TW.out w' hSw
            go_simp
            try with_reducible rfl
          try simp only [Act.put, List.setIfInBounds_toArray, List.set_cons_zero, List.set_cons_succ]
          refine pickA (v := ?_) 15 (some 99) rfl rfl (by kernel_rfl) (by kernel_rfl) (by kernel_rfl) (by decide) (fun _ _ _ h => h) (by rfl) ?_ (by assumption) ?_
          rotate_left
          · intro w'
            go_simp
            try with_reducible rfl
          try simp only [Act.put, List.setIfInBounds_toArray, List.set_cons_zero, List.set_cons_succ]
          refine pickA (v := ?_) 16 (some 100) rfl rfl (by kernel_rfl) (by kernel_rfl) (by kernel_rfl) (by decide) (fun _ _ _ h => h) (by rfl) ?_ (by assumption) ?_
          rotate_left
          · intro w'
            go_simp
            try with_reducible rfl
          try simp only [Act.put, List.setIfInBounds_toArray, List.set_cons_zero, List.set_cons_succ]
          refine pickA (v := ?_) 17 (some 101) rfl rfl (by kernel_rfl) (by kernel_rfl) (by kernel_rfl) (by decide) (fun _ _ _ h => h) (by rfl) ?_ (by assumption) ?_
          rotate_left
          · intro w'
            go_simp
            try with_reducible rfl
          try simp only [Act.put, List.setIfInBounds_toArray, List.set_cons_zero, List.set_cons_succ]
          refine pickL (v := ?_) 18 (some 102) rfl rfl (by kernel_rfl) (by kernel_rfl) (by kernel_rfl) (by decide) (by kernel_rfl) (by kernel_rfl) (fun _ _ _ h => h) (by rfl) ?_ (by assumption) ?_
          rotate_left
          · intro w' hSw
            have t1 := TB.out w' hSw
            go_simp
            try with_reducible rfl
          try simp only [Act.put, List.setIfInBounds_toArray, List.set_cons_zero, List.set_cons_succ]
          refine pickA (v := ?_) 19 (some 103) rfl rfl (by kernel_rfl) (by kernel_rfl) (by kernel_rfl) (by decide) (fun _ _ _ h => h) (by rfl) ?_ (by assumption) ?_
          rotate_left
          · intro w'
            go_simp
            try with_reducible rfl
          try simp only [Act.put, List.setIfInBounds_toArray, List.set_cons_zero, List.set_cons_succ]
          refine pickA (v := ?_) 20 (some 104) rfl rfl (by kernel_rfl) (by kernel_rfl) (by kernel_rfl) (by decide) (fun _ _ _ h => h) (by rfl) ?_ (by assumption) ?_
          rotate_left
          · intro w'
            go_simp
            try with_reducible rfl
          try simp only [Act.put, List.setIfInBounds_toArray, List.set_cons_zero, List.set_cons_succ]
          refine pickA (v := ?_) 21 (some 105) rfl rfl (by kernel_rfl) (by kernel_rfl) (by kernel_rfl) (by decide) (fun _ _ _ h => h) (by rfl) ?_ (by assumption) ?_
          rotate_left
          · intro w'
            go_simp
            try with_reducible rfl
          try simp only [Act.put, List.setIfInBounds_toArray, List.set_cons_zero, List.set_cons_succ]
          refine oneL (i := 22) (by kernel_rfl) rfl (fun K hK => ?_)
          go_simp
          refine (alive_any _ (hR.out.below BW.out)).mono ?_; rintro e w9 ⟨rfl, hb⟩
          have B9 := hide (BW.out.trans (hb.mono BW.out.size))
          have hS9 : Hid (Below WF.heap.size WF w9) := ((Below.refl WF.heap.size WF).drew).trans (hb.mono (Nat.le_refl _))
          clear hb
          refine hK.out _ _ ?_ ?_
          · exact hS9.out
          clear hK K
          try simp only [Act.put, List.setIfInBounds_toArray, List.set_cons_zero, List.set_cons_succ]
          clear hHeld
          have hHeld : Below WF.heap.size WF w9 := hS9.out
          refine pickA (v := ?_) 23 (some 107) rfl rfl (by kernel_rfl) (by kernel_rfl) (by kernel_rfl) (by decide) (fun _ _ _ h => h) (by rfl) ?_ (by assumption) ?_
          rotate_left
          · intro w'
            go_simp
            try with_reducible rfl
          try simp only [Act.put, List.setIfInBounds_toArray, List.set_cons_zero, List.set_cons_succ]
          refine pickA (v := ?_) 24 (some 6) rfl rfl (by kernel_rfl) (by kernel_rfl) (by kernel_rfl) (by decide) (fun _ _ _ h => h) (by rfl) ?_ (by assumption) ?_
          rotate_left
          · intro w'
            go_simp
            try with_reducible rfl
          try simp only [Act.put, List.setIfInBounds_toArray, List.set_cons_zero, List.set_cons_succ]
          refine doneL (by kernel_rfl) ?_ _
          clear hHeld
          go_wp2
          go_ret
          exact ⟨rfl, B9.out⟩
        · have her := pfields_err ks1 l1 i er hp
          have hne : (er != 0) = true := by simp [her]
          replace hks := hide hks
          go_wp2_with fail
          refine (firstT ks1 l1 hks.out 700 m' hl1.out hm'.out hm20 sb (some ad) cap ka kc _ (hR.out.below BX.out) (HBY.out.below BX.out) (HK.out.below BX.out)).mono ?_; intro e w7 hE
          rw [hp] at hE
          obtain ⟨rfl, hb⟩ := hE
          replace BX := hide (BX.out.trans (hb.mono BX.out.size))
          clear hb her
          go_wp2_with fail
          refine (alive_any _ (hR.out.below BX.out)).mono ?_; rintro e w9 ⟨rfl, hb⟩
          have B9 := hide (BX.out.trans (hb.mono BX.out.size))
          clear hb
          go_wp2
          go_ret
          exact ⟨rfl, B9.out⟩
      · replace hks := hide hks
        replace hbad := hide hbad
        go_wp2_with fail
        refine (firstX ks1 m' hm'.out k0 hk0 hks.out hbad.out hm20 (some ad) 700 cap ka kc _ (HK.out.below BX.out)).mono ?_; rintro e w7 ⟨rfl, rfl⟩
        go_wp2_with fail
        refine (alive_any _ (hR.out.below BX.out)).mono ?_; rintro e w9 ⟨rfl, hb⟩
        have B9 := hide (BX.out.trans (hb.mono BX.out.size))
        clear hb
        go_wp2
        go_ret
        exact ⟨rfl, B9.out⟩

end Go.Proofs.YtmhcmlegdoapdaaDoor
