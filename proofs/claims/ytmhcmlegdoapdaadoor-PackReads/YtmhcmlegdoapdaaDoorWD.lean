/- The document's SameAll: two rows of fields that read alike. -/
import Derived.Test.YtmhcmlegdoapdaaDoorWS
import Derived.Test.YtmhcmlegdoapdaaDoorWL
import Derived.Test.YtmhcmlegdoapdaaDoorWC
namespace Go.Proofs.YtmhcmlegdoapdaaDoor
open Go.RowKit

theorem cellsOf_get (fs : List Fd) : ∀ (j : Nat) (f : Fd), fs[j]? = some f → ∀ i, i < 14 → (cellsOf fs)[j * 14 + i]? = f.cs[i]? := by
  induction fs with
  | nil => intro j f h; simp at h
  | cons g r ih =>
    intro j f h i hi
    have hl : g.cs.toList.length = 14 := cs_size g
    unfold cellsOf at *
    rw [List.flatMap_cons]
    cases j with
    | zero =>
      obtain rfl : g = f := by simpa using h
      rw [List.getElem?_append_left (by omega)]
      simp
    | succ j =>
      rw [List.getElem?_append_right (by omega), hl, show (j + 1) * 14 + i - 14 = j * 14 + i from by omega]
      exact ih j f (by simpa using h) i hi
theorem txt_any {w : World} {base : Nat} {a : Option Addr} {c : Nat} (L : List UInt8) (h : w.ownsRow base 5 1 (.slice a L.length c) L.length (u8s (ints L))) : Txt w (.slice a L.length c) ⟨L.toArray⟩ := by
  rcases h.2 with ⟨h1, h2⟩ | ⟨g, cp, cur, h1, _⟩
  · injection h1 with e1 e2 e3
    subst e1 e3
    obtain rfl := List.eq_nil_of_length_eq_zero h2
    exact txt_nil w
  · injection h1 with e1 e2 e3
    subst e1
    exact txt_own L h
/-- Rows whose bytes are bytes. -/
def FV.byts (v : FV) : Prop := ∀ l, v.row = some l → ∃ L : List UInt8, l = ints L
theorem DAt.same {w : World} {b b' : Nat} {v : FV} {f f' : Fd} (hv : v.byts) (h : v.DAt w b f) (h' : v.DAt w b' f') :
    Calls Tryd.prog 17 #[.agg f.cs, .agg f'.cs] w fun e w' => e = .returned (.bool true) ∧ Below w.heap.size w w' := by
  rcases h with ⟨hr, rfl⟩ | ⟨l, a, c, hr, rfl, ho⟩
  · rcases h' with ⟨hr', rfl⟩ | ⟨l, a, c, hr', _⟩
    · cases v with
      | bytes l => cases hr
      | num n => exact rsame_parts _ _ _ _ _ _ _ _ _ _ _ _ _ _ _ _ _ _ _ _ w (txt_nil w) (txt_nil w)
      | int i => exact rsame_parts _ _ _ _ _ _ _ _ _ _ _ _ _ _ _ _ _ _ _ _ w (txt_nil w) (txt_nil w)
      | truth t => exact rsame_parts _ _ _ _ _ _ _ _ _ _ _ _ _ _ _ _ _ _ _ _ w (txt_nil w) (txt_nil w)
      | vec n b => exact rsame_parts _ _ _ _ _ _ _ _ _ _ _ _ _ _ _ _ _ _ _ _ w (txt_nil w) (txt_nil w)
      | key r x => exact rsame_parts _ _ _ _ _ _ _ _ _ _ _ _ _ _ _ _ _ _ _ _ w (txt_nil w) (txt_nil w)
      | ref i r x n b => exact rsame_parts _ _ _ _ _ _ _ _ _ _ _ _ _ _ _ _ _ _ _ _ w (txt_nil w) (txt_nil w)
    · rw [hr] at hr'; cases hr'
  · rcases h' with ⟨hr', rfl⟩ | ⟨l', a', c', hr', rfl, ho'⟩
    · rw [hr] at hr'; cases hr'
    · obtain rfl : l = l' := by rw [hr] at hr'; exact Option.some.inj hr'
      obtain ⟨L, rfl⟩ := hv l hr
      rw [ints_len] at ho ho' ⊢
      have t1 := txt_any L ho
      have t2 := txt_any L ho'
      cases v with
      | bytes l => exact rsame_parts _ _ _ _ _ _ _ _ _ _ _ _ _ _ _ _ _ _ _ _ w t1 t2
      | num n => cases hr
      | int i => cases hr
      | truth t => cases hr
      | vec n b => cases hr
      | key r x => cases hr
      | ref i r x n b => cases hr
theorem own_keep {w w' : World} {B e size n : Nat} {v : Value} {xs : List Value} (h : w.ownsRow B e size v n xs) (hb : Below w.heap.size w w') : w'.ownsRow B e size v n xs := by
  refine ⟨h.1, ?_⟩
  rcases h.2 with h2 | ⟨g, cap, cur, h1, h2, h3, h4⟩
  · exact Or.inl h2
  · have hlt := (h.lt g (by rw [h1]; rfl)).2
    exact Or.inr ⟨g, cap, cur, h1, h2, (hb.block g hlt).trans h3, h4⟩
theorem FV.DAt.below {w w' : World} {base : Nat} {v : FV} {f : Fd} (h : v.DAt w base f) (hb : Below w.heap.size w w') : v.DAt w' base f := by
  rcases h with h | ⟨l, a, c, hr, hf, ho⟩
  · exact Or.inl h
  · exact Or.inr ⟨l, a, c, hr, hf, own_keep ho hb⟩

/-- A row of fields that lies there. -/
structure FR (w : World) (vs : List FV) (fa : Option Addr) (fc : Nat) (fs : List Fd) (base : Nat) : Prop where
  flen : fs.length = vs.length
  own : w.ownsRow base 34 14 (.slice fa vs.length fc) vs.length (cellsOf fs)
  rows : ∀ (j : Nat) (v : FV) (f : Fd), vs[j]? = some v → fs[j]? = some f → v.DAt w base f
theorem FR.below {w w' : World} {vs : List FV} {fa : Option Addr} {fc : Nat} {fs : List Fd} {base : Nat} (h : FR w vs fa fc fs base) (hb : Below w.heap.size w w') : FR w' vs fa fc fs base :=
  ⟨h.flen, own_keep h.own hb, fun j v f h1 h2 => (h.rows j v f h1 h2).below hb⟩
theorem DReadTo.fr {w w' : World} {vs : List FV} {fa : Option Addr} {fc : Nat} (h : DReadTo w w' vs fa fc) : ∃ fs, FR w' vs fa fc fs w.heap.size := by
  obtain ⟨fs, h1, h2, h3, _⟩ := h
  exact ⟨fs, h1, h2, h3⟩
theorem FR.at_ {w : World} {vs : List FV} {fa : Option Addr} {fc : Nat} {fs : List Fd} {base : Nat} (h : FR w vs fa fc fs base) (j : Nat) (hj : j < vs.length) :
    ∃ g f, fa = some ⟨g, 0, none⟩ ∧ g < w.heap.size ∧ fs[j]? = some f ∧ vs[j].DAt w base f ∧ ∀ i, i < 14 → w.cell? ⟨g, j * 14 + i, none⟩ = f.cs[i]? := by
  obtain ⟨g, cap, h1, -⟩ := h.own.form (by omega)
  injection h1 with e1 e2 e3
  subst e1
  have hjf : j < fs.length := by rw [h.flen]; exact hj
  have hf : fs[j]? = some fs[j] := List.getElem?_eq_getElem hjf
  refine ⟨g, fs[j], rfl, (h.own.lt g rfl).2, hf, h.rows j _ _ (List.getElem?_eq_getElem hj) hf, fun i hi => ?_⟩
  have hl := h.own.1
  rw [h.own.cellAt (j * 14 + i) (by have : vs.length * 14 ≥ (j + 1) * 14 := Nat.mul_le_mul_right _ hj; omega)]
  exact cellsOf_get fs j _ hf i hi

set_option maxHeartbeats 8000000 in
set_option maxRecDepth 100000 in
theorem sameAll_any (vs : List FV) (hvb : ∀ v ∈ vs, v.byts) (hn : vs.length ≤ 1000) (fa fa' : Option Addr) (fc fc' : Nat) (fs fs' : List Fd) (b b' : Nat) (w : World) (h1 : FR w vs fa fc fs b) (h2 : FR w vs fa' fc' fs' b') :
    Calls Tryd.prog 24 #[.slice fa vs.length fc, .slice fa' vs.length fc'] w fun e w' => e = .returned (.bool true) ∧ Below w.heap.size w w' := by
  have mixed : Tryd.prog.follows .mixedOrders = true := by kernel_rfl
  replace h1 := hide h1
  replace h2 := hide h2
  go_enter Tryd.func24, Tryd.ntmps24
  go_wp2
  go_loopw [5] (fun i wr => ∃ j : Nat, j ≤ vs.length ∧ i = .int .i64 (j : Int) ∧ Below w.heap.size w wr) (fun i _ => vs.length - (intOf i).toNat)
  case atStart => exact ⟨0, by omega, rfl, Below.refl _ _⟩
  case round =>
    obtain ⟨j, hj, rfl, hbw⟩ := hrel
    by_cases hlt : j < vs.length
    · obtain ⟨g, f, rfl, hg, hf, AT1, hc⟩ := (h1.out.below hbw).at_ j hlt
      obtain ⟨g', f', rfl, hg', hf', AT2, hc'⟩ := (h2.out.below hbw).at_ j hlt
      have hvm : vs[j] ∈ vs := List.getElem_mem hlt
      generalize vs[j] = v at *
      obtain ⟨f0, f1, f2, f3, f4, f5, f6, f7, f8, f9, f10, f11, f12, f13, f14, f15⟩ := f
      obtain ⟨y0, y1, y2, y3, y4, y5, y6, y7, y8, y9, y10, y11, y12, y13, y14, y15⟩ := f'
      replace AT1 := hide AT1
      replace AT2 := hide AT2
      have hKeep : Hid (∀ W, Below wr.heap.size wr W → (fun w' => w'.cell? ⟨g, j * 14, none⟩ = some (.int .i64 f0) ∧ w'.cell? ⟨g, j * 14 + 1, none⟩ = some (.int .u64 f1) ∧ w'.cell? ⟨g, j * 14 + 2, none⟩ = some (.int .i64 f2) ∧ w'.cell? ⟨g, j * 14 + 3, none⟩ = some (.bool f3) ∧ w'.cell? ⟨g, j * 14 + 4, none⟩ = some (.slice f4 f5 f6) ∧ w'.cell? ⟨g, j * 14 + 5, none⟩ = some (.int .i64 f7) ∧ w'.cell? ⟨g, j * 14 + 6, none⟩ = some (.int .u64 f8) ∧ w'.cell? ⟨g, j * 14 + 7, none⟩ = some (.int .i64 f9) ∧ w'.cell? ⟨g, j * 14 + 8, none⟩ = some (.int .u64 f10) ∧ w'.cell? ⟨g, j * 14 + 9, none⟩ = some (.int .i64 f11) ∧ w'.cell? ⟨g, j * 14 + 10, none⟩ = some (.int .i64 f12) ∧ w'.cell? ⟨g, j * 14 + 11, none⟩ = some (.int .u64 f13) ∧ w'.cell? ⟨g, j * 14 + 12, none⟩ = some (.int .i64 f14) ∧ w'.cell? ⟨g, j * 14 + 13, none⟩ = some (.int .u64 f15) ∧ w'.cell? ⟨g', j * 14, none⟩ = some (.int .i64 y0) ∧ w'.cell? ⟨g', j * 14 + 1, none⟩ = some (.int .u64 y1) ∧ w'.cell? ⟨g', j * 14 + 2, none⟩ = some (.int .i64 y2) ∧ w'.cell? ⟨g', j * 14 + 3, none⟩ = some (.bool y3) ∧ w'.cell? ⟨g', j * 14 + 4, none⟩ = some (.slice y4 y5 y6) ∧ w'.cell? ⟨g', j * 14 + 5, none⟩ = some (.int .i64 y7) ∧ w'.cell? ⟨g', j * 14 + 6, none⟩ = some (.int .u64 y8) ∧ w'.cell? ⟨g', j * 14 + 7, none⟩ = some (.int .i64 y9) ∧ w'.cell? ⟨g', j * 14 + 8, none⟩ = some (.int .u64 y10) ∧ w'.cell? ⟨g', j * 14 + 9, none⟩ = some (.int .i64 y11) ∧ w'.cell? ⟨g', j * 14 + 10, none⟩ = some (.int .i64 y12) ∧ w'.cell? ⟨g', j * 14 + 11, none⟩ = some (.int .u64 y13) ∧ w'.cell? ⟨g', j * 14 + 12, none⟩ = some (.int .i64 y14) ∧ w'.cell? ⟨g', j * 14 + 13, none⟩ = some (.int .u64 y15)) W) := fun W hW => by
        have k1 : ∀ i, i < 14 → W.cell? ⟨g, j * 14 + i, none⟩ = (#[.int .i64 f0, .int .u64 f1, .int .i64 f2, .bool f3, .slice f4 f5 f6, .int .i64 f7, .int .u64 f8, .int .i64 f9, .int .u64 f10, .int .i64 f11, .int .i64 f12, .int .u64 f13, .int .i64 f14, .int .u64 f15] : Array Value)[i]? := fun i hi => by
          exact (hW.cell (show g < wr.heap.size from hg)).trans (hc i hi)
        have k2 : ∀ i, i < 14 → W.cell? ⟨g', j * 14 + i, none⟩ = (#[.int .i64 y0, .int .u64 y1, .int .i64 y2, .bool y3, .slice y4 y5 y6, .int .i64 y7, .int .u64 y8, .int .i64 y9, .int .u64 y10, .int .i64 y11, .int .i64 y12, .int .u64 y13, .int .i64 y14, .int .u64 y15] : Array Value)[i]? := fun i hi => by
          exact (hW.cell (show g' < wr.heap.size from hg')).trans (hc' i hi)
        exact ⟨k1 0 (by omega), k1 1 (by omega), k1 2 (by omega), k1 3 (by omega), k1 4 (by omega), k1 5 (by omega), k1 6 (by omega), k1 7 (by omega), k1 8 (by omega), k1 9 (by omega), k1 10 (by omega), k1 11 (by omega), k1 12 (by omega), k1 13 (by omega), k2 0 (by omega), k2 1 (by omega), k2 2 (by omega), k2 3 (by omega), k2 4 (by omega), k2 5 (by omega), k2 6 (by omega), k2 7 (by omega), k2 8 (by omega), k2 9 (by omega), k2 10 (by omega), k2 11 (by omega), k2 12 (by omega), k2 13 (by omega)⟩
      have HS := hide (hKeep.out wr.drew ((Below.refl _ _).drew))
      have HBW := hide hbw
      clear hc hc' hf hf' hbw
      go_wp2
      refine regionL 10 (fun w' => w'.cell? ⟨g, j * 14, none⟩ = some (.int .i64 f0) ∧ w'.cell? ⟨g, j * 14 + 1, none⟩ = some (.int .u64 f1) ∧ w'.cell? ⟨g, j * 14 + 2, none⟩ = some (.int .i64 f2) ∧ w'.cell? ⟨g, j * 14 + 3, none⟩ = some (.bool f3) ∧ w'.cell? ⟨g, j * 14 + 4, none⟩ = some (.slice f4 f5 f6) ∧ w'.cell? ⟨g, j * 14 + 5, none⟩ = some (.int .i64 f7) ∧ w'.cell? ⟨g, j * 14 + 6, none⟩ = some (.int .u64 f8) ∧ w'.cell? ⟨g, j * 14 + 7, none⟩ = some (.int .i64 f9) ∧ w'.cell? ⟨g, j * 14 + 8, none⟩ = some (.int .u64 f10) ∧ w'.cell? ⟨g, j * 14 + 9, none⟩ = some (.int .i64 f11) ∧ w'.cell? ⟨g, j * 14 + 10, none⟩ = some (.int .i64 f12) ∧ w'.cell? ⟨g, j * 14 + 11, none⟩ = some (.int .u64 f13) ∧ w'.cell? ⟨g, j * 14 + 12, none⟩ = some (.int .i64 f14) ∧ w'.cell? ⟨g, j * 14 + 13, none⟩ = some (.int .u64 f15) ∧ w'.cell? ⟨g', j * 14, none⟩ = some (.int .i64 y0) ∧ w'.cell? ⟨g', j * 14 + 1, none⟩ = some (.int .u64 y1) ∧ w'.cell? ⟨g', j * 14 + 2, none⟩ = some (.int .i64 y2) ∧ w'.cell? ⟨g', j * 14 + 3, none⟩ = some (.bool y3) ∧ w'.cell? ⟨g', j * 14 + 4, none⟩ = some (.slice y4 y5 y6) ∧ w'.cell? ⟨g', j * 14 + 5, none⟩ = some (.int .i64 y7) ∧ w'.cell? ⟨g', j * 14 + 6, none⟩ = some (.int .u64 y8) ∧ w'.cell? ⟨g', j * 14 + 7, none⟩ = some (.int .i64 y9) ∧ w'.cell? ⟨g', j * 14 + 8, none⟩ = some (.int .u64 y10) ∧ w'.cell? ⟨g', j * 14 + 9, none⟩ = some (.int .i64 y11) ∧ w'.cell? ⟨g', j * 14 + 10, none⟩ = some (.int .i64 y12) ∧ w'.cell? ⟨g', j * 14 + 11, none⟩ = some (.int .u64 y13) ∧ w'.cell? ⟨g', j * 14 + 12, none⟩ = some (.int .i64 y14) ∧ w'.cell? ⟨g', j * 14 + 13, none⟩ = some (.int .u64 y15)) mixed HS.out (fun hHeld => ?_)
      refine pickA (v := ?_) 0 (some 17) rfl rfl (by kernel_rfl) (by kernel_rfl) (by kernel_rfl) (by decide) (fun _ _ _ h => h) (by rfl) ?_ (by assumption) ?_
      rotate_left
      · intro w'
        go_simp
        try with_reducible rfl
      try simp only [Act.put, List.setIfInBounds_toArray, List.set_cons_zero, List.set_cons_succ]
      refine pickA (v := ?_) 1 (some 18) rfl rfl (by kernel_rfl) (by kernel_rfl) (by kernel_rfl) (by decide) (fun _ _ _ h => h) (by rfl) ?_ (by assumption) ?_
      rotate_left
      · intro w'
        go_simp
        try with_reducible rfl
      try simp only [Act.put, List.setIfInBounds_toArray, List.set_cons_zero, List.set_cons_succ]
      refine pickA (v := ?_) 2 (some 19) rfl rfl (by kernel_rfl) (by kernel_rfl) (by kernel_rfl) (by decide) (fun _ _ _ h => h) (by rfl) ?_ (by assumption) ?_
      rotate_left
      · intro w'
        go_simp
        try with_reducible rfl
      try simp only [Act.put, List.setIfInBounds_toArray, List.set_cons_zero, List.set_cons_succ]
      refine pickL (v := ?_) 3 (some 20) rfl rfl (by kernel_rfl) (by kernel_rfl) (by kernel_rfl) (by decide) (by kernel_rfl) (by kernel_rfl) (fun _ _ _ h => h) (by rfl) ?_ (by assumption) ?_
      rotate_left
      · intro w' hSw
        obtain ⟨q0, q1, q2, q3, q4, q5, q6, q7, q8, q9, q10, q11, q12, q13, q14, q15, q16, q17, q18, q19, q20, q21, q22, q23, q24, q25, q26, q27⟩ := hSw
        go_simp
        try with_reducible rfl
      try simp only [Act.put, List.setIfInBounds_toArray, List.set_cons_zero, List.set_cons_succ]
      refine pickA (v := ?_) 4 (some 21) rfl rfl (by kernel_rfl) (by kernel_rfl) (by kernel_rfl) (by decide) (fun _ _ _ h => h) (by rfl) ?_ (by assumption) ?_
      rotate_left
      · intro w'
        go_simp
        try with_reducible rfl
      try simp only [Act.put, List.setIfInBounds_toArray, List.set_cons_zero, List.set_cons_succ]
      refine pickA (v := ?_) 5 (some 22) rfl rfl (by kernel_rfl) (by kernel_rfl) (by kernel_rfl) (by decide) (fun _ _ _ h => h) (by rfl) ?_ (by assumption) ?_
      rotate_left
      · intro w'
        go_simp
        try with_reducible rfl
      try simp only [Act.put, List.setIfInBounds_toArray, List.set_cons_zero, List.set_cons_succ]
      refine pickA (v := ?_) 6 (some 23) rfl rfl (by kernel_rfl) (by kernel_rfl) (by kernel_rfl) (by decide) (fun _ _ _ h => h) (by rfl) ?_ (by assumption) ?_
      rotate_left
      · intro w'
        go_simp
        try with_reducible rfl
      try simp only [Act.put, List.setIfInBounds_toArray, List.set_cons_zero, List.set_cons_succ]
      refine pickL (v := ?_) 7 (some 24) rfl rfl (by kernel_rfl) (by kernel_rfl) (by kernel_rfl) (by decide) (by kernel_rfl) (by kernel_rfl) (fun _ _ _ h => h) (by rfl) ?_ (by assumption) ?_
      rotate_left
      · intro w' hSw
        obtain ⟨q0, q1, q2, q3, q4, q5, q6, q7, q8, q9, q10, q11, q12, q13, q14, q15, q16, q17, q18, q19, q20, q21, q22, q23, q24, q25, q26, q27⟩ := hSw
        go_simp
        try with_reducible rfl
      try simp only [Act.put, List.setIfInBounds_toArray, List.set_cons_zero, List.set_cons_succ]
      refine oneL (i := 8) (by kernel_rfl) rfl (fun K hK => ?_)
      go_simp
      refine (DAt.same (hvb _ hvm) (AT1.out.below ((Below.refl _ _).drew)) (AT2.out.below ((Below.refl _ _).drew))).mono ?_; rintro e W5 ⟨rfl, hb⟩
      have hb5 : Hid (Below wr.heap.size wr W5) := ((Below.refl wr.heap.size wr).drew).trans (hb.mono (Nat.le_refl _))
      have hS5 := hide (hKeep.out W5 hb5.out)
      clear hb
      refine hK.out _ _ ?_ ?_
      · exact hS5.out
      clear hK K
      try simp only [Act.put, List.setIfInBounds_toArray, List.set_cons_zero, List.set_cons_succ]
      clear hHeld
      have hHeld : (fun w' => w'.cell? ⟨g, j * 14, none⟩ = some (.int .i64 f0) ∧ w'.cell? ⟨g, j * 14 + 1, none⟩ = some (.int .u64 f1) ∧ w'.cell? ⟨g, j * 14 + 2, none⟩ = some (.int .i64 f2) ∧ w'.cell? ⟨g, j * 14 + 3, none⟩ = some (.bool f3) ∧ w'.cell? ⟨g, j * 14 + 4, none⟩ = some (.slice f4 f5 f6) ∧ w'.cell? ⟨g, j * 14 + 5, none⟩ = some (.int .i64 f7) ∧ w'.cell? ⟨g, j * 14 + 6, none⟩ = some (.int .u64 f8) ∧ w'.cell? ⟨g, j * 14 + 7, none⟩ = some (.int .i64 f9) ∧ w'.cell? ⟨g, j * 14 + 8, none⟩ = some (.int .u64 f10) ∧ w'.cell? ⟨g, j * 14 + 9, none⟩ = some (.int .i64 f11) ∧ w'.cell? ⟨g, j * 14 + 10, none⟩ = some (.int .i64 f12) ∧ w'.cell? ⟨g, j * 14 + 11, none⟩ = some (.int .u64 f13) ∧ w'.cell? ⟨g, j * 14 + 12, none⟩ = some (.int .i64 f14) ∧ w'.cell? ⟨g, j * 14 + 13, none⟩ = some (.int .u64 f15) ∧ w'.cell? ⟨g', j * 14, none⟩ = some (.int .i64 y0) ∧ w'.cell? ⟨g', j * 14 + 1, none⟩ = some (.int .u64 y1) ∧ w'.cell? ⟨g', j * 14 + 2, none⟩ = some (.int .i64 y2) ∧ w'.cell? ⟨g', j * 14 + 3, none⟩ = some (.bool y3) ∧ w'.cell? ⟨g', j * 14 + 4, none⟩ = some (.slice y4 y5 y6) ∧ w'.cell? ⟨g', j * 14 + 5, none⟩ = some (.int .i64 y7) ∧ w'.cell? ⟨g', j * 14 + 6, none⟩ = some (.int .u64 y8) ∧ w'.cell? ⟨g', j * 14 + 7, none⟩ = some (.int .i64 y9) ∧ w'.cell? ⟨g', j * 14 + 8, none⟩ = some (.int .u64 y10) ∧ w'.cell? ⟨g', j * 14 + 9, none⟩ = some (.int .i64 y11) ∧ w'.cell? ⟨g', j * 14 + 10, none⟩ = some (.int .i64 y12) ∧ w'.cell? ⟨g', j * 14 + 11, none⟩ = some (.int .u64 y13) ∧ w'.cell? ⟨g', j * 14 + 12, none⟩ = some (.int .i64 y14) ∧ w'.cell? ⟨g', j * 14 + 13, none⟩ = some (.int .u64 y15)) W5 := hS5.out
      refine pickA (v := ?_) 9 (some 26) rfl rfl (by kernel_rfl) (by kernel_rfl) (by kernel_rfl) (by decide) (fun _ _ _ h => h) (by rfl) ?_ (by assumption) ?_
      rotate_left
      · intro w'
        go_simp
        try with_reducible rfl
      try simp only [Act.put, List.setIfInBounds_toArray, List.set_cons_zero, List.set_cons_succ]
      refine doneL (by kernel_rfl) ?_ _
      clear hHeld
      go_wp2
      exact ⟨⟨j + 1, by omega, by simp, HBW.out.trans (hb5.out.mono HBW.out.size)⟩, by simp [intOf]; omega⟩
    · have HBW := hide hbw
      clear hbw
      go_wp2
      go_ret
      exact ⟨rfl, HBW.out⟩

end Go.Proofs.YtmhcmlegdoapdaaDoor
