/- References, rows of them that can be read; loads and stores of a whole one; package graph: place. -/
import Derived.Test.YtfcmmchppcffmaaDoorKV
namespace Go.Proofs.YtfcmmchppcffmaaDoor
open Go.RowKit Go.Maps

theorem exec_load {P : Program} {t : TypeId} {o : Operand} {oi : Oper} {ρ : Operand → Value} {v x : Value} {w : World} (hop : oi.op = Op.load t o) (hx : ρ o = x) (hl : (Instr.loadAt t x).run P w = .ok v w) : (execOp ρ oi).run P w = .ok (.value v) w := by
  simp [execOp, hop, hx, hl, Result.andThen]
theorem exec_store {P : Program} {t : TypeId} {o y : Operand} {oi : Oper} {ρ : Operand → Value} {v x : Value} {w w' : World} (hop : oi.op = Op.store t o y) (hx : ρ o = x) (hy : ρ y = v) (hl : (Instr.storeAt t x v).run P w = .ok () w') : (execOp ρ oi).run P w = .ok .skip w' := by
  simp [execOp, hop, hx, hy, hl, Result.andThen]
/-- A load whose value is known, in a region that does not draw. -/
theorem wpList_load_w {P : Program} {ops : Array Oper} {rest : List Oper} {o : Oper} {a : Act} {w : World} {Q : Exit → Act → World → Prop} (hw : Region.wanted o (yielded ops a.tmps) = true) (ty : TypeId) (x : Operand) (ho : o.op = .load ty x) {X v : Value} (hx : a.eval x = X) (hl : (Instr.loadAt ty X).run P w = .ok v w)
    (h : wpList P ops Q rest (a.put o.dst v) w) : wpList P ops Q (o :: rest) a w := by
  unfold wpList
  rw [if_pos hw]
  refine Or.inl ?_
  unfold Oper.wp
  rw [exec_load ho hx hl]
  exact h
/-- A store of a whole value, in a region that does not draw. -/
theorem wpList_store_w {P : Program} {ops : Array Oper} {rest : List Oper} {o : Oper} {a : Act} {w w' : World} {Q : Exit → Act → World → Prop} (hw : Region.wanted o (yielded ops a.tmps) = true) (ty : TypeId) (x y : Operand) (ho : o.op = .store ty x y) {X v : Value} (hx : a.eval x = X) (hy : a.eval y = v) (hl : (Instr.storeAt ty X v).run P w = .ok () w')
    (h : wpList P ops Q rest (a.put o.dst undef) w') : wpList P ops Q (o :: rest) a w := by
  unfold wpList
  rw [if_pos hw]
  refine Or.inl ?_
  unfold Oper.wp
  rw [exec_store ho hx hy hl]
  exact h
/-- .. as a step of a region that draws. -/
theorem step_store_w {P : Program} {w w' : World} {ops : Array Oper} {o : Oper} {a : Act} {K : Act → World → Prop} {Q : Exit → Act → World → Prop} {E : Prop} (hg : o.guard = none) (ty : TypeId) (x y : Operand) (ho : o.op = .store ty x y) {X v : Value} (hx : a.eval x = X) (hy : a.eval y = v) (hl : (Instr.storeAt ty X v).run P w = .ok () w') (hK : K (a.put o.dst undef) w') : if Region.wanted o (yielded ops a.tmps) = true then Oper.wp P o a w K Q else E := by
  have hw : Region.wanted o (yielded ops a.tmps) = true := by simp [Region.wanted, hg]
  rw [if_pos hw]
  unfold Oper.wp
  rw [exec_store ho hx hy hl]
  exact hK

/-- A reference: its ID, its key (rank, number), its vector (length, bits). -/
structure Rf where
  id : Int
  rk : Int
  kn : Int
  ln : Int
  bt : Int
deriving DecidableEq
def Rf.cells (x : Rf) : Array Value := #[.int .i64 x.id, .int .i64 x.rk, .int .u64 x.kn, .int .i64 x.ln, .int .u64 x.bt]
def zr : Rf := ⟨0, 0, 0, 0, 0⟩
def rfs : List Rf → List Value
  | [] => []
  | x :: l => .int .i64 x.id :: .int .i64 x.rk :: .int .u64 x.kn :: .int .i64 x.ln :: .int .u64 x.bt :: rfs l
theorem rfs_len : ∀ l : List Rf, (rfs l).length = l.length * 5
  | [] => rfl
  | _ :: l => by simp [rfs, rfs_len l]; omega
theorem rfs_app : ∀ l m : List Rf, rfs (l ++ m) = rfs l ++ rfs m
  | [], _ => rfl
  | _ :: l, m => by simp [rfs, rfs_app l m]
theorem rfs_take : ∀ (n : Nat) (l : List Rf), (rfs l).take (n * 5) = rfs (l.take n)
  | 0, l => by simp [rfs]
  | n + 1, [] => by simp [rfs]
  | n + 1, p :: l => by
    rw [show (n + 1) * 5 = n * 5 + 1 + 1 + 1 + 1 + 1 by omega]
    simp [rfs, rfs_take n l]
theorem rfs_get : ∀ (l : List Rf) (j : Nat) (hj : j < l.length), (rfs l)[j * 5]? = some (.int .i64 l[j].id) ∧ (rfs l)[j * 5 + 1]? = some (.int .i64 l[j].rk) ∧ (rfs l)[j * 5 + 2]? = some (.int .u64 l[j].kn) ∧ (rfs l)[j * 5 + 3]? = some (.int .i64 l[j].ln) ∧ (rfs l)[j * 5 + 4]? = some (.int .u64 l[j].bt)
  | p :: l, 0, _ => by simp [rfs]
  | p :: l, j + 1, hj => by
    have := rfs_get l j (by simpa using hj)
    rw [show (j + 1) * 5 = j * 5 + 1 + 1 + 1 + 1 + 1 by omega]
    simpa [rfs] using this
theorem rfs_one : ∀ (l : List Rf), ∀ u ∈ rfs l, u.oneCell' = true
  | [], u, h => by simp [rfs] at h
  | p :: l, u, h => by
    simp only [rfs, List.mem_cons] at h
    rcases h with rfl | rfl | rfl | rfl | rfl | h
    · rfl
    · rfl
    · rfl
    · rfl
    · rfl
    · exact rfs_one l u h

/-- A slice of these references, that can be read. -/
def RSl (w : World) (v : Value) (l : List Rf) : Prop := (v = .slice none 0 0 ∧ l = []) ∨ ∃ g o c, v = .slice (some ⟨g, o, none⟩) l.length c ∧ l.length ≤ c ∧ c ≤ maxLen ∧ g < w.heap.size ∧ ∀ j u, (rfs l)[j]? = some u → w.cell? ⟨g, o + j, none⟩ = some u
theorem RSl.below {w w' : World} {v : Value} {l : List Rf} (h : RSl w v l) (hb : Below w.heap.size w w') : RSl w' v l := by
  rcases h with h | ⟨g, o, c, rfl, h1, h2, h3, h4⟩
  · exact Or.inl h
  · exact Or.inr ⟨g, o, c, rfl, h1, h2, Nat.lt_of_lt_of_le h3 hb.size, fun j u hu => (hb.cell (lt_of_cell (h4 j u hu))).trans (h4 j u hu)⟩
theorem RSl.shape {w : World} {v : Value} {l : List Rf} (h : RSl w v l) : ∃ a c, v = .slice a l.length c ∧ l.length ≤ c ∧ c ≤ maxLen := by
  rcases h with ⟨rfl, rfl⟩ | ⟨g, o, c, rfl, h1, h2, h3, h4⟩
  · exact ⟨none, 0, rfl, Nat.le_refl _, by unfold maxLen; omega⟩
  · exact ⟨_, c, rfl, h1, h2⟩
theorem RSl.cells {w : World} {v : Value} {l : List Rf} (h : RSl w v l) (j : Nat) (hj : j < l.length) : ∃ g o c, v = .slice (some ⟨g, o, none⟩) l.length c ∧ l.length ≤ c ∧ c ≤ maxLen ∧ w.cell? ⟨g, o + j * 5, none⟩ = some (.int .i64 l[j].id) ∧ w.cell? ⟨g, o + j * 5 + 1, none⟩ = some (.int .i64 l[j].rk) ∧ w.cell? ⟨g, o + j * 5 + 2, none⟩ = some (.int .u64 l[j].kn) ∧ w.cell? ⟨g, o + j * 5 + 3, none⟩ = some (.int .i64 l[j].ln) ∧ w.cell? ⟨g, o + j * 5 + 4, none⟩ = some (.int .u64 l[j].bt) := by
  rcases h with ⟨rfl, rfl⟩ | ⟨g, o, c, rfl, h1, h2, h3, h4⟩
  · simp at hj
  · obtain ⟨e0, e1, e2, e3, e4⟩ := rfs_get l j hj
    exact ⟨g, o, c, rfl, h1, h2, h4 _ _ e0, h4 _ _ e1, h4 _ _ e2, h4 _ _ e3, h4 _ _ e4⟩
theorem RSl.nil (w : World) : RSl w (.slice none 0 0) [] := Or.inl ⟨rfl, rfl⟩
theorem Rw.rsl {w : World} {v : Value} {l : List Rf} (h : Rw w 30 5 v l.length (rfs l)) : RSl w v l := by
  rcases h.2 with ⟨rfl, h0⟩ | ⟨g, cap, cur, rfl, hg, h1, h2, h3⟩
  · exact Or.inl ⟨rfl, List.eq_nil_of_length_eq_zero h0⟩
  · refine Or.inr ⟨g, 0, cap, rfl, h1, h2, lt_of_heap hg, fun j u hu => ?_⟩
    have hj : j < l.length * 5 := by rw [← rfs_len]; exact (List.getElem?_eq_some_iff.1 hu).1
    rw [Nat.zero_add, h.cellAt j hj]
    exact hu
/-- What an append takes of such a slice. -/
theorem RSl.src {w : World} {v : Value} {l : List Rf} (h : RSl w v l) : (∃ a c, v = .slice (some a) l.length c ∧ ∀ j u, (rfs l)[j]? = some u → w.cell? (a.add j) = some u) ∨ (v = .slice none 0 0 ∧ l.length = 0) := by
  rcases h with ⟨rfl, rfl⟩ | ⟨g, o, c, rfl, h1, h2, h3, h4⟩
  · exact Or.inr ⟨rfl, rfl⟩
  · refine Or.inl ⟨⟨g, o, none⟩, c, rfl, fun j u hu => ?_⟩
    have : (⟨g, o, none⟩ : Addr).add j = ⟨g, o + j, none⟩ := by unfold Addr.add; split <;> simp_all
    rw [this]
    exact h4 j u hu

theorem ref_info : (Tryd.prog.info? 30).map (·.size) = some 5 := by kernel_rfl
theorem load_ref {w : World} {b : Nat} {cs : Array Value} (I : IsB w b cs 30) (hs : cs.size = 5) : (Instr.loadAt 30 (.pointer (some ⟨b, 0, none⟩))).run Tryd.prog w = .ok (.agg cs) w := by
  have h := run_loadVar_row (P := Tryd.prog) w b 30 30 cs (0, 0) _ I Tryd.underlying30 rfl (by rw [hs]; exact ref_info)
  simp only [Instr.loadAt, Instr.sureAddr, Sem.run_bind, Sem.run_pure, Result.andThen_ok, h]
theorem kp_setRow {w : World} {g : Nat} (cs : Array Value) : Kp [g] w (w.setRow g cs) :=
  ⟨rfl, rfl, rfl, by simp, fun k _ hk => setRow_other w g k cs (fun e => hk (by simp [e]))⟩
theorem isB_setRow {w : World} {g : Nat} {cur : Array Value} {t : TypeId} (h : IsB w g cur t) (cs : Array Value) : IsB (w.setRow g cs) g cs t := setRow_heap w g cur cs t _ h
theorem store_ref {w : World} {b : Nat} {old cs : Array Value} (I : IsB w b old 30) (hs : cs.size = 5) (ho : old.size = 5) (h1 : cs.all (·.oneCell') = true) : ∃ w', (Instr.storeAt 30 (.pointer (some ⟨b, 0, none⟩)) (.agg cs)).run Tryd.prog w = .ok () w' ∧ IsB w' b cs 30 ∧ Kp [b] w w' := by
  have h := run_storeVar_row (P := Tryd.prog) w b 30 30 old cs I (by rw [hs]; exact ref_info) (by rw [hs, ho]) h1
  refine ⟨_, ?_, isB_setRow I cs, kp_setRow cs⟩
  simp only [Instr.storeAt, Instr.sureAddr, Sem.run_bind, Sem.run_pure, Result.andThen_ok, h]

set_option maxHeartbeats 1000000 in
theorem place1_any (K0 : Nat) (d : Int) (x : Rf) (w : World) (h1 : w.cell? ⟨K0, 0, none⟩ = some (.int .i64 d)) :
    Calls Tryd.prog 47 #[.agg x.cells, .pointer (some ⟨K0, 0, none⟩)] w fun e w' => e = .returned (.bool (x.id == d)) ∧ Below w.heap.size w w' := by
  obtain ⟨xi, xr, xn, xl, xb⟩ := x
  unfold Rf.cells
  simp only []
  have fin := hide ((Below.refl w.heap.size w).alloc (Nat.le_refl _) (.cells #[.int .i64 xi, .int .i64 xr, .int .u64 xn, .int .i64 xl, .int .u64 xb] 30))
  have h2 := (((Below.refl w.heap.size w).alloc (Nat.le_refl _) (.cells #[.int .i64 xi, .int .i64 xr, .int .u64 xn, .int .i64 xl, .int .u64 xb] 30)).cell (lt_of_cell h1)).trans h1
  go_enter Tryd.func47, Tryd.ntmps47
  go_wp2
  go_ret
  exact ⟨rfl, fin.out⟩

/-- Where one with an ID stands first; below 0: nowhere. -/
def plI (d : Int) (l : List Rf) : Int := if (l.findIdx fun x => x.id == d) < l.length then ((l.findIdx fun x => x.id == d : Nat) : Int) else -1
theorem plI_at {d : Int} {l : List Rf} {j : Nat} (hj : j < l.length) (he : l[j].id = d) (hn : ∀ q (_ : q < j) (hq : q < l.length), l[q].id ≠ d) : plI d l = (j : Int) := by
  have e : (l.findIdx fun x => x.id == d) = j := by
    rw [List.findIdx_eq hj]
    exact ⟨by simpa using he, fun q hq => by simpa using hn q hq (by omega)⟩
  unfold plI
  rw [e, if_pos hj]
theorem plI_no {d : Int} {l : List Rf} (hn : ∀ q (hq : q < l.length), l[q].id ≠ d) : plI d l = -1 := by
  unfold plI
  rw [if_neg]
  intro h
  have := List.findIdx_getElem (w := h)
  exact hn _ h (by simpa using this)
theorem plI_cases (d : Int) (l : List Rf) : (plI d l = -1 ∧ ∀ x ∈ l, x.id ≠ d) ∨ ∃ j, ∃ hj : j < l.length, plI d l = (j : Int) ∧ l[j].id = d := by
  unfold plI
  split
  · rename_i h
    exact Or.inr ⟨_, h, rfl, by simpa using List.findIdx_getElem (w := h)⟩
  · rename_i h
    refine Or.inl ⟨rfl, fun x hx e => h ?_⟩
    exact List.findIdx_lt_length_of_exists ⟨x, hx, by simpa using e⟩

set_option maxHeartbeats 4000000 in
set_option maxRecDepth 100000 in
theorem indexFunc_any (v : Value) (l : List Rf) (hl : l.length ≤ 100000) (d : Int) (K0 : Nat) (w : World) (h : RSl w v l) (h1 : w.cell? ⟨K0, 0, none⟩ = some (.int .i64 d)) :
    Calls Tryd.prog 46 #[v, .func (.func 47) #[] #[.pointer (some ⟨K0, 0, none⟩)]] w fun e w' => e = .returned (.int .i64 (plI d l)) ∧ Below w.heap.size w w' := by
  obtain ⟨va, vc, rfl, -, -⟩ := h.shape
  have H1 := hide h
  have HK := hide h1
  clear h h1
  generalize hn : l.length = n at *
  replace hn := hide hn
  go_enter Tryd.func46, Tryd.ntmps46
  go_wp2
  go_loopw [8] (fun i wr => ∃ j : Nat, j ≤ n ∧ i = .int .i64 (j : Int) ∧ Hid (Below w.heap.size w wr) ∧ Hid (∀ q (_ : q < j) (hq : q < l.length), l[q].id ≠ d)) (fun i _ => n - (intOf i).toNat)
  case atStart => exact ⟨0, by omega, rfl, Below.refl _ _, fun q h _ => by omega⟩
  case round =>
    obtain ⟨j, hj, rfl, HB, HQ⟩ := hrel
    by_cases hlt : j < n
    · have hjl : j < l.length := by rw [hn.out]; exact hlt
      obtain ⟨g, o, c, ev, -, -, h2, h3, h4, h5, h6⟩ := (H1.out.below HB.out).cells j hjl
      injection ev with ev el ec
      clear el
      subst ev ec
      have hk1 := (HB.out.cell (lt_of_cell HK.out)).trans HK.out
      have CL := place1_any K0 d l[j] wr hk1
      unfold Rf.cells at CL
      replace CL := hide CL
      clear hk1
      by_cases hk : l[j].id = d
      · have hE : Hid (plI d l = (j : Int)) := plI_at hjl hk HQ.out
        have hb : (l[j].id == d) = true := by simpa using hk
        rw [hb] at CL
        clear hk hb
        generalize l[j].id = x0 at *
        generalize l[j].rk = x1 at *
        generalize l[j].kn = x2 at *
        generalize l[j].ln = x3 at *
        generalize l[j].bt = x4 at *
        go_wp2_with fail
        refine CL.out.mono ?_
        rintro e w2 ⟨rfl, hb⟩
        have B2 := hide (HB.out.trans (hb.mono HB.out.size))
        clear hb
        go_wp2
        go_ret
        exact ⟨by rw [hE.out]; rfl, B2.out⟩
      · have HQ2 : Hid (∀ q (_ : q < j + 1) (hq : q < l.length), l[q].id ≠ d) := fun q h1 h2 => by
          by_cases e : q = j
          · subst e; exact hk
          · exact HQ.out q (by omega) h2
        have hb : (l[j].id == d) = false := by simpa using hk
        rw [hb] at CL
        clear hk hb
        generalize l[j].id = x0 at *
        generalize l[j].rk = x1 at *
        generalize l[j].kn = x2 at *
        generalize l[j].ln = x3 at *
        generalize l[j].bt = x4 at *
        go_wp2_with fail
        refine CL.out.mono ?_
        rintro e w2 ⟨rfl, hb⟩
        have B2 := hide (HB.out.trans (hb.mono HB.out.size))
        clear hb
        go_wp2
        exact ⟨⟨j + 1, by omega, by simp, B2.out, HQ2⟩, by simp [intOf]; omega⟩
    · have hE : Hid (plI d l = -1) := plI_no fun q hq => HQ.out q (by rw [hn.out] at hq; omega) hq
      go_wp2
      go_ret
      exact ⟨by rw [hE.out]; rfl, HB.out⟩

set_option maxHeartbeats 1000000 in
theorem place_any (v : Value) (l : List Rf) (hl : l.length ≤ 100000) (d : Int) (w : World) (h : RSl w v l) :
    Calls Tryd.prog 24 #[v, .int .i64 d] w fun e w' => e = .returned (.int .i64 (plI d l)) ∧ Below w.heap.size w w' := by
  have b1 := (Below.refl w.heap.size w).alloc (Nat.le_refl _) (.cells #[.int .i64 d] 3)
  have i0 := (IsB.new w #[.int .i64 d] 3).cell 0
  have IX := hide (indexFunc_any v l hl d w.heap.size _ (h.below b1) i0)
  have B1 := hide b1
  clear b1 i0 h
  generalize plI d l = E at *
  go_enter Tryd.func24, Tryd.ntmps24
  go_wp2_with fail
  refine IX.out.mono ?_
  rintro e w2 ⟨rfl, hb⟩
  have B2 := hide (B1.out.trans (hb.mono B1.out.size))
  clear hb IX
  go_wp2
  go_ret
  exact ⟨rfl, B2.out⟩

end Go.Proofs.YtfcmmchppcffmaaDoor
