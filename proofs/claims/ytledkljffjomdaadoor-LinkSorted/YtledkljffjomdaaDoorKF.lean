/- Package link: All. -/
import Derived.Test.YtledkljffjomdaaDoorKD
import Derived.Test.YtledkljffjomdaaDoorKE
import Derived.Test.YtledkljffjomdaaDoorKU
namespace Go.Proofs.YtledkljffjomdaaDoor
open Go.RowKit Go.Maps Go.ChangeMaps

section
variable {P : Program} {ops : Array Oper} {rest : List Oper} {o : Oper} {a : Act} {w w' : World} {Q : Exit → Act → World → Prop}
theorem wpList_range_eq (hg : o.guard = none) (t : TypeId) (x : Operand) (hop : o.op = Op.range t x) {X v : Value} (hx : a.eval x = X) (hrun : (Instr.range t X).run P w = .ok v w') (h : wpList P ops Q rest (a.put o.dst v) w') : wpList P ops Q (o :: rest) a w := by
  refine wpList_plain hg fun K' hK' => ?_
  unfold Oper.wp
  simp [execOp, hop, hx, hrun, Result.andThen]
  exact hK' _ _ h
theorem wpList_next_eq (hg : o.guard = none) (x : Operand) (hop : o.op = Op.next x false) {X v : Value} (hx : a.eval x = X) (hrun : (Instr.next X false o.type).run P w = .ok v w') (h : wpList P ops Q rest (a.put o.dst v) w') : wpList P ops Q (o :: rest) a w := by
  refine wpList_plain hg fun K' hK' => ?_
  unfold Oper.wp
  simp [execOp, hop, hx, hrun, Result.andThen]
  exact hK' _ _ h
end

def flatS (l : List Sx) : List Value := l.flatMap encS
theorem encS_len (x : Sx) : (encS x).length = 16 := rfl
theorem flatS_len : ∀ l : List Sx, (flatS l).length = l.length * 16
  | [] => rfl
  | x :: l => by
    have := flatS_len l
    unfold flatS at this ⊢
    simp [this, encS_len]
    omega
theorem flatS_app (l : List Sx) (x : Sx) : flatS (l ++ [x]) = flatS l ++ encS x := by simp [flatS]
theorem encS_one (x : Sx) : ∀ v ∈ encS x, v.oneCell' = true := by
  intro v hv
  simp only [encS, List.mem_cons, List.not_mem_nil, or_false] at hv
  rcases hv with h | h | h | h | h | h | h | h | h | h | h | h | h | h | h | h <;> rw [h] <;> rfl
theorem infoR : (Tryd.prog.info? 34).map (fun i => (i.zero, i.size, i.bytes)) = some (some (.agg #[.int .i64 0, .int .u64 0, .int .i64 0, .int .i64 0, .int .u64 0, .int .i64 0, .int .u64 0, .int .i64 0, .int .i64 0, .int .u64 0, .int .i64 0, .int .u64 0, .bool false, .int .i64 0, .int .i64 0, .slice none 0 0]), 16, 144) := by kernel_rfl
/-- A slice of these records; those that wait can be read. -/
structure RsRow (w : World) (v : Value) (As : List Sx) : Prop where
  row : Rw w 34 16 v As.length (flatS As)
  qs : ∀ x ∈ As, Rw w 31 2 (.slice x.1.2.1 x.1.2.2.1 x.1.2.2.2) x.1.1.2.2.2.2.2.length (ows x.1.1.2.2.2.2.2)
theorem RsRow.below {w w' : World} {v : Value} {As : List Sx} (h : RsRow w v As) (hb : Below w.heap.size w w') : RsRow w' v As := ⟨h.row.below hb, fun x hx => (h.qs x hx).below hb⟩
theorem RsRow.keep {S : List Nat} {w w' : World} {v : Value} {As : List Sx} (h : RsRow w v As) (hk : Kp S w w') (hS : ∀ k ∈ S, ∀ cs t, w.heap[k]? ≠ some (.cells cs t (0, 0))) : RsRow w' v As :=
  ⟨h.row.kp hk (fun k hv hm => by obtain ⟨-, cur, hc⟩ := h.row.lt k hv; exact hS k hm _ _ hc), fun x hx => (h.qs x hx).kp hk (fun k hv hm => by obtain ⟨-, cur, hc⟩ := (h.qs x hx).lt k hv; exact hS k hm _ _ hc)⟩
theorem RsRow.nil (w : World) : RsRow w (.slice none 0 0) [] := ⟨⟨rfl, Or.inl ⟨rfl, rfl⟩⟩, by simp⟩
theorem RsRow.push {w : World} {v : Value} {As : List Sx} (h : RsRow w v As) (x : Sx) (hq : Rw w 31 2 (.slice x.1.2.1 x.1.2.2.1 x.1.2.2.2) x.1.1.2.2.2.2.2.length (ows x.1.1.2.2.2.2.2)) (g c : Nat) (hg : IsB w g (encS x).toArray 34) (hlen : As.length ≤ 1000000) (ty : TypeId) :
    ∃ va vc w', (Builtin.append_ #[40, 40] ty #[v, .slice (some ⟨g, 0, none⟩) 1 c]).run Tryd.prog w = .ok (.slice va (As.length + 1) vc) w' ∧ RsRow w' (.slice va (As.length + 1) vc) (As ++ [x]) ∧ w.grownBy w' v.ownBlock ∧ ((Value.slice va (As.length + 1) vc).ownBlock = v.ownBlock ∨ (Value.slice va (As.length + 1) vc).ownBlock = some w.heap.size) := by
  obtain ⟨i0, hi0, hz0, hz1, hz2⟩ := info_parts infoR
  have hcells : ∀ j u, (encS x)[j]? = some u → w.cell? ((⟨g, 0, none⟩ : Addr).add j) = some u := fun j u hu => by
    rw [add_none, Nat.zero_add, hg.cell j]
    simpa using hu
  obtain ⟨v', w', hrun, hrw, hgr, hat, -⟩ := run_append_rw (P := Tryd.prog) w 40 ty 34 i0 _ 16 144 Tryd.underlying40 hi0 hz0 hz1 hz2 rfl v As.length (flatS As) h.row (.slice (some ⟨g, 0, none⟩) 1 c) 1 (encS x) rfl (Or.inl ⟨⟨g, 0, none⟩, c, rfl, hcells⟩) (encS_one x) (by unfold maxLen; omega) (by omega)
  obtain ⟨va, vc, rfl, -, -⟩ := hrw.shape
  refine ⟨va, vc, w', hrun, ⟨?_, fun z hz => ?_⟩, hgr, hat⟩
  · rw [flatS_app]
    simpa using hrw
  · have hz2 : Rw w 31 2 (.slice z.1.2.1 z.1.2.2.1 z.1.2.2.2) z.1.1.2.2.2.2.2.length (ows z.1.1.2.2.2.2.2) := by
      rcases List.mem_append.1 hz with hz | hz
      · exact h.qs z hz
      · simp at hz
        rw [hz]
        exact hq
    refine hz2.kept fun k hk => hgr.block k (hz2.lt k hk).1 fun e => ?_
    obtain ⟨-, cur, hc⟩ := hz2.lt k hk
    obtain ⟨-, cur2, hc2⟩ := h.row.lt k e.symm
    rw [hc] at hc2
    injection hc2 with hc2
    injection hc2 with _ hc2
    exact absurd hc2 (by decide)
def recAt (L : Tb) (i : Nat) : RSt := match L[i]? with
  | some e => stA e.1 e.2.cn
  | none => ((0, 0), (0, 0, 0, 0, 0), (0, 0, 0, 0, 0), false, (0, 0), [])
theorem recAt_some {L : Tb} {i : Nat} {e : Vc × Rc} (h : L[i]? = some e) : recAt L i = stA e.1 e.2.cn := by unfold recAt; rw [h]
theorem recAt_all (L : Tb) : (List.range L.length).map (recAt L) = L.map (fun e => stA e.1 e.2.cn) := by
  apply List.ext_getElem?
  intro i
  by_cases hi : i < L.length
  · rw [List.getElem?_map, List.getElem?_range hi, List.getElem?_map, List.getElem?_eq_getElem hi]
    simp [recAt, hi]
  · rw [List.getElem?_eq_none (by simp; omega), List.getElem?_eq_none (by simp; omega)]
theorem nodup_len : ∀ (n : Nat) (J : List Nat), J.Nodup → (∀ i ∈ J, i < n) → J.length ≤ n
  | 0, J, _, h => by
    cases J with
    | nil => simp
    | cons a t => exact absurd (h a (by simp)) (by omega)
  | n + 1, J, h1, h2 => by
    by_cases hn : n ∈ J
    · have ih := nodup_len n (J.erase n) (h1.erase n) (fun i hi => by
        have := (h1.mem_erase_iff).1 hi
        have := h2 i this.2
        omega)
      rw [List.length_erase_of_mem hn] at ih
      omega
    · have ih := nodup_len n J h1 (fun i hi => by
        have := h2 i hi
        have : i ≠ n := fun e => hn (e ▸ hi)
        omega)
      omega
def slLen : Value → Nat
  | .slice _ n _ => n
  | _ => 0
theorem state_rw (rb lb : Nat) (v : Value) (os : List Ow) (x0 x1 x2 x3 x4 y0 y1 y2 y3 y4 : Int) (w : World) (hr : RecAt w rb lb v os (x0, x1, x2, x3, x4) (y0, y1, y2, y3, y4)) (x y : Int) (B : Bool) (h1 h2 : Int) (qn : Nat) (hB : decide (0 < os.length) = B) (hh : hd os = (h1, h2)) (hq : os.tail.length = qn) :
    Calls Tryd.prog 31 #[.pointer (some ⟨rb, 0, none⟩), .agg #[.int .i64 x, .int .u64 y]] w fun e w' => ∃ qa qc, e = .returned (.agg #[.int .i64 x, .int .u64 y, .int .i64 x0, .int .i64 x1, .int .u64 x2, .int .i64 x3, .int .u64 x4, .int .i64 y0, .int .i64 y1, .int .u64 y2, .int .i64 y3, .int .u64 y4, .bool B, .int .i64 h1, .int .i64 h2, .slice qa qn qc]) ∧ Rw w' 31 2 (.slice qa qn qc) os.tail.length (ows os.tail) ∧ Below w.heap.size w w' := by
  refine (state_any rb lb v os x0 x1 x2 x3 x4 y0 y1 y2 y3 y4 w hr x y).mono ?_
  rintro e w' ⟨q, rfl, h3, h4, h5⟩
  obtain ⟨qa, qc, rfl, -, -⟩ := h3.shape
  have h6 := h3
  rw [hq] at h6
  refine ⟨qa, qc, ?_, by rw [hq]; exact h6, h5⟩
  rw [hB, hh, hq]
/-- What the sort does with such a slice. -/
def SortsAll : Prop := ∀ (v : Value) (As : List Sx) (w : World), RsRow w v As → As.length ≤ 1000000 → Calls Tryd.prog 32 #[v, .func (.func 33) #[] #[]] w fun e w' => e = .returned (.tuple #[]) ∧ ∃ As' : List Sx, As'.Perm As ∧ (∀ i j (hj : j < As'.length) (hij : i < j), ltOf cfS As'[j] As'[i] = false) ∧ RsRow w' v As' ∧ Kp v.ownBlock.toList w w'

set_option maxHeartbeats 8000000 in
set_option maxRecDepth 100000 in
theorem all_any (base p m : Nat) (me : Rf) (L : Tb) (w : World) (h : LK w base p m me L) (hlen : L.length ≤ 1000000) (hmay : ∀ e ∈ L, rt e.1.1 e.1.2 = true ∧ 0 ≤ e.1.2) (hS : SortsAll) : Calls Tryd.prog 12 #[.pointer (some ⟨p, 0, none⟩)] w fun e w' => ∃ v As, e = .returned v ∧ RsRow w' v As ∧ (As.map (·.1.1)).Perm (L.map (fun e => stA e.1 e.2.cn)) ∧ (∀ i j (hj : j < As.length) (hij : i < j), ltOf cfS As[j] As[i] = false) ∧ Below w.heap.size w w' := by
  obtain ⟨i, r, n, l, b⟩ := me
  have h0 := hide h
  have q5 := h.blk.cell 5
  simp at q5
  obtain ⟨w2, hrun, hrg, hb2⟩ := h.map.range
  have LK2 := hide (h.below hb2)
  have RG2 := hide hrg
  have B2 := hide hb2
  have hRlt : Hid (w.heap.size < w2.heap.size) := hrg.lt.1
  clear hrg hb2
  go_enter Tryd.func12, Tryd.ntmps12
  go_wp2_with fail
  refine (lmade_yes p m i r n l b _ h.blk).mono ?_; intro e w1 hE1; obtain ⟨rfl, hw⟩ := hE1
  rw [hw]
  clear hw h
  go_wp2_with (at_range; refine wpList_range_eq rfl _ (.tmp 12) rfl rfl hrun ?_)
  go_frame
  clear q5 hrun
  generalize hRe : w.heap.size = RB at RG2 hRlt ⊢
  replace hRe := hide hRe
  go_loopw [3] (fun v wr => ∃ (I : List Nat) (As : List Sx), Hid (VRg wr m RB (L.map pair) I) ∧ Hid (RsRow wr v As) ∧ Hid (As.map (·.1.1) = I.map (recAt L)) ∧ Hid (∀ k, v.ownBlock = some k → w2.heap.size ≤ k) ∧ Hid (Kp [RB] w2 wr) ∧ Hid (As.length = I.length ∧ I.Nodup ∧ ∀ i ∈ I, i < L.length)) (fun v _ => L.length - slLen v)
  case atStart => exact ⟨[], [], RG2.out, RsRow.nil _, rfl, (fun k hk => by cases hk), Kp.refl _ _, rfl, by simp, by simp⟩
  case round =>
    obtain ⟨I, As, RG, RW, HA, HV, HK, HI⟩ := hrel
    obtain ⟨va, vc, hva, -, -⟩ := RW.out.row.shape
    subst hva
    have hIle : Hid (∀ J : List Nat, J.Nodup → (∀ i ∈ J, i < L.length) → J.length ≤ L.length) := fun J h1 h2 => by
      exact nodup_len _ J h1 h2
    rcases RG.out.next 0 with ⟨hall, hnx⟩ | ⟨ix, ⟨x, y⟩, rb0, w3, hni, hLi, hnx, hen, hrg3, hk3⟩
    · have HP : Hid (I.Perm (List.range L.length)) := perm_range HI.out.2.1 HI.out.2.2 (fun i hi => hall i (by simpa using hi))
      have hAl : Hid (As.length ≤ 1000000) := by have := HI.out.1; have := hIle.out I HI.out.2.1 HI.out.2.2; show As.length ≤ 1000000; omega
      clear hall
      have CS := hS _ As wr RW.out hAl.out
      obtain ⟨an, han⟩ : ∃ z, As.length = z := ⟨_, rfl⟩
      rw [han] at CS RW HV ⊢
      replace han := hide han
      replace CS := hide CS
      go_wp2_with (first | (at_next; refine wpList_next_eq rfl (.tmp 13) rfl rfl hnx ?_) | fail)
      refine CS.out.mono ?_; rintro e w4 ⟨rfl, As2, hperm, hsort, hrow2, hk4⟩
      have X4 : Hid (RsRow w4 (.slice va an vc) As2 ∧ As2.Perm As ∧ (∀ i j (hj : j < As2.length) (hij : i < j), ltOf cfS As2[j] As2[i] = false) ∧ Below w.heap.size w w4) := by
        refine ⟨hrow2, hperm, hsort, ?_⟩
        have k1 : Kp [] w wr := (Kp.of_below (S := []) B2.out).trans HK.out (fun j hj => by simp at hj; right; rw [hj, hRe.out]; exact Nat.le_refl _)
        have k2 : Kp [] w w4 := k1.trans hk4 (fun j hj => by
          right
          have := HV.out j (by simpa using hj)
          have := B2.out.size
          omega)
        exact k2.to_below (Nat.le_refl _) (by simp)
      clear hnx hperm hsort hrow2 hk4 CS
      go_wp2
      go_ret
      refine ⟨_, As2, rfl, X4.out.1, ?_, X4.out.2.2.1, X4.out.2.2.2⟩
      have e1 : (As2.map (·.1.1)).Perm (As.map (·.1.1)) := X4.out.2.1.map _
      rw [HA.out] at e1
      have e2 := e1.trans (HP.out.map (recAt L))
      rw [recAt_all] at e2
      exact e2
    · have hlt : Hid (ix < L.length) := by have := (List.getElem?_eq_some_iff.1 hLi).1; show ix < L.length; simpa using this
      obtain ⟨⟨vx, c⟩, hce⟩ : ∃ e, L[ix]? = some e := ⟨_, List.getElem?_eq_getElem hlt.out⟩
      have hpe : pair (vx, c) = ((x, y), rb0) := by rw [List.getElem?_map, hce] at hLi; simpa using hLi
      have hvx : vx = (x, y) := congrArg Prod.fst hpe
      have hrb : c.rb = rb0 := congrArg Prod.snd hpe
      subst hvx hrb
      clear hpe hLi
      have hmem := List.mem_of_getElem? hce
      obtain ⟨c1, c2, c3, os, ⟨x0, x1, x2, x3, x4⟩, ⟨y0, y1, y2, y3, y4⟩⟩ := c
      have hen2 : (Instr.entry (.pointer (some ⟨RB, 0, none⟩))).run Tryd.prog w3 = .ok (.tuple #[.agg #[.int .i64 x, .int .u64 y], .pointer (some ⟨c1, 0, none⟩)]) w3 := hen
      have hnx2 : (Instr.next (.pointer (some ⟨RB, 0, none⟩)) false 0).run Tryd.prog wr = .ok (.tuple #[.bool true, .agg #[.int .i64 x, .int .u64 y], .pointer (some ⟨c1, 0, none⟩)]) w3 := hnx
      clear hen hnx
      have K3 := hide (HK.out.trans hk3 (by simp))
      have hRec : RecAt w2 c1 c2 c3 os (x0, x1, x2, x3, x4) (y0, y1, y2, y3, y4) := LK2.out.recs _ hmem
      have hcr := hide (hRec.kp K3.out (by simp; exact (RG2.out.off hRec.blk).2.symm) (by simp; exact (RG2.out.off hRec.ls.blk).2.symm) (fun k hk => by obtain ⟨cur, hc⟩ := row_cells hRec.ls.row hk; simp; exact (RG2.out.off hc).2.symm))
      have hRST : Hid (recAt L ix = stA (x, y) (os, (x0, x1, x2, x3, x4), (y0, y1, y2, y3, y4))) := recAt_some hce
      have hmay2 := hide (hmay _ hmem).1
      have hy2 := hide (hmay _ hmem).2
      have RG3 := hide hrg3
      have RW3 := hide (RW.out.keep hk3 (fun k hk cs t hc => by simp at hk; subst hk; exact (RG.out.off hc).2 rfl))
      have hW3 : w2.heap.size ≤ w3.heap.size := K3.out.size
      clear hRec hmem hce hrg3 hk3 RG RW HK
      obtain ⟨BS, hBS⟩ : ∃ B, decide (0 < os.length) = B := ⟨_, rfl⟩
      obtain ⟨⟨h1, h2⟩, hh⟩ : ∃ z, hd os = z := ⟨_, rfl⟩
      obtain ⟨qn, hqn⟩ : ∃ z, os.tail.length = z := ⟨_, rfl⟩
      replace hBS := hide hBS
      replace hh := hide hh
      replace hqn := hide hqn
      have bV := (Below.refl w3.heap.size w3).alloc (Nat.le_refl _) (.cells #[.int .i64 x, .int .u64 y] 24)
      have hcr4 := hide (hcr.out.below bV)
      have RG4 := hide (RG3.out.below bV)
      have RW4 := hide (RW3.out.below bV)
      have K4 := hide (K3.out.bel bV)
      clear bV hcr RG3 RW3 K3
      obtain ⟨an, han⟩ : ∃ z, As.length = z := ⟨_, rfl⟩
      rw [han] at RW4 HV ⊢
      replace han := hide han
      go_wp2_with (first | (at_next; refine wpList_next_eq rfl (.tmp 13) rfl rfl hnx2 ?_) | fail)
      generalize w3.alloc (.cells #[.int .i64 x, .int .u64 y] 24) = W4 at *
      generalize hV4 : w3.heap.size = VBk at *
      refine (state_rw c1 c2 c3 os x0 x1 x2 x3 x4 y0 y1 y2 y3 y4 _ hcr4.out x y BS h1 h2 qn hBS.out hh.out hqn.out).mono ?_; rintro e w5 ⟨qa, qc, rfl, hq5, hb5⟩
      have bS := hb5.trans (((Below.refl w5.heap.size w5).alloc (Nat.le_refl _) (.cells #[.int .i64 x, .int .u64 y, .int .i64 x0, .int .i64 x1, .int .u64 x2, .int .i64 x3, .int .u64 x4, .int .i64 y0, .int .i64 y1, .int .u64 y2, .int .i64 y3, .int .u64 y4, .bool BS, .int .i64 h1, .int .i64 h2, .slice qa qn qc] 34)).mono hb5.size)
      have RG6 := hide (RG4.out.below bS)
      have RW6 := RW4.out.below bS
      have K6 := hide (K4.out.bel bS)
      have Q6 := hq5.below ((Below.refl w5.heap.size w5).alloc (Nat.le_refl _) (.cells #[.int .i64 x, .int .u64 y, .int .i64 x0, .int .i64 x1, .int .u64 x2, .int .i64 x3, .int .u64 x4, .int .i64 y0, .int .i64 y1, .int .u64 y2, .int .i64 y3, .int .u64 y4, .bool BS, .int .i64 h1, .int .i64 h2, .slice qa qn qc] 34))
      have I6 := IsB.new w5 #[.int .i64 x, .int .u64 y, .int .i64 x0, .int .i64 x1, .int .u64 x2, .int .i64 x3, .int .u64 x4, .int .i64 y0, .int .i64 y1, .int .u64 y2, .int .i64 y3, .int .u64 y4, .bool BS, .int .i64 h1, .int .i64 h2, .slice qa qn qc] 34
      rw [← han.out] at RW6
      have hAlen : As.length ≤ 1000000 := by have := HI.out.1; have := hIle.out I HI.out.2.1 HI.out.2.2; omega
      have Q6' : Rw (w5.alloc (.cells #[.int .i64 x, .int .u64 y, .int .i64 x0, .int .i64 x1, .int .u64 x2, .int .i64 x3, .int .u64 x4, .int .i64 y0, .int .i64 y1, .int .u64 y2, .int .i64 y3, .int .u64 y4, .bool BS, .int .i64 h1, .int .i64 h2, .slice qa qn qc] 34)) 31 2 (.slice qa qn qc) os.tail.length (ows os.tail) := Q6
      obtain ⟨na, nc, w7, hap, hrow7, hgr7, hat7⟩ := RW6.push (⟨(((x, y), (x0, x1, x2, x3, x4), (y0, y1, y2, y3, y4), BS, (h1, h2), os.tail), qa, qn, qc), hmay2.out, hy2.out⟩ : Sx) Q6' w5.heap.size 1 I6 hAlen 40
      rw [han.out] at hap hrow7 hat7
      have NEW : Hid (VRg w7 m RB (L.map pair) (I ++ [ix]) ∧ Kp [RB] w2 w7 ∧ (∀ k, (Value.slice na (an + 1) nc).ownBlock = some k → w2.heap.size ≤ k)) := by
        have hvb : ∀ k, (Value.slice va an vc).ownBlock = some k → ∃ cur, (w5.alloc (.cells #[.int .i64 x, .int .u64 y, .int .i64 x0, .int .i64 x1, .int .u64 x2, .int .i64 x3, .int .u64 x4, .int .i64 y0, .int .i64 y1, .int .u64 y2, .int .i64 y3, .int .u64 y4, .bool BS, .int .i64 h1, .int .i64 h2, .slice qa qn qc] 34)).heap[k]? = some (.cells cur 34 (0, 0)) := fun k hk => by rw [← han.out] at hk; exact (RW6.row.lt k hk).2
        refine ⟨RG6.out.kept (hgr7.block _ RG6.out.lt.2 ?_) (hgr7.block _ RG6.out.lt.1 ?_), K6.out.grown hgr7 (fun k hk => Or.inr (HV.out k (by rw [← han.out] ; exact hk))), fun k hk => ?_⟩
        · intro e
          obtain ⟨cur, hc⟩ := hvb m (by rw [← han.out]; exact e.symm)
          exact (RG6.out.off hc).1 rfl
        · intro e
          obtain ⟨cur, hc⟩ := hvb RB (by rw [← han.out]; exact e.symm)
          exact (RG6.out.off hc).2 rfl
        · rcases hat7 with q | q
          · exact HV.out k (by rw [← q]; exact hk)
          · rw [q] at hk
            injection hk with hk
            rw [← hk]
            exact K6.out.size
      have HROW := hide hrow7
      have HI2 : Hid ((As ++ [(⟨(((x, y), (x0, x1, x2, x3, x4), (y0, y1, y2, y3, y4), BS, (h1, h2), os.tail), qa, qn, qc), hmay2.out, hy2.out⟩ : Sx)]).length = (I ++ [ix]).length ∧ (I ++ [ix]).Nodup ∧ ∀ i ∈ I ++ [ix], i < L.length) := by
        refine ⟨by simp [HI.out.1], ?_, fun i hi => ?_⟩
        · rw [List.nodup_append]
          exact ⟨HI.out.2.1, by simp, fun a ha b hb => by simp at hb; subst hb; exact fun e => hni (e ▸ ha)⟩
        · rcases List.mem_append.1 hi with hi | hi
          · exact HI.out.2.2 i hi
          · simp at hi
            rw [hi]
            exact hlt.out
      have HA2 : Hid ((As ++ [(⟨(((x, y), (x0, x1, x2, x3, x4), (y0, y1, y2, y3, y4), BS, (h1, h2), os.tail), qa, qn, qc), hmay2.out, hy2.out⟩ : Sx)]).map (·.1.1) = (I ++ [ix]).map (recAt L)) := by
        show (As ++ [_]).map _ = _
        rw [List.map_append, List.map_append, HA.out]
        simp only [List.map_cons, List.map_nil, hRST.out, stA, hh.out, hBS.out]
      have hmeas : Hid (an + 1 ≤ L.length) := by
        have q1 := hIle.out _ HI2.out.2.1 HI2.out.2.2
        have q2 := HI.out.1
        have q3 := han.out
        rw [List.length_append] at q1
        simp only [List.length_cons, List.length_nil] at q1
        show an + 1 ≤ L.length
        omega
      clear hrow7 hgr7 hat7 I6 Q6 Q6' RW6 bS hb5 hq5 hAlen
      go_wp2_with (at_builtin; refine wpList_append_eq rfl (.tmp 19) (.tmp 23) 40 rfl _ _ (.slice na (an + 1) nc) w7 rfl rfl hap ?_)
      exact ⟨⟨I ++ [ix], As ++ [_], NEW.out.1, HROW.out, HA2.out, NEW.out.2.2, NEW.out.2.1, HI2.out⟩, by have := hmeas.out; show L.length - (an + 1) < L.length - an; omega⟩

end Go.Proofs.YtledkljffjomdaaDoor
