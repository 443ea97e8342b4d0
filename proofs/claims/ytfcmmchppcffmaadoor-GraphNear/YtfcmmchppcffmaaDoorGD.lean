/- Package graph: fit. -/
import Derived.Test.YtfcmmchppcffmaaDoorGC
namespace Go.Proofs.YtfcmmchppcffmaaDoor
open Go.RowKit Go.Maps

/-- An operation whose value and world are known, in a region that does not draw. -/
theorem wpList_ex {P : Program} {ops : Array Oper} {rest : List Oper} {o : Oper} {a : Act} {w w' : World} {Q : Exit → Act → World → Prop} {v : Value} (hw : Region.wanted o (yielded ops a.tmps) = true) (he : (execOp a.eval o).run P w = .ok (.value v) w')
    (h : wpList P ops Q rest (a.put o.dst v) w') : wpList P ops Q (o :: rest) a w := by
  unfold wpList
  rw [if_pos hw]
  refine Or.inl ?_
  unfold Oper.wp
  rw [he]
  exact h
theorem cells_inj {w : World} {k : Nat} {a b : Array Value} {t u : TypeId} (h1 : w.heap[k]? = some (.cells a t (0, 0))) (h2 : w.heap[k]? = some (.cells b u (0, 0))) : t = u := by
  rw [h1] at h2
  injection h2 with h2
  injection h2
/-- Which IDs were seen. -/
def sn (ids : List Int) : Array Value := Array.ofFn (n := 1024) fun k => .bool (decide ((k.val : Int) ∈ ids))
theorem sn_nil : Array.replicate 1024 (.bool false) = sn [] := by
  apply Array.ext
  · simp [sn]
  · intro i h1 h2; simp [sn]
theorem sn_get (ids : List Int) (k : Nat) (hk : k < 1024) : (sn ids)[k]? = some (.bool (decide ((k : Int) ∈ ids))) := by simp [sn, hk]
theorem sn_set (ids : List Int) (k : Nat) : (sn ids).setIfInBounds k (.bool true) = sn ((k : Int) :: ids) := by
  apply Array.ext_getElem?
  intro i
  rw [Array.getElem?_setIfInBounds]
  by_cases hi : i < 1024
  · rw [sn_get _ i hi, sn_get _ i hi]
    split
    · rename_i e
      subst e
      rw [if_pos (by simp [sn]; exact hi)]
      simp
    · rename_i e
      have h9 : ¬((i : Int) = (k : Int)) := by omega
      simp [h9]
  · have h1 : ∀ ids, (sn ids)[i]? = none := fun ids => Array.getElem?_eq_none (by simp [sn]; omega)
    rw [h1, h1]
    split
    · rename_i e
      subst e
      rw [if_neg (by simp [sn]; omega)]
    · rfl
theorem zero_seen (w : World) : (zeroValue 105).run Tryd.prog w = .ok (.agg (Array.replicate 1024 (.bool false))) w := by kernel_rfl
theorem new_seen (w : World) : (newVar 105 (.agg (Array.replicate 1024 (.bool false)))).run Tryd.prog w = .ok ⟨w.heap.size, 0, none⟩ (w.alloc (.cells (Array.replicate 1024 (.bool false)) 105)) := by kernel_rfl
theorem exec_seen {o : Oper} {ρ : Operand → Value} (w : World) (ho : o.op = .alloc 105) : (execOp ρ o).run Tryd.prog w = .ok (.value (.pointer (some ⟨w.heap.size, 0, none⟩))) (w.alloc (.cells (sn []) 105)) := by
  have h1 := zero_seen w
  have h2 := new_seen w
  rw [sn_nil] at h1 h2
  simp [execOp, ho, Instr.alloc, h1, h2, Result.andThen]
/-- Do members fit? -/
def okF (h : Int) (l : List Rf) : Prop := (∀ x ∈ l, mayR h x = true) ∧ (l.map (·.id)).Nodup
instance (h : Int) (l : List Rf) : Decidable (okF h l) := by unfold okF; infer_instance
def fitB (h : Int) (l : List Rf) : Bool := decide (okF h l)
theorem fitB_no1 {h : Int} {l : List Rf} {j : Nat} (hj : j < l.length) (hm : mayR h l[j] = false) : fitB h l = false := by
  unfold fitB
  rw [decide_eq_false]
  intro ho
  rw [ho.1 _ (List.getElem_mem hj)] at hm
  cases hm
theorem fitB_no2 {h : Int} {l : List Rf} {j : Nat} (hj : j < l.length) (hm : l[j].id ∈ (l.take j).map (·.id)) : fitB h l = false := by
  unfold fitB
  rw [decide_eq_false]
  intro ho
  have h1 := ho.2
  rw [← List.take_append_drop j l, List.drop_eq_getElem_cons hj, List.map_append, List.map_cons, List.nodup_append] at h1
  exact h1.2.2 _ hm _ (by simp) rfl
theorem fitB_yes {h : Int} {l : List Rf} (h1 : ∀ x ∈ l, mayR h x = true) (h2 : (l.map (·.id)).Nodup) : fitB h l = true := by
  unfold fitB
  exact decide_eq_true ⟨h1, h2⟩
theorem mayR_id {h : Int} {x : Rf} (hm : mayR h x = true) : 2 ≤ x.id ∧ x.id < 1024 := by
  unfold mayR at hm
  simp at hm
  exact ⟨hm.1, hm.2.1⟩
theorem take_next {l : List Rf} {j : Nat} (hj : j < l.length) : (l.take (j + 1)).map (·.id) = (l.take j).map (·.id) ++ [l[j].id] := by
  rw [List.take_succ_eq_append_getElem hj, List.map_append]; rfl

set_option maxHeartbeats 4000000 in
set_option maxRecDepth 100000 in
theorem fit_any (h : Int) (v : Value) (l : List Rf) (hl : l.length ≤ 1000) (hbt : ∀ x ∈ l, 0 ≤ x.bt) (w : World) (hs : RSl w v l) :
    Calls Tryd.prog 36 #[.int .i64 h, v] w fun e w' => e = .returned (.bool (fitB h l)) ∧ Below w.heap.size w w' := by
  obtain ⟨va, vc, rfl, -, -⟩ := hs.shape
  have hd : decide ((1022 : Int) < (l.length : Int)) = false := by simp; omega
  have b1 := (Below.refl w.heap.size w).alloc (Nat.le_refl _) (.cells (sn []) 105)
  have Sb := hide (IsB.new w (sn []) 105)
  have B1 := hide b1
  have HS := hide hs
  have HBT := hide hbt
  clear b1 hs hbt
  generalize hn : l.length = n at *
  replace hn := hide hn
  go_enter Tryd.func36, Tryd.ntmps36
  go_wp2_with (refine wpList_ex rfl (exec_seen _ rfl) ?_)
  generalize w.alloc (.cells (sn []) 105) = W1 at *
  generalize hH : w.heap.size = H at Sb ⊢
  replace hH := hide hH
  go_loopw [13] (fun i wr => ∃ j : Nat, j ≤ n ∧ i = .int .i64 (j : Int) ∧ Hid (Below w.heap.size w wr) ∧ Hid (∃ ids, IsB wr H (sn ids) 105 ∧ (∀ z, z ∈ ids ↔ z ∈ (l.take j).map (·.id))) ∧ Hid (∀ x ∈ l.take j, mayR h x = true) ∧ Hid (((l.take j).map (·.id)).Nodup)) (fun i _ => n - (intOf i).toNat)
  case atStart => exact ⟨0, by omega, rfl, B1.out, ⟨[], Sb.out, by simp⟩, fun x hx => by simp at hx, by show List.Nodup _; simp⟩
  case round =>
    obtain ⟨j, hj, rfl, HB, HI, HM, HU⟩ := hrel
    by_cases hlt : j < n
    · have hjl : j < l.length := by rw [hn.out]; exact hlt
      obtain ⟨g, o, c, ev, -, -, h0, h1, h2, h3, h4⟩ := (HS.out.below HB.out).cells j hjl
      injection ev with ev el ec
      clear el
      subst ev ec
      obtain ⟨ids, hI, hiff⟩ := HI.out
      have Ib := hide hI
      clear hI HI
      have b3 := (Below.refl wr.heap.size wr).alloc (Nat.le_refl _) (.cells #[.int .i64 l[j].id, .int .i64 l[j].rk, .int .u64 l[j].kn, .int .i64 l[j].ln, .int .u64 l[j].bt] 30)
      have Mb := hide (IsB.new wr #[.int .i64 l[j].id, .int .i64 l[j].rk, .int .u64 l[j].kn, .int .i64 l[j].ln, .int .u64 l[j].bt] 30)
      replace Ib := hide (Ib.out.below b3)
      replace HB := hide (HB.out.trans (b3.mono HB.out.size))
      have MY := hide (may_any h l[j] (HBT.out _ (List.getElem_mem hjl)) (wr.alloc (.cells #[.int .i64 l[j].id, .int .i64 l[j].rk, .int .u64 l[j].kn, .int .i64 l[j].ln, .int .u64 l[j].bt] 30)))
      have hHB : Hid (H < wr.heap.size) := by
        show _ < _
        have := Ib.out.lt
        have e : wr.heap.size = (wr.alloc (.cells #[.int .i64 l[j].id, .int .i64 l[j].rk, .int .u64 l[j].kn, .int .i64 l[j].ln, .int .u64 l[j].bt] 30)).heap.size - 1 := by simp
        have h9 : H ≠ wr.heap.size := by
          rintro rfl
          have := cells_inj Ib.out Mb.out
          exact absurd this (by decide)
        simp at this
        omega
      cases hmy : mayR h l[j] with
      | false =>
        have hE : Hid (fitB h l = false) := fitB_no1 hjl hmy
        rw [hmy] at MY
        unfold Rf.cells at MY
        clear hmy b3
        generalize l[j].id = x0 at *
        generalize l[j].rk = x1 at *
        generalize l[j].kn = x2 at *
        generalize l[j].ln = x3 at *
        generalize l[j].bt = x4 at *
        go_wp2_with fail
        refine MY.out.mono ?_
        rintro e w2 ⟨rfl, hb⟩
        replace HB := hide (HB.out.trans (hb.mono HB.out.size))
        clear hb
        go_wp2
        go_ret
        exact ⟨by rw [hE.out]; rfl, HB.out⟩
      | true =>
        have hid := mayR_id hmy
        rw [hmy] at MY
        have HM2 : Hid (∀ x ∈ l.take (j + 1), mayR h x = true) := fun x hx => by
          rw [List.take_succ_eq_append_getElem hjl] at hx
          rcases List.mem_append.1 hx with hx | hx
          · exact HM.out x hx
          · simp at hx; rw [hx]; exact hmy
        have HTN := hide (take_next hjl)
        have hin : Hid (l[j].id ∈ (l.take j).map (·.id) → fitB h l = false) := fitB_no2 hjl
        unfold Rf.cells at MY
        clear hmy b3
        obtain ⟨k, hk⟩ : ∃ k : Nat, l[j].id = (k : Int) := ⟨l[j].id.toNat, by omega⟩
        rw [hk] at MY Mb Ib HB h0 HTN hin hid
        clear hk
        have hk1 : k < 1024 := by omega
        clear hid
        generalize l[j].rk = x1 at *
        generalize l[j].kn = x2 at *
        generalize l[j].ln = x3 at *
        generalize l[j].bt = x4 at *
        have G : Hid (∀ z, z ∈ ids ↔ z ∈ (l.take j).map (·.id)) := hiff
        clear hiff
        go_wp2_with fail
        generalize wr.alloc (.cells #[.int .i64 (k : Int), .int .i64 x1, .int .u64 x2, .int .i64 x3, .int .u64 x4] 30) = W3 at *
        generalize wr.heap.size = R at Mb hHB ⊢
        refine MY.out.mono ?_
        rintro e w2 ⟨rfl, hb⟩
        replace HB := hide (HB.out.trans (hb.mono HB.out.size))
        replace Mb := hide (Mb.out.below hb)
        replace Ib := hide (Ib.out.below hb)
        clear hb MY
        have m0 := Mb.out.cell 0
        simp at m0
        have s0 : w2.cell? ⟨H, k, none⟩ = some (.bool (decide ((k : Int) ∈ ids))) := (Ib.out.cell k).trans (sn_get ids k hk1)
        have s1 := Ib.out.free k
        by_cases hmem : (k : Int) ∈ ids
        · have hE : Hid (fitB h l = false) := hin.out ((G.out _).1 hmem)
          rw [decide_eq_true hmem] at s0
          clear hmem
          go_wp2
          go_ret
          exact ⟨by rw [hE.out]; rfl, HB.out⟩
        · rw [decide_eq_false hmem] at s0
          have HNI : Hid ((k : Int) ∉ (l.take j).map (·.id)) := fun hh => hmem ((G.out _).2 hh)
          have I5 : Hid (IsB (w2.setCell ⟨H, k, none⟩ (.bool true)) H (sn ((k : Int) :: ids)) 105) := by
            have := Ib.out.set k (.bool true)
            rw [sn_set] at this
            exact this
          have B5 : Hid (Below w.heap.size w (w2.setCell ⟨H, k, none⟩ (.bool true))) := HB.out.setCell (by have := hH.out; simp; omega) _
          clear hmem
          go_wp2
          refine ⟨⟨j + 1, by omega, by simp, B5.out, ⟨_, I5.out, fun z => ?_⟩, HM2.out, ?_⟩, by simp [intOf]; omega⟩
          · rw [HTN.out, List.mem_cons, List.mem_append, G.out z]
            simp only [List.mem_singleton]
            exact Or.comm
          · show ((l.take (j + 1)).map (·.id)).Nodup
            rw [HTN.out, List.nodup_append]
            refine ⟨HU.out, by simp, fun a ha b hb => ?_⟩
            simp at hb
            rintro rfl
            rw [hb] at ha
            exact HNI.out ha
    · have hjn : j = n := by omega
      have hE : Hid (fitB h l = true) := by
        have e : l.take j = l := List.take_of_length_le (by rw [hn.out]; omega)
        have a := HM.out
        have b := HU.out
        rw [e] at a b
        exact fitB_yes a b
      go_wp2
      go_ret
      exact ⟨by rw [hE.out]; rfl, HB.out⟩

end Go.Proofs.YtfcmmchppcffmaaDoor
