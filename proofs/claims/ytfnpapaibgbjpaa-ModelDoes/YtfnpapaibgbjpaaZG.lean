/- Rows of items of one's own; copied. -/
import Derived.Test.YtfnpapaibgbjpaaZA
namespace Go.Proofs.Ytfnpapaibgbjpaa
open Go.RowKit Go.Maps

theorem Try.infoIt : (Try.prog.info? 61).map (fun i => (i.zero, i.size, i.bytes)) = some (some (.agg #[.int .u64 0, .slice none 0 0]), 2, 32) := by kernel_rfl
theorem cells_inj {w : World} {k : Nat} {c1 c2 : Array Value} {t1 t2 : TypeId} {f1 f2 : Nat × Nat} (h1 : w.heap[k]? = some (.cells c1 t1 f1)) (h2 : w.heap[k]? = some (.cells c2 t2 f2)) : t1 = t2 := by
  rw [h1] at h2
  injection h2 with h2
  injection h2 with _ h2 _
/-- A row of these items in a block of its own, their bytes each in a block of its own. -/
structure Ow (w : World) (v : Value) (l : List It) : Prop where
  row : Rw w 61 2 v l.length (its l)
  byt : ∀ it ∈ l, By w it.a it.c it.bs ∧ (it.a = none → it.c = 0)
theorem Ow.sl {w : World} {v : Value} {l : List It} (h : Ow w v l) : Sl w v l := h.row.sl fun it hi => ⟨(h.byt it hi).1.rd, (h.byt it hi).2⟩
theorem Ow.below {w w' : World} {v : Value} {l : List It} (h : Ow w v l) (hb : Below w.heap.size w w') : Ow w' v l := ⟨h.row.below hb, fun it hi => ⟨(h.byt it hi).1.below hb, (h.byt it hi).2⟩⟩
theorem Ow.nil (w : World) : Ow w (.slice none 0 0) [] := ⟨⟨rfl, Or.inl ⟨rfl, rfl⟩⟩, by simp⟩
/-- Bytes stay where only a block of another type turns. -/
theorem By.keep {S : List Nat} {w w' : World} {a : Option Addr} {c : Nat} {l : List UInt8} (h : By w a c l) (hk : Kp S w w') (hS : ∀ k ∈ S, ∃ cur, w.heap[k]? = some (.cells cur 61 (0, 0))) : By w' a c l :=
  h.kp hk (fun k hm cur h0 => by
    obtain ⟨cur2, hc⟩ := hS k hm
    exact absurd (cells_inj h0 hc) (by decide))
theorem Rw.kinds {w : World} {v : Value} {n : Nat} {xs : List Value} (h : Rw w 61 2 v n xs) : ∀ k ∈ v.ownBlock.toList, ∃ cur, w.heap[k]? = some (.cells cur 61 (0, 0)) := fun k hk => (h.lt k (by simpa using hk)).2
/-- One item more. -/
theorem Ow.push {w : World} {v : Value} {l : List It} (h : Ow w v l) (x : It) (hb : By w x.a x.c x.bs) (hn : x.a = none → x.c = 0) (g c : Nat) (hg : IsB w g #[.int .u64 x.k, .slice x.a x.bs.length x.c] 61) (hlen : l.length ≤ 100000) (ty : TypeId) :
    ∃ qa qc w', (Builtin.append_ #[22, 22] ty #[v, .slice (some ⟨g, 0, none⟩) 1 c]).run Try.prog w = .ok (.slice qa (l.length + 1) qc) w' ∧ Ow w' (.slice qa (l.length + 1) qc) (l ++ [x]) ∧ w.grownBy w' v.ownBlock ∧ ((Value.slice qa (l.length + 1) qc).ownBlock = v.ownBlock ∨ (Value.slice qa (l.length + 1) qc).ownBlock = some w.heap.size) := by
  obtain ⟨i0, hi0, hz0, hz1, hz2⟩ := info_parts Try.infoIt
  have hcells : ∀ j u, (its [x])[j]? = some u → w.cell? ((⟨g, 0, none⟩ : Addr).add j) = some u := fun j u hu => by
    rw [add_none, Nat.zero_add, hg.cell j]
    simpa [its] using hu
  obtain ⟨v', w', hrun, hrw, hgr, hat, -⟩ := run_append_rw (P := Try.prog) w 22 ty 61 i0 _ 2 32 Try.underlying22 hi0 hz0 hz1 hz2 rfl v l.length (its l) h.row (.slice (some ⟨g, 0, none⟩) 1 c) 1 (its [x]) rfl (Or.inl ⟨⟨g, 0, none⟩, c, rfl, hcells⟩) (its_one [x]) (by unfold maxLen; omega) (by omega)
  obtain ⟨qa, qc, rfl, -, -⟩ := hrw.shape
  refine ⟨qa, qc, w', hrun, ⟨?_, fun z hz => ?_⟩, hgr, hat⟩
  · rw [its_app]
    simpa using hrw
  · have hz2 : By w z.a z.c z.bs ∧ (z.a = none → z.c = 0) := by
      rcases List.mem_append.1 hz with hz | hz
      · exact h.byt z hz
      · simp at hz
        rw [hz]
        exact ⟨hb, hn⟩
    exact ⟨hz2.1.keep (Kp.of_grown (S := v.ownBlock.toList) hgr (fun k hk => Or.inl (by rw [hk]; simp))) h.row.kinds, hz2.2⟩

def slLen (v : Value) : Nat := match v with | .slice _ n _ => n | _ => 0

set_option maxHeartbeats 4000000 in
set_option maxRecDepth 100000 in
theorem copied_any (v : Value) (l : List It) (hl : l.length ≤ 100000) (hlb : ∀ it ∈ l, it.bs.length ≤ 140737488355328) (w : World) (h : Sl w v l) :
    Calls Try.prog 39 #[v] w fun e w' => ∃ v' m, e = .returned v' ∧ Ow w' v' m ∧ m.map It.val = l.map It.val ∧ (∀ k, v'.ownBlock = some k → w.heap.size ≤ k) ∧ Below w.heap.size w w' := by
  have mixed : Try.prog.follows .mixedOrders = true := by kernel_rfl
  obtain ⟨va, vc, rfl, -, -⟩ := h.shape
  have H1 := hide h
  have HLB := hide hlb
  clear h hlb
  generalize hn : l.length = n at *
  replace hn := hide hn
  obtain ⟨i0, hi0, hz0, hz1, hz2⟩ := info_parts Try.infoIt
  obtain ⟨w0, hmk, hown, hgr⟩ := run_make_own (P := Try.prog) w w.heap.size 22 61 i0 _ 2 Try.underlying22 hi0 hz0 hz1 .i64 .i64 n (by rw [hz2]; omega) (by unfold maxLen; omega) (Nat.le_refl _)
  have O0 : Hid (Ow w0 (.slice (some ⟨w.heap.size, 0, none⟩) 0 n) []) := ⟨Rw.of_owns hown, by simp⟩
  have K0 : Hid (Kp [] w w0) := Kp.of_grown hgr (by simp)
  clear hown hgr
  go_enter Try.func39, Try.ntmps39
  go_wp2
  clear hmk
  go_loopw [3, 11] (fun mv i wr => ∃ (j : Nat) (qa : Option Addr) (qc : Nat) (m : List It), j ≤ n ∧ i = .int .i64 (j : Int) ∧ mv = .slice qa m.length qc ∧ Hid (Ow wr (.slice qa m.length qc) m) ∧ Hid (m.map It.val = (l.take j).map It.val) ∧ Hid (∀ k, (Value.slice qa m.length qc).ownBlock = some k → w.heap.size ≤ k) ∧ Hid (Kp [] w wr)) (fun _ i _ => n - (intOf i).toNat)
  case atStart => exact ⟨0, _, _, [], by omega, rfl, rfl, O0.out, by simp [Hid], (fun k hk => by simp [Value.ownBlock] at hk; omega), K0.out⟩
  case round =>
    obtain ⟨j, qa, qc, m, hj, rfl, rfl, OW, HM, HNw, HK⟩ := hrel
    have HLn : Hid (m.length ≤ 100000) := by
      have := congrArg List.length HM.out
      simp at this
      show m.length ≤ 100000
      omega
    by_cases hlt : j < n
    · have hjl : j < l.length := by rw [hn.out]; exact hlt
      have HB := hide (HK.out.to_below (Nat.le_refl _) (by simp))
      obtain ⟨g, k, c, ev, -, -, h2, h3⟩ := (H1.out.below HB.out).cells j hjl
      injection ev with ev el ec
      clear el
      subst ev ec
      have RX := hide ((H1.out.below HB.out).2 _ (List.getElem_mem hjl)).1
      have HXA := hide ((H1.out.below HB.out).2 _ (List.getElem_mem hjl)).2
      have HXL := hide (HLB.out _ (List.getElem_mem hjl))
      have HTk : Hid ((l.take (j + 1)).map It.val = (l.take j).map It.val ++ [(l[j].k, l[j].bs)]) := by
        show _ = _
        rw [List.take_succ_eq_append_getElem hjl, List.map_append]
        rfl
      clear HLB
      obtain ⟨xn, HXN⟩ : ∃ z, l[j].bs.length = z := ⟨_, rfl⟩
      rw [HXN] at h3
      replace HXN := hide HXN
      generalize l[j].k = x at *
      generalize l[j].a = xa at *
      generalize l[j].bs = xb at *
      generalize l[j].c = xc at *
      have hap : wr.heap.size = wr.heap.size := rfl
      have b4 := (Below.refl wr.heap.size wr).alloc (Nat.le_refl _) (.cells #[.int .u64 x, .slice xa xn xc] 61)
      have Vb := hide (IsB.new wr #[.int .u64 x, .slice xa xn xc] 61)
      have Ro := hide (OW.out.below b4)
      have B := hide (HK.out.bel b4)
      have HVo : Hid (¬(Value.slice qa m.length qc).ownBlock = some wr.heap.size) := fun e => by
        have := (OW.out.row.lt _ e).1
        omega
      replace RX := hide (RX.out.below b4)
      clear OW b4 hap
      go_wp2
      clear h2 h3
      generalize wr.alloc (.cells #[.int .u64 x, .slice xa xn xc] 61) = W4 at *
      generalize wr.heap.size = H at *
      have b5 := (Below.refl W4.heap.size W4).drew
      replace Vb := hide (Vb.out.below b5)
      replace Ro := hide (Ro.out.below b5)
      replace B := hide (B.out.bel b5)
      clear b5
      refine regionL 10 (fun w' => w'.cell? ⟨H, 0, none⟩ = some (.int .u64 x) ∧ w'.cell? ⟨H, 1, none⟩ = some (.slice xa xn xc)) mixed ⟨Vb.out.cell 0, Vb.out.cell 1⟩ (fun hHeld => ?_)
      refine pickA (v := ?_) 0 (some 15) rfl rfl (by kernel_rfl) (by kernel_rfl) (by kernel_rfl) (by decide) (fun _ _ _ h => h) (by rfl) ?_ (by assumption) ?_
      rotate_left
      · intro w'
        go_simp
        try with_reducible rfl
      try simp only [Act.put, List.setIfInBounds_toArray, List.set_cons_zero, List.set_cons_succ]
      refine pickA (v := ?_) 1 (some 16) rfl rfl (by kernel_rfl) (by kernel_rfl) (by kernel_rfl) (by decide) (fun _ _ _ h => h) (by rfl) ?_ (by assumption) ?_
      rotate_left
      · intro w'
        go_simp
        try with_reducible rfl
      try simp only [Act.put, List.setIfInBounds_toArray, List.set_cons_zero, List.set_cons_succ]
      refine pickL (v := ?_) 2 (some 17) rfl rfl (by kernel_rfl) (by kernel_rfl) (by kernel_rfl) (by decide) (by kernel_rfl) (by kernel_rfl) (fun _ _ _ h => h) (by rfl) ?_ (by assumption) ?_
      rotate_left
      · intro w' hSw
        obtain ⟨q0, q1⟩ := hSw
        go_simp
        try with_reducible rfl
      try simp only [Act.put, List.setIfInBounds_toArray, List.set_cons_zero, List.set_cons_succ]
      refine pickA (v := ?_) 3 (some 18) rfl rfl (by kernel_rfl) (by kernel_rfl) (by kernel_rfl) (by decide) (fun _ _ _ h => h) (by rfl) ?_ (by assumption) ?_
      rotate_left
      · intro w'
        go_simp
        try with_reducible rfl
      try simp only [Act.put, List.setIfInBounds_toArray, List.set_cons_zero, List.set_cons_succ]
      refine pickL (v := ?_) 4 (some 19) rfl rfl (by kernel_rfl) (by kernel_rfl) (by kernel_rfl) (by decide) (by kernel_rfl) (by kernel_rfl) (fun _ _ _ h => h) (by rfl) ?_ (by assumption) ?_
      rotate_left
      · intro w' hSw
        obtain ⟨q0, q1⟩ := hSw
        go_simp
        try with_reducible rfl
      try simp only [Act.put, List.setIfInBounds_toArray, List.set_cons_zero, List.set_cons_succ]
      refine oneL (i := 5) (by kernel_rfl) rfl (fun K hK => ?_)
      go_simp
      rw [← HXN.out]
      refine (bclone_any xa xc xb (by have := HXL.out; omega) HXA.out _ (RX.out.below ((Below.refl _ _).drew))).mono ?_; rintro e w5 ⟨ca, cc, rfl, hby, hnw, hcn, b5⟩
      have BY := hide hby
      have CN := hide hcn
      replace Ro := hide (Ro.out.below b5)
      replace Vb := hide (Vb.out.below b5)
      replace B := hide (B.out.bel b5)
      rw [HXN.out]
      clear hby hnw hcn b5
      refine hK.out _ _ ?_ ?_
      · exact ⟨Vb.out.cell 0, Vb.out.cell 1⟩
      clear hK K
      try simp only [Act.put, List.setIfInBounds_toArray, List.set_cons_zero, List.set_cons_succ]
      clear hHeld
      have hHeld : (fun w' => w'.cell? ⟨H, 0, none⟩ = some (.int .u64 x) ∧ w'.cell? ⟨H, 1, none⟩ = some (.slice xa xn xc)) w5 := ⟨Vb.out.cell 0, Vb.out.cell 1⟩
      refine pickA (v := ?_) 6 (some 21) rfl rfl (by kernel_rfl) (by kernel_rfl) (by kernel_rfl) (by decide) (fun _ _ _ h => h) (by rfl) ?_ (by assumption) ?_
      rotate_left
      · intro w'
        go_simp
        try with_reducible rfl
      try simp only [Act.put, List.setIfInBounds_toArray, List.set_cons_zero, List.set_cons_succ]
      refine oneL (i := 7) (by kernel_rfl) rfl (fun K hK => ?_)
      go_simp
      have b7 := (Below.refl w5.heap.size w5).alloc (Nat.le_refl _) (.cells #[.int .u64 x, .slice ca xn cc] 61)
      have N := hide (IsB.new w5 #[.int .u64 x, .slice ca xn cc] 61)
      replace BY := hide (BY.out.below b7)
      replace Ro := hide (Ro.out.below b7)
      replace Vb := hide (Vb.out.below b7)
      replace B := hide (B.out.bel b7)
      clear b7
      generalize w5.alloc (.cells #[.int .u64 x, .slice ca xn cc] 61) = W7 at BY Ro Vb B N ⊢
      generalize w5.heap.size = nb at N ⊢
      refine hK.out _ _ ?_ ?_
      · exact ⟨Vb.out.cell 0, Vb.out.cell 1⟩
      clear hK K
      try simp only [Act.put, List.setIfInBounds_toArray, List.set_cons_zero, List.set_cons_succ]
      clear hHeld
      have hHeld : (fun w' => w'.cell? ⟨H, 0, none⟩ = some (.int .u64 x) ∧ w'.cell? ⟨H, 1, none⟩ = some (.slice xa xn xc)) W7 := ⟨Vb.out.cell 0, Vb.out.cell 1⟩
      refine oneL (i := 8) (by kernel_rfl) rfl (fun K hK => ?_)
      obtain ⟨q2, c2, w8, hrun, hro8, hgr, hat⟩ := Ro.out.push (⟨x, ca, cc, xb⟩ : It) BY.out CN.out nb 1 (by rw [HXN.out]; exact N.out) (by have := HLn.out; omega) 22
      have hkp : Kp (Value.slice qa m.length qc).ownBlock.toList W7 w8 := Kp.of_grown hgr (fun k hk => Or.inl (by rw [hk]; simp))
      have hnew8 : Hid (∀ k, (Value.slice q2 (m.length + 1) c2).ownBlock = some k → w.heap.size ≤ k) := fun k hk => by
        rcases hat with e | e
        · rw [e] at hk; exact HNw.out k hk
        · rw [e] at hk; injection hk with hk; have := B.out.size; omega
      have B8 : Hid (Kp [] w w8) := B.out.trans hkp (fun j hj => Or.inr (HNw.out j (by simpa using hj)))
      have Vb8 : Hid (IsB w8 H #[.int .u64 x, .slice xa xn xc] 61) := Vb.out.kp hkp (fun hm => by exact HVo.out (by simpa using hm))
      have Ro8 := hide hro8
      have HRN := hide hrun
      clear hrun hro8 hgr hat hkp
      refine step_append_eq rfl (.tmp 15) (.tmp 22) 22 rfl _ _ (.slice q2 (m.length + 1) c2) w8 rfl rfl HRN.out ?_
      refine hK.out _ _ ?_ ?_
      · exact ⟨Vb8.out.cell 0, Vb8.out.cell 1⟩
      clear hK K
      try simp only [Act.put, List.setIfInBounds_toArray]
      clear hHeld
      have hHeld : (fun w' => w'.cell? ⟨H, 0, none⟩ = some (.int .u64 x) ∧ w'.cell? ⟨H, 1, none⟩ = some (.slice xa xn xc)) w8 := ⟨Vb8.out.cell 0, Vb8.out.cell 1⟩
      refine pickA (v := ?_) 9 (some 3) rfl rfl (by kernel_rfl) (by kernel_rfl) (by kernel_rfl) (by decide) (fun _ _ _ h => h) (by rfl) ?_ (by assumption) ?_
      rotate_left
      · intro w'
        go_simp
        try with_reducible rfl
      try simp only [Act.put]
      refine doneL (by kernel_rfl) ?_ _
      clear hHeld
      go_wp2
      have hlen1 : (m ++ [(⟨x, ca, cc, xb⟩ : It)]).length = m.length + 1 := by simp
      refine ⟨⟨j + 1, q2, c2, m ++ [(⟨x, ca, cc, xb⟩ : It)], by omega, by simp, by rw [hlen1], by rw [hlen1]; exact Ro8.out, ?_, by rw [hlen1]; exact hnew8.out, B8.out⟩, by simp [intOf]; omega⟩
      show _ = _
      rw [HTk.out, List.map_append, HM.out]
      rfl
    · obtain rfl : j = n := by omega
      go_wp2
      go_ret
      refine ⟨_, m, rfl, OW.out, ?_, HNw.out, HK.out.to_below (Nat.le_refl _) (by simp)⟩
      rw [HM.out, ← hn.out, List.take_length]

end Go.Proofs.Ytfnpapaibgbjpaa
