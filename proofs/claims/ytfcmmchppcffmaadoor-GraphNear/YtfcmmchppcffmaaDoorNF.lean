/- The document's Check of members. -/
import Derived.Test.YtfcmmchppcffmaaDoorNE
namespace Go.Proofs.YtfcmmchppcffmaaDoor
open Go.RowKit Go.Maps Go.ChangeMaps

def gdR (h : Int) (l : List Rf) (q : Nat) : Prop := ∀ hq : q < l.length, mayR h l[q] = true ∧ ∀ k (hk : k < q), l[k].id ≠ l[q].id ∧ (l[k].rk, l[k].kn) ≠ (l[q].rk, l[q].kn)
theorem okG_gd {h : Int} {l : List Rf} (hg : okG h l) : ∀ q, gdR h l q := by
  intro q hq
  refine ⟨hg.2.1.1 _ (List.getElem_mem hq), fun k hk => ⟨fun e => ?_, fun e => ?_⟩⟩
  · have h1 := List.pairwise_iff_getElem.1 hg.2.1.2 k q (by simp; omega) (by simp; omega) hk
    exact h1 (by simpa using e)
  · have h1 := List.pairwise_iff_getElem.1 hg.2.2 k q (by simp; omega) (by simp; omega) hk
    exact h1 (by simpa using e)
theorem okG_of {h : Int} {l : List Rf} (h0 : 0 ≤ h) (h1 : h ≤ 32) (hg : ∀ q, q < l.length → gdR h l q) : okG h l := by
  refine ⟨⟨h0, h1⟩, ⟨fun x hx => ?_, ?_⟩, ?_⟩
  · obtain ⟨q, hq, rfl⟩ := List.mem_iff_getElem.1 hx
    exact (hg q hq hq).1
  · refine List.pairwise_iff_getElem.2 fun i j hi hj hij => ?_
    rw [List.length_map] at hi hj
    rw [List.getElem_map, List.getElem_map]
    exact ((hg j hj hj).2 i hij).1
  · refine List.pairwise_iff_getElem.2 fun i j hi hj hij => ?_
    rw [List.length_map] at hi hj
    rw [List.getElem_map, List.getElem_map]
    exact ((hg j hj hj).2 i hij).2
noncomputable def chkE (h : Int) (l : List Rf) : Int := by classical exact if okG h l then 0 else 110
theorem chkE_yes {h : Int} {l : List Rf} (hg : okG h l) : chkE h l = 0 := by unfold chkE; exact if_pos hg
theorem chkE_no {h : Int} {l : List Rf} (hg : ¬ okG h l) : chkE h l = 110 := by unfold chkE; exact if_neg hg

set_option maxHeartbeats 8000000 in
set_option maxRecDepth 100000 in
theorem check_doc (h : Int) (v : Value) (l : List Rf) (hl : l.length ≤ 1000) (w : World) (R : RSl w v l) : Calls Tryd.prog 5 #[.int .i64 h, v] w fun e' w' => e' = .returned (.int .i64 (chkE h l)) ∧ Below w.heap.size w w' := by
  have mixed : Tryd.prog.follows .mixedOrders = true := by kernel_rfl
  obtain ⟨va, vc, rfl, -, -⟩ := R.shape
  generalize hn : l.length = n at *
  replace hn := hide hn
  by_cases hh0 : h < 0
  · have d1 : decide (h < 0) = true := by simpa using hh0
    go_enter Tryd.func5, Tryd.ntmps5
    go_wp2
    go_ret
    exact ⟨by rw [chkE_no (fun hg => by have := hg.1.1; omega)]; rfl, Below.refl _ _⟩
  by_cases hh1 : 32 < h
  · have d1 : decide (h < 0) = false := by simp; omega
    have d2 : decide (32 < h) = true := by simpa using hh1
    go_enter Tryd.func5, Tryd.ntmps5
    go_wp2
    go_ret
    exact ⟨by rw [chkE_no (fun hg => by have := hg.1.2; omega)]; rfl, Below.refl _ _⟩
  have d1 : decide (h < 0) = false := by simp; omega
  have d2 : decide (32 < h) = false := by simp; omega
  have d3 : decide ((1022 : Int) < (n : Int)) = false := by simp; omega
  have H0 : Hid (0 ≤ h) := by show _ ≤ _; omega
  have H1 : Hid (h ≤ 32) := by show _ ≤ _; omega
  clear hh0 hh1
  obtain ⟨G, hG⟩ : ∃ G, w.heap.size = G := ⟨_, rfl⟩
  have HG : Hid (w.heap.size = G) := hG
  have RA : Hid (∀ w', Below G w w' → RSl w' (.slice va n vc) l) := fun w' hb => R.below (hG ▸ hb)
  have B0 : Hid (Below G w w) := Below.refl _ _
  rw [hG]
  clear R hG
  go_enter Tryd.func5, Tryd.ntmps5
  go_wp2_with fail
  clear d1 d2 d3
  go_loopw [5] (fun i wr => ∃ j : Nat, j ≤ n ∧ i = .int .i64 (j : Int) ∧ Hid (∀ q, q < j → gdR h l q) ∧ Hid (Below G w wr)) (fun i _ => n - (intOf i).toNat)
  case atStart => exact ⟨0, by omega, rfl, fun q hq => by omega, B0⟩
  case round =>
    obtain ⟨j, hj, rfl, HN, B⟩ := hrel
    by_cases hlt : j < n
    rotate_left
    · obtain rfl : j = n := by omega
      have d1 : decide ((j : Int) < j) = false := by simp
      go_wp2
      go_ret
      exact ⟨by rw [chkE_yes (okG_of H0.out H1.out fun q hq => HN.out q (by have := hn.out; omega))]; rfl, B.out⟩
    have hjl : j < l.length := by rw [hn.out]; exact hlt
    have hlt2 : (j : Int) < n := by omega
    have d0 : decide ((j : Int) < n) = true := by simpa using hlt
    obtain ⟨g, o, cap, ev, hcap, -⟩ := (RA.out _ B.out).form (by omega)
    injection ev with ev el ec
    clear el
    subst ev ec
    obtain ⟨z, hz⟩ : ∃ z, l[j] = z := ⟨_, rfl⟩
    have LR : Hid ((Instr.loadAt 30 (.pointer (some ⟨g, o + j * 5, none⟩))).run Tryd.prog wr = .ok (.agg #[.int .i64 z.id, .int .i64 z.rk, .int .u64 z.kn, .int .i64 z.ln, .int .u64 z.bt]) wr) := hz ▸ (RA.out _ B.out).ldr j hjl
    have HBad : Hid (∀ x, (gdR h l j → x) → (gdR h l j → x)) := fun _ f => f
    have HGd : Hid (gdR h l j ↔ mayR h z = true ∧ ∀ k (hk : k < j), l[k].id ≠ z.id ∧ (l[k].rk, l[k].kn) ≠ (z.rk, z.kn)) := by
      show _ ↔ _
      unfold gdR
      subst hz
      exact ⟨fun f => f hjl, fun f _ => f⟩
    clear HBad hz
    have b5 := gal1 wr (.cells #[.int .i64 z.id, .int .i64 z.rk, .int .u64 z.kn, .int .i64 z.ln, .int .u64 z.bt] 30)
    have Z5 : Hid (IsB (wr.alloc (.cells #[.int .i64 z.id, .int .i64 z.rk, .int .u64 z.kn, .int .i64 z.ln, .int .u64 z.bt] 30)) wr.heap.size z.cells 30) := IsB.new wr _ _
    have B5 := hide (B.out.trans (b5.mono (by rw [← HG.out]; exact (HG.out.symm ▸ B.out).size)))
    clear b5
    have y0 : (wr.alloc (.cells #[.int .i64 z.id, .int .i64 z.rk, .int .u64 z.kn, .int .i64 z.ln, .int .u64 z.bt] 30)).cell? ⟨wr.heap.size, 0, none⟩ = some (.int .i64 z.id) := Z5.out.cell 0
    have y1 : (wr.alloc (.cells #[.int .i64 z.id, .int .i64 z.rk, .int .u64 z.kn, .int .i64 z.ln, .int .u64 z.bt] 30)).cell? ⟨wr.heap.size, 1, none⟩ = some (.int .i64 z.rk) := Z5.out.cell 1
    have LV : Hid ((Instr.loadAt 28 (.pointer (some ⟨wr.heap.size, 3, none⟩))).run Tryd.prog (wr.alloc (.cells #[.int .i64 z.id, .int .i64 z.rk, .int .u64 z.kn, .int .i64 z.ln, .int .u64 z.bt] 30)) = .ok (.agg #[.int .i64 (z.ln), .int .u64 (z.bt)]) (wr.alloc (.cells #[.int .i64 z.id, .int .i64 z.rk, .int .u64 z.kn, .int .i64 z.ln, .int .u64 z.bt] 30))) := load_mid (cs := z.cs) Z5.out 3 _ [.int .i64 z.ln, .int .u64 z.bt] _ rfl Tryd.underlying28 rfl (by kernel_rfl)
    have HM : Hid (mayR h z = (decide (2 ≤ z.id) && (decide (z.id < 1024) && (decide (z.rk = 2) && (rt z.ln z.bt && decide (z.ln = h)))))) := rfl
    by_cases c1 : z.id < 2
    · have d4 : decide (z.id < 2) = true := by simpa using c1
      go_wp2_with (first | (focus ((with_reducible refine wpList_load_w ?_ 30 (.tmp 27) ?_ ?_ LR.out ?_); rotate_left; rfl; rfl; rotate_left; rfl)) | (focus ((with_reducible refine wpList_load_w ?_ 28 (.tmp 44) ?_ ?_ LV.out ?_); rotate_left; rfl; rfl; rotate_left; rfl)))
      go_ret
      exact ⟨by rw [chkE_no (fun hg => by have hq := (HGd.out.1 (okG_gd hg j)).1; rw [HM.out] at hq; simp at hq; omega)]; rfl, B5.out⟩
    have d4 : decide (z.id < 2) = false := by simp; omega
    by_cases c2 : 1024 ≤ z.id
    · have d5 : decide (1024 ≤ z.id) = true := by simpa using c2
      go_wp2_with (first | (focus ((with_reducible refine wpList_load_w ?_ 30 (.tmp 27) ?_ ?_ LR.out ?_); rotate_left; rfl; rfl; rotate_left; rfl)) | (focus ((with_reducible refine wpList_load_w ?_ 28 (.tmp 44) ?_ ?_ LV.out ?_); rotate_left; rfl; rfl; rotate_left; rfl)))
      go_ret
      exact ⟨by rw [chkE_no (fun hg => by have hq := (HGd.out.1 (okG_gd hg j)).1; rw [HM.out] at hq; simp at hq; omega)]; rfl, B5.out⟩
    have d5 : decide (1024 ≤ z.id) = false := by simp; omega
    by_cases c3 : z.rk = 2
    rotate_left
    · have d6 : (z.rk != 2) = true := by simpa using c3
      go_wp2_with (first | (focus ((with_reducible refine wpList_load_w ?_ 30 (.tmp 27) ?_ ?_ LR.out ?_); rotate_left; rfl; rfl; rotate_left; rfl)) | (focus ((with_reducible refine wpList_load_w ?_ 28 (.tmp 44) ?_ ?_ LV.out ?_); rotate_left; rfl; rfl; rotate_left; rfl)))
      go_ret
      exact ⟨by rw [chkE_no (fun hg => by have hq := (HGd.out.1 (okG_gd hg j)).1; rw [HM.out] at hq; simp at hq; exact c3 hq.2.2.1)]; rfl, B5.out⟩
    have d6 : (z.rk != 2) = false := by simpa using c3
    have C1 := hide c1
    have C2 := hide c2
    have C3 := hide c3
    clear c1 c2 c3
    go_wp2_with (first | (focus ((with_reducible refine wpList_load_w ?_ 30 (.tmp 27) ?_ ?_ LR.out ?_); rotate_left; rfl; rfl; rotate_left; rfl)) | (focus ((with_reducible refine wpList_load_w ?_ 28 (.tmp 44) ?_ ?_ LV.out ?_); rotate_left; rfl; rfl; rotate_left; rfl)))
    clear y1 LV
    generalize hW : wr.alloc (.cells #[.int .i64 z.id, .int .i64 z.rk, .int .u64 z.kn, .int .i64 z.ln, .int .u64 z.bt] 30) = W5 at *
    clear hW
    generalize wr.heap.size = N at *
    refine (rright_any z.ln z.bt W5).mono ?_
    rintro e w6 ⟨rfl, hb⟩
    replace Z5 := hide (Z5.out.below hb)
    replace B5 := hide (B5.out.trans (hb.mono (by rw [← HG.out]; exact (HG.out.symm ▸ B5.out).size)))
    clear hb y0
    have y3 : w6.cell? ⟨N, 3, none⟩ = some (.int .i64 z.ln) := Z5.out.cell 3
    cases hR : rt z.ln z.bt with
    | false =>
      go_wp2
      go_ret
      exact ⟨by rw [chkE_no (fun hg => by have hq := (HGd.out.1 (okG_gd hg j)).1; rw [HM.out] at hq; simp at hq; simp [hR] at hq)]; rfl, B5.out⟩
    | true =>
      by_cases c5 : z.ln = h
      rotate_left
      · have d7 : (z.ln != h) = true := by simpa using c5
        go_wp2
        go_ret
        exact ⟨by rw [chkE_no (fun hg => by have hq := (HGd.out.1 (okG_gd hg j)).1; rw [HM.out] at hq; simp at hq; exact c5 hq.2.2.2.2)]; rfl, B5.out⟩
      have d7 : (z.ln != h) = false := by simpa using c5
      have HMy : Hid (mayR h z = true) := by
        show _ = _
        rw [HM.out, hR]
        have := C1.out
        have := C2.out
        have := C3.out
        simp
        omega
      clear hR c5 HM
      go_wp2_with fail
      clear y3
      go_loopw [7] (fun k wr => ∃ q : Nat, q ≤ j ∧ k = .int .i64 (q : Int) ∧ Hid (∀ p (_ : p < q) (hp : p < l.length), l[p].id ≠ z.id ∧ (l[p].rk, l[p].kn) ≠ (z.rk, z.kn)) ∧ Hid (IsB wr N z.cells 30) ∧ Hid (Below G w wr)) (fun k _ => j - (intOf k).toNat)
      case atStart => exact ⟨0, by omega, rfl, fun p hp => by omega, Z5, B5⟩
      case round =>
        clear Z5 B5 B
        obtain ⟨q, hq, rfl, HQ, Z5, B⟩ := hrel
        by_cases hlq : q < j
        rotate_left
        · have d8 : decide ((q : Int) < (j : Int)) = false := by simp; omega
          have HN2 : Hid (∀ p, p < j + 1 → gdR h l p) := fun p hp => by
            by_cases e : p = j
            · subst e; exact HGd.out.2 ⟨HMy.out, fun k hk => HQ.out k (by omega) (by omega)⟩
            · exact HN.out p (by omega)
          clear HQ
          go_wp2
          exact ⟨⟨j + 1, by omega, by simp, HN2, B⟩, by simp [intOf]; omega⟩
        have hql : q < l.length := by omega
        have hlq2 : (q : Int) < (j : Int) := by omega
        have hqn : (q : Int) < (n : Int) := by omega
        have RQ := RA.out _ (B.out.drew)
        have y0 : wr.drew.cell? ⟨g, o + q * 5, none⟩ = some (.int .i64 l[q].id) := RQ.cid q hql
        have LK : Hid ((Instr.loadAt 26 (.pointer (some ⟨g, o + q * 5 + 1, none⟩))).run Tryd.prog wr.drew = .ok (.agg #[.int .i64 l[q].rk, .int .u64 l[q].kn]) wr.drew) := RQ.ldk q hql
        have HK : Hid ((l[q].id ≠ z.id ∧ (l[q].rk, l[q].kn) ≠ (z.rk, z.kn)) → ∀ p (_ : p < q + 1) (hp : p < l.length), l[p].id ≠ z.id ∧ (l[p].rk, l[p].kn) ≠ (z.rk, z.kn)) := fun f p hp hp2 => by
          by_cases e : p = q
          · subst e; exact f
          · exact HQ.out p (by omega) hp2
        have HX : Hid (gdR h l j → l[q].id ≠ z.id ∧ (l[q].rk, l[q].kn) ≠ (z.rk, z.kn)) := fun f => (HGd.out.1 f).2 q hlq
        clear RQ HQ
        generalize l[q].id = ui at *
        generalize l[q].rk = ur at *
        generalize l[q].kn = un at *
        go_wp2_with fail
        have Z6 := hide (Z5.out.below ((Below.refl _ _).drew))
        have BD := hide (B.out.drew)
        clear Z5 B
        by_cases e1 : ui = z.id
        · have d9 : (ui == z.id) = true := by simpa using e1
          refine regionL 18 (fun w' => w'.cell? ⟨g, o + q * 5, none⟩ = some (.int .i64 ui) ∧ IsB w' N z.cells 30 ∧ (Instr.loadAt 26 (.pointer (some ⟨g, o + q * 5 + 1, none⟩))).run Tryd.prog w' = .ok (.agg #[.int .i64 (ur), .int .u64 (un)]) w') mixed ⟨y0, Z6.out, LK.out⟩ (fun hHeld => ?_)
          generalize wr.drew = WD at *
          refine pickA (v := ?_) 0 (some 61) rfl rfl (by kernel_rfl) (by kernel_rfl) (by kernel_rfl) (by decide) (fun _ _ _ h => h) (by rfl) ?_ (by assumption) ?_
          rotate_left
          · intro w'
            go_simp
            try with_reducible rfl
          try simp only [Act.put, List.setIfInBounds_toArray, List.set_cons_zero, List.set_cons_succ]
          refine pickA (v := ?_) 1 (some 62) rfl rfl (by kernel_rfl) (by kernel_rfl) (by kernel_rfl) (by decide) (fun _ _ _ h => h) (by rfl) ?_ (by assumption) ?_
          rotate_left
          · intro w'
            go_simp
            try with_reducible rfl
          try simp only [Act.put, List.setIfInBounds_toArray, List.set_cons_zero, List.set_cons_succ]
          refine pickA (v := ?_) 2 (some 63) rfl rfl (by kernel_rfl) (by kernel_rfl) (by kernel_rfl) (by decide) (fun _ _ _ h => h) (by rfl) ?_ (by assumption) ?_
          rotate_left
          · intro w'
            go_simp
            try with_reducible rfl
          try simp only [Act.put, List.setIfInBounds_toArray, List.set_cons_zero, List.set_cons_succ]
          refine pickA (v := ?_) 3 (some 64) rfl rfl (by kernel_rfl) (by kernel_rfl) (by kernel_rfl) (by decide) (fun _ _ _ h => h) (by rfl) ?_ (by assumption) ?_
          rotate_left
          · intro w'
            go_simp
            try with_reducible rfl
          try simp only [Act.put, List.setIfInBounds_toArray, List.set_cons_zero, List.set_cons_succ]
          refine pickL (v := ?_) 4 (some 65) rfl rfl (by kernel_rfl) (by kernel_rfl) (by kernel_rfl) (by decide) (by kernel_rfl) (by kernel_rfl) (fun _ _ _ h => h) (by rfl) ?_ (by assumption) ?_
          rotate_left
          · intro w' hSw
            obtain ⟨q0, q1, q2⟩ := hSw; have q3 : w'.cell? ⟨N, 0, none⟩ = some (.int .i64 z.id) := q1.cell 0
            go_simp
            try with_reducible rfl
          try simp only [Act.put, List.setIfInBounds_toArray, List.set_cons_zero, List.set_cons_succ]
          refine pickA (v := ?_) 5 (some 66) rfl rfl (by kernel_rfl) (by kernel_rfl) (by kernel_rfl) (by decide) (fun _ _ _ h => h) (by rfl) ?_ (by assumption) ?_
          rotate_left
          · intro w'
            go_simp
            try with_reducible rfl
          try simp only [Act.put, List.setIfInBounds_toArray, List.set_cons_zero, List.set_cons_succ]
          refine pickL (v := ?_) 6 (some 67) rfl rfl (by kernel_rfl) (by kernel_rfl) (by kernel_rfl) (by decide) (by kernel_rfl) (by kernel_rfl) (fun _ _ _ h => h) (by rfl) ?_ (by assumption) ?_
          rotate_left
          · intro w' hSw
            obtain ⟨q0, q1, q2⟩ := hSw; have q3 : w'.cell? ⟨N, 0, none⟩ = some (.int .i64 z.id) := q1.cell 0
            go_simp
            try with_reducible rfl
          try simp only [Act.put, List.setIfInBounds_toArray, List.set_cons_zero, List.set_cons_succ]
          refine pickA (v := ?_) 7 (some 68) rfl rfl (by kernel_rfl) (by kernel_rfl) (by kernel_rfl) (by decide) (fun _ _ _ h => h) (by rfl) ?_ (by assumption) ?_
          rotate_left
          · intro w'
            go_simp
            try with_reducible rfl
          try simp only [Act.put, List.setIfInBounds_toArray, List.set_cons_zero, List.set_cons_succ]
          refine pickA (v := ?_) 8 (some 69) rfl rfl (by kernel_rfl) (by kernel_rfl) (by kernel_rfl) (by decide) (fun _ _ _ h => h) (by rfl) ?_ (by assumption) ?_
          rotate_left
          · intro w'
            go_simp
            try with_reducible rfl
          try simp only [Act.put, List.setIfInBounds_toArray, List.set_cons_zero, List.set_cons_succ]
          refine pickN 9 (some 70) rfl rfl (by kernel_rfl) (by kernel_rfl) (by kernel_rfl) (by decide) (fun _ _ _ h => h) (by rfl) (by assumption) ?_
          try simp only [Act.put, List.setIfInBounds_toArray, List.set_cons_zero, List.set_cons_succ]
          refine pickN 10 (some 71) rfl rfl (by kernel_rfl) (by kernel_rfl) (by kernel_rfl) (by decide) (fun _ _ _ h => h) (by rfl) (by assumption) ?_
          try simp only [Act.put, List.setIfInBounds_toArray, List.set_cons_zero, List.set_cons_succ]
          refine pickN 11 (some 72) rfl rfl (by kernel_rfl) (by kernel_rfl) (by kernel_rfl) (by decide) (fun _ _ _ h => h) (by rfl) (by assumption) ?_
          try simp only [Act.put, List.setIfInBounds_toArray, List.set_cons_zero, List.set_cons_succ]
          refine pickN 12 (some 73) rfl rfl (by kernel_rfl) (by kernel_rfl) (by kernel_rfl) (by decide) (fun _ _ _ h => h) (by rfl) (by assumption) ?_
          try simp only [Act.put, List.setIfInBounds_toArray, List.set_cons_zero, List.set_cons_succ]
          refine pickN 13 (some 74) rfl rfl (by kernel_rfl) (by kernel_rfl) (by kernel_rfl) (by decide) (fun _ _ _ h => h) (by rfl) (by assumption) ?_
          try simp only [Act.put, List.setIfInBounds_toArray, List.set_cons_zero, List.set_cons_succ]
          refine pickN 14 (some 75) rfl rfl (by kernel_rfl) (by kernel_rfl) (by kernel_rfl) (by decide) (fun _ _ _ h => h) (by rfl) (by assumption) ?_
          try simp only [Act.put, List.setIfInBounds_toArray, List.set_cons_zero, List.set_cons_succ]
          refine pickN 15 (some 76) rfl rfl (by kernel_rfl) (by kernel_rfl) (by kernel_rfl) (by decide) (fun _ _ _ h => h) (by rfl) (by assumption) ?_
          try simp only [Act.put, List.setIfInBounds_toArray, List.set_cons_zero, List.set_cons_succ]
          refine pickN 16 (some 77) rfl rfl (by kernel_rfl) (by kernel_rfl) (by kernel_rfl) (by decide) (fun _ _ _ h => h) (by rfl) (by assumption) ?_
          try simp only [Act.put, List.setIfInBounds_toArray, List.set_cons_zero, List.set_cons_succ]
          refine pickA (v := ?_) 17 (some 78) rfl rfl (by kernel_rfl) (by kernel_rfl) (by kernel_rfl) (by decide) (fun _ _ _ h => h) (by rfl) ?_ (by assumption) ?_
          rotate_left
          · intro w'
            go_simp
            try with_reducible rfl
          try simp only [Act.put, List.setIfInBounds_toArray, List.set_cons_zero, List.set_cons_succ]
          refine doneL (by kernel_rfl) ?_ _
          clear hHeld
          go_wp2
          go_ret
          exact ⟨by rw [chkE_no (fun hg => (HX.out (okG_gd hg j)).1 e1)]; rfl, BD.out⟩
        have d9 : (ui == z.id) = false := by simpa using e1
        by_cases e2 : ur = z.rk ∧ un = z.kn
        · have HB2 : Hid ((ur == z.rk && un == z.kn) = true) := by show _ = _; simp [e2.1, e2.2]
          have E2 := hide e2
          clear e2
          refine regionL 18 (fun w' => w'.cell? ⟨g, o + q * 5, none⟩ = some (.int .i64 ui) ∧ IsB w' N z.cells 30 ∧ (Instr.loadAt 26 (.pointer (some ⟨g, o + q * 5 + 1, none⟩))).run Tryd.prog w' = .ok (.agg #[.int .i64 (ur), .int .u64 (un)]) w') mixed ⟨y0, Z6.out, LK.out⟩ (fun hHeld => ?_)
          generalize wr.drew = WD at *
          refine pickA (v := ?_) 0 (some 61) rfl rfl (by kernel_rfl) (by kernel_rfl) (by kernel_rfl) (by decide) (fun _ _ _ h => h) (by rfl) ?_ (by assumption) ?_
          rotate_left
          · intro w'
            go_simp
            try with_reducible rfl
          try simp only [Act.put, List.setIfInBounds_toArray, List.set_cons_zero, List.set_cons_succ]
          refine pickA (v := ?_) 1 (some 62) rfl rfl (by kernel_rfl) (by kernel_rfl) (by kernel_rfl) (by decide) (fun _ _ _ h => h) (by rfl) ?_ (by assumption) ?_
          rotate_left
          · intro w'
            go_simp
            try with_reducible rfl
          try simp only [Act.put, List.setIfInBounds_toArray, List.set_cons_zero, List.set_cons_succ]
          refine pickA (v := ?_) 2 (some 63) rfl rfl (by kernel_rfl) (by kernel_rfl) (by kernel_rfl) (by decide) (fun _ _ _ h => h) (by rfl) ?_ (by assumption) ?_
          rotate_left
          · intro w'
            go_simp
            try with_reducible rfl
          try simp only [Act.put, List.setIfInBounds_toArray, List.set_cons_zero, List.set_cons_succ]
          refine pickA (v := ?_) 3 (some 64) rfl rfl (by kernel_rfl) (by kernel_rfl) (by kernel_rfl) (by decide) (fun _ _ _ h => h) (by rfl) ?_ (by assumption) ?_
          rotate_left
          · intro w'
            go_simp
            try with_reducible rfl
          try simp only [Act.put, List.setIfInBounds_toArray, List.set_cons_zero, List.set_cons_succ]
          refine pickL (v := ?_) 4 (some 65) rfl rfl (by kernel_rfl) (by kernel_rfl) (by kernel_rfl) (by decide) (by kernel_rfl) (by kernel_rfl) (fun _ _ _ h => h) (by rfl) ?_ (by assumption) ?_
          rotate_left
          · intro w' hSw
            obtain ⟨q0, q1, q2⟩ := hSw; have q3 : w'.cell? ⟨N, 0, none⟩ = some (.int .i64 z.id) := q1.cell 0
            go_simp
            try with_reducible rfl
          try simp only [Act.put, List.setIfInBounds_toArray, List.set_cons_zero, List.set_cons_succ]
          refine pickA (v := ?_) 5 (some 66) rfl rfl (by kernel_rfl) (by kernel_rfl) (by kernel_rfl) (by decide) (fun _ _ _ h => h) (by rfl) ?_ (by assumption) ?_
          rotate_left
          · intro w'
            go_simp
            try with_reducible rfl
          try simp only [Act.put, List.setIfInBounds_toArray, List.set_cons_zero, List.set_cons_succ]
          refine pickL (v := ?_) 6 (some 67) rfl rfl (by kernel_rfl) (by kernel_rfl) (by kernel_rfl) (by decide) (by kernel_rfl) (by kernel_rfl) (fun _ _ _ h => h) (by rfl) ?_ (by assumption) ?_
          rotate_left
          · intro w' hSw
            obtain ⟨q0, q1, q2⟩ := hSw; have q3 : w'.cell? ⟨N, 0, none⟩ = some (.int .i64 z.id) := q1.cell 0
            go_simp
            try with_reducible rfl
          try simp only [Act.put, List.setIfInBounds_toArray, List.set_cons_zero, List.set_cons_succ]
          refine pickA (v := ?_) 7 (some 68) rfl rfl (by kernel_rfl) (by kernel_rfl) (by kernel_rfl) (by decide) (fun _ _ _ h => h) (by rfl) ?_ (by assumption) ?_
          rotate_left
          · intro w'
            go_simp
            try with_reducible rfl
          try simp only [Act.put, List.setIfInBounds_toArray, List.set_cons_zero, List.set_cons_succ]
          refine pickA (v := ?_) 8 (some 69) rfl rfl (by kernel_rfl) (by kernel_rfl) (by kernel_rfl) (by decide) (fun _ _ _ h => h) (by rfl) ?_ (by assumption) ?_
          rotate_left
          · intro w'
            go_simp
            try with_reducible rfl
          try simp only [Act.put, List.setIfInBounds_toArray, List.set_cons_zero, List.set_cons_succ]
          refine pickA (v := ?_) 9 (some 70) rfl rfl (by kernel_rfl) (by kernel_rfl) (by kernel_rfl) (by decide) (fun _ _ _ h => h) (by rfl) ?_ (by assumption) ?_
          rotate_left
          · intro w'
            go_simp
            try with_reducible rfl
          try simp only [Act.put, List.setIfInBounds_toArray, List.set_cons_zero, List.set_cons_succ]
          refine pickA (v := ?_) 10 (some 71) rfl rfl (by kernel_rfl) (by kernel_rfl) (by kernel_rfl) (by decide) (fun _ _ _ h => h) (by rfl) ?_ (by assumption) ?_
          rotate_left
          · intro w'
            go_simp
            try with_reducible rfl
          try simp only [Act.put, List.setIfInBounds_toArray, List.set_cons_zero, List.set_cons_succ]
          refine pickA (v := ?_) 11 (some 72) rfl rfl (by kernel_rfl) (by kernel_rfl) (by kernel_rfl) (by decide) (fun _ _ _ h => h) (by rfl) ?_ (by assumption) ?_
          rotate_left
          · intro w'
            go_simp
            try with_reducible rfl
          try simp only [Act.put, List.setIfInBounds_toArray, List.set_cons_zero, List.set_cons_succ]
          refine pickA (v := ?_) 12 (some 73) rfl rfl (by kernel_rfl) (by kernel_rfl) (by kernel_rfl) (by decide) (fun _ _ _ h => h) (by rfl) ?_ (by assumption) ?_
          rotate_left
          · intro w'
            go_simp
            try with_reducible rfl
          try simp only [Act.put, List.setIfInBounds_toArray, List.set_cons_zero, List.set_cons_succ]
          refine pickL (v := (.agg #[.int .i64 (ur), .int .u64 (un)])) 13 (some 74) rfl rfl (by kernel_rfl) (by kernel_rfl) (by kernel_rfl) (by decide) (by kernel_rfl) (by kernel_rfl) (fun _ _ _ h => h) (by rfl) ?_ (by assumption) ?_
          · intro w' hSw
            obtain ⟨q0, q1, q2⟩ := hSw; have q3 : w'.cell? ⟨N, 0, none⟩ = some (.int .i64 z.id) := q1.cell 0
            exact exec_load rfl rfl q2
          try simp only [Act.put, List.setIfInBounds_toArray, List.set_cons_zero, List.set_cons_succ]
          refine pickA (v := ?_) 14 (some 75) rfl rfl (by kernel_rfl) (by kernel_rfl) (by kernel_rfl) (by decide) (fun _ _ _ h => h) (by rfl) ?_ (by assumption) ?_
          rotate_left
          · intro w'
            go_simp
            try with_reducible rfl
          try simp only [Act.put, List.setIfInBounds_toArray, List.set_cons_zero, List.set_cons_succ]
          refine pickL (v := (.agg #[.int .i64 (z.rk), .int .u64 (z.kn)])) 15 (some 76) rfl rfl (by kernel_rfl) (by kernel_rfl) (by kernel_rfl) (by decide) (by kernel_rfl) (by kernel_rfl) (fun _ _ _ h => h) (by rfl) ?_ (by assumption) ?_
          · intro w' hSw
            obtain ⟨q0, q1, q2⟩ := hSw; have q3 : w'.cell? ⟨N, 0, none⟩ = some (.int .i64 z.id) := q1.cell 0
            exact exec_load rfl rfl (ld_key q1)
          try simp only [Act.put, List.setIfInBounds_toArray, List.set_cons_zero, List.set_cons_succ]
          refine pickA (v := .bool true) 16 (some 77) rfl rfl (by kernel_rfl) (by kernel_rfl) (by kernel_rfl) (by decide) (fun _ _ _ h => h) (by rfl) ?_ (by assumption) ?_
          · intro w'
            exact exec_bin kguard rfl rfl rfl (by rw [eqk, HB2.out])
          try simp only [Act.put, List.setIfInBounds_toArray, List.set_cons_zero, List.set_cons_succ]
          refine pickA (v := ?_) 17 (some 78) rfl rfl (by kernel_rfl) (by kernel_rfl) (by kernel_rfl) (by decide) (fun _ _ _ h => h) (by rfl) ?_ (by assumption) ?_
          rotate_left
          · intro w'
            go_simp
            try with_reducible rfl
          try simp only [Act.put, List.setIfInBounds_toArray, List.set_cons_zero, List.set_cons_succ]
          refine doneL (by kernel_rfl) ?_ _
          clear hHeld
          go_wp2
          go_ret
          exact ⟨by rw [chkE_no (fun hg => (HX.out (okG_gd hg j)).2 (by rw [E2.out.1, E2.out.2]))]; rfl, BD.out⟩
        have HB2 : Hid ((ur == z.rk && un == z.kn) = false) := by show _ = _; simp; exact fun a b => e2 ⟨a, b⟩
        have HQ2 := hide (HK.out ⟨e1, fun a => e2 (by simpa using a)⟩)
        clear HK HX e2
        refine regionL 18 (fun w' => w'.cell? ⟨g, o + q * 5, none⟩ = some (.int .i64 ui) ∧ IsB w' N z.cells 30 ∧ (Instr.loadAt 26 (.pointer (some ⟨g, o + q * 5 + 1, none⟩))).run Tryd.prog w' = .ok (.agg #[.int .i64 (ur), .int .u64 (un)]) w') mixed ⟨y0, Z6.out, LK.out⟩ (fun hHeld => ?_)
        generalize wr.drew = WD at *
        refine pickA (v := ?_) 0 (some 61) rfl rfl (by kernel_rfl) (by kernel_rfl) (by kernel_rfl) (by decide) (fun _ _ _ h => h) (by rfl) ?_ (by assumption) ?_
        rotate_left
        · intro w'
          go_simp
          try with_reducible rfl
        try simp only [Act.put, List.setIfInBounds_toArray, List.set_cons_zero, List.set_cons_succ]
        refine pickA (v := ?_) 1 (some 62) rfl rfl (by kernel_rfl) (by kernel_rfl) (by kernel_rfl) (by decide) (fun _ _ _ h => h) (by rfl) ?_ (by assumption) ?_
        rotate_left
        · intro w'
          go_simp
          try with_reducible rfl
        try simp only [Act.put, List.setIfInBounds_toArray, List.set_cons_zero, List.set_cons_succ]
        refine pickA (v := ?_) 2 (some 63) rfl rfl (by kernel_rfl) (by kernel_rfl) (by kernel_rfl) (by decide) (fun _ _ _ h => h) (by rfl) ?_ (by assumption) ?_
        rotate_left
        · intro w'
          go_simp
          try with_reducible rfl
        try simp only [Act.put, List.setIfInBounds_toArray, List.set_cons_zero, List.set_cons_succ]
        refine pickA (v := ?_) 3 (some 64) rfl rfl (by kernel_rfl) (by kernel_rfl) (by kernel_rfl) (by decide) (fun _ _ _ h => h) (by rfl) ?_ (by assumption) ?_
        rotate_left
        · intro w'
          go_simp
          try with_reducible rfl
        try simp only [Act.put, List.setIfInBounds_toArray, List.set_cons_zero, List.set_cons_succ]
        refine pickL (v := ?_) 4 (some 65) rfl rfl (by kernel_rfl) (by kernel_rfl) (by kernel_rfl) (by decide) (by kernel_rfl) (by kernel_rfl) (fun _ _ _ h => h) (by rfl) ?_ (by assumption) ?_
        rotate_left
        · intro w' hSw
          obtain ⟨q0, q1, q2⟩ := hSw; have q3 : w'.cell? ⟨N, 0, none⟩ = some (.int .i64 z.id) := q1.cell 0
          go_simp
          try with_reducible rfl
        try simp only [Act.put, List.setIfInBounds_toArray, List.set_cons_zero, List.set_cons_succ]
        refine pickA (v := ?_) 5 (some 66) rfl rfl (by kernel_rfl) (by kernel_rfl) (by kernel_rfl) (by decide) (fun _ _ _ h => h) (by rfl) ?_ (by assumption) ?_
        rotate_left
        · intro w'
          go_simp
          try with_reducible rfl
        try simp only [Act.put, List.setIfInBounds_toArray, List.set_cons_zero, List.set_cons_succ]
        refine pickL (v := ?_) 6 (some 67) rfl rfl (by kernel_rfl) (by kernel_rfl) (by kernel_rfl) (by decide) (by kernel_rfl) (by kernel_rfl) (fun _ _ _ h => h) (by rfl) ?_ (by assumption) ?_
        rotate_left
        · intro w' hSw
          obtain ⟨q0, q1, q2⟩ := hSw; have q3 : w'.cell? ⟨N, 0, none⟩ = some (.int .i64 z.id) := q1.cell 0
          go_simp
          try with_reducible rfl
        try simp only [Act.put, List.setIfInBounds_toArray, List.set_cons_zero, List.set_cons_succ]
        refine pickA (v := ?_) 7 (some 68) rfl rfl (by kernel_rfl) (by kernel_rfl) (by kernel_rfl) (by decide) (fun _ _ _ h => h) (by rfl) ?_ (by assumption) ?_
        rotate_left
        · intro w'
          go_simp
          try with_reducible rfl
        try simp only [Act.put, List.setIfInBounds_toArray, List.set_cons_zero, List.set_cons_succ]
        refine pickA (v := ?_) 8 (some 69) rfl rfl (by kernel_rfl) (by kernel_rfl) (by kernel_rfl) (by decide) (fun _ _ _ h => h) (by rfl) ?_ (by assumption) ?_
        rotate_left
        · intro w'
          go_simp
          try with_reducible rfl
        try simp only [Act.put, List.setIfInBounds_toArray, List.set_cons_zero, List.set_cons_succ]
        refine pickA (v := ?_) 9 (some 70) rfl rfl (by kernel_rfl) (by kernel_rfl) (by kernel_rfl) (by decide) (fun _ _ _ h => h) (by rfl) ?_ (by assumption) ?_
        rotate_left
        · intro w'
          go_simp
          try with_reducible rfl
        try simp only [Act.put, List.setIfInBounds_toArray, List.set_cons_zero, List.set_cons_succ]
        refine pickA (v := ?_) 10 (some 71) rfl rfl (by kernel_rfl) (by kernel_rfl) (by kernel_rfl) (by decide) (fun _ _ _ h => h) (by rfl) ?_ (by assumption) ?_
        rotate_left
        · intro w'
          go_simp
          try with_reducible rfl
        try simp only [Act.put, List.setIfInBounds_toArray, List.set_cons_zero, List.set_cons_succ]
        refine pickA (v := ?_) 11 (some 72) rfl rfl (by kernel_rfl) (by kernel_rfl) (by kernel_rfl) (by decide) (fun _ _ _ h => h) (by rfl) ?_ (by assumption) ?_
        rotate_left
        · intro w'
          go_simp
          try with_reducible rfl
        try simp only [Act.put, List.setIfInBounds_toArray, List.set_cons_zero, List.set_cons_succ]
        refine pickA (v := ?_) 12 (some 73) rfl rfl (by kernel_rfl) (by kernel_rfl) (by kernel_rfl) (by decide) (fun _ _ _ h => h) (by rfl) ?_ (by assumption) ?_
        rotate_left
        · intro w'
          go_simp
          try with_reducible rfl
        try simp only [Act.put, List.setIfInBounds_toArray, List.set_cons_zero, List.set_cons_succ]
        refine pickL (v := (.agg #[.int .i64 (ur), .int .u64 (un)])) 13 (some 74) rfl rfl (by kernel_rfl) (by kernel_rfl) (by kernel_rfl) (by decide) (by kernel_rfl) (by kernel_rfl) (fun _ _ _ h => h) (by rfl) ?_ (by assumption) ?_
        · intro w' hSw
          obtain ⟨q0, q1, q2⟩ := hSw; have q3 : w'.cell? ⟨N, 0, none⟩ = some (.int .i64 z.id) := q1.cell 0
          exact exec_load rfl rfl q2
        try simp only [Act.put, List.setIfInBounds_toArray, List.set_cons_zero, List.set_cons_succ]
        refine pickA (v := ?_) 14 (some 75) rfl rfl (by kernel_rfl) (by kernel_rfl) (by kernel_rfl) (by decide) (fun _ _ _ h => h) (by rfl) ?_ (by assumption) ?_
        rotate_left
        · intro w'
          go_simp
          try with_reducible rfl
        try simp only [Act.put, List.setIfInBounds_toArray, List.set_cons_zero, List.set_cons_succ]
        refine pickL (v := (.agg #[.int .i64 (z.rk), .int .u64 (z.kn)])) 15 (some 76) rfl rfl (by kernel_rfl) (by kernel_rfl) (by kernel_rfl) (by decide) (by kernel_rfl) (by kernel_rfl) (fun _ _ _ h => h) (by rfl) ?_ (by assumption) ?_
        · intro w' hSw
          obtain ⟨q0, q1, q2⟩ := hSw; have q3 : w'.cell? ⟨N, 0, none⟩ = some (.int .i64 z.id) := q1.cell 0
          exact exec_load rfl rfl (ld_key q1)
        try simp only [Act.put, List.setIfInBounds_toArray, List.set_cons_zero, List.set_cons_succ]
        refine pickA (v := .bool false) 16 (some 77) rfl rfl (by kernel_rfl) (by kernel_rfl) (by kernel_rfl) (by decide) (fun _ _ _ h => h) (by rfl) ?_ (by assumption) ?_
        · intro w'
          exact exec_bin kguard rfl rfl rfl (by rw [eqk, HB2.out])
        try simp only [Act.put, List.setIfInBounds_toArray, List.set_cons_zero, List.set_cons_succ]
        refine pickA (v := ?_) 17 (some 78) rfl rfl (by kernel_rfl) (by kernel_rfl) (by kernel_rfl) (by decide) (fun _ _ _ h => h) (by rfl) ?_ (by assumption) ?_
        rotate_left
        · intro w'
          go_simp
          try with_reducible rfl
        try simp only [Act.put, List.setIfInBounds_toArray, List.set_cons_zero, List.set_cons_succ]
        refine doneL (by kernel_rfl) ?_ _
        clear hHeld
        go_wp2
        exact ⟨⟨q + 1, by omega, by simp, HQ2, Z6, BD⟩, by simp [intOf]; omega⟩

end Go.Proofs.YtfcmmchppcffmaaDoor

/- The document's Beside. -/
namespace Go.Proofs.YtfcmmchppcffmaaDoor
open Go.RowKit Go.Maps Go.ChangeMaps

/-- What the document's Beside answers. -/
noncomputable def docB (h x y d : Int) (l : List Rf) : Rf × Rf × Int :=
  @ite _ (okG h l) (Classical.propDecidable _)
    (if (rt x y && decide (x ≤ h)) = true then (if plI d (rowL h (sortL (l.filter fun r => bgS r.ln r.bt x y))) < 0 then (zr, zr, 111) else (besL (rowL h (sortL (l.filter fun r => bgS r.ln r.bt x y))) (plI d (rowL h (sortL (l.filter fun r => bgS r.ln r.bt x y)))).toNat, besR (rowL h (sortL (l.filter fun r => bgS r.ln r.bt x y))) (plI d (rowL h (sortL (l.filter fun r => bgS r.ln r.bt x y)))).toNat, 0)) else (zr, zr, 10))
    (zr, zr, 110)
theorem docB_bad {h x y d : Int} {l : List Rf} (hg : ¬ okG h l) : docB h x y d l = (zr, zr, 110) := by unfold docB; exact if_neg hg
theorem docB_vec {h x y d : Int} {l : List Rf} (hg : okG h l) (hv : (rt x y && decide (x ≤ h)) = false) : docB h x y d l = (zr, zr, 10) := by unfold docB; rw [if_pos hg, if_neg (by simp [hv])]
theorem docB_no {h x y d : Int} {l : List Rf} (hg : okG h l) (hv : (rt x y && decide (x ≤ h)) = true) {a b : Rf} (hb : besD d (rowL h (sortL (l.filter fun r => bgS r.ln r.bt x y))) = (a, b, false)) : docB h x y d l = (a, b, 111) := by
  unfold besD at hb
  unfold docB
  rw [if_pos hg, if_pos hv]
  by_cases hp : plI d (rowL h (sortL (l.filter fun r => bgS r.ln r.bt x y))) < 0
  · rw [if_pos hp] at hb ⊢
    simp only [Prod.mk.injEq] at hb
    rw [← hb.1, ← hb.2.1]
  · rw [if_neg hp] at hb
    simp at hb
theorem docB_yes {h x y d : Int} {l : List Rf} (hg : okG h l) (hv : (rt x y && decide (x ≤ h)) = true) {a b : Rf} (hb : besD d (rowL h (sortL (l.filter fun r => bgS r.ln r.bt x y))) = (a, b, true)) : docB h x y d l = (a, b, 0) := by
  unfold besD at hb
  unfold docB
  rw [if_pos hg, if_pos hv]
  by_cases hp : plI d (rowL h (sortL (l.filter fun r => bgS r.ln r.bt x y))) < 0
  · rw [if_pos hp] at hb
    simp at hb
  · rw [if_neg hp] at hb ⊢
    simp only [Prod.mk.injEq, and_true] at hb
    rw [hb.1, hb.2]



end Go.Proofs.YtfcmmchppcffmaaDoor

/- GraphBeside: both say the same. -/
namespace Go.Proofs.YtfcmmchppcffmaaDoor
open Go.RowKit Go.Maps Go.ChangeMaps

theorem klt_keyLt (y z : Rf) : klt (y.rk, y.kn) (z.rk, z.kn) = decide (keyLt y z) := by
  rw [klt_dec]
  rfl
theorem insL_cons (y z : Rf) (m : List Rf) : insL (y :: m) z = if keyLt y z then y :: insL m z else z :: y :: m := by
  unfold insL
  by_cases h : keyLt y z
  · rw [if_pos h, List.takeWhile_cons, List.dropWhile_cons, klt_keyLt, decide_eq_true h]
    rfl
  · rw [if_neg h, List.takeWhile_cons, List.dropWhile_cons, klt_keyLt, decide_eq_false h]
    rfl
theorem keyLt_tr {a b c : Rf} (h : keyLt a b) (g : keyLt b c) : keyLt a c := by unfold keyLt at *; omega
theorem ins_ok (z : Rf) : ∀ m : List Rf, m.Pairwise keyLt → (∀ y ∈ m, (y.rk, y.kn) ≠ (z.rk, z.kn)) → (insL m z).Pairwise keyLt ∧ (insL m z).Perm (z :: m)
  | [], _, _ => by simp [insL]
  | y :: m, hp, hk => by
    obtain ⟨h1, h2⟩ := List.pairwise_cons.1 hp
    obtain ⟨i1, i2⟩ := ins_ok z m h2 (fun e he => hk e (List.mem_cons_of_mem _ he))
    rw [insL_cons]
    by_cases h : keyLt y z
    · rw [if_pos h]
      refine ⟨List.pairwise_cons.2 ⟨fun e he => ?_, i1⟩, (i2.cons y).trans (List.Perm.swap z y m)⟩
      rcases List.mem_cons.1 (i2.mem_iff.1 he) with rfl | he
      · exact h
      · exact h1 e he
    · rw [if_neg h]
      have hz : keyLt z y := by
        have h3 := hk y List.mem_cons_self
        simp only [ne_eq, Prod.mk.injEq, not_and] at h3
        unfold keyLt at h ⊢
        by_cases e : y.rk = z.rk
        · have := h3 e
          omega
        · omega
      refine ⟨List.pairwise_cons.2 ⟨fun e he => ?_, hp⟩, List.Perm.refl _⟩
      rcases List.mem_cons.1 he with rfl | he
      · exact hz
      · exact keyLt_tr hz (h1 e he)
theorem sort_ok : ∀ (l a : List Rf), a.Pairwise keyLt → ((a ++ l).map fun x => (x.rk, x.kn)).Nodup → (l.foldl insL a).Pairwise keyLt ∧ (l.foldl insL a).Perm (a ++ l)
  | [], a, h, _ => by simp [h]
  | z :: l, a, h, hn => by
    have hk : ∀ y ∈ a, (y.rk, y.kn) ≠ (z.rk, z.kn) := fun y hy e => by
      rw [List.map_append] at hn
      have := (List.nodup_append.1 hn).2.2 (y.rk, y.kn) (List.mem_map.2 ⟨y, hy, rfl⟩) (z.rk, z.kn) (by simp)
      exact this e
    obtain ⟨i1, i2⟩ := ins_ok z a h hk
    have hpm : (insL a z ++ l).Perm (a ++ z :: l) := (i2.append_right l).trans List.perm_middle.symm
    obtain ⟨j1, j2⟩ := sort_ok l (insL a z) i1 (((hpm.map _).nodup_iff).2 hn)
    exact ⟨j1, j2.trans hpm⟩
theorem bgS_prV {h x y : Int} {r : Rf} (hm : mayR h r = true) (hv : (rt x y && decide (x ≤ h)) = true) : bgS r.ln r.bt x y = decide (prV x r = (x, y)) := by
  unfold mayR at hm
  simp only [Bool.and_eq_true, decide_eq_true_eq] at hm hv
  unfold bgS prV
  rw [hm.2.2.2.1, hv.1, hm.2.2.2.2, decide_eq_true hv.2]
  simp
theorem doc_same {h x y d : Int} {l m : List Rf} (hg : okG h l) (hp : m.Perm l) (hs : m.Pairwise keyLt) : docB h x y d l = besE h (x, y) d m := by
  by_cases hv : (rt x y && decide (x ≤ h)) = true
  · have hf : l.filter (fun r => bgS r.ln r.bt x y) = l.filter (fun r => decide (prV x r = (x, y))) := List.filter_congr fun r hr => bgS_prV (hg.2.1.1 r hr) hv
    have hn : ((l.filter fun r => decide (prV x r = (x, y))).map fun x => (x.rk, x.kn)).Nodup := hg.2.2.sublist (List.filter_sublist.map _)
    obtain ⟨s1, s2⟩ := sort_ok (l.filter fun r => decide (prV x r = (x, y))) [] List.Pairwise.nil hn
    have he : sortL (l.filter fun r => bgS r.ln r.bt x y) = flt x (x, y) m := by
      rw [hf]
      exact sorted_one s2 (hp.filter _) s1 (hs.sublist List.filter_sublist)
    unfold docB besE
    rw [if_pos hg, if_pos hv, if_pos hv, he]
  · have hv2 : (rt x y && decide (x ≤ h)) = false := by simpa using hv
    rw [docB_vec hg hv2]
    unfold besE
    rw [if_neg hv]



end Go.Proofs.YtfcmmchppcffmaaDoor
