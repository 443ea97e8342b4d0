/- Package model: ranged. -/
import Derived.Test.YtfnpapaibgbjpaaZJ
namespace Go.Proofs.Ytfnpapaibgbjpaa
open Go.RowKit Go.Maps

theorem okM_drop {l : List It} (h : okM l) (i : Nat) : okM (l.drop i) := fun j hj => by
  rw [List.length_drop] at hj
  have h1 := h (i + j) (by omega)
  refine ⟨by rw [List.getElem_drop]; exact h1.1, fun hj0 => ?_⟩
  have h2 := h1.2 (by omega)
  rw [List.getElem_drop, List.getElem_drop]
  have e : l[i + (j - 1)] = l[i + j - 1] := by congr 1; omega
  rw [e]
  exact h2
theorem okM_bs {l : List It} (h : okM l) : ∀ it ∈ l, it.bs.length ≤ 140737488355328 := fun it hi => by
  obtain ⟨j, hj, rfl⟩ := List.getElem_of_mem hi
  have := (h j hj).1
  omega
/-- What a range tells of items that are not below its key. -/
def rgV (l : List It) (x : Int) : RV := if 64 < ph x l then (102, 0, [], [], false) else (0, 0, [], (l.take (ph x l)).map It.val, false)

set_option maxHeartbeats 4000000 in
set_option maxRecDepth 100000 in
theorem ranged_any (v : Value) (l : List It) (hl : l.length ≤ 100000) (ho : okM l) (x : Int) (w : World) (h : Sl w v l) :
    Calls Try.prog 46 #[v, .int .u64 x] w fun e w' => ∃ r : Rs, e = .returned (.agg r.cells) ∧ r.val = rgV l x ∧ RsOk w' w.heap.size r ∧ Below w.heap.size w w' := by
  have eg : ∀ args w, (callFunc 52 args).run Try.prog w = .ok (.enter 52 args) w := enters_of Try.func52 (by kernel_rfl) rfl
  have b1 := (((Below.refl w.heap.size w).alloc (Nat.le_refl _) (.cells #[v] 22)).alloc (by simp) (.cells #[.int .u64 x] 24)).alloc (by simp; omega) (.cells #[.int .i64 0, .int .u64 0, .slice none 0 0, .slice none 0 0, .int .i64 0, .int .i64 0, .int .u64 0, .int .i64 0, .int .u64 0, .int .i64 0, .int .i64 0, .int .u64 0, .int .i64 0, .int .u64 0, .bool false] 46)
  have i0 : IsB (((w.alloc (.cells #[v] 22)).alloc (.cells #[.int .u64 x] 24)).alloc (.cells #[.int .i64 0, .int .u64 0, .slice none 0 0, .slice none 0 0, .int .i64 0, .int .i64 0, .int .u64 0, .int .i64 0, .int .u64 0, .int .i64 0, .int .i64 0, .int .u64 0, .int .i64 0, .int .u64 0, .bool false] 46)) w.heap.size #[v] 22 := ((IsB.new w #[v] _).below ((Below.refl _ _).alloc (Nat.le_refl _) _)).below ((Below.refl _ _).alloc (Nat.le_refl _) _)
  have i1 : IsB (((w.alloc (.cells #[v] 22)).alloc (.cells #[.int .u64 x] 24)).alloc (.cells #[.int .i64 0, .int .u64 0, .slice none 0 0, .slice none 0 0, .int .i64 0, .int .i64 0, .int .u64 0, .int .i64 0, .int .u64 0, .int .i64 0, .int .i64 0, .int .u64 0, .int .i64 0, .int .u64 0, .bool false] 46)) (w.heap.size + 1) #[.int .u64 x] 24 := by
    have := (IsB.new (w.alloc (.cells #[v] 22)) #[.int .u64 x] 24).below ((Below.refl _ _).alloc (Nat.le_refl _) (.cells #[.int .i64 0, .int .u64 0, .slice none 0 0, .slice none 0 0, .int .i64 0, .int .i64 0, .int .u64 0, .int .i64 0, .int .u64 0, .int .i64 0, .int .i64 0, .int .u64 0, .int .i64 0, .int .u64 0, .bool false] 46))
    rwa [World.size_alloc] at this
  have i2 : IsB (((w.alloc (.cells #[v] 22)).alloc (.cells #[.int .u64 x] 24)).alloc (.cells #[.int .i64 0, .int .u64 0, .slice none 0 0, .slice none 0 0, .int .i64 0, .int .i64 0, .int .u64 0, .int .i64 0, .int .u64 0, .int .i64 0, .int .i64 0, .int .u64 0, .int .i64 0, .int .u64 0, .bool false] 46)) (w.heap.size + 1 + 1) #[.int .i64 0, .int .u64 0, .slice none 0 0, .slice none 0 0, .int .i64 0, .int .i64 0, .int .u64 0, .int .i64 0, .int .u64 0, .int .i64 0, .int .i64 0, .int .u64 0, .int .i64 0, .int .u64 0, .bool false] 46 := by
    have := IsB.new ((w.alloc (.cells #[v] 22)).alloc (.cells #[.int .u64 x] 24)) #[.int .i64 0, .int .u64 0, .slice none 0 0, .slice none 0 0, .int .i64 0, .int .i64 0, .int .u64 0, .int .i64 0, .int .u64 0, .int .i64 0, .int .i64 0, .int .u64 0, .int .i64 0, .int .u64 0, .bool false] 46
    rwa [World.size_alloc, World.size_alloc] at this
  have hS := h.below b1
  obtain ⟨va, vc, rfl, -, -⟩ := h.shape
  have c0 := i0.cell 0
  simp at c0
  have HC := hide (search_any 52 eg (.pointer (some ⟨w.heap.size, 0, none⟩)) (.pointer (some ⟨w.heap.size + 1, 0, none⟩)) l.length hl (fun j => decide (x < (l.map (·.k)).getD j 0))
    (fun i j hij hj hp => by
      have hi : i < l.length := by omega
      simp [List.getD, hi, hj] at hp ⊢
      have := okM_le ho hij hj
      omega) _ (fun W hW q hq => by
      obtain ⟨g, k, c, ev, -, -, h2, -⟩ := (hS.below hW).cells q hq
      injection ev with ev el ec
      subst ev ec
      have := ranged1_any w.heap.size (w.heap.size + 1) g k l.length vc q x l[q].k W hq ((i0.below hW).cell 0) ((i1.below hW).cell 0) h2
      refine this.mono ?_
      rintro e W' ⟨rfl, hb⟩
      refine ⟨?_, hb⟩
      simp [List.getD, hq]))
  have HB := hide b1
  have HO := hide ho
  have I0 := hide i0
  have I2 := hide i2
  have HS := hide hS
  clear i0 i1 i2 hS h b1 ho
  go_enter Try.func46, Try.ntmps46
  go_wp2_with fail
  refine HC.out.mono ?_
  rintro e w1 ⟨i, rfl, hi, h1, h2, hb⟩
  have HE : Hid (ph x l = i) := tw_len l i hi (fun q hq hqi => by
      have := h1 q hqi
      simp [List.getD, hq] at this
      simpa using this) (fun hi' => by
      have := h2 i (Nat.le_refl _) hi'
      simp [List.getD, hi'] at this
      simpa using this)
  have J0 := hide (I0.out.below hb)
  have J2 := hide (I2.out.below hb)
  have JS := hide (HS.out.below hb)
  have hbs : Hid (w.heap.size + 1 + 1 + 1 ≤ w1.heap.size) := by have := hb.size; simp at this; exact this
  have JB := hide (HB.out.trans (hb.mono (by simp; omega)))
  clear h1 h2 hb HC I0 I2 HS HB c0
  generalize hH : w.heap.size = H at *
  replace hH := hide hH
  generalize hn : l.length = n at *
  replace hn := hide hn
  have j0 := J0.out.cell 0
  simp at j0
  by_cases hbig : 64 < i
  · obtain ⟨w2, hst, K2, k2⟩ := store_res J2.out (cs := #[.int .i64 102, .int .u64 0, .slice none 0 0, .slice none 0 0, .int .i64 0, .int .i64 0, .int .u64 0, .int .i64 0, .int .u64 0, .int .i64 0, .int .i64 0, .int .u64 0, .int .i64 0, .int .u64 0, .bool false]) rfl rfl (by first | kernel_rfl | rfl | simp [Value.oneCell'])
    have HST := hide hst
    have L2 := hide K2
    have B2 : Hid (Below H w w2) := JB.out.trans (k2.to_below (by have := hbs.out; omega) (by simp; omega))
    clear hst K2 k2
    have hd : decide ((64 : Int) < (i : Int)) = true := by simp; omega
    go_wp2_with ((with_reducible refine wpList_store_w ?hw 46 (.tmp 4) (.tmp 12) ?ho ?hx ?hy HST.out ?h); (case ho => rfl); (case hw => rfl); (case hx => rfl); (case hy => rfl))
    refine ret_res (p := 4) (b := H + 1 + 1) Try.results46 rfl rfl L2.out ?_
    rw [hH.out]
    refine ⟨⟨102, 0, none, 0, [], none, 0, [], false⟩, rfl, ?_, RsOk.plain _ _ _, B2.out⟩
    unfold rgV
    rw [HE.out, if_pos hbig]
    rfl
  · have hd : decide ((64 : Int) < (i : Int)) = false := by simp; omega
    have CC := hide (copied_any (.slice va i i) (l.take i) (by rw [List.length_take]; omega) (fun it hm => okM_bs HO.out it (List.mem_of_mem_take hm)) w1 (JS.out.head i (by rw [hn.out]; exact hi)))
    have hic : i ≤ vc := by
      obtain ⟨_, _, e1, e2, -⟩ := JS.out.shape
      injection e1 with _ _ e3
      rw [hn.out] at e2
      omega
    go_wp2_with fail
    refine CC.out.mono ?_
    rintro e w2 ⟨v2, m, rfl, hO, hm, hnw, hb2⟩
    obtain ⟨ma, mc, rfl, -, -⟩ := hO.sl.shape
    obtain ⟨w3, hst, K3, k3⟩ := store_res (J2.out.below hb2) (cs := #[.int .i64 0, .int .u64 0, .slice none 0 0, .slice ma m.length mc, .int .i64 0, .int .i64 0, .int .u64 0, .int .i64 0, .int .u64 0, .int .i64 0, .int .i64 0, .int .u64 0, .int .i64 0, .int .u64 0, .bool false]) rfl rfl (by first | kernel_rfl | rfl | simp [Value.oneCell'])
    have HST := hide hst
    have L3 := hide K3
    have B3 : Hid (Below H w w3) := (JB.out.trans (hb2.mono (by have := hbs.out; omega))).trans (k3.to_below (by have := hbs.out; have := hb2.size; omega) (by simp; omega))
    have R3 : Hid (RsOk w3 H ⟨0, 0, none, 0, [], ma, mc, m, false⟩) := by
      refine ⟨By.nil _, fun _ => rfl, ⟨hO.row.kp k3 (fun k hk hmem => ?_), fun it hi => ⟨(hO.byt it hi).1.kp k3 (fun k hmem cur h0 => ?_), (hO.byt it hi).2⟩⟩, fun k hk => by have := hnw k hk; have := hbs.out; omega⟩
      · have := hnw k hk
        have := hbs.out
        simp at hmem
        omega
      · simp at hmem
        subst hmem
        exact absurd (cells_inj h0 (J2.out.below hb2)) (by decide)
    have HM := hide hm
    clear hst K3 k3 hO hm hnw hb2
    generalize hml : m.length = mn at HST L3 ⊢
    replace hml := hide hml
    go_wp2_with ((with_reducible refine wpList_store_w ?hw 46 (.tmp 4) (.tmp 18) ?ho ?hx ?hy HST.out ?h); (case ho => rfl); (case hw => rfl); (case hx => rfl); (case hy => rfl))
    refine ret_res (p := 4) (b := H + 1 + 1) Try.results46 rfl rfl L3.out ?_
    rw [hH.out]
    refine ⟨⟨0, 0, none, 0, [], ma, mc, m, false⟩, by rw [← hml.out]; rfl, ?_, R3.out, B3.out⟩
    unfold rgV
    rw [HE.out, if_neg hbig, ← HM.out]
    rfl

end Go.Proofs.Ytfnpapaibgbjpaa
