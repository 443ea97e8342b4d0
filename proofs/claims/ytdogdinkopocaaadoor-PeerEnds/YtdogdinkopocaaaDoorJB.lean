/- The law's small ones: a key, the ends. -/
import Derived.Test.YtdogdinkopocaaaDoorJA
namespace Go.Proofs.YtdogdinkopocaaaDoor
open Go.RowKit Go.Maps

theorem key_info : (Tryd.prog.info? 25).map (·.size) = some 2 := by kernel_rfl
theorem ref_info : (Tryd.prog.info? 29).map (·.size) = some 5 := by kernel_rfl
theorem ret_k {fn : Func} {p : Tmp} (hf : fn.results = #[.cell p 25]) {Q : Ending → World → Prop} {tmps : Array Value} {w : World} {b : Nat} {cs : Array Value} (hs : cs.size = 2)
    (hp : tmps.getD p undef = .pointer (some ⟨b, 0, none⟩)) (I : IsB w b cs 25) (hQ : Q (.returned (.agg cs)) w) :
    bodyPost Tryd.prog fn Q .ret ⟨tmps, []⟩ w :=
  bodyPost_ret (results_cell_row hf tmps w b 25 cs (0, 0) _ hp I Tryd.underlying25 rfl (by rw [hs]; exact key_info)) rfl hQ
theorem ret_r {fn : Func} {p : Tmp} (hf : fn.results = #[.cell p 29]) {Q : Ending → World → Prop} {tmps : Array Value} {w : World} {b : Nat} {cs : Array Value} (hs : cs.size = 5)
    (hp : tmps.getD p undef = .pointer (some ⟨b, 0, none⟩)) (I : IsB w b cs 29) (hQ : Q (.returned (.agg cs)) w) :
    bodyPost Tryd.prog fn Q .ret ⟨tmps, []⟩ w :=
  bodyPost_ret (results_cell_row hf tmps w b 29 cs (0, 0) _ hp I Tryd.underlying29 rfl (by rw [hs]; exact ref_info)) rfl hQ





theorem may_no (p : Value) (x y : Int) (w : World) (h : NoLinks w p) : Calls Tryd.prog 58 #[p, .agg #[.int .i64 x, .int .u64 y]] w fun e w' => e = .returned (.bool false) ∧ Below w.heap.size w w' := by
  replace h := hide (h.alloc (.cells #[.int .i64 x, .int .u64 y] 27))
  go_enter Tryd.func58, Tryd.ntmps58
  go_wp2_with fail
  refine (lmade_no p _ h.out).mono ?_; intro e w2 hE1; obtain ⟨rfl, hw⟩ := hE1
  rw [hw]
  clear hw
  go_wp2
  go_ret
  exact ⟨rfl, (Below.refl _ _).alloc (Nat.le_refl _) _⟩

/-! What a table says of the list of a call. -/
theorem lookL_upd_same {L : Tb} {v : Vc} {c : Rc} (h : ∃ e ∈ L, e.1 = v) : lookL (updL v c L) v = some c := by
  unfold lookL updL
  induction L with
  | nil => obtain ⟨e, he, -⟩ := h; cases he
  | cons d t ih =>
    simp only [List.map_cons, List.find?_cons]
    by_cases hv : d.1 = v
    · rw [if_pos hv]
      simp
    · rw [if_neg hv]
      have h1 : decide (d.1 = v) = false := by simpa using hv
      simp only [h1]
      obtain ⟨e, he, h2⟩ := h
      rcases List.mem_cons.1 he with rfl | he
      · exact absurd h2 hv
      · exact ih ⟨e, he, h2⟩
theorem upd_keys {L : Tb} {v : Vc} {c : Rc} (h : ∃ e ∈ updL v c L, e.1 = v) : ∃ e ∈ L, e.1 = v := by
  obtain ⟨e, he, h1⟩ := h
  obtain ⟨d, hd, rfl⟩ := List.mem_map.1 he
  by_cases hv : d.1 = v
  · exact ⟨d, hd, hv⟩
  · rw [if_neg hv] at h1
    exact absurd h1 hv
theorem findC_keep_same {me : Rf} {L : Tb} {v : Vc} {c : Rc} (h : me.2.1 = 2 ∨ may me v = true) : findC me (keepT me v c (updL v c L)) v = some c.cn := by
  unfold keepT
  split
  · rename_i hq
    unfold findC
    rw [lookL_drop_same]
    simp only []
    have hm : may me v = true := by
      rcases h with h | h
      · exact absurd h hq.1
      · exact h
    rw [if_pos ⟨hq.1, hm⟩]
    obtain ⟨h1, h2, h3⟩ := (isF_iff me c).1 hq.2
    unfold fst Rc.cn
    rw [h1, h2, h3]
  · have : lookL (putL v c (updL v c L)) v = some c := by
      unfold putL
      split
      · rename_i hq
        exact lookL_upd_same (upd_keys hq)
      · rename_i hq
        have hn : ∀ e ∈ updL v c L, e.1 ≠ v := fun e he h1 => hq ⟨e, he, h1⟩
        have h0 := lookL_no hn
        unfold lookL at h0 ⊢
        rw [List.find?_append]
        rw [Option.map_eq_none_iff] at h0
        rw [h0]
        simp
    unfold findC
    rw [this]
theorem findC_drop_peer {me : Rf} {L : Tb} {v : Vc} (h : me.2.1 = 2) : findC me (dropL v L) v = none := by
  unfold findC
  rw [lookL_drop_same]
  simp only []
  rw [if_neg (fun q => q.1 h)]
/-- What a call has kept of a block of another kind. -/
theorem KX.keeps {w w' : World} {base p m : Nat} {me : Rf} {L L' : Tb} (x : KX w w' base p m me L L') (h : LK w base p m me L) {b : Nat} {cs : Array Value} {t : TypeId} (hb : IsB w b cs t) (h1 : t ≠ 128) (h2 : t ≠ 154) : IsB w' b cs t := hb.kp x.kp (h.off hb h1 h2)

end Go.Proofs.YtdogdinkopocaaaDoor
