/- GraphFinds walked. -/
import Derived.Test.YtdhmdmlbhphdcaaDoorHC
import Derived.Test.YtdhmdmlbhphdcaaDoorHD
import Derived.Deep.MidRow
namespace Go.Proofs.YtdhmdmlbhphdcaaDoor
open Go.RowKit Go.Maps Go.ChangeMaps

theorem load_mid {w : World} {b : Nat} {cs : List Value} {t : TypeId} (I : IsB w b cs.toArray t) (o : Nat) (ty : TypeId) (vs : List Value) (d : TypeDesc) (hv : (cs.drop o).take vs.length = vs) (hu : Tryd.prog.underlying ty = some d) (hd : d.isRow = true) (hi : (Tryd.prog.info? ty).map (·.size) = some vs.length) : (Instr.loadAt ty (.pointer (some ⟨b, o, none⟩))).run Tryd.prog w = .ok (.agg vs.toArray) w := by
  refine run_loadAt_mid w b o ty vs d (fun j v h => ?_) hu hd hi
  rw [I.cell (o + j)]
  rw [← hv, List.getElem?_take] at h
  split at h
  · rw [List.getElem?_drop] at h
    simpa using h
  · cases h
theorem ld_rkey {w : World} {b : Nat} {r : Rf} (I : IsB w b r.cells 32) : (Instr.loadAt 25 (.pointer (some ⟨b, 1, none⟩))).run Tryd.prog w = .ok (.agg #[.int .i64 (r.rk), .int .u64 (r.kn)]) w := load_mid (cs := [.int .i64 r.id, .int .i64 r.rk, .int .u64 r.kn, .int .i64 r.ln, .int .u64 r.bt]) I 1 _ [.int .i64 r.rk, .int .u64 r.kn] _ rfl Tryd.underlying25 rfl (by kernel_rfl)
theorem ld_key2 {w : World} {b : Nat} {r n : Int} (I : IsB w b #[.int .i64 r, .int .u64 n] 25) : (Instr.loadAt 25 (.pointer (some ⟨b, 0, none⟩))).run Tryd.prog w = .ok (.agg #[.int .i64 (r), .int .u64 (n)]) w := load_mid (cs := [.int .i64 r, .int .u64 n]) I 0 _ [.int .i64 r, .int .u64 n] _ rfl Tryd.underlying25 rfl (by kernel_rfl)
/-- A way in memory, hop by hop. -/
theorem hop_at {w : World} {g cap n : Nat} {wy : List Hp} (hn : wy.length = n) (R : Rw w 39 6 (.slice (some ⟨g, 0, none⟩) n cap) n (hps wy)) (j : Nat) (hj : j < wy.length) : w.cell? ⟨g, j * 6, none⟩ = some (.int .i64 wy[j].1) ∧ w.cell? ⟨g, j * 6 + 1, none⟩ = some (.int .i64 wy[j].2.id) ∧ (Instr.loadAt 32 (.pointer (some ⟨g, j * 6 + 1, none⟩))).run Tryd.prog w = .ok (.agg wy[j].2.cells) w ∧ (Instr.loadAt 25 (.pointer (some ⟨g, j * 6 + 2, none⟩))).run Tryd.prog w = .ok (.agg #[.int .i64 wy[j].2.rk, .int .u64 wy[j].2.kn]) w := by
  obtain ⟨e0, e1, e2, e3, e4, e5⟩ := hps_get wy j hj
  have c0 := (R.cellAt (j * 6) (by omega)).trans e0
  have c1 := (R.cellAt (j * 6 + 1) (by omega)).trans e1
  have c2 := (R.cellAt (j * 6 + 2) (by omega)).trans e2
  have c3 := (R.cellAt (j * 6 + 3) (by omega)).trans e3
  have c4 := (R.cellAt (j * 6 + 4) (by omega)).trans e4
  have c5 := (R.cellAt (j * 6 + 5) (by omega)).trans e5
  refine ⟨c0, c1, ?_, ?_⟩
  · refine run_loadAt_mid w g (j * 6 + 1) 32 [.int .i64 wy[j].2.id, .int .i64 wy[j].2.rk, .int .u64 wy[j].2.kn, .int .i64 wy[j].2.ln, .int .u64 wy[j].2.bt] _ (fun k v hk => ?_) Tryd.underlying32 rfl (by kernel_rfl)
    match k, hk with
    | 0, hk => simp at hk; subst hk; exact c1
    | 1, hk => simp at hk; subst hk; exact c2
    | 2, hk => simp at hk; subst hk; exact c3
    | 3, hk => simp at hk; subst hk; exact c4
    | 4, hk => simp at hk; subst hk; exact c5
    | k + 5, hk => simp at hk
  · refine run_loadAt_mid w g (j * 6 + 2) 25 [.int .i64 wy[j].2.rk, .int .u64 wy[j].2.kn] _ (fun k v hk => ?_) Tryd.underlying25 rfl (by kernel_rfl)
    match k, hk with
    | 0, hk => simp at hk; subst hk; exact c2
    | 1, hk => simp at hk; subst hk; exact c3
    | k + 2, hk => simp at hk
theorem ref_at {w : World} {v : Value} {l : List Rf} (h : RSl w v l) (j : Nat) (hj : j < l.length) : ∃ g o c, v = .slice (some ⟨g, o, none⟩) l.length c ∧ ∀ w', Below w.heap.size w w' → (Instr.loadAt 25 (.pointer (some ⟨g, o + j * 5 + 1, none⟩))).run Tryd.prog w' = .ok (.agg #[.int .i64 l[j].rk, .int .u64 l[j].kn]) w' := by
  obtain ⟨g, o, c, hv, -, -, c0, c1, c2, c3, c4⟩ := h.cells j hj
  refine ⟨g, o, c, hv, fun w' hb => ?_⟩
  refine run_loadAt_mid w' g (o + j * 5 + 1) 25 [.int .i64 l[j].rk, .int .u64 l[j].kn] _ (fun k v hk => ?_) Tryd.underlying25 rfl (by kernel_rfl)
  match k, hk with
  | 0, hk => simp at hk; subst hk; exact (hb.cell (lt_of_cell c1)).trans c1
  | 1, hk => simp at hk; subst hk; exact (hb.cell (lt_of_cell c2)).trans c2
  | k + 2, hk => simp at hk
theorem getLastD_at : ∀ (W : List Hp) (r : Rf) (lv : Int) (h : W.length < ((lv, r) :: W).length), (W.map (·.2)).getLastD r = (((lv, r) :: W)[W.length]'h).2
  | [], r, lv, h => rfl
  | x :: W, r, lv, h => by
    show ((x.2 :: W.map (·.2)).getLastD r) = _
    rw [List.getLastD_cons]
    exact getLastD_at W x.2 x.1 (by simp)
/-- What the law asks of a way, hop by hop. -/
theorem Found.hops {d : Int} {l : List Rf} {tg : Rf} {wy : List Hp} {a b : Rf} (F : Found d l tg wy a b) : ∃ k, wy.length = k + 1 ∧ (∀ h0 : 0 < wy.length, (wy[0]'h0).2.id = d) ∧ (∀ h0 : k < wy.length, (wy[k]'h0).2 = a) ∧ (∀ j (hj : j + 1 < wy.length), (wy[j + 1]'hj).1 ≤ (wy[j]'(by omega)).1) ∧ (∀ j (hj : j + 1 < wy.length), decide (keyLt (wy[j + 1]'hj).2 (wy[j]'(by omega)).2) = !decide (keyLt (wy[0]'(by omega)).2 tg)) := by
  obtain ⟨lv, r, W, rfl, h1, h2, h3, h4⟩ := F.first
  refine ⟨W.length, by simp, fun _ => h1, fun h0 => ?_, fun j hj => ?_, fun j hj => ?_⟩
  · rw [← h2]
    exact (getLastD_at W r lv (by simp)).symm
  · have hp : ((lv, r) :: W).map (·.1) = lv :: W.map (·.1) := rfl
    rw [← hp] at h3
    have := List.pairwise_iff_getElem.1 h3 j (j + 1) (by simp at hj ⊢; omega) (by simpa using hj) (by omega)
    simp only [List.getElem_map] at this
    exact this
  · have hp : ((lv, r) :: W).map (·.2) = r :: W.map (·.2) := rfl
    rw [← hp] at h4
    rcases h4 with ⟨c, h4⟩ | ⟨c, h4⟩
    · have := List.pairwise_iff_getElem.1 h4 j (j + 1) (by simp at hj ⊢; omega) (by simpa using hj) (by omega)
      have h5 : keyLt (((lv, r) :: W)[j]'(by omega)).2 (((lv, r) :: W)[j + 1]'hj).2 := by simp only [List.getElem_map] at this; exact this
      rw [decide_eq_false (keyLt_asymm h5)]
      show false = !decide (keyLt r tg)
      rw [decide_eq_true c]; rfl
    · have := List.pairwise_iff_getElem.1 h4 j (j + 1) (by simp at hj ⊢; omega) (by simpa using hj) (by omega)
      have h5 : keyLt (((lv, r) :: W)[j + 1]'hj).2 (((lv, r) :: W)[j]'(by omega)).2 := by simp only [List.getElem_map] at this; exact this
      rw [decide_eq_true h5]
      show true = !decide (keyLt r tg)
      rw [decide_eq_false c]; rfl

end Go.Proofs.YtdhmdmlbhphdcaaDoor
