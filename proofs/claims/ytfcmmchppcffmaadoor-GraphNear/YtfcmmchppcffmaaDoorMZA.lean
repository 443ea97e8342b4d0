/- Parts of a block; keys and references held against one another; answers. -/
import Derived.Test.YtfcmmchppcffmaaDoorGU
import Derived.Deep.MidRow
import Derived.Deep.WholeRow
namespace Go.Proofs.YtfcmmchppcffmaaDoor
open Go.RowKit Go.Maps Go.ChangeMaps

theorem load_mid {w : World} {b : Nat} {cs : List Value} {t : TypeId} (I : IsB w b cs.toArray t) (o : Nat) (ty : TypeId) (vs : List Value) (d : TypeDesc) (hv : (cs.drop o).take vs.length = vs) (hu : Tryd.prog.underlying ty = some d) (hd : d.isRow = true) (hi : (Tryd.prog.info? ty).map (·.size) = some vs.length) : (Instr.loadAt ty (.pointer (some ⟨b, o, none⟩))).run Tryd.prog w = .ok (.agg vs.toArray) w := by
  refine run_loadAt_mid w b o ty vs d (fun j v h => ?_) hu hd hi
  rw [I.cell (o + j)]
  rw [← hv, List.getElem?_take] at h
  split at h
  · rw [List.getElem?_drop] at h
    simpa using h
  · cases h

theorem setCells_is {b : Nat} {t : TypeId} : ∀ (vs : List Value) (w : World) (o : Nat) (cs : List Value), IsB w b cs.toArray t → o + vs.length ≤ cs.length → IsB (w.setCells b o vs) b (cs.take o ++ vs ++ cs.drop (o + vs.length)).toArray t
  | [], w, o, cs, h, _ => by simpa [World.setCells] using h
  | v :: r, w, o, cs, h, hl => by
    have h1 : IsB (w.setCell ⟨b, o, none⟩ v) b (cs.set o v).toArray t := by simpa using h.set o v
    have h2 := setCells_is r _ (o + 1) _ h1 (by simp at hl ⊢; omega)
    have e : (cs.set o v).take (o + 1) ++ r ++ (cs.set o v).drop (o + 1 + r.length) = cs.take o ++ (v :: r) ++ cs.drop (o + (v :: r).length) := by
      have ho : o < cs.length := by simp at hl; omega
      have e1 : (cs.set o v).take (o + 1) = cs.take o ++ [v] := by
        rw [List.take_set, List.take_succ_eq_append_getElem ho, List.set_append_right _ _ (by simp; omega)]
        simp [Nat.min_eq_left (Nat.le_of_lt ho)]
      have e2 : (cs.set o v).drop (o + 1 + r.length) = cs.drop (o + (v :: r).length) := by
        rw [List.drop_set, if_pos (by omega)]
        congr 1
        simp; omega
      rw [e1, e2]
      simp
    rw [World.setCells, ← e]
    exact h2

theorem setCells_kp (b : Nat) : ∀ (vs : List Value) (w : World) (o : Nat), Kp [b] w (w.setCells b o vs)
  | [], w, o => Kp.refl _ _
  | v :: r, w, o => ((Kp.refl [b] w).set ⟨b, o, none⟩ v (Or.inl (by simp))).trans (setCells_kp b r _ (o + 1)) (fun j hj => Or.inl hj)

theorem store_mid {w : World} {b : Nat} {cs : List Value} {t : TypeId} (I : IsB w b cs.toArray t) (o : Nat) (ty : TypeId) (vs : List Value) (hl : o + vs.length ≤ cs.length) (hi : (Tryd.prog.info? ty).map (·.size) = some vs.length) (h1 : ∀ v ∈ vs, v.oneCell' = true) : ∃ w', (Instr.storeAt ty (.pointer (some ⟨b, o, none⟩)) (.agg vs.toArray)).run Tryd.prog w = .ok () w' ∧ IsB w' b (cs.take o ++ vs ++ cs.drop (o + vs.length)).toArray t ∧ Kp [b] w w' := by
  refine ⟨_, run_storeAt_mid w b o ty vs.toArray (fun j hj => ?_) (by simpa using hi) (all_oneCell_toArray h1), setCells_is vs w o cs I hl, setCells_kp b vs w o⟩
  refine ⟨?_, I.free _⟩
  rw [I.cell (o + j)]
  simp at hj ⊢
  omega

theorem store_one {w : World} {b : Nat} {cs : List Value} {t : TypeId} (I : IsB w b cs.toArray t) (o : Nat) (ty : TypeId) (v : Value) (hl : o < cs.length) (hi : (Tryd.prog.info? ty).map (·.size) = some 1) (hv : v.cells = #[v]) (h1 : v.oneCell' = true) : ∃ w', (Instr.storeAt ty (.pointer (some ⟨b, o, none⟩)) v).run Tryd.prog w = .ok () w' ∧ IsB w' b (cs.set o v).toArray t ∧ Kp [b] w w' := by
  refine ⟨w.setCells b o [v], ?_, ?_, setCells_kp b [v] w o⟩
  · have := run_storeCells_cells (P := Tryd.prog) b o [v] 0 w (fun j hj => by
      rw [I.cell]; simp at hj ⊢; omega) (fun j hj => I.free _) (by simpa using h1)
    cases hq : Tryd.prog.info? ty with
    | none => simp [hq] at hi
    | some i =>
      have hs : i.size = 1 := by simpa [hq] using hi
      simp only [Nat.add_zero] at this
      simp [Instr.storeAt, Instr.sureAddr, storeVar, sizeOf, typeInfo, hq, hv, hs, this]
  · have := setCells_is [v] w o cs I (by simp; omega)
    rwa [show cs.take o ++ [v] ++ cs.drop (o + [v].length) = cs.set o v by
      rw [List.set_eq_take_append_cons_drop, if_pos hl]; simp] at this

def Rf.cs (x : Rf) : List Value := [.int .i64 x.id, .int .i64 x.rk, .int .u64 x.kn, .int .i64 x.ln, .int .u64 x.bt]



theorem Kp.wide {b m : Nat} {w w' : World} (h : Kp [b] w w') : Kp [b, m] w w' := h.mono (fun j hj => Or.inl (by simp at hj ⊢; exact Or.inl hj))

theorem Kp.tr {S : List Nat} {a b c : World} (h : Kp S a b) (k : Kp S b c) : Kp S a c := h.trans k (fun _ hj => Or.inl hj)

theorem Kp.al {S : List Nat} {a : World} (o : Obj) : Kp S a (a.alloc o) := (Kp.refl S a).alloc o














theorem ld_id {w : World} {b : Nat} {r : Rf} (I : IsB w b r.cells 30) : w.cell? ⟨b, 0, none⟩ = some (.int .i64 r.id) := I.cell 0

theorem ld_key {w : World} {b : Nat} {r : Rf} (I : IsB w b r.cells 30) : (Instr.loadAt 26 (.pointer (some ⟨b, 1, none⟩))).run Tryd.prog w = .ok (.agg #[.int .i64 (r.rk), .int .u64 (r.kn)]) w := load_mid (cs := r.cs) I 1 _ [.int .i64 r.rk, .int .u64 r.kn] _ rfl Tryd.underlying26 rfl (by kernel_rfl)



















theorem ne_ty {w : World} {a b : Nat} {x y : Array Value} {s t : TypeId} (h : IsB w a x s) (k : IsB w b y t) (hn : s ≠ t) : a ≠ b := by
  rintro rfl
  have := Option.some.inj (h.symm.trans k)
  injection this with _ h2
  exact hn h2

theorem IsB.ne_t {w : World} {a b : Nat} {x y : Array Value} {s t : TypeId} (h : IsB w a x s) (k : IsB w b y t) (hn : s ≠ t) : a ≠ b := ne_ty h k hn

theorem addn (g o j : Nat) : (⟨g, o, none⟩ : Addr).add j = ⟨g, o + j, none⟩ := by unfold Addr.add; split <;> simp_all

end Go.Proofs.YtfcmmchppcffmaaDoor
