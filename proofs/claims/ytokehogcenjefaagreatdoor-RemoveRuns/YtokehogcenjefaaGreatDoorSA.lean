/- The middle of a block: loads and stores of a part of it; a search's cells. -/
import Derived.Test.YtokehogcenjefaaGreatDoorSM
import Derived.Deep.MidRow
namespace Go.Proofs.YtokehogcenjefaaGreatDoor
open Go.RowKit Go.Maps

theorem load_mid {w : World} {b : Nat} {cs : List Value} {t : TypeId} (I : IsB w b cs.toArray t) (o : Nat) (ty : TypeId) (vs : List Value) (d : TypeDesc) (hv : (cs.drop o).take vs.length = vs) (hu : Tryz.prog.underlying ty = some d) (hd : d.isRow = true) (hi : (Tryz.prog.info? ty).map (·.size) = some vs.length) : (Instr.loadAt ty (.pointer (some ⟨b, o, none⟩))).run Tryz.prog w = .ok (.agg vs.toArray) w := by
 refine run_loadAt_mid w b o ty vs d (fun j v h => ?_) hu hd hi
 rw [I.cell (o + j)]
 rw [← hv, List.getElem?_take] at h
 split at h
 · rw [List.getElem?_drop] at h
   simpa using h
 · cases h
theorem setCells_is {b : Nat} {t : TypeId} : ∀ (vs : List Value) (w : World) (o : Nat) (cs : List Value), IsB w b cs.toArray t → o + vs.length ≤ cs.length → IsB (w.setCells b o vs) b (cs.take o ++ vs ++ cs.drop (o + vs.length)).toArray t
 | [], w, o, cs, h, _ => by simpa [World.setCells] using h
 | v :: r, w, o, cs, h, hl => by
   have h1 : IsB (w.setCell ⟨b, o, none⟩ v) b (cs.set o v).toArray t := by simpa using h.set o v
   have h2 := setCells_is r _ (o + 1) _ h1 (by simp at hl ⊢; omega)
   have e : (cs.set o v).take (o + 1) ++ r ++ (cs.set o v).drop (o + 1 + r.length) = cs.take o ++ (v :: r) ++ cs.drop (o + (v :: r).length) := by
     have ho : o < cs.length := by simp at hl; omega
     have e1 : (cs.set o v).take (o + 1) = cs.take o ++ [v] := by
       rw [List.take_set, List.take_succ_eq_append_getElem ho, List.set_append_right _ _ (by simp; omega)]
       simp [Nat.min_eq_left (Nat.le_of_lt ho)]
     have e2 : (cs.set o v).drop (o + 1 + r.length) = cs.drop (o + (v :: r).length) := by
       rw [List.drop_set, if_pos (by omega)]
       congr 1
       simp; omega
     rw [e1, e2]
     simp
   rw [World.setCells, ← e]
   exact h2
theorem setCells_kp (b : Nat) : ∀ (vs : List Value) (w : World) (o : Nat), Kp [b] w (w.setCells b o vs)
 | [], w, o => Kp.refl _ _
 | v :: r, w, o => ((Kp.refl [b] w).set ⟨b, o, none⟩ v (Or.inl (by simp))).trans (setCells_kp b r _ (o + 1)) (fun j hj => Or.inl hj)
theorem store_mid {w : World} {b : Nat} {cs : List Value} {t : TypeId} (I : IsB w b cs.toArray t) (o : Nat) (ty : TypeId) (vs : List Value) (hl : o + vs.length ≤ cs.length) (hi : (Tryz.prog.info? ty).map (·.size) = some vs.length) (h1 : ∀ v ∈ vs, v.oneCell' = true) : ∃ w', (Instr.storeAt ty (.pointer (some ⟨b, o, none⟩)) (.agg vs.toArray)).run Tryz.prog w = .ok () w' ∧ IsB w' b (cs.take o ++ vs ++ cs.drop (o + vs.length)).toArray t ∧ Kp [b] w w' := by
 refine ⟨_, run_storeAt_mid w b o ty vs.toArray (fun j hj => ?_) (by simpa using hi) (all_oneCell_toArray h1), setCells_is vs w o cs I hl, setCells_kp b vs w o⟩
 refine ⟨?_, I.free _⟩
 rw [I.cell (o + j)]
 simp at hj ⊢
 omega
theorem store_one {w : World} {b : Nat} {cs : List Value} {t : TypeId} (I : IsB w b cs.toArray t) (o : Nat) (ty : TypeId) (v : Value) (hl : o < cs.length) (hi : (Tryz.prog.info? ty).map (·.size) = some 1) (hv : v.cells = #[v]) (h1 : v.oneCell' = true) : ∃ w', (Instr.storeAt ty (.pointer (some ⟨b, o, none⟩)) v).run Tryz.prog w = .ok () w' ∧ IsB w' b (cs.set o v).toArray t ∧ Kp [b] w w' := by
 refine ⟨w.setCells b o [v], ?_, ?_, setCells_kp b [v] w o⟩
 · have := run_storeCells_cells (P := Tryz.prog) b o [v] 0 w (fun j hj => by
     rw [I.cell]; simp at hj ⊢; omega) (fun j hj => I.free _) (by simpa using h1)
   cases hq : Tryz.prog.info? ty with
   | none => simp [hq] at hi
   | some i =>
     have hs : i.size = 1 := by simpa [hq] using hi
     simp only [Nat.add_zero] at this
     simp [Instr.storeAt, Instr.sureAddr, storeVar, sizeOf, typeInfo, hq, hv, hs, this]
 · have := setCells_is [v] w o cs I (by simp; omega)
   rwa [show cs.take o ++ [v] ++ cs.drop (o + [v].length) = cs.set o v by
     rw [List.set_eq_take_append_cons_drop, if_pos hl]; simp] at this

/-- A search: its head, its target, where it stands, its list, at whom it looks (if it does), how often it began again, whether it is over, and its result. -/
structure Sk where
 hd : Rf
 tr : Int
 tn : Int
 pt : Rf
 wl : Int
 wb : Int
 ah : Rf
 lk : Bool
 n : Int
 ov : Bool
 e : Int
 rl : Rf
 rr : Rf
 fd : Bool
def Rf.cs (x : Rf) : List Value := [.int .i64 x.id, .int .i64 x.rk, .int .u64 x.kn, .int .i64 x.ln, .int .u64 x.bt]
/-- A result's cells. -/
def rsL (e : Int) (l r : Rf) (f : Bool) : List Value := [.int .i64 e, .int .u64 0, .slice none 0 0, .slice none 0 0, .int .i64 l.id, .int .i64 l.rk, .int .u64 l.kn, .int .i64 l.ln, .int .u64 l.bt, .int .i64 r.id, .int .i64 r.rk, .int .u64 r.kn, .int .i64 r.ln, .int .u64 r.bt, .bool f]
/-- A search's cells. -/
def skL (S : Sk) (m : Value) : List Value :=
 [.int .i64 S.hd.id, .int .i64 S.hd.rk, .int .u64 S.hd.kn, .int .i64 S.hd.ln, .int .u64 S.hd.bt, .int .i64 S.tr, .int .u64 S.tn,
  .int .i64 S.pt.id, .int .i64 S.pt.rk, .int .u64 S.pt.kn, .int .i64 S.pt.ln, .int .u64 S.pt.bt, .int .i64 S.wl, .int .u64 S.wb,
  .int .i64 S.ah.id, .int .i64 S.ah.rk, .int .u64 S.ah.kn, .int .i64 S.ah.ln, .int .u64 S.ah.bt, .bool S.lk, m, .int .i64 S.n, .bool S.ov,
  .int .i64 S.e, .int .u64 0, .slice none 0 0, .slice none 0 0, .int .i64 S.rl.id, .int .i64 S.rl.rk, .int .u64 S.rl.kn, .int .i64 S.rl.ln, .int .u64 S.rl.bt, .int .i64 S.rr.id, .int .i64 S.rr.rk, .int .u64 S.rr.kn, .int .i64 S.rr.ln, .int .u64 S.rr.bt, .bool S.fd]

section
variable {w : World} {b : Nat} {S : Sk} {m : Value} (I : IsB w b (skL S m).toArray 171)
include I
theorem ld_head : (Instr.loadAt 29 (.pointer (some ⟨b, 0, none⟩))).run Tryz.prog w = .ok (.agg S.hd.cells) w := load_mid I 0 _ S.hd.cs _ rfl Tryz.underlying29 rfl (by kernel_rfl)
theorem ld_hvec : (Instr.loadAt 27 (.pointer (some ⟨b, 3, none⟩))).run Tryz.prog w = .ok (.agg #[.int .i64 (S.hd.ln), .int .u64 (S.hd.bt)]) w := load_mid I 3 _ [.int .i64 S.hd.ln, .int .u64 S.hd.bt] _ rfl Tryz.underlying27 rfl (by kernel_rfl)
theorem ld_target : (Instr.loadAt 25 (.pointer (some ⟨b, 5, none⟩))).run Tryz.prog w = .ok (.agg #[.int .i64 (S.tr), .int .u64 (S.tn)]) w := load_mid I 5 _ [.int .i64 S.tr, .int .u64 S.tn] _ rfl Tryz.underlying25 rfl (by kernel_rfl)
theorem ld_here : (Instr.loadAt 29 (.pointer (some ⟨b, 7, none⟩))).run Tryz.prog w = .ok (.agg S.pt.cells) w := load_mid I 7 _ S.pt.cs _ rfl Tryz.underlying29 rfl (by kernel_rfl)
theorem ld_herekey : (Instr.loadAt 25 (.pointer (some ⟨b, 8, none⟩))).run Tryz.prog w = .ok (.agg #[.int .i64 (S.pt.rk), .int .u64 (S.pt.kn)]) w := load_mid I 8 _ [.int .i64 S.pt.rk, .int .u64 S.pt.kn] _ rfl Tryz.underlying25 rfl (by kernel_rfl)
theorem ld_list : (Instr.loadAt 27 (.pointer (some ⟨b, 12, none⟩))).run Tryz.prog w = .ok (.agg #[.int .i64 (S.wl), .int .u64 (S.wb)]) w := load_mid I 12 _ [.int .i64 S.wl, .int .u64 S.wb] _ rfl Tryz.underlying27 rfl (by kernel_rfl)
theorem ld_ahead : (Instr.loadAt 29 (.pointer (some ⟨b, 14, none⟩))).run Tryz.prog w = .ok (.agg S.ah.cells) w := load_mid I 14 _ S.ah.cs _ rfl Tryz.underlying29 rfl (by kernel_rfl)
theorem ld_res : (Instr.loadAt 51 (.pointer (some ⟨b, 23, none⟩))).run Tryz.prog w = .ok (.agg (rsL S.e S.rl S.rr S.fd).toArray) w := load_mid I 23 _ (rsL S.e S.rl S.rr S.fd) _ rfl Tryz.underlying51 rfl (by kernel_rfl)
theorem ld_rr : (Instr.loadAt 29 (.pointer (some ⟨b, 32, none⟩))).run Tryz.prog w = .ok (.agg S.rr.cells) w := load_mid I 32 _ S.rr.cs _ rfl Tryz.underlying29 rfl (by kernel_rfl)
theorem cl_wl : w.cell? ⟨b, 12, none⟩ = some (.int .i64 S.wl) := I.cell 12
theorem cl_lk : w.cell? ⟨b, 19, none⟩ = some (.bool S.lk) := I.cell 19
theorem cl_map : w.cell? ⟨b, 20, none⟩ = some m := I.cell 20
theorem cl_n : w.cell? ⟨b, 21, none⟩ = some (.int .i64 S.n) := I.cell 21
theorem cl_ov : w.cell? ⟨b, 22, none⟩ = some (.bool S.ov) := I.cell 22
theorem cl_e : w.cell? ⟨b, 23, none⟩ = some (.int .i64 S.e) := I.cell 23
theorem st_here (r : Rf) : ∃ w', (Instr.storeAt 29 (.pointer (some ⟨b, 7, none⟩)) (.agg r.cells)).run Tryz.prog w = .ok () w' ∧ IsB w' b (skL { S with pt := r } m).toArray 171 ∧ Kp [b] w w' :=
 store_mid I 7 _ r.cs (by simp [skL, Rf.cs]) (by kernel_rfl) (by simp [Rf.cs, Value.oneCell'])
theorem st_ahead (r : Rf) : ∃ w', (Instr.storeAt 29 (.pointer (some ⟨b, 14, none⟩)) (.agg r.cells)).run Tryz.prog w = .ok () w' ∧ IsB w' b (skL { S with ah := r } m).toArray 171 ∧ Kp [b] w w' :=
 store_mid I 14 _ r.cs (by simp [skL, Rf.cs]) (by kernel_rfl) (by simp [Rf.cs, Value.oneCell'])
theorem st_list (x y : Int) : ∃ w', (Instr.storeAt 27 (.pointer (some ⟨b, 12, none⟩)) (.agg #[.int .i64 (x), .int .u64 (y)])).run Tryz.prog w = .ok () w' ∧ IsB w' b (skL { S with wl := x, wb := y } m).toArray 171 ∧ Kp [b] w w' :=
 store_mid I 12 _ [.int .i64 x, .int .u64 y] (by simp [skL]) (by kernel_rfl) (by simp [Value.oneCell'])
theorem st_res (e : Int) (l r : Rf) (f : Bool) : ∃ w', (Instr.storeAt 51 (.pointer (some ⟨b, 23, none⟩)) (.agg (rsL e l r f).toArray)).run Tryz.prog w = .ok () w' ∧ IsB w' b (skL { S with e := e, rl := l, rr := r, fd := f } m).toArray 171 ∧ Kp [b] w w' :=
 store_mid I 23 _ (rsL e l r f) (by simp [skL, rsL]) (by kernel_rfl) (by simp [rsL, Value.oneCell'])
theorem st_looks (f : Bool) : ∃ w', (Instr.storeAt 4 (.pointer (some ⟨b, 19, none⟩)) (.bool f)).run Tryz.prog w = .ok () w' ∧ IsB w' b (skL { S with lk := f } m).toArray 171 ∧ Kp [b] w w' :=
 store_one I 19 _ (.bool f) (by simp [skL]) (by kernel_rfl) rfl rfl
theorem st_over (f : Bool) : ∃ w', (Instr.storeAt 4 (.pointer (some ⟨b, 22, none⟩)) (.bool f)).run Tryz.prog w = .ok () w' ∧ IsB w' b (skL { S with ov := f } m).toArray 171 ∧ Kp [b] w w' :=
 store_one I 22 _ (.bool f) (by simp [skL]) (by kernel_rfl) rfl rfl
theorem st_n (k : Int) : ∃ w', (Instr.storeAt 3 (.pointer (some ⟨b, 21, none⟩)) (.int .i64 k)).run Tryz.prog w = .ok () w' ∧ IsB w' b (skL { S with n := k } m).toArray 171 ∧ Kp [b] w w' :=
 store_one I 21 _ (.int .i64 k) (by simp [skL]) (by kernel_rfl) rfl rfl
end

end Go.Proofs.YtokehogcenjefaaGreatDoor
