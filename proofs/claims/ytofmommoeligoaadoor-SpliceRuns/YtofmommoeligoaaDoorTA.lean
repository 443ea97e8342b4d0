/- The middle of a block: loads and stores of a part of it; a splice's cells. -/
import Derived.Test.YtofmommoeligoaaDoorGA
import Derived.Deep.MidRow
namespace Go.Proofs.YtofmommoeligoaaDoor
open Go.RowKit Go.Maps

theorem load_mid {w : World} {b : Nat} {cs : List Value} {t : TypeId} (I : IsB w b cs.toArray t) (o : Nat) (ty : TypeId) (vs : List Value) (d : TypeDesc) (hv : (cs.drop o).take vs.length = vs) (hu : Tryd.prog.underlying ty = some d) (hd : d.isRow = true) (hi : (Tryd.prog.info? ty).map (·.size) = some vs.length) : (Instr.loadAt ty (.pointer (some ⟨b, o, none⟩))).run Tryd.prog w = .ok (.agg vs.toArray) w := by
  refine run_loadAt_mid w b o ty vs d (fun j v h => ?_) hu hd hi
  rw [I.cell (o + j)]
  rw [← hv, List.getElem?_take] at h
  split at h
  · rw [List.getElem?_drop] at h
    simpa using h
  · cases h
theorem setCells_is {b : Nat} {t : TypeId} : ∀ (vs : List Value) (w : World) (o : Nat) (cs : List Value), IsB w b cs.toArray t → o + vs.length ≤ cs.length → IsB (w.setCells b o vs) b (cs.take o ++ vs ++ cs.drop (o + vs.length)).toArray t
  | [], w, o, cs, h, _ => by simpa [World.setCells] using h
  | v :: r, w, o, cs, h, hl => by
    have h1 : IsB (w.setCell ⟨b, o, none⟩ v) b (cs.set o v).toArray t := by simpa using h.set o v
    have h2 := setCells_is r _ (o + 1) _ h1 (by simp at hl ⊢; omega)
    have e : (cs.set o v).take (o + 1) ++ r ++ (cs.set o v).drop (o + 1 + r.length) = cs.take o ++ (v :: r) ++ cs.drop (o + (v :: r).length) := by
      have ho : o < cs.length := by simp at hl; omega
      have e1 : (cs.set o v).take (o + 1) = cs.take o ++ [v] := by
        rw [List.take_set, List.take_succ_eq_append_getElem ho, List.set_append_right _ _ (by simp; omega)]
        simp [Nat.min_eq_left (Nat.le_of_lt ho)]
      have e2 : (cs.set o v).drop (o + 1 + r.length) = cs.drop (o + (v :: r).length) := by
        rw [List.drop_set, if_pos (by omega)]
        congr 1
        simp; omega
      rw [e1, e2]
      simp
    rw [World.setCells, ← e]
    exact h2
theorem setCells_kp (b : Nat) : ∀ (vs : List Value) (w : World) (o : Nat), Kp [b] w (w.setCells b o vs)
  | [], w, o => Kp.refl _ _
  | v :: r, w, o => ((Kp.refl [b] w).set ⟨b, o, none⟩ v (Or.inl (by simp))).trans (setCells_kp b r _ (o + 1)) (fun j hj => Or.inl hj)
theorem store_mid {w : World} {b : Nat} {cs : List Value} {t : TypeId} (I : IsB w b cs.toArray t) (o : Nat) (ty : TypeId) (vs : List Value) (hl : o + vs.length ≤ cs.length) (hi : (Tryd.prog.info? ty).map (·.size) = some vs.length) (h1 : ∀ v ∈ vs, v.oneCell' = true) : ∃ w', (Instr.storeAt ty (.pointer (some ⟨b, o, none⟩)) (.agg vs.toArray)).run Tryd.prog w = .ok () w' ∧ IsB w' b (cs.take o ++ vs ++ cs.drop (o + vs.length)).toArray t ∧ Kp [b] w w' := by
  refine ⟨_, run_storeAt_mid w b o ty vs.toArray (fun j hj => ?_) (by simpa using hi) (all_oneCell_toArray h1), setCells_is vs w o cs I hl, setCells_kp b vs w o⟩
  refine ⟨?_, I.free _⟩
  rw [I.cell (o + j)]
  simp at hj ⊢
  omega
theorem store_one {w : World} {b : Nat} {cs : List Value} {t : TypeId} (I : IsB w b cs.toArray t) (o : Nat) (ty : TypeId) (v : Value) (hl : o < cs.length) (hi : (Tryd.prog.info? ty).map (·.size) = some 1) (hv : v.cells = #[v]) (h1 : v.oneCell' = true) : ∃ w', (Instr.storeAt ty (.pointer (some ⟨b, o, none⟩)) v).run Tryd.prog w = .ok () w' ∧ IsB w' b (cs.set o v).toArray t ∧ Kp [b] w w' := by
  refine ⟨w.setCells b o [v], ?_, ?_, setCells_kp b [v] w o⟩
  · have := run_storeCells_cells (P := Tryd.prog) b o [v] 0 w (fun j hj => by
      rw [I.cell]; simp at hj ⊢; omega) (fun j hj => I.free _) (by simpa using h1)
    cases hq : Tryd.prog.info? ty with
    | none => simp [hq] at hi
    | some i =>
      have hs : i.size = 1 := by simpa [hq] using hi
      simp only [Nat.add_zero] at this
      simp [Instr.storeAt, Instr.sureAddr, storeVar, sizeOf, typeInfo, hq, hv, hs, this]
  · have := setCells_is [v] w o cs I (by simp; omega)
    rwa [show cs.take o ++ [v] ++ cs.drop (o + [v].length) = cs.set o v by
      rw [List.set_eq_take_append_cons_drop, if_pos hl]; simp] at this

/-- A splice: its list, who is to be in it, from where, its owner; where it is at; who stands to the left, whether that is dead; the last one, and whether there is one; who stands to the right; its result. -/
structure Sp where
  wl : Int
  wb : Int
  me : Rf
  fr : Rf
  oa : Int
  oo : Int
  pl : Int
  lf : Rf
  dd : Bool
  la : Rf
  hl : Bool
  rg : Rf
  e : Int
  rl : Rf
  rr : Rf
def Rf.cs (x : Rf) : List Value := [.int .i64 x.id, .int .i64 x.rk, .int .u64 x.kn, .int .i64 x.ln, .int .u64 x.bt]
/-- A result's cells. -/
def rsL (e : Int) (l r : Rf) : List Value := [.int .i64 e, .int .u64 0, .slice none 0 0, .slice none 0 0, .int .i64 l.id, .int .i64 l.rk, .int .u64 l.kn, .int .i64 l.ln, .int .u64 l.bt, .int .i64 r.id, .int .i64 r.rk, .int .u64 r.kn, .int .i64 r.ln, .int .u64 r.bt, .bool false]
/-- The settings' cells. -/
def cfL (wl wb : Int) (me fr : Rf) (oa oo : Int) : List Value := [.int .i64 wl, .int .u64 wb, .int .i64 me.id, .int .i64 me.rk, .int .u64 me.kn, .int .i64 me.ln, .int .u64 me.bt, .int .i64 fr.id, .int .i64 fr.rk, .int .u64 fr.kn, .int .i64 fr.ln, .int .u64 fr.bt, .int .i64 oa, .int .i64 oo]
/-- A splice's cells. -/
def spL (S : Sp) (t : Value) : List Value :=
  [.int .i64 S.wl, .int .u64 S.wb, .int .i64 S.me.id, .int .i64 S.me.rk, .int .u64 S.me.kn, .int .i64 S.me.ln, .int .u64 S.me.bt, .int .i64 S.fr.id, .int .i64 S.fr.rk, .int .u64 S.fr.kn, .int .i64 S.fr.ln, .int .u64 S.fr.bt, .int .i64 S.oa, .int .i64 S.oo, .int .i64 S.pl, .int .i64 S.lf.id, .int .i64 S.lf.rk, .int .u64 S.lf.kn, .int .i64 S.lf.ln, .int .u64 S.lf.bt, .bool S.dd, .int .i64 S.la.id, .int .i64 S.la.rk, .int .u64 S.la.kn, .int .i64 S.la.ln, .int .u64 S.la.bt, .bool S.hl, .int .i64 S.rg.id, .int .i64 S.rg.rk, .int .u64 S.rg.kn, .int .i64 S.rg.ln, .int .u64 S.rg.bt, t, .int .i64 S.e, .int .u64 0, .slice none 0 0, .slice none 0 0, .int .i64 S.rl.id, .int .i64 S.rl.rk, .int .u64 S.rl.kn, .int .i64 S.rl.ln, .int .u64 S.rl.bt, .int .i64 S.rr.id, .int .i64 S.rr.rk, .int .u64 S.rr.kn, .int .i64 S.rr.ln, .int .u64 S.rr.bt, .bool false]

section
variable {w : World} {b : Nat} {S : Sp} {t : Value} (I : IsB w b (spL S t).toArray 85)
include I
theorem ld_conf : (Instr.loadAt 33 (.pointer (some ⟨b, 0, none⟩))).run Tryd.prog w = .ok (.agg (cfL S.wl S.wb S.me S.fr S.oa S.oo).toArray) w := load_mid I 0 _ (cfL S.wl S.wb S.me S.fr S.oa S.oo) _ rfl Tryd.underlying33 rfl (by kernel_rfl)
theorem ld_w : (Instr.loadAt 24 (.pointer (some ⟨b, 0, none⟩))).run Tryd.prog w = .ok (.agg #[.int .i64 (S.wl), .int .u64 (S.wb)]) w := load_mid I 0 _ [.int .i64 S.wl, .int .u64 S.wb] _ rfl Tryd.underlying24 rfl (by kernel_rfl)
theorem ld_me : (Instr.loadAt 29 (.pointer (some ⟨b, 2, none⟩))).run Tryd.prog w = .ok (.agg S.me.cells) w := load_mid I 2 _ S.me.cs _ rfl Tryd.underlying29 rfl (by kernel_rfl)
theorem ld_mek : (Instr.loadAt 27 (.pointer (some ⟨b, 3, none⟩))).run Tryd.prog w = .ok (.agg #[.int .i64 (S.me.rk), .int .u64 (S.me.kn)]) w := load_mid I 3 _ [.int .i64 S.me.rk, .int .u64 S.me.kn] _ rfl Tryd.underlying27 rfl (by kernel_rfl)
theorem ld_left : (Instr.loadAt 29 (.pointer (some ⟨b, 15, none⟩))).run Tryd.prog w = .ok (.agg S.lf.cells) w := load_mid I 15 _ S.lf.cs _ rfl Tryd.underlying29 rfl (by kernel_rfl)
theorem ld_leftk : (Instr.loadAt 27 (.pointer (some ⟨b, 16, none⟩))).run Tryd.prog w = .ok (.agg #[.int .i64 (S.lf.rk), .int .u64 (S.lf.kn)]) w := load_mid I 16 _ [.int .i64 S.lf.rk, .int .u64 S.lf.kn] _ rfl Tryd.underlying27 rfl (by kernel_rfl)
theorem ld_last : (Instr.loadAt 29 (.pointer (some ⟨b, 21, none⟩))).run Tryd.prog w = .ok (.agg S.la.cells) w := load_mid I 21 _ S.la.cs _ rfl Tryd.underlying29 rfl (by kernel_rfl)
theorem ld_lastk : (Instr.loadAt 27 (.pointer (some ⟨b, 22, none⟩))).run Tryd.prog w = .ok (.agg #[.int .i64 (S.la.rk), .int .u64 (S.la.kn)]) w := load_mid I 22 _ [.int .i64 S.la.rk, .int .u64 S.la.kn] _ rfl Tryd.underlying27 rfl (by kernel_rfl)
theorem ld_right : (Instr.loadAt 29 (.pointer (some ⟨b, 27, none⟩))).run Tryd.prog w = .ok (.agg S.rg.cells) w := load_mid I 27 _ S.rg.cs _ rfl Tryd.underlying29 rfl (by kernel_rfl)
theorem ld_rightk : (Instr.loadAt 27 (.pointer (some ⟨b, 28, none⟩))).run Tryd.prog w = .ok (.agg #[.int .i64 (S.rg.rk), .int .u64 (S.rg.kn)]) w := load_mid I 28 _ [.int .i64 S.rg.rk, .int .u64 S.rg.kn] _ rfl Tryd.underlying27 rfl (by kernel_rfl)
theorem ld_owner : (Instr.loadAt 31 (.pointer (some ⟨b, 12, none⟩))).run Tryd.prog w = .ok (.agg #[.int .i64 S.oa, .int .i64 S.oo]) w := load_mid I 12 _ [.int .i64 S.oa, .int .i64 S.oo] _ rfl Tryd.underlying31 rfl (by kernel_rfl)
theorem ld_res : (Instr.loadAt 51 (.pointer (some ⟨b, 33, none⟩))).run Tryd.prog w = .ok (.agg (rsL S.e S.rl S.rr).toArray) w := load_mid I 33 _ (rsL S.e S.rl S.rr) _ rfl Tryd.underlying51 rfl (by kernel_rfl)
theorem cl_wl : w.cell? ⟨b, 0, none⟩ = some (.int .i64 S.wl) := I.cell 0
theorem cl_meid : w.cell? ⟨b, 2, none⟩ = some (.int .i64 S.me.id) := I.cell 2
theorem cl_at : w.cell? ⟨b, 14, none⟩ = some (.int .i64 S.pl) := I.cell 14
theorem cl_dead : w.cell? ⟨b, 20, none⟩ = some (.bool S.dd) := I.cell 20
theorem cl_has : w.cell? ⟨b, 26, none⟩ = some (.bool S.hl) := I.cell 26
theorem cl_then : w.cell? ⟨b, 32, none⟩ = some (t) := I.cell 32
theorem st_left (r : Rf) : ∃ w', (Instr.storeAt 29 (.pointer (some ⟨b, 15, none⟩)) (.agg r.cells)).run Tryd.prog w = .ok () w' ∧ IsB w' b (spL { S with lf := r } t).toArray 85 ∧ Kp [b] w w' :=
  store_mid I 15 _ r.cs (by simp [spL, Rf.cs]) (by kernel_rfl) (by simp [Rf.cs, Value.oneCell'])
theorem st_last (r : Rf) : ∃ w', (Instr.storeAt 29 (.pointer (some ⟨b, 21, none⟩)) (.agg r.cells)).run Tryd.prog w = .ok () w' ∧ IsB w' b (spL { S with la := r } t).toArray 85 ∧ Kp [b] w w' :=
  store_mid I 21 _ r.cs (by simp [spL, Rf.cs]) (by kernel_rfl) (by simp [Rf.cs, Value.oneCell'])
theorem st_right (r : Rf) : ∃ w', (Instr.storeAt 29 (.pointer (some ⟨b, 27, none⟩)) (.agg r.cells)).run Tryd.prog w = .ok () w' ∧ IsB w' b (spL { S with rg := r } t).toArray 85 ∧ Kp [b] w w' :=
  store_mid I 27 _ r.cs (by simp [spL, Rf.cs]) (by kernel_rfl) (by simp [Rf.cs, Value.oneCell'])
theorem st_res (e : Int) (l r : Rf) : ∃ w', (Instr.storeAt 51 (.pointer (some ⟨b, 33, none⟩)) (.agg (rsL e l r).toArray)).run Tryd.prog w = .ok () w' ∧ IsB w' b (spL { S with e := e, rl := l, rr := r } t).toArray 85 ∧ Kp [b] w w' :=
  store_mid I 33 _ (rsL e l r) (by simp [spL, rsL]) (by kernel_rfl) (by simp [rsL, Value.oneCell'])
theorem st_at (k : Int) : ∃ w', (Instr.storeAt 82 (.pointer (some ⟨b, 14, none⟩)) (.int .i64 k)).run Tryd.prog w = .ok () w' ∧ IsB w' b (spL { S with pl := k } t).toArray 85 ∧ Kp [b] w w' :=
  store_one I 14 _ (.int .i64 k) (by simp [spL]) (by kernel_rfl) rfl rfl
theorem st_dead (f : Bool) : ∃ w', (Instr.storeAt 4 (.pointer (some ⟨b, 20, none⟩)) (.bool f)).run Tryd.prog w = .ok () w' ∧ IsB w' b (spL { S with dd := f } t).toArray 85 ∧ Kp [b] w w' :=
  store_one I 20 _ (.bool f) (by simp [spL]) (by kernel_rfl) rfl rfl
theorem st_has (f : Bool) : ∃ w', (Instr.storeAt 4 (.pointer (some ⟨b, 26, none⟩)) (.bool f)).run Tryd.prog w = .ok () w' ∧ IsB w' b (spL { S with hl := f } t).toArray 85 ∧ Kp [b] w w' :=
  store_one I 26 _ (.bool f) (by simp [spL]) (by kernel_rfl) rfl rfl
theorem st_then (f : Nat) (cs : Array Value) : ∃ w', (Instr.storeAt 83 (.pointer (some ⟨b, 32, none⟩)) (.func (.func f) #[] cs)).run Tryd.prog w = .ok () w' ∧ IsB w' b (spL S (.func (.func f) #[] cs)).toArray 85 ∧ Kp [b] w w' :=
  store_one I 32 _ (.func (.func f) #[] cs) (by simp [spL]) (by kernel_rfl) rfl rfl
end
section
variable {w : World} {b : Nat} {wl wb : Int} {me fr : Rf} {oa oo : Int} (I : IsB w b (cfL wl wb me fr oa oo).toArray 33)
include I
theorem ld_cconf : (Instr.loadAt 33 (.pointer (some ⟨b, 0, none⟩))).run Tryd.prog w = .ok (.agg (cfL wl wb me fr oa oo).toArray) w := load_mid I 0 _ (cfL wl wb me fr oa oo) _ rfl Tryd.underlying33 rfl (by kernel_rfl)
theorem ld_cw : (Instr.loadAt 24 (.pointer (some ⟨b, 0, none⟩))).run Tryd.prog w = .ok (.agg #[.int .i64 (wl), .int .u64 (wb)]) w := load_mid I 0 _ [.int .i64 wl, .int .u64 wb] _ rfl Tryd.underlying24 rfl (by kernel_rfl)
theorem ld_cme : (Instr.loadAt 29 (.pointer (some ⟨b, 2, none⟩))).run Tryd.prog w = .ok (.agg me.cells) w := load_mid I 2 _ me.cs _ rfl Tryd.underlying29 rfl (by kernel_rfl)
theorem ld_cmek : (Instr.loadAt 27 (.pointer (some ⟨b, 3, none⟩))).run Tryd.prog w = .ok (.agg #[.int .i64 (me.rk), .int .u64 (me.kn)]) w := load_mid I 3 _ [.int .i64 me.rk, .int .u64 me.kn] _ rfl Tryd.underlying27 rfl (by kernel_rfl)
theorem ld_cmev : (Instr.loadAt 24 (.pointer (some ⟨b, 5, none⟩))).run Tryd.prog w = .ok (.agg #[.int .i64 (me.ln), .int .u64 (me.bt)]) w := load_mid I 5 _ [.int .i64 me.ln, .int .u64 me.bt] _ rfl Tryd.underlying24 rfl (by kernel_rfl)
theorem ld_cfr : (Instr.loadAt 29 (.pointer (some ⟨b, 7, none⟩))).run Tryd.prog w = .ok (.agg fr.cells) w := load_mid I 7 _ fr.cs _ rfl Tryd.underlying29 rfl (by kernel_rfl)
theorem ld_cfrk : (Instr.loadAt 27 (.pointer (some ⟨b, 8, none⟩))).run Tryd.prog w = .ok (.agg #[.int .i64 (fr.rk), .int .u64 (fr.kn)]) w := load_mid I 8 _ [.int .i64 fr.rk, .int .u64 fr.kn] _ rfl Tryd.underlying27 rfl (by kernel_rfl)
theorem ld_cow : (Instr.loadAt 31 (.pointer (some ⟨b, 12, none⟩))).run Tryd.prog w = .ok (.agg #[.int .i64 oa, .int .i64 oo]) w := load_mid I 12 _ [.int .i64 oa, .int .i64 oo] _ rfl Tryd.underlying31 rfl (by kernel_rfl)
end
/-- An answer: its kind, is it marked, its sides, its value. -/
structure An where
  k : Int
  mr : Bool
  l : Rf
  r : Rf
  va : Option Addr
  vn : Nat
  vc : Nat
def anL (a : An) : List Value := [.int .i64 a.k, .bool a.mr, .int .i64 a.l.id, .int .i64 a.l.rk, .int .u64 a.l.kn, .int .i64 a.l.ln, .int .u64 a.l.bt, .int .i64 a.r.id, .int .i64 a.r.rk, .int .u64 a.r.kn, .int .i64 a.r.ln, .int .u64 a.r.bt, .slice a.va a.vn a.vc]
section
variable {w : World} {b : Nat} {a : An} (I : IsB w b (anL a).toArray 57)
include I
theorem ld_ans : (Instr.loadAt 57 (.pointer (some ⟨b, 0, none⟩))).run Tryd.prog w = .ok (.agg (anL a).toArray) w := load_mid I 0 _ (anL a) _ rfl Tryd.underlying57 rfl (by kernel_rfl)
theorem ld_al : (Instr.loadAt 29 (.pointer (some ⟨b, 2, none⟩))).run Tryd.prog w = .ok (.agg a.l.cells) w := load_mid I 2 _ a.l.cs _ rfl Tryd.underlying29 rfl (by kernel_rfl)
theorem ld_ar : (Instr.loadAt 29 (.pointer (some ⟨b, 7, none⟩))).run Tryd.prog w = .ok (.agg a.r.cells) w := load_mid I 7 _ a.r.cs _ rfl Tryd.underlying29 rfl (by kernel_rfl)
theorem cl_ak : w.cell? ⟨b, 0, none⟩ = some (.int .i64 a.k) := I.cell 0
end
theorem ld_id {w : World} {b : Nat} {r : Rf} (I : IsB w b r.cells 29) : w.cell? ⟨b, 0, none⟩ = some (.int .i64 r.id) := I.cell 0
theorem ld_key {w : World} {b : Nat} {r : Rf} (I : IsB w b r.cells 29) : (Instr.loadAt 27 (.pointer (some ⟨b, 1, none⟩))).run Tryd.prog w = .ok (.agg #[.int .i64 (r.rk), .int .u64 (r.kn)]) w := load_mid (cs := r.cs) I 1 _ [.int .i64 r.rk, .int .u64 r.kn] _ rfl Tryd.underlying27 rfl (by kernel_rfl)
end Go.Proofs.YtofmommoeligoaaDoor
