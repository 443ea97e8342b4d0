/- The middle of a block: loads and stores of a part of it; an unsplice's cells. -/
import Derived.Test.YtiobfohcgdgpbaaGA
import Derived.Deep.MidRow
namespace Go.Proofs.Ytiobfohcgdgpbaa
open Go.RowKit Go.Maps Go.ChangeMaps

theorem load_mid {w : World} {b : Nat} {cs : List Value} {t : TypeId} (I : IsB w b cs.toArray t) (o : Nat) (ty : TypeId) (vs : List Value) (d : TypeDesc) (hv : (cs.drop o).take vs.length = vs) (hu : Try.prog.underlying ty = some d) (hd : d.isRow = true) (hi : (Try.prog.info? ty).map (·.size) = some vs.length) : (Instr.loadAt ty (.pointer (some ⟨b, o, none⟩))).run Try.prog w = .ok (.agg vs.toArray) w := by
  refine run_loadAt_mid w b o ty vs d (fun j v h => ?_) hu hd hi
  rw [I.cell (o + j)]
  rw [← hv, List.getElem?_take] at h
  split at h
  · rw [List.getElem?_drop] at h
    simpa using h
  · cases h
theorem setCells_is {b : Nat} {t : TypeId} : ∀ (vs : List Value) (w : World) (o : Nat) (cs : List Value), IsB w b cs.toArray t → o + vs.length ≤ cs.length → IsB (w.setCells b o vs) b (cs.take o ++ vs ++ cs.drop (o + vs.length)).toArray t
  | [], w, o, cs, h, _ => by simpa [World.setCells] using h
  | v :: r, w, o, cs, h, hl => by
    have h1 : IsB (w.setCell ⟨b, o, none⟩ v) b (cs.set o v).toArray t := by simpa using h.set o v
    have h2 := setCells_is r _ (o + 1) _ h1 (by simp at hl ⊢; omega)
    have e : (cs.set o v).take (o + 1) ++ r ++ (cs.set o v).drop (o + 1 + r.length) = cs.take o ++ (v :: r) ++ cs.drop (o + (v :: r).length) := by
      have ho : o < cs.length := by simp at hl; omega
      have e1 : (cs.set o v).take (o + 1) = cs.take o ++ [v] := by
        rw [List.take_set, List.take_succ_eq_append_getElem ho, List.set_append_right _ _ (by simp; omega)]
        simp [Nat.min_eq_left (Nat.le_of_lt ho)]
      have e2 : (cs.set o v).drop (o + 1 + r.length) = cs.drop (o + (v :: r).length) := by
        rw [List.drop_set, if_pos (by omega)]
        congr 1
        simp; omega
      rw [e1, e2]
      simp
    rw [World.setCells, ← e]
    exact h2
theorem setCells_kp (b : Nat) : ∀ (vs : List Value) (w : World) (o : Nat), Kp [b] w (w.setCells b o vs)
  | [], w, o => Kp.refl _ _
  | v :: r, w, o => ((Kp.refl [b] w).set ⟨b, o, none⟩ v (Or.inl (by simp))).trans (setCells_kp b r _ (o + 1)) (fun j hj => Or.inl hj)
theorem store_mid {w : World} {b : Nat} {cs : List Value} {t : TypeId} (I : IsB w b cs.toArray t) (o : Nat) (ty : TypeId) (vs : List Value) (hl : o + vs.length ≤ cs.length) (hi : (Try.prog.info? ty).map (·.size) = some vs.length) (h1 : ∀ v ∈ vs, v.oneCell' = true) : ∃ w', (Instr.storeAt ty (.pointer (some ⟨b, o, none⟩)) (.agg vs.toArray)).run Try.prog w = .ok () w' ∧ IsB w' b (cs.take o ++ vs ++ cs.drop (o + vs.length)).toArray t ∧ Kp [b] w w' := by
  refine ⟨_, run_storeAt_mid w b o ty vs.toArray (fun j hj => ?_) (by simpa using hi) (all_oneCell_toArray h1), setCells_is vs w o cs I hl, setCells_kp b vs w o⟩
  refine ⟨?_, I.free _⟩
  rw [I.cell (o + j)]
  simp at hj ⊢
  omega
theorem store_one {w : World} {b : Nat} {cs : List Value} {t : TypeId} (I : IsB w b cs.toArray t) (o : Nat) (ty : TypeId) (v : Value) (hl : o < cs.length) (hi : (Try.prog.info? ty).map (·.size) = some 1) (hv : v.cells = #[v]) (h1 : v.oneCell' = true) : ∃ w', (Instr.storeAt ty (.pointer (some ⟨b, o, none⟩)) v).run Try.prog w = .ok () w' ∧ IsB w' b (cs.set o v).toArray t ∧ Kp [b] w w' := by
  refine ⟨w.setCells b o [v], ?_, ?_, setCells_kp b [v] w o⟩
  · have := run_storeCells_cells (P := Try.prog) b o [v] 0 w (fun j hj => by
      rw [I.cell]; simp at hj ⊢; omega) (fun j hj => I.free _) (by simpa using h1)
    cases hq : Try.prog.info? ty with
    | none => simp [hq] at hi
    | some i =>
      have hs : i.size = 1 := by simpa [hq] using hi
      simp only [Nat.add_zero] at this
      simp [Instr.storeAt, Instr.sureAddr, storeVar, sizeOf, typeInfo, hq, hv, hs, this]
  · have := setCells_is [v] w o cs I (by simp; omega)
    rwa [show cs.take o ++ [v] ++ cs.drop (o + [v].length) = cs.set o v by
      rw [List.set_eq_take_append_cons_drop, if_pos hl]; simp] at this

theorem IsB.ne_t {w : World} {a b : Nat} {x y : Array Value} {s t : TypeId} (h : IsB w a x s) (k : IsB w b y t) (hn : s ≠ t) : a ≠ b := by
  rintro rfl
  have := Option.some.inj (h.symm.trans k)
  injection this with _ h2
  exact hn h2
theorem Kp.tr {S : List Nat} {a b c : World} (h : Kp S a b) (k : Kp S b c) : Kp S a c := h.trans k (fun _ hj => Or.inl hj)
/-- An unsplice: its list, who is to leave it, its owner; where it is at; who stands to the left, and to the right; what comes behind Free; its error. The document's lies in memory just so. -/
structure Us where
  wl : Int
  wb : Int
  me : Rf
  oa : Int
  oo : Int
  pl : Int
  lf : Rf
  rg : Rf
  bh : Int
  e : Int
def Rf.cs (x : Rf) : List Value := [.int .i64 x.id, .int .i64 x.rk, .int .u64 x.kn, .int .i64 x.ln, .int .u64 x.bt]
/-- The settings' cells. -/
def cfL (wl wb : Int) (me : Rf) (oa oo : Int) : List Value := [.int .i64 wl, .int .u64 wb, .int .i64 me.id, .int .i64 me.rk, .int .u64 me.kn, .int .i64 me.ln, .int .u64 me.bt, .int .i64 oa, .int .i64 oo]
/-- An unsplice's cells. -/
def usL (S : Us) : List Value :=
  [.int .i64 S.wl, .int .u64 S.wb, .int .i64 S.me.id, .int .i64 S.me.rk, .int .u64 S.me.kn, .int .i64 S.me.ln, .int .u64 S.me.bt, .int .i64 S.oa, .int .i64 S.oo, .int .i64 S.pl, .int .i64 S.lf.id, .int .i64 S.lf.rk, .int .u64 S.lf.kn, .int .i64 S.lf.ln, .int .u64 S.lf.bt, .int .i64 S.rg.id, .int .i64 S.rg.rk, .int .u64 S.rg.kn, .int .i64 S.rg.ln, .int .u64 S.rg.bt, .int .i64 S.bh, .int .i64 S.e]
/-- It lies there. -/
def UsAt (w : World) (b : Nat) (S : Us) : Prop := IsB w b (usL S).toArray 85
/-- The document's lies there. -/
def DsAt (w : World) (b : Nat) (S : Us) : Prop := IsB w b (usL S).toArray 94

section
variable {w : World} {b : Nat} {S : Us} (I : UsAt w b S)
include I
theorem ld_w : (Instr.loadAt 24 (.pointer (some ⟨b, 0, none⟩))).run Try.prog w = .ok (.agg #[.int .i64 (S.wl), .int .u64 (S.wb)]) w := load_mid I 0 _ [.int .i64 S.wl, .int .u64 S.wb] _ rfl Try.underlying24 rfl (by kernel_rfl)
theorem ld_me : (Instr.loadAt 29 (.pointer (some ⟨b, 2, none⟩))).run Try.prog w = .ok (.agg S.me.cells) w := load_mid I 2 _ S.me.cs _ rfl Try.underlying29 rfl (by kernel_rfl)
theorem ld_mek : (Instr.loadAt 27 (.pointer (some ⟨b, 3, none⟩))).run Try.prog w = .ok (.agg #[.int .i64 (S.me.rk), .int .u64 (S.me.kn)]) w := load_mid I 3 _ [.int .i64 S.me.rk, .int .u64 S.me.kn] _ rfl Try.underlying27 rfl (by kernel_rfl)
theorem ld_left : (Instr.loadAt 29 (.pointer (some ⟨b, 10, none⟩))).run Try.prog w = .ok (.agg S.lf.cells) w := load_mid I 10 _ S.lf.cs _ rfl Try.underlying29 rfl (by kernel_rfl)
theorem ld_leftk : (Instr.loadAt 27 (.pointer (some ⟨b, 11, none⟩))).run Try.prog w = .ok (.agg #[.int .i64 (S.lf.rk), .int .u64 (S.lf.kn)]) w := load_mid I 11 _ [.int .i64 S.lf.rk, .int .u64 S.lf.kn] _ rfl Try.underlying27 rfl (by kernel_rfl)
theorem ld_right : (Instr.loadAt 29 (.pointer (some ⟨b, 15, none⟩))).run Try.prog w = .ok (.agg S.rg.cells) w := load_mid I 15 _ S.rg.cs _ rfl Try.underlying29 rfl (by kernel_rfl)
theorem ld_rightk : (Instr.loadAt 27 (.pointer (some ⟨b, 16, none⟩))).run Try.prog w = .ok (.agg #[.int .i64 (S.rg.rk), .int .u64 (S.rg.kn)]) w := load_mid I 16 _ [.int .i64 S.rg.rk, .int .u64 S.rg.kn] _ rfl Try.underlying27 rfl (by kernel_rfl)
theorem ld_owner : (Instr.loadAt 31 (.pointer (some ⟨b, 7, none⟩))).run Try.prog w = .ok (.agg #[.int .i64 S.oa, .int .i64 S.oo]) w := load_mid I 7 _ [.int .i64 S.oa, .int .i64 S.oo] _ rfl Try.underlying31 rfl (by kernel_rfl)
theorem cl_at : w.cell? ⟨b, 9, none⟩ = some (.int .i64 S.pl) := IsB.cell I 9
theorem cl_bh : w.cell? ⟨b, 20, none⟩ = some (.int .i64 S.bh) := IsB.cell I 20
theorem cl_e : w.cell? ⟨b, 21, none⟩ = some (.int .i64 S.e) := IsB.cell I 21
theorem st_left (r : Rf) : ∃ w', (Instr.storeAt 29 (.pointer (some ⟨b, 10, none⟩)) (.agg r.cells)).run Try.prog w = .ok () w' ∧ UsAt w' b { S with lf := r } ∧ Kp [b] w w' :=
  store_mid I 10 _ r.cs (by simp [usL, Rf.cs]) (by kernel_rfl) (by simp [Rf.cs, Value.oneCell'])
theorem st_right (r : Rf) : ∃ w', (Instr.storeAt 29 (.pointer (some ⟨b, 15, none⟩)) (.agg r.cells)).run Try.prog w = .ok () w' ∧ UsAt w' b { S with rg := r } ∧ Kp [b] w w' :=
  store_mid I 15 _ r.cs (by simp [usL, Rf.cs]) (by kernel_rfl) (by simp [Rf.cs, Value.oneCell'])
theorem st_at (k : Int) : ∃ w', (Instr.storeAt 83 (.pointer (some ⟨b, 9, none⟩)) (.int .i64 k)).run Try.prog w = .ok () w' ∧ UsAt w' b { S with pl := k } ∧ Kp [b] w w' :=
  store_one I 9 _ (.int .i64 k) (by simp [usL]) (by kernel_rfl) rfl rfl
theorem st_bh (k : Int) : ∃ w', (Instr.storeAt 83 (.pointer (some ⟨b, 20, none⟩)) (.int .i64 k)).run Try.prog w = .ok () w' ∧ UsAt w' b { S with bh := k } ∧ Kp [b] w w' :=
  store_one I 20 _ (.int .i64 k) (by simp [usL]) (by kernel_rfl) rfl rfl
theorem st_e (k : Int) : ∃ w', (Instr.storeAt 37 (.pointer (some ⟨b, 21, none⟩)) (.int .i64 k)).run Try.prog w = .ok () w' ∧ UsAt w' b { S with e := k } ∧ Kp [b] w w' :=
  store_one I 21 _ (.int .i64 k) (by simp [usL]) (by kernel_rfl) rfl rfl
end

section
variable {w : World} {b : Nat} {S : Us} (I : DsAt w b S)
include I
theorem dld_w : (Instr.loadAt 24 (.pointer (some ⟨b, 0, none⟩))).run Try.prog w = .ok (.agg #[.int .i64 (S.wl), .int .u64 (S.wb)]) w := load_mid I 0 _ [.int .i64 S.wl, .int .u64 S.wb] _ rfl Try.underlying24 rfl (by kernel_rfl)
theorem dld_me : (Instr.loadAt 29 (.pointer (some ⟨b, 2, none⟩))).run Try.prog w = .ok (.agg S.me.cells) w := load_mid I 2 _ S.me.cs _ rfl Try.underlying29 rfl (by kernel_rfl)
theorem dld_mek : (Instr.loadAt 27 (.pointer (some ⟨b, 3, none⟩))).run Try.prog w = .ok (.agg #[.int .i64 (S.me.rk), .int .u64 (S.me.kn)]) w := load_mid I 3 _ [.int .i64 S.me.rk, .int .u64 S.me.kn] _ rfl Try.underlying27 rfl (by kernel_rfl)
theorem dld_left : (Instr.loadAt 29 (.pointer (some ⟨b, 10, none⟩))).run Try.prog w = .ok (.agg S.lf.cells) w := load_mid I 10 _ S.lf.cs _ rfl Try.underlying29 rfl (by kernel_rfl)
theorem dld_leftk : (Instr.loadAt 27 (.pointer (some ⟨b, 11, none⟩))).run Try.prog w = .ok (.agg #[.int .i64 (S.lf.rk), .int .u64 (S.lf.kn)]) w := load_mid I 11 _ [.int .i64 S.lf.rk, .int .u64 S.lf.kn] _ rfl Try.underlying27 rfl (by kernel_rfl)
theorem dld_right : (Instr.loadAt 29 (.pointer (some ⟨b, 15, none⟩))).run Try.prog w = .ok (.agg S.rg.cells) w := load_mid I 15 _ S.rg.cs _ rfl Try.underlying29 rfl (by kernel_rfl)
theorem dld_rightk : (Instr.loadAt 27 (.pointer (some ⟨b, 16, none⟩))).run Try.prog w = .ok (.agg #[.int .i64 (S.rg.rk), .int .u64 (S.rg.kn)]) w := load_mid I 16 _ [.int .i64 S.rg.rk, .int .u64 S.rg.kn] _ rfl Try.underlying27 rfl (by kernel_rfl)
theorem dld_owner : (Instr.loadAt 31 (.pointer (some ⟨b, 7, none⟩))).run Try.prog w = .ok (.agg #[.int .i64 S.oa, .int .i64 S.oo]) w := load_mid I 7 _ [.int .i64 S.oa, .int .i64 S.oo] _ rfl Try.underlying31 rfl (by kernel_rfl)
theorem dcl_at : w.cell? ⟨b, 9, none⟩ = some (.int .i64 S.pl) := IsB.cell I 9
theorem dcl_bh : w.cell? ⟨b, 20, none⟩ = some (.int .i64 S.bh) := IsB.cell I 20
theorem dcl_e : w.cell? ⟨b, 21, none⟩ = some (.int .i64 S.e) := IsB.cell I 21
theorem dst_left (r : Rf) : ∃ w', (Instr.storeAt 29 (.pointer (some ⟨b, 10, none⟩)) (.agg r.cells)).run Try.prog w = .ok () w' ∧ DsAt w' b { S with lf := r } ∧ Kp [b] w w' :=
  store_mid I 10 _ r.cs (by simp [usL, Rf.cs]) (by kernel_rfl) (by simp [Rf.cs, Value.oneCell'])
theorem dst_right (r : Rf) : ∃ w', (Instr.storeAt 29 (.pointer (some ⟨b, 15, none⟩)) (.agg r.cells)).run Try.prog w = .ok () w' ∧ DsAt w' b { S with rg := r } ∧ Kp [b] w w' :=
  store_mid I 15 _ r.cs (by simp [usL, Rf.cs]) (by kernel_rfl) (by simp [Rf.cs, Value.oneCell'])
theorem dst_at (k : Int) : ∃ w', (Instr.storeAt 3 (.pointer (some ⟨b, 9, none⟩)) (.int .i64 k)).run Try.prog w = .ok () w' ∧ DsAt w' b { S with pl := k } ∧ Kp [b] w w' :=
  store_one I 9 _ (.int .i64 k) (by simp [usL]) (by kernel_rfl) rfl rfl
theorem dst_bh (k : Int) : ∃ w', (Instr.storeAt 3 (.pointer (some ⟨b, 20, none⟩)) (.int .i64 k)).run Try.prog w = .ok () w' ∧ DsAt w' b { S with bh := k } ∧ Kp [b] w w' :=
  store_one I 20 _ (.int .i64 k) (by simp [usL]) (by kernel_rfl) rfl rfl
theorem dst_e (k : Int) : ∃ w', (Instr.storeAt 37 (.pointer (some ⟨b, 21, none⟩)) (.int .i64 k)).run Try.prog w = .ok () w' ∧ DsAt w' b { S with e := k } ∧ Kp [b] w w' :=
  store_one I 21 _ (.int .i64 k) (by simp [usL]) (by kernel_rfl) rfl rfl
end

section
variable {w : World} {b : Nat} {wl wb : Int} {me : Rf} {oa oo : Int} (I : IsB w b (cfL wl wb me oa oo).toArray 33)
include I
theorem ld_cconf : (Instr.loadAt 33 (.pointer (some ⟨b, 0, none⟩))).run Try.prog w = .ok (.agg (cfL wl wb me oa oo).toArray) w := load_mid I 0 _ (cfL wl wb me oa oo) _ rfl Try.underlying33 rfl (by kernel_rfl)
theorem ld_cw : (Instr.loadAt 24 (.pointer (some ⟨b, 0, none⟩))).run Try.prog w = .ok (.agg #[.int .i64 (wl), .int .u64 (wb)]) w := load_mid I 0 _ [.int .i64 wl, .int .u64 wb] _ rfl Try.underlying24 rfl (by kernel_rfl)
theorem ld_cme : (Instr.loadAt 29 (.pointer (some ⟨b, 2, none⟩))).run Try.prog w = .ok (.agg me.cells) w := load_mid I 2 _ me.cs _ rfl Try.underlying29 rfl (by kernel_rfl)
theorem ld_cmev : (Instr.loadAt 24 (.pointer (some ⟨b, 5, none⟩))).run Try.prog w = .ok (.agg #[.int .i64 (me.ln), .int .u64 (me.bt)]) w := load_mid I 5 _ [.int .i64 me.ln, .int .u64 me.bt] _ rfl Try.underlying24 rfl (by kernel_rfl)
theorem ld_cow : (Instr.loadAt 31 (.pointer (some ⟨b, 7, none⟩))).run Try.prog w = .ok (.agg #[.int .i64 oa, .int .i64 oo]) w := load_mid I 7 _ [.int .i64 oa, .int .i64 oo] _ rfl Try.underlying31 rfl (by kernel_rfl)
end
/-- An answer: its kind, is it marked, its sides, its value. -/
structure An where
  k : Int
  mr : Bool
  l : Rf
  r : Rf
  va : Option Addr
  vn : Nat
  vc : Nat
def anL (a : An) : List Value := [.int .i64 a.k, .bool a.mr, .int .i64 a.l.id, .int .i64 a.l.rk, .int .u64 a.l.kn, .int .i64 a.l.ln, .int .u64 a.l.bt, .int .i64 a.r.id, .int .i64 a.r.rk, .int .u64 a.r.kn, .int .i64 a.r.ln, .int .u64 a.r.bt, .slice a.va a.vn a.vc]
section
variable {w : World} {b : Nat} {a : An} (I : IsB w b (anL a).toArray 58)
include I
theorem ld_ans : (Instr.loadAt 58 (.pointer (some ⟨b, 0, none⟩))).run Try.prog w = .ok (.agg (anL a).toArray) w := load_mid I 0 _ (anL a) _ rfl Try.underlying58 rfl (by kernel_rfl)
theorem ld_al : (Instr.loadAt 29 (.pointer (some ⟨b, 2, none⟩))).run Try.prog w = .ok (.agg a.l.cells) w := load_mid I 2 _ a.l.cs _ rfl Try.underlying29 rfl (by kernel_rfl)
theorem ld_ar : (Instr.loadAt 29 (.pointer (some ⟨b, 7, none⟩))).run Try.prog w = .ok (.agg a.r.cells) w := load_mid I 7 _ a.r.cs _ rfl Try.underlying29 rfl (by kernel_rfl)
theorem ld_alk : (Instr.loadAt 27 (.pointer (some ⟨b, 3, none⟩))).run Try.prog w = .ok (.agg #[.int .i64 (a.l.rk), .int .u64 (a.l.kn)]) w := load_mid I 3 _ [.int .i64 a.l.rk, .int .u64 a.l.kn] _ rfl Try.underlying27 rfl (by kernel_rfl)
theorem ld_ark : (Instr.loadAt 27 (.pointer (some ⟨b, 8, none⟩))).run Try.prog w = .ok (.agg #[.int .i64 (a.r.rk), .int .u64 (a.r.kn)]) w := load_mid I 8 _ [.int .i64 a.r.rk, .int .u64 a.r.kn] _ rfl Try.underlying27 rfl (by kernel_rfl)
theorem cl_ak : w.cell? ⟨b, 0, none⟩ = some (.int .i64 a.k) := I.cell 0
end
theorem ld_id {w : World} {b : Nat} {r : Rf} (I : IsB w b r.cells 29) : w.cell? ⟨b, 0, none⟩ = some (.int .i64 r.id) := I.cell 0
theorem ld_key {w : World} {b : Nat} {r : Rf} (I : IsB w b r.cells 29) : (Instr.loadAt 27 (.pointer (some ⟨b, 1, none⟩))).run Try.prog w = .ok (.agg #[.int .i64 (r.rk), .int .u64 (r.kn)]) w := load_mid (cs := r.cs) I 1 _ [.int .i64 r.rk, .int .u64 r.kn] _ rfl Try.underlying27 rfl (by kernel_rfl)

theorem ptr_eq (a : Addr) (w : World) : (binOp .eql 36 (.pointer (some a)) (.pointer none)).run Try.prog w = .ok (.bool false) w := by kernel_rfl
theorem ptr_ne (a : Addr) (w : World) : (binOp .neq 36 (.pointer (some a)) (.pointer none)).run Try.prog w = .ok (.bool true) w := by kernel_rfl

end Go.Proofs.Ytiobfohcgdgpbaa
