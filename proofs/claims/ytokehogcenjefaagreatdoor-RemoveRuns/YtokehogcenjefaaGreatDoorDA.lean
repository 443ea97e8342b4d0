/- The document's search in memory: its wills, its cells. -/
import Derived.Test.YtokehogcenjefaaGreatDoorSG
namespace Go.Proofs.YtokehogcenjefaaGreatDoor
open Go.RowKit Go.Maps Go.ChangeMaps

/-- A will: whose, of which list, its sides. -/
structure Wl where
 id : Int
 x : Int
 y : Int
 l : Rf
 r : Rf
def wlL (a : Wl) : List Value := [.int .i64 a.id, .int .i64 a.x, .int .u64 a.y, .int .i64 a.l.id, .int .i64 a.l.rk, .int .u64 a.l.kn, .int .i64 a.l.ln, .int .u64 a.l.bt, .int .i64 a.r.id, .int .i64 a.r.rk, .int .u64 a.r.kn, .int .i64 a.r.ln, .int .u64 a.r.bt]
def wls : List Wl → List Value
 | [] => []
 | a :: l => wlL a ++ wls l
def Wl.pr (a : Wl) : Pl × Rf := ((a.id, a.x, a.y), a.r)
theorem wls_len : ∀ l : List Wl, (wls l).length = l.length * 13
 | [] => rfl
 | a :: l => by rw [wls, List.length_append, wls_len l, List.length_cons]; show 13 + _ = _; omega
theorem wls_app : ∀ l m : List Wl, wls (l ++ m) = wls l ++ wls m
 | [], _ => rfl
 | a :: l, m => by rw [List.cons_append, wls, wls, wls_app l m, List.append_assoc]
theorem wls_get : ∀ (l : List Wl) (j : Nat) (hj : j < l.length) (k : Nat), k < 13 → (wls l)[j * 13 + k]? = (wlL l[j])[k]?
 | a :: l, 0, _, k, hk => by
   rw [Nat.zero_mul, Nat.zero_add, wls, List.getElem?_append_left (by exact hk)]
   rfl
 | a :: l, j + 1, hj, k, hk => by
   have hj' : j < l.length := by simpa using hj
   rw [wls, List.getElem?_append_right (by show 13 ≤ _; omega), show (j + 1) * 13 + k - (wlL a).length = j * 13 + k by show _ - 13 = _; omega, wls_get l j hj' k hk]
   rfl
theorem wls_one : ∀ l : List Wl, ∀ u ∈ wls l, u.oneCell' = true
 | [], u, h => by cases h
 | a :: l, u, h => by
   rcases List.mem_append.1 h with h | h
   · simp only [wlL, List.mem_cons, List.not_mem_nil, or_false] at h
     rcases h with h | h | h | h | h | h | h | h | h | h | h | h | h <;> rw [h] <;> rfl
   · exact wls_one l u h
theorem wls_set : ∀ (l : List Wl) (j : Nat), j < l.length → ∀ a : Wl, (wls l).take (j * 13) ++ wlL a ++ (wls l).drop (j * 13 + 13) = wls (l.set j a)
 | b :: l, 0, _, a => by
   rw [Nat.zero_mul, List.take_zero, List.nil_append, Nat.zero_add, List.set_cons_zero, wls, wls, List.drop_left' (show (wlL b).length = 13 from rfl)]
 | b :: l, j + 1, hj, a => by
   have hj' : j < l.length := by simpa using hj
   rw [List.set_cons_succ, wls, wls, ← wls_set l j hj' a, show (j + 1) * 13 = 13 + j * 13 by omega, List.take_append, List.take_of_length_le (show (wlL b).length ≤ 13 + j * 13 by show 13 ≤ _; omega), show 13 + j * 13 - (wlL b).length = j * 13 by show _ - 13 = _; omega, show 13 + j * 13 + 13 = 13 + (j * 13 + 13) by omega, ← List.drop_drop, List.drop_left' (show (wlL b).length = 13 from rfl)]
   simp [List.append_assoc]
/-- Where the will of a place is kept, from some place on. -/
def knI (L : List Wl) (p : Pl) : Option Nat := L.findIdx? fun a => decide (a.pr.1 = p)
def knV (L : List Wl) (p : Pl) : Int := match knI L p with
 | some i => (i : Int)
 | none => -1
theorem knI_none {L : List Wl} {p : Pl} (h : knI L p = none) : look (L.map Wl.pr) p = none := by
 unfold knI at h
 rw [List.findIdx?_eq_none_iff] at h
 unfold look
 rw [Option.map_eq_none_iff, List.find?_eq_none]
 intro x hx
 obtain ⟨a, ha, rfl⟩ := List.mem_map.1 hx
 simpa using h a ha
theorem knI_some {L : List Wl} {p : Pl} {i : Nat} (h : knI L p = some i) : ∃ hi : i < L.length, L[i].pr.1 = p ∧ look (L.map Wl.pr) p = some L[i].r := by
 unfold knI at h
 obtain ⟨hi, h1, h2⟩ := List.findIdx?_eq_some_iff_getElem.1 h
 have e : L[i].pr.1 = p := by simpa using h1
 refine ⟨hi, e, ?_⟩
 unfold look
 have hf : (L.map Wl.pr).find? (fun x => decide (x.1 = p)) = some L[i].pr := by
   rw [List.find?_eq_some_iff_getElem]
   refine ⟨by simpa using e, i, by simpa using hi, by simp, fun j hj => ?_⟩
   have := h2 j hj
   simpa using this
 rw [hf]
 rfl
/-- A will is kept. -/
def keepL (L : List Wl) (a : Wl) : List Wl := match knI L a.pr.1 with
 | some i => L.set i a
 | none => L ++ [a]
theorem keepL_pr {L : List Wl} {a : Wl} (hn : (L.map fun x => x.pr.1).Nodup) : (keepL L a).map Wl.pr = putW (L.map Wl.pr) a.pr.1 a.r := by
 unfold keepL putW
 cases hk : knI L a.pr.1 with
 | none =>
   have hx := look_none (knI_none hk)
   rw [if_neg (fun h => by obtain ⟨x, hx1, hx2⟩ := List.any_eq_true.1 h; exact hx x hx1 (of_decide_eq_true hx2))]
   simp [Wl.pr]
 | some i =>
   obtain ⟨hi, e, -⟩ := knI_some hk
   rw [if_pos (List.any_eq_true.2 ⟨L[i].pr, List.mem_map.2 ⟨_, List.getElem_mem hi, rfl⟩, decide_eq_true e⟩)]
   apply List.ext_getElem?
   intro j
   simp only [List.getElem?_map, List.getElem?_set]
   by_cases hij : i = j
   · subst hij
     rw [if_pos rfl, if_pos hi, List.getElem?_eq_getElem hi]
     show some a.pr = some (if L[i].pr.1 = a.pr.1 then (a.pr.1, a.r) else L[i].pr)
     rw [if_pos e]
     rfl
   · rw [if_neg hij]
     cases hj : L[j]? with
     | none => rfl
     | some b =>
       obtain ⟨hj1, rfl⟩ := List.getElem?_eq_some_iff.1 hj
       have hne : ¬ L[j].pr.1 = a.pr.1 := fun h => hij (nodup_inj hn (i := i) (j := j) (by simpa using hi) (by simpa using hj1) (by simp only [List.getElem_map]; exact e.trans h.symm))
       simp [hne]
/-- The cells of the document's search. -/
def dkL (S : Sk) (s to : Rf) (v : Value) : List Value :=
 [.int .i64 S.hd.ln, .int .i64 s.id, .int .i64 s.rk, .int .u64 s.kn, .int .i64 s.ln, .int .u64 s.bt, .int .i64 S.tr, .int .u64 S.tn, .int .i64 S.pt.id, .int .i64 S.pt.rk, .int .u64 S.pt.kn, .int .i64 S.pt.ln, .int .u64 S.pt.bt, .int .i64 S.wl, .int .u64 S.wb, .bool S.lk, .int .i64 to.id, .int .i64 to.rk, .int .u64 to.kn, .int .i64 to.ln, .int .u64 to.bt, v, .int .i64 S.n, .bool S.ov, .int .i64 S.e, .int .u64 0, .slice none 0 0, .slice none 0 0, .int .i64 S.rl.id, .int .i64 S.rl.rk, .int .u64 S.rl.kn, .int .i64 S.rl.ln, .int .u64 S.rl.bt, .int .i64 S.rr.id, .int .i64 S.rr.rk, .int .u64 S.rr.kn, .int .i64 S.rr.ln, .int .u64 S.rr.bt, .bool S.fd]
/-- It lies there. -/
structure DkAt (w : World) (d base : Nat) (S : Sk) (s to : Rf) (L : List Wl) (v : Value) : Prop where
 le : base ≤ d
 blk : IsB w d (dkL S s to v).toArray 105
 row : Rw w 179 13 v L.length (wls L)
 new : ∀ k, v.ownBlock = some k → base ≤ k
def Dk (w : World) (d base : Nat) (S : Sk) (s : Rf) (L : List Wl) : Prop := ∃ to v, (S.lk = true → to = S.ah) ∧ DkAt w d base S s to L v
/-- What a call of the document's search keeps: all but searches and wills behind base. -/
structure Kd (base : Nat) (w w' : World) : Prop where
 os : w'.os = w.os
 tape : w'.tape = w.tape
 output : w'.output = w.output
 size : w.heap.size ≤ w'.heap.size
 blk : ∀ k, k < w.heap.size → (k < base ∨ ∀ cs, ¬ IsB w k cs 105 ∧ ¬ IsB w k cs 179) → w'.heap[k]? = w.heap[k]?
theorem Kd.refl (base : Nat) (w : World) : Kd base w w := ⟨rfl, rfl, rfl, Nat.le_refl _, fun _ _ _ => rfl⟩
theorem Kd.tr {base : Nat} {a b c : World} (h : Kd base a b) (k : Kd base b c) : Kd base a c :=
 ⟨k.os.trans h.os, k.tape.trans h.tape, k.output.trans h.output, Nat.le_trans h.size k.size, fun j hj hx => by
   have e := h.blk j hj hx
   refine (k.blk j (Nat.lt_of_lt_of_le hj h.size) ?_).trans e
   rcases hx with hx | hx
   · exact Or.inl hx
   · refine Or.inr fun cs => ?_
     unfold IsB
     rw [e]
     exact hx cs⟩
theorem Kd.of_below {base : Nat} {a b : World} (h : Below a.heap.size a b) : Kd base a b := ⟨h.os, h.tape, h.output, h.size, fun j hj _ => h.block j hj⟩
theorem Kd.of_kp {base : Nat} {a b : World} {T : List Nat} (h : Kp T a b) (hT : ∀ k ∈ T, base ≤ k ∧ ∃ cs, IsB a k cs 105 ∨ IsB a k cs 179) : Kd base a b :=
 ⟨h.os, h.tape, h.output, h.size, fun j hj hx => h.block j hj fun hm => by
   obtain ⟨h1, cs, h2⟩ := hT j hm
   rcases hx with hx | hx
   · omega
   · exact h2.elim (hx cs).1 (hx cs).2⟩
theorem Kd.below {base : Nat} {a b : World} (h : Kd base a b) (hb : base ≤ a.heap.size) : Below base a b := ⟨h.os, h.tape, h.output, h.size, fun j hj => h.blk j (by omega) (Or.inl hj)⟩
theorem Kd.bel {base : Nat} {a b c : World} (h : Kd base a b) (k : Below b.heap.size b c) : Kd base a c := h.tr (Kd.of_below k)
theorem IsB.kd {base : Nat} {w w' : World} {b : Nat} {cs : Array Value} {t : TypeId} (h : IsB w b cs t) (k : Kd base w w') (h1 : t ≠ 105) (h2 : t ≠ 179) : IsB w' b cs t :=
 (k.blk b h.lt (Or.inr fun ds => ⟨fun J => by have := Option.some.inj (h.symm.trans J); injection this with _ e; exact h1 e, fun J => by have := Option.some.inj (h.symm.trans J); injection this with _ e; exact h2 e⟩)).trans h
theorem SkAt.kd {base : Nat} {w w' : World} {b m : Nat} {S : Sk} {ws : List (Pl × Rf)} (h : SkAt w b m S ws) (k : Kd base w w') : SkAt w' b m S ws :=
 ⟨h.blk.kd k (by decide) (by decide), h.map.kept (k.blk m h.map.lt (Or.inr fun cs => ⟨fun J => h.map.off J rfl, fun J => h.map.off J rfl⟩))⟩
theorem ne_ty {w : World} {a b : Nat} {x y : Array Value} {s t : TypeId} (h : IsB w a x s) (k : IsB w b y t) (hn : s ≠ t) : a ≠ b := by
 rintro rfl
 have := Option.some.inj (h.symm.trans k)
 injection this with _ h2
 exact hn h2
theorem DkAt.below {w w' : World} {d base : Nat} {S : Sk} {s to : Rf} {L : List Wl} {v : Value} (h : DkAt w d base S s to L v) (hb : Below w.heap.size w w') : DkAt w' d base S s to L v := ⟨h.le, h.blk.below hb, h.row.below hb, h.new⟩
theorem Dk.below {w w' : World} {d base : Nat} {S : Sk} {s : Rf} {L : List Wl} (h : Dk w d base S s L) (hb : Below w.heap.size w w') : Dk w' d base S s L := by
 obtain ⟨to, v, h1, h2⟩ := h
 exact ⟨to, v, h1, h2.below hb⟩
theorem Dk.kp {w w' : World} {d base b m : Nat} {S T : Sk} {s : Rf} {L : List Wl} {ws : List (Pl × Rf)} (h : Dk w d base S s L) (k : Kp [b, m] w w') (X : SkAt w b m T ws) : Dk w' d base S s L := by
 obtain ⟨to, v, h1, h2⟩ := h
 have hd : d ∉ [b, m] := by
   simp only [List.mem_cons, List.not_mem_nil, or_false, not_or]
   exact ⟨ne_ty h2.blk X.blk (by decide), X.map.off h2.blk⟩
 refine ⟨to, v, h1, h2.le, h2.blk.kp k hd, h2.row.kp k fun g hg hm => ?_, h2.new⟩
 obtain ⟨-, cur, hc⟩ := h2.row.lt g hg
 have J : IsB w g cur 179 := hc
 simp only [List.mem_cons, List.not_mem_nil, or_false] at hm
 rcases hm with rfl | rfl
 · exact ne_ty X.blk J (by decide) rfl
 · exact X.map.off J rfl
/-- One of its parts was stored. -/
theorem DkAt.turn {w w' : World} {d base : Nat} {S S' : Sk} {s to to' : Rf} {L : List Wl} {v : Value} (h : DkAt w d base S s to L v) (k : Kp [d] w w') (I : IsB w' d (dkL S' s to' v).toArray 105) : DkAt w' d base S' s to' L v ∧ Kd base w w' := by
 refine ⟨⟨h.le, I, h.row.kp k fun g hg hm => ?_, h.new⟩, Kd.of_kp k fun j hj => ?_⟩
 · obtain ⟨-, cur, hc⟩ := h.row.lt g hg
   have J : IsB w g cur 179 := hc
   simp only [List.mem_singleton] at hm
   subst hm
   exact ne_ty h.blk J (by decide) rfl
 · simp only [List.mem_singleton] at hj
   subst hj
   exact ⟨h.le, _, Or.inl h.blk⟩
theorem rlt_eq (x y : Rf) : klt (x.rk, x.kn) (y.rk, y.kn) = rlt x y := rfl

section
variable {w : World} {d : Nat} {S : Sk} {s to : Rf} {v : Value} (I : IsB w d (dkL S s to v).toArray 105)
include I
theorem q_at : (Instr.loadAt 29 (.pointer (some ⟨d, 8, none⟩))).run Tryz.prog w = .ok (.agg S.pt.cells) w := load_mid I 8 _ S.pt.cs _ rfl Tryz.underlying29 rfl (by kernel_rfl)
theorem q_atk : (Instr.loadAt 25 (.pointer (some ⟨d, 9, none⟩))).run Tryz.prog w = .ok (.agg #[.int .i64 (S.pt.rk), .int .u64 (S.pt.kn)]) w := load_mid I 9 _ [.int .i64 S.pt.rk, .int .u64 S.pt.kn] _ rfl Tryz.underlying25 rfl (by kernel_rfl)
theorem q_to : (Instr.loadAt 29 (.pointer (some ⟨d, 16, none⟩))).run Tryz.prog w = .ok (.agg to.cells) w := load_mid I 16 _ to.cs _ rfl Tryz.underlying29 rfl (by kernel_rfl)
theorem q_tok : (Instr.loadAt 25 (.pointer (some ⟨d, 17, none⟩))).run Tryz.prog w = .ok (.agg #[.int .i64 (to.rk), .int .u64 (to.kn)]) w := load_mid I 17 _ [.int .i64 to.rk, .int .u64 to.kn] _ rfl Tryz.underlying25 rfl (by kernel_rfl)
theorem q_rr : (Instr.loadAt 29 (.pointer (some ⟨d, 33, none⟩))).run Tryz.prog w = .ok (.agg S.rr.cells) w := load_mid I 33 _ S.rr.cs _ rfl Tryz.underlying29 rfl (by kernel_rfl)
theorem q_rrk : (Instr.loadAt 25 (.pointer (some ⟨d, 34, none⟩))).run Tryz.prog w = .ok (.agg #[.int .i64 (S.rr.rk), .int .u64 (S.rr.kn)]) w := load_mid I 34 _ [.int .i64 S.rr.rk, .int .u64 S.rr.kn] _ rfl Tryz.underlying25 rfl (by kernel_rfl)
theorem q_rl : (Instr.loadAt 29 (.pointer (some ⟨d, 28, none⟩))).run Tryz.prog w = .ok (.agg S.rl.cells) w := load_mid I 28 _ S.rl.cs _ rfl Tryz.underlying29 rfl (by kernel_rfl)
theorem q_rlk : (Instr.loadAt 25 (.pointer (some ⟨d, 29, none⟩))).run Tryz.prog w = .ok (.agg #[.int .i64 (S.rl.rk), .int .u64 (S.rl.kn)]) w := load_mid I 29 _ [.int .i64 S.rl.rk, .int .u64 S.rl.kn] _ rfl Tryz.underlying25 rfl (by kernel_rfl)
theorem q_tgt : (Instr.loadAt 25 (.pointer (some ⟨d, 6, none⟩))).run Tryz.prog w = .ok (.agg #[.int .i64 (S.tr), .int .u64 (S.tn)]) w := load_mid I 6 _ [.int .i64 S.tr, .int .u64 S.tn] _ rfl Tryz.underlying25 rfl (by kernel_rfl)
theorem q_w : (Instr.loadAt 27 (.pointer (some ⟨d, 13, none⟩))).run Tryz.prog w = .ok (.agg #[.int .i64 (S.wl), .int .u64 (S.wb)]) w := load_mid I 13 _ [.int .i64 S.wl, .int .u64 S.wb] _ rfl Tryz.underlying27 rfl (by kernel_rfl)
theorem q_res : (Instr.loadAt 51 (.pointer (some ⟨d, 24, none⟩))).run Tryz.prog w = .ok (.agg (rsL S.e S.rl S.rr S.fd).toArray) w := load_mid I 24 _ (rsL S.e S.rl S.rr S.fd) _ rfl Tryz.underlying51 rfl (by kernel_rfl)
theorem c_h : w.cell? ⟨d, 0, none⟩ = some (.int .i64 S.hd.ln) := I.cell 0
theorem c_wl : w.cell? ⟨d, 13, none⟩ = some (.int .i64 S.wl) := I.cell 13
theorem c_lk : w.cell? ⟨d, 15, none⟩ = some (.bool S.lk) := I.cell 15
theorem c_v : w.cell? ⟨d, 21, none⟩ = some (v) := I.cell 21
theorem c_n : w.cell? ⟨d, 22, none⟩ = some (.int .i64 S.n) := I.cell 22
theorem c_ov : w.cell? ⟨d, 23, none⟩ = some (.bool S.ov) := I.cell 23
theorem c_e : w.cell? ⟨d, 24, none⟩ = some (.int .i64 S.e) := I.cell 24
theorem u_at (r : Rf) : ∃ w', (Instr.storeAt 29 (.pointer (some ⟨d, 8, none⟩)) (.agg r.cells)).run Tryz.prog w = .ok () w' ∧ IsB w' d (dkL { S with pt := r } s to v).toArray 105 ∧ Kp [d] w w' :=
 store_mid I 8 _ r.cs (by simp [dkL, Rf.cs]) (by kernel_rfl) (by simp [Rf.cs, Value.oneCell'])
theorem u_to (r : Rf) : ∃ w', (Instr.storeAt 29 (.pointer (some ⟨d, 16, none⟩)) (.agg r.cells)).run Tryz.prog w = .ok () w' ∧ IsB w' d (dkL S s r v).toArray 105 ∧ Kp [d] w w' :=
 store_mid I 16 _ r.cs (by simp [dkL, Rf.cs]) (by kernel_rfl) (by simp [Rf.cs, Value.oneCell'])
theorem u_w (x y : Int) : ∃ w', (Instr.storeAt 27 (.pointer (some ⟨d, 13, none⟩)) (.agg #[.int .i64 (x), .int .u64 (y)])).run Tryz.prog w = .ok () w' ∧ IsB w' d (dkL { S with wl := x, wb := y } s to v).toArray 105 ∧ Kp [d] w w' :=
 store_mid I 13 _ [.int .i64 x, .int .u64 y] (by simp [dkL]) (by kernel_rfl) (by simp [Value.oneCell'])
theorem u_res (e : Int) (l r : Rf) (f : Bool) : ∃ w', (Instr.storeAt 51 (.pointer (some ⟨d, 24, none⟩)) (.agg (rsL e l r f).toArray)).run Tryz.prog w = .ok () w' ∧ IsB w' d (dkL { S with e := e, rl := l, rr := r, fd := f } s to v).toArray 105 ∧ Kp [d] w w' :=
 store_mid I 24 _ (rsL e l r f) (by simp [dkL, rsL]) (by kernel_rfl) (by simp [rsL, Value.oneCell'])
theorem u_lk (f : Bool) : ∃ w', (Instr.storeAt 4 (.pointer (some ⟨d, 15, none⟩)) (.bool f)).run Tryz.prog w = .ok () w' ∧ IsB w' d (dkL { S with lk := f } s to v).toArray 105 ∧ Kp [d] w w' :=
 store_one I 15 _ (.bool f) (by simp [dkL]) (by kernel_rfl) rfl rfl
theorem u_ov (f : Bool) : ∃ w', (Instr.storeAt 4 (.pointer (some ⟨d, 23, none⟩)) (.bool f)).run Tryz.prog w = .ok () w' ∧ IsB w' d (dkL { S with ov := f } s to v).toArray 105 ∧ Kp [d] w w' :=
 store_one I 23 _ (.bool f) (by simp [dkL]) (by kernel_rfl) rfl rfl
theorem u_n (k : Int) : ∃ w', (Instr.storeAt 3 (.pointer (some ⟨d, 22, none⟩)) (.int .i64 k)).run Tryz.prog w = .ok () w' ∧ IsB w' d (dkL { S with n := k } s to v).toArray 105 ∧ Kp [d] w w' :=
 store_one I 22 _ (.int .i64 k) (by simp [dkL]) (by kernel_rfl) rfl rfl
theorem u_v (a : Option Addr) (n c : Nat) : ∃ w', (Instr.storeAt 103 (.pointer (some ⟨d, 21, none⟩)) (.slice a n c)).run Tryz.prog w = .ok () w' ∧ IsB w' d (dkL S s to (.slice a n c)).toArray 105 ∧ Kp [d] w w' :=
 store_one I 21 _ (.slice a n c) (by simp [dkL]) (by kernel_rfl) rfl rfl
end

end Go.Proofs.YtokehogcenjefaaGreatDoor
