/- One, Owner, awake; both machines stand alike. -/
import Derived.Test.YtiobfohcgdgpbaaEC
import Derived.Test.YtiobfohcgdgpbaaEE
import Derived.Test.YtiobfohcgdgpbaaEJ
import Derived.Test.YtiobfohcgdgpbaaEI
namespace Go.Proofs.Ytiobfohcgdgpbaa
open Go.RowKit Go.Maps Go.ChangeMaps

theorem key_info : (Try.prog.info? 27).map (·.size) = some 2 := by kernel_rfl
theorem ret_key {fn : Func} {p : Tmp} (hf : fn.results = #[.cell p 27]) {Q : Ending → World → Prop} {tmps : Array Value} {w : World} {b : Nat} {cs : Array Value} (hs : cs.size = 2)
    (hp : tmps.getD p undef = .pointer (some ⟨b, 0, none⟩)) (I : IsB w b cs 27) (hQ : Q (.returned (.agg cs)) w) :
    bodyPost Try.prog fn Q .ret ⟨tmps, []⟩ w :=
  bodyPost_ret (results_cell_row hf tmps w b 27 cs (0, 0) _ hp I Try.underlying27 rfl (by rw [hs]; exact key_info)) rfl hQ
theorem ret_ref {fn : Func} {p : Tmp} (hf : fn.results = #[.cell p 29]) {Q : Ending → World → Prop} {tmps : Array Value} {w : World} {b : Nat} {cs : Array Value} (hs : cs.size = 5)
    (hp : tmps.getD p undef = .pointer (some ⟨b, 0, none⟩)) (I : IsB w b cs 29) (hQ : Q (.returned (.agg cs)) w) :
    bodyPost Try.prog fn Q .ret ⟨tmps, []⟩ w :=
  bodyPost_ret (results_cell_row hf tmps w b 29 cs (0, 0) _ hp I Try.underlying29 rfl (by rw [hs]; exact ref_info)) rfl hQ

set_option maxHeartbeats 2000000 in
set_option maxRecDepth 100000 in
theorem lat_any (n : Int) (w : World) : Calls Try.prog 42 #[.int .u64 n] w fun e w' => e = .returned (.agg #[.int .i64 (2), .int .u64 (n)]) ∧ Below w.heap.size w w' := by
  have B := hide ((Below.refl w.heap.size w).alloc (Nat.le_refl _) (.cells #[.int .i64 2, .int .u64 n] 27))
  have I := hide (IsB.new w #[.int .i64 2, .int .u64 n] 27)
  go_enter Try.func42, Try.ntmps42
  go_wp2
  refine ret_key (p := 2) (b := w.heap.size) Try.results42 rfl rfl I.out ?_
  exact ⟨rfl, B.out⟩

def oneR (n : Int) : Rf := ⟨n, 2, n, 0, 0⟩
theorem ref_info2 : (Try.prog.info? 29).map (·.size) = some 5 := by kernel_rfl
theorem ret_ref2 {fn : Func} {p : Tmp} (hf : fn.results = #[.cell p 29]) {Q : Ending → World → Prop} {tmps : Array Value} {w : World} {b : Nat} {cs : Array Value} (hs : cs.size = 5)
    (hp : tmps.getD p undef = .pointer (some ⟨b, 0, none⟩)) (I : IsB w b cs 29) (hQ : Q (.returned (.agg cs)) w) :
    bodyPost Try.prog fn Q .ret ⟨tmps, []⟩ w :=
  bodyPost_ret (results_cell_row hf tmps w b 29 cs (0, 0) _ hp I Try.underlying29 rfl (by rw [hs]; exact ref_info2)) rfl hQ
theorem own_info : (Try.prog.info? 31).map (·.size) = some 2 := by kernel_rfl
theorem ret_own {fn : Func} {p : Tmp} (hf : fn.results = #[.cell p 31]) {Q : Ending → World → Prop} {tmps : Array Value} {w : World} {b : Nat} {cs : Array Value} (hs : cs.size = 2)
    (hp : tmps.getD p undef = .pointer (some ⟨b, 0, none⟩)) (I : IsB w b cs 31) (hQ : Q (.returned (.agg cs)) w) :
    bodyPost Try.prog fn Q .ret ⟨tmps, []⟩ w :=
  bodyPost_ret (results_cell_row hf tmps w b 31 cs (0, 0) _ hp I Try.underlying31 rfl (by rw [hs]; exact own_info)) rfl hQ

set_option maxHeartbeats 2000000 in
set_option maxRecDepth 100000 in
theorem one_any (n : Int) (h0 : 0 ≤ n) (h1 : n < 1000) (w : World) : Calls Try.prog 26 #[.int .i64 n] w fun e w' => e = .returned (.agg #[.int .i64 n, .int .i64 2, .int .u64 n, .int .i64 0, .int .u64 0]) ∧ Below w.heap.size w w' := by
  have b1 := (Below.refl w.heap.size w).alloc (Nat.le_refl _) (.cells #[.int .i64 0, .int .i64 0, .int .u64 0, .int .i64 0, .int .u64 0] 29)
  have P := hide (IsB.new w #[.int .i64 0, .int .i64 0, .int .u64 0, .int .i64 0, .int .u64 0] 29)
  have hw : IntKind.u64.wrap n = n := wrap_u64 h0 (by omega)
  have B := hide b1
  clear b1
  go_enter Try.func26, Try.ntmps26
  go_wp2_with fail
  try rw [hw]
  refine (lat_any n _).mono ?_
  rintro e w2 ⟨rfl, hb⟩
  obtain ⟨w3, hs3, I3, k3⟩ := store_ref (P.out.below hb) (cs := (oneR n).cells) rfl rfl (by kernel_rfl)
  have HS3 := hide hs3
  have I4 := hide I3
  have B4 : Hid (Below w.heap.size w w3) := (B.out.trans (hb.mono B.out.size)).trans (k3.to_below (by have := B.out.size; have := hb.size; omega) (by simp))
  clear hs3 I3 k3 hb P B
  go_wp2_with (first | (focus ((with_reducible refine wpList_store_w ?_ 29 (.tmp 2) (.tmp 7) ?_ ?_ ?_ HS3.out ?_); rotate_left; rfl; rfl; rfl; rotate_left; rfl)))
  refine ret_ref2 (p := 2) (b := w.heap.size) Try.results26 rfl rfl I4.out ?_
  exact ⟨rfl, B4.out⟩

set_option maxHeartbeats 2000000 in
set_option maxRecDepth 100000 in
theorem owner_any (w : World) : Calls Try.prog 18 #[] w fun e w' => e = .returned (.agg #[.int .i64 1, .int .i64 1]) ∧ Below w.heap.size w w' := by
  have B := hide ((Below.refl w.heap.size w).alloc (Nat.le_refl _) (.cells #[.int .i64 1, .int .i64 1] 31))
  have I := hide (IsB.new w #[.int .i64 1, .int .i64 1] 31)
  go_enter Try.func18, Try.ntmps18
  go_wp2
  refine ret_own (p := 0) (b := w.heap.size) Try.results18 rfl rfl I.out ?_
  exact ⟨rfl, B.out⟩

/-- The answers that the law looks at itself. -/
def awL : List An := [⟨1, false, oneR 4, oneR 6, none, 0, 0⟩, ⟨1, false, zr, oneR 5, none, 0, 0⟩, ⟨1, false, oneR 4, oneR 6, none, 0, 0⟩, ⟨1, false, zr, zr, none, 0, 0⟩, ⟨1, false, zr, zr, none, 0, 0⟩, ⟨1, false, zr, zr, none, 0, 0⟩, ⟨1, false, zr, zr, none, 0, 0⟩]
def s0 : Us := newS 0 0 (oneR 5) 1 1
/-- Where it stands behind j of them. -/
def sJ (j : Nat) : Us := (awL.take j).foldl Us.tell s0
theorem sJ_ok : ∀ j, j ≤ 7 → 1 ≤ (sJ j).pl ∧ (sJ j).pl ≤ 10 ∧ ((sJ j).bh = 9 ∨ (sJ j).bh = 10) := by decide +kernel
theorem sJ_ask (j : Nat) (h : j < 7) : ∃ r q x y r1 r2 oa oo, (sJ j).step = stL 1 r q x y r1 r2 oa oo 0 zr zr := by
  have : j = 0 ∨ j = 1 ∨ j = 2 ∨ j = 3 ∨ j = 4 ∨ j = 5 ∨ j = 6 := by omega
  rcases this with rfl | rfl | rfl | rfl | rfl | rfl | rfl <;> exact ⟨_, _, _, _, _, _, _, _, rfl⟩
theorem sJ_next (j : Nat) (h : j < awL.length) : (sJ j).tell awL[j] = sJ (j + 1) := by
  unfold sJ
  rw [List.take_succ_eq_append_getElem h, List.foldl_append]
  rfl
theorem sJ_end : (sJ 7).step = stL 3 zr 0 0 0 zr zr 0 0 0 zr zr := by rfl
/-- The cells of a row of answers. -/
def ans : List An → List Value
  | [] => []
  | a :: l => anL a ++ ans l
theorem ans_get : ∀ (l : List An) (j : Nat) (hj : j < l.length) (k : Nat), k < 13 → (ans l)[j * 13 + k]? = (anL l[j])[k]?
  | a :: l, 0, _, k, hk => by
    rw [Nat.zero_mul, Nat.zero_add, ans, List.getElem?_append_left (by exact hk)]
    rfl
  | a :: l, j + 1, hj, k, hk => by
    have hj' : j < l.length := by simpa using hj
    rw [ans, List.getElem?_append_right (by show 13 ≤ _; omega), show (j + 1) * 13 + k - (anL a).length = j * 13 + k by show _ - 13 = _; omega, ans_get l j hj' k hk]
    rfl
theorem ld_row {w : World} {b : Nat} {l : List An} (I : IsB w b (ans l).toArray 58) (j : Nat) (hj : j < l.length) : (Instr.loadAt 58 (.pointer (some ⟨b, j * 13, none⟩))).run Try.prog w = .ok (.agg (anL l[j]).toArray) w := by
  refine run_loadAt_mid w b (j * 13) 58 (anL l[j]) _ (fun k v hk => ?_) Try.underlying58 rfl (by kernel_rfl)
  have hk2 : k < 13 := (List.getElem?_eq_some_iff.1 hk).1
  rw [I.cell, List.getElem?_toArray, ans_get l j hj k hk2]
  exact hk
theorem may0 : mayC 0 0 (oneR 5) 1 1 = true := by decide
theorem fld_kind (k : Int) (r : Rf) (q x y : Int) (r1 r2 : Rf) (oa oo e : Int) (l r3 : Rf) (w : World) : (Instr.field 53 (.agg (stL k r q x y r1 r2 oa oo e l r3).toArray) 0).run Try.prog w = .ok (.int .i64 k) w := by kernel_rfl
theorem store_step (w : World) (cs : Array Value) (hs : cs.size = 36) (h1 : cs.all (·.oneCell') = true) : (Instr.storeAt 53 (.pointer (some ⟨w.heap.size, 0, none⟩)) (.agg cs)).run Try.prog (w.alloc (.cells #[.int .i64 0, .int .i64 0, .int .i64 0, .int .u64 0, .int .i64 0, .int .u64 0, .int .i64 0, .int .i64 0, .int .u64 0, .int .i64 0, .int .i64 0, .int .u64 0, .int .i64 0, .int .u64 0, .int .i64 0, .int .i64 0, .int .u64 0, .int .i64 0, .int .u64 0, .int .i64 0, .int .i64 0, .int .i64 0, .int .u64 0, .slice none 0 0, .slice none 0 0, .int .i64 0, .int .i64 0, .int .u64 0, .int .i64 0, .int .u64 0, .int .i64 0, .int .i64 0, .int .u64 0, .int .i64 0, .int .u64 0, .bool false] 53)) = .ok () (w.alloc (.cells cs 53)) := run_storeAt_new w 53 _ cs (by rw [hs]; exact step_info) (by rw [hs]; rfl) h1

set_option maxHeartbeats 2000000 in
set_option maxRecDepth 100000 in
theorem awake_any (w : World) : Calls Try.prog 7 #[] w fun e w' => e = .returned (.bool true) ∧ Below w.heap.size w w' := by
  have B := hide (Below.refl w.heap.size w)
  go_enter Try.func7, Try.ntmps7
  go_wp2_with fail
  refine (one_any 5 (by decide) (by decide) w).mono ?_
  rintro e w1 ⟨rfl, hb⟩
  replace B := hide (B.out.trans (hb.mono B.out.size))
  clear hb
  go_wp2_with fail
  refine (owner_any w1).mono ?_
  rintro e w2 ⟨rfl, hb⟩
  replace B := hide (B.out.trans (hb.mono B.out.size))
  clear hb
  go_wp2_with fail
  refine (new_ok 0 0 (oneR 5) 1 1 (by decide) (by decide) may0 w2).mono ?_
  rintro e w3 ⟨b, rfl, X0, hle, hb⟩
  have X : Hid (UsAt w3 b s0) := X0
  have hlb : Hid (w.heap.size ≤ b) := Nat.le_trans B.out.size hle
  replace B := hide (B.out.trans (hb.mono B.out.size))
  clear hb X0 hle
  have pe := ptr_eq ⟨b, 0, none⟩ w3
  go_wp2_with fail
  refine (one_any 4 (by decide) (by decide) w3).mono ?_
  rintro e w4 ⟨rfl, hb⟩
  replace X := hide (X.out.below hb)
  replace B := hide (B.out.trans (hb.mono B.out.size))
  clear hb
  clear pe
  go_wp2_with fail
  refine (one_any 6 (by decide) (by decide) w4).mono ?_
  rintro e w5 ⟨rfl, hb⟩
  replace X := hide (X.out.below hb)
  replace B := hide (B.out.trans (hb.mono B.out.size))
  clear hb
  go_wp2_with fail
  refine (one_any 5 (by decide) (by decide) w5).mono ?_
  rintro e w6 ⟨rfl, hb⟩
  replace X := hide (X.out.below hb)
  replace B := hide (B.out.trans (hb.mono B.out.size))
  clear hb
  go_wp2_with fail
  refine (one_any 4 (by decide) (by decide) w6).mono ?_
  rintro e w7 ⟨rfl, hb⟩
  replace X := hide (X.out.below hb)
  replace B := hide (B.out.trans (hb.mono B.out.size))
  clear hb
  go_wp2_with fail
  refine (one_any 6 (by decide) (by decide) w7).mono ?_
  rintro e w8 ⟨rfl, hb⟩
  replace X := hide (X.out.below hb)
  replace B := hide (B.out.trans (hb.mono B.out.size))
  clear hb
  have b9 := (Below.refl w8.heap.size w8).alloc (Nat.le_refl _) (.cells #[.int .i64 1, .bool false, .int .i64 4, .int .i64 2, .int .u64 4, .int .i64 0, .int .u64 0, .int .i64 6, .int .i64 2, .int .u64 6, .int .i64 0, .int .u64 0, .slice none 0 0, .int .i64 1, .bool false, .int .i64 0, .int .i64 0, .int .u64 0, .int .i64 0, .int .u64 0, .int .i64 5, .int .i64 2, .int .u64 5, .int .i64 0, .int .u64 0, .slice none 0 0, .int .i64 1, .bool false, .int .i64 4, .int .i64 2, .int .u64 4, .int .i64 0, .int .u64 0, .int .i64 6, .int .i64 2, .int .u64 6, .int .i64 0, .int .u64 0, .slice none 0 0, .int .i64 1, .bool false, .int .i64 0, .int .i64 0, .int .u64 0, .int .i64 0, .int .u64 0, .int .i64 0, .int .i64 0, .int .u64 0, .int .i64 0, .int .u64 0, .slice none 0 0, .int .i64 1, .bool false, .int .i64 0, .int .i64 0, .int .u64 0, .int .i64 0, .int .u64 0, .int .i64 0, .int .i64 0, .int .u64 0, .int .i64 0, .int .u64 0, .slice none 0 0, .int .i64 1, .bool false, .int .i64 0, .int .i64 0, .int .u64 0, .int .i64 0, .int .u64 0, .int .i64 0, .int .i64 0, .int .u64 0, .int .i64 0, .int .u64 0, .slice none 0 0, .int .i64 1, .bool false, .int .i64 0, .int .i64 0, .int .u64 0, .int .i64 0, .int .u64 0, .int .i64 0, .int .i64 0, .int .u64 0, .int .i64 0, .int .u64 0, .slice none 0 0] 58)
  have AL0 := IsB.new w8 #[.int .i64 1, .bool false, .int .i64 4, .int .i64 2, .int .u64 4, .int .i64 0, .int .u64 0, .int .i64 6, .int .i64 2, .int .u64 6, .int .i64 0, .int .u64 0, .slice none 0 0, .int .i64 1, .bool false, .int .i64 0, .int .i64 0, .int .u64 0, .int .i64 0, .int .u64 0, .int .i64 5, .int .i64 2, .int .u64 5, .int .i64 0, .int .u64 0, .slice none 0 0, .int .i64 1, .bool false, .int .i64 4, .int .i64 2, .int .u64 4, .int .i64 0, .int .u64 0, .int .i64 6, .int .i64 2, .int .u64 6, .int .i64 0, .int .u64 0, .slice none 0 0, .int .i64 1, .bool false, .int .i64 0, .int .i64 0, .int .u64 0, .int .i64 0, .int .u64 0, .int .i64 0, .int .i64 0, .int .u64 0, .int .i64 0, .int .u64 0, .slice none 0 0, .int .i64 1, .bool false, .int .i64 0, .int .i64 0, .int .u64 0, .int .i64 0, .int .u64 0, .int .i64 0, .int .i64 0, .int .u64 0, .int .i64 0, .int .u64 0, .slice none 0 0, .int .i64 1, .bool false, .int .i64 0, .int .i64 0, .int .u64 0, .int .i64 0, .int .u64 0, .int .i64 0, .int .i64 0, .int .u64 0, .int .i64 0, .int .u64 0, .slice none 0 0, .int .i64 1, .bool false, .int .i64 0, .int .i64 0, .int .u64 0, .int .i64 0, .int .u64 0, .int .i64 0, .int .i64 0, .int .u64 0, .int .i64 0, .int .u64 0, .slice none 0 0] 58
  have AL : Hid (IsB (w8.alloc (.cells #[.int .i64 1, .bool false, .int .i64 4, .int .i64 2, .int .u64 4, .int .i64 0, .int .u64 0, .int .i64 6, .int .i64 2, .int .u64 6, .int .i64 0, .int .u64 0, .slice none 0 0, .int .i64 1, .bool false, .int .i64 0, .int .i64 0, .int .u64 0, .int .i64 0, .int .u64 0, .int .i64 5, .int .i64 2, .int .u64 5, .int .i64 0, .int .u64 0, .slice none 0 0, .int .i64 1, .bool false, .int .i64 4, .int .i64 2, .int .u64 4, .int .i64 0, .int .u64 0, .int .i64 6, .int .i64 2, .int .u64 6, .int .i64 0, .int .u64 0, .slice none 0 0, .int .i64 1, .bool false, .int .i64 0, .int .i64 0, .int .u64 0, .int .i64 0, .int .u64 0, .int .i64 0, .int .i64 0, .int .u64 0, .int .i64 0, .int .u64 0, .slice none 0 0, .int .i64 1, .bool false, .int .i64 0, .int .i64 0, .int .u64 0, .int .i64 0, .int .u64 0, .int .i64 0, .int .i64 0, .int .u64 0, .int .i64 0, .int .u64 0, .slice none 0 0, .int .i64 1, .bool false, .int .i64 0, .int .i64 0, .int .u64 0, .int .i64 0, .int .u64 0, .int .i64 0, .int .i64 0, .int .u64 0, .int .i64 0, .int .u64 0, .slice none 0 0, .int .i64 1, .bool false, .int .i64 0, .int .i64 0, .int .u64 0, .int .i64 0, .int .u64 0, .int .i64 0, .int .i64 0, .int .u64 0, .int .i64 0, .int .u64 0, .slice none 0 0] 58)) w8.heap.size (ans awL).toArray 58) := AL0
  replace X := hide (X.out.below b9)
  replace B := hide (B.out.trans (b9.mono B.out.size))
  clear b9 AL0
  go_wp2
  generalize (w8.alloc (.cells #[.int .i64 1, .bool false, .int .i64 4, .int .i64 2, .int .u64 4, .int .i64 0, .int .u64 0, .int .i64 6, .int .i64 2, .int .u64 6, .int .i64 0, .int .u64 0, .slice none 0 0, .int .i64 1, .bool false, .int .i64 0, .int .i64 0, .int .u64 0, .int .i64 0, .int .u64 0, .int .i64 5, .int .i64 2, .int .u64 5, .int .i64 0, .int .u64 0, .slice none 0 0, .int .i64 1, .bool false, .int .i64 4, .int .i64 2, .int .u64 4, .int .i64 0, .int .u64 0, .int .i64 6, .int .i64 2, .int .u64 6, .int .i64 0, .int .u64 0, .slice none 0 0, .int .i64 1, .bool false, .int .i64 0, .int .i64 0, .int .u64 0, .int .i64 0, .int .u64 0, .int .i64 0, .int .i64 0, .int .u64 0, .int .i64 0, .int .u64 0, .slice none 0 0, .int .i64 1, .bool false, .int .i64 0, .int .i64 0, .int .u64 0, .int .i64 0, .int .u64 0, .int .i64 0, .int .i64 0, .int .u64 0, .int .i64 0, .int .u64 0, .slice none 0 0, .int .i64 1, .bool false, .int .i64 0, .int .i64 0, .int .u64 0, .int .i64 0, .int .u64 0, .int .i64 0, .int .i64 0, .int .u64 0, .int .i64 0, .int .u64 0, .slice none 0 0, .int .i64 1, .bool false, .int .i64 0, .int .i64 0, .int .u64 0, .int .i64 0, .int .u64 0, .int .i64 0, .int .i64 0, .int .u64 0, .int .i64 0, .int .u64 0, .slice none 0 0] 58)) = W9 at *
  obtain ⟨H, hH⟩ : ∃ H, w8.heap.size = H := ⟨_, rfl⟩
  rw [hH] at AL ⊢
  clear hH
  go_loopw [4] (fun v4 wr => ∃ j : Nat, j ≤ 7 ∧ v4 = .int .i64 (j : Int) ∧ Hid (UsAt wr b (sJ j)) ∧ Hid (IsB wr H (ans awL).toArray 58) ∧ Hid (Below w.heap.size w wr)) (fun v4 _ => 7 - (intOf v4).toNat)
  case atStart => exact ⟨0, by omega, rfl, X, AL, B⟩
  case round =>
    clear X AL B
    obtain ⟨j, hj, rfl, X, AL, B⟩ := hrel
    obtain ⟨o1, o2, -⟩ := sJ_ok j hj
    by_cases hlt : j < 7
    rotate_left
    · obtain rfl : j = 7 := by omega
      have NX := next_any b (sJ 7) o1 o2 wr X.out
      rw [sJ_end] at NX
      replace NX := hide NX
      clear o1 o2 hlt hj
      go_wp2_with fail
      refine NX.out.mono ?_
      rintro e w9 ⟨rfl, hb⟩
      replace B := hide (B.out.trans (hb.mono B.out.size))
      clear hb NX X AL
      have b3 := (Below.refl w9.heap.size w9).alloc (Nat.le_refl _) (.cells (stL 3 zr 0 0 0 zr zr 0 0 0 zr zr).toArray 53)
      have SN := hide (store_step w9 (stL 3 zr 0 0 0 zr zr 0 0 0 zr zr).toArray rfl (by kernel_rfl))
      have IZ := IsB.new w9 (stL 3 zr 0 0 0 zr zr 0 0 0 zr zr).toArray 53
      replace B := hide (B.out.trans (b3.mono B.out.size))
      have z0 : (w9.alloc (.cells (stL 3 zr 0 0 0 zr zr 0 0 0 zr zr).toArray 53)).cell? ⟨w9.heap.size, 0, none⟩ = some (.int .i64 3) := IZ.cell 0
      have z21 : (w9.alloc (.cells (stL 3 zr 0 0 0 zr zr 0 0 0 zr zr).toArray 53)).cell? ⟨w9.heap.size, 21, none⟩ = some (.int .i64 0) := IZ.cell 21
      clear b3 IZ
      go_wp2_with (first | (focus ((with_reducible refine wpList_store_w ?_ 53 (.tmp 5) (.tmp 49) ?_ ?_ ?_ SN.out ?_); rotate_left; rfl; rfl; rfl; rotate_left; rfl)))
      go_ret
      exact ⟨rfl, B.out⟩
    have i1 : (j : Int) < 7 := by omega
    have i2 : decide ((j : Int) < 7) = true := decide_eq_true i1
    obtain ⟨r, q, x, y, r1, r2, oa, oo, hst⟩ := sJ_ask j hlt
    have NX := next_any b (sJ j) o1 o2 wr X.out
    rw [hst] at NX
    replace NX := hide NX
    clear hst
    go_wp2_with fail
    refine NX.out.mono ?_
    rintro e w1' ⟨rfl, hb⟩
    replace X := hide (X.out.below hb)
    replace AL := hide (AL.out.below hb)
    replace B := hide (B.out.trans (hb.mono B.out.size))
    clear hb NX
    have FK := fld_kind 1 r q x y r1 r2 oa oo 0 zr zr w1'
    have LA := hide (ld_row AL.out j hlt)
    have CT := tell_any b (sJ j) awL[j] (sJ_ok j hj) w1' X.out
    rw [sJ_next j hlt] at CT
    replace CT := hide CT
    go_wp2_with (first | (focus ((with_reducible refine wpList_load_w ?_ 58 (.tmp 45) ?_ ?_ LA.out ?_); rotate_left; rfl; rfl; rotate_left; rfl)))
    refine CT.out.mono ?_
    rintro e w2' ⟨rfl, X6, K6⟩
    have hn : H ≠ b := fun e => IsB.ne_t AL.out X.out (by decide) e
    replace AL := hide (AL.out.kp K6 (by simpa using hn))
    replace B := hide (B.out.trans (K6.to_below (by have := B.out.size; omega) (by simpa using hlb.out)))
    replace X := hide X6
    clear X6 K6 CT hn LA FK
    go_wp2
    exact ⟨⟨j + 1, by omega, by simp, X, AL, B⟩, by simp [intOf]; omega⟩

/-- The document's stands as the program's. -/
structure Sim (D S : Us) : Prop where
  eq : D = { S with bh := D.bh }
  b8 : S.pl = 8 → D.bh = S.bh
  b9 : S.pl ≠ 8 → S.pl ≠ 10 → S.bh = 9
  e0 : S.bh = 9 → S.pl ≠ 10 → S.e = 0
  ok : S.plok
theorem Sim.new (wl wb : Int) (me : Rf) (oa oo : Int) : Sim (newD wl wb me oa oo) (newS wl wb me oa oo) :=
  ⟨rfl, fun h => absurd (show (1 : Int) = 8 from h) (by decide), fun _ _ => rfl, fun _ _ => rfl, show (1 : Int) ≤ 1 by decide, show (1 : Int) ≤ 10 by decide, Or.inl rfl⟩
theorem Sim.step {D S : Us} (h : Sim D S) : D.step = S.step := by rw [h.eq]; rfl
theorem Sim.pl {D S : Us} (h : Sim D S) : D.pl = S.pl := by rw [h.eq]
theorem Sim.wake {D S : Us} (h : Sim D S) : Sim D.dwake S.wake := by
  unfold Us.dwake Us.wake
  rw [h.pl]
  by_cases hp : S.pl = 9
  · rw [if_pos hp, if_pos hp]
    have b9 := h.b9 (by omega) (by omega)
    have e0 := h.e0 b9 (by omega)
    exact ⟨by rw [h.eq], fun c => absurd (show (1 : Int) = 8 from c) (by decide), fun _ _ => b9, fun _ _ => e0, show (1 : Int) ≤ 1 by decide, show (1 : Int) ≤ 10 by decide, Or.inl b9⟩
  · rw [if_neg hp, if_neg hp]; exact h
/-- A place that is neither 8 nor the end. -/
theorem Sim.to {D S D' S' : Us} (h : Sim D S) (h8 : S.pl ≠ 8) (h10 : S.pl ≠ 10) (e : D' = { S' with bh := D'.bh }) (hb : S'.bh = S.bh) (he : S'.e = S.e) (n8 : S'.pl ≠ 8) (n1 : 1 ≤ S'.pl) (n10 : S'.pl ≤ 10) : Sim D' S' := by
  have b9 := h.b9 h8 h10
  have e0 := h.e0 b9 h10
  exact ⟨e, fun c => absurd c n8, fun _ _ => by rw [hb, b9], fun _ _ => by rw [he, e0], n1, n10, Or.inl (by rw [hb, b9])⟩
/-- The end. -/
theorem Sim.over {D' S' : Us} (e : D' = { S' with bh := D'.bh }) (hp : S'.pl = 10) (hb : S'.bh = 9 ∨ S'.bh = 10) : Sim D' S' :=
  ⟨e, fun c => by omega, fun _ c => absurd hp c, fun _ c => absurd hp c, by unfold Us.plok; rw [hp]; exact ⟨by decide, by decide, hb⟩⟩
/-- The left one is freed, then it waits. -/
theorem Sim.free9 {D' S' : Us} (e : D' = { S' with bh := D'.bh }) (hp : S'.pl = 8) (hb : S'.bh = 9) (hd : D'.bh = 9) (he : S'.e = 0) : Sim D' S' :=
  ⟨e, fun _ => by rw [hb, hd], fun c => absurd hp c, fun _ _ => he, by unfold Us.plok; rw [hp]; exact ⟨by decide, by decide, Or.inl hb⟩⟩
/-- The left one is freed, then it is over. -/
theorem Sim.free10 {D' S' : Us} (e : D' = { S' with bh := D'.bh }) (hp : S'.pl = 8) (hb : S'.bh = 10) (hd : D'.bh = 10) : Sim D' S' :=
  ⟨e, fun _ => by rw [hb, hd], fun c => absurd hp c, fun c => by omega, by unfold Us.plok; rw [hp]; exact ⟨by decide, by decide, Or.inr hb⟩⟩
theorem endE_1 {k : Int} (h : k ≠ 3) : endE k = 0 := if_neg h
theorem Sim.tell {D S : Us} (h : Sim D S) (a : An) : Sim (D.dtell a) (S.tell a) := by
  have hD := h.eq
  unfold Us.dtell Us.tell
  rw [h.pl]
  by_cases h1 : S.pl = 1
  · rw [if_pos h1, if_pos h1]
    have b9 := h.b9 (by omega) (by omega)
    have e0 := h.e0 b9 (by omega)
    have hme : D.me = S.me := by rw [hD]
    unfold Us.dread Us.hRead
    rw [hme]
    by_cases c1 : a.k = 1 ∧ klt (a.l.rk, a.l.kn) (S.me.rk, S.me.kn) = true
    · rw [if_pos c1, if_pos c1]
      exact h.to (by omega) (by omega) (by rw [hD]) rfl rfl (show (2 : Int) ≠ 8 by decide) (show (1 : Int) ≤ 2 by decide) (show (2 : Int) ≤ 10 by decide)
    rw [if_neg c1, if_neg c1]
    by_cases c2 : a.k = 2
    · rw [if_pos c2, if_pos (by rw [c2]; rfl), c2]
      exact Sim.over (by rw [hD]; simp [endE, e0]) rfl (Or.inl b9)
    rw [if_neg c2]
    by_cases c3 : a.k = 3
    · rw [if_pos c3, if_pos (by rw [c3]; rfl), c3]
      exact Sim.over (by rw [hD]; simp [endE]) rfl (Or.inl b9)
    rw [if_neg c3, if_neg (by unfold awB; simp [c2, c3])]
    exact h.to (by omega) (by omega) (by rw [hD]) rfl rfl (show (9 : Int) ≠ 8 by decide) (show (1 : Int) ≤ 9 by decide) (show (9 : Int) ≤ 10 by decide)
  rw [if_neg h1, if_neg h1]
  by_cases h2 : S.pl = 2
  · rw [if_pos h2, if_pos h2]
    have b9 := h.b9 (by omega) (by omega)
    have e0 := h.e0 b9 (by omega)
    have hme : D.me = S.me := by rw [hD]
    unfold Us.hLeft Us.dback
    rw [hme]
    by_cases c1 : a.k = 1
    · by_cases c2 : a.r = S.me
      · rw [if_pos ⟨c1, c2⟩, if_pos c1, if_pos c2]
        exact h.to (by omega) (by omega) (by rw [hD]) rfl rfl (show (3 : Int) ≠ 8 by decide) (show (1 : Int) ≤ 3 by decide) (show (3 : Int) ≤ 10 by decide)
      · rw [if_neg fun c => c2 c.2, if_pos c1, if_pos c1, if_neg c2]
        exact Sim.free9 (by rw [hD]; simp [e0]) rfl b9 rfl e0
    · rw [if_neg fun c => c1 c.1, if_neg c1, if_neg c1]
      exact h.to (by omega) (by omega) (by rw [hD]) rfl rfl (show (9 : Int) ≠ 8 by decide) (show (1 : Int) ≤ 9 by decide) (show (9 : Int) ≤ 10 by decide)
  rw [if_neg h2, if_neg h2]
  by_cases h3 : S.pl = 3
  · rw [if_pos h3, if_pos h3]
    have b9 := h.b9 (by omega) (by omega)
    have e0 := h.e0 b9 (by omega)
    have hme : D.me = S.me := by rw [hD]
    unfold Us.dlocked Us.hMe Us.dback
    rw [hme]
    by_cases c1 : a.k = 1
    · by_cases c2 : klt (S.me.rk, S.me.kn) (a.r.rk, a.r.kn) = true
      · rw [if_pos ⟨c1, c2⟩, if_pos c1, if_pos c2]
        exact h.to (by omega) (by omega) (by rw [hD]) rfl rfl (show (4 : Int) ≠ 8 by decide) (show (1 : Int) ≤ 4 by decide) (show (4 : Int) ≤ 10 by decide)
      · rw [if_neg fun c => c2 c.2, if_pos c1, if_pos c1, if_neg c2]
        exact h.to (by omega) (by omega) (by rw [hD]) rfl rfl (show (7 : Int) ≠ 8 by decide) (show (1 : Int) ≤ 7 by decide) (show (7 : Int) ≤ 10 by decide)
    · rw [if_neg fun c => c1 c.1, if_neg c1, if_neg c1]
      by_cases c2 : a.k = 2
      · rw [if_pos c2, if_pos (by rw [c2]; rfl), c2]
        exact Sim.free10 (by rw [hD]; simp [endE]) rfl rfl rfl
      · rw [if_neg c2]
        by_cases c3 : a.k = 3
        · rw [if_pos c3, if_pos (by rw [c3]; rfl), c3]
          exact Sim.free10 (by rw [hD]; simp [endE]) rfl rfl rfl
        · rw [if_neg c3, if_neg (by unfold awB; simp [c2, c3])]
          exact Sim.free9 (by rw [hD]; simp [e0]) rfl b9 rfl e0
  rw [if_neg h3, if_neg h3]
  by_cases h4 : S.pl = 4
  · rw [if_pos h4, if_pos h4]
    have hrg : D.rg = S.rg := by rw [hD]
    unfold Us.hRt
    rw [hrg]
    by_cases c1 : a.k = 1 ∨ a.k = 3 ∧ a.r = S.rg
    · rw [if_pos c1, if_pos c1]
      exact h.to (by omega) (by omega) (by rw [hD]) rfl rfl (show (5 : Int) ≠ 8 by decide) (show (1 : Int) ≤ 5 by decide) (show (5 : Int) ≤ 10 by decide)
    · rw [if_neg c1, if_neg c1]
      exact h.to (by omega) (by omega) (by rw [hD]) rfl rfl (show (7 : Int) ≠ 8 by decide) (show (1 : Int) ≤ 7 by decide) (show (7 : Int) ≤ 10 by decide)
  rw [if_neg h4, if_neg h4]
  by_cases h5 : S.pl = 5
  · rw [if_pos h5, if_pos h5]
    exact h.to (by omega) (by omega) (by rw [hD]) rfl rfl (show (6 : Int) ≠ 8 by decide) (show (1 : Int) ≤ 6 by decide) (show (6 : Int) ≤ 10 by decide)
  rw [if_neg h5, if_neg h5]
  by_cases h6 : S.pl = 6
  · rw [if_pos h6, if_pos h6]
    unfold Us.dback endE
    exact Sim.free10 (by rw [hD]) rfl rfl rfl
  rw [if_neg h6, if_neg h6]
  by_cases h7 : S.pl = 7
  · rw [if_pos h7, if_pos h7]
    have b9 := h.b9 (by omega) (by omega)
    have e0 := h.e0 b9 (by omega)
    unfold Us.dback
    exact Sim.free9 (by rw [hD]; simp [e0]) rfl b9 rfl e0
  rw [if_neg h7, if_neg h7]
  by_cases h8 : S.pl = 8
  · rw [if_pos h8, if_pos h8]
    have hb := h.b8 h8
    have ok := h.ok.2.2
    have e0 := h.e0
    rw [hb]
    rcases ok with k | k
    · rw [k]
      exact ⟨by rw [hD], fun c => absurd (show (9 : Int) = 8 from c) (by decide), fun _ _ => rfl, fun _ _ => e0 k (by omega), show (1 : Int) ≤ 9 by decide, show (9 : Int) ≤ 10 by decide, Or.inl rfl⟩
    · rw [k]
      exact Sim.over (by rw [hD]) rfl (Or.inr rfl)
  rw [if_neg h8, if_neg h8]
  exact h

end Go.Proofs.Ytiobfohcgdgpbaa
