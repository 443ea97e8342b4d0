/- Package graph: build. -/
import Derived.Test.YtfcmmchppcffmaaDoorGE
namespace Go.Proofs.YtfcmmchppcffmaaDoor
open Go.RowKit Go.Maps

theorem wrap_small (x : Int) (h0 : 0 ≤ x) (h1 : x < 9223372036854775808) : IntKind.i64.wrap x = x := by
  have h2 : x % 18446744073709551616 = x := Int.emod_eq_of_lt h0 (by omega)
  have h3 : ¬ (9223372036854775808 ≤ x) := by omega
  simp [IntKind.wrap, IntKind.bits, IntKind.signed, h2, h3]
theorem keyLt_trans {x y z : Rf} (h1 : keyLt x y) (h2 : keyLt y z) : keyLt x z := by unfold keyLt at *; omega
theorem keyLt_asymm {x y : Rf} (h1 : keyLt x y) (h2 : keyLt y x) : False := by unfold keyLt at *; omega
/-- Do members make a graph of that height? -/
def okG (h : Int) (l : List Rf) : Prop := (0 ≤ h ∧ h ≤ 32) ∧ okF h l ∧ (l.map fun x => (x.rk, x.kn)).Nodup
instance (h : Int) (l : List Rf) : Decidable (okG h l) := by unfold okG; infer_instance
theorem sorted_keys {m : List Rf} (hs : m.Pairwise keyLt) : (m.map fun x => (x.rk, x.kn)).Nodup := by
  unfold List.Nodup
  rw [List.pairwise_map]
  refine hs.imp fun h e => ?_
  injection e with e1 e2
  unfold keyLt at h
  omega
theorem sorted_one {m n l : List Rf} (h1 : m.Perm l) (h2 : n.Perm l) (s1 : m.Pairwise keyLt) (s2 : n.Pairwise keyLt) : m = n :=
  List.Perm.eq_of_pairwise (le := keyLt) (fun _ _ _ _ a b => (keyLt_asymm a b).elim) s1 s2 (h1.trans h2.symm)
theorem sorted_all {m : List Rf} (hs : ∀ i j (hj : j < m.length) (hij : i < j), ltOf cfR m[j] m[i] = false) (hd : ∀ j (_ : 0 < j) (hj : j < m.length), ¬(m[j - 1].rk = m[j].rk ∧ m[j - 1].kn = m[j].kn)) : m.Pairwise keyLt := by
  rw [List.pairwise_iff_getElem]
  have step : ∀ j (h0 : 0 < j) (hj : j < m.length), keyLt m[j - 1] m[j] := fun j h0 hj => by
    have a := hs (j - 1) j hj (by omega)
    rw [cfR_lt] at a
    have a := of_decide_eq_false a
    have b := hd j h0 hj
    unfold keyLt at *
    omega
  intro i j hi hj hij
  obtain ⟨d, rfl⟩ : ∃ d, j = i + 1 + d := ⟨j - i - 1, by omega⟩
  clear hij
  induction d with
  | zero => exact step (i + 1) (by omega) hj
  | succ d ih =>
    have h1 := ih (by omega)
    have h2 := step (i + 1 + (d + 1)) (by omega) hj
    simp only [show i + 1 + (d + 1) - 1 = i + 1 + d by omega] at h2
    exact keyLt_trans h1 h2
theorem not_keys {m l : List Rf} (hp : m.Perm l) {j : Nat} (h0 : 0 < j) (hj : j < m.length) (he : m[j - 1].rk = m[j].rk ∧ m[j - 1].kn = m[j].kn) : ¬(l.map fun x => (x.rk, x.kn)).Nodup := fun hn => by
  have h1 : (m.map fun x => (x.rk, x.kn)).Nodup := ((hp.map _).nodup_iff).2 hn
  unfold List.Nodup at h1
  rw [List.pairwise_map, List.pairwise_iff_getElem] at h1
  exact h1 (j - 1) j (by omega) hj (by omega) (by rw [he.1, he.2])
theorem eqk (a b c d : Int) (w : World) : (binOp .eql 26 (.agg #[.int .i64 a, .int .u64 b]) (.agg #[.int .i64 c, .int .u64 d])).run Tryd.prog w = .ok (.bool (a == c && b == d)) w := by
  have u1 := Tryd.underlying23
  have a1 := Tryd.isAgg23
  have z1 := Tryd.sizeOf23
  have u2 := Tryd.underlying24
  have a2 := Tryd.isAgg24
  have z2 := Tryd.sizeOf24
  have hS : Tryd.prog.underlying 26 = some (.struct (Tryd.prog.fieldsOf 26)) := by kernel_rfl
  have hp : Tryd.prog.stoodInHeld 26 = false := by kernel_rfl
  rw [run_eql_struct, show (10000 : Nat) = 9999 + 1 from rfl, run_equalIn_agg w 9999 26 _ _ hS hp]
  simp only [Program.fieldsOf, Tryd.underlying26]
  go_simp
  by_cases h1 : a = c <;> by_cases h2 : b = d <;> simp [h1, h2]
theorem exec_bin {P : Program} {t t2 : TypeId} {k : BinOp} {x y : Operand} {oi : Oper} {ρ : Operand → Value} {xs ys : Array Value} {v : Value} {w : World} (hm : P.eqGuardType P.depth t = false) (hop : oi.op = .binOp k t x y t2) (hx : ρ x = .agg xs) (hy : ρ y = .agg ys) (hl : (binOp k t (.agg xs) (.agg ys)).run P w = .ok v w) : (execOp ρ oi).run P w = .ok (.value v) w := by
  simp [execOp, hop, hx, hy, run_eqGuard_agg w k t x y xs ys hm, hl, Result.andThen]
theorem kguard : Tryd.prog.eqGuardType Tryd.prog.depth 26 = false := by kernel_rfl
theorem gr_info : (Tryd.prog.info? 55).map (·.size) = some 12 := by kernel_rfl
theorem ret_gt {fn : Func} {p u : Tmp} (hf : fn.results = #[.cell p 55, .tmp u]) {Q : Ending → World → Prop} {tmps : Array Value} {w : World} {b : Nat} {cs : Array Value} {v : Value} (hs : cs.size = 12)
    (hp : tmps.getD p undef = .pointer (some ⟨b, 0, none⟩)) (hu : tmps.getD u undef = v) (I : IsB w b cs 55) (hQ : Q (.returned (.tuple #[.agg cs, v])) w) :
    bodyPost Tryd.prog fn Q .ret ⟨tmps, []⟩ w := by
  refine bodyPost_ret ?_ rfl hQ
  rw [results_cell_tmp hf, hp, hu]
  have h := run_loadVar_row (P := Tryd.prog) w b 55 55 cs (0, 0) _ I Tryd.underlying55 rfl (by rw [hs]; exact gr_info)
  simp [asAddr, h, Result.andThen]
/-- A graph's cells. -/
def gcs (h : Int) (a : Option Addr) (n c : Nat) : Array Value := #[.int .i64 h, .int .i64 0, .int .i64 1, .int .u64 0, .int .i64 h, .int .u64 0, .int .i64 1, .int .i64 3, .int .u64 0, .int .i64 h, .int .u64 0, .slice a n c]
def gz : Array Value := #[.int .i64 0, .int .i64 0, .int .i64 0, .int .u64 0, .int .i64 0, .int .u64 0, .int .i64 0, .int .i64 0, .int .u64 0, .int .i64 0, .int .u64 0, .slice none 0 0]

set_option maxHeartbeats 4000000 in
set_option maxRecDepth 100000 in
theorem build_any (h : Int) (v : Value) (l : List Rf) (hl : l.length ≤ 1000) (hbt : ∀ x ∈ l, 0 ≤ x.bt) (w : World) (hs : RSl w v l) :
    Calls Tryd.prog 17 #[.int .i64 h, v] w fun e w' => ((okG h l ∧ ∃ a c, ∃ m : List Rf, e = .returned (.tuple #[.agg (gcs h a m.length c), .int .i64 0]) ∧ m.Perm l ∧ m.Pairwise keyLt ∧ Rw w' 30 5 (.slice a m.length c) m.length (rfs m) ∧ (∀ k, (Value.slice a m.length c).ownBlock = some k → w.heap.size ≤ k)) ∨ (¬okG h l ∧ e = .returned (.tuple #[.agg gz, .int .i64 110]))) ∧ Below w.heap.size w w' := by
  have mixed : Tryd.prog.follows .mixedOrders = true := by kernel_rfl
  obtain ⟨va, vc, rfl, -, -⟩ := hs.shape
  have HS := hide hs
  have HBT := hide hbt
  have Gb := hide (IsB.new w #[.int .i64 0, .int .i64 0, .int .i64 0, .int .u64 0, .int .i64 0, .int .u64 0, .int .i64 0, .int .i64 0, .int .u64 0, .int .i64 0, .int .u64 0, .slice none 0 0] 55)
  have B := hide ((Below.refl w.heap.size w).alloc (Nat.le_refl _) (.cells #[.int .i64 0, .int .i64 0, .int .i64 0, .int .u64 0, .int .i64 0, .int .u64 0, .int .i64 0, .int .i64 0, .int .u64 0, .int .i64 0, .int .u64 0, .slice none 0 0] 55))
  clear hs hbt
  generalize hn : l.length = n at *
  replace hn := hide hn
  by_cases hh : 0 ≤ h ∧ h ≤ 32
  rotate_left
  · have HN : Hid (¬okG h l) := fun ho => hh ho.1
    have hb2 : h < 0 ∨ 32 < h := by omega
    go_enter Tryd.func17, Tryd.ntmps17
    go_wp2_with fail
    generalize (w.alloc (.cells #[.int .i64 0, .int .i64 0, .int .i64 0, .int .u64 0, .int .i64 0, .int .u64 0, .int .i64 0, .int .i64 0, .int .u64 0, .int .i64 0, .int .u64 0, .slice none 0 0] 55)) = W1 at *
    generalize hH : w.heap.size = H at Gb ⊢
    replace hH := hide hH
    refine (head_bad h hb2 W1).mono ?_
    rintro e w2 ⟨rfl, hb⟩
    replace Gb := hide (Gb.out.below hb)
    replace B := hide (B.out.trans (hb.mono B.out.size))
    clear hb
    have b3 := (Below.refl w2.heap.size w2).alloc (Nat.le_refl _) (.cells #[.int .i64 0, .int .i64 0, .int .u64 0, .int .i64 0, .int .u64 0] 30)
    replace Gb := hide (Gb.out.below b3)
    replace B := hide (B.out.trans (b3.mono B.out.size))
    clear b3
    go_wp2_with fail
    generalize w2.alloc (.cells #[.int .i64 0, .int .i64 0, .int .u64 0, .int .i64 0, .int .u64 0] 30) = W3 at *
    refine (tail_bad h hb2 W3).mono ?_
    rintro e w4 ⟨rfl, hb⟩
    replace Gb := hide (Gb.out.below hb)
    replace B := hide (B.out.trans (hb.mono B.out.size))
    clear hb
    have b3 := (Below.refl w4.heap.size w4).alloc (Nat.le_refl _) (.cells #[.int .i64 0, .int .i64 0, .int .u64 0, .int .i64 0, .int .u64 0] 30)
    replace Gb := hide (Gb.out.below b3)
    replace B := hide (B.out.trans (b3.mono B.out.size))
    clear b3
    have gz0 : (w4.alloc (.cells #[.int .i64 0, .int .i64 0, .int .u64 0, .int .i64 0, .int .u64 0] 30)).frozen? ⟨H, 0, none⟩ = false := Gb.out.free 0
    have gc0 : (w4.alloc (.cells #[.int .i64 0, .int .i64 0, .int .u64 0, .int .i64 0, .int .u64 0] 30)).cell? ⟨H, 0, none⟩ = some (.int .i64 0) := Gb.out.cell 0
    have gz1 : (w4.alloc (.cells #[.int .i64 0, .int .i64 0, .int .u64 0, .int .i64 0, .int .u64 0] 30)).frozen? ⟨H, 1, none⟩ = false := Gb.out.free 1
    have gc1 : (w4.alloc (.cells #[.int .i64 0, .int .i64 0, .int .u64 0, .int .i64 0, .int .u64 0] 30)).cell? ⟨H, 1, none⟩ = some (.int .i64 0) := Gb.out.cell 1
    have gz2 : (w4.alloc (.cells #[.int .i64 0, .int .i64 0, .int .u64 0, .int .i64 0, .int .u64 0] 30)).frozen? ⟨H, 2, none⟩ = false := Gb.out.free 2
    have gc2 : (w4.alloc (.cells #[.int .i64 0, .int .i64 0, .int .u64 0, .int .i64 0, .int .u64 0] 30)).cell? ⟨H, 2, none⟩ = some (.int .i64 0) := Gb.out.cell 2
    have gz3 : (w4.alloc (.cells #[.int .i64 0, .int .i64 0, .int .u64 0, .int .i64 0, .int .u64 0] 30)).frozen? ⟨H, 3, none⟩ = false := Gb.out.free 3
    have gc3 : (w4.alloc (.cells #[.int .i64 0, .int .i64 0, .int .u64 0, .int .i64 0, .int .u64 0] 30)).cell? ⟨H, 3, none⟩ = some (.int .u64 0) := Gb.out.cell 3
    have gz4 : (w4.alloc (.cells #[.int .i64 0, .int .i64 0, .int .u64 0, .int .i64 0, .int .u64 0] 30)).frozen? ⟨H, 4, none⟩ = false := Gb.out.free 4
    have gc4 : (w4.alloc (.cells #[.int .i64 0, .int .i64 0, .int .u64 0, .int .i64 0, .int .u64 0] 30)).cell? ⟨H, 4, none⟩ = some (.int .i64 0) := Gb.out.cell 4
    have gz5 : (w4.alloc (.cells #[.int .i64 0, .int .i64 0, .int .u64 0, .int .i64 0, .int .u64 0] 30)).frozen? ⟨H, 5, none⟩ = false := Gb.out.free 5
    have gc5 : (w4.alloc (.cells #[.int .i64 0, .int .i64 0, .int .u64 0, .int .i64 0, .int .u64 0] 30)).cell? ⟨H, 5, none⟩ = some (.int .u64 0) := Gb.out.cell 5
    have gz6 : (w4.alloc (.cells #[.int .i64 0, .int .i64 0, .int .u64 0, .int .i64 0, .int .u64 0] 30)).frozen? ⟨H, 6, none⟩ = false := Gb.out.free 6
    have gc6 : (w4.alloc (.cells #[.int .i64 0, .int .i64 0, .int .u64 0, .int .i64 0, .int .u64 0] 30)).cell? ⟨H, 6, none⟩ = some (.int .i64 0) := Gb.out.cell 6
    have gz7 : (w4.alloc (.cells #[.int .i64 0, .int .i64 0, .int .u64 0, .int .i64 0, .int .u64 0] 30)).frozen? ⟨H, 7, none⟩ = false := Gb.out.free 7
    have gc7 : (w4.alloc (.cells #[.int .i64 0, .int .i64 0, .int .u64 0, .int .i64 0, .int .u64 0] 30)).cell? ⟨H, 7, none⟩ = some (.int .i64 0) := Gb.out.cell 7
    have gz8 : (w4.alloc (.cells #[.int .i64 0, .int .i64 0, .int .u64 0, .int .i64 0, .int .u64 0] 30)).frozen? ⟨H, 8, none⟩ = false := Gb.out.free 8
    have gc8 : (w4.alloc (.cells #[.int .i64 0, .int .i64 0, .int .u64 0, .int .i64 0, .int .u64 0] 30)).cell? ⟨H, 8, none⟩ = some (.int .u64 0) := Gb.out.cell 8
    have gz9 : (w4.alloc (.cells #[.int .i64 0, .int .i64 0, .int .u64 0, .int .i64 0, .int .u64 0] 30)).frozen? ⟨H, 9, none⟩ = false := Gb.out.free 9
    have gc9 : (w4.alloc (.cells #[.int .i64 0, .int .i64 0, .int .u64 0, .int .i64 0, .int .u64 0] 30)).cell? ⟨H, 9, none⟩ = some (.int .i64 0) := Gb.out.cell 9
    have gz10 : (w4.alloc (.cells #[.int .i64 0, .int .i64 0, .int .u64 0, .int .i64 0, .int .u64 0] 30)).frozen? ⟨H, 10, none⟩ = false := Gb.out.free 10
    have gc10 : (w4.alloc (.cells #[.int .i64 0, .int .i64 0, .int .u64 0, .int .i64 0, .int .u64 0] 30)).cell? ⟨H, 10, none⟩ = some (.int .u64 0) := Gb.out.cell 10
    have gz11 : (w4.alloc (.cells #[.int .i64 0, .int .i64 0, .int .u64 0, .int .i64 0, .int .u64 0] 30)).frozen? ⟨H, 11, none⟩ = false := Gb.out.free 11
    have gc11 : (w4.alloc (.cells #[.int .i64 0, .int .i64 0, .int .u64 0, .int .i64 0, .int .u64 0] 30)).cell? ⟨H, 11, none⟩ = some (.slice none 0 0) := Gb.out.cell 11
    have fl := Gb.out.lt
    go_wp2
    clear gz0 gc0 gz1 gc1 gz2 gc2 gz3 gc3 gz4 gc4 gz5 gc5 gz6 gc6 gz7 gc7 gz8 gc8 gz9 gc9 gz10 gc10 gz11 gc11
    generalize (w4.alloc (.cells #[.int .i64 0, .int .i64 0, .int .u64 0, .int .i64 0, .int .u64 0] 30)) = W5 at *
    have hW : ((((((((((((W5.setCell ⟨H, 0, none⟩ (.int .i64 0)).setCell ⟨H, 1, none⟩ (.int .i64 0)).setCell ⟨H, 2, none⟩ (.int .i64 0)).setCell ⟨H, 3, none⟩ (.int .u64 0)).setCell ⟨H, 4, none⟩ (.int .i64 0)).setCell ⟨H, 5, none⟩ (.int .u64 0)).setCell ⟨H, 6, none⟩ (.int .i64 0)).setCell ⟨H, 7, none⟩ (.int .i64 0)).setCell ⟨H, 8, none⟩ (.int .u64 0)).setCell ⟨H, 9, none⟩ (.int .i64 0)).setCell ⟨H, 10, none⟩ (.int .u64 0)).setCell ⟨H, 11, none⟩ (.slice none 0 0)) = putCells W5 (H) 0 [.int .i64 0, .int .i64 0, .int .i64 0, .int .u64 0, .int .i64 0, .int .u64 0, .int .i64 0, .int .i64 0, .int .u64 0, .int .i64 0, .int .u64 0, .slice none 0 0] := rfl
    rw [hW]
    clear hW
    have F9 := putCells_is (cs := [.int .i64 0, .int .i64 0, .int .i64 0, .int .u64 0, .int .i64 0, .int .u64 0, .int .i64 0, .int .i64 0, .int .u64 0, .int .i64 0, .int .u64 0, .slice none 0 0]) Gb.out [.int .i64 0, .int .i64 0, .int .i64 0, .int .u64 0, .int .i64 0, .int .u64 0, .int .i64 0, .int .i64 0, .int .u64 0, .int .i64 0, .int .u64 0, .slice none 0 0] rfl
    have k9 := putCells_kp (H) [.int .i64 0, .int .i64 0, .int .i64 0, .int .u64 0, .int .i64 0, .int .u64 0, .int .i64 0, .int .i64 0, .int .u64 0, .int .i64 0, .int .u64 0, .slice none 0 0] W5 0
    refine ret_gt (p := 4) (u := 5) (b := H) Tryd.results17 rfl rfl rfl F9 ?_
    exact ⟨Or.inr ⟨HN.out, rfl⟩, (Kp.of_below (S := []) B.out).trans k9 (fun j hj => by simp at hj; right; rw [hj, hH.out]; exact Nat.le_refl _) |>.to_below (Nat.le_refl _) (by simp)⟩
  go_enter Tryd.func17, Tryd.ntmps17
  go_wp2_with fail
  generalize (w.alloc (.cells #[.int .i64 0, .int .i64 0, .int .i64 0, .int .u64 0, .int .i64 0, .int .u64 0, .int .i64 0, .int .i64 0, .int .u64 0, .int .i64 0, .int .u64 0, .slice none 0 0] 55)) = W1 at *
  generalize hH : w.heap.size = H at Gb ⊢
  replace hH := hide hH
  refine (head_ok h hh.1 hh.2 W1).mono ?_
  rintro e w2 ⟨rfl, hb⟩
  replace Gb := hide (Gb.out.below hb)
  replace B := hide (B.out.trans (hb.mono B.out.size))
  clear hb
  have b3 := (Below.refl w2.heap.size w2).alloc (Nat.le_refl _) (.cells #[.int .i64 0, .int .i64 1, .int .u64 0, .int .i64 h, .int .u64 0] 30)
  have Ab := hide (IsB.new w2 #[.int .i64 0, .int .i64 1, .int .u64 0, .int .i64 h, .int .u64 0] 30)
  replace Gb := hide (Gb.out.below b3)
  replace B := hide (B.out.trans (b3.mono B.out.size))
  clear b3
  go_wp2_with fail
  generalize w2.alloc (.cells #[.int .i64 0, .int .i64 1, .int .u64 0, .int .i64 h, .int .u64 0] 30) = W3 at *
  generalize w2.heap.size = HA at Ab ⊢
  refine (tail_ok h hh.1 hh.2 W3).mono ?_
  rintro e w4 ⟨rfl, hb⟩
  replace Gb := hide (Gb.out.below hb)
  replace Ab := hide (Ab.out.below hb)
  replace B := hide (B.out.trans (hb.mono B.out.size))
  clear hb
  have b3 := (Below.refl w4.heap.size w4).alloc (Nat.le_refl _) (.cells #[.int .i64 1, .int .i64 3, .int .u64 0, .int .i64 h, .int .u64 0] 30)
  have Tb := hide (IsB.new w4 #[.int .i64 1, .int .i64 3, .int .u64 0, .int .i64 h, .int .u64 0] 30)
  replace Gb := hide (Gb.out.below b3)
  replace Ab := hide (Ab.out.below b3)
  replace B := hide (B.out.trans (b3.mono B.out.size))
  clear b3
  go_wp2_with fail
  generalize w4.alloc (.cells #[.int .i64 1, .int .i64 3, .int .u64 0, .int .i64 h, .int .u64 0] 30) = W5 at *
  generalize w4.heap.size = HT at Tb ⊢
  have FT := fit_any h (.slice va l.length vc) l (by have := hn.out; omega) HBT.out W5 (by have := HS.out.below B.out; rw [hn.out]; exact this)
  rw [hn.out] at FT
  refine FT.mono ?_
  clear FT
  rintro e w6 ⟨rfl, hb⟩
  replace Gb := hide (Gb.out.below hb)
  replace Ab := hide (Ab.out.below hb)
  replace Tb := hide (Tb.out.below hb)
  replace B := hide (B.out.trans (hb.mono B.out.size))
  clear hb
  cases hf : fitB h l with
  | false =>
    have HN : Hid (¬okG h l) := fun ho => by
      unfold fitB at hf
      exact (of_decide_eq_false hf) ho.2.1
    clear hf
    have gz0 : w6.frozen? ⟨H, 0, none⟩ = false := Gb.out.free 0
    have gc0 : w6.cell? ⟨H, 0, none⟩ = some (.int .i64 0) := Gb.out.cell 0
    have gz1 : w6.frozen? ⟨H, 1, none⟩ = false := Gb.out.free 1
    have gc1 : w6.cell? ⟨H, 1, none⟩ = some (.int .i64 0) := Gb.out.cell 1
    have gz2 : w6.frozen? ⟨H, 2, none⟩ = false := Gb.out.free 2
    have gc2 : w6.cell? ⟨H, 2, none⟩ = some (.int .i64 0) := Gb.out.cell 2
    have gz3 : w6.frozen? ⟨H, 3, none⟩ = false := Gb.out.free 3
    have gc3 : w6.cell? ⟨H, 3, none⟩ = some (.int .u64 0) := Gb.out.cell 3
    have gz4 : w6.frozen? ⟨H, 4, none⟩ = false := Gb.out.free 4
    have gc4 : w6.cell? ⟨H, 4, none⟩ = some (.int .i64 0) := Gb.out.cell 4
    have gz5 : w6.frozen? ⟨H, 5, none⟩ = false := Gb.out.free 5
    have gc5 : w6.cell? ⟨H, 5, none⟩ = some (.int .u64 0) := Gb.out.cell 5
    have gz6 : w6.frozen? ⟨H, 6, none⟩ = false := Gb.out.free 6
    have gc6 : w6.cell? ⟨H, 6, none⟩ = some (.int .i64 0) := Gb.out.cell 6
    have gz7 : w6.frozen? ⟨H, 7, none⟩ = false := Gb.out.free 7
    have gc7 : w6.cell? ⟨H, 7, none⟩ = some (.int .i64 0) := Gb.out.cell 7
    have gz8 : w6.frozen? ⟨H, 8, none⟩ = false := Gb.out.free 8
    have gc8 : w6.cell? ⟨H, 8, none⟩ = some (.int .u64 0) := Gb.out.cell 8
    have gz9 : w6.frozen? ⟨H, 9, none⟩ = false := Gb.out.free 9
    have gc9 : w6.cell? ⟨H, 9, none⟩ = some (.int .i64 0) := Gb.out.cell 9
    have gz10 : w6.frozen? ⟨H, 10, none⟩ = false := Gb.out.free 10
    have gc10 : w6.cell? ⟨H, 10, none⟩ = some (.int .u64 0) := Gb.out.cell 10
    have gz11 : w6.frozen? ⟨H, 11, none⟩ = false := Gb.out.free 11
    have gc11 : w6.cell? ⟨H, 11, none⟩ = some (.slice none 0 0) := Gb.out.cell 11
    have fl := Gb.out.lt
    go_wp2
    clear gz0 gc0 gz1 gc1 gz2 gc2 gz3 gc3 gz4 gc4 gz5 gc5 gz6 gc6 gz7 gc7 gz8 gc8 gz9 gc9 gz10 gc10 gz11 gc11
    have hW : ((((((((((((w6.setCell ⟨H, 0, none⟩ (.int .i64 0)).setCell ⟨H, 1, none⟩ (.int .i64 0)).setCell ⟨H, 2, none⟩ (.int .i64 0)).setCell ⟨H, 3, none⟩ (.int .u64 0)).setCell ⟨H, 4, none⟩ (.int .i64 0)).setCell ⟨H, 5, none⟩ (.int .u64 0)).setCell ⟨H, 6, none⟩ (.int .i64 0)).setCell ⟨H, 7, none⟩ (.int .i64 0)).setCell ⟨H, 8, none⟩ (.int .u64 0)).setCell ⟨H, 9, none⟩ (.int .i64 0)).setCell ⟨H, 10, none⟩ (.int .u64 0)).setCell ⟨H, 11, none⟩ (.slice none 0 0)) = putCells w6 (H) 0 [.int .i64 0, .int .i64 0, .int .i64 0, .int .u64 0, .int .i64 0, .int .u64 0, .int .i64 0, .int .i64 0, .int .u64 0, .int .i64 0, .int .u64 0, .slice none 0 0] := rfl
    rw [hW]
    clear hW
    have F9 := putCells_is (cs := [.int .i64 0, .int .i64 0, .int .i64 0, .int .u64 0, .int .i64 0, .int .u64 0, .int .i64 0, .int .i64 0, .int .u64 0, .int .i64 0, .int .u64 0, .slice none 0 0]) Gb.out [.int .i64 0, .int .i64 0, .int .i64 0, .int .u64 0, .int .i64 0, .int .u64 0, .int .i64 0, .int .i64 0, .int .u64 0, .int .i64 0, .int .u64 0, .slice none 0 0] rfl
    have k9 := putCells_kp (H) [.int .i64 0, .int .i64 0, .int .i64 0, .int .u64 0, .int .i64 0, .int .u64 0, .int .i64 0, .int .i64 0, .int .u64 0, .int .i64 0, .int .u64 0, .slice none 0 0] w6 0
    refine ret_gt (p := 4) (u := 5) (b := H) Tryd.results17 rfl rfl rfl F9 ?_
    exact ⟨Or.inr ⟨HN.out, rfl⟩, (Kp.of_below (S := []) B.out).trans k9 (fun j hj => by simp at hj; right; rw [hj, hH.out]; exact Nat.le_refl _) |>.to_below (Nat.le_refl _) (by simp)⟩
  | true =>
  have HF : Hid (okF h l) := (of_decide_eq_true hf : okF h l)
  clear hf
  have AL := hide Ab.out.lt
  have TL := hide Tb.out.lt
  have CL := clone_any (.slice va l.length vc) l (by have := hn.out; omega) w6 (by have := HS.out.below B.out; rw [hn.out]; exact this)
  rw [hn.out] at CL
  replace CL := hide CL
  go_wp2_with fail
  refine CL.out.mono ?_
  clear CL
  rintro e w7 ⟨v7, rfl, hrw, hnew, hb⟩
  replace Gb := hide (Gb.out.below hb)
  replace Ab := hide (Ab.out.below hb)
  replace Tb := hide (Tb.out.below hb)
  have hB6 := B.out.size
  have HAlt : Hid (HA < w6.heap.size) := AL.out
  have HTlt : Hid (HT < w6.heap.size) := TL.out
  have N7 : Hid (∀ k, v7.ownBlock = some k → w.heap.size ≤ k ∧ k ≠ H ∧ k ≠ HA ∧ k ≠ HT) := fun k hk => by
    have h9 := hnew k hk
    obtain ⟨-, cur, hc⟩ := hrw.lt k hk
    refine ⟨by omega, ?_, ?_, ?_⟩
    · rintro rfl; exact absurd (cells_inj hc Gb.out) (by decide)
    · rintro rfl; exact absurd h9 (by have := HAlt.out; omega)
    · rintro rfl; exact absurd h9 (by have := HTlt.out; omega)
  replace B := hide (B.out.trans (hb.mono B.out.size))
  have R7 : Hid (Rw w7 30 5 v7 l.length (rfs l)) := by show Rw _ _ _ _ _ _; rw [hn.out]; exact hrw
  clear hb hrw hnew hB6
  go_wp2_with fail
  refine (sort_refs v7 l w7 R7.out (by have := hn.out; omega)).mono ?_
  rintro e w8 ⟨rfl, Bs, hperm, hsort, hrw, hk⟩
  have hkn : ∀ k ∈ v7.ownBlock.toList, w.heap.size ≤ k ∧ k ≠ H ∧ k ≠ HA ∧ k ≠ HT := fun k hm => N7.out k (by simpa using hm)
  replace Gb := hide (Gb.out.kp hk (fun hm => (hkn _ hm).2.1 rfl))
  replace Ab := hide (Ab.out.kp hk (fun hm => (hkn _ hm).2.2.1 rfl))
  replace Tb := hide (Tb.out.kp hk (fun hm => (hkn _ hm).2.2.2 rfl))
  replace B := hide (B.out.trans (hk.to_below (by have := B.out.size; omega) (fun k hm => (hkn k hm).1)))
  have hbl : Bs.length = n := by rw [hperm.length_eq]; exact hn.out
  have HP := hide hperm
  have HO := hide hsort
  have R8 : Hid (Rw w8 30 5 v7 Bs.length (rfs Bs)) := hrw
  have NB : Hid (∀ k, v7.ownBlock = some k → w.heap.size ≤ k) := fun k hk => (N7.out k hk).1
  clear hk hkn hperm hsort hrw N7 R7
  obtain ⟨ma, mc, rfl, -, -⟩ := R8.out.shape
  rw [hbl] at R8 NB ⊢
  replace hbl := hide hbl
  go_wp2
  go_loopw [42] (fun i wr => ∃ j : Nat, j ≤ n ∧ i = .int .i64 (j : Int) ∧ Hid (Below w.heap.size w wr) ∧ Hid (Below w8.heap.size w8 wr) ∧ Hid (∀ q (_ : 0 < q) (_ : q < j) (hq : q < Bs.length), ¬(Bs[q - 1].rk = Bs[q].rk ∧ Bs[q - 1].kn = Bs[q].kn))) (fun i _ => n - (intOf i).toNat)
  case atStart => exact ⟨0, by omega, rfl, B.out, Below.refl _ _, fun q h1 h2 _ => by omega⟩
  case round =>
    obtain ⟨j, hj, rfl, HB, HW, HQ⟩ := hrel
    have HGb := hide (Gb.out.below HW.out)
    have RB := hide (R8.out.below HW.out)
    by_cases hlt : j < n
    · have hjl : j < Bs.length := by rw [hbl.out]; exact hlt
      obtain ⟨g, o, c, ev, -, -, h0, h1, h2, h3, h4⟩ := (Rw.rsl (by rw [hbl.out]; exact RB.out)).cells j hjl
      injection ev with ev el ec
      clear el
      have b9 := (Below.refl wr.heap.size wr).alloc (Nat.le_refl _) (.cells #[.int .i64 Bs[j].id, .int .i64 Bs[j].rk, .int .u64 Bs[j].kn, .int .i64 Bs[j].ln, .int .u64 Bs[j].bt] 30)
      have Mb := hide (IsB.new wr #[.int .i64 Bs[j].id, .int .i64 Bs[j].rk, .int .u64 Bs[j].kn, .int .i64 Bs[j].ln, .int .u64 Bs[j].bt] 30)
      replace HB := hide (HB.out.trans (b9.mono HB.out.size))
      replace HW := hide (HW.out.trans (b9.mono HW.out.size))
      rcases Nat.eq_zero_or_pos j with hz | hz
      · subst hz
        subst ev ec
        simp only [Nat.zero_mul, Nat.add_zero] at h0 h1 h2 h3 h4
        have HQ2 : Hid (∀ q (_ : 0 < q) (_ : q < 0 + 1) (hq : q < Bs.length), ¬(Bs[q - 1].rk = Bs[q].rk ∧ Bs[q - 1].kn = Bs[q].kn)) := fun q h1 h2 _ => by omega
        clear b9
        generalize Bs[0].id = x0 at *
        generalize Bs[0].rk = x1 at *
        generalize Bs[0].kn = x2 at *
        generalize Bs[0].ln = x3 at *
        generalize Bs[0].bt = x4 at *
        go_wp2_with fail
        generalize wr.alloc (.cells #[.int .i64 x0, .int .i64 x1, .int .u64 x2, .int .i64 x3, .int .u64 x4] 30) = W9 at *
        have BD := hide HB.out.drew
        have WD := hide HW.out.drew
        refine regionL 13 (fun _ => True) mixed trivial (fun hHeld => ?_)
        refine pickA (v := ?_) 0 (some 47) rfl rfl (by kernel_rfl) (by kernel_rfl) (by kernel_rfl) (by decide) (fun _ _ _ h => h) (by rfl) ?_ (by assumption) ?_
        rotate_left
        · intro w'
          go_simp
          try with_reducible rfl
        try simp only [Act.put, List.setIfInBounds_toArray, List.set_cons_zero, List.set_cons_succ]
        refine pickA (v := .bool false) 1 (some 48) rfl rfl (by kernel_rfl) (by kernel_rfl) (by kernel_rfl) (by decide) (fun _ _ _ h => h) (by rfl) ?_ (by assumption) ?_
        · intro w'
          go_simp
          all_goals simp
        try simp only [Act.put, List.setIfInBounds_toArray, List.set_cons_zero, List.set_cons_succ]
        refine pickA (v := ?_) 2 (some 49) rfl rfl (by kernel_rfl) (by kernel_rfl) (by kernel_rfl) (by decide) (fun _ _ _ h => h) (by rfl) ?_ (by assumption) ?_
        rotate_left
        · intro w'
          go_simp
          try with_reducible rfl
        try simp only [Act.put, List.setIfInBounds_toArray, List.set_cons_zero, List.set_cons_succ]
        refine pickN 3 (some 50) rfl rfl (by kernel_rfl) (by kernel_rfl) (by kernel_rfl) (by decide) (fun _ _ _ h => h) (by rfl) (by assumption) ?_
        try simp only [Act.put, List.setIfInBounds_toArray, List.set_cons_zero, List.set_cons_succ]
        refine pickN 4 (some 51) rfl rfl (by kernel_rfl) (by kernel_rfl) (by kernel_rfl) (by decide) (fun _ _ _ h => h) (by rfl) (by assumption) ?_
        try simp only [Act.put, List.setIfInBounds_toArray, List.set_cons_zero, List.set_cons_succ]
        refine pickN 5 (some 52) rfl rfl (by kernel_rfl) (by kernel_rfl) (by kernel_rfl) (by decide) (fun _ _ _ h => h) (by rfl) (by assumption) ?_
        try simp only [Act.put, List.setIfInBounds_toArray, List.set_cons_zero, List.set_cons_succ]
        refine pickN 6 (some 53) rfl rfl (by kernel_rfl) (by kernel_rfl) (by kernel_rfl) (by decide) (fun _ _ _ h => h) (by rfl) (by assumption) ?_
        try simp only [Act.put, List.setIfInBounds_toArray, List.set_cons_zero, List.set_cons_succ]
        refine pickN 7 (some 54) rfl rfl (by kernel_rfl) (by kernel_rfl) (by kernel_rfl) (by decide) (fun _ _ _ h => h) (by rfl) (by assumption) ?_
        try simp only [Act.put, List.setIfInBounds_toArray, List.set_cons_zero, List.set_cons_succ]
        refine pickN 8 (some 55) rfl rfl (by kernel_rfl) (by kernel_rfl) (by kernel_rfl) (by decide) (fun _ _ _ h => h) (by rfl) (by assumption) ?_
        try simp only [Act.put, List.setIfInBounds_toArray, List.set_cons_zero, List.set_cons_succ]
        refine pickN 9 (some 56) rfl rfl (by kernel_rfl) (by kernel_rfl) (by kernel_rfl) (by decide) (fun _ _ _ h => h) (by rfl) (by assumption) ?_
        try simp only [Act.put, List.setIfInBounds_toArray, List.set_cons_zero, List.set_cons_succ]
        refine pickN 10 (some 57) rfl rfl (by kernel_rfl) (by kernel_rfl) (by kernel_rfl) (by decide) (fun _ _ _ h => h) (by rfl) (by assumption) ?_
        try simp only [Act.put, List.setIfInBounds_toArray, List.set_cons_zero, List.set_cons_succ]
        refine pickN 11 (some 58) rfl rfl (by kernel_rfl) (by kernel_rfl) (by kernel_rfl) (by decide) (fun _ _ _ h => h) (by rfl) (by assumption) ?_
        try simp only [Act.put, List.setIfInBounds_toArray, List.set_cons_zero, List.set_cons_succ]
        refine pickA (v := ?_) 12 (some 59) rfl rfl (by kernel_rfl) (by kernel_rfl) (by kernel_rfl) (by decide) (fun _ _ _ h => h) (by rfl) ?_ (by assumption) ?_
        rotate_left
        · intro w'
          go_simp
          try with_reducible rfl
        try simp only [Act.put, List.setIfInBounds_toArray, List.set_cons_zero, List.set_cons_succ]
        refine doneL (by kernel_rfl) ?_ _
        clear hHeld
        go_wp2
        exact ⟨⟨0 + 1, by omega, by simp, BD.out, WD.out, HQ2.out⟩, by simp [intOf]; omega⟩
      · obtain ⟨k, rfl⟩ : ∃ k, j = k + 1 := ⟨j - 1, by omega⟩
        obtain ⟨g2, o2, c2, ev2, -, -, p0, p1, p2, p3, p4⟩ := (Rw.rsl (by rw [hbl.out]; exact RB.out)).cells k (by omega)
        injection ev2 with ev2 el2 ec2
        clear el2 ec2
        subst ev ec
        injection ev2 with ev2
        injection ev2 with ev2 ev3 _
        subst ev2 ev3
        have hkn : k < n := by omega
        have hwk := wrap_small (k : Int) (by omega) (by omega)
        have P1 := (b9.cell (lt_of_cell p1)).trans p1
        have P2 := (b9.cell (lt_of_cell p2)).trans p2
        clear p0 p1 p2 p3 p4 b9
        have HC : Hid ((Bs[k].rk = Bs[k + 1].rk ∧ Bs[k].kn = Bs[k + 1].kn) → ¬okG h l) := fun he ho => not_keys HP.out (j := k + 1) (by omega) (by omega) he ho.2.2
        have HC2 : Hid (¬(Bs[k].rk = Bs[k + 1].rk ∧ Bs[k].kn = Bs[k + 1].kn) → ∀ q (_ : 0 < q) (_ : q < k + 1 + 1) (hq : q < Bs.length), ¬(Bs[q - 1].rk = Bs[q].rk ∧ Bs[q - 1].kn = Bs[q].kn)) := fun he q h1 h2 h3 => by
          by_cases e : q = k + 1
          · subst e; exact he
          · exact HQ.out q h1 (by omega) h3
        generalize Bs[k].rk = y1 at *
        generalize Bs[k].kn = y2 at *
        generalize Bs[k + 1].id = x0 at *
        generalize Bs[k + 1].rk = x1 at *
        generalize Bs[k + 1].kn = x2 at *
        generalize Bs[k + 1].ln = x3 at *
        generalize Bs[k + 1].bt = x4 at *
        go_wp2_with fail
        generalize wr.alloc (.cells #[.int .i64 x0, .int .i64 x1, .int .u64 x2, .int .i64 x3, .int .u64 x4] 30) = W9 at *
        generalize wr.heap.size = R at Mb ⊢
        have BD := hide HB.out.drew
        have WD := hide HW.out.drew
        by_cases he : y1 = x1 ∧ y2 = x2
        · have HN : Hid (¬okG h l) := HC.out he
          have EK : Hid (∀ w, (binOp .eql 26 (.agg #[.int .i64 y1, .int .u64 y2]) (.agg #[.int .i64 x1, .int .u64 x2])).run Tryd.prog w = .ok (.bool true) w) := fun w => by rw [eqk, he.1, he.2]; simp
          refine regionL 13 (fun w' => w'.cell? ⟨g, o + k * 5 + 1, none⟩ = some (.int .i64 y1) ∧ w'.cell? ⟨g, o + k * 5 + 2, none⟩ = some (.int .u64 y2) ∧ IsB w' R #[.int .i64 x0, .int .i64 x1, .int .u64 x2, .int .i64 x3, .int .u64 x4] 30) mixed ⟨P1, P2, Mb.out.below ((Below.refl _ _).drew)⟩ (fun hHeld => ?_)
          refine pickA (v := ?_) 0 (some 47) rfl rfl (by kernel_rfl) (by kernel_rfl) (by kernel_rfl) (by decide) (fun _ _ _ h => h) (by rfl) ?_ (by assumption) ?_
          rotate_left
          · intro w'
            go_simp
            try with_reducible rfl
          try simp only [Act.put, List.setIfInBounds_toArray, List.set_cons_zero, List.set_cons_succ]
          refine pickA (v := .bool true) 1 (some 48) rfl rfl (by kernel_rfl) (by kernel_rfl) (by kernel_rfl) (by decide) (fun _ _ _ h => h) (by rfl) ?_ (by assumption) ?_
          · intro w'
            go_simp
            all_goals simp
          try simp only [Act.put, List.setIfInBounds_toArray, List.set_cons_zero, List.set_cons_succ]
          refine pickA (v := ?_) 2 (some 49) rfl rfl (by kernel_rfl) (by kernel_rfl) (by kernel_rfl) (by decide) (fun _ _ _ h => h) (by rfl) ?_ (by assumption) ?_
          rotate_left
          · intro w'
            go_simp
            try with_reducible rfl
          try simp only [Act.put, List.setIfInBounds_toArray, List.set_cons_zero, List.set_cons_succ]
          refine pickA (v := ?_) 3 (some 50) rfl rfl (by kernel_rfl) (by kernel_rfl) (by kernel_rfl) (by decide) (fun _ _ _ h => h) (by rfl) ?_ (by assumption) ?_
          rotate_left
          · intro w'
            go_simp
            try with_reducible rfl
          try simp only [Act.put, List.setIfInBounds_toArray, List.set_cons_zero, List.set_cons_succ]
          refine pickA (v := ?_) 4 (some 51) rfl rfl (by kernel_rfl) (by kernel_rfl) (by kernel_rfl) (by decide) (fun _ _ _ h => h) (by rfl) ?_ (by assumption) ?_
          rotate_left
          · intro w'
            go_simp
            try with_reducible rfl
          try simp only [Act.put, List.setIfInBounds_toArray, List.set_cons_zero, List.set_cons_succ]
          refine pickA (v := ?_) 5 (some 52) rfl rfl (by kernel_rfl) (by kernel_rfl) (by kernel_rfl) (by decide) (fun _ _ _ h => h) (by rfl) ?_ (by assumption) ?_
          rotate_left
          · intro w'
            go_simp
            try with_reducible rfl
          try simp only [Act.put, List.setIfInBounds_toArray, List.set_cons_zero, List.set_cons_succ]
          refine pickA (v := .pointer (some ⟨g, o + k * 5, none⟩)) 6 (some 53) rfl rfl (by kernel_rfl) (by kernel_rfl) (by kernel_rfl) (by decide) (fun _ _ _ h => h) (by rfl) ?_ (by assumption) ?_
          · intro w'
            go_simp
          try simp only [Act.put, List.setIfInBounds_toArray, List.set_cons_zero, List.set_cons_succ]
          refine pickA (v := ?_) 7 (some 54) rfl rfl (by kernel_rfl) (by kernel_rfl) (by kernel_rfl) (by decide) (fun _ _ _ h => h) (by rfl) ?_ (by assumption) ?_
          rotate_left
          · intro w'
            go_simp
            try with_reducible rfl
          try simp only [Act.put, List.setIfInBounds_toArray, List.set_cons_zero, List.set_cons_succ]
          refine pickL (v := .agg #[.int .i64 y1, .int .u64 y2]) 8 (some 55) rfl rfl (by kernel_rfl) (by kernel_rfl) (by kernel_rfl) (by decide) (by kernel_rfl) (by kernel_rfl) (fun _ _ _ h => h) (by rfl) ?_ (by assumption) ?_
          · intro w' hSw
            obtain ⟨q1, q2, q3⟩ := hSw
            go_simp
          try simp only [Act.put, List.setIfInBounds_toArray, List.set_cons_zero, List.set_cons_succ]
          refine pickA (v := ?_) 9 (some 56) rfl rfl (by kernel_rfl) (by kernel_rfl) (by kernel_rfl) (by decide) (fun _ _ _ h => h) (by rfl) ?_ (by assumption) ?_
          rotate_left
          · intro w'
            go_simp
            try with_reducible rfl
          try simp only [Act.put, List.setIfInBounds_toArray, List.set_cons_zero, List.set_cons_succ]
          refine pickL (v := .agg #[.int .i64 x1, .int .u64 x2]) 10 (some 57) rfl rfl (by kernel_rfl) (by kernel_rfl) (by kernel_rfl) (by decide) (by kernel_rfl) (by kernel_rfl) (fun _ _ _ h => h) (by rfl) ?_ (by assumption) ?_
          · intro w' hSw
            obtain ⟨q1, q2, q3⟩ := hSw
            have m1 := q3.cell 1
            have m2 := q3.cell 2
            simp at m1 m2
            go_simp
          try simp only [Act.put, List.setIfInBounds_toArray, List.set_cons_zero, List.set_cons_succ]
          refine pickA (v := .bool true) 11 (some 58) rfl rfl (by kernel_rfl) (by kernel_rfl) (by kernel_rfl) (by decide) (fun _ _ _ h => h) (by rfl) ?_ (by assumption) ?_
          · intro w'
            exact exec_bin kguard rfl rfl rfl (EK.out _)
          try simp only [Act.put, List.setIfInBounds_toArray, List.set_cons_zero, List.set_cons_succ]
          refine pickA (v := ?_) 12 (some 59) rfl rfl (by kernel_rfl) (by kernel_rfl) (by kernel_rfl) (by decide) (fun _ _ _ h => h) (by rfl) ?_ (by assumption) ?_
          rotate_left
          · intro w'
            go_simp
            try with_reducible rfl
          try simp only [Act.put, List.setIfInBounds_toArray, List.set_cons_zero, List.set_cons_succ]
          refine doneL (by kernel_rfl) ?_ _
          clear hHeld
          replace Gb := hide (Gb.out.below WD.out)
          generalize W9.drew = WX at *
          have gz0 : WX.frozen? ⟨H, 0, none⟩ = false := Gb.out.free 0
          have gc0 : WX.cell? ⟨H, 0, none⟩ = some (.int .i64 0) := Gb.out.cell 0
          have gz1 : WX.frozen? ⟨H, 1, none⟩ = false := Gb.out.free 1
          have gc1 : WX.cell? ⟨H, 1, none⟩ = some (.int .i64 0) := Gb.out.cell 1
          have gz2 : WX.frozen? ⟨H, 2, none⟩ = false := Gb.out.free 2
          have gc2 : WX.cell? ⟨H, 2, none⟩ = some (.int .i64 0) := Gb.out.cell 2
          have gz3 : WX.frozen? ⟨H, 3, none⟩ = false := Gb.out.free 3
          have gc3 : WX.cell? ⟨H, 3, none⟩ = some (.int .u64 0) := Gb.out.cell 3
          have gz4 : WX.frozen? ⟨H, 4, none⟩ = false := Gb.out.free 4
          have gc4 : WX.cell? ⟨H, 4, none⟩ = some (.int .i64 0) := Gb.out.cell 4
          have gz5 : WX.frozen? ⟨H, 5, none⟩ = false := Gb.out.free 5
          have gc5 : WX.cell? ⟨H, 5, none⟩ = some (.int .u64 0) := Gb.out.cell 5
          have gz6 : WX.frozen? ⟨H, 6, none⟩ = false := Gb.out.free 6
          have gc6 : WX.cell? ⟨H, 6, none⟩ = some (.int .i64 0) := Gb.out.cell 6
          have gz7 : WX.frozen? ⟨H, 7, none⟩ = false := Gb.out.free 7
          have gc7 : WX.cell? ⟨H, 7, none⟩ = some (.int .i64 0) := Gb.out.cell 7
          have gz8 : WX.frozen? ⟨H, 8, none⟩ = false := Gb.out.free 8
          have gc8 : WX.cell? ⟨H, 8, none⟩ = some (.int .u64 0) := Gb.out.cell 8
          have gz9 : WX.frozen? ⟨H, 9, none⟩ = false := Gb.out.free 9
          have gc9 : WX.cell? ⟨H, 9, none⟩ = some (.int .i64 0) := Gb.out.cell 9
          have gz10 : WX.frozen? ⟨H, 10, none⟩ = false := Gb.out.free 10
          have gc10 : WX.cell? ⟨H, 10, none⟩ = some (.int .u64 0) := Gb.out.cell 10
          have gz11 : WX.frozen? ⟨H, 11, none⟩ = false := Gb.out.free 11
          have gc11 : WX.cell? ⟨H, 11, none⟩ = some (.slice none 0 0) := Gb.out.cell 11
          have fl := Gb.out.lt
          go_wp2
          clear gz0 gc0 gz1 gc1 gz2 gc2 gz3 gc3 gz4 gc4 gz5 gc5 gz6 gc6 gz7 gc7 gz8 gc8 gz9 gc9 gz10 gc10 gz11 gc11
          have hW : ((((((((((((WX.setCell ⟨H, 0, none⟩ (.int .i64 0)).setCell ⟨H, 1, none⟩ (.int .i64 0)).setCell ⟨H, 2, none⟩ (.int .i64 0)).setCell ⟨H, 3, none⟩ (.int .u64 0)).setCell ⟨H, 4, none⟩ (.int .i64 0)).setCell ⟨H, 5, none⟩ (.int .u64 0)).setCell ⟨H, 6, none⟩ (.int .i64 0)).setCell ⟨H, 7, none⟩ (.int .i64 0)).setCell ⟨H, 8, none⟩ (.int .u64 0)).setCell ⟨H, 9, none⟩ (.int .i64 0)).setCell ⟨H, 10, none⟩ (.int .u64 0)).setCell ⟨H, 11, none⟩ (.slice none 0 0)) = putCells WX (H) 0 [.int .i64 0, .int .i64 0, .int .i64 0, .int .u64 0, .int .i64 0, .int .u64 0, .int .i64 0, .int .i64 0, .int .u64 0, .int .i64 0, .int .u64 0, .slice none 0 0] := rfl
          rw [hW]
          clear hW
          have F9 := putCells_is (cs := [.int .i64 0, .int .i64 0, .int .i64 0, .int .u64 0, .int .i64 0, .int .u64 0, .int .i64 0, .int .i64 0, .int .u64 0, .int .i64 0, .int .u64 0, .slice none 0 0]) Gb.out [.int .i64 0, .int .i64 0, .int .i64 0, .int .u64 0, .int .i64 0, .int .u64 0, .int .i64 0, .int .i64 0, .int .u64 0, .int .i64 0, .int .u64 0, .slice none 0 0] rfl
          have k9 := putCells_kp (H) [.int .i64 0, .int .i64 0, .int .i64 0, .int .u64 0, .int .i64 0, .int .u64 0, .int .i64 0, .int .i64 0, .int .u64 0, .int .i64 0, .int .u64 0, .slice none 0 0] WX 0
          refine ret_gt (p := 4) (u := 5) (b := H) Tryd.results17 rfl rfl rfl F9 ?_
          exact ⟨Or.inr ⟨HN.out, rfl⟩, (Kp.of_below (S := []) BD.out).trans k9 (fun j hj => by simp at hj; right; rw [hj, hH.out]; exact Nat.le_refl _) |>.to_below (Nat.le_refl _) (by simp)⟩
        · have EK : Hid (∀ w, (binOp .eql 26 (.agg #[.int .i64 y1, .int .u64 y2]) (.agg #[.int .i64 x1, .int .u64 x2])).run Tryd.prog w = .ok (.bool false) w) := fun w => by
            rw [eqk]
            by_cases e1 : y1 = x1
            · have e2 : ¬y2 = x2 := fun e2 => he ⟨e1, e2⟩
              simp [e2]
            · simp [e1]
          have HQ2 := hide (HC2.out he)
          refine regionL 13 (fun w' => w'.cell? ⟨g, o + k * 5 + 1, none⟩ = some (.int .i64 y1) ∧ w'.cell? ⟨g, o + k * 5 + 2, none⟩ = some (.int .u64 y2) ∧ IsB w' R #[.int .i64 x0, .int .i64 x1, .int .u64 x2, .int .i64 x3, .int .u64 x4] 30) mixed ⟨P1, P2, Mb.out.below ((Below.refl _ _).drew)⟩ (fun hHeld => ?_)
          refine pickA (v := ?_) 0 (some 47) rfl rfl (by kernel_rfl) (by kernel_rfl) (by kernel_rfl) (by decide) (fun _ _ _ h => h) (by rfl) ?_ (by assumption) ?_
          rotate_left
          · intro w'
            go_simp
            try with_reducible rfl
          try simp only [Act.put, List.setIfInBounds_toArray, List.set_cons_zero, List.set_cons_succ]
          refine pickA (v := .bool true) 1 (some 48) rfl rfl (by kernel_rfl) (by kernel_rfl) (by kernel_rfl) (by decide) (fun _ _ _ h => h) (by rfl) ?_ (by assumption) ?_
          · intro w'
            go_simp
            all_goals simp
          try simp only [Act.put, List.setIfInBounds_toArray, List.set_cons_zero, List.set_cons_succ]
          refine pickA (v := ?_) 2 (some 49) rfl rfl (by kernel_rfl) (by kernel_rfl) (by kernel_rfl) (by decide) (fun _ _ _ h => h) (by rfl) ?_ (by assumption) ?_
          rotate_left
          · intro w'
            go_simp
            try with_reducible rfl
          try simp only [Act.put, List.setIfInBounds_toArray, List.set_cons_zero, List.set_cons_succ]
          refine pickA (v := ?_) 3 (some 50) rfl rfl (by kernel_rfl) (by kernel_rfl) (by kernel_rfl) (by decide) (fun _ _ _ h => h) (by rfl) ?_ (by assumption) ?_
          rotate_left
          · intro w'
            go_simp
            try with_reducible rfl
          try simp only [Act.put, List.setIfInBounds_toArray, List.set_cons_zero, List.set_cons_succ]
          refine pickA (v := ?_) 4 (some 51) rfl rfl (by kernel_rfl) (by kernel_rfl) (by kernel_rfl) (by decide) (fun _ _ _ h => h) (by rfl) ?_ (by assumption) ?_
          rotate_left
          · intro w'
            go_simp
            try with_reducible rfl
          try simp only [Act.put, List.setIfInBounds_toArray, List.set_cons_zero, List.set_cons_succ]
          refine pickA (v := ?_) 5 (some 52) rfl rfl (by kernel_rfl) (by kernel_rfl) (by kernel_rfl) (by decide) (fun _ _ _ h => h) (by rfl) ?_ (by assumption) ?_
          rotate_left
          · intro w'
            go_simp
            try with_reducible rfl
          try simp only [Act.put, List.setIfInBounds_toArray, List.set_cons_zero, List.set_cons_succ]
          refine pickA (v := .pointer (some ⟨g, o + k * 5, none⟩)) 6 (some 53) rfl rfl (by kernel_rfl) (by kernel_rfl) (by kernel_rfl) (by decide) (fun _ _ _ h => h) (by rfl) ?_ (by assumption) ?_
          · intro w'
            go_simp
          try simp only [Act.put, List.setIfInBounds_toArray, List.set_cons_zero, List.set_cons_succ]
          refine pickA (v := ?_) 7 (some 54) rfl rfl (by kernel_rfl) (by kernel_rfl) (by kernel_rfl) (by decide) (fun _ _ _ h => h) (by rfl) ?_ (by assumption) ?_
          rotate_left
          · intro w'
            go_simp
            try with_reducible rfl
          try simp only [Act.put, List.setIfInBounds_toArray, List.set_cons_zero, List.set_cons_succ]
          refine pickL (v := .agg #[.int .i64 y1, .int .u64 y2]) 8 (some 55) rfl rfl (by kernel_rfl) (by kernel_rfl) (by kernel_rfl) (by decide) (by kernel_rfl) (by kernel_rfl) (fun _ _ _ h => h) (by rfl) ?_ (by assumption) ?_
          · intro w' hSw
            obtain ⟨q1, q2, q3⟩ := hSw
            go_simp
          try simp only [Act.put, List.setIfInBounds_toArray, List.set_cons_zero, List.set_cons_succ]
          refine pickA (v := ?_) 9 (some 56) rfl rfl (by kernel_rfl) (by kernel_rfl) (by kernel_rfl) (by decide) (fun _ _ _ h => h) (by rfl) ?_ (by assumption) ?_
          rotate_left
          · intro w'
            go_simp
            try with_reducible rfl
          try simp only [Act.put, List.setIfInBounds_toArray, List.set_cons_zero, List.set_cons_succ]
          refine pickL (v := .agg #[.int .i64 x1, .int .u64 x2]) 10 (some 57) rfl rfl (by kernel_rfl) (by kernel_rfl) (by kernel_rfl) (by decide) (by kernel_rfl) (by kernel_rfl) (fun _ _ _ h => h) (by rfl) ?_ (by assumption) ?_
          · intro w' hSw
            obtain ⟨q1, q2, q3⟩ := hSw
            have m1 := q3.cell 1
            have m2 := q3.cell 2
            simp at m1 m2
            go_simp
          try simp only [Act.put, List.setIfInBounds_toArray, List.set_cons_zero, List.set_cons_succ]
          refine pickA (v := .bool false) 11 (some 58) rfl rfl (by kernel_rfl) (by kernel_rfl) (by kernel_rfl) (by decide) (fun _ _ _ h => h) (by rfl) ?_ (by assumption) ?_
          · intro w'
            exact exec_bin kguard rfl rfl rfl (EK.out _)
          try simp only [Act.put, List.setIfInBounds_toArray, List.set_cons_zero, List.set_cons_succ]
          refine pickA (v := ?_) 12 (some 59) rfl rfl (by kernel_rfl) (by kernel_rfl) (by kernel_rfl) (by decide) (fun _ _ _ h => h) (by rfl) ?_ (by assumption) ?_
          rotate_left
          · intro w'
            go_simp
            try with_reducible rfl
          try simp only [Act.put, List.setIfInBounds_toArray, List.set_cons_zero, List.set_cons_succ]
          refine doneL (by kernel_rfl) ?_ _
          clear hHeld
          go_wp2
          exact ⟨⟨k + 1 + 1, by omega, by simp, BD.out, WD.out, HQ2.out⟩, by simp [intOf]; omega⟩
    · have hjn : j = n := by omega
      subst hjn
      have hsorted : Bs.Pairwise keyLt := sorted_all HO.out (fun q h1 h2 => HQ.out q h1 (by rw [hbl.out] at h2; omega) h2)
      have HG : Hid (okG h l) := ⟨hh, HF.out, ((HP.out.map _).nodup_iff).1 (sorted_keys hsorted)⟩
      have HSO := hide hsorted
      clear hsorted
      have HAb := hide (Ab.out.below HW.out)
      have HTb := hide (Tb.out.below HW.out)
      have gz0 : wr.frozen? ⟨H, 0, none⟩ = false := HGb.out.free 0
      have gc0 : wr.cell? ⟨H, 0, none⟩ = some (.int .i64 0) := HGb.out.cell 0
      have gz1 : wr.frozen? ⟨H, 1, none⟩ = false := HGb.out.free 1
      have gc1 : wr.cell? ⟨H, 1, none⟩ = some (.int .i64 0) := HGb.out.cell 1
      have gz2 : wr.frozen? ⟨H, 2, none⟩ = false := HGb.out.free 2
      have gc2 : wr.cell? ⟨H, 2, none⟩ = some (.int .i64 0) := HGb.out.cell 2
      have gz3 : wr.frozen? ⟨H, 3, none⟩ = false := HGb.out.free 3
      have gc3 : wr.cell? ⟨H, 3, none⟩ = some (.int .u64 0) := HGb.out.cell 3
      have gz4 : wr.frozen? ⟨H, 4, none⟩ = false := HGb.out.free 4
      have gc4 : wr.cell? ⟨H, 4, none⟩ = some (.int .i64 0) := HGb.out.cell 4
      have gz5 : wr.frozen? ⟨H, 5, none⟩ = false := HGb.out.free 5
      have gc5 : wr.cell? ⟨H, 5, none⟩ = some (.int .u64 0) := HGb.out.cell 5
      have gz6 : wr.frozen? ⟨H, 6, none⟩ = false := HGb.out.free 6
      have gc6 : wr.cell? ⟨H, 6, none⟩ = some (.int .i64 0) := HGb.out.cell 6
      have gz7 : wr.frozen? ⟨H, 7, none⟩ = false := HGb.out.free 7
      have gc7 : wr.cell? ⟨H, 7, none⟩ = some (.int .i64 0) := HGb.out.cell 7
      have gz8 : wr.frozen? ⟨H, 8, none⟩ = false := HGb.out.free 8
      have gc8 : wr.cell? ⟨H, 8, none⟩ = some (.int .u64 0) := HGb.out.cell 8
      have gz9 : wr.frozen? ⟨H, 9, none⟩ = false := HGb.out.free 9
      have gc9 : wr.cell? ⟨H, 9, none⟩ = some (.int .i64 0) := HGb.out.cell 9
      have gz10 : wr.frozen? ⟨H, 10, none⟩ = false := HGb.out.free 10
      have gc10 : wr.cell? ⟨H, 10, none⟩ = some (.int .u64 0) := HGb.out.cell 10
      have gz11 : wr.frozen? ⟨H, 11, none⟩ = false := HGb.out.free 11
      have gc11 : wr.cell? ⟨H, 11, none⟩ = some (.slice none 0 0) := HGb.out.cell 11
      have a0 : wr.cell? ⟨HA, 0, none⟩ = some (.int .i64 0) := HAb.out.cell 0
      have a1 : wr.cell? ⟨HA, 1, none⟩ = some (.int .i64 1) := HAb.out.cell 1
      have a2 : wr.cell? ⟨HA, 2, none⟩ = some (.int .u64 0) := HAb.out.cell 2
      have a3 : wr.cell? ⟨HA, 3, none⟩ = some (.int .i64 h) := HAb.out.cell 3
      have a4 : wr.cell? ⟨HA, 4, none⟩ = some (.int .u64 0) := HAb.out.cell 4
      have t0 : wr.cell? ⟨HT, 0, none⟩ = some (.int .i64 1) := HTb.out.cell 0
      have t1 : wr.cell? ⟨HT, 1, none⟩ = some (.int .i64 3) := HTb.out.cell 1
      have t2 : wr.cell? ⟨HT, 2, none⟩ = some (.int .u64 0) := HTb.out.cell 2
      have t3 : wr.cell? ⟨HT, 3, none⟩ = some (.int .i64 h) := HTb.out.cell 3
      have t4 : wr.cell? ⟨HT, 4, none⟩ = some (.int .u64 0) := HTb.out.cell 4
      have fl := HGb.out.lt
      go_wp2
      clear gz0 gc0 gz1 gc1 gz2 gc2 gz3 gc3 gz4 gc4 gz5 gc5 gz6 gc6 gz7 gc7 gz8 gc8 gz9 gc9 gz10 gc10 gz11 gc11
      clear a0 t0 a1 t1 a2 t2 a3 t3 a4 t4
      have hW : ((((((((((((wr.setCell ⟨H, 0, none⟩ (.int .i64 h)).setCell ⟨H, 1, none⟩ (.int .i64 0)).setCell ⟨H, 2, none⟩ (.int .i64 1)).setCell ⟨H, 3, none⟩ (.int .u64 0)).setCell ⟨H, 4, none⟩ (.int .i64 h)).setCell ⟨H, 5, none⟩ (.int .u64 0)).setCell ⟨H, 6, none⟩ (.int .i64 1)).setCell ⟨H, 7, none⟩ (.int .i64 3)).setCell ⟨H, 8, none⟩ (.int .u64 0)).setCell ⟨H, 9, none⟩ (.int .i64 h)).setCell ⟨H, 10, none⟩ (.int .u64 0)).setCell ⟨H, 11, none⟩ (.slice ma j mc)) = putCells wr (H) 0 [.int .i64 h, .int .i64 0, .int .i64 1, .int .u64 0, .int .i64 h, .int .u64 0, .int .i64 1, .int .i64 3, .int .u64 0, .int .i64 h, .int .u64 0, .slice ma j mc] := rfl
      rw [hW]
      clear hW
      have F9 := putCells_is (cs := [.int .i64 0, .int .i64 0, .int .i64 0, .int .u64 0, .int .i64 0, .int .u64 0, .int .i64 0, .int .i64 0, .int .u64 0, .int .i64 0, .int .u64 0, .slice none 0 0]) HGb.out [.int .i64 h, .int .i64 0, .int .i64 1, .int .u64 0, .int .i64 h, .int .u64 0, .int .i64 1, .int .i64 3, .int .u64 0, .int .i64 h, .int .u64 0, .slice ma j mc] rfl
      have k9 := putCells_kp (H) [.int .i64 h, .int .i64 0, .int .i64 1, .int .u64 0, .int .i64 h, .int .u64 0, .int .i64 1, .int .i64 3, .int .u64 0, .int .i64 h, .int .u64 0, .slice ma j mc] wr 0
      refine ret_gt (p := 4) (u := 5) (b := H) Tryd.results17 rfl rfl rfl F9 ?_
      refine ⟨Or.inl ⟨HG.out, ma, mc, Bs, by rw [hbl.out]; rfl, HP.out, HSO.out, ?_, by rw [hbl.out]; exact NB.out⟩, (Kp.of_below (S := []) HB.out).trans k9 (fun j hj => by simp at hj; right; rw [hj, hH.out]; exact Nat.le_refl _) |>.to_below (Nat.le_refl _) (by simp)⟩
      rw [hbl.out]
      refine RB.out.kp k9 (fun k hk hm => ?_)
      simp at hm
      subst hm
      obtain ⟨-, cur2, hc2⟩ := RB.out.lt _ hk
      exact absurd (cells_inj hc2 HGb.out) (by decide)

end Go.Proofs.YtfcmmchppcffmaaDoor
