/- PackLong, walked. -/
import Derived.Test.YtjjjpainmldfnaaDoorRP
import Derived.Test.YtjjjpainmldfnaaDoorRA
import Derived.Test.YtjjjpainmldfnaaDoorQQ
import Derived.OwnWalk
namespace Go.Proofs.YtjjjpainmldfnaaDoor
open Go.RowKit

set_option maxHeartbeats 2000000 in
set_option maxRecDepth 100000 in
theorem own_bytes_bad (b o len cap : Nat) (hl : 65536 < len) (w : World) : Calls Tryd.prog 30 #[.agg #[.int .i64 4, .int .u64 0, .int .i64 0, .bool false, .slice (some ⟨b, o, none⟩) len cap, .int .i64 0, .int .u64 0, .int .i64 0, .int .u64 0, .int .i64 0, .int .i64 0, .int .u64 0, .int .i64 0, .int .u64 0]] w fun e w' => e = .returned (.bool false) ∧ Gr w w' := by
  have HG := hide (show Gr w (w.alloc (.cells #[.int .i64 4, .int .u64 0, .int .i64 0, .bool false, .slice (some ⟨b, o, none⟩) len cap, .int .i64 0, .int .u64 0, .int .i64 0, .int .u64 0, .int .i64 0, .int .i64 0, .int .u64 0, .int .i64 0, .int .u64 0] 34)) from (Gr.refl w).alloc _)
  go_enter Tryd.func30, Tryd.ntmps30
  go_wp2_with fail
  go_ret
  exact ⟨by simp; omega, HG.out⟩

set_option maxHeartbeats 4000000 in
set_option maxRecDepth 100000 in
theorem check_bytes_bad (b o len cap : Nat) (hl : 65536 < len) (w : World) : Calls Tryd.prog 14 #[.agg #[.int .i64 4, .int .u64 0, .int .i64 0, .bool false, .slice (some ⟨b, o, none⟩) len cap, .int .i64 0, .int .u64 0, .int .i64 0, .int .u64 0, .int .i64 0, .int .i64 0, .int .u64 0, .int .i64 0, .int .u64 0]] w fun e w' => e = .returned (.int .i64 30) ∧ Gr w w' := by
  have ho := hide (fun w => own_bytes_bad b o len cap hl w)
  clear hl
  have HI := hide (IsB.new w #[.int .i64 4, .int .u64 0, .int .i64 0, .bool false, .slice (some ⟨b, o, none⟩) len cap, .int .i64 0, .int .u64 0, .int .i64 0, .int .u64 0, .int .i64 0, .int .i64 0, .int .u64 0, .int .i64 0, .int .u64 0] 34)
  have HG := hide (show Gr w (w.alloc (.cells #[.int .i64 4, .int .u64 0, .int .i64 0, .bool false, .slice (some ⟨b, o, none⟩) len cap, .int .i64 0, .int .u64 0, .int .i64 0, .int .u64 0, .int .i64 0, .int .i64 0, .int .u64 0, .int .i64 0, .int .u64 0] 34)) from (Gr.refl w).alloc _)
  go_enter Tryd.func14, Tryd.ntmps14
  go_wp2_with fail
  generalize w.alloc (.cells #[.int .i64 4, .int .u64 0, .int .i64 0, .bool false, .slice (some ⟨b, o, none⟩) len cap, .int .i64 0, .int .u64 0, .int .i64 0, .int .u64 0, .int .i64 0, .int .i64 0, .int .u64 0, .int .i64 0, .int .u64 0] 34) = W0 at HI HG ⊢
  have a0 : W0.cell? ⟨w.heap.size, 0, none⟩ = some (.int .i64 4) := HI.out.cell 0
  have a1 : W0.cell? ⟨w.heap.size, 1, none⟩ = some (.int .u64 0) := HI.out.cell 1
  have a2 : W0.cell? ⟨w.heap.size, 2, none⟩ = some (.int .i64 0) := HI.out.cell 2
  have a3 : W0.cell? ⟨w.heap.size, 3, none⟩ = some (.bool false) := HI.out.cell 3
  have a4 : W0.cell? ⟨w.heap.size, 4, none⟩ = some (.slice (some ⟨b, o, none⟩) len cap) := HI.out.cell 4
  have a5 : W0.cell? ⟨w.heap.size, 5, none⟩ = some (.int .i64 0) := HI.out.cell 5
  have a6 : W0.cell? ⟨w.heap.size, 6, none⟩ = some (.int .u64 0) := HI.out.cell 6
  have a7 : W0.cell? ⟨w.heap.size, 7, none⟩ = some (.int .i64 0) := HI.out.cell 7
  have a8 : W0.cell? ⟨w.heap.size, 8, none⟩ = some (.int .u64 0) := HI.out.cell 8
  have a9 : W0.cell? ⟨w.heap.size, 9, none⟩ = some (.int .i64 0) := HI.out.cell 9
  have a10 : W0.cell? ⟨w.heap.size, 10, none⟩ = some (.int .i64 0) := HI.out.cell 10
  have a11 : W0.cell? ⟨w.heap.size, 11, none⟩ = some (.int .u64 0) := HI.out.cell 11
  have a12 : W0.cell? ⟨w.heap.size, 12, none⟩ = some (.int .i64 0) := HI.out.cell 12
  have a13 : W0.cell? ⟨w.heap.size, 13, none⟩ = some (.int .u64 0) := HI.out.cell 13
  refine (isKind_yes 4 (by omega) (by omega) _).mono ?_; rintro e w1 ⟨rfl, rfl⟩
  go_wp2_with fail
  clear a0 a1 a2 a3 a4 a5 a6 a7 a8 a9 a10 a11 a12 a13
  refine (ho.out _).mono ?_; rintro e w2 ⟨rfl, hg⟩
  replace HG := hide (HG.out.trans hg)
  clear hg
  go_wp2
  go_ret
  exact ⟨rfl, HG.out⟩

theorem zeros_own {w : World} {base g n : Nat} (h : w.ownsRow base 5 1 (.slice (some ⟨g, 0, none⟩) n n) n (madeCells (Value.int .u8 0).cells (n * 1)).toList) : w.ownsRow base 5 1 (.slice (some ⟨g, 0, none⟩) n n) n (u8s (List.replicate n 0)) := by
  have e : (madeCells (Value.int .u8 0).cells (n * 1)).toList = u8s (List.replicate n 0) := by
    rw [Nat.mul_one]
    exact (toList_madeCells_one (.int .u8 0) n).trans (by unfold u8s; rw [List.map_replicate])
  rw [e] at h
  exact h
theorem own_row_some {w : World} {base : Nat} {v : Value} {n : Nat} {xs : List Value} (ho : w.ownsRow base 5 1 v n xs) (hn : v ≠ .slice none 0 0) : ∃ g c, v = .slice (some ⟨g, 0, none⟩) n c := by
  rcases ho.2 with ⟨h, _⟩ | ⟨g, c, cur, rfl, hg, hrest⟩
  · exact absurd h hn
  · exact ⟨g, c, rfl⟩
/-- Bytes behind bytes. -/
theorem append_on {w : World} {ops : Array Oper} {rest : List Oper} {o : Oper} {a : Act} {Q : Exit → Act → World → Prop} (hgd : o.guard = none) (s x : Operand)
    (ho : o.op = .call { callee := .builtin .append, args := #[s, x], argTypes := #[25, 25] })
    (base g0 n0 c0 : Nat) (xs : List Int) (hs : a.eval s = .slice (some ⟨g0, 0, none⟩) n0 c0) (hown : w.ownsRow base 5 1 (.slice (some ⟨g0, 0, none⟩) n0 c0) n0 (u8s xs))
    (ad : Addr) (m c : Nat) (l : List Int) (hx : a.eval x = .slice (some ad) m c) (hl : l.length = m) (hnews : ∀ j u, (u8s l)[j]? = some u → w.cell? (ad.add j) = some u)
    (hm : n0 + m ≤ 1000000) (hbase : base ≤ w.heap.size)
    (h : ∀ g c w', w'.ownsRow base 5 1 (.slice (some ⟨g, 0, none⟩) (n0 + m) c) (n0 + m) (u8s (xs ++ l)) → w.grownBy w' (some g0) → wpList Tryd.prog ops Q rest (a.put o.dst (.slice (some ⟨g, 0, none⟩) (n0 + m) c)) w') : wpList Tryd.prog ops Q (o :: rest) a w := by
  obtain ⟨i0, hi, hz0, hz1, hz2⟩ := info_parts Tryd.infoU8
  refine wpList_append_own _ hgd s x 25 ho base 5 i0 (.int .u8 0) 1 1 Tryd.underlying25 hi hz0 hz1 hz2 rfl (by decide) _ _ _ hs hown ad m c (u8s l) hx (by unfold u8s; rw [List.length_map]; omega) hnews (by intro u hu; simp [u8s] at hu; obtain ⟨_, _, rfl⟩ := hu; rfl) (by unfold maxLen; omega) (by omega) hbase ?_
  intro v' w4 hown4 hgrow4 hnil4
  obtain ⟨gb, cb, rfl⟩ := own_row_some hown4 (fun h => by have h2 := (hnil4.1 h).1; cases h2)
  rw [← u8s_app] at hown4
  exact h gb cb w4 hown4 hgrow4
theorem own_cap {w : World} {base g n c : Nat} {xs : List Value} (h : w.ownsRow base 5 1 (.slice (some ⟨g, 0, none⟩) n c) n xs) : n ≤ c ∧ c ≤ 9223372036854775807 := by
  rcases h.2 with ⟨h', _⟩ | ⟨g', c', cur, h', _, _, h1, h2, _⟩
  · cases h'
  · cases h'; unfold maxLen at h2; exact ⟨h1, h2⟩
theorem at_row {w : World} {base : Nat} {l : List Int} {f : Fd} (h : (FV.bytes l).At w base f) : ∃ g c, f = ⟨4, 0, 0, false, some ⟨g, 0, none⟩, l.length, c, 0, 0, 0, 0, 0, 0, 0, 0, 0⟩ ∧ w.ownsRow base 5 1 (.slice (some ⟨g, 0, none⟩) l.length c) l.length (u8s l) := by
  rcases h with ⟨hr, _⟩ | ⟨l', g, c, hr, rfl, ho⟩
  · cases hr
  · cases hr; exact ⟨g, c, rfl, ho⟩
/-- Three bytes that say more than there may be. -/
theorem long_bad (l : List Int) : pfields [4] (129 :: 128 :: 4 :: l) = .bad 2 31 := by
  have h1 : pnum 65536 0 0 (129 :: 128 :: 4 :: l) = .bad 2 31 := by
    rw [pnum_more 65536 0 0 129 _ (by decide) (by decide), pnum_more 65536 _ _ 128 _ (by decide) (by decide), pnum_bad 65536 _ _ 4 _ (by decide)]
  have h2 : pfield 4 (129 :: 128 :: 4 :: l) = .bad 2 31 := by
    show (prow (129 :: 128 :: 4 :: l)).map FV.bytes = _
    unfold prow
    rw [h1]
    rfl
  rw [pfields, h2]

set_option maxHeartbeats 2000000 in
set_option maxRecDepth 100000 in
theorem packLong_other (k : Int) (hk : k ≠ 1) (w : World) (hR : Ranks w) : Calls Tryd.prog 4 #[.int .i64 k] w fun e w' => e = .returned (.bool true) ∧ RowKit.Below w.heap.size w w' := by
  have hk' : (k != 1) = true := by simp [hk]
  have ha := hide (alive_any w hR)
  clear hR
  go_enter Tryd.func4, Tryd.ntmps4
  go_wp2_with fail
  refine ha.out.mono ?_; rintro e w1 ⟨rfl, hb⟩
  have HB := hide hb
  clear hb
  go_wp2
  go_ret
  exact ⟨rfl, HB.out⟩

set_option maxHeartbeats 8000000 in
set_option maxRecDepth 100000 in
theorem packLong_one (w : World) (hR : Ranks w) : Calls Tryd.prog 4 #[.int .i64 1] w fun e w' => e = .returned (.bool true) ∧ RowKit.Below w.heap.size w w' := by
  obtain ⟨i0, hi, hz0, hz1, hz2⟩ := info_parts Tryd.infoU8
  obtain ⟨N, hN, hNb, HN⟩ : ∃ N : Nat, (65536 : Int) = (N : Int) ∧ ((N : Int) == 65536) = true ∧ Hid (N = 65536) := ⟨65536, rfl, rfl, hide rfl⟩
  obtain ⟨M, hM, HM⟩ : ∃ M : Nat, (65537 : Int) = (M : Int) ∧ Hid (M = 65537) := ⟨65537, rfl, hide rfl⟩
  have hN2 : N ≤ 65536 := by rw [HN.out]; exact Nat.le_refl _
  have hM2 : M ≤ 65537 ∧ 65536 < M := by rw [HM.out]; omega
  have HR := hide hR
  clear hR
  go_enter Tryd.func4, Tryd.ntmps4
  go_wp2_with (at_make; refine wpList_make_full _ rfl _ _ 25 rfl w.heap.size 5 i0 (.int .u8 0) 1 Tryd.underlying25 hi hz0 hz1 .i64 .i64 _ _ N rfl rfl hN hN (by rw [hz2]; omega) (by unfold maxLen; omega) (Nat.le_refl _) ?_; intro w1 hown1 hgrow1)
  have hown1' := zeros_own hown1
  have HB1 := hide ((Below.refl w.heap.size w).grown hgrow1 (Nat.le_refl _) (by simp))
  have hs1 := (hown1'.lt w.heap.size rfl).2
  obtain ⟨Zs, hZ, hZl, hZb⟩ : ∃ Zs : List Int, List.replicate N 0 = Zs ∧ Zs.length = N ∧ (∀ c ∈ Zs, 0 ≤ c ∧ c < 256) := ⟨_, rfl, List.length_replicate, fun c hc => by rw [(List.mem_replicate.1 hc).2]; omega⟩
  rw [hZ] at hown1'
  have JF := (IsB.new w1 #[.int .i64 4, .int .u64 0, .int .i64 0, .bool false, .slice (some ⟨w.heap.size, 0, none⟩) N N, .int .i64 0, .int .u64 0, .int .i64 0, .int .u64 0, .int .i64 0, .int .i64 0, .int .u64 0, .int .i64 0, .int .u64 0] 34).alloc (.cells #[.int .i64 4, .int .u64 0, .int .i64 0, .bool false, .slice (some ⟨w.heap.size, 0, none⟩) N N, .int .i64 0, .int .u64 0, .int .i64 0, .int .u64 0, .int .i64 0, .int .i64 0, .int .u64 0, .int .i64 0, .int .u64 0] 34)
  have JS := IsB.new (w1.alloc (.cells #[.int .i64 4, .int .u64 0, .int .i64 0, .bool false, .slice (some ⟨w.heap.size, 0, none⟩) N N, .int .i64 0, .int .u64 0, .int .i64 0, .int .u64 0, .int .i64 0, .int .i64 0, .int .u64 0, .int .i64 0, .int .u64 0] 34)) #[.int .i64 4, .int .u64 0, .int .i64 0, .bool false, .slice (some ⟨w.heap.size, 0, none⟩) N N, .int .i64 0, .int .u64 0, .int .i64 0, .int .u64 0, .int .i64 0, .int .i64 0, .int .u64 0, .int .i64 0, .int .u64 0] 34
  rw [World.size_alloc] at JS
  have HG2 := hide (show Gr w1 ((w1.alloc (.cells #[.int .i64 4, .int .u64 0, .int .i64 0, .bool false, .slice (some ⟨w.heap.size, 0, none⟩) N N, .int .i64 0, .int .u64 0, .int .i64 0, .int .u64 0, .int .i64 0, .int .i64 0, .int .u64 0, .int .i64 0, .int .u64 0] 34)).alloc (.cells #[.int .i64 4, .int .u64 0, .int .i64 0, .bool false, .slice (some ⟨w.heap.size, 0, none⟩) N N, .int .i64 0, .int .u64 0, .int .i64 0, .int .u64 0, .int .i64 0, .int .i64 0, .int .u64 0, .int .i64 0, .int .u64 0] 34)) from ((Gr.refl w1).alloc _).alloc _)
  have HO2 := hide (hown1'.kept (grown_of_gr HG2.out none) (Or.inr (by simp [Value.ownBlock])))
  replace JF := hide JF
  replace JS := hide JS
  clear hown1 hgrow1 hown1' hZ
  generalize hF : w1.heap.size = FB at JF JS hs1 ⊢
  generalize (w1.alloc (.cells #[.int .i64 4, .int .u64 0, .int .i64 0, .bool false, .slice (some ⟨w.heap.size, 0, none⟩) N N, .int .i64 0, .int .u64 0, .int .i64 0, .int .u64 0, .int .i64 0, .int .i64 0, .int .u64 0, .int .i64 0, .int .u64 0] 34)).alloc (.cells #[.int .i64 4, .int .u64 0, .int .i64 0, .bool false, .slice (some ⟨w.heap.size, 0, none⟩) N N, .int .i64 0, .int .u64 0, .int .i64 0, .int .u64 0, .int .i64 0, .int .i64 0, .int .u64 0, .int .i64 0, .int .u64 0] 34) = W2 at JF JS HG2 HO2 ⊢
  have hl2 := JS.out.lt
  have henc : (FV.bytes Zs).enc = nb N ++ Zs := by show nb Zs.length ++ Zs = _; rw [hZl]
  have hXl : (nb N ++ Zs).length ≤ 70000 := by rw [List.length_append, hZl]; have := nb_len10 N (by omega); omega
  have hpk := hide (pack_one ⟨4, 0, 0, false, some ⟨w.heap.size, 0, none⟩, N, N, 0, 0, 0, 0, 0, 0, 0, 0, 0⟩ (nb N ++ Zs) W2 (FB + 1) JS.out (packOf_bytes W2 w.heap.size 0 N N Zs hZl hN2 (by omega) (own_cells HO2.out)) (by omega))
  have hup0 := unpack_one (.bytes Zs) (reads_bytes Zs (by omega))
  rw [henc] at hup0
  replace hup0 := hide hup0
  generalize nb N ++ Zs = X at hpk hup0 hXl
  have HB2 := hide (HB1.out.trans (HG2.out.below.mono HB1.out.size))
  clear HO2 henc HB1 HG2 JS hF
  refine hpk.out.mono ?_
  rintro e w3 ⟨g, hg, rfl, hownX, hb3⟩
  have hgX := hownX.lt g rfl
  have HB3 := hide (HB2.out.trans (hb3.mono HB2.out.size))
  have HF3 := hide (JF.out.setB hb3)
  have HX3 := hide hownX
  clear hpk hb3 hownX HB2 JF
  have I4 := IsB.new w3 #[.int .i64 4] 23
  have HG4 := hide (show Gr w3 (w3.alloc (.cells #[.int .i64 4] 23)) from (Gr.refl w3).alloc _)
  have hup := hide (hup0.out g X.length w3.heap.size 1 (w3.alloc (.cells #[.int .i64 4] 23)) (HR.out.below (HB3.out.trans (HG4.out.below.mono HB3.out.size))) (by have := HG4.out.le; omega) (Nat.le_refl _) (by omega) (own_cells (HX3.out.alloc _)) (I4.cell 0))
  clear I4 hup0
  go_wp2_with fail
  generalize w3.alloc (.cells #[.int .i64 4] 23) = W4 at HG4 hup ⊢
  refine hup.out.mono ?_
  rintro e w5 ⟨gf, fc, f, rfl, hgf, hownF, hat, hb5⟩
  obtain ⟨gr, cr, hfe, hownR⟩ := at_row hat
  rw [hZl] at hfe
  subst hfe
  have HB5 := hide (HB3.out.trans ((HG4.out.below.trans (hb5.mono HG4.out.le)).mono HB3.out.size))
  have HF5 := hide ((HF3.out.gr HG4.out).setB hb5)
  have HW5 := hide hownF
  have hgf2 := hownF.lt gf rfl
  have hl5 := HF5.out.lt
  have hfb : FB < gf := by have h1 := HF3.out.lt; have h2 := HG4.out.le; omega
  clear hup hownF hat hownR hb5 HX3 HF3 HG4 HB3
  go_wp2_with (at_make; refine wpList_make_full _ rfl _ _ 25 rfl w.heap.size 5 i0 (.int .u8 0) 1 Tryd.underlying25 hi hz0 hz1 .i64 .i64 _ _ M rfl rfl hM hM (by rw [hz2]; omega) (by unfold maxLen; omega) HB5.out.size ?_; intro w6 hown6 hgrow6; have JF6 := HF5.out.grown hgrow6 (by simp); have z0 : w6.cell? ⟨FB, 0, none⟩ = some (.int .i64 4) := JF6.cell 0; have z1 : w6.cell? ⟨FB, 1, none⟩ = some (.int .u64 0) := JF6.cell 1; have z2 : w6.cell? ⟨FB, 2, none⟩ = some (.int .i64 0) := JF6.cell 2; have z3 : w6.cell? ⟨FB, 3, none⟩ = some (.bool false) := JF6.cell 3; have z4 : w6.cell? ⟨FB, 4, none⟩ = some (.slice (some ⟨w.heap.size, 0, none⟩) N N) := JF6.cell 4; have z5 : w6.cell? ⟨FB, 5, none⟩ = some (.int .i64 0) := JF6.cell 5; have z6 : w6.cell? ⟨FB, 6, none⟩ = some (.int .u64 0) := JF6.cell 6; have z7 : w6.cell? ⟨FB, 7, none⟩ = some (.int .i64 0) := JF6.cell 7; have z8 : w6.cell? ⟨FB, 8, none⟩ = some (.int .u64 0) := JF6.cell 8; have z9 : w6.cell? ⟨FB, 9, none⟩ = some (.int .i64 0) := JF6.cell 9; have z10 : w6.cell? ⟨FB, 10, none⟩ = some (.int .i64 0) := JF6.cell 10; have z11 : w6.cell? ⟨FB, 11, none⟩ = some (.int .u64 0) := JF6.cell 11; have z12 : w6.cell? ⟨FB, 12, none⟩ = some (.int .i64 0) := JF6.cell 12; have z13 : w6.cell? ⟨FB, 13, none⟩ = some (.int .u64 0) := JF6.cell 13; have z4 := JF6.free 4)
  have hown6' := zeros_own hown6
  have hG2 := (hown6'.lt w5.heap.size rfl).2
  have hs56 := hgrow6.size
  have HB6 := hide (HB5.out.grown hgrow6 HB5.out.size (by simp))
  have HW6 := hide (HW5.out.kept hgrow6 (Or.inr (by simp [Value.ownBlock])))
  obtain ⟨Z2, hZ, hZ2l, hZ2b⟩ : ∃ Zs : List Int, List.replicate M 0 = Zs ∧ Zs.length = M ∧ (∀ c ∈ Zs, 0 ≤ c ∧ c < 256) := ⟨_, rfl, List.length_replicate, fun c hc => by rw [(List.mem_replicate.1 hc).2]; omega⟩
  rw [hZ] at hown6'
  have JF7 := JF6.setj 4 (.slice (some ⟨w5.heap.size, 0, none⟩) M M)
  simp only [List.setIfInBounds_toArray, List.set_cons_zero, List.set_cons_succ] at JF7
  have hgs := grown_set w6 FB 4 (.slice (some ⟨w5.heap.size, 0, none⟩) M M)
  have HO7 := hide (hown6'.kept hgs (Or.inr (by simp only [Value.ownBlock, ne_eq, Option.some.injEq]; omega)))
  have HW7 := hide (HW6.out.kept hgs (Or.inr (by simp only [Value.ownBlock, ne_eq, Option.some.injEq]; omega)))
  have HB7 := hide (grown_below HB6.out hgs (by omega))
  have hsz7 : (w6.setCell ⟨FB, 4, none⟩ (.slice (some ⟨w5.heap.size, 0, none⟩) M M)).heap.size = w6.heap.size := size_setCell _ _ _
  replace JF7 := hide JF7
  clear z0 z1 z2 z3 z5 z6 z7 z8 z9 z10 z11 z12 z13 z4 JF6 hown6 hown6' hgrow6 hgs HW6 HB6 HB5 HW5 HF5 hZ
  rw [← hsz7]
  generalize w6.setCell ⟨FB, 4, none⟩ (.slice (some ⟨w5.heap.size, 0, none⟩) M M) = w7 at JF7 HO7 HW7 HB7 hsz7 ⊢
  rw [← hsz7] at hG2 hs56
  clear hsz7
  have JS7 := IsB.new w7 #[.int .i64 4, .int .u64 0, .int .i64 0, .bool false, .slice (some ⟨w5.heap.size, 0, none⟩) M M, .int .i64 0, .int .u64 0, .int .i64 0, .int .u64 0, .int .i64 0, .int .i64 0, .int .u64 0, .int .i64 0, .int .u64 0] 34
  have HGa := hide (show Gr w7 (w7.alloc (.cells #[.int .i64 4, .int .u64 0, .int .i64 0, .bool false, .slice (some ⟨w5.heap.size, 0, none⟩) M M, .int .i64 0, .int .u64 0, .int .i64 0, .int .u64 0, .int .i64 0, .int .i64 0, .int .u64 0, .int .i64 0, .int .u64 0] 34)) from (Gr.refl w7).alloc _)
  have hpb := hide (pack_bad w7.heap.size 0 1 1 [] ⟨4, 0, 0, false, some ⟨w5.heap.size, 0, none⟩, M, M, 0, 0, 0, 0, 0, 0, 0, 0, 0⟩ _ (fun i p hp => by simp at hp) (by omega) (by simp) (by simp [allOf]) (fun j _ => by rw [List.length_nil, Nat.zero_mul, Nat.add_zero, Nat.zero_add]; exact JS7.cell j) (fun w' _ => (check_bytes_bad w5.heap.size 0 M M hM2.2 w').mono fun _ _ ⟨h, k⟩ => ⟨h, k.below⟩))
  clear JS7
  have hl7 := JF7.out.lt
  generalize w7.alloc (.cells #[.int .i64 4, .int .u64 0, .int .i64 0, .bool false, .slice (some ⟨w5.heap.size, 0, none⟩) M M, .int .i64 0, .int .u64 0, .int .i64 0, .int .u64 0, .int .i64 0, .int .i64 0, .int .u64 0, .int .i64 0, .int .u64 0] 34) = W7 at hpb HGa ⊢
  refine hpb.out.mono ?_
  rintro e w8 ⟨rfl, hb8⟩
  have hb8' := HGa.out.below.trans (hb8.mono HGa.out.le)
  have JF8 := hide (JF7.out.setB hb8')
  have HO8 := hide (HO7.out.kept (grown_of_below hb8' none) (Or.inr (by simp [Value.ownBlock])))
  have HW8 := hide (HW7.out.kept (grown_of_below hb8' none) (Or.inr (by simp [Value.ownBlock])))
  have HB8 := hide (HB7.out.trans (hb8'.mono HB7.out.size))
  have hs8 := hb8'.size
  clear hpb hb8 hb8' JF7 HO7 HW7 HB7 HGa
  have JF9 := hide (JF8.out.alloc (.cells #[.int .u8 129, .int .u8 128, .int .u8 4] 5))
  have HO9 := hide (HO8.out.alloc (.cells #[.int .u8 129, .int .u8 128, .int .u8 4] 5))
  have HW9 := hide (HW8.out.alloc (.cells #[.int .u8 129, .int .u8 128, .int .u8 4] 5))
  have HB9 := hide (HB8.out.alloc HB8.out.size (.cells #[.int .u8 129, .int .u8 128, .int .u8 4] 5))
  have HT9 := hide (show (w8.alloc (.cells #[.int .u8 129, .int .u8 128, .int .u8 4] 5)).ownsRow w.heap.size 5 1 (.slice (some ⟨w8.heap.size, 0, none⟩) 3 3) 3 (u8s [129, 128, 4]) from World.ownsRow_lit w8 #[.int .u8 129, .int .u8 128, .int .u8 4] 3 HB8.out.size (by unfold maxLen; omega) rfl)
  have c4 : (w8.alloc (.cells #[.int .u8 129, .int .u8 128, .int .u8 4] 5)).cell? ⟨FB, 4, none⟩ = some (.slice (some ⟨w5.heap.size, 0, none⟩) M M) := JF9.out.cell 4
  have hl9 := JF9.out.lt
  have hS : 3 + M ≤ 70000 := by omega
  go_wp2_with (at_builtin; refine append_on rfl (.tmp 41) (.tmp 43) rfl w.heap.size w8.heap.size 3 3 [129, 128, 4] rfl HT9.out ⟨w5.heap.size, 0, none⟩ M M Z2 rfl hZ2l (fun j u hu => HO9.out.cells rfl j u hu) (by omega) HB9.out.size ?_; intro g9 c9 w9 hown9 hgrow9)
  have hg9 := hown9.lt g9 rfl
  have hc9 := own_cap hown9
  have HB10 := hide (grown_below HB9.out hgrow9 (by have := HB8.out.size; omega))
  have HW10 := hide (HW9.out.kept hgrow9 (Or.inr (by simp only [Value.ownBlock, ne_eq, Option.some.injEq]; have := (HW8.out.lt gf rfl).2; omega)))
  have HY10 := hide hown9
  clear hown9 hgrow9 c4 JF9 HO9 HW9 HB9 HT9 JF8 HO8 HW8 HB8
  have I11 := IsB.new w9 #[.int .i64 4] 23
  have HG11 := hide (show Gr w9 (w9.alloc (.cells #[.int .i64 4] 23)) from (Gr.refl w9).alloc _)
  have hlen9 : (129 :: 128 :: 4 :: Z2 : List Int).length = 3 + M := by simp only [List.length_cons, hZ2l]; omega
  have hfr := first_any [4] (129 :: 128 :: 4 :: Z2) (fun k hk => by rw [List.mem_singleton.1 hk]; omega) (by simp) g9 (some ⟨g9, 0, none⟩) c9 (some ⟨w9.heap.size, 0, none⟩) 1 (w9.alloc (.cells #[.int .i64 4] 23)) (HR.out.below (HB10.out.trans (HG11.out.below.mono HB10.out.size)))
    ⟨by rw [hlen9]; exact hc9.1, hc9.2, by rw [hlen9]; omega, (fun c hc => by
      rcases List.mem_cons.1 hc with rfl | hc
      · omega
      rcases List.mem_cons.1 hc with rfl | hc
      · omega
      rcases List.mem_cons.1 hc with rfl | hc
      · omega
      exact hZ2b c hc), by have := HG11.out.le; omega, Or.inr ⟨0, rfl, own_cells (HY10.out.alloc _)⟩⟩
    (fun j k hk => by
      match j, hk with
      | 0, hk => cases hk; exact ⟨_, _, rfl, I11.cell 0⟩)
  rw [hlen9, long_bad] at hfr
  replace hfr := hide hfr
  clear I11
  generalize w9.alloc (.cells #[.int .i64 4] 23) = W11 at HG11 hfr ⊢
  refine hfr.out.mono ?_
  rintro e w12 ⟨rfl, hb12⟩
  have hb12' := HG11.out.below.trans (hb12.mono HG11.out.le)
  have HB12 := hide (HB10.out.trans (hb12'.mono HB10.out.size))
  have hW12 := HW10.out.kept (grown_of_below hb12' none) (Or.inr (by simp [Value.ownBlock]))
  have c12 : w12.cell? ⟨gf, 4, none⟩ = some (.slice (some ⟨gr, 0, none⟩) N cr) := by rw [hW12.cellAt 4 (by omega)]; rfl
  have ha := hide (alive_any w12 (HR.out.below HB12.out))
  clear hfr hb12 hb12' hW12 HW10 HY10 HB10 HG11
  go_wp2_with fail
  refine ha.out.mono ?_; rintro e w13 ⟨rfl, hb13⟩
  have HB13 := hide (HB12.out.trans (hb13.mono HB12.out.size))
  clear hb13
  go_wp2
  go_ret
  exact ⟨rfl, HB13.out⟩

theorem packLong_any (k : Int) (w : World) (hR : Ranks w) : Calls Tryd.prog 4 #[.int .i64 k] w fun e w' => e = .returned (.bool true) ∧ RowKit.Below w.heap.size w w' := by
  by_cases hk : k = 1
  · subst hk; exact packLong_one w hR
  · exact packLong_other k hk w hR

end Go.Proofs.YtjjjpainmldfnaaDoor
