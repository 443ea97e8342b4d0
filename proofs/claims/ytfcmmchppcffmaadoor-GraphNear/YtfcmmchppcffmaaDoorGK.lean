/- Package graph: Beside. -/
import Derived.Test.YtfcmmchppcffmaaDoorGJ
namespace Go.Proofs.YtfcmmchppcffmaaDoor
open Go.RowKit Go.Maps Go.ChangeMaps

theorem results_cct {fn : Func} {p q u : Tmp} {ty ty2 : TypeId} (h : fn.results = #[.cell p ty, .cell q ty2, .tmp u]) (tmps : Array Value) (P : Program) (w : World) :
    (results fn tmps).run P w =
      ((asAddr (tmps.getD p undef)).run P w).andThen fun a w₁ => ((loadVar ty a).run P w₁).andThen fun v w₂ => ((asAddr (tmps.getD q undef)).run P w₂).andThen fun b w₃ => ((loadVar ty2 b).run P w₃).andThen fun y w₄ => .ok (.tuple #[v, y, tmps.getD u undef]) w₄ := by
  simp only [results, h]
  simp [Sem.run_bind, Result.andThen]
theorem ret_rrt {fn : Func} {p q u : Tmp} (hf : fn.results = #[.cell p 30, .cell q 30, .tmp u]) {Q : Ending → World → Prop} {tmps : Array Value} {w : World} {a b : Nat} {cs ds : Array Value} {v : Value} (hs : cs.size = 5) (hs2 : ds.size = 5)
    (hp : tmps.getD p undef = .pointer (some ⟨a, 0, none⟩)) (hq : tmps.getD q undef = .pointer (some ⟨b, 0, none⟩)) (hu : tmps.getD u undef = v) (I : IsB w a cs 30) (J : IsB w b ds 30) (hQ : Q (.returned (.tuple #[.agg cs, .agg ds, v])) w) :
    bodyPost Tryd.prog fn Q .ret ⟨tmps, []⟩ w := by
  refine bodyPost_ret ?_ rfl hQ
  rw [results_cct hf, hp, hq, hu]
  have h := run_loadVar_row (P := Tryd.prog) w a 30 30 cs (0, 0) _ I Tryd.underlying30 rfl (by rw [hs]; exact ref_info)
  have h2 := run_loadVar_row (P := Tryd.prog) w b 30 30 ds (0, 0) _ J Tryd.underlying30 rfl (by rw [hs2]; exact ref_info)
  simp [asAddr, h, h2, Result.andThen]
/-- What Beside answers, of members that make a graph. -/
def besE (h : Int) (u : Vc) (d : Int) (m : List Rf) : Rf × Rf × Int :=
  if (rt u.1 u.2 && decide (u.1 ≤ h)) = true then
    if plI d (rowL h (flt u.1 u m)) < 0 then (zr, zr, 111) else (besL (rowL h (flt u.1 u m)) (plI d (rowL h (flt u.1 u m))).toNat, besR (rowL h (flt u.1 u m)) (plI d (rowL h (flt u.1 u m))).toNat, 0)
  else (zr, zr, 10)
/-- What a sorted row of members keeps of them. -/
theorem perm_ok {h : Int} {l m : List Rf} (hg : okG h l) (hbt : ∀ x ∈ l, 0 ≤ x.bt) (hp : m.Perm l) : ∀ r ∈ m, mayR h r = true ∧ 0 ≤ r.bt := fun r hr => ⟨hg.2.1.1 r (hp.mem_iff.1 hr), hbt r (hp.mem_iff.1 hr)⟩

set_option maxHeartbeats 4000000 in
set_option maxRecDepth 100000 in
theorem beside_bad (h : Int) (x y d : Int) (v : Value) (l : List Rf) (hl : l.length ≤ 1000) (hbt : ∀ r ∈ l, 0 ≤ r.bt) (hg : ¬okG h l) (w : World) (hs : RSl w v l) :
    Calls Tryd.prog 9 #[.int .i64 h, (.agg #[.int .i64 (x), .int .u64 (y)]), .int .i64 d, v] w fun e w' => e = .returned (.tuple #[.agg zr.cells, .agg zr.cells, .int .i64 110]) ∧ Below w.heap.size w w' := by
  have b3 := ((((Below.refl w.heap.size w).alloc (Nat.le_refl _) (.cells #[.int .i64 x, .int .u64 y] 28)).alloc (by simp) (.cells #[.int .i64 0, .int .i64 0, .int .u64 0, .int .i64 0, .int .u64 0] 30)).alloc (by simp; omega) (.cells #[.int .i64 0, .int .i64 0, .int .u64 0, .int .i64 0, .int .u64 0] 30))
  have Vb : Hid (IsB (((w.alloc (.cells #[.int .i64 x, .int .u64 y] 28)).alloc (.cells #[.int .i64 0, .int .i64 0, .int .u64 0, .int .i64 0, .int .u64 0] 30)).alloc (.cells #[.int .i64 0, .int .i64 0, .int .u64 0, .int .i64 0, .int .u64 0] 30)) w.heap.size #[.int .i64 x, .int .u64 y] 28) := ((IsB.new w #[.int .i64 x, .int .u64 y] _).below ((Below.refl _ _).alloc (Nat.le_refl _) _)).below ((Below.refl _ _).alloc (Nat.le_refl _) _)
  have Ab : Hid (IsB (((w.alloc (.cells #[.int .i64 x, .int .u64 y] 28)).alloc (.cells #[.int .i64 0, .int .i64 0, .int .u64 0, .int .i64 0, .int .u64 0] 30)).alloc (.cells #[.int .i64 0, .int .i64 0, .int .u64 0, .int .i64 0, .int .u64 0] 30)) (w.heap.size + 1) #[.int .i64 0, .int .i64 0, .int .u64 0, .int .i64 0, .int .u64 0] 30) := by
    have := IsB.new (w.alloc (.cells #[.int .i64 x, .int .u64 y] 28)) #[.int .i64 0, .int .i64 0, .int .u64 0, .int .i64 0, .int .u64 0] 30
    rw [World.size_alloc] at this
    exact this.below ((Below.refl _ _).alloc (Nat.le_refl _) _)
  have Bb : Hid (IsB (((w.alloc (.cells #[.int .i64 x, .int .u64 y] 28)).alloc (.cells #[.int .i64 0, .int .i64 0, .int .u64 0, .int .i64 0, .int .u64 0] 30)).alloc (.cells #[.int .i64 0, .int .i64 0, .int .u64 0, .int .i64 0, .int .u64 0] 30)) (w.heap.size + 1 + 1) #[.int .i64 0, .int .i64 0, .int .u64 0, .int .i64 0, .int .u64 0] 30) := by
    have := IsB.new ((w.alloc (.cells #[.int .i64 x, .int .u64 y] 28)).alloc (.cells #[.int .i64 0, .int .i64 0, .int .u64 0, .int .i64 0, .int .u64 0] 30)) #[.int .i64 0, .int .i64 0, .int .u64 0, .int .i64 0, .int .u64 0] 30
    rwa [World.size_alloc, World.size_alloc] at this
  have BU := hide (build_any h v l hl hbt _ (hs.below b3))
  have B := hide b3
  clear b3 hs
  go_enter Tryd.func9, Tryd.ntmps9
  go_wp2_with fail
  generalize (((w.alloc (.cells #[.int .i64 x, .int .u64 y] 28)).alloc (.cells #[.int .i64 0, .int .i64 0, .int .u64 0, .int .i64 0, .int .u64 0] 30)).alloc (.cells #[.int .i64 0, .int .i64 0, .int .u64 0, .int .i64 0, .int .u64 0] 30)) = W1 at *
  generalize hH : w.heap.size = H at Vb Ab Bb ⊢
  replace hH := hide hH
  refine BU.out.mono ?_
  rintro e w2 ⟨(⟨h9, -⟩ | ⟨-, rfl⟩), hb⟩
  · exact absurd h9 hg
  replace Ab := hide (Ab.out.below hb)
  replace Bb := hide (Bb.out.below hb)
  replace B := hide (B.out.trans (hb.mono B.out.size))
  clear hb
  unfold gz
  have b4 := (Below.refl w2.heap.size w2).alloc (Nat.le_refl _) (.cells #[.int .i64 0, .int .i64 0, .int .i64 0, .int .u64 0, .int .i64 0, .int .u64 0, .int .i64 0, .int .i64 0, .int .u64 0, .int .i64 0, .int .u64 0, .slice none 0 0] 55)
  replace Ab := hide (Ab.out.below b4)
  replace Bb := hide (Bb.out.below b4)
  replace B := hide (B.out.trans (b4.mono B.out.size))
  clear b4 hg
  have az0 : (w2.alloc (.cells #[.int .i64 0, .int .i64 0, .int .i64 0, .int .u64 0, .int .i64 0, .int .u64 0, .int .i64 0, .int .i64 0, .int .u64 0, .int .i64 0, .int .u64 0, .slice none 0 0] 55)).frozen? ⟨H + 1, 0, none⟩ = false := Ab.out.free 0
  have ac0 : (w2.alloc (.cells #[.int .i64 0, .int .i64 0, .int .i64 0, .int .u64 0, .int .i64 0, .int .u64 0, .int .i64 0, .int .i64 0, .int .u64 0, .int .i64 0, .int .u64 0, .slice none 0 0] 55)).cell? ⟨H + 1, 0, none⟩ = some (.int .i64 0) := Ab.out.cell 0
  have az1 : (w2.alloc (.cells #[.int .i64 0, .int .i64 0, .int .i64 0, .int .u64 0, .int .i64 0, .int .u64 0, .int .i64 0, .int .i64 0, .int .u64 0, .int .i64 0, .int .u64 0, .slice none 0 0] 55)).frozen? ⟨H + 1, 1, none⟩ = false := Ab.out.free 1
  have ac1 : (w2.alloc (.cells #[.int .i64 0, .int .i64 0, .int .i64 0, .int .u64 0, .int .i64 0, .int .u64 0, .int .i64 0, .int .i64 0, .int .u64 0, .int .i64 0, .int .u64 0, .slice none 0 0] 55)).cell? ⟨H + 1, 1, none⟩ = some (.int .i64 0) := Ab.out.cell 1
  have az2 : (w2.alloc (.cells #[.int .i64 0, .int .i64 0, .int .i64 0, .int .u64 0, .int .i64 0, .int .u64 0, .int .i64 0, .int .i64 0, .int .u64 0, .int .i64 0, .int .u64 0, .slice none 0 0] 55)).frozen? ⟨H + 1, 2, none⟩ = false := Ab.out.free 2
  have ac2 : (w2.alloc (.cells #[.int .i64 0, .int .i64 0, .int .i64 0, .int .u64 0, .int .i64 0, .int .u64 0, .int .i64 0, .int .i64 0, .int .u64 0, .int .i64 0, .int .u64 0, .slice none 0 0] 55)).cell? ⟨H + 1, 2, none⟩ = some (.int .u64 0) := Ab.out.cell 2
  have az3 : (w2.alloc (.cells #[.int .i64 0, .int .i64 0, .int .i64 0, .int .u64 0, .int .i64 0, .int .u64 0, .int .i64 0, .int .i64 0, .int .u64 0, .int .i64 0, .int .u64 0, .slice none 0 0] 55)).frozen? ⟨H + 1, 3, none⟩ = false := Ab.out.free 3
  have ac3 : (w2.alloc (.cells #[.int .i64 0, .int .i64 0, .int .i64 0, .int .u64 0, .int .i64 0, .int .u64 0, .int .i64 0, .int .i64 0, .int .u64 0, .int .i64 0, .int .u64 0, .slice none 0 0] 55)).cell? ⟨H + 1, 3, none⟩ = some (.int .i64 0) := Ab.out.cell 3
  have az4 : (w2.alloc (.cells #[.int .i64 0, .int .i64 0, .int .i64 0, .int .u64 0, .int .i64 0, .int .u64 0, .int .i64 0, .int .i64 0, .int .u64 0, .int .i64 0, .int .u64 0, .slice none 0 0] 55)).frozen? ⟨H + 1, 4, none⟩ = false := Ab.out.free 4
  have ac4 : (w2.alloc (.cells #[.int .i64 0, .int .i64 0, .int .i64 0, .int .u64 0, .int .i64 0, .int .u64 0, .int .i64 0, .int .i64 0, .int .u64 0, .int .i64 0, .int .u64 0, .slice none 0 0] 55)).cell? ⟨H + 1, 4, none⟩ = some (.int .u64 0) := Ab.out.cell 4
  have bz0 : (w2.alloc (.cells #[.int .i64 0, .int .i64 0, .int .i64 0, .int .u64 0, .int .i64 0, .int .u64 0, .int .i64 0, .int .i64 0, .int .u64 0, .int .i64 0, .int .u64 0, .slice none 0 0] 55)).frozen? ⟨H + 1 + 1, 0, none⟩ = false := Bb.out.free 0
  have bc0 : (w2.alloc (.cells #[.int .i64 0, .int .i64 0, .int .i64 0, .int .u64 0, .int .i64 0, .int .u64 0, .int .i64 0, .int .i64 0, .int .u64 0, .int .i64 0, .int .u64 0, .slice none 0 0] 55)).cell? ⟨H + 1 + 1, 0, none⟩ = some (.int .i64 0) := Bb.out.cell 0
  have bz1 : (w2.alloc (.cells #[.int .i64 0, .int .i64 0, .int .i64 0, .int .u64 0, .int .i64 0, .int .u64 0, .int .i64 0, .int .i64 0, .int .u64 0, .int .i64 0, .int .u64 0, .slice none 0 0] 55)).frozen? ⟨H + 1 + 1, 1, none⟩ = false := Bb.out.free 1
  have bc1 : (w2.alloc (.cells #[.int .i64 0, .int .i64 0, .int .i64 0, .int .u64 0, .int .i64 0, .int .u64 0, .int .i64 0, .int .i64 0, .int .u64 0, .int .i64 0, .int .u64 0, .slice none 0 0] 55)).cell? ⟨H + 1 + 1, 1, none⟩ = some (.int .i64 0) := Bb.out.cell 1
  have bz2 : (w2.alloc (.cells #[.int .i64 0, .int .i64 0, .int .i64 0, .int .u64 0, .int .i64 0, .int .u64 0, .int .i64 0, .int .i64 0, .int .u64 0, .int .i64 0, .int .u64 0, .slice none 0 0] 55)).frozen? ⟨H + 1 + 1, 2, none⟩ = false := Bb.out.free 2
  have bc2 : (w2.alloc (.cells #[.int .i64 0, .int .i64 0, .int .i64 0, .int .u64 0, .int .i64 0, .int .u64 0, .int .i64 0, .int .i64 0, .int .u64 0, .int .i64 0, .int .u64 0, .slice none 0 0] 55)).cell? ⟨H + 1 + 1, 2, none⟩ = some (.int .u64 0) := Bb.out.cell 2
  have bz3 : (w2.alloc (.cells #[.int .i64 0, .int .i64 0, .int .i64 0, .int .u64 0, .int .i64 0, .int .u64 0, .int .i64 0, .int .i64 0, .int .u64 0, .int .i64 0, .int .u64 0, .slice none 0 0] 55)).frozen? ⟨H + 1 + 1, 3, none⟩ = false := Bb.out.free 3
  have bc3 : (w2.alloc (.cells #[.int .i64 0, .int .i64 0, .int .i64 0, .int .u64 0, .int .i64 0, .int .u64 0, .int .i64 0, .int .i64 0, .int .u64 0, .int .i64 0, .int .u64 0, .slice none 0 0] 55)).cell? ⟨H + 1 + 1, 3, none⟩ = some (.int .i64 0) := Bb.out.cell 3
  have bz4 : (w2.alloc (.cells #[.int .i64 0, .int .i64 0, .int .i64 0, .int .u64 0, .int .i64 0, .int .u64 0, .int .i64 0, .int .i64 0, .int .u64 0, .int .i64 0, .int .u64 0, .slice none 0 0] 55)).frozen? ⟨H + 1 + 1, 4, none⟩ = false := Bb.out.free 4
  have bc4 : (w2.alloc (.cells #[.int .i64 0, .int .i64 0, .int .i64 0, .int .u64 0, .int .i64 0, .int .u64 0, .int .i64 0, .int .i64 0, .int .u64 0, .int .i64 0, .int .u64 0, .slice none 0 0] 55)).cell? ⟨H + 1 + 1, 4, none⟩ = some (.int .u64 0) := Bb.out.cell 4
  have fl := Ab.out.lt
  have fl2 := Bb.out.lt
  go_wp2
  clear az0 ac0 az1 ac1 az2 ac2 az3 ac3 az4 ac4
  clear bz0 bc0 bz1 bc1 bz2 bc2 bz3 bc3 bz4 bc4
  generalize (w2.alloc (.cells #[.int .i64 0, .int .i64 0, .int .i64 0, .int .u64 0, .int .i64 0, .int .u64 0, .int .i64 0, .int .i64 0, .int .u64 0, .int .i64 0, .int .u64 0, .slice none 0 0] 55)) = W4 at *
  have hW : ((((((((((W4.setCell ⟨H + 1, 0, none⟩ (.int .i64 0)).setCell ⟨H + 1, 1, none⟩ (.int .i64 0)).setCell ⟨H + 1, 2, none⟩ (.int .u64 0)).setCell ⟨H + 1, 3, none⟩ (.int .i64 0)).setCell ⟨H + 1, 4, none⟩ (.int .u64 0)).setCell ⟨H + 1 + 1, 0, none⟩ (.int .i64 0)).setCell ⟨H + 1 + 1, 1, none⟩ (.int .i64 0)).setCell ⟨H + 1 + 1, 2, none⟩ (.int .u64 0)).setCell ⟨H + 1 + 1, 3, none⟩ (.int .i64 0)).setCell ⟨H + 1 + 1, 4, none⟩ (.int .u64 0)) = putCells (putCells W4 (H + 1) 0 [.int .i64 0, .int .i64 0, .int .u64 0, .int .i64 0, .int .u64 0]) (H + 1 + 1) 0 [.int .i64 0, .int .i64 0, .int .u64 0, .int .i64 0, .int .u64 0] := rfl
  rw [hW]
  clear hW
  have F1 := putCells_is (cs := [.int .i64 0, .int .i64 0, .int .u64 0, .int .i64 0, .int .u64 0]) Ab.out [.int .i64 0, .int .i64 0, .int .u64 0, .int .i64 0, .int .u64 0] rfl
  have k1 := putCells_kp (H + 1) [.int .i64 0, .int .i64 0, .int .u64 0, .int .i64 0, .int .u64 0] W4 0
  have G1 := Bb.out.kp k1 (by simp)
  have F2 := putCells_is (cs := [.int .i64 0, .int .i64 0, .int .u64 0, .int .i64 0, .int .u64 0]) G1 [.int .i64 0, .int .i64 0, .int .u64 0, .int .i64 0, .int .u64 0] rfl
  have k2 := putCells_kp (H + 1 + 1) [.int .i64 0, .int .i64 0, .int .u64 0, .int .i64 0, .int .u64 0] (putCells W4 (H + 1) 0 [.int .i64 0, .int .i64 0, .int .u64 0, .int .i64 0, .int .u64 0]) 0
  have F3 := F1.kp k2 (by simp)
  refine ret_rrt (p := 8) (q := 9) (u := 10) (a := H + 1) (b := H + 1 + 1) Tryd.results9 rfl rfl rfl rfl rfl F3 F2 ?_
  refine ⟨rfl, ?_⟩
  refine (((Kp.of_below (S := []) B.out).trans k1 (fun j hj => ?_)).trans k2 (fun j hj => ?_)).to_below (Nat.le_refl _) (by simp)
  · simp at hj; right; rw [hj, hH.out]; omega
  · simp at hj; right; rw [hj, hH.out]; omega

set_option maxHeartbeats 4000000 in
set_option maxRecDepth 100000 in
theorem beside_ok (h : Int) (x y d : Int) (hy : 0 ≤ y) (v : Value) (l : List Rf) (hl : l.length ≤ 1000) (hbt : ∀ r ∈ l, 0 ≤ r.bt) (hg : okG h l) (m : List Rf) (hp : m.Perm l) (hso : m.Pairwise keyLt) (w : World) (hs : RSl w v l) :
    Calls Tryd.prog 9 #[.int .i64 h, (.agg #[.int .i64 (x), .int .u64 (y)]), .int .i64 d, v] w fun e w' => e = .returned (.tuple #[.agg (besE h (x, y) d m).1.cells, .agg (besE h (x, y) d m).2.1.cells, .int .i64 (besE h (x, y) d m).2.2]) ∧ Below w.heap.size w w' := by
  have mixed : Tryd.prog.follows .mixedOrders = true := by kernel_rfl
  have HOK := hide (perm_ok hg hbt hp)
  have HG := hide hg
  have hml : m.length ≤ 1000 := by rw [hp.length_eq]; exact hl
  have b3 := ((((Below.refl w.heap.size w).alloc (Nat.le_refl _) (.cells #[.int .i64 x, .int .u64 y] 28)).alloc (by simp) (.cells #[.int .i64 0, .int .i64 0, .int .u64 0, .int .i64 0, .int .u64 0] 30)).alloc (by simp; omega) (.cells #[.int .i64 0, .int .i64 0, .int .u64 0, .int .i64 0, .int .u64 0] 30))
  have Vb : Hid (IsB (((w.alloc (.cells #[.int .i64 x, .int .u64 y] 28)).alloc (.cells #[.int .i64 0, .int .i64 0, .int .u64 0, .int .i64 0, .int .u64 0] 30)).alloc (.cells #[.int .i64 0, .int .i64 0, .int .u64 0, .int .i64 0, .int .u64 0] 30)) w.heap.size #[.int .i64 x, .int .u64 y] 28) := ((IsB.new w #[.int .i64 x, .int .u64 y] _).below ((Below.refl _ _).alloc (Nat.le_refl _) _)).below ((Below.refl _ _).alloc (Nat.le_refl _) _)
  have Ab : Hid (IsB (((w.alloc (.cells #[.int .i64 x, .int .u64 y] 28)).alloc (.cells #[.int .i64 0, .int .i64 0, .int .u64 0, .int .i64 0, .int .u64 0] 30)).alloc (.cells #[.int .i64 0, .int .i64 0, .int .u64 0, .int .i64 0, .int .u64 0] 30)) (w.heap.size + 1) #[.int .i64 0, .int .i64 0, .int .u64 0, .int .i64 0, .int .u64 0] 30) := by
    have := IsB.new (w.alloc (.cells #[.int .i64 x, .int .u64 y] 28)) #[.int .i64 0, .int .i64 0, .int .u64 0, .int .i64 0, .int .u64 0] 30
    rw [World.size_alloc] at this
    exact this.below ((Below.refl _ _).alloc (Nat.le_refl _) _)
  have Bb : Hid (IsB (((w.alloc (.cells #[.int .i64 x, .int .u64 y] 28)).alloc (.cells #[.int .i64 0, .int .i64 0, .int .u64 0, .int .i64 0, .int .u64 0] 30)).alloc (.cells #[.int .i64 0, .int .i64 0, .int .u64 0, .int .i64 0, .int .u64 0] 30)) (w.heap.size + 1 + 1) #[.int .i64 0, .int .i64 0, .int .u64 0, .int .i64 0, .int .u64 0] 30) := by
    have := IsB.new ((w.alloc (.cells #[.int .i64 x, .int .u64 y] 28)).alloc (.cells #[.int .i64 0, .int .i64 0, .int .u64 0, .int .i64 0, .int .u64 0] 30)) #[.int .i64 0, .int .i64 0, .int .u64 0, .int .i64 0, .int .u64 0] 30
    rwa [World.size_alloc, World.size_alloc] at this
  have BU := hide (build_any h v l hl hbt _ (hs.below b3))
  have B := hide b3
  clear b3 hs
  go_enter Tryd.func9, Tryd.ntmps9
  go_wp2_with fail
  generalize (((w.alloc (.cells #[.int .i64 x, .int .u64 y] 28)).alloc (.cells #[.int .i64 0, .int .i64 0, .int .u64 0, .int .i64 0, .int .u64 0] 30)).alloc (.cells #[.int .i64 0, .int .i64 0, .int .u64 0, .int .i64 0, .int .u64 0] 30)) = W1 at *
  generalize hH : w.heap.size = H at Vb Ab Bb ⊢
  replace hH := hide hH
  refine BU.out.mono ?_
  rintro e w2 ⟨(⟨-, a, c, m', rfl, hp', hso', hrw, hnew⟩ | ⟨h9, -⟩), hb⟩
  rotate_left
  · exact absurd HG.out h9
  obtain rfl : m' = m := sorted_one hp' hp hso' hso
  have R2 := hide hrw.rsl
  replace Vb := hide (Vb.out.below hb)
  replace Ab := hide (Ab.out.below hb)
  replace Bb := hide (Bb.out.below hb)
  replace B := hide (B.out.trans (hb.mono B.out.size))
  clear hb hrw hnew hp' hso'
  unfold gcs
  have GBn := hide (IsB.new w2 #[.int .i64 h, .int .i64 0, .int .i64 1, .int .u64 0, .int .i64 h, .int .u64 0, .int .i64 1, .int .i64 3, .int .u64 0, .int .i64 h, .int .u64 0, .slice a m'.length c] 55)
  have b4 := (Below.refl w2.heap.size w2).alloc (Nat.le_refl _) (.cells #[.int .i64 h, .int .i64 0, .int .i64 1, .int .u64 0, .int .i64 h, .int .u64 0, .int .i64 1, .int .i64 3, .int .u64 0, .int .i64 h, .int .u64 0, .slice a m'.length c] 55)
  replace Vb := hide (Vb.out.below b4)
  replace Ab := hide (Ab.out.below b4)
  replace Bb := hide (Bb.out.below b4)
  replace R2 := hide (R2.out.below b4)
  replace B := hide (B.out.trans (b4.mono B.out.size))
  clear b4 BU
  have c0 := Vb.out.cell 0
  have c1 := Vb.out.cell 1
  simp at c0 c1
  generalize hn : m'.length = n at *
  replace hn := hide hn
  go_wp2_with fail
  clear c0 c1
  generalize (w2.alloc (.cells #[.int .i64 h, .int .i64 0, .int .i64 1, .int .u64 0, .int .i64 h, .int .u64 0, .int .i64 1, .int .i64 3, .int .u64 0, .int .i64 h, .int .u64 0, .slice a n c] 55)) = W3 at *
  generalize w2.heap.size = GBk at GBn ⊢
  refine (names_any h a n c x y hy W3).mono ?_
  rintro e w4 ⟨rfl, hb⟩
  replace Vb := hide (Vb.out.below hb)
  replace Ab := hide (Ab.out.below hb)
  replace Bb := hide (Bb.out.below hb)
  replace R2 := hide (R2.out.below hb)
  replace GBn := hide (GBn.out.below hb)
  replace B := hide (B.out.trans (hb.mono B.out.size))
  clear hb
  cases hnm : (rt x y && decide (x ≤ h)) with
  | false =>
    have HE : Hid (besE h (x, y) d m' = (zr, zr, 10)) := by
      show _ = _
      unfold besE
      rw [if_neg (by simp only []; rw [hnm]; simp)]
    have az0 : w4.frozen? ⟨H + 1, 0, none⟩ = false := Ab.out.free 0
    have ac0 : w4.cell? ⟨H + 1, 0, none⟩ = some (.int .i64 0) := Ab.out.cell 0
    have az1 : w4.frozen? ⟨H + 1, 1, none⟩ = false := Ab.out.free 1
    have ac1 : w4.cell? ⟨H + 1, 1, none⟩ = some (.int .i64 0) := Ab.out.cell 1
    have az2 : w4.frozen? ⟨H + 1, 2, none⟩ = false := Ab.out.free 2
    have ac2 : w4.cell? ⟨H + 1, 2, none⟩ = some (.int .u64 0) := Ab.out.cell 2
    have az3 : w4.frozen? ⟨H + 1, 3, none⟩ = false := Ab.out.free 3
    have ac3 : w4.cell? ⟨H + 1, 3, none⟩ = some (.int .i64 0) := Ab.out.cell 3
    have az4 : w4.frozen? ⟨H + 1, 4, none⟩ = false := Ab.out.free 4
    have ac4 : w4.cell? ⟨H + 1, 4, none⟩ = some (.int .u64 0) := Ab.out.cell 4
    have bz0 : w4.frozen? ⟨H + 1 + 1, 0, none⟩ = false := Bb.out.free 0
    have bc0 : w4.cell? ⟨H + 1 + 1, 0, none⟩ = some (.int .i64 0) := Bb.out.cell 0
    have bz1 : w4.frozen? ⟨H + 1 + 1, 1, none⟩ = false := Bb.out.free 1
    have bc1 : w4.cell? ⟨H + 1 + 1, 1, none⟩ = some (.int .i64 0) := Bb.out.cell 1
    have bz2 : w4.frozen? ⟨H + 1 + 1, 2, none⟩ = false := Bb.out.free 2
    have bc2 : w4.cell? ⟨H + 1 + 1, 2, none⟩ = some (.int .u64 0) := Bb.out.cell 2
    have bz3 : w4.frozen? ⟨H + 1 + 1, 3, none⟩ = false := Bb.out.free 3
    have bc3 : w4.cell? ⟨H + 1 + 1, 3, none⟩ = some (.int .i64 0) := Bb.out.cell 3
    have bz4 : w4.frozen? ⟨H + 1 + 1, 4, none⟩ = false := Bb.out.free 4
    have bc4 : w4.cell? ⟨H + 1 + 1, 4, none⟩ = some (.int .u64 0) := Bb.out.cell 4
    have fl := Ab.out.lt
    have fl2 := Bb.out.lt
    go_wp2
    clear az0 ac0 az1 ac1 az2 ac2 az3 ac3 az4 ac4
    clear bz0 bc0 bz1 bc1 bz2 bc2 bz3 bc3 bz4 bc4
    have hW : ((((((((((w4.setCell ⟨H + 1, 0, none⟩ (.int .i64 0)).setCell ⟨H + 1, 1, none⟩ (.int .i64 0)).setCell ⟨H + 1, 2, none⟩ (.int .u64 0)).setCell ⟨H + 1, 3, none⟩ (.int .i64 0)).setCell ⟨H + 1, 4, none⟩ (.int .u64 0)).setCell ⟨H + 1 + 1, 0, none⟩ (.int .i64 0)).setCell ⟨H + 1 + 1, 1, none⟩ (.int .i64 0)).setCell ⟨H + 1 + 1, 2, none⟩ (.int .u64 0)).setCell ⟨H + 1 + 1, 3, none⟩ (.int .i64 0)).setCell ⟨H + 1 + 1, 4, none⟩ (.int .u64 0)) = putCells (putCells w4 (H + 1) 0 [.int .i64 0, .int .i64 0, .int .u64 0, .int .i64 0, .int .u64 0]) (H + 1 + 1) 0 [.int .i64 0, .int .i64 0, .int .u64 0, .int .i64 0, .int .u64 0] := rfl
    rw [hW]
    clear hW
    have F1 := putCells_is (cs := [.int .i64 0, .int .i64 0, .int .u64 0, .int .i64 0, .int .u64 0]) Ab.out [.int .i64 0, .int .i64 0, .int .u64 0, .int .i64 0, .int .u64 0] rfl
    have k1 := putCells_kp (H + 1) [.int .i64 0, .int .i64 0, .int .u64 0, .int .i64 0, .int .u64 0] w4 0
    have G1 := Bb.out.kp k1 (by simp)
    have F2 := putCells_is (cs := [.int .i64 0, .int .i64 0, .int .u64 0, .int .i64 0, .int .u64 0]) G1 [.int .i64 0, .int .i64 0, .int .u64 0, .int .i64 0, .int .u64 0] rfl
    have k2 := putCells_kp (H + 1 + 1) [.int .i64 0, .int .i64 0, .int .u64 0, .int .i64 0, .int .u64 0] (putCells w4 (H + 1) 0 [.int .i64 0, .int .i64 0, .int .u64 0, .int .i64 0, .int .u64 0]) 0
    have F3 := F1.kp k2 (by simp)
    refine ret_rrt (p := 8) (q := 9) (u := 10) (a := H + 1) (b := H + 1 + 1) Tryd.results9 rfl rfl rfl rfl rfl F3 F2 ?_
    refine ⟨by rw [HE.out]; rfl, ?_⟩
    refine (((Kp.of_below (S := []) B.out).trans k1 (fun j hj => ?_)).trans k2 (fun j hj => ?_)).to_below (Nat.le_refl _) (by simp)
    · simp at hj; right; rw [hj, hH.out]; omega
    · simp at hj; right; rw [hj, hH.out]; omega
  | true =>
  have hnm2 := hnm
  rw [Bool.and_eq_true, decide_eq_true_iff] at hnm2
  have RW := row_any h a c m' (by have := hn.out; omega) HOK.out HG.out.1.2 x y hnm2.1 hy hnm2.2 w4 (by rw [hn.out]; exact R2.out)
  rw [hn.out] at RW
  unfold gcs at RW
  replace RW := hide RW
  have HLR : Hid ((rowL h (flt x (x, y) m')).length ≤ 1002) := by
    show _ ≤ _
    rw [rowL_len]
    have := List.length_filter_le (fun r => decide (prV x r = (x, y))) m'
    unfold flt
    have := hn.out
    omega
  have HEQ : Hid (∀ ro, ro = rowL h (flt x (x, y) m') → besE h (x, y) d m' = if plI d ro < 0 then (zr, zr, 111) else (besL ro (plI d ro).toNat, besR ro (plI d ro).toNat, 0)) := fun ro hro => by
    subst hro
    unfold besE
    rw [if_pos (by exact hnm)]
  clear hnm hnm2
  generalize rowL h (flt x (x, y) m') = ro at *
  replace HEQ := hide (HEQ.out ro rfl)
  have c0 := Vb.out.cell 0
  have c1 := Vb.out.cell 1
  simp at c0 c1
  have g0 := GBn.out.cell 0
  have g1 := GBn.out.cell 1
  have g2 := GBn.out.cell 2
  have g3 := GBn.out.cell 3
  have g4 := GBn.out.cell 4
  have g5 := GBn.out.cell 5
  have g6 := GBn.out.cell 6
  have g7 := GBn.out.cell 7
  have g8 := GBn.out.cell 8
  have g9 := GBn.out.cell 9
  have g10 := GBn.out.cell 10
  have g11 := GBn.out.cell 11
  simp at g0 g1 g2 g3 g4 g5 g6 g7 g8 g9 g10 g11
  go_wp2_with fail
  clear c0 c1 g0 g1 g2 g3 g4 g5 g6 g7 g8 g9 g10 g11
  refine RW.out.mono ?_
  rintro e w5 ⟨v5, rfl, hrw, -, hb⟩
  have R5 := hide hrw.rsl
  replace Ab := hide (Ab.out.below hb)
  replace Bb := hide (Bb.out.below hb)
  replace B := hide (B.out.trans (hb.mono B.out.size))
  clear hb hrw RW
  obtain ⟨va, vc, rfl, -, -⟩ := R5.out.shape
  generalize hrn : ro.length = rn at R5 ⊢
  replace hrn := hide hrn
  go_wp2_with fail
  have PL := place_any (.slice va ro.length vc) ro (by have := HLR.out; omega) d w5 (by rw [hrn.out]; exact R5.out)
  rw [hrn.out] at PL
  refine PL.mono ?_
  clear PL
  rintro e w6 ⟨rfl, hb⟩
  replace Ab := hide (Ab.out.below hb)
  replace Bb := hide (Bb.out.below hb)
  replace R5 := hide (R5.out.below hb)
  replace B := hide (B.out.trans (hb.mono B.out.size))
  clear hb
  rcases plI_cases d ro with ⟨hpl, -⟩ | ⟨j, hj, hpl, -⟩
  · have HE : Hid (besE h (x, y) d m' = (zr, zr, 111)) := by
      show _ = _
      rw [HEQ.out, hpl]
      rfl
    rw [hpl]
    have hd : decide ((-1 : Int) < 0) = true := rfl
    have az0 : w6.frozen? ⟨H + 1, 0, none⟩ = false := Ab.out.free 0
    have ac0 : w6.cell? ⟨H + 1, 0, none⟩ = some (.int .i64 0) := Ab.out.cell 0
    have az1 : w6.frozen? ⟨H + 1, 1, none⟩ = false := Ab.out.free 1
    have ac1 : w6.cell? ⟨H + 1, 1, none⟩ = some (.int .i64 0) := Ab.out.cell 1
    have az2 : w6.frozen? ⟨H + 1, 2, none⟩ = false := Ab.out.free 2
    have ac2 : w6.cell? ⟨H + 1, 2, none⟩ = some (.int .u64 0) := Ab.out.cell 2
    have az3 : w6.frozen? ⟨H + 1, 3, none⟩ = false := Ab.out.free 3
    have ac3 : w6.cell? ⟨H + 1, 3, none⟩ = some (.int .i64 0) := Ab.out.cell 3
    have az4 : w6.frozen? ⟨H + 1, 4, none⟩ = false := Ab.out.free 4
    have ac4 : w6.cell? ⟨H + 1, 4, none⟩ = some (.int .u64 0) := Ab.out.cell 4
    have bz0 : w6.frozen? ⟨H + 1 + 1, 0, none⟩ = false := Bb.out.free 0
    have bc0 : w6.cell? ⟨H + 1 + 1, 0, none⟩ = some (.int .i64 0) := Bb.out.cell 0
    have bz1 : w6.frozen? ⟨H + 1 + 1, 1, none⟩ = false := Bb.out.free 1
    have bc1 : w6.cell? ⟨H + 1 + 1, 1, none⟩ = some (.int .i64 0) := Bb.out.cell 1
    have bz2 : w6.frozen? ⟨H + 1 + 1, 2, none⟩ = false := Bb.out.free 2
    have bc2 : w6.cell? ⟨H + 1 + 1, 2, none⟩ = some (.int .u64 0) := Bb.out.cell 2
    have bz3 : w6.frozen? ⟨H + 1 + 1, 3, none⟩ = false := Bb.out.free 3
    have bc3 : w6.cell? ⟨H + 1 + 1, 3, none⟩ = some (.int .i64 0) := Bb.out.cell 3
    have bz4 : w6.frozen? ⟨H + 1 + 1, 4, none⟩ = false := Bb.out.free 4
    have bc4 : w6.cell? ⟨H + 1 + 1, 4, none⟩ = some (.int .u64 0) := Bb.out.cell 4
    have fl := Ab.out.lt
    have fl2 := Bb.out.lt
    go_wp2
    clear az0 ac0 az1 ac1 az2 ac2 az3 ac3 az4 ac4
    clear bz0 bc0 bz1 bc1 bz2 bc2 bz3 bc3 bz4 bc4
    have hW : ((((((((((w6.setCell ⟨H + 1, 0, none⟩ (.int .i64 0)).setCell ⟨H + 1, 1, none⟩ (.int .i64 0)).setCell ⟨H + 1, 2, none⟩ (.int .u64 0)).setCell ⟨H + 1, 3, none⟩ (.int .i64 0)).setCell ⟨H + 1, 4, none⟩ (.int .u64 0)).setCell ⟨H + 1 + 1, 0, none⟩ (.int .i64 0)).setCell ⟨H + 1 + 1, 1, none⟩ (.int .i64 0)).setCell ⟨H + 1 + 1, 2, none⟩ (.int .u64 0)).setCell ⟨H + 1 + 1, 3, none⟩ (.int .i64 0)).setCell ⟨H + 1 + 1, 4, none⟩ (.int .u64 0)) = putCells (putCells w6 (H + 1) 0 [.int .i64 0, .int .i64 0, .int .u64 0, .int .i64 0, .int .u64 0]) (H + 1 + 1) 0 [.int .i64 0, .int .i64 0, .int .u64 0, .int .i64 0, .int .u64 0] := rfl
    rw [hW]
    clear hW
    have F1 := putCells_is (cs := [.int .i64 0, .int .i64 0, .int .u64 0, .int .i64 0, .int .u64 0]) Ab.out [.int .i64 0, .int .i64 0, .int .u64 0, .int .i64 0, .int .u64 0] rfl
    have k1 := putCells_kp (H + 1) [.int .i64 0, .int .i64 0, .int .u64 0, .int .i64 0, .int .u64 0] w6 0
    have G1 := Bb.out.kp k1 (by simp)
    have F2 := putCells_is (cs := [.int .i64 0, .int .i64 0, .int .u64 0, .int .i64 0, .int .u64 0]) G1 [.int .i64 0, .int .i64 0, .int .u64 0, .int .i64 0, .int .u64 0] rfl
    have k2 := putCells_kp (H + 1 + 1) [.int .i64 0, .int .i64 0, .int .u64 0, .int .i64 0, .int .u64 0] (putCells w6 (H + 1) 0 [.int .i64 0, .int .i64 0, .int .u64 0, .int .i64 0, .int .u64 0]) 0
    have F3 := F1.kp k2 (by simp)
    refine ret_rrt (p := 8) (q := 9) (u := 10) (a := H + 1) (b := H + 1 + 1) Tryd.results9 rfl rfl rfl rfl rfl F3 F2 ?_
    refine ⟨by rw [HE.out]; rfl, ?_⟩
    refine (((Kp.of_below (S := []) B.out).trans k1 (fun j hj => ?_)).trans k2 (fun j hj => ?_)).to_below (Nat.le_refl _) (by simp)
    · simp at hj; right; rw [hj, hH.out]; omega
    · simp at hj; right; rw [hj, hH.out]; omega
  · have HE : Hid (besE h (x, y) d m' = (besL ro j, besR ro j, 0)) := by
      show _ = _
      rw [HEQ.out, hpl, if_neg (by omega)]
      simp
    rw [hpl]
    have hd : decide ((j : Int) < 0) = false := by simp
    have BE := beside_any (.slice va ro.length vc) ro (by have := HLR.out; omega) j hj w6 (by rw [hrn.out]; exact R5.out)
    rw [hrn.out] at BE
    replace BE := hide BE
    go_wp2_with fail
    refine BE.out.mono ?_
    rintro e w7 ⟨rfl, hb⟩
    replace Ab := hide (Ab.out.below hb)
    replace Bb := hide (Bb.out.below hb)
    replace B := hide (B.out.trans (hb.mono B.out.size))
    clear hb BE HEQ
    generalize besL ro j = L1 at *
    generalize besR ro j = L2 at *
    obtain ⟨p0, p1, p2, p3, p4⟩ := L1
    obtain ⟨q0, q1, q2, q3, q4⟩ := L2
    simp only [Rf.cells] at HE ⊢
    have hAL : Hid (H + 1 + 1 < w7.heap.size) := Bb.out.lt
    have b8 := ((Below.refl w7.heap.size w7).alloc (Nat.le_refl _) (.cells #[.int .i64 p0, .int .i64 p1, .int .u64 p2, .int .i64 p3, .int .u64 p4] 30)).alloc (by simp) (.cells #[.int .i64 q0, .int .i64 q1, .int .u64 q2, .int .i64 q3, .int .u64 q4] 30)
    have Lb : Hid (IsB ((w7.alloc (.cells #[.int .i64 p0, .int .i64 p1, .int .u64 p2, .int .i64 p3, .int .u64 p4] 30)).alloc (.cells #[.int .i64 q0, .int .i64 q1, .int .u64 q2, .int .i64 q3, .int .u64 q4] 30)) w7.heap.size #[.int .i64 p0, .int .i64 p1, .int .u64 p2, .int .i64 p3, .int .u64 p4] 30) := (IsB.new w7 #[.int .i64 p0, .int .i64 p1, .int .u64 p2, .int .i64 p3, .int .u64 p4] _).below ((Below.refl _ _).alloc (Nat.le_refl _) _)
    have Mb : Hid (IsB ((w7.alloc (.cells #[.int .i64 p0, .int .i64 p1, .int .u64 p2, .int .i64 p3, .int .u64 p4] 30)).alloc (.cells #[.int .i64 q0, .int .i64 q1, .int .u64 q2, .int .i64 q3, .int .u64 q4] 30)) (w7.heap.size + 1) #[.int .i64 q0, .int .i64 q1, .int .u64 q2, .int .i64 q3, .int .u64 q4] 30) := by
      have := IsB.new (w7.alloc (.cells #[.int .i64 p0, .int .i64 p1, .int .u64 p2, .int .i64 p3, .int .u64 p4] 30)) #[.int .i64 q0, .int .i64 q1, .int .u64 q2, .int .i64 q3, .int .u64 q4] 30
      rwa [World.size_alloc] at this
    replace Ab := hide (Ab.out.below b8)
    replace Bb := hide (Bb.out.below b8)
    replace B := hide (B.out.trans (b8.mono B.out.size))
    clear b8
    go_wp2_with fail
    generalize ((w7.alloc (.cells #[.int .i64 p0, .int .i64 p1, .int .u64 p2, .int .i64 p3, .int .u64 p4] 30)).alloc (.cells #[.int .i64 q0, .int .i64 q1, .int .u64 q2, .int .i64 q3, .int .u64 q4] 30)) = W8 at *
    generalize w7.heap.size = LB at Lb Mb hAL ⊢
    replace Ab := hide (Ab.out.below (((Below.refl W8.heap.size W8).drew)))
    replace Bb := hide (Bb.out.below (((Below.refl W8.heap.size W8).drew)))
    replace Lb := hide (Lb.out.below (((Below.refl W8.heap.size W8).drew)))
    replace Mb := hide (Mb.out.below (((Below.refl W8.heap.size W8).drew)))
    replace B := hide (B.out.trans ((((Below.refl W8.heap.size W8).drew)).mono B.out.size))
    refine regionL 5 (fun w' => IsB w' LB #[.int .i64 p0, .int .i64 p1, .int .u64 p2, .int .i64 p3, .int .u64 p4] 30 ∧ IsB w' (LB + 1) #[.int .i64 q0, .int .i64 q1, .int .u64 q2, .int .i64 q3, .int .u64 q4] 30) mixed ⟨Lb.out, Mb.out⟩ (fun hHeld => ?_)
    generalize W8.drew = WD at *
    refine pickL (v := .agg #[.int .i64 p0, .int .i64 p1, .int .u64 p2, .int .i64 p3, .int .u64 p4]) 0 (some 50) rfl rfl (by kernel_rfl) (by kernel_rfl) (by kernel_rfl) (by decide) (by kernel_rfl) (by kernel_rfl) (fun _ _ _ h => h) (by rfl) ?_ (by assumption) ?_
    · intro w' hSw
      obtain ⟨z0, z1⟩ := hSw
      exact exec_load rfl rfl (load_ref z0 rfl)
    try simp only [Act.put, List.setIfInBounds_toArray, List.set_cons_zero, List.set_cons_succ]
    refine pickL (v := .agg #[.int .i64 q0, .int .i64 q1, .int .u64 q2, .int .i64 q3, .int .u64 q4]) 1 (some 51) rfl rfl (by kernel_rfl) (by kernel_rfl) (by kernel_rfl) (by decide) (by kernel_rfl) (by kernel_rfl) (fun _ _ _ h => h) (by rfl) ?_ (by assumption) ?_
    · intro w' hSw
      obtain ⟨z0, z1⟩ := hSw
      exact exec_load rfl rfl (load_ref z1 rfl)
    try simp only [Act.put, List.setIfInBounds_toArray, List.set_cons_zero, List.set_cons_succ]
    refine oneL (i := 2) (by kernel_rfl) rfl (fun K hK => ?_)
    obtain ⟨w9, hst, I9, k9⟩ := store_ref Ab.out (cs := #[.int .i64 p0, .int .i64 p1, .int .u64 p2, .int .i64 p3, .int .u64 p4]) rfl rfl (by kernel_rfl)
    replace Lb := hide (Lb.out.kp k9 (by simp; have := hAL.out; omega))
    replace Mb := hide (Mb.out.kp k9 (by simp; have := hAL.out; omega))
    have B9 := hide (Bb.out.kp k9 (by simp))
    have K9 : Hid (Below w.heap.size w w9) := B.out.trans (k9.to_below (by have := B.out.size; omega) (by simp; have := hH.out; omega))
    have HST := hide hst
    have I9h := hide I9
    clear hst I9 k9
    refine step_store_w rfl 30 (.tmp 8) (.tmp 50) rfl rfl rfl HST.out ?_
    refine hK.out _ _ ?_ ?_
    · exact ⟨Lb.out, Mb.out⟩
    clear hK K
    try simp only [Act.put, List.setIfInBounds_toArray]
    clear hHeld
    have hHeld : (fun w' => IsB w' LB #[.int .i64 p0, .int .i64 p1, .int .u64 p2, .int .i64 p3, .int .u64 p4] 30 ∧ IsB w' (LB + 1) #[.int .i64 q0, .int .i64 q1, .int .u64 q2, .int .i64 q3, .int .u64 q4] 30) w9 := ⟨Lb.out, Mb.out⟩
    refine oneL (i := 3) (by kernel_rfl) rfl (fun K hK => ?_)
    obtain ⟨w10, hst, J9, k9⟩ := store_ref B9.out (cs := #[.int .i64 q0, .int .i64 q1, .int .u64 q2, .int .i64 q3, .int .u64 q4]) rfl rfl (by kernel_rfl)
    have I10 := hide (I9h.out.kp k9 (by simp))
    have K10 : Hid (Below w.heap.size w w10) := K9.out.trans (k9.to_below (by have := K9.out.size; omega) (by simp; have := hH.out; omega))
    have HST2 := hide hst
    have J10 := hide J9
    replace Lb := hide (Lb.out.kp k9 (by simp; have := hAL.out; omega))
    replace Mb := hide (Mb.out.kp k9 (by simp; have := hAL.out; omega))
    clear hst J9 k9
    refine step_store_w rfl 30 (.tmp 9) (.tmp 51) rfl rfl rfl HST2.out ?_
    refine hK.out _ _ ?_ ?_
    · exact ⟨Lb.out, Mb.out⟩
    clear hK K
    try simp only [Act.put]
    clear hHeld
    have hHeld : (fun w' => IsB w' LB #[.int .i64 p0, .int .i64 p1, .int .u64 p2, .int .i64 p3, .int .u64 p4] 30 ∧ IsB w' (LB + 1) #[.int .i64 q0, .int .i64 q1, .int .u64 q2, .int .i64 q3, .int .u64 q4] 30) w10 := ⟨Lb.out, Mb.out⟩
    refine pickA (v := ?_) 4 (some 10) rfl rfl (by kernel_rfl) (by kernel_rfl) (by kernel_rfl) (by decide) (fun _ _ _ h => h) (by rfl) ?_ (by assumption) ?_
    rotate_left
    · intro w'
      go_simp
      try with_reducible rfl
    try simp only [Act.put]
    refine doneL (by kernel_rfl) ?_ _
    clear hHeld
    go_wp2
    refine ret_rrt (p := 8) (q := 9) (u := 10) (a := H + 1) (b := H + 1 + 1) Tryd.results9 rfl rfl rfl rfl rfl I10.out J10.out ?_
    exact ⟨by rw [HE.out]; rfl, K10.out⟩

end Go.Proofs.YtfcmmchppcffmaaDoor
