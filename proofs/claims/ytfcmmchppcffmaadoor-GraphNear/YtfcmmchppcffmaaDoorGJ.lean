/- Package graph: ended, row, names. -/
import Derived.Test.YtfcmmchppcffmaaDoorGI
namespace Go.Proofs.YtfcmmchppcffmaaDoor
open Go.RowKit Go.Maps Go.ChangeMaps

def hdR (h : Int) : Rf := ⟨0, 1, 0, h, 0⟩
def tlR (h : Int) : Rf := ⟨1, 3, 0, h, 0⟩
/-- A list with its ends. -/
def rowL (h : Int) (m : List Rf) : List Rf := hdR h :: (m ++ [tlR h])
theorem rowL_len (h : Int) (m : List Rf) : (rowL h m).length = m.length + 2 := by simp [rowL]
theorem load_gr {w : World} {b : Nat} {cs : Array Value} (I : IsB w b cs 55) (hs : cs.size = 12) : (Instr.loadAt 55 (.pointer (some ⟨b, 0, none⟩))).run Tryd.prog w = .ok (.agg cs) w := by
  have h := run_loadVar_row (P := Tryd.prog) w b 55 55 cs (0, 0) _ I Tryd.underlying55 rfl (by rw [hs]; exact gr_info)
  simp only [Instr.loadAt, Instr.sureAddr, Sem.run_bind, Sem.run_pure, Result.andThen_ok, h]
theorem load_vec {w : World} {b : Nat} {cs : Array Value} (I : IsB w b cs 28) (hs : cs.size = 2) : (Instr.loadAt 28 (.pointer (some ⟨b, 0, none⟩))).run Tryd.prog w = .ok (.agg cs) w := by
  have h := run_loadVar_row (P := Tryd.prog) w b 28 28 cs (0, 0) _ I Tryd.underlying28 rfl (by rw [hs]; exact vec_info)
  simp only [Instr.loadAt, Instr.sureAddr, Sem.run_bind, Sem.run_pure, Result.andThen_ok, h]
theorem IsB.rsl {w : World} {b : Nat} {x : Rf} (I : IsB w b x.cells 30) : RSl w (.slice (some ⟨b, 0, none⟩) 1 1) [x] := by
  refine Or.inr ⟨b, 0, 1, rfl, by simp, by unfold maxLen; omega, I.lt, fun j u hu => ?_⟩
  rw [Nat.zero_add, I.cell j, ← hu]
  simp [Rf.cells, rfs]

set_option maxHeartbeats 2000000 in
set_option maxRecDepth 100000 in
theorem ended_any (h : Int) (a : Option Addr) (n c : Nat) (va : Option Addr) (vc : Nat) (m : List Rf) (hl : m.length ≤ 1000) (w : World) (hs : RSl w (.slice va m.length vc) m) :
    Calls Tryd.prog 30 #[.agg (gcs h a n c), .slice va m.length vc] w fun e w' => ∃ v', e = .returned v' ∧ Rw w' 30 5 v' (rowL h m).length (rfs (rowL h m)) ∧ (∀ k, v'.ownBlock = some k → w.heap.size ≤ k) ∧ Below w.heap.size w w' := by
  unfold gcs
  obtain ⟨vn, hvn⟩ : ∃ z, m.length = z := ⟨_, rfl⟩
  rw [hvn]
  have b1 := (Below.refl w.heap.size w).alloc (Nat.le_refl _) (.cells #[.int .i64 h, .int .i64 0, .int .i64 1, .int .u64 0, .int .i64 h, .int .u64 0, .int .i64 1, .int .i64 3, .int .u64 0, .int .i64 h, .int .u64 0, .slice a n c] 55)
  have b2 := b1.alloc (by simp) (.cells #[.int .i64 0, .int .i64 1, .int .u64 0, .int .i64 h, .int .u64 0] 30)
  have b3 := b2.alloc (by simp; omega) (.cells #[.int .i64 1, .int .i64 3, .int .u64 0, .int .i64 h, .int .u64 0] 30)
  have b4 := b3.alloc (by simp; omega) (.cells #[.slice (some ⟨w.heap.size + 1, 0, none⟩) 1 1, .slice va vn vc, .slice (some ⟨w.heap.size + 1 + 1, 0, none⟩) 1 1] 22)
  have hA : IsB ((((w.alloc (.cells #[.int .i64 h, .int .i64 0, .int .i64 1, .int .u64 0, .int .i64 h, .int .u64 0, .int .i64 1, .int .i64 3, .int .u64 0, .int .i64 h, .int .u64 0, .slice a n c] 55)).alloc (.cells #[.int .i64 0, .int .i64 1, .int .u64 0, .int .i64 h, .int .u64 0] 30)).alloc (.cells #[.int .i64 1, .int .i64 3, .int .u64 0, .int .i64 h, .int .u64 0] 30)).alloc (.cells #[.slice (some ⟨w.heap.size + 1, 0, none⟩) 1 1, .slice va vn vc, .slice (some ⟨w.heap.size + 1 + 1, 0, none⟩) 1 1] 22)) (w.heap.size + 1) (hdR h).cells 30 := by
    have := IsB.new (w.alloc (.cells #[.int .i64 h, .int .i64 0, .int .i64 1, .int .u64 0, .int .i64 h, .int .u64 0, .int .i64 1, .int .i64 3, .int .u64 0, .int .i64 h, .int .u64 0, .slice a n c] 55)) #[.int .i64 0, .int .i64 1, .int .u64 0, .int .i64 h, .int .u64 0] 30
    rw [World.size_alloc] at this
    exact (this.below ((Below.refl _ _).alloc (Nat.le_refl _) _)).below ((Below.refl _ _).alloc (Nat.le_refl _) _)
  have hB : IsB ((((w.alloc (.cells #[.int .i64 h, .int .i64 0, .int .i64 1, .int .u64 0, .int .i64 h, .int .u64 0, .int .i64 1, .int .i64 3, .int .u64 0, .int .i64 h, .int .u64 0, .slice a n c] 55)).alloc (.cells #[.int .i64 0, .int .i64 1, .int .u64 0, .int .i64 h, .int .u64 0] 30)).alloc (.cells #[.int .i64 1, .int .i64 3, .int .u64 0, .int .i64 h, .int .u64 0] 30)).alloc (.cells #[.slice (some ⟨w.heap.size + 1, 0, none⟩) 1 1, .slice va vn vc, .slice (some ⟨w.heap.size + 1 + 1, 0, none⟩) 1 1] 22)) (w.heap.size + 1 + 1) (tlR h).cells 30 := by
    have := IsB.new ((w.alloc (.cells #[.int .i64 h, .int .i64 0, .int .i64 1, .int .u64 0, .int .i64 h, .int .u64 0, .int .i64 1, .int .i64 3, .int .u64 0, .int .i64 h, .int .u64 0, .slice a n c] 55)).alloc (.cells #[.int .i64 0, .int .i64 1, .int .u64 0, .int .i64 h, .int .u64 0] 30)) #[.int .i64 1, .int .i64 3, .int .u64 0, .int .i64 h, .int .u64 0] 30
    rw [World.size_alloc, World.size_alloc] at this
    exact this.below ((Below.refl _ _).alloc (Nat.le_refl _) _)
  have hP : IsB ((((w.alloc (.cells #[.int .i64 h, .int .i64 0, .int .i64 1, .int .u64 0, .int .i64 h, .int .u64 0, .int .i64 1, .int .i64 3, .int .u64 0, .int .i64 h, .int .u64 0, .slice a n c] 55)).alloc (.cells #[.int .i64 0, .int .i64 1, .int .u64 0, .int .i64 h, .int .u64 0] 30)).alloc (.cells #[.int .i64 1, .int .i64 3, .int .u64 0, .int .i64 h, .int .u64 0] 30)).alloc (.cells #[.slice (some ⟨w.heap.size + 1, 0, none⟩) 1 1, .slice va vn vc, .slice (some ⟨w.heap.size + 1 + 1, 0, none⟩) 1 1] 22)) (w.heap.size + 1 + 1 + 1) #[.slice (some ⟨w.heap.size + 1, 0, none⟩) 1 1, .slice va vn vc, .slice (some ⟨w.heap.size + 1 + 1, 0, none⟩) 1 1] 22 := by
    have := IsB.new (((w.alloc (.cells #[.int .i64 h, .int .i64 0, .int .i64 1, .int .u64 0, .int .i64 h, .int .u64 0, .int .i64 1, .int .i64 3, .int .u64 0, .int .i64 h, .int .u64 0, .slice a n c] 55)).alloc (.cells #[.int .i64 0, .int .i64 1, .int .u64 0, .int .i64 h, .int .u64 0] 30)).alloc (.cells #[.int .i64 1, .int .i64 3, .int .u64 0, .int .i64 h, .int .u64 0] 30)) #[.slice (some ⟨w.heap.size + 1, 0, none⟩) 1 1, .slice va vn vc, .slice (some ⟨w.heap.size + 1 + 1, 0, none⟩) 1 1] 22
    rwa [World.size_alloc, World.size_alloc, World.size_alloc] at this
  have hfl : ((([(some ⟨w.heap.size + 1, 0, none⟩, 1, [hdR h]), (va, vc, m), (some ⟨w.heap.size + 1 + 1, 0, none⟩, 1, [tlR h])] : Ps).map (·.2.2)).flatten) = rowL h m := by simp [rowL]
  have CC := concat_any (w.heap.size + 1 + 1 + 1) [(some ⟨w.heap.size + 1, 0, none⟩, 1, [hdR h]), (va, vc, m), (some ⟨w.heap.size + 1 + 1, 0, none⟩, 1, [tlR h])] (by simp) (by rw [hfl, rowL_len]; omega) (by rw [hfl, rowL_len]; omega) _ (by
      have e : psv [(some ⟨w.heap.size + 1, 0, none⟩, 1, [hdR h]), (va, vc, m), (some ⟨w.heap.size + 1 + 1, 0, none⟩, 1, [tlR h])] = #[.slice (some ⟨w.heap.size + 1, 0, none⟩) 1 1, .slice va vn vc, .slice (some ⟨w.heap.size + 1 + 1, 0, none⟩) 1 1] := by simp [psv, hvn]
      rw [e]
      exact hP) (fun p hp => by
      simp at hp
      rcases hp with rfl | rfl | rfl
      · exact hA.rsl
      · exact hs.below b4
      · exact hB.rsl)
  rw [hfl] at CC
  have CCH : Hid (Calls Tryd.prog 49 #[.slice (some ⟨w.heap.size + 1 + 1 + 1, 0, none⟩) 3 3] ((((w.alloc (.cells #[.int .i64 h, .int .i64 0, .int .i64 1, .int .u64 0, .int .i64 h, .int .u64 0, .int .i64 1, .int .i64 3, .int .u64 0, .int .i64 h, .int .u64 0, .slice a n c] 55)).alloc (.cells #[.int .i64 0, .int .i64 1, .int .u64 0, .int .i64 h, .int .u64 0] 30)).alloc (.cells #[.int .i64 1, .int .i64 3, .int .u64 0, .int .i64 h, .int .u64 0] 30)).alloc (.cells #[.slice (some ⟨w.heap.size + 1, 0, none⟩) 1 1, .slice va vn vc, .slice (some ⟨w.heap.size + 1 + 1, 0, none⟩) 1 1] 22)) fun e w' => ∃ v', e = .returned v' ∧ Rw w' 30 5 v' (rowL h m).length (rfs (rowL h m)) ∧ (∀ k, v'.ownBlock = some k → ((((w.alloc (.cells #[.int .i64 h, .int .i64 0, .int .i64 1, .int .u64 0, .int .i64 h, .int .u64 0, .int .i64 1, .int .i64 3, .int .u64 0, .int .i64 h, .int .u64 0, .slice a n c] 55)).alloc (.cells #[.int .i64 0, .int .i64 1, .int .u64 0, .int .i64 h, .int .u64 0] 30)).alloc (.cells #[.int .i64 1, .int .i64 3, .int .u64 0, .int .i64 h, .int .u64 0] 30)).alloc (.cells #[.slice (some ⟨w.heap.size + 1, 0, none⟩) 1 1, .slice va vn vc, .slice (some ⟨w.heap.size + 1 + 1, 0, none⟩) 1 1] 22)).heap.size ≤ k) ∧ Below ((((w.alloc (.cells #[.int .i64 h, .int .i64 0, .int .i64 1, .int .u64 0, .int .i64 h, .int .u64 0, .int .i64 1, .int .i64 3, .int .u64 0, .int .i64 h, .int .u64 0, .slice a n c] 55)).alloc (.cells #[.int .i64 0, .int .i64 1, .int .u64 0, .int .i64 h, .int .u64 0] 30)).alloc (.cells #[.int .i64 1, .int .i64 3, .int .u64 0, .int .i64 h, .int .u64 0] 30)).alloc (.cells #[.slice (some ⟨w.heap.size + 1, 0, none⟩) 1 1, .slice va vn vc, .slice (some ⟨w.heap.size + 1 + 1, 0, none⟩) 1 1] 22)).heap.size ((((w.alloc (.cells #[.int .i64 h, .int .i64 0, .int .i64 1, .int .u64 0, .int .i64 h, .int .u64 0, .int .i64 1, .int .i64 3, .int .u64 0, .int .i64 h, .int .u64 0, .slice a n c] 55)).alloc (.cells #[.int .i64 0, .int .i64 1, .int .u64 0, .int .i64 h, .int .u64 0] 30)).alloc (.cells #[.int .i64 1, .int .i64 3, .int .u64 0, .int .i64 h, .int .u64 0] 30)).alloc (.cells #[.slice (some ⟨w.heap.size + 1, 0, none⟩) 1 1, .slice va vn vc, .slice (some ⟨w.heap.size + 1 + 1, 0, none⟩) 1 1] 22)) w') := CC
  have B4 := hide b4
  clear CC hfl hA hB hP b1 b2 b3 b4 hs
  go_enter Tryd.func30, Tryd.ntmps30
  go_wp2_with fail
  refine CCH.out.mono ?_
  rintro e w2 ⟨v2, rfl, hrw, hnew, hb⟩
  have R2 := hide hrw
  have N2 : Hid (∀ k, v2.ownBlock = some k → w.heap.size ≤ k) := fun k hk => Nat.le_trans B4.out.size (hnew k hk)
  have B2 := hide (B4.out.trans (hb.mono B4.out.size))
  clear hrw hnew hb CCH
  go_wp2
  go_ret
  exact ⟨_, rfl, R2.out, N2.out, B2.out⟩

set_option maxHeartbeats 2000000 in
set_option maxRecDepth 100000 in
theorem names_any (h : Int) (a : Option Addr) (n c : Nat) (x y : Int) (hy : 0 ≤ y) (w : World) : Calls Tryd.prog 22 #[.agg (gcs h a n c), (.agg #[.int .i64 (x), .int .u64 (y)])] w fun e w' => e = .returned (.bool (rt x y && decide (x ≤ h))) ∧ Below w.heap.size w w' := by
  unfold gcs
  have b2 := ((Below.refl w.heap.size w).alloc (Nat.le_refl _) (.cells #[.int .i64 h, .int .i64 0, .int .i64 1, .int .u64 0, .int .i64 h, .int .u64 0, .int .i64 1, .int .i64 3, .int .u64 0, .int .i64 h, .int .u64 0, .slice a n c] 55)).alloc (by simp) (.cells #[.int .i64 x, .int .u64 y] 28)
  have Gb : Hid (IsB ((w.alloc (.cells #[.int .i64 h, .int .i64 0, .int .i64 1, .int .u64 0, .int .i64 h, .int .u64 0, .int .i64 1, .int .i64 3, .int .u64 0, .int .i64 h, .int .u64 0, .slice a n c] 55)).alloc (.cells #[.int .i64 x, .int .u64 y] 28)) w.heap.size #[.int .i64 h, .int .i64 0, .int .i64 1, .int .u64 0, .int .i64 h, .int .u64 0, .int .i64 1, .int .i64 3, .int .u64 0, .int .i64 h, .int .u64 0, .slice a n c] 55) := (IsB.new w #[.int .i64 h, .int .i64 0, .int .i64 1, .int .u64 0, .int .i64 h, .int .u64 0, .int .i64 1, .int .i64 3, .int .u64 0, .int .i64 h, .int .u64 0, .slice a n c] _).below ((Below.refl _ _).alloc (Nat.le_refl _) _)
  have Vb : Hid (IsB ((w.alloc (.cells #[.int .i64 h, .int .i64 0, .int .i64 1, .int .u64 0, .int .i64 h, .int .u64 0, .int .i64 1, .int .i64 3, .int .u64 0, .int .i64 h, .int .u64 0, .slice a n c] 55)).alloc (.cells #[.int .i64 x, .int .u64 y] 28)) (w.heap.size + 1) #[.int .i64 x, .int .u64 y] 28) := by
    have := IsB.new (w.alloc (.cells #[.int .i64 h, .int .i64 0, .int .i64 1, .int .u64 0, .int .i64 h, .int .u64 0, .int .i64 1, .int .i64 3, .int .u64 0, .int .i64 h, .int .u64 0, .slice a n c] 55)) #[.int .i64 x, .int .u64 y] 28
    rwa [World.size_alloc] at this
  have VR := hide (vright_any x y hy ((w.alloc (.cells #[.int .i64 h, .int .i64 0, .int .i64 1, .int .u64 0, .int .i64 h, .int .u64 0, .int .i64 1, .int .i64 3, .int .u64 0, .int .i64 h, .int .u64 0, .slice a n c] 55)).alloc (.cells #[.int .i64 x, .int .u64 y] 28)))
  have B := hide b2
  clear b2
  cases hr : rt x y with
  | false =>
    rw [reS_no hr] at VR
    go_enter Tryd.func22, Tryd.ntmps22
    go_wp2_with fail
    refine VR.out.mono ?_
    rintro e w2 ⟨rfl, hb⟩
    replace B := hide (B.out.trans (hb.mono B.out.size))
    clear hb VR
    go_wp2
    go_ret
    exact ⟨rfl, B.out⟩
  | true =>
    rw [reS_yes hr] at VR
    go_enter Tryd.func22, Tryd.ntmps22
    go_wp2_with fail
    generalize ((w.alloc (.cells #[.int .i64 h, .int .i64 0, .int .i64 1, .int .u64 0, .int .i64 h, .int .u64 0, .int .i64 1, .int .i64 3, .int .u64 0, .int .i64 h, .int .u64 0, .slice a n c] 55)).alloc (.cells #[.int .i64 x, .int .u64 y] 28)) = W2 at *
    generalize hH : w.heap.size = H at Gb Vb ⊢
    replace hH := hide hH
    refine VR.out.mono ?_
    rintro e w2 ⟨rfl, hb⟩
    have g0 := (Gb.out.below hb).cell 0
    have v0 := (Vb.out.below hb).cell 0
    simp at g0 v0
    replace B := hide (B.out.trans (hb.mono B.out.size))
    clear hb VR
    cases hd : decide (x ≤ h) with
    | true =>
      go_wp2
      go_ret
      exact ⟨by rw [hd]; rfl, B.out⟩
    | false =>
      go_wp2
      go_ret
      exact ⟨by rw [hd]; rfl, B.out⟩

set_option maxHeartbeats 2000000 in
set_option maxRecDepth 100000 in
theorem row_any (h : Int) (a : Option Addr) (c : Nat) (m : List Rf) (hl : m.length ≤ 1000) (hok : ∀ r ∈ m, mayR h r = true ∧ 0 ≤ r.bt) (h32 : h ≤ 32) (x y : Int) (hr : rt x y = true) (hy : 0 ≤ y) (h1 : x ≤ h) (w : World) (hs : RSl w (.slice a m.length c) m) :
    Calls Tryd.prog 23 #[.agg (gcs h a m.length c), (.agg #[.int .i64 (x), .int .u64 (y)])] w fun e w' => ∃ v', e = .returned v' ∧ Rw w' 30 5 v' (rowL h (flt x (x, y) m)).length (rfs (rowL h (flt x (x, y) m))) ∧ (∀ k, v'.ownBlock = some k → w.heap.size ≤ k) ∧ Below w.heap.size w w' := by
  have mixed : Tryd.prog.follows .mixedOrders = true := by kernel_rfl
  have hr0 := of_decide_eq_true hr
  have hov : okV (x, y) := okV_of hr0.1 hr0.2.1 hy (by have := pow32 x hr0.1 hr0.2.1; omega)
  have LA := fun W hs => level_any h x a c m hl hok h32 hr0.1 h1 W hs
  have hle : (flt x (x, y) m).length ≤ 1000 := Nat.le_trans (List.length_filter_le _ _) hl
  have LA2 : ∀ W, RSl W (.slice a m.length c) m → Calls Tryd.prog 29 #[.agg #[.int .i64 h, .int .i64 0, .int .i64 1, .int .u64 0, .int .i64 h, .int .u64 0, .int .i64 1, .int .i64 3, .int .u64 0, .int .i64 h, .int .u64 0, .slice a m.length c], .int .i64 x] W fun e w' => ∃ b E, e = .returned (.map (some b)) ∧ Lv w' W.heap.size b x m E ∧ Below W.heap.size W w' := LA
  have HL := hide LA2
  have HOV := hide hov
  have HLE := hide hle
  unfold gcs
  have b2 := ((Below.refl w.heap.size w).alloc (Nat.le_refl _) (.cells #[.int .i64 h, .int .i64 0, .int .i64 1, .int .u64 0, .int .i64 h, .int .u64 0, .int .i64 1, .int .i64 3, .int .u64 0, .int .i64 h, .int .u64 0, .slice a m.length c] 55)).alloc (by simp) (.cells #[.int .i64 x, .int .u64 y] 28)
  have Gb : Hid (IsB ((w.alloc (.cells #[.int .i64 h, .int .i64 0, .int .i64 1, .int .u64 0, .int .i64 h, .int .u64 0, .int .i64 1, .int .i64 3, .int .u64 0, .int .i64 h, .int .u64 0, .slice a m.length c] 55)).alloc (.cells #[.int .i64 x, .int .u64 y] 28)) w.heap.size #[.int .i64 h, .int .i64 0, .int .i64 1, .int .u64 0, .int .i64 h, .int .u64 0, .int .i64 1, .int .i64 3, .int .u64 0, .int .i64 h, .int .u64 0, .slice a m.length c] 55) := (IsB.new w #[.int .i64 h, .int .i64 0, .int .i64 1, .int .u64 0, .int .i64 h, .int .u64 0, .int .i64 1, .int .i64 3, .int .u64 0, .int .i64 h, .int .u64 0, .slice a m.length c] _).below ((Below.refl _ _).alloc (Nat.le_refl _) _)
  have Vb : Hid (IsB ((w.alloc (.cells #[.int .i64 h, .int .i64 0, .int .i64 1, .int .u64 0, .int .i64 h, .int .u64 0, .int .i64 1, .int .i64 3, .int .u64 0, .int .i64 h, .int .u64 0, .slice a m.length c] 55)).alloc (.cells #[.int .i64 x, .int .u64 y] 28)) (w.heap.size + 1) #[.int .i64 x, .int .u64 y] 28) := by
    have := IsB.new (w.alloc (.cells #[.int .i64 h, .int .i64 0, .int .i64 1, .int .u64 0, .int .i64 h, .int .u64 0, .int .i64 1, .int .i64 3, .int .u64 0, .int .i64 h, .int .u64 0, .slice a m.length c] 55)) #[.int .i64 x, .int .u64 y] 28
    rwa [World.size_alloc] at this
  have HS := hide (hs.below b2)
  have B := hide b2
  have hsz := hide b2.size
  clear b2 hs hov hle LA LA2 hok
  generalize hn : m.length = n at *
  replace hn := hide hn
  go_enter Tryd.func23, Tryd.ntmps23
  go_wp2_with fail
  generalize ((w.alloc (.cells #[.int .i64 h, .int .i64 0, .int .i64 1, .int .u64 0, .int .i64 h, .int .u64 0, .int .i64 1, .int .i64 3, .int .u64 0, .int .i64 h, .int .u64 0, .slice a n c] 55)).alloc (.cells #[.int .i64 x, .int .u64 y] 28)) = W2 at *
  generalize hH : w.heap.size = H at Gb Vb ⊢
  replace hH := hide hH
  replace Gb := hide (Gb.out.below ((Below.refl _ _).drew))
  replace Vb := hide (Vb.out.below ((Below.refl _ _).drew))
  replace HS := hide (HS.out.below ((Below.refl _ _).drew))
  replace B := hide B.out.drew
  refine regionL 9 (fun w' => IsB w' H #[.int .i64 h, .int .i64 0, .int .i64 1, .int .u64 0, .int .i64 h, .int .u64 0, .int .i64 1, .int .i64 3, .int .u64 0, .int .i64 h, .int .u64 0, .slice a n c] 55 ∧ IsB w' (H + 1) #[.int .i64 x, .int .u64 y] 28) mixed ⟨Gb.out, Vb.out⟩ (fun hHeld => ?_)
  generalize W2.drew = WD at *
  refine pickL (v := .agg #[.int .i64 h, .int .i64 0, .int .i64 1, .int .u64 0, .int .i64 h, .int .u64 0, .int .i64 1, .int .i64 3, .int .u64 0, .int .i64 h, .int .u64 0, .slice a n c]) 0 (some 5) rfl rfl (by kernel_rfl) (by kernel_rfl) (by kernel_rfl) (by decide) (by kernel_rfl) (by kernel_rfl) (fun _ _ _ h => h) (by rfl) ?_ (by assumption) ?_
  · intro w' hSw
    obtain ⟨q0, q1⟩ := hSw
    exact exec_load rfl rfl (load_gr q0 rfl)
  try simp only [Act.put, List.setIfInBounds_toArray, List.set_cons_zero, List.set_cons_succ]
  refine pickL (v := .agg #[.int .i64 h, .int .i64 0, .int .i64 1, .int .u64 0, .int .i64 h, .int .u64 0, .int .i64 1, .int .i64 3, .int .u64 0, .int .i64 h, .int .u64 0, .slice a n c]) 1 (some 6) rfl rfl (by kernel_rfl) (by kernel_rfl) (by kernel_rfl) (by decide) (by kernel_rfl) (by kernel_rfl) (fun _ _ _ h => h) (by rfl) ?_ (by assumption) ?_
  · intro w' hSw
    obtain ⟨q0, q1⟩ := hSw
    exact exec_load rfl rfl (load_gr q0 rfl)
  try simp only [Act.put, List.setIfInBounds_toArray, List.set_cons_zero, List.set_cons_succ]
  refine pickA (v := ?_) 2 (some 7) rfl rfl (by kernel_rfl) (by kernel_rfl) (by kernel_rfl) (by decide) (fun _ _ _ h => h) (by rfl) ?_ (by assumption) ?_
  rotate_left
  · intro w'
    go_simp
    try with_reducible rfl
  try simp only [Act.put, List.setIfInBounds_toArray, List.set_cons_zero, List.set_cons_succ]
  refine pickL (v := .int .i64 x) 3 (some 8) rfl rfl (by kernel_rfl) (by kernel_rfl) (by kernel_rfl) (by decide) (by kernel_rfl) (by kernel_rfl) (fun _ _ _ h => h) (by rfl) ?_ (by assumption) ?_
  · intro w' hSw
    obtain ⟨q0, q1⟩ := hSw
    have y0 := q1.cell 0
    simp at y0
    go_simp
  try simp only [Act.put, List.setIfInBounds_toArray, List.set_cons_zero, List.set_cons_succ]
  refine pickL (v := .agg #[.int .i64 x, .int .u64 y]) 5 (some 10) rfl rfl (by kernel_rfl) (by kernel_rfl) (by kernel_rfl) (by decide) (by kernel_rfl) (by kernel_rfl) (fun _ _ _ h => h) (by rfl) ?_ (by assumption) ?_
  · intro w' hSw
    obtain ⟨q0, q1⟩ := hSw
    exact exec_load rfl rfl (load_vec q1 rfl)
  try simp only [Act.put, List.setIfInBounds_toArray, List.set_cons_zero, List.set_cons_succ]
  refine oneL (i := 4) (by kernel_rfl) rfl (fun K hK => ?_)
  go_simp
  refine (HL.out WD HS.out).mono ?_
  rintro e w4 ⟨mb, E, rfl, hLv, hb⟩
  have LV := hide hLv
  replace Gb := hide (Gb.out.below hb)
  replace Vb := hide (Vb.out.below hb)
  replace HS := hide (HS.out.below hb)
  have B4 := hide (B.out.trans (hb.mono B.out.size))
  clear hb hLv
  refine hK.out _ _ ?_ ?_
  · exact ⟨Gb.out, Vb.out⟩
  clear hK K
  try simp only [Act.put, List.setIfInBounds_toArray, List.set_cons_zero, List.set_cons_succ]
  clear hHeld
  have hHeld : (fun w' => IsB w' H #[.int .i64 h, .int .i64 0, .int .i64 1, .int .u64 0, .int .i64 h, .int .u64 0, .int .i64 1, .int .i64 3, .int .u64 0, .int .i64 h, .int .u64 0, .slice a n c] 55 ∧ IsB w' (H + 1) #[.int .i64 x, .int .u64 y] 28) w4 := ⟨Gb.out, Vb.out⟩
  obtain ⟨lv, hlk, hlrw, hlo⟩ := LV.out.look (x, y) HOV.out
  have HLK : (Instr.lookup 70 (.map (some mb)) (.agg #[.int .i64 x, .int .u64 y]) false).run Tryd.prog w4 = .ok lv w4 := hlk
  have LR := hide hlrw.rsl
  clear hlk hlo hlrw
  refine oneL (i := 6) (by kernel_rfl) rfl (fun K hK => ?_)
  go_simp
  refine hK.out _ _ ?_ ?_
  · exact ⟨Gb.out, Vb.out⟩
  clear hK K
  try simp only [Act.put, List.setIfInBounds_toArray, List.set_cons_zero, List.set_cons_succ]
  obtain ⟨la, lc, rfl, -, -⟩ := LR.out.shape
  have EN := hide (ended_any h a n c la lc (flt x (x, y) m) HLE.out w4 LR.out)
  clear HLK
  generalize (flt x (x, y) m).length = fl at *
  refine oneL (i := 7) (by kernel_rfl) rfl (fun K hK => ?_)
  go_simp
  refine EN.out.mono ?_
  rintro e w5 ⟨v5, rfl, hrw, hnew, hb⟩
  have R5 := hide hrw
  have N5 : Hid (∀ k, v5.ownBlock = some k → w.heap.size ≤ k) := fun k hk => Nat.le_trans B4.out.size (hnew k hk)
  replace Gb := hide (Gb.out.below hb)
  replace Vb := hide (Vb.out.below hb)
  have B5 := hide (B4.out.trans (hb.mono B4.out.size))
  clear hrw hnew hb EN
  refine hK.out _ _ ?_ ?_
  · exact ⟨Gb.out, Vb.out⟩
  clear hK K
  try simp only [Act.put, List.setIfInBounds_toArray, List.set_cons_zero, List.set_cons_succ]
  clear hHeld
  have hHeld : (fun w' => IsB w' H #[.int .i64 h, .int .i64 0, .int .i64 1, .int .u64 0, .int .i64 h, .int .u64 0, .int .i64 1, .int .i64 3, .int .u64 0, .int .i64 h, .int .u64 0, .slice a n c] 55 ∧ IsB w' (H + 1) #[.int .i64 x, .int .u64 y] 28) w5 := ⟨Gb.out, Vb.out⟩
  refine pickA (v := ?_) 8 (some 4) rfl rfl (by kernel_rfl) (by kernel_rfl) (by kernel_rfl) (by decide) (fun _ _ _ h => h) (by rfl) ?_ (by assumption) ?_
  rotate_left
  · intro w'
    go_simp
    try with_reducible rfl
  try simp only [Act.put, List.setIfInBounds_toArray, List.set_cons_zero, List.set_cons_succ]
  refine doneL (by kernel_rfl) ?_ _
  clear hHeld
  go_wp2
  go_ret
  exact ⟨_, rfl, R5.out, N5.out, B5.out⟩

end Go.Proofs.YtfcmmchppcffmaaDoor
