/- Keys: worlds that only grow; the order of keys and which may be, by the program and by the document (as in stage 2). -/
import Derived.Test.YtfcmmchppcffmaaDoorLA
namespace Go.Proofs.YtfcmmchppcffmaaDoor
open Go.RowKit

/-- w' is w, some draws on, new blocks behind it. -/
def Gr (w w' : World) : Prop := ∃ q os, w' = Sort.grow (w.drewN q) os
theorem Gr.refl (w : World) : Gr w w := ⟨0, #[], by simp [World.drewN]⟩
theorem Gr.trans {a b c : World} (h : Gr a b) (k : Gr b c) : Gr a c := by
  obtain ⟨q, os, rfl⟩ := h
  obtain ⟨q', os', rfl⟩ := k
  exact ⟨q + q', os ++ os', by show Sort.grow (Sort.grow ((a.drewN q).drewN q') os) os' = _; rw [Sort.grow_grow, World.drewN_drewN]⟩
theorem Gr.alloc {a b : World} (h : Gr a b) (o : Obj) : Gr a (b.alloc o) := h.trans ⟨0, #[o], by rw [Sort.alloc_eq_grow]; rfl⟩
theorem Gr.drew {a b : World} (h : Gr a b) : Gr a b.drew := h.trans ⟨1, #[], by rw [Sort.grow_empty]; rfl⟩
theorem Gr.drewN {a b : World} (h : Gr a b) (n : Nat) : Gr a (b.drewN n) := h.trans ⟨n, #[], by simp⟩
theorem Gr.grow {a b : World} (h : Gr a b) (os : Array Obj) : Gr a (Sort.grow b os) := h.trans ⟨0, os, by simp [World.drewN]⟩
theorem Gr.le {a b : World} (h : Gr a b) : a.heap.size ≤ b.heap.size := by
  obtain ⟨q, os, rfl⟩ := h
  rw [Sort.size_grow]; exact Nat.le_add_right _ _
theorem Gr.heap {a b : World} (h : Gr a b) {k : Nat} (hk : k < a.heap.size) : b.heap[k]? = a.heap[k]? := by
  obtain ⟨q, os, rfl⟩ := h
  rw [Sort.heap_grow_old _ _ (by exact hk)]; rfl
theorem Gr.set {a b : World} (h : Gr a b) (k o : Nat) (v : Value) (hk : a.heap.size ≤ k) : Gr a (b.setCell ⟨k, o, none⟩ v) := by
  obtain ⟨q, os, rfl⟩ := h
  exact ⟨q, _, by rw [Sort.setCell_eq, Sort.mapBlock_grow_new _ _ _ _ (by exact hk)]⟩
theorem Gr.below {a b : World} (h : Gr a b) : Below a.heap.size a b := by
  obtain ⟨q, os, rfl⟩ := h
  exact ⟨rfl, rfl, rfl, by rw [Sort.size_grow]; exact Nat.le_add_right _ _, fun k hk => Sort.heap_grow_old _ _ (by exact hk)⟩
theorem Gr.cell {a b : World} (h : Gr a b) {x : Addr} {v : Value} (hx : x.block < a.heap.size) (hc : a.cell? x = some v) : b.cell? x = some v := by
  obtain ⟨q, os, rfl⟩ := h
  rw [Sort.cell?_grow _ _ _ (by exact hx)]; exact hc

/-- Block b holds just the two values of a key. -/
def Is2 (w : World) (b : Nat) (x y : Value) : Prop := w.heap[b]? = some (.cells #[x, y] 26 (0, 0))
theorem Is2.lt {w : World} {b : Nat} {x y : Value} (h : Is2 w b x y) : b < w.heap.size := by
  rcases Nat.lt_or_ge b w.heap.size with hlt | hge
  · exact hlt
  · unfold Is2 at h; rw [Array.getElem?_eq_none hge] at h; cases h
theorem Is2.c {w : World} {b : Nat} {x y : Value} (h : Is2 w b x y) : w.cell? ⟨b, 0, none⟩ = some x ∧ w.cell? ⟨b, 1, none⟩ = some y ∧ w.frozen? ⟨b, 0, none⟩ = false ∧ w.frozen? ⟨b, 1, none⟩ = false :=
  ⟨by rw [cell_of_row w b 0 _ _ _ h]; rfl, by rw [cell_of_row w b 1 _ _ _ h]; rfl, frozen_of_row w b 0 _ _ h, frozen_of_row w b 1 _ _ h⟩
theorem Is2.new (w : World) (x y : Value) : Is2 (w.alloc (.cells #[x, y] 26)) w.heap.size x y := heap_new w _
theorem Is2.gr {w w' : World} {b : Nat} {x y : Value} (h : Is2 w b x y) (hg : Gr w w') : Is2 w' b x y := (hg.heap h.lt).trans h
theorem Is2.alloc {w : World} {b : Nat} {x y : Value} (h : Is2 w b x y) (o : Obj) : Is2 (w.alloc o) b x y := h.gr ((Gr.refl w).alloc o)

/-- Which of two numbers is ahead: -1, 0, 1. -/
def cmpI (a b : Int) : Int := if a < b then -1 else if b < a then 1 else 0
theorem cmpI_lt {a b : Int} (h : a < b) : cmpI a b = -1 := by unfold cmpI; rw [if_pos h]
theorem cmpI_gt {a b : Int} (h : b < a) : cmpI a b = 1 := by unfold cmpI; rw [if_neg (by omega), if_pos h]
theorem cmpI_eq {a b : Int} (h : a = b) : cmpI a b = 0 := by unfold cmpI; rw [if_neg (by omega), if_neg (by omega)]
theorem cmpI_cases (a b : Int) : cmpI a b = -1 ∧ a < b ∨ cmpI a b = 1 ∧ b < a ∨ cmpI a b = 0 ∧ a = b := by
  rcases Int.lt_trichotomy a b with h | h | h
  · exact Or.inl ⟨cmpI_lt h, h⟩
  · exact Or.inr (Or.inr ⟨cmpI_eq h, h⟩)
  · exact Or.inr (Or.inl ⟨cmpI_gt h, h⟩)
/-- The first that is not 0. -/
def orI (x y : Int) : Int := if x = 0 then y else x
theorem orI_nz {x : Int} (y : Int) (h : ¬ x = 0) : orI x y = x := by unfold orI; rw [if_neg h]
theorem orI_z {x : Int} (y : Int) (h : x = 0) : orI x y = y := by unfold orI; rw [if_pos h]
/-- Which of two keys is ahead: by rank, then by number. -/
def kcmp (a b : Int × Int) : Int := orI (cmpI a.1 b.1) (cmpI a.2 b.2)
def klt (a b : Int × Int) : Bool := decide (kcmp a b < 0)

set_option maxHeartbeats 400000 in
theorem cmpR_any (x y : Int) (w : World) : Calls Tryd.prog 60 #[.int .i64 x, .int .i64 y] w fun e w' => e = .returned (.int .i64 (cmpI x y)) ∧ w' = w := by
  rcases cmpI_cases x y with ⟨h, hx⟩ | ⟨h, hx⟩ | ⟨h, hx⟩ <;> rw [h]
  · go_enter Tryd.func60, Tryd.ntmps60
    go_wp2
    go_ret
    exact ⟨rfl, rfl⟩
  · have hx' : ¬ x < y := by omega
    go_enter Tryd.func60, Tryd.ntmps60
    go_wp2
    go_ret
    exact ⟨rfl, rfl⟩
  · subst hx
    go_enter Tryd.func60, Tryd.ntmps60
    go_wp2
    go_ret
    exact ⟨rfl, rfl⟩

set_option maxHeartbeats 400000 in
theorem cmpU_any (x y : Int) (w : World) : Calls Tryd.prog 61 #[.int .u64 x, .int .u64 y] w fun e w' => e = .returned (.int .i64 (cmpI x y)) ∧ w' = w := by
  rcases cmpI_cases x y with ⟨h, hx⟩ | ⟨h, hx⟩ | ⟨h, hx⟩ <;> rw [h]
  · go_enter Tryd.func61, Tryd.ntmps61
    go_wp2
    go_ret
    exact ⟨rfl, rfl⟩
  · have hx' : ¬ x < y := by omega
    go_enter Tryd.func61, Tryd.ntmps61
    go_wp2
    go_ret
    exact ⟨rfl, rfl⟩
  · subst hx
    go_enter Tryd.func61, Tryd.ntmps61
    go_wp2
    go_ret
    exact ⟨rfl, rfl⟩

set_option maxHeartbeats 800000 in
theorem or_any (b o c : Nat) (x y : Int) (w : World) (h0 : w.cell? ⟨b, o, none⟩ = some (.int .i64 x)) (h1 : w.cell? ⟨b, o + 1, none⟩ = some (.int .i64 y)) :
    Calls Tryd.prog 59 #[.slice (some ⟨b, o, none⟩) 2 c] w fun e w' => e = .returned (.int .i64 (orI x y)) ∧ w' = w := by
  go_enter Tryd.func59, Tryd.ntmps59
  go_wp2
  go_loop [8] (fun i => i = .int .i64 0 ∨ (i = .int .i64 1 ∧ x = 0) ∨ (i = .int .i64 2 ∧ x = 0 ∧ y = 0)) (fun i => 2 - (intOf i).toNat)
  case atStart => exact Or.inl rfl
  case round =>
    rcases hrel with rfl | ⟨rfl, hx0⟩ | ⟨rfl, hx0, hy0⟩
    · by_cases hz : x = 0
      · have hz' : (x != 0) = false := by simp [hz]
        go_wp2
        exact ⟨Or.inr (Or.inl ⟨rfl, hz⟩), by simp [intOf]⟩
      · have hz' : (x != 0) = true := by simp [hz]
        go_wp2
        go_ret
        exact ⟨by rw [orI_nz y hz]; rfl, rfl⟩
    · subst hx0
      by_cases hz : y = 0
      · have hz' : (y != 0) = false := by simp [hz]
        go_wp2
        exact ⟨Or.inr (Or.inr (by simp [hz])), by simp [intOf]⟩
      · have hz' : (y != 0) = true := by simp [hz]
        go_wp2
        go_ret
        exact ⟨by rw [orI_z y rfl]; rfl, rfl⟩
    · subst hx0
      go_wp2
      go_ret
      exact ⟨by first | rfl | (rw [hy0]; rfl), rfl⟩

set_option maxHeartbeats 1000000 in
theorem kCompare_any (r n s m : Int) (w : World) :
    Calls Tryd.prog 40 #[(.agg #[.int .i64 (r), .int .u64 (n)]), (.agg #[.int .i64 (s), .int .u64 (m)])] w fun e w' => e = .returned (.int .i64 (kcmp (r, n) (s, m))) ∧ Gr w w' := by
  go_enter Tryd.func40, Tryd.ntmps40
  go_wp2
  have I1 := Is2.new (w.alloc (.cells #[.int .i64 r, .int .u64 n] 26)) (.int .i64 s) (.int .u64 m)
  have I0 := (Is2.new w (.int .i64 r) (.int .u64 n)).alloc (.cells #[.int .i64 s, .int .u64 m] 26)
  have HG := hide (((Gr.refl w).alloc (.cells #[.int .i64 r, .int .u64 n] 26)).alloc (.cells #[.int .i64 s, .int .u64 m] 26))
  rw [World.size_alloc] at I1
  generalize (w.alloc (.cells #[.int .i64 r, .int .u64 n] 26)).alloc (.cells #[.int .i64 s, .int .u64 m] 26) = W at I0 I1 HG ⊢
  obtain ⟨a0, a1, -, -⟩ := I0.c
  obtain ⟨b0, b1, -, -⟩ := I1.c
  have hz := I1.lt
  clear I0 I1
  go_region_held3 (fun w' => w'.cell? ⟨w.heap.size, 0, none⟩ = some (.int .i64 r) ∧ w'.cell? ⟨w.heap.size, 1, none⟩ = some (.int .u64 n) ∧ w'.cell? ⟨w.heap.size + 1, 0, none⟩ = some (.int .i64 s) ∧ w'.cell? ⟨w.heap.size + 1, 1, none⟩ = some (.int .u64 m) ∧ w.heap.size + 1 < w'.heap.size)
    (first | (go_keep; done) | (refine ⟨?_, ?_, ?_, ?_, ?_⟩ <;> first | (go_keep; done) | assumption | (rw [World.cell?_alloc_lt _ _ _ (by simp; omega)]; assumption) | (simp; omega)))
    (first
      | (go_at_call 60; refine (cmpR_any r s _).mono ?_; rintro e w' ⟨rfl, rfl⟩)
      | (go_at_call 61; refine (cmpU_any n m _).mono ?_; rintro e w' ⟨rfl, rfl⟩)
      | (go_at_call 59; refine (or_any _ _ _ (cmpI r s) (cmpI n m) _ (by simp) (by simp)).mono ?_; rintro e w' ⟨rfl, rfl⟩))
  go_wp2
  go_ret
  exact ⟨rfl, HG.out.trans (by repeat (first | exact Gr.refl _ | apply Gr.alloc | apply Gr.drew | apply Gr.drewN))⟩

set_option maxHeartbeats 1000000 in
theorem kLess_any (r n s m : Int) (w : World) :
    Calls Tryd.prog 51 #[(.agg #[.int .i64 (r), .int .u64 (n)]), (.agg #[.int .i64 (s), .int .u64 (m)])] w fun e w' => e = .returned (.bool (klt (r, n) (s, m))) ∧ Gr w w' := by
  go_enter Tryd.func51, Tryd.ntmps51
  go_wp2_with fail
  refine (kCompare_any r n s m _).mono ?_; rintro e w1 ⟨rfl, hg⟩
  go_wp2
  go_ret
  exact ⟨rfl, Gr.trans (by repeat (first | exact Gr.refl _ | apply Gr.alloc)) hg⟩

/-- The table of ranks lies there. -/
def Ranks (w : World) : Prop := w.cell? ⟨0, 0, none⟩ = some (.int .i64 1) ∧ w.cell? ⟨0, 1, none⟩ = some (.string ⟨#[45]⟩) ∧ w.cell? ⟨0, 2, none⟩ = some (.int .i64 2) ∧ w.cell? ⟨0, 3, none⟩ = some (.string ⟨#[]⟩) ∧ w.cell? ⟨0, 4, none⟩ = some (.int .i64 3) ∧ w.cell? ⟨0, 5, none⟩ = some (.string ⟨#[43]⟩)
theorem Ranks.below {w w' : World} (h : Ranks w) (hb : Below w.heap.size w w') : Ranks w' := by
  obtain ⟨h0, h1, h2, h3, h4, h5⟩ := h
  have hl := lt_of_cell h0
  refine ⟨?_, ?_, ?_, ?_, ?_, ?_⟩ <;> (rw [hb.cell (by exact hl)]; assumption)
theorem Ranks.gr {w w' : World} (h : Ranks w) (hg : Gr w w') : Ranks w' := h.below hg.below

/-- The table as one value, and its rows. -/
def rankTab : Value := .agg #[.int .i64 1, .string ⟨#[45]⟩, .int .i64 2, .string ⟨#[]⟩, .int .i64 3, .string ⟨#[43]⟩]
theorem rank0 (w : World) : (Instr.index 96 (.agg #[.int .i64 1, .string ⟨#[45]⟩, .int .i64 2, .string ⟨#[]⟩, .int .i64 3, .string ⟨#[43]⟩]) (.int .i64 0)).run Tryd.prog w = .ok (.agg #[.int .i64 1, .string ⟨#[45]⟩]) w := by kernel_rfl
theorem rank1 (w : World) : (Instr.index 96 (.agg #[.int .i64 1, .string ⟨#[45]⟩, .int .i64 2, .string ⟨#[]⟩, .int .i64 3, .string ⟨#[43]⟩]) (.int .i64 1)).run Tryd.prog w = .ok (.agg #[.int .i64 2, .string ⟨#[]⟩]) w := by kernel_rfl
theorem rank2 (w : World) : (Instr.index 96 (.agg #[.int .i64 1, .string ⟨#[45]⟩, .int .i64 2, .string ⟨#[]⟩, .int .i64 3, .string ⟨#[43]⟩]) (.int .i64 2)).run Tryd.prog w = .ok (.agg #[.int .i64 3, .string ⟨#[43]⟩]) w := by kernel_rfl

/-- What Check tells. -/
def ckE (r n : Int) : Int := if r = 2 ∨ (r = 1 ∨ r = 3) ∧ n = 0 then 0 else 20

set_option maxHeartbeats 2000000 in
set_option maxRecDepth 100000 in
theorem kCheck_any (r n : Int) (w : World) (hR : Ranks w) :
    Calls Tryd.prog 31 #[(.agg #[.int .i64 (r), .int .u64 (n)])] w fun e w' => e = .returned (.int .i64 (ckE r n)) ∧ Gr w w' := by
  have hR1 := hR.gr ((Gr.refl w).alloc (.cells #[.int .i64 r, .int .u64 n] 26))
  obtain ⟨h0, h1, h2, h3, h4, h5⟩ := hR1
  clear hR
  go_enter Tryd.func31, Tryd.ntmps31
  go_wp2
  clear h0 h1 h2 h3 h4 h5
  go_loopw [6] (fun i wr => (i = .int .i64 0 ∨ (i = .int .i64 1 ∧ ¬ (r = 1 ∧ n = 0)) ∨ (i = .int .i64 2 ∧ ¬ (r = 1 ∧ n = 0) ∧ ¬ r = 2) ∨ (i = .int .i64 3 ∧ ¬ (r = 1 ∧ n = 0) ∧ ¬ r = 2 ∧ ¬ (r = 3 ∧ n = 0))) ∧ Is2 wr w.heap.size (.int .i64 r) (.int .u64 n) ∧ Gr w wr) (fun i _ => 3 - (intOf i).toNat)
  case atStart => exact ⟨Or.inl rfl, Is2.new w _ _, (Gr.refl w).alloc _⟩
  case round =>
    have x0 := rank0
    have x1 := rank1
    have x2 := rank2
    obtain ⟨hi, I0, hg⟩ := hrel
    have HI := hide I0
    have HG := hide hg
    obtain ⟨a0, a1, -, -⟩ := I0.c
    have hlt := I0.lt
    clear I0 hg
    rcases hi with rfl | ⟨rfl, n1⟩ | ⟨rfl, n1, n2⟩ | ⟨rfl, n1, n2, n3⟩
    · by_cases hr : r = 1
      · subst hr
        by_cases hn : n = 0
        · subst hn
          go_wp2
          go_ret
          exact ⟨rfl, HG.out.alloc _⟩
        · have hn' : (n == 0) = false := by simp [hn]
          go_wp2
          go_roundw
          case rel => exact ⟨Or.inr (Or.inl ⟨rfl, fun h => hn h.2⟩), HI.out.alloc _, HG.out.alloc _⟩
          case measure => simp [intOf]
      · have hr' : (r == 1) = false := by simp [hr]
        go_wp2
        go_roundw
        case rel => exact ⟨Or.inr (Or.inl ⟨rfl, fun h => hr h.1⟩), HI.out.alloc _, HG.out.alloc _⟩
        case measure => simp [intOf]
    · by_cases hr : r = 2
      · subst hr
        go_wp2
        go_ret
        exact ⟨rfl, HG.out.alloc _⟩
      · have hr' : (r == 2) = false := by simp [hr]
        go_wp2
        go_roundw
        case rel => exact ⟨Or.inr (Or.inr (Or.inl ⟨rfl, n1, hr⟩)), HI.out.alloc _, HG.out.alloc _⟩
        case measure => simp [intOf]
    · by_cases hr : r = 3
      · subst hr
        by_cases hn : n = 0
        · subst hn
          go_wp2
          go_ret
          exact ⟨rfl, HG.out.alloc _⟩
        · have hn' : (n == 0) = false := by simp [hn]
          go_wp2
          go_roundw
          case rel => exact ⟨Or.inr (Or.inr (Or.inr ⟨rfl, n1, n2, fun h => hn h.2⟩)), HI.out.alloc _, HG.out.alloc _⟩
          case measure => simp [intOf]
      · have hr' : (r == 3) = false := by simp [hr]
        go_wp2
        go_roundw
        case rel => exact ⟨Or.inr (Or.inr (Or.inr ⟨rfl, n1, n2, fun h => hr h.1⟩)), HI.out.alloc _, HG.out.alloc _⟩
        case measure => simp [intOf]
    · have hc : ckE r n = 20 := by unfold ckE; rw [if_neg (by omega)]
      go_wp2
      go_ret
      exact ⟨by rw [hc]; rfl, HG.out⟩

theorem ck_cases (r n : Int) : ckE r n = 20 ∧ ¬ (r = 2 ∨ (r = 1 ∨ r = 3) ∧ n = 0) ∨ ckE r n = 0 ∧ (r = 2 ∨ r = 1 ∧ n = 0 ∨ r = 3 ∧ n = 0) := by
  unfold ckE
  by_cases h : r = 2 ∨ (r = 1 ∨ r = 3) ∧ n = 0
  · rw [if_pos h]; exact Or.inr ⟨rfl, by omega⟩
  · rw [if_neg h]; exact Or.inl ⟨rfl, h⟩



theorem kcmp_lt {r n s m : Int} (h : r < s ∨ r = s ∧ n < m) : kcmp (r, n) (s, m) = -1 := by
  unfold kcmp
  show orI (cmpI r s) (cmpI n m) = -1
  rcases h with h | ⟨h, h2⟩
  · rw [cmpI_lt h, orI_nz _ (by omega)]
  · rw [cmpI_eq h, orI_z _ rfl, cmpI_lt h2]
theorem kcmp_eq (r n : Int) : kcmp (r, n) (r, n) = 0 := by
  unfold kcmp
  show orI (cmpI r r) (cmpI n n) = 0
  rw [cmpI_eq rfl, orI_z _ rfl, cmpI_eq rfl]
theorem kcmp_gt {r n s m : Int} (h : s < r ∨ r = s ∧ m < n) : kcmp (r, n) (s, m) = 1 := by
  unfold kcmp
  show orI (cmpI r s) (cmpI n m) = 1
  rcases h with h | ⟨h, h2⟩
  · rw [cmpI_gt h, orI_nz _ (by omega)]
  · rw [cmpI_eq h, orI_z _ rfl, cmpI_gt h2]





end Go.Proofs.YtfcmmchppcffmaaDoor
