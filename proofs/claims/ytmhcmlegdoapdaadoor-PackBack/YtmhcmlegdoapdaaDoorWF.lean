/- Same of any two fields, by the program. -/
import Derived.Test.YtmhcmlegdoapdaaDoorWD
import Derived.Test.YtmhcmlegdoapdaaDoorRT
import Derived.Test.YtmhcmlegdoapdaaDoorRP
import Derived.Handy
namespace Go.Proofs.YtmhcmlegdoapdaaDoor
open Go.RowKit

theorem eqv (a b c d : Int) (w : World) : (binOp .eql 27 (.agg #[.int .i64 a, .int .u64 b]) (.agg #[.int .i64 c, .int .u64 d])).run Tryd.prog w = .ok (.bool (a == c && b == d)) w := by
  have u1 := Tryd.underlying3
  have a1 := Tryd.isAgg3
  have z1 := Tryd.sizeOf3
  have u2 := Tryd.underlying24
  have a2 := Tryd.isAgg24
  have z2 := Tryd.sizeOf24
  have hS : Tryd.prog.underlying 27 = some (.struct (Tryd.prog.fieldsOf 27)) := by kernel_rfl
  have hp : Tryd.prog.stoodInHeld 27 = false := by kernel_rfl
  rw [run_eql_struct, show (10000 : Nat) = 9999 + 1 from rfl, run_equalIn_agg w 9999 27 _ _ hS hp]
  simp only [Program.fieldsOf, Tryd.underlying27]
  go_simp
  by_cases h1 : a = c <;> by_cases h2 : b = d <;> simp [h1, h2]
theorem eqk (a b c d : Int) (w : World) : (binOp .eql 30 (.agg #[.int .i64 a, .int .u64 b]) (.agg #[.int .i64 c, .int .u64 d])).run Tryd.prog w = .ok (.bool (a == c && b == d)) w := by
  have u1 := Tryd.underlying28
  have a1 := Tryd.isAgg28
  have z1 := Tryd.sizeOf28
  have u2 := Tryd.underlying24
  have a2 := Tryd.isAgg24
  have z2 := Tryd.sizeOf24
  have hS : Tryd.prog.underlying 30 = some (.struct (Tryd.prog.fieldsOf 30)) := by kernel_rfl
  have hp : Tryd.prog.stoodInHeld 30 = false := by kernel_rfl
  rw [run_eql_struct, show (10000 : Nat) = 9999 + 1 from rfl, run_equalIn_agg w 9999 30 _ _ hS hp]
  simp only [Program.fieldsOf, Tryd.underlying30]
  go_simp
  by_cases h1 : a = c <;> by_cases h2 : b = d <;> simp [h1, h2]
theorem eqr (i a b c d i' a' b' c' d' : Int) (w : World) : (binOp .eql 32 (.agg #[.int .i64 i, .int .i64 a, .int .u64 b, .int .i64 c, .int .u64 d]) (.agg #[.int .i64 i', .int .i64 a', .int .u64 b', .int .i64 c', .int .u64 d'])).run Tryd.prog w = .ok (.bool (i == i' && (a == a' && b == b') && (c == c' && d == d'))) w := by
  have u0 := Tryd.underlying28
  have a0 := Tryd.isAgg28
  have z0 := Tryd.sizeOf28
  have u1 := Tryd.underlying3
  have a1 := Tryd.isAgg3
  have z1 := Tryd.sizeOf3
  have u2 := Tryd.underlying24
  have a2 := Tryd.isAgg24
  have z2 := Tryd.sizeOf24
  have u3 := Tryd.isAgg30
  have u4 := Tryd.sizeOf30
  have u5 := Tryd.isAgg27
  have u6 := Tryd.sizeOf27
  have hS : Tryd.prog.underlying 32 = some (.struct (Tryd.prog.fieldsOf 32)) := by kernel_rfl
  have hp : Tryd.prog.stoodInHeld 32 = false := by kernel_rfl
  have hS1 : Tryd.prog.underlying 30 = some (.struct (Tryd.prog.fieldsOf 30)) := by kernel_rfl
  have hp1 : Tryd.prog.stoodInHeld 30 = false := by kernel_rfl
  have hS2 : Tryd.prog.underlying 27 = some (.struct (Tryd.prog.fieldsOf 27)) := by kernel_rfl
  have hp2 : Tryd.prog.stoodInHeld 27 = false := by kernel_rfl
  obtain ⟨dd, hd⟩ : ∃ dd, (10000 : Nat) = dd + 1 + 1 + 1 := ⟨9997, rfl⟩
  rw [run_eql_struct, hd, run_equalIn_agg w (dd + 1 + 1) 32 _ _ hS hp]
  clear hd hS
  simp only [Program.fieldsOf, Tryd.underlying32]
  have e1 : ∀ (x y x' y' : Int) w, (Op.equalIn (dd + 1 + 1) 30 (.agg #[.int .i64 x, .int .u64 y]) (.agg #[.int .i64 x', .int .u64 y'])).run Tryd.prog w = .ok (x == x' && y == y') w := fun x y x' y' w => by
    rw [run_equalIn_agg w (dd + 1) 30 _ _ hS1 hp1]
    simp only [Program.fieldsOf, Tryd.underlying30]
    go_simp
    by_cases h1 : x = x' <;> by_cases h2 : y = y' <;> simp [h1, h2]
  have e2 : ∀ (x y x' y' : Int) w, (Op.equalIn (dd + 1 + 1) 27 (.agg #[.int .i64 x, .int .u64 y]) (.agg #[.int .i64 x', .int .u64 y'])).run Tryd.prog w = .ok (x == x' && y == y') w := fun x y x' y' w => by
    rw [run_equalIn_agg w (dd + 1) 27 _ _ hS2 hp2]
    simp only [Program.fieldsOf, Tryd.underlying27]
    go_simp
    by_cases h1 : x = x' <;> by_cases h2 : y = y' <;> simp [h1, h2]
  clear hS1 hp1 hS2 hp2
  go_simp
  by_cases h1 : i = i' <;> by_cases h2 : a = a' <;> by_cases h3 : b = b' <;> by_cases h4 : c = c' <;> by_cases h5 : d = d' <;> simp [h1, h2, h3, h4, h5]

/-- Two texts: are they one? -/
def eqS (S T : ByteArray) : Bool := S.toList == T.toList

set_option maxHeartbeats 1000000 in
theorem equal_any (a a' : Option Addr) (n n' c c' : Nat) (S1 S2 : ByteArray) (w : World) (h1 : Txt w (.slice a n c) S1) (h2 : Txt w (.slice a' n' c') S2) :
    Calls Tryd.prog 35 #[.slice a n c, .slice a' n' c'] w fun e w' => e = .returned (.bool (eqS S1 S2)) ∧ w' = w := by
  have t1 := h1 w (Below.refl _ _)
  have t2 := h2 w (Below.refl _ _)
  clear h1 h2
  unfold eqS
  go_enter Tryd.func35, Tryd.ntmps35
  go_wp2
  go_ret
  exact ⟨rfl, rfl⟩
/-- Two fields: are they alike? -/
def sameF (f g : Fd) (t : Bool) : Bool := decide (f.f0 = g.f0) && (decide (f.f1 = g.f1) && (decide (f.f2 = g.f2) && (decide (f.f3 = g.f3) && (t && ((f.f7 == g.f7 && f.f8 == g.f8) && ((f.f9 == g.f9 && f.f10 == g.f10) && (f.f11 == g.f11 && (f.f12 == g.f12 && f.f13 == g.f13) && (f.f14 == g.f14 && f.f15 == g.f15))))))))

set_option maxHeartbeats 16000000 in
set_option maxRecDepth 100000 in
theorem psame_any (f0 f1 f2 : Int) (f3 : Bool) (f4 : Option Addr) (f5 f6 : Nat) (f7 f8 f9 f10 f11 f12 f13 f14 f15 : Int) (g0 g1 g2 : Int) (g3 : Bool) (g4 : Option Addr) (g5 g6 : Nat) (g7 g8 g9 g10 g11 g12 g13 g14 g15 : Int) (S1 S2 : ByteArray) (w : World) (h1 : Txt w (.slice f4 f5 f6) S1) (h2 : Txt w (.slice g4 g5 g6) S2) :
    Calls Tryd.prog 16 #[.agg #[.int .i64 f0, .int .u64 f1, .int .i64 f2, .bool f3, .slice f4 f5 f6, .int .i64 f7, .int .u64 f8, .int .i64 f9, .int .u64 f10, .int .i64 f11, .int .i64 f12, .int .u64 f13, .int .i64 f14, .int .u64 f15], .agg #[.int .i64 g0, .int .u64 g1, .int .i64 g2, .bool g3, .slice g4 g5 g6, .int .i64 g7, .int .u64 g8, .int .i64 g9, .int .u64 g10, .int .i64 g11, .int .i64 g12, .int .u64 g13, .int .i64 g14, .int .u64 g15]] w fun e w' => e = .returned (.bool (sameF ⟨f0, f1, f2, f3, f4, f5, f6, f7, f8, f9, f10, f11, f12, f13, f14, f15⟩ ⟨g0, g1, g2, g3, g4, g5, g6, g7, g8, g9, g10, g11, g12, g13, g14, g15⟩ (eqS S1 S2))) ∧ Below w.heap.size w w' := by
  have bel := hide (((Below.refl w.heap.size w).alloc (Nat.le_refl _) (.cells #[.int .i64 f0, .int .u64 f1, .int .i64 f2, .bool f3, .slice f4 f5 f6, .int .i64 f7, .int .u64 f8, .int .i64 f9, .int .u64 f10, .int .i64 f11, .int .i64 f12, .int .u64 f13, .int .i64 f14, .int .u64 f15] 34)).alloc (by simp) (.cells #[.int .i64 g0, .int .u64 g1, .int .i64 g2, .bool g3, .slice g4 g5 g6, .int .i64 g7, .int .u64 g8, .int .i64 g9, .int .u64 g10, .int .i64 g11, .int .i64 g12, .int .u64 g13, .int .i64 g14, .int .u64 g15] 34))
  have T1 := hide h1
  have T2 := hide h2
  clear h1 h2
  by_cases e0 : f0 = g0
  rotate_left
  · skip
    have hres : sameF ⟨f0, f1, f2, f3, f4, f5, f6, f7, f8, f9, f10, f11, f12, f13, f14, f15⟩ ⟨g0, g1, g2, g3, g4, g5, g6, g7, g8, g9, g10, g11, g12, g13, g14, g15⟩ (eqS S1 S2) = false := by simp [sameF, *]
    rw [hres]
    clear hres
    go_enter Tryd.func16, Tryd.ntmps16
    go_wp2
    go_ret
    exact ⟨rfl, bel.out⟩
  subst e0
  by_cases e1 : f1 = g1
  rotate_left
  · skip
    have hres : sameF ⟨f0, f1, f2, f3, f4, f5, f6, f7, f8, f9, f10, f11, f12, f13, f14, f15⟩ ⟨f0, g1, g2, g3, g4, g5, g6, g7, g8, g9, g10, g11, g12, g13, g14, g15⟩ (eqS S1 S2) = false := by simp [sameF, *]
    rw [hres]
    clear hres
    go_enter Tryd.func16, Tryd.ntmps16
    go_wp2
    go_ret
    exact ⟨rfl, bel.out⟩
  subst e1
  by_cases e2 : f2 = g2
  rotate_left
  · skip
    have hres : sameF ⟨f0, f1, f2, f3, f4, f5, f6, f7, f8, f9, f10, f11, f12, f13, f14, f15⟩ ⟨f0, f1, g2, g3, g4, g5, g6, g7, g8, g9, g10, g11, g12, g13, g14, g15⟩ (eqS S1 S2) = false := by simp [sameF, *]
    rw [hres]
    clear hres
    go_enter Tryd.func16, Tryd.ntmps16
    go_wp2
    go_ret
    exact ⟨rfl, bel.out⟩
  subst e2
  by_cases e3 : f3 = g3
  rotate_left
  · skip
    have hres : sameF ⟨f0, f1, f2, f3, f4, f5, f6, f7, f8, f9, f10, f11, f12, f13, f14, f15⟩ ⟨f0, f1, f2, g3, g4, g5, g6, g7, g8, g9, g10, g11, g12, g13, g14, g15⟩ (eqS S1 S2) = false := by simp [sameF, *]
    rw [hres]
    clear hres
    go_enter Tryd.func16, Tryd.ntmps16
    go_wp2
    go_ret
    exact ⟨rfl, bel.out⟩
  subst e3
  rcases he : eqS S1 S2 with _ | _
  · rw [← he]
    have hres : sameF ⟨f0, f1, f2, f3, f4, f5, f6, f7, f8, f9, f10, f11, f12, f13, f14, f15⟩ ⟨f0, f1, f2, f3, g4, g5, g6, g7, g8, g9, g10, g11, g12, g13, g14, g15⟩ (eqS S1 S2) = false := by simp [sameF, *]
    rw [hres]
    clear hres
    go_enter Tryd.func16, Tryd.ntmps16
    go_wp2_with fail
    refine (equal_any _ _ _ _ _ _ S1 S2 _ (T1.out.below bel.out) (T2.out.below bel.out)).mono ?_; rintro e w1 ⟨rfl, rfl⟩
    rw [he]
    go_wp2
    go_ret
    exact ⟨rfl, bel.out⟩
  rw [← he]
  have hv : ∀ w, (binOp .eql 27 (.agg #[.int .i64 f7, .int .u64 f8]) (.agg #[.int .i64 g7, .int .u64 g8])).run Tryd.prog w = .ok (.bool (f7 == g7 && f8 == g8)) w := eqv _ _ _ _
  rcases ehv : (f7 == g7 && f8 == g8) with _ | _
  · rw [ehv] at hv
    have hres : sameF ⟨f0, f1, f2, f3, f4, f5, f6, f7, f8, f9, f10, f11, f12, f13, f14, f15⟩ ⟨f0, f1, f2, f3, g4, g5, g6, g7, g8, g9, g10, g11, g12, g13, g14, g15⟩ (eqS S1 S2) = false := by simp [sameF, *]
    rw [hres]
    clear hres
    go_enter Tryd.func16, Tryd.ntmps16
    go_wp2_with fail
    refine (equal_any _ _ _ _ _ _ S1 S2 _ (T1.out.below bel.out) (T2.out.below bel.out)).mono ?_; rintro e w1 ⟨rfl, rfl⟩
    rw [he]
    go_wp2
    go_ret
    exact ⟨rfl, bel.out⟩
  rw [ehv] at hv
  have hk : ∀ w, (binOp .eql 30 (.agg #[.int .i64 f9, .int .u64 f10]) (.agg #[.int .i64 g9, .int .u64 g10])).run Tryd.prog w = .ok (.bool (f9 == g9 && f10 == g10)) w := eqk _ _ _ _
  rcases ehk : (f9 == g9 && f10 == g10) with _ | _
  · rw [ehk] at hk
    have hres : sameF ⟨f0, f1, f2, f3, f4, f5, f6, f7, f8, f9, f10, f11, f12, f13, f14, f15⟩ ⟨f0, f1, f2, f3, g4, g5, g6, g7, g8, g9, g10, g11, g12, g13, g14, g15⟩ (eqS S1 S2) = false := by simp [sameF, *]
    rw [hres]
    clear hres
    go_enter Tryd.func16, Tryd.ntmps16
    go_wp2_with fail
    refine (equal_any _ _ _ _ _ _ S1 S2 _ (T1.out.below bel.out) (T2.out.below bel.out)).mono ?_; rintro e w1 ⟨rfl, rfl⟩
    rw [he]
    go_wp2
    go_ret
    exact ⟨rfl, bel.out⟩
  rw [ehk] at hk
  have hr : ∀ w, (binOp .eql 32 (.agg #[.int .i64 f11, .int .i64 f12, .int .u64 f13, .int .i64 f14, .int .u64 f15]) (.agg #[.int .i64 g11, .int .i64 g12, .int .u64 g13, .int .i64 g14, .int .u64 g15])).run Tryd.prog w = .ok (.bool (f11 == g11 && (f12 == g12 && f13 == g13) && (f14 == g14 && f15 == g15))) w := eqr _ _ _ _ _ _ _ _ _ _
  rcases ehr : (f11 == g11 && (f12 == g12 && f13 == g13) && (f14 == g14 && f15 == g15)) with _ | _
  · rw [ehr] at hr
    have hres : sameF ⟨f0, f1, f2, f3, f4, f5, f6, f7, f8, f9, f10, f11, f12, f13, f14, f15⟩ ⟨f0, f1, f2, f3, g4, g5, g6, g7, g8, g9, g10, g11, g12, g13, g14, g15⟩ (eqS S1 S2) = false := by simp [sameF, *]
    rw [hres]
    clear hres
    go_enter Tryd.func16, Tryd.ntmps16
    go_wp2_with fail
    refine (equal_any _ _ _ _ _ _ S1 S2 _ (T1.out.below bel.out) (T2.out.below bel.out)).mono ?_; rintro e w1 ⟨rfl, rfl⟩
    rw [he]
    go_wp2
    go_ret
    exact ⟨rfl, bel.out⟩
  · rw [ehr] at hr
    have hres : sameF ⟨f0, f1, f2, f3, f4, f5, f6, f7, f8, f9, f10, f11, f12, f13, f14, f15⟩ ⟨f0, f1, f2, f3, g4, g5, g6, g7, g8, g9, g10, g11, g12, g13, g14, g15⟩ (eqS S1 S2) = true := by simp [sameF, *]
    rw [hres]
    clear hres
    go_enter Tryd.func16, Tryd.ntmps16
    go_wp2_with fail
    refine (equal_any _ _ _ _ _ _ S1 S2 _ (T1.out.below bel.out) (T2.out.below bel.out)).mono ?_; rintro e w1 ⟨rfl, rfl⟩
    rw [he]
    go_wp2
    go_ret
    exact ⟨rfl, bel.out⟩
end Go.Proofs.YtmhcmlegdoapdaaDoor

/- Check of any field. -/
namespace Go.Proofs.YtmhcmlegdoapdaaDoor
open Go.RowKit

set_option maxHeartbeats 800000 in
theorem vright_bad (n b : Int) (h : rt n b = false) (_hb : 0 ≤ b) (w : World) :
    Calls Tryd.prog 52 #[(.agg #[.int .i64 (n), .int .u64 (b)])] w fun e w' => e = .returned (.int .i64 10) ∧ Gr w w' := by
  by_cases h1 : 32 < n
  · exact vright_no n b h1 w
  · by_cases h0 : n < 0
    · clear h
      go_enter Tryd.func52, Tryd.ntmps52
      go_wp2
      go_ret
      exact ⟨rfl, (Gr.refl w).alloc _⟩
    · have g4 : 0 ≤ n := by omega
      have g5 : n ≤ 32 := by omega
      have g3 : (b / 2 ^ n.toNat != 0) = true := by
        have h2 : ¬ b < 2 ^ n.toNat := fun hlt => by
          have : rt n b = true := decide_eq_true ⟨g4, g5, hlt⟩
          rw [this] at h; cases h
        have h3 : b / 2 ^ n.toNat ≠ 0 := by
          intro h4
          have hp : (0 : Int) < 2 ^ n.toNat := Int.pow_pos (by omega)
          have e := Int.mul_ediv_add_emod b (2 ^ n.toNat)
          rw [h4, Int.mul_zero, Int.zero_add] at e
          have := Int.emod_lt_of_pos b hp
          exact h2 (by omega)
        simpa using h3
      clear h h0 h1
      go_enter Tryd.func52, Tryd.ntmps52
      go_wp2
      go_ret
      exact ⟨rfl, (Gr.refl w).alloc _⟩
/-- May the part that is its kind's be? -/
def ownB (f : Fd) : Bool := if f.f0 = 4 then decide (f.f5 ≤ 65536) else if f.f0 = 5 then rt f.f7 f.f8 else if f.f0 = 6 then ckE f.f9 f.f10 == 0 else if f.f0 = 7 then ckE f.f12 f.f13 == 0 && rt f.f14 f.f15 else true
def zeroF : Fd := ⟨0, 0, 0, false, none, 0, 0, 0, 0, 0, 0, 0, 0, 0, 0, 0⟩
theorem ckE_cases (r x : Int) : ckE r x = 0 ∨ ckE r x = 20 := by unfold ckE; split; exact Or.inl rfl; exact Or.inr rfl

set_option maxHeartbeats 4000000 in
set_option maxRecDepth 100000 in
theorem wo1 (f1 f2 : Int) (f3 : Bool) (f4 : Option Addr) (f5 f6 : Nat) (f7 f8 f9 f10 f11 f12 f13 f14 f15 : Int) (w : World) : Calls Tryd.prog 31 #[.agg #[.int .i64 1, .int .u64 f1, .int .i64 f2, .bool f3, .slice f4 f5 f6, .int .i64 f7, .int .u64 f8, .int .i64 f9, .int .u64 f10, .int .i64 f11, .int .i64 f12, .int .u64 f13, .int .i64 f14, .int .u64 f15]] w fun e w' => e = .returned (.agg #[.int .i64 0, .int .u64 0, .int .i64 f2, .bool f3, .slice f4 f5 f6, .int .i64 f7, .int .u64 f8, .int .i64 f9, .int .u64 f10, .int .i64 f11, .int .i64 f12, .int .u64 f13, .int .i64 f14, .int .u64 f15]) ∧ Gr w w' := by
  go_enter Tryd.func31, Tryd.ntmps31
  go_wp2
  go_returns
  exact ⟨rfl, ((Gr.refl w).alloc _).alloc _⟩

set_option maxHeartbeats 4000000 in
set_option maxRecDepth 100000 in
theorem wo2 (f1 f2 : Int) (f3 : Bool) (f4 : Option Addr) (f5 f6 : Nat) (f7 f8 f9 f10 f11 f12 f13 f14 f15 : Int) (w : World) : Calls Tryd.prog 31 #[.agg #[.int .i64 2, .int .u64 f1, .int .i64 f2, .bool f3, .slice f4 f5 f6, .int .i64 f7, .int .u64 f8, .int .i64 f9, .int .u64 f10, .int .i64 f11, .int .i64 f12, .int .u64 f13, .int .i64 f14, .int .u64 f15]] w fun e w' => e = .returned (.agg #[.int .i64 0, .int .u64 f1, .int .i64 0, .bool f3, .slice f4 f5 f6, .int .i64 f7, .int .u64 f8, .int .i64 f9, .int .u64 f10, .int .i64 f11, .int .i64 f12, .int .u64 f13, .int .i64 f14, .int .u64 f15]) ∧ Gr w w' := by
  go_enter Tryd.func31, Tryd.ntmps31
  go_wp2
  go_returns
  exact ⟨rfl, ((Gr.refl w).alloc _).alloc _⟩

set_option maxHeartbeats 4000000 in
set_option maxRecDepth 100000 in
theorem wo3 (f1 f2 : Int) (f3 : Bool) (f4 : Option Addr) (f5 f6 : Nat) (f7 f8 f9 f10 f11 f12 f13 f14 f15 : Int) (w : World) : Calls Tryd.prog 31 #[.agg #[.int .i64 3, .int .u64 f1, .int .i64 f2, .bool f3, .slice f4 f5 f6, .int .i64 f7, .int .u64 f8, .int .i64 f9, .int .u64 f10, .int .i64 f11, .int .i64 f12, .int .u64 f13, .int .i64 f14, .int .u64 f15]] w fun e w' => e = .returned (.agg #[.int .i64 0, .int .u64 f1, .int .i64 f2, .bool false, .slice f4 f5 f6, .int .i64 f7, .int .u64 f8, .int .i64 f9, .int .u64 f10, .int .i64 f11, .int .i64 f12, .int .u64 f13, .int .i64 f14, .int .u64 f15]) ∧ Gr w w' := by
  go_enter Tryd.func31, Tryd.ntmps31
  go_wp2
  go_returns
  exact ⟨rfl, ((Gr.refl w).alloc _).alloc _⟩

set_option maxHeartbeats 4000000 in
set_option maxRecDepth 100000 in
theorem wo4 (f1 f2 : Int) (f3 : Bool) (f4 : Option Addr) (f5 f6 : Nat) (f7 f8 f9 f10 f11 f12 f13 f14 f15 : Int) (w : World) : Calls Tryd.prog 31 #[.agg #[.int .i64 4, .int .u64 f1, .int .i64 f2, .bool f3, .slice f4 f5 f6, .int .i64 f7, .int .u64 f8, .int .i64 f9, .int .u64 f10, .int .i64 f11, .int .i64 f12, .int .u64 f13, .int .i64 f14, .int .u64 f15]] w fun e w' => e = .returned (.agg #[.int .i64 0, .int .u64 f1, .int .i64 f2, .bool f3, .slice none 0 0, .int .i64 f7, .int .u64 f8, .int .i64 f9, .int .u64 f10, .int .i64 f11, .int .i64 f12, .int .u64 f13, .int .i64 f14, .int .u64 f15]) ∧ Gr w w' := by
  go_enter Tryd.func31, Tryd.ntmps31
  go_wp2
  go_returns
  exact ⟨rfl, ((Gr.refl w).alloc _).alloc _⟩

set_option maxHeartbeats 4000000 in
set_option maxRecDepth 100000 in
theorem wo5 (f1 f2 : Int) (f3 : Bool) (f4 : Option Addr) (f5 f6 : Nat) (f7 f8 f9 f10 f11 f12 f13 f14 f15 : Int) (w : World) : Calls Tryd.prog 31 #[.agg #[.int .i64 5, .int .u64 f1, .int .i64 f2, .bool f3, .slice f4 f5 f6, .int .i64 f7, .int .u64 f8, .int .i64 f9, .int .u64 f10, .int .i64 f11, .int .i64 f12, .int .u64 f13, .int .i64 f14, .int .u64 f15]] w fun e w' => e = .returned (.agg #[.int .i64 0, .int .u64 f1, .int .i64 f2, .bool f3, .slice f4 f5 f6, .int .i64 0, .int .u64 0, .int .i64 f9, .int .u64 f10, .int .i64 f11, .int .i64 f12, .int .u64 f13, .int .i64 f14, .int .u64 f15]) ∧ Gr w w' := by
  go_enter Tryd.func31, Tryd.ntmps31
  go_wp2
  go_returns
  exact ⟨rfl, ((Gr.refl w).alloc _).alloc _⟩

set_option maxHeartbeats 4000000 in
set_option maxRecDepth 100000 in
theorem wo6 (f1 f2 : Int) (f3 : Bool) (f4 : Option Addr) (f5 f6 : Nat) (f7 f8 f9 f10 f11 f12 f13 f14 f15 : Int) (w : World) : Calls Tryd.prog 31 #[.agg #[.int .i64 6, .int .u64 f1, .int .i64 f2, .bool f3, .slice f4 f5 f6, .int .i64 f7, .int .u64 f8, .int .i64 f9, .int .u64 f10, .int .i64 f11, .int .i64 f12, .int .u64 f13, .int .i64 f14, .int .u64 f15]] w fun e w' => e = .returned (.agg #[.int .i64 0, .int .u64 f1, .int .i64 f2, .bool f3, .slice f4 f5 f6, .int .i64 f7, .int .u64 f8, .int .i64 0, .int .u64 0, .int .i64 f11, .int .i64 f12, .int .u64 f13, .int .i64 f14, .int .u64 f15]) ∧ Gr w w' := by
  go_enter Tryd.func31, Tryd.ntmps31
  go_wp2
  go_returns
  exact ⟨rfl, ((Gr.refl w).alloc _).alloc _⟩

set_option maxHeartbeats 4000000 in
set_option maxRecDepth 100000 in
theorem wo7 (f1 f2 : Int) (f3 : Bool) (f4 : Option Addr) (f5 f6 : Nat) (f7 f8 f9 f10 f11 f12 f13 f14 f15 : Int) (w : World) : Calls Tryd.prog 31 #[.agg #[.int .i64 7, .int .u64 f1, .int .i64 f2, .bool f3, .slice f4 f5 f6, .int .i64 f7, .int .u64 f8, .int .i64 f9, .int .u64 f10, .int .i64 f11, .int .i64 f12, .int .u64 f13, .int .i64 f14, .int .u64 f15]] w fun e w' => e = .returned (.agg #[.int .i64 0, .int .u64 f1, .int .i64 f2, .bool f3, .slice f4 f5 f6, .int .i64 f7, .int .u64 f8, .int .i64 f9, .int .u64 f10, .int .i64 0, .int .i64 0, .int .u64 0, .int .i64 0, .int .u64 0]) ∧ Gr w w' := by
  go_enter Tryd.func31, Tryd.ntmps31
  go_wp2
  go_returns
  exact ⟨rfl, ((Gr.refl w).alloc _).alloc _⟩

set_option maxHeartbeats 4000000 in
set_option maxRecDepth 100000 in
theorem ow1 (f1 f2 : Int) (f3 : Bool) (f4 : Option Addr) (f5 f6 : Nat) (f7 f8 f9 f10 f11 f12 f13 f14 f15 : Int) (w : World) : Calls Tryd.prog 30 #[.agg #[.int .i64 1, .int .u64 f1, .int .i64 f2, .bool f3, .slice f4 f5 f6, .int .i64 f7, .int .u64 f8, .int .i64 f9, .int .u64 f10, .int .i64 f11, .int .i64 f12, .int .u64 f13, .int .i64 f14, .int .u64 f15]] w fun e w' => e = .returned (.bool (ownB ⟨1, f1, f2, f3, f4, f5, f6, f7, f8, f9, f10, f11, f12, f13, f14, f15⟩)) ∧ Gr w w' := by
  have hr : ownB ⟨1, f1, f2, f3, f4, f5, f6, f7, f8, f9, f10, f11, f12, f13, f14, f15⟩ = true := by simp [ownB]
  rw [hr]
  clear hr
  go_enter Tryd.func30, Tryd.ntmps30
  go_wp2
  go_ret
  exact ⟨rfl, (Gr.refl w).alloc _⟩

set_option maxHeartbeats 4000000 in
set_option maxRecDepth 100000 in
theorem ow2 (f1 f2 : Int) (f3 : Bool) (f4 : Option Addr) (f5 f6 : Nat) (f7 f8 f9 f10 f11 f12 f13 f14 f15 : Int) (w : World) : Calls Tryd.prog 30 #[.agg #[.int .i64 2, .int .u64 f1, .int .i64 f2, .bool f3, .slice f4 f5 f6, .int .i64 f7, .int .u64 f8, .int .i64 f9, .int .u64 f10, .int .i64 f11, .int .i64 f12, .int .u64 f13, .int .i64 f14, .int .u64 f15]] w fun e w' => e = .returned (.bool (ownB ⟨2, f1, f2, f3, f4, f5, f6, f7, f8, f9, f10, f11, f12, f13, f14, f15⟩)) ∧ Gr w w' := by
  have hr : ownB ⟨2, f1, f2, f3, f4, f5, f6, f7, f8, f9, f10, f11, f12, f13, f14, f15⟩ = true := by simp [ownB]
  rw [hr]
  clear hr
  go_enter Tryd.func30, Tryd.ntmps30
  go_wp2
  go_ret
  exact ⟨rfl, (Gr.refl w).alloc _⟩

set_option maxHeartbeats 4000000 in
set_option maxRecDepth 100000 in
theorem ow3 (f1 f2 : Int) (f3 : Bool) (f4 : Option Addr) (f5 f6 : Nat) (f7 f8 f9 f10 f11 f12 f13 f14 f15 : Int) (w : World) : Calls Tryd.prog 30 #[.agg #[.int .i64 3, .int .u64 f1, .int .i64 f2, .bool f3, .slice f4 f5 f6, .int .i64 f7, .int .u64 f8, .int .i64 f9, .int .u64 f10, .int .i64 f11, .int .i64 f12, .int .u64 f13, .int .i64 f14, .int .u64 f15]] w fun e w' => e = .returned (.bool (ownB ⟨3, f1, f2, f3, f4, f5, f6, f7, f8, f9, f10, f11, f12, f13, f14, f15⟩)) ∧ Gr w w' := by
  have hr : ownB ⟨3, f1, f2, f3, f4, f5, f6, f7, f8, f9, f10, f11, f12, f13, f14, f15⟩ = true := by simp [ownB]
  rw [hr]
  clear hr
  go_enter Tryd.func30, Tryd.ntmps30
  go_wp2
  go_ret
  exact ⟨rfl, (Gr.refl w).alloc _⟩

set_option maxHeartbeats 4000000 in
set_option maxRecDepth 100000 in
theorem ow4 (f1 f2 : Int) (f3 : Bool) (f4 : Option Addr) (f5 f6 : Nat) (f7 f8 f9 f10 f11 f12 f13 f14 f15 : Int) (w : World) : Calls Tryd.prog 30 #[.agg #[.int .i64 4, .int .u64 f1, .int .i64 f2, .bool f3, .slice f4 f5 f6, .int .i64 f7, .int .u64 f8, .int .i64 f9, .int .u64 f10, .int .i64 f11, .int .i64 f12, .int .u64 f13, .int .i64 f14, .int .u64 f15]] w fun e w' => e = .returned (.bool (ownB ⟨4, f1, f2, f3, f4, f5, f6, f7, f8, f9, f10, f11, f12, f13, f14, f15⟩)) ∧ Gr w w' := by
  by_cases h : f5 ≤ 65536
  · have hr : ownB ⟨4, f1, f2, f3, f4, f5, f6, f7, f8, f9, f10, f11, f12, f13, f14, f15⟩ = true := by simp [ownB, h]
    have h' : (f5 : Int) ≤ 65536 := by omega
    rw [hr]
    clear hr h
    go_enter Tryd.func30, Tryd.ntmps30
    go_wp2
    go_ret
    exact ⟨rfl, (Gr.refl w).alloc _⟩
  · have hr : ownB ⟨4, f1, f2, f3, f4, f5, f6, f7, f8, f9, f10, f11, f12, f13, f14, f15⟩ = false := by simp [ownB, h]
    have h' : ¬ (f5 : Int) ≤ 65536 := by omega
    rw [hr]
    clear hr h
    go_enter Tryd.func30, Tryd.ntmps30
    go_wp2
    go_ret
    exact ⟨rfl, (Gr.refl w).alloc _⟩

set_option maxHeartbeats 4000000 in
set_option maxRecDepth 100000 in
theorem ow5 (f1 f2 : Int) (f3 : Bool) (f4 : Option Addr) (f5 f6 : Nat) (f7 f8 f9 f10 f11 f12 f13 f14 f15 : Int) (h8 : 0 ≤ f8) (w : World) : Calls Tryd.prog 30 #[.agg #[.int .i64 5, .int .u64 f1, .int .i64 f2, .bool f3, .slice f4 f5 f6, .int .i64 f7, .int .u64 f8, .int .i64 f9, .int .u64 f10, .int .i64 f11, .int .i64 f12, .int .u64 f13, .int .i64 f14, .int .u64 f15]] w fun e w' => e = .returned (.bool (ownB ⟨5, f1, f2, f3, f4, f5, f6, f7, f8, f9, f10, f11, f12, f13, f14, f15⟩)) ∧ Gr w w' := by
  have hr : ownB ⟨5, f1, f2, f3, f4, f5, f6, f7, f8, f9, f10, f11, f12, f13, f14, f15⟩ = rt f7 f8 := by simp [ownB]
  rw [hr]
  clear hr
  rcases h : rt f7 f8 with _ | _
  · have hv := fun w => vright_bad f7 f8 h h8 w
    clear h
    have HI := hide (IsB.new w #[.int .i64 5, .int .u64 f1, .int .i64 f2, .bool f3, .slice f4 f5 f6, .int .i64 f7, .int .u64 f8, .int .i64 f9, .int .u64 f10, .int .i64 f11, .int .i64 f12, .int .u64 f13, .int .i64 f14, .int .u64 f15] 34)
    have HG := hide (show Gr w (w.alloc (.cells #[.int .i64 5, .int .u64 f1, .int .i64 f2, .bool f3, .slice f4 f5 f6, .int .i64 f7, .int .u64 f8, .int .i64 f9, .int .u64 f10, .int .i64 f11, .int .i64 f12, .int .u64 f13, .int .i64 f14, .int .u64 f15] 34)) from (Gr.refl w).alloc _)
    go_enter Tryd.func30, Tryd.ntmps30
    go_wp2_with fail
    generalize w.alloc (.cells #[.int .i64 5, .int .u64 f1, .int .i64 f2, .bool f3, .slice f4 f5 f6, .int .i64 f7, .int .u64 f8, .int .i64 f9, .int .u64 f10, .int .i64 f11, .int .i64 f12, .int .u64 f13, .int .i64 f14, .int .u64 f15] 34) = W0 at HI HG ⊢
    have a0 : W0.cell? ⟨w.heap.size, 0, none⟩ = some (.int .i64 5) := HI.out.cell 0
    have a1 : W0.cell? ⟨w.heap.size, 1, none⟩ = some (.int .u64 f1) := HI.out.cell 1
    have a2 : W0.cell? ⟨w.heap.size, 2, none⟩ = some (.int .i64 f2) := HI.out.cell 2
    have a3 : W0.cell? ⟨w.heap.size, 3, none⟩ = some (.bool f3) := HI.out.cell 3
    have a4 : W0.cell? ⟨w.heap.size, 4, none⟩ = some (.slice f4 f5 f6) := HI.out.cell 4
    have a5 : W0.cell? ⟨w.heap.size, 5, none⟩ = some (.int .i64 f7) := HI.out.cell 5
    have a6 : W0.cell? ⟨w.heap.size, 6, none⟩ = some (.int .u64 f8) := HI.out.cell 6
    have a7 : W0.cell? ⟨w.heap.size, 7, none⟩ = some (.int .i64 f9) := HI.out.cell 7
    have a8 : W0.cell? ⟨w.heap.size, 8, none⟩ = some (.int .u64 f10) := HI.out.cell 8
    have a9 : W0.cell? ⟨w.heap.size, 9, none⟩ = some (.int .i64 f11) := HI.out.cell 9
    have a10 : W0.cell? ⟨w.heap.size, 10, none⟩ = some (.int .i64 f12) := HI.out.cell 10
    have a11 : W0.cell? ⟨w.heap.size, 11, none⟩ = some (.int .u64 f13) := HI.out.cell 11
    have a12 : W0.cell? ⟨w.heap.size, 12, none⟩ = some (.int .i64 f14) := HI.out.cell 12
    have a13 : W0.cell? ⟨w.heap.size, 13, none⟩ = some (.int .u64 f15) := HI.out.cell 13
    clear a0 a1 a2 a3 a4 a5 a6 a7 a8 a9 a10 a11 a12 a13
    refine (hv W0).mono ?_; rintro e w1 ⟨rfl, hg⟩
    replace HI := hide (HI.out.gr hg)
    replace HG := hide (HG.out.trans hg)
    clear hg
    have a0 : w1.cell? ⟨w.heap.size, 0, none⟩ = some (.int .i64 5) := HI.out.cell 0
    have a1 : w1.cell? ⟨w.heap.size, 1, none⟩ = some (.int .u64 f1) := HI.out.cell 1
    have a2 : w1.cell? ⟨w.heap.size, 2, none⟩ = some (.int .i64 f2) := HI.out.cell 2
    have a3 : w1.cell? ⟨w.heap.size, 3, none⟩ = some (.bool f3) := HI.out.cell 3
    have a4 : w1.cell? ⟨w.heap.size, 4, none⟩ = some (.slice f4 f5 f6) := HI.out.cell 4
    have a5 : w1.cell? ⟨w.heap.size, 5, none⟩ = some (.int .i64 f7) := HI.out.cell 5
    have a6 : w1.cell? ⟨w.heap.size, 6, none⟩ = some (.int .u64 f8) := HI.out.cell 6
    have a7 : w1.cell? ⟨w.heap.size, 7, none⟩ = some (.int .i64 f9) := HI.out.cell 7
    have a8 : w1.cell? ⟨w.heap.size, 8, none⟩ = some (.int .u64 f10) := HI.out.cell 8
    have a9 : w1.cell? ⟨w.heap.size, 9, none⟩ = some (.int .i64 f11) := HI.out.cell 9
    have a10 : w1.cell? ⟨w.heap.size, 10, none⟩ = some (.int .i64 f12) := HI.out.cell 10
    have a11 : w1.cell? ⟨w.heap.size, 11, none⟩ = some (.int .u64 f13) := HI.out.cell 11
    have a12 : w1.cell? ⟨w.heap.size, 12, none⟩ = some (.int .i64 f14) := HI.out.cell 12
    have a13 : w1.cell? ⟨w.heap.size, 13, none⟩ = some (.int .u64 f15) := HI.out.cell 13
    go_wp2
    go_ret
    exact ⟨rfl, HG.out⟩
  · have hv := fun w => vright_yes f7 f8 h h8 w
    clear h
    have HI := hide (IsB.new w #[.int .i64 5, .int .u64 f1, .int .i64 f2, .bool f3, .slice f4 f5 f6, .int .i64 f7, .int .u64 f8, .int .i64 f9, .int .u64 f10, .int .i64 f11, .int .i64 f12, .int .u64 f13, .int .i64 f14, .int .u64 f15] 34)
    have HG := hide (show Gr w (w.alloc (.cells #[.int .i64 5, .int .u64 f1, .int .i64 f2, .bool f3, .slice f4 f5 f6, .int .i64 f7, .int .u64 f8, .int .i64 f9, .int .u64 f10, .int .i64 f11, .int .i64 f12, .int .u64 f13, .int .i64 f14, .int .u64 f15] 34)) from (Gr.refl w).alloc _)
    go_enter Tryd.func30, Tryd.ntmps30
    go_wp2_with fail
    generalize w.alloc (.cells #[.int .i64 5, .int .u64 f1, .int .i64 f2, .bool f3, .slice f4 f5 f6, .int .i64 f7, .int .u64 f8, .int .i64 f9, .int .u64 f10, .int .i64 f11, .int .i64 f12, .int .u64 f13, .int .i64 f14, .int .u64 f15] 34) = W0 at HI HG ⊢
    have a0 : W0.cell? ⟨w.heap.size, 0, none⟩ = some (.int .i64 5) := HI.out.cell 0
    have a1 : W0.cell? ⟨w.heap.size, 1, none⟩ = some (.int .u64 f1) := HI.out.cell 1
    have a2 : W0.cell? ⟨w.heap.size, 2, none⟩ = some (.int .i64 f2) := HI.out.cell 2
    have a3 : W0.cell? ⟨w.heap.size, 3, none⟩ = some (.bool f3) := HI.out.cell 3
    have a4 : W0.cell? ⟨w.heap.size, 4, none⟩ = some (.slice f4 f5 f6) := HI.out.cell 4
    have a5 : W0.cell? ⟨w.heap.size, 5, none⟩ = some (.int .i64 f7) := HI.out.cell 5
    have a6 : W0.cell? ⟨w.heap.size, 6, none⟩ = some (.int .u64 f8) := HI.out.cell 6
    have a7 : W0.cell? ⟨w.heap.size, 7, none⟩ = some (.int .i64 f9) := HI.out.cell 7
    have a8 : W0.cell? ⟨w.heap.size, 8, none⟩ = some (.int .u64 f10) := HI.out.cell 8
    have a9 : W0.cell? ⟨w.heap.size, 9, none⟩ = some (.int .i64 f11) := HI.out.cell 9
    have a10 : W0.cell? ⟨w.heap.size, 10, none⟩ = some (.int .i64 f12) := HI.out.cell 10
    have a11 : W0.cell? ⟨w.heap.size, 11, none⟩ = some (.int .u64 f13) := HI.out.cell 11
    have a12 : W0.cell? ⟨w.heap.size, 12, none⟩ = some (.int .i64 f14) := HI.out.cell 12
    have a13 : W0.cell? ⟨w.heap.size, 13, none⟩ = some (.int .u64 f15) := HI.out.cell 13
    clear a0 a1 a2 a3 a4 a5 a6 a7 a8 a9 a10 a11 a12 a13
    refine (hv W0).mono ?_; rintro e w1 ⟨rfl, hg⟩
    replace HI := hide (HI.out.gr hg)
    replace HG := hide (HG.out.trans hg)
    clear hg
    have a0 : w1.cell? ⟨w.heap.size, 0, none⟩ = some (.int .i64 5) := HI.out.cell 0
    have a1 : w1.cell? ⟨w.heap.size, 1, none⟩ = some (.int .u64 f1) := HI.out.cell 1
    have a2 : w1.cell? ⟨w.heap.size, 2, none⟩ = some (.int .i64 f2) := HI.out.cell 2
    have a3 : w1.cell? ⟨w.heap.size, 3, none⟩ = some (.bool f3) := HI.out.cell 3
    have a4 : w1.cell? ⟨w.heap.size, 4, none⟩ = some (.slice f4 f5 f6) := HI.out.cell 4
    have a5 : w1.cell? ⟨w.heap.size, 5, none⟩ = some (.int .i64 f7) := HI.out.cell 5
    have a6 : w1.cell? ⟨w.heap.size, 6, none⟩ = some (.int .u64 f8) := HI.out.cell 6
    have a7 : w1.cell? ⟨w.heap.size, 7, none⟩ = some (.int .i64 f9) := HI.out.cell 7
    have a8 : w1.cell? ⟨w.heap.size, 8, none⟩ = some (.int .u64 f10) := HI.out.cell 8
    have a9 : w1.cell? ⟨w.heap.size, 9, none⟩ = some (.int .i64 f11) := HI.out.cell 9
    have a10 : w1.cell? ⟨w.heap.size, 10, none⟩ = some (.int .i64 f12) := HI.out.cell 10
    have a11 : w1.cell? ⟨w.heap.size, 11, none⟩ = some (.int .u64 f13) := HI.out.cell 11
    have a12 : w1.cell? ⟨w.heap.size, 12, none⟩ = some (.int .i64 f14) := HI.out.cell 12
    have a13 : w1.cell? ⟨w.heap.size, 13, none⟩ = some (.int .u64 f15) := HI.out.cell 13
    go_wp2
    go_ret
    exact ⟨rfl, HG.out⟩

set_option maxHeartbeats 4000000 in
set_option maxRecDepth 100000 in
theorem ow6 (f1 f2 : Int) (f3 : Bool) (f4 : Option Addr) (f5 f6 : Nat) (f7 f8 f9 f10 f11 f12 f13 f14 f15 : Int) (w : World) (hR : Ranks w) : Calls Tryd.prog 30 #[.agg #[.int .i64 6, .int .u64 f1, .int .i64 f2, .bool f3, .slice f4 f5 f6, .int .i64 f7, .int .u64 f8, .int .i64 f9, .int .u64 f10, .int .i64 f11, .int .i64 f12, .int .u64 f13, .int .i64 f14, .int .u64 f15]] w fun e w' => e = .returned (.bool (ownB ⟨6, f1, f2, f3, f4, f5, f6, f7, f8, f9, f10, f11, f12, f13, f14, f15⟩)) ∧ Gr w w' := by
  have hr : ownB ⟨6, f1, f2, f3, f4, f5, f6, f7, f8, f9, f10, f11, f12, f13, f14, f15⟩ = (ckE f9 f10 == 0) := by simp [ownB]
  rw [hr]
  clear hr
  replace hR := hide hR
  have hk := fun W (hg : Gr w W) => kCheck_any f9 f10 W (hR.out.gr hg)
  rcases ckE_cases f9 f10 with h | h
  · rw [h] at hk ⊢
    clear h
    have HI := hide (IsB.new w #[.int .i64 6, .int .u64 f1, .int .i64 f2, .bool f3, .slice f4 f5 f6, .int .i64 f7, .int .u64 f8, .int .i64 f9, .int .u64 f10, .int .i64 f11, .int .i64 f12, .int .u64 f13, .int .i64 f14, .int .u64 f15] 34)
    have HG := hide (show Gr w (w.alloc (.cells #[.int .i64 6, .int .u64 f1, .int .i64 f2, .bool f3, .slice f4 f5 f6, .int .i64 f7, .int .u64 f8, .int .i64 f9, .int .u64 f10, .int .i64 f11, .int .i64 f12, .int .u64 f13, .int .i64 f14, .int .u64 f15] 34)) from (Gr.refl w).alloc _)
    go_enter Tryd.func30, Tryd.ntmps30
    go_wp2_with fail
    generalize w.alloc (.cells #[.int .i64 6, .int .u64 f1, .int .i64 f2, .bool f3, .slice f4 f5 f6, .int .i64 f7, .int .u64 f8, .int .i64 f9, .int .u64 f10, .int .i64 f11, .int .i64 f12, .int .u64 f13, .int .i64 f14, .int .u64 f15] 34) = W0 at HI HG ⊢
    have a0 : W0.cell? ⟨w.heap.size, 0, none⟩ = some (.int .i64 6) := HI.out.cell 0
    have a1 : W0.cell? ⟨w.heap.size, 1, none⟩ = some (.int .u64 f1) := HI.out.cell 1
    have a2 : W0.cell? ⟨w.heap.size, 2, none⟩ = some (.int .i64 f2) := HI.out.cell 2
    have a3 : W0.cell? ⟨w.heap.size, 3, none⟩ = some (.bool f3) := HI.out.cell 3
    have a4 : W0.cell? ⟨w.heap.size, 4, none⟩ = some (.slice f4 f5 f6) := HI.out.cell 4
    have a5 : W0.cell? ⟨w.heap.size, 5, none⟩ = some (.int .i64 f7) := HI.out.cell 5
    have a6 : W0.cell? ⟨w.heap.size, 6, none⟩ = some (.int .u64 f8) := HI.out.cell 6
    have a7 : W0.cell? ⟨w.heap.size, 7, none⟩ = some (.int .i64 f9) := HI.out.cell 7
    have a8 : W0.cell? ⟨w.heap.size, 8, none⟩ = some (.int .u64 f10) := HI.out.cell 8
    have a9 : W0.cell? ⟨w.heap.size, 9, none⟩ = some (.int .i64 f11) := HI.out.cell 9
    have a10 : W0.cell? ⟨w.heap.size, 10, none⟩ = some (.int .i64 f12) := HI.out.cell 10
    have a11 : W0.cell? ⟨w.heap.size, 11, none⟩ = some (.int .u64 f13) := HI.out.cell 11
    have a12 : W0.cell? ⟨w.heap.size, 12, none⟩ = some (.int .i64 f14) := HI.out.cell 12
    have a13 : W0.cell? ⟨w.heap.size, 13, none⟩ = some (.int .u64 f15) := HI.out.cell 13
    clear a0 a1 a2 a3 a4 a5 a6 a7 a8 a9 a10 a11 a12 a13
    refine (hk W0 HG.out).mono ?_; rintro e w1 ⟨rfl, hg⟩
    replace HI := hide (HI.out.gr hg)
    replace HG := hide (HG.out.trans hg)
    clear hg
    have a0 : w1.cell? ⟨w.heap.size, 0, none⟩ = some (.int .i64 6) := HI.out.cell 0
    have a1 : w1.cell? ⟨w.heap.size, 1, none⟩ = some (.int .u64 f1) := HI.out.cell 1
    have a2 : w1.cell? ⟨w.heap.size, 2, none⟩ = some (.int .i64 f2) := HI.out.cell 2
    have a3 : w1.cell? ⟨w.heap.size, 3, none⟩ = some (.bool f3) := HI.out.cell 3
    have a4 : w1.cell? ⟨w.heap.size, 4, none⟩ = some (.slice f4 f5 f6) := HI.out.cell 4
    have a5 : w1.cell? ⟨w.heap.size, 5, none⟩ = some (.int .i64 f7) := HI.out.cell 5
    have a6 : w1.cell? ⟨w.heap.size, 6, none⟩ = some (.int .u64 f8) := HI.out.cell 6
    have a7 : w1.cell? ⟨w.heap.size, 7, none⟩ = some (.int .i64 f9) := HI.out.cell 7
    have a8 : w1.cell? ⟨w.heap.size, 8, none⟩ = some (.int .u64 f10) := HI.out.cell 8
    have a9 : w1.cell? ⟨w.heap.size, 9, none⟩ = some (.int .i64 f11) := HI.out.cell 9
    have a10 : w1.cell? ⟨w.heap.size, 10, none⟩ = some (.int .i64 f12) := HI.out.cell 10
    have a11 : w1.cell? ⟨w.heap.size, 11, none⟩ = some (.int .u64 f13) := HI.out.cell 11
    have a12 : w1.cell? ⟨w.heap.size, 12, none⟩ = some (.int .i64 f14) := HI.out.cell 12
    have a13 : w1.cell? ⟨w.heap.size, 13, none⟩ = some (.int .u64 f15) := HI.out.cell 13
    go_wp2
    go_ret
    exact ⟨rfl, HG.out⟩
  · rw [h] at hk ⊢
    clear h
    have HI := hide (IsB.new w #[.int .i64 6, .int .u64 f1, .int .i64 f2, .bool f3, .slice f4 f5 f6, .int .i64 f7, .int .u64 f8, .int .i64 f9, .int .u64 f10, .int .i64 f11, .int .i64 f12, .int .u64 f13, .int .i64 f14, .int .u64 f15] 34)
    have HG := hide (show Gr w (w.alloc (.cells #[.int .i64 6, .int .u64 f1, .int .i64 f2, .bool f3, .slice f4 f5 f6, .int .i64 f7, .int .u64 f8, .int .i64 f9, .int .u64 f10, .int .i64 f11, .int .i64 f12, .int .u64 f13, .int .i64 f14, .int .u64 f15] 34)) from (Gr.refl w).alloc _)
    go_enter Tryd.func30, Tryd.ntmps30
    go_wp2_with fail
    generalize w.alloc (.cells #[.int .i64 6, .int .u64 f1, .int .i64 f2, .bool f3, .slice f4 f5 f6, .int .i64 f7, .int .u64 f8, .int .i64 f9, .int .u64 f10, .int .i64 f11, .int .i64 f12, .int .u64 f13, .int .i64 f14, .int .u64 f15] 34) = W0 at HI HG ⊢
    have a0 : W0.cell? ⟨w.heap.size, 0, none⟩ = some (.int .i64 6) := HI.out.cell 0
    have a1 : W0.cell? ⟨w.heap.size, 1, none⟩ = some (.int .u64 f1) := HI.out.cell 1
    have a2 : W0.cell? ⟨w.heap.size, 2, none⟩ = some (.int .i64 f2) := HI.out.cell 2
    have a3 : W0.cell? ⟨w.heap.size, 3, none⟩ = some (.bool f3) := HI.out.cell 3
    have a4 : W0.cell? ⟨w.heap.size, 4, none⟩ = some (.slice f4 f5 f6) := HI.out.cell 4
    have a5 : W0.cell? ⟨w.heap.size, 5, none⟩ = some (.int .i64 f7) := HI.out.cell 5
    have a6 : W0.cell? ⟨w.heap.size, 6, none⟩ = some (.int .u64 f8) := HI.out.cell 6
    have a7 : W0.cell? ⟨w.heap.size, 7, none⟩ = some (.int .i64 f9) := HI.out.cell 7
    have a8 : W0.cell? ⟨w.heap.size, 8, none⟩ = some (.int .u64 f10) := HI.out.cell 8
    have a9 : W0.cell? ⟨w.heap.size, 9, none⟩ = some (.int .i64 f11) := HI.out.cell 9
    have a10 : W0.cell? ⟨w.heap.size, 10, none⟩ = some (.int .i64 f12) := HI.out.cell 10
    have a11 : W0.cell? ⟨w.heap.size, 11, none⟩ = some (.int .u64 f13) := HI.out.cell 11
    have a12 : W0.cell? ⟨w.heap.size, 12, none⟩ = some (.int .i64 f14) := HI.out.cell 12
    have a13 : W0.cell? ⟨w.heap.size, 13, none⟩ = some (.int .u64 f15) := HI.out.cell 13
    clear a0 a1 a2 a3 a4 a5 a6 a7 a8 a9 a10 a11 a12 a13
    refine (hk W0 HG.out).mono ?_; rintro e w1 ⟨rfl, hg⟩
    replace HI := hide (HI.out.gr hg)
    replace HG := hide (HG.out.trans hg)
    clear hg
    have a0 : w1.cell? ⟨w.heap.size, 0, none⟩ = some (.int .i64 6) := HI.out.cell 0
    have a1 : w1.cell? ⟨w.heap.size, 1, none⟩ = some (.int .u64 f1) := HI.out.cell 1
    have a2 : w1.cell? ⟨w.heap.size, 2, none⟩ = some (.int .i64 f2) := HI.out.cell 2
    have a3 : w1.cell? ⟨w.heap.size, 3, none⟩ = some (.bool f3) := HI.out.cell 3
    have a4 : w1.cell? ⟨w.heap.size, 4, none⟩ = some (.slice f4 f5 f6) := HI.out.cell 4
    have a5 : w1.cell? ⟨w.heap.size, 5, none⟩ = some (.int .i64 f7) := HI.out.cell 5
    have a6 : w1.cell? ⟨w.heap.size, 6, none⟩ = some (.int .u64 f8) := HI.out.cell 6
    have a7 : w1.cell? ⟨w.heap.size, 7, none⟩ = some (.int .i64 f9) := HI.out.cell 7
    have a8 : w1.cell? ⟨w.heap.size, 8, none⟩ = some (.int .u64 f10) := HI.out.cell 8
    have a9 : w1.cell? ⟨w.heap.size, 9, none⟩ = some (.int .i64 f11) := HI.out.cell 9
    have a10 : w1.cell? ⟨w.heap.size, 10, none⟩ = some (.int .i64 f12) := HI.out.cell 10
    have a11 : w1.cell? ⟨w.heap.size, 11, none⟩ = some (.int .u64 f13) := HI.out.cell 11
    have a12 : w1.cell? ⟨w.heap.size, 12, none⟩ = some (.int .i64 f14) := HI.out.cell 12
    have a13 : w1.cell? ⟨w.heap.size, 13, none⟩ = some (.int .u64 f15) := HI.out.cell 13
    go_wp2
    go_ret
    exact ⟨rfl, HG.out⟩

set_option maxHeartbeats 4000000 in
set_option maxRecDepth 100000 in
theorem ow7 (f1 f2 : Int) (f3 : Bool) (f4 : Option Addr) (f5 f6 : Nat) (f7 f8 f9 f10 f11 f12 f13 f14 f15 : Int) (h15 : 0 ≤ f15) (w : World) (hR : Ranks w) : Calls Tryd.prog 30 #[.agg #[.int .i64 7, .int .u64 f1, .int .i64 f2, .bool f3, .slice f4 f5 f6, .int .i64 f7, .int .u64 f8, .int .i64 f9, .int .u64 f10, .int .i64 f11, .int .i64 f12, .int .u64 f13, .int .i64 f14, .int .u64 f15]] w fun e w' => e = .returned (.bool (ownB ⟨7, f1, f2, f3, f4, f5, f6, f7, f8, f9, f10, f11, f12, f13, f14, f15⟩)) ∧ Gr w w' := by
  have hr : ownB ⟨7, f1, f2, f3, f4, f5, f6, f7, f8, f9, f10, f11, f12, f13, f14, f15⟩ = (ckE f12 f13 == 0 && rt f14 f15) := by simp [ownB]
  rw [hr]
  clear hr
  replace hR := hide hR
  have hk := fun W (hg : Gr w W) => kCheck_any f12 f13 W (hR.out.gr hg)
  rcases ckE_cases f12 f13 with h | h
  · rw [h] at hk ⊢
    clear h
    rcases h : rt f14 f15 with _ | _
    · have hv := fun w => vright_bad f14 f15 h h15 w
      clear h
      have HI := hide (IsB.new w #[.int .i64 7, .int .u64 f1, .int .i64 f2, .bool f3, .slice f4 f5 f6, .int .i64 f7, .int .u64 f8, .int .i64 f9, .int .u64 f10, .int .i64 f11, .int .i64 f12, .int .u64 f13, .int .i64 f14, .int .u64 f15] 34)
      have HG := hide (show Gr w (w.alloc (.cells #[.int .i64 7, .int .u64 f1, .int .i64 f2, .bool f3, .slice f4 f5 f6, .int .i64 f7, .int .u64 f8, .int .i64 f9, .int .u64 f10, .int .i64 f11, .int .i64 f12, .int .u64 f13, .int .i64 f14, .int .u64 f15] 34)) from (Gr.refl w).alloc _)
      go_enter Tryd.func30, Tryd.ntmps30
      go_wp2_with fail
      generalize w.alloc (.cells #[.int .i64 7, .int .u64 f1, .int .i64 f2, .bool f3, .slice f4 f5 f6, .int .i64 f7, .int .u64 f8, .int .i64 f9, .int .u64 f10, .int .i64 f11, .int .i64 f12, .int .u64 f13, .int .i64 f14, .int .u64 f15] 34) = W0 at HI HG ⊢
      have a0 : W0.cell? ⟨w.heap.size, 0, none⟩ = some (.int .i64 7) := HI.out.cell 0
      have a1 : W0.cell? ⟨w.heap.size, 1, none⟩ = some (.int .u64 f1) := HI.out.cell 1
      have a2 : W0.cell? ⟨w.heap.size, 2, none⟩ = some (.int .i64 f2) := HI.out.cell 2
      have a3 : W0.cell? ⟨w.heap.size, 3, none⟩ = some (.bool f3) := HI.out.cell 3
      have a4 : W0.cell? ⟨w.heap.size, 4, none⟩ = some (.slice f4 f5 f6) := HI.out.cell 4
      have a5 : W0.cell? ⟨w.heap.size, 5, none⟩ = some (.int .i64 f7) := HI.out.cell 5
      have a6 : W0.cell? ⟨w.heap.size, 6, none⟩ = some (.int .u64 f8) := HI.out.cell 6
      have a7 : W0.cell? ⟨w.heap.size, 7, none⟩ = some (.int .i64 f9) := HI.out.cell 7
      have a8 : W0.cell? ⟨w.heap.size, 8, none⟩ = some (.int .u64 f10) := HI.out.cell 8
      have a9 : W0.cell? ⟨w.heap.size, 9, none⟩ = some (.int .i64 f11) := HI.out.cell 9
      have a10 : W0.cell? ⟨w.heap.size, 10, none⟩ = some (.int .i64 f12) := HI.out.cell 10
      have a11 : W0.cell? ⟨w.heap.size, 11, none⟩ = some (.int .u64 f13) := HI.out.cell 11
      have a12 : W0.cell? ⟨w.heap.size, 12, none⟩ = some (.int .i64 f14) := HI.out.cell 12
      have a13 : W0.cell? ⟨w.heap.size, 13, none⟩ = some (.int .u64 f15) := HI.out.cell 13
      clear a0 a1 a2 a3 a4 a5 a6 a7 a8 a9 a10 a11 a12 a13
      refine (hk W0 HG.out).mono ?_; rintro e w1 ⟨rfl, hg⟩
      replace HI := hide (HI.out.gr hg)
      replace HG := hide (HG.out.trans hg)
      clear hg
      have a0 : w1.cell? ⟨w.heap.size, 0, none⟩ = some (.int .i64 7) := HI.out.cell 0
      have a1 : w1.cell? ⟨w.heap.size, 1, none⟩ = some (.int .u64 f1) := HI.out.cell 1
      have a2 : w1.cell? ⟨w.heap.size, 2, none⟩ = some (.int .i64 f2) := HI.out.cell 2
      have a3 : w1.cell? ⟨w.heap.size, 3, none⟩ = some (.bool f3) := HI.out.cell 3
      have a4 : w1.cell? ⟨w.heap.size, 4, none⟩ = some (.slice f4 f5 f6) := HI.out.cell 4
      have a5 : w1.cell? ⟨w.heap.size, 5, none⟩ = some (.int .i64 f7) := HI.out.cell 5
      have a6 : w1.cell? ⟨w.heap.size, 6, none⟩ = some (.int .u64 f8) := HI.out.cell 6
      have a7 : w1.cell? ⟨w.heap.size, 7, none⟩ = some (.int .i64 f9) := HI.out.cell 7
      have a8 : w1.cell? ⟨w.heap.size, 8, none⟩ = some (.int .u64 f10) := HI.out.cell 8
      have a9 : w1.cell? ⟨w.heap.size, 9, none⟩ = some (.int .i64 f11) := HI.out.cell 9
      have a10 : w1.cell? ⟨w.heap.size, 10, none⟩ = some (.int .i64 f12) := HI.out.cell 10
      have a11 : w1.cell? ⟨w.heap.size, 11, none⟩ = some (.int .u64 f13) := HI.out.cell 11
      have a12 : w1.cell? ⟨w.heap.size, 12, none⟩ = some (.int .i64 f14) := HI.out.cell 12
      have a13 : w1.cell? ⟨w.heap.size, 13, none⟩ = some (.int .u64 f15) := HI.out.cell 13
      go_wp2_with fail
      clear a0 a1 a2 a3 a4 a5 a6 a7 a8 a9 a10 a11 a12 a13
      refine (hv w1).mono ?_; rintro e w2 ⟨rfl, hg⟩
      replace HI := hide (HI.out.gr hg)
      replace HG := hide (HG.out.trans hg)
      clear hg
      have a0 : w2.cell? ⟨w.heap.size, 0, none⟩ = some (.int .i64 7) := HI.out.cell 0
      have a1 : w2.cell? ⟨w.heap.size, 1, none⟩ = some (.int .u64 f1) := HI.out.cell 1
      have a2 : w2.cell? ⟨w.heap.size, 2, none⟩ = some (.int .i64 f2) := HI.out.cell 2
      have a3 : w2.cell? ⟨w.heap.size, 3, none⟩ = some (.bool f3) := HI.out.cell 3
      have a4 : w2.cell? ⟨w.heap.size, 4, none⟩ = some (.slice f4 f5 f6) := HI.out.cell 4
      have a5 : w2.cell? ⟨w.heap.size, 5, none⟩ = some (.int .i64 f7) := HI.out.cell 5
      have a6 : w2.cell? ⟨w.heap.size, 6, none⟩ = some (.int .u64 f8) := HI.out.cell 6
      have a7 : w2.cell? ⟨w.heap.size, 7, none⟩ = some (.int .i64 f9) := HI.out.cell 7
      have a8 : w2.cell? ⟨w.heap.size, 8, none⟩ = some (.int .u64 f10) := HI.out.cell 8
      have a9 : w2.cell? ⟨w.heap.size, 9, none⟩ = some (.int .i64 f11) := HI.out.cell 9
      have a10 : w2.cell? ⟨w.heap.size, 10, none⟩ = some (.int .i64 f12) := HI.out.cell 10
      have a11 : w2.cell? ⟨w.heap.size, 11, none⟩ = some (.int .u64 f13) := HI.out.cell 11
      have a12 : w2.cell? ⟨w.heap.size, 12, none⟩ = some (.int .i64 f14) := HI.out.cell 12
      have a13 : w2.cell? ⟨w.heap.size, 13, none⟩ = some (.int .u64 f15) := HI.out.cell 13
      go_wp2
      go_ret
      exact ⟨rfl, HG.out⟩
    · have hv := fun w => vright_yes f14 f15 h h15 w
      clear h
      have HI := hide (IsB.new w #[.int .i64 7, .int .u64 f1, .int .i64 f2, .bool f3, .slice f4 f5 f6, .int .i64 f7, .int .u64 f8, .int .i64 f9, .int .u64 f10, .int .i64 f11, .int .i64 f12, .int .u64 f13, .int .i64 f14, .int .u64 f15] 34)
      have HG := hide (show Gr w (w.alloc (.cells #[.int .i64 7, .int .u64 f1, .int .i64 f2, .bool f3, .slice f4 f5 f6, .int .i64 f7, .int .u64 f8, .int .i64 f9, .int .u64 f10, .int .i64 f11, .int .i64 f12, .int .u64 f13, .int .i64 f14, .int .u64 f15] 34)) from (Gr.refl w).alloc _)
      go_enter Tryd.func30, Tryd.ntmps30
      go_wp2_with fail
      generalize w.alloc (.cells #[.int .i64 7, .int .u64 f1, .int .i64 f2, .bool f3, .slice f4 f5 f6, .int .i64 f7, .int .u64 f8, .int .i64 f9, .int .u64 f10, .int .i64 f11, .int .i64 f12, .int .u64 f13, .int .i64 f14, .int .u64 f15] 34) = W0 at HI HG ⊢
      have a0 : W0.cell? ⟨w.heap.size, 0, none⟩ = some (.int .i64 7) := HI.out.cell 0
      have a1 : W0.cell? ⟨w.heap.size, 1, none⟩ = some (.int .u64 f1) := HI.out.cell 1
      have a2 : W0.cell? ⟨w.heap.size, 2, none⟩ = some (.int .i64 f2) := HI.out.cell 2
      have a3 : W0.cell? ⟨w.heap.size, 3, none⟩ = some (.bool f3) := HI.out.cell 3
      have a4 : W0.cell? ⟨w.heap.size, 4, none⟩ = some (.slice f4 f5 f6) := HI.out.cell 4
      have a5 : W0.cell? ⟨w.heap.size, 5, none⟩ = some (.int .i64 f7) := HI.out.cell 5
      have a6 : W0.cell? ⟨w.heap.size, 6, none⟩ = some (.int .u64 f8) := HI.out.cell 6
      have a7 : W0.cell? ⟨w.heap.size, 7, none⟩ = some (.int .i64 f9) := HI.out.cell 7
      have a8 : W0.cell? ⟨w.heap.size, 8, none⟩ = some (.int .u64 f10) := HI.out.cell 8
      have a9 : W0.cell? ⟨w.heap.size, 9, none⟩ = some (.int .i64 f11) := HI.out.cell 9
      have a10 : W0.cell? ⟨w.heap.size, 10, none⟩ = some (.int .i64 f12) := HI.out.cell 10
      have a11 : W0.cell? ⟨w.heap.size, 11, none⟩ = some (.int .u64 f13) := HI.out.cell 11
      have a12 : W0.cell? ⟨w.heap.size, 12, none⟩ = some (.int .i64 f14) := HI.out.cell 12
      have a13 : W0.cell? ⟨w.heap.size, 13, none⟩ = some (.int .u64 f15) := HI.out.cell 13
      clear a0 a1 a2 a3 a4 a5 a6 a7 a8 a9 a10 a11 a12 a13
      refine (hk W0 HG.out).mono ?_; rintro e w1 ⟨rfl, hg⟩
      replace HI := hide (HI.out.gr hg)
      replace HG := hide (HG.out.trans hg)
      clear hg
      have a0 : w1.cell? ⟨w.heap.size, 0, none⟩ = some (.int .i64 7) := HI.out.cell 0
      have a1 : w1.cell? ⟨w.heap.size, 1, none⟩ = some (.int .u64 f1) := HI.out.cell 1
      have a2 : w1.cell? ⟨w.heap.size, 2, none⟩ = some (.int .i64 f2) := HI.out.cell 2
      have a3 : w1.cell? ⟨w.heap.size, 3, none⟩ = some (.bool f3) := HI.out.cell 3
      have a4 : w1.cell? ⟨w.heap.size, 4, none⟩ = some (.slice f4 f5 f6) := HI.out.cell 4
      have a5 : w1.cell? ⟨w.heap.size, 5, none⟩ = some (.int .i64 f7) := HI.out.cell 5
      have a6 : w1.cell? ⟨w.heap.size, 6, none⟩ = some (.int .u64 f8) := HI.out.cell 6
      have a7 : w1.cell? ⟨w.heap.size, 7, none⟩ = some (.int .i64 f9) := HI.out.cell 7
      have a8 : w1.cell? ⟨w.heap.size, 8, none⟩ = some (.int .u64 f10) := HI.out.cell 8
      have a9 : w1.cell? ⟨w.heap.size, 9, none⟩ = some (.int .i64 f11) := HI.out.cell 9
      have a10 : w1.cell? ⟨w.heap.size, 10, none⟩ = some (.int .i64 f12) := HI.out.cell 10
      have a11 : w1.cell? ⟨w.heap.size, 11, none⟩ = some (.int .u64 f13) := HI.out.cell 11
      have a12 : w1.cell? ⟨w.heap.size, 12, none⟩ = some (.int .i64 f14) := HI.out.cell 12
      have a13 : w1.cell? ⟨w.heap.size, 13, none⟩ = some (.int .u64 f15) := HI.out.cell 13
      go_wp2_with fail
      clear a0 a1 a2 a3 a4 a5 a6 a7 a8 a9 a10 a11 a12 a13
      refine (hv w1).mono ?_; rintro e w2 ⟨rfl, hg⟩
      replace HI := hide (HI.out.gr hg)
      replace HG := hide (HG.out.trans hg)
      clear hg
      have a0 : w2.cell? ⟨w.heap.size, 0, none⟩ = some (.int .i64 7) := HI.out.cell 0
      have a1 : w2.cell? ⟨w.heap.size, 1, none⟩ = some (.int .u64 f1) := HI.out.cell 1
      have a2 : w2.cell? ⟨w.heap.size, 2, none⟩ = some (.int .i64 f2) := HI.out.cell 2
      have a3 : w2.cell? ⟨w.heap.size, 3, none⟩ = some (.bool f3) := HI.out.cell 3
      have a4 : w2.cell? ⟨w.heap.size, 4, none⟩ = some (.slice f4 f5 f6) := HI.out.cell 4
      have a5 : w2.cell? ⟨w.heap.size, 5, none⟩ = some (.int .i64 f7) := HI.out.cell 5
      have a6 : w2.cell? ⟨w.heap.size, 6, none⟩ = some (.int .u64 f8) := HI.out.cell 6
      have a7 : w2.cell? ⟨w.heap.size, 7, none⟩ = some (.int .i64 f9) := HI.out.cell 7
      have a8 : w2.cell? ⟨w.heap.size, 8, none⟩ = some (.int .u64 f10) := HI.out.cell 8
      have a9 : w2.cell? ⟨w.heap.size, 9, none⟩ = some (.int .i64 f11) := HI.out.cell 9
      have a10 : w2.cell? ⟨w.heap.size, 10, none⟩ = some (.int .i64 f12) := HI.out.cell 10
      have a11 : w2.cell? ⟨w.heap.size, 11, none⟩ = some (.int .u64 f13) := HI.out.cell 11
      have a12 : w2.cell? ⟨w.heap.size, 12, none⟩ = some (.int .i64 f14) := HI.out.cell 12
      have a13 : w2.cell? ⟨w.heap.size, 13, none⟩ = some (.int .u64 f15) := HI.out.cell 13
      go_wp2
      go_ret
      exact ⟨rfl, HG.out⟩
  · rw [h] at hk ⊢
    clear h
    have HI := hide (IsB.new w #[.int .i64 7, .int .u64 f1, .int .i64 f2, .bool f3, .slice f4 f5 f6, .int .i64 f7, .int .u64 f8, .int .i64 f9, .int .u64 f10, .int .i64 f11, .int .i64 f12, .int .u64 f13, .int .i64 f14, .int .u64 f15] 34)
    have HG := hide (show Gr w (w.alloc (.cells #[.int .i64 7, .int .u64 f1, .int .i64 f2, .bool f3, .slice f4 f5 f6, .int .i64 f7, .int .u64 f8, .int .i64 f9, .int .u64 f10, .int .i64 f11, .int .i64 f12, .int .u64 f13, .int .i64 f14, .int .u64 f15] 34)) from (Gr.refl w).alloc _)
    go_enter Tryd.func30, Tryd.ntmps30
    go_wp2_with fail
    generalize w.alloc (.cells #[.int .i64 7, .int .u64 f1, .int .i64 f2, .bool f3, .slice f4 f5 f6, .int .i64 f7, .int .u64 f8, .int .i64 f9, .int .u64 f10, .int .i64 f11, .int .i64 f12, .int .u64 f13, .int .i64 f14, .int .u64 f15] 34) = W0 at HI HG ⊢
    have a0 : W0.cell? ⟨w.heap.size, 0, none⟩ = some (.int .i64 7) := HI.out.cell 0
    have a1 : W0.cell? ⟨w.heap.size, 1, none⟩ = some (.int .u64 f1) := HI.out.cell 1
    have a2 : W0.cell? ⟨w.heap.size, 2, none⟩ = some (.int .i64 f2) := HI.out.cell 2
    have a3 : W0.cell? ⟨w.heap.size, 3, none⟩ = some (.bool f3) := HI.out.cell 3
    have a4 : W0.cell? ⟨w.heap.size, 4, none⟩ = some (.slice f4 f5 f6) := HI.out.cell 4
    have a5 : W0.cell? ⟨w.heap.size, 5, none⟩ = some (.int .i64 f7) := HI.out.cell 5
    have a6 : W0.cell? ⟨w.heap.size, 6, none⟩ = some (.int .u64 f8) := HI.out.cell 6
    have a7 : W0.cell? ⟨w.heap.size, 7, none⟩ = some (.int .i64 f9) := HI.out.cell 7
    have a8 : W0.cell? ⟨w.heap.size, 8, none⟩ = some (.int .u64 f10) := HI.out.cell 8
    have a9 : W0.cell? ⟨w.heap.size, 9, none⟩ = some (.int .i64 f11) := HI.out.cell 9
    have a10 : W0.cell? ⟨w.heap.size, 10, none⟩ = some (.int .i64 f12) := HI.out.cell 10
    have a11 : W0.cell? ⟨w.heap.size, 11, none⟩ = some (.int .u64 f13) := HI.out.cell 11
    have a12 : W0.cell? ⟨w.heap.size, 12, none⟩ = some (.int .i64 f14) := HI.out.cell 12
    have a13 : W0.cell? ⟨w.heap.size, 13, none⟩ = some (.int .u64 f15) := HI.out.cell 13
    clear a0 a1 a2 a3 a4 a5 a6 a7 a8 a9 a10 a11 a12 a13
    refine (hk W0 HG.out).mono ?_; rintro e w1 ⟨rfl, hg⟩
    replace HI := hide (HI.out.gr hg)
    replace HG := hide (HG.out.trans hg)
    clear hg
    have a0 : w1.cell? ⟨w.heap.size, 0, none⟩ = some (.int .i64 7) := HI.out.cell 0
    have a1 : w1.cell? ⟨w.heap.size, 1, none⟩ = some (.int .u64 f1) := HI.out.cell 1
    have a2 : w1.cell? ⟨w.heap.size, 2, none⟩ = some (.int .i64 f2) := HI.out.cell 2
    have a3 : w1.cell? ⟨w.heap.size, 3, none⟩ = some (.bool f3) := HI.out.cell 3
    have a4 : w1.cell? ⟨w.heap.size, 4, none⟩ = some (.slice f4 f5 f6) := HI.out.cell 4
    have a5 : w1.cell? ⟨w.heap.size, 5, none⟩ = some (.int .i64 f7) := HI.out.cell 5
    have a6 : w1.cell? ⟨w.heap.size, 6, none⟩ = some (.int .u64 f8) := HI.out.cell 6
    have a7 : w1.cell? ⟨w.heap.size, 7, none⟩ = some (.int .i64 f9) := HI.out.cell 7
    have a8 : w1.cell? ⟨w.heap.size, 8, none⟩ = some (.int .u64 f10) := HI.out.cell 8
    have a9 : w1.cell? ⟨w.heap.size, 9, none⟩ = some (.int .i64 f11) := HI.out.cell 9
    have a10 : w1.cell? ⟨w.heap.size, 10, none⟩ = some (.int .i64 f12) := HI.out.cell 10
    have a11 : w1.cell? ⟨w.heap.size, 11, none⟩ = some (.int .u64 f13) := HI.out.cell 11
    have a12 : w1.cell? ⟨w.heap.size, 12, none⟩ = some (.int .i64 f14) := HI.out.cell 12
    have a13 : w1.cell? ⟨w.heap.size, 13, none⟩ = some (.int .u64 f15) := HI.out.cell 13
    go_wp2
    go_ret
    exact ⟨rfl, HG.out⟩

end Go.Proofs.YtmhcmlegdoapdaaDoor

/- Check of any field: what it answers. -/
namespace Go.Proofs.YtmhcmlegdoapdaaDoor
open Go.RowKit

/-- What Check answers. -/
def chR (b : Bool) : Int := if b then 0 else 30
/-- A field without its kind and the part that is its kind's. -/
def woF (f : Fd) : Fd :=
  if f.f0 = 1 then { f with f0 := 0, f1 := 0 } else if f.f0 = 2 then { f with f0 := 0, f2 := 0 } else if f.f0 = 3 then { f with f0 := 0, f3 := false } else if f.f0 = 4 then { f with f0 := 0, f4 := none, f5 := 0, f6 := 0 }
  else if f.f0 = 5 then { f with f0 := 0, f7 := 0, f8 := 0 } else if f.f0 = 6 then { f with f0 := 0, f9 := 0, f10 := 0 } else { f with f0 := 0, f11 := 0, f12 := 0, f13 := 0, f14 := 0, f15 := 0 }
/-- May a field be? t: has it no bytes? -/
def mayB (f : Fd) (t : Bool) : Bool := decide (1 ≤ f.f0 ∧ f.f0 ≤ 7) && (ownB f && sameF (woF f) zeroF (if f.f0 = 4 then true else t))
theorem eqS_nil : eqS ⟨#[]⟩ ⟨#[]⟩ = true := by simp [eqS]

set_option maxHeartbeats 8000000 in
set_option maxRecDepth 100000 in
theorem ch1 (f1 f2 : Int) (f3 : Bool) (f4 : Option Addr) (f5 f6 : Nat) (f7 f8 f9 f10 f11 f12 f13 f14 f15 : Int) (S : ByteArray) (w : World) (hT : Txt w (.slice f4 f5 f6) S) : Calls Tryd.prog 14 #[.agg #[.int .i64 1, .int .u64 f1, .int .i64 f2, .bool f3, .slice f4 f5 f6, .int .i64 f7, .int .u64 f8, .int .i64 f9, .int .u64 f10, .int .i64 f11, .int .i64 f12, .int .u64 f13, .int .i64 f14, .int .u64 f15]] w fun e w' => e = .returned (.int .i64 (chR (ownB ⟨1, f1, f2, f3, f4, f5, f6, f7, f8, f9, f10, f11, f12, f13, f14, f15⟩ && sameF ⟨0, 0, f2, f3, f4, f5, f6, f7, f8, f9, f10, f11, f12, f13, f14, f15⟩ zeroF (eqS S ⟨#[]⟩)))) ∧ Below w.heap.size w w' := by
  have T := hide hT
  clear hT
  have HI := hide (IsB.new w #[.int .i64 1, .int .u64 f1, .int .i64 f2, .bool f3, .slice f4 f5 f6, .int .i64 f7, .int .u64 f8, .int .i64 f9, .int .u64 f10, .int .i64 f11, .int .i64 f12, .int .u64 f13, .int .i64 f14, .int .u64 f15] 34)
  have HG := hide (show Gr w (w.alloc (.cells #[.int .i64 1, .int .u64 f1, .int .i64 f2, .bool f3, .slice f4 f5 f6, .int .i64 f7, .int .u64 f8, .int .i64 f9, .int .u64 f10, .int .i64 f11, .int .i64 f12, .int .u64 f13, .int .i64 f14, .int .u64 f15] 34)) from (Gr.refl w).alloc _)
  go_enter Tryd.func14, Tryd.ntmps14
  go_wp2_with fail
  generalize w.alloc (.cells #[.int .i64 1, .int .u64 f1, .int .i64 f2, .bool f3, .slice f4 f5 f6, .int .i64 f7, .int .u64 f8, .int .i64 f9, .int .u64 f10, .int .i64 f11, .int .i64 f12, .int .u64 f13, .int .i64 f14, .int .u64 f15] 34) = W0 at HI HG ⊢
  have a0 : W0.cell? ⟨w.heap.size, 0, none⟩ = some (.int .i64 1) := HI.out.cell 0
  have a1 : W0.cell? ⟨w.heap.size, 1, none⟩ = some (.int .u64 f1) := HI.out.cell 1
  have a2 : W0.cell? ⟨w.heap.size, 2, none⟩ = some (.int .i64 f2) := HI.out.cell 2
  have a3 : W0.cell? ⟨w.heap.size, 3, none⟩ = some (.bool f3) := HI.out.cell 3
  have a4 : W0.cell? ⟨w.heap.size, 4, none⟩ = some (.slice f4 f5 f6) := HI.out.cell 4
  have a5 : W0.cell? ⟨w.heap.size, 5, none⟩ = some (.int .i64 f7) := HI.out.cell 5
  have a6 : W0.cell? ⟨w.heap.size, 6, none⟩ = some (.int .u64 f8) := HI.out.cell 6
  have a7 : W0.cell? ⟨w.heap.size, 7, none⟩ = some (.int .i64 f9) := HI.out.cell 7
  have a8 : W0.cell? ⟨w.heap.size, 8, none⟩ = some (.int .u64 f10) := HI.out.cell 8
  have a9 : W0.cell? ⟨w.heap.size, 9, none⟩ = some (.int .i64 f11) := HI.out.cell 9
  have a10 : W0.cell? ⟨w.heap.size, 10, none⟩ = some (.int .i64 f12) := HI.out.cell 10
  have a11 : W0.cell? ⟨w.heap.size, 11, none⟩ = some (.int .u64 f13) := HI.out.cell 11
  have a12 : W0.cell? ⟨w.heap.size, 12, none⟩ = some (.int .i64 f14) := HI.out.cell 12
  have a13 : W0.cell? ⟨w.heap.size, 13, none⟩ = some (.int .u64 f15) := HI.out.cell 13
  refine (isKind_yes 1 (by omega) (by omega) _).mono ?_; rintro e w0 ⟨rfl, rfl⟩
  go_wp2_with fail
  clear a0 a1 a2 a3 a4 a5 a6 a7 a8 a9 a10 a11 a12 a13
  refine (ow1 f1 f2 f3 f4 f5 f6 f7 f8 f9 f10 f11 f12 f13 f14 f15 _).mono ?_; rintro e w1 ⟨rfl, hg⟩
  replace HI := hide (HI.out.gr hg)
  replace HG := hide (HG.out.trans hg)
  clear hg
  have ho : Hid (ownB ⟨1, f1, f2, f3, f4, f5, f6, f7, f8, f9, f10, f11, f12, f13, f14, f15⟩ = true) := by show _ = _; simp [ownB]
  rw [ho.out]
  · skip
    have a0 : w1.cell? ⟨w.heap.size, 0, none⟩ = some (.int .i64 1) := HI.out.cell 0
    have a1 : w1.cell? ⟨w.heap.size, 1, none⟩ = some (.int .u64 f1) := HI.out.cell 1
    have a2 : w1.cell? ⟨w.heap.size, 2, none⟩ = some (.int .i64 f2) := HI.out.cell 2
    have a3 : w1.cell? ⟨w.heap.size, 3, none⟩ = some (.bool f3) := HI.out.cell 3
    have a4 : w1.cell? ⟨w.heap.size, 4, none⟩ = some (.slice f4 f5 f6) := HI.out.cell 4
    have a5 : w1.cell? ⟨w.heap.size, 5, none⟩ = some (.int .i64 f7) := HI.out.cell 5
    have a6 : w1.cell? ⟨w.heap.size, 6, none⟩ = some (.int .u64 f8) := HI.out.cell 6
    have a7 : w1.cell? ⟨w.heap.size, 7, none⟩ = some (.int .i64 f9) := HI.out.cell 7
    have a8 : w1.cell? ⟨w.heap.size, 8, none⟩ = some (.int .u64 f10) := HI.out.cell 8
    have a9 : w1.cell? ⟨w.heap.size, 9, none⟩ = some (.int .i64 f11) := HI.out.cell 9
    have a10 : w1.cell? ⟨w.heap.size, 10, none⟩ = some (.int .i64 f12) := HI.out.cell 10
    have a11 : w1.cell? ⟨w.heap.size, 11, none⟩ = some (.int .u64 f13) := HI.out.cell 11
    have a12 : w1.cell? ⟨w.heap.size, 12, none⟩ = some (.int .i64 f14) := HI.out.cell 12
    have a13 : w1.cell? ⟨w.heap.size, 13, none⟩ = some (.int .u64 f15) := HI.out.cell 13
    go_wp2_with fail
    clear a0 a1 a2 a3 a4 a5 a6 a7 a8 a9 a10 a11 a12 a13
    refine (wo1 f1 f2 f3 f4 f5 f6 f7 f8 f9 f10 f11 f12 f13 f14 f15 _).mono ?_; rintro e w2 ⟨rfl, hg⟩
    replace HG := hide (HG.out.trans hg)
    clear hg HI
    have BB := hide HG.out.below
    clear HG
    go_wp2_with fail
    refine (psame_any 0 0 f2 f3 f4 f5 f6 f7 f8 f9 f10 f11 f12 f13 f14 f15 0 0 0 false none 0 0 0 0 0 0 0 0 0 0 0 S ⟨#[]⟩ _ (T.out.below BB.out) (txt_nil _)).mono ?_; rintro e w3 ⟨rfl, hb⟩
    replace BB := hide (BB.out.trans (hb.mono BB.out.size))
    clear hb T
    have hz : sameF ⟨0, 0, f2, f3, f4, f5, f6, f7, f8, f9, f10, f11, f12, f13, f14, f15⟩ ⟨0, 0, 0, false, none, 0, 0, 0, 0, 0, 0, 0, 0, 0, 0, 0⟩ (eqS S ⟨#[]⟩) = sameF ⟨0, 0, f2, f3, f4, f5, f6, f7, f8, f9, f10, f11, f12, f13, f14, f15⟩ zeroF (eqS S ⟨#[]⟩) := rfl
    rw [hz]
    clear hz
    generalize hs : sameF ⟨0, 0, f2, f3, f4, f5, f6, f7, f8, f9, f10, f11, f12, f13, f14, f15⟩ zeroF (eqS S ⟨#[]⟩) = tt
    replace hs := hide hs
    cases tt
    · go_wp2
      go_ret
      exact ⟨by rw [ho.out, hs.out]; rfl, BB.out⟩
    · go_wp2
      go_ret
      exact ⟨by rw [ho.out, hs.out]; rfl, BB.out⟩

set_option maxHeartbeats 8000000 in
set_option maxRecDepth 100000 in
theorem ch2 (f1 f2 : Int) (f3 : Bool) (f4 : Option Addr) (f5 f6 : Nat) (f7 f8 f9 f10 f11 f12 f13 f14 f15 : Int) (S : ByteArray) (w : World) (hT : Txt w (.slice f4 f5 f6) S) : Calls Tryd.prog 14 #[.agg #[.int .i64 2, .int .u64 f1, .int .i64 f2, .bool f3, .slice f4 f5 f6, .int .i64 f7, .int .u64 f8, .int .i64 f9, .int .u64 f10, .int .i64 f11, .int .i64 f12, .int .u64 f13, .int .i64 f14, .int .u64 f15]] w fun e w' => e = .returned (.int .i64 (chR (ownB ⟨2, f1, f2, f3, f4, f5, f6, f7, f8, f9, f10, f11, f12, f13, f14, f15⟩ && sameF ⟨0, f1, 0, f3, f4, f5, f6, f7, f8, f9, f10, f11, f12, f13, f14, f15⟩ zeroF (eqS S ⟨#[]⟩)))) ∧ Below w.heap.size w w' := by
  have T := hide hT
  clear hT
  have HI := hide (IsB.new w #[.int .i64 2, .int .u64 f1, .int .i64 f2, .bool f3, .slice f4 f5 f6, .int .i64 f7, .int .u64 f8, .int .i64 f9, .int .u64 f10, .int .i64 f11, .int .i64 f12, .int .u64 f13, .int .i64 f14, .int .u64 f15] 34)
  have HG := hide (show Gr w (w.alloc (.cells #[.int .i64 2, .int .u64 f1, .int .i64 f2, .bool f3, .slice f4 f5 f6, .int .i64 f7, .int .u64 f8, .int .i64 f9, .int .u64 f10, .int .i64 f11, .int .i64 f12, .int .u64 f13, .int .i64 f14, .int .u64 f15] 34)) from (Gr.refl w).alloc _)
  go_enter Tryd.func14, Tryd.ntmps14
  go_wp2_with fail
  generalize w.alloc (.cells #[.int .i64 2, .int .u64 f1, .int .i64 f2, .bool f3, .slice f4 f5 f6, .int .i64 f7, .int .u64 f8, .int .i64 f9, .int .u64 f10, .int .i64 f11, .int .i64 f12, .int .u64 f13, .int .i64 f14, .int .u64 f15] 34) = W0 at HI HG ⊢
  have a0 : W0.cell? ⟨w.heap.size, 0, none⟩ = some (.int .i64 2) := HI.out.cell 0
  have a1 : W0.cell? ⟨w.heap.size, 1, none⟩ = some (.int .u64 f1) := HI.out.cell 1
  have a2 : W0.cell? ⟨w.heap.size, 2, none⟩ = some (.int .i64 f2) := HI.out.cell 2
  have a3 : W0.cell? ⟨w.heap.size, 3, none⟩ = some (.bool f3) := HI.out.cell 3
  have a4 : W0.cell? ⟨w.heap.size, 4, none⟩ = some (.slice f4 f5 f6) := HI.out.cell 4
  have a5 : W0.cell? ⟨w.heap.size, 5, none⟩ = some (.int .i64 f7) := HI.out.cell 5
  have a6 : W0.cell? ⟨w.heap.size, 6, none⟩ = some (.int .u64 f8) := HI.out.cell 6
  have a7 : W0.cell? ⟨w.heap.size, 7, none⟩ = some (.int .i64 f9) := HI.out.cell 7
  have a8 : W0.cell? ⟨w.heap.size, 8, none⟩ = some (.int .u64 f10) := HI.out.cell 8
  have a9 : W0.cell? ⟨w.heap.size, 9, none⟩ = some (.int .i64 f11) := HI.out.cell 9
  have a10 : W0.cell? ⟨w.heap.size, 10, none⟩ = some (.int .i64 f12) := HI.out.cell 10
  have a11 : W0.cell? ⟨w.heap.size, 11, none⟩ = some (.int .u64 f13) := HI.out.cell 11
  have a12 : W0.cell? ⟨w.heap.size, 12, none⟩ = some (.int .i64 f14) := HI.out.cell 12
  have a13 : W0.cell? ⟨w.heap.size, 13, none⟩ = some (.int .u64 f15) := HI.out.cell 13
  refine (isKind_yes 2 (by omega) (by omega) _).mono ?_; rintro e w0 ⟨rfl, rfl⟩
  go_wp2_with fail
  clear a0 a1 a2 a3 a4 a5 a6 a7 a8 a9 a10 a11 a12 a13
  refine (ow2 f1 f2 f3 f4 f5 f6 f7 f8 f9 f10 f11 f12 f13 f14 f15 _).mono ?_; rintro e w1 ⟨rfl, hg⟩
  replace HI := hide (HI.out.gr hg)
  replace HG := hide (HG.out.trans hg)
  clear hg
  have ho : Hid (ownB ⟨2, f1, f2, f3, f4, f5, f6, f7, f8, f9, f10, f11, f12, f13, f14, f15⟩ = true) := by show _ = _; simp [ownB]
  rw [ho.out]
  · skip
    have a0 : w1.cell? ⟨w.heap.size, 0, none⟩ = some (.int .i64 2) := HI.out.cell 0
    have a1 : w1.cell? ⟨w.heap.size, 1, none⟩ = some (.int .u64 f1) := HI.out.cell 1
    have a2 : w1.cell? ⟨w.heap.size, 2, none⟩ = some (.int .i64 f2) := HI.out.cell 2
    have a3 : w1.cell? ⟨w.heap.size, 3, none⟩ = some (.bool f3) := HI.out.cell 3
    have a4 : w1.cell? ⟨w.heap.size, 4, none⟩ = some (.slice f4 f5 f6) := HI.out.cell 4
    have a5 : w1.cell? ⟨w.heap.size, 5, none⟩ = some (.int .i64 f7) := HI.out.cell 5
    have a6 : w1.cell? ⟨w.heap.size, 6, none⟩ = some (.int .u64 f8) := HI.out.cell 6
    have a7 : w1.cell? ⟨w.heap.size, 7, none⟩ = some (.int .i64 f9) := HI.out.cell 7
    have a8 : w1.cell? ⟨w.heap.size, 8, none⟩ = some (.int .u64 f10) := HI.out.cell 8
    have a9 : w1.cell? ⟨w.heap.size, 9, none⟩ = some (.int .i64 f11) := HI.out.cell 9
    have a10 : w1.cell? ⟨w.heap.size, 10, none⟩ = some (.int .i64 f12) := HI.out.cell 10
    have a11 : w1.cell? ⟨w.heap.size, 11, none⟩ = some (.int .u64 f13) := HI.out.cell 11
    have a12 : w1.cell? ⟨w.heap.size, 12, none⟩ = some (.int .i64 f14) := HI.out.cell 12
    have a13 : w1.cell? ⟨w.heap.size, 13, none⟩ = some (.int .u64 f15) := HI.out.cell 13
    go_wp2_with fail
    clear a0 a1 a2 a3 a4 a5 a6 a7 a8 a9 a10 a11 a12 a13
    refine (wo2 f1 f2 f3 f4 f5 f6 f7 f8 f9 f10 f11 f12 f13 f14 f15 _).mono ?_; rintro e w2 ⟨rfl, hg⟩
    replace HG := hide (HG.out.trans hg)
    clear hg HI
    have BB := hide HG.out.below
    clear HG
    go_wp2_with fail
    refine (psame_any 0 f1 0 f3 f4 f5 f6 f7 f8 f9 f10 f11 f12 f13 f14 f15 0 0 0 false none 0 0 0 0 0 0 0 0 0 0 0 S ⟨#[]⟩ _ (T.out.below BB.out) (txt_nil _)).mono ?_; rintro e w3 ⟨rfl, hb⟩
    replace BB := hide (BB.out.trans (hb.mono BB.out.size))
    clear hb T
    have hz : sameF ⟨0, f1, 0, f3, f4, f5, f6, f7, f8, f9, f10, f11, f12, f13, f14, f15⟩ ⟨0, 0, 0, false, none, 0, 0, 0, 0, 0, 0, 0, 0, 0, 0, 0⟩ (eqS S ⟨#[]⟩) = sameF ⟨0, f1, 0, f3, f4, f5, f6, f7, f8, f9, f10, f11, f12, f13, f14, f15⟩ zeroF (eqS S ⟨#[]⟩) := rfl
    rw [hz]
    clear hz
    generalize hs : sameF ⟨0, f1, 0, f3, f4, f5, f6, f7, f8, f9, f10, f11, f12, f13, f14, f15⟩ zeroF (eqS S ⟨#[]⟩) = tt
    replace hs := hide hs
    cases tt
    · go_wp2
      go_ret
      exact ⟨by rw [ho.out, hs.out]; rfl, BB.out⟩
    · go_wp2
      go_ret
      exact ⟨by rw [ho.out, hs.out]; rfl, BB.out⟩

set_option maxHeartbeats 8000000 in
set_option maxRecDepth 100000 in
theorem ch3 (f1 f2 : Int) (f3 : Bool) (f4 : Option Addr) (f5 f6 : Nat) (f7 f8 f9 f10 f11 f12 f13 f14 f15 : Int) (S : ByteArray) (w : World) (hT : Txt w (.slice f4 f5 f6) S) : Calls Tryd.prog 14 #[.agg #[.int .i64 3, .int .u64 f1, .int .i64 f2, .bool f3, .slice f4 f5 f6, .int .i64 f7, .int .u64 f8, .int .i64 f9, .int .u64 f10, .int .i64 f11, .int .i64 f12, .int .u64 f13, .int .i64 f14, .int .u64 f15]] w fun e w' => e = .returned (.int .i64 (chR (ownB ⟨3, f1, f2, f3, f4, f5, f6, f7, f8, f9, f10, f11, f12, f13, f14, f15⟩ && sameF ⟨0, f1, f2, false, f4, f5, f6, f7, f8, f9, f10, f11, f12, f13, f14, f15⟩ zeroF (eqS S ⟨#[]⟩)))) ∧ Below w.heap.size w w' := by
  have T := hide hT
  clear hT
  have HI := hide (IsB.new w #[.int .i64 3, .int .u64 f1, .int .i64 f2, .bool f3, .slice f4 f5 f6, .int .i64 f7, .int .u64 f8, .int .i64 f9, .int .u64 f10, .int .i64 f11, .int .i64 f12, .int .u64 f13, .int .i64 f14, .int .u64 f15] 34)
  have HG := hide (show Gr w (w.alloc (.cells #[.int .i64 3, .int .u64 f1, .int .i64 f2, .bool f3, .slice f4 f5 f6, .int .i64 f7, .int .u64 f8, .int .i64 f9, .int .u64 f10, .int .i64 f11, .int .i64 f12, .int .u64 f13, .int .i64 f14, .int .u64 f15] 34)) from (Gr.refl w).alloc _)
  go_enter Tryd.func14, Tryd.ntmps14
  go_wp2_with fail
  generalize w.alloc (.cells #[.int .i64 3, .int .u64 f1, .int .i64 f2, .bool f3, .slice f4 f5 f6, .int .i64 f7, .int .u64 f8, .int .i64 f9, .int .u64 f10, .int .i64 f11, .int .i64 f12, .int .u64 f13, .int .i64 f14, .int .u64 f15] 34) = W0 at HI HG ⊢
  have a0 : W0.cell? ⟨w.heap.size, 0, none⟩ = some (.int .i64 3) := HI.out.cell 0
  have a1 : W0.cell? ⟨w.heap.size, 1, none⟩ = some (.int .u64 f1) := HI.out.cell 1
  have a2 : W0.cell? ⟨w.heap.size, 2, none⟩ = some (.int .i64 f2) := HI.out.cell 2
  have a3 : W0.cell? ⟨w.heap.size, 3, none⟩ = some (.bool f3) := HI.out.cell 3
  have a4 : W0.cell? ⟨w.heap.size, 4, none⟩ = some (.slice f4 f5 f6) := HI.out.cell 4
  have a5 : W0.cell? ⟨w.heap.size, 5, none⟩ = some (.int .i64 f7) := HI.out.cell 5
  have a6 : W0.cell? ⟨w.heap.size, 6, none⟩ = some (.int .u64 f8) := HI.out.cell 6
  have a7 : W0.cell? ⟨w.heap.size, 7, none⟩ = some (.int .i64 f9) := HI.out.cell 7
  have a8 : W0.cell? ⟨w.heap.size, 8, none⟩ = some (.int .u64 f10) := HI.out.cell 8
  have a9 : W0.cell? ⟨w.heap.size, 9, none⟩ = some (.int .i64 f11) := HI.out.cell 9
  have a10 : W0.cell? ⟨w.heap.size, 10, none⟩ = some (.int .i64 f12) := HI.out.cell 10
  have a11 : W0.cell? ⟨w.heap.size, 11, none⟩ = some (.int .u64 f13) := HI.out.cell 11
  have a12 : W0.cell? ⟨w.heap.size, 12, none⟩ = some (.int .i64 f14) := HI.out.cell 12
  have a13 : W0.cell? ⟨w.heap.size, 13, none⟩ = some (.int .u64 f15) := HI.out.cell 13
  refine (isKind_yes 3 (by omega) (by omega) _).mono ?_; rintro e w0 ⟨rfl, rfl⟩
  go_wp2_with fail
  clear a0 a1 a2 a3 a4 a5 a6 a7 a8 a9 a10 a11 a12 a13
  refine (ow3 f1 f2 f3 f4 f5 f6 f7 f8 f9 f10 f11 f12 f13 f14 f15 _).mono ?_; rintro e w1 ⟨rfl, hg⟩
  replace HI := hide (HI.out.gr hg)
  replace HG := hide (HG.out.trans hg)
  clear hg
  have ho : Hid (ownB ⟨3, f1, f2, f3, f4, f5, f6, f7, f8, f9, f10, f11, f12, f13, f14, f15⟩ = true) := by show _ = _; simp [ownB]
  rw [ho.out]
  · skip
    have a0 : w1.cell? ⟨w.heap.size, 0, none⟩ = some (.int .i64 3) := HI.out.cell 0
    have a1 : w1.cell? ⟨w.heap.size, 1, none⟩ = some (.int .u64 f1) := HI.out.cell 1
    have a2 : w1.cell? ⟨w.heap.size, 2, none⟩ = some (.int .i64 f2) := HI.out.cell 2
    have a3 : w1.cell? ⟨w.heap.size, 3, none⟩ = some (.bool f3) := HI.out.cell 3
    have a4 : w1.cell? ⟨w.heap.size, 4, none⟩ = some (.slice f4 f5 f6) := HI.out.cell 4
    have a5 : w1.cell? ⟨w.heap.size, 5, none⟩ = some (.int .i64 f7) := HI.out.cell 5
    have a6 : w1.cell? ⟨w.heap.size, 6, none⟩ = some (.int .u64 f8) := HI.out.cell 6
    have a7 : w1.cell? ⟨w.heap.size, 7, none⟩ = some (.int .i64 f9) := HI.out.cell 7
    have a8 : w1.cell? ⟨w.heap.size, 8, none⟩ = some (.int .u64 f10) := HI.out.cell 8
    have a9 : w1.cell? ⟨w.heap.size, 9, none⟩ = some (.int .i64 f11) := HI.out.cell 9
    have a10 : w1.cell? ⟨w.heap.size, 10, none⟩ = some (.int .i64 f12) := HI.out.cell 10
    have a11 : w1.cell? ⟨w.heap.size, 11, none⟩ = some (.int .u64 f13) := HI.out.cell 11
    have a12 : w1.cell? ⟨w.heap.size, 12, none⟩ = some (.int .i64 f14) := HI.out.cell 12
    have a13 : w1.cell? ⟨w.heap.size, 13, none⟩ = some (.int .u64 f15) := HI.out.cell 13
    go_wp2_with fail
    clear a0 a1 a2 a3 a4 a5 a6 a7 a8 a9 a10 a11 a12 a13
    refine (wo3 f1 f2 f3 f4 f5 f6 f7 f8 f9 f10 f11 f12 f13 f14 f15 _).mono ?_; rintro e w2 ⟨rfl, hg⟩
    replace HG := hide (HG.out.trans hg)
    clear hg HI
    have BB := hide HG.out.below
    clear HG
    go_wp2_with fail
    refine (psame_any 0 f1 f2 false f4 f5 f6 f7 f8 f9 f10 f11 f12 f13 f14 f15 0 0 0 false none 0 0 0 0 0 0 0 0 0 0 0 S ⟨#[]⟩ _ (T.out.below BB.out) (txt_nil _)).mono ?_; rintro e w3 ⟨rfl, hb⟩
    replace BB := hide (BB.out.trans (hb.mono BB.out.size))
    clear hb T
    have hz : sameF ⟨0, f1, f2, false, f4, f5, f6, f7, f8, f9, f10, f11, f12, f13, f14, f15⟩ ⟨0, 0, 0, false, none, 0, 0, 0, 0, 0, 0, 0, 0, 0, 0, 0⟩ (eqS S ⟨#[]⟩) = sameF ⟨0, f1, f2, false, f4, f5, f6, f7, f8, f9, f10, f11, f12, f13, f14, f15⟩ zeroF (eqS S ⟨#[]⟩) := rfl
    rw [hz]
    clear hz
    generalize hs : sameF ⟨0, f1, f2, false, f4, f5, f6, f7, f8, f9, f10, f11, f12, f13, f14, f15⟩ zeroF (eqS S ⟨#[]⟩) = tt
    replace hs := hide hs
    cases tt
    · go_wp2
      go_ret
      exact ⟨by rw [ho.out, hs.out]; rfl, BB.out⟩
    · go_wp2
      go_ret
      exact ⟨by rw [ho.out, hs.out]; rfl, BB.out⟩

set_option maxHeartbeats 8000000 in
set_option maxRecDepth 100000 in
theorem ch4 (f1 f2 : Int) (f3 : Bool) (f4 : Option Addr) (f5 f6 : Nat) (f7 f8 f9 f10 f11 f12 f13 f14 f15 : Int) (S : ByteArray) (w : World) (hT : Txt w (.slice f4 f5 f6) S) : Calls Tryd.prog 14 #[.agg #[.int .i64 4, .int .u64 f1, .int .i64 f2, .bool f3, .slice f4 f5 f6, .int .i64 f7, .int .u64 f8, .int .i64 f9, .int .u64 f10, .int .i64 f11, .int .i64 f12, .int .u64 f13, .int .i64 f14, .int .u64 f15]] w fun e w' => e = .returned (.int .i64 (chR (ownB ⟨4, f1, f2, f3, f4, f5, f6, f7, f8, f9, f10, f11, f12, f13, f14, f15⟩ && sameF ⟨0, f1, f2, f3, none, 0, 0, f7, f8, f9, f10, f11, f12, f13, f14, f15⟩ zeroF true))) ∧ Below w.heap.size w w' := by
  have T := hide hT
  clear hT
  have HI := hide (IsB.new w #[.int .i64 4, .int .u64 f1, .int .i64 f2, .bool f3, .slice f4 f5 f6, .int .i64 f7, .int .u64 f8, .int .i64 f9, .int .u64 f10, .int .i64 f11, .int .i64 f12, .int .u64 f13, .int .i64 f14, .int .u64 f15] 34)
  have HG := hide (show Gr w (w.alloc (.cells #[.int .i64 4, .int .u64 f1, .int .i64 f2, .bool f3, .slice f4 f5 f6, .int .i64 f7, .int .u64 f8, .int .i64 f9, .int .u64 f10, .int .i64 f11, .int .i64 f12, .int .u64 f13, .int .i64 f14, .int .u64 f15] 34)) from (Gr.refl w).alloc _)
  go_enter Tryd.func14, Tryd.ntmps14
  go_wp2_with fail
  generalize w.alloc (.cells #[.int .i64 4, .int .u64 f1, .int .i64 f2, .bool f3, .slice f4 f5 f6, .int .i64 f7, .int .u64 f8, .int .i64 f9, .int .u64 f10, .int .i64 f11, .int .i64 f12, .int .u64 f13, .int .i64 f14, .int .u64 f15] 34) = W0 at HI HG ⊢
  have a0 : W0.cell? ⟨w.heap.size, 0, none⟩ = some (.int .i64 4) := HI.out.cell 0
  have a1 : W0.cell? ⟨w.heap.size, 1, none⟩ = some (.int .u64 f1) := HI.out.cell 1
  have a2 : W0.cell? ⟨w.heap.size, 2, none⟩ = some (.int .i64 f2) := HI.out.cell 2
  have a3 : W0.cell? ⟨w.heap.size, 3, none⟩ = some (.bool f3) := HI.out.cell 3
  have a4 : W0.cell? ⟨w.heap.size, 4, none⟩ = some (.slice f4 f5 f6) := HI.out.cell 4
  have a5 : W0.cell? ⟨w.heap.size, 5, none⟩ = some (.int .i64 f7) := HI.out.cell 5
  have a6 : W0.cell? ⟨w.heap.size, 6, none⟩ = some (.int .u64 f8) := HI.out.cell 6
  have a7 : W0.cell? ⟨w.heap.size, 7, none⟩ = some (.int .i64 f9) := HI.out.cell 7
  have a8 : W0.cell? ⟨w.heap.size, 8, none⟩ = some (.int .u64 f10) := HI.out.cell 8
  have a9 : W0.cell? ⟨w.heap.size, 9, none⟩ = some (.int .i64 f11) := HI.out.cell 9
  have a10 : W0.cell? ⟨w.heap.size, 10, none⟩ = some (.int .i64 f12) := HI.out.cell 10
  have a11 : W0.cell? ⟨w.heap.size, 11, none⟩ = some (.int .u64 f13) := HI.out.cell 11
  have a12 : W0.cell? ⟨w.heap.size, 12, none⟩ = some (.int .i64 f14) := HI.out.cell 12
  have a13 : W0.cell? ⟨w.heap.size, 13, none⟩ = some (.int .u64 f15) := HI.out.cell 13
  refine (isKind_yes 4 (by omega) (by omega) _).mono ?_; rintro e w0 ⟨rfl, rfl⟩
  go_wp2_with fail
  clear a0 a1 a2 a3 a4 a5 a6 a7 a8 a9 a10 a11 a12 a13
  refine (ow4 f1 f2 f3 f4 f5 f6 f7 f8 f9 f10 f11 f12 f13 f14 f15 _).mono ?_; rintro e w1 ⟨rfl, hg⟩
  replace HI := hide (HI.out.gr hg)
  replace HG := hide (HG.out.trans hg)
  clear hg
  rcases ho : ownB ⟨4, f1, f2, f3, f4, f5, f6, f7, f8, f9, f10, f11, f12, f13, f14, f15⟩ with _ | _
  · have BB := hide HG.out.below
    replace ho := hide ho
    clear T HI HG
    go_wp2
    go_ret
    exact ⟨by rw [ho.out]; rfl, BB.out⟩
  · skip
    replace ho := hide ho
    have a0 : w1.cell? ⟨w.heap.size, 0, none⟩ = some (.int .i64 4) := HI.out.cell 0
    have a1 : w1.cell? ⟨w.heap.size, 1, none⟩ = some (.int .u64 f1) := HI.out.cell 1
    have a2 : w1.cell? ⟨w.heap.size, 2, none⟩ = some (.int .i64 f2) := HI.out.cell 2
    have a3 : w1.cell? ⟨w.heap.size, 3, none⟩ = some (.bool f3) := HI.out.cell 3
    have a4 : w1.cell? ⟨w.heap.size, 4, none⟩ = some (.slice f4 f5 f6) := HI.out.cell 4
    have a5 : w1.cell? ⟨w.heap.size, 5, none⟩ = some (.int .i64 f7) := HI.out.cell 5
    have a6 : w1.cell? ⟨w.heap.size, 6, none⟩ = some (.int .u64 f8) := HI.out.cell 6
    have a7 : w1.cell? ⟨w.heap.size, 7, none⟩ = some (.int .i64 f9) := HI.out.cell 7
    have a8 : w1.cell? ⟨w.heap.size, 8, none⟩ = some (.int .u64 f10) := HI.out.cell 8
    have a9 : w1.cell? ⟨w.heap.size, 9, none⟩ = some (.int .i64 f11) := HI.out.cell 9
    have a10 : w1.cell? ⟨w.heap.size, 10, none⟩ = some (.int .i64 f12) := HI.out.cell 10
    have a11 : w1.cell? ⟨w.heap.size, 11, none⟩ = some (.int .u64 f13) := HI.out.cell 11
    have a12 : w1.cell? ⟨w.heap.size, 12, none⟩ = some (.int .i64 f14) := HI.out.cell 12
    have a13 : w1.cell? ⟨w.heap.size, 13, none⟩ = some (.int .u64 f15) := HI.out.cell 13
    go_wp2_with fail
    clear a0 a1 a2 a3 a4 a5 a6 a7 a8 a9 a10 a11 a12 a13
    refine (wo4 f1 f2 f3 f4 f5 f6 f7 f8 f9 f10 f11 f12 f13 f14 f15 _).mono ?_; rintro e w2 ⟨rfl, hg⟩
    replace HG := hide (HG.out.trans hg)
    clear hg HI
    have BB := hide HG.out.below
    clear HG
    go_wp2_with fail
    refine (psame_any 0 f1 f2 f3 none 0 0 f7 f8 f9 f10 f11 f12 f13 f14 f15 0 0 0 false none 0 0 0 0 0 0 0 0 0 0 0 ⟨#[]⟩ ⟨#[]⟩ _ (txt_nil _) (txt_nil _)).mono ?_; rintro e w3 ⟨rfl, hb⟩
    replace BB := hide (BB.out.trans (hb.mono BB.out.size))
    clear hb T
    rw [eqS_nil]
    have hz : sameF ⟨0, f1, f2, f3, none, 0, 0, f7, f8, f9, f10, f11, f12, f13, f14, f15⟩ ⟨0, 0, 0, false, none, 0, 0, 0, 0, 0, 0, 0, 0, 0, 0, 0⟩ true = sameF ⟨0, f1, f2, f3, none, 0, 0, f7, f8, f9, f10, f11, f12, f13, f14, f15⟩ zeroF true := rfl
    rw [hz]
    clear hz
    generalize hs : sameF ⟨0, f1, f2, f3, none, 0, 0, f7, f8, f9, f10, f11, f12, f13, f14, f15⟩ zeroF true = tt
    replace hs := hide hs
    cases tt
    · go_wp2
      go_ret
      exact ⟨by rw [ho.out, hs.out]; rfl, BB.out⟩
    · go_wp2
      go_ret
      exact ⟨by rw [ho.out, hs.out]; rfl, BB.out⟩

set_option maxHeartbeats 8000000 in
set_option maxRecDepth 100000 in
theorem ch5 (f1 f2 : Int) (f3 : Bool) (f4 : Option Addr) (f5 f6 : Nat) (f7 f8 f9 f10 f11 f12 f13 f14 f15 : Int) (h8 : 0 ≤ f8) (S : ByteArray) (w : World) (hT : Txt w (.slice f4 f5 f6) S) : Calls Tryd.prog 14 #[.agg #[.int .i64 5, .int .u64 f1, .int .i64 f2, .bool f3, .slice f4 f5 f6, .int .i64 f7, .int .u64 f8, .int .i64 f9, .int .u64 f10, .int .i64 f11, .int .i64 f12, .int .u64 f13, .int .i64 f14, .int .u64 f15]] w fun e w' => e = .returned (.int .i64 (chR (ownB ⟨5, f1, f2, f3, f4, f5, f6, f7, f8, f9, f10, f11, f12, f13, f14, f15⟩ && sameF ⟨0, f1, f2, f3, f4, f5, f6, 0, 0, f9, f10, f11, f12, f13, f14, f15⟩ zeroF (eqS S ⟨#[]⟩)))) ∧ Below w.heap.size w w' := by
  have T := hide hT
  clear hT
  have HI := hide (IsB.new w #[.int .i64 5, .int .u64 f1, .int .i64 f2, .bool f3, .slice f4 f5 f6, .int .i64 f7, .int .u64 f8, .int .i64 f9, .int .u64 f10, .int .i64 f11, .int .i64 f12, .int .u64 f13, .int .i64 f14, .int .u64 f15] 34)
  have HG := hide (show Gr w (w.alloc (.cells #[.int .i64 5, .int .u64 f1, .int .i64 f2, .bool f3, .slice f4 f5 f6, .int .i64 f7, .int .u64 f8, .int .i64 f9, .int .u64 f10, .int .i64 f11, .int .i64 f12, .int .u64 f13, .int .i64 f14, .int .u64 f15] 34)) from (Gr.refl w).alloc _)
  go_enter Tryd.func14, Tryd.ntmps14
  go_wp2_with fail
  generalize w.alloc (.cells #[.int .i64 5, .int .u64 f1, .int .i64 f2, .bool f3, .slice f4 f5 f6, .int .i64 f7, .int .u64 f8, .int .i64 f9, .int .u64 f10, .int .i64 f11, .int .i64 f12, .int .u64 f13, .int .i64 f14, .int .u64 f15] 34) = W0 at HI HG ⊢
  have a0 : W0.cell? ⟨w.heap.size, 0, none⟩ = some (.int .i64 5) := HI.out.cell 0
  have a1 : W0.cell? ⟨w.heap.size, 1, none⟩ = some (.int .u64 f1) := HI.out.cell 1
  have a2 : W0.cell? ⟨w.heap.size, 2, none⟩ = some (.int .i64 f2) := HI.out.cell 2
  have a3 : W0.cell? ⟨w.heap.size, 3, none⟩ = some (.bool f3) := HI.out.cell 3
  have a4 : W0.cell? ⟨w.heap.size, 4, none⟩ = some (.slice f4 f5 f6) := HI.out.cell 4
  have a5 : W0.cell? ⟨w.heap.size, 5, none⟩ = some (.int .i64 f7) := HI.out.cell 5
  have a6 : W0.cell? ⟨w.heap.size, 6, none⟩ = some (.int .u64 f8) := HI.out.cell 6
  have a7 : W0.cell? ⟨w.heap.size, 7, none⟩ = some (.int .i64 f9) := HI.out.cell 7
  have a8 : W0.cell? ⟨w.heap.size, 8, none⟩ = some (.int .u64 f10) := HI.out.cell 8
  have a9 : W0.cell? ⟨w.heap.size, 9, none⟩ = some (.int .i64 f11) := HI.out.cell 9
  have a10 : W0.cell? ⟨w.heap.size, 10, none⟩ = some (.int .i64 f12) := HI.out.cell 10
  have a11 : W0.cell? ⟨w.heap.size, 11, none⟩ = some (.int .u64 f13) := HI.out.cell 11
  have a12 : W0.cell? ⟨w.heap.size, 12, none⟩ = some (.int .i64 f14) := HI.out.cell 12
  have a13 : W0.cell? ⟨w.heap.size, 13, none⟩ = some (.int .u64 f15) := HI.out.cell 13
  refine (isKind_yes 5 (by omega) (by omega) _).mono ?_; rintro e w0 ⟨rfl, rfl⟩
  go_wp2_with fail
  clear a0 a1 a2 a3 a4 a5 a6 a7 a8 a9 a10 a11 a12 a13
  refine (ow5 f1 f2 f3 f4 f5 f6 f7 f8 f9 f10 f11 f12 f13 f14 f15 h8 _).mono ?_; rintro e w1 ⟨rfl, hg⟩
  replace HI := hide (HI.out.gr hg)
  replace HG := hide (HG.out.trans hg)
  clear hg
  rcases ho : ownB ⟨5, f1, f2, f3, f4, f5, f6, f7, f8, f9, f10, f11, f12, f13, f14, f15⟩ with _ | _
  · have BB := hide HG.out.below
    replace ho := hide ho
    clear T HI HG
    go_wp2
    go_ret
    exact ⟨by rw [ho.out]; rfl, BB.out⟩
  · skip
    replace ho := hide ho
    have a0 : w1.cell? ⟨w.heap.size, 0, none⟩ = some (.int .i64 5) := HI.out.cell 0
    have a1 : w1.cell? ⟨w.heap.size, 1, none⟩ = some (.int .u64 f1) := HI.out.cell 1
    have a2 : w1.cell? ⟨w.heap.size, 2, none⟩ = some (.int .i64 f2) := HI.out.cell 2
    have a3 : w1.cell? ⟨w.heap.size, 3, none⟩ = some (.bool f3) := HI.out.cell 3
    have a4 : w1.cell? ⟨w.heap.size, 4, none⟩ = some (.slice f4 f5 f6) := HI.out.cell 4
    have a5 : w1.cell? ⟨w.heap.size, 5, none⟩ = some (.int .i64 f7) := HI.out.cell 5
    have a6 : w1.cell? ⟨w.heap.size, 6, none⟩ = some (.int .u64 f8) := HI.out.cell 6
    have a7 : w1.cell? ⟨w.heap.size, 7, none⟩ = some (.int .i64 f9) := HI.out.cell 7
    have a8 : w1.cell? ⟨w.heap.size, 8, none⟩ = some (.int .u64 f10) := HI.out.cell 8
    have a9 : w1.cell? ⟨w.heap.size, 9, none⟩ = some (.int .i64 f11) := HI.out.cell 9
    have a10 : w1.cell? ⟨w.heap.size, 10, none⟩ = some (.int .i64 f12) := HI.out.cell 10
    have a11 : w1.cell? ⟨w.heap.size, 11, none⟩ = some (.int .u64 f13) := HI.out.cell 11
    have a12 : w1.cell? ⟨w.heap.size, 12, none⟩ = some (.int .i64 f14) := HI.out.cell 12
    have a13 : w1.cell? ⟨w.heap.size, 13, none⟩ = some (.int .u64 f15) := HI.out.cell 13
    go_wp2_with fail
    clear a0 a1 a2 a3 a4 a5 a6 a7 a8 a9 a10 a11 a12 a13
    refine (wo5 f1 f2 f3 f4 f5 f6 f7 f8 f9 f10 f11 f12 f13 f14 f15 _).mono ?_; rintro e w2 ⟨rfl, hg⟩
    replace HG := hide (HG.out.trans hg)
    clear hg HI
    have BB := hide HG.out.below
    clear HG
    go_wp2_with fail
    refine (psame_any 0 f1 f2 f3 f4 f5 f6 0 0 f9 f10 f11 f12 f13 f14 f15 0 0 0 false none 0 0 0 0 0 0 0 0 0 0 0 S ⟨#[]⟩ _ (T.out.below BB.out) (txt_nil _)).mono ?_; rintro e w3 ⟨rfl, hb⟩
    replace BB := hide (BB.out.trans (hb.mono BB.out.size))
    clear hb T
    have hz : sameF ⟨0, f1, f2, f3, f4, f5, f6, 0, 0, f9, f10, f11, f12, f13, f14, f15⟩ ⟨0, 0, 0, false, none, 0, 0, 0, 0, 0, 0, 0, 0, 0, 0, 0⟩ (eqS S ⟨#[]⟩) = sameF ⟨0, f1, f2, f3, f4, f5, f6, 0, 0, f9, f10, f11, f12, f13, f14, f15⟩ zeroF (eqS S ⟨#[]⟩) := rfl
    rw [hz]
    clear hz
    generalize hs : sameF ⟨0, f1, f2, f3, f4, f5, f6, 0, 0, f9, f10, f11, f12, f13, f14, f15⟩ zeroF (eqS S ⟨#[]⟩) = tt
    replace hs := hide hs
    cases tt
    · go_wp2
      go_ret
      exact ⟨by rw [ho.out, hs.out]; rfl, BB.out⟩
    · go_wp2
      go_ret
      exact ⟨by rw [ho.out, hs.out]; rfl, BB.out⟩

set_option maxHeartbeats 8000000 in
set_option maxRecDepth 100000 in
theorem ch6 (f1 f2 : Int) (f3 : Bool) (f4 : Option Addr) (f5 f6 : Nat) (f7 f8 f9 f10 f11 f12 f13 f14 f15 : Int) (S : ByteArray) (w : World) (hR : Ranks w) (hT : Txt w (.slice f4 f5 f6) S) : Calls Tryd.prog 14 #[.agg #[.int .i64 6, .int .u64 f1, .int .i64 f2, .bool f3, .slice f4 f5 f6, .int .i64 f7, .int .u64 f8, .int .i64 f9, .int .u64 f10, .int .i64 f11, .int .i64 f12, .int .u64 f13, .int .i64 f14, .int .u64 f15]] w fun e w' => e = .returned (.int .i64 (chR (ownB ⟨6, f1, f2, f3, f4, f5, f6, f7, f8, f9, f10, f11, f12, f13, f14, f15⟩ && sameF ⟨0, f1, f2, f3, f4, f5, f6, f7, f8, 0, 0, f11, f12, f13, f14, f15⟩ zeroF (eqS S ⟨#[]⟩)))) ∧ Below w.heap.size w w' := by
  have T := hide hT
  clear hT
  replace hR := hide hR
  have HI := hide (IsB.new w #[.int .i64 6, .int .u64 f1, .int .i64 f2, .bool f3, .slice f4 f5 f6, .int .i64 f7, .int .u64 f8, .int .i64 f9, .int .u64 f10, .int .i64 f11, .int .i64 f12, .int .u64 f13, .int .i64 f14, .int .u64 f15] 34)
  have HG := hide (show Gr w (w.alloc (.cells #[.int .i64 6, .int .u64 f1, .int .i64 f2, .bool f3, .slice f4 f5 f6, .int .i64 f7, .int .u64 f8, .int .i64 f9, .int .u64 f10, .int .i64 f11, .int .i64 f12, .int .u64 f13, .int .i64 f14, .int .u64 f15] 34)) from (Gr.refl w).alloc _)
  go_enter Tryd.func14, Tryd.ntmps14
  go_wp2_with fail
  generalize w.alloc (.cells #[.int .i64 6, .int .u64 f1, .int .i64 f2, .bool f3, .slice f4 f5 f6, .int .i64 f7, .int .u64 f8, .int .i64 f9, .int .u64 f10, .int .i64 f11, .int .i64 f12, .int .u64 f13, .int .i64 f14, .int .u64 f15] 34) = W0 at HI HG ⊢
  have a0 : W0.cell? ⟨w.heap.size, 0, none⟩ = some (.int .i64 6) := HI.out.cell 0
  have a1 : W0.cell? ⟨w.heap.size, 1, none⟩ = some (.int .u64 f1) := HI.out.cell 1
  have a2 : W0.cell? ⟨w.heap.size, 2, none⟩ = some (.int .i64 f2) := HI.out.cell 2
  have a3 : W0.cell? ⟨w.heap.size, 3, none⟩ = some (.bool f3) := HI.out.cell 3
  have a4 : W0.cell? ⟨w.heap.size, 4, none⟩ = some (.slice f4 f5 f6) := HI.out.cell 4
  have a5 : W0.cell? ⟨w.heap.size, 5, none⟩ = some (.int .i64 f7) := HI.out.cell 5
  have a6 : W0.cell? ⟨w.heap.size, 6, none⟩ = some (.int .u64 f8) := HI.out.cell 6
  have a7 : W0.cell? ⟨w.heap.size, 7, none⟩ = some (.int .i64 f9) := HI.out.cell 7
  have a8 : W0.cell? ⟨w.heap.size, 8, none⟩ = some (.int .u64 f10) := HI.out.cell 8
  have a9 : W0.cell? ⟨w.heap.size, 9, none⟩ = some (.int .i64 f11) := HI.out.cell 9
  have a10 : W0.cell? ⟨w.heap.size, 10, none⟩ = some (.int .i64 f12) := HI.out.cell 10
  have a11 : W0.cell? ⟨w.heap.size, 11, none⟩ = some (.int .u64 f13) := HI.out.cell 11
  have a12 : W0.cell? ⟨w.heap.size, 12, none⟩ = some (.int .i64 f14) := HI.out.cell 12
  have a13 : W0.cell? ⟨w.heap.size, 13, none⟩ = some (.int .u64 f15) := HI.out.cell 13
  refine (isKind_yes 6 (by omega) (by omega) _).mono ?_; rintro e w0 ⟨rfl, rfl⟩
  go_wp2_with fail
  clear a0 a1 a2 a3 a4 a5 a6 a7 a8 a9 a10 a11 a12 a13
  refine (ow6 f1 f2 f3 f4 f5 f6 f7 f8 f9 f10 f11 f12 f13 f14 f15 _ (hR.out.gr HG.out)).mono ?_; rintro e w1 ⟨rfl, hg⟩
  replace HI := hide (HI.out.gr hg)
  replace HG := hide (HG.out.trans hg)
  clear hg
  rcases ho : ownB ⟨6, f1, f2, f3, f4, f5, f6, f7, f8, f9, f10, f11, f12, f13, f14, f15⟩ with _ | _
  · have BB := hide HG.out.below
    replace ho := hide ho
    clear T HI HG
    go_wp2
    go_ret
    exact ⟨by rw [ho.out]; rfl, BB.out⟩
  · skip
    replace ho := hide ho
    have a0 : w1.cell? ⟨w.heap.size, 0, none⟩ = some (.int .i64 6) := HI.out.cell 0
    have a1 : w1.cell? ⟨w.heap.size, 1, none⟩ = some (.int .u64 f1) := HI.out.cell 1
    have a2 : w1.cell? ⟨w.heap.size, 2, none⟩ = some (.int .i64 f2) := HI.out.cell 2
    have a3 : w1.cell? ⟨w.heap.size, 3, none⟩ = some (.bool f3) := HI.out.cell 3
    have a4 : w1.cell? ⟨w.heap.size, 4, none⟩ = some (.slice f4 f5 f6) := HI.out.cell 4
    have a5 : w1.cell? ⟨w.heap.size, 5, none⟩ = some (.int .i64 f7) := HI.out.cell 5
    have a6 : w1.cell? ⟨w.heap.size, 6, none⟩ = some (.int .u64 f8) := HI.out.cell 6
    have a7 : w1.cell? ⟨w.heap.size, 7, none⟩ = some (.int .i64 f9) := HI.out.cell 7
    have a8 : w1.cell? ⟨w.heap.size, 8, none⟩ = some (.int .u64 f10) := HI.out.cell 8
    have a9 : w1.cell? ⟨w.heap.size, 9, none⟩ = some (.int .i64 f11) := HI.out.cell 9
    have a10 : w1.cell? ⟨w.heap.size, 10, none⟩ = some (.int .i64 f12) := HI.out.cell 10
    have a11 : w1.cell? ⟨w.heap.size, 11, none⟩ = some (.int .u64 f13) := HI.out.cell 11
    have a12 : w1.cell? ⟨w.heap.size, 12, none⟩ = some (.int .i64 f14) := HI.out.cell 12
    have a13 : w1.cell? ⟨w.heap.size, 13, none⟩ = some (.int .u64 f15) := HI.out.cell 13
    go_wp2_with fail
    clear a0 a1 a2 a3 a4 a5 a6 a7 a8 a9 a10 a11 a12 a13
    refine (wo6 f1 f2 f3 f4 f5 f6 f7 f8 f9 f10 f11 f12 f13 f14 f15 _).mono ?_; rintro e w2 ⟨rfl, hg⟩
    replace HG := hide (HG.out.trans hg)
    clear hg HI
    have BB := hide HG.out.below
    clear HG
    go_wp2_with fail
    refine (psame_any 0 f1 f2 f3 f4 f5 f6 f7 f8 0 0 f11 f12 f13 f14 f15 0 0 0 false none 0 0 0 0 0 0 0 0 0 0 0 S ⟨#[]⟩ _ (T.out.below BB.out) (txt_nil _)).mono ?_; rintro e w3 ⟨rfl, hb⟩
    replace BB := hide (BB.out.trans (hb.mono BB.out.size))
    clear hb T
    have hz : sameF ⟨0, f1, f2, f3, f4, f5, f6, f7, f8, 0, 0, f11, f12, f13, f14, f15⟩ ⟨0, 0, 0, false, none, 0, 0, 0, 0, 0, 0, 0, 0, 0, 0, 0⟩ (eqS S ⟨#[]⟩) = sameF ⟨0, f1, f2, f3, f4, f5, f6, f7, f8, 0, 0, f11, f12, f13, f14, f15⟩ zeroF (eqS S ⟨#[]⟩) := rfl
    rw [hz]
    clear hz
    generalize hs : sameF ⟨0, f1, f2, f3, f4, f5, f6, f7, f8, 0, 0, f11, f12, f13, f14, f15⟩ zeroF (eqS S ⟨#[]⟩) = tt
    replace hs := hide hs
    cases tt
    · go_wp2
      go_ret
      exact ⟨by rw [ho.out, hs.out]; rfl, BB.out⟩
    · go_wp2
      go_ret
      exact ⟨by rw [ho.out, hs.out]; rfl, BB.out⟩

set_option maxHeartbeats 8000000 in
set_option maxRecDepth 100000 in
theorem ch7 (f1 f2 : Int) (f3 : Bool) (f4 : Option Addr) (f5 f6 : Nat) (f7 f8 f9 f10 f11 f12 f13 f14 f15 : Int) (h15 : 0 ≤ f15) (S : ByteArray) (w : World) (hR : Ranks w) (hT : Txt w (.slice f4 f5 f6) S) : Calls Tryd.prog 14 #[.agg #[.int .i64 7, .int .u64 f1, .int .i64 f2, .bool f3, .slice f4 f5 f6, .int .i64 f7, .int .u64 f8, .int .i64 f9, .int .u64 f10, .int .i64 f11, .int .i64 f12, .int .u64 f13, .int .i64 f14, .int .u64 f15]] w fun e w' => e = .returned (.int .i64 (chR (ownB ⟨7, f1, f2, f3, f4, f5, f6, f7, f8, f9, f10, f11, f12, f13, f14, f15⟩ && sameF ⟨0, f1, f2, f3, f4, f5, f6, f7, f8, f9, f10, 0, 0, 0, 0, 0⟩ zeroF (eqS S ⟨#[]⟩)))) ∧ Below w.heap.size w w' := by
  have T := hide hT
  clear hT
  replace hR := hide hR
  have HI := hide (IsB.new w #[.int .i64 7, .int .u64 f1, .int .i64 f2, .bool f3, .slice f4 f5 f6, .int .i64 f7, .int .u64 f8, .int .i64 f9, .int .u64 f10, .int .i64 f11, .int .i64 f12, .int .u64 f13, .int .i64 f14, .int .u64 f15] 34)
  have HG := hide (show Gr w (w.alloc (.cells #[.int .i64 7, .int .u64 f1, .int .i64 f2, .bool f3, .slice f4 f5 f6, .int .i64 f7, .int .u64 f8, .int .i64 f9, .int .u64 f10, .int .i64 f11, .int .i64 f12, .int .u64 f13, .int .i64 f14, .int .u64 f15] 34)) from (Gr.refl w).alloc _)
  go_enter Tryd.func14, Tryd.ntmps14
  go_wp2_with fail
  generalize w.alloc (.cells #[.int .i64 7, .int .u64 f1, .int .i64 f2, .bool f3, .slice f4 f5 f6, .int .i64 f7, .int .u64 f8, .int .i64 f9, .int .u64 f10, .int .i64 f11, .int .i64 f12, .int .u64 f13, .int .i64 f14, .int .u64 f15] 34) = W0 at HI HG ⊢
  have a0 : W0.cell? ⟨w.heap.size, 0, none⟩ = some (.int .i64 7) := HI.out.cell 0
  have a1 : W0.cell? ⟨w.heap.size, 1, none⟩ = some (.int .u64 f1) := HI.out.cell 1
  have a2 : W0.cell? ⟨w.heap.size, 2, none⟩ = some (.int .i64 f2) := HI.out.cell 2
  have a3 : W0.cell? ⟨w.heap.size, 3, none⟩ = some (.bool f3) := HI.out.cell 3
  have a4 : W0.cell? ⟨w.heap.size, 4, none⟩ = some (.slice f4 f5 f6) := HI.out.cell 4
  have a5 : W0.cell? ⟨w.heap.size, 5, none⟩ = some (.int .i64 f7) := HI.out.cell 5
  have a6 : W0.cell? ⟨w.heap.size, 6, none⟩ = some (.int .u64 f8) := HI.out.cell 6
  have a7 : W0.cell? ⟨w.heap.size, 7, none⟩ = some (.int .i64 f9) := HI.out.cell 7
  have a8 : W0.cell? ⟨w.heap.size, 8, none⟩ = some (.int .u64 f10) := HI.out.cell 8
  have a9 : W0.cell? ⟨w.heap.size, 9, none⟩ = some (.int .i64 f11) := HI.out.cell 9
  have a10 : W0.cell? ⟨w.heap.size, 10, none⟩ = some (.int .i64 f12) := HI.out.cell 10
  have a11 : W0.cell? ⟨w.heap.size, 11, none⟩ = some (.int .u64 f13) := HI.out.cell 11
  have a12 : W0.cell? ⟨w.heap.size, 12, none⟩ = some (.int .i64 f14) := HI.out.cell 12
  have a13 : W0.cell? ⟨w.heap.size, 13, none⟩ = some (.int .u64 f15) := HI.out.cell 13
  refine (isKind_yes 7 (by omega) (by omega) _).mono ?_; rintro e w0 ⟨rfl, rfl⟩
  go_wp2_with fail
  clear a0 a1 a2 a3 a4 a5 a6 a7 a8 a9 a10 a11 a12 a13
  refine (ow7 f1 f2 f3 f4 f5 f6 f7 f8 f9 f10 f11 f12 f13 f14 f15 h15 _ (hR.out.gr HG.out)).mono ?_; rintro e w1 ⟨rfl, hg⟩
  replace HI := hide (HI.out.gr hg)
  replace HG := hide (HG.out.trans hg)
  clear hg
  rcases ho : ownB ⟨7, f1, f2, f3, f4, f5, f6, f7, f8, f9, f10, f11, f12, f13, f14, f15⟩ with _ | _
  · have BB := hide HG.out.below
    replace ho := hide ho
    clear T HI HG
    go_wp2
    go_ret
    exact ⟨by rw [ho.out]; rfl, BB.out⟩
  · skip
    replace ho := hide ho
    have a0 : w1.cell? ⟨w.heap.size, 0, none⟩ = some (.int .i64 7) := HI.out.cell 0
    have a1 : w1.cell? ⟨w.heap.size, 1, none⟩ = some (.int .u64 f1) := HI.out.cell 1
    have a2 : w1.cell? ⟨w.heap.size, 2, none⟩ = some (.int .i64 f2) := HI.out.cell 2
    have a3 : w1.cell? ⟨w.heap.size, 3, none⟩ = some (.bool f3) := HI.out.cell 3
    have a4 : w1.cell? ⟨w.heap.size, 4, none⟩ = some (.slice f4 f5 f6) := HI.out.cell 4
    have a5 : w1.cell? ⟨w.heap.size, 5, none⟩ = some (.int .i64 f7) := HI.out.cell 5
    have a6 : w1.cell? ⟨w.heap.size, 6, none⟩ = some (.int .u64 f8) := HI.out.cell 6
    have a7 : w1.cell? ⟨w.heap.size, 7, none⟩ = some (.int .i64 f9) := HI.out.cell 7
    have a8 : w1.cell? ⟨w.heap.size, 8, none⟩ = some (.int .u64 f10) := HI.out.cell 8
    have a9 : w1.cell? ⟨w.heap.size, 9, none⟩ = some (.int .i64 f11) := HI.out.cell 9
    have a10 : w1.cell? ⟨w.heap.size, 10, none⟩ = some (.int .i64 f12) := HI.out.cell 10
    have a11 : w1.cell? ⟨w.heap.size, 11, none⟩ = some (.int .u64 f13) := HI.out.cell 11
    have a12 : w1.cell? ⟨w.heap.size, 12, none⟩ = some (.int .i64 f14) := HI.out.cell 12
    have a13 : w1.cell? ⟨w.heap.size, 13, none⟩ = some (.int .u64 f15) := HI.out.cell 13
    go_wp2_with fail
    clear a0 a1 a2 a3 a4 a5 a6 a7 a8 a9 a10 a11 a12 a13
    refine (wo7 f1 f2 f3 f4 f5 f6 f7 f8 f9 f10 f11 f12 f13 f14 f15 _).mono ?_; rintro e w2 ⟨rfl, hg⟩
    replace HG := hide (HG.out.trans hg)
    clear hg HI
    have BB := hide HG.out.below
    clear HG
    go_wp2_with fail
    refine (psame_any 0 f1 f2 f3 f4 f5 f6 f7 f8 f9 f10 0 0 0 0 0 0 0 0 false none 0 0 0 0 0 0 0 0 0 0 0 S ⟨#[]⟩ _ (T.out.below BB.out) (txt_nil _)).mono ?_; rintro e w3 ⟨rfl, hb⟩
    replace BB := hide (BB.out.trans (hb.mono BB.out.size))
    clear hb T
    have hz : sameF ⟨0, f1, f2, f3, f4, f5, f6, f7, f8, f9, f10, 0, 0, 0, 0, 0⟩ ⟨0, 0, 0, false, none, 0, 0, 0, 0, 0, 0, 0, 0, 0, 0, 0⟩ (eqS S ⟨#[]⟩) = sameF ⟨0, f1, f2, f3, f4, f5, f6, f7, f8, f9, f10, 0, 0, 0, 0, 0⟩ zeroF (eqS S ⟨#[]⟩) := rfl
    rw [hz]
    clear hz
    generalize hs : sameF ⟨0, f1, f2, f3, f4, f5, f6, f7, f8, f9, f10, 0, 0, 0, 0, 0⟩ zeroF (eqS S ⟨#[]⟩) = tt
    replace hs := hide hs
    cases tt
    · go_wp2
      go_ret
      exact ⟨by rw [ho.out, hs.out]; rfl, BB.out⟩
    · go_wp2
      go_ret
      exact ⟨by rw [ho.out, hs.out]; rfl, BB.out⟩

theorem chN (f0 : Int) (h : ¬ (1 ≤ f0 ∧ f0 ≤ 7)) (f1 f2 : Int) (f3 : Bool) (f4 : Option Addr) (f5 f6 : Nat) (f7 f8 f9 f10 f11 f12 f13 f14 f15 : Int) (w : World) : Calls Tryd.prog 14 #[.agg #[.int .i64 f0, .int .u64 f1, .int .i64 f2, .bool f3, .slice f4 f5 f6, .int .i64 f7, .int .u64 f8, .int .i64 f9, .int .u64 f10, .int .i64 f11, .int .i64 f12, .int .u64 f13, .int .i64 f14, .int .u64 f15]] w fun e w' => e = .returned (.int .i64 30) ∧ Below w.heap.size w w' := by
  have bel := hide ((Below.refl w.heap.size w).alloc (Nat.le_refl _) (.cells #[.int .i64 f0, .int .u64 f1, .int .i64 f2, .bool f3, .slice f4 f5 f6, .int .i64 f7, .int .u64 f8, .int .i64 f9, .int .u64 f10, .int .i64 f11, .int .i64 f12, .int .u64 f13, .int .i64 f14, .int .u64 f15] 34))
  go_enter Tryd.func14, Tryd.ntmps14
  go_wp2_with fail
  refine (isKind_no f0 h _).mono ?_; rintro e w0 ⟨rfl, rfl⟩
  clear h
  go_wp2
  go_ret
  exact ⟨rfl, bel.out⟩

/-- Check of any field. -/
theorem check_any (f : Fd) (h8 : 0 ≤ f.f8) (h15 : 0 ≤ f.f15) (S : ByteArray) (w : World) (hR : Ranks w) (hT : Txt w (.slice f.f4 f.f5 f.f6) S) : Calls Tryd.prog 14 #[.agg f.cs] w fun e w' => e = .returned (.int .i64 (chR (mayB f (eqS S ⟨#[]⟩)))) ∧ Below w.heap.size w w' := by
  obtain ⟨f0, f1, f2, f3, f4, f5, f6, f7, f8, f9, f10, f11, f12, f13, f14, f15⟩ := f
  by_cases hk : 1 ≤ f0 ∧ f0 ≤ 7
  · obtain rfl | rfl | rfl | rfl | rfl | rfl | rfl : f0 = 1 ∨ f0 = 2 ∨ f0 = 3 ∨ f0 = 4 ∨ f0 = 5 ∨ f0 = 6 ∨ f0 = 7 := by omega
    · exact ch1 f1 f2 f3 f4 f5 f6 f7 f8 f9 f10 f11 f12 f13 f14 f15 S w hT
    · exact ch2 f1 f2 f3 f4 f5 f6 f7 f8 f9 f10 f11 f12 f13 f14 f15 S w hT
    · exact ch3 f1 f2 f3 f4 f5 f6 f7 f8 f9 f10 f11 f12 f13 f14 f15 S w hT
    · exact ch4 f1 f2 f3 f4 f5 f6 f7 f8 f9 f10 f11 f12 f13 f14 f15 S w hT
    · exact ch5 f1 f2 f3 f4 f5 f6 f7 f8 f9 f10 f11 f12 f13 f14 f15 h8 S w hT
    · exact ch6 f1 f2 f3 f4 f5 f6 f7 f8 f9 f10 f11 f12 f13 f14 f15 S w hR hT
    · exact ch7 f1 f2 f3 f4 f5 f6 f7 f8 f9 f10 f11 f12 f13 f14 f15 h15 S w hR hT
  · have hm : mayB ⟨f0, f1, f2, f3, f4, f5, f6, f7, f8, f9, f10, f11, f12, f13, f14, f15⟩ (eqS S ⟨#[]⟩) = false := by unfold mayB; rw [decide_eq_false hk]; rfl
    rw [hm]
    exact chN f0 hk f1 f2 f3 f4 f5 f6 f7 f8 f9 f10 f11 f12 f13 f14 f15 w

end Go.Proofs.YtmhcmlegdoapdaaDoor
