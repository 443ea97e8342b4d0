/- References that are compared; items that came in inside a struct (with none of them the address may be any): few, Same. -/
import Derived.Test.YtfnpapaibgbjpaaYI
import Derived.Test.YtfnpapaibgbjpaaZV
import Derived.Test.YtfnpapaibgbjpaaZS
namespace Go.Proofs.Ytfnpapaibgbjpaa
open Go.RowKit Go.Maps

abbrev Rf := Int × Int × Int × Int × Int
theorem eqr (i a b c d i' a' b' c' d' : Int) (w : World) : (binOp .eql 44 (.agg #[.int .i64 i, .int .i64 a, .int .u64 b, .int .i64 c, .int .u64 d]) (.agg #[.int .i64 i', .int .i64 a', .int .u64 b', .int .i64 c', .int .u64 d'])).run Try.prog w = .ok (.bool (i == i' && (a == a' && b == b') && (c == c' && d == d'))) w := by
  have u0 := Try.underlying38
  have a0 := Try.isAgg38
  have z0 := Try.sizeOf38
  have u1 := Try.underlying3
  have a1 := Try.isAgg3
  have z1 := Try.sizeOf3
  have u2 := Try.underlying24
  have a2 := Try.isAgg24
  have z2 := Try.sizeOf24
  have u3 := Try.isAgg40
  have u4 := Try.sizeOf40
  have u5 := Try.isAgg42
  have u6 := Try.sizeOf42
  have hS : Try.prog.underlying 44 = some (.struct (Try.prog.fieldsOf 44)) := by kernel_rfl
  have hp : Try.prog.stoodInHeld 44 = false := by kernel_rfl
  have hS1 : Try.prog.underlying 40 = some (.struct (Try.prog.fieldsOf 40)) := by kernel_rfl
  have hp1 : Try.prog.stoodInHeld 40 = false := by kernel_rfl
  have hS2 : Try.prog.underlying 42 = some (.struct (Try.prog.fieldsOf 42)) := by kernel_rfl
  have hp2 : Try.prog.stoodInHeld 42 = false := by kernel_rfl
  obtain ⟨dd, hd⟩ : ∃ dd, (10000 : Nat) = dd + 1 + 1 + 1 := ⟨9997, rfl⟩
  rw [run_eql_struct, hd, run_equalIn_agg w (dd + 1 + 1) 44 _ _ hS hp]
  clear hd hS
  simp only [Program.fieldsOf, Try.underlying44]
  have e1 : ∀ (x y x' y' : Int) w, (Op.equalIn (dd + 1 + 1) 40 (.agg #[.int .i64 x, .int .u64 y]) (.agg #[.int .i64 x', .int .u64 y'])).run Try.prog w = .ok (x == x' && y == y') w := fun x y x' y' w => by
    rw [run_equalIn_agg w (dd + 1) 40 _ _ hS1 hp1]
    simp only [Program.fieldsOf, Try.underlying40]
    go_simp
    by_cases h1 : x = x' <;> by_cases h2 : y = y' <;> simp [h1, h2]
  have e2 : ∀ (x y x' y' : Int) w, (Op.equalIn (dd + 1 + 1) 42 (.agg #[.int .i64 x, .int .u64 y]) (.agg #[.int .i64 x', .int .u64 y'])).run Try.prog w = .ok (x == x' && y == y') w := fun x y x' y' w => by
    rw [run_equalIn_agg w (dd + 1) 42 _ _ hS2 hp2]
    simp only [Program.fieldsOf, Try.underlying42]
    go_simp
    by_cases h1 : x = x' <;> by_cases h2 : y = y' <;> simp [h1, h2]
  clear hS1 hp1 hS2 hp2
  go_simp
  by_cases h1 : i = i' <;> by_cases h2 : a = a' <;> by_cases h3 : b = b' <;> by_cases h4 : c = c' <;> by_cases h5 : d = d' <;> simp [h1, h2, h3, h4, h5]

/-- Is a reference zero? -/
def zR (l : Rf) : Bool := 0 == l.1 && (0 == l.2.1 && 0 == l.2.2.1) && (0 == l.2.2.2.1 && 0 == l.2.2.2.2)
theorem eqz (i a b c d : Int) (w : World) : (binOp .eql 44 (.agg #[.int .i64 0, .int .i64 0, .int .u64 0, .int .i64 0, .int .u64 0]) (.agg #[.int .i64 i, .int .i64 a, .int .u64 b, .int .i64 c, .int .u64 d])).run Try.prog w = .ok (.bool (zR (i, a, b, c, d))) w := eqr 0 0 0 0 0 i a b c d w

/-- Items that came in inside a struct. -/
def SlX (w : World) (a : Option Addr) (c : Nat) (l : List It) : Prop := Sl w (.slice a l.length c) l ∨ l = []
theorem SlX.below {w w' : World} {a : Option Addr} {c : Nat} {l : List It} (h : SlX w a c l) (hb : Below w.heap.size w w') : SlX w' a c l := h.imp (fun h => h.below hb) id
theorem SlX.nil (w : World) (a : Option Addr) (c : Nat) : SlX w a c [] := Or.inr rfl

set_option maxHeartbeats 1000000 in
theorem fewX_any (a : Option Addr) (c : Nat) (l : List It) (w : World) (h : SlX w a c l) : Calls Try.prog 9 #[.slice a l.length c] w fun e w' => ∃ a' c', e = .returned (.slice a' (l.take 200).length c') ∧ SlX w a' c' (l.take 200) ∧ w' = w := by
  rcases h with h | rfl
  · refine (few_any _ l w h).mono ?_
    rintro e w' ⟨v', rfl, hS, hw⟩
    obtain ⟨a', c', rfl, -, -⟩ := hS.shape
    exact ⟨a', c', rfl, Or.inl hS, hw⟩
  · go_enter Try.func9, Try.ntmps9
    go_wp2
    go_ret
    exact ⟨_, _, rfl, SlX.nil _ _ _, rfl⟩

set_option maxHeartbeats 1000000 in
set_option maxRecDepth 100000 in
theorem rsame_nil (v : Value) (l : List It) (a : Option Addr) (c : Nat) (w : World) (h : Sl w v l) : Calls Try.prog 19 #[v, .slice a 0 c] w fun e w' => e = .returned (.bool (sameL l [])) ∧ Below w.heap.size w w' := by
  obtain ⟨va, vc, rfl, -, -⟩ := h.shape
  clear h
  cases l with
  | nil =>
    have hE : Hid (sameL [] [] = true) := rfl
    simp only [List.length_nil]
    go_enter Try.func19, Try.ntmps19
    go_wp2
    go_loopw [5] (fun i wr => i = .int .i64 0 ∧ wr = w) (fun i _ => 0)
    case atStart => exact ⟨rfl, rfl⟩
    case round =>
      obtain ⟨rfl, rfl⟩ := hrel
      go_wp2
      go_ret
      exact ⟨by rw [hE.out]; rfl, Below.refl _ _⟩
  | cons x l =>
    have hE : Hid (sameL (x :: l) [] = false) := sameL_len (by simp)
    have hd : (((x :: l).length : Int) == 0) = false := by simp; omega
    generalize (x :: l).length = n at *
    go_enter Try.func19, Try.ntmps19
    go_wp2
    go_ret
    exact ⟨by rw [hE.out]; rfl, Below.refl _ _⟩

set_option maxHeartbeats 1000000 in
set_option maxRecDepth 100000 in
theorem same_nil (v : Value) (l : List It) (a : Option Addr) (c : Nat) (w : World) (h : Sl w v l) : Calls Try.prog 18 #[v, .slice a 0 c] w fun e w' => e = .returned (.bool (sameL l [])) ∧ Below w.heap.size w w' := by
  obtain ⟨va, vc, rfl, -, -⟩ := h.shape
  clear h
  have EF : Hid (Calls Try.prog 34 #[.slice va l.length vc, .slice a 0 c, .func (.func 35) #[] #[]] w fun e w' => e = .returned (.bool (sameL l [])) ∧ Below w.heap.size w w') := by
    show Calls _ _ _ _ _
    cases l with
    | nil =>
      have hE : Hid (sameL [] [] = true) := rfl
      simp only [List.length_nil]
      go_enter Try.func34, Try.ntmps34
      go_wp2
      go_loopw [17] (fun i wr => i = .int .i64 0 ∧ wr = w) (fun i _ => 0)
      case atStart => exact ⟨rfl, rfl⟩
      case round =>
        obtain ⟨rfl, rfl⟩ := hrel
        go_wp2
        go_ret
        exact ⟨by rw [hE.out]; rfl, Below.refl _ _⟩
    | cons x l =>
      have hE : Hid (sameL (x :: l) [] = false) := sameL_len (by simp)
      have hd : (((x :: l).length : Int) == 0) = false := by simp; omega
      generalize (x :: l).length = n at *
      go_enter Try.func34, Try.ntmps34
      go_wp2
      go_ret
      exact ⟨by rw [hE.out]; rfl, Below.refl _ _⟩
  generalize sameL l [] = Eb at *
  go_enter Try.func18, Try.ntmps18
  go_wp2_with fail
  refine EF.out.mono ?_
  rintro e w2 ⟨rfl, hb⟩
  have B2 := hide hb
  clear hb
  go_wp2
  go_ret
  exact ⟨rfl, B2.out⟩

theorem rsameX (v : Value) (l m : List It) (a : Option Addr) (c : Nat) (hl : l.length ≤ 100000) (w : World) (h : Sl w v l) (hm : SlX w a c m) : Calls Try.prog 19 #[v, .slice a m.length c] w fun e w' => e = .returned (.bool (sameL l m)) ∧ Below w.heap.size w w' := by
  rcases hm with hm | rfl
  · exact rsame_any v _ l m hl w h hm
  · exact rsame_nil v l a c w h
theorem sameX (v : Value) (l m : List It) (a : Option Addr) (c : Nat) (hl : l.length ≤ 100000) (w : World) (h : Sl w v l) (hm : SlX w a c m) : Calls Try.prog 18 #[v, .slice a m.length c] w fun e w' => e = .returned (.bool (sameL l m)) ∧ Below w.heap.size w w' := by
  rcases hm with hm | rfl
  · exact same_any v _ l m hl w h hm
  · exact same_nil v l a c w h

end Go.Proofs.Ytfnpapaibgbjpaa
