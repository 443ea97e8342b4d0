/- Package pack: ints, truths, numbers of so many bytes and rows, read of any bytes. -/
import Derived.Test.YtmhcmlegdoapdaaDoorRD
import Derived.Test.YtmhcmlegdoapdaaDoorQV
import Derived.Test.YtmhcmlegdoapdaaDoorQD
namespace Go.Proofs.YtmhcmlegdoapdaaDoor
open Go.RowKit

/-- The int of a number. -/
def unf (x : Nat) : Int := if x % 2 = 1 then -((x / 2 : Nat) : Int) - 1 else ((x / 2 : Nat) : Int)
theorem xor_i64 (y : Nat) (h : y < 9223372036854775808) : bits .xor .i64 (-1) (y : Int) = -(y : Int) - 1 := by
  show IntKind.i64.wrap ((BitVec.ofInt 64 (-1) ^^^ BitVec.ofInt 64 (y : Int)).toNat : Int) = _
  have e : BitVec.ofInt 64 (-1) = BitVec.allOnes 64 := by decide
  rw [e, BitVec.toNat_xor, BitVec.toNat_allOnes, ofInt_u64 y (by omega), show (2 ^ 64 - 1 : Nat) = 18446744073709551615 from by decide, xor_ones y (by omega), IntKind.wrap_i64]
  omega
theorem and_one (x : Nat) (h : x < 18446744073709551616) : bits .and .u64 (x : Int) 1 = ((x % 2 : Nat) : Int) := by
  have := u64_and_nat x 1 h (by omega)
  rw [nat_mask1] at this
  exact this

set_option maxHeartbeats 1000000 in
set_option maxRecDepth 100000 in
theorem unfolded_any (x : Nat) (hx : x < 18446744073709551616) (w : World) : Calls Tryd.prog 77 #[.int .u64 (x : Int)] w fun e w' => e = .returned (.int .i64 (unf x)) ∧ w' = w := by
  have ha := and_one x hx
  have hd : (x : Int) / 2 = ((x / 2 : Nat) : Int) := by omega
  have hw : IntKind.i64.wrap ((x / 2 : Nat) : Int) = ((x / 2 : Nat) : Int) := by rw [IntKind.wrap_i64]; omega
  by_cases h : x % 2 = 1
  · have hX := hide (xor_i64 (x / 2) (by omega))
    have hu := hide (show unf x = -((x / 2 : Nat) : Int) - 1 from by unfold unf; rw [if_pos h])
    rw [h] at ha
    clear h
    generalize x / 2 = y at *
    go_enter Tryd.func77, Tryd.ntmps77
    go_wp2
    go_ret
    exact ⟨by rw [hu.out, ← hX.out]; rfl, rfl⟩
  · have hu := hide (show unf x = ((x / 2 : Nat) : Int) from by unfold unf; rw [if_neg h])
    have h0 : x % 2 = 0 := by omega
    rw [h0] at ha
    clear h h0
    generalize x / 2 = y at *
    go_enter Tryd.func77, Tryd.ntmps77
    go_wp2
    go_ret
    exact ⟨by rw [hu.out]; rfl, rfl⟩

/-- The greatest number. -/
def M64 : Nat := 18446744073709551615
theorem M64_eq : ((M64 : Nat) : Int) = 18446744073709551615 := by decide
/-- An int. -/
def pwhole (l : List Int) : PR Int := match pnum M64 0 0 l with
  | .ok x n => .ok (unf x) n
  | .bad i e => .bad i e
theorem pnum_le (most : Nat) : ∀ (l : List Int) (k m : Nat) (x n : Nat), (∀ c ∈ l, 0 ≤ c ∧ c < 256) → m ≤ most → pnum most k m l = .ok x n → x ≤ most := by
  intro l
  induction l with
  | nil => intro k m x n _ _ h; rw [pnum_nil] at h; cases h
  | cons c r ih =>
    intro k m x n hb hmm h
    by_cases hc : decide (c ≤ (((most - m) / 2 ^ (7 * k) : Nat) : Int)) = true ∧ (c ≠ 0 ∨ k = 0)
    · have h1 := bound_val (hb c List.mem_cons_self).1 (of_decide_eq_true hc.1)
      by_cases h128 : c < 128
      · rw [pnum_end most k m c r hc h128] at h
        cases h; omega
      · rw [pnum_more most k m c r hc h128] at h
        exact ih _ _ x n (fun c' h' => hb c' (List.mem_cons_of_mem _ h')) (by omega) h
    · rw [pnum_bad most k m c r hc] at h; cases h
theorem Lft.bd {sb : Nat} {w : World} {R : Nat} {l : List Int} {at' : Int} {fl : Value} (h : Lft w R sb l at' fl) : ∀ c ∈ l, 0 ≤ c ∧ c < 256 := by
  obtain ⟨_, _, _, _, _, _, _, h, _⟩ := h; exact h
theorem Lft.at0 {sb : Nat} {w : World} {R : Nat} {l : List Int} {at' : Int} {fl : Value} (h : Lft w R sb l at' fl) : 0 ≤ at' := by
  obtain ⟨_, _, _, _, _, h, _⟩ := h; exact h

set_option maxHeartbeats 1000000 in
set_option maxRecDepth 100000 in
theorem whole_any {sb : Nat} (R : Nat) (l : List Int) (at' : Int) (fl : Value) (w : World) (h : Lft w R sb l at' fl) :
    Calls Tryd.prog 66 #[.pointer (some ⟨R, 0, none⟩)] w fun e w' => Post w R sb l at' fl (fun x : Int => .int .i64 x) (pwhole l) e w' := by
  have hn := number_any M64 (by decide) R l at' fl w h
  rw [M64_eq] at hn
  have HP : pwhole l = match pnum M64 0 0 l with
    | .ok x n => .ok (unf x) n
    | .bad i e => .bad i e := rfl
  have hle := pnum_le M64 l 0 0
  have hbd := h.bd
  replace hn := hide hn
  clear h
  rcases hp : pnum M64 0 0 l with ⟨x, n⟩ | ⟨i, er⟩
  · rw [hp] at HP
    have hx : x < 18446744073709551616 := by have := hle x n hbd (by decide) hp; have e : M64 = 18446744073709551615 := rfl; omega
    replace hp := hide hp
    replace HP := hide HP
    clear hle hbd
    go_enter Tryd.func66, Tryd.ntmps66
    go_wp2_with fail
    refine hn.out.mono ?_
    intro e w1 hE
    unfold Post at hE
    rw [hp.out] at hE
    obtain ⟨⟨rfl, h1, h2⟩, hg⟩ := hE
    have H2 := hide h2
    have HG := hide hg
    clear h2 hg hn
    go_wp2_with fail
    refine (unfolded_any x hx _).mono ?_; rintro e w2 ⟨rfl, rfl⟩
    go_wp2
    go_ret
    exact Post.okI _ n HP.out rfl h1 H2.out HG.out
  · rw [hp] at HP
    replace hp := hide hp
    replace HP := hide HP
    clear hle hbd
    go_enter Tryd.func66, Tryd.ntmps66
    go_wp2_with fail
    refine hn.out.mono ?_
    intro e w1 hE
    unfold Post at hE
    rw [hp.out] at hE
    obtain ⟨rfl, hg⟩ := hE
    exact ⟨rfl, Post.badI i er HP.out rfl hg⟩

/-- A truth. -/
def ptruth : List Int → PR Bool
  | [] => .bad 0 32
  | c :: _ => if c ≤ 1 then .ok (decide (c = 1)) 1 else .bad 0 31

set_option maxHeartbeats 1000000 in
set_option maxRecDepth 100000 in
theorem truth_any {sb : Nat} (R : Nat) (l : List Int) (at' : Int) (fl : Value) (w : World) (h : Lft w R sb l at' fl) :
    Calls Tryd.prog 67 #[.pointer (some ⟨R, 0, none⟩)] w fun e w' => Post w R sb l at' fl (fun x : Bool => .bool x) (ptruth l) e w' := by
  have hat := h.at0
  rcases l with _ | ⟨c, r⟩
  · have h1 := hide (one_none R at' fl w h)
    clear h
    go_enter Tryd.func67, Tryd.ntmps67
    go_wp2_with fail
    refine h1.out.mono ?_; rintro e w1 ⟨rfl, hg⟩
    exact ⟨rfl, Post.badI 0 32 rfl (by simp) hg⟩
  · have h1 := hide (one_some R c r at' fl w h)
    have hb := h.bd c List.mem_cons_self
    clear h
    by_cases hc : c ≤ 1
    · have HP := hide (show ptruth (c :: r) = .ok (decide (c = 1)) 1 from if_pos hc)
      go_enter Tryd.func67, Tryd.ntmps67
      go_wp2_with fail
      refine h1.out.mono ?_; rintro e w1 ⟨rfl, hl, hg⟩
      have HL := hide hl
      have HG := hide hg
      clear hl hg h1
      go_wp2_with fail
      refine (must_yes _ _).mono ?_; rintro e w2 ⟨rfl, rfl⟩
      go_wp2
      go_ret
      refine Post.okI _ 1 HP.out ?_ (by simp) (by simpa using HL.out) HG.out
      by_cases h1 : c = 1
      · subst h1; rfl
      · simp [h1]
    · have HP := hide (show ptruth (c :: r) = .bad 0 31 from if_neg hc)
      have hcd : decide (c ≤ 1) = false := decide_eq_false hc
      go_enter Tryd.func67, Tryd.ntmps67
      go_wp2_with fail
      refine h1.out.mono ?_; rintro e w1 ⟨rfl, hl, hg⟩
      have HL := hide hl
      have HG := hide hg
      clear hl hg h1
      go_wp2_with fail
      refine (must_bad R r (at' + 1) (by omega) fl _ HL.out).mono ?_; rintro e w2 ⟨rfl, rfl⟩
      exact ⟨rfl, Post.badI 0 31 HP.out (by simp) HG.out⟩

end Go.Proofs.YtmhcmlegdoapdaaDoor
