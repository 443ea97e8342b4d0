/- The document's reader: a byte, an int, of any bytes. -/
import Derived.Test.YtmhcmlegdoapdaaDoorRW
namespace Go.Proofs.YtmhcmlegdoapdaaDoor
open Go.RowKit

set_option maxHeartbeats 1000000 in
set_option maxRecDepth 100000 in
theorem rbyte_bad (Q sb : Nat) (L : List Int) (p : Nat) (e : Int) (he : e ≠ 0) (a b : Int) (w : World) (h : DR w Q sb L p e) :
    Calls Tryd.prog 59 #[.pointer (some ⟨Q, 0, none⟩), .int .u8 a, .int .u8 b] w fun r w' => r = .returned (.int .u8 0) ∧ w' = w := by
  have hn := hide (rnext_bad Q sb L p e he w h)
  clear h
  go_enter Tryd.func59, Tryd.ntmps59
  go_wp2_with fail
  refine hn.out.mono ?_; rintro r w1 ⟨rfl, rfl⟩
  go_wp2
  go_ret
  exact ⟨rfl, rfl⟩

/-- A byte from a to b. -/
def pbyte (a b : Int) : List Int → PR Int
  | [] => .bad 0 32
  | c :: _ => if a ≤ c ∧ c ≤ b then .ok c 1 else .bad 0 31

set_option maxHeartbeats 2000000 in
set_option maxRecDepth 100000 in
theorem rbyte_any (Q sb : Nat) (L : List Int) (p : Nat) (a b : Int) (w : World) (h : DR w Q sb L p 0) :
    Calls Tryd.prog 59 #[.pointer (some ⟨Q, 0, none⟩), .int .u8 a, .int .u8 b] w fun e w' => DPost w Q sb L p (fun x : Int => .int .u8 x) (.int .u8 0) (pbyte a b (L.drop p)) e w' := by
  have hple := h.le
  have hbd := hide h.bd
  by_cases hend : p = L.length
  · subst hend
    have hn := hide (rnext_end Q sb L w h)
    have HPE := hide (show pbyte a b (L.drop L.length) = .bad 0 32 from by rw [List.drop_length]; rfl)
    clear h
    go_enter Tryd.func59, Tryd.ntmps59
    go_wp2_with fail
    refine hn.out.mono ?_; rintro r w1 ⟨rfl, hd1, hg1⟩
    have HD1 := hide hd1
    have HG1 := hide hg1
    clear hd1 hg1
    go_wp2
    go_ret
    exact DPost.badI 0 32 HPE.out rfl HD1.out (by omega) HG1.out
  · have hlt : p < L.length := by omega
    have hdrop : L.drop p = L[p] :: L.drop (p + 1) := List.drop_eq_getElem_cons hlt
    have hn := rnext_ok Q sb L p hlt w h
    have HST := hide (show ∀ W, DR W Q sb L p 0 → DR (W.setCell ⟨Q, 1, none⟩ (.int .i64 ((p + 1 : Nat) : Int))) Q sb L (p + 1) 0 from fun W hW => hW.step hlt)
    have hcb := hbd.out _ (List.getElem_mem hlt)
    generalize L[p] = c at hdrop hn hcb
    replace hn := hide hn
    clear h hbd
    have hp9 : p ≤ 1000000000 := by omega
    by_cases h1 : a ≤ c ∧ c ≤ b
    · have HPE := hide (show pbyte a b (L.drop p) = .ok c 1 from by rw [hdrop]; exact if_pos h1)
      have hca : a ≤ c := h1.1
      have hcb2 : c ≤ b := h1.2
      have d1 : decide (c < a) = false := by simp; omega
      have d2 : decide (b < c) = false := by simp; omega
      clear hdrop h1
      go_enter Tryd.func59, Tryd.ntmps59
      go_wp2_with fail
      refine hn.out.mono ?_; rintro r w1 ⟨rfl, hd1, hg1⟩
      have HD1 := hide hd1
      have HG1 := hide hg1
      obtain ⟨a1, cap1, hI1, _⟩ := hd1
      have c1 : w1.cell? ⟨Q, 1, none⟩ = some (.int .i64 (p : Int)) := hI1.cell 1
      have f1 := hI1.free 1
      clear hg1 hn hI1
      go_wp2
      go_ret
      exact DPost.okI c 1 HPE.out rfl (by have := HST.out _ HD1.out; rw [Int.natCast_add] at this; exact this) (grown_trans HG1.out (grown_set _ _ _ _))
    · have HPE := hide (show pbyte a b (L.drop p) = .bad 0 31 from by rw [hdrop]; exact if_neg h1)
      clear hdrop
      by_cases hca : c < a
      · clear h1
        go_enter Tryd.func59, Tryd.ntmps59
        go_wp2_with fail
        refine hn.out.mono ?_; rintro r w1 ⟨rfl, hd1, hg1⟩
        have HD1 := hide hd1
        have HG1 := hide hg1
        obtain ⟨a1, cap1, hI1, _⟩ := hd1
        have c2 : w1.cell? ⟨Q, 2, none⟩ = some (.int .i64 0) := hI1.cell 2
        have f2 := hI1.free 2
        clear hg1 hn hI1
        go_wp2
        go_ret
        exact DPost.badI 0 31 HPE.out rfl (HD1.out.setE 31) (by omega) (grown_trans HG1.out (grown_set _ _ _ _))
      · have hcb2 : b < c := by omega
        clear h1
        go_enter Tryd.func59, Tryd.ntmps59
        go_wp2_with fail
        refine hn.out.mono ?_; rintro r w1 ⟨rfl, hd1, hg1⟩
        have HD1 := hide hd1
        have HG1 := hide hg1
        obtain ⟨a1, cap1, hI1, _⟩ := hd1
        have c2 : w1.cell? ⟨Q, 2, none⟩ = some (.int .i64 0) := hI1.cell 2
        have f2 := hI1.free 2
        clear hg1 hn hI1
        go_wp2
        go_ret
        exact DPost.badI 0 31 HPE.out rfl (HD1.out.setE 31) (by omega) (grown_trans HG1.out (grown_set _ _ _ _))

set_option maxHeartbeats 1000000 in
set_option maxRecDepth 100000 in
theorem rnumber_bad (Q sb : Nat) (L : List Int) (p : Nat) (e : Int) (he : e ≠ 0) (most : Int) (w : World) (h : DR w Q sb L p e) :
    Calls Tryd.prog 57 #[.pointer (some ⟨Q, 0, none⟩), .int .u64 most] w fun r w' => r = .returned (.int .u64 0) ∧ w' = w := by
  have hn := hide (rnext_bad Q sb L p e he w h)
  clear h
  go_enter Tryd.func57, Tryd.ntmps57
  go_wp2
  go_loopw [5, 6, 7] (fun x s i wr => x = .int .u64 0 ∧ s = .int .u64 1 ∧ i = .int .i64 0 ∧ wr = w) (fun _ _ _ _ => 0)
  case atStart => exact ⟨rfl, rfl, rfl, rfl⟩
  case round =>
    obtain ⟨rfl, rfl, rfl, rfl⟩ := hrel
    go_wp2_with fail
    refine hn.out.mono ?_; rintro r w1 ⟨rfl, rfl⟩
    go_wp2
    go_ret
    exact ⟨rfl, rfl⟩

theorem unf_w (x : Nat) (hx : x < 18446744073709551616) : IntKind.i64.wrap ((x / 2 : Nat) : Int) = ((x / 2 : Nat) : Int) := by rw [IntKind.wrap_i64]; omega

set_option maxHeartbeats 1000000 in
set_option maxRecDepth 100000 in
theorem rint_any (Q sb : Nat) (L : List Int) (p : Nat) (w : World) (h : DR w Q sb L p 0) :
    Calls Tryd.prog 58 #[.pointer (some ⟨Q, 0, none⟩)] w fun e w' => DPost w Q sb L p (fun x : Int => .int .i64 x) (.int .i64 0) (pwhole (L.drop p)) e w' := by
  have hn := hide (rnumber_max Q sb L p w h)
  have hbd := h.bd
  have HP : pwhole (L.drop p) = match pnum M64 0 0 (L.drop p) with
    | .ok x n => .ok (unf x) n
    | .bad i e => .bad i e := rfl
  clear h
  rcases hp : pnum M64 0 0 (L.drop p) with ⟨x, n⟩ | ⟨i, er⟩
  · rw [hp] at HP
    have hx : x < 18446744073709551616 := by have := (pnum_dec0 M64 (L.drop p) (mem_drop hbd p) x n hp).2.2; have e : M64 = 18446744073709551615 := rfl; omega
    replace hp := hide hp
    replace HP := hide HP
    have hw := unf_w x hx
    have hq : (x : Int) / 2 = ((x / 2 : Nat) : Int) := by omega
    have HU := hide (show unf x = if x % 2 = 1 then -((x / 2 : Nat) : Int) - 1 else ((x / 2 : Nat) : Int) from rfl)
    by_cases hm : x % 2 = 1
    · have hm' : (x : Int) % 2 = 1 := by omega
      have HU1 := hide (show unf x = -((x / 2 : Nat) : Int) - 1 from by rw [HU.out, if_pos hm])
      have hy : x / 2 ≤ 9223372036854775807 := by omega
      clear hm hbd HU
      generalize x / 2 = y at *
      go_enter Tryd.func58, Tryd.ntmps58
      go_wp2_with fail
      refine hn.out.mono ?_
      intro e w1 hE
      unfold DPost at hE
      rw [hp.out] at hE
      obtain ⟨⟨rfl, hd⟩, hg⟩ := hE
      have HD := hide hd
      have HG := hide hg
      clear hd hg hn
      go_wp2
      go_ret
      exact DPost.okI _ n HP.out (by rw [HU1.out]; rfl) HD.out HG.out
    · have hm' : (x : Int) % 2 = 0 := by omega
      have HU1 := hide (show unf x = ((x / 2 : Nat) : Int) from by rw [HU.out, if_neg hm])
      have hy : x / 2 ≤ 9223372036854775807 := by omega
      clear hm hbd HU
      generalize x / 2 = y at *
      go_enter Tryd.func58, Tryd.ntmps58
      go_wp2_with fail
      refine hn.out.mono ?_
      intro e w1 hE
      unfold DPost at hE
      rw [hp.out] at hE
      obtain ⟨⟨rfl, hd⟩, hg⟩ := hE
      have HD := hide hd
      have HG := hide hg
      clear hd hg hn
      go_wp2
      go_ret
      exact DPost.okI _ n HP.out (by rw [HU1.out]; rfl) HD.out HG.out
  · rw [hp] at HP
    replace hp := hide hp
    replace HP := hide HP
    clear hbd
    go_enter Tryd.func58, Tryd.ntmps58
    go_wp2_with fail
    refine hn.out.mono ?_
    intro e w1 hE
    unfold DPost at hE
    rw [hp.out] at hE
    obtain ⟨⟨rfl, hd, hne⟩, hg⟩ := hE
    have HD := hide hd
    have HG := hide hg
    clear hd hg hn
    go_wp2
    go_ret
    exact DPost.badI i er HP.out rfl HD.out hne HG.out

end Go.Proofs.YtmhcmlegdoapdaaDoor
