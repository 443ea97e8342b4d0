/- Package pack: keys and vectors that are put behind other bytes. -/
import Derived.Test.YtmhcmlegdoapdaaDoorQB
namespace Go.Proofs.YtmhcmlegdoapdaaDoor
open Go.RowKit

/-- A key's bytes. -/
def kyb (r n : Int) : List Int := r :: hb n (if r = 2 then 8 else 0)

set_option maxHeartbeats 2000000 in
set_option maxRecDepth 100000 in
theorem putKey_any (r : Int) (x : Int) (hr0 : 1 ≤ r) (hr3 : r ≤ 3) (base g n cap : Nat) (xs : List Int) (w : World)
    (hown : w.ownsRow base 5 1 (.slice (some ⟨g, 0, none⟩) n cap) n (u8s xs)) (hroom : n + (kyb r x).length ≤ cap) :
    Calls Tryd.prog 42 #[.slice (some ⟨g, 0, none⟩) n cap, (.agg #[.int .i64 (r), .int .u64 (x)])] w fun e w' => e = .returned (.slice (some ⟨g, 0, none⟩) (n + (kyb r x).length) cap) ∧ Put w w' base g n cap xs (kyb r x) := by
  have mixed : Tryd.prog.follows .mixedOrders = true := by kernel_rfl
  obtain ⟨i0, hi, hz0, hz1, hz2⟩ := info_parts Tryd.infoU8
  have hkl : (kyb r x).length = 1 + (if r = 2 then 8 else 0) := by simp [kyb, hb_len]; omega
  have HI := hide (IsB.new w #[.int .i64 r, .int .u64 x] 30)
  have hgl := (hown.lt g rfl).2
  have hown0 := hown.alloc (.cells #[.int .i64 r, .int .u64 x] 30)
  have HG := hide (World.grownBy_alloc w (.cells #[.int .i64 r, .int .u64 x] 30) (some g))
  clear hown
  go_enter Tryd.func42, Tryd.ntmps42
  go_wp2
  generalize w.alloc (.cells #[.int .i64 r, .int .u64 x] 30) = W0 at HI HG hown0 ⊢
  have a0 : W0.cell? ⟨w.heap.size, 0, none⟩ = some (.int .i64 r) := HI.out.cell 0
  have a1 : W0.cell? ⟨w.heap.size, 1, none⟩ = some (.int .u64 x) := HI.out.cell 1
  have hlt := HI.out.lt
  have hwp : IntKind.u8.wrap r = r := by rw [IntKind.wrap_u8]; omega
  have hne : g ≠ w.heap.size := by omega
  have hrb := fun w => rankBytes_any r w
  generalize hm : (if r = 2 then 8 else 0 : Int) = M at hrb
  obtain ⟨m, hmm, hm8, hml⟩ : ∃ m : Nat, M = (m : Int) ∧ m ≤ 8 ∧ kyb r x = r :: hb x m := by
    subst hm
    by_cases h2 : r = 2
    · exact ⟨8, by rw [if_pos h2]; rfl, by omega, by unfold kyb; rw [if_pos h2]⟩
    · exact ⟨0, by rw [if_neg h2]; rfl, by omega, by unfold kyb; rw [if_neg h2]⟩
  subst hmm
  have hlen : (kyb r x).length = m + 1 := by rw [hml, List.length_cons, hb_len]
  replace hrb := hide hrb
  have HML := hide hml
  clear hkl hm hml
  go_region_held3 (fun w' => w'.cell? ⟨w.heap.size, 0, none⟩ = some (.int .i64 r) ∧ w'.cell? ⟨w.heap.size, 1, none⟩ = some (.int .u64 x)) (first | (go_keep; done) | (go_split_ands; refine ⟨?_, ?_⟩ <;> (first | (rw [hput.2.cell_far _ hl1 (by simpa using Ne.symm hne)]; assumption) | (rw [hgrow.cell_far _ (by simp; omega) (by simpa using Ne.symm hne)]; assumption))))
    (first
      | (refine step_append_fits (by rfl) (.tmp 5) (.tmp 9) 25 (by rfl) base 5 i0 1 Tryd.underlying25 hi hz1 g n cap (u8s xs) (by rfl) (hown0.alloc _).drew ⟨W0.heap.size, 0, none⟩ 1 1 [.int .u8 r] (by rfl) rfl (cell_one_new _ _ _) (by intro u hu; simp at hu; subst hu; rfl) (by omega) ?_; intro w1 hown1 hgrow; have hl1 : w.heap.size < w1.heap.size := by have := hgrow.size; simp at this; omega)
      | (go_at_call 50; refine (hrb.out _).mono ?_; rintro e w' ⟨rfl, rfl⟩)
      | (go_at_call 62; refine (putHigh_any x m hm8 base g (n + 1) cap (xs ++ [r]) _ (by rw [u8s_app]; exact hown1) (by omega)).mono ?_; rintro e w' ⟨rfl, hput⟩))
  have hg1 := grown_trans HG.out (grown_trans (grown_of_gr (((Gr.refl W0).alloc (.cells #[.int .u8 r] 5)).drew) (some g)) hgrow)
  have hp1 : Put w _ base g n cap xs [r] := ⟨by rw [u8s_app]; exact hown1, hg1⟩
  have hp2 := hide (hp1.trans hput)
  clear hg1 hp1 hput hown1 hgrow
  go_wp2
  go_ret
  refine ⟨?_, ?_⟩
  · rw [hlen, show n + (m + 1) = n + 1 + m from by omega]; rfl
  · rw [HML.out]; exact hp2.out

/-- A vector's bytes. -/
def vb (l : Nat) (b : Int) : List Int := (l : Int) :: hb (b * 2 ^ (8 * ((l + 7) / 8) - l)) ((l + 7) / 8)

theorem wrap_i64 {x : Int} (h0 : -9223372036854775808 ≤ x) (h1 : x ≤ 9223372036854775807) : IntKind.i64.wrap x = x := by
  rw [IntKind.wrap_i64]; omega
theorem shl_in (b l m s : Nat) (hl : l ≤ 32) (hb2 : b < 2 ^ l) (hs : 8 * m = l + s) (hs8 : s < 8) : IntKind.u64.wrap ((b : Int) * 2 ^ s) = (b : Int) * 2 ^ s := by
  rw [IntKind.wrap_u64]
  have h1 : b * 2 ^ s < 2 ^ 40 := by
    calc b * 2 ^ s < 2 ^ l * 2 ^ s := Nat.mul_lt_mul_of_pos_right hb2 (Nat.two_pow_pos s)
      _ = 2 ^ (l + s) := (Nat.pow_add 2 l s).symm
      _ ≤ 2 ^ 40 := Nat.pow_le_pow_right (by omega) (by omega)
  have e : ((b : Int) * 2 ^ s) = ((b * 2 ^ s : Nat) : Int) := by rw [Int.natCast_mul, Int.natCast_pow]; rfl
  rw [e]
  omega

set_option maxHeartbeats 2000000 in
set_option maxRecDepth 100000 in
theorem putVector_in (L B E SS X : Int) (M s : Nat) (hL0 : 0 ≤ L) (hL : L ≤ 32) (hM : M ≤ 4) (hbb : ∀ w, Calls Tryd.prog 49 #[.int .i64 L] w fun e w' => e = .returned (.int .i64 (M : Int)) ∧ w' = w)
    (hw1 : IntKind.i64.wrap (8 * (M : Int)) = E) (hw2 : IntKind.i64.wrap (E - L) = SS) (hs : SS = (s : Int)) (hx : IntKind.u64.wrap (B * 2 ^ min s 64) = X)
    (base g n cap : Nat) (xs : List Int) (w : World)
    (hown : w.ownsRow base 5 1 (.slice (some ⟨g, 0, none⟩) n cap) n (u8s xs)) (hroom : n + (M + 1) ≤ cap) :
    Calls Tryd.prog 41 #[.slice (some ⟨g, 0, none⟩) n cap, (.agg #[.int .i64 (L), .int .u64 (B)])] w fun e w' => e = .returned (.slice (some ⟨g, 0, none⟩) (n + 1 + M) cap) ∧ Put w w' base g n cap xs ([L] ++ hb X M) := by
  have mixed : Tryd.prog.follows .mixedOrders = true := by kernel_rfl
  obtain ⟨i0, hi, hz0, hz1, hz2⟩ := info_parts Tryd.infoU8
  have HI := hide (IsB.new w #[.int .i64 L, .int .u64 B] 27)
  have hgl := (hown.lt g rfl).2
  have hown0 := hown.alloc (.cells #[.int .i64 L, .int .u64 B] 27)
  have HG := hide (World.grownBy_alloc w (.cells #[.int .i64 L, .int .u64 B] 27) (some g))
  clear hown
  replace hbb := hide hbb
  subst hs
  go_enter Tryd.func41, Tryd.ntmps41
  go_wp2_with fail
  refine (hbb.out _).mono ?_; rintro e w0 ⟨rfl, rfl⟩
  generalize w.alloc (.cells #[.int .i64 L, .int .u64 B] 27) = W0 at HI HG hown0 ⊢
  have a0 : W0.cell? ⟨w.heap.size, 0, none⟩ = some (.int .i64 L) := HI.out.cell 0
  have a1 : W0.cell? ⟨w.heap.size, 1, none⟩ = some (.int .u64 B) := HI.out.cell 1
  have hlt := HI.out.lt
  have hwp : IntKind.u8.wrap L = L := by rw [IntKind.wrap_u8]; omega
  have hne : g ≠ w.heap.size := by omega
  go_wp2
  go_region_held3 (fun w' => w'.cell? ⟨w.heap.size, 0, none⟩ = some (.int .i64 L) ∧ w'.cell? ⟨w.heap.size, 1, none⟩ = some (.int .u64 B)) (first | (go_keep; done) | (go_split_ands; refine ⟨?_, ?_⟩ <;> (first | (rw [hput.2.cell_far _ hl1 (by simpa using Ne.symm hne)]; assumption) | (rw [hgrow.cell_far _ (by simp; omega) (by simpa using Ne.symm hne)]; assumption))))
    (first
      | (refine step_append_fits (by rfl) (.tmp 9) (.tmp 13) 25 (by rfl) base 5 i0 1 Tryd.underlying25 hi hz1 g n cap (u8s xs) (by rfl) (hown0.alloc _).drew ⟨W0.heap.size, 0, none⟩ 1 1 [.int .u8 L] (by rfl) rfl (cell_one_new _ _ _) (by intro u hu; simp at hu; subst hu; rfl) (by omega) ?_; intro w1 hown1 hgrow; have hl1 : w.heap.size < w1.heap.size := by have := hgrow.size; simp at this; omega)
      | (go_at_call 62; refine (putHigh_any X M (by omega) base g (n + 1) cap (xs ++ [L]) _ (by rw [u8s_app]; exact hown1) (by omega)).mono ?_; rintro e w' ⟨rfl, hput⟩))
  have hg1 := grown_trans HG.out (grown_trans (grown_of_gr (((Gr.refl W0).alloc (.cells #[.int .u8 L] 5)).drew) (some g)) hgrow)
  have hp1 : Put w _ base g n cap xs [L] := ⟨by rw [u8s_app]; exact hown1, hg1⟩
  have hp2 := hide (hp1.trans hput)
  clear hg1 hp1 hput hown1 hgrow
  go_wp2
  go_ret
  exact ⟨rfl, hp2.out⟩

theorem putVector_any (l b : Nat) (hl : l ≤ 32) (hb2 : b < 2 ^ l) (base g n cap : Nat) (xs : List Int) (w : World)
    (hown : w.ownsRow base 5 1 (.slice (some ⟨g, 0, none⟩) n cap) n (u8s xs)) (hroom : n + (vb l b).length ≤ cap) :
    Calls Tryd.prog 41 #[.slice (some ⟨g, 0, none⟩) n cap, (.agg #[.int .i64 ((l : Int)), .int .u64 ((b : Int))])] w fun e w' => e = .returned (.slice (some ⟨g, 0, none⟩) (n + (vb l b).length) cap) ∧ Put w w' base g n cap xs (vb l b) := by
  have hlen : (vb l b).length = (l + 7) / 8 + 1 := by simp [vb, hb_len]
  have hm : min (8 * ((l + 7) / 8) - l) 64 = 8 * ((l + 7) / 8) - l := by omega
  have h := putVector_in (l : Int) (b : Int) (8 * (((l + 7) / 8 : Nat) : Int)) ((8 * ((l + 7) / 8) - l : Nat) : Int) ((b : Int) * 2 ^ (8 * ((l + 7) / 8) - l)) ((l + 7) / 8) (8 * ((l + 7) / 8) - l) (by omega) (by omega) (by omega) (fun w => bitBytes_any l (by omega) w)
    (by rw [wrap_i64 (by omega) (by omega)]) (by rw [wrap_i64 (by omega) (by omega)]; omega) rfl (by rw [hm]; exact shl_in b l ((l + 7) / 8) _ hl hb2 (by omega) (by omega)) base g n cap xs w hown (by omega)
  rw [hlen, show n + ((l + 7) / 8 + 1) = n + 1 + (l + 7) / 8 from by omega]
  exact h

end Go.Proofs.YtmhcmlegdoapdaaDoor
