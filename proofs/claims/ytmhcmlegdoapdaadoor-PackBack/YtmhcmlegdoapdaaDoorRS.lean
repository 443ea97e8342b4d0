/- Package pack: numbers, truths and references are put behind other bytes. -/
import Derived.Test.YtmhcmlegdoapdaaDoorQF
import Derived.Test.YtmhcmlegdoapdaaDoorQH
import Derived.Test.YtmhcmlegdoapdaaDoorQI
namespace Go.Proofs.YtmhcmlegdoapdaaDoor
open Go.RowKit

/-- A truth's byte. -/
def tb (t : Bool) : List Int := [if t then 1 else 0]

set_option maxHeartbeats 1000000 in
set_option maxRecDepth 100000 in
theorem putTruth_any (t : Bool) (base g n cap : Nat) (xs : List Int) (w : World)
    (hown : w.ownsRow base 5 1 (.slice (some ⟨g, 0, none⟩) n cap) n (u8s xs)) (hroom : n + (tb t).length ≤ cap) :
    Calls Tryd.prog 40 #[.slice (some ⟨g, 0, none⟩) n cap, .bool t] w fun e w' => e = .returned (.slice (some ⟨g, 0, none⟩) (n + (tb t).length) cap) ∧ Put w w' base g n cap xs (tb t) := by
  obtain ⟨i0, hi, hz0, hz1, hz2⟩ := info_parts Tryd.infoU8
  have hr : n + 1 ≤ cap := hroom
  cases t
  · go_enter Tryd.func40, Tryd.ntmps40
    go_wp2_with (at_builtin; refine wpList_append_fits _ rfl (.tmp 9) (.tmp 10) 25 rfl base 5 i0 1 Tryd.underlying25 hi hz1 g n cap _ rfl (hown.alloc _) ⟨w.heap.size, 0, none⟩ 1 1 [.int .u8 0] rfl rfl (cell_one_new _ _ _) (by intro u hu; simp at hu; subst hu; rfl) (by omega) ?_; intro w4 hown4 hgrow4)
    have HO := hide hown4
    have HG := hide (grown_trans (World.grownBy_alloc w (.cells #[.int .u8 0] 5) (some g)) hgrow4)
    clear hown4 hgrow4
    go_wp2
    go_ret
    exact ⟨rfl, by rw [u8s_app]; exact HO.out, HG.out⟩
  · go_enter Tryd.func40, Tryd.ntmps40
    go_wp2_with (at_builtin; refine wpList_append_fits _ rfl (.tmp 6) (.tmp 7) 25 rfl base 5 i0 1 Tryd.underlying25 hi hz1 g n cap _ rfl (hown.alloc _) ⟨w.heap.size, 0, none⟩ 1 1 [.int .u8 1] rfl rfl (cell_one_new _ _ _) (by intro u hu; simp at hu; subst hu; rfl) (by omega) ?_; intro w4 hown4 hgrow4)
    have HO := hide hown4
    have HG := hide (grown_trans (World.grownBy_alloc w (.cells #[.int .u8 1] 5) (some g)) hgrow4)
    clear hown4 hgrow4
    go_wp2
    go_ret
    exact ⟨rfl, by rw [u8s_app]; exact HO.out, HG.out⟩

set_option maxHeartbeats 2000000 in
set_option maxRecDepth 100000 in
theorem putRef_any (i r x : Int) (l b : Nat) (hi0 : -9223372036854775808 ≤ i) (hi1 : i ≤ 9223372036854775807) (hr0 : 1 ≤ r) (hr3 : r ≤ 3) (hl : l ≤ 32) (hb2 : b < 2 ^ l) (base g n cap : Nat) (xs : List Int) (w : World)
    (hown : w.ownsRow base 5 1 (.slice (some ⟨g, 0, none⟩) n cap) n (u8s xs)) (hroom : n + (nb (fold i) ++ (kyb r x ++ vb l b)).length ≤ cap) :
    Calls Tryd.prog 43 #[.slice (some ⟨g, 0, none⟩) n cap, .agg #[.int .i64 i, .int .i64 r, .int .u64 x, .int .i64 (l : Int), .int .u64 (b : Int)]] w fun e w' => e = .returned (.slice (some ⟨g, 0, none⟩) (n + (nb (fold i) ++ (kyb r x ++ vb l b)).length) cap) ∧ Put w w' base g n cap xs (nb (fold i) ++ (kyb r x ++ vb l b)) := by
  rw [List.length_append, List.length_append] at hroom
  have hf := hide (fun w => folded_any i hi0 hi1 w)
  have HI := hide (IsB.new w #[.int .i64 i, .int .i64 r, .int .u64 x, .int .i64 (l : Int), .int .u64 (b : Int)] 32)
  have hgl := (hown.lt g rfl).2
  have hown0 := hown.alloc (.cells #[.int .i64 i, .int .i64 r, .int .u64 x, .int .i64 (l : Int), .int .u64 (b : Int)] 32)
  have HG := hide (World.grownBy_alloc w (.cells #[.int .i64 i, .int .i64 r, .int .u64 x, .int .i64 (l : Int), .int .u64 (b : Int)] 32) (some g))
  have hlt := HI.out.lt
  clear hown
  go_enter Tryd.func43, Tryd.ntmps43
  go_wp2_with fail
  generalize w.alloc (.cells #[.int .i64 i, .int .i64 r, .int .u64 x, .int .i64 (l : Int), .int .u64 (b : Int)] 32) = W0 at HI HG hown0 hlt ⊢
  have a0 : W0.cell? ⟨w.heap.size, 0, none⟩ = some (.int .i64 i) := HI.out.cell 0
  refine (hf.out _).mono ?_; rintro e w1 ⟨rfl, rfl⟩
  go_wp2_with fail
  refine (putNumber_any (fold i) (fold_lt i hi0 hi1) base g n cap xs _ hown0 (by omega)).mono ?_; rintro e w2 ⟨rfl, hput⟩
  have HI2 := hide (HI.out.grown hput.2 (by intro h; simp only [Option.some.injEq] at h; omega))
  have HP1 := hide (show Put w w2 base g n cap xs (nb (fold i)) from ⟨hput.1, grown_trans HG.out hput.2⟩)
  clear hput a0 HI HG hown0
  have a1 : w2.cell? ⟨w.heap.size, 1, none⟩ = some (.int .i64 r) := HI2.out.cell 1
  have a2 : w2.cell? ⟨w.heap.size, 2, none⟩ = some (.int .u64 x) := HI2.out.cell 2
  have hlt2 := HI2.out.lt
  go_wp2_with fail
  refine (putKey_any r x hr0 hr3 base g (n + (nb (fold i)).length) cap (xs ++ nb (fold i)) _ HP1.out.1 (by omega)).mono ?_; rintro e w3 ⟨rfl, hput⟩
  have HI3 := hide (HI2.out.grown hput.2 (by intro h; simp only [Option.some.injEq] at h; omega))
  have HP2 := hide (HP1.out.trans hput)
  have HO2 := hide hput.1
  clear hput a1 a2 HI2 HP1
  have a3 : w3.cell? ⟨w.heap.size, 3, none⟩ = some (.int .i64 (l : Int)) := HI3.out.cell 3
  have a4 : w3.cell? ⟨w.heap.size, 4, none⟩ = some (.int .u64 (b : Int)) := HI3.out.cell 4
  go_wp2_with fail
  refine (putVector_any l b hl hb2 base g (n + (nb (fold i)).length + (kyb r x).length) cap (xs ++ nb (fold i) ++ kyb r x) _ HO2.out (by omega)).mono ?_; rintro e w4 ⟨rfl, hput⟩
  have h2 : Put w3 w4 base g (n + (nb (fold i) ++ kyb r x).length) cap (xs ++ (nb (fold i) ++ kyb r x)) (vb l b) := by
    rw [List.length_append, ← Nat.add_assoc, ← List.append_assoc]; exact hput
  have HP3 := HP2.out.trans h2
  rw [List.append_assoc] at HP3
  replace HP3 := hide HP3
  clear hput h2 a3 a4 HI3 HP2 HO2
  go_wp2
  go_ret
  exact ⟨by rw [List.length_append, List.length_append, ← Nat.add_assoc, ← Nat.add_assoc]; rfl, HP3.out⟩

set_option maxHeartbeats 4000000 in
set_option maxRecDepth 100000 in
theorem refSize_any (i r x : Int) (l b : Nat) (hi0 : -9223372036854775808 ≤ i) (hi1 : i ≤ 9223372036854775807) (hl : l ≤ 32) (w : World) :
    Calls Tryd.prog 51 #[.agg #[.int .i64 i, .int .i64 r, .int .u64 x, .int .i64 (l : Int), .int .u64 (b : Int)]] w fun e w' => e = .returned (.int .i64 ((nb (fold i) ++ (kyb r x ++ vb l b)).length : Int)) ∧ Gr w w' := by
  have mixed : Tryd.prog.follows .mixedOrders = true := by kernel_rfl
  have hf := hide (fun w => folded_any i hi0 hi1 w)
  have hs := hide (fun w => numberSize_any (fold i) (fold_lt i hi0 hi1) w)
  have hbb := hide (fun w => bitBytes_any l (by omega) w)
  have hrb := hide (fun w => rankBytes_any r w)
  obtain ⟨m, hm8, hm, hlen⟩ : ∃ m : Nat, m ≤ 8 ∧ (if r = 2 then 8 else 0 : Int) = (m : Int) ∧ (kyb r x).length = m + 1 := by
    by_cases h2 : r = 2
    · exact ⟨8, by omega, by rw [if_pos h2]; rfl, by unfold kyb; rw [if_pos h2, List.length_cons, hb_len]⟩
    · exact ⟨0, by omega, by rw [if_neg h2]; rfl, by unfold kyb; rw [if_neg h2, List.length_cons, hb_len]⟩
  have hlv : (vb l b).length = (l + 7) / 8 + 1 := by simp [vb, hb_len]
  have hq : (l + 7) / 8 ≤ 4 := by omega
  rw [hm] at hrb
  have HLEN := hide (show (nb (fold i) ++ (kyb r x ++ vb l b)).length = (nb (fold i)).length + 1 + m + 1 + (l + 7) / 8 from by rw [List.length_append, List.length_append, hlen, hlv]; omega)
  have hnl : (nb (fold i)).length ≤ 100 := by
    have h64 := fold_lt i hi0 hi1
    rcases Nat.eq_zero_or_pos (fold i) with h' | h'
    · rw [h', nb_small (by omega)]; simp
    · have a := Nat.log2_self_le (n := fold i) (by omega)
      have b := Nat.lt_log2_self (n := fold i)
      generalize Nat.log2 (fold i) = k at a b
      have hk : k < 64 := by
        rcases Nat.lt_or_ge k 64 with h' | h'
        · exact h'
        · have := Nat.pow_le_pow_right (n := 2) (by omega) h'; omega
      rw [nb_pow k _ a b]; omega
  generalize (nb (fold i)).length = NL at hs HLEN hnl
  generalize (l + 7) / 8 = Q at hbb HLEN hq
  clear hm hlen hlv
  rw [HLEN.out]
  clear HLEN
  have w1' : IntKind.i64.wrap ((NL : Int) + 1) = (NL : Int) + 1 := by rw [IntKind.wrap_i64]; omega
  have w2' : IntKind.i64.wrap ((NL : Int) + 1 + (m : Int)) = (NL : Int) + 1 + (m : Int) := by rw [IntKind.wrap_i64]; omega
  have w3' : IntKind.i64.wrap ((NL : Int) + 1 + (m : Int) + 1) = (NL : Int) + 1 + (m : Int) + 1 := by rw [IntKind.wrap_i64]; omega
  have w4' : IntKind.i64.wrap ((NL : Int) + 1 + (m : Int) + 1 + (Q : Int)) = (NL : Int) + 1 + (m : Int) + 1 + (Q : Int) := by rw [IntKind.wrap_i64]; omega
  have HI := hide (IsB.new w #[.int .i64 i, .int .i64 r, .int .u64 x, .int .i64 (l : Int), .int .u64 (b : Int)] 32)
  have HG := hide (show Gr w (w.alloc (.cells #[.int .i64 i, .int .i64 r, .int .u64 x, .int .i64 (l : Int), .int .u64 (b : Int)] 32)) from (Gr.refl w).alloc _)
  go_enter Tryd.func51, Tryd.ntmps51
  go_wp2
  generalize w.alloc (.cells #[.int .i64 i, .int .i64 r, .int .u64 x, .int .i64 (l : Int), .int .u64 (b : Int)] 32) = W0 at HI HG ⊢
  have a0 : W0.cell? ⟨w.heap.size, 0, none⟩ = some (.int .i64 i) := HI.out.cell 0
  have a1 : W0.cell? ⟨w.heap.size, 1, none⟩ = some (.int .i64 r) := HI.out.cell 1
  have a3 : W0.cell? ⟨w.heap.size, 3, none⟩ = some (.int .i64 (l : Int)) := HI.out.cell 3
  go_region_held3 (fun w' => w' = W0.drew) (first | rfl | assumption)
    (first
      | (go_at_call 38; refine (hf.out _).mono ?_; rintro e w1 ⟨rfl, rfl⟩)
      | (go_at_call 48; refine (hs.out _).mono ?_; rintro e w1 ⟨rfl, rfl⟩)
      | (go_at_call 50; refine (hrb.out _).mono ?_; rintro e w1 ⟨rfl, rfl⟩)
      | (go_at_call 49; refine (hbb.out _).mono ?_; rintro e w1 ⟨rfl, rfl⟩))
  all_goals clear a0 a1 a3
  all_goals go_wp2
  all_goals go_ret
  all_goals exact ⟨by simp, HG.out.drew⟩

set_option maxHeartbeats 2000000 in
set_option maxRecDepth 100000 in
theorem putField_num (m : Nat) (hm : m < 18446744073709551616) (base g n cap : Nat) (xs : List Int) (w : World)
    (hown : w.ownsRow base 5 1 (.slice (some ⟨g, 0, none⟩) n cap) n (u8s xs)) (hroom : n + (nb m).length ≤ cap) :
    Calls Tryd.prog 26 #[.slice (some ⟨g, 0, none⟩) n cap, .agg #[.int .i64 1, .int .u64 (m : Int), .int .i64 0, .bool false, .slice none 0 0, .int .i64 0, .int .u64 0, .int .i64 0, .int .u64 0, .int .i64 0, .int .i64 0, .int .u64 0, .int .i64 0, .int .u64 0]] w fun e w' => e = .returned (.slice (some ⟨g, 0, none⟩) (n + (nb m).length) cap) ∧ Put w w' base g n cap xs (nb m) := by
  have HI := hide (IsB.new w #[.int .i64 1, .int .u64 (m : Int), .int .i64 0, .bool false, .slice none 0 0, .int .i64 0, .int .u64 0, .int .i64 0, .int .u64 0, .int .i64 0, .int .i64 0, .int .u64 0, .int .i64 0, .int .u64 0] 34)
  have hown0 := hown.alloc (.cells #[.int .i64 1, .int .u64 (m : Int), .int .i64 0, .bool false, .slice none 0 0, .int .i64 0, .int .u64 0, .int .i64 0, .int .u64 0, .int .i64 0, .int .i64 0, .int .u64 0, .int .i64 0, .int .u64 0] 34)
  have HG := hide (World.grownBy_alloc w (.cells #[.int .i64 1, .int .u64 (m : Int), .int .i64 0, .bool false, .slice none 0 0, .int .i64 0, .int .u64 0, .int .i64 0, .int .u64 0, .int .i64 0, .int .i64 0, .int .u64 0, .int .i64 0, .int .u64 0] 34) (some g))
  clear hown
  go_enter Tryd.func26, Tryd.ntmps26
  go_wp2_with fail
  generalize w.alloc (.cells #[.int .i64 1, .int .u64 (m : Int), .int .i64 0, .bool false, .slice none 0 0, .int .i64 0, .int .u64 0, .int .i64 0, .int .u64 0, .int .i64 0, .int .i64 0, .int .u64 0, .int .i64 0, .int .u64 0] 34) = W0 at HI HG hown0 ⊢
  have a0 : W0.cell? ⟨w.heap.size, 0, none⟩ = some (.int .i64 1) := HI.out.cell 0
  have a1 : W0.cell? ⟨w.heap.size, 1, none⟩ = some (.int .u64 (m : Int)) := HI.out.cell 1
  have a2 : W0.cell? ⟨w.heap.size, 2, none⟩ = some (.int .i64 0) := HI.out.cell 2
  have a3 : W0.cell? ⟨w.heap.size, 3, none⟩ = some (.bool false) := HI.out.cell 3
  have a4 : W0.cell? ⟨w.heap.size, 4, none⟩ = some (.slice none 0 0) := HI.out.cell 4
  have a5 : W0.cell? ⟨w.heap.size, 5, none⟩ = some (.int .i64 0) := HI.out.cell 5
  have a6 : W0.cell? ⟨w.heap.size, 6, none⟩ = some (.int .u64 0) := HI.out.cell 6
  have a7 : W0.cell? ⟨w.heap.size, 7, none⟩ = some (.int .i64 0) := HI.out.cell 7
  have a8 : W0.cell? ⟨w.heap.size, 8, none⟩ = some (.int .u64 0) := HI.out.cell 8
  have a9 : W0.cell? ⟨w.heap.size, 9, none⟩ = some (.int .i64 0) := HI.out.cell 9
  have a10 : W0.cell? ⟨w.heap.size, 10, none⟩ = some (.int .i64 0) := HI.out.cell 10
  have a11 : W0.cell? ⟨w.heap.size, 11, none⟩ = some (.int .u64 0) := HI.out.cell 11
  have a12 : W0.cell? ⟨w.heap.size, 12, none⟩ = some (.int .i64 0) := HI.out.cell 12
  have a13 : W0.cell? ⟨w.heap.size, 13, none⟩ = some (.int .u64 0) := HI.out.cell 13
  go_wp2_with fail
  refine (putNumber_any m hm base g n cap xs _ hown0 hroom).mono ?_; rintro e w2 ⟨rfl, hput⟩
  have hp := hide (show Put w _ base g n cap xs (nb m) from ⟨hput.1, grown_trans HG.out hput.2⟩)
  clear hput a0 a1 a2 a3 a4 a5 a6 a7 a8 a9 a10 a11 a12 a13
  go_wp2
  go_ret
  exact ⟨rfl, hp.out⟩

set_option maxHeartbeats 2000000 in
set_option maxRecDepth 100000 in
theorem putField_truth (t : Bool) (base g n cap : Nat) (xs : List Int) (w : World)
    (hown : w.ownsRow base 5 1 (.slice (some ⟨g, 0, none⟩) n cap) n (u8s xs)) (hroom : n + (tb t).length ≤ cap) :
    Calls Tryd.prog 26 #[.slice (some ⟨g, 0, none⟩) n cap, .agg #[.int .i64 3, .int .u64 0, .int .i64 0, .bool t, .slice none 0 0, .int .i64 0, .int .u64 0, .int .i64 0, .int .u64 0, .int .i64 0, .int .i64 0, .int .u64 0, .int .i64 0, .int .u64 0]] w fun e w' => e = .returned (.slice (some ⟨g, 0, none⟩) (n + (tb t).length) cap) ∧ Put w w' base g n cap xs (tb t) := by
  have HI := hide (IsB.new w #[.int .i64 3, .int .u64 0, .int .i64 0, .bool t, .slice none 0 0, .int .i64 0, .int .u64 0, .int .i64 0, .int .u64 0, .int .i64 0, .int .i64 0, .int .u64 0, .int .i64 0, .int .u64 0] 34)
  have hown0 := hown.alloc (.cells #[.int .i64 3, .int .u64 0, .int .i64 0, .bool t, .slice none 0 0, .int .i64 0, .int .u64 0, .int .i64 0, .int .u64 0, .int .i64 0, .int .i64 0, .int .u64 0, .int .i64 0, .int .u64 0] 34)
  have HG := hide (World.grownBy_alloc w (.cells #[.int .i64 3, .int .u64 0, .int .i64 0, .bool t, .slice none 0 0, .int .i64 0, .int .u64 0, .int .i64 0, .int .u64 0, .int .i64 0, .int .i64 0, .int .u64 0, .int .i64 0, .int .u64 0] 34) (some g))
  clear hown
  go_enter Tryd.func26, Tryd.ntmps26
  go_wp2_with fail
  generalize w.alloc (.cells #[.int .i64 3, .int .u64 0, .int .i64 0, .bool t, .slice none 0 0, .int .i64 0, .int .u64 0, .int .i64 0, .int .u64 0, .int .i64 0, .int .i64 0, .int .u64 0, .int .i64 0, .int .u64 0] 34) = W0 at HI HG hown0 ⊢
  have a0 : W0.cell? ⟨w.heap.size, 0, none⟩ = some (.int .i64 3) := HI.out.cell 0
  have a1 : W0.cell? ⟨w.heap.size, 1, none⟩ = some (.int .u64 0) := HI.out.cell 1
  have a2 : W0.cell? ⟨w.heap.size, 2, none⟩ = some (.int .i64 0) := HI.out.cell 2
  have a3 : W0.cell? ⟨w.heap.size, 3, none⟩ = some (.bool t) := HI.out.cell 3
  have a4 : W0.cell? ⟨w.heap.size, 4, none⟩ = some (.slice none 0 0) := HI.out.cell 4
  have a5 : W0.cell? ⟨w.heap.size, 5, none⟩ = some (.int .i64 0) := HI.out.cell 5
  have a6 : W0.cell? ⟨w.heap.size, 6, none⟩ = some (.int .u64 0) := HI.out.cell 6
  have a7 : W0.cell? ⟨w.heap.size, 7, none⟩ = some (.int .i64 0) := HI.out.cell 7
  have a8 : W0.cell? ⟨w.heap.size, 8, none⟩ = some (.int .u64 0) := HI.out.cell 8
  have a9 : W0.cell? ⟨w.heap.size, 9, none⟩ = some (.int .i64 0) := HI.out.cell 9
  have a10 : W0.cell? ⟨w.heap.size, 10, none⟩ = some (.int .i64 0) := HI.out.cell 10
  have a11 : W0.cell? ⟨w.heap.size, 11, none⟩ = some (.int .u64 0) := HI.out.cell 11
  have a12 : W0.cell? ⟨w.heap.size, 12, none⟩ = some (.int .i64 0) := HI.out.cell 12
  have a13 : W0.cell? ⟨w.heap.size, 13, none⟩ = some (.int .u64 0) := HI.out.cell 13
  go_wp2_with fail
  refine (putTruth_any t base g n cap xs _ hown0 hroom).mono ?_; rintro e w2 ⟨rfl, hput⟩
  have hp := hide (show Put w _ base g n cap xs (tb t) from ⟨hput.1, grown_trans HG.out hput.2⟩)
  clear hput a0 a1 a2 a3 a4 a5 a6 a7 a8 a9 a10 a11 a12 a13
  go_wp2
  go_ret
  exact ⟨rfl, hp.out⟩

set_option maxHeartbeats 2000000 in
set_option maxRecDepth 100000 in
theorem putField_ref (i r x : Int) (l b : Nat) (hi0 : -9223372036854775808 ≤ i) (hi1 : i ≤ 9223372036854775807) (hr0 : 1 ≤ r) (hr3 : r ≤ 3) (hl : l ≤ 32) (hb2 : b < 2 ^ l) (base g n cap : Nat) (xs : List Int) (w : World)
    (hown : w.ownsRow base 5 1 (.slice (some ⟨g, 0, none⟩) n cap) n (u8s xs)) (hroom : n + (nb (fold i) ++ (kyb r x ++ vb l b)).length ≤ cap) :
    Calls Tryd.prog 26 #[.slice (some ⟨g, 0, none⟩) n cap, .agg #[.int .i64 7, .int .u64 0, .int .i64 0, .bool false, .slice none 0 0, .int .i64 0, .int .u64 0, .int .i64 0, .int .u64 0, .int .i64 i, .int .i64 r, .int .u64 x, .int .i64 (l : Int), .int .u64 (b : Int)]] w fun e w' => e = .returned (.slice (some ⟨g, 0, none⟩) (n + (nb (fold i) ++ (kyb r x ++ vb l b)).length) cap) ∧ Put w w' base g n cap xs (nb (fold i) ++ (kyb r x ++ vb l b)) := by
  have HI := hide (IsB.new w #[.int .i64 7, .int .u64 0, .int .i64 0, .bool false, .slice none 0 0, .int .i64 0, .int .u64 0, .int .i64 0, .int .u64 0, .int .i64 i, .int .i64 r, .int .u64 x, .int .i64 (l : Int), .int .u64 (b : Int)] 34)
  have hown0 := hown.alloc (.cells #[.int .i64 7, .int .u64 0, .int .i64 0, .bool false, .slice none 0 0, .int .i64 0, .int .u64 0, .int .i64 0, .int .u64 0, .int .i64 i, .int .i64 r, .int .u64 x, .int .i64 (l : Int), .int .u64 (b : Int)] 34)
  have HG := hide (World.grownBy_alloc w (.cells #[.int .i64 7, .int .u64 0, .int .i64 0, .bool false, .slice none 0 0, .int .i64 0, .int .u64 0, .int .i64 0, .int .u64 0, .int .i64 i, .int .i64 r, .int .u64 x, .int .i64 (l : Int), .int .u64 (b : Int)] 34) (some g))
  clear hown
  go_enter Tryd.func26, Tryd.ntmps26
  go_wp2_with fail
  generalize w.alloc (.cells #[.int .i64 7, .int .u64 0, .int .i64 0, .bool false, .slice none 0 0, .int .i64 0, .int .u64 0, .int .i64 0, .int .u64 0, .int .i64 i, .int .i64 r, .int .u64 x, .int .i64 (l : Int), .int .u64 (b : Int)] 34) = W0 at HI HG hown0 ⊢
  have a0 : W0.cell? ⟨w.heap.size, 0, none⟩ = some (.int .i64 7) := HI.out.cell 0
  have a1 : W0.cell? ⟨w.heap.size, 1, none⟩ = some (.int .u64 0) := HI.out.cell 1
  have a2 : W0.cell? ⟨w.heap.size, 2, none⟩ = some (.int .i64 0) := HI.out.cell 2
  have a3 : W0.cell? ⟨w.heap.size, 3, none⟩ = some (.bool false) := HI.out.cell 3
  have a4 : W0.cell? ⟨w.heap.size, 4, none⟩ = some (.slice none 0 0) := HI.out.cell 4
  have a5 : W0.cell? ⟨w.heap.size, 5, none⟩ = some (.int .i64 0) := HI.out.cell 5
  have a6 : W0.cell? ⟨w.heap.size, 6, none⟩ = some (.int .u64 0) := HI.out.cell 6
  have a7 : W0.cell? ⟨w.heap.size, 7, none⟩ = some (.int .i64 0) := HI.out.cell 7
  have a8 : W0.cell? ⟨w.heap.size, 8, none⟩ = some (.int .u64 0) := HI.out.cell 8
  have a9 : W0.cell? ⟨w.heap.size, 9, none⟩ = some (.int .i64 i) := HI.out.cell 9
  have a10 : W0.cell? ⟨w.heap.size, 10, none⟩ = some (.int .i64 r) := HI.out.cell 10
  have a11 : W0.cell? ⟨w.heap.size, 11, none⟩ = some (.int .u64 x) := HI.out.cell 11
  have a12 : W0.cell? ⟨w.heap.size, 12, none⟩ = some (.int .i64 (l : Int)) := HI.out.cell 12
  have a13 : W0.cell? ⟨w.heap.size, 13, none⟩ = some (.int .u64 (b : Int)) := HI.out.cell 13
  go_wp2_with fail
  refine (putRef_any i r x l b hi0 hi1 hr0 hr3 hl hb2 base g n cap xs _ hown0 hroom).mono ?_; rintro e w2 ⟨rfl, hput⟩
  have hp := hide (show Put w _ base g n cap xs (nb (fold i) ++ (kyb r x ++ vb l b)) from ⟨hput.1, grown_trans HG.out hput.2⟩)
  clear hput a0 a1 a2 a3 a4 a5 a6 a7 a8 a9 a10 a11 a12 a13
  go_wp2
  go_ret
  exact ⟨by rw [List.length_append, List.length_append]; rfl, hp.out⟩

set_option maxHeartbeats 2000000 in
set_option maxRecDepth 100000 in
theorem fieldSize_num (m : Nat) (hm : m < 18446744073709551616) (w : World) :
    Calls Tryd.prog 28 #[.agg #[.int .i64 1, .int .u64 (m : Int), .int .i64 0, .bool false, .slice none 0 0, .int .i64 0, .int .u64 0, .int .i64 0, .int .u64 0, .int .i64 0, .int .i64 0, .int .u64 0, .int .i64 0, .int .u64 0]] w fun e w' => e = .returned (.int .i64 ((nb m).length : Int)) ∧ Gr w w' := by
  have HI := hide (IsB.new w #[.int .i64 1, .int .u64 (m : Int), .int .i64 0, .bool false, .slice none 0 0, .int .i64 0, .int .u64 0, .int .i64 0, .int .u64 0, .int .i64 0, .int .i64 0, .int .u64 0, .int .i64 0, .int .u64 0] 34)
  have HG := hide (show Gr w (w.alloc (.cells #[.int .i64 1, .int .u64 (m : Int), .int .i64 0, .bool false, .slice none 0 0, .int .i64 0, .int .u64 0, .int .i64 0, .int .u64 0, .int .i64 0, .int .i64 0, .int .u64 0, .int .i64 0, .int .u64 0] 34)) from (Gr.refl w).alloc _)
  go_enter Tryd.func28, Tryd.ntmps28
  go_wp2_with fail
  generalize w.alloc (.cells #[.int .i64 1, .int .u64 (m : Int), .int .i64 0, .bool false, .slice none 0 0, .int .i64 0, .int .u64 0, .int .i64 0, .int .u64 0, .int .i64 0, .int .i64 0, .int .u64 0, .int .i64 0, .int .u64 0] 34) = W0 at HI HG ⊢
  have a0 : W0.cell? ⟨w.heap.size, 0, none⟩ = some (.int .i64 1) := HI.out.cell 0
  have a1 : W0.cell? ⟨w.heap.size, 1, none⟩ = some (.int .u64 (m : Int)) := HI.out.cell 1
  have a2 : W0.cell? ⟨w.heap.size, 2, none⟩ = some (.int .i64 0) := HI.out.cell 2
  have a3 : W0.cell? ⟨w.heap.size, 3, none⟩ = some (.bool false) := HI.out.cell 3
  have a4 : W0.cell? ⟨w.heap.size, 4, none⟩ = some (.slice none 0 0) := HI.out.cell 4
  have a5 : W0.cell? ⟨w.heap.size, 5, none⟩ = some (.int .i64 0) := HI.out.cell 5
  have a6 : W0.cell? ⟨w.heap.size, 6, none⟩ = some (.int .u64 0) := HI.out.cell 6
  have a7 : W0.cell? ⟨w.heap.size, 7, none⟩ = some (.int .i64 0) := HI.out.cell 7
  have a8 : W0.cell? ⟨w.heap.size, 8, none⟩ = some (.int .u64 0) := HI.out.cell 8
  have a9 : W0.cell? ⟨w.heap.size, 9, none⟩ = some (.int .i64 0) := HI.out.cell 9
  have a10 : W0.cell? ⟨w.heap.size, 10, none⟩ = some (.int .i64 0) := HI.out.cell 10
  have a11 : W0.cell? ⟨w.heap.size, 11, none⟩ = some (.int .u64 0) := HI.out.cell 11
  have a12 : W0.cell? ⟨w.heap.size, 12, none⟩ = some (.int .i64 0) := HI.out.cell 12
  have a13 : W0.cell? ⟨w.heap.size, 13, none⟩ = some (.int .u64 0) := HI.out.cell 13
  have hs := hide (fun w => numberSize_any m hm w)
  go_wp2_with fail
  refine (hs.out _).mono ?_; rintro e w2 ⟨rfl, rfl⟩
  clear a0 a1 a2 a3 a4 a5 a6 a7 a8 a9 a10 a11 a12 a13
  go_wp2
  go_ret
  exact ⟨rfl, HG.out⟩

set_option maxHeartbeats 2000000 in
set_option maxRecDepth 100000 in
theorem fieldSize_truth (t : Bool) (w : World) :
    Calls Tryd.prog 28 #[.agg #[.int .i64 3, .int .u64 0, .int .i64 0, .bool t, .slice none 0 0, .int .i64 0, .int .u64 0, .int .i64 0, .int .u64 0, .int .i64 0, .int .i64 0, .int .u64 0, .int .i64 0, .int .u64 0]] w fun e w' => e = .returned (.int .i64 ((tb t).length : Int)) ∧ Gr w w' := by
  have HI := hide (IsB.new w #[.int .i64 3, .int .u64 0, .int .i64 0, .bool t, .slice none 0 0, .int .i64 0, .int .u64 0, .int .i64 0, .int .u64 0, .int .i64 0, .int .i64 0, .int .u64 0, .int .i64 0, .int .u64 0] 34)
  have HG := hide (show Gr w (w.alloc (.cells #[.int .i64 3, .int .u64 0, .int .i64 0, .bool t, .slice none 0 0, .int .i64 0, .int .u64 0, .int .i64 0, .int .u64 0, .int .i64 0, .int .i64 0, .int .u64 0, .int .i64 0, .int .u64 0] 34)) from (Gr.refl w).alloc _)
  go_enter Tryd.func28, Tryd.ntmps28
  go_wp2_with fail
  generalize w.alloc (.cells #[.int .i64 3, .int .u64 0, .int .i64 0, .bool t, .slice none 0 0, .int .i64 0, .int .u64 0, .int .i64 0, .int .u64 0, .int .i64 0, .int .i64 0, .int .u64 0, .int .i64 0, .int .u64 0] 34) = W0 at HI HG ⊢
  have a0 : W0.cell? ⟨w.heap.size, 0, none⟩ = some (.int .i64 3) := HI.out.cell 0
  have a1 : W0.cell? ⟨w.heap.size, 1, none⟩ = some (.int .u64 0) := HI.out.cell 1
  have a2 : W0.cell? ⟨w.heap.size, 2, none⟩ = some (.int .i64 0) := HI.out.cell 2
  have a3 : W0.cell? ⟨w.heap.size, 3, none⟩ = some (.bool t) := HI.out.cell 3
  have a4 : W0.cell? ⟨w.heap.size, 4, none⟩ = some (.slice none 0 0) := HI.out.cell 4
  have a5 : W0.cell? ⟨w.heap.size, 5, none⟩ = some (.int .i64 0) := HI.out.cell 5
  have a6 : W0.cell? ⟨w.heap.size, 6, none⟩ = some (.int .u64 0) := HI.out.cell 6
  have a7 : W0.cell? ⟨w.heap.size, 7, none⟩ = some (.int .i64 0) := HI.out.cell 7
  have a8 : W0.cell? ⟨w.heap.size, 8, none⟩ = some (.int .u64 0) := HI.out.cell 8
  have a9 : W0.cell? ⟨w.heap.size, 9, none⟩ = some (.int .i64 0) := HI.out.cell 9
  have a10 : W0.cell? ⟨w.heap.size, 10, none⟩ = some (.int .i64 0) := HI.out.cell 10
  have a11 : W0.cell? ⟨w.heap.size, 11, none⟩ = some (.int .u64 0) := HI.out.cell 11
  have a12 : W0.cell? ⟨w.heap.size, 12, none⟩ = some (.int .i64 0) := HI.out.cell 12
  have a13 : W0.cell? ⟨w.heap.size, 13, none⟩ = some (.int .u64 0) := HI.out.cell 13
  go_wp2
  go_ret
  exact ⟨rfl, HG.out⟩

set_option maxHeartbeats 2000000 in
set_option maxRecDepth 100000 in
theorem fieldSize_ref (i r x : Int) (l b : Nat) (hi0 : -9223372036854775808 ≤ i) (hi1 : i ≤ 9223372036854775807) (hl : l ≤ 32) (w : World) :
    Calls Tryd.prog 28 #[.agg #[.int .i64 7, .int .u64 0, .int .i64 0, .bool false, .slice none 0 0, .int .i64 0, .int .u64 0, .int .i64 0, .int .u64 0, .int .i64 i, .int .i64 r, .int .u64 x, .int .i64 (l : Int), .int .u64 (b : Int)]] w fun e w' => e = .returned (.int .i64 ((nb (fold i) ++ (kyb r x ++ vb l b)).length : Int)) ∧ Gr w w' := by
  have HI := hide (IsB.new w #[.int .i64 7, .int .u64 0, .int .i64 0, .bool false, .slice none 0 0, .int .i64 0, .int .u64 0, .int .i64 0, .int .u64 0, .int .i64 i, .int .i64 r, .int .u64 x, .int .i64 (l : Int), .int .u64 (b : Int)] 34)
  have HG := hide (show Gr w (w.alloc (.cells #[.int .i64 7, .int .u64 0, .int .i64 0, .bool false, .slice none 0 0, .int .i64 0, .int .u64 0, .int .i64 0, .int .u64 0, .int .i64 i, .int .i64 r, .int .u64 x, .int .i64 (l : Int), .int .u64 (b : Int)] 34)) from (Gr.refl w).alloc _)
  go_enter Tryd.func28, Tryd.ntmps28
  go_wp2_with fail
  generalize w.alloc (.cells #[.int .i64 7, .int .u64 0, .int .i64 0, .bool false, .slice none 0 0, .int .i64 0, .int .u64 0, .int .i64 0, .int .u64 0, .int .i64 i, .int .i64 r, .int .u64 x, .int .i64 (l : Int), .int .u64 (b : Int)] 34) = W0 at HI HG ⊢
  have a0 : W0.cell? ⟨w.heap.size, 0, none⟩ = some (.int .i64 7) := HI.out.cell 0
  have a1 : W0.cell? ⟨w.heap.size, 1, none⟩ = some (.int .u64 0) := HI.out.cell 1
  have a2 : W0.cell? ⟨w.heap.size, 2, none⟩ = some (.int .i64 0) := HI.out.cell 2
  have a3 : W0.cell? ⟨w.heap.size, 3, none⟩ = some (.bool false) := HI.out.cell 3
  have a4 : W0.cell? ⟨w.heap.size, 4, none⟩ = some (.slice none 0 0) := HI.out.cell 4
  have a5 : W0.cell? ⟨w.heap.size, 5, none⟩ = some (.int .i64 0) := HI.out.cell 5
  have a6 : W0.cell? ⟨w.heap.size, 6, none⟩ = some (.int .u64 0) := HI.out.cell 6
  have a7 : W0.cell? ⟨w.heap.size, 7, none⟩ = some (.int .i64 0) := HI.out.cell 7
  have a8 : W0.cell? ⟨w.heap.size, 8, none⟩ = some (.int .u64 0) := HI.out.cell 8
  have a9 : W0.cell? ⟨w.heap.size, 9, none⟩ = some (.int .i64 i) := HI.out.cell 9
  have a10 : W0.cell? ⟨w.heap.size, 10, none⟩ = some (.int .i64 r) := HI.out.cell 10
  have a11 : W0.cell? ⟨w.heap.size, 11, none⟩ = some (.int .u64 x) := HI.out.cell 11
  have a12 : W0.cell? ⟨w.heap.size, 12, none⟩ = some (.int .i64 (l : Int)) := HI.out.cell 12
  have a13 : W0.cell? ⟨w.heap.size, 13, none⟩ = some (.int .u64 (b : Int)) := HI.out.cell 13
  have hs := hide (fun w => refSize_any i r x l b hi0 hi1 hl w)
  go_wp2_with fail
  refine (hs.out _).mono ?_; rintro e w2 ⟨rfl, hg⟩
  replace HG := hide (HG.out.trans hg)
  clear a0 a1 a2 a3 a4 a5 a6 a7 a8 a9 a10 a11 a12 a13 hg
  go_wp2
  go_ret
  exact ⟨by rw [List.length_append, List.length_append, Int.natCast_add, Int.natCast_add]; rfl, HG.out⟩

end Go.Proofs.YtmhcmlegdoapdaaDoor
