/- KeyTexts, walked. -/
import Derived.Test.YtidgkaephikjaaaDoorTB
import Derived.Test.YtidgkaephikjaaaDoorTD
import Derived.Test.YtidgkaephikjaaaDoorTF
import Derived.Test.YtidgkaephikjaaaDoorTG
import Derived.Test.YtidgkaephikjaaaDoorK
namespace Go.Proofs.YtidgkaephikjaaaDoor
open Go.RowKit

/-- The bytes that a slice holds read as this text, whatever is made behind them. -/
def Txt (w : World) (v : Value) (S : ByteArray) : Prop := ∀ w', RowKit.Below w.heap.size w w' → (convert 41 9 v).run Tryd.prog w' = .ok (.string S) w'
theorem Txt.below {w w' : World} {v : Value} {S : ByteArray} (h : Txt w v S) (hb : RowKit.Below w.heap.size w w') : Txt w' v S := fun w'' hb' => h w'' (hb.trans (hb'.mono hb.size))
theorem txt_nil (w : World) : Txt w (.slice none 0 0) ⟨#[]⟩ := fun w' _ => by
  have := run_convert_bytes_string (P := Tryd.prog) w' 41 9 5 none 0 0 Tryd.underlying41 Tryd.underlying5 Tryd.underlying9
  rw [this]
  rfl

/-- Bytes and the document's: the same, of every key. -/
theorem bytes_both (r n : Int) (hn0 : 0 ≤ n) (hn : n < 18446744073709551616) : ∃ (S : ByteArray) (x : Int),
    (∀ w, Ranks w → Calls Tryd.prog 33 #[(.agg #[.int .i64 (r), .int .u64 (n)])] w fun e w' => ∃ v, e = .returned (.tuple #[v, .int .i64 x]) ∧ Txt w' v S ∧ RowKit.Below w.heap.size w w') ∧
    (∀ w, Calls Tryd.prog 34 #[(.agg #[.int .i64 (r), .int .u64 (n)])] w fun e w' => ∃ v, e = .returned (.tuple #[v, .int .i64 x]) ∧ Txt w' v S ∧ RowKit.Below w.heap.size w w') := by
  obtain ⟨n', rfl⟩ := Int.eq_ofNat_of_zero_le hn0
  rcases ck_two r n' with hc | hc
  · have hr : 1 ≤ r ∧ r ≤ 3 := by unfold ckE at hc; split at hc <;> omega
    obtain ⟨r', rfl⟩ := Int.eq_ofNat_of_zero_le (by omega : 0 ≤ r)
    refine ⟨⟨(kbB r' n').toArray⟩, 0, fun w hR => ?_, fun w => ?_⟩
    · refine (kBytes_ok r' n' (by omega) (by omega) (by omega) w hR hc).mono ?_
      rintro e w' ⟨g, rfl, hown, hb⟩
      exact ⟨_, rfl, fun w'' hb' => ((RowB.of hown).below hb').text (by omega) (by omega) (by omega) (by omega), hb⟩
    · refine (rBytes_ok r' n' (by omega) (by omega) (by omega) w hc).mono ?_
      rintro e w' ⟨g, cap, rfl, hrow, hb⟩
      exact ⟨_, rfl, fun w'' hb' => (hrow.below hb').text (by omega) (by omega) (by omega) (by omega), hb⟩
  · refine ⟨⟨#[]⟩, 20, fun w hR => ?_, fun w => ?_⟩
    · refine (kBytes_bad r n' w hR hc).mono ?_
      rintro e w' ⟨rfl, hb⟩
      exact ⟨_, rfl, txt_nil w', hb⟩
    · refine (rBytes_bad r n' w hc).mono ?_
      rintro e w' ⟨rfl, hb⟩
      exact ⟨_, rfl, txt_nil w', hb⟩

/-- Read and the document's: the same, of any bytes. -/
theorem read_both (a : Option Addr) (len cap : Nat) (w : World) (hcap : len ≤ cap) (h9 : len = 9 → ∃ g o x, a = some ⟨g, o, none⟩ ∧ Nine w g o x) : ∃ (r n x : Int),
    (∀ w', RowKit.Below w.heap.size w w' → Ranks w' → Calls Tryd.prog 35 #[.slice a len cap] w' fun e w'' => e = .returned (.tuple #[(.agg #[.int .i64 (r), .int .u64 (n)]), .int .i64 x]) ∧ RowKit.Below w'.heap.size w' w'') ∧
    (∀ w', RowKit.Below w.heap.size w w' → Calls Tryd.prog 36 #[.slice a len cap] w' fun e w'' => e = .returned (.tuple #[(.agg #[.int .i64 (r), .int .u64 (n)]), .int .i64 x]) ∧ RowKit.Below w'.heap.size w' w'') := by
  by_cases h : len = 9
  · obtain ⟨g, o, x, rfl, hN⟩ := h9 h
    subst h
    exact ⟨_, _, _, fun w' hb hR => kRead_nine g o cap x w' hR (hN.below hb) hcap, fun w' hb => rRead_nine g o cap x w' (hN.below hb)⟩
  · exact ⟨_, _, _, fun w' _ _ => kRead_short a len cap h w', fun w' _ => rRead_short a len cap h w'⟩

set_option maxHeartbeats 400000 in
theorem cut_any (s : ByteArray) (hs : s.size ≤ 9223372036854775807) : ∃ s' : ByteArray, s'.size ≤ 300 ∧ ∀ w, Calls Tryd.prog 28 #[.string s] w fun e w' => e = .returned (.string s') ∧ w' = w := by
  by_cases h : s.size ≤ 300
  · refine ⟨s, h, fun w => ?_⟩
    go_enter Tryd.func28, Tryd.ntmps28
    go_wp2
    go_ret
    exact ⟨rfl, rfl⟩
  · refine ⟨s.extract 0 300, by simp [ByteArray.size_extract]; omega, fun w => ?_⟩
    have h' : 300 < s.size := by omega
    go_enter Tryd.func28, Tryd.ntmps28
    go_wp2
    go_ret
    exact ⟨rfl, rfl⟩

set_option maxHeartbeats 8000000 in
set_option maxRecDepth 100000 in
theorem keyTexts_small (r n : Int) (s : ByteArray) (a : Option Addr) (len cap : Nat) (hn0 : 0 ≤ n) (hn : n < 18446744073709551616) (hs : s.size ≤ 9223372036854775807) (hlen : len ≤ cap) (w : World)
    (hR : Ranks w) (hP : Pows w) (hE : Errs w) (hbig : len ≤ 300) (h9 : len = 9 → ∃ g o x, a = some ⟨g, o, none⟩ ∧ Nine w g o x) :
    Calls Tryd.prog 6 #[(.agg #[.int .i64 (r), .int .u64 (n)]), .string s, .slice a len cap] w fun e w' => e = .returned (.bool true) ∧ RowKit.Below w.heap.size w w' := by
  obtain ⟨s', hs', hcut⟩ := cut_any s hs
  obtain ⟨T, x1, t1, t2⟩ := text_both r n hn0 hn
  obtain ⟨pr, pn, x2, p1, p2⟩ := parse_both s' hs'
  obtain ⟨B, x3, b1, b2⟩ := bytes_both r n hn0 hn
  obtain ⟨cr, cn, x4, r1, r2⟩ := read_both a len cap w (by omega) h9
  replace hcut := hide hcut
  replace t1 := hide t1
  replace t2 := hide t2
  replace p1 := hide p1
  replace p2 := hide p2
  replace b1 := hide b1
  replace b2 := hide b2
  replace r1 := hide r1
  replace r2 := hide r2
  have HR := hide hR
  have HP := hide hP
  have HE := hide hE
  have HK := hide (Is2.new w (.int .i64 r) (.int .u64 n))
  have HB := hide (show RowKit.Below w.heap.size w (w.alloc (.cells #[.int .i64 r, .int .u64 n] 25)) from ((Gr.refl w).alloc _).below)
  clear hR hP hE hn0 hn hs hs' h9
  go_enter Tryd.func6, Tryd.ntmps6
  go_wp2_with fail
  refine (hcut.out _).mono ?_; rintro e w0 ⟨rfl, rfl⟩
  obtain ⟨a0, a1, -, -⟩ := HK.out.c
  go_wp2_with fail
  clear a0 a1
  generalize w.alloc (.cells #[.int .i64 r, .int .u64 n] 25) = W0 at HK HB ⊢
  refine (t1.out W0 (HR.out.below HB.out) (HP.out.below HB.out)).mono ?_; rintro e w1 ⟨rfl, hg⟩
  replace HK := hide (HK.out.setB hg.below)
  replace HB := hide (HB.out.trans (hg.below.mono HB.out.size))
  clear hg
  obtain ⟨a0, a1, -, -⟩ := HK.out.c
  go_wp2_with fail
  clear a0 a1
  refine (t2.out w1).mono ?_; rintro e w2 ⟨rfl, hg⟩
  replace HK := hide (HK.out.setB hg.below)
  replace HB := hide (HB.out.trans (hg.below.mono HB.out.size))
  clear hg
  go_wp2_with fail
  refine (p1.out w2 (HR.out.below HB.out) (HP.out.below HB.out) (HE.out.below HB.out)).mono ?_; rintro e w3 ⟨rfl, hb⟩
  replace HK := hide (HK.out.setB hb)
  replace HB := hide (HB.out.trans (hb.mono HB.out.size))
  clear hb
  replace HK := hide (HK.out.alloc (.cells #[.int .i64 pr, .int .u64 pn] 25))
  have HQ := hide (Is2.new w3 (.int .i64 pr) (.int .u64 pn))
  replace HB := hide (HB.out.trans (((Gr.refl w3).alloc (.cells #[.int .i64 pr, .int .u64 pn] 25)).below.mono HB.out.size))
  go_wp2_with fail
  generalize hHQ : w3.heap.size = UHQ at HQ ⊢
  generalize w3.alloc (.cells #[.int .i64 pr, .int .u64 pn] 25) = W3 at HK HQ HB ⊢
  clear hHQ
  refine (p2.out W3).mono ?_; rintro e w4 ⟨rfl, hg⟩
  replace HK := hide (HK.out.setB hg.below)
  replace HQ := hide (HQ.out.setB hg.below)
  replace HB := hide (HB.out.trans (hg.below.mono HB.out.size))
  clear hg
  replace HK := hide (HK.out.alloc (.cells #[.int .i64 pr, .int .u64 pn] 25))
  replace HQ := hide (HQ.out.alloc (.cells #[.int .i64 pr, .int .u64 pn] 25))
  have HS := hide (Is2.new w4 (.int .i64 pr) (.int .u64 pn))
  replace HB := hide (HB.out.trans (((Gr.refl w4).alloc (.cells #[.int .i64 pr, .int .u64 pn] 25)).below.mono HB.out.size))
  obtain ⟨a0, a1, -, -⟩ := HK.out.c
  go_wp2_with fail
  clear a0 a1
  generalize hHS : w4.heap.size = UHS at HS ⊢
  generalize w4.alloc (.cells #[.int .i64 pr, .int .u64 pn] 25) = W4 at HK HQ HS HB ⊢
  clear hHS
  refine (b1.out W4 (HR.out.below HB.out)).mono ?_; rintro e w5 ⟨v1, rfl, htx, hb⟩
  replace HK := hide (HK.out.setB hb)
  replace HQ := hide (HQ.out.setB hb)
  replace HS := hide (HS.out.setB hb)
  have X1 := hide htx
  replace HB := hide (HB.out.trans (hb.mono HB.out.size))
  clear hb htx
  obtain ⟨a0, a1, -, -⟩ := HK.out.c
  go_wp2_with fail
  clear a0 a1
  refine (b2.out w5).mono ?_; rintro e w6 ⟨v2, rfl, htx, hb⟩
  replace HK := hide (HK.out.setB hb)
  replace HQ := hide (HQ.out.setB hb)
  replace HS := hide (HS.out.setB hb)
  replace X1 := hide (X1.out.below hb)
  have X2 := hide htx
  replace HB := hide (HB.out.trans (hb.mono HB.out.size))
  clear hb htx
  go_wp2_with fail
  refine (r1.out w6 HB.out (HR.out.below HB.out)).mono ?_; rintro e w7 ⟨rfl, hb⟩
  replace HK := hide (HK.out.setB hb)
  replace HQ := hide (HQ.out.setB hb)
  replace HS := hide (HS.out.setB hb)
  replace X1 := hide (X1.out.below hb)
  replace X2 := hide (X2.out.below hb)
  replace HB := hide (HB.out.trans (hb.mono HB.out.size))
  clear hb
  replace HK := hide (HK.out.alloc (.cells #[.int .i64 cr, .int .u64 cn] 25))
  replace HQ := hide (HQ.out.alloc (.cells #[.int .i64 cr, .int .u64 cn] 25))
  replace HS := hide (HS.out.alloc (.cells #[.int .i64 cr, .int .u64 cn] 25))
  replace X1 := hide (X1.out.below ((Gr.refl w7).alloc (.cells #[.int .i64 cr, .int .u64 cn] 25)).below)
  replace X2 := hide (X2.out.below ((Gr.refl w7).alloc (.cells #[.int .i64 cr, .int .u64 cn] 25)).below)
  have HC := hide (Is2.new w7 (.int .i64 cr) (.int .u64 cn))
  replace HB := hide (HB.out.trans (((Gr.refl w7).alloc (.cells #[.int .i64 cr, .int .u64 cn] 25)).below.mono HB.out.size))
  go_wp2_with fail
  generalize hHC : w7.heap.size = UHC at HC ⊢
  generalize w7.alloc (.cells #[.int .i64 cr, .int .u64 cn] 25) = W7 at HK HQ HS X1 X2 HC HB ⊢
  clear hHC
  refine (r2.out W7 HB.out).mono ?_; rintro e w8 ⟨rfl, hb⟩
  replace HK := hide (HK.out.setB hb)
  replace HQ := hide (HQ.out.setB hb)
  replace HS := hide (HS.out.setB hb)
  replace X1 := hide (X1.out.below hb)
  replace X2 := hide (X2.out.below hb)
  replace HC := hide (HC.out.setB hb)
  replace HB := hide (HB.out.trans (hb.mono HB.out.size))
  clear hb
  replace HK := hide (HK.out.alloc (.cells #[.int .i64 cr, .int .u64 cn] 25))
  replace HQ := hide (HQ.out.alloc (.cells #[.int .i64 cr, .int .u64 cn] 25))
  replace HS := hide (HS.out.alloc (.cells #[.int .i64 cr, .int .u64 cn] 25))
  replace X1 := hide (X1.out.below ((Gr.refl w8).alloc (.cells #[.int .i64 cr, .int .u64 cn] 25)).below)
  replace X2 := hide (X2.out.below ((Gr.refl w8).alloc (.cells #[.int .i64 cr, .int .u64 cn] 25)).below)
  replace HC := hide (HC.out.alloc (.cells #[.int .i64 cr, .int .u64 cn] 25))
  have HD := hide (Is2.new w8 (.int .i64 cr) (.int .u64 cn))
  replace HB := hide (HB.out.trans (((Gr.refl w8).alloc (.cells #[.int .i64 cr, .int .u64 cn] 25)).below.mono HB.out.size))
  obtain ⟨a0, a1, -, -⟩ := HQ.out.c
  obtain ⟨b0, b1', -, -⟩ := HS.out.c
  obtain ⟨c0, c1, -, -⟩ := HC.out.c
  obtain ⟨d0, d1, -, -⟩ := HD.out.c
  have y1 := X1.out _ (RowKit.Below.refl _ _)
  have y2 := X2.out _ (RowKit.Below.refl _ _)
  go_wp2_with fail
  refine (awake_any _ (HR.out.below HB.out)).mono ?_; rintro e w9 ⟨rfl, hb⟩
  replace HB := hide (HB.out.trans (hb.mono HB.out.size))
  clear hb a0 a1 b0 b1' c0 c1 d0 d1 y1 y2
  go_wp2
  go_ret
  exact ⟨rfl, HB.out⟩

set_option maxHeartbeats 8000000 in
set_option maxRecDepth 100000 in
theorem keyTexts_big (r n : Int) (s : ByteArray) (a : Option Addr) (len cap : Nat) (hn0 : 0 ≤ n) (hn : n < 18446744073709551616) (hs : s.size ≤ 9223372036854775807) (hlen : len ≤ cap) (hcap : cap ≤ 9223372036854775807) (w : World)
    (hR : Ranks w) (hP : Pows w) (hE : Errs w) (hbig : 300 < len) :
    Calls Tryd.prog 6 #[(.agg #[.int .i64 (r), .int .u64 (n)]), .string s, .slice a len cap] w fun e w' => e = .returned (.bool true) ∧ RowKit.Below w.heap.size w w' := by
  obtain ⟨s', hs', hcut⟩ := cut_any s hs
  obtain ⟨T, x1, t1, t2⟩ := text_both r n hn0 hn
  obtain ⟨pr, pn, x2, p1, p2⟩ := parse_both s' hs'
  obtain ⟨B, x3, b1, b2⟩ := bytes_both r n hn0 hn
  obtain ⟨cr, cn, x4, r1, r2⟩ := read_both a 300 cap w (by omega) (fun h => by omega)
  replace hcut := hide hcut
  replace t1 := hide t1
  replace t2 := hide t2
  replace p1 := hide p1
  replace p2 := hide p2
  replace b1 := hide b1
  replace b2 := hide b2
  replace r1 := hide r1
  replace r2 := hide r2
  have HR := hide hR
  have HP := hide hP
  have HE := hide hE
  have HK := hide (Is2.new w (.int .i64 r) (.int .u64 n))
  have HB := hide (show RowKit.Below w.heap.size w (w.alloc (.cells #[.int .i64 r, .int .u64 n] 25)) from ((Gr.refl w).alloc _).below)
  clear hR hP hE hn0 hn hs hs'
  go_enter Tryd.func6, Tryd.ntmps6
  go_wp2_with fail
  refine (hcut.out _).mono ?_; rintro e w0 ⟨rfl, rfl⟩
  obtain ⟨a0, a1, -, -⟩ := HK.out.c
  go_wp2_with fail
  clear a0 a1
  generalize w.alloc (.cells #[.int .i64 r, .int .u64 n] 25) = W0 at HK HB ⊢
  refine (t1.out W0 (HR.out.below HB.out) (HP.out.below HB.out)).mono ?_; rintro e w1 ⟨rfl, hg⟩
  replace HK := hide (HK.out.setB hg.below)
  replace HB := hide (HB.out.trans (hg.below.mono HB.out.size))
  clear hg
  obtain ⟨a0, a1, -, -⟩ := HK.out.c
  go_wp2_with fail
  clear a0 a1
  refine (t2.out w1).mono ?_; rintro e w2 ⟨rfl, hg⟩
  replace HK := hide (HK.out.setB hg.below)
  replace HB := hide (HB.out.trans (hg.below.mono HB.out.size))
  clear hg
  go_wp2_with fail
  refine (p1.out w2 (HR.out.below HB.out) (HP.out.below HB.out) (HE.out.below HB.out)).mono ?_; rintro e w3 ⟨rfl, hb⟩
  replace HK := hide (HK.out.setB hb)
  replace HB := hide (HB.out.trans (hb.mono HB.out.size))
  clear hb
  replace HK := hide (HK.out.alloc (.cells #[.int .i64 pr, .int .u64 pn] 25))
  have HQ := hide (Is2.new w3 (.int .i64 pr) (.int .u64 pn))
  replace HB := hide (HB.out.trans (((Gr.refl w3).alloc (.cells #[.int .i64 pr, .int .u64 pn] 25)).below.mono HB.out.size))
  go_wp2_with fail
  generalize hHQ : w3.heap.size = UHQ at HQ ⊢
  generalize w3.alloc (.cells #[.int .i64 pr, .int .u64 pn] 25) = W3 at HK HQ HB ⊢
  clear hHQ
  refine (p2.out W3).mono ?_; rintro e w4 ⟨rfl, hg⟩
  replace HK := hide (HK.out.setB hg.below)
  replace HQ := hide (HQ.out.setB hg.below)
  replace HB := hide (HB.out.trans (hg.below.mono HB.out.size))
  clear hg
  replace HK := hide (HK.out.alloc (.cells #[.int .i64 pr, .int .u64 pn] 25))
  replace HQ := hide (HQ.out.alloc (.cells #[.int .i64 pr, .int .u64 pn] 25))
  have HS := hide (Is2.new w4 (.int .i64 pr) (.int .u64 pn))
  replace HB := hide (HB.out.trans (((Gr.refl w4).alloc (.cells #[.int .i64 pr, .int .u64 pn] 25)).below.mono HB.out.size))
  obtain ⟨a0, a1, -, -⟩ := HK.out.c
  go_wp2_with fail
  clear a0 a1
  generalize hHS : w4.heap.size = UHS at HS ⊢
  generalize w4.alloc (.cells #[.int .i64 pr, .int .u64 pn] 25) = W4 at HK HQ HS HB ⊢
  clear hHS
  refine (b1.out W4 (HR.out.below HB.out)).mono ?_; rintro e w5 ⟨v1, rfl, htx, hb⟩
  replace HK := hide (HK.out.setB hb)
  replace HQ := hide (HQ.out.setB hb)
  replace HS := hide (HS.out.setB hb)
  have X1 := hide htx
  replace HB := hide (HB.out.trans (hb.mono HB.out.size))
  clear hb htx
  obtain ⟨a0, a1, -, -⟩ := HK.out.c
  go_wp2_with fail
  clear a0 a1
  refine (b2.out w5).mono ?_; rintro e w6 ⟨v2, rfl, htx, hb⟩
  replace HK := hide (HK.out.setB hb)
  replace HQ := hide (HQ.out.setB hb)
  replace HS := hide (HS.out.setB hb)
  replace X1 := hide (X1.out.below hb)
  have X2 := hide htx
  replace HB := hide (HB.out.trans (hb.mono HB.out.size))
  clear hb htx
  go_wp2_with fail
  refine (r1.out w6 HB.out (HR.out.below HB.out)).mono ?_; rintro e w7 ⟨rfl, hb⟩
  replace HK := hide (HK.out.setB hb)
  replace HQ := hide (HQ.out.setB hb)
  replace HS := hide (HS.out.setB hb)
  replace X1 := hide (X1.out.below hb)
  replace X2 := hide (X2.out.below hb)
  replace HB := hide (HB.out.trans (hb.mono HB.out.size))
  clear hb
  replace HK := hide (HK.out.alloc (.cells #[.int .i64 cr, .int .u64 cn] 25))
  replace HQ := hide (HQ.out.alloc (.cells #[.int .i64 cr, .int .u64 cn] 25))
  replace HS := hide (HS.out.alloc (.cells #[.int .i64 cr, .int .u64 cn] 25))
  replace X1 := hide (X1.out.below ((Gr.refl w7).alloc (.cells #[.int .i64 cr, .int .u64 cn] 25)).below)
  replace X2 := hide (X2.out.below ((Gr.refl w7).alloc (.cells #[.int .i64 cr, .int .u64 cn] 25)).below)
  have HC := hide (Is2.new w7 (.int .i64 cr) (.int .u64 cn))
  replace HB := hide (HB.out.trans (((Gr.refl w7).alloc (.cells #[.int .i64 cr, .int .u64 cn] 25)).below.mono HB.out.size))
  go_wp2_with fail
  generalize hHC : w7.heap.size = UHC at HC ⊢
  generalize w7.alloc (.cells #[.int .i64 cr, .int .u64 cn] 25) = W7 at HK HQ HS X1 X2 HC HB ⊢
  clear hHC
  refine (r2.out W7 HB.out).mono ?_; rintro e w8 ⟨rfl, hb⟩
  replace HK := hide (HK.out.setB hb)
  replace HQ := hide (HQ.out.setB hb)
  replace HS := hide (HS.out.setB hb)
  replace X1 := hide (X1.out.below hb)
  replace X2 := hide (X2.out.below hb)
  replace HC := hide (HC.out.setB hb)
  replace HB := hide (HB.out.trans (hb.mono HB.out.size))
  clear hb
  replace HK := hide (HK.out.alloc (.cells #[.int .i64 cr, .int .u64 cn] 25))
  replace HQ := hide (HQ.out.alloc (.cells #[.int .i64 cr, .int .u64 cn] 25))
  replace HS := hide (HS.out.alloc (.cells #[.int .i64 cr, .int .u64 cn] 25))
  replace X1 := hide (X1.out.below ((Gr.refl w8).alloc (.cells #[.int .i64 cr, .int .u64 cn] 25)).below)
  replace X2 := hide (X2.out.below ((Gr.refl w8).alloc (.cells #[.int .i64 cr, .int .u64 cn] 25)).below)
  replace HC := hide (HC.out.alloc (.cells #[.int .i64 cr, .int .u64 cn] 25))
  have HD := hide (Is2.new w8 (.int .i64 cr) (.int .u64 cn))
  replace HB := hide (HB.out.trans (((Gr.refl w8).alloc (.cells #[.int .i64 cr, .int .u64 cn] 25)).below.mono HB.out.size))
  obtain ⟨a0, a1, -, -⟩ := HQ.out.c
  obtain ⟨b0, b1', -, -⟩ := HS.out.c
  obtain ⟨c0, c1, -, -⟩ := HC.out.c
  obtain ⟨d0, d1, -, -⟩ := HD.out.c
  have y1 := X1.out _ (RowKit.Below.refl _ _)
  have y2 := X2.out _ (RowKit.Below.refl _ _)
  go_wp2_with fail
  refine (awake_any _ (HR.out.below HB.out)).mono ?_; rintro e w9 ⟨rfl, hb⟩
  replace HB := hide (HB.out.trans (hb.mono HB.out.size))
  clear hb a0 a1 b0 b1' c0 c1 d0 d1 y1 y2
  go_wp2
  go_ret
  exact ⟨rfl, HB.out⟩

end Go.Proofs.YtidgkaephikjaaaDoor
