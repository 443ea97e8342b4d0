/- The document's text of a key. -/
import Derived.Test.YtidgkaephikjaaaDoorTA
import Derived.Test.YtidgkaephikjaaaDoorFB
import Derived.Test.YtidgkaephikjaaaDoorE
namespace Go.Proofs.YtidgkaephikjaaaDoor
open Go.RowKit

set_option maxHeartbeats 2000000 in
set_option maxRecDepth 100000 in
theorem rText_bad (r n : Int) (w : World) (hc : ckE r n = 20) :
    Calls Tryd.prog 30 #[(.agg #[.int .i64 (r), .int .u64 (n)])] w fun e w' => e = .returned (.tuple #[.string ⟨#[]⟩, .int .i64 20]) ∧ Gr w w' := by
  have ck := rCheck_any (r) (n) (w.alloc (.cells #[.int .i64 (r), .int .u64 (n)] 25))
  rw [show ckE (r) (n) = 20 from hc] at ck
  have HI := hide (Is2.new w (.int .i64 (r)) (.int .u64 (n)))
  have HG := hide (show Gr w (w.alloc (.cells #[.int .i64 (r), .int .u64 (n)] 25)) from (Gr.refl w).alloc _)
  go_enter Tryd.func30, Tryd.ntmps30
  go_wp2_with fail
  refine ck.mono ?_; rintro e w1 ⟨rfl, hg⟩
  replace HI := hide (HI.out.gr hg)
  replace HG := hide (HG.out.trans hg)
  obtain ⟨a0, a1, -, -⟩ := HI.out.c
  have hlt := HI.out.lt
  clear ck hg
  go_wp2
  go_ret2
  exact ⟨rfl, HG.out⟩

set_option maxHeartbeats 2000000 in
set_option maxRecDepth 100000 in
theorem rText_low (w : World) :
    Calls Tryd.prog 30 #[(.agg #[.int .i64 (1), .int .u64 (0)])] w fun e w' => e = .returned (.tuple #[.string ⟨#[45]⟩, .int .i64 0]) ∧ Gr w w' := by
  have ck := rCheck_any (1) (0) (w.alloc (.cells #[.int .i64 (1), .int .u64 (0)] 25))
  rw [show ckE (1) (0) = 0 from by decide] at ck
  have HI := hide (Is2.new w (.int .i64 (1)) (.int .u64 (0)))
  have HG := hide (show Gr w (w.alloc (.cells #[.int .i64 (1), .int .u64 (0)] 25)) from (Gr.refl w).alloc _)
  go_enter Tryd.func30, Tryd.ntmps30
  go_wp2_with fail
  refine ck.mono ?_; rintro e w1 ⟨rfl, hg⟩
  replace HI := hide (HI.out.gr hg)
  replace HG := hide (HG.out.trans hg)
  obtain ⟨a0, a1, -, -⟩ := HI.out.c
  have hlt := HI.out.lt
  clear ck hg
  go_wp2
  go_ret2
  exact ⟨rfl, HG.out⟩

set_option maxHeartbeats 2000000 in
set_option maxRecDepth 100000 in
theorem rText_high (w : World) :
    Calls Tryd.prog 30 #[(.agg #[.int .i64 (3), .int .u64 (0)])] w fun e w' => e = .returned (.tuple #[.string ⟨#[43]⟩, .int .i64 0]) ∧ Gr w w' := by
  have ck := rCheck_any (3) (0) (w.alloc (.cells #[.int .i64 (3), .int .u64 (0)] 25))
  rw [show ckE (3) (0) = 0 from by decide] at ck
  have HI := hide (Is2.new w (.int .i64 (3)) (.int .u64 (0)))
  have HG := hide (show Gr w (w.alloc (.cells #[.int .i64 (3), .int .u64 (0)] 25)) from (Gr.refl w).alloc _)
  go_enter Tryd.func30, Tryd.ntmps30
  go_wp2_with fail
  refine ck.mono ?_; rintro e w1 ⟨rfl, hg⟩
  replace HI := hide (HI.out.gr hg)
  replace HG := hide (HG.out.trans hg)
  obtain ⟨a0, a1, -, -⟩ := HI.out.c
  have hlt := HI.out.lt
  clear ck hg
  go_wp2
  go_ret2
  exact ⟨rfl, HG.out⟩

set_option maxHeartbeats 2000000 in
set_option maxRecDepth 100000 in
theorem rText_at (n : Nat) (w : World) (hn : n < 18446744073709551616) :
    Calls Tryd.prog 30 #[(.agg #[.int .i64 (2), .int .u64 ((n : Int))])] w fun e w' => e = .returned (.tuple #[.string ⟨(Lib.decDigits n).toArray⟩, .int .i64 0]) ∧ Gr w w' := by
  have ck := rCheck_any (2) ((n : Int)) (w.alloc (.cells #[.int .i64 (2), .int .u64 ((n : Int))] 25))
  rw [show ckE (2) ((n : Int)) = 0 from ck_at _] at ck
  have HI := hide (Is2.new w (.int .i64 (2)) (.int .u64 ((n : Int))))
  have HG := hide (show Gr w (w.alloc (.cells #[.int .i64 (2), .int .u64 ((n : Int))] 25)) from (Gr.refl w).alloc _)
  go_enter Tryd.func30, Tryd.ntmps30
  go_wp2_with fail
  refine ck.mono ?_; rintro e w1 ⟨rfl, hg⟩
  replace HI := hide (HI.out.gr hg)
  replace HG := hide (HG.out.trans hg)
  obtain ⟨a0, a1, -, -⟩ := HI.out.c
  have hlt := HI.out.lt
  clear ck hg
  have hd := fun w => rDigits_any n hn w
  replace hd := hide hd
  go_wp2_with fail
  refine (hd.out _).mono ?_; rintro e w2 ⟨rfl, hg⟩
  go_wp2
  go_ret2
  exact ⟨rfl, HG.out.trans hg⟩

/-- Text and the document's: the same, of every key. -/
theorem text_both (r n : Int) (hn0 : 0 ≤ n) (hn : n < 18446744073709551616) : ∃ (s : ByteArray) (x : Int),
    (∀ w, Ranks w → Pows w → Calls Tryd.prog 29 #[(.agg #[.int .i64 (r), .int .u64 (n)])] w fun e w' => e = .returned (.tuple #[.string s, .int .i64 x]) ∧ Gr w w') ∧
    (∀ w, Calls Tryd.prog 30 #[(.agg #[.int .i64 (r), .int .u64 (n)])] w fun e w' => e = .returned (.tuple #[.string s, .int .i64 x]) ∧ Gr w w') := by
  obtain ⟨n', rfl⟩ := Int.eq_ofNat_of_zero_le hn0
  by_cases hc : ckE r n' = 0
  · have h : r = 1 ∧ (n' : Int) = 0 ∨ r = 2 ∨ r = 3 ∧ (n' : Int) = 0 := by
      unfold ckE at hc
      split at hc <;> omega
    rcases h with ⟨rfl, h⟩ | rfl | ⟨rfl, h⟩
    · obtain rfl : n' = 0 := by omega
      exact ⟨_, _, fun w hR _ => kText_low w hR, fun w => rText_low w⟩
    · exact ⟨_, _, fun w hR hP => kText_at n' _ w hR (fun w' hg => fmt_any n' (by omega) w' (hP.gr hg)), fun w => rText_at n' w (by omega)⟩
    · obtain rfl : n' = 0 := by omega
      exact ⟨_, _, fun w hR _ => kText_high w hR, fun w => rText_high w⟩
  · have hb : ckE r n' = 20 := by unfold ckE at *; split <;> simp_all
    exact ⟨_, _, fun w hR _ => kText_bad r n' w hR hb, fun w => rText_bad r n' w hb⟩

end Go.Proofs.YtidgkaephikjaaaDoor
