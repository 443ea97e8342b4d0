/- KeyBack, walked. -/
import Derived.Test.YtidgkaephikjaabDoorFF
import Derived.Test.YtidgkaephikjaabDoorFG
import Derived.Test.YtidgkaephikjaabDoorFD
import Derived.Test.YtidgkaephikjaabDoorK
namespace Go.Proofs.YtidgkaephikjaabDoor
open Go.RowKit

/-- From cell 0 of block g on lie these bytes. -/
def RowB (w : World) (g : Nat) (l : List Int) : Prop := ∀ j u, (u8s l)[j]? = some u → w.cell? ⟨g, j, none⟩ = some u
theorem RowB.below {w w' : World} {g : Nat} {l : List Int} (h : RowB w g l) (hb : RowKit.Below w.heap.size w w') : RowB w' g l := fun j u hj => (hb.cell (lt_of_cell (h j u hj))).trans (h j u hj)
theorem RowB.of {w : World} {base e g n cap : Nat} {l : List Int} (h : w.ownsRow base e 1 (.slice (some ⟨g, 0, none⟩) n cap) n (u8s l)) : RowB w g l := fun j u hj => by
  have := h.cells (g := g) rfl j u hj
  rw [Lib.add_plain, Nat.zero_add] at this
  exact this
theorem RowB.text {w : World} {g cap : Nat} {r n : Int} (h : RowB w g (kb r n)) (h0 : 1 ≤ r) (h3 : r ≤ 3) (hn0 : 0 ≤ n) (hn : n < 18446744073709551616) :
    (convert 30 9 (.slice (some ⟨g, 0, none⟩) 9 cap)).run Tryd.prog w = .ok (.string ⟨(kbB r n).toArray⟩) w := by
  have := run_convert_bytes_back (P := Tryd.prog) w 30 9 5 ⟨g, 0, none⟩ cap (kbB r n) Tryd.underlying30 Tryd.underlying5 Tryd.underlying9 (fun j hj => by
    have := h j (.int .u8 ((kbB r n)[j].toNat : Int)) (by rw [kbB_cells r n h0 h3 hn0 hn, List.getElem?_map, List.getElem?_eq_getElem hj]; rfl)
    rw [Lib.add_plain, Nat.zero_add]
    exact this)
  rw [kbB_len] at this
  exact this

theorem ck_ok (r n : Int) (h : ckE r n = 0) : r = 1 ∧ n = 0 ∨ r = 2 ∨ r = 3 ∧ n = 0 := by
  unfold ckE at h
  split at h
  · omega
  · omega
theorem ck_bad (r n : Int) (h : ¬ ckE r n = 0) : ckE r n = 20 := by
  unfold ckE at *
  split <;> simp_all

/-- A key that may be has a text, which is read back. -/
theorem text_back (r : Int) (n : Nat) (hn : n < 18446744073709551616) (hc : ckE r n = 0) : ∃ s : ByteArray,
    (∀ w, Ranks w → Pows w → Calls Tryd.prog 6 #[(.agg #[.int .i64 (r), .int .u64 ((n : Int))])] w fun e w' => e = .returned (.tuple #[.string s, .int .i64 0]) ∧ Gr w w') ∧
    (∀ w, Ranks w → Pows w → Calls Tryd.prog 9 #[.string s] w fun e w' => e = .returned (.tuple #[(.agg #[.int .i64 (r), .int .u64 ((n : Int))]), .int .i64 0]) ∧ RowKit.Below w.heap.size w w') := by
  rcases ck_ok r n hc with ⟨rfl, h⟩ | rfl | ⟨rfl, h⟩
  · obtain rfl : n = 0 := by omega
    exact ⟨_, fun w hR _ => kText_low w hR, fun w hR _ => kParse_low w hR⟩
  · exact ⟨_, fun w hR hP => kText_at n _ w hR (fun w' hg => fmt_any n hn w' (hP.gr hg)), fun w hR hP => kParse_num n hn w hR hP⟩
  · obtain rfl : n = 0 := by omega
    exact ⟨_, fun w hR _ => kText_high w hR, fun w hR _ => kParse_high w hR⟩

set_option maxHeartbeats 4000000 in
set_option maxRecDepth 100000 in
theorem keyBack_bad (r n s m : Int) (w : World) (hR : Ranks w) (hc : ckE r n = 20) :
    Calls Tryd.prog 3 #[(.agg #[.int .i64 (r), .int .u64 (n)]), (.agg #[.int .i64 (s), .int .u64 (m)])] w fun e w' => e = .returned (.bool true) ∧ RowKit.Below w.heap.size w w' := by
  have HI := hide ((Is2.new w (.int .i64 r) (.int .u64 n)).alloc (.cells #[.int .i64 s, .int .u64 m] 25))
  have HB := hide (show RowKit.Below w.heap.size w ((w.alloc (.cells #[.int .i64 r, .int .u64 n] 25)).alloc (.cells #[.int .i64 s, .int .u64 m] 25)) from (((Gr.refl w).alloc _).alloc _).below)
  have HR := hide hR
  have HC := hide hc
  clear hR hc
  go_enter Tryd.func3, Tryd.ntmps3
  go_wp2_with fail
  generalize (w.alloc (.cells #[.int .i64 r, .int .u64 n] 25)).alloc (.cells #[.int .i64 s, .int .u64 m] 25) = W0 at HI HB ⊢
  refine (awake_any W0 (HR.out.below HB.out)).mono ?_; rintro e w1 ⟨rfl, hb⟩
  replace HI := hide (HI.out.setB hb)
  replace HB := hide (HB.out.trans (hb.mono HB.out.size))
  clear hb
  obtain ⟨a0, a1, -, -⟩ := HI.out.c
  go_wp2_with fail
  clear a0 a1
  refine (kText_bad r n w1 (HR.out.below HB.out) HC.out).mono ?_; rintro e w2 ⟨rfl, hg⟩
  replace HI := hide (HI.out.gr hg)
  replace HB := hide (HB.out.trans (hg.below.mono HB.out.size))
  clear hg
  obtain ⟨a0, a1, -, -⟩ := HI.out.c
  go_wp2_with fail
  clear a0 a1
  refine (kBytes_bad r n w2 (HR.out.below HB.out) HC.out).mono ?_; rintro e w3 ⟨rfl, hb⟩
  replace HI := hide (HI.out.setB hb)
  replace HB := hide (HB.out.trans (hb.mono HB.out.size))
  clear hb
  obtain ⟨a0, a1, -, -⟩ := HI.out.c
  go_wp2_with fail
  clear a0 a1
  have ck := kCheck_any r n w3 (HR.out.below HB.out)
  rw [HC.out] at ck
  refine ck.mono ?_; rintro e w4 ⟨rfl, hg⟩
  replace HB := hide (HB.out.trans (hg.below.mono HB.out.size))
  clear hg ck
  go_wp2
  go_ret
  exact ⟨rfl, HB.out⟩

set_option maxHeartbeats 8000000 in
set_option maxRecDepth 100000 in
theorem keyBack_ok (r n : Nat) (s : Int) (m : Nat) (hn : n < 18446744073709551616) (hm : m < 18446744073709551616) (w : World) (hR : Ranks w) (hP : Pows w) (hc : ckE r n = 0) :
    Calls Tryd.prog 3 #[(.agg #[.int .i64 ((r : Int)), .int .u64 ((n : Int))]), (.agg #[.int .i64 (s), .int .u64 ((m : Int))])] w fun e w' => e = .returned (.bool true) ∧ RowKit.Below w.heap.size w w' := by
  have mixed : Tryd.prog.follows .mixedOrders = true := by kernel_rfl
  obtain ⟨T, ht, hp⟩ := text_back r n hn hc
  have hr : 1 ≤ r ∧ r ≤ 3 := by rcases ck_ok r n hc with h | h | h <;> omega
  have I0 := (Is2.new w (.int .i64 (r : Int)) (.int .u64 (n : Int))).alloc (.cells #[.int .i64 s, .int .u64 (m : Int)] 25)
  have I1 := Is2.new (w.alloc (.cells #[.int .i64 (r : Int), .int .u64 (n : Int)] 25)) (.int .i64 s) (.int .u64 (m : Int))
  rw [World.size_alloc] at I1
  have HI := hide I0
  have HJ := hide I1
  have HB := hide (show RowKit.Below w.heap.size w ((w.alloc (.cells #[.int .i64 (r : Int), .int .u64 (n : Int)] 25)).alloc (.cells #[.int .i64 s, .int .u64 (m : Int)] 25)) from (((Gr.refl w).alloc _).alloc _).below)
  have HR := hide hR
  have HP := hide hP
  have HC := hide hc
  have HT := hide ht
  have HQ := hide hp
  have HK := hide hr
  have HN := hide hn
  have HM := hide hm
  clear hR hP hc ht hp I0 I1 hr hn hm
  go_enter Tryd.func3, Tryd.ntmps3
  go_wp2_with fail
  generalize (w.alloc (.cells #[.int .i64 (r : Int), .int .u64 (n : Int)] 25)).alloc (.cells #[.int .i64 s, .int .u64 (m : Int)] 25) = W0 at HI HJ HB ⊢
  refine (awake_any W0 (HR.out.below HB.out)).mono ?_; rintro e w1 ⟨rfl, hb⟩
  replace HI := hide (HI.out.setB hb)
  replace HJ := hide (HJ.out.setB hb)
  replace HB := hide (HB.out.trans (hb.mono HB.out.size))
  clear hb
  obtain ⟨a0, a1, -, -⟩ := HI.out.c
  go_wp2_with fail
  clear a0 a1
  refine (HT.out w1 (HR.out.below HB.out) (HP.out.below HB.out)).mono ?_; rintro e w2 ⟨rfl, hg⟩
  replace HI := hide (HI.out.gr hg)
  replace HJ := hide (HJ.out.gr hg)
  replace HB := hide (HB.out.trans (hg.below.mono HB.out.size))
  clear hg
  obtain ⟨a0, a1, -, -⟩ := HI.out.c
  go_wp2_with fail
  clear a0 a1
  refine (kBytes_ok r n HK.out.1 HK.out.2 HN.out w2 (HR.out.below HB.out) HC.out).mono ?_; rintro e w3 ⟨g, rfl, hown, hb⟩
  replace HI := hide (HI.out.setB hb)
  replace HJ := hide (HJ.out.setB hb)
  have HX := hide (RowB.of hown)
  replace HB := hide (HB.out.trans (hb.mono HB.out.size))
  clear hb hown
  obtain ⟨a0, a1, -, -⟩ := HI.out.c
  go_wp2_with fail
  clear a0 a1
  have ck := kCheck_any r n w3 (HR.out.below HB.out)
  rw [HC.out] at ck
  refine ck.mono ?_; rintro e w4 ⟨rfl, hg⟩
  replace HI := hide (HI.out.gr hg)
  replace HJ := hide (HJ.out.gr hg)
  replace HX := hide (HX.out.below hg.below)
  replace HB := hide (HB.out.trans (hg.below.mono HB.out.size))
  clear hg ck
  obtain ⟨a0, a1, -, -⟩ := HI.out.c
  go_wp2_with fail
  clear a0 a1
  refine (HQ.out w4 (HR.out.below HB.out) (HP.out.below HB.out)).mono ?_; rintro e w5 ⟨rfl, hb⟩
  replace HI := hide ((HI.out.setB hb).alloc (.cells #[.int .i64 (r : Int), .int .u64 (n : Int)] 25))
  replace HJ := hide ((HJ.out.setB hb).alloc (.cells #[.int .i64 (r : Int), .int .u64 (n : Int)] 25))
  replace HX := hide ((HX.out.below hb).below ((Gr.refl w5).alloc (.cells #[.int .i64 (r : Int), .int .u64 (n : Int)] 25)).below)
  replace HB := hide ((HB.out.trans (hb.mono HB.out.size)).trans (((Gr.refl w5).alloc (.cells #[.int .i64 (r : Int), .int .u64 (n : Int)] 25)).below.mono (Nat.le_trans HB.out.size hb.size)))
  have HU := hide (Is2.new w5 (.int .i64 (r : Int)) (.int .u64 (n : Int)))
  clear hb
  go_wp2_with fail
  generalize hU : w5.heap.size = U at HU ⊢
  generalize w5.alloc (.cells #[.int .i64 (r : Int), .int .u64 (n : Int)] 25) = W5 at HI HJ HX HB HU ⊢
  clear hU
  refine (kRead_ok r n HK.out.1 HK.out.2 HN.out g W5 (HR.out.below HB.out) HC.out HX.out).mono ?_; rintro e w6 ⟨rfl, hb⟩
  replace HI := hide ((HI.out.setB hb).alloc (.cells #[.int .i64 (r : Int), .int .u64 (n : Int)] 25))
  replace HJ := hide ((HJ.out.setB hb).alloc (.cells #[.int .i64 (r : Int), .int .u64 (n : Int)] 25))
  replace HU := hide ((HU.out.setB hb).alloc (.cells #[.int .i64 (r : Int), .int .u64 (n : Int)] 25))
  replace HX := hide ((HX.out.below hb).below ((Gr.refl w6).alloc (.cells #[.int .i64 (r : Int), .int .u64 (n : Int)] 25)).below)
  replace HB := hide ((HB.out.trans (hb.mono HB.out.size)).trans (((Gr.refl w6).alloc (.cells #[.int .i64 (r : Int), .int .u64 (n : Int)] 25)).below.mono (Nat.le_trans HB.out.size hb.size)))
  clear hb
  obtain ⟨a0, a1, -, -⟩ := HI.out.c
  obtain ⟨b0, b1, -, -⟩ := HJ.out.c
  obtain ⟨c0, c1, -, -⟩ := HU.out.c
  go_wp2_with fail
  clear a0 a1 b0 b1 c0 c1 HU HT HQ
  generalize w6.alloc (.cells #[.int .i64 (r : Int), .int .u64 (n : Int)] 25) = W6 at HI HJ HX HB ⊢
  by_cases hk : ckE s m = 0
  · have hs : 1 ≤ s ∧ s ≤ 3 := by rcases ck_ok s m hk with h | h | h <;> omega
    obtain ⟨s', rfl⟩ := Int.eq_ofNat_of_zero_le (by omega : 0 ≤ s)
    refine (kBytes_ok s' m (by omega) (by omega) HM.out W6 (HR.out.below HB.out) hk).mono ?_; rintro e w7 ⟨g', rfl, hown, hb⟩
    replace HI := hide (HI.out.setB hb)
    replace HJ := hide (HJ.out.setB hb)
    replace HX := hide (HX.out.below hb)
    have HY := hide (RowB.of hown)
    replace HB := hide (HB.out.trans (hb.mono HB.out.size))
    clear hb hown hk
    have hor := kb_order r n s' m (by have := HK.out; omega) (by have := HK.out; omega) (by omega) (by have := HN.out; omega) (by omega) (by omega) (by omega) (by have := HM.out; omega)
    have kl := fun w => kLess_any r n s' m w
    obtain ⟨S1, S2, B, x1, x2, hor, kl⟩ : ∃ (S1 S2 : ByteArray) (B : Bool), (∀ p : Bel w7, (convert 30 9 (.slice (some ⟨g, 0, none⟩) 9 9)).run Tryd.prog p.v = .ok (.string S1) p.v) ∧
        (∀ p : Bel w7, (convert 30 9 (.slice (some ⟨g', 0, none⟩) 9 9)).run Tryd.prog p.v = .ok (.string S2) p.v) ∧ Op.bytesLess S1.toList S2.toList = B ∧
        (∀ w, Calls Tryd.prog 11 #[(.agg #[.int .i64 ((r : Int)), .int .u64 ((n : Int))]), (.agg #[.int .i64 ((s' : Int)), .int .u64 ((m : Int))])] w fun e w' => e = .returned (.bool B) ∧ Gr w w') :=
      ⟨⟨(kbB r n).toArray⟩, ⟨(kbB s' m).toArray⟩, klt ((r : Int), (n : Int)) ((s' : Int), (m : Int)), fun p => (HX.out.below p.h).text (by have := HK.out; omega) (by have := HK.out; omega) (by omega) (by have := HN.out; omega),
        fun p => (HY.out.below p.h).text (by omega) (by omega) (by omega) (by have := HM.out; omega), by rw [ByteArray.toList_eq, ByteArray.toList_eq]; exact hor, kl⟩
    replace kl := hide kl
    have a0 : ∀ p : Bel w7, p.v.cell? ⟨w.heap.size, 0, none⟩ = some (.int .i64 r) := bel_cell HI.out.c.1
    have a1 : ∀ p : Bel w7, p.v.cell? ⟨w.heap.size, 1, none⟩ = some (.int .u64 n) := bel_cell HI.out.c.2.1
    have b0 : ∀ p : Bel w7, p.v.cell? ⟨w.heap.size + 1, 0, none⟩ = some (.int .i64 s') := bel_cell HJ.out.c.1
    have b1 : ∀ p : Bel w7, p.v.cell? ⟨w.heap.size + 1, 1, none⟩ = some (.int .u64 m) := bel_cell HJ.out.c.2.1
    haveI : Inhabited (Bel w7) := ⟨⟨w7, Below.refl _ _⟩⟩
    clear HI HJ HX HY HK HC hs
    go_wp2
    refine wp_region_bel (by assumption) (by kernel_rfl) ?_
    repeat (quiet_step ((go_at_call 11; exact bel_gr _ (kl.out _))))
    refine wpQuiet_nil ?_
    intro _ hw'
    obtain ⟨p, rfl⟩ := hw'
    go_wp2
    go_ret
    exact ⟨rfl, HB.out.trans (p.h.mono HB.out.size)⟩
  · refine (kBytes_bad s m W6 (HR.out.below HB.out) (ck_bad s m hk)).mono ?_; rintro e w7 ⟨rfl, hb⟩
    replace HB := hide (HB.out.trans (hb.mono HB.out.size))
    clear hb hk HI HJ HX
    haveI : Inhabited (Bel w7) := ⟨⟨w7, Below.refl _ _⟩⟩
    go_wp2
    refine wp_region_bel (by assumption) (by kernel_rfl) ?_
    repeat (first | go_big_quiet_step (fail) | quiet_step (fail))
    refine wpQuiet_nil ?_
    intro _ hw'
    obtain ⟨p, rfl⟩ := hw'
    go_wp2
    go_ret
    exact ⟨rfl, HB.out.trans (p.h.mono HB.out.size)⟩

end Go.Proofs.YtidgkaephikjaabDoor
