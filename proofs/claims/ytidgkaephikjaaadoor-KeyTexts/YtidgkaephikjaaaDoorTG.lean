/- Package key: Parse, of what is no key's text. -/
import Derived.Test.YtidgkaephikjaaaDoorFD
import Derived.Test.YtidgkaephikjaaaDoorTC
import Derived.Shelf.Pu.ParseUintPublic10
namespace Go.Proofs.YtidgkaephikjaaaDoor
open Go.Shelf Go.RowKit Go.Lib Go.Sort

/-- The two errors of strconv lie there. -/
def Errs (w : World) : Prop := (∃ t p, w.cell? ⟨2, 0, none⟩ = some (.iface t p)) ∧ (∃ t p, w.cell? ⟨3, 0, none⟩ = some (.iface t p))
theorem Errs.below {w w' : World} (h : Errs w) (hb : RowKit.Below w.heap.size w w') : Errs w' := by
  obtain ⟨⟨t, p, h0⟩, ⟨t', p', h1⟩⟩ := h
  exact ⟨⟨t, p, (hb.cell (lt_of_cell h0)).trans h0⟩, ⟨t', p', (hb.cell (lt_of_cell h1)).trans h1⟩⟩
theorem pu_le (M : Nat) : ∀ (l : List UInt8) (acc u : Nat), acc ≤ M → Lib.parseUintM M acc l = .ok u → u ≤ M
  | [], acc, u, h, e => by simp only [Lib.parseUintM] at e; cases e; exact h
  | c :: l, acc, u, h, e => by
    simp only [Lib.parseUintM] at e
    split at e
    · split at e
      · cases e
      · split at e
        · cases e
        · exact pu_le M l _ u (by omega) e
    · cases e
theorem pu_lt (l : List UInt8) (u : Nat) (h : Lib.parseUintB 64 l = .ok u) : u < 18446744073709551616 := by
  unfold Lib.parseUintB at h
  split at h
  · cases h
  · have := pu_le _ l 0 u (by omega) h
    omega

set_option maxHeartbeats 4000000 in
set_option maxRecDepth 100000 in
theorem kParse_bad (s : ByteArray) (hs : s.size ≤ 300) (q1 : ¬ s.toList = [45]) (q2 : ¬ s.toList = [43]) (hno : ∀ u, u < 18446744073709551616 → ¬ Lib.decDigits u = s.data.toList) (w : World) (hR : Ranks w) (hP : Pows w) (hE : Errs w) :
    Calls Tryd.prog 31 #[.string s] w fun e w' => e = .returned (.tuple #[(.agg #[.int .i64 (0), .int .u64 (0)]), .int .i64 20]) ∧ RowKit.Below w.heap.size w w' := by
  have HI := hide (Is2.new w (.int .i64 0) (.int .u64 0))
  have HG := hide (show Gr w (w.alloc (.cells #[.int .i64 0, .int .u64 0] 25)) from (Gr.refl w).alloc _)
  have HP := hide hP
  have HE := hide hE
  have HN := hide hno
  obtain ⟨h0, h1, h2, h3, h4, h5⟩ := hR.gr HG.out
  clear hP hR hE hno
  go_enter Tryd.func31, Tryd.ntmps31
  go_wp2
  clear h0 h1 h2 h3 h4 h5
  go_loopw [9] (fun i wr => (i = .int .i64 0 ∨ i = .int .i64 1 ∨ i = .int .i64 2 ∨ i = .int .i64 3) ∧ Is2 wr w.heap.size (.int .i64 0) (.int .u64 0) ∧ Gr w wr) (fun i _ => 3 - (intOf i).toNat)
  case atStart => exact ⟨Or.inl rfl, HI.out, HG.out⟩
  case round =>
    have x0 := rank0
    have x1 := rank1
    have x2 := rank2
    obtain ⟨hi, I0, hg⟩ := hrel
    clear HI HG
    have HI := hide I0
    have HG := hide hg
    obtain ⟨a0, a1, f0, f1⟩ := I0.c
    have hlt := I0.lt
    clear I0 hg
    rcases hi with rfl | rfl | rfl | rfl
    · go_wp2
      go_roundw
      case rel => exact ⟨Or.inr (Or.inl rfl), HI.out.alloc _, HG.out.alloc _⟩
      case measure => simp [intOf]
    · by_cases q3 : s.toList = []
      · go_wp2
        go_roundw
        case rel => exact ⟨Or.inr (Or.inr (Or.inl rfl)), HI.out.alloc _, HG.out.alloc _⟩
        case measure => simp [intOf]
      · go_wp2
        go_roundw
        case rel => exact ⟨Or.inr (Or.inr (Or.inl rfl)), HI.out.alloc _, HG.out.alloc _⟩
        case measure => simp [intOf]
    · go_wp2
      go_roundw
      case rel => exact ⟨Or.inr (Or.inr (Or.inr rfl)), HI.out.alloc _, HG.out.alloc _⟩
      case measure => simp [intOf]
    · cases hpz : Lib.parseUintB 64 s.data.toList with
      | ok u =>
        have hu := pu_lt _ u hpz
        have hpu := Any.strconv_ParseUint_10_at64_ok Tryd.pu14 s (by omega) u hpz wr
        change Calls Tryd.prog 48 _ wr _ at hpu
        have hfm := hide (fun w h => fmt_any u hu w h)
        have hD : ¬ (⟨(Lib.decDigits u).toArray⟩ : ByteArray).toList = s.toList := by rw [ByteArray.toList_eq, ByteArray.toList_eq]; exact HN.out u hu
        have hD' : ((⟨(Lib.decDigits u).toArray⟩ : ByteArray).toList == s.toList) = false := by simpa using hD
        generalize (⟨(Lib.decDigits u).toArray⟩ : ByteArray) = D at hfm hD hD'
        have HPU := hide hpu
        clear hpu hpz hu
        go_wp2_with fail
        refine HPU.out.mono ?_
        intro e w2 hE2
        obtain ⟨he, hw2⟩ := hE2
        subst he
        have hb2 : RowKit.Below wr.heap.size wr w2 := by
          rcases hw2 with rfl | rfl
          · exact Below.refl _ _
          · exact Lib.bytesWorld_below _ _ _
        have HB := hide (show RowKit.Below w.heap.size w w2 from HG.out.below.trans (hb2.mono HG.out.le))
        replace HI := hide (HI.out.setB hb2)
        clear a0 a1 f0 f1 hlt hb2 hw2 HG HPU
        go_wp2_with fail
        refine (hfm.out w2 (HP.out.below HB.out)).mono ?_
        rintro e w3 ⟨rfl, hg⟩
        replace HB := hide (show RowKit.Below w.heap.size w w3 from HB.out.trans (hg.below.mono HB.out.size))
        replace HI := hide (HI.out.gr hg)
        obtain ⟨a0, a1, f0, f1⟩ := HI.out.c
        have hlt := HI.out.lt
        clear hg
        go_wp2
        (try simp only [Exit.inBlock, Exit.then])
        refine bodyPost_ret (res_key2 rfl _ _ w.heap.size _ _ _ rfl rfl ?_) rfl ⟨rfl, ?_⟩
        · repeat (first | exact HI.out.set _ _ | exact (HI.out.alloc _).set _ _ | apply Is2.alloc)
        · repeat (first | exact HB.out | (refine Below.setCell ?_ (by simp) _) | (refine Below.alloc ?_ (by first | exact HB.out.size | (simp; omega)) _))
      | «syntax» =>
        obtain ⟨t, p, hv⟩ := (HE.out.below HG.out.below).1
        have hpu := Any.strconv_ParseUint_10_at64_syntax Tryd.pu14 s (by omega) hpz (.iface t p) wr hv (Or.inr ⟨t, p, rfl⟩)
        change Calls Tryd.prog 48 _ wr _ at hpu
        have HPU := hide hpu
        clear hpu hpz hv
        go_wp2_with fail
        refine HPU.out.mono ?_
        intro e w2 hE2
        obtain ⟨N, he, -, -, hb2⟩ := hE2
        subst he
        have HB := hide (show RowKit.Below w.heap.size w w2 from HG.out.below.trans (hb2.mono HG.out.le))
        replace HI := hide (HI.out.setB hb2)
        obtain ⟨b0, b1, g0, g1⟩ := HI.out.c
        have hlt2 := HI.out.lt
        clear a0 a1 f0 f1 hlt hb2 HG HPU
        go_wp2
        (try simp only [Exit.inBlock, Exit.then])
        refine bodyPost_ret (res_key2 rfl _ _ w.heap.size _ _ _ rfl rfl ?_) rfl ⟨rfl, ?_⟩
        · repeat (first | exact HI.out.set _ _ | exact (HI.out.alloc _).set _ _ | apply Is2.alloc)
        · repeat (first | exact HB.out | (refine Below.setCell ?_ (by simp) _) | (refine Below.alloc ?_ (by first | exact HB.out.size | (simp; omega)) _))
      | range =>
        obtain ⟨t, p, hv⟩ := (HE.out.below HG.out.below).2
        have hpu := Any.strconv_ParseUint_10_at64_range Tryd.pu14 s (by omega) hpz (.iface t p) wr hv (Or.inr ⟨t, p, rfl⟩)
        change Calls Tryd.prog 48 _ wr _ at hpu
        have HPU := hide hpu
        clear hpu hpz hv
        go_wp2_with fail
        refine HPU.out.mono ?_
        intro e w2 hE2
        obtain ⟨N, he, -, -, hb2⟩ := hE2
        subst he
        have HB := hide (show RowKit.Below w.heap.size w w2 from HG.out.below.trans (hb2.mono HG.out.le))
        replace HI := hide (HI.out.setB hb2)
        obtain ⟨b0, b1, g0, g1⟩ := HI.out.c
        have hlt2 := HI.out.lt
        clear a0 a1 f0 f1 hlt hb2 HG HPU
        go_wp2
        (try simp only [Exit.inBlock, Exit.then])
        refine bodyPost_ret (res_key2 rfl _ _ w.heap.size _ _ _ rfl rfl ?_) rfl ⟨rfl, ?_⟩
        · repeat (first | exact HI.out.set _ _ | exact (HI.out.alloc _).set _ _ | apply Is2.alloc)
        · repeat (first | exact HB.out | (refine Below.setCell ?_ (by simp) _) | (refine Below.alloc ?_ (by first | exact HB.out.size | (simp; omega)) _))

/-- Parse and the document's: the same, of every text of at most 300 bytes. -/
theorem parse_both (s : ByteArray) (hs : s.size ≤ 300) : ∃ (r n x : Int),
    (∀ w, Ranks w → Pows w → Errs w → Calls Tryd.prog 31 #[.string s] w fun e w' => e = .returned (.tuple #[(.agg #[.int .i64 (r), .int .u64 (n)]), .int .i64 x]) ∧ RowKit.Below w.heap.size w w') ∧
    (∀ w, Calls Tryd.prog 32 #[.string s] w fun e w' => e = .returned (.tuple #[(.agg #[.int .i64 (r), .int .u64 (n)]), .int .i64 x]) ∧ Gr w w') := by
  by_cases q1 : s.toList = [45]
  · obtain rfl : s = ⟨#[45]⟩ := ByteArray.ext (by rw [ByteArray.toList_eq] at q1; exact Array.toList_inj.1 q1)
    exact ⟨_, _, _, fun w hR _ _ => kParse_low w hR, fun w => rParse_low w⟩
  by_cases q2 : s.toList = [43]
  · obtain rfl : s = ⟨#[43]⟩ := ByteArray.ext (by rw [ByteArray.toList_eq] at q2; exact Array.toList_inj.1 q2)
    exact ⟨_, _, _, fun w hR _ _ => kParse_high w hR, fun w => rParse_high w⟩
  by_cases q3 : ∃ u, u < 18446744073709551616 ∧ Lib.decDigits u = s.data.toList
  · obtain ⟨u, hu, e⟩ := q3
    obtain rfl : s = ⟨(Lib.decDigits u).toArray⟩ := ByteArray.ext (Array.toList_inj.1 e.symm)
    have hn : nf (Lib.decDigits u) = u := nf_dec u hu
    have hr := fun w => rParse_num ⟨(Lib.decDigits u).toArray⟩ hs q1 q2 (by have := len_dec u hu; simpa [ByteArray.size] using this) (by rw [hn]) w
    rw [hn] at hr
    exact ⟨_, _, _, fun w hR hP _ => kParse_num u hu w hR hP, hr⟩
  · have hno : ∀ u, u < 18446744073709551616 → ¬ Lib.decDigits u = s.data.toList := fun u hu e => q3 ⟨u, hu, e⟩
    by_cases hl : s.size ≤ 20
    · exact ⟨_, _, _, fun w hR hP hE => kParse_bad s hs q1 q2 hno w hR hP hE, fun w => rParse_not s hs q1 q2 hl (hno _ (nf_lt _)) w⟩
    · exact ⟨_, _, _, fun w hR hP hE => kParse_bad s hs q1 q2 hno w hR hP hE, fun w => rParse_long s hs q1 q2 (by omega) w⟩

end Go.Proofs.YtidgkaephikjaaaDoor
