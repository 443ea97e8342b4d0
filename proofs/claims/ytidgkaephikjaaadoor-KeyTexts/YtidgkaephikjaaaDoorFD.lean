/- Package key: Parse, of the digits of a number. -/
import Derived.Test.YtidgkaephikjaaaDoorFC
import Derived.Lib.AtoiErrMem
namespace Go.Proofs.YtidgkaephikjaaaDoor
open Go.Shelf Go.RowKit Go.Lib Go.Sort

theorem Is2.setB {w w' : World} {b : Nat} {x y : Value} (h : Is2 w b x y) (hb : RowKit.Below w.heap.size w w') : Is2 w' b x y := (hb.block b h.lt).trans h

theorem dec_notL (u : Nat) (c : UInt8) (hc : c.toNat < 48) : ¬ (⟨(Lib.decDigits u).toArray⟩ : ByteArray).toList = [c] := by
  rw [ByteArray.toList_eq]
  intro e
  have e3 : Lib.decDigits u = [c] := e
  have := dec_all u c (by rw [e3]; exact List.mem_singleton.2 rfl)
  omega

set_option maxHeartbeats 4000000 in
set_option maxRecDepth 100000 in
theorem kParse_num (u : Nat) (hu : u < 18446744073709551616) (w : World) (hR : Ranks w) (hP : Pows w) :
    Calls Tryd.prog 31 #[.string ⟨(Lib.decDigits u).toArray⟩] w fun e w' => e = .returned (.tuple #[(.agg #[.int .i64 (2), .int .u64 ((u : Int))]), .int .i64 0]) ∧ RowKit.Below w.heap.size w w' := by
  have q1 : ¬ (⟨(Lib.decDigits u).toArray⟩ : ByteArray).toList = [45] := dec_notL u 45 (by decide)
  have q2 : ¬ (⟨(Lib.decDigits u).toArray⟩ : ByteArray).toList = [43] := dec_notL u 43 (by decide)
  have q3 : ¬ (⟨(Lib.decDigits u).toArray⟩ : ByteArray).toList = [] := by rw [ByteArray.toList_eq]; exact dec_ne u
  have hpu := fun w => Any.strconv_ParseUint_10_at64_ok Tryd.pu14 ⟨(Lib.decDigits u).toArray⟩ (by
    show (Lib.decDigits u).toArray.size ≤ _
    rw [List.size_toArray, Lib.decDigits_length]
    rcases Nat.eq_zero_or_pos u with h | h
    · subst h; rw [Lib.nDigits_small (by omega)]; first | decide | omega | (unfold maxLen; omega)
    · have := Lib.numDigits_eq u h hu; split at this <;> omega) u (by simpa using parse_dec u hu) w
  change ∀ w, Calls Tryd.prog 48 _ w _ at hpu
  have hfm := fun w h => fmt_any u hu w h
  generalize (⟨(Lib.decDigits u).toArray⟩ : ByteArray) = s at *
  have HPU := hide hpu
  have HFM := hide hfm
  have HI := hide (Is2.new w (.int .i64 0) (.int .u64 0))
  have HG := hide (show Gr w (w.alloc (.cells #[.int .i64 0, .int .u64 0] 25)) from (Gr.refl w).alloc _)
  have HP := hide hP
  obtain ⟨h0, h1, h2, h3, h4, h5⟩ := hR.gr HG.out
  clear hpu hfm hP hR hu
  go_enter Tryd.func31, Tryd.ntmps31
  go_wp2
  clear h0 h1 h2 h3 h4 h5
  go_loopw [9] (fun i wr => (i = .int .i64 0 ∨ i = .int .i64 1 ∨ i = .int .i64 2 ∨ i = .int .i64 3) ∧ Is2 wr w.heap.size (.int .i64 0) (.int .u64 0) ∧ Gr w wr) (fun i _ => 3 - (intOf i).toNat)
  case atStart => exact ⟨Or.inl rfl, HI.out, HG.out⟩
  case round =>
    have x0 := rank0
    have x1 := rank1
    have x2 := rank2
    obtain ⟨hi, I0, hg⟩ := hrel
    clear HI HG
    have HI := hide I0
    have HG := hide hg
    obtain ⟨a0, a1, f0, f1⟩ := I0.c
    have hlt := I0.lt
    clear I0 hg
    rcases hi with rfl | rfl | rfl | rfl
    · go_wp2
      go_roundw
      case rel => exact ⟨Or.inr (Or.inl rfl), HI.out.alloc _, HG.out.alloc _⟩
      case measure => simp [intOf]
    · go_wp2
      go_roundw
      case rel => exact ⟨Or.inr (Or.inr (Or.inl rfl)), HI.out.alloc _, HG.out.alloc _⟩
      case measure => simp [intOf]
    · go_wp2
      go_roundw
      case rel => exact ⟨Or.inr (Or.inr (Or.inr rfl)), HI.out.alloc _, HG.out.alloc _⟩
      case measure => simp [intOf]
    · go_wp2_with fail
      refine (HPU.out wr).mono ?_
      intro e w2 hE
      obtain ⟨he, hw2⟩ := hE
      subst he
      have hb2 : RowKit.Below wr.heap.size wr w2 := by
        rcases hw2 with rfl | rfl
        · exact Below.refl _ _
        · exact Lib.bytesWorld_below _ _ _
      have HB := hide (show RowKit.Below w.heap.size w w2 from HG.out.below.trans (hb2.mono HG.out.le))
      replace HI := hide (HI.out.setB hb2)
      clear a0 a1 f0 f1 hlt hb2 hw2 HG
      go_wp2_with fail
      refine (HFM.out w2 (HP.out.below HB.out)).mono ?_
      rintro e w3 ⟨rfl, hg⟩
      replace HB := hide (show RowKit.Below w.heap.size w w3 from HB.out.trans (hg.below.mono HB.out.size))
      replace HI := hide (HI.out.gr hg)
      obtain ⟨a0, a1, f0, f1⟩ := HI.out.c
      have hlt := HI.out.lt
      clear hg
      go_wp2
      (try simp only [Exit.inBlock, Exit.then])
      refine bodyPost_ret (res_key2 rfl _ _ w.heap.size _ _ _ rfl rfl ?_) rfl ⟨rfl, ?_⟩
      · repeat (first | exact HI.out.set _ _ | exact (HI.out.alloc _).set _ _ | apply Is2.alloc)
      · repeat (first | exact HB.out | (refine Below.setCell ?_ (by simp) _) | (refine Below.alloc ?_ (by first | exact HB.out.size | (simp; omega)) _))

end Go.Proofs.YtidgkaephikjaaaDoor
