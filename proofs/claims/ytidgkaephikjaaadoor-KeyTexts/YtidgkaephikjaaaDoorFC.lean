/- Package key: Parse, of the texts of keys. -/
import Derived.Test.YtidgkaephikjaaaDoorFB
import Derived.Test.YtidgkaephikjaaaDoorLP
import Derived.Shelf.Pu.ParseUintPublic10
namespace Go.Proofs.YtidgkaephikjaaaDoor
open Go.Shelf Go.RowKit Go.Lib Go.Sort

theorem dig_toNat (k : Nat) (h : k < 10) : (UInt8.ofNat (48 + k)).toNat = 48 + k := by
  rw [UInt8.toNat_ofNat']; exact Nat.mod_eq_of_lt (by omega)
theorem parse_dig (M u : Nat) (hu : u < 18446744073709551616) (hM : u ≤ M) : ∀ rest, Lib.parseUintM M 0 (Lib.decDigits u ++ rest) = Lib.parseUintM M u rest := by
  induction u using Nat.strongRecOn with
  | ind u ih =>
    intro rest
    rw [Lib.decDigits]
    by_cases h : u < 10
    · rw [dif_pos h, List.singleton_append, Lib.parseUintM, dig_toNat u h, if_pos (by omega), if_neg (by omega), if_neg (by omega)]
      congr 1; omega
    · rw [dif_neg h, List.append_assoc, ih (u / 10) (by omega) (by omega) (by omega), List.singleton_append, Lib.parseUintM, dig_toNat (u % 10) (by omega), if_pos (by omega), if_neg (by omega), if_neg (by omega)]
      congr 1; omega
theorem dec_ne (u : Nat) : Lib.decDigits u ≠ [] := by
  rw [Lib.decDigits]; split <;> simp
theorem parse_dec (u : Nat) (hu : u < 18446744073709551616) : Lib.parseUintB 64 (Lib.decDigits u) = .ok u := by
  unfold Lib.parseUintB
  rw [if_neg (dec_ne u)]
  have := parse_dig (2 ^ 64 - 1) u hu (by omega) []
  rw [List.append_nil] at this
  rw [this, Lib.parseUintM]
theorem dec_all (u : Nat) : ∀ c ∈ Lib.decDigits u, 48 ≤ c.toNat := by
  induction u using Nat.strongRecOn with
  | ind u ih =>
    intro c hc
    rw [Lib.decDigits] at hc
    by_cases h : u < 10
    · rw [dif_pos h] at hc
      rw [List.mem_singleton.1 hc, dig_toNat u h]; omega
    · rw [dif_neg h] at hc
      rcases List.mem_append.1 hc with h1 | h1
      · exact ih (u / 10) (by omega) c h1
      · rw [List.mem_singleton.1 h1, dig_toNat _ (by omega)]; omega
theorem dec_not (u : Nat) (c : UInt8) (hc : c.toNat < 48) : (⟨(Lib.decDigits u).toArray⟩ : ByteArray) ≠ ⟨#[c]⟩ := by
  intro e
  have e2 : (Lib.decDigits u).toArray = #[c] := congrArg ByteArray.data e
  have e3 : Lib.decDigits u = [c] := by have := congrArg Array.toList e2; simpa using this
  have := dec_all u c (by rw [e3]; exact List.mem_singleton.2 rfl)
  omega

set_option maxHeartbeats 2000000 in
set_option maxRecDepth 100000 in
theorem kParse_low (w : World) (hR : Ranks w) :
    Calls Tryd.prog 31 #[.string ⟨#[45]⟩] w fun e w' => e = .returned (.tuple #[(.agg #[.int .i64 (1), .int .u64 (0)]), .int .i64 0]) ∧ RowKit.Below w.heap.size w w' := by
  have HI := hide (Is2.new w (.int .i64 0) (.int .u64 0))
  have HG := hide (show Gr w (w.alloc (.cells #[.int .i64 0, .int .u64 0] 25)) from (Gr.refl w).alloc _)
  obtain ⟨h0, h1, h2, h3, h4, h5⟩ := hR.gr HG.out
  go_enter Tryd.func31, Tryd.ntmps31
  go_wp2
  clear h0 h1 h2 h3 h4 h5
  go_loopw [9] (fun i wr => i = .int .i64 0 ∧ Is2 wr w.heap.size (.int .i64 0) (.int .u64 0) ∧ Gr w wr) (fun i _ => 3 - (intOf i).toNat)
  case atStart => exact ⟨rfl, HI.out, HG.out⟩
  case round =>
    have x0 := rank0
    obtain ⟨rfl, I0, hg⟩ := hrel
    clear HI HG
    have HI := hide I0
    have HG := hide hg
    obtain ⟨a0, a1, f0, f1⟩ := I0.c
    have hlt := I0.lt
    clear I0 hg
    go_wp2
    (try simp only [Exit.inBlock, Exit.then])
    refine bodyPost_ret (res_key2 rfl _ _ w.heap.size _ _ _ rfl rfl ?_) rfl ⟨rfl, ?_⟩
    · repeat (first | exact HI.out.set _ _ | exact (HI.out.alloc _).set _ _ | apply Is2.alloc)
    · refine Gr.below ?_
      repeat (first | exact HG.out | (refine Gr.set ?_ _ _ _ (by omega)) | apply Gr.alloc)

set_option maxHeartbeats 2000000 in
set_option maxRecDepth 100000 in
theorem kParse_high (w : World) (hR : Ranks w) :
    Calls Tryd.prog 31 #[.string ⟨#[43]⟩] w fun e w' => e = .returned (.tuple #[(.agg #[.int .i64 (3), .int .u64 (0)]), .int .i64 0]) ∧ RowKit.Below w.heap.size w w' := by
  have HI := hide (Is2.new w (.int .i64 0) (.int .u64 0))
  have HG := hide (show Gr w (w.alloc (.cells #[.int .i64 0, .int .u64 0] 25)) from (Gr.refl w).alloc _)
  obtain ⟨h0, h1, h2, h3, h4, h5⟩ := hR.gr HG.out
  go_enter Tryd.func31, Tryd.ntmps31
  go_wp2
  clear h0 h1 h2 h3 h4 h5
  go_loopw [9] (fun i wr => (i = .int .i64 0 ∨ i = .int .i64 1 ∨ i = .int .i64 2) ∧ Is2 wr w.heap.size (.int .i64 0) (.int .u64 0) ∧ Gr w wr) (fun i _ => 3 - (intOf i).toNat)
  case atStart => exact ⟨Or.inl rfl, HI.out, HG.out⟩
  case round =>
    have x0 := rank0
    have x1 := rank1
    have x2 := rank2
    obtain ⟨hi, I0, hg⟩ := hrel
    clear HI HG
    have HI := hide I0
    have HG := hide hg
    obtain ⟨a0, a1, f0, f1⟩ := I0.c
    have hlt := I0.lt
    clear I0 hg
    rcases hi with rfl | rfl | rfl
    · go_wp2
      go_roundw
      case rel => exact ⟨Or.inr (Or.inl rfl), HI.out.alloc _, HG.out.alloc _⟩
      case measure => simp [intOf]
    · go_wp2
      go_roundw
      case rel => exact ⟨Or.inr (Or.inr rfl), HI.out.alloc _, HG.out.alloc _⟩
      case measure => simp [intOf]
    · go_wp2
      (try simp only [Exit.inBlock, Exit.then])
      refine bodyPost_ret (res_key2 rfl _ _ w.heap.size _ _ _ rfl rfl ?_) rfl ⟨rfl, ?_⟩
      · repeat (first | exact HI.out.set _ _ | exact (HI.out.alloc _).set _ _ | apply Is2.alloc)
      · refine Gr.below ?_
        repeat (first | exact HG.out | (refine Gr.set ?_ _ _ _ (by omega)) | apply Gr.alloc)

end Go.Proofs.YtidgkaephikjaaaDoor
