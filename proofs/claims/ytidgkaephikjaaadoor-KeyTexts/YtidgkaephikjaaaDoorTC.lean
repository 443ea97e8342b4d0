/- The document's Parse. -/
import Derived.Test.YtidgkaephikjaaaDoorTA
import Derived.Test.YtidgkaephikjaaaDoorF
import Derived.Test.YtidgkaephikjaaaDoorH
namespace Go.Proofs.YtidgkaephikjaaaDoor
open Go.RowKit

/-- What the document's Parse reckons of bytes. -/
def nf (l : List UInt8) : Nat := l.foldl (fun a c => (a * 10 + (c.toNat + 208) % 256) % 18446744073709551616) 0
theorem nf_snoc (l : List UInt8) (c : UInt8) : nf (l ++ [c]) = (nf l * 10 + (c.toNat + 208) % 256) % 18446744073709551616 := by simp [nf, List.foldl_append]
theorem nf_lt (l : List UInt8) : nf l < 18446744073709551616 := by
  rcases List.eq_nil_or_concat l with rfl | ⟨l', c, rfl⟩
  · simp [nf]
  · rw [List.concat_eq_append, nf_snoc]; exact Nat.mod_lt _ (by omega)
theorem nf_dec (u : Nat) (hu : u < 18446744073709551616) : nf (Lib.decDigits u) = u := by
  induction u using Nat.strongRecOn with
  | ind u ih =>
    rw [Lib.decDigits]
    by_cases h : u < 10
    · rw [dif_pos h]
      simp only [nf, List.foldl_cons, List.foldl_nil]
      rw [UInt8.toNat_ofNat']; omega
    · rw [dif_neg h, nf_snoc, ih (u / 10) (by omega) (by omega), UInt8.toNat_ofNat']; omega
theorem take_snoc (s : ByteArray) (k : Nat) (h : k < s.size) : s.data.toList.take (k + 1) = s.data.toList.take k ++ [s[k]] := by
  rw [List.take_succ_eq_append_getElem (by simpa using h)]; rfl

theorem step_nf (a c : Nat) : IntKind.u64.wrap (IntKind.u64.wrap ((a : Int) * 10) + ((c : Int) - 48) % 256) = (((a * 10 + (c + 208) % 256) % 18446744073709551616 : Nat) : Int) := by
  rw [IntKind.wrap_u64, IntKind.wrap_u64]; omega

set_option maxHeartbeats 4000000 in
set_option maxRecDepth 100000 in
theorem rParse_num (s : ByteArray) (hs : s.size ≤ 300) (q1 : ¬ s.toList = [45]) (q2 : ¬ s.toList = [43]) (hl : s.size ≤ 20) (hd : Lib.decDigits (nf s.data.toList) = s.data.toList) (w : World) :
    Calls Tryd.prog 32 #[.string s] w fun e w' => e = .returned (.tuple #[(.agg #[.int .i64 (2), .int .u64 ((nf s.data.toList : Int))]), .int .i64 0]) ∧ Gr w w' := by
  have HI := hide (Is2.new w (.int .i64 0) (.int .u64 0))
  have HG := hide (show Gr w (w.alloc (.cells #[.int .i64 0, .int .u64 0] 25)) from (Gr.refl w).alloc _)
  have q1' : (s.toList == [45]) = false := by simpa using q1
  have q2' : (s.toList == [43]) = false := by simpa using q2
  clear q1 q2
  go_enter Tryd.func32, Tryd.ntmps32
  go_wp2
  go_loop [4, 5] (fun n i => ∃ k : Nat, k ≤ s.size ∧ k ≤ 20 ∧ i = .int .i64 (k : Int) ∧ n = .int .u64 (nf (s.data.toList.take k) : Int)) (fun _ i => 20 - (intOf i).toNat)
  case atStart => exact ⟨0, by omega, by omega, rfl, rfl⟩
  case round =>
    obtain ⟨k, hk, hk2, rfl, rfl⟩ := hrel
    have hb := nf_lt (s.data.toList.take k)
    by_cases hlt : k < s.size ∧ k < 20
    · obtain ⟨hlt, hlt2⟩ := hlt
      have HS := hide (nf_snoc (s.data.toList.take k) s[k])
      have hts := hide (take_snoc s k hlt)
      have hst := hide (step_nf (nf (s.data.toList.take k)) s[k].toNat)
      go_wp2
      go_round
      case rel => exact ⟨k + 1, by omega, by omega, by go_num, by rw [hst.out, hts.out, HS.out]⟩
      case measure => simp [intOf]; omega
    · have hk' : k = s.size := by omega
      subst hk'
      have hdg := rDigits_any (nf (s.data.toList.take s.size)) hb (w.alloc (.cells #[.int .i64 0, .int .u64 0] 25))
      have ht : s.data.toList.take s.size = s.data.toList := List.take_of_length_le (by simp)
      have ex : (⟨(Lib.decDigits (nf (s.data.toList.take s.size))).toArray⟩ : ByteArray) = s := by rw [ht, hd]
      rw [ex] at hdg
      have HT := hide ht
      clear ht ex hd
      go_wp2_with fail
      refine hdg.mono ?_
      rintro e w2 ⟨rfl, hg⟩
      replace HI := hide (HI.out.gr hg)
      replace HG := hide (HG.out.trans hg)
      clear hg hdg
      have ha := fun w => rAt_any (nf (s.data.toList.take s.size)) w
      replace ha := hide ha
      go_wp2_with fail
      refine (ha.out w2).mono ?_
      rintro e w3 ⟨rfl, hg⟩
      replace HI := hide (HI.out.gr hg)
      replace HG := hide (HG.out.trans hg)
      clear hg ha
      obtain ⟨a0, a1, f0, f1⟩ := HI.out.c
      have hlt := HI.out.lt
      go_wp2
      rw [HT.out]
      exact bodyPost_ret (res_key2 rfl _ _ w.heap.size _ _ _ rfl rfl (HI.out.set _ _)) rfl ⟨rfl, (HG.out.set _ _ _ (by omega)).set _ _ _ (by omega)⟩

set_option maxHeartbeats 4000000 in
set_option maxRecDepth 100000 in
theorem rParse_not (s : ByteArray) (hs : s.size ≤ 300) (q1 : ¬ s.toList = [45]) (q2 : ¬ s.toList = [43]) (hl : s.size ≤ 20) (hd : ¬ Lib.decDigits (nf s.data.toList) = s.data.toList) (w : World) :
    Calls Tryd.prog 32 #[.string s] w fun e w' => e = .returned (.tuple #[(.agg #[.int .i64 (0), .int .u64 (0)]), .int .i64 20]) ∧ Gr w w' := by
  have HI := hide (Is2.new w (.int .i64 0) (.int .u64 0))
  have HG := hide (show Gr w (w.alloc (.cells #[.int .i64 0, .int .u64 0] 25)) from (Gr.refl w).alloc _)
  have q1' : (s.toList == [45]) = false := by simpa using q1
  have q2' : (s.toList == [43]) = false := by simpa using q2
  clear q1 q2
  go_enter Tryd.func32, Tryd.ntmps32
  go_wp2
  go_loop [4, 5] (fun n i => ∃ k : Nat, k ≤ s.size ∧ k ≤ 20 ∧ i = .int .i64 (k : Int) ∧ n = .int .u64 (nf (s.data.toList.take k) : Int)) (fun _ i => 20 - (intOf i).toNat)
  case atStart => exact ⟨0, by omega, by omega, rfl, rfl⟩
  case round =>
    obtain ⟨k, hk, hk2, rfl, rfl⟩ := hrel
    have hb := nf_lt (s.data.toList.take k)
    by_cases hlt : k < s.size ∧ k < 20
    · obtain ⟨hlt, hlt2⟩ := hlt
      have HS := hide (nf_snoc (s.data.toList.take k) s[k])
      have hts := hide (take_snoc s k hlt)
      have hst := hide (step_nf (nf (s.data.toList.take k)) s[k].toNat)
      go_wp2
      go_round
      case rel => exact ⟨k + 1, by omega, by omega, by go_num, by rw [hst.out, hts.out, HS.out]⟩
      case measure => simp [intOf]; omega
    · have hk' : k = s.size := by omega
      subst hk'
      have hdg := rDigits_any (nf (s.data.toList.take s.size)) hb (w.alloc (.cells #[.int .i64 0, .int .u64 0] 25))
      have ht : s.data.toList.take s.size = s.data.toList := List.take_of_length_le (by simp)
      have ex : ¬ (⟨(Lib.decDigits (nf (s.data.toList.take s.size))).toArray⟩ : ByteArray).toList = s.toList := by rw [ht, ByteArray.toList_eq, ByteArray.toList_eq]; exact hd
      have ex' : ((⟨(Lib.decDigits (nf (s.data.toList.take s.size))).toArray⟩ : ByteArray).toList == s.toList) = false := by simpa using ex
      generalize (⟨(Lib.decDigits (nf (s.data.toList.take s.size))).toArray⟩ : ByteArray) = D at hdg ex ex'
      clear ht hd
      go_wp2_with fail
      refine hdg.mono ?_
      rintro e w2 ⟨rfl, hg⟩
      replace HI := hide (HI.out.gr hg)
      replace HG := hide (HG.out.trans hg)
      clear hg hdg
      obtain ⟨a0, a1, f0, f1⟩ := HI.out.c
      have hlt := HI.out.lt
      go_wp2
      exact bodyPost_ret (res_key2 rfl _ _ w.heap.size _ _ _ rfl rfl (HI.out.set _ _)) rfl ⟨rfl, (HG.out.set _ _ _ (by omega)).set _ _ _ (by omega)⟩

set_option maxHeartbeats 4000000 in
set_option maxRecDepth 100000 in
theorem rParse_long (s : ByteArray) (hs : s.size ≤ 300) (q1 : ¬ s.toList = [45]) (q2 : ¬ s.toList = [43]) (hl : 20 < s.size) (w : World) :
    Calls Tryd.prog 32 #[.string s] w fun e w' => e = .returned (.tuple #[(.agg #[.int .i64 (0), .int .u64 (0)]), .int .i64 20]) ∧ Gr w w' := by
  have HI := hide (Is2.new w (.int .i64 0) (.int .u64 0))
  have HG := hide (show Gr w (w.alloc (.cells #[.int .i64 0, .int .u64 0] 25)) from (Gr.refl w).alloc _)
  have q1' : (s.toList == [45]) = false := by simpa using q1
  have q2' : (s.toList == [43]) = false := by simpa using q2
  clear q1 q2
  go_enter Tryd.func32, Tryd.ntmps32
  go_wp2
  go_loop [4, 5] (fun n i => ∃ k : Nat, k ≤ s.size ∧ k ≤ 20 ∧ i = .int .i64 (k : Int) ∧ n = .int .u64 (nf (s.data.toList.take k) : Int)) (fun _ i => 20 - (intOf i).toNat)
  case atStart => exact ⟨0, by omega, by omega, rfl, rfl⟩
  case round =>
    obtain ⟨k, hk, hk2, rfl, rfl⟩ := hrel
    have hb := nf_lt (s.data.toList.take k)
    by_cases hlt : k < s.size ∧ k < 20
    · obtain ⟨hlt, hlt2⟩ := hlt
      have HS := hide (nf_snoc (s.data.toList.take k) s[k])
      have hts := hide (take_snoc s k hlt)
      have hst := hide (step_nf (nf (s.data.toList.take k)) s[k].toNat)
      go_wp2
      go_round
      case rel => exact ⟨k + 1, by omega, by omega, by go_num, by rw [hst.out, hts.out, HS.out]⟩
      case measure => simp [intOf]; omega
    · have hk' : k = 20 := by omega
      subst hk'
      obtain ⟨a0, a1, f0, f1⟩ := HI.out.c
      go_wp2
      exact bodyPost_ret (res_key2 rfl _ _ w.heap.size _ _ _ rfl rfl HI.out) rfl ⟨rfl, HG.out⟩

set_option maxHeartbeats 2000000 in
set_option maxRecDepth 100000 in
theorem rParse_low (w : World) :
    Calls Tryd.prog 32 #[.string ⟨#[45]⟩] w fun e w' => e = .returned (.tuple #[(.agg #[.int .i64 (1), .int .u64 (0)]), .int .i64 0]) ∧ Gr w w' := by
  go_enter Tryd.func32, Tryd.ntmps32
  go_wp2
  exact bodyPost_ret (res_key2 rfl _ _ w.heap.size _ _ _ rfl rfl (Is2.new w _ _)) rfl ⟨rfl, (Gr.refl w).alloc _⟩

set_option maxHeartbeats 2000000 in
set_option maxRecDepth 100000 in
theorem rParse_high (w : World) :
    Calls Tryd.prog 32 #[.string ⟨#[43]⟩] w fun e w' => e = .returned (.tuple #[(.agg #[.int .i64 (3), .int .u64 (0)]), .int .i64 0]) ∧ Gr w w' := by
  go_enter Tryd.func32, Tryd.ntmps32
  go_wp2
  exact bodyPost_ret (res_key2 rfl _ _ w.heap.size _ _ _ rfl rfl (Is2.new w _ _)) rfl ⟨rfl, (Gr.refl w).alloc _⟩

end Go.Proofs.YtidgkaephikjaaaDoor
