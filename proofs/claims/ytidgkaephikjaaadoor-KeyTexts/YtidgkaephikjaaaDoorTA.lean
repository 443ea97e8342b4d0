/- The document's digits of a number. -/
import Derived.Test.YtidgkaephikjaaaDoorA
import Derived.Lib.ItoaNum
import Derived.Lib.ItoaMem
namespace Go.Proofs.YtidgkaephikjaaaDoor
open Go.RowKit Go.Lib

/-- The last digit. -/
def dg (n : Nat) : UInt8 := UInt8.ofNat (48 + n % 10)
theorem dg_toNat (n : Nat) : (dg n).toNat = 48 + n % 10 := by unfold dg; rw [UInt8.toNat_ofNat']; exact Nat.mod_eq_of_lt (by omega)
/-- The digits that are still to come. -/
def toCome (n : Nat) : List UInt8 := if n = 0 then [] else Lib.decDigits n
theorem toCome_step (n : Nat) (h : 0 < n) : toCome n = toCome (n / 10) ++ [dg n] := by
  unfold toCome dg
  rw [if_neg (by omega), Lib.decDigits]
  by_cases h10 : n < 10
  · rw [dif_pos h10, if_pos (by omega), List.nil_append, Nat.mod_eq_of_lt h10]
  · rw [dif_neg h10, if_neg (by omega)]
theorem dec_step (n : Nat) : Lib.decDigits n = toCome (n / 10) ++ [dg n] := by
  rw [Lib.decDigits]
  unfold toCome dg
  by_cases h10 : n < 10
  · rw [dif_pos h10, if_pos (by omega), List.nil_append, Nat.mod_eq_of_lt h10]
  · rw [dif_neg h10, if_neg (by omega)]
theorem str_cons (c : UInt8) (l : List UInt8) : (⟨#[c]⟩ ++ ⟨l.toArray⟩ : ByteArray) = ⟨(c :: l).toArray⟩ := by
  apply ByteArray.ext; simp
theorem conv1 (w : World) (n : Nat) : (convert 41 9 (.slice (some ⟨w.heap.size, 0, none⟩) 1 1)).run Tryd.prog (w.alloc (.cells #[.int .u8 (48 + (n : Int) % 10)] 5)) = .ok (.string ⟨#[dg n]⟩) (w.alloc (.cells #[.int .u8 (48 + (n : Int) % 10)] 5)) := by
  have := run_convert_bytes_back (P := Tryd.prog) (w.alloc (.cells #[.int .u8 (48 + (n : Int) % 10)] 5)) 41 9 5 ⟨w.heap.size, 0, none⟩ 1 [dg n] Tryd.underlying41 Tryd.underlying5 Tryd.underlying9 (fun j hj => by
    have hj0 : j = 0 := by simpa using hj
    subst hj0
    simp [Addr.add, dg_toNat])
  exact this
theorem len_dec (u : Nat) (hu : u < 18446744073709551616) : (Lib.decDigits u).length ≤ 20 := by
  rw [Lib.decDigits_length]
  rcases Nat.eq_zero_or_pos u with h | h
  · subst h; rw [Lib.nDigits_small (by omega)]; omega
  · have := Lib.numDigits_eq u h hu; split at this <;> omega

set_option maxHeartbeats 2000000 in
theorem rDigits_any (u : Nat) (hu : u < 18446744073709551616) (w : World) :
    Calls Tryd.prog 47 #[.int .u64 u] w fun e w' => e = .returned (.string ⟨(Lib.decDigits u).toArray⟩) ∧ Gr w w' := by
  have hc := conv1 w u
  have hlen := len_dec u hu
  go_enter Tryd.func47, Tryd.ntmps47
  go_wp2
  clear hc
  go_loopw [0, 3] (fun a s wr => ∃ (n : Nat) (l : List UInt8), a = .int .u64 (n : Int) ∧ s = .string ⟨l.toArray⟩ ∧ toCome n ++ l = Lib.decDigits u ∧ n ≤ u ∧ Gr w wr) (fun a _ _ => (intOf a).toNat)
  case atStart => exact ⟨u / 10, [dg u], by simp, rfl, (dec_step u).symm, by omega, (Gr.refl w).alloc _⟩
  case round =>
    obtain ⟨n, l, rfl, rfl, hl, hnu, hg⟩ := hrel
    have HL := hide hl
    have HG := hide hg
    have hll : l.length ≤ 20 := by have := congrArg List.length hl; rw [List.length_append] at this; omega
    clear hl hg
    by_cases hz : 0 < n
    · have hc := conv1 wr n
      go_wp2
      go_roundw
      case rel => exact ⟨n / 10, dg n :: l, by simp, by rw [str_cons], by rw [← HL.out, toCome_step n hz, List.append_assoc]; rfl, by omega, HG.out.alloc _⟩
      case measure => simp [intOf]; omega
    · have hz' : n = 0 := by omega
      subst hz'
      go_wp2
      go_ret
      have hl := HL.out
      simp only [toCome, if_true, List.nil_append] at hl
      exact ⟨by rw [← hl]; rfl, HG.out⟩

end Go.Proofs.YtidgkaephikjaaaDoor
