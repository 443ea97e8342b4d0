/- Package pack: First and Unpack, of any bytes and any kinds. -/
import Derived.Test.YtmhcmlegdoapdaaDoorRO
namespace Go.Proofs.YtmhcmlegdoapdaaDoor
open Go.RowKit

set_option maxHeartbeats 400000 in
theorem isKind_no (k : Int) (h : ¬ (1 ≤ k ∧ k ≤ 7)) (w : World) : Calls Tryd.prog 29 #[.int .i64 k] w fun e w' => e = .returned (.bool false) ∧ w' = w := by
  by_cases h1 : 1 ≤ k
  · have h7 : ¬ k ≤ 7 := fun h2 => h ⟨h1, h2⟩
    clear h
    go_enter Tryd.func29, Tryd.ntmps29
    go_wp2
    go_ret
    exact ⟨by simp, rfl⟩
  · clear h
    go_enter Tryd.func29, Tryd.ntmps29
    go_wp2
    go_ret
    exact ⟨by simp, rfl⟩

set_option maxHeartbeats 4000000 in
set_option maxRecDepth 100000 in
theorem first_any (ks l : List Int) (hks : ∀ k ∈ ks, 1 ≤ k ∧ k ≤ 7) (hn : ks.length ≤ 1000) (sb : Nat) (a : Option Addr) (cap : Nat) (ka : Option Addr) (kc : Nat) (w : World) (hR : Ranks w) (hB : Bys w sb a cap l)
    (hK : ∀ (j : Nat) (k : Int), ks[j]? = some k → ∃ kb ko, ka = some ⟨kb, ko, none⟩ ∧ w.cell? ⟨kb, ko + j, none⟩ = some (.int .i64 k)) :
    Calls Tryd.prog 20 #[.slice a l.length cap, .slice ka ks.length kc] w fun e w' => Told w (pfields ks l) e w' := by
  have hr := hide (readFields_any ks l hks hn sb a cap ka kc w hR hB hK)
  have HK := hide hK
  have HKS := hide hks
  clear hB hK hks hR
  go_enter Tryd.func20, Tryd.ntmps20
  go_wp2
  go_loop [11] (fun i => ∃ k : Nat, k ≤ ks.length ∧ i = .int .i64 (k : Int)) (fun i => ks.length - (intOf i).toNat)
  case atStart => exact ⟨0, by omega, rfl⟩
  case round =>
    obtain ⟨k, hk, rfl⟩ := hrel
    by_cases hlt : k < ks.length
    · obtain ⟨kb, ko, rfl, hkc⟩ := HK.out k _ (List.getElem?_eq_getElem hlt)
      obtain ⟨hq1, hq2⟩ := HKS.out _ (List.getElem_mem hlt)
      generalize ks[k] = q at hkc hq1 hq2
      go_wp2_with fail
      refine (isKind_yes q hq1 hq2 _).mono ?_; rintro e w1 ⟨rfl, rfl⟩
      go_wp2
      go_round
      case rel => exact ⟨k + 1, by omega, by go_num⟩
      case measure => simp [intOf]; omega
    · obtain rfl : k = ks.length := by omega
      go_wp2_with fail
      refine hr.out.mono ?_
      intro e w1 hE
      have H := hide hE
      rcases hp : pfields ks l with ⟨vs, n⟩ | ⟨i, er⟩
      · rw [hp] at hE
        obtain ⟨⟨fa, fc, rfl, h1⟩, h2⟩ := hE
        clear h1 h2 hr hp
        go_wp2
        go_ret3
        exact H.out
      · rw [hp] at hE
        obtain ⟨rfl, h2⟩ := hE
        clear h2 hr hp
        go_wp2
        go_ret3
        exact H.out

set_option maxHeartbeats 4000000 in
set_option maxRecDepth 100000 in
/-- A kind that is none. -/
theorem first_none (ks : List Int) (k0 : Nat) (hk0 : k0 < ks.length) (hks : ∀ j (hj : j < k0), 1 ≤ ks[j] ∧ ks[j] ≤ 7) (hbad : ¬ (1 ≤ ks[k0] ∧ ks[k0] ≤ 7)) (hn : ks.length ≤ 1000) (v : Value) (kb ko kc : Nat) (w : World)
    (hK : ∀ (j : Nat) (k : Int), ks[j]? = some k → w.cell? ⟨kb, ko + j, none⟩ = some (.int .i64 k)) :
    Calls Tryd.prog 20 #[v, .slice (some ⟨kb, ko, none⟩) ks.length kc] w fun e w' => e = .returned (.tuple #[.slice none 0 0, .int .i64 0, .int .i64 30]) ∧ w' = w := by
  have HK := hide hK
  have HKS := hide hks
  have HBAD := hide hbad
  clear hK hks hbad
  go_enter Tryd.func20, Tryd.ntmps20
  go_wp2
  go_loop [11] (fun i => ∃ k : Nat, k ≤ k0 ∧ i = .int .i64 (k : Int)) (fun i => ks.length - (intOf i).toNat)
  case atStart => exact ⟨0, by omega, rfl⟩
  case round =>
    obtain ⟨k, hk, rfl⟩ := hrel
    by_cases hlt : k < k0
    · have hkc := HK.out k _ (List.getElem?_eq_getElem (by omega))
      obtain ⟨hq1, hq2⟩ := HKS.out k hlt
      generalize ks[k] = q at hkc hq1 hq2
      go_wp2_with fail
      refine (isKind_yes q hq1 hq2 _).mono ?_; rintro e w1 ⟨rfl, rfl⟩
      go_wp2
      go_round
      case rel => exact ⟨k + 1, by omega, by go_num⟩
      case measure => simp [intOf]; omega
    · obtain rfl : k0 = k := by omega
      have hkc := HK.out k0 _ (List.getElem?_eq_getElem hk0)
      have hb := HBAD.out
      generalize ks[k0] = q at hkc hb
      go_wp2_with fail
      refine (isKind_no q hb _).mono ?_; rintro e w1 ⟨rfl, rfl⟩
      go_wp2
      go_ret3
      exact ⟨rfl, rfl⟩

end Go.Proofs.YtmhcmlegdoapdaaDoor
