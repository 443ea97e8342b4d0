/- Unpack, by the program and by the document, of any bytes; kinds that are none. -/
import Derived.Test.YtmhcmlegdoapdaaDoorWB
import Derived.Test.YtmhcmlegdoapdaaDoorRP
namespace Go.Proofs.YtmhcmlegdoapdaaDoor
open Go.RowKit

theorem prow_err (l : List Int) (i : Nat) (e : Int) (h : prow l = .bad i e) : e ≠ 0 := by
  unfold prow at h
  rcases hp : pnum 65536 0 0 l with ⟨x, n⟩ | ⟨j, er⟩
  · rw [hp] at h
    simp only [] at h
    split at h
    · cases h
    · cases h; decide
  · rw [hp] at h; cases h; exact pnum_err _ _ _ _ _ _ hp
theorem ptruth_err (l : List Int) (i : Nat) (e : Int) (h : ptruth l = .bad i e) : e ≠ 0 := by
  rcases l with _ | ⟨c, l⟩
  · cases h; decide
  · by_cases hr : c ≤ 1
    · have : ptruth (c :: l) = .ok (decide (c = 1)) 1 := if_pos hr
      rw [this] at h; cases h
    · have : ptruth (c :: l) = .bad 0 31 := if_neg hr
      rw [this] at h; cases h; decide
theorem pref_err (l : List Int) (i : Nat) (e : Int) (h : pref l = .bad i e) : e ≠ 0 := by
  unfold pref at h
  rcases h1 : pwhole l with ⟨x, n⟩ | ⟨j, er⟩
  · rw [h1] at h
    simp only [] at h
    rcases h2 : pkey (l.drop n) with ⟨y, n2⟩ | ⟨j, er⟩
    · rw [h2] at h
      simp only [] at h
      rcases h3 : pvec ((l.drop n).drop n2) with ⟨z, n3⟩ | ⟨j, er⟩
      · rw [h3] at h; cases h
      · rw [h3] at h; cases h; exact pvec_err _ _ _ h3
    · rw [h2] at h; cases h; exact pkey_err _ _ _ h2
  · rw [h1] at h; cases h; exact pwhole_err _ _ _ h1
theorem map_bad {α β : Type} (f : α → β) (p : PR α) (i : Nat) (e : Int) (h : p.map f = .bad i e) : p = .bad i e := by
  cases p with
  | ok x n => cases h
  | bad j er => cases h; rfl
theorem pfield_err (k : Int) (l : List Int) (i : Nat) (e : Int) (h : pfield k l = .bad i e) : e ≠ 0 := by
  unfold pfield at h
  split at h
  · exact pnum_err _ _ _ _ _ _ (map_bad _ _ _ _ h)
  split at h
  · exact pwhole_err _ _ _ (map_bad _ _ _ _ h)
  split at h
  · exact ptruth_err _ _ _ (map_bad _ _ _ _ h)
  split at h
  · exact prow_err _ _ _ (map_bad _ _ _ _ h)
  split at h
  · exact pvec_err _ _ _ (map_bad _ _ _ _ h)
  split at h
  · exact pkey_err _ _ _ (map_bad _ _ _ _ h)
  · exact pref_err _ _ _ (map_bad _ _ _ _ h)
theorem pfields_err (ks : List Int) : ∀ (l : List Int) (i : Nat) (e : Int), pfields ks l = .bad i e → e ≠ 0 := by
  induction ks with
  | nil => intro l i e h; cases h
  | cons k ks ih =>
    intro l i e h
    unfold pfields at h
    rcases h1 : pfield k l with ⟨v, n⟩ | ⟨j, er⟩
    · rw [h1] at h
      simp only [] at h
      rcases h2 : pfields ks (l.drop n) with ⟨us, m⟩ | ⟨j, er⟩
      · rw [h2] at h; cases h
      · rw [h2] at h; cases h; exact ih _ _ _ h2
    · rw [h1] at h; cases h; exact pfield_err _ _ _ _ h1

/-- What Unpack tells. -/
def Unp (w : World) (p : PR (List FV)) (len : Nat) (e : Ending) (w' : World) : Prop :=
  (match p with
    | .ok vs n => (n < len ∧ e = .returned (.tuple #[.slice none 0 0, .int .i64 (n : Int), .int .i64 33])) ∨ (len ≤ n ∧ ∃ fa fc, e = .returned (.tuple #[.slice fa vs.length fc, .int .i64 0, .int .i64 0]) ∧ DReadTo w w' vs fa fc)
    | .bad i er => e = .returned (.tuple #[.slice none 0 0, .int .i64 (i : Int), .int .i64 er])) ∧ RowKit.Below w.heap.size w w'

set_option maxHeartbeats 4000000 in
set_option maxRecDepth 100000 in
theorem unpack_any (ks l : List Int) (hks : ∀ k ∈ ks, 1 ≤ k ∧ k ≤ 7) (hn : ks.length ≤ 1000) (sb : Nat) (a : Option Addr) (cap : Nat) (ka : Option Addr) (kc : Nat) (w : World) (hR : Ranks w) (hB : Bys w sb a cap l)
    (hK : ∀ (j : Nat) (k : Int), ks[j]? = some k → ∃ kb ko, ka = some ⟨kb, ko, none⟩ ∧ w.cell? ⟨kb, ko + j, none⟩ = some (.int .i64 k)) :
    Calls Tryd.prog 19 #[.slice a l.length cap, .slice ka ks.length kc] w fun e w' => Unp w (pfields ks l) l.length e w' := by
  have hr := hide (first_any ks l hks hn sb a cap ka kc w hR hB hK)
  have hbl := hB.2.2.1
  clear hB hK hks hR
  go_enter Tryd.func19, Tryd.ntmps19
  go_wp2_with fail
  refine hr.out.mono ?_
  intro e w1 hE
  rcases hp : pfields ks l with ⟨vs, n⟩ | ⟨i, er⟩
  · rw [hp] at hE
    obtain ⟨⟨fa, fc, rfl, h1⟩, h2⟩ := hE
    have H1 := hide h1.d
    have H2 := hide h2
    have HP := hide hp
    clear h1 h2 hr hp
    by_cases hlt : n < l.length
    · have hlt' : (n : Int) < (l.length : Int) := by omega
      have HL := hide hlt
      clear hlt
      go_wp2
      go_ret3
      rw [HP.out]
      exact ⟨Or.inl ⟨HL.out, rfl⟩, H2.out⟩
    · have hlt' : ¬ (n : Int) < (l.length : Int) := by omega
      have HL := hide hlt
      clear hlt
      go_wp2
      go_ret3
      rw [HP.out]
      exact ⟨Or.inr ⟨by have := HL.out; omega, fa, fc, rfl, H1.out⟩, H2.out⟩
  · rw [hp] at hE
    obtain ⟨rfl, h2⟩ := hE
    have H2 := hide h2
    have hne : (er != 0) = true := by simp [pfields_err ks l i er hp]
    have HP := hide hp
    clear h2 hr hp
    go_wp2
    go_ret3
    rw [HP.out]
    exact ⟨rfl, H2.out⟩

set_option maxHeartbeats 4000000 in
set_option maxRecDepth 100000 in
theorem runpack_any (ks l : List Int) (hks : ∀ k ∈ ks, 1 ≤ k ∧ k ≤ 7) (hn : ks.length ≤ 1000) (sb : Nat) (a : Option Addr) (cap : Nat) (ka : Option Addr) (kc : Nat) (w : World) (hB : Bys w sb a cap l)
    (hK : ∀ (j : Nat) (k : Int), ks[j]? = some k → ∃ kb ko, ka = some ⟨kb, ko, none⟩ ∧ w.cell? ⟨kb, ko + j, none⟩ = some (.int .i64 k)) :
    Calls Tryd.prog 23 #[.slice a l.length cap, .slice ka ks.length kc] w fun e w' => Unp w (pfields ks l) l.length e w' := by
  have hr := hide (rfirst_any ks l hks hn sb a cap ka kc w hB hK)
  have hbl := hB.2.2.1
  clear hB hK hks
  go_enter Tryd.func23, Tryd.ntmps23
  go_wp2_with fail
  refine hr.out.mono ?_
  intro e w1 hE
  rcases hp : pfields ks l with ⟨vs, n⟩ | ⟨i, er⟩
  · rw [hp] at hE
    obtain ⟨⟨fa, fc, rfl, h1⟩, h2⟩ := hE
    have H1 := hide h1
    have H2 := hide h2
    have HP := hide hp
    clear h1 h2 hr hp
    by_cases hlt : n < l.length
    · have hlt' : (n : Int) < (l.length : Int) := by omega
      have HL := hide hlt
      clear hlt
      go_wp2
      go_ret3
      rw [HP.out]
      exact ⟨Or.inl ⟨HL.out, rfl⟩, H2.out⟩
    · have hlt' : ¬ (n : Int) < (l.length : Int) := by omega
      have HL := hide hlt
      clear hlt
      go_wp2
      go_ret3
      rw [HP.out]
      exact ⟨Or.inr ⟨by have := HL.out; omega, fa, fc, rfl, H1.out⟩, H2.out⟩
  · rw [hp] at hE
    obtain ⟨⟨rfl, h3⟩, h2⟩ := hE
    have H2 := hide h2
    have hne : (er != 0) = true := by simp [h3]
    have HP := hide hp
    clear h2 hr hp h3
    go_wp2
    go_ret3
    rw [HP.out]
    exact ⟨rfl, H2.out⟩

set_option maxHeartbeats 4000000 in
set_option maxRecDepth 100000 in
theorem rfirst_none (ks : List Int) (k0 : Nat) (hk0 : k0 < ks.length) (hks : ∀ j (hj : j < k0), 1 ≤ ks[j] ∧ ks[j] ≤ 7) (hbad : ¬ (1 ≤ ks[k0] ∧ ks[k0] ≤ 7)) (hn : ks.length ≤ 1000) (v : Value) (kb ko kc : Nat) (w : World)
    (hK : ∀ (j : Nat) (k : Int), ks[j]? = some k → w.cell? ⟨kb, ko + j, none⟩ = some (.int .i64 k)) :
    Calls Tryd.prog 22 #[v, .slice (some ⟨kb, ko, none⟩) ks.length kc] w fun e w' => e = .returned (.tuple #[.slice none 0 0, .int .i64 0, .int .i64 30]) ∧ w' = w := by
  have HK := hide hK
  have HKS := hide hks
  have HBAD := hide hbad
  clear hK hks hbad
  go_enter Tryd.func22, Tryd.ntmps22
  go_wp2
  go_loop [7] (fun i => ∃ k : Nat, k ≤ k0 ∧ i = .int .i64 (k : Int)) (fun i => ks.length - (intOf i).toNat)
  case atStart => exact ⟨0, by omega, rfl⟩
  case round =>
    obtain ⟨k, hk, rfl⟩ := hrel
    by_cases hlt : k < k0
    · have hkc := HK.out k _ (List.getElem?_eq_getElem (by omega))
      obtain ⟨hq1, hq2⟩ := HKS.out k hlt
      generalize ks[k] = q at hkc hq1 hq2
      go_wp2_with fail
      refine (risKind_yes q hq1 hq2 _).mono ?_; rintro e w1 ⟨rfl, rfl⟩
      go_wp2
      go_round
      case rel => exact ⟨k + 1, by omega, by go_num⟩
      case measure => simp [intOf]; omega
    · obtain rfl : k0 = k := by omega
      have hkc := HK.out k0 _ (List.getElem?_eq_getElem hk0)
      have hb := HBAD.out
      generalize ks[k0] = q at hkc hb
      go_wp2_with fail
      refine (risKind_no q hb _).mono ?_; rintro e w1 ⟨rfl, rfl⟩
      go_wp2
      go_ret3
      exact ⟨rfl, rfl⟩

set_option maxHeartbeats 4000000 in
set_option maxRecDepth 100000 in
theorem unpack_none (a : Option Addr) (len cap : Nat) (v : Value) (w : World)
    (h : Calls Tryd.prog 20 #[.slice a len cap, v] w fun e w' => e = .returned (.tuple #[.slice none 0 0, .int .i64 0, .int .i64 30]) ∧ w' = w) :
    Calls Tryd.prog 19 #[.slice a len cap, v] w fun e w' => e = .returned (.tuple #[.slice none 0 0, .int .i64 0, .int .i64 30]) ∧ w' = w := by
  have hr := hide h
  clear h
  go_enter Tryd.func19, Tryd.ntmps19
  go_wp2_with fail
  refine hr.out.mono ?_
  rintro e w1 ⟨rfl, rfl⟩
  clear hr
  go_wp2
  go_ret3
  exact ⟨rfl, rfl⟩

set_option maxHeartbeats 4000000 in
set_option maxRecDepth 100000 in
theorem runpack_none (a : Option Addr) (len cap : Nat) (v : Value) (w : World)
    (h : Calls Tryd.prog 22 #[.slice a len cap, v] w fun e w' => e = .returned (.tuple #[.slice none 0 0, .int .i64 0, .int .i64 30]) ∧ w' = w) :
    Calls Tryd.prog 23 #[.slice a len cap, v] w fun e w' => e = .returned (.tuple #[.slice none 0 0, .int .i64 0, .int .i64 30]) ∧ w' = w := by
  have hr := hide h
  clear h
  go_enter Tryd.func23, Tryd.ntmps23
  go_wp2_with fail
  refine hr.out.mono ?_
  rintro e w1 ⟨rfl, rfl⟩
  clear hr
  go_wp2
  go_ret3
  exact ⟨rfl, rfl⟩

end Go.Proofs.YtmhcmlegdoapdaaDoor
