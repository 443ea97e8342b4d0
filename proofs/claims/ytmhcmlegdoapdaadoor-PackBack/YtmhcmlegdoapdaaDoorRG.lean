/- Package pack: numbers of so many bytes, rows and keys, read of any bytes. -/
import Derived.Test.YtmhcmlegdoapdaaDoorRE
namespace Go.Proofs.YtmhcmlegdoapdaaDoor
open Go.RowKit

/-- The number of bytes, the highest first. -/
def hval (l : List Int) : Int := l.foldl (fun x c => x * 256 + c) 0
theorem hval_snoc (l : List Int) (c : Int) : hval (l ++ [c]) = hval l * 256 + c := by unfold hval; rw [List.foldl_append]; rfl
theorem hval_bd (l : List Int) (h : ∀ c ∈ l, 0 ≤ c ∧ c < 256) : 0 ≤ hval l ∧ hval l < 256 ^ l.length := by
  rw [← List.reverse_reverse l] at h ⊢
  generalize l.reverse = r at h ⊢
  induction r with
  | nil => simp [hval]
  | cons c r ih =>
    rw [List.reverse_cons] at h ⊢
    have h1 := ih (fun x hx => h x (List.mem_append_left _ hx))
    have h2 := h c (List.mem_append_right _ (List.mem_singleton.2 rfl))
    rw [hval_snoc, List.length_append, List.length_singleton, Int.pow_succ]
    omega
theorem orb (a b : Int) (h0 : 0 ≤ a) (h1 : a < 18446744073709551616) (hm : a % 256 = 0) (h2 : 0 ≤ b) (h3 : b < 256) : bits .or .u64 a b = a + b :=
  bits_join .u64 64 (by decide) (fun n h1 h2 => by rw [IntKind.wrap_u64]; omega) 8 a b h0 (by simpa using hm) (by simpa using h1) h2 (by simpa using h3) (by simp; omega)
theorem pow_le8 (k : Nat) (h : k < 8) : (256 : Int) ^ k ≤ 72057594037927936 := by
  have : ∀ k, k < 8 → (256 : Int) ^ k ≤ 72057594037927936 := by decide
  exact this k h
/-- A number of n bytes. -/
def phigh (n : Nat) (l : List Int) : PR Int := if n ≤ l.length then .ok (hval (l.take n)) n else .bad l.length 32
theorem Src.none0 {w : World} {R cap : Nat} {l : List Int} (h : Src w R none cap l) : l = [] := by
  rcases h with ⟨_, h, _⟩ | ⟨b, o, h, _⟩
  · exact h
  · cases h

set_option maxHeartbeats 2000000 in
set_option maxRecDepth 100000 in
theorem high_any {sb : Nat} (n : Nat) (hn8 : n ≤ 8) (R : Nat) (l : List Int) (at' : Int) (fl : Value) (w : World) (h : Lft w R sb l at' fl) :
    Calls Tryd.prog 80 #[.pointer (some ⟨R, 0, none⟩), .int .i64 (n : Int)] w fun e w' => Post w R sb l at' fl (fun x : Int => .int .u64 x) (phigh n l) e w' := by
  have ht := hide (take_any R n l at' fl w h)
  have HBD := hide h.bd
  clear h
  go_enter Tryd.func80, Tryd.ntmps80
  go_wp2_with fail
  refine ht.out.mono ?_
  rintro e w1 (⟨hn, ⟨a, cap, rfl, hc1, hc2, hz, hs⟩, hl, hg⟩ | ⟨hn, rfl, hg⟩)
  · have HP := hide (show phigh n l = .ok (hval (l.take n)) n from if_pos hn)
    have HL := hide hl
    have HG := hide hg
    have hlt : (l.take n).length = n := by rw [List.length_take]; omega
    have HB2 := hide (show ∀ c ∈ l.take n, 0 ≤ c ∧ c < 256 from fun c hc => HBD.out c (List.mem_of_mem_take hc))
    have HS := hide hs
    clear hl hg ht hs HBD hz
    go_wp2
    go_loop [5, 12] (fun v i => ∃ k : Nat, k ≤ n ∧ i = .int .i64 (k : Int) ∧ v = .int .u64 (hval ((l.take n).take k))) (fun _ i => n - (intOf i).toNat)
    case atStart => exact ⟨0, by omega, rfl, rfl⟩
    case round =>
      obtain ⟨k, hk, rfl, rfl⟩ := hrel
      by_cases hkn : k < n
      · obtain ⟨b, o, rfl, hne, hbl, hcell⟩ : ∃ b o, a = some ⟨b, o, none⟩ ∧ b ≠ R ∧ b < w1.heap.size ∧ ∀ j (hj : j < (l.take n).length), w1.cell? ⟨b, o + j, none⟩ = some (.int .u8 (l.take n)[j]) := by
          rcases HS.out with ⟨_, h, _⟩ | h
          · rw [h] at hlt; simp at hlt; omega
          · exact h
        have hc := hcell k (by omega)
        have hcb := HB2.out _ (List.getElem_mem (show k < (l.take n).length by omega))
        have hsn := hide (show hval ((l.take n).take (k + 1)) = hval ((l.take n).take k) * 256 + (l.take n)[k] from by rw [List.take_succ_eq_append_getElem (by omega), hval_snoc])
        have hxb := hval_bd ((l.take n).take k) (fun c hc => HB2.out c (List.mem_of_mem_take hc))
        rw [List.length_take, hlt, Nat.min_eq_left (by omega)] at hxb
        have hp8 := pow_le8 k (by omega)
        generalize (l.take n)[k] = c at hc hcb hsn
        generalize hval ((l.take n).take k) = X at hxb hsn ⊢
        have hw1 : IntKind.u64.wrap (X * 256) = X * 256 := by rw [IntKind.wrap_u64]; omega
        have hw2 : IntKind.u64.wrap c = c := by rw [IntKind.wrap_u64]; omega
        have hor : bits .or .u64 (X * 256) c = X * 256 + c := orb _ _ (by omega) (by omega) (by omega) hcb.1 hcb.2
        clear hcell hxb hp8
        go_wp2
        go_round
        case rel => exact ⟨k + 1, by omega, by go_num, by rw [hsn.out]⟩
        case measure => simp [intOf]; omega
      · obtain rfl : n = k := by omega
        have HT := hide (show (l.take n).take n = l.take n from List.take_of_length_le (by omega))
        go_wp2
        rw [HT.out]
        go_ret
        exact Post.okI _ n HP.out rfl hn HL.out HG.out
  · have HP := hide (show phigh n l = .bad l.length 32 from if_neg (by omega))
    exact ⟨rfl, Post.badI l.length 32 HP.out rfl hg⟩

/-- A row. -/
def prow (l : List Int) : PR (List Int) := match pnum 65536 0 0 l with
  | .ok x n => if x ≤ (l.drop n).length then .ok ((l.drop n).take x) (n + x) else .bad (n + (l.drop n).length) 32
  | .bad i e => .bad i e
/-- What a call leaves that reads a row. -/
def PostR (w : World) (R sb : Nat) (l : List Int) (at' : Int) (fl : Value) (p : PR (List Int)) (e : Ending) (w' : World) : Prop :=
  (match p with
    | .ok x n => (∃ g c, e = .returned (.slice (some ⟨g, 0, none⟩) x.length c) ∧ w.heap.size ≤ g ∧ w'.ownsRow w.heap.size 5 1 (.slice (some ⟨g, 0, none⟩) x.length c) x.length (u8s x)) ∧ x.length ≤ 65536 ∧ n ≤ l.length ∧ Lft w' R sb (l.drop n) (at' + (n : Int)) fl
    | .bad i er => e = .panicked (flt (at' + (i : Int)) er)) ∧ w.grownBy w' (some R)
theorem cap_int : ((65536 : Nat) : Int) = 65536 := by decide
theorem Lft.below {sb : Nat} {w w' : World} {R : Nat} {l : List Int} {at' : Int} {fl : Value} (h : Lft w R sb l at' fl) (hb : RowKit.Below w.heap.size w w') : Lft w' R sb l at' fl := by
  obtain ⟨a, cap, h, h1, h2, h3, h4, h5, hz, h6⟩ := h
  refine ⟨a, cap, IsB.setB h hb, h1, h2, h3, h4, h5, hz, ?_⟩
  rcases h6 with h6 | ⟨b, o, g1, g2, g3, g4⟩
  · exact Or.inl h6
  · exact Or.inr ⟨b, o, g1, g2, Nat.lt_of_lt_of_le g3 hb.size, fun j hj => (hb.cell (by exact g3)).trans (g4 j hj)⟩
theorem pnum_n (most : Nat) : ∀ (l : List Int) (k m : Nat) (x n : Nat), pnum most k m l = .ok x n → n ≤ k + l.length ∧ k ≤ n := by
  intro l
  induction l with
  | nil => intro k m x n h; rw [pnum_nil] at h; cases h
  | cons c r ih =>
    intro k m x n h
    by_cases hc : decide (c ≤ (((most - m) / 2 ^ (7 * k) : Nat) : Int)) = true ∧ (c ≠ 0 ∨ k = 0)
    · by_cases h128 : c < 128
      · rw [pnum_end most k m c r hc h128] at h
        cases h; rw [List.length_cons]; omega
      · rw [pnum_more most k m c r hc h128] at h
        have := ih _ _ x n h
        rw [List.length_cons]; omega
    · rw [pnum_bad most k m c r hc] at h; cases h
theorem pnum_pos (most : Nat) : ∀ (l : List Int) (k m : Nat) (x n : Nat), pnum most k m l = .ok x n → k + 1 ≤ n := by
  intro l
  induction l with
  | nil => intro k m x n h; rw [pnum_nil] at h; cases h
  | cons c r ih =>
    intro k m x n h
    by_cases hc : decide (c ≤ (((most - m) / 2 ^ (7 * k) : Nat) : Int)) = true ∧ (c ≠ 0 ∨ k = 0)
    · by_cases h128 : c < 128
      · rw [pnum_end most k m c r hc h128] at h
        cases h; omega
      · rw [pnum_more most k m c r hc h128] at h
        have := ih _ _ x n h
        omega
    · rw [pnum_bad most k m c r hc] at h; cases h
theorem slice_nil0 (w : World) : (binOp .eql 25 (.slice none 0 0) (.slice none 0 0)).run Tryd.prog w = .ok (.bool true) w := by kernel_rfl

theorem src_some {w : World} {R cap : Nat} {a : Option Addr} {l : List Int} (h : Src w R a cap l) (hn : a ≠ none) : ∃ b o, a = some ⟨b, o, none⟩ ∧ b ≠ R ∧ b < w.heap.size ∧ ∀ j (hj : j < l.length), w.cell? ⟨b, o + j, none⟩ = some (.int .u8 l[j]) := by
  rcases h with ⟨h, _⟩ | h
  · exact absurd h hn
  · exact h

set_option maxHeartbeats 4000000 in
set_option maxRecDepth 100000 in
theorem row_any {sb : Nat} (R : Nat) (l : List Int) (at' : Int) (fl : Value) (w : World) (h : Lft w R sb l at' fl) :
    Calls Tryd.prog 68 #[.pointer (some ⟨R, 0, none⟩)] w fun e w' => PostR w R sb l at' fl (prow l) e w' := by
  have mixed : Tryd.prog.follows .mixedOrders = true := by kernel_rfl
  have hn := number_any 65536 (by decide) R l at' fl w.drew h.drew
  rw [cap_int] at hn
  have hle := pnum_le 65536 l 0 0
  have hpn := pnum_n 65536 l 0 0
  have hbd := h.bd
  have hat := h.at0
  have HPR : prow l = match pnum 65536 0 0 l with
    | .ok x n => if x ≤ (l.drop n).length then .ok ((l.drop n).take x) (n + x) else .bad (n + (l.drop n).length) 32
    | .bad i e => .bad i e := rfl
  replace hn := hide hn
  clear h
  rcases hp : pnum 65536 0 0 l with ⟨x, n⟩ | ⟨i, er⟩
  · have hx : x ≤ 65536 := hle x n hbd (by omega) hp
    have hnl := hpn x n hp
    have hn1 := pnum_pos 65536 l 0 0 x n hp
    rw [hp] at HPR
    simp only [] at HPR
    replace hp := hide hp
    have hwl : IntKind.i64.wrap (x : Int) = (x : Int) := by rw [IntKind.wrap_i64]; omega
    clear hle hpn hbd
    by_cases hxl : x ≤ (l.drop n).length
    · rw [if_pos hxl] at HPR
      have hlt := hide (show ((l.drop n).take x).length = x by rw [List.length_take]; omega)
      have hdl : (l.drop n).length = l.length - n := List.length_drop
      have HPF := hide (show ∀ (g c : Nat) {W : World}, w.heap.size ≤ g → W.ownsRow w.heap.size 5 1 (.slice (some ⟨g, 0, none⟩) x c) x (u8s ((l.drop n).take x)) → Lft W R sb ((l.drop n).drop x) (at' + (n : Int) + (x : Int)) fl → w.grownBy W (some R) → PostR w R sb l at' fl (prow l) (.returned (.slice (some ⟨g, 0, none⟩) x c)) W from by
        intro g c W h1 h2 h3 h4
        rw [HPR]
        refine ⟨⟨⟨g, c, by rw [hlt.out], h1, by rw [hlt.out]; exact h2⟩, by rw [hlt.out]; exact hx, by omega, ?_⟩, h4⟩
        rw [← List.drop_drop, Int.natCast_add, ← Int.add_assoc]
        exact h3)
      clear HPR hdl
      go_enter Tryd.func68, Tryd.ntmps68
      go_wp2
      refine wp_region_held_drew (S := (fun _ => True)) (by assumption) trivial (fun hHeld => ?_)
      refine take_yes (v := ?_) 0 (some 3) rfl rfl (by kernel_rfl) (by kernel_rfl) (by kernel_rfl) (fun _ _ _ h => h) (by rfl) ?_ trivial ?_
      rotate_left
      · intro w' hSw
        go_simp
        try with_reducible rfl
      try simp only [Act.put, List.setIfInBounds_toArray, List.set_cons_zero, List.set_cons_succ]
      refine take_yes (v := ?_) 1 (some 4) rfl rfl (by kernel_rfl) (by kernel_rfl) (by kernel_rfl) (fun _ _ _ h => h) (by rfl) ?_ trivial ?_
      rotate_left
      · intro w' hSw
        go_simp
        try with_reducible rfl
      try simp only [Act.put, List.setIfInBounds_toArray, List.set_cons_zero, List.set_cons_succ]
      refine take_yes (v := ?_) 2 (some 5) rfl rfl (by kernel_rfl) (by kernel_rfl) (by kernel_rfl) (fun _ _ _ h => h) (by rfl) ?_ trivial ?_
      rotate_left
      · intro w' hSw
        go_simp
        try with_reducible rfl
      try simp only [Act.put, List.setIfInBounds_toArray, List.set_cons_zero, List.set_cons_succ]
      refine take_yes (v := ?_) 3 (some 6) rfl rfl (by kernel_rfl) (by kernel_rfl) (by kernel_rfl) (fun _ _ _ h => h) (by rfl) ?_ trivial ?_
      rotate_left
      · intro w' hSw
        go_simp
        try with_reducible rfl
      try simp only [Act.put, List.setIfInBounds_toArray, List.set_cons_zero, List.set_cons_succ]
      refine wpAnyH_ready (rs := [4]) (by kernel_rfl) (by simp) ?_
      refine AllReadyH.cons rfl (fun K hK => ?_) AllReadyH.nil
      go_simp
      go_at_call 65
      refine hn.out.mono ?_
      intro e w1 hE
      unfold Post at hE
      rw [hp.out] at hE
      obtain ⟨⟨rfl, h1, h2⟩, hg⟩ := hE
      have H2 := hide h2
      have HG := hide (grown_trans (grown_of_gr ((Gr.refl w).drew) (some R)) hg)
      clear h2 hg
      first | refine hK.out _ _ trivial (fun _ => ?_) | (go_wp2_with fail; refine hK.out _ _ trivial (fun _ => ?_))
      clear hK K
      refine take_yes (v := ?_) 5 (some 8) rfl rfl (by kernel_rfl) (by kernel_rfl) (by kernel_rfl) (fun _ _ _ h => h) (by rfl) ?_ trivial ?_
      rotate_left
      · intro w' hSw
        go_simp
        try with_reducible rfl
      try simp only [Act.put, List.setIfInBounds_toArray, List.set_cons_zero, List.set_cons_succ]
      refine wpAnyH_ready (rs := [6]) (by kernel_rfl) (by simp) ?_
      refine AllReadyH.cons rfl (fun K hK => ?_) AllReadyH.nil
      go_simp
      go_at_call 79
      refine (take_any R x (l.drop n) (at' + (n : Int)) fl _ H2.out).mono ?_
      rintro e w2 (⟨hn, ⟨a, cap, rfl, hc1, hc2, hz, hs⟩, hl, hg2⟩ | ⟨hn, _⟩)
      · have HL2 := hide hl
        have HG2 := hide (grown_trans HG.out hg2)
        have HS := hide hs
        clear hl hg2 hs
        first | refine hK.out _ _ trivial (fun _ => ?_) | (go_wp2_with fail; refine hK.out _ _ trivial (fun _ => ?_))
        clear hK K
        obtain ⟨b, o, rfl, hne, hbl, hcell⟩ := src_some HS.out (fun hh => by have := hz hh; omega)
        refine wpAnyH_ready (rs := [7]) (by kernel_rfl) (by simp) ?_
        refine AllReadyH.cons rfl (fun K hK => ?_) AllReadyH.nil
        go_simp
        go_at_call 78
        have hck := clone_ok b o cap ((l.drop n).take x) (by rw [List.length_take]; omega) w2 hcell
        rw [hlt.out] at hck
        refine hck.mono ?_
        rintro e w3 ⟨g, c, rfl, hgl, hown, hb⟩
        have H3 := hide (HL2.out.below hb)
        have HG3 := hide (grown_trans HG2.out (grown_of_below hb _))
        have HO := hide (owns_base HG2.out.size hown)
        have HGL := hide (Nat.le_trans HG2.out.size hgl)
        clear hgl hown hb hcell
        first | refine hK.out _ _ trivial (fun _ => ?_) | (go_wp2_with fail; refine hK.out _ _ trivial (fun _ => ?_))
        clear hK K
        refine take_yes (v := ?_) 8 (some 2) rfl rfl (by kernel_rfl) (by kernel_rfl) (by kernel_rfl) (fun _ _ _ h => h) (by rfl) ?_ trivial ?_
        rotate_left
        · intro w' hSw
          go_simp
          try with_reducible rfl
        try simp only [Act.put, List.setIfInBounds_toArray, List.set_cons_zero, List.set_cons_succ]
        refine wpAnyH_done (by kernel_rfl) ?_ _
        go_wp2
        go_ret
        exact HPF.out g c HGL.out HO.out H3.out HG3.out
      · exact absurd hn (by omega)
    · rw [if_neg hxl] at HPR
      have HPF := hide (show ∀ (e : Ending) (W : World), e = .panicked (flt (at' + ((n + (l.drop n).length : Nat) : Int)) 32) → w.grownBy W (some R) → PostR w R sb l at' fl (prow l) e W from by
        intro e W h1 h2
        rw [HPR]
        exact ⟨h1, h2⟩)
      clear HPR
      go_enter Tryd.func68, Tryd.ntmps68
      go_wp2
      refine wp_region_held_drew (S := (fun _ => True)) (by assumption) trivial (fun hHeld => ?_)
      refine take_yes (v := ?_) 0 (some 3) rfl rfl (by kernel_rfl) (by kernel_rfl) (by kernel_rfl) (fun _ _ _ h => h) (by rfl) ?_ trivial ?_
      rotate_left
      · intro w' hSw
        go_simp
        try with_reducible rfl
      try simp only [Act.put, List.setIfInBounds_toArray, List.set_cons_zero, List.set_cons_succ]
      refine take_yes (v := ?_) 1 (some 4) rfl rfl (by kernel_rfl) (by kernel_rfl) (by kernel_rfl) (fun _ _ _ h => h) (by rfl) ?_ trivial ?_
      rotate_left
      · intro w' hSw
        go_simp
        try with_reducible rfl
      try simp only [Act.put, List.setIfInBounds_toArray, List.set_cons_zero, List.set_cons_succ]
      refine take_yes (v := ?_) 2 (some 5) rfl rfl (by kernel_rfl) (by kernel_rfl) (by kernel_rfl) (fun _ _ _ h => h) (by rfl) ?_ trivial ?_
      rotate_left
      · intro w' hSw
        go_simp
        try with_reducible rfl
      try simp only [Act.put, List.setIfInBounds_toArray, List.set_cons_zero, List.set_cons_succ]
      refine take_yes (v := ?_) 3 (some 6) rfl rfl (by kernel_rfl) (by kernel_rfl) (by kernel_rfl) (fun _ _ _ h => h) (by rfl) ?_ trivial ?_
      rotate_left
      · intro w' hSw
        go_simp
        try with_reducible rfl
      try simp only [Act.put, List.setIfInBounds_toArray, List.set_cons_zero, List.set_cons_succ]
      refine wpAnyH_ready (rs := [4]) (by kernel_rfl) (by simp) ?_
      refine AllReadyH.cons rfl (fun K hK => ?_) AllReadyH.nil
      go_simp
      go_at_call 65
      refine hn.out.mono ?_
      intro e w1 hE
      unfold Post at hE
      rw [hp.out] at hE
      obtain ⟨⟨rfl, h1, h2⟩, hg⟩ := hE
      have H2 := hide h2
      have HG := hide (grown_trans (grown_of_gr ((Gr.refl w).drew) (some R)) hg)
      clear h2 hg
      first | refine hK.out _ _ trivial (fun _ => ?_) | (go_wp2_with fail; refine hK.out _ _ trivial (fun _ => ?_))
      clear hK K
      refine take_yes (v := ?_) 5 (some 8) rfl rfl (by kernel_rfl) (by kernel_rfl) (by kernel_rfl) (fun _ _ _ h => h) (by rfl) ?_ trivial ?_
      rotate_left
      · intro w' hSw
        go_simp
        try with_reducible rfl
      try simp only [Act.put, List.setIfInBounds_toArray, List.set_cons_zero, List.set_cons_succ]
      refine wpAnyH_ready (rs := [6]) (by kernel_rfl) (by simp) ?_
      refine AllReadyH.cons rfl (fun K hK => ?_) AllReadyH.nil
      go_simp
      go_at_call 79
      refine (take_any R x (l.drop n) (at' + (n : Int)) fl _ H2.out).mono ?_
      rintro e w2 (⟨hn, _⟩ | ⟨hn, rfl, hg2⟩)
      · exact absurd hn (by omega)
      · exact ⟨rfl, HPF.out _ _ (by rw [Int.natCast_add, ← Int.add_assoc]) (grown_trans HG.out hg2)⟩
  · rw [hp] at HPR
    replace hp := hide hp
    have HPF := hide (show ∀ (e : Ending) (W : World), e = .panicked (flt (at' + (i : Int)) er) → w.grownBy W (some R) → PostR w R sb l at' fl (prow l) e W from by
      intro e W h1 h2
      rw [HPR]
      exact ⟨h1, h2⟩)
    clear HPR hle hpn hbd
    go_enter Tryd.func68, Tryd.ntmps68
    go_wp2
    refine wp_region_held_drew (S := (fun _ => True)) (by assumption) trivial (fun hHeld => ?_)
    refine take_yes (v := ?_) 0 (some 3) rfl rfl (by kernel_rfl) (by kernel_rfl) (by kernel_rfl) (fun _ _ _ h => h) (by rfl) ?_ trivial ?_
    rotate_left
    · intro w' hSw
      go_simp
      try with_reducible rfl
    try simp only [Act.put, List.setIfInBounds_toArray, List.set_cons_zero, List.set_cons_succ]
    refine take_yes (v := ?_) 1 (some 4) rfl rfl (by kernel_rfl) (by kernel_rfl) (by kernel_rfl) (fun _ _ _ h => h) (by rfl) ?_ trivial ?_
    rotate_left
    · intro w' hSw
      go_simp
      try with_reducible rfl
    try simp only [Act.put, List.setIfInBounds_toArray, List.set_cons_zero, List.set_cons_succ]
    refine take_yes (v := ?_) 2 (some 5) rfl rfl (by kernel_rfl) (by kernel_rfl) (by kernel_rfl) (fun _ _ _ h => h) (by rfl) ?_ trivial ?_
    rotate_left
    · intro w' hSw
      go_simp
      try with_reducible rfl
    try simp only [Act.put, List.setIfInBounds_toArray, List.set_cons_zero, List.set_cons_succ]
    refine take_yes (v := ?_) 3 (some 6) rfl rfl (by kernel_rfl) (by kernel_rfl) (by kernel_rfl) (fun _ _ _ h => h) (by rfl) ?_ trivial ?_
    rotate_left
    · intro w' hSw
      go_simp
      try with_reducible rfl
    try simp only [Act.put, List.setIfInBounds_toArray, List.set_cons_zero, List.set_cons_succ]
    refine wpAnyH_ready (rs := [4]) (by kernel_rfl) (by simp) ?_
    refine AllReadyH.cons rfl (fun K hK => ?_) AllReadyH.nil
    go_simp
    go_at_call 65
    refine hn.out.mono ?_
    intro e w1 hE
    unfold Post at hE
    rw [hp.out] at hE
    obtain ⟨rfl, hg⟩ := hE
    exact ⟨rfl, HPF.out _ _ rfl (grown_trans (grown_of_gr ((Gr.refl w).drew) _) hg)⟩

end Go.Proofs.YtmhcmlegdoapdaaDoor
