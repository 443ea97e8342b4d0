/- Package pack: what is left of any bytes, read on, or not. -/
import Derived.Test.YtmhcmlegdoapdaaDoorQM
namespace Go.Proofs.YtmhcmlegdoapdaaDoor
open Go.RowKit

/-- The bytes lie there. -/
def Src (w : World) (R : Nat) (a : Option Addr) (cap : Nat) (l : List Int) : Prop :=
  (a = none ∧ l = [] ∧ cap = 0) ∨ ∃ b o, a = some ⟨b, o, none⟩ ∧ b ≠ R ∧ b < w.heap.size ∧ ∀ j (hj : j < l.length), w.cell? ⟨b, o + j, none⟩ = some (.int .u8 l[j])
theorem Src.kept {w w' : World} {R : Nat} {a : Option Addr} {cap : Nat} {l : List Int} (h : Src w R a cap l) (hg : w.grownBy w' (some R)) : Src w' R a cap l := by
  rcases h with h | ⟨b, o, h1, h2, h3, h4⟩
  · exact Or.inl h
  · exact Or.inr ⟨b, o, h1, h2, Nat.lt_of_lt_of_le h3 hg.size, fun j hj => hg.cell (h4 j hj) (by simpa using h2)⟩
/-- The reader in block R has these bytes before it; at' were taken; so far it has read fl. -/
def Lft (w : World) (R sb : Nat) (l : List Int) (at' : Int) (fl : Value) : Prop :=
  ∃ a cap, Rd w R a l.length cap at' fl ∧ l.length ≤ cap ∧ cap ≤ 9223372036854775807 ∧ 0 ≤ at' ∧ at' + l.length ≤ 1000000000 ∧ (∀ c ∈ l, 0 ≤ c ∧ c < 256) ∧ ((a = none → at' = 0) ∧ ∀ x, a = some x → x.block = sb) ∧ Src w R a cap l
theorem Lft.drew {sb : Nat} {w : World} {R : Nat} {l : List Int} {at' : Int} {fl : Value} (h : Lft w R sb l at' fl) : Lft w.drew R sb l at' fl := h
theorem Lft.lt {sb : Nat} {w : World} {R : Nat} {l : List Int} {at' : Int} {fl : Value} (h : Lft w R sb l at' fl) : R < w.heap.size := by
  obtain ⟨a, cap, h, _⟩ := h; exact h.lt
theorem Lft.gr {sb : Nat} {w w' : World} {R : Nat} {l : List Int} {at' : Int} {fl : Value} (h : Lft w R sb l at' fl) (hg : Gr w w') : Lft w' R sb l at' fl := by
  obtain ⟨a, cap, h, h1, h2, h3, h4, h5, hz, h6⟩ := h
  refine ⟨a, cap, IsB.gr h hg, h1, h2, h3, h4, h5, hz, ?_⟩
  rcases h6 with h6 | ⟨b, o, g1, g2, g3, g4⟩
  · exact Or.inl h6
  · exact Or.inr ⟨b, o, g1, g2, Nat.lt_of_lt_of_le g3 hg.le, fun j hj => hg.cell (by exact g3) (g4 j hj)⟩

set_option maxHeartbeats 2000000 in
set_option maxRecDepth 100000 in
theorem take_short (R len cap n : Nat) (a : Option Addr) (at' : Int) (h0 : 0 ≤ at') (h1 : at' + len ≤ 1000000000) (fl : Value) (w : World) (hR : Rd w R a len cap at' fl) (hn : len < n) :
    Calls Tryd.prog 79 #[.pointer (some ⟨R, 0, none⟩), .int .i64 (n : Int)] w fun e w' => e = .panicked (flt (at' + len) 32) ∧ w.grownBy w' (some R) := by
  have a0 : w.cell? ⟨R, 0, none⟩ = some (.slice a len cap) := hR.cell 0
  have a1 : w.cell? ⟨R, 1, none⟩ = some (.int .i64 at') := hR.cell 1
  have hl : (len : Int) < (n : Int) := by omega
  clear hR
  go_enter Tryd.func79, Tryd.ntmps79
  go_wp2
  have hw : IntKind.i64.wrap (at' + (len : Int)) = at' + (len : Int) := by rw [IntKind.wrap_i64]; omega
  refine wp_region_held_drew (S := (fun w' => w' = w.drew)) (by kernel_rfl) ?_ (fun hHeld => ?_)
  · try dsimp only
    try rfl
  refine take_yes (v := ?_) 0 (some 13) rfl rfl (by kernel_rfl) (by kernel_rfl) (by kernel_rfl) (fun _ _ _ h => h) (by rfl) ?_ (by assumption) ?_
  rotate_left
  · intro w hSw
    try dsimp only at hSw
    go_simp
    try with_reducible rfl
  try simp only [Act.put, List.setIfInBounds_toArray, List.set_cons_zero, List.set_cons_succ]
  refine take_yes (v := ?_) 1 (some 14) rfl rfl (by kernel_rfl) (by kernel_rfl) (by kernel_rfl) (fun _ _ _ h => h) (by rfl) ?_ (by assumption) ?_
  rotate_left
  · intro w hSw
    try dsimp only at hSw
    go_simp
    try with_reducible rfl
  try simp only [Act.put, List.setIfInBounds_toArray, List.set_cons_zero, List.set_cons_succ]
  refine take_yes (v := ?_) 2 (some 15) rfl rfl (by kernel_rfl) (by kernel_rfl) (by kernel_rfl) (fun _ _ _ h => h) (by rfl) ?_ (by assumption) ?_
  rotate_left
  · intro w hSw
    try dsimp only at hSw
    go_simp
    try with_reducible rfl
  try simp only [Act.put, List.setIfInBounds_toArray, List.set_cons_zero, List.set_cons_succ]
  refine take_yes (v := ?_) 3 (some 16) rfl rfl (by kernel_rfl) (by kernel_rfl) (by kernel_rfl) (fun _ _ _ h => h) (by rfl) ?_ (by assumption) ?_
  rotate_left
  · intro w hSw
    try dsimp only at hSw
    go_simp
    try with_reducible rfl
  try simp only [Act.put, List.setIfInBounds_toArray, List.set_cons_zero, List.set_cons_succ]
  refine take_yes (v := ?_) 4 (some 17) rfl rfl (by kernel_rfl) (by kernel_rfl) (by kernel_rfl) (fun _ _ _ h => h) (by rfl) ?_ (by assumption) ?_
  rotate_left
  · intro w hSw
    try dsimp only at hSw
    go_simp
    try with_reducible rfl
  try simp only [Act.put, List.setIfInBounds_toArray, List.set_cons_zero, List.set_cons_succ]
  refine take_yes (v := ?_) 5 (some 18) rfl rfl (by kernel_rfl) (by kernel_rfl) (by kernel_rfl) (fun _ _ _ h => h) (by rfl) ?_ (by assumption) ?_
  rotate_left
  · intro w hSw
    try dsimp only at hSw
    go_simp
    try with_reducible rfl
  try simp only [Act.put, List.setIfInBounds_toArray, List.set_cons_zero, List.set_cons_succ]
  refine take_yes (v := ?_) 6 (some 19) rfl rfl (by kernel_rfl) (by kernel_rfl) (by kernel_rfl) (fun _ _ _ h => h) (by rfl) ?_ (by assumption) ?_
  rotate_left
  · intro w hSw
    try dsimp only at hSw
    go_simp
    try with_reducible rfl
  try simp only [Act.put, List.setIfInBounds_toArray, List.set_cons_zero, List.set_cons_succ]
  refine take_yes (v := ?_) 7 (some 20) rfl rfl (by kernel_rfl) (by kernel_rfl) (by kernel_rfl) (fun _ _ _ h => h) (by rfl) ?_ (by assumption) ?_
  rotate_left
  · intro w hSw
    try dsimp only at hSw
    go_simp
    try with_reducible rfl
  try simp only [Act.put, List.setIfInBounds_toArray, List.set_cons_zero, List.set_cons_succ]
  refine take_yes (v := ?_) 8 (some 21) rfl rfl (by kernel_rfl) (by kernel_rfl) (by kernel_rfl) (fun _ _ _ h => h) (by rfl) ?_ (by assumption) ?_
  rotate_left
  · intro w hSw
    try dsimp only at hSw
    go_simp
    try with_reducible rfl
  try simp only [Act.put, List.setIfInBounds_toArray, List.set_cons_zero, List.set_cons_succ]
  refine take_yes (v := ?_) 9 (some 22) rfl rfl (by kernel_rfl) (by kernel_rfl) (by kernel_rfl) (fun _ _ _ h => h) (by rfl) ?_ (by assumption) ?_
  rotate_left
  · intro w hSw
    try dsimp only at hSw
    go_simp
    try with_reducible rfl
  try simp only [Act.put, List.setIfInBounds_toArray, List.set_cons_zero, List.set_cons_succ]
  refine take_yes (v := ?_) 10 (some 23) rfl rfl (by kernel_rfl) (by kernel_rfl) (by kernel_rfl) (fun _ _ _ h => h) (by rfl) ?_ (by assumption) ?_
  rotate_left
  · intro w hSw
    try dsimp only at hSw
    go_simp
    try with_reducible rfl
  try simp only [Act.put, List.setIfInBounds_toArray, List.set_cons_zero, List.set_cons_succ]
  refine take_yes (v := ?_) 11 (some 24) rfl rfl (by kernel_rfl) (by kernel_rfl) (by kernel_rfl) (fun _ _ _ h => h) (by rfl) ?_ (by assumption) ?_
  rotate_left
  · intro w hSw
    try dsimp only at hSw
    go_simp
    try with_reducible rfl
  try simp only [Act.put, List.setIfInBounds_toArray, List.set_cons_zero, List.set_cons_succ]
  refine wpAnyH_ready (rs := [12]) (by kernel_rfl) (by simp) ?_
  refine AllReadyH.cons rfl (fun K hK => ?_) AllReadyH.nil
  go_simp
  exact ⟨rfl, rfl, grown_of_gr ((Gr.refl w).drew) _⟩

set_option maxHeartbeats 2000000 in
set_option maxRecDepth 100000 in
theorem take_nil (R : Nat) (at' : Int) (h0 : 0 ≤ at') (h1 : at' ≤ 1000000000) (fl : Value) (w : World) (hR : Rd w R none 0 0 at' fl) :
    Calls Tryd.prog 79 #[.pointer (some ⟨R, 0, none⟩), .int .i64 0] w fun e w' => e = .returned (.slice none 0 0) ∧ Rd w' R none 0 0 at' fl ∧ w.grownBy w' (some R) := by
  have a0 : w.cell? ⟨R, 0, none⟩ = some (.slice none 0 0) := hR.cell 0
  have a1 : w.cell? ⟨R, 1, none⟩ = some (.int .i64 at') := hR.cell 1
  have f0 := hR.free 0
  have f1 := hR.free 1
  have HR := hide (hR.set01 (.slice none 0 0) (.int .i64 at'))
  have HG := hide (grown_set2 w R (.slice none 0 0) (.int .i64 at'))
  clear hR
  go_enter Tryd.func79, Tryd.ntmps79
  go_wp2
  go_region
  clear a0 a1 f0 f1
  go_wp2
  go_ret
  exact ⟨rfl, HR.out, grown_trans HG.out (grown_of_gr ((Gr.refl _).drew) _)⟩

/-- take, of any bytes. -/
theorem take_any {sb : Nat} (R n : Nat) (l : List Int) (at' : Int) (fl : Value) (w : World) (h : Lft w R sb l at' fl) :
    Calls Tryd.prog 79 #[.pointer (some ⟨R, 0, none⟩), .int .i64 (n : Int)] w fun e w' =>
      (n ≤ l.length ∧ (∃ a cap, e = .returned (.slice a n cap) ∧ n ≤ cap ∧ cap ≤ 9223372036854775807 ∧ (a = none → at' = 0) ∧ Src w' R a cap (l.take n)) ∧ Lft w' R sb (l.drop n) (at' + n) fl ∧ w.grownBy w' (some R)) ∨
      (l.length < n ∧ e = .panicked (flt (at' + l.length) 32) ∧ w.grownBy w' (some R)) := by
  obtain ⟨a, cap, h1, h2, h3, h4, h5, h6, hz, h7⟩ := h
  by_cases hn : l.length < n
  · refine (take_short R l.length cap n a at' h4 h5 fl w h1 hn).mono ?_
    rintro e w' ⟨rfl, hg⟩
    exact Or.inr ⟨hn, rfl, hg⟩
  · rcases h7 with ⟨rfl, rfl, rfl⟩ | ⟨b, o, rfl, g2, g3, g4⟩
    · obtain rfl : n = 0 := by simp at hn; omega
      refine (take_nil R at' h4 (by simp at h5; omega) fl w h1).mono ?_
      rintro e w' ⟨rfl, hr, hg⟩
      refine Or.inl ⟨by simp, ⟨none, 0, rfl, by omega, by omega, hz.1, Or.inl ⟨rfl, rfl, rfl⟩⟩, ⟨none, 0, by simpa using hr, by simp, by omega, by simpa using h4, by simpa using h5, by simp, ⟨(fun _ => by have := hz.1 rfl; simpa using this), (fun x hx => by cases hx)⟩, Or.inl ⟨rfl, rfl, rfl⟩⟩, hg⟩
    · refine (take_ok R l.length cap n b o at' h4 (by omega) fl w h1 (by omega) h2 (by omega)).mono ?_
      rintro e w' ⟨rfl, o', ho, hr, hg⟩
      have hs : ∀ j (hj : j < l.length), w'.cell? ⟨b, o + j, none⟩ = some (.int .u8 l[j]) := fun j hj => hg.cell (g4 j hj) (by simpa using g2)
      refine Or.inl ⟨by omega, ⟨_, _, rfl, by omega, h3, (fun h => by cases h), Or.inr ⟨b, o, rfl, g2, Nat.lt_of_lt_of_le g3 hg.size, fun j hj => ?_⟩⟩, ⟨some ⟨b, o', none⟩, cap - n, by rw [List.length_drop]; exact hr, by rw [List.length_drop]; omega, by omega, by omega, by rw [List.length_drop]; omega, fun c hc => h6 c (List.mem_of_mem_drop hc), ⟨(fun h => by cases h), (fun x hx => by cases hx; exact hz.2 ⟨b, o, none⟩ rfl)⟩, Or.inr ⟨b, o', rfl, g2, Nat.lt_of_lt_of_le g3 hg.size, fun j hj => ?_⟩⟩, hg⟩
      · rw [List.length_take] at hj
        rw [List.getElem_take]
        exact hs j (by omega)
      · rw [List.length_drop] at hj
        rw [List.getElem_drop, ho (by omega), Nat.add_assoc]
        exact hs (n + j) (by omega)

set_option maxHeartbeats 2000000 in
set_option maxRecDepth 100000 in
theorem one_none {sb : Nat} (R : Nat) (at' : Int) (fl : Value) (w : World) (h : Lft w R sb [] at' fl) :
    Calls Tryd.prog 75 #[.pointer (some ⟨R, 0, none⟩)] w fun e w' => e = .panicked (flt at' 32) ∧ w.grownBy w' (some R) := by
  have ht := hide (take_any R 1 [] at' fl w h)
  clear h
  go_enter Tryd.func75, Tryd.ntmps75
  go_wp2_with fail
  refine ht.out.mono ?_
  rintro e w1 (⟨hn, _⟩ | ⟨_, rfl, hg⟩)
  · simp at hn
  · exact ⟨rfl, by simp, hg⟩
theorem one_some {sb : Nat} (R : Nat) (c : Int) (l : List Int) (at' : Int) (fl : Value) (w : World) (h : Lft w R sb (c :: l) at' fl) :
    Calls Tryd.prog 75 #[.pointer (some ⟨R, 0, none⟩)] w fun e w' => e = .returned (.int .u8 c) ∧ Lft w' R sb l (at' + 1) fl ∧ w.grownBy w' (some R) := by
  obtain ⟨a, cap, h1, h2, h3, h4, h5, h6, hz, h7⟩ := h
  rcases h7 with ⟨_, h, _⟩ | ⟨b, o, rfl, g2, g3, g4⟩
  · cases h
  · rw [List.length_cons] at h1 h2 h5
    refine (one_ok R (l.length + 1) cap b o at' c h4 (by omega) fl w h1 (by omega) h2 (by omega) g2 (g4 0 (by simp))).mono ?_
    rintro e w' ⟨rfl, o', ho, hr, hg⟩
    refine ⟨rfl, ⟨some ⟨b, o', none⟩, cap - 1, hr, by omega, by omega, by omega, by omega, fun c' hc => h6 c' (List.mem_cons_of_mem _ hc), ⟨(fun h => by cases h), (fun x hx => by cases hx; exact hz.2 ⟨b, o, none⟩ rfl)⟩, Or.inr ⟨b, o', rfl, g2, Nat.lt_of_lt_of_le g3 hg.size, fun j hj => ?_⟩⟩, hg⟩
    rw [ho (by omega), Nat.add_assoc, Nat.add_comm 1 j]
    exact hg.cell (g4 (j + 1) (by rw [List.length_cons]; omega)) (by simpa using g2)
/-- must, where something was taken. -/
theorem must_bad {sb : Nat} (R : Nat) (l : List Int) (at' : Int) (h0 : 1 ≤ at') (fl : Value) (w : World) (h : Lft w R sb l at' fl) :
    Calls Tryd.prog 76 #[.pointer (some ⟨R, 0, none⟩), .bool false] w fun e w' => e = .panicked (flt (at' - 1) 31) ∧ w' = w := by
  obtain ⟨a, cap, h1, h2, h3, h4, h5, h6, hz, h7⟩ := h
  exact must_no R _ _ a at' h0 (by omega) fl w h1

end Go.Proofs.YtmhcmlegdoapdaaDoor
