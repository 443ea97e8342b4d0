/- One act on both networks: At, Twin, Take of a place that is none. -/
import Derived.Test.YtoinjmddmahpkaaZJ
namespace Go.Proofs.Ytoinjmddmahpkaa
open Go.RowKit Go.Maps

set_option maxHeartbeats 4000000 in
set_option maxRecDepth 100000 in
theorem step_at_bad {L : List Nat} {w1 w : World} {b m rb : Nat} {v rv : Value} {ps qs : List Pc} {c rc : Cnt} {k rk : Nat} (h : Two L w1 w b m rb v rv ps qs c rc k rk) (I : Int) (hi : inR ps.length I = false) (hj : inR qs.length I = false) (fa : Bool) (fn : Int) (ta : Bool) (tn : Int) (a : Option Addr) (len cap : Nat) (K : Int) :
    Calls Try.prog 9 #[.pointer (some ⟨b, 0, none⟩), .pointer (some ⟨rb, 0, none⟩), .agg #[.int .i64 7, .bool fa, .int .i64 fn, .bool ta, .int .i64 tn, .slice a len cap, .int .i64 I, .int .i64 K]] w fun e w' => e = .returned (.bool true) ∧ Below w.heap.size w w' := by
  have bel := (Below.refl w.heap.size w).alloc (Nat.le_refl _) (.cells #[.int .i64 7, .bool fa, .int .i64 fn, .bool ta, .int .i64 tn, .slice a len cap, .int .i64 I, .int .i64 K] 37)
  have O0 := hide (IsB.new w #[.int .i64 7, .bool fa, .int .i64 fn, .bool ta, .int .i64 tn, .slice a len cap, .int .i64 I, .int .i64 K] 37)
  have H0 := hide (h.bel bel)
  replace bel := hide bel
  clear h
  go_enter Try.func9, Try.ntmps9
  go_wp2_with fail
  refine (at_bad b m v ps c k _ H0.out.ns I hi).mono ?_
  rintro e W ⟨rfl, hb⟩
  have H1 := hide (H0.out.bel hb)
  have B1 := hide (bel.out.trans (hb.mono bel.out.size))
  have O1 := O0.out.below hb
  have belz := (Below.refl W.heap.size W).alloc (Nat.le_refl _) (.cells #[.bool false, .int .i64 0, .bool false, .int .i64 0, .slice none 0 0] 35)
  have o6 := (O1.below belz).cell 6
  simp at o6
  have P1 := hide (IsB.new W #[.bool false, .int .i64 0, .bool false, .int .i64 0, .slice none 0 0] 35)
  have H2 := hide (H1.out.bel belz)
  have B2 := hide (B1.out.trans (belz.mono B1.out.size))
  clear hb H0 bel O0 O1 belz H1 B1
  unfold zeroE
  go_wp2_with fail
  refine (rat_bad rb rv qs rc rk _ H2.out.rs I hj).mono ?_
  rintro e W2 ⟨rfl, hb⟩
  have belz := (Below.refl W2.heap.size W2).alloc (Nat.le_refl _) (.cells #[.bool false, .int .i64 0, .bool false, .int .i64 0, .slice none 0 0] 35)
  have P3 := (P1.out.below hb).below belz
  have P4 := IsB.new W2 #[.bool false, .int .i64 0, .bool false, .int .i64 0, .slice none 0 0] 35
  have B3 := B2.out.trans (hb.mono B2.out.size)
  have B4 := hide (B3.trans (belz.mono B3.size))
  have p0 := P3.cell 0
  have p1 := P3.cell 1
  have p2 := P3.cell 2
  have p3 := P3.cell 3
  have p4 := P3.cell 4
  simp at p0 p1 p2 p3 p4
  clear hb H2 P1 B2 belz P3 P4 B3 o6
  generalize W.heap.size = A2 at *
  unfold zeroE
  go_wp2_with fail
  refine (same_any false false 0 0 false false 0 0 none none 0 0 [] [] (fun _ => rfl) (fun _ => rfl) _ (Or.inl ⟨rfl, rfl⟩) (Or.inl ⟨rfl, rfl⟩)).mono ?_
  rintro e W3 ⟨⟨t, rfl, ht⟩, hb⟩
  obtain rfl := ht rfl rfl rfl rfl rfl
  have B5 := hide (B4.out.trans (hb.mono B4.out.size))
  clear hb B4 p0 p1 p2 p3 p4
  go_wp2
  go_ret
  exact ⟨rfl, B5.out⟩

set_option maxHeartbeats 4000000 in
set_option maxRecDepth 100000 in
theorem step_twin_bad {L : List Nat} {w1 w : World} {b m rb : Nat} {v rv : Value} {ps qs : List Pc} {c rc : Cnt} {k rk : Nat} (h : Two L w1 w b m rb v rv ps qs c rc k rk) (I : Int) (hi : inR ps.length I = false) (hj : inR qs.length I = false) (fa : Bool) (fn : Int) (ta : Bool) (tn : Int) (a : Option Addr) (len cap : Nat) (K : Int) :
    Calls Try.prog 9 #[.pointer (some ⟨b, 0, none⟩), .pointer (some ⟨rb, 0, none⟩), .agg #[.int .i64 3, .bool fa, .int .i64 fn, .bool ta, .int .i64 tn, .slice a len cap, .int .i64 I, .int .i64 K]] w fun e w' => e = .returned (.bool true) ∧ Below w.heap.size w w' := by
  have bel := (Below.refl w.heap.size w).alloc (Nat.le_refl _) (.cells #[.int .i64 3, .bool fa, .int .i64 fn, .bool ta, .int .i64 tn, .slice a len cap, .int .i64 I, .int .i64 K] 37)
  have O0 := hide (IsB.new w #[.int .i64 3, .bool fa, .int .i64 fn, .bool ta, .int .i64 tn, .slice a len cap, .int .i64 I, .int .i64 K] 37)
  have H0 := hide (h.bel bel)
  replace bel := hide bel
  clear h
  go_enter Try.func9, Try.ntmps9
  go_wp2_with fail
  refine (twin_bad b m v ps c k _ H0.out.ns I hi).mono ?_
  rintro e W ⟨rfl, hb⟩
  have H1 := hide (H0.out.bel hb)
  have B1 := hide (bel.out.trans (hb.mono bel.out.size))
  have O1 := O0.out.below hb
  have belz := (Below.refl W.heap.size W).alloc (Nat.le_refl _) (.cells #[.bool false, .int .i64 0, .bool false, .int .i64 0, .slice none 0 0] 35)
  have o6 := (O1.below belz).cell 6
  simp at o6
  have P1 := hide (IsB.new W #[.bool false, .int .i64 0, .bool false, .int .i64 0, .slice none 0 0] 35)
  have H2 := hide (H1.out.bel belz)
  have B2 := hide (B1.out.trans (belz.mono B1.out.size))
  clear hb H0 bel O0 O1 belz H1 B1
  unfold zeroE
  go_wp2_with fail
  refine (rtwin_bad rb rv qs rc rk _ H2.out.rs I hj).mono ?_
  rintro e W2 ⟨rfl, hb⟩
  have belz := (Below.refl W2.heap.size W2).alloc (Nat.le_refl _) (.cells #[.bool false, .int .i64 0, .bool false, .int .i64 0, .slice none 0 0] 35)
  have P3 := (P1.out.below hb).below belz
  have P4 := IsB.new W2 #[.bool false, .int .i64 0, .bool false, .int .i64 0, .slice none 0 0] 35
  have B3 := B2.out.trans (hb.mono B2.out.size)
  have B4 := hide (B3.trans (belz.mono B3.size))
  have p0 := P3.cell 0
  have p1 := P3.cell 1
  have p2 := P3.cell 2
  have p3 := P3.cell 3
  have p4 := P3.cell 4
  simp at p0 p1 p2 p3 p4
  clear hb H2 P1 B2 belz P3 P4 B3 o6
  generalize W.heap.size = A2 at *
  unfold zeroE
  go_wp2_with fail
  refine (same_any false false 0 0 false false 0 0 none none 0 0 [] [] (fun _ => rfl) (fun _ => rfl) _ (Or.inl ⟨rfl, rfl⟩) (Or.inl ⟨rfl, rfl⟩)).mono ?_
  rintro e W3 ⟨⟨t, rfl, ht⟩, hb⟩
  obtain rfl := ht rfl rfl rfl rfl rfl
  have B5 := hide (B4.out.trans (hb.mono B4.out.size))
  clear hb B4 p0 p1 p2 p3 p4
  go_wp2
  go_ret
  exact ⟨rfl, B5.out⟩

set_option maxHeartbeats 4000000 in
set_option maxRecDepth 100000 in
theorem step_take_bad {L : List Nat} {w1 w : World} {b m rb : Nat} {v rv : Value} {ps qs : List Pc} {c rc : Cnt} {k rk : Nat} (h : Two L w1 w b m rb v rv ps qs c rc k rk) (I : Int) (hi : inR ps.length I = false) (hj : inR qs.length I = false) (fa : Bool) (fn : Int) (ta : Bool) (tn : Int) (a : Option Addr) (len cap : Nat) (K : Int) :
    Calls Try.prog 9 #[.pointer (some ⟨b, 0, none⟩), .pointer (some ⟨rb, 0, none⟩), .agg #[.int .i64 2, .bool fa, .int .i64 fn, .bool ta, .int .i64 tn, .slice a len cap, .int .i64 I, .int .i64 K]] w fun e w' => e = .returned (.bool true) ∧ Below w.heap.size w w' := by
  have bel := (Below.refl w.heap.size w).alloc (Nat.le_refl _) (.cells #[.int .i64 2, .bool fa, .int .i64 fn, .bool ta, .int .i64 tn, .slice a len cap, .int .i64 I, .int .i64 K] 37)
  have O0 := hide (IsB.new w #[.int .i64 2, .bool fa, .int .i64 fn, .bool ta, .int .i64 tn, .slice a len cap, .int .i64 I, .int .i64 K] 37)
  have H0 := hide (h.bel bel)
  replace bel := hide bel
  clear h
  go_enter Try.func9, Try.ntmps9
  go_wp2_with fail
  refine (take_bad b m v ps c k _ H0.out.ns I hi).mono ?_
  rintro e W ⟨rfl, hb⟩
  have H1 := hide (H0.out.bel hb)
  have B1 := hide (bel.out.trans (hb.mono bel.out.size))
  have O1 := O0.out.below hb
  have belz := (Below.refl W.heap.size W).alloc (Nat.le_refl _) (.cells #[.bool false, .int .i64 0, .bool false, .int .i64 0, .slice none 0 0] 35)
  have o6 := (O1.below belz).cell 6
  simp at o6
  have P1 := hide (IsB.new W #[.bool false, .int .i64 0, .bool false, .int .i64 0, .slice none 0 0] 35)
  have H2 := hide (H1.out.bel belz)
  have B2 := hide (B1.out.trans (belz.mono B1.out.size))
  clear hb H0 bel O0 O1 belz H1 B1
  unfold zeroE
  go_wp2_with fail
  refine (rtake_bad rb rv qs rc rk _ H2.out.rs I hj).mono ?_
  rintro e W2 ⟨rfl, hb⟩
  have belz := (Below.refl W2.heap.size W2).alloc (Nat.le_refl _) (.cells #[.bool false, .int .i64 0, .bool false, .int .i64 0, .slice none 0 0] 35)
  have P3 := (P1.out.below hb).below belz
  have P4 := IsB.new W2 #[.bool false, .int .i64 0, .bool false, .int .i64 0, .slice none 0 0] 35
  have B3 := B2.out.trans (hb.mono B2.out.size)
  have B4 := hide (B3.trans (belz.mono B3.size))
  have p0 := P3.cell 0
  have p1 := P3.cell 1
  have p2 := P3.cell 2
  have p3 := P3.cell 3
  have p4 := P3.cell 4
  simp at p0 p1 p2 p3 p4
  clear hb H2 P1 B2 belz P3 P4 B3 o6
  generalize W.heap.size = A2 at *
  unfold zeroE
  go_wp2_with fail
  refine (same_any false false 0 0 false false 0 0 none none 0 0 [] [] (fun _ => rfl) (fun _ => rfl) _ (Or.inl ⟨rfl, rfl⟩) (Or.inl ⟨rfl, rfl⟩)).mono ?_
  rintro e W3 ⟨⟨t, rfl, ht⟩, hb⟩
  obtain rfl := ht rfl rfl rfl rfl rfl
  have B5 := hide (B4.out.trans (hb.mono B4.out.size))
  clear hb B4 p0 p1 p2 p3 p4
  go_wp2
  go_ret
  exact ⟨rfl, B5.out⟩

end Go.Proofs.Ytoinjmddmahpkaa
