/- One act on both networks: Cut. -/
import Derived.Test.YtoinjmddmahpkaaZK
namespace Go.Proofs.Ytoinjmddmahpkaa
open Go.RowKit Go.Maps

set_option maxHeartbeats 4000000 in
set_option maxRecDepth 100000 in
theorem step_cut_bad {L : List Nat} {w1 w : World} {b m rb : Nat} {v rv : Value} {ps qs : List Pc} {c rc : Cnt} {k rk : Nat} (h : Two L w1 w b m rb v rv ps qs c rc k rk) (fa : Bool) (fn : Int) (hg : okA fn = false) (ta : Bool) (tn : Int) (a : Option Addr) (len cap : Nat) (I K : Int) :
    Calls Try.prog 9 #[.pointer (some ⟨b, 0, none⟩), .pointer (some ⟨rb, 0, none⟩), .agg #[.int .i64 6, .bool fa, .int .i64 fn, .bool ta, .int .i64 tn, .slice a len cap, .int .i64 I, .int .i64 K]] w fun e w' => e = .returned (.bool true) ∧ Below w.heap.size w w' := by
  have bel := (Below.refl w.heap.size w).alloc (Nat.le_refl _) (.cells #[.int .i64 6, .bool fa, .int .i64 fn, .bool ta, .int .i64 tn, .slice a len cap, .int .i64 I, .int .i64 K] 37)
  have O0 := hide (IsB.new w #[.int .i64 6, .bool fa, .int .i64 fn, .bool ta, .int .i64 tn, .slice a len cap, .int .i64 I, .int .i64 K] 37)
  have H0 := hide (h.bel bel)
  replace bel := hide bel
  clear h
  go_enter Try.func9, Try.ntmps9
  go_wp2_with fail
  refine (cut_bad b m v ps c k _ H0.out.ns fa fn hg).mono ?_
  rintro e W ⟨rfl, hb⟩
  have B1 := hide (bel.out.trans (hb.mono bel.out.size))
  have O1 := O0.out.below hb
  have o1 := O1.cell 1
  have o2 := O1.cell 2
  simp at o1 o2
  clear hb H0 bel O0 O1
  go_wp2_with fail
  refine (rcut_bad rb fa fn hg _).mono ?_
  rintro e W2 ⟨rfl, hb⟩
  have B2 := hide (B1.out.trans (hb.mono B1.out.size))
  clear hb B1 o1 o2
  go_wp2
  go_ret
  exact ⟨rfl, B2.out⟩

set_option maxHeartbeats 4000000 in
set_option maxRecDepth 100000 in
theorem step_cut_ok {L : List Nat} {w1 w : World} {b m rb : Nat} {v rv : Value} {ps qs : List Pc} {c rc : Cnt} {k rk : Nat} (hk : k < 1000000) (hr : rk < 1000000) (h : Two L w1 w b m rb v rv ps qs c rc k rk) (hl : Like ps qs) (fa : Bool) (fn : Int) (hg : okA fn = true) (ta : Bool) (tn : Int) (a : Option Addr) (len cap : Nat) (I K : Int) :
    Calls Try.prog 9 #[.pointer (some ⟨b, 0, none⟩), .pointer (some ⟨rb, 0, none⟩), .agg #[.int .i64 6, .bool fa, .int .i64 fn, .bool ta, .int .i64 tn, .slice a len cap, .int .i64 I, .int .i64 K]] w fun e w' => e = .returned (.bool true) ∧
      ∃ v' rv', Two L w1 w' b m rb v' rv' (ps.filter (stay fa fn)) (qs.filter (stay fa fn)) { c with d := c.d + ((ps.length - (ps.filter (stay fa fn)).length : Nat) : Int) } { rc with d := rc.d + ((qs.length - (qs.filter (stay fa fn)).length : Nat) : Int) } (k + 1) (rk + 1) := by
  have bel := (Below.refl w.heap.size w).alloc (Nat.le_refl _) (.cells #[.int .i64 6, .bool fa, .int .i64 fn, .bool ta, .int .i64 tn, .slice a len cap, .int .i64 I, .int .i64 K] 37)
  have O0 := hide (IsB.new w #[.int .i64 6, .bool fa, .int .i64 fn, .bool ta, .int .i64 tn, .slice a len cap, .int .i64 I, .int .i64 K] 37)
  have hA : Hid (w.heap.size ∉ foot b m v) := fun hm => by have := h.ns.lt _ hm; omega
  have H0 := hide (h.bel bel)
  have hln : Hid (ps.length - (ps.filter (stay fa fn)).length = qs.length - (qs.filter (stay fa fn)).length) := by
    show _ = _
    rw [hl.len, (hl.cut fa fn).len]
  clear h bel
  go_enter Try.func9, Try.ntmps9
  go_wp2_with fail
  refine (cut_ok b m v ps c k hk _ H0.out.ns fa fn hg).mono ?_
  rintro e W ⟨rfl, v', hx⟩
  have O1 := O0.out.kp hx.kp hA.out
  have H1 := hide (H0.out.callN hx)
  have o1 := O1.cell 1
  have o2 := O1.cell 2
  simp at o1 o2
  clear hx H0 O0 O1
  go_wp2_with fail
  refine (rcut_ok rb rv qs rc rk hr _ H1.out.rs fa fn hg).mono ?_
  rintro e W2 ⟨rfl, rv', hx⟩
  have H2 := hide (H1.out.callR hx)
  clear hx H1 o1 o2
  generalize hn1 : ps.length - (ps.filter (stay fa fn)).length = n1 at *
  generalize hn2 : qs.length - (qs.filter (stay fa fn)).length = n2 at *
  obtain rfl : n1 = n2 := hln.out
  replace hn1 := hide hn1
  replace hn2 := hide hn2
  go_wp2
  go_ret
  rw [hn1.out, hn2.out]
  exact ⟨rfl, v', rv', H2.out⟩

end Go.Proofs.Ytoinjmddmahpkaa
