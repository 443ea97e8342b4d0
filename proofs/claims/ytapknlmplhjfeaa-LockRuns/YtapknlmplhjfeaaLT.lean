/- The law's step: an act on both locks. -/
import Derived.Test.YtapknlmplhjfeaaLR
namespace Go.Proofs.Ytapknlmplhjfeaa
open Go.RowKit Go.Maps

theorem owner_eq_self (a o : Int) (w : World) : (binOp .eql 27 (.agg #[.int .i64 a, .int .i64 o]) (.agg #[.int .i64 a, .int .i64 o])).run Try.prog w = .ok (.bool true) w := by
  rw [owner_eq]; simp

def StepTo (w : World) (b rb : Nat) (e : Ending) (w' : World) : Prop := e = .returned (.bool true) ∧ ∃ v' rv' os', Two w' b rb v' rv' os' ∧ Kp [b, rb] w w'

set_option maxHeartbeats 4000000 in
set_option maxRecDepth 100000 in
theorem step_any (b rb : Nat) (v rv : Value) (os : List Ow) (w : World) (h : Two w b rb v rv os) (kd a o : Int) :
    Calls Try.prog 10 #[.pointer (some ⟨b, 0, none⟩), .pointer (some ⟨rb, 0, none⟩), .agg #[.int .i64 kd, .int .i64 a, .int .i64 o]] w (StepTo w b rb) := by
  have I := IsB.new w #[.int .i64 kd, .int .i64 a, .int .i64 o] 33
  have bel := (Below.refl w.heap.size w).alloc (Nat.le_refl _) (.cells #[.int .i64 kd, .int .i64 a, .int .i64 o] 33)
  have H1 := hide (h.below bel)
  have B1 := hide bel
  have hbne := hide h.ne
  have hbw := hide h.ls.blk.lt
  have hrw := hide h.rs.blk.lt
  have hlen := hide h.ls.len
  have I1 := hide I
  clear h I bel
  by_cases k1 : kd = 1
  · subst k1
    obtain ⟨B, E, os', hg, hA, hR⟩ := ask_both H1.out.good hlen.out a o
    replace hA := hide hA
    replace hR := hide hR
    replace hg := hide hg
    go_enter Try.func10, Try.ntmps10
    go_wp2_with fail
    refine (hA.out b v _ H1.out.ls).mono ?_; rintro e w2 ⟨rfl, v', hx⟩
    have R2 := hide (H1.out.left hx)
    have I2 := I1.out.kp hx.kp (by simp; have := hbw.out; omega)
    have i1 := I2.cell 1
    have i2 := I2.cell 2
    simp at i1 i2
    replace hx := hide hx
    clear I2
    go_wp2_with fail
    clear i1 i2
    refine (hR.out rb rv _ R2.out).mono ?_; rintro e w3 ⟨rfl, rv', hy⟩
    replace hy := hide hy
    go_wp2
    go_ret
    refine ⟨by simp, v', rv', os', ⟨hx.out.ls.right R2.out hbne.out hy.out, hy.out.rs, hg.out⟩, ?_⟩
    exact Kp.trans (Kp.trans (Kp.of_below (S := [b, rb]) B1.out) hx.out.kp (by simp)) hy.out.kp (by simp)
  · by_cases k2 : kd = 2
    · subst k2
      obtain ⟨X, Y, B, E, os', hg, hA, hR⟩ := free_both H1.out.good a o
      replace hA := hide hA
      replace hR := hide hR
      replace hg := hide hg
      have hoe := owner_eq_self
      go_enter Try.func10, Try.ntmps10
      go_wp2_with fail
      refine (hA.out b v _ H1.out.ls).mono ?_; rintro e w2 ⟨rfl, v', hx⟩
      have bel2 := (Below.refl w2.heap.size w2).alloc (Nat.le_refl _) (.cells #[.int .i64 X, .int .i64 Y] 27)
      have R2 := hide ((H1.out.left hx).below bel2)
      have L2 := hide (hx.bel bel2)
      have J2 := hide (IsB.new w2 #[.int .i64 X, .int .i64 Y] 27)
      have I2 := I1.out.kp hx.kp (by simp; have := hbw.out; omega)
      have i1 := I2.cell 1
      have i2 := I2.cell 2
      have ilt := I2.lt
      have hrw2 : Hid (rb < w2.heap.size) := (H1.out.left hx).blk.lt
      simp at i1 i2
      clear I2 hx bel2
      go_wp2_with fail
      generalize w2.alloc (.cells #[.int .i64 X, .int .i64 Y] 27) = W2 at R2 L2 J2 ⊢
      generalize w2.heap.size = F at *
      clear i1 i2 ilt
      refine (hR.out rb rv _ R2.out).mono ?_; rintro e w3 ⟨rfl, rv', hy⟩
      have bel3 := (Below.refl w3.heap.size w3).alloc (Nat.le_refl _) (.cells #[.int .i64 X, .int .i64 Y] 27)
      have J3 := J2.out.kp hy.kp (by simp; have := hrw2.out; omega)
      have j0 := J3.cell 0
      have j1 := J3.cell 1
      have jlt := J3.lt
      simp at j0 j1
      have Y3 := hide (hy.bel bel3)
      have LR3 := hide ((L2.out.ls.right R2.out hbne.out hy).below bel3)
      clear hy bel3 J3
      go_wp2
      go_ret
      refine ⟨by simp, v', rv', os', ⟨LR3.out, Y3.out.rs, hg.out⟩, ?_⟩
      exact Kp.trans (Kp.trans (Kp.of_below (S := [b, rb]) B1.out) L2.out.kp (by simp)) Y3.out.kp (by simp)
    · by_cases k3 : kd = 3
      · subst k3
        obtain ⟨B, E, os', hg, hA, hR⟩ := leave_both H1.out.good a o
        replace hA := hide hA
        replace hR := hide hR
        replace hg := hide hg
        go_enter Try.func10, Try.ntmps10
        go_wp2_with fail
        refine (hA.out b v _ H1.out.ls).mono ?_; rintro e w2 ⟨rfl, v', hx⟩
        have R2 := hide (H1.out.left hx)
        have I2 := I1.out.kp hx.kp (by simp; have := hbw.out; omega)
        have i1 := I2.cell 1
        have i2 := I2.cell 2
        simp at i1 i2
        replace hx := hide hx
        clear I2
        go_wp2_with fail
        clear i1 i2
        refine (hR.out rb rv _ R2.out).mono ?_; rintro e w3 ⟨rfl, rv', hy⟩
        replace hy := hide hy
        go_wp2
        go_ret
        refine ⟨by simp, v', rv', os', ⟨hx.out.ls.right R2.out hbne.out hy.out, hy.out.rs, hg.out⟩, ?_⟩
        exact Kp.trans (Kp.trans (Kp.of_below (S := [b, rb]) B1.out) hx.out.kp (by simp)) hy.out.kp (by simp)
      · by_cases k4 : kd = 4
        · subst k4
          go_enter Try.func10, Try.ntmps10
          go_wp2_with fail
          refine (end_any b v os _ H1.out.ls).mono ?_; rintro e w2 ⟨x, rfl, hxr, hxf, hx⟩
          have R2 := hide (H1.out.left hx)
          have hX2 := hide hxr
          have hxb : Hid (∀ k, x.ownBlock = some k → k ≠ rb) := fun k hk e => by
            have h1 := hxf k hk
            have := hrw.out
            simp at h1
            omega
          replace hx := hide hx
          clear hxr hxf
          go_wp2_with fail
          refine (rend_any rb rv os _ R2.out).mono ?_; rintro e w3 ⟨rfl, hyr, hy⟩
          have hX3 := hide (hX2.out.kp hy.kp (fun k hk => by simp; exact hxb.out k hk))
          have hY3 := hide hyr
          replace hy := hide hy
          clear hyr hX2
          go_wp2_with fail
          refine (same_any _ _ os.tail (by rw [List.length_tail]; have := hlen.out; omega) _ hX3.out.sl hY3.out.sl).mono ?_; rintro e w4 ⟨rfl, hb⟩
          replace hb := hide hb
          go_wp2
          go_ret
          refine ⟨rfl, .slice none 0 0, .slice none 0 0, [], ⟨(hx.out.ls.right R2.out hbne.out hy.out).below hb.out, hy.out.rs.below hb.out, Good.nil⟩, ?_⟩
          exact (Kp.trans (Kp.trans (Kp.of_below (S := [b, rb]) B1.out) hx.out.kp (by simp)) hy.out.kp (by simp)).bel hb.out
        · go_enter Try.func10, Try.ntmps10
          go_wp2
          go_ret
          exact ⟨rfl, v, rv, os, H1.out, Kp.of_below B1.out⟩

end Go.Proofs.Ytapknlmplhjfeaa
