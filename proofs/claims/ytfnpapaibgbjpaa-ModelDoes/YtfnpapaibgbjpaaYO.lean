/- The document's Tells. -/
import Derived.Test.YtfnpapaibgbjpaaYN
namespace Go.Proofs.Ytfnpapaibgbjpaa
open Go.RowKit Go.Maps

theorem RsD.rdd {w w8 : World} {l : List It} {r : Rs} (h : RsD w w8 l r) (hl : ∀ it ∈ l, RdI w it) (B8 : Below w.heap.size w w8) : RsRd w8 r := by
  refine ⟨?_, ?_, h.row.sl (fun it hi => (hl it (h.mem it hi)).below B8)⟩
  · rcases h.vb with ⟨h1, -, h3⟩ | ⟨it, hi, h1, -, h3⟩
    · exact Or.inl ⟨h1, h3⟩
    · rw [← h1, ← h3]; exact (hl it hi).1.below B8
  · rcases h.vb with ⟨h1, h2, -⟩ | ⟨it, hi, h1, h2, -⟩
    · exact fun _ => h2
    · intro h9
      rw [← h2]
      exact (hl it hi).2 (h1.trans h9)

set_option maxHeartbeats 2000000 in
set_option maxRecDepth 100000 in
theorem rtells_any (v : Value) (l : List It) (hl : l.length ≤ 1000) (hkm : ∀ it ∈ l, it.k ≤ 18446744073709551615) (kd key high : Int) (ca : Option Addr) (cc : Nat) (cb : List UInt8) (e2 k2 : Int) (f2 : Bool) (va2 : Option Addr) (vc2 : Nat) (vb2 : List UInt8) (ia2 : Option Addr) (ic2 : Nat) (il2 : List It) (l0 l1 l2 l3 l4 r0 r1 r2 r3 r4 : Int) (w : World) (h : Sl w v l) (hrd : RdC w (⟨kd, key, high, ca, cc, cb⟩ : Ca)) (h2 : Rd8 w va2 vb2) (n2 : va2 = none → vc2 = 0) (s2 : SlX w ia2 ic2 il2) :
    Calls Try.prog 25 #[v, .agg #[.int .i64 kd, .int .u64 key, .int .u64 high, .slice ca cb.length cc], .agg #[.int .i64 e2, .int .u64 k2, .slice va2 vb2.length vc2, .slice ia2 il2.length ic2, .int .i64 l0, .int .i64 l1, .int .u64 l2, .int .i64 l3, .int .u64 l4, .int .i64 r0, .int .i64 r1, .int .u64 r2, .int .i64 r3, .int .u64 r4, .bool f2]] w fun E w' => E = .returned (.bool (tlE l (⟨kd, key, high, ca, cc, cb⟩ : Ca) e2 k2 f2 vb2 il2 (l0, l1, l2, l3, l4) (r0, r1, r2, r3, r4))) ∧ Below w.heap.size w w' := by
  obtain ⟨cn, hcn⟩ : ∃ z, cb.length = z := ⟨_, rfl⟩
  obtain ⟨vn2, hvn2⟩ : ∃ z, vb2.length = z := ⟨_, rfl⟩
  obtain ⟨inn2, hin2⟩ : ∃ z, il2.length = z := ⟨_, rfl⟩
  rw [hcn, hvn2, hin2]
  replace hcn := hide hcn
  replace hvn2 := hide hvn2
  replace hin2 := hide hin2
  have b2 := ((Below.refl w.heap.size w).alloc (Nat.le_refl _) (.cells #[.int .i64 kd, .int .u64 key, .int .u64 high, .slice ca cn cc] 27)).alloc (by simp) (.cells #[.int .i64 e2, .int .u64 k2, .slice va2 vn2 vc2, .slice ia2 inn2 ic2, .int .i64 l0, .int .i64 l1, .int .u64 l2, .int .i64 l3, .int .u64 l4, .int .i64 r0, .int .i64 r1, .int .u64 r2, .int .i64 r3, .int .u64 r4, .bool f2] 46)
  have Vb : Hid (IsB ((w.alloc (.cells #[.int .i64 kd, .int .u64 key, .int .u64 high, .slice ca cn cc] 27)).alloc (.cells #[.int .i64 e2, .int .u64 k2, .slice va2 vn2 vc2, .slice ia2 inn2 ic2, .int .i64 l0, .int .i64 l1, .int .u64 l2, .int .i64 l3, .int .u64 l4, .int .i64 r0, .int .i64 r1, .int .u64 r2, .int .i64 r3, .int .u64 r4, .bool f2] 46)) w.heap.size #[.int .i64 kd, .int .u64 key, .int .u64 high, .slice ca cn cc] 27) := (IsB.new w #[.int .i64 kd, .int .u64 key, .int .u64 high, .slice ca cn cc] _).below ((Below.refl _ _).alloc (Nat.le_refl _) _)
  have Wb : Hid (IsB ((w.alloc (.cells #[.int .i64 kd, .int .u64 key, .int .u64 high, .slice ca cn cc] 27)).alloc (.cells #[.int .i64 e2, .int .u64 k2, .slice va2 vn2 vc2, .slice ia2 inn2 ic2, .int .i64 l0, .int .i64 l1, .int .u64 l2, .int .i64 l3, .int .u64 l4, .int .i64 r0, .int .i64 r1, .int .u64 r2, .int .i64 r3, .int .u64 r4, .bool f2] 46)) (w.heap.size + 1) #[.int .i64 e2, .int .u64 k2, .slice va2 vn2 vc2, .slice ia2 inn2 ic2, .int .i64 l0, .int .i64 l1, .int .u64 l2, .int .i64 l3, .int .u64 l4, .int .i64 r0, .int .i64 r1, .int .u64 r2, .int .i64 r3, .int .u64 r4, .bool f2] 46) := by
    have := IsB.new (w.alloc (.cells #[.int .i64 kd, .int .u64 key, .int .u64 high, .slice ca cn cc] 27)) #[.int .i64 e2, .int .u64 k2, .slice va2 vn2 vc2, .slice ia2 inn2 ic2, .int .i64 l0, .int .i64 l1, .int .u64 l2, .int .i64 l3, .int .u64 l4, .int .i64 r0, .int .i64 r1, .int .u64 r2, .int .i64 r3, .int .u64 r4, .bool f2] 46
    rwa [World.size_alloc] at this
  have SL := hide (h.below b2)
  have HRd := hide (hrd.below b2)
  have RD2 := hide (h2.below b2)
  have SX2 := hide (s2.below b2)
  have N2 := hide n2
  have B2 := hide b2
  clear h hrd h2 n2 s2 b2
  have LC := hide (load_call Vb.out rfl)
  have DO := rdo_any v l (by omega) hkm kd key high ca cc cb _ SL.out HRd.out
  rw [hcn.out] at DO
  replace DO := hide DO
  have HIT : Hid (∀ it ∈ l, RdI ((w.alloc (.cells #[.int .i64 kd, .int .u64 key, .int .u64 high, .slice ca cn cc] 27)).alloc (.cells #[.int .i64 e2, .int .u64 k2, .slice va2 vn2 vc2, .slice ia2 inn2 ic2, .int .i64 l0, .int .i64 l1, .int .u64 l2, .int .i64 l3, .int .u64 l4, .int .i64 r0, .int .i64 r1, .int .u64 r2, .int .i64 r3, .int .u64 r4, .bool f2] 46)) it) := SL.out.2
  clear hkm
  go_enter Try.func25, Try.ntmps25
  go_wp2_with ((with_reducible refine wpList_load_w ?hw 27 (.tmp 4) ?ho ?hx LC.out ?h); (case ho => rfl); (case hw => rfl); (case hx => rfl))
  generalize ((w.alloc (.cells #[.int .i64 kd, .int .u64 key, .int .u64 high, .slice ca cn cc] 27)).alloc (.cells #[.int .i64 e2, .int .u64 k2, .slice va2 vn2 vc2, .slice ia2 inn2 ic2, .int .i64 l0, .int .i64 l1, .int .u64 l2, .int .i64 l3, .int .u64 l4, .int .i64 r0, .int .i64 r1, .int .u64 r2, .int .i64 r3, .int .u64 r4, .bool f2] 46)) = W2 at *
  generalize hH : w.heap.size = H at Vb Wb LC ⊢
  replace hH := hide hH
  refine DO.out.mono ?_
  rintro e w3 ⟨v', m, r, E, rfl, hdr, hde, hb⟩
  replace Vb := hide (Vb.out.below hb)
  replace Wb := hide (Wb.out.below hb)
  replace SL := hide (SL.out.below hb)
  replace HRd := hide (HRd.out.below hb)
  replace RD2 := hide (RD2.out.below hb)
  replace SX2 := hide (SX2.out.below hb)
  replace B2 := hide (B2.out.trans (hb.mono B2.out.size))
  have RO : Hid (RsRd w3 r) := hdr.res.rdd HIT.out hb
  have HDE := hide hde
  clear hb hdr hde DO LC HIT
  obtain ⟨re, rk, rva, rvc, rvb, ria, ric, ril, rf⟩ := r
  simp only [Rs.cells]
  have HV : Hid ((doE l (⟨kd, key, high, ca, cc, cb⟩ : Ca)).2.1 = Rs.val (⟨re, rk, rva, rvc, rvb, ria, ric, ril, rf⟩ : Rs) ∧ (doE l (⟨kd, key, high, ca, cc, cb⟩ : Ca)).2.2 = E) := by rw [← HDE.out]; exact ⟨rfl, rfl⟩
  have hrl : ril.length ≤ 1000 := by
    have h9 := doE_len l (⟨kd, key, high, ca, cc, cb⟩ : Ca)
    rw [HV.out.1] at h9
    simp [Rs.val] at h9
    omega
  have b4 := (Below.refl w3.heap.size w3).alloc (Nat.le_refl _) (.cells #[.int .i64 re, .int .u64 rk, .slice rva rvb.length rvc, .slice ria ril.length ric, .int .i64 0, .int .i64 0, .int .u64 0, .int .i64 0, .int .u64 0, .int .i64 0, .int .i64 0, .int .u64 0, .int .i64 0, .int .u64 0, .bool rf] 46)
  have MS := rsr_any re rk e2 k2 rf f2 rva va2 rvc vc2 rvb vb2 ria ia2 ric ic2 ril il2 l0 l1 l2 l3 l4 r0 r1 r2 r3 r4 _ (RO.out.rd.below b4) RO.out.vn (RD2.out.below b4) N2.out (RO.out.it.below b4) (SX2.out.below b4) (by omega)
  have W4 := hide (Wb.out.below b4)
  rw [hvn2.out, hin2.out] at MS
  generalize rvb.length = rvn at *
  generalize ril.length = rin at *
  replace MS := hide MS
  have B4 := hide (B2.out.trans (b4.mono B2.out.size))
  clear b4 hrl HDE
  by_cases hE : E = 0
  rotate_left
  · have HT : Hid (tlE l (⟨kd, key, high, ca, cc, cb⟩ : Ca) e2 k2 f2 vb2 il2 (l0, l1, l2, l3, l4) (r0, r1, r2, r3, r4) = false) := by
      show _ = _
      unfold tlE
      rw [HV.out.2, show (E == 0) = false by simpa using hE]
      rfl
    have hEb : (E == 0) = false := by simpa using hE
    go_wp2
    go_ret
    exact ⟨by rw [HT.out]; rfl, B4.out⟩
  · subst hE
    have HT : Hid (tlE l (⟨kd, key, high, ca, cc, cb⟩ : Ca) e2 k2 f2 vb2 il2 (l0, l1, l2, l3, l4) (r0, r1, r2, r3, r4) = srE re rk e2 k2 rf f2 rvb vb2 ril il2 (l0, l1, l2, l3, l4) (r0, r1, r2, r3, r4)) := by
      show _ = _
      unfold tlE
      rw [HV.out.1, HV.out.2]
      rfl
    clear HV
    have Wz := W4.out
    have z0 := Wz.cell 0
    have z1 := Wz.cell 1
    have z2 := Wz.cell 2
    have z3 := Wz.cell 3
    have z4 := Wz.cell 4
    have z5 := Wz.cell 5
    have z6 := Wz.cell 6
    have z7 := Wz.cell 7
    have z8 := Wz.cell 8
    have z9 := Wz.cell 9
    have z10 := Wz.cell 10
    have z11 := Wz.cell 11
    have z12 := Wz.cell 12
    have z13 := Wz.cell 13
    have z14 := Wz.cell 14
    simp at z0 z1 z2 z3 z4 z5 z6 z7 z8 z9 z10 z11 z12 z13 z14
    clear Wz
    go_wp2_with fail
    refine MS.out.mono ?_
    rintro e w5 ⟨rfl, hb⟩
    replace B4 := hide (B4.out.trans (hb.mono B4.out.size))
    clear hb MS
    go_wp2
    go_ret
    exact ⟨by rw [HT.out]; rfl, B4.out⟩

end Go.Proofs.Ytfnpapaibgbjpaa
