/- PackReads: the law walked. -/
import Derived.Test.YtmhcmlegdoapdaaDoorWD
import Derived.Test.YtmhcmlegdoapdaaDoorQP
namespace Go.Proofs.YtmhcmlegdoapdaaDoor
open Go.RowKit

theorem ints_of (l : List Int) (h : ∀ c ∈ l, 0 ≤ c ∧ c < 256) : ∃ L : List UInt8, l = ints L := by
  refine ⟨l.map (fun c => UInt8.ofNat c.toNat), ?_⟩
  unfold ints
  rw [List.map_map]
  conv => lhs; rw [← List.map_id l]
  refine List.map_congr_left fun c hc => ?_
  have := h c hc
  simp only [id, Function.comp, UInt8.toNat_ofNat']
  omega
theorem ints_bd (L : List UInt8) : ∀ c ∈ ints L, 0 ≤ c ∧ c < 256 := by
  intro c hc
  unfold ints at hc
  obtain ⟨u, _, rfl⟩ := List.mem_map.1 hc
  have := u.toNat_lt
  omega
theorem read_byts (ks l : List Int) (hks : ∀ k ∈ ks, 1 ≤ k ∧ k ≤ 7) (hl : ∀ c ∈ l, 0 ≤ c ∧ c < 256) (vs : List FV) (n : Nat) (h : pfields ks l = .ok vs n) : ∀ v ∈ vs, v.byts := by
  obtain ⟨h1, -, -, -⟩ := pfields_dec ks hks l hl vs n h
  intro v hv l' hr
  refine ints_of l' fun c hc => ?_
  have hm : c ∈ encs vs := by
    unfold encs
    refine List.mem_flatMap.2 ⟨v, hv, ?_⟩
    cases v with
    | bytes r =>
      cases hr
      exact List.mem_append_right _ hc
    | num n => cases hr
    | int i => cases hr
    | truth t => cases hr
    | vec n b => cases hr
    | key r x => cases hr
    | ref i r x n b => cases hr
  rw [← h1] at hm
  exact hl c (List.mem_of_mem_take hm)
theorem read_len (ks l : List Int) (hks : ∀ k ∈ ks, 1 ≤ k ∧ k ≤ 7) (hl : ∀ c ∈ l, 0 ≤ c ∧ c < 256) (vs : List FV) (n : Nat) (h : pfields ks l = .ok vs n) : vs.length = ks.length ∧ n ≤ l.length := by
  obtain ⟨-, h2, -, h4⟩ := pfields_dec ks hks l hl vs n h
  exact ⟨by rw [← h4, List.length_map], h2⟩
theorem Bys.below {w w' : World} {sb : Nat} {a : Option Addr} {cap : Nat} {l : List Int} (h : Bys w sb a cap l) (hb : Below w.heap.size w w') : Bys w' sb a cap l := by
  obtain ⟨h1, h2, h3, h4, h5, h6⟩ := h
  refine ⟨h1, h2, h3, h4, Nat.lt_of_lt_of_le h5 hb.size, ?_⟩
  rcases h6 with h6 | ⟨o, ha, hc⟩
  · exact Or.inl h6
  · exact Or.inr ⟨o, ha, fun j hj => (hb.cell (by exact h5)).trans (hc j hj)⟩
/-- Kinds that are handed in. -/
def Kds (w : World) (ka : Option Addr) (ks : List Int) : Prop := ∀ (j : Nat) (k : Int), ks[j]? = some k → ∃ kb ko, ka = some ⟨kb, ko, none⟩ ∧ w.cell? ⟨kb, ko + j, none⟩ = some (.int .i64 k)
theorem Kds.below {w w' : World} {ka : Option Addr} {ks : List Int} (h : Kds w ka ks) (hb : Below w.heap.size w w') : Kds w' ka ks := fun j k hj => by
  obtain ⟨kb, ko, h1, h2⟩ := h j k hj
  exact ⟨kb, ko, h1, (hb.cell (lt_of_cell h2)).trans h2⟩
theorem Kds.take {w : World} {ka : Option Addr} {ks : List Int} (h : Kds w ka ks) (n : Nat) : Kds w ka (ks.take n) := fun j k hj => by
  rw [List.getElem?_take] at hj
  split at hj
  · exact h j k hj
  · cases hj
theorem kinds_or (ks : List Int) : (∀ k ∈ ks, 1 ≤ k ∧ k ≤ 7) ∨ ∃ (k0 : Nat) (hk0 : k0 < ks.length), (∀ j (hj : j < k0), 1 ≤ ks[j] ∧ ks[j] ≤ 7) ∧ ¬ (1 ≤ ks[k0] ∧ ks[k0] ≤ 7) := by
  induction ks with
  | nil => exact Or.inl (by simp)
  | cons k r ih =>
    by_cases hk : 1 ≤ k ∧ k ≤ 7
    · rcases ih with h | ⟨k0, hk0, h1, h2⟩
      · exact Or.inl (by intro x hx; rcases List.mem_cons.1 hx with rfl | hx; exact hk; exact h x hx)
      · refine Or.inr ⟨k0 + 1, by simpa using hk0, fun j hj => ?_, by simpa using h2⟩
        cases j with
        | zero => simpa using hk
        | succ j => simpa using h1 j (by omega)
    · exact Or.inr ⟨0, by simp, fun j hj => by omega, by simpa using hk⟩

/-- What First tells, by both. -/
def Fst (w : World) (p : PR (List FV)) (e : Ending) (w' : World) : Prop :=
  (match p with
    | .ok vs n => ∃ fa fc fs b, e = .returned (.tuple #[.slice fa vs.length fc, .int .i64 (n : Int), .int .i64 0]) ∧ FR w' vs fa fc fs b
    | .bad i er => e = .returned (.tuple #[.slice none 0 0, .int .i64 (i : Int), .int .i64 er])) ∧ RowKit.Below w.heap.size w w'
/-- What Unpack tells, by both. -/
def Unq (w : World) (p : PR (List FV)) (len : Nat) (e : Ending) (w' : World) : Prop :=
  (match p with
    | .ok vs n => (n < len ∧ e = .returned (.tuple #[.slice none 0 0, .int .i64 (n : Int), .int .i64 33])) ∨ (len ≤ n ∧ ∃ fa fc fs b, e = .returned (.tuple #[.slice fa vs.length fc, .int .i64 0, .int .i64 0]) ∧ FR w' vs fa fc fs b)
    | .bad i er => e = .returned (.tuple #[.slice none 0 0, .int .i64 (i : Int), .int .i64 er])) ∧ RowKit.Below w.heap.size w w'
theorem Unp.q {w w' : World} {p : PR (List FV)} {len : Nat} {e : Ending} (h : Unp w p len e w') : Unq w p len e w' := by
  refine ⟨?_, h.2⟩
  have h1 := h.1
  cases p with
  | ok vs n =>
    rcases h1 with h1 | ⟨h1, fa, fc, h2, h3⟩
    · exact Or.inl h1
    · obtain ⟨fs, h4⟩ := h3.fr
      exact Or.inr ⟨h1, fa, fc, fs, _, h2, h4⟩
  | bad i er => exact h1
section
variable (ks l : List Int) (hks : ∀ k ∈ ks, 1 ≤ k ∧ k ≤ 7) (n m : Nat) (hl : l.length = n) (hm : ks.length = m) (hn : m ≤ 1000) (sb : Nat) (a : Option Addr) (cap : Nat) (ka : Option Addr) (kc : Nat) (w : World) (hR : Ranks w) (hB : Bys w sb a cap l) (hK : Kds w ka ks)
include hks hl hm hn hR hB hK
theorem firstN : Calls Tryd.prog 20 #[.slice a n cap, .slice ka m kc] w fun e w' => Fst w (pfields ks l) e w' := by
  subst hl hm
  refine (first_any ks l hks hn sb a cap ka kc w hR hB hK).mono ?_
  intro e w' h
  refine ⟨?_, h.2⟩
  have h1 := h.1
  rcases hp : pfields ks l with ⟨vs, n⟩ | ⟨i, er⟩
  · rw [hp] at h1
    obtain ⟨fa, fc, h2, h3⟩ := h1
    obtain ⟨fs, h4⟩ := h3.d.fr
    exact ⟨fa, fc, fs, _, h2, h4⟩
  · rw [hp] at h1; exact h1
theorem unpackN : Calls Tryd.prog 19 #[.slice a n cap, .slice ka m kc] w fun e w' => Unq w (pfields ks l) n e w' := by
  subst hl hm
  exact (unpack_any ks l hks hn sb a cap ka kc w hR hB hK).mono fun e w' h => h.q
omit hR
theorem rfirstN : Calls Tryd.prog 22 #[.slice a n cap, .slice ka m kc] w fun e w' => Fst w (pfields ks l) e w' := by
  subst hl hm
  refine (rfirst_any ks l hks hn sb a cap ka kc w hB hK).mono ?_
  intro e w' h
  refine ⟨?_, h.2⟩
  have h1 := h.1
  rcases hp : pfields ks l with ⟨vs, n⟩ | ⟨i, er⟩
  · rw [hp] at h1
    obtain ⟨fa, fc, h2, h3⟩ := h1
    obtain ⟨fs, h4⟩ := h3.fr
    exact ⟨fa, fc, fs, _, h2, h4⟩
  · rw [hp] at h1; exact h1.1
theorem runpackN : Calls Tryd.prog 23 #[.slice a n cap, .slice ka m kc] w fun e w' => Unq w (pfields ks l) n e w' := by
  subst hl hm
  exact (runpack_any ks l hks hn sb a cap ka kc w hB hK).mono fun e w' h => h.q
end
theorem kds_at (ks : List Int) (k0 : Nat) (hk0 : k0 < ks.length) (ka : Option Addr) (w : World) (hK : Kds w ka ks) : ∃ kb ko, ka = some ⟨kb, ko, none⟩ ∧ ∀ (j : Nat) (k : Int), ks[j]? = some k → w.cell? ⟨kb, ko + j, none⟩ = some (.int .i64 k) := by
  obtain ⟨kb, ko, h1, -⟩ := hK k0 _ (List.getElem?_eq_getElem hk0)
  refine ⟨kb, ko, h1, fun j k hj => ?_⟩
  obtain ⟨kb', ko', h2, h3⟩ := hK j k hj
  rw [h1] at h2
  injection h2 with h2
  injection h2 with e1 e2 _
  subst e1 e2
  exact h3
section
variable (ks : List Int) (m : Nat) (hm : ks.length = m) (k0 : Nat) (hk0 : k0 < ks.length) (hks : ∀ j (hj : j < k0), 1 ≤ ks[j] ∧ ks[j] ≤ 7) (hbad : ¬ (1 ≤ ks[k0] ∧ ks[k0] ≤ 7)) (hn : m ≤ 1000) (a : Option Addr) (n cap : Nat) (ka : Option Addr) (kc : Nat) (w : World) (hK : Kds w ka ks)
include hm hk0 hks hbad hn hK
theorem firstX : Calls Tryd.prog 20 #[.slice a n cap, .slice ka m kc] w fun e w' => e = .returned (.tuple #[.slice none 0 0, .int .i64 0, .int .i64 30]) ∧ w' = w := by
  obtain ⟨kb, ko, rfl, h⟩ := kds_at ks k0 hk0 ka w hK
  subst hm
  exact first_none ks k0 hk0 hks hbad hn _ kb ko kc w h
theorem rfirstX : Calls Tryd.prog 22 #[.slice a n cap, .slice ka m kc] w fun e w' => e = .returned (.tuple #[.slice none 0 0, .int .i64 0, .int .i64 30]) ∧ w' = w := by
  obtain ⟨kb, ko, rfl, h⟩ := kds_at ks k0 hk0 ka w hK
  subst hm
  exact rfirst_none ks k0 hk0 hks hbad hn _ kb ko kc w h
end
theorem fr_nil (w : World) : FR w [] none 0 [] 0 := ⟨rfl, World.ownsRow_nil _ _ _ _, fun j v f h _ => by simp at h⟩
theorem same_nil (w : World) : Calls Tryd.prog 24 #[.slice none 0 0, .slice none 0 0] w fun e w' => e = .returned (.bool true) ∧ Below w.heap.size w w' :=
  sameAll_any [] (by simp) (by simp) none none 0 0 [] [] 0 0 w (fr_nil w) (fr_nil w)
set_option maxHeartbeats 1000000 in
set_option maxRecDepth 100000 in
theorem fewKinds_any (ka : Option Addr) (m kc : Nat) (hmc : m ≤ kc) (hkc : kc ≤ 9223372036854775807) (hn : ka = none → m = 0) (w : World) :
    Calls Tryd.prog 21 #[.slice ka m kc] w fun e w' => (∃ m', m' = min m 20 ∧ e = .returned (.slice ka m' kc)) ∧ w' = w := by
  by_cases h : m ≤ 20
  · go_enter Tryd.func21, Tryd.ntmps21
    go_wp2
    go_ret
    exact ⟨⟨m, by omega, rfl⟩, rfl⟩
  · obtain ⟨ad, rfl⟩ : ∃ ad, ka = some ad := by
      cases ka with
      | none => have := hn rfl; omega
      | some ad => exact ⟨ad, rfl⟩
    clear hn
    go_enter Tryd.func21, Tryd.ntmps21
    go_wp2
    go_ret
    exact ⟨⟨20, by omega, rfl⟩, rfl⟩

set_option maxHeartbeats 64000000 in
set_option maxRecDepth 100000 in
theorem packReads_any (L : List UInt8) (ks : List Int) (sb : Nat) (a : Option Addr) (len cap : Nat) (ka : Option Addr) (m kc : Nat) (w : World) (hR : Ranks w) (hlen : L.length = len) (hkl : ks.length = m)
    (hlc : len ≤ cap) (hcap : cap ≤ 9223372036854775807) (hsb : sb < w.heap.size) (ha : (a = none ∧ L = [] ∧ cap = 0) ∨ ∃ o, a = some ⟨sb, o, none⟩ ∧ ∀ j (hj : j < L.length), w.cell? ⟨sb, o + j, none⟩ = some (.int .u8 (L[j].toNat : Int)))
    (hmc : m ≤ kc) (hkc : kc ≤ 9223372036854775807) (hkn : ka = none → m = 0) (hK : Kds w ka ks) :
    Calls Tryd.prog 5 #[.slice a len cap, .slice ka m kc] w fun e w' => e = .returned (.bool true) ∧ Below w.heap.size w w' := by
  obtain ⟨l1, hl1e⟩ : ∃ l1, l1 = ints (L.take 700) := ⟨_, rfl⟩
  have hl1 : l1.length = min 700 len := by rw [hl1e, ints_len, List.length_take, hlen]
  have HB : Hid (Bys w sb a cap l1) := by
    refine ⟨by omega, hcap, by omega, by rw [hl1e]; exact ints_bd _, hsb, ?_⟩
    rcases ha with ⟨h1, h2, h3⟩ | ⟨o, h1, h2⟩
    · exact Or.inl ⟨h1, by rw [hl1e, h2]; rfl, h3⟩
    · refine Or.inr ⟨o, h1, fun j hj => ?_⟩
      subst hl1e
      rw [ints_len] at hj
      rw [ints_get _ j hj, List.getElem_take]
      rw [List.length_take] at hj
      exact h2 j (by omega)
  have hnone : a = none → len = 0 := fun h => by
    rcases ha with ⟨h1, h2, h3⟩ | ⟨o, h1, h2⟩
    · rw [← hlen, h2]; rfl
    · rw [h] at h1; cases h1
  clear ha hl1e hlen
  replace hR := hide hR
  replace hK := hide hK
  replace hkl := hide hkl
  by_cases hbig : len ≤ 700
  · have hl1 : Hid (l1.length = len) := by show _ = _; rw [hl1]; omega
    clear hnone
    go_enter Tryd.func5, Tryd.ntmps5
    go_wp2_with fail
    refine (fewKinds_any ka m kc hmc hkc hkn _).mono ?_; rintro e w0 ⟨⟨m', hm0, rfl⟩, rfl⟩
    obtain ⟨ks1, hks1⟩ : ∃ ks1, ks1 = ks.take 20 := ⟨_, rfl⟩
    have hm' : ks1.length = m' := by rw [hks1, List.length_take, hkl.out]; omega
    have hm20 : m' ≤ 1000 := by omega
    have HK : Hid (Kds w0 ka ks1) := by rw [hks1]; exact hK.out.take 20
    have B0 : Hid (Below w0.heap.size w0 w0) := Below.refl _ _
    replace hm' := hide hm'
    clear hks1 hm0
    rcases kinds_or ks1 with hks | ⟨k0, hk0, hks, hbad⟩
    · rcases hp : pfields ks1 l1 with ⟨vs, n⟩ | ⟨i, er⟩
      · have hvb := hide (read_byts ks1 l1 hks HB.out.2.2.2.1 vs n hp)
        have hvl : vs.length ≤ 1000 := by rw [(read_len ks1 l1 hks HB.out.2.2.2.1 vs n hp).1, hm'.out]; exact hm20
        have hks := hide hks
        by_cases hnl : n < len
        · replace hnl := hide hnl
          go_wp2_with fail
          refine (firstN ks1 l1 hks.out len m' hl1.out hm'.out hm20 sb a cap ka kc _ (hR.out.below B0.out) (HB.out.below B0.out) (HK.out.below B0.out)).mono ?_; intro e w1 hE
          rw [hp] at hE
          obtain ⟨⟨fa, fc, fs, bb, rfl, hF⟩, hb⟩ := hE
          have B1 := hide (B0.out.trans (hb.mono B0.out.size))
          have F1 := hide hF
          clear hF
          clear hb
          go_wp2_with fail
          refine (rfirstN ks1 l1 hks.out len m' hl1.out hm'.out hm20 sb a cap ka kc _ (HB.out.below B1.out) (HK.out.below B1.out)).mono ?_; intro e w2 hE
          rw [hp] at hE
          obtain ⟨⟨ga, gc, gs, gb, rfl, hG⟩, hb⟩ := hE
          have B2 := hide (B1.out.trans (hb.mono B1.out.size))
          replace F1 := hide (F1.out.below hb)
          have G1 := hide hG
          clear hG
          clear hb
          go_wp2_with fail
          refine (unpackN ks1 l1 hks.out len m' hl1.out hm'.out hm20 sb a cap ka kc _ (hR.out.below B2.out) (HB.out.below B2.out) (HK.out.below B2.out)).mono ?_; intro e w3 hE
          rw [hp] at hE
          obtain ⟨hE, hb⟩ := hE
          have B3 := hide (B2.out.trans (hb.mono B2.out.size))
          replace F1 := hide (F1.out.below hb)
          replace G1 := hide (G1.out.below hb)
          obtain rfl : e = .returned (.tuple #[.slice none 0 0, .int .i64 (n : Int), .int .i64 33]) := by
            rcases hE with ⟨-, h⟩ | ⟨h, -⟩
            · exact h
            · have := hnl.out; omega
          clear hE
          clear hb
          go_wp2_with fail
          refine (runpackN ks1 l1 hks.out len m' hl1.out hm'.out hm20 sb a cap ka kc _ (HB.out.below B3.out) (HK.out.below B3.out)).mono ?_; intro e w4 hE
          rw [hp] at hE
          obtain ⟨hE, hb⟩ := hE
          have B4 := hide (B3.out.trans (hb.mono B3.out.size))
          replace F1 := hide (F1.out.below hb)
          replace G1 := hide (G1.out.below hb)
          obtain rfl : e = .returned (.tuple #[.slice none 0 0, .int .i64 (n : Int), .int .i64 33]) := by
            rcases hE with ⟨-, h⟩ | ⟨h, -⟩
            · exact h
            · have := hnl.out; omega
          clear hE
          clear hb
          go_wp2_with fail
          refine (sameAll_any vs hvb.out hvl fa ga fc gc fs gs _ _ _ F1.out G1.out).mono ?_; rintro e w5 ⟨rfl, hb⟩
          have B5 := hide (B4.out.trans (hb.mono B4.out.size))
          clear hb
          go_wp2_with fail
          refine (same_nil _).mono ?_; rintro e w6 ⟨rfl, hb⟩
          have B6 := hide (B5.out.trans (hb.mono B5.out.size))
          clear hb
          go_wp2_with fail
          refine (alive_any _ (hR.out.below B6.out)).mono ?_; rintro e w7 ⟨rfl, hb⟩
          have B7 := hide (B6.out.trans (hb.mono B6.out.size))
          clear hb
          go_wp2
          go_ret
          exact ⟨rfl, B7.out⟩
        · replace hnl := hide hnl
          go_wp2_with fail
          refine (firstN ks1 l1 hks.out len m' hl1.out hm'.out hm20 sb a cap ka kc _ (hR.out.below B0.out) (HB.out.below B0.out) (HK.out.below B0.out)).mono ?_; intro e w1 hE
          rw [hp] at hE
          obtain ⟨⟨fa, fc, fs, bb, rfl, hF⟩, hb⟩ := hE
          have B1 := hide (B0.out.trans (hb.mono B0.out.size))
          have F1 := hide hF
          clear hF
          clear hb
          go_wp2_with fail
          refine (rfirstN ks1 l1 hks.out len m' hl1.out hm'.out hm20 sb a cap ka kc _ (HB.out.below B1.out) (HK.out.below B1.out)).mono ?_; intro e w2 hE
          rw [hp] at hE
          obtain ⟨⟨ga, gc, gs, gb, rfl, hG⟩, hb⟩ := hE
          have B2 := hide (B1.out.trans (hb.mono B1.out.size))
          replace F1 := hide (F1.out.below hb)
          have G1 := hide hG
          clear hG
          clear hb
          go_wp2_with fail
          refine (unpackN ks1 l1 hks.out len m' hl1.out hm'.out hm20 sb a cap ka kc _ (hR.out.below B2.out) (HB.out.below B2.out) (HK.out.below B2.out)).mono ?_; intro e w3 hE
          rw [hp] at hE
          obtain ⟨hE, hb⟩ := hE
          have B3 := hide (B2.out.trans (hb.mono B2.out.size))
          replace F1 := hide (F1.out.below hb)
          replace G1 := hide (G1.out.below hb)
          obtain ⟨fa3, fc3, fs3, bb3, rfl, hF⟩ : ∃ fa fc fs b, e = .returned (.tuple #[.slice fa vs.length fc, .int .i64 0, .int .i64 0]) ∧ FR w3 vs fa fc fs b := by
            rcases hE with ⟨h, -⟩ | ⟨-, h⟩
            · have := hnl.out; omega
            · exact h
          clear hE
          have F3 := hide hF
          clear hF
          clear hb
          go_wp2_with fail
          refine (runpackN ks1 l1 hks.out len m' hl1.out hm'.out hm20 sb a cap ka kc _ (HB.out.below B3.out) (HK.out.below B3.out)).mono ?_; intro e w4 hE
          rw [hp] at hE
          obtain ⟨hE, hb⟩ := hE
          have B4 := hide (B3.out.trans (hb.mono B3.out.size))
          replace F3 := hide (F3.out.below hb)
          replace F1 := hide (F1.out.below hb)
          replace G1 := hide (G1.out.below hb)
          obtain ⟨fa4, fc4, fs4, bb4, rfl, hF⟩ : ∃ fa fc fs b, e = .returned (.tuple #[.slice fa vs.length fc, .int .i64 0, .int .i64 0]) ∧ FR w4 vs fa fc fs b := by
            rcases hE with ⟨h, -⟩ | ⟨-, h⟩
            · have := hnl.out; omega
            · exact h
          clear hE
          have F4 := hide hF
          clear hF
          clear hb
          go_wp2_with fail
          refine (sameAll_any vs hvb.out hvl fa ga fc gc fs gs _ _ _ F1.out G1.out).mono ?_; rintro e w5 ⟨rfl, hb⟩
          have B5 := hide (B4.out.trans (hb.mono B4.out.size))
          replace F3 := hide (F3.out.below hb)
          replace F4 := hide (F4.out.below hb)
          clear hb
          go_wp2_with fail
          refine (sameAll_any vs hvb.out hvl fa3 fa4 fc3 fc4 fs3 fs4 _ _ _ F3.out F4.out).mono ?_; rintro e w6 ⟨rfl, hb⟩
          have B6 := hide (B5.out.trans (hb.mono B5.out.size))
          clear hb
          go_wp2_with fail
          refine (alive_any _ (hR.out.below B6.out)).mono ?_; rintro e w7 ⟨rfl, hb⟩
          have B7 := hide (B6.out.trans (hb.mono B6.out.size))
          clear hb
          go_wp2
          go_ret
          exact ⟨rfl, B7.out⟩
      · have hks := hide hks
        go_wp2_with fail
        refine (firstN ks1 l1 hks.out len m' hl1.out hm'.out hm20 sb a cap ka kc _ (hR.out.below B0.out) (HB.out.below B0.out) (HK.out.below B0.out)).mono ?_; intro e w1 hE
        rw [hp] at hE
        obtain ⟨rfl, hb⟩ := hE
        have B1 := hide (B0.out.trans (hb.mono B0.out.size))
        clear hb
        go_wp2_with fail
        refine (rfirstN ks1 l1 hks.out len m' hl1.out hm'.out hm20 sb a cap ka kc _ (HB.out.below B1.out) (HK.out.below B1.out)).mono ?_; intro e w2 hE
        rw [hp] at hE
        obtain ⟨rfl, hb⟩ := hE
        have B2 := hide (B1.out.trans (hb.mono B1.out.size))
        clear hb
        go_wp2_with fail
        refine (unpackN ks1 l1 hks.out len m' hl1.out hm'.out hm20 sb a cap ka kc _ (hR.out.below B2.out) (HB.out.below B2.out) (HK.out.below B2.out)).mono ?_; intro e w3 hE
        rw [hp] at hE
        obtain ⟨rfl, hb⟩ := hE
        have B3 := hide (B2.out.trans (hb.mono B2.out.size))
        clear hb
        go_wp2_with fail
        refine (runpackN ks1 l1 hks.out len m' hl1.out hm'.out hm20 sb a cap ka kc _ (HB.out.below B3.out) (HK.out.below B3.out)).mono ?_; intro e w4 hE
        rw [hp] at hE
        obtain ⟨rfl, hb⟩ := hE
        have B4 := hide (B3.out.trans (hb.mono B3.out.size))
        clear hb
        go_wp2_with fail
        refine (same_nil _).mono ?_; rintro e w5 ⟨rfl, hb⟩
        have B5 := hide (B4.out.trans (hb.mono B4.out.size))
        clear hb
        go_wp2_with fail
        refine (same_nil _).mono ?_; rintro e w6 ⟨rfl, hb⟩
        have B6 := hide (B5.out.trans (hb.mono B5.out.size))
        clear hb
        go_wp2_with fail
        refine (alive_any _ (hR.out.below B6.out)).mono ?_; rintro e w7 ⟨rfl, hb⟩
        have B7 := hide (B6.out.trans (hb.mono B6.out.size))
        clear hb
        go_wp2
        go_ret
        exact ⟨rfl, B7.out⟩
    · have hks := hide hks
      have hbad := hide hbad
      go_wp2_with fail
      refine (firstX ks1 m' hm'.out k0 hk0 hks.out hbad.out hm20 a len cap ka kc _ (HK.out.below B0.out)).mono ?_; rintro e w1 ⟨rfl, rfl⟩
      go_wp2_with fail
      refine (rfirstX ks1 m' hm'.out k0 hk0 hks.out hbad.out hm20 a len cap ka kc _ (HK.out.below B0.out)).mono ?_; rintro e w1 ⟨rfl, rfl⟩
      go_wp2_with fail
      refine (unpack_none a len cap _ _ (firstX ks1 m' hm'.out k0 hk0 hks.out hbad.out hm20 a len cap ka kc _ (HK.out.below B0.out))).mono ?_; rintro e w1 ⟨rfl, rfl⟩
      go_wp2_with fail
      refine (runpack_none a len cap _ _ (rfirstX ks1 m' hm'.out k0 hk0 hks.out hbad.out hm20 a len cap ka kc _ (HK.out.below B0.out))).mono ?_; rintro e w1 ⟨rfl, rfl⟩
      go_wp2_with fail
      refine (same_nil _).mono ?_; rintro e w5 ⟨rfl, hb⟩
      have B5 := hide (B0.out.trans (hb.mono B0.out.size))
      clear hb
      go_wp2_with fail
      refine (same_nil _).mono ?_; rintro e w6 ⟨rfl, hb⟩
      have B6 := hide (B5.out.trans (hb.mono B5.out.size))
      clear hb
      go_wp2_with fail
      refine (alive_any _ (hR.out.below B6.out)).mono ?_; rintro e w7 ⟨rfl, hb⟩
      have B7 := hide (B6.out.trans (hb.mono B6.out.size))
      clear hb
      go_wp2
      go_ret
      exact ⟨rfl, B7.out⟩
  · have hl1 : Hid (l1.length = 700) := by show _ = _; rw [hl1]; omega
    obtain ⟨ad, rfl⟩ : ∃ ad, a = some ad := by
      cases a with
      | none => have := hnone rfl; omega
      | some ad => exact ⟨ad, rfl⟩
    clear hnone
    go_enter Tryd.func5, Tryd.ntmps5
    go_wp2_with fail
    refine (fewKinds_any ka m kc hmc hkc hkn _).mono ?_; rintro e w0 ⟨⟨m', hm0, rfl⟩, rfl⟩
    obtain ⟨ks1, hks1⟩ : ∃ ks1, ks1 = ks.take 20 := ⟨_, rfl⟩
    have hm' : ks1.length = m' := by rw [hks1, List.length_take, hkl.out]; omega
    have hm20 : m' ≤ 1000 := by omega
    have HK : Hid (Kds w0 ka ks1) := by rw [hks1]; exact hK.out.take 20
    have B0 : Hid (Below w0.heap.size w0 w0) := Below.refl _ _
    replace hm' := hide hm'
    clear hks1 hm0
    rcases kinds_or ks1 with hks | ⟨k0, hk0, hks, hbad⟩
    · rcases hp : pfields ks1 l1 with ⟨vs, n⟩ | ⟨i, er⟩
      · have hvb := hide (read_byts ks1 l1 hks HB.out.2.2.2.1 vs n hp)
        have hvl : vs.length ≤ 1000 := by rw [(read_len ks1 l1 hks HB.out.2.2.2.1 vs n hp).1, hm'.out]; exact hm20
        have hks := hide hks
        by_cases hnl : n < 700
        · replace hnl := hide hnl
          go_wp2_with fail
          refine (firstN ks1 l1 hks.out 700 m' hl1.out hm'.out hm20 sb (some ad) cap ka kc _ (hR.out.below B0.out) (HB.out.below B0.out) (HK.out.below B0.out)).mono ?_; intro e w1 hE
          rw [hp] at hE
          obtain ⟨⟨fa, fc, fs, bb, rfl, hF⟩, hb⟩ := hE
          have B1 := hide (B0.out.trans (hb.mono B0.out.size))
          have F1 := hide hF
          clear hF
          clear hb
          go_wp2_with fail
          refine (rfirstN ks1 l1 hks.out 700 m' hl1.out hm'.out hm20 sb (some ad) cap ka kc _ (HB.out.below B1.out) (HK.out.below B1.out)).mono ?_; intro e w2 hE
          rw [hp] at hE
          obtain ⟨⟨ga, gc, gs, gb, rfl, hG⟩, hb⟩ := hE
          have B2 := hide (B1.out.trans (hb.mono B1.out.size))
          replace F1 := hide (F1.out.below hb)
          have G1 := hide hG
          clear hG
          clear hb
          go_wp2_with fail
          refine (unpackN ks1 l1 hks.out 700 m' hl1.out hm'.out hm20 sb (some ad) cap ka kc _ (hR.out.below B2.out) (HB.out.below B2.out) (HK.out.below B2.out)).mono ?_; intro e w3 hE
          rw [hp] at hE
          obtain ⟨hE, hb⟩ := hE
          have B3 := hide (B2.out.trans (hb.mono B2.out.size))
          replace F1 := hide (F1.out.below hb)
          replace G1 := hide (G1.out.below hb)
          obtain rfl : e = .returned (.tuple #[.slice none 0 0, .int .i64 (n : Int), .int .i64 33]) := by
            rcases hE with ⟨-, h⟩ | ⟨h, -⟩
            · exact h
            · have := hnl.out; omega
          clear hE
          clear hb
          go_wp2_with fail
          refine (runpackN ks1 l1 hks.out 700 m' hl1.out hm'.out hm20 sb (some ad) cap ka kc _ (HB.out.below B3.out) (HK.out.below B3.out)).mono ?_; intro e w4 hE
          rw [hp] at hE
          obtain ⟨hE, hb⟩ := hE
          have B4 := hide (B3.out.trans (hb.mono B3.out.size))
          replace F1 := hide (F1.out.below hb)
          replace G1 := hide (G1.out.below hb)
          obtain rfl : e = .returned (.tuple #[.slice none 0 0, .int .i64 (n : Int), .int .i64 33]) := by
            rcases hE with ⟨-, h⟩ | ⟨h, -⟩
            · exact h
            · have := hnl.out; omega
          clear hE
          clear hb
          go_wp2_with fail
          refine (sameAll_any vs hvb.out hvl fa ga fc gc fs gs _ _ _ F1.out G1.out).mono ?_; rintro e w5 ⟨rfl, hb⟩
          have B5 := hide (B4.out.trans (hb.mono B4.out.size))
          clear hb
          go_wp2_with fail
          refine (same_nil _).mono ?_; rintro e w6 ⟨rfl, hb⟩
          have B6 := hide (B5.out.trans (hb.mono B5.out.size))
          clear hb
          go_wp2_with fail
          refine (alive_any _ (hR.out.below B6.out)).mono ?_; rintro e w7 ⟨rfl, hb⟩
          have B7 := hide (B6.out.trans (hb.mono B6.out.size))
          clear hb
          go_wp2
          go_ret
          exact ⟨rfl, B7.out⟩
        · replace hnl := hide hnl
          go_wp2_with fail
          refine (firstN ks1 l1 hks.out 700 m' hl1.out hm'.out hm20 sb (some ad) cap ka kc _ (hR.out.below B0.out) (HB.out.below B0.out) (HK.out.below B0.out)).mono ?_; intro e w1 hE
          rw [hp] at hE
          obtain ⟨⟨fa, fc, fs, bb, rfl, hF⟩, hb⟩ := hE
          have B1 := hide (B0.out.trans (hb.mono B0.out.size))
          have F1 := hide hF
          clear hF
          clear hb
          go_wp2_with fail
          refine (rfirstN ks1 l1 hks.out 700 m' hl1.out hm'.out hm20 sb (some ad) cap ka kc _ (HB.out.below B1.out) (HK.out.below B1.out)).mono ?_; intro e w2 hE
          rw [hp] at hE
          obtain ⟨⟨ga, gc, gs, gb, rfl, hG⟩, hb⟩ := hE
          have B2 := hide (B1.out.trans (hb.mono B1.out.size))
          replace F1 := hide (F1.out.below hb)
          have G1 := hide hG
          clear hG
          clear hb
          go_wp2_with fail
          refine (unpackN ks1 l1 hks.out 700 m' hl1.out hm'.out hm20 sb (some ad) cap ka kc _ (hR.out.below B2.out) (HB.out.below B2.out) (HK.out.below B2.out)).mono ?_; intro e w3 hE
          rw [hp] at hE
          obtain ⟨hE, hb⟩ := hE
          have B3 := hide (B2.out.trans (hb.mono B2.out.size))
          replace F1 := hide (F1.out.below hb)
          replace G1 := hide (G1.out.below hb)
          obtain ⟨fa3, fc3, fs3, bb3, rfl, hF⟩ : ∃ fa fc fs b, e = .returned (.tuple #[.slice fa vs.length fc, .int .i64 0, .int .i64 0]) ∧ FR w3 vs fa fc fs b := by
            rcases hE with ⟨h, -⟩ | ⟨-, h⟩
            · have := hnl.out; omega
            · exact h
          clear hE
          have F3 := hide hF
          clear hF
          clear hb
          go_wp2_with fail
          refine (runpackN ks1 l1 hks.out 700 m' hl1.out hm'.out hm20 sb (some ad) cap ka kc _ (HB.out.below B3.out) (HK.out.below B3.out)).mono ?_; intro e w4 hE
          rw [hp] at hE
          obtain ⟨hE, hb⟩ := hE
          have B4 := hide (B3.out.trans (hb.mono B3.out.size))
          replace F3 := hide (F3.out.below hb)
          replace F1 := hide (F1.out.below hb)
          replace G1 := hide (G1.out.below hb)
          obtain ⟨fa4, fc4, fs4, bb4, rfl, hF⟩ : ∃ fa fc fs b, e = .returned (.tuple #[.slice fa vs.length fc, .int .i64 0, .int .i64 0]) ∧ FR w4 vs fa fc fs b := by
            rcases hE with ⟨h, -⟩ | ⟨-, h⟩
            · have := hnl.out; omega
            · exact h
          clear hE
          have F4 := hide hF
          clear hF
          clear hb
          go_wp2_with fail
          refine (sameAll_any vs hvb.out hvl fa ga fc gc fs gs _ _ _ F1.out G1.out).mono ?_; rintro e w5 ⟨rfl, hb⟩
          have B5 := hide (B4.out.trans (hb.mono B4.out.size))
          replace F3 := hide (F3.out.below hb)
          replace F4 := hide (F4.out.below hb)
          clear hb
          go_wp2_with fail
          refine (sameAll_any vs hvb.out hvl fa3 fa4 fc3 fc4 fs3 fs4 _ _ _ F3.out F4.out).mono ?_; rintro e w6 ⟨rfl, hb⟩
          have B6 := hide (B5.out.trans (hb.mono B5.out.size))
          clear hb
          go_wp2_with fail
          refine (alive_any _ (hR.out.below B6.out)).mono ?_; rintro e w7 ⟨rfl, hb⟩
          have B7 := hide (B6.out.trans (hb.mono B6.out.size))
          clear hb
          go_wp2
          go_ret
          exact ⟨rfl, B7.out⟩
      · have hks := hide hks
        go_wp2_with fail
        refine (firstN ks1 l1 hks.out 700 m' hl1.out hm'.out hm20 sb (some ad) cap ka kc _ (hR.out.below B0.out) (HB.out.below B0.out) (HK.out.below B0.out)).mono ?_; intro e w1 hE
        rw [hp] at hE
        obtain ⟨rfl, hb⟩ := hE
        have B1 := hide (B0.out.trans (hb.mono B0.out.size))
        clear hb
        go_wp2_with fail
        refine (rfirstN ks1 l1 hks.out 700 m' hl1.out hm'.out hm20 sb (some ad) cap ka kc _ (HB.out.below B1.out) (HK.out.below B1.out)).mono ?_; intro e w2 hE
        rw [hp] at hE
        obtain ⟨rfl, hb⟩ := hE
        have B2 := hide (B1.out.trans (hb.mono B1.out.size))
        clear hb
        go_wp2_with fail
        refine (unpackN ks1 l1 hks.out 700 m' hl1.out hm'.out hm20 sb (some ad) cap ka kc _ (hR.out.below B2.out) (HB.out.below B2.out) (HK.out.below B2.out)).mono ?_; intro e w3 hE
        rw [hp] at hE
        obtain ⟨rfl, hb⟩ := hE
        have B3 := hide (B2.out.trans (hb.mono B2.out.size))
        clear hb
        go_wp2_with fail
        refine (runpackN ks1 l1 hks.out 700 m' hl1.out hm'.out hm20 sb (some ad) cap ka kc _ (HB.out.below B3.out) (HK.out.below B3.out)).mono ?_; intro e w4 hE
        rw [hp] at hE
        obtain ⟨rfl, hb⟩ := hE
        have B4 := hide (B3.out.trans (hb.mono B3.out.size))
        clear hb
        go_wp2_with fail
        refine (same_nil _).mono ?_; rintro e w5 ⟨rfl, hb⟩
        have B5 := hide (B4.out.trans (hb.mono B4.out.size))
        clear hb
        go_wp2_with fail
        refine (same_nil _).mono ?_; rintro e w6 ⟨rfl, hb⟩
        have B6 := hide (B5.out.trans (hb.mono B5.out.size))
        clear hb
        go_wp2_with fail
        refine (alive_any _ (hR.out.below B6.out)).mono ?_; rintro e w7 ⟨rfl, hb⟩
        have B7 := hide (B6.out.trans (hb.mono B6.out.size))
        clear hb
        go_wp2
        go_ret
        exact ⟨rfl, B7.out⟩
    · have hks := hide hks
      have hbad := hide hbad
      go_wp2_with fail
      refine (firstX ks1 m' hm'.out k0 hk0 hks.out hbad.out hm20 (some ad) 700 cap ka kc _ (HK.out.below B0.out)).mono ?_; rintro e w1 ⟨rfl, rfl⟩
      go_wp2_with fail
      refine (rfirstX ks1 m' hm'.out k0 hk0 hks.out hbad.out hm20 (some ad) 700 cap ka kc _ (HK.out.below B0.out)).mono ?_; rintro e w1 ⟨rfl, rfl⟩
      go_wp2_with fail
      refine (unpack_none (some ad) 700 cap _ _ (firstX ks1 m' hm'.out k0 hk0 hks.out hbad.out hm20 (some ad) 700 cap ka kc _ (HK.out.below B0.out))).mono ?_; rintro e w1 ⟨rfl, rfl⟩
      go_wp2_with fail
      refine (runpack_none (some ad) 700 cap _ _ (rfirstX ks1 m' hm'.out k0 hk0 hks.out hbad.out hm20 (some ad) 700 cap ka kc _ (HK.out.below B0.out))).mono ?_; rintro e w1 ⟨rfl, rfl⟩
      go_wp2_with fail
      refine (same_nil _).mono ?_; rintro e w5 ⟨rfl, hb⟩
      have B5 := hide (B0.out.trans (hb.mono B0.out.size))
      clear hb
      go_wp2_with fail
      refine (same_nil _).mono ?_; rintro e w6 ⟨rfl, hb⟩
      have B6 := hide (B5.out.trans (hb.mono B5.out.size))
      clear hb
      go_wp2_with fail
      refine (alive_any _ (hR.out.below B6.out)).mono ?_; rintro e w7 ⟨rfl, hb⟩
      have B7 := hide (B6.out.trans (hb.mono B6.out.size))
      clear hb
      go_wp2
      go_ret
      exact ⟨rfl, B7.out⟩

end Go.Proofs.YtmhcmlegdoapdaaDoor
