/- Walks: the vector of a text, by package vec. -/
import Derived.Test.YtdjlmmgnknfkfaaI
namespace Go.Proofs.Ytdjlmmgnknfkfaa
open Go.RowKit
attribute [local go_sem ↓] Go.wp_at_zero Go.wp_at_succ

/-- A text's bytes, as numbers. -/
def bs (s : ByteArray) : List Nat := s.data.toList.map UInt8.toNat
/-- What is told of a text's bytes from place i on, v being the number of the bits ahead. -/
def rdGo : List Nat → Nat → Nat → Nat × Nat × Nat × Nat
  | [], i, v => (i, v, 0, 0)
  | c :: t, i, v => if i = 32 ∨ ¬ (c = 48 ∨ c = 49) then (0, 0, i, 10) else rdGo t (i + 1) (v * 2 + (c - 48))
/-- What is told of a text. -/
def rdE : List Nat → Nat × Nat × Nat × Nat
  | [] => (0, 0, 0, 10)
  | c :: t => if c = 46 then (if t = [] then (0, 0, 0, 0) else (0, 0, 1, 10)) else rdGo (c :: t) 0 0

theorem bs_length (s : ByteArray) : (bs s).length = s.size := by simp [bs]
theorem bs_drop (s : ByteArray) (k : Nat) (h : k < s.size) : (bs s).drop k = s[k].toNat :: (bs s).drop (k + 1) := by
  rw [List.drop_eq_getElem_cons (by rw [bs_length]; exact h)]
  simp [bs]; rfl
theorem bs_end (s : ByteArray) (k : Nat) (h : s.size ≤ k) : (bs s).drop k = [] := List.drop_eq_nil_of_le (by rw [bs_length]; exact h)
theorem bs_zero (s : ByteArray) (h : s.size = 0) : bs s = [] := by
  have := bs_length s; rw [h] at this; exact List.length_eq_zero_iff.1 this
theorem bs_cons (s : ByteArray) (h : 0 < s.size) : bs s = s[0].toNat :: (bs s).drop 1 := by
  have := bs_drop s 0 h; simpa using this
theorem empty_yes (s : ByteArray) (h : s.size = 0) : s.toList.isEmpty = true := by
  rw [ByteArray.toList_eq]
  have : s.data.toList.length = 0 := by simpa using h
  rw [List.length_eq_zero_iff.1 this]; rfl
theorem empty_no (s : ByteArray) (h : 0 < s.size) : s.toList.isEmpty = false := by
  rw [ByteArray.toList_eq]
  have : s.data.toList.length ≠ 0 := by
    have e : s.data.toList.length = s.size := by simp
    omega
  cases hl : s.data.toList with
  | nil => rw [hl] at this; simp at this
  | cons => rfl

set_option maxHeartbeats 400000 in
theorem readNone_any (s : ByteArray) (hs : s.size ≤ 1000) (w : World) :
    Calls Try.prog 52 #[.string s] w fun e w' => e = .returned (.tuple #[(.agg #[.int .i64 (0), .int .u64 (0)]), .int .i64 (if 1 < s.size then 1 else 0), .int .i64 (if 1 < s.size then 10 else 0)]) ∧ Below w.heap.size w w' := by
  by_cases h : 1 < s.size
  · rw [if_pos h, if_pos h]
    go_enter Try.func52, Try.ntmps52
    go_wp2
    exact bodyPost_ret (v := .tuple #[(.agg #[.int .i64 (0), .int .u64 (0)]), .int .i64 1, .int .i64 10]) (by simp [results, Try.results52, go_sem]) rfl ⟨rfl, (Below.refl _ _).alloc (Nat.le_refl _) _⟩
  · rw [if_neg h, if_neg h]
    go_enter Try.func52, Try.ntmps52
    go_wp2
    exact bodyPost_ret (v := .tuple #[(.agg #[.int .i64 (0), .int .u64 (0)]), .int .i64 0, .int .i64 0]) (by simp [results, Try.results52, go_sem]) rfl ⟨rfl, (Below.refl _ _).alloc (Nat.le_refl _) _⟩

theorem rdGo_bad (c : Nat) (t : List Nat) (i v : Nat) (h : i = 32 ∨ ¬ (c = 48 ∨ c = 49)) : rdGo (c :: t) i v = (0, 0, i, 10) := if_pos h
theorem rdGo_good (c : Nat) (t : List Nat) (i v : Nat) (h : ¬ (i = 32 ∨ ¬ (c = 48 ∨ c = 49))) : rdGo (c :: t) i v = rdGo t (i + 1) (v * 2 + (c - 48)) := if_neg h

/-- The value that is told. -/
def rdV (r : Nat × Nat × Nat × Nat) : Value := .tuple #[(.agg #[.int .i64 ((r.1 : Int)), .int .u64 ((r.2.1 : Int))]), .int .i64 (r.2.2.1 : Int), .int .i64 (r.2.2.2 : Int)]

set_option maxHeartbeats 1000000 in
theorem vRead_any (s : ByteArray) (hs : s.size ≤ 1000) (w : World) :
    Calls Try.prog 30 #[.string s] w fun e w' => e = .returned (rdV (rdE (bs s))) ∧ Below w.heap.size w w' := by
  by_cases h0 : s.size = 0
  · rw [bs_zero s h0]
    have g := empty_yes s h0
    go_enter Try.func30, Try.ntmps30
    go_wp2
    exact bodyPost_ret (v := .tuple #[(.agg #[.int .i64 (0), .int .u64 (0)]), .int .i64 0, .int .i64 10]) (by simp [results, Try.results30, go_sem]) rfl ⟨rfl, (Below.refl _ _).alloc (Nat.le_refl _) _⟩
  · have h0' : 0 < s.size := by omega
    have g := empty_no s h0'
    have i0 : (0 : Int) < s.size := by omega
    by_cases h1 : s[0].toNat = 46
    · have h1b : ((s[0].toNat : Int) == 46) = true := by simp; omega
      have E : Hid (rdE (bs s) = (0, 0, (if 1 < s.size then 1 else 0), (if 1 < s.size then 10 else 0))) := by
        show _ = _
        rw [bs_cons s h0', rdE, if_pos h1]
        by_cases h2 : 1 < s.size
        · rw [if_pos h2, if_pos h2, if_neg]
          intro h
          have := congrArg List.length h
          rw [List.length_drop, bs_length] at this
          simp at this; omega
        · rw [if_neg h2, if_neg h2, if_pos (bs_end s 1 (by omega))]
      clear h1
      go_enter Try.func30, Try.ntmps30
      go_wp2_with fail
      refine (readNone_any s hs _).mono ?_; rintro e w1 ⟨rfl, hb1⟩; obtain ⟨hc1, hf1⟩ := bcell hb1
      have I := (Is2.new w (.int .i64 0) (.int .u64 0)).below hb1
      obtain ⟨k0, k1, -, -⟩ := ((I.set0 (.int .i64 0)).set1 (.int .u64 0)).c
      have K0 := hide k0
      have K1 := hide k1
      clear k0 k1 I
      by_cases h2 : 1 < s.size
      · rw [if_pos h2, if_pos h2] at E
        rw [if_pos h2, if_pos h2]
        go_wp2
        exact bodyPost_ret (v := .tuple #[(.agg #[.int .i64 (0), .int .u64 (0)]), .int .i64 1, .int .i64 10]) (by simp [results, Try.results30, go_sem, K0.out, K1.out]) rfl ⟨by rw [E.out]; rfl, ((bx hb1).setCell (by simp) _).setCell (by simp) _⟩
      · rw [if_neg h2, if_neg h2] at E
        rw [if_neg h2, if_neg h2]
        go_wp2
        exact bodyPost_ret (v := .tuple #[(.agg #[.int .i64 (0), .int .u64 (0)]), .int .i64 0, .int .i64 0]) (by simp [results, Try.results30, go_sem, K0.out, K1.out]) rfl ⟨by rw [E.out]; rfl, ((bx hb1).setCell (by simp) _).setCell (by simp) _⟩
    · have h1b : ((s[0].toNat : Int) == 46) = false := by simp; omega
      have E : Hid (rdE (bs s) = rdGo ((bs s).drop 0) 0 0) := by
        show _ = _
        rw [List.drop_zero]
        conv => lhs; rw [bs_cons s h0', rdE, if_neg h1]
        rw [← bs_cons s h0']
      clear h1
      go_enter Try.func30, Try.ntmps30
      go_wp2
      go_loopw [21] (fun i wr => ∃ (k v : Nat), k ≤ s.size ∧ k ≤ 32 ∧ v < 2 ^ k ∧ i = .int .i64 (k : Int) ∧ rdE (bs s) = rdGo ((bs s).drop k) k v ∧ Is2 wr w.heap.size (.int .i64 0) (.int .u64 0) ∧ Is2 wr (w.heap.size + 1) (.int .i64 (k : Int)) (.int .u64 (v : Int)) ∧ Below w.heap.size w wr)
        (fun i _ => s.size - (intOf i).toNat)
      case atStart =>
        refine ⟨0, 0, by omega, by omega, by simp, rfl, E.out, (Is2.new w _ _).alloc _, ?_, ?_⟩
        · have := Is2.new (w.alloc (.cells #[.int .i64 0, .int .u64 0] 24)) (.int .i64 0) (.int .u64 0)
          simpa using this
        · exact ((Below.refl _ _).alloc (Nat.le_refl _) _).alloc (by simp) _
      case round =>
        clear E
        obtain ⟨k, v, hk, hk2, hv, rfl, hE, I0, I1, hbw⟩ := hrel
        have E := hide hE
        obtain ⟨a0, a1, a2, a3⟩ := I0.c
        obtain ⟨b0, b1, b2, b3⟩ := I1.c
        have hz := I1.lt
        replace I0 := hide I0
        replace I1 := hide I1
        have HV := hide hv
        clear hE hv
        by_cases hlt : k < s.size
        · have hd := bs_drop s k hlt
          rw [hd] at E
          have i1 : (k : Int) < s.size := by omega
          have i2 : (0 : Int) ≤ k := by omega
          have hcb : s[k].toNat < 256 := s[k].toNat_lt
          clear hd
          by_cases hbad : k = 32 ∨ ¬ (s[k].toNat = 48 ∨ s[k].toNat = 49)
          · have E2 : Hid (rdE (bs s) = (0, 0, k, 10)) := E.out.trans (rdGo_bad _ _ _ _ hbad)
            obtain ⟨k0, k1, -, -⟩ := ((I0.out.set0 (.int .i64 0)).set1 (.int .u64 0)).c
            have K0 := hide k0
            have K1 := hide k1
            clear k0 k1 E
            by_cases h32 : k = 32
            · have j1 : ((k : Int) == 32) = true := by simp; omega
              clear hbad h32
              generalize s[k].toNat = c at *
              go_wp2
              exact bodyPost_ret (v := .tuple #[(.agg #[.int .i64 (0), .int .u64 (0)]), .int .i64 (k : Int), .int .i64 10]) (by simp [results, Try.results30, go_sem, K0.out, K1.out]) rfl ⟨by rw [E2.out]; rfl, (hbw.setCell (by simp) _).setCell (by simp) _⟩
            · have j1 : ((k : Int) == 32) = false := by simp; omega
              have j2 : ((s[k].toNat : Int) != 48) = true := by rw [bne_iff_ne]; omega
              have j3 : ((s[k].toNat : Int) != 49) = true := by rw [bne_iff_ne]; omega
              clear hbad h32
              go_wp2
              exact bodyPost_ret (v := .tuple #[(.agg #[.int .i64 (0), .int .u64 (0)]), .int .i64 (k : Int), .int .i64 10]) (by simp [results, Try.results30, go_sem, K0.out, K1.out]) rfl ⟨by rw [E2.out]; rfl, (hbw.setCell (by simp) _).setCell (by simp) _⟩
          · have E2 : Hid (rdE (bs s) = rdGo ((bs s).drop (k + 1)) (k + 1) (v * 2 + (s[k].toNat - 48))) := E.out.trans (rdGo_good _ _ _ _ hbad)
            have j1 : ((k : Int) == 32) = false := by simp; omega
            have hp := p32 k hk2
            have hv2 : v < 4294967296 := by have := HV.out; omega
            have hx : s[k].toNat = 48 ∨ s[k].toNat = 49 := by omega
            have hk3 : k < 32 := by omega
            clear E hbad hp
            have E3 : ∀ d, s[k].toNat = 48 + d → Hid (rdE (bs s) = rdGo ((bs s).drop (k + 1)) (k + 1) (v * 2 + d)) := by
              intro d hd
              show _ = _
              rw [E2.out, hd]; simp
            clear E2
            rcases hx with hx | hx
            · have E4 := E3 0 hx
              clear E3
              have z1 : IntKind.u8.wrap 0 = 0 := by decide
              have z2 : IntKind.u64.wrap 0 = 0 := by decide
              have HV3 : Hid ((v : Int) < 2 ^ (k : Int).toNat) := by show _ < _; rw [Int.toNat_natCast]; exact_mod_cast HV.out
              go_wp2
              go_region_with (go_at_call 46; refine (behind_any _ _ _ _ (by omega) (by omega) (by omega) (by omega) HV3.out (by omega) (by decide) _).mono ?_; rintro e w2 ⟨rfl, hbb⟩; obtain ⟨q0, q1, q2, q3⟩ := (I1.out.below (bstep (Below.refl wr.heap.size wr).drew hbb)).c)
              all_goals
                have hB : Below wr.heap.size wr w2 := bstep (Below.refl _ _).drew hbb
                have J0 := hide (I0.out.below hB)
                have J1 := hide (I1.out.below hB)
                have HF := hide (hbw.trans (hB.mono hbw.size))
                clear hB
                go_wp2
                refine ⟨⟨k + 1, v * 2 + 0, by omega, by omega, ?_, by simp, E4.out, J0.out.other _ _ (by simp) |>.other _ _ (by simp), ?_, (HF.out.setCell (by simp) _).setCell (by simp) _⟩, ?_⟩
                · have := HV.out; rw [Nat.pow_succ]; omega
                · have := (J1.out.set0 (.int .i64 ((k : Int) + 1))).set1 (.int .u64 (jn v 1 0 : Nat))
                  simpa [jn] using this
                · simp [intOf]; omega
            · have E4 := E3 1 hx
              clear E3
              have z1 : IntKind.u8.wrap 1 = 1 := by decide
              have z2 : IntKind.u64.wrap 1 = 1 := by decide
              have HV3 : Hid ((v : Int) < 2 ^ (k : Int).toNat) := by show _ < _; rw [Int.toNat_natCast]; exact_mod_cast HV.out
              go_wp2
              go_region_with (go_at_call 46; refine (behind_any _ _ _ _ (by omega) (by omega) (by omega) (by omega) HV3.out (by omega) (by decide) _).mono ?_; rintro e w2 ⟨rfl, hbb⟩; obtain ⟨q0, q1, q2, q3⟩ := (I1.out.below (bstep (Below.refl wr.heap.size wr).drew hbb)).c)
              all_goals
                have hB : Below wr.heap.size wr w2 := bstep (Below.refl _ _).drew hbb
                have J0 := hide (I0.out.below hB)
                have J1 := hide (I1.out.below hB)
                have HF := hide (hbw.trans (hB.mono hbw.size))
                clear hB
                go_wp2
                refine ⟨⟨k + 1, v * 2 + 1, by omega, by omega, ?_, by simp, E4.out, J0.out.other _ _ (by simp) |>.other _ _ (by simp), ?_, (HF.out.setCell (by simp) _).setCell (by simp) _⟩, ?_⟩
                · have := HV.out; rw [Nat.pow_succ]; omega
                · have := (J1.out.set0 (.int .i64 ((k : Int) + 1))).set1 (.int .u64 (jn v 1 1 : Nat))
                  simpa [jn] using this
                · simp [intOf]; omega
        · have E2 : Hid (rdE (bs s) = (k, v, 0, 0)) := by
            show _ = _
            rw [E.out, bs_end s k (by omega)]; rfl
          clear E
          obtain ⟨k0, k1, -, -⟩ := ((I0.out.set0 (.int .i64 (k : Int))).set1 (.int .u64 (v : Int))).c
          have K0 := hide k0
          have K1 := hide k1
          clear k0 k1
          go_wp2
          exact bodyPost_ret (v := .tuple #[(.agg #[.int .i64 ((k : Int)), .int .u64 ((v : Int))]), .int .i64 0, .int .i64 0]) (by simp [results, Try.results30, go_sem, K0.out, K1.out]) rfl ⟨by rw [E2.out]; rfl, (hbw.setCell (by simp) _).setCell (by simp) _⟩

end Go.Proofs.Ytdjlmmgnknfkfaa
