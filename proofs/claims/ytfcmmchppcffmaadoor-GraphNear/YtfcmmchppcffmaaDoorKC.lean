/- Vectors: which of two stands first, where worlds only grow (as in stage 1). -/
import Derived.Test.YtfcmmchppcffmaaDoorKV
import Derived.Test.YtfcmmchppcffmaaDoorMZV
namespace Go.Proofs.YtfcmmchppcffmaaDoor
open Go.RowKit
attribute [local go_sem ↓] Go.wp_at_zero Go.wp_at_succ

theorem gx2 {w w1 : World} {o p : Obj} (h : Gr ((w.alloc o).alloc p) w1) : Gr w w1 := (((Gr.refl w).alloc o).alloc p).trans h
theorem gx {w w1 : World} {o : Obj} (h : Gr (w.alloc o) w1) : Gr w w1 := ((Gr.refl w).alloc o).trans h
theorem IsV.gr {w w' : World} {b : Nat} {x y : Value} (h : IsV w b x y) (hg : Gr w w') : IsV w' b x y := h.below hg.below
























































set_option maxHeartbeats 400000 in
theorem gright_yes (n b : Int) (h : rt n b = true) (hb : 0 ≤ b) (w : World) :
    Calls Tryd.prog 45 #[(.agg #[.int .i64 (n), .int .u64 (b)])] w fun e w' => e = .returned (.int .i64 0) ∧ Gr w w' := by
  obtain ⟨g1, g2, g3⟩ := right_y n b h hb
  have g4 : 0 ≤ n := by simpa using g1
  have g5 : n ≤ 32 := by simpa using g2
  clear g1 g2 h
  go_enter Tryd.func45, Tryd.ntmps45
  go_wp2
  go_ret
  exact ⟨rfl, (Gr.refl _).alloc _⟩

set_option maxHeartbeats 400000 in
theorem gright_no (n b : Int) (h : rt n b = false) (w : World) :
    Calls Tryd.prog 45 #[(.agg #[.int .i64 (n), .int .u64 (b)])] w fun e w' => e = .returned (.int .i64 10) ∧ Gr w w' := by
  by_cases g4 : 0 ≤ n
  · by_cases g5 : n ≤ 32
    · have g3 := right_n n b h g4 g5
      clear h
      go_enter Tryd.func45, Tryd.ntmps45
      go_wp2
      go_ret
      exact ⟨rfl, (Gr.refl _).alloc _⟩
    · have g6 : 32 < n := by omega
      clear h
      go_enter Tryd.func45, Tryd.ntmps45
      go_wp2
      go_ret
      exact ⟨rfl, (Gr.refl _).alloc _⟩
  · have g6 : n < 0 := by omega
    clear h
    go_enter Tryd.func45, Tryd.ntmps45
    go_wp2
    go_ret
    exact ⟨rfl, (Gr.refl _).alloc _⟩

theorem bt_int (n b i : Int) (h0 : 0 ≤ i) (h1 : i < n) (hb : 0 ≤ b) (hb2 : b < 18446744073709551616) : bits BinOp.and IntKind.u64 (b / 2 ^ (n - 1 - i).toNat) 1 = (bt n.toNat b.toNat i.toNat : Nat) := by
  obtain ⟨b, rfl⟩ := Int.eq_ofNat_of_zero_le hb
  have e : ((b : Int) / 2 ^ (n - 1 - i).toNat) = ((b / 2 ^ (n - 1 - i).toNat : Nat) : Int) := by simp
  have h3 : b / 2 ^ (n - 1 - i).toNat ≤ b := Nat.div_le_self _ _
  rw [e]
  generalize hq : b / 2 ^ (n - 1 - i).toNat = q at *
  rw [and_one_u64 _ (by omega) (by omega), bt, Int.toNat_natCast]
  have e2 : (n - 1 - i).toNat = n.toNat - 1 - i.toNat := by omega
  rw [← e2, hq]; omega

set_option maxHeartbeats 400000 in
theorem gbit_any (n b i : Int) (h0 : 0 ≤ i) (h1 : i < n) (h2 : n ≤ 32) (hb : 0 ≤ b) (hb2 : b < 18446744073709551616) (w : World) :
    Calls Tryd.prog 65 #[(.agg #[.int .i64 (n), .int .u64 (b)]), .int .i64 i] w fun e w' => e = .returned (.int .u64 (bt n.toNat b.toNat i.toNat : Nat)) ∧ Gr w w' := by
  have H : Hid (bits BinOp.and IntKind.u64 (b / 2 ^ (n - 1 - i).toNat) 1 = (bt n.toNat b.toNat i.toNat : Nat)) := bt_int n b i h0 h1 hb hb2
  clear hb2
  go_enter Tryd.func65, Tryd.ntmps65
  go_wp2
  go_ret
  exact ⟨ret_int H.out, (Gr.refl _).alloc _⟩

theorem gright_any (n b : Int) (hb : 0 ≤ b) (w : World) :
    Calls Tryd.prog 45 #[(.agg #[.int .i64 (n), .int .u64 (b)])] w fun e w' => e = .returned (.int .i64 (reS n b)) ∧ Gr w w' := by
  cases h : rt n b with
  | true => rw [reS_yes h]; exact gright_yes n b h hb w
  | false => rw [reS_no h]; exact gright_no n b h w

set_option maxHeartbeats 400000 in
theorem gboth_any (n b m c : Int) (hb : 0 ≤ b) (hd : 0 ≤ c) (w : World) :
    Calls Tryd.prog 63 #[(.agg #[.int .i64 (n), .int .u64 (b)]), (.agg #[.int .i64 (m), .int .u64 (c)])] w fun e w' => e = .returned (.int .i64 (rbS n b m c)) ∧ Gr w w' := by
  cases h : rt n b with
  | false =>
    have e : reS n b = 10 := reS_no h
    have H : Hid (rbS n b m c = 10) := if_neg (by simp [h])
    clear h
    go_enter Tryd.func63, Tryd.ntmps63
    go_wp2_with (go_at_call 45; refine (gright_any _ _ (by omega) _).mono ?_; rintro e w' ⟨rfl, hbb⟩)
    go_ret
    exact ⟨ret_int H.out.symm, gx2 hbb⟩
  | true =>
    have e : reS n b = 0 := reS_yes h
    have H : Hid (rbS n b m c = reS m c) := if_pos h
    clear h
    go_enter Tryd.func63, Tryd.ntmps63
    go_wp2_with fail
    refine (gright_any _ _ (by omega) _).mono ?_; rintro e w' ⟨rfl, hbb⟩; obtain ⟨hc, hf⟩ := bcell hbb.below
    go_wp2_with fail
    refine (gright_any _ _ (by omega) _).mono ?_; rintro e w2 ⟨rfl, hb2⟩
    go_wp2
    go_ret
    exact ⟨ret_int H.out.symm, (gx2 hbb).trans hb2⟩

/-- x where there is no error, else 0. -/
def sel (e x : Int) : Int := if e = 0 then x else 0
theorem sel_zero {e : Int} (h : e = 0) (x : Int) : sel e x = x := if_pos h
theorem sel_ne {e : Int} (h : e ≠ 0) (x : Int) : sel e x = 0 := if_neg h

attribute [local go_sem ↓] Go.wp_at_zero Go.wp_at_succ

set_option maxHeartbeats 1000000 in
theorem gcommon_any (n b m c : Nat) (w : World) (hn : n ≤ 32) (hm : m ≤ 32) (hb : b < 18446744073709551616) (hc : c < 18446744073709551616) :
    Calls Tryd.prog 64 #[(.agg #[.int .i64 ((n : Int)), .int .u64 ((b : Int))]), (.agg #[.int .i64 ((m : Int)), .int .u64 ((c : Int))])] w fun e w' => e = .returned (.int .i64 (cmn (bl n b) (bl m c) : Nat)) ∧ Gr w w' := by
  by_cases hmn : m < n
  all_goals
    go_enter Tryd.func64, Tryd.ntmps64
    go_wp2
    go_loopw [13] (fun i wr => ∃ k : Nat, k ≤ n ∧ k ≤ m ∧ i = .int .i64 (k : Int) ∧ (∀ j, j < k → (bl n b)[j]? = (bl m c)[j]?) ∧ IsV wr w.heap.size (.int .i64 (n : Int)) (.int .u64 (b : Int)) ∧ IsV wr (w.heap.size + 1) (.int .i64 (m : Int)) (.int .u64 (c : Int)) ∧ Gr w wr)
      (fun i _ => n - (intOf i).toNat)
    case atStart =>
      refine ⟨0, by omega, by omega, rfl, by omega, (IsV.new w _ _).alloc _, ?_, ?_⟩
      · have := IsV.new (w.alloc (.cells #[.int .i64 (n : Int), .int .u64 (b : Int)] 28)) (.int .i64 (m : Int)) (.int .u64 (c : Int))
        simpa using this
      · exact ((Gr.refl _).alloc _).alloc _
    case round =>
      obtain ⟨k, hk, hk2, rfl, hsame, i0, i1, hbw⟩ := hrel
      have HS := hide hsame
      have H0 := hide i0
      have H1 := hide i1
      have hz := i1.lt
      obtain ⟨a0, a1, -, -⟩ := i0.c
      obtain ⟨b0, b1, -, -⟩ := i1.c
      clear i0 i1 hsame
      by_cases hlt : k < n ∧ k < m
      · obtain ⟨h1, h2⟩ := hlt
        have E1 := hide (bl_get n b k h1)
        have E2 := hide (bl_get m c k h2)
        by_cases hx : bt n b k = bt m c k
        · have HX := hide hx
          have hq : (((bt n b k : Nat) : Int) != ((bt m c k : Nat) : Int)) = false := by simp [hx]
          clear hx
          go_wp2
          go_region_held3 (fun w' => w'.cell? ⟨w.heap.size, 0, none⟩ = some (.int .i64 (n : Int)) ∧ w'.cell? ⟨w.heap.size, 1, none⟩ = some (.int .u64 (b : Int)) ∧ w'.cell? ⟨w.heap.size + 1, 0, none⟩ = some (.int .i64 (m : Int)) ∧ w'.cell? ⟨w.heap.size + 1, 1, none⟩ = some (.int .u64 (c : Int)) ∧ w.heap.size + 1 < w'.heap.size)
            (first | go_keep | (go_split_ands; refine ⟨?_, ?_, ?_, ?_, ?_⟩ <;> first | assumption | (rw [hbb.below.cell (by simp; omega)]; assumption) | (have := hbb.le; first | omega | (simp at this; omega))))
            ((go_at_call 65; refine (gbit_any _ _ _ (by omega) (by omega) (by omega) (by omega) (by omega) _).mono ?_; rintro e w' ⟨rfl, hbb⟩))
          all_goals
            have hB : Gr wr w' := ((Gr.refl _).drew.trans (by assumption)).trans hbb
            have hfin := hide (hbw.trans hB)
            have G0 := hide (H0.out.gr hB)
            have G1 := hide (H1.out.gr hB)
            clear hB
            go_wp2
            refine ⟨⟨k + 1, by omega, by omega, by simp, ?_, G0.out, G1.out, hfin.out⟩, ?_⟩
            · intro j hj
              by_cases e : j = k
              · rw [e, E1.out, E2.out, HX.out]
              · exact HS.out j (by omega)
            · simp [intOf]; omega
        · have hq : (((bt n b k : Nat) : Int) != ((bt m c k : Nat) : Int)) = true := by rw [bne_iff_ne]; omega
          have HE : Hid (cmn (bl n b) (bl m c) = k) := cmn_eq _ _ k (by rw [bl_length]; omega) (by rw [bl_length]; omega) HS.out (by right; right; rw [E1.out, E2.out]; simpa using hx)
          clear hx
          go_wp2
          go_region_held3 (fun w' => w'.cell? ⟨w.heap.size, 0, none⟩ = some (.int .i64 (n : Int)) ∧ w'.cell? ⟨w.heap.size, 1, none⟩ = some (.int .u64 (b : Int)) ∧ w'.cell? ⟨w.heap.size + 1, 0, none⟩ = some (.int .i64 (m : Int)) ∧ w'.cell? ⟨w.heap.size + 1, 1, none⟩ = some (.int .u64 (c : Int)) ∧ w.heap.size + 1 < w'.heap.size)
            (first | go_keep | (go_split_ands; refine ⟨?_, ?_, ?_, ?_, ?_⟩ <;> first | assumption | (rw [hbb.below.cell (by simp; omega)]; assumption) | (have := hbb.le; first | omega | (simp at this; omega))))
            ((go_at_call 65; refine (gbit_any _ _ _ (by omega) (by omega) (by omega) (by omega) (by omega) _).mono ?_; rintro e w' ⟨rfl, hbb⟩))
          all_goals
            have hB : Gr wr w' := ((Gr.refl _).drew.trans (by assumption)).trans hbb
            have hfin := hide (hbw.trans hB)
            clear hB
            go_wp2
            go_ret
            exact ⟨ret_int (by rw [HE.out]), hfin.out⟩
      · have HE : Hid (cmn (bl n b) (bl m c) = k) := cmn_eq _ _ k (by rw [bl_length]; omega) (by rw [bl_length]; omega) HS.out (by rw [bl_length, bl_length]; omega)
        go_wp2
        go_ret
        exact ⟨ret_int (by rw [HE.out]; omega), hbw⟩

/-- Which of two rows stands first. -/
def cmpN (n b m c : Nat) : Int :=
  if cmn (bl n b) (bl m c) = n ∧ cmn (bl n b) (bl m c) = m then 0 else if cmn (bl n b) (bl m c) = n then -1 else if cmn (bl n b) (bl m c) = m then 1 else if bt n b (cmn (bl n b) (bl m c)) = 0 then -1 else 1

def coE (n b m c : Int) : Int := sel (rbS n b m c) (cmpN n.toNat b.toNat m.toNat c.toNat)



theorem rbS_ne {n b m c : Int} (h : rbS n b m c ≠ 0) : rbS n b m c = 10 := by
  unfold rbS reS at *
  split at h
  · split at h
    · exact absurd rfl h
    · rw [if_pos (by assumption), if_neg (by assumption)]
  · rw [if_neg (by assumption)]

set_option maxHeartbeats 1000000 in
theorem gCompare_any (n b m c : Int) (hb : 0 ≤ b) (hc : 0 ≤ c) (w : World) :
    Calls Tryd.prog 43 #[(.agg #[.int .i64 (n), .int .u64 (b)]), (.agg #[.int .i64 (m), .int .u64 (c)])] w fun e w' => e = .returned (.tuple #[.int .i64 (coE n b m c), .int .i64 (rbS n b m c)]) ∧ Gr w w' := by
  by_cases h : rbS n b m c = 0
  · obtain ⟨n, b, m, c, rfl, rfl, rfl, rfl, h1, h2, -, -, h5, h6⟩ := both_nat h hb hc
    unfold coE
    rw [sel_zero h]
    simp only [Int.toNat_natCast]
    have hle := cmn_le (bl n b) (bl m c)
    rw [bl_length, bl_length] at hle
    clear hb hc
    go_enter Tryd.func43, Tryd.ntmps43
    go_wp2_with fail
    refine (gboth_any _ _ _ _ (by omega) (by omega) _).mono ?_; rintro e w1 ⟨rfl, hb1⟩
    have I0 := hide (((IsV.new w (.int .i64 (n : Int)) (.int .u64 (b : Int))).alloc (.cells #[.int .i64 (m : Int), .int .u64 (c : Int)] 28)).gr hb1)
    have i1 := ((IsV.new (w.alloc (.cells #[.int .i64 (n : Int), .int .u64 (b : Int)] 28)) (.int .i64 (m : Int)) (.int .u64 (c : Int))).gr hb1)
    rw [World.size_alloc] at i1
    have I1 := hide i1
    clear i1
    have HB := hide (gx2 hb1)
    clear hb1
    obtain ⟨a0, a1, -, -⟩ := I0.out.c
    obtain ⟨b0, b1, -, -⟩ := I1.out.c
    go_wp2_with fail
    refine (gcommon_any _ _ _ _ _ (by omega) (by omega) h5 h6).mono ?_; rintro e w2 ⟨rfl, hb3⟩
    replace I0 := hide (I0.out.gr hb3)
    replace I1 := hide (I1.out.gr hb3)
    replace HB := hide (HB.out.trans hb3)
    clear a0 a1 b0 b1 hb3
    obtain ⟨a0, a1, -, -⟩ := I0.out.c
    obtain ⟨b0, b1, -, -⟩ := I1.out.c
    generalize hk : cmn (bl n b) (bl m c) = k at *
    have FIN : ∀ x : Int, x = (if k = n ∧ k = m then 0 else if k = n then -1 else if k = m then 1 else if bt n b k = 0 then -1 else 1) → Hid (Ending.returned (.tuple #[.int .i64 x, .int .i64 0]) = Ending.returned (.tuple #[.int .i64 (cmpN n b m c), .int .i64 (rbS (n : Int) b m c)])) := by
      intro x hxy; show _ = _; rw [hxy, h, cmpN, hk]
    clear hk
    by_cases q1 : k = n
    · have r1 : ((k : Int) == n) = true := by simp; omega
      by_cases q2 : k = m
      · have r2 : ((k : Int) == m) = true := by simp; omega
        have F := FIN 0 (by rw [if_pos ⟨q1, q2⟩])
        clear FIN q1 q2 h
        go_wp2
        go_ret2
        exact ⟨F.out, HB.out⟩
      · have r2 : ((k : Int) == m) = false := by simp; omega
        have F := FIN (-1) (by rw [if_neg (by omega), if_pos q1])
        clear FIN q1 q2 h
        go_wp2
        go_ret2
        exact ⟨F.out, HB.out⟩
    · have r1 : ((k : Int) == n) = false := by simp; omega
      by_cases q2 : k = m
      · have r2 : ((k : Int) == m) = true := by simp; omega
        have F := FIN 1 (by rw [if_neg (by omega), if_neg q1, if_pos q2])
        clear FIN q1 q2 h
        go_wp2
        go_ret2
        exact ⟨F.out, HB.out⟩
      · have r2 : ((k : Int) == m) = false := by simp; omega
        have hkn : k < n := by omega
        have hx := bt_le n b k
        by_cases q3 : bt n b k = 0
        · have F := FIN (-1) (by rw [if_neg (by omega), if_neg q1, if_neg q2, if_pos q3])
          have r3 : ((bt n b k : Nat) : Int) = 0 := by omega
          clear FIN q1 q2 h
          go_wp2_with fail
          refine (gbit_any _ _ _ (by omega) (by omega) (by omega) (by omega) (by omega) _).mono ?_; rintro e w3 ⟨rfl, hb4⟩
          simp only [Int.toNat_natCast]
          go_wp2
          go_ret2
          exact ⟨F.out, Gr.trans HB.out hb4⟩
        · have F := FIN 1 (by rw [if_neg (by omega), if_neg q1, if_neg q2, if_neg q3])
          have r3 : (((bt n b k : Nat) : Int) == 0) = false := by simp; omega
          clear FIN q1 q2 h
          go_wp2_with fail
          refine (gbit_any _ _ _ (by omega) (by omega) (by omega) (by omega) (by omega) _).mono ?_; rintro e w3 ⟨rfl, hb4⟩
          simp only [Int.toNat_natCast]
          go_wp2
          go_ret2
          exact ⟨F.out, Gr.trans HB.out hb4⟩
  · have hq : (rbS n b m c != 0) = true := by rw [bne_iff_ne]; exact h
    unfold coE
    rw [sel_ne h]
    clear h
    go_enter Tryd.func43, Tryd.ntmps43
    go_wp2_with fail
    refine (gboth_any _ _ _ _ (by omega) (by omega) _).mono ?_; rintro e w1 ⟨rfl, hb1⟩; obtain ⟨hc1, hf1⟩ := bcell hb1.below
    go_wp2
    go_ret2
    exact ⟨rfl, gx2 hb1⟩

end Go.Proofs.YtfcmmchppcffmaaDoor
