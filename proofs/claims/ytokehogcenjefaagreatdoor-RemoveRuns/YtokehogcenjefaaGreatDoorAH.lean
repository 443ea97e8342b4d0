/- A removal that leaves lists: leave, left, hearMark. -/
import Derived.Test.YtokehogcenjefaaGreatDoorAG
namespace Go.Proofs.YtokehogcenjefaaGreatDoor
open Go.RowKit Go.Maps Go.ChangeMaps

section
variable {P : Program} {md : Region.Mode} {ops : Array Oper} {Q : Exit → Act → World → Prop} {S : World → Prop} {t : Nat}
/-- Two may come up. -/
theorem twoL {i j : Nat} {oi oj : Oper} {fuel : Nat} {listed : Array Bool} {a : Act} {w : World} (hr : Region.ready md ops listed = [i, j]) (hi : ops[i]? = some oi) (hj : ops[j]? = some oj)
   (h1 : ∀ K' : Act → World → Prop, Shut (∀ a w, S w → wpAnyL P md ops Q S t fuel (listed.setIfInBounds i true) a w → K' a w) → if Region.wanted oi (yielded ops a.tmps) = true then Oper.wp P oi a w K' Q else K' (a.put oi.dst undef) w)
   (h2 : ∀ K' : Act → World → Prop, Shut (∀ a w, S w → wpAnyL P md ops Q S t fuel (listed.setIfInBounds j true) a w → K' a w) → if Region.wanted oj (yielded ops a.tmps) = true then Oper.wp P oj a w K' Q else K' (a.put oj.dst undef) w) :
   wpAnyL P md ops Q S t (fuel + 1) listed a w := by
 refine ⟨fun h0 => (by rw [hr] at h0; cases h0), fun k hk => ?_⟩
 rw [hr] at hk
 simp only [List.mem_cons, List.not_mem_nil, or_false] at hk
 rcases hk with rfl | rfl
 · exact wpOp_step hi (fun K' hK => h1 K' (fun a w hS hW => hK a w ⟨fun _ => hS, hW⟩))
 · exact wpOp_step hj (fun K' hK => h2 K' (fun a w hS hW => hK a w ⟨fun _ => hS, hW⟩))
end

theorem st_vec {w : World} {b : Nat} {x y : Int} (I : IsB w b #[.int .i64 x, .int .u64 y] 27) (u v : Int) : ∃ w', (Instr.storeAt 27 (.pointer (some ⟨b, 0, none⟩)) (.agg #[.int .i64 (u), .int .u64 (v)])).run Tryz.prog w = .ok () w' ∧ IsB w' b #[.int .i64 u, .int .u64 v] 27 ∧ Kp [b] w w' := by
 have h := run_storeVar_row (P := Tryz.prog) w b 27 27 #[.int .i64 x, .int .u64 y] #[.int .i64 u, .int .u64 v] I (by kernel_rfl) rfl (all_oneCell_toArray (fun x hx => by simp only [List.mem_cons, List.not_mem_nil, or_false] at hx; rcases hx with h | h <;> rw [h] <;> rfl))
 refine ⟨_, ?_, isB_setRow I _, kp_setRow _⟩
 simp only [Instr.storeAt, Instr.sureAddr, Sem.run_bind, Sem.run_pure, Result.andThen_ok, h]

/-- The machine at hand, where lists are left. -/
def handU (R : Rm) (u : Nat) : Value := if R.pl = 3 then (.iface 197 (.pointer (some ⟨u, 0, none⟩))) else .nilIface
/-- What is done when a list is left. -/
def Rm.left (R : Rm) (e : Int) : Rm := if e ≠ 0 ∨ R.ll = 0 then { R with pl := 4, e := 0 } else R.leave (R.ll - 1) ((pre R.ll.toNat R.lb.toNat (R.ll - 1).toNat : Nat) : Int)
def Rm.nextU (R : Rm) (U : Us) : Us := if U.pl = 10 then unewS (R.ll - 1) ((pre R.ll.toNat R.lb.toNat (R.ll - 1).toNat : Nat) : Int) R.x R.oa R.oo else U
/-- A removal's answer to the mark. -/
def Rm.hear (R : Rm) (k : Int) : Rm := if k = 1 then ({ R with md := true } : Rm).leave R.x.ln R.x.bt else if k = 3 then { R with pl := 4, e := 132 } else { R with pl := 4, e := 101 }

set_option maxHeartbeats 2000000 in
set_option maxRecDepth 100000 in
theorem leave_any (b : Nat) (R : Rm) (h : Value) (x y : Int) (hx : 0 ≤ R.x.bt) (hy : 0 ≤ y) (w : World) (I : IsB w b (rmL R h).toArray 90) : Calls Tryz.prog 55 #[.pointer (some ⟨b, 0, none⟩), (.agg #[.int .i64 (x), .int .u64 (y)])] w fun e' w' => ∃ u, e' = .returned (.tuple #[]) ∧ IsB w' b (rmL (R.leave x y) (handU (R.leave x y) u)).toArray 90 ∧ ((R.leave x y).pl = 3 → UsAt w' u (unewS x y R.x R.oa R.oo)) ∧ w.heap.size ≤ u ∧ Kp [b] w w' := by
 cases hm : umayC x y R.x R.oa R.oo
 · refine (leave_bad b R h x y hx hy hm w I).mono ?_
   rintro e w1 ⟨rfl, I1, k1⟩
   have hl : R.leave x y = { R with pl := 4, e := 0 } := if_neg (by rw [hm]; decide)
   rw [hl]
   exact ⟨w.heap.size, rfl, I1, fun h => absurd (show (4 : Int) = 3 from h) (by decide), Nat.le_refl _, k1⟩
 · refine (leave_ok b R h x y hx hy hm w I).mono ?_
   rintro e w1 ⟨u, rfl, I1, X1, hu, k1⟩
   have hl : R.leave x y = { R with pl := 3, ll := x, lb := y } := if_pos hm
   rw [hl]
   exact ⟨u, rfl, I1, fun _ => X1, hu, k1⟩

set_option maxHeartbeats 2000000 in
set_option maxRecDepth 100000 in
theorem rleft_end (b : Nat) (R : Rm) (h : Value) (e : Int) (he : e ≠ 0 ∨ R.ll = 0) (w : World) (I : IsB w b (rmL R h).toArray 90) : Calls Tryz.prog 54 #[.pointer (some ⟨b, 0, none⟩), .int .i64 e] w fun e' w' => e' = .returned (.tuple #[]) ∧ IsB w' b (rmL { R with pl := 4, e := 0 } .nilIface).toArray 90 ∧ Kp [b] w w' := by
 have c10 := rc_ll I
 by_cases h0 : e = 0
 · subst h0
   have hz : R.ll = 0 := by simpa using he
   rw [hz] at c10
   clear he
   go_enter Tryz.func54, Tryz.ntmps54
   go_wp2_with fail
   refine (rend_any b R h 0 w I).mono ?_
   rintro e w1 ⟨rfl, I1, k1⟩
   go_wp2
   refine bodyPost_ret (results_none rfl _ _ _) rfl ?_
   exact ⟨rfl, I1, k1⟩
 · have d1 : decide (e = 0) = false := decide_eq_false h0
   clear he c10
   go_enter Tryz.func54, Tryz.ntmps54
   go_wp2_with fail
   refine (rend_any b R h 0 w I).mono ?_
   rintro e' w1 ⟨rfl, I1, k1⟩
   go_wp2
   refine bodyPost_ret (results_none rfl _ _ _) rfl ?_
   exact ⟨rfl, I1, k1⟩

theorem kp_new {b g : Nat} {w w1 w2 : World} (h : Kp [b] w w1) (k : Kp [g] w1 w2) (hg : w.heap.size ≤ g) : Kp [b] w w2 :=
 h.trans k (fun j hj => Or.inr (by simp at hj; omega))

set_option maxHeartbeats 4000000 in
set_option maxRecDepth 100000 in
theorem rleft_go (b : Nat) (R : Rm) (h : Value) (hx : 0 ≤ R.x.bt) (hrt : rt R.ll R.lb = true) (hlb : 0 ≤ R.lb) (hn : R.ll ≠ 0) (w : World) (I : IsB w b (rmL R h).toArray 90) : Calls Tryz.prog 54 #[.pointer (some ⟨b, 0, none⟩), .int .i64 0] w fun e' w' => ∃ u, e' = .returned (.tuple #[]) ∧ IsB w' b (rmL (R.leave (R.ll - 1) ((pre R.ll.toNat R.lb.toNat (R.ll - 1).toNat : Nat) : Int)) (handU (R.leave (R.ll - 1) ((pre R.ll.toNat R.lb.toNat (R.ll - 1).toNat : Nat) : Int)) u)).toArray 90 ∧ ((R.leave (R.ll - 1) ((pre R.ll.toNat R.lb.toNat (R.ll - 1).toNat : Nat) : Int)).pl = 3 → UsAt w' u (unewS (R.ll - 1) ((pre R.ll.toNat R.lb.toNat (R.ll - 1).toNat : Nat) : Int) R.x R.oa R.oo)) ∧ w.heap.size ≤ u ∧ Kp [b] w w' := by
 have mixed : Tryz.prog.follows .mixedOrders = true := by kernel_rfl
 have h32 := of_decide_eq_true hrt
 have hk0 : 0 ≤ R.ll - 1 := by omega
 have hk1 : R.ll - 1 ≤ R.ll := by omega
 have hw1 : IntKind.i64.wrap (R.ll - 1) = R.ll - 1 := wrap_pos _ (by omega) (by omega)
 have d9 : decide (R.ll = 0) = false := decide_eq_false hn
 obtain ⟨pv, hpv⟩ : ∃ pv : Int, ((pre R.ll.toNat R.lb.toNat (R.ll - 1).toNat : Nat) : Int) = pv := ⟨_, rfl⟩
 have hpv0 : Hid (0 ≤ pv) := by show 0 ≤ pv; rw [← hpv]; exact Int.natCast_nonneg _
 have PO : Hid (∀ w, Calls Tryz.prog 88 #[(.agg #[.int .i64 (R.ll), .int .u64 (R.lb)]), .int .i64 (R.ll - 1)] w fun e w' => e = .returned (.tuple #[(.agg #[.int .i64 (R.ll - 1), .int .u64 (pv)]), .int .i64 0]) ∧ Below w.heap.size w w') := fun w => by rw [← hpv]; exact prefix_ok R.ll R.lb (R.ll - 1) hrt hlb hk0 hk1 w
 rw [hpv]
 clear hpv
 have c10 := rc_ll I
 go_enter Tryz.func54, Tryz.ntmps54
 go_wp2_with fail
 clear c10 d9
 have dr := (Below.refl w.heap.size w).drew
 have I9 := hide (I.below dr)
 have K9 : Hid (Kp [b] w w.drew) := Kp.of_below dr
 have hz9 : Hid (w.heap.size ≤ w.drew.heap.size) := dr.size
 clear dr I
 refine regionL 17 (fun w' => IsB w' b (rmL R h).toArray 90) mixed I9.out (fun hHeld => ?_)
 generalize w.drew = WD at *
 refine pkA (v := ?_) 0 (some 19) rfl rfl ?_ (by assumption) ?_
 rotate_left
 · intro w'
   go_simp
   try with_reducible rfl
 try simp only [Act.put, zqa, zqb, zqc]
 refine pkA (v := ?_) 1 (some 20) rfl rfl ?_ (by assumption) ?_
 rotate_left
 · intro w'
   go_simp
   try with_reducible rfl
 try simp only [Act.put, zqa, zqb, zqc]
 refine pkA (v := ?_) 2 (some 21) rfl rfl ?_ (by assumption) ?_
 rotate_left
 · intro w'
   go_simp
   try with_reducible rfl
 try simp only [Act.put, zqa, zqb, zqc]
 refine pkT (v := (.agg #[.int .i64 (R.ll), .int .u64 (R.lb)])) 3 (some 22) rfl rfl ?_ (by assumption) ?_
 · intro w' hSw
   have q0 := hSw
   exact exec_load rfl rfl (rl_l q0)
 try simp only [Act.put, zqa, zqb, zqc]
 refine pkA (v := ?_) 4 (some 23) rfl rfl ?_ (by assumption) ?_
 rotate_left
 · intro w'
   go_simp
   try with_reducible rfl
 try simp only [Act.put, zqa, zqb, zqc]
 refine pkA (v := ?_) 5 (some 24) rfl rfl ?_ (by assumption) ?_
 rotate_left
 · intro w'
   go_simp
   try with_reducible rfl
 try simp only [Act.put, zqa, zqb, zqc]
 refine pkA (v := ?_) 6 (some 25) rfl rfl ?_ (by assumption) ?_
 rotate_left
 · intro w'
   go_simp
   try with_reducible rfl
 try simp only [Act.put, zqa, zqb, zqc]
 refine pkA (v := ?_) 7 (some 26) rfl rfl ?_ (by assumption) ?_
 rotate_left
 · intro w'
   go_simp
   try with_reducible rfl
 try simp only [Act.put, zqa, zqb, zqc]
 refine pkT (v := .int .i64 R.ll) 8 (some 27) rfl rfl ?_ (by assumption) ?_
 · intro w' hSw
   have q0 := hSw
   have yy := rc_ll q0
   go_simp
 try simp only [Act.put, zqa, zqb, zqc]
 refine pkA (v := .int .i64 (R.ll - 1)) 9 (some 28) rfl rfl ?_ (by assumption) ?_
 · intro w'
   go_simp
   try simp only [hw1]
 try simp only [Act.put, zqa, zqb, zqc]
 refine twoL (i := 10) (j := 14) (by kernel_rfl) rfl rfl (fun K hK => ?_) (fun K hK => ?_)
 · go_simp
   refine (PO.out WD).mono ?_
   rintro e1 w3 ⟨rfl, hb⟩
   replace I9 := hide (I9.out.below hb)
   replace K9 := hide (K9.out.tr (Kp.of_below hb))
   replace hz9 := hide (Nat.le_trans hz9.out hb.size)
   clear hb
   refine hK.out _ _ ?_ ?_
   · exact I9.out
   clear hK K
   try simp only [Act.put, zqa, zqb, zqc]
   clear hHeld
   have hHeld : (fun w' => IsB w' b (rmL R h).toArray 90) w3 := I9.out
   refine pkA (v := ?_) 11 (some 18) rfl rfl ?_ (by assumption) ?_
   rotate_left
   · intro w'
     go_simp
     try with_reducible rfl
   try simp only [Act.put, zqa, zqb, zqc]
   refine pkA (v := (.agg #[.int .i64 (R.ll - 1), .int .u64 (pv)])) 12 (some 30) rfl rfl ?_ (by assumption) ?_
   · intro w'
     go_simp
     try rfl
   try simp only [Act.put, zqa, zqb, zqc]
   refine pkA (v := .int .i64 0) 13 (some 31) rfl rfl ?_ (by assumption) ?_
   · intro w'
     go_simp
     try rfl
   try simp only [Act.put, zqa, zqb, zqc]
   refine oneL (i := 14) (by kernel_rfl) rfl (fun K hK => ?_)
   go_simp
   have ba := gb1 w3 (.cells #[.int .i64 0, .int .u64 0] 27)
   have G9 := hide (IsB.new w3 #[.int .i64 0, .int .u64 0] 27)
   have hg9 : Hid (w.heap.size ≤ w3.heap.size ∧ b < w3.heap.size) := ⟨hz9.out, I9.out.lt⟩
   replace I9 := hide (I9.out.below ba)
   replace K9 := hide (K9.out.tr (Kp.of_below ba))
   replace hz9 := hide (Nat.le_trans hz9.out ba.size)
   clear ba
   refine hK.out _ _ ?_ ?_
   · exact I9.out
   clear hK K
   try simp only [Act.put, zqa, zqb, zqc]
   clear hHeld
   have hHeld : (fun w' => IsB w' b (rmL R h).toArray 90) (w3.alloc (.cells #[.int .i64 0, .int .u64 0] 27)) := I9.out
   generalize w3.alloc (.cells #[.int .i64 0, .int .u64 0] 27) = W5 at *
   generalize w3.heap.size = g at *
   obtain ⟨w7, hs, G7, k7⟩ := st_vec G9.out (R.ll - 1) pv
   have HS := hide hs
   have I7 := I9.out.kp k7 (by have := hg9.out.2; simp; omega)
   replace I9 := hide I7
   have k8 : Kp [b] w w7 := kp_new K9.out k7 hg9.out.1
   replace K9 := hide k8
   clear hs I7 k8
   refine oneL (i := 15) (by kernel_rfl) rfl (fun K hK => ?_)
   refine step_store_w rfl 27 (.tmp 4) (.tmp 30) rfl rfl rfl HS.out ?_
   refine hK.out _ _ ?_ ?_
   · exact I9.out
   clear hK K
   try simp only [Act.put, List.setIfInBounds_toArray]
   clear hHeld
   have hHeld : (fun w' => IsB w' b (rmL R h).toArray 90) w7 := I9.out
   refine pkA (v := ?_) 16 (some 5) rfl rfl ?_ (by assumption) ?_
   rotate_left
   · intro w'
     go_simp
     try with_reducible rfl
   try simp only [Act.put]
   refine doneL (by kernel_rfl) ?_ _
   clear hHeld
   have LG : Hid ((Instr.loadAt 27 (.pointer (some ⟨g, 0, none⟩))).run Tryz.prog w7 = .ok ((.agg #[.int .i64 (R.ll - 1), .int .u64 (pv)])) w7) := ld_vecb G7
   clear G9 HS G7 k7
   go_wp2_with (first | (focus ((with_reducible refine wpList_load_w ?_ 27 (.tmp 4) ?_ ?_ LG.out ?_); rotate_left; rfl; rfl; rotate_left; rfl)))
   refine (leave_any b R h (R.ll - 1) pv hx hpv0.out w7 I9.out).mono ?_
   rintro e2 w8 ⟨u, rfl, I8, X8, hu, k8⟩
   have K8 := K9.out.tr k8
   have hu8 : w.heap.size ≤ u := Nat.le_trans (K9.out.size) hu
   go_wp2
   refine bodyPost_end (results_none rfl _ _ _) rfl ?_
   first | exact ⟨u, rfl, I8, X8, hu8, K8⟩ | exact ⟨rfl, u, I8, X8, hu8, K8⟩
 · go_simp
   have ba := gb1 WD (.cells #[.int .i64 0, .int .u64 0] 27)
   have G9 := hide (IsB.new WD #[.int .i64 0, .int .u64 0] 27)
   have hg9 : Hid (w.heap.size ≤ WD.heap.size ∧ b < WD.heap.size) := ⟨hz9.out, I9.out.lt⟩
   replace I9 := hide (I9.out.below ba)
   replace K9 := hide (K9.out.tr (Kp.of_below ba))
   replace hz9 := hide (Nat.le_trans hz9.out ba.size)
   clear ba
   refine hK.out _ _ ?_ ?_
   · exact I9.out
   clear hK K
   try simp only [Act.put, zqa, zqb, zqc]
   clear hHeld
   have hHeld : (fun w' => IsB w' b (rmL R h).toArray 90) (WD.alloc (.cells #[.int .i64 0, .int .u64 0] 27)) := I9.out
   generalize WD.alloc (.cells #[.int .i64 0, .int .u64 0] 27) = W4 at *
   generalize WD.heap.size = g at *
   refine oneL (i := 10) (by kernel_rfl) rfl (fun K hK => ?_)
   go_simp
   refine (PO.out W4).mono ?_
   rintro e1 W5 ⟨rfl, hb⟩
   replace G9 := hide (G9.out.below hb)
   replace I9 := hide (I9.out.below hb)
   replace K9 := hide (K9.out.tr (Kp.of_below hb))
   replace hz9 := hide (Nat.le_trans hz9.out hb.size)
   clear hb
   refine hK.out _ _ ?_ ?_
   · exact I9.out
   clear hK K
   try simp only [Act.put, zqa, zqb, zqc]
   clear hHeld
   have hHeld : (fun w' => IsB w' b (rmL R h).toArray 90) W5 := I9.out
   refine pkA (v := ?_) 11 (some 18) rfl rfl ?_ (by assumption) ?_
   rotate_left
   · intro w'
     go_simp
     try with_reducible rfl
   try simp only [Act.put, zqa, zqb, zqc]
   refine pkA (v := (.agg #[.int .i64 (R.ll - 1), .int .u64 (pv)])) 12 (some 30) rfl rfl ?_ (by assumption) ?_
   · intro w'
     go_simp
     try rfl
   try simp only [Act.put, zqa, zqb, zqc]
   refine pkA (v := .int .i64 0) 13 (some 31) rfl rfl ?_ (by assumption) ?_
   · intro w'
     go_simp
     try rfl
   try simp only [Act.put, zqa, zqb, zqc]
   obtain ⟨w7, hs, G7, k7⟩ := st_vec G9.out (R.ll - 1) pv
   have HS := hide hs
   have I7 := I9.out.kp k7 (by have := hg9.out.2; simp; omega)
   replace I9 := hide I7
   have k8 : Kp [b] w w7 := kp_new K9.out k7 hg9.out.1
   replace K9 := hide k8
   clear hs I7 k8
   refine oneL (i := 15) (by kernel_rfl) rfl (fun K hK => ?_)
   refine step_store_w rfl 27 (.tmp 4) (.tmp 30) rfl rfl rfl HS.out ?_
   refine hK.out _ _ ?_ ?_
   · exact I9.out
   clear hK K
   try simp only [Act.put, List.setIfInBounds_toArray]
   clear hHeld
   have hHeld : (fun w' => IsB w' b (rmL R h).toArray 90) w7 := I9.out
   refine pkA (v := ?_) 16 (some 5) rfl rfl ?_ (by assumption) ?_
   rotate_left
   · intro w'
     go_simp
     try with_reducible rfl
   try simp only [Act.put]
   refine doneL (by kernel_rfl) ?_ _
   clear hHeld
   have LG : Hid ((Instr.loadAt 27 (.pointer (some ⟨g, 0, none⟩))).run Tryz.prog w7 = .ok ((.agg #[.int .i64 (R.ll - 1), .int .u64 (pv)])) w7) := ld_vecb G7
   clear G9 HS G7 k7
   go_wp2_with (first | (focus ((with_reducible refine wpList_load_w ?_ 27 (.tmp 4) ?_ ?_ LG.out ?_); rotate_left; rfl; rfl; rotate_left; rfl)))
   refine (leave_any b R h (R.ll - 1) pv hx hpv0.out w7 I9.out).mono ?_
   rintro e2 w8 ⟨u, rfl, I8, X8, hu, k8⟩
   have K8 := K9.out.tr k8
   have hu8 : w.heap.size ≤ u := Nat.le_trans (K9.out.size) hu
   go_wp2
   refine bodyPost_end (results_none rfl _ _ _) rfl ?_
   first | exact ⟨u, rfl, I8, X8, hu8, K8⟩ | exact ⟨rfl, u, I8, X8, hu8, K8⟩

set_option maxHeartbeats 2000000 in
set_option maxRecDepth 100000 in
theorem rleft_any (b : Nat) (R : Rm) (h : Value) (e : Int) (hx : 0 ≤ R.x.bt) (hrt : rt R.ll R.lb = true) (hlb : 0 ≤ R.lb) (w : World) (I : IsB w b (rmL R h).toArray 90) : Calls Tryz.prog 54 #[.pointer (some ⟨b, 0, none⟩), .int .i64 e] w fun e' w' => ∃ u, e' = .returned (.tuple #[]) ∧ IsB w' b (rmL (R.left e) (handU (R.left e) u)).toArray 90 ∧ ((R.left e).pl = 3 → UsAt w' u (unewS (R.ll - 1) ((pre R.ll.toNat R.lb.toNat (R.ll - 1).toNat : Nat) : Int) R.x R.oa R.oo)) ∧ w.heap.size ≤ u ∧ Kp [b] w w' := by
 unfold Rm.left
 by_cases he : e ≠ 0 ∨ R.ll = 0
 · rw [if_pos he]
   refine (rleft_end b R h e he w I).mono ?_
   rintro e1 w1 ⟨rfl, I1, k1⟩
   exact ⟨w.heap.size, rfl, I1, fun h => absurd (show (4 : Int) = 3 from h) (by decide), Nat.le_refl _, k1⟩
 · rw [if_neg he]
   have h0 : e = 0 := by omega
   subst h0
   exact rleft_go b R h hx hrt hlb (by omega) w I

set_option maxHeartbeats 2000000 in
set_option maxRecDepth 100000 in
theorem hear_dead (b : Nat) (R : Rm) (a : An) (hk : a.k = 3) (w : World) (I : IsB w b (rmL R .nilIface).toArray 90) : Calls Tryz.prog 33 #[.pointer (some ⟨b, 0, none⟩), .agg (anL a).toArray] w fun e' w' => e' = .returned (.tuple #[]) ∧ IsB w' b (rmL { R with pl := 4, e := 132 } .nilIface).toArray 90 ∧ Kp [b] w w' := by
 have b1 := gb1 w (.cells (anL a).toArray 62)
 have I1 := I.below b1
 have Q1 := IsB.new w (anL a).toArray 62
 have c0 : (w.alloc (.cells (anL a).toArray 62)).cell? ⟨w.heap.size, 0, none⟩ = some (.int .i64 a.k) := Q1.cell 0
 have K1 : Kp [b] w (w.alloc (.cells (anL a).toArray 62)) := Kp.of_below b1
 rw [hk] at c0
 go_enter Tryz.func33, Tryz.ntmps33
 go_wp2_with fail
 refine (rend_any b R .nilIface 132 _ I1).mono ?_
 rintro e w2 ⟨rfl, I2, k2⟩
 go_wp2
 refine bodyPost_end (results_none rfl _ _ _) rfl ?_
 exact ⟨rfl, I2, K1.tr k2⟩

set_option maxHeartbeats 2000000 in
set_option maxRecDepth 100000 in
theorem hear_else (b : Nat) (R : Rm) (a : An) (h1 : ¬a.k = 1) (h3 : ¬a.k = 3) (w : World) (I : IsB w b (rmL R .nilIface).toArray 90) : Calls Tryz.prog 33 #[.pointer (some ⟨b, 0, none⟩), .agg (anL a).toArray] w fun e' w' => e' = .returned (.tuple #[]) ∧ IsB w' b (rmL { R with pl := 4, e := 101 } .nilIface).toArray 90 ∧ Kp [b] w w' := by
 have b1 := gb1 w (.cells (anL a).toArray 62)
 have I1 := I.below b1
 have Q1 := IsB.new w (anL a).toArray 62
 have c0 : (w.alloc (.cells (anL a).toArray 62)).cell? ⟨w.heap.size, 0, none⟩ = some (.int .i64 a.k) := Q1.cell 0
 have K1 : Kp [b] w (w.alloc (.cells (anL a).toArray 62)) := Kp.of_below b1
 have d1 : decide (a.k = 1) = false := decide_eq_false h1
 have d3 : decide (a.k = 3) = false := decide_eq_false h3
 go_enter Tryz.func33, Tryz.ntmps33
 go_wp2_with fail
 refine (rend_any b R .nilIface 101 _ I1).mono ?_
 rintro e w2 ⟨rfl, I2, k2⟩
 go_wp2
 refine bodyPost_end (results_none rfl _ _ _) rfl ?_
 exact ⟨rfl, I2, K1.tr k2⟩

set_option maxHeartbeats 2000000 in
set_option maxRecDepth 100000 in
theorem hear_yes (b : Nat) (R : Rm) (a : An) (hk : a.k = 1) (hx : 0 ≤ R.x.bt) (w : World) (I : IsB w b (rmL R .nilIface).toArray 90) : Calls Tryz.prog 33 #[.pointer (some ⟨b, 0, none⟩), .agg (anL a).toArray] w fun e' w' => ∃ u, e' = .returned (.tuple #[]) ∧ IsB w' b (rmL (({ R with md := true } : Rm).leave R.x.ln R.x.bt) (handU (({ R with md := true } : Rm).leave R.x.ln R.x.bt) u)).toArray 90 ∧ ((({ R with md := true } : Rm).leave R.x.ln R.x.bt).pl = 3 → UsAt w' u (unewS R.x.ln R.x.bt R.x R.oa R.oo)) ∧ w.heap.size ≤ u ∧ Kp [b] w w' := by
 have b1 := gb1 w (.cells (anL a).toArray 62)
 have I1 := I.below b1
 have Q1 := IsB.new w (anL a).toArray 62
 have c0 : (w.alloc (.cells (anL a).toArray 62)).cell? ⟨w.heap.size, 0, none⟩ = some (.int .i64 a.k) := Q1.cell 0
 have K1 : Kp [b] w (w.alloc (.cells (anL a).toArray 62)) := Kp.of_below b1
 rw [hk] at c0
 obtain ⟨w2, hs, I2, k2⟩ := rs_mk I1 true
 have HS := hide hs
 have LX := hide (rl_xv I2)
 have K2 := K1.tr k2
 clear hs k2 K1
 go_enter Tryz.func33, Tryz.ntmps33
 go_wp2_with (first | (focus ((with_reducible refine wpList_store_w ?_ 4 (.tmp 12) (.const (.bool true)) ?_ ?_ ?_ HS.out ?_); rotate_left; rfl; rfl; rfl; rotate_left; rfl)) | (focus ((with_reducible refine wpList_load_w ?_ 27 (.tmp 17) ?_ ?_ LX.out ?_); rotate_left; rfl; rfl; rotate_left; rfl)))
 refine (leave_any b ({ R with md := true } : Rm) .nilIface R.x.ln R.x.bt hx hx w2 I2).mono ?_
 rintro e w3 ⟨u, rfl, I3, X3, hu, k3⟩
 have hu2 : w.heap.size ≤ u := Nat.le_trans K2.size hu
 have K3 := K2.tr k3
 go_wp2
 refine bodyPost_end (results_none rfl _ _ _) rfl ?_
 first | exact ⟨u, rfl, I3, X3, hu2, K3⟩ | exact ⟨rfl, u, I3, X3, hu2, K3⟩

set_option maxHeartbeats 2000000 in
set_option maxRecDepth 100000 in
theorem hear_any (b : Nat) (R : Rm) (a : An) (hx : 0 ≤ R.x.bt) (w : World) (I : IsB w b (rmL R .nilIface).toArray 90) : Calls Tryz.prog 33 #[.pointer (some ⟨b, 0, none⟩), .agg (anL a).toArray] w fun e' w' => ∃ u, e' = .returned (.tuple #[]) ∧ IsB w' b (rmL (R.hear a.k) (handU (R.hear a.k) u)).toArray 90 ∧ ((R.hear a.k).pl = 3 → UsAt w' u (unewS R.x.ln R.x.bt R.x R.oa R.oo)) ∧ w.heap.size ≤ u ∧ Kp [b] w w' := by
 unfold Rm.hear
 by_cases h1 : a.k = 1
 · rw [if_pos h1]
   exact hear_yes b R a h1 hx w I
 rw [if_neg h1]
 by_cases h3 : a.k = 3
 · rw [if_pos h3]
   refine (hear_dead b R a h3 w I).mono ?_
   rintro e w1 ⟨rfl, I1, k1⟩
   exact ⟨w.heap.size, rfl, I1, fun h => absurd (show (4 : Int) = 3 from h) (by decide), Nat.le_refl _, k1⟩
 · rw [if_neg h3]
   refine (hear_else b R a h1 h3 w I).mono ?_
   rintro e w1 ⟨rfl, I1, k1⟩
   exact ⟨w.heap.size, rfl, I1, fun h => absurd (show (4 : Int) = 3 from h) (by decide), Nat.le_refl _, k1⟩

end Go.Proofs.YtokehogcenjefaaGreatDoor
