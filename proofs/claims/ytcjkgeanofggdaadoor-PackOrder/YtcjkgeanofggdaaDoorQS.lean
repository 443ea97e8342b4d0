/- PackOrder, walked. -/
import Derived.Test.YtcjkgeanofggdaaDoorQP
import Derived.Test.YtcjkgeanofggdaaDoorQQ
import Derived.Test.YtcjkgeanofggdaaDoorQR
namespace Go.Proofs.YtcjkgeanofggdaaDoor
open Go.RowKit

/-- A world in which all that lay in W lies as it did. -/
structure Bel (W : World) where
  v : World
  h : Below W.heap.size W v
theorem wp_region_bel {P : Program} {id : Nat} {Q : Exit → Act → World → Prop} {a : Act} {w : World} {l : List Oper} (hm : P.follows .mixedOrders = true) (hB : Region.lexB .any l.toArray = true)
    (h : wpQuiet P l.toArray (fun w' => ∃ p : Bel w, w' = p.v) (fun a' => ∀ w', (∃ p : Bel w, w' = p.v) → Q .normal a' w') l a) : (Code.region id l.toArray true).wp P Q a w :=
  wp_region_quiet (C := fun w' => ∃ p : Bel w, w' = p.v) hm hB ⟨⟨w.drew, (Below.refl _ _).drew⟩, rfl⟩ (by simpa using h)
theorem bel_of {P : Program} {f : FuncId} {args : Array Value} {w : World} {v : Value} (p : Bel w)
    (h : Calls P f args p.v fun e w' => e = .returned v ∧ Below p.v.heap.size p.v w') : Calls P f args p.v fun e w'' => e = .returned v ∧ ∃ q : Bel w, w'' = q.v :=
  h.mono fun _ w'' ⟨he, hb⟩ => ⟨he, ⟨w'', p.h.trans (hb.mono p.h.size)⟩, rfl⟩
theorem bel_cell {w : World} {a : Addr} {v : Value} (h : w.cell? a = some v) (p : Bel w) : p.v.cell? a = some v := by
  rw [p.h.cell (lt_of_cell h)]; exact h

/-- The bytes that a slice holds read as this text, whatever is made behind them. -/
def Txt (w : World) (v : Value) (S : ByteArray) : Prop := ∀ w', RowKit.Below w.heap.size w w' → (convert 25 9 v).run Tryd.prog w' = .ok (.string S) w'
theorem Txt.below {w w' : World} {v : Value} {S : ByteArray} (h : Txt w v S) (hb : RowKit.Below w.heap.size w w') : Txt w' v S := fun w'' hb' => h w'' (hb.trans (hb'.mono hb.size))

theorem key_fields (w : World) (b : Nat) (r n : Int) (hR : Ranks w) (hc : ckE r n = 0) (h0 : 1 ≤ r) (h3 : r ≤ 3) (h : IsB w b #[.int .i64 6, .int .u64 0, .int .i64 0, .bool false, .slice none 0 0, .int .i64 0, .int .u64 0, .int .i64 r, .int .u64 n, .int .i64 0, .int .i64 0, .int .u64 0, .int .i64 0, .int .u64 0] 34) : FieldsAt w b 0 [(⟨6, 0, 0, false, none, 0, 0, 0, 0, r, n, 0, 0, 0, 0, 0⟩, kyb r n)] := by
  intro i p hp
  match i, hp with
  | 0, hp =>
    cases hp
    refine ⟨packOf_key w hR r n h0 h3 hc, fun j hj => ?_⟩
    match j, hj with
    | 0, _ => exact (h.cell _).trans rfl
    | 1, _ => exact (h.cell _).trans rfl
    | 2, _ => exact (h.cell _).trans rfl
    | 3, _ => exact (h.cell _).trans rfl
    | 4, _ => exact (h.cell _).trans rfl
    | 5, _ => exact (h.cell _).trans rfl
    | 6, _ => exact (h.cell _).trans rfl
    | 7, _ => exact (h.cell _).trans rfl
    | 8, _ => exact (h.cell _).trans rfl
    | 9, _ => exact (h.cell _).trans rfl
    | 10, _ => exact (h.cell _).trans rfl
    | 11, _ => exact (h.cell _).trans rfl
    | 12, _ => exact (h.cell _).trans rfl
    | 13, _ => exact (h.cell _).trans rfl
theorem ck_ok (r n : Int) (h : ckE r n = 0) : r = 1 ∧ n = 0 ∨ r = 2 ∨ r = 3 ∧ n = 0 := by
  unfold ckE at h
  split at h <;> omega
theorem ck_two (r n : Int) : ckE r n = 0 ∨ ckE r n = 20 := by unfold ckE; split <;> simp

theorem less_eq (r n s m : Int) (hn0 : 0 ≤ n) (hn : n < 18446744073709551616) (hm0 : 0 ≤ m) (hm : m < 18446744073709551616) (hc1 : ckE r n = 0) (hc2 : ckE s m = 0) (hx : r = s) :
    Op.bytesLess (bys (kyb r n)) (bys (kyb s m)) = decide (n < m) ∧ (bys (kyb r n) == bys (kyb s m)) = decide (n = m) := by
  subst hx
  rcases ck_ok r n hc1 with ⟨rfl, rfl⟩ | rfl | ⟨rfl, rfl⟩
  · obtain rfl : m = 0 := by rcases ck_ok 1 m hc2 with h | h | h <;> omega
    exact less_end 1 0 0 (Or.inl rfl)
  · exact less_same n m hn0 hn hm0 hm
  · obtain rfl : m = 0 := by rcases ck_ok 3 m hc2 with h | h | h <;> omega
    exact less_end 3 0 0 (Or.inr rfl)

/-- Pack of a key that may be. -/
theorem pk_ok (r n : Int) (hc : ckE r n = 0) (w : World) (hR : Ranks w) (b : Nat) (h : IsB w b #[.int .i64 6, .int .u64 0, .int .i64 0, .bool false, .slice none 0 0, .int .i64 0, .int .u64 0, .int .i64 r, .int .u64 n, .int .i64 0, .int .i64 0, .int .u64 0, .int .i64 0, .int .u64 0] 34) :
    Calls Tryd.prog 10 #[.slice (some ⟨b, 0, none⟩) 1 1] w fun e w' => ∃ v, e = .returned (.tuple #[v, .int .i64 0]) ∧ Txt w' v ⟨(bys (kyb r n)).toArray⟩ ∧ RowKit.Below w.heap.size w w' := by
  have hr : 1 ≤ r ∧ r ≤ 3 := by rcases ck_ok r n hc with h | h | h <;> omega
  have hl : (allOf [((⟨6, 0, 0, false, none, 0, 0, 0, 0, r, n, 0, 0, 0, 0, 0⟩ : Fd), kyb r n)]) = kyb r n := by simp [allOf]
  have hk : (kyb r n).length ≤ 9 := by unfold kyb; rw [List.length_cons, hb_len]; split <;> omega
  have hp := pack_any b 0 1 [(⟨6, 0, 0, false, none, 0, 0, 0, 0, r, n, 0, 0, 0, 0, 0⟩, kyb r n)] w (key_fields w b r n hR hc hr.1 hr.2 h) (by simp) (by rw [hl]; omega)
  rw [hl] at hp
  refine hp.mono ?_
  rintro e w' ⟨g, hg, rfl, hown, hb⟩
  refine ⟨_, rfl, ?_, hb⟩
  have hlen : (bys (kyb r n)).length = (kyb r n).length := by unfold bys; rw [List.length_map]
  have := text_of (w := w') (base := w.heap.size) (g := g) (cap := (kyb r n).length) (bys (kyb r n)) (by rw [← kyb_cells r n hr.1 hr.2, hlen]; exact hown)
  rw [hlen] at this
  exact this

/-- Pack of a key that may not be. -/
theorem pk_bad (r n : Int) (hc : ckE r n = 20) (w : World) (hR : Ranks w) (b : Nat) (h : IsB w b #[.int .i64 6, .int .u64 0, .int .i64 0, .bool false, .slice none 0 0, .int .i64 0, .int .u64 0, .int .i64 r, .int .u64 n, .int .i64 0, .int .i64 0, .int .u64 0, .int .i64 0, .int .u64 0] 34) :
    Calls Tryd.prog 10 #[.slice (some ⟨b, 0, none⟩) 1 1] w fun e w' => e = .returned (.tuple #[.slice none 0 0, .int .i64 30]) ∧ RowKit.Below w.heap.size w w' := by
  refine pack_bad b 0 1 1 [] ⟨6, 0, 0, false, none, 0, 0, 0, 0, r, n, 0, 0, 0, 0, 0⟩ w (fun i p hp => by simp at hp) (by omega) (by simp) (by simp [allOf]) (fun j hj => ?_) (fun w' hb => ?_)
  · match j, hj with
    | 0, _ => exact (h.cell _).trans rfl
    | 1, _ => exact (h.cell _).trans rfl
    | 2, _ => exact (h.cell _).trans rfl
    | 3, _ => exact (h.cell _).trans rfl
    | 4, _ => exact (h.cell _).trans rfl
    | 5, _ => exact (h.cell _).trans rfl
    | 6, _ => exact (h.cell _).trans rfl
    | 7, _ => exact (h.cell _).trans rfl
    | 8, _ => exact (h.cell _).trans rfl
    | 9, _ => exact (h.cell _).trans rfl
    | 10, _ => exact (h.cell _).trans rfl
    | 11, _ => exact (h.cell _).trans rfl
    | 12, _ => exact (h.cell _).trans rfl
    | 13, _ => exact (h.cell _).trans rfl
  · exact (check_key_bad r n w' (hR.below hb) hc).mono fun _ _ ⟨h, k⟩ => ⟨h, k.below⟩

set_option maxHeartbeats 8000000 in
set_option maxRecDepth 100000 in
theorem packOrder_ob (r n s m : Int) (w : World) (hR : Ranks w) (hc1 : ckE r n = 0) (hc2 : ckE s m = 20) :
    Calls Tryd.prog 7 #[(.agg #[.int .i64 (r), .int .u64 (n)]), (.agg #[.int .i64 (s), .int .u64 (m)])] w fun e w' => e = .returned (.bool true) ∧ RowKit.Below w.heap.size w w' := by
  have mixed : Tryd.prog.follows .mixedOrders = true := by kernel_rfl
  have J0 := (IsB.new w #[.int .i64 r, .int .u64 n] 30).alloc (.cells #[.int .i64 s, .int .u64 m] 30)
  have J1 := IsB.new (w.alloc (.cells #[.int .i64 r, .int .u64 n] 30)) #[.int .i64 s, .int .u64 m] 30
  rw [World.size_alloc] at J1
  have HA := hide J0
  have HC := hide J1
  have HB := hide (show RowKit.Below w.heap.size w ((w.alloc (.cells #[.int .i64 r, .int .u64 n] 30)).alloc (.cells #[.int .i64 s, .int .u64 m] 30)) from (((Gr.refl w).alloc _).alloc _).below)
  have HR := hide hR
  replace hc1 := hide hc1
  replace hc2 := hide hc2
  clear J0 J1 hR
  go_enter Tryd.func7, Tryd.ntmps7
  go_wp2_with fail
  replace HA := hide (HA.out.alloc (.cells #[.int .i64 6, .int .u64 0, .int .i64 0, .bool false, .slice none 0 0, .int .i64 0, .int .u64 0, .int .i64 r, .int .u64 n, .int .i64 0, .int .i64 0, .int .u64 0, .int .i64 0, .int .u64 0] 34))
  replace HC := hide (HC.out.alloc (.cells #[.int .i64 6, .int .u64 0, .int .i64 0, .bool false, .slice none 0 0, .int .i64 0, .int .u64 0, .int .i64 r, .int .u64 n, .int .i64 0, .int .i64 0, .int .u64 0, .int .i64 0, .int .u64 0] 34))
  have hF := IsB.new ((w.alloc (.cells #[.int .i64 r, .int .u64 n] 30)).alloc (.cells #[.int .i64 s, .int .u64 m] 30)) #[.int .i64 6, .int .u64 0, .int .i64 0, .bool false, .slice none 0 0, .int .i64 0, .int .u64 0, .int .i64 r, .int .u64 n, .int .i64 0, .int .i64 0, .int .u64 0, .int .i64 0, .int .u64 0] 34
  rw [World.size_alloc, World.size_alloc] at hF
  have HF := hide hF
  clear hF
  replace HB := hide (HB.out.trans (((Gr.refl ((w.alloc (.cells #[.int .i64 r, .int .u64 n] 30)).alloc (.cells #[.int .i64 s, .int .u64 m] 30))).alloc (.cells #[.int .i64 6, .int .u64 0, .int .i64 0, .bool false, .slice none 0 0, .int .i64 0, .int .u64 0, .int .i64 r, .int .u64 n, .int .i64 0, .int .i64 0, .int .u64 0, .int .i64 0, .int .u64 0] 34)).below.mono HB.out.size))
  generalize ((w.alloc (.cells #[.int .i64 r, .int .u64 n] 30)).alloc (.cells #[.int .i64 s, .int .u64 m] 30)).alloc (.cells #[.int .i64 6, .int .u64 0, .int .i64 0, .bool false, .slice none 0 0, .int .i64 0, .int .u64 0, .int .i64 r, .int .u64 n, .int .i64 0, .int .i64 0, .int .u64 0, .int .i64 0, .int .u64 0] 34) = W1 at HA HC HB HF ⊢
  refine (pk_ok r n hc1.out W1 (HR.out.below HB.out) _ HF.out).mono ?_; rintro e w1 ⟨v1, rfl, htx, hb⟩
  replace HA := hide (HA.out.setB hb)
  replace HC := hide (HC.out.setB hb)
  replace HB := hide (HB.out.trans (hb.mono HB.out.size))
  have X1 := hide htx
  clear hb htx HF
  have b0 : w1.cell? ⟨w.heap.size + 1, 0, none⟩ = some (.int .i64 s) := HC.out.cell 0
  have b1 : w1.cell? ⟨w.heap.size + 1, 1, none⟩ = some (.int .u64 m) := HC.out.cell 1
  go_wp2_with fail
  clear b0 b1
  replace HA := hide (HA.out.alloc (.cells #[.int .i64 6, .int .u64 0, .int .i64 0, .bool false, .slice none 0 0, .int .i64 0, .int .u64 0, .int .i64 s, .int .u64 m, .int .i64 0, .int .i64 0, .int .u64 0, .int .i64 0, .int .u64 0] 34))
  replace HC := hide (HC.out.alloc (.cells #[.int .i64 6, .int .u64 0, .int .i64 0, .bool false, .slice none 0 0, .int .i64 0, .int .u64 0, .int .i64 s, .int .u64 m, .int .i64 0, .int .i64 0, .int .u64 0, .int .i64 0, .int .u64 0] 34))
  replace X1 := hide (X1.out.below ((Gr.refl w1).alloc (.cells #[.int .i64 6, .int .u64 0, .int .i64 0, .bool false, .slice none 0 0, .int .i64 0, .int .u64 0, .int .i64 s, .int .u64 m, .int .i64 0, .int .i64 0, .int .u64 0, .int .i64 0, .int .u64 0] 34)).below)
  have HF := hide (IsB.new w1 #[.int .i64 6, .int .u64 0, .int .i64 0, .bool false, .slice none 0 0, .int .i64 0, .int .u64 0, .int .i64 s, .int .u64 m, .int .i64 0, .int .i64 0, .int .u64 0, .int .i64 0, .int .u64 0] 34)
  replace HB := hide (HB.out.trans (((Gr.refl w1).alloc (.cells #[.int .i64 6, .int .u64 0, .int .i64 0, .bool false, .slice none 0 0, .int .i64 0, .int .u64 0, .int .i64 s, .int .u64 m, .int .i64 0, .int .i64 0, .int .u64 0, .int .i64 0, .int .u64 0] 34)).below.mono HB.out.size))
  generalize hU : w1.heap.size = U2 at HF ⊢
  generalize w1.alloc (.cells #[.int .i64 6, .int .u64 0, .int .i64 0, .bool false, .slice none 0 0, .int .i64 0, .int .u64 0, .int .i64 s, .int .u64 m, .int .i64 0, .int .i64 0, .int .u64 0, .int .i64 0, .int .u64 0] 34) = W2 at HA HC HB HF X1 ⊢
  clear hU
  refine (pk_bad s m hc2.out W2 (HR.out.below HB.out) _ HF.out).mono ?_; rintro e w2 ⟨rfl, hb⟩
  replace HA := hide (HA.out.setB hb)
  replace HC := hide (HC.out.setB hb)
  replace HB := hide (HB.out.trans (hb.mono HB.out.size))
  replace X1 := hide (X1.out.below hb)
  clear hb HF
  have a0 : w2.cell? ⟨w.heap.size, 0, none⟩ = some (.int .i64 r) := HA.out.cell 0
  have a1 : w2.cell? ⟨w.heap.size, 1, none⟩ = some (.int .u64 n) := HA.out.cell 1
  have b0 : w2.cell? ⟨w.heap.size + 1, 0, none⟩ = some (.int .i64 s) := HC.out.cell 0
  have b1 : w2.cell? ⟨w.heap.size + 1, 1, none⟩ = some (.int .u64 m) := HC.out.cell 1
  have hk := isKey_any s m w2
  rw [show isK s m = false from by unfold isK; rw [hc2.out]; rfl] at hk
  go_wp2_with fail
  clear a0 a1 b0 b1
  refine hk.mono ?_; rintro e w3 ⟨rfl, hg⟩
  replace HA := hide (HA.out.gr hg)
  replace HC := hide (HC.out.gr hg)
  replace HB := hide (HB.out.trans (hg.below.mono HB.out.size))
  clear hg hk
  go_wp2_with fail
  refine (alive_any _ (HR.out.below HB.out)).mono ?_; rintro e w9 ⟨rfl, hb⟩
  replace HB := hide (HB.out.trans (hb.mono HB.out.size))
  clear hb
  go_wp2
  go_ret
  exact ⟨rfl, HB.out⟩

set_option maxHeartbeats 8000000 in
set_option maxRecDepth 100000 in
theorem packOrder_bo (r n s m : Int) (w : World) (hR : Ranks w) (hc1 : ckE r n = 20) (hc2 : ckE s m = 0) :
    Calls Tryd.prog 7 #[(.agg #[.int .i64 (r), .int .u64 (n)]), (.agg #[.int .i64 (s), .int .u64 (m)])] w fun e w' => e = .returned (.bool true) ∧ RowKit.Below w.heap.size w w' := by
  have mixed : Tryd.prog.follows .mixedOrders = true := by kernel_rfl
  have J0 := (IsB.new w #[.int .i64 r, .int .u64 n] 30).alloc (.cells #[.int .i64 s, .int .u64 m] 30)
  have J1 := IsB.new (w.alloc (.cells #[.int .i64 r, .int .u64 n] 30)) #[.int .i64 s, .int .u64 m] 30
  rw [World.size_alloc] at J1
  have HA := hide J0
  have HC := hide J1
  have HB := hide (show RowKit.Below w.heap.size w ((w.alloc (.cells #[.int .i64 r, .int .u64 n] 30)).alloc (.cells #[.int .i64 s, .int .u64 m] 30)) from (((Gr.refl w).alloc _).alloc _).below)
  have HR := hide hR
  replace hc1 := hide hc1
  replace hc2 := hide hc2
  clear J0 J1 hR
  go_enter Tryd.func7, Tryd.ntmps7
  go_wp2_with fail
  replace HA := hide (HA.out.alloc (.cells #[.int .i64 6, .int .u64 0, .int .i64 0, .bool false, .slice none 0 0, .int .i64 0, .int .u64 0, .int .i64 r, .int .u64 n, .int .i64 0, .int .i64 0, .int .u64 0, .int .i64 0, .int .u64 0] 34))
  replace HC := hide (HC.out.alloc (.cells #[.int .i64 6, .int .u64 0, .int .i64 0, .bool false, .slice none 0 0, .int .i64 0, .int .u64 0, .int .i64 r, .int .u64 n, .int .i64 0, .int .i64 0, .int .u64 0, .int .i64 0, .int .u64 0] 34))
  have hF := IsB.new ((w.alloc (.cells #[.int .i64 r, .int .u64 n] 30)).alloc (.cells #[.int .i64 s, .int .u64 m] 30)) #[.int .i64 6, .int .u64 0, .int .i64 0, .bool false, .slice none 0 0, .int .i64 0, .int .u64 0, .int .i64 r, .int .u64 n, .int .i64 0, .int .i64 0, .int .u64 0, .int .i64 0, .int .u64 0] 34
  rw [World.size_alloc, World.size_alloc] at hF
  have HF := hide hF
  clear hF
  replace HB := hide (HB.out.trans (((Gr.refl ((w.alloc (.cells #[.int .i64 r, .int .u64 n] 30)).alloc (.cells #[.int .i64 s, .int .u64 m] 30))).alloc (.cells #[.int .i64 6, .int .u64 0, .int .i64 0, .bool false, .slice none 0 0, .int .i64 0, .int .u64 0, .int .i64 r, .int .u64 n, .int .i64 0, .int .i64 0, .int .u64 0, .int .i64 0, .int .u64 0] 34)).below.mono HB.out.size))
  generalize ((w.alloc (.cells #[.int .i64 r, .int .u64 n] 30)).alloc (.cells #[.int .i64 s, .int .u64 m] 30)).alloc (.cells #[.int .i64 6, .int .u64 0, .int .i64 0, .bool false, .slice none 0 0, .int .i64 0, .int .u64 0, .int .i64 r, .int .u64 n, .int .i64 0, .int .i64 0, .int .u64 0, .int .i64 0, .int .u64 0] 34) = W1 at HA HC HB HF ⊢
  refine (pk_bad r n hc1.out W1 (HR.out.below HB.out) _ HF.out).mono ?_; rintro e w1 ⟨rfl, hb⟩
  replace HA := hide (HA.out.setB hb)
  replace HC := hide (HC.out.setB hb)
  replace HB := hide (HB.out.trans (hb.mono HB.out.size))
  clear hb HF
  have b0 : w1.cell? ⟨w.heap.size + 1, 0, none⟩ = some (.int .i64 s) := HC.out.cell 0
  have b1 : w1.cell? ⟨w.heap.size + 1, 1, none⟩ = some (.int .u64 m) := HC.out.cell 1
  go_wp2_with fail
  clear b0 b1
  replace HA := hide (HA.out.alloc (.cells #[.int .i64 6, .int .u64 0, .int .i64 0, .bool false, .slice none 0 0, .int .i64 0, .int .u64 0, .int .i64 s, .int .u64 m, .int .i64 0, .int .i64 0, .int .u64 0, .int .i64 0, .int .u64 0] 34))
  replace HC := hide (HC.out.alloc (.cells #[.int .i64 6, .int .u64 0, .int .i64 0, .bool false, .slice none 0 0, .int .i64 0, .int .u64 0, .int .i64 s, .int .u64 m, .int .i64 0, .int .i64 0, .int .u64 0, .int .i64 0, .int .u64 0] 34))
  have HF := hide (IsB.new w1 #[.int .i64 6, .int .u64 0, .int .i64 0, .bool false, .slice none 0 0, .int .i64 0, .int .u64 0, .int .i64 s, .int .u64 m, .int .i64 0, .int .i64 0, .int .u64 0, .int .i64 0, .int .u64 0] 34)
  replace HB := hide (HB.out.trans (((Gr.refl w1).alloc (.cells #[.int .i64 6, .int .u64 0, .int .i64 0, .bool false, .slice none 0 0, .int .i64 0, .int .u64 0, .int .i64 s, .int .u64 m, .int .i64 0, .int .i64 0, .int .u64 0, .int .i64 0, .int .u64 0] 34)).below.mono HB.out.size))
  generalize hU : w1.heap.size = U2 at HF ⊢
  generalize w1.alloc (.cells #[.int .i64 6, .int .u64 0, .int .i64 0, .bool false, .slice none 0 0, .int .i64 0, .int .u64 0, .int .i64 s, .int .u64 m, .int .i64 0, .int .i64 0, .int .u64 0, .int .i64 0, .int .u64 0] 34) = W2 at HA HC HB HF ⊢
  clear hU
  refine (pk_ok s m hc2.out W2 (HR.out.below HB.out) _ HF.out).mono ?_; rintro e w2 ⟨v2, rfl, htx, hb⟩
  replace HA := hide (HA.out.setB hb)
  replace HC := hide (HC.out.setB hb)
  replace HB := hide (HB.out.trans (hb.mono HB.out.size))
  have X2 := hide htx
  clear hb htx HF
  have a0 : w2.cell? ⟨w.heap.size, 0, none⟩ = some (.int .i64 r) := HA.out.cell 0
  have a1 : w2.cell? ⟨w.heap.size, 1, none⟩ = some (.int .u64 n) := HA.out.cell 1
  have b0 : w2.cell? ⟨w.heap.size + 1, 0, none⟩ = some (.int .i64 s) := HC.out.cell 0
  have b1 : w2.cell? ⟨w.heap.size + 1, 1, none⟩ = some (.int .u64 m) := HC.out.cell 1
  have hk := isKey_any r n w2
  rw [show isK r n = false from by unfold isK; rw [hc1.out]; rfl] at hk
  go_wp2_with fail
  clear a0 a1 b0 b1
  refine hk.mono ?_; rintro e w3 ⟨rfl, hg⟩
  replace HA := hide (HA.out.gr hg)
  replace HC := hide (HC.out.gr hg)
  replace HB := hide (HB.out.trans (hg.below.mono HB.out.size))
  clear hg hk
  go_wp2_with fail
  refine (alive_any _ (HR.out.below HB.out)).mono ?_; rintro e w9 ⟨rfl, hb⟩
  replace HB := hide (HB.out.trans (hb.mono HB.out.size))
  clear hb
  go_wp2
  go_ret
  exact ⟨rfl, HB.out⟩

set_option maxHeartbeats 8000000 in
set_option maxRecDepth 100000 in
theorem packOrder_bb (r n s m : Int) (w : World) (hR : Ranks w) (hc1 : ckE r n = 20) (hc2 : ckE s m = 20) :
    Calls Tryd.prog 7 #[(.agg #[.int .i64 (r), .int .u64 (n)]), (.agg #[.int .i64 (s), .int .u64 (m)])] w fun e w' => e = .returned (.bool true) ∧ RowKit.Below w.heap.size w w' := by
  have mixed : Tryd.prog.follows .mixedOrders = true := by kernel_rfl
  have J0 := (IsB.new w #[.int .i64 r, .int .u64 n] 30).alloc (.cells #[.int .i64 s, .int .u64 m] 30)
  have J1 := IsB.new (w.alloc (.cells #[.int .i64 r, .int .u64 n] 30)) #[.int .i64 s, .int .u64 m] 30
  rw [World.size_alloc] at J1
  have HA := hide J0
  have HC := hide J1
  have HB := hide (show RowKit.Below w.heap.size w ((w.alloc (.cells #[.int .i64 r, .int .u64 n] 30)).alloc (.cells #[.int .i64 s, .int .u64 m] 30)) from (((Gr.refl w).alloc _).alloc _).below)
  have HR := hide hR
  replace hc1 := hide hc1
  replace hc2 := hide hc2
  clear J0 J1 hR
  go_enter Tryd.func7, Tryd.ntmps7
  go_wp2_with fail
  replace HA := hide (HA.out.alloc (.cells #[.int .i64 6, .int .u64 0, .int .i64 0, .bool false, .slice none 0 0, .int .i64 0, .int .u64 0, .int .i64 r, .int .u64 n, .int .i64 0, .int .i64 0, .int .u64 0, .int .i64 0, .int .u64 0] 34))
  replace HC := hide (HC.out.alloc (.cells #[.int .i64 6, .int .u64 0, .int .i64 0, .bool false, .slice none 0 0, .int .i64 0, .int .u64 0, .int .i64 r, .int .u64 n, .int .i64 0, .int .i64 0, .int .u64 0, .int .i64 0, .int .u64 0] 34))
  have hF := IsB.new ((w.alloc (.cells #[.int .i64 r, .int .u64 n] 30)).alloc (.cells #[.int .i64 s, .int .u64 m] 30)) #[.int .i64 6, .int .u64 0, .int .i64 0, .bool false, .slice none 0 0, .int .i64 0, .int .u64 0, .int .i64 r, .int .u64 n, .int .i64 0, .int .i64 0, .int .u64 0, .int .i64 0, .int .u64 0] 34
  rw [World.size_alloc, World.size_alloc] at hF
  have HF := hide hF
  clear hF
  replace HB := hide (HB.out.trans (((Gr.refl ((w.alloc (.cells #[.int .i64 r, .int .u64 n] 30)).alloc (.cells #[.int .i64 s, .int .u64 m] 30))).alloc (.cells #[.int .i64 6, .int .u64 0, .int .i64 0, .bool false, .slice none 0 0, .int .i64 0, .int .u64 0, .int .i64 r, .int .u64 n, .int .i64 0, .int .i64 0, .int .u64 0, .int .i64 0, .int .u64 0] 34)).below.mono HB.out.size))
  generalize ((w.alloc (.cells #[.int .i64 r, .int .u64 n] 30)).alloc (.cells #[.int .i64 s, .int .u64 m] 30)).alloc (.cells #[.int .i64 6, .int .u64 0, .int .i64 0, .bool false, .slice none 0 0, .int .i64 0, .int .u64 0, .int .i64 r, .int .u64 n, .int .i64 0, .int .i64 0, .int .u64 0, .int .i64 0, .int .u64 0] 34) = W1 at HA HC HB HF ⊢
  refine (pk_bad r n hc1.out W1 (HR.out.below HB.out) _ HF.out).mono ?_; rintro e w1 ⟨rfl, hb⟩
  replace HA := hide (HA.out.setB hb)
  replace HC := hide (HC.out.setB hb)
  replace HB := hide (HB.out.trans (hb.mono HB.out.size))
  clear hb HF
  have b0 : w1.cell? ⟨w.heap.size + 1, 0, none⟩ = some (.int .i64 s) := HC.out.cell 0
  have b1 : w1.cell? ⟨w.heap.size + 1, 1, none⟩ = some (.int .u64 m) := HC.out.cell 1
  go_wp2_with fail
  clear b0 b1
  replace HA := hide (HA.out.alloc (.cells #[.int .i64 6, .int .u64 0, .int .i64 0, .bool false, .slice none 0 0, .int .i64 0, .int .u64 0, .int .i64 s, .int .u64 m, .int .i64 0, .int .i64 0, .int .u64 0, .int .i64 0, .int .u64 0] 34))
  replace HC := hide (HC.out.alloc (.cells #[.int .i64 6, .int .u64 0, .int .i64 0, .bool false, .slice none 0 0, .int .i64 0, .int .u64 0, .int .i64 s, .int .u64 m, .int .i64 0, .int .i64 0, .int .u64 0, .int .i64 0, .int .u64 0] 34))
  have HF := hide (IsB.new w1 #[.int .i64 6, .int .u64 0, .int .i64 0, .bool false, .slice none 0 0, .int .i64 0, .int .u64 0, .int .i64 s, .int .u64 m, .int .i64 0, .int .i64 0, .int .u64 0, .int .i64 0, .int .u64 0] 34)
  replace HB := hide (HB.out.trans (((Gr.refl w1).alloc (.cells #[.int .i64 6, .int .u64 0, .int .i64 0, .bool false, .slice none 0 0, .int .i64 0, .int .u64 0, .int .i64 s, .int .u64 m, .int .i64 0, .int .i64 0, .int .u64 0, .int .i64 0, .int .u64 0] 34)).below.mono HB.out.size))
  generalize hU : w1.heap.size = U2 at HF ⊢
  generalize w1.alloc (.cells #[.int .i64 6, .int .u64 0, .int .i64 0, .bool false, .slice none 0 0, .int .i64 0, .int .u64 0, .int .i64 s, .int .u64 m, .int .i64 0, .int .i64 0, .int .u64 0, .int .i64 0, .int .u64 0] 34) = W2 at HA HC HB HF ⊢
  clear hU
  refine (pk_bad s m hc2.out W2 (HR.out.below HB.out) _ HF.out).mono ?_; rintro e w2 ⟨rfl, hb⟩
  replace HA := hide (HA.out.setB hb)
  replace HC := hide (HC.out.setB hb)
  replace HB := hide (HB.out.trans (hb.mono HB.out.size))
  clear hb HF
  have a0 : w2.cell? ⟨w.heap.size, 0, none⟩ = some (.int .i64 r) := HA.out.cell 0
  have a1 : w2.cell? ⟨w.heap.size, 1, none⟩ = some (.int .u64 n) := HA.out.cell 1
  have b0 : w2.cell? ⟨w.heap.size + 1, 0, none⟩ = some (.int .i64 s) := HC.out.cell 0
  have b1 : w2.cell? ⟨w.heap.size + 1, 1, none⟩ = some (.int .u64 m) := HC.out.cell 1
  have hk := isKey_any r n w2
  rw [show isK r n = false from by unfold isK; rw [hc1.out]; rfl] at hk
  go_wp2_with fail
  clear a0 a1 b0 b1
  refine hk.mono ?_; rintro e w3 ⟨rfl, hg⟩
  replace HA := hide (HA.out.gr hg)
  replace HC := hide (HC.out.gr hg)
  replace HB := hide (HB.out.trans (hg.below.mono HB.out.size))
  clear hg hk
  have a0 : w3.cell? ⟨w.heap.size, 0, none⟩ = some (.int .i64 r) := HA.out.cell 0
  have a1 : w3.cell? ⟨w.heap.size, 1, none⟩ = some (.int .u64 n) := HA.out.cell 1
  have b0 : w3.cell? ⟨w.heap.size + 1, 0, none⟩ = some (.int .i64 s) := HC.out.cell 0
  have b1 : w3.cell? ⟨w.heap.size + 1, 1, none⟩ = some (.int .u64 m) := HC.out.cell 1
  have hk := isKey_any s m w3
  rw [show isK s m = false from by unfold isK; rw [hc2.out]; rfl] at hk
  go_wp2_with fail
  clear a0 a1 b0 b1
  refine hk.mono ?_; rintro e w4 ⟨rfl, hg⟩
  replace HA := hide (HA.out.gr hg)
  replace HC := hide (HC.out.gr hg)
  replace HB := hide (HB.out.trans (hg.below.mono HB.out.size))
  clear hg hk
  go_wp2_with fail
  refine (alive_any _ (HR.out.below HB.out)).mono ?_; rintro e w9 ⟨rfl, hb⟩
  replace HB := hide (HB.out.trans (hb.mono HB.out.size))
  clear hb
  go_wp2
  go_ret
  exact ⟨rfl, HB.out⟩

set_option maxHeartbeats 8000000 in
set_option maxRecDepth 100000 in
theorem packOrder_lt (r n s m : Int) (hx : r < s) (w : World) (hR : Ranks w) (hc1 : ckE r n = 0) (hc2 : ckE s m = 0) :
    Calls Tryd.prog 7 #[(.agg #[.int .i64 (r), .int .u64 (n)]), (.agg #[.int .i64 (s), .int .u64 (m)])] w fun e w' => e = .returned (.bool true) ∧ RowKit.Below w.heap.size w w' := by
  have mixed : Tryd.prog.follows .mixedOrders = true := by kernel_rfl
  have J0 := (IsB.new w #[.int .i64 r, .int .u64 n] 30).alloc (.cells #[.int .i64 s, .int .u64 m] 30)
  have J1 := IsB.new (w.alloc (.cells #[.int .i64 r, .int .u64 n] 30)) #[.int .i64 s, .int .u64 m] 30
  rw [World.size_alloc] at J1
  have HA := hide J0
  have HC := hide J1
  have HB := hide (show RowKit.Below w.heap.size w ((w.alloc (.cells #[.int .i64 r, .int .u64 n] 30)).alloc (.cells #[.int .i64 s, .int .u64 m] 30)) from (((Gr.refl w).alloc _).alloc _).below)
  have HR := hide hR
  replace hc1 := hide hc1
  replace hc2 := hide hc2
  clear J0 J1 hR
  go_enter Tryd.func7, Tryd.ntmps7
  go_wp2_with fail
  replace HA := hide (HA.out.alloc (.cells #[.int .i64 6, .int .u64 0, .int .i64 0, .bool false, .slice none 0 0, .int .i64 0, .int .u64 0, .int .i64 r, .int .u64 n, .int .i64 0, .int .i64 0, .int .u64 0, .int .i64 0, .int .u64 0] 34))
  replace HC := hide (HC.out.alloc (.cells #[.int .i64 6, .int .u64 0, .int .i64 0, .bool false, .slice none 0 0, .int .i64 0, .int .u64 0, .int .i64 r, .int .u64 n, .int .i64 0, .int .i64 0, .int .u64 0, .int .i64 0, .int .u64 0] 34))
  have hF := IsB.new ((w.alloc (.cells #[.int .i64 r, .int .u64 n] 30)).alloc (.cells #[.int .i64 s, .int .u64 m] 30)) #[.int .i64 6, .int .u64 0, .int .i64 0, .bool false, .slice none 0 0, .int .i64 0, .int .u64 0, .int .i64 r, .int .u64 n, .int .i64 0, .int .i64 0, .int .u64 0, .int .i64 0, .int .u64 0] 34
  rw [World.size_alloc, World.size_alloc] at hF
  have HF := hide hF
  clear hF
  replace HB := hide (HB.out.trans (((Gr.refl ((w.alloc (.cells #[.int .i64 r, .int .u64 n] 30)).alloc (.cells #[.int .i64 s, .int .u64 m] 30))).alloc (.cells #[.int .i64 6, .int .u64 0, .int .i64 0, .bool false, .slice none 0 0, .int .i64 0, .int .u64 0, .int .i64 r, .int .u64 n, .int .i64 0, .int .i64 0, .int .u64 0, .int .i64 0, .int .u64 0] 34)).below.mono HB.out.size))
  generalize ((w.alloc (.cells #[.int .i64 r, .int .u64 n] 30)).alloc (.cells #[.int .i64 s, .int .u64 m] 30)).alloc (.cells #[.int .i64 6, .int .u64 0, .int .i64 0, .bool false, .slice none 0 0, .int .i64 0, .int .u64 0, .int .i64 r, .int .u64 n, .int .i64 0, .int .i64 0, .int .u64 0, .int .i64 0, .int .u64 0] 34) = W1 at HA HC HB HF ⊢
  refine (pk_ok r n hc1.out W1 (HR.out.below HB.out) _ HF.out).mono ?_; rintro e w1 ⟨v1, rfl, htx, hb⟩
  replace HA := hide (HA.out.setB hb)
  replace HC := hide (HC.out.setB hb)
  replace HB := hide (HB.out.trans (hb.mono HB.out.size))
  have X1 := hide htx
  clear hb htx HF
  have b0 : w1.cell? ⟨w.heap.size + 1, 0, none⟩ = some (.int .i64 s) := HC.out.cell 0
  have b1 : w1.cell? ⟨w.heap.size + 1, 1, none⟩ = some (.int .u64 m) := HC.out.cell 1
  go_wp2_with fail
  clear b0 b1
  replace HA := hide (HA.out.alloc (.cells #[.int .i64 6, .int .u64 0, .int .i64 0, .bool false, .slice none 0 0, .int .i64 0, .int .u64 0, .int .i64 s, .int .u64 m, .int .i64 0, .int .i64 0, .int .u64 0, .int .i64 0, .int .u64 0] 34))
  replace HC := hide (HC.out.alloc (.cells #[.int .i64 6, .int .u64 0, .int .i64 0, .bool false, .slice none 0 0, .int .i64 0, .int .u64 0, .int .i64 s, .int .u64 m, .int .i64 0, .int .i64 0, .int .u64 0, .int .i64 0, .int .u64 0] 34))
  replace X1 := hide (X1.out.below ((Gr.refl w1).alloc (.cells #[.int .i64 6, .int .u64 0, .int .i64 0, .bool false, .slice none 0 0, .int .i64 0, .int .u64 0, .int .i64 s, .int .u64 m, .int .i64 0, .int .i64 0, .int .u64 0, .int .i64 0, .int .u64 0] 34)).below)
  have HF := hide (IsB.new w1 #[.int .i64 6, .int .u64 0, .int .i64 0, .bool false, .slice none 0 0, .int .i64 0, .int .u64 0, .int .i64 s, .int .u64 m, .int .i64 0, .int .i64 0, .int .u64 0, .int .i64 0, .int .u64 0] 34)
  replace HB := hide (HB.out.trans (((Gr.refl w1).alloc (.cells #[.int .i64 6, .int .u64 0, .int .i64 0, .bool false, .slice none 0 0, .int .i64 0, .int .u64 0, .int .i64 s, .int .u64 m, .int .i64 0, .int .i64 0, .int .u64 0, .int .i64 0, .int .u64 0] 34)).below.mono HB.out.size))
  generalize hU : w1.heap.size = U2 at HF ⊢
  generalize w1.alloc (.cells #[.int .i64 6, .int .u64 0, .int .i64 0, .bool false, .slice none 0 0, .int .i64 0, .int .u64 0, .int .i64 s, .int .u64 m, .int .i64 0, .int .i64 0, .int .u64 0, .int .i64 0, .int .u64 0] 34) = W2 at HA HC HB HF X1 ⊢
  clear hU
  refine (pk_ok s m hc2.out W2 (HR.out.below HB.out) _ HF.out).mono ?_; rintro e w2 ⟨v2, rfl, htx, hb⟩
  replace HA := hide (HA.out.setB hb)
  replace HC := hide (HC.out.setB hb)
  replace HB := hide (HB.out.trans (hb.mono HB.out.size))
  replace X1 := hide (X1.out.below hb)
  have X2 := hide htx
  clear hb htx HF
  have hl0 := (less_ranks r n s m (by rcases ck_ok r n hc1.out with h | h | h <;> omega) (by rcases ck_ok s m hc2.out with h | h | h <;> omega) hx).1
  have he0 := (less_ranks r n s m (by rcases ck_ok r n hc1.out with h | h | h <;> omega) (by rcases ck_ok s m hc2.out with h | h | h <;> omega) hx).2.2.1
  obtain ⟨S1, S2, x1, x2, hlt, heq⟩ : ∃ S1 S2 : ByteArray, (∀ p : Bel w2, (convert 25 9 v1).run Tryd.prog p.v = .ok (.string S1) p.v) ∧ (∀ p : Bel w2, (convert 25 9 v2).run Tryd.prog p.v = .ok (.string S2) p.v) ∧ Op.bytesLess S1.toList S2.toList = true ∧ (S1.toList == S2.toList) = false :=
    ⟨⟨(bys (kyb r n)).toArray⟩, ⟨(bys (kyb s m)).toArray⟩, fun p => X1.out p.v p.h, fun p => X2.out p.v p.h, by rw [ByteArray.toList_eq, ByteArray.toList_eq]; exact hl0, by rw [ByteArray.toList_eq, ByteArray.toList_eq]; exact he0⟩
  clear hl0 he0 X1 X2
  have e1 : (r == s) = false := by simp; omega
  have a0 : w2.cell? ⟨w.heap.size, 0, none⟩ = some (.int .i64 r) := HA.out.cell 0
  have a1 : w2.cell? ⟨w.heap.size, 1, none⟩ = some (.int .u64 n) := HA.out.cell 1
  have b0 : w2.cell? ⟨w.heap.size + 1, 0, none⟩ = some (.int .i64 s) := HC.out.cell 0
  have b1 : w2.cell? ⟨w.heap.size + 1, 1, none⟩ = some (.int .u64 m) := HC.out.cell 1
  go_wp2
  clear a0 a1 b0 b1
  have a0 : ∀ p : Bel w2, p.v.cell? ⟨w.heap.size, 0, none⟩ = some (.int .i64 r) := bel_cell (HA.out.cell 0)
  have a1 : ∀ p : Bel w2, p.v.cell? ⟨w.heap.size, 1, none⟩ = some (.int .u64 n) := bel_cell (HA.out.cell 1)
  have b0 : ∀ p : Bel w2, p.v.cell? ⟨w.heap.size + 1, 0, none⟩ = some (.int .i64 s) := bel_cell (HC.out.cell 0)
  have b1 : ∀ p : Bel w2, p.v.cell? ⟨w.heap.size + 1, 1, none⟩ = some (.int .u64 m) := bel_cell (HC.out.cell 1)
  have HRW := hide (show ∀ p : Bel w2, Ranks p.v from fun p => (HR.out.below HB.out).below p.h)
  haveI : Inhabited (Bel w2) := ⟨⟨w2, Below.refl _ _⟩⟩
  refine wp_region_bel (by assumption) (by kernel_rfl) ?_
  repeat (quiet_step ((go_at_call 18; exact bel_of _ (alive_any _ (HRW.out _)))))
  refine wpQuiet_nil ?_
  intro _ hw'
  obtain ⟨p, rfl⟩ := hw'
  go_wp2
  go_ret
  exact ⟨rfl, HB.out.trans (p.h.mono HB.out.size)⟩

set_option maxHeartbeats 8000000 in
set_option maxRecDepth 100000 in
theorem packOrder_gt (r n s m : Int) (hx : s < r) (w : World) (hR : Ranks w) (hc1 : ckE r n = 0) (hc2 : ckE s m = 0) :
    Calls Tryd.prog 7 #[(.agg #[.int .i64 (r), .int .u64 (n)]), (.agg #[.int .i64 (s), .int .u64 (m)])] w fun e w' => e = .returned (.bool true) ∧ RowKit.Below w.heap.size w w' := by
  have mixed : Tryd.prog.follows .mixedOrders = true := by kernel_rfl
  have J0 := (IsB.new w #[.int .i64 r, .int .u64 n] 30).alloc (.cells #[.int .i64 s, .int .u64 m] 30)
  have J1 := IsB.new (w.alloc (.cells #[.int .i64 r, .int .u64 n] 30)) #[.int .i64 s, .int .u64 m] 30
  rw [World.size_alloc] at J1
  have HA := hide J0
  have HC := hide J1
  have HB := hide (show RowKit.Below w.heap.size w ((w.alloc (.cells #[.int .i64 r, .int .u64 n] 30)).alloc (.cells #[.int .i64 s, .int .u64 m] 30)) from (((Gr.refl w).alloc _).alloc _).below)
  have HR := hide hR
  replace hc1 := hide hc1
  replace hc2 := hide hc2
  clear J0 J1 hR
  go_enter Tryd.func7, Tryd.ntmps7
  go_wp2_with fail
  replace HA := hide (HA.out.alloc (.cells #[.int .i64 6, .int .u64 0, .int .i64 0, .bool false, .slice none 0 0, .int .i64 0, .int .u64 0, .int .i64 r, .int .u64 n, .int .i64 0, .int .i64 0, .int .u64 0, .int .i64 0, .int .u64 0] 34))
  replace HC := hide (HC.out.alloc (.cells #[.int .i64 6, .int .u64 0, .int .i64 0, .bool false, .slice none 0 0, .int .i64 0, .int .u64 0, .int .i64 r, .int .u64 n, .int .i64 0, .int .i64 0, .int .u64 0, .int .i64 0, .int .u64 0] 34))
  have hF := IsB.new ((w.alloc (.cells #[.int .i64 r, .int .u64 n] 30)).alloc (.cells #[.int .i64 s, .int .u64 m] 30)) #[.int .i64 6, .int .u64 0, .int .i64 0, .bool false, .slice none 0 0, .int .i64 0, .int .u64 0, .int .i64 r, .int .u64 n, .int .i64 0, .int .i64 0, .int .u64 0, .int .i64 0, .int .u64 0] 34
  rw [World.size_alloc, World.size_alloc] at hF
  have HF := hide hF
  clear hF
  replace HB := hide (HB.out.trans (((Gr.refl ((w.alloc (.cells #[.int .i64 r, .int .u64 n] 30)).alloc (.cells #[.int .i64 s, .int .u64 m] 30))).alloc (.cells #[.int .i64 6, .int .u64 0, .int .i64 0, .bool false, .slice none 0 0, .int .i64 0, .int .u64 0, .int .i64 r, .int .u64 n, .int .i64 0, .int .i64 0, .int .u64 0, .int .i64 0, .int .u64 0] 34)).below.mono HB.out.size))
  generalize ((w.alloc (.cells #[.int .i64 r, .int .u64 n] 30)).alloc (.cells #[.int .i64 s, .int .u64 m] 30)).alloc (.cells #[.int .i64 6, .int .u64 0, .int .i64 0, .bool false, .slice none 0 0, .int .i64 0, .int .u64 0, .int .i64 r, .int .u64 n, .int .i64 0, .int .i64 0, .int .u64 0, .int .i64 0, .int .u64 0] 34) = W1 at HA HC HB HF ⊢
  refine (pk_ok r n hc1.out W1 (HR.out.below HB.out) _ HF.out).mono ?_; rintro e w1 ⟨v1, rfl, htx, hb⟩
  replace HA := hide (HA.out.setB hb)
  replace HC := hide (HC.out.setB hb)
  replace HB := hide (HB.out.trans (hb.mono HB.out.size))
  have X1 := hide htx
  clear hb htx HF
  have b0 : w1.cell? ⟨w.heap.size + 1, 0, none⟩ = some (.int .i64 s) := HC.out.cell 0
  have b1 : w1.cell? ⟨w.heap.size + 1, 1, none⟩ = some (.int .u64 m) := HC.out.cell 1
  go_wp2_with fail
  clear b0 b1
  replace HA := hide (HA.out.alloc (.cells #[.int .i64 6, .int .u64 0, .int .i64 0, .bool false, .slice none 0 0, .int .i64 0, .int .u64 0, .int .i64 s, .int .u64 m, .int .i64 0, .int .i64 0, .int .u64 0, .int .i64 0, .int .u64 0] 34))
  replace HC := hide (HC.out.alloc (.cells #[.int .i64 6, .int .u64 0, .int .i64 0, .bool false, .slice none 0 0, .int .i64 0, .int .u64 0, .int .i64 s, .int .u64 m, .int .i64 0, .int .i64 0, .int .u64 0, .int .i64 0, .int .u64 0] 34))
  replace X1 := hide (X1.out.below ((Gr.refl w1).alloc (.cells #[.int .i64 6, .int .u64 0, .int .i64 0, .bool false, .slice none 0 0, .int .i64 0, .int .u64 0, .int .i64 s, .int .u64 m, .int .i64 0, .int .i64 0, .int .u64 0, .int .i64 0, .int .u64 0] 34)).below)
  have HF := hide (IsB.new w1 #[.int .i64 6, .int .u64 0, .int .i64 0, .bool false, .slice none 0 0, .int .i64 0, .int .u64 0, .int .i64 s, .int .u64 m, .int .i64 0, .int .i64 0, .int .u64 0, .int .i64 0, .int .u64 0] 34)
  replace HB := hide (HB.out.trans (((Gr.refl w1).alloc (.cells #[.int .i64 6, .int .u64 0, .int .i64 0, .bool false, .slice none 0 0, .int .i64 0, .int .u64 0, .int .i64 s, .int .u64 m, .int .i64 0, .int .i64 0, .int .u64 0, .int .i64 0, .int .u64 0] 34)).below.mono HB.out.size))
  generalize hU : w1.heap.size = U2 at HF ⊢
  generalize w1.alloc (.cells #[.int .i64 6, .int .u64 0, .int .i64 0, .bool false, .slice none 0 0, .int .i64 0, .int .u64 0, .int .i64 s, .int .u64 m, .int .i64 0, .int .i64 0, .int .u64 0, .int .i64 0, .int .u64 0] 34) = W2 at HA HC HB HF X1 ⊢
  clear hU
  refine (pk_ok s m hc2.out W2 (HR.out.below HB.out) _ HF.out).mono ?_; rintro e w2 ⟨v2, rfl, htx, hb⟩
  replace HA := hide (HA.out.setB hb)
  replace HC := hide (HC.out.setB hb)
  replace HB := hide (HB.out.trans (hb.mono HB.out.size))
  replace X1 := hide (X1.out.below hb)
  have X2 := hide htx
  clear hb htx HF
  have hl0 := (less_ranks s m r n (by rcases ck_ok s m hc2.out with h | h | h <;> omega) (by rcases ck_ok r n hc1.out with h | h | h <;> omega) hx).2.1
  have he0 := (less_ranks s m r n (by rcases ck_ok s m hc2.out with h | h | h <;> omega) (by rcases ck_ok r n hc1.out with h | h | h <;> omega) hx).2.2.2
  obtain ⟨S1, S2, x1, x2, hlt, heq⟩ : ∃ S1 S2 : ByteArray, (∀ p : Bel w2, (convert 25 9 v1).run Tryd.prog p.v = .ok (.string S1) p.v) ∧ (∀ p : Bel w2, (convert 25 9 v2).run Tryd.prog p.v = .ok (.string S2) p.v) ∧ Op.bytesLess S1.toList S2.toList = false ∧ (S1.toList == S2.toList) = false :=
    ⟨⟨(bys (kyb r n)).toArray⟩, ⟨(bys (kyb s m)).toArray⟩, fun p => X1.out p.v p.h, fun p => X2.out p.v p.h, by rw [ByteArray.toList_eq, ByteArray.toList_eq]; exact hl0, by rw [ByteArray.toList_eq, ByteArray.toList_eq]; exact he0⟩
  clear hl0 he0 X1 X2
  have e1 : (r == s) = false := by simp; omega
  have e2 : ¬ r < s := by omega
  have e3 : decide (r < s) = false := by simp; omega
  have a0 : w2.cell? ⟨w.heap.size, 0, none⟩ = some (.int .i64 r) := HA.out.cell 0
  have a1 : w2.cell? ⟨w.heap.size, 1, none⟩ = some (.int .u64 n) := HA.out.cell 1
  have b0 : w2.cell? ⟨w.heap.size + 1, 0, none⟩ = some (.int .i64 s) := HC.out.cell 0
  have b1 : w2.cell? ⟨w.heap.size + 1, 1, none⟩ = some (.int .u64 m) := HC.out.cell 1
  go_wp2
  clear a0 a1 b0 b1
  have a0 : ∀ p : Bel w2, p.v.cell? ⟨w.heap.size, 0, none⟩ = some (.int .i64 r) := bel_cell (HA.out.cell 0)
  have a1 : ∀ p : Bel w2, p.v.cell? ⟨w.heap.size, 1, none⟩ = some (.int .u64 n) := bel_cell (HA.out.cell 1)
  have b0 : ∀ p : Bel w2, p.v.cell? ⟨w.heap.size + 1, 0, none⟩ = some (.int .i64 s) := bel_cell (HC.out.cell 0)
  have b1 : ∀ p : Bel w2, p.v.cell? ⟨w.heap.size + 1, 1, none⟩ = some (.int .u64 m) := bel_cell (HC.out.cell 1)
  have HRW := hide (show ∀ p : Bel w2, Ranks p.v from fun p => (HR.out.below HB.out).below p.h)
  haveI : Inhabited (Bel w2) := ⟨⟨w2, Below.refl _ _⟩⟩
  refine wp_region_bel (by assumption) (by kernel_rfl) ?_
  repeat (quiet_step ((go_at_call 18; exact bel_of _ (alive_any _ (HRW.out _)))))
  refine wpQuiet_nil ?_
  intro _ hw'
  obtain ⟨p, rfl⟩ := hw'
  go_wp2
  go_ret
  exact ⟨rfl, HB.out.trans (p.h.mono HB.out.size)⟩

set_option maxHeartbeats 8000000 in
set_option maxRecDepth 100000 in
theorem packOrder_el (r n s m : Int) (hn0 : 0 ≤ n) (hn : n < 18446744073709551616) (hm0 : 0 ≤ m) (hm : m < 18446744073709551616) (hx : r = s) (hy : n < m) (w : World) (hR : Ranks w) (hc1 : ckE r n = 0) (hc2 : ckE s m = 0) :
    Calls Tryd.prog 7 #[(.agg #[.int .i64 (r), .int .u64 (n)]), (.agg #[.int .i64 (s), .int .u64 (m)])] w fun e w' => e = .returned (.bool true) ∧ RowKit.Below w.heap.size w w' := by
  have mixed : Tryd.prog.follows .mixedOrders = true := by kernel_rfl
  have J0 := (IsB.new w #[.int .i64 r, .int .u64 n] 30).alloc (.cells #[.int .i64 s, .int .u64 m] 30)
  have J1 := IsB.new (w.alloc (.cells #[.int .i64 r, .int .u64 n] 30)) #[.int .i64 s, .int .u64 m] 30
  rw [World.size_alloc] at J1
  have HA := hide J0
  have HC := hide J1
  have HB := hide (show RowKit.Below w.heap.size w ((w.alloc (.cells #[.int .i64 r, .int .u64 n] 30)).alloc (.cells #[.int .i64 s, .int .u64 m] 30)) from (((Gr.refl w).alloc _).alloc _).below)
  have HR := hide hR
  replace hc1 := hide hc1
  replace hc2 := hide hc2
  clear J0 J1 hR
  replace hx := hide hx
  replace hy := hide hy
  go_enter Tryd.func7, Tryd.ntmps7
  go_wp2_with fail
  replace HA := hide (HA.out.alloc (.cells #[.int .i64 6, .int .u64 0, .int .i64 0, .bool false, .slice none 0 0, .int .i64 0, .int .u64 0, .int .i64 r, .int .u64 n, .int .i64 0, .int .i64 0, .int .u64 0, .int .i64 0, .int .u64 0] 34))
  replace HC := hide (HC.out.alloc (.cells #[.int .i64 6, .int .u64 0, .int .i64 0, .bool false, .slice none 0 0, .int .i64 0, .int .u64 0, .int .i64 r, .int .u64 n, .int .i64 0, .int .i64 0, .int .u64 0, .int .i64 0, .int .u64 0] 34))
  have hF := IsB.new ((w.alloc (.cells #[.int .i64 r, .int .u64 n] 30)).alloc (.cells #[.int .i64 s, .int .u64 m] 30)) #[.int .i64 6, .int .u64 0, .int .i64 0, .bool false, .slice none 0 0, .int .i64 0, .int .u64 0, .int .i64 r, .int .u64 n, .int .i64 0, .int .i64 0, .int .u64 0, .int .i64 0, .int .u64 0] 34
  rw [World.size_alloc, World.size_alloc] at hF
  have HF := hide hF
  clear hF
  replace HB := hide (HB.out.trans (((Gr.refl ((w.alloc (.cells #[.int .i64 r, .int .u64 n] 30)).alloc (.cells #[.int .i64 s, .int .u64 m] 30))).alloc (.cells #[.int .i64 6, .int .u64 0, .int .i64 0, .bool false, .slice none 0 0, .int .i64 0, .int .u64 0, .int .i64 r, .int .u64 n, .int .i64 0, .int .i64 0, .int .u64 0, .int .i64 0, .int .u64 0] 34)).below.mono HB.out.size))
  generalize ((w.alloc (.cells #[.int .i64 r, .int .u64 n] 30)).alloc (.cells #[.int .i64 s, .int .u64 m] 30)).alloc (.cells #[.int .i64 6, .int .u64 0, .int .i64 0, .bool false, .slice none 0 0, .int .i64 0, .int .u64 0, .int .i64 r, .int .u64 n, .int .i64 0, .int .i64 0, .int .u64 0, .int .i64 0, .int .u64 0] 34) = W1 at HA HC HB HF ⊢
  refine (pk_ok r n hc1.out W1 (HR.out.below HB.out) _ HF.out).mono ?_; rintro e w1 ⟨v1, rfl, htx, hb⟩
  replace HA := hide (HA.out.setB hb)
  replace HC := hide (HC.out.setB hb)
  replace HB := hide (HB.out.trans (hb.mono HB.out.size))
  have X1 := hide htx
  clear hb htx HF
  have b0 : w1.cell? ⟨w.heap.size + 1, 0, none⟩ = some (.int .i64 s) := HC.out.cell 0
  have b1 : w1.cell? ⟨w.heap.size + 1, 1, none⟩ = some (.int .u64 m) := HC.out.cell 1
  go_wp2_with fail
  clear b0 b1
  replace HA := hide (HA.out.alloc (.cells #[.int .i64 6, .int .u64 0, .int .i64 0, .bool false, .slice none 0 0, .int .i64 0, .int .u64 0, .int .i64 s, .int .u64 m, .int .i64 0, .int .i64 0, .int .u64 0, .int .i64 0, .int .u64 0] 34))
  replace HC := hide (HC.out.alloc (.cells #[.int .i64 6, .int .u64 0, .int .i64 0, .bool false, .slice none 0 0, .int .i64 0, .int .u64 0, .int .i64 s, .int .u64 m, .int .i64 0, .int .i64 0, .int .u64 0, .int .i64 0, .int .u64 0] 34))
  replace X1 := hide (X1.out.below ((Gr.refl w1).alloc (.cells #[.int .i64 6, .int .u64 0, .int .i64 0, .bool false, .slice none 0 0, .int .i64 0, .int .u64 0, .int .i64 s, .int .u64 m, .int .i64 0, .int .i64 0, .int .u64 0, .int .i64 0, .int .u64 0] 34)).below)
  have HF := hide (IsB.new w1 #[.int .i64 6, .int .u64 0, .int .i64 0, .bool false, .slice none 0 0, .int .i64 0, .int .u64 0, .int .i64 s, .int .u64 m, .int .i64 0, .int .i64 0, .int .u64 0, .int .i64 0, .int .u64 0] 34)
  replace HB := hide (HB.out.trans (((Gr.refl w1).alloc (.cells #[.int .i64 6, .int .u64 0, .int .i64 0, .bool false, .slice none 0 0, .int .i64 0, .int .u64 0, .int .i64 s, .int .u64 m, .int .i64 0, .int .i64 0, .int .u64 0, .int .i64 0, .int .u64 0] 34)).below.mono HB.out.size))
  generalize hU : w1.heap.size = U2 at HF ⊢
  generalize w1.alloc (.cells #[.int .i64 6, .int .u64 0, .int .i64 0, .bool false, .slice none 0 0, .int .i64 0, .int .u64 0, .int .i64 s, .int .u64 m, .int .i64 0, .int .i64 0, .int .u64 0, .int .i64 0, .int .u64 0] 34) = W2 at HA HC HB HF X1 ⊢
  clear hU
  refine (pk_ok s m hc2.out W2 (HR.out.below HB.out) _ HF.out).mono ?_; rintro e w2 ⟨v2, rfl, htx, hb⟩
  replace HA := hide (HA.out.setB hb)
  replace HC := hide (HC.out.setB hb)
  replace HB := hide (HB.out.trans (hb.mono HB.out.size))
  replace X1 := hide (X1.out.below hb)
  have X2 := hide htx
  clear hb htx HF
  have hl0 := (less_eq r n s m hn0 hn hm0 hm hc1.out hc2.out hx.out).1.trans (show decide (n < m) = true from by have := hy.out; simp; omega)
  have he0 := (less_eq r n s m hn0 hn hm0 hm hc1.out hc2.out hx.out).2.trans (show decide (n = m) = false from by have := hy.out; simp; omega)
  obtain ⟨S1, S2, x1, x2, hlt, heq⟩ : ∃ S1 S2 : ByteArray, (∀ p : Bel w2, (convert 25 9 v1).run Tryd.prog p.v = .ok (.string S1) p.v) ∧ (∀ p : Bel w2, (convert 25 9 v2).run Tryd.prog p.v = .ok (.string S2) p.v) ∧ Op.bytesLess S1.toList S2.toList = true ∧ (S1.toList == S2.toList) = false :=
    ⟨⟨(bys (kyb r n)).toArray⟩, ⟨(bys (kyb s m)).toArray⟩, fun p => X1.out p.v p.h, fun p => X2.out p.v p.h, by rw [ByteArray.toList_eq, ByteArray.toList_eq]; exact hl0, by rw [ByteArray.toList_eq, ByteArray.toList_eq]; exact he0⟩
  clear hl0 he0 X1 X2
  have e1 : (r == s) = true := by have := hx.out; simp; omega
  have e2 : ¬ r < s := by have := hx.out; omega
  have e3 : decide (r < s) = false := by have := hx.out; simp; omega
  have e4 : (n == m) = false := by have := hy.out; simp; omega
  have e5 : n < m := hy.out
  have e6 : decide (n < m) = true := by simpa using hy.out
  have a0 : w2.cell? ⟨w.heap.size, 0, none⟩ = some (.int .i64 r) := HA.out.cell 0
  have a1 : w2.cell? ⟨w.heap.size, 1, none⟩ = some (.int .u64 n) := HA.out.cell 1
  have b0 : w2.cell? ⟨w.heap.size + 1, 0, none⟩ = some (.int .i64 s) := HC.out.cell 0
  have b1 : w2.cell? ⟨w.heap.size + 1, 1, none⟩ = some (.int .u64 m) := HC.out.cell 1
  go_wp2
  clear a0 a1 b0 b1
  have a0 : ∀ p : Bel w2, p.v.cell? ⟨w.heap.size, 0, none⟩ = some (.int .i64 r) := bel_cell (HA.out.cell 0)
  have a1 : ∀ p : Bel w2, p.v.cell? ⟨w.heap.size, 1, none⟩ = some (.int .u64 n) := bel_cell (HA.out.cell 1)
  have b0 : ∀ p : Bel w2, p.v.cell? ⟨w.heap.size + 1, 0, none⟩ = some (.int .i64 s) := bel_cell (HC.out.cell 0)
  have b1 : ∀ p : Bel w2, p.v.cell? ⟨w.heap.size + 1, 1, none⟩ = some (.int .u64 m) := bel_cell (HC.out.cell 1)
  have HRW := hide (show ∀ p : Bel w2, Ranks p.v from fun p => (HR.out.below HB.out).below p.h)
  haveI : Inhabited (Bel w2) := ⟨⟨w2, Below.refl _ _⟩⟩
  refine wp_region_bel (by assumption) (by kernel_rfl) ?_
  repeat (quiet_step ((go_at_call 18; exact bel_of _ (alive_any _ (HRW.out _)))))
  refine wpQuiet_nil ?_
  intro _ hw'
  obtain ⟨p, rfl⟩ := hw'
  go_wp2
  go_ret
  exact ⟨rfl, HB.out.trans (p.h.mono HB.out.size)⟩

set_option maxHeartbeats 8000000 in
set_option maxRecDepth 100000 in
theorem packOrder_ee (r n s m : Int) (hn0 : 0 ≤ n) (hn : n < 18446744073709551616) (hm0 : 0 ≤ m) (hm : m < 18446744073709551616) (hx : r = s) (hy : n = m) (w : World) (hR : Ranks w) (hc1 : ckE r n = 0) (hc2 : ckE s m = 0) :
    Calls Tryd.prog 7 #[(.agg #[.int .i64 (r), .int .u64 (n)]), (.agg #[.int .i64 (s), .int .u64 (m)])] w fun e w' => e = .returned (.bool true) ∧ RowKit.Below w.heap.size w w' := by
  have mixed : Tryd.prog.follows .mixedOrders = true := by kernel_rfl
  have J0 := (IsB.new w #[.int .i64 r, .int .u64 n] 30).alloc (.cells #[.int .i64 s, .int .u64 m] 30)
  have J1 := IsB.new (w.alloc (.cells #[.int .i64 r, .int .u64 n] 30)) #[.int .i64 s, .int .u64 m] 30
  rw [World.size_alloc] at J1
  have HA := hide J0
  have HC := hide J1
  have HB := hide (show RowKit.Below w.heap.size w ((w.alloc (.cells #[.int .i64 r, .int .u64 n] 30)).alloc (.cells #[.int .i64 s, .int .u64 m] 30)) from (((Gr.refl w).alloc _).alloc _).below)
  have HR := hide hR
  replace hc1 := hide hc1
  replace hc2 := hide hc2
  clear J0 J1 hR
  replace hx := hide hx
  replace hy := hide hy
  go_enter Tryd.func7, Tryd.ntmps7
  go_wp2_with fail
  replace HA := hide (HA.out.alloc (.cells #[.int .i64 6, .int .u64 0, .int .i64 0, .bool false, .slice none 0 0, .int .i64 0, .int .u64 0, .int .i64 r, .int .u64 n, .int .i64 0, .int .i64 0, .int .u64 0, .int .i64 0, .int .u64 0] 34))
  replace HC := hide (HC.out.alloc (.cells #[.int .i64 6, .int .u64 0, .int .i64 0, .bool false, .slice none 0 0, .int .i64 0, .int .u64 0, .int .i64 r, .int .u64 n, .int .i64 0, .int .i64 0, .int .u64 0, .int .i64 0, .int .u64 0] 34))
  have hF := IsB.new ((w.alloc (.cells #[.int .i64 r, .int .u64 n] 30)).alloc (.cells #[.int .i64 s, .int .u64 m] 30)) #[.int .i64 6, .int .u64 0, .int .i64 0, .bool false, .slice none 0 0, .int .i64 0, .int .u64 0, .int .i64 r, .int .u64 n, .int .i64 0, .int .i64 0, .int .u64 0, .int .i64 0, .int .u64 0] 34
  rw [World.size_alloc, World.size_alloc] at hF
  have HF := hide hF
  clear hF
  replace HB := hide (HB.out.trans (((Gr.refl ((w.alloc (.cells #[.int .i64 r, .int .u64 n] 30)).alloc (.cells #[.int .i64 s, .int .u64 m] 30))).alloc (.cells #[.int .i64 6, .int .u64 0, .int .i64 0, .bool false, .slice none 0 0, .int .i64 0, .int .u64 0, .int .i64 r, .int .u64 n, .int .i64 0, .int .i64 0, .int .u64 0, .int .i64 0, .int .u64 0] 34)).below.mono HB.out.size))
  generalize ((w.alloc (.cells #[.int .i64 r, .int .u64 n] 30)).alloc (.cells #[.int .i64 s, .int .u64 m] 30)).alloc (.cells #[.int .i64 6, .int .u64 0, .int .i64 0, .bool false, .slice none 0 0, .int .i64 0, .int .u64 0, .int .i64 r, .int .u64 n, .int .i64 0, .int .i64 0, .int .u64 0, .int .i64 0, .int .u64 0] 34) = W1 at HA HC HB HF ⊢
  refine (pk_ok r n hc1.out W1 (HR.out.below HB.out) _ HF.out).mono ?_; rintro e w1 ⟨v1, rfl, htx, hb⟩
  replace HA := hide (HA.out.setB hb)
  replace HC := hide (HC.out.setB hb)
  replace HB := hide (HB.out.trans (hb.mono HB.out.size))
  have X1 := hide htx
  clear hb htx HF
  have b0 : w1.cell? ⟨w.heap.size + 1, 0, none⟩ = some (.int .i64 s) := HC.out.cell 0
  have b1 : w1.cell? ⟨w.heap.size + 1, 1, none⟩ = some (.int .u64 m) := HC.out.cell 1
  go_wp2_with fail
  clear b0 b1
  replace HA := hide (HA.out.alloc (.cells #[.int .i64 6, .int .u64 0, .int .i64 0, .bool false, .slice none 0 0, .int .i64 0, .int .u64 0, .int .i64 s, .int .u64 m, .int .i64 0, .int .i64 0, .int .u64 0, .int .i64 0, .int .u64 0] 34))
  replace HC := hide (HC.out.alloc (.cells #[.int .i64 6, .int .u64 0, .int .i64 0, .bool false, .slice none 0 0, .int .i64 0, .int .u64 0, .int .i64 s, .int .u64 m, .int .i64 0, .int .i64 0, .int .u64 0, .int .i64 0, .int .u64 0] 34))
  replace X1 := hide (X1.out.below ((Gr.refl w1).alloc (.cells #[.int .i64 6, .int .u64 0, .int .i64 0, .bool false, .slice none 0 0, .int .i64 0, .int .u64 0, .int .i64 s, .int .u64 m, .int .i64 0, .int .i64 0, .int .u64 0, .int .i64 0, .int .u64 0] 34)).below)
  have HF := hide (IsB.new w1 #[.int .i64 6, .int .u64 0, .int .i64 0, .bool false, .slice none 0 0, .int .i64 0, .int .u64 0, .int .i64 s, .int .u64 m, .int .i64 0, .int .i64 0, .int .u64 0, .int .i64 0, .int .u64 0] 34)
  replace HB := hide (HB.out.trans (((Gr.refl w1).alloc (.cells #[.int .i64 6, .int .u64 0, .int .i64 0, .bool false, .slice none 0 0, .int .i64 0, .int .u64 0, .int .i64 s, .int .u64 m, .int .i64 0, .int .i64 0, .int .u64 0, .int .i64 0, .int .u64 0] 34)).below.mono HB.out.size))
  generalize hU : w1.heap.size = U2 at HF ⊢
  generalize w1.alloc (.cells #[.int .i64 6, .int .u64 0, .int .i64 0, .bool false, .slice none 0 0, .int .i64 0, .int .u64 0, .int .i64 s, .int .u64 m, .int .i64 0, .int .i64 0, .int .u64 0, .int .i64 0, .int .u64 0] 34) = W2 at HA HC HB HF X1 ⊢
  clear hU
  refine (pk_ok s m hc2.out W2 (HR.out.below HB.out) _ HF.out).mono ?_; rintro e w2 ⟨v2, rfl, htx, hb⟩
  replace HA := hide (HA.out.setB hb)
  replace HC := hide (HC.out.setB hb)
  replace HB := hide (HB.out.trans (hb.mono HB.out.size))
  replace X1 := hide (X1.out.below hb)
  have X2 := hide htx
  clear hb htx HF
  have hl0 := (less_eq r n s m hn0 hn hm0 hm hc1.out hc2.out hx.out).1.trans (show decide (n < m) = false from by have := hy.out; simp; omega)
  have he0 := (less_eq r n s m hn0 hn hm0 hm hc1.out hc2.out hx.out).2.trans (show decide (n = m) = true from by have := hy.out; simp; omega)
  obtain ⟨S1, S2, x1, x2, hlt, heq⟩ : ∃ S1 S2 : ByteArray, (∀ p : Bel w2, (convert 25 9 v1).run Tryd.prog p.v = .ok (.string S1) p.v) ∧ (∀ p : Bel w2, (convert 25 9 v2).run Tryd.prog p.v = .ok (.string S2) p.v) ∧ Op.bytesLess S1.toList S2.toList = false ∧ (S1.toList == S2.toList) = true :=
    ⟨⟨(bys (kyb r n)).toArray⟩, ⟨(bys (kyb s m)).toArray⟩, fun p => X1.out p.v p.h, fun p => X2.out p.v p.h, by rw [ByteArray.toList_eq, ByteArray.toList_eq]; exact hl0, by rw [ByteArray.toList_eq, ByteArray.toList_eq]; exact he0⟩
  clear hl0 he0 X1 X2
  have e1 : (r == s) = true := by have := hx.out; simp; omega
  have e2 : ¬ r < s := by have := hx.out; omega
  have e3 : decide (r < s) = false := by have := hx.out; simp; omega
  have e4 : (n == m) = true := by have := hy.out; simp; omega
  have e5 : ¬ n < m := by have := hy.out; omega
  have e6 : decide (n < m) = false := by have := hy.out; simp; omega
  have a0 : w2.cell? ⟨w.heap.size, 0, none⟩ = some (.int .i64 r) := HA.out.cell 0
  have a1 : w2.cell? ⟨w.heap.size, 1, none⟩ = some (.int .u64 n) := HA.out.cell 1
  have b0 : w2.cell? ⟨w.heap.size + 1, 0, none⟩ = some (.int .i64 s) := HC.out.cell 0
  have b1 : w2.cell? ⟨w.heap.size + 1, 1, none⟩ = some (.int .u64 m) := HC.out.cell 1
  go_wp2
  clear a0 a1 b0 b1
  have a0 : ∀ p : Bel w2, p.v.cell? ⟨w.heap.size, 0, none⟩ = some (.int .i64 r) := bel_cell (HA.out.cell 0)
  have a1 : ∀ p : Bel w2, p.v.cell? ⟨w.heap.size, 1, none⟩ = some (.int .u64 n) := bel_cell (HA.out.cell 1)
  have b0 : ∀ p : Bel w2, p.v.cell? ⟨w.heap.size + 1, 0, none⟩ = some (.int .i64 s) := bel_cell (HC.out.cell 0)
  have b1 : ∀ p : Bel w2, p.v.cell? ⟨w.heap.size + 1, 1, none⟩ = some (.int .u64 m) := bel_cell (HC.out.cell 1)
  have HRW := hide (show ∀ p : Bel w2, Ranks p.v from fun p => (HR.out.below HB.out).below p.h)
  haveI : Inhabited (Bel w2) := ⟨⟨w2, Below.refl _ _⟩⟩
  refine wp_region_bel (by assumption) (by kernel_rfl) ?_
  repeat (quiet_step ((go_at_call 18; exact bel_of _ (alive_any _ (HRW.out _)))))
  refine wpQuiet_nil ?_
  intro _ hw'
  obtain ⟨p, rfl⟩ := hw'
  go_wp2
  go_ret
  exact ⟨rfl, HB.out.trans (p.h.mono HB.out.size)⟩

set_option maxHeartbeats 8000000 in
set_option maxRecDepth 100000 in
theorem packOrder_eg (r n s m : Int) (hn0 : 0 ≤ n) (hn : n < 18446744073709551616) (hm0 : 0 ≤ m) (hm : m < 18446744073709551616) (hx : r = s) (hy : m < n) (w : World) (hR : Ranks w) (hc1 : ckE r n = 0) (hc2 : ckE s m = 0) :
    Calls Tryd.prog 7 #[(.agg #[.int .i64 (r), .int .u64 (n)]), (.agg #[.int .i64 (s), .int .u64 (m)])] w fun e w' => e = .returned (.bool true) ∧ RowKit.Below w.heap.size w w' := by
  have mixed : Tryd.prog.follows .mixedOrders = true := by kernel_rfl
  have J0 := (IsB.new w #[.int .i64 r, .int .u64 n] 30).alloc (.cells #[.int .i64 s, .int .u64 m] 30)
  have J1 := IsB.new (w.alloc (.cells #[.int .i64 r, .int .u64 n] 30)) #[.int .i64 s, .int .u64 m] 30
  rw [World.size_alloc] at J1
  have HA := hide J0
  have HC := hide J1
  have HB := hide (show RowKit.Below w.heap.size w ((w.alloc (.cells #[.int .i64 r, .int .u64 n] 30)).alloc (.cells #[.int .i64 s, .int .u64 m] 30)) from (((Gr.refl w).alloc _).alloc _).below)
  have HR := hide hR
  replace hc1 := hide hc1
  replace hc2 := hide hc2
  clear J0 J1 hR
  replace hx := hide hx
  replace hy := hide hy
  go_enter Tryd.func7, Tryd.ntmps7
  go_wp2_with fail
  replace HA := hide (HA.out.alloc (.cells #[.int .i64 6, .int .u64 0, .int .i64 0, .bool false, .slice none 0 0, .int .i64 0, .int .u64 0, .int .i64 r, .int .u64 n, .int .i64 0, .int .i64 0, .int .u64 0, .int .i64 0, .int .u64 0] 34))
  replace HC := hide (HC.out.alloc (.cells #[.int .i64 6, .int .u64 0, .int .i64 0, .bool false, .slice none 0 0, .int .i64 0, .int .u64 0, .int .i64 r, .int .u64 n, .int .i64 0, .int .i64 0, .int .u64 0, .int .i64 0, .int .u64 0] 34))
  have hF := IsB.new ((w.alloc (.cells #[.int .i64 r, .int .u64 n] 30)).alloc (.cells #[.int .i64 s, .int .u64 m] 30)) #[.int .i64 6, .int .u64 0, .int .i64 0, .bool false, .slice none 0 0, .int .i64 0, .int .u64 0, .int .i64 r, .int .u64 n, .int .i64 0, .int .i64 0, .int .u64 0, .int .i64 0, .int .u64 0] 34
  rw [World.size_alloc, World.size_alloc] at hF
  have HF := hide hF
  clear hF
  replace HB := hide (HB.out.trans (((Gr.refl ((w.alloc (.cells #[.int .i64 r, .int .u64 n] 30)).alloc (.cells #[.int .i64 s, .int .u64 m] 30))).alloc (.cells #[.int .i64 6, .int .u64 0, .int .i64 0, .bool false, .slice none 0 0, .int .i64 0, .int .u64 0, .int .i64 r, .int .u64 n, .int .i64 0, .int .i64 0, .int .u64 0, .int .i64 0, .int .u64 0] 34)).below.mono HB.out.size))
  generalize ((w.alloc (.cells #[.int .i64 r, .int .u64 n] 30)).alloc (.cells #[.int .i64 s, .int .u64 m] 30)).alloc (.cells #[.int .i64 6, .int .u64 0, .int .i64 0, .bool false, .slice none 0 0, .int .i64 0, .int .u64 0, .int .i64 r, .int .u64 n, .int .i64 0, .int .i64 0, .int .u64 0, .int .i64 0, .int .u64 0] 34) = W1 at HA HC HB HF ⊢
  refine (pk_ok r n hc1.out W1 (HR.out.below HB.out) _ HF.out).mono ?_; rintro e w1 ⟨v1, rfl, htx, hb⟩
  replace HA := hide (HA.out.setB hb)
  replace HC := hide (HC.out.setB hb)
  replace HB := hide (HB.out.trans (hb.mono HB.out.size))
  have X1 := hide htx
  clear hb htx HF
  have b0 : w1.cell? ⟨w.heap.size + 1, 0, none⟩ = some (.int .i64 s) := HC.out.cell 0
  have b1 : w1.cell? ⟨w.heap.size + 1, 1, none⟩ = some (.int .u64 m) := HC.out.cell 1
  go_wp2_with fail
  clear b0 b1
  replace HA := hide (HA.out.alloc (.cells #[.int .i64 6, .int .u64 0, .int .i64 0, .bool false, .slice none 0 0, .int .i64 0, .int .u64 0, .int .i64 s, .int .u64 m, .int .i64 0, .int .i64 0, .int .u64 0, .int .i64 0, .int .u64 0] 34))
  replace HC := hide (HC.out.alloc (.cells #[.int .i64 6, .int .u64 0, .int .i64 0, .bool false, .slice none 0 0, .int .i64 0, .int .u64 0, .int .i64 s, .int .u64 m, .int .i64 0, .int .i64 0, .int .u64 0, .int .i64 0, .int .u64 0] 34))
  replace X1 := hide (X1.out.below ((Gr.refl w1).alloc (.cells #[.int .i64 6, .int .u64 0, .int .i64 0, .bool false, .slice none 0 0, .int .i64 0, .int .u64 0, .int .i64 s, .int .u64 m, .int .i64 0, .int .i64 0, .int .u64 0, .int .i64 0, .int .u64 0] 34)).below)
  have HF := hide (IsB.new w1 #[.int .i64 6, .int .u64 0, .int .i64 0, .bool false, .slice none 0 0, .int .i64 0, .int .u64 0, .int .i64 s, .int .u64 m, .int .i64 0, .int .i64 0, .int .u64 0, .int .i64 0, .int .u64 0] 34)
  replace HB := hide (HB.out.trans (((Gr.refl w1).alloc (.cells #[.int .i64 6, .int .u64 0, .int .i64 0, .bool false, .slice none 0 0, .int .i64 0, .int .u64 0, .int .i64 s, .int .u64 m, .int .i64 0, .int .i64 0, .int .u64 0, .int .i64 0, .int .u64 0] 34)).below.mono HB.out.size))
  generalize hU : w1.heap.size = U2 at HF ⊢
  generalize w1.alloc (.cells #[.int .i64 6, .int .u64 0, .int .i64 0, .bool false, .slice none 0 0, .int .i64 0, .int .u64 0, .int .i64 s, .int .u64 m, .int .i64 0, .int .i64 0, .int .u64 0, .int .i64 0, .int .u64 0] 34) = W2 at HA HC HB HF X1 ⊢
  clear hU
  refine (pk_ok s m hc2.out W2 (HR.out.below HB.out) _ HF.out).mono ?_; rintro e w2 ⟨v2, rfl, htx, hb⟩
  replace HA := hide (HA.out.setB hb)
  replace HC := hide (HC.out.setB hb)
  replace HB := hide (HB.out.trans (hb.mono HB.out.size))
  replace X1 := hide (X1.out.below hb)
  have X2 := hide htx
  clear hb htx HF
  have hl0 := (less_eq r n s m hn0 hn hm0 hm hc1.out hc2.out hx.out).1.trans (show decide (n < m) = false from by have := hy.out; simp; omega)
  have he0 := (less_eq r n s m hn0 hn hm0 hm hc1.out hc2.out hx.out).2.trans (show decide (n = m) = false from by have := hy.out; simp; omega)
  obtain ⟨S1, S2, x1, x2, hlt, heq⟩ : ∃ S1 S2 : ByteArray, (∀ p : Bel w2, (convert 25 9 v1).run Tryd.prog p.v = .ok (.string S1) p.v) ∧ (∀ p : Bel w2, (convert 25 9 v2).run Tryd.prog p.v = .ok (.string S2) p.v) ∧ Op.bytesLess S1.toList S2.toList = false ∧ (S1.toList == S2.toList) = false :=
    ⟨⟨(bys (kyb r n)).toArray⟩, ⟨(bys (kyb s m)).toArray⟩, fun p => X1.out p.v p.h, fun p => X2.out p.v p.h, by rw [ByteArray.toList_eq, ByteArray.toList_eq]; exact hl0, by rw [ByteArray.toList_eq, ByteArray.toList_eq]; exact he0⟩
  clear hl0 he0 X1 X2
  have e1 : (r == s) = true := by have := hx.out; simp; omega
  have e2 : ¬ r < s := by have := hx.out; omega
  have e3 : decide (r < s) = false := by have := hx.out; simp; omega
  have e4 : (n == m) = false := by have := hy.out; simp; omega
  have e5 : ¬ n < m := by have := hy.out; omega
  have e6 : decide (n < m) = false := by have := hy.out; simp; omega
  have a0 : w2.cell? ⟨w.heap.size, 0, none⟩ = some (.int .i64 r) := HA.out.cell 0
  have a1 : w2.cell? ⟨w.heap.size, 1, none⟩ = some (.int .u64 n) := HA.out.cell 1
  have b0 : w2.cell? ⟨w.heap.size + 1, 0, none⟩ = some (.int .i64 s) := HC.out.cell 0
  have b1 : w2.cell? ⟨w.heap.size + 1, 1, none⟩ = some (.int .u64 m) := HC.out.cell 1
  go_wp2
  clear a0 a1 b0 b1
  have a0 : ∀ p : Bel w2, p.v.cell? ⟨w.heap.size, 0, none⟩ = some (.int .i64 r) := bel_cell (HA.out.cell 0)
  have a1 : ∀ p : Bel w2, p.v.cell? ⟨w.heap.size, 1, none⟩ = some (.int .u64 n) := bel_cell (HA.out.cell 1)
  have b0 : ∀ p : Bel w2, p.v.cell? ⟨w.heap.size + 1, 0, none⟩ = some (.int .i64 s) := bel_cell (HC.out.cell 0)
  have b1 : ∀ p : Bel w2, p.v.cell? ⟨w.heap.size + 1, 1, none⟩ = some (.int .u64 m) := bel_cell (HC.out.cell 1)
  have HRW := hide (show ∀ p : Bel w2, Ranks p.v from fun p => (HR.out.below HB.out).below p.h)
  haveI : Inhabited (Bel w2) := ⟨⟨w2, Below.refl _ _⟩⟩
  refine wp_region_bel (by assumption) (by kernel_rfl) ?_
  repeat (quiet_step ((go_at_call 18; exact bel_of _ (alive_any _ (HRW.out _)))))
  refine wpQuiet_nil ?_
  intro _ hw'
  obtain ⟨p, rfl⟩ := hw'
  go_wp2
  go_ret
  exact ⟨rfl, HB.out.trans (p.h.mono HB.out.size)⟩

theorem packOrder_any (r n s m : Int) (hn0 : 0 ≤ n) (hn : n < 18446744073709551616) (hm0 : 0 ≤ m) (hm : m < 18446744073709551616) (w : World) (hR : Ranks w) :
    Calls Tryd.prog 7 #[(.agg #[.int .i64 (r), .int .u64 (n)]), (.agg #[.int .i64 (s), .int .u64 (m)])] w fun e w' => e = .returned (.bool true) ∧ RowKit.Below w.heap.size w w' := by
  rcases ck_two r n with h1 | h1 <;> rcases ck_two s m with h2 | h2
  · rcases Int.lt_trichotomy r s with hx | hx | hx
    · exact packOrder_lt r n s m hx w hR h1 h2
    · rcases Int.lt_trichotomy n m with hy | hy | hy
      · exact packOrder_el r n s m hn0 hn hm0 hm hx hy w hR h1 h2
      · exact packOrder_ee r n s m hn0 hn hm0 hm hx hy w hR h1 h2
      · exact packOrder_eg r n s m hn0 hn hm0 hm hx hy w hR h1 h2
    · exact packOrder_gt r n s m hx w hR h1 h2
  · exact packOrder_ob r n s m w hR h1 h2
  · exact packOrder_bo r n s m w hR h1 h2
  · exact packOrder_bb r n s m w hR h1 h2

end Go.Proofs.YtcjkgeanofggdaaDoor
