/- The document's sorted: one after another is put in at its place. -/
import Derived.Test.YtifmbcfdhjhacaaDoorNA
namespace Go.Proofs.YtifmbcfdhjhacaaDoor
open Go.RowKit Go.Maps Go.ChangeMaps

def hdV (a : Option Addr) (q c : Nat) : Value := sliced a 0 q c 5
def tlV (a : Option Addr) (q n c : Nat) : Value := sliced a q n c 5
theorem sl_head (a : Option Addr) (n c q : Nat) (hq : q ≤ c) (w : World) : (Instr.slice 25 (.slice a n c) none (some (.int .i64 (q : Int))) none).run Tryd.prog w = .ok (hdV a q c) w := by
  rw [run_slice_h w 25 a n c (by kernel_rfl) .i64 (q : Int) (by omega) (by omega)]
  rw [show Tryd.prog.elem 25 = 40 by kernel_rfl]
  simp [Tryd.sizeOf40, Result.andThen, hdV]
theorem sl_tail (a : Option Addr) (n c q : Nat) (hq : q ≤ n) (w : World) : (Instr.slice 25 (.slice a n c) (some (.int .i64 (q : Int))) none none).run Tryd.prog w = .ok (tlV a q n c) w := by
  rw [run_slice_l w 25 a n c (by kernel_rfl) .i64 (q : Int) (by omega) (by omega)]
  rw [show Tryd.prog.elem 25 = 40 by kernel_rfl]
  simp [Tryd.sizeOf40, Result.andThen, tlV]
theorem exec_slice {t : TypeId} {x : Operand} {lo hi mx : Option Operand} {oi : Oper} {ρ : Operand → Value} {v : Value} {w : World} (hop : oi.op = Op.slice t x lo hi mx) (hu : Tryd.prog.underlying t = some (.slice (Tryd.prog.elem t))) (hl : (Instr.slice t (ρ x) (lo.map ρ) (hi.map ρ) (mx.map ρ)).run Tryd.prog w = .ok v w) : (execOp ρ oi).run Tryd.prog w = .ok (.value v) w := by
  have h2 := run_sliceAt_slice (P := Tryd.prog) w t (ρ x) (lo.map ρ) (hi.map ρ) (mx.map ρ) hu
  rw [hl] at h2
  simp [execOp, hop, h2, Result.andThen]
/-- The first ones, and the last ones, as an append's source. -/
theorem Gr5.head {base : Nat} {w : World} {a : Option Addr} {n c : Nat} {m : List Rf} (h : Gr5 base w (.slice a n c) m) (q : Nat) (hq : q ≤ m.length) : (∃ b d, hdV a q c = .slice (some b) (m.take q).length d ∧ ∀ j u, ((m.take q).map Rf.cs).flatten[j]? = some u → w.cell? (b.add j) = some u) ∨ (hdV a q c = .slice none 0 0 ∧ (m.take q).length = 0) := by
  have hl : (m.take q).length = q := by rw [List.length_take]; omega
  rw [hl]
  rcases h.row.2 with ⟨hv, h0⟩ | ⟨g, cap, cur, hv, hg, h1, h2, h3⟩
  · simp only [Value.slice.injEq] at hv
    obtain ⟨rfl, rfl, rfl⟩ := hv
    rw [List.length_map] at h0
    have : q = 0 := by omega
    subst this
    exact Or.inr ⟨rfl, rfl⟩
  · simp only [Value.slice.injEq] at hv
    obtain ⟨rfl, rfl, rfl⟩ := hv
    refine Or.inl ⟨⟨g, 0, none⟩, c, ?_, ?_⟩
    · unfold hdV sliced
      simp [gadd]
    · rw [List.map_take]
      exact Rg.srcTake h q
theorem Gr5.tail {base : Nat} {w : World} {a : Option Addr} {n c : Nat} {m : List Rf} (h : Gr5 base w (.slice a n c) m) (q : Nat) (hq : q ≤ m.length) : (∃ b d, tlV a q m.length c = .slice (some b) (m.drop q).length d ∧ ∀ j u, ((m.drop q).map Rf.cs).flatten[j]? = some u → w.cell? (b.add j) = some u) ∨ (tlV a q m.length c = .slice none 0 0 ∧ (m.drop q).length = 0) := by
  rw [List.length_drop]
  rcases h.row.2 with ⟨hv, h0⟩ | ⟨g, cap, cur, hv, hg, h1, h2, h3⟩
  · simp only [Value.slice.injEq] at hv
    obtain ⟨rfl, rfl, rfl⟩ := hv
    rw [List.length_map] at h0
    have : q = 0 := by omega
    subst this
    exact Or.inr ⟨by unfold tlV sliced; simp [h0], by omega⟩
  · simp only [Value.slice.injEq] at hv
    obtain ⟨rfl, rfl, rfl⟩ := hv
    rw [List.length_map] at h1
    by_cases hc : c = q
    · have hz : m.length - q = 0 := by omega
      refine Or.inl ⟨⟨g, 0, none⟩, c - q, ?_, ?_⟩
      · unfold tlV sliced
        rw [if_pos hc]
      · have : m.drop q = [] := List.drop_eq_nil_of_le (by omega)
        rw [this]
        intro j u hu
        simp at hu
    · refine Or.inl ⟨⟨g, q * 5, none⟩, c - q, ?_, ?_⟩
      · unfold tlV sliced
        rw [if_neg hc]
        simp [gadd]
      · rw [List.map_drop]
        exact Rg.srcDrop h q
/-- What is behind the copy of the first ones and the new one: one appended, then the last ones. -/
theorem ins_end {base : Nat} {w1 w2 : World} {a : Option Addr} {n c q : Nat} {m : List Rf} (z : Rf) (h : Gr5 base w1 (.slice a n c) m) (hq : q ≤ m.length) (hlen : m.length ≤ 10000) {G : Nat} (hG : w1.heap.size ≤ G) (hb : Below w1.heap.size w1 w2) {ea : Option Addr} {ec gz : Nat} (hE : Gr5 G w2 (.slice ea q ec) (m.take q)) (hz : IsB w2 gz z.cells 40) (hG2 : G ≤ w2.heap.size) :
    ∃ ra rc w3, (Builtin.append_ #[25, 25] 25 #[.slice ea q ec, .slice (some ⟨gz, 0, none⟩) 1 1]).run Tryd.prog w2 = .ok (.slice ra (q + 1) rc) w3 ∧ Below w1.heap.size w1 w3 ∧ ∃ sa sc w4, (Builtin.append_ #[25, 25] 25 #[.slice ra (q + 1) rc, tlV a q m.length c]).run Tryd.prog w3 = .ok (.slice sa (m.length + 1) sc) w4 ∧ Gr5 G w4 (.slice sa (m.length + 1) sc) (m.take q ++ z :: m.drop q) ∧ Below w1.heap.size w1 w4 := by
  have hl : (m.take q).length = q := by rw [List.length_take]; omega
  obtain ⟨ra, rc, w3, r1, r2, r3⟩ := Rg.push ty_ref (by omega) hE z.cs rfl ((es_rfs [z]).one z.cs (by simp)) gz 1 hz (by simp; omega) hG2 25
  have b3 : Below w1.heap.size w1 w3 := hb.trans (r3.to_below hb.size (fun k hk => Nat.le_trans hG (hE.new k (by simpa using hk))))
  have h3 : Gr5 base w3 (.slice a n c) m := h.below b3
  rw [List.length_map, hl] at r1 r2
  have hsz : G ≤ w3.heap.size := Nat.le_trans hG2 r3.size
  have ht := h3.tail q hq
  have hd : ((m.drop q).map Rf.cs).length = (m.drop q).length := by simp
  rw [← hd] at ht
  obtain ⟨sa, sc, w4, s1, s2, s3⟩ := Rg.app ty_ref (by omega) r2 (tlV a q m.length c) ((m.drop q).map Rf.cs) (es_rfs _) ht (by simp; omega) hsz 25
  have e : (List.map Rf.cs (List.take q m) ++ [z.cs]).length + (List.map Rf.cs (List.drop q m)).length = m.length + 1 := by simp; omega
  have e2 : (List.map Rf.cs (List.take q m) ++ [z.cs]).length = q + 1 := by simp; omega
  rw [e] at s1 s2
  refine ⟨ra, rc, w3, r1, b3, sa, sc, w4, s1, ?_, b3.trans (s3.to_below b3.size (fun k hk => Nat.le_trans hG (r2.new k (by simpa using hk))))⟩
  unfold Gr5
  simpa using s2
/-- The copy of the first ones. -/
theorem ins_copy {base : Nat} {w1 w2 : World} {a : Option Addr} {n c q : Nat} {m : List Rf} (h : Gr5 base w1 (.slice a n c) m) (hq : q ≤ m.length) (hlen : m.length ≤ 10000) (hb : Below w1.heap.size w1 w2) {ge : Nat} (hE : IsB w2 ge #[] 40) (hge : w1.heap.size ≤ ge) :
    ∃ ea ec w3, (Builtin.append_ #[25, 25] 25 #[.slice (some ⟨ge, 0, none⟩) 0 0, hdV a q c]).run Tryd.prog w2 = .ok (.slice ea q ec) w3 ∧ Gr5 w1.heap.size w3 (.slice ea q ec) (m.take q) ∧ Kp [ge] w2 w3 := by
  have hl : (m.take q).length = q := by rw [List.length_take]; omega
  have hR : Rg 40 5 w1.heap.size w2 (.slice (some ⟨ge, 0, none⟩) 0 0) [] := ⟨⟨by simp, Or.inr ⟨ge, 0, #[], rfl, hE, Nat.le_refl _, by unfold maxLen; omega, by simp, by simp⟩⟩, Es.nil 5, fun j hj => by have := Option.some.inj (show some ge = some j from hj); omega⟩
  have ht := (h.below hb).head q hq
  have hd : ((m.take q).map Rf.cs).length = (m.take q).length := by simp
  rw [← hd] at ht
  obtain ⟨ea, ec, w3, s1, s2, s3⟩ := Rg.app ty_ref (by omega) hR (hdV a q c) ((m.take q).map Rf.cs) (es_rfs _) ht (by simp; omega) hb.size 25
  simp only [List.length_nil, Nat.zero_add, List.length_map, hl, List.nil_append] at s1 s2
  exact ⟨ea, ec, w3, s1, s2, s3⟩

theorem insL_at {m : List Rf} {z : Rf} {q : Nat} (h : ∀ y ∈ m.take q, klt (y.rk, y.kn) (z.rk, z.kn) = true) (h2 : ∀ hq : q < m.length, klt (m[q].rk, m[q].kn) (z.rk, z.kn) = false) : insL m z = m.take q ++ z :: m.drop q := by
  have e : m = m.take q ++ m.drop q := (List.take_append_drop q m).symm
  have h3 : (m.drop q).takeWhile (fun y => klt (y.rk, y.kn) (z.rk, z.kn)) = [] ∧ (m.drop q).dropWhile (fun y => klt (y.rk, y.kn) (z.rk, z.kn)) = m.drop q := by
    by_cases hq : q < m.length
    · have h4 := h2 hq
      rw [List.drop_eq_getElem_cons hq]
      constructor
      · rw [List.takeWhile_cons, if_neg (by simp [h4])]
      · rw [List.dropWhile_cons, if_neg (by simp [h4])]
    · rw [List.drop_eq_nil_of_le (by omega)]
      simp
  unfold insL
  have t1 : m.takeWhile (fun y => klt (y.rk, y.kn) (z.rk, z.kn)) = m.take q := by
    conv => lhs; rw [e]
    rw [List.takeWhile_append_of_pos h, h3.1, List.append_nil]
  have t2 : m.dropWhile (fun y => klt (y.rk, y.kn) (z.rk, z.kn)) = m.drop q := by
    conv => lhs; rw [e]
    rw [List.dropWhile_append_of_pos h, h3.2]
  rw [t1, t2]
theorem gal1 (w : World) (o : Obj) : Below w.heap.size w (w.alloc o) := (Below.refl _ _).alloc (Nat.le_refl _) o
theorem hide_out {p : Prop} (h : Hid p) : p := h



end Go.Proofs.YtifmbcfdhjhacaaDoor
