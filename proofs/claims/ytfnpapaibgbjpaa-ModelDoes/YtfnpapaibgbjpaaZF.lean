/- place: where a key stands, or would. -/
import Derived.Test.YtfnpapaibgbjpaaZE
namespace Go.Proofs.Ytfnpapaibgbjpaa
open Go.RowKit Go.Maps

theorem okM_lt {l : List It} (h : okM l) : ∀ (d i : Nat) (hj : i + 1 + d < l.length), l[i].k < l[i + 1 + d].k
  | 0, i, hj => by
    have := (h (i + 1) hj).2 (by omega)
    simpa using this
  | d + 1, i, hj => by
    have h1 := okM_lt h d i (by omega)
    have h2 := (h (i + 1 + (d + 1)) hj).2 (by omega)
    have e : l[i + 1 + (d + 1) - 1] = l[i + 1 + d] := by congr 1
    rw [e] at h2
    omega
theorem okM_lt2 {l : List It} (h : okM l) {i j : Nat} (hij : i < j) (hj : j < l.length) : l[i].k < l[j].k := by
  have := okM_lt h (j - i - 1) i (by omega)
  have e : l[i + 1 + (j - i - 1)]'(by omega) = l[j] := by congr 1; omega
  rw [e] at this
  exact this
theorem okM_le {l : List It} (h : okM l) {i j : Nat} (hij : i ≤ j) (hj : j < l.length) : l[i].k ≤ l[j].k := by
  rcases Nat.lt_or_eq_of_le hij with h1 | h1
  · exact Int.le_of_lt (okM_lt2 h h1 hj)
  · subst h1; exact Int.le_refl _
theorem tw_len {p : It → Bool} : ∀ (l : List It) (i : Nat), i ≤ l.length → (∀ q (hq : q < l.length), q < i → p l[q] = true) → (∀ (hi : i < l.length), p l[i] = false) → (l.takeWhile p).length = i
  | [], i, hi, _, _ => by simp at hi; subst hi; rfl
  | a :: l, 0, _, _, h2 => by
    have := h2 (by simp)
    simp at this
    simp [this]
  | a :: l, i + 1, hi, h1, h2 => by
    have h0 := h1 0 (by simp) (by omega)
    simp at h0
    simp only [List.takeWhile, h0, List.length_cons]
    rw [tw_len l i (by simpa using hi) (fun q hq hqi => by have := h1 (q + 1) (by simpa using hq) (by omega); simpa using this) (fun hi => by have := h2 (by simpa using hi); simpa using this)]
/-- Where the least key at or above x stands, or would. -/
def pl (x : Int) (l : List It) : Nat := (l.takeWhile fun it => decide (it.k < x)).length
/-- How many at the head are not above x. -/
def ph (x : Int) (l : List It) : Nat := (l.takeWhile fun it => decide (it.k ≤ x)).length
theorem pl_le (x : Int) (l : List It) : pl x l ≤ l.length := (List.takeWhile_prefix _).length_le
theorem ph_le (x : Int) (l : List It) : ph x l ≤ l.length := (List.takeWhile_prefix _).length_le

set_option maxHeartbeats 4000000 in
set_option maxRecDepth 100000 in
theorem place_any (v : Value) (l : List It) (hl : l.length ≤ 100000) (ho : okM l) (x : Int) (w : World) (h : Sl w v l) :
    Calls Try.prog 45 #[v, .int .u64 x] w fun e w' => e = .returned (.int .i64 (pl x l : Int)) ∧ Below w.heap.size w w' := by
  have eg : ∀ args w, (callFunc 51 args).run Try.prog w = .ok (.enter 51 args) w := enters_of Try.func51 (by kernel_rfl) rfl
  have b1 := ((Below.refl w.heap.size w).alloc (Nat.le_refl _) (.cells #[v] 22)).alloc (by simp) (.cells #[.int .u64 x] 24)
  have i0 : IsB ((w.alloc (.cells #[v] 22)).alloc (.cells #[.int .u64 x] 24)) w.heap.size #[v] 22 := (IsB.new w #[v] _).below ((Below.refl _ _).alloc (Nat.le_refl _) _)
  have i1 : IsB ((w.alloc (.cells #[v] 22)).alloc (.cells #[.int .u64 x] 24)) (w.heap.size + 1) #[.int .u64 x] 24 := by
    have := IsB.new (w.alloc (.cells #[v] 22)) #[.int .u64 x] 24
    rwa [World.size_alloc] at this
  have hS := h.below b1
  obtain ⟨va, vc, rfl, -, -⟩ := h.shape
  have c0 := i0.cell 0
  simp at c0
  have HC := hide (search_any 51 eg (.pointer (some ⟨w.heap.size, 0, none⟩)) (.pointer (some ⟨w.heap.size + 1, 0, none⟩)) l.length hl (fun j => decide (x ≤ (l.map (·.k)).getD j 0))
    (fun i j hij hj hp => by
      have hi : i < l.length := by omega
      simp [List.getD, hi, hj] at hp ⊢
      have := okM_le ho hij hj
      omega) _ (fun W hW q hq => by
      obtain ⟨g, k, c, ev, -, -, h2, -⟩ := (hS.below hW).cells q hq
      injection ev with ev el ec
      subst ev ec
      have := place1_any w.heap.size (w.heap.size + 1) g k l.length vc q x l[q].k W hq ((i0.below hW).cell 0) ((i1.below hW).cell 0) h2
      refine this.mono ?_
      rintro e W' ⟨rfl, hb⟩
      refine ⟨?_, hb⟩
      simp [List.getD, hq]))
  have HB := hide b1
  have HO := hide ho
  clear i0 i1 hS h b1 ho
  go_enter Try.func45, Try.ntmps45
  go_wp2_with fail
  refine HC.out.mono ?_
  rintro e w1 ⟨i, rfl, hi, h1, h2, hb⟩
  have HE : Hid ((i : Int) = (pl x l : Int)) := by
    show (_ : Int) = _
    rw [show pl x l = i from tw_len l i hi (fun q hq hqi => by
      have := h1 q hqi
      simp [List.getD, hq] at this
      simpa using this) (fun hi' => by
      have := h2 i (Nat.le_refl _) hi'
      simp [List.getD, hi'] at this
      simpa using this)]
  replace hb := hide hb
  clear h1 h2
  go_wp2
  go_ret
  exact ⟨by rw [← HE.out]; rfl, HB.out.trans (hb.out.mono (by simp; omega))⟩

end Go.Proofs.Ytfnpapaibgbjpaa
