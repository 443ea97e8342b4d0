/- The document's powers of two, and the vector of a row of bits. -/
import Derived.Test.YtmhcmlegdoapdaaDoorRZ
namespace Go.Proofs.YtmhcmlegdoapdaaDoor
open Go.RowKit

theorem wrap_u64 {x : Int} (h0 : 0 ≤ x) (h1 : x < 18446744073709551616) : IntKind.u64.wrap x = x := by
  simp only [IntKind.wrap]; exact Int.emod_eq_of_lt h0 h1
theorem pow_step (k : Nat) (h : k < 63) : IntKind.u64.wrap (2 ^ k * 2) = ((2 ^ (k + 1) : Nat) : Int) := by
  have hp : 2 ^ (k + 1) ≤ 2 ^ 63 := Nat.pow_le_pow_right (by omega) (by omega)
  have e : ((2 : Int) ^ k * 2) = ((2 ^ (k + 1) : Nat) : Int) := by rw [Nat.pow_succ]; simp
  rw [e]
  have hq : 0 < 2 ^ (k + 1) := Nat.two_pow_pos _
  generalize 2 ^ (k + 1) = y at *
  exact wrap_u64 (by omega) (by omega)

set_option maxHeartbeats 400000 in
set_option maxRecDepth 100000 in
theorem power_any (m : Nat) (hm : m ≤ 63) (w : World) :
    Calls Tryd.prog 54 #[.int .i64 (m : Int)] w fun e w' => e = .returned (.int .u64 ((2 ^ m : Nat) : Int)) ∧ w' = w := by
  go_enter Tryd.func54, Tryd.ntmps54
  go_wp2
  go_loop [0, 3] (fun i x => ∃ k : Nat, k ≤ m ∧ i = .int .i64 ((m - k : Nat) : Int) ∧ x = .int .u64 ((2 ^ k : Nat) : Int)) (fun i _ => (intOf i).toNat)
  case atStart => exact ⟨0, by omega, by simp, rfl⟩
  case round =>
    obtain ⟨k, hk, rfl, rfl⟩ := hrel
    by_cases hlt : k < m
    · have H : Hid (IntKind.u64.wrap (2 ^ k * 2) = ((2 ^ (k + 1) : Nat) : Int)) := pow_step k (by omega)
      go_wp2
      refine ⟨⟨k + 1, by omega, ?_, ?_⟩, ?_⟩
      · rw [show ((m - k : Nat) : Int) - 1 = ((m - (k + 1) : Nat) : Int) from by omega]
      · rw [H.out]
      · simp [intOf]; omega
    · go_wp2
      go_ret
      have e : k = m := by omega
      rw [e]; simp

/-- The number of a row of bits, the highest first. -/
def ofl (l : List Nat) : Nat := l.foldl (fun a x => a * 2 + x) 0
theorem ofl_snoc (l : List Nat) (x : Nat) : ofl (l ++ [x]) = ofl l * 2 + x := by unfold ofl; rw [List.foldl_append]; rfl
theorem ofl_lt (l : List Nat) (h : ∀ x ∈ l, x ≤ 1) : ofl l < 2 ^ l.length := by
  rw [← List.reverse_reverse l] at h ⊢
  generalize l.reverse = r at h ⊢
  induction r with
  | nil => simp [ofl]
  | cons c r ih =>
    rw [List.reverse_cons, ofl_snoc]
    have h1 := ih (fun x hx => h x (by rw [List.reverse_cons]; exact List.mem_append_left _ hx))
    have h2 := h c (by simp)
    rw [List.length_append, List.length_singleton, Nat.pow_succ]
    omega
theorem take_snoc (l : List Nat) (k : Nat) (h : k < l.length) : l.take (k + 1) = l.take k ++ [l.getD k 0] := by
  rw [List.take_succ_eq_append_getElem h]; simp [h]
theorem ofl_take (l : List Nat) (h : ∀ x ∈ l, x ≤ 1) (k : Nat) (hk : k ≤ l.length) (h32 : l.length ≤ 60) : ofl (l.take k) < 1152921504606846976 := by
  have h1 := ofl_lt (l.take k) (fun x hx => h x (List.mem_of_mem_take hx))
  have h2 : 2 ^ (l.take k).length ≤ 2 ^ 60 := Nat.pow_le_pow_right (by omega) (by rw [List.length_take]; omega)
  exact Nat.lt_of_lt_of_le h1 h2
theorem getD_le (l : List Nat) (h : ∀ x ∈ l, x ≤ 1) (k : Nat) : l.getD k 0 ≤ 1 := by
  by_cases hk : k < l.length
  · have e : l.getD k 0 = l[k] := by simp [hk]
    rw [e]; exact h _ (List.getElem_mem hk)
  · have e : l.getD k 0 = 0 := by simp [hk]
    omega
/-- What a slice of bits holds. -/
def Bits (w : World) (g o : Nat) (l : List Nat) : Prop := ∀ j, j < l.length → w.cell? ⟨g, o + j, none⟩ = some (.int .i64 (l.getD j 0 : Nat))
theorem rof_results (W : World) (g : Nat) (cs : Array Value) (h : IsB W g cs 27) (hs : cs.size = 2) (T : Array Value) (hp : T.getD 2 undef = .pointer (some ⟨g, 0, none⟩)) : (results Tryd.f74 T).run Tryd.prog W = .ok (.agg cs) W :=
  results_cell_row rfl T W g 27 cs (0, 0) _ hp h Tryd.underlying27 rfl (by rw [hs]; exact vec_info)

set_option maxHeartbeats 2000000 in
set_option maxRecDepth 100000 in
theorem of_any (g o n cap : Nat) (l : List Nat) (w : World) (hl : l.length = n) (hn : n ≤ 60) (h01 : ∀ x ∈ l, x ≤ 1) (hg : g < w.heap.size) (hrow : Bits w g o l) :
    Calls Tryd.prog 74 #[.slice (some ⟨g, o, none⟩) n cap] w fun e w' => e = .returned ((.agg #[.int .i64 ((n : Int)), .int .u64 ((ofl l : Nat))])) ∧ Gr w w' := by
  go_enter Tryd.func74, Tryd.ntmps74
  go_wp2
  go_loopw [4] (fun i wr => ∃ k : Nat, k ≤ n ∧ i = .int .i64 (k : Int) ∧ IsB wr w.heap.size #[.int .i64 0, .int .u64 0] 27 ∧ IsB wr (w.heap.size + 1) #[.int .i64 (n : Int), .int .u64 (ofl (l.take k) : Nat)] 27 ∧ Gr w wr)
    (fun i _ => n - (intOf i).toNat)
  case atStart =>
    refine ⟨0, by omega, rfl, ?_, ?_, ?_⟩
    · exact (IsB.new w _ _).alloc _
    · have := IsB.new (w.alloc (.cells #[.int .i64 0, .int .u64 0] 27)) #[.int .i64 (n : Int), .int .u64 0] 27
      simpa [ofl] using this
    · exact ((Gr.refl w).alloc _).alloc _
  case round =>
    obtain ⟨k, hk, rfl, i0, i1, hb⟩ := hrel
    have H0 := hide i0
    have H1 := hide i1
    have HG := hide hb
    have a0 : wr.cell? ⟨w.heap.size, 0, none⟩ = some (.int .i64 0) := i0.cell 0
    have a1 : wr.cell? ⟨w.heap.size, 1, none⟩ = some (.int .u64 0) := i0.cell 1
    have a2 := i0.free 0
    have a3 := i0.free 1
    have b0 : wr.cell? ⟨w.heap.size + 1, 0, none⟩ = some (.int .i64 (n : Int)) := i1.cell 0
    have b1 : wr.cell? ⟨w.heap.size + 1, 1, none⟩ = some (.int .u64 (ofl (l.take k) : Nat)) := i1.cell 1
    have b2 := i1.free 0
    have b3 := i1.free 1
    clear i0 i1
    by_cases hlt : k < n
    · have hcx : wr.cell? ⟨g, o + k, none⟩ = some (.int .i64 (l.getD k 0 : Nat)) := hb.cell (x := ⟨g, o + k, none⟩) hg (hrow k (by omega))
      have hx := getD_le l h01 k
      have hq := ofl_take l h01 k (by omega) (by omega)
      have HS : Hid (ofl (l.take (k + 1)) = ofl (l.take k) * 2 + l.getD k 0) := by
        show _ = _
        rw [take_snoc l k (by omega), ofl_snoc]
      generalize l.getD k 0 = x at *
      generalize ofl (l.take k) = q at *
      have i1 : (k : Int) < n := by omega
      have i2 : (0 : Int) ≤ k := by omega
      clear hrow h01 hb
      go_wp2
      go_region
      go_wp2
      refine ⟨⟨k + 1, by omega, by simp, ?_, ?_, ?_⟩, ?_⟩
      · exact (H0.out.setOther (a := ⟨w.heap.size + 1, 1, none⟩) (by simp) _).gr (Gr.refl _).drew
      · rw [HS.out]
        have := IsB.gr (H1.out.set1of2 (.int .u64 ((q : Int) * 2 + x))) (Gr.refl _).drew
        simpa using this
      · exact (HG.out.set (w.heap.size + 1) 1 _ (by omega)).drew
      · simp [intOf]; omega
    · have e : ofl (l.take k) = ofl l := by rw [List.take_of_length_le (by omega)]
      rw [e] at H1 b1
      clear e hb
      go_wp2
      exact bodyPost_ret (rof_results _ w.heap.size _ (IsB.set1of2 (H0.out.set0of2 (.int .i64 (n : Int))) (.int .u64 (ofl l : Nat))) rfl _ rfl) rfl ⟨rfl, (HG.out.set w.heap.size 0 _ (Nat.le_refl _)).set w.heap.size 1 _ (Nat.le_refl _)⟩

set_option maxHeartbeats 400000 in
set_option maxRecDepth 100000 in
theorem of_nil (w : World) :
    Calls Tryd.prog 74 #[.slice none 0 0] w fun e w' => e = .returned ((.agg #[.int .i64 (0), .int .u64 (0)])) ∧ Gr w w' := by
  go_enter Tryd.func74, Tryd.ntmps74
  go_wp2
  go_loopw [4] (fun i wr => i = .int .i64 0 ∧ IsB wr w.heap.size #[.int .i64 0, .int .u64 0] 27 ∧ IsB wr (w.heap.size + 1) #[.int .i64 0, .int .u64 0] 27 ∧ Gr w wr)
    (fun _ _ => 0)
  case atStart =>
    refine ⟨rfl, ?_, ?_, ?_⟩
    · exact (IsB.new w _ _).alloc _
    · have := IsB.new (w.alloc (.cells #[.int .i64 0, .int .u64 0] 27)) #[.int .i64 0, .int .u64 0] 27
      simpa using this
    · exact ((Gr.refl w).alloc _).alloc _
  case round =>
    obtain ⟨rfl, i0, i1, hb⟩ := hrel
    have H0 := hide i0
    have HG := hide hb
    have a2 := i0.free 0
    have a3 := i0.free 1
    have b0 : wr.cell? ⟨w.heap.size + 1, 0, none⟩ = some (.int .i64 0) := i1.cell 0
    have b1 : wr.cell? ⟨w.heap.size + 1, 1, none⟩ = some (.int .u64 0) := i1.cell 1
    have a0 : wr.cell? ⟨w.heap.size, 0, none⟩ = some (.int .i64 0) := i0.cell 0
    have a1 : wr.cell? ⟨w.heap.size, 1, none⟩ = some (.int .u64 0) := i0.cell 1
    clear i0 i1 hb
    go_wp2
    exact bodyPost_ret (rof_results _ w.heap.size _ (IsB.set1of2 (H0.out.set0of2 (.int .i64 0)) (.int .u64 0)) rfl _ rfl) rfl ⟨rfl, (HG.out.set w.heap.size 0 _ (Nat.le_refl _)).set w.heap.size 1 _ (Nat.le_refl _)⟩

end Go.Proofs.YtmhcmlegdoapdaaDoor
