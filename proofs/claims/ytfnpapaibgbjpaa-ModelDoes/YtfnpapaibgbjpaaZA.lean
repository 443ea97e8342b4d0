/- Bytes that can be read, bytes in a block of their own, bytes.Clone; items, rows of them that can be read. -/
import Derived.Test.YtfnpapaibgbjpaaLA
namespace Go.Proofs.Ytfnpapaibgbjpaa
open Go.RowKit Go.Maps

theorem add_none (g o j : Nat) : (⟨g, o, none⟩ : Addr).add j = ⟨g, o + j, none⟩ := by unfold Addr.add; split <;> simp_all
theorem Try.infoU8 : (Try.prog.info? 5).map (fun i => (i.zero, i.size, i.bytes)) = some (some (.int .u8 0), 1, 1) := by kernel_rfl
/-- Bytes as cells. -/
def u8s (l : List UInt8) : List Value := l.map fun x => .int .u8 (x.toNat : Int)
theorem u8s_get {l : List UInt8} {j : Nat} {u : Value} (h : (u8s l)[j]? = some u) : ∃ hj : j < l.length, u = .int .u8 (l[j].toNat : Int) := by
  unfold u8s at h
  rw [List.getElem?_map] at h
  obtain ⟨x, hx, rfl⟩ := Option.map_eq_some_iff.1 h
  obtain ⟨hj, rfl⟩ := List.getElem?_eq_some_iff.1 hx
  exact ⟨hj, rfl⟩
theorem u8s_len (l : List UInt8) : (u8s l).length = l.length := by simp [u8s]
theorem u8s_one (l : List UInt8) : ∀ u ∈ u8s l, u.oneCell' = true := by intro u hu; simp [u8s] at hu; obtain ⟨_, _, rfl⟩ := hu; rfl

/-- These bytes can be read there. -/
def Rd8 (w : World) (a : Option Addr) (l : List UInt8) : Prop := (a = none ∧ l = []) ∨ ∃ ad, a = some ad ∧ ∀ j (hj : j < l.length), w.cell? (ad.add j) = some (.int .u8 (l[j].toNat : Int))
theorem Rd8.below {w w' : World} {a : Option Addr} {l : List UInt8} (h : Rd8 w a l) (hb : Below w.heap.size w w') : Rd8 w' a l := by
  rcases h with h | ⟨ad, h, hc⟩
  · exact Or.inl h
  · refine Or.inr ⟨ad, h, fun j hj => ?_⟩
    exact (hb.cell (lt_of_cell (hc j hj))).trans (hc j hj)

/-- The slice is a row of these bytes in a block of its own, or nil. -/
def By (w : World) (a : Option Addr) (cap : Nat) (l : List UInt8) : Prop := Rw w 5 1 (.slice a l.length cap) l.length (u8s l) ∧ l.length ≤ 140737488355328
theorem By.rd {w : World} {a : Option Addr} {cap : Nat} {l : List UInt8} (h : By w a cap l) : Rd8 w a l := by
  rcases h.1.2 with ⟨h1, h2⟩ | ⟨g, c, cur, h1, hg, _⟩
  · injection h1 with h1 _ _
    exact Or.inl ⟨h1, List.eq_nil_of_length_eq_zero h2⟩
  · have h1' := h1
    injection h1' with h2 _ h3
    subst h2
    refine Or.inr ⟨_, rfl, fun j hj => ?_⟩
    rw [add_none, Nat.zero_add, Rw.cellAt h.1 j (by omega)]
    unfold u8s
    rw [List.getElem?_map, List.getElem?_eq_getElem hj]; rfl
theorem By.blk {w : World} {a : Option Addr} {cap : Nat} {l : List UInt8} (h : By w a cap l) : a = none ∨ ∃ g cur, a = some ⟨g, 0, none⟩ ∧ w.heap[g]? = some (.cells cur 5 (0, 0)) := by
  rcases h.1.2 with ⟨h1, h2⟩ | ⟨g, c, cur, h1, hg, _⟩
  · injection h1 with h1 _ _
    exact Or.inl h1
  · injection h1 with h2 _ h3
    exact Or.inr ⟨g, cur, h2, hg⟩
/-- Bytes stay where no block of bytes turns. -/
def NoBy (w : World) (S : List Nat) : Prop := ∀ k ∈ S, ∀ cur, w.heap[k]? ≠ some (.cells cur 5 (0, 0))
theorem By.kp {S : List Nat} {w w' : World} {a : Option Addr} {cap : Nat} {l : List UInt8} (h : By w a cap l) (hk : Kp S w w') (hn : NoBy w S) : By w' a cap l := by
  refine ⟨h.1.kp hk ?_, h.2⟩
  intro k hv hm
  obtain ⟨-, cur, hc⟩ := h.1.lt k hv
  exact hn k hm cur hc
theorem By.below {w w' : World} {a : Option Addr} {cap : Nat} {l : List UInt8} (h : By w a cap l) (hb : Below w.heap.size w w') : By w' a cap l := ⟨h.1.below hb, h.2⟩

theorem bslice_nil (a : Addr) (len cap : Nat) (w : World) : (binOp .eql 25 (.slice (some a) len cap) (.slice none 0 0)).run Try.prog w = .ok (.bool false) w := by kernel_rfl

theorem bslice_nil_nil (w : World) : (binOp .eql 25 (.slice none 0 0) (.slice none 0 0)).run Try.prog w = .ok (.bool true) w := by kernel_rfl

set_option maxHeartbeats 1000000 in
set_option maxRecDepth 100000 in
theorem bclone_any (a : Option Addr) (cap : Nat) (l : List UInt8) (hl : l.length ≤ 140737488355328) (hn : a = none → cap = 0) (w : World) (hr : Rd8 w a l) :
    Calls Try.prog 33 #[.slice a l.length cap] w fun e w' => ∃ a' c', e = .returned (.slice a' l.length c') ∧ By w' a' c' l ∧ (∀ ad, a' = some ad → w.heap.size ≤ ad.block) ∧ (a' = none → c' = 0) ∧ Below w.heap.size w w' := by
  rcases hr with ⟨rfl, rfl⟩ | ⟨ad, rfl, hc⟩
  · rw [hn rfl]
    have hsn := bslice_nil_nil
    go_enter Try.func33, Try.ntmps33
    go_wp2
    go_ret
    exact ⟨none, 0, rfl, ⟨⟨rfl, Or.inl ⟨rfl, rfl⟩⟩, by simp⟩, by simp, fun _ => rfl, Below.refl _ _⟩
  · obtain ⟨i0, hi, hz0, hz1, hz2⟩ := info_parts Try.infoU8
    have hown0 : Rw (w.alloc (.cells #[] 5)) 5 1 (.slice (some ⟨w.heap.size, 0, none⟩) 0 0) 0 [] := ⟨rfl, Or.inr ⟨_, 0, #[], rfl, heap_new w _, Nat.le_refl _, by unfold maxLen; omega, by simp, rfl⟩⟩
    have hnews : ∀ j u, (u8s l)[j]? = some u → (w.alloc (.cells #[] 5)).cell? (ad.add j) = some u := by
      intro j u hu
      obtain ⟨hj, rfl⟩ := u8s_get hu
      exact (((Below.refl _ w).alloc (Nat.le_refl _) _).cell (lt_of_cell (hc j hj))).trans (hc j hj)
    obtain ⟨v', w4, hrun, hrw, hgr, hat, hnn⟩ := run_append_rw (P := Try.prog) (w.alloc (.cells #[] 5)) 25 25 5 i0 (.int .u8 0) 1 1 Try.underlying25 hi hz0 hz1 hz2 rfl _ 0 [] hown0
      (.slice (some ad) l.length cap) l.length (u8s l) (by rw [u8s_len]; omega) (Or.inl ⟨ad, cap, rfl, hnews⟩) (u8s_one l) (by unfold maxLen; omega) (by omega)
    rw [Nat.zero_add, List.nil_append] at hrw
    have HB := hide (((Below.refl _ w).alloc (Nat.le_refl _) (.cells #[] 5)).grown hgr (by simp) (fun k hk => by simp [Value.ownBlock] at hk; omega))
    have HN := hide (hnn (by intro h; cases h))
    have HT := hide hat
    have HW := hide hrw
    clear hgr hat hrw hnn hown0 hnews hc
    have hsn := bslice_nil
    have HR := hide hrun
    clear hrun
    generalize hL : l.length = L at *
    go_enter Try.func33, Try.ntmps33
    go_wp2_with (at_builtin; refine wpList_append_eq rfl (.tmp 5) (.tmp 6) 25 rfl _ _ v' w4 rfl rfl HR.out ?_)
    go_ret
    rcases HW.out.2 with ⟨h, _⟩ | ⟨g, c, cur, rfl, hg, hrest⟩
    · exact absurd h HN.out
    · refine ⟨some ⟨g, 0, none⟩, c, rfl, ⟨by rw [hL]; exact HW.out, by omega⟩, ?_, by simp, HB.out⟩
      intro ad' h
      injection h with h
      subst h
      rcases HT.out with h | h <;> simp [Value.ownBlock] at h <;> simp <;> omega


theorem ba_toList (l : List UInt8) : (⟨l.toArray⟩ : ByteArray).toList = l := by
  rw [ByteArray.toList_eq]
theorem conv_any (w : World) (a : Option Addr) (c : Nat) (l : List UInt8) (h : Rd8 w a l) (hn : a = none → c = 0) : (convert 25 9 (.slice a l.length c)).run Try.prog w = .ok (.string ⟨l.toArray⟩) w := by
  rcases h with ⟨rfl, rfl⟩ | ⟨ad, rfl, hc⟩
  · rw [hn rfl, run_convert_bytes_string (P := Try.prog) w 25 9 5 none _ 0 Try.underlying25 Try.underlying5 Try.underlying9]
    rfl
  · exact run_convert_bytes_back (P := Try.prog) w 25 9 5 ad c l Try.underlying25 Try.underlying5 Try.underlying9 hc
/-- What such bytes are as a text. -/
theorem conv_S {w : World} {a : Option Addr} {c : Nat} {l : List UInt8} (h : Rd8 w a l) (hn : a = none → c = 0) : ∃ S : ByteArray, S.toList = l ∧ ∀ w', Below w.heap.size w w' → (convert 25 9 (.slice a l.length c)).run Try.prog w' = .ok (.string S) w' :=
  ⟨_, ba_toList l, fun w' hb => conv_any w' a c l (h.below hb) hn⟩

set_option maxHeartbeats 1000000 in
theorem equal_any (a a' : Option Addr) (c c' : Nat) (l l' : List UInt8) (w : World) (h1 : Rd8 w a l) (n1 : a = none → c = 0) (h2 : Rd8 w a' l') (n2 : a' = none → c' = 0) :
    Calls Try.prog 44 #[.slice a l.length c, .slice a' l'.length c'] w fun e w' => e = .returned (.bool (l == l')) ∧ w' = w := by
  obtain ⟨S1, e1, t1⟩ := conv_S h1 n1
  obtain ⟨S2, e2, t2⟩ := conv_S h2 n2
  replace t1 := t1 w (Below.refl _ _)
  replace t2 := t2 w (Below.refl _ _)
  have hE : Hid ((S1.toList == S2.toList) = (l == l')) := by rw [e1, e2]; rfl
  clear h1 h2 n1 n2 e1 e2
  generalize l.length = n at *
  generalize l'.length = n' at *
  go_enter Try.func44, Try.ntmps44
  go_wp2
  go_ret
  exact ⟨by rw [← hE.out]; rfl, rfl⟩

/-- An item: its key, where its value lies, the value's bytes. -/
structure It where
  k : Int
  a : Option Addr
  c : Nat
  bs : List UInt8
/-- What an item says. -/
def It.val (it : It) : Int × List UInt8 := (it.k, it.bs)
def its : List It → List Value
  | [] => []
  | p :: l => .int .u64 p.k :: .slice p.a p.bs.length p.c :: its l
theorem its_len : ∀ l : List It, (its l).length = l.length * 2
  | [] => rfl
  | _ :: l => by simp [its, its_len l]; omega
theorem its_app : ∀ l m : List It, its (l ++ m) = its l ++ its m
  | [], _ => rfl
  | _ :: l, m => by simp [its, its_app l m]
theorem its_drop : ∀ (n : Nat) (l : List It), (its l).drop (n * 2) = its (l.drop n)
  | 0, l => by simp
  | n + 1, [] => by simp [its]
  | n + 1, p :: l => by
    rw [show (n + 1) * 2 = n * 2 + 1 + 1 by omega]
    simp [its, its_drop n l]
theorem its_take : ∀ (n : Nat) (l : List It), (its l).take (n * 2) = its (l.take n)
  | 0, l => by simp [its]
  | n + 1, [] => by simp [its]
  | n + 1, p :: l => by
    rw [show (n + 1) * 2 = n * 2 + 1 + 1 by omega]
    simp [its, its_take n l]
theorem its_get : ∀ (l : List It) (j : Nat) (hj : j < l.length), (its l)[j * 2]? = some (.int .u64 l[j].k) ∧ (its l)[j * 2 + 1]? = some (.slice l[j].a l[j].bs.length l[j].c)
  | p :: l, 0, _ => by simp [its]
  | p :: l, j + 1, hj => by
    have := its_get l j (by simpa using hj)
    rw [show (j + 1) * 2 = j * 2 + 1 + 1 by omega]
    simpa [its] using this
theorem its_one : ∀ (l : List It), ∀ u ∈ its l, u.oneCell' = true
  | [], u, h => by simp [its] at h
  | p :: l, u, h => by
    simp only [its, List.mem_cons] at h
    rcases h with rfl | rfl | h
    · rfl
    · rfl
    · exact its_one l u h

/-- An item's bytes can be read. -/
def RdI (w : World) (it : It) : Prop := Rd8 w it.a it.bs ∧ (it.a = none → it.c = 0)
theorem RdI.below {w w' : World} {it : It} (h : RdI w it) (hb : Below w.heap.size w w') : RdI w' it := ⟨h.1.below hb, h.2⟩
/-- A slice of these items, that can be read. -/
def Sl (w : World) (v : Value) (l : List It) : Prop := ((v = .slice none 0 0 ∧ l = []) ∨ ∃ g o c, v = .slice (some ⟨g, o, none⟩) l.length c ∧ l.length ≤ c ∧ c ≤ maxLen ∧ g < w.heap.size ∧ ∀ j u, (its l)[j]? = some u → w.cell? ⟨g, o + j, none⟩ = some u) ∧ ∀ it ∈ l, RdI w it
theorem Sl.below {w w' : World} {v : Value} {l : List It} (h : Sl w v l) (hb : Below w.heap.size w w') : Sl w' v l := by
  refine ⟨?_, fun it hi => (h.2 it hi).below hb⟩
  rcases h.1 with h | ⟨g, o, c, rfl, h1, h2, h3, h4⟩
  · exact Or.inl h
  · exact Or.inr ⟨g, o, c, rfl, h1, h2, Nat.lt_of_lt_of_le h3 hb.size, fun j u hu => (hb.cell (lt_of_cell (h4 j u hu))).trans (h4 j u hu)⟩
theorem Sl.shape {w : World} {v : Value} {l : List It} (h : Sl w v l) : ∃ a c, v = .slice a l.length c ∧ l.length ≤ c ∧ c ≤ maxLen := by
  rcases h.1 with ⟨rfl, rfl⟩ | ⟨g, o, c, rfl, h1, h2, h3, h4⟩
  · exact ⟨none, 0, rfl, Nat.le_refl _, by unfold maxLen; omega⟩
  · exact ⟨_, c, rfl, h1, h2⟩
theorem Sl.cells {w : World} {v : Value} {l : List It} (h : Sl w v l) (j : Nat) (hj : j < l.length) : ∃ g o c, v = .slice (some ⟨g, o, none⟩) l.length c ∧ l.length ≤ c ∧ c ≤ maxLen ∧ w.cell? ⟨g, o + j * 2, none⟩ = some (.int .u64 l[j].k) ∧ w.cell? ⟨g, o + j * 2 + 1, none⟩ = some (.slice l[j].a l[j].bs.length l[j].c) := by
  rcases h.1 with ⟨rfl, rfl⟩ | ⟨g, o, c, rfl, h1, h2, h3, h4⟩
  · simp at hj
  · exact ⟨g, o, c, rfl, h1, h2, h4 _ _ (its_get l j hj).1, h4 _ _ (its_get l j hj).2⟩
theorem Sl.nil (w : World) : Sl w (.slice none 0 0) [] := ⟨Or.inl ⟨rfl, rfl⟩, by simp⟩
theorem Rw.sl {w : World} {v : Value} {l : List It} (h : Rw w 61 2 v l.length (its l)) (hr : ∀ it ∈ l, RdI w it) : Sl w v l := by
  refine ⟨?_, hr⟩
  rcases h.2 with ⟨rfl, h0⟩ | ⟨g, cap, cur, rfl, hg, h1, h2, h3⟩
  · exact Or.inl ⟨rfl, List.eq_nil_of_length_eq_zero h0⟩
  · refine Or.inr ⟨g, 0, cap, rfl, h1, h2, lt_of_heap hg, fun j u hu => ?_⟩
    have hj : j < l.length * 2 := by rw [← its_len]; exact (List.getElem?_eq_some_iff.1 hu).1
    rw [Nat.zero_add, h.cellAt j hj]
    exact hu
/-- A part of such a slice. -/
theorem Sl.sub {w : World} {g o c n : Nat} {l : List It} (h : Sl w (.slice (some ⟨g, o, none⟩) n c) l) (i j c' : Nat) (hij : i ≤ j) (hj : j ≤ l.length) (hc : j - i ≤ c') (hc2 : c' ≤ maxLen) : Sl w (.slice (some ⟨g, o + i * 2, none⟩) (j - i) c') ((l.take j).drop i) := by
  have hl : ((l.take j).drop i).length = j - i := by rw [List.length_drop, List.length_take]; omega
  refine ⟨Or.inr ⟨g, o + i * 2, c', by rw [hl], by omega, hc2, ?_, ?_⟩, fun it hi => h.2 it (List.mem_of_mem_take (List.mem_of_mem_drop hi))⟩
  · rcases h.1 with ⟨h1, -⟩ | ⟨g', o', c'', h1, -, -, h3, -⟩
    · cases h1
    · injection h1 with h1 _ _
      injection h1 with h1
      injection h1 with h1 _ _
      rw [h1]; exact h3
  · intro q u hu
    rcases h.1 with ⟨h1, -⟩ | ⟨g', o', c'', h1, -, -, h3, h4⟩
    · cases h1
    · injection h1 with h1 _ _
      injection h1 with h1
      injection h1 with h1 h2 _
      subst h1 h2
      rw [← its_drop, ← its_take, List.getElem?_drop, List.getElem?_take] at hu
      split at hu
      · rw [Nat.add_assoc]; exact h4 _ _ hu
      · cases hu

/-- Are items a map? -/
def okM (l : List It) : Prop := ∀ j (hj : j < l.length), l[j].bs.length ≤ 1024 ∧ ∀ (_ : 0 < j), l[j - 1].k < l[j].k
open Classical in
noncomputable def ckE (l : List It) : Int := if okM l then 0 else 103
theorem ckE_yes {l : List It} (h : okM l) : ckE l = 0 := if_pos h
theorem ckE_no {l : List It} (h : ¬okM l) : ckE l = 103 := if_neg h

end Go.Proofs.Ytfnpapaibgbjpaa
