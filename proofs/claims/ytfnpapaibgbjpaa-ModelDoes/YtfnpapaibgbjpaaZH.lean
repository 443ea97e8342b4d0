/- Package slices at items: what a copy and a clear do; Delete. -/
import Derived.Test.YtfnpapaibgbjpaaZG
import Derived.Laws.CopyRow
namespace Go.Proofs.Ytfnpapaibgbjpaa
open Go.RowKit Go.Maps

theorem kp_setRow {w : World} {g : Nat} (cs : Array Value) : Kp [g] w (w.setRow g cs) :=
  ⟨rfl, rfl, rfl, by simp, fun k _ hk => setRow_other w g k cs (fun e => hk (by simp [e]))⟩
theorem isB_setRow {w : World} {g : Nat} {cur : Array Value} {t : TypeId} (h : IsB w g cur t) (cs : Array Value) : IsB (w.setRow g cs) g cs t := setRow_heap w g cur cs t _ h
/-- A copy of elements of any size. -/
theorem run_copy_k {P : Program} (w : World) (dT sT ty elem : TypeId) (k g o dLen dCap : Nat) (a : Addr) (sLen sCap m : Nat) (cur : Array Value) (t : TypeId) (cs : List Value)
    (hu : P.underlying dT = some (.slice elem)) (hs : (P.info? elem).map (·.size) = some k)
    (hg : IsB w g cur t) (hm : Nat.min sLen dLen = m) (hn : cs.length = m * k)
    (hsrc : ∀ j v, cs[j]? = some v → w.cell? (a.add j) = some v) (hfit : o + cs.length ≤ cur.size) (h1 : ∀ v ∈ cs, v.oneCell' = true) :
    (Builtin.copy_ #[dT, sT] ty #[.slice (some ⟨g, o, none⟩) dLen dCap, .slice (some a) sLen sCap]).run P w =
      .ok (goInt m) (w.setRow g (cur.toList.take o ++ cs ++ cur.toList.drop (o + cs.length)).toArray) := by
  have hl := run_loadCells_list (P := P) w a cs hsrc
  have hst := run_storeCells_at P g o t cs 0 cur w hg (by simpa using hfit) h1
  cases hq : P.info? elem with
  | none => simp [hq] at hs
  | some i =>
    have hi : i.size = k := by simpa [hq] using hs
    rw [hn] at hl
    simp only [Nat.add_zero] at hst
    simp [Builtin.copy_, run_underlying hu, Builtin.lenOf, Builtin.firstCells, sizeOf, typeInfo, hq, hi, hm, hl, hst]
/-- The last item is cleared. -/
theorem run_clear_it (w : World) (ty : TypeId) (g o c : Nat) (cur : Array Value) (hg : IsB w g cur 61) (hfit : o + 2 ≤ cur.size) :
    (Builtin.clear_ #[22] ty #[.slice (some ⟨g, o, none⟩) 1 c]).run Try.prog w = .ok (.tuple #[]) (w.setRow g (cur.toList.take o ++ ([.int .u64 0, .slice none 0 0] : List Value) ++ cur.toList.drop (o + 2)).toArray) := by
  have hst := run_storeCells_at Try.prog g o 61 ([.int .u64 0, .slice none 0 0] : List Value) 0 cur w hg (by simpa using hfit) (by intro v hv; simp at hv; rcases hv with rfl | rfl <;> rfl)
  simp only [Nat.add_zero] at hst
  have hz : ∀ w, (zeroValue 61).run Try.prog w = .ok (.agg #[.int .u64 0, .slice none 0 0]) w := fun w => by
    obtain ⟨i0, hi0, hz0, -, -⟩ := info_parts Try.infoIt
    simp [zeroValue, typeInfo, hi0, hz0]
  have hzc : (Builtin.zeroCells (Value.agg #[.int .u64 0, .slice none 0 0]).cells 1).toList = [.int .u64 0, .slice none 0 0] := by kernel_rfl
  simp [Builtin.clear_, run_underlying Try.underlying22, hz, hzc]
  rw [hst]
  simp
theorem Ow.form {w : World} {v : Value} {l : List It} (h : Ow w v l) (hn : 0 < l.length) : ∃ g cap cur, v = .slice (some ⟨g, 0, none⟩) l.length cap ∧ IsB w g cur 61 ∧ l.length ≤ cap ∧ cap ≤ maxLen ∧ cap * 2 ≤ cur.size ∧ cur.toList.take (l.length * 2) = its l := by
  rcases h.row.2 with ⟨-, h0⟩ | ⟨g, cap, cur, h1, h2, h3, h4, h5, h6⟩
  · omega
  · exact ⟨g, cap, cur, h1, h2, h3, h4, h5, h6⟩
theorem Ow.of_cells {w w' : World} {g cap : Nat} {cur : Array Value} {l : List It} {n : Nat} (hn : l.length = n) (hb : IsB w' g cur 61) (h1 : n ≤ cap) (h2 : cap ≤ maxLen) (h3 : cap * 2 ≤ cur.size) (h4 : cur.toList.take (n * 2) = its l) (hk : Kp [g] w w') (hg : ∀ cur, w.heap[g]? = some (.cells cur 5 (0, 0)) → False) (hby : ∀ it ∈ l, By w it.a it.c it.bs ∧ (it.a = none → it.c = 0)) : Ow w' (.slice (some ⟨g, 0, none⟩) n cap) l := by
  subst hn
  refine ⟨⟨its_len l, Or.inr ⟨g, cap, cur, rfl, hb, h1, h2, h3, h4⟩⟩, fun it hi => ⟨(hby it hi).1.kp hk (fun k hm cur h0 => ?_), (hby it hi).2⟩⟩
  simp at hm
  subst hm
  exact hg _ h0

theorem delete_mem (g cap : Nat) (cur : Array Value) (l : List It) (hl : l.length ≤ 100000) (i p q n : Nat) (hn : l.length = n) (hp : n = p + 1) (hq : q = i + 1) (hi : i < n) (w : World) (hB : IsB w g cur 61) (hnc : n ≤ cap) (hcm : cap ≤ maxLen) (hcs : cap * 2 ≤ cur.size) (htk : cur.toList.take (n * 2) = its l) (hby : ∀ it ∈ l, By w it.a it.c it.bs ∧ (it.a = none → it.c = 0)) :
    ∃ W5 W6, (Builtin.append_ #[22, 22] 22 #[.slice (some ⟨g, 0, none⟩) i cap, .slice (if cap = q then some ⟨g, 0, none⟩ else some ⟨g, q * 2, none⟩) (n - q) (cap - q)]).run Try.prog w.drew = .ok (.slice (some ⟨g, 0, none⟩) p cap) W5 ∧
      (∀ ty, (Builtin.clear_ #[22] ty #[.slice (some ⟨g, p * 2, none⟩) 1 (cap - p)]).run Try.prog W5 = .ok (.tuple #[]) W6) ∧ Ow W6 (.slice (some ⟨g, 0, none⟩) p cap) (l.take i ++ l.drop q) ∧ Kp [g] w W6 := by
  obtain ⟨i0, hi0, hz0, hz1, hz2⟩ := info_parts Try.infoIt
  obtain ⟨ad, had⟩ : ∃ ad, (if cap = q then some (⟨g, 0, none⟩ : Addr) else some ⟨g, q * 2, none⟩) = some ad := by split <;> exact ⟨_, rfl⟩
  have hsrc : ∀ j u, (its (l.drop q))[j]? = some u → w.drew.cell? (ad.add j) = some u := fun j u hu => by
    have hj := (List.getElem?_eq_some_iff.1 hu).1
    rw [its_len, List.length_drop] at hj
    have hne : ¬cap = q := by omega
    rw [if_neg hne] at had
    injection had with had
    rw [← had, add_none]
    show w.cell? _ = _
    rw [hB.cell]
    rw [← its_drop, List.getElem?_drop, ← htk, List.getElem?_take] at hu
    split at hu
    · simpa using hu
    · cases hu
  have hap := run_append_room (P := Try.prog) w.drew 22 22 61 i0 Try.underlying22 hi0 g i cap cur hB ad (n - q) (cap - q) (its (l.drop q)) (by rw [its_len, List.length_drop, hz1, hn]) hsrc (its_one _) (by omega) (by rw [its_len, List.length_drop, hz1]; omega)
  rw [hz1, ← had, show i + (n - q) = p by omega] at hap
  have I5 := isB_setRow (show IsB w.drew g cur _ from hB) (cur.toList.take (i * 2) ++ its (l.drop q) ++ cur.toList.drop (i * 2 + (its (l.drop q)).length)).toArray
  have K5 : Kp [g] w (w.drew.setRow g (cur.toList.take (i * 2) ++ its (l.drop q) ++ cur.toList.drop (i * 2 + (its (l.drop q)).length)).toArray) := (Kp.refl [g] w).drew.trans (kp_setRow _) (by simp)
  have e1 : cur.toList.take (i * 2) = its (l.take i) := by
    rw [← its_take, ← htk, List.take_take]
    congr 1
    omega
  have e2 : (its (l.take i) ++ its (l.drop q)).length = p * 2 := by
    rw [List.length_append, its_len, its_len, List.length_take, List.length_drop]
    omega
  have htk5 : (cur.toList.take (i * 2) ++ its (l.drop q) ++ cur.toList.drop (i * 2 + (its (l.drop q)).length)).toArray.toList.take (p * 2) = its (l.take i ++ l.drop q) := by
    show ((cur.toList.take (i * 2) ++ its (l.drop q)) ++ _).take (p * 2) = _
    rw [e1, ← e2, List.take_left, its_app]
  have hsz5 : (cur.toList.take (i * 2) ++ its (l.drop q) ++ cur.toList.drop (i * 2 + (its (l.drop q)).length)).toArray.size = cur.size := by
    rw [List.size_toArray, List.length_append, List.length_append, List.length_take, List.length_drop, its_len, List.length_drop, Array.length_toList]
    omega
  generalize (cur.toList.take (i * 2) ++ its (l.drop q) ++ cur.toList.drop (i * 2 + (its (l.drop q)).length)).toArray = cur5 at *
  generalize w.drew.setRow g cur5 = W5 at *
  have K6 : Kp [g] w (W5.setRow g (cur5.toList.take (p * 2) ++ ([.int .u64 0, .slice none 0 0] : List Value) ++ cur5.toList.drop (p * 2 + 2)).toArray) := K5.trans (kp_setRow _) (by simp)
  refine ⟨W5, _, hap, fun ty => run_clear_it W5 ty g (p * 2) (cap - p) cur5 I5 (by omega), ?_, K6⟩
  refine Ow.of_cells (w := w) ?_ (isB_setRow I5 _) (by omega) hcm ?_ ?_ K6 (fun cur0 h0 => absurd (cells_inj h0 hB) (by decide)) (fun it hi => hby it ?_)
  · rw [List.length_append, List.length_take, List.length_drop]; omega
  · rw [List.size_toArray, List.length_append, List.length_append, List.length_take, List.length_drop, Array.length_toList]
    simp only [List.length_cons, List.length_nil]
    omega
  · rw [← htk5]
    show ((cur5.toList.take (p * 2) ++ _) ++ _).take (p * 2) = _
    have e3 : (cur5.toList.take (p * 2)).length = p * 2 := by
      rw [List.length_take, Array.length_toList]
      omega
    rw [List.append_assoc]
    exact List.take_left' e3
  · rcases List.mem_append.1 hi with hi | hi
    · exact List.mem_of_mem_take hi
    · exact List.mem_of_mem_drop hi

set_option maxHeartbeats 4000000 in
set_option maxRecDepth 100000 in
theorem delete_any (v : Value) (l : List It) (hl : l.length ≤ 100000) (i : Nat) (hi : i < l.length) (w : World) (h : Ow w v l) :
    Calls Try.prog 48 #[v, .int .i64 (i : Int), .int .i64 ((i : Int) + 1)] w fun e w' => ∃ v', e = .returned v' ∧ Ow w' v' (l.take i ++ l.drop (i + 1)) ∧ v'.ownBlock = v.ownBlock ∧ Kp v.ownBlock.toList w w' := by
  have mixed : Try.prog.follows .mixedOrders = true := by kernel_rfl
  obtain ⟨g, cap, cur, rfl, hB, hnc, hcm, hcs, htk⟩ := h.form (by omega)
  obtain ⟨p, hp⟩ : ∃ p, l.length = p + 1 := ⟨l.length - 1, by omega⟩
  obtain ⟨q, hq⟩ : ∃ q, q = i + 1 := ⟨_, rfl⟩
  obtain ⟨W5, W6, hap, hcl, hO, hK⟩ := delete_mem g cap cur l hl i p q l.length rfl hp hq hi w hB hnc hcm hcs htk h.byt
  obtain ⟨xa, hxa⟩ : ∃ xa, (if cap = q then some (⟨g, 0, none⟩ : Addr) else some ⟨g, q * 2, none⟩) = xa := ⟨_, rfl⟩
  rw [hxa] at hap
  have HAP := hide hap
  have HO := hide hO
  have HK := hide hK
  replace hxa := hide hxa
  have hw1 : IntKind.i64.wrap ((i : Int) + 1) = (q : Int) := by rw [IntKind.wrap_i64]; omega
  have hiq : (i : Int) + 1 = (q : Int) := by omega
  rw [hiq, ← hq]
  generalize l.length = n at *
  have hni : ¬(n = i) := by omega
  have hqn : q ≤ n := by omega
  have hic : i ≤ cap := by omega
  have hcp : ¬(cap = p) := by omega
  have hiq2 : i ≤ q := by omega
  have hz : ((i : Int) == (q : Int)) = false := by simp; omega
  have hin : i ≤ n := by omega
  have hn1 : n - p = 1 := by omega
  have hpn : p ≤ n := by omega
  clear h hB hcs htk hap hiq hi hp hq hO hK hw1
  go_enter Try.func48, Try.ntmps48
  go_wp2
  refine regionL 8 (fun _ => True) mixed trivial (fun hHeld => ?_)
  refine pickA (v := ?_) 0 (some 20) rfl rfl (by kernel_rfl) (by kernel_rfl) (by kernel_rfl) (by decide) (fun _ _ _ h => h) (by rfl) ?_ (by assumption) ?_
  rotate_left
  · intro w'
    go_simp
    try with_reducible rfl
  try simp only [Act.put, List.setIfInBounds_toArray, List.set_cons_zero, List.set_cons_succ]
  refine pickA (v := ?_) 1 (some 21) rfl rfl (by kernel_rfl) (by kernel_rfl) (by kernel_rfl) (by decide) (fun _ _ _ h => h) (by rfl) ?_ (by assumption) ?_
  rotate_left
  · intro w'
    go_simp
    try with_reducible rfl
  try simp only [Act.put, List.setIfInBounds_toArray, List.set_cons_zero, List.set_cons_succ]
  refine pickA (v := .slice (some ⟨g, 0, none⟩) i cap) 2 (some 22) rfl rfl (by kernel_rfl) (by kernel_rfl) (by kernel_rfl) (by decide) (fun _ _ _ h => h) (by rfl) ?_ (by assumption) ?_
  · intro w'
    go_simp
  try simp only [Act.put, List.setIfInBounds_toArray, List.set_cons_zero, List.set_cons_succ]
  refine pickA (v := ?_) 3 (some 23) rfl rfl (by kernel_rfl) (by kernel_rfl) (by kernel_rfl) (by decide) (fun _ _ _ h => h) (by rfl) ?_ (by assumption) ?_
  rotate_left
  · intro w'
    go_simp
    try with_reducible rfl
  try simp only [Act.put, List.setIfInBounds_toArray, List.set_cons_zero, List.set_cons_succ]
  refine pickA (v := ?_) 4 (some 24) rfl rfl (by kernel_rfl) (by kernel_rfl) (by kernel_rfl) (by decide) (fun _ _ _ h => h) (by rfl) ?_ (by assumption) ?_
  rotate_left
  · intro w'
    go_simp
    try with_reducible rfl
  try simp only [Act.put, List.setIfInBounds_toArray, List.set_cons_zero, List.set_cons_succ]
  refine pickA (v := .slice xa (n - q) (cap - q)) 5 (some 25) rfl rfl (by kernel_rfl) (by kernel_rfl) (by kernel_rfl) (by decide) (fun _ _ _ h => h) (by rfl) ?_ (by assumption) ?_
  · intro w'
    go_simp
    rw [hxa.out]
  try simp only [Act.put, List.setIfInBounds_toArray, List.set_cons_zero, List.set_cons_succ]
  refine oneL (i := 6) (by kernel_rfl) rfl (fun K hK => ?_)
  refine step_append_eq rfl (.tmp 22) (.tmp 25) 22 rfl _ _ (.slice (some ⟨g, 0, none⟩) p cap) W5 rfl rfl HAP.out ?_
  refine hK.out _ _ ?_ ?_
  · trivial
  clear hK K
  try simp only [Act.put, List.setIfInBounds_toArray]
  refine pickA (v := ?_) 7 (some 0) rfl rfl (by kernel_rfl) (by kernel_rfl) (by kernel_rfl) (by decide) (fun _ _ _ h => h) (by rfl) ?_ (by assumption) ?_
  rotate_left
  · intro w'
    go_simp
    try with_reducible rfl
  try simp only [Act.put]
  refine doneL (by kernel_rfl) ?_ _
  clear hHeld
  go_wp2
  go_ret
  exact ⟨_, rfl, HO.out, rfl, HK.out⟩

end Go.Proofs.Ytfnpapaibgbjpaa
