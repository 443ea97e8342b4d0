/- The document's Key and Same. -/
import Derived.Test.YtfnpapaibgbjpaaZA
namespace Go.Proofs.Ytfnpapaibgbjpaa
open Go.RowKit Go.Maps

/-- The first item of a key. -/
def kfind (x : Int) (l : List It) : Option It := l.find? fun it => it.k == x
def kB (x : Int) (l : List It) : Bool := (kfind x l).isSome
def kV (x : Int) (l : List It) : Value := match kfind x l with | some it => .slice it.a it.bs.length it.c | none => .slice none 0 0
def kS (x : Int) (l : List It) : List UInt8 := match kfind x l with | some it => it.bs | none => []
theorem kfind_at {x : Int} {l : List It} {j : Nat} (hj : j < l.length) (he : l[j].k = x) (hn : ∀ q (_ : q < j) (hq : q < l.length), l[q].k ≠ x) : kfind x l = some l[j] := by
  unfold kfind
  rw [List.find?_eq_some_iff_getElem]
  exact ⟨by simpa using he, j, hj, rfl, fun q hq => by simpa using hn q hq (by omega)⟩
theorem kfind_no {x : Int} {l : List It} (hn : ∀ q (hq : q < l.length), l[q].k ≠ x) : kfind x l = none := by
  unfold kfind
  rw [List.find?_eq_none]
  intro it hi
  obtain ⟨q, hq, rfl⟩ := List.getElem_of_mem hi
  simpa using hn q hq
theorem kV_form {w : World} {v : Value} {l : List It} (h : Sl w v l) (x : Int) : ∃ a c, kV x l = .slice a (kS x l).length c ∧ Rd8 w a (kS x l) ∧ (a = none → c = 0) := by
  unfold kV kS
  cases hf : kfind x l with
  | none => exact ⟨none, 0, rfl, Or.inl ⟨rfl, rfl⟩, fun _ => rfl⟩
  | some it =>
    have hm : it ∈ l := List.mem_of_find?_eq_some hf
    exact ⟨it.a, it.c, rfl, (h.2 it hm).1, (h.2 it hm).2⟩

set_option maxHeartbeats 4000000 in
set_option maxRecDepth 100000 in
theorem rkey_any (v : Value) (l : List It) (hl : l.length ≤ 100000) (x : Int) (w : World) (h : Sl w v l) :
    Calls Try.prog 11 #[v, .int .u64 x] w fun e w' => e = .returned (.tuple #[kV x l, .bool (kB x l)]) ∧ w' = w := by
  obtain ⟨va, vc, rfl, -, -⟩ := h.shape
  have H1 := hide h
  clear h
  generalize hn : l.length = n at *
  replace hn := hide hn
  go_enter Try.func11, Try.ntmps11
  go_wp2
  go_loopw [6] (fun i wr => ∃ j : Nat, j ≤ n ∧ i = .int .i64 (j : Int) ∧ wr = w ∧ Hid (∀ q (_ : q < j) (hq : q < l.length), l[q].k ≠ x)) (fun i _ => n - (intOf i).toNat)
  case atStart => exact ⟨0, by omega, rfl, rfl, fun q h _ => by omega⟩
  case round =>
    obtain ⟨j, hj, rfl, rfl, HQ⟩ := hrel
    by_cases hlt : j < n
    · have hjl : j < l.length := by rw [hn.out]; exact hlt
      obtain ⟨g, k, c, ev, -, -, h2, h3⟩ := H1.out.cells j hjl
      injection ev with ev el ec
      clear el
      subst ev ec
      by_cases hk : l[j].k = x
      · have hE : Hid (kV x l = .slice l[j].a l[j].bs.length l[j].c ∧ kB x l = true) := by
          have hf := kfind_at hjl hk HQ.out
          exact ⟨by unfold kV; rw [hf], by unfold kB; rw [hf]; rfl⟩
        rw [hk] at h2
        clear hk
        generalize l[j].a = xa at *
        generalize l[j].bs.length = xn at *
        generalize l[j].c = xc at *
        go_wp2
        go_ret2
        exact ⟨by rw [hE.out.1, hE.out.2]; rfl, rfl⟩
      · have HQ2 : Hid (∀ q (_ : q < j + 1) (hq : q < l.length), l[q].k ≠ x) := fun q h1 h2 => by
          by_cases e : q = j
          · subst e; exact hk
          · exact HQ.out q (by omega) h2
        have hk2 : (l[j].k == x) = false := by simpa using hk
        clear hk
        generalize l[j].k = y at *
        clear h3
        go_wp2
        exact ⟨⟨j + 1, by omega, by simp, trivial, HQ2⟩, by simp [intOf]; omega⟩
    · have hE : Hid (kV x l = .slice none 0 0 ∧ kB x l = false) := by
        have hf : kfind x l = none := kfind_no fun q hq => HQ.out q (by rw [hn.out] at hq; omega) hq
        exact ⟨by unfold kV; rw [hf], by unfold kB; rw [hf]; rfl⟩
      go_wp2
      go_ret2
      exact ⟨by rw [hE.out.1, hE.out.2]; rfl, rfl⟩

/-- Are these items the same? -/
def sameL (l m : List It) : Bool := l.map It.val == m.map It.val
theorem sameL_len {l m : List It} (h : l.length ≠ m.length) : sameL l m = false := by
  unfold sameL
  rw [beq_eq_false_iff_ne]
  intro he
  have := congrArg List.length he
  simp at this
  exact h this
theorem sameL_at {l m : List It} {j : Nat} (hl : j < l.length) (hm : j < m.length) (h : ¬(l[j].k = m[j].k ∧ l[j].bs = m[j].bs)) : sameL l m = false := by
  unfold sameL
  rw [beq_eq_false_iff_ne]
  intro he
  apply h
  have h1 : (l.map It.val)[j]? = (m.map It.val)[j]? := by rw [he]
  rw [List.getElem?_map, List.getElem?_map, List.getElem?_eq_getElem hl, List.getElem?_eq_getElem hm] at h1
  simp [It.val] at h1
  exact h1
theorem sameL_all {l m : List It} (hl : l.length = m.length) (h : ∀ q (h1 : q < l.length) (h2 : q < m.length), l[q].k = m[q].k ∧ l[q].bs = m[q].bs) : sameL l m = true := by
  unfold sameL
  rw [beq_iff_eq]
  apply List.ext_getElem
  · simp [hl]
  · intro q h1 h2
    simp at h1 h2
    obtain ⟨e1, e2⟩ := h q h1 h2
    simp [It.val, e1, e2]

set_option maxHeartbeats 4000000 in
set_option maxRecDepth 100000 in
theorem rsame_any (v v2 : Value) (l m : List It) (hl : l.length ≤ 100000) (w : World) (h : Sl w v l) (hm : Sl w v2 m) :
    Calls Try.prog 19 #[v, v2] w fun e w' => e = .returned (.bool (sameL l m)) ∧ Below w.heap.size w w' := by
  have mixed : Try.prog.follows .mixedOrders = true := by kernel_rfl
  obtain ⟨va, vc, rfl, -, -⟩ := h.shape
  obtain ⟨va2, vc2, rfl, -, -⟩ := hm.shape
  have H1 := hide h
  have H2 := hide hm
  clear h hm
  by_cases hlm : l.length = m.length
  rotate_left
  · have hE : Hid (sameL l m = false) := sameL_len hlm
    have hd : ((l.length : Int) == (m.length : Int)) = false := by simp; omega
    clear H1 H2
    generalize l.length = n at *
    generalize m.length = n2 at *
    go_enter Try.func19, Try.ntmps19
    go_wp2
    go_ret
    exact ⟨by rw [hE.out]; rfl, Below.refl _ _⟩
  have HL := hide hlm
  rw [← hlm] at H2 ⊢
  clear hlm
  generalize hn : l.length = n at *
  replace hn := hide hn
  go_enter Try.func19, Try.ntmps19
  go_wp2
  go_loopw [5] (fun i wr => ∃ j : Nat, j ≤ n ∧ i = .int .i64 (j : Int) ∧ Hid (Below w.heap.size w wr) ∧ Hid (∀ q (_ : q < j) (h1 : q < l.length) (h2 : q < m.length), l[q].k = m[q].k ∧ l[q].bs = m[q].bs)) (fun i _ => n - (intOf i).toNat)
  case atStart => exact ⟨0, by omega, rfl, Below.refl _ _, fun q h _ _ => by omega⟩
  case round =>
    obtain ⟨j, hj, rfl, HB, HQ⟩ := hrel
    by_cases hlt : j < n
    · have hjl : j < l.length := by rw [hn.out]; exact hlt
      have hjm : j < m.length := by rw [← HL.out]; exact hlt
      obtain ⟨g, k, c, ev, -, -, h2, h3⟩ := (H1.out.below HB.out).cells j hjl
      injection ev with ev el ec
      clear el
      subst ev ec
      obtain ⟨g2, k2, c2, ev2, -, -, h4, h5⟩ := (H2.out.below HB.out).cells j hjm
      injection ev2 with ev2 el2 ec2
      clear el2
      subst ev2 ec2
      have r1 := (H1.out.below HB.out).2 _ (List.getElem_mem hjl)
      have r2 := (H2.out.below HB.out).2 _ (List.getElem_mem hjm)
      obtain ⟨S1, e1, t1⟩ := conv_S r1.1 r1.2
      obtain ⟨S2, e2, t2⟩ := conv_S r2.1 r2.2
      replace t1 := t1 wr.drew ((Below.refl _ wr).drew)
      replace t2 := t2 wr.drew ((Below.refl _ wr).drew)
      have HS : Hid ((S1.toList == S2.toList) = (l[j].bs == m[j].bs)) := by show _ = _; rw [e1, e2]
      clear e1 e2 r1 r2
      by_cases hk : l[j].k = m[j].k
      · by_cases hb : l[j].bs = m[j].bs
        · have hSE : Hid ((S1.toList == S2.toList) = true) := by show _ = _; rw [HS.out]; simpa using hb
          have HQ2 : Hid (∀ q (_ : q < j + 1) (h1 : q < l.length) (h2 : q < m.length), l[q].k = m[q].k ∧ l[q].bs = m[q].bs) := fun q h1 h2 h3 => by
            by_cases e : q = j
            · subst e; exact ⟨hk, hb⟩
            · exact HQ.out q (by omega) h2 h3
          clear HS
          replace hk := hide hk
          replace hb := hide hb
          generalize l[j].k = x at *
          generalize m[j].k = y at *
          generalize l[j].a = xa at *
          generalize l[j].bs.length = xn at *
          generalize l[j].c = xc at *
          generalize m[j].a = ya at *
          generalize m[j].bs.length = yn at *
          generalize m[j].c = yc at *
          go_wp2
          refine regionL 26 (fun w' => w'.cell? ⟨g, k + j * 2, none⟩ = some (.int .u64 x) ∧ w'.cell? ⟨g, k + j * 2 + 1, none⟩ = some (.slice xa xn xc) ∧ w'.cell? ⟨g2, k2 + j * 2, none⟩ = some (.int .u64 y) ∧ w'.cell? ⟨g2, k2 + j * 2 + 1, none⟩ = some (.slice ya yn yc) ∧ (convert 25 9 (.slice xa xn xc)).run Try.prog w' = .ok (.string S1) w' ∧ (convert 25 9 (.slice ya yn yc)).run Try.prog w' = .ok (.string S2) w') mixed ⟨h2, h3, h4, h5, t1, t2⟩ (fun hHeld => ?_)
          refine pickA (v := ?_) 0 (some 17) rfl rfl (by kernel_rfl) (by kernel_rfl) (by kernel_rfl) (by decide) (fun _ _ _ h => h) (by rfl) ?_ (by assumption) ?_
          rotate_left
          · intro w'
            go_simp
            try with_reducible rfl
          try simp only [Act.put, List.setIfInBounds_toArray, List.set_cons_zero, List.set_cons_succ]
          refine pickA (v := ?_) 1 (some 18) rfl rfl (by kernel_rfl) (by kernel_rfl) (by kernel_rfl) (by decide) (fun _ _ _ h => h) (by rfl) ?_ (by assumption) ?_
          rotate_left
          · intro w'
            go_simp
            try with_reducible rfl
          try simp only [Act.put, List.setIfInBounds_toArray, List.set_cons_zero, List.set_cons_succ]
          refine pickA (v := ?_) 2 (some 19) rfl rfl (by kernel_rfl) (by kernel_rfl) (by kernel_rfl) (by decide) (fun _ _ _ h => h) (by rfl) ?_ (by assumption) ?_
          rotate_left
          · intro w'
            go_simp
            try with_reducible rfl
          try simp only [Act.put, List.setIfInBounds_toArray, List.set_cons_zero, List.set_cons_succ]
          refine pickA (v := ?_) 3 (some 20) rfl rfl (by kernel_rfl) (by kernel_rfl) (by kernel_rfl) (by decide) (fun _ _ _ h => h) (by rfl) ?_ (by assumption) ?_
          rotate_left
          · intro w'
            go_simp
            try with_reducible rfl
          try simp only [Act.put, List.setIfInBounds_toArray, List.set_cons_zero, List.set_cons_succ]
          refine pickL (v := ?_) 4 (some 21) rfl rfl (by kernel_rfl) (by kernel_rfl) (by kernel_rfl) (by decide) (by kernel_rfl) (by kernel_rfl) (fun _ _ _ h => h) (by rfl) ?_ (by assumption) ?_
          rotate_left
          · intro w' hSw
            obtain ⟨q0, q1, q2, q3, q4, q5⟩ := hSw
            go_simp
            try with_reducible rfl
          try simp only [Act.put, List.setIfInBounds_toArray, List.set_cons_zero, List.set_cons_succ]
          refine pickA (v := ?_) 5 (some 22) rfl rfl (by kernel_rfl) (by kernel_rfl) (by kernel_rfl) (by decide) (fun _ _ _ h => h) (by rfl) ?_ (by assumption) ?_
          rotate_left
          · intro w'
            go_simp
            try with_reducible rfl
          try simp only [Act.put, List.setIfInBounds_toArray, List.set_cons_zero, List.set_cons_succ]
          refine pickA (v := ?_) 6 (some 23) rfl rfl (by kernel_rfl) (by kernel_rfl) (by kernel_rfl) (by decide) (fun _ _ _ h => h) (by rfl) ?_ (by assumption) ?_
          rotate_left
          · intro w'
            go_simp
            try with_reducible rfl
          try simp only [Act.put, List.setIfInBounds_toArray, List.set_cons_zero, List.set_cons_succ]
          refine pickA (v := ?_) 7 (some 24) rfl rfl (by kernel_rfl) (by kernel_rfl) (by kernel_rfl) (by decide) (fun _ _ _ h => h) (by rfl) ?_ (by assumption) ?_
          rotate_left
          · intro w'
            go_simp
            try with_reducible rfl
          try simp only [Act.put, List.setIfInBounds_toArray, List.set_cons_zero, List.set_cons_succ]
          refine pickA (v := ?_) 8 (some 25) rfl rfl (by kernel_rfl) (by kernel_rfl) (by kernel_rfl) (by decide) (fun _ _ _ h => h) (by rfl) ?_ (by assumption) ?_
          rotate_left
          · intro w'
            go_simp
            try with_reducible rfl
          try simp only [Act.put, List.setIfInBounds_toArray, List.set_cons_zero, List.set_cons_succ]
          refine pickL (v := ?_) 9 (some 26) rfl rfl (by kernel_rfl) (by kernel_rfl) (by kernel_rfl) (by decide) (by kernel_rfl) (by kernel_rfl) (fun _ _ _ h => h) (by rfl) ?_ (by assumption) ?_
          rotate_left
          · intro w' hSw
            obtain ⟨q0, q1, q2, q3, q4, q5⟩ := hSw
            go_simp
            try with_reducible rfl
          try simp only [Act.put, List.setIfInBounds_toArray, List.set_cons_zero, List.set_cons_succ]
          refine pickA (v := .bool false) 10 (some 27) rfl rfl (by kernel_rfl) (by kernel_rfl) (by kernel_rfl) (by decide) (fun _ _ _ h => h) (by rfl) ?_ (by assumption) ?_
          · intro w'
            go_simp
            all_goals simp [hk.out]
          try simp only [Act.put, List.setIfInBounds_toArray, List.set_cons_zero, List.set_cons_succ]
          refine pickA (v := ?_) 11 (some 28) rfl rfl (by kernel_rfl) (by kernel_rfl) (by kernel_rfl) (by decide) (fun _ _ _ h => h) (by rfl) ?_ (by assumption) ?_
          rotate_left
          · intro w'
            go_simp
            try with_reducible rfl
          try simp only [Act.put, List.setIfInBounds_toArray, List.set_cons_zero, List.set_cons_succ]
          refine pickA (v := ?_) 12 (some 29) rfl rfl (by kernel_rfl) (by kernel_rfl) (by kernel_rfl) (by decide) (fun _ _ _ h => h) (by rfl) ?_ (by assumption) ?_
          rotate_left
          · intro w'
            go_simp
            try with_reducible rfl
          try simp only [Act.put, List.setIfInBounds_toArray, List.set_cons_zero, List.set_cons_succ]
          refine pickA (v := ?_) 13 (some 30) rfl rfl (by kernel_rfl) (by kernel_rfl) (by kernel_rfl) (by decide) (fun _ _ _ h => h) (by rfl) ?_ (by assumption) ?_
          rotate_left
          · intro w'
            go_simp
            try with_reducible rfl
          try simp only [Act.put, List.setIfInBounds_toArray, List.set_cons_zero, List.set_cons_succ]
          refine pickA (v := ?_) 14 (some 31) rfl rfl (by kernel_rfl) (by kernel_rfl) (by kernel_rfl) (by decide) (fun _ _ _ h => h) (by rfl) ?_ (by assumption) ?_
          rotate_left
          · intro w'
            go_simp
            try with_reducible rfl
          try simp only [Act.put, List.setIfInBounds_toArray, List.set_cons_zero, List.set_cons_succ]
          refine pickA (v := ?_) 15 (some 32) rfl rfl (by kernel_rfl) (by kernel_rfl) (by kernel_rfl) (by decide) (fun _ _ _ h => h) (by rfl) ?_ (by assumption) ?_
          rotate_left
          · intro w'
            go_simp
            try with_reducible rfl
          try simp only [Act.put, List.setIfInBounds_toArray, List.set_cons_zero, List.set_cons_succ]
          refine pickL (v := ?_) 16 (some 33) rfl rfl (by kernel_rfl) (by kernel_rfl) (by kernel_rfl) (by decide) (by kernel_rfl) (by kernel_rfl) (fun _ _ _ h => h) (by rfl) ?_ (by assumption) ?_
          rotate_left
          · intro w' hSw
            obtain ⟨q0, q1, q2, q3, q4, q5⟩ := hSw
            go_simp
            try with_reducible rfl
          try simp only [Act.put, List.setIfInBounds_toArray, List.set_cons_zero, List.set_cons_succ]
          refine pickL (v := ?_) 17 (some 34) rfl rfl (by kernel_rfl) (by kernel_rfl) (by kernel_rfl) (by decide) (by kernel_rfl) (by kernel_rfl) (fun _ _ _ h => h) (by rfl) ?_ (by assumption) ?_
          rotate_left
          · intro w' hSw
            obtain ⟨q0, q1, q2, q3, q4, q5⟩ := hSw
            go_simp
            try with_reducible rfl
          try simp only [Act.put, List.setIfInBounds_toArray, List.set_cons_zero, List.set_cons_succ]
          refine pickA (v := ?_) 18 (some 35) rfl rfl (by kernel_rfl) (by kernel_rfl) (by kernel_rfl) (by decide) (fun _ _ _ h => h) (by rfl) ?_ (by assumption) ?_
          rotate_left
          · intro w'
            go_simp
            try with_reducible rfl
          try simp only [Act.put, List.setIfInBounds_toArray, List.set_cons_zero, List.set_cons_succ]
          refine pickA (v := ?_) 19 (some 36) rfl rfl (by kernel_rfl) (by kernel_rfl) (by kernel_rfl) (by decide) (fun _ _ _ h => h) (by rfl) ?_ (by assumption) ?_
          rotate_left
          · intro w'
            go_simp
            try with_reducible rfl
          try simp only [Act.put, List.setIfInBounds_toArray, List.set_cons_zero, List.set_cons_succ]
          refine pickA (v := ?_) 20 (some 37) rfl rfl (by kernel_rfl) (by kernel_rfl) (by kernel_rfl) (by decide) (fun _ _ _ h => h) (by rfl) ?_ (by assumption) ?_
          rotate_left
          · intro w'
            go_simp
            try with_reducible rfl
          try simp only [Act.put, List.setIfInBounds_toArray, List.set_cons_zero, List.set_cons_succ]
          refine pickA (v := ?_) 21 (some 38) rfl rfl (by kernel_rfl) (by kernel_rfl) (by kernel_rfl) (by decide) (fun _ _ _ h => h) (by rfl) ?_ (by assumption) ?_
          rotate_left
          · intro w'
            go_simp
            try with_reducible rfl
          try simp only [Act.put, List.setIfInBounds_toArray, List.set_cons_zero, List.set_cons_succ]
          refine pickL (v := ?_) 22 (some 39) rfl rfl (by kernel_rfl) (by kernel_rfl) (by kernel_rfl) (by decide) (by kernel_rfl) (by kernel_rfl) (fun _ _ _ h => h) (by rfl) ?_ (by assumption) ?_
          rotate_left
          · intro w' hSw
            obtain ⟨q0, q1, q2, q3, q4, q5⟩ := hSw
            go_simp
            try with_reducible rfl
          try simp only [Act.put, List.setIfInBounds_toArray, List.set_cons_zero, List.set_cons_succ]
          refine pickL (v := ?_) 23 (some 40) rfl rfl (by kernel_rfl) (by kernel_rfl) (by kernel_rfl) (by decide) (by kernel_rfl) (by kernel_rfl) (fun _ _ _ h => h) (by rfl) ?_ (by assumption) ?_
          rotate_left
          · intro w' hSw
            obtain ⟨q0, q1, q2, q3, q4, q5⟩ := hSw
            go_simp
            try with_reducible rfl
          try simp only [Act.put, List.setIfInBounds_toArray, List.set_cons_zero, List.set_cons_succ]
          refine pickA (v := .bool false) 24 (some 41) rfl rfl (by kernel_rfl) (by kernel_rfl) (by kernel_rfl) (by decide) (fun _ _ _ h => h) (by rfl) ?_ (by assumption) ?_
          · intro w'
            go_simp
            all_goals (have hz := hSE.out; simp at hz; first | exact hz | simp [hz])
          try simp only [Act.put, List.setIfInBounds_toArray, List.set_cons_zero, List.set_cons_succ]
          refine pickA (v := ?_) 25 (some 42) rfl rfl (by kernel_rfl) (by kernel_rfl) (by kernel_rfl) (by decide) (fun _ _ _ h => h) (by rfl) ?_ (by assumption) ?_
          rotate_left
          · intro w'
            go_simp
            try with_reducible rfl
          try simp only [Act.put, List.setIfInBounds_toArray, List.set_cons_zero, List.set_cons_succ]
          refine doneL (by kernel_rfl) ?_ _
          clear hHeld
          go_wp2
          exact ⟨⟨j + 1, by omega, by simp, HB.out.trans (((Below.refl _ wr).drew).mono HB.out.size), HQ2⟩, by simp [intOf]; omega⟩
        · have hSE : Hid ((S1.toList == S2.toList) = false) := by show _ = _; rw [HS.out]; simpa using hb
          have hE : Hid (sameL l m = false) := sameL_at hjl hjm (fun h => hb h.2)
          clear HS
          replace hk := hide hk
          clear hb
          generalize l[j].k = x at *
          generalize m[j].k = y at *
          generalize l[j].a = xa at *
          generalize l[j].bs.length = xn at *
          generalize l[j].c = xc at *
          generalize m[j].a = ya at *
          generalize m[j].bs.length = yn at *
          generalize m[j].c = yc at *
          go_wp2
          refine regionL 26 (fun w' => w'.cell? ⟨g, k + j * 2, none⟩ = some (.int .u64 x) ∧ w'.cell? ⟨g, k + j * 2 + 1, none⟩ = some (.slice xa xn xc) ∧ w'.cell? ⟨g2, k2 + j * 2, none⟩ = some (.int .u64 y) ∧ w'.cell? ⟨g2, k2 + j * 2 + 1, none⟩ = some (.slice ya yn yc) ∧ (convert 25 9 (.slice xa xn xc)).run Try.prog w' = .ok (.string S1) w' ∧ (convert 25 9 (.slice ya yn yc)).run Try.prog w' = .ok (.string S2) w') mixed ⟨h2, h3, h4, h5, t1, t2⟩ (fun hHeld => ?_)
          refine pickA (v := ?_) 0 (some 17) rfl rfl (by kernel_rfl) (by kernel_rfl) (by kernel_rfl) (by decide) (fun _ _ _ h => h) (by rfl) ?_ (by assumption) ?_
          rotate_left
          · intro w'
            go_simp
            try with_reducible rfl
          try simp only [Act.put, List.setIfInBounds_toArray, List.set_cons_zero, List.set_cons_succ]
          refine pickA (v := ?_) 1 (some 18) rfl rfl (by kernel_rfl) (by kernel_rfl) (by kernel_rfl) (by decide) (fun _ _ _ h => h) (by rfl) ?_ (by assumption) ?_
          rotate_left
          · intro w'
            go_simp
            try with_reducible rfl
          try simp only [Act.put, List.setIfInBounds_toArray, List.set_cons_zero, List.set_cons_succ]
          refine pickA (v := ?_) 2 (some 19) rfl rfl (by kernel_rfl) (by kernel_rfl) (by kernel_rfl) (by decide) (fun _ _ _ h => h) (by rfl) ?_ (by assumption) ?_
          rotate_left
          · intro w'
            go_simp
            try with_reducible rfl
          try simp only [Act.put, List.setIfInBounds_toArray, List.set_cons_zero, List.set_cons_succ]
          refine pickA (v := ?_) 3 (some 20) rfl rfl (by kernel_rfl) (by kernel_rfl) (by kernel_rfl) (by decide) (fun _ _ _ h => h) (by rfl) ?_ (by assumption) ?_
          rotate_left
          · intro w'
            go_simp
            try with_reducible rfl
          try simp only [Act.put, List.setIfInBounds_toArray, List.set_cons_zero, List.set_cons_succ]
          refine pickL (v := ?_) 4 (some 21) rfl rfl (by kernel_rfl) (by kernel_rfl) (by kernel_rfl) (by decide) (by kernel_rfl) (by kernel_rfl) (fun _ _ _ h => h) (by rfl) ?_ (by assumption) ?_
          rotate_left
          · intro w' hSw
            obtain ⟨q0, q1, q2, q3, q4, q5⟩ := hSw
            go_simp
            try with_reducible rfl
          try simp only [Act.put, List.setIfInBounds_toArray, List.set_cons_zero, List.set_cons_succ]
          refine pickA (v := ?_) 5 (some 22) rfl rfl (by kernel_rfl) (by kernel_rfl) (by kernel_rfl) (by decide) (fun _ _ _ h => h) (by rfl) ?_ (by assumption) ?_
          rotate_left
          · intro w'
            go_simp
            try with_reducible rfl
          try simp only [Act.put, List.setIfInBounds_toArray, List.set_cons_zero, List.set_cons_succ]
          refine pickA (v := ?_) 6 (some 23) rfl rfl (by kernel_rfl) (by kernel_rfl) (by kernel_rfl) (by decide) (fun _ _ _ h => h) (by rfl) ?_ (by assumption) ?_
          rotate_left
          · intro w'
            go_simp
            try with_reducible rfl
          try simp only [Act.put, List.setIfInBounds_toArray, List.set_cons_zero, List.set_cons_succ]
          refine pickA (v := ?_) 7 (some 24) rfl rfl (by kernel_rfl) (by kernel_rfl) (by kernel_rfl) (by decide) (fun _ _ _ h => h) (by rfl) ?_ (by assumption) ?_
          rotate_left
          · intro w'
            go_simp
            try with_reducible rfl
          try simp only [Act.put, List.setIfInBounds_toArray, List.set_cons_zero, List.set_cons_succ]
          refine pickA (v := ?_) 8 (some 25) rfl rfl (by kernel_rfl) (by kernel_rfl) (by kernel_rfl) (by decide) (fun _ _ _ h => h) (by rfl) ?_ (by assumption) ?_
          rotate_left
          · intro w'
            go_simp
            try with_reducible rfl
          try simp only [Act.put, List.setIfInBounds_toArray, List.set_cons_zero, List.set_cons_succ]
          refine pickL (v := ?_) 9 (some 26) rfl rfl (by kernel_rfl) (by kernel_rfl) (by kernel_rfl) (by decide) (by kernel_rfl) (by kernel_rfl) (fun _ _ _ h => h) (by rfl) ?_ (by assumption) ?_
          rotate_left
          · intro w' hSw
            obtain ⟨q0, q1, q2, q3, q4, q5⟩ := hSw
            go_simp
            try with_reducible rfl
          try simp only [Act.put, List.setIfInBounds_toArray, List.set_cons_zero, List.set_cons_succ]
          refine pickA (v := .bool false) 10 (some 27) rfl rfl (by kernel_rfl) (by kernel_rfl) (by kernel_rfl) (by decide) (fun _ _ _ h => h) (by rfl) ?_ (by assumption) ?_
          · intro w'
            go_simp
            all_goals simp [hk.out]
          try simp only [Act.put, List.setIfInBounds_toArray, List.set_cons_zero, List.set_cons_succ]
          refine pickA (v := ?_) 11 (some 28) rfl rfl (by kernel_rfl) (by kernel_rfl) (by kernel_rfl) (by decide) (fun _ _ _ h => h) (by rfl) ?_ (by assumption) ?_
          rotate_left
          · intro w'
            go_simp
            try with_reducible rfl
          try simp only [Act.put, List.setIfInBounds_toArray, List.set_cons_zero, List.set_cons_succ]
          refine pickA (v := ?_) 12 (some 29) rfl rfl (by kernel_rfl) (by kernel_rfl) (by kernel_rfl) (by decide) (fun _ _ _ h => h) (by rfl) ?_ (by assumption) ?_
          rotate_left
          · intro w'
            go_simp
            try with_reducible rfl
          try simp only [Act.put, List.setIfInBounds_toArray, List.set_cons_zero, List.set_cons_succ]
          refine pickA (v := ?_) 13 (some 30) rfl rfl (by kernel_rfl) (by kernel_rfl) (by kernel_rfl) (by decide) (fun _ _ _ h => h) (by rfl) ?_ (by assumption) ?_
          rotate_left
          · intro w'
            go_simp
            try with_reducible rfl
          try simp only [Act.put, List.setIfInBounds_toArray, List.set_cons_zero, List.set_cons_succ]
          refine pickA (v := ?_) 14 (some 31) rfl rfl (by kernel_rfl) (by kernel_rfl) (by kernel_rfl) (by decide) (fun _ _ _ h => h) (by rfl) ?_ (by assumption) ?_
          rotate_left
          · intro w'
            go_simp
            try with_reducible rfl
          try simp only [Act.put, List.setIfInBounds_toArray, List.set_cons_zero, List.set_cons_succ]
          refine pickA (v := ?_) 15 (some 32) rfl rfl (by kernel_rfl) (by kernel_rfl) (by kernel_rfl) (by decide) (fun _ _ _ h => h) (by rfl) ?_ (by assumption) ?_
          rotate_left
          · intro w'
            go_simp
            try with_reducible rfl
          try simp only [Act.put, List.setIfInBounds_toArray, List.set_cons_zero, List.set_cons_succ]
          refine pickL (v := ?_) 16 (some 33) rfl rfl (by kernel_rfl) (by kernel_rfl) (by kernel_rfl) (by decide) (by kernel_rfl) (by kernel_rfl) (fun _ _ _ h => h) (by rfl) ?_ (by assumption) ?_
          rotate_left
          · intro w' hSw
            obtain ⟨q0, q1, q2, q3, q4, q5⟩ := hSw
            go_simp
            try with_reducible rfl
          try simp only [Act.put, List.setIfInBounds_toArray, List.set_cons_zero, List.set_cons_succ]
          refine pickL (v := ?_) 17 (some 34) rfl rfl (by kernel_rfl) (by kernel_rfl) (by kernel_rfl) (by decide) (by kernel_rfl) (by kernel_rfl) (fun _ _ _ h => h) (by rfl) ?_ (by assumption) ?_
          rotate_left
          · intro w' hSw
            obtain ⟨q0, q1, q2, q3, q4, q5⟩ := hSw
            go_simp
            try with_reducible rfl
          try simp only [Act.put, List.setIfInBounds_toArray, List.set_cons_zero, List.set_cons_succ]
          refine pickA (v := ?_) 18 (some 35) rfl rfl (by kernel_rfl) (by kernel_rfl) (by kernel_rfl) (by decide) (fun _ _ _ h => h) (by rfl) ?_ (by assumption) ?_
          rotate_left
          · intro w'
            go_simp
            try with_reducible rfl
          try simp only [Act.put, List.setIfInBounds_toArray, List.set_cons_zero, List.set_cons_succ]
          refine pickA (v := ?_) 19 (some 36) rfl rfl (by kernel_rfl) (by kernel_rfl) (by kernel_rfl) (by decide) (fun _ _ _ h => h) (by rfl) ?_ (by assumption) ?_
          rotate_left
          · intro w'
            go_simp
            try with_reducible rfl
          try simp only [Act.put, List.setIfInBounds_toArray, List.set_cons_zero, List.set_cons_succ]
          refine pickA (v := ?_) 20 (some 37) rfl rfl (by kernel_rfl) (by kernel_rfl) (by kernel_rfl) (by decide) (fun _ _ _ h => h) (by rfl) ?_ (by assumption) ?_
          rotate_left
          · intro w'
            go_simp
            try with_reducible rfl
          try simp only [Act.put, List.setIfInBounds_toArray, List.set_cons_zero, List.set_cons_succ]
          refine pickA (v := ?_) 21 (some 38) rfl rfl (by kernel_rfl) (by kernel_rfl) (by kernel_rfl) (by decide) (fun _ _ _ h => h) (by rfl) ?_ (by assumption) ?_
          rotate_left
          · intro w'
            go_simp
            try with_reducible rfl
          try simp only [Act.put, List.setIfInBounds_toArray, List.set_cons_zero, List.set_cons_succ]
          refine pickL (v := ?_) 22 (some 39) rfl rfl (by kernel_rfl) (by kernel_rfl) (by kernel_rfl) (by decide) (by kernel_rfl) (by kernel_rfl) (fun _ _ _ h => h) (by rfl) ?_ (by assumption) ?_
          rotate_left
          · intro w' hSw
            obtain ⟨q0, q1, q2, q3, q4, q5⟩ := hSw
            go_simp
            try with_reducible rfl
          try simp only [Act.put, List.setIfInBounds_toArray, List.set_cons_zero, List.set_cons_succ]
          refine pickL (v := ?_) 23 (some 40) rfl rfl (by kernel_rfl) (by kernel_rfl) (by kernel_rfl) (by decide) (by kernel_rfl) (by kernel_rfl) (fun _ _ _ h => h) (by rfl) ?_ (by assumption) ?_
          rotate_left
          · intro w' hSw
            obtain ⟨q0, q1, q2, q3, q4, q5⟩ := hSw
            go_simp
            try with_reducible rfl
          try simp only [Act.put, List.setIfInBounds_toArray, List.set_cons_zero, List.set_cons_succ]
          refine pickA (v := .bool true) 24 (some 41) rfl rfl (by kernel_rfl) (by kernel_rfl) (by kernel_rfl) (by decide) (fun _ _ _ h => h) (by rfl) ?_ (by assumption) ?_
          · intro w'
            go_simp
            all_goals (have hz := hSE.out; simp at hz; first | exact hz | simp [hz])
          try simp only [Act.put, List.setIfInBounds_toArray, List.set_cons_zero, List.set_cons_succ]
          refine pickA (v := ?_) 25 (some 42) rfl rfl (by kernel_rfl) (by kernel_rfl) (by kernel_rfl) (by decide) (fun _ _ _ h => h) (by rfl) ?_ (by assumption) ?_
          rotate_left
          · intro w'
            go_simp
            try with_reducible rfl
          try simp only [Act.put, List.setIfInBounds_toArray, List.set_cons_zero, List.set_cons_succ]
          refine doneL (by kernel_rfl) ?_ _
          clear hHeld
          go_wp2
          go_ret
          exact ⟨by rw [hE.out]; rfl, HB.out.trans (((Below.refl _ wr).drew).mono HB.out.size)⟩
      · have hE : Hid (sameL l m = false) := sameL_at hjl hjm (fun h => hk h.1)
        clear HS
        replace hk := hide hk
        generalize l[j].k = x at *
        generalize m[j].k = y at *
        generalize l[j].a = xa at *
        generalize l[j].bs.length = xn at *
        generalize l[j].c = xc at *
        generalize m[j].a = ya at *
        generalize m[j].bs.length = yn at *
        generalize m[j].c = yc at *
        go_wp2
        refine regionL 26 (fun w' => w'.cell? ⟨g, k + j * 2, none⟩ = some (.int .u64 x) ∧ w'.cell? ⟨g, k + j * 2 + 1, none⟩ = some (.slice xa xn xc) ∧ w'.cell? ⟨g2, k2 + j * 2, none⟩ = some (.int .u64 y) ∧ w'.cell? ⟨g2, k2 + j * 2 + 1, none⟩ = some (.slice ya yn yc) ∧ (convert 25 9 (.slice xa xn xc)).run Try.prog w' = .ok (.string S1) w' ∧ (convert 25 9 (.slice ya yn yc)).run Try.prog w' = .ok (.string S2) w') mixed ⟨h2, h3, h4, h5, t1, t2⟩ (fun hHeld => ?_)
        refine pickA (v := ?_) 0 (some 17) rfl rfl (by kernel_rfl) (by kernel_rfl) (by kernel_rfl) (by decide) (fun _ _ _ h => h) (by rfl) ?_ (by assumption) ?_
        rotate_left
        · intro w'
          go_simp
          try with_reducible rfl
        try simp only [Act.put, List.setIfInBounds_toArray, List.set_cons_zero, List.set_cons_succ]
        refine pickA (v := ?_) 1 (some 18) rfl rfl (by kernel_rfl) (by kernel_rfl) (by kernel_rfl) (by decide) (fun _ _ _ h => h) (by rfl) ?_ (by assumption) ?_
        rotate_left
        · intro w'
          go_simp
          try with_reducible rfl
        try simp only [Act.put, List.setIfInBounds_toArray, List.set_cons_zero, List.set_cons_succ]
        refine pickA (v := ?_) 2 (some 19) rfl rfl (by kernel_rfl) (by kernel_rfl) (by kernel_rfl) (by decide) (fun _ _ _ h => h) (by rfl) ?_ (by assumption) ?_
        rotate_left
        · intro w'
          go_simp
          try with_reducible rfl
        try simp only [Act.put, List.setIfInBounds_toArray, List.set_cons_zero, List.set_cons_succ]
        refine pickA (v := ?_) 3 (some 20) rfl rfl (by kernel_rfl) (by kernel_rfl) (by kernel_rfl) (by decide) (fun _ _ _ h => h) (by rfl) ?_ (by assumption) ?_
        rotate_left
        · intro w'
          go_simp
          try with_reducible rfl
        try simp only [Act.put, List.setIfInBounds_toArray, List.set_cons_zero, List.set_cons_succ]
        refine pickL (v := ?_) 4 (some 21) rfl rfl (by kernel_rfl) (by kernel_rfl) (by kernel_rfl) (by decide) (by kernel_rfl) (by kernel_rfl) (fun _ _ _ h => h) (by rfl) ?_ (by assumption) ?_
        rotate_left
        · intro w' hSw
          obtain ⟨q0, q1, q2, q3, q4, q5⟩ := hSw
          go_simp
          try with_reducible rfl
        try simp only [Act.put, List.setIfInBounds_toArray, List.set_cons_zero, List.set_cons_succ]
        refine pickA (v := ?_) 5 (some 22) rfl rfl (by kernel_rfl) (by kernel_rfl) (by kernel_rfl) (by decide) (fun _ _ _ h => h) (by rfl) ?_ (by assumption) ?_
        rotate_left
        · intro w'
          go_simp
          try with_reducible rfl
        try simp only [Act.put, List.setIfInBounds_toArray, List.set_cons_zero, List.set_cons_succ]
        refine pickA (v := ?_) 6 (some 23) rfl rfl (by kernel_rfl) (by kernel_rfl) (by kernel_rfl) (by decide) (fun _ _ _ h => h) (by rfl) ?_ (by assumption) ?_
        rotate_left
        · intro w'
          go_simp
          try with_reducible rfl
        try simp only [Act.put, List.setIfInBounds_toArray, List.set_cons_zero, List.set_cons_succ]
        refine pickA (v := ?_) 7 (some 24) rfl rfl (by kernel_rfl) (by kernel_rfl) (by kernel_rfl) (by decide) (fun _ _ _ h => h) (by rfl) ?_ (by assumption) ?_
        rotate_left
        · intro w'
          go_simp
          try with_reducible rfl
        try simp only [Act.put, List.setIfInBounds_toArray, List.set_cons_zero, List.set_cons_succ]
        refine pickA (v := ?_) 8 (some 25) rfl rfl (by kernel_rfl) (by kernel_rfl) (by kernel_rfl) (by decide) (fun _ _ _ h => h) (by rfl) ?_ (by assumption) ?_
        rotate_left
        · intro w'
          go_simp
          try with_reducible rfl
        try simp only [Act.put, List.setIfInBounds_toArray, List.set_cons_zero, List.set_cons_succ]
        refine pickL (v := ?_) 9 (some 26) rfl rfl (by kernel_rfl) (by kernel_rfl) (by kernel_rfl) (by decide) (by kernel_rfl) (by kernel_rfl) (fun _ _ _ h => h) (by rfl) ?_ (by assumption) ?_
        rotate_left
        · intro w' hSw
          obtain ⟨q0, q1, q2, q3, q4, q5⟩ := hSw
          go_simp
          try with_reducible rfl
        try simp only [Act.put, List.setIfInBounds_toArray, List.set_cons_zero, List.set_cons_succ]
        refine pickA (v := .bool true) 10 (some 27) rfl rfl (by kernel_rfl) (by kernel_rfl) (by kernel_rfl) (by decide) (fun _ _ _ h => h) (by rfl) ?_ (by assumption) ?_
        · intro w'
          go_simp
          all_goals simp [hk.out]
        try simp only [Act.put, List.setIfInBounds_toArray, List.set_cons_zero, List.set_cons_succ]
        refine pickA (v := ?_) 11 (some 28) rfl rfl (by kernel_rfl) (by kernel_rfl) (by kernel_rfl) (by decide) (fun _ _ _ h => h) (by rfl) ?_ (by assumption) ?_
        rotate_left
        · intro w'
          go_simp
          try with_reducible rfl
        try simp only [Act.put, List.setIfInBounds_toArray, List.set_cons_zero, List.set_cons_succ]
        refine pickN 12 (some 29) rfl rfl (by kernel_rfl) (by kernel_rfl) (by kernel_rfl) (by decide) (fun _ _ _ h => h) (by rfl) (by assumption) ?_
        try simp only [Act.put, List.setIfInBounds_toArray, List.set_cons_zero, List.set_cons_succ]
        refine pickN 13 (some 30) rfl rfl (by kernel_rfl) (by kernel_rfl) (by kernel_rfl) (by decide) (fun _ _ _ h => h) (by rfl) (by assumption) ?_
        try simp only [Act.put, List.setIfInBounds_toArray, List.set_cons_zero, List.set_cons_succ]
        refine pickN 14 (some 31) rfl rfl (by kernel_rfl) (by kernel_rfl) (by kernel_rfl) (by decide) (fun _ _ _ h => h) (by rfl) (by assumption) ?_
        try simp only [Act.put, List.setIfInBounds_toArray, List.set_cons_zero, List.set_cons_succ]
        refine pickN 15 (some 32) rfl rfl (by kernel_rfl) (by kernel_rfl) (by kernel_rfl) (by decide) (fun _ _ _ h => h) (by rfl) (by assumption) ?_
        try simp only [Act.put, List.setIfInBounds_toArray, List.set_cons_zero, List.set_cons_succ]
        refine pickN 16 (some 33) rfl rfl (by kernel_rfl) (by kernel_rfl) (by kernel_rfl) (by decide) (fun _ _ _ h => h) (by rfl) (by assumption) ?_
        try simp only [Act.put, List.setIfInBounds_toArray, List.set_cons_zero, List.set_cons_succ]
        refine pickN 17 (some 34) rfl rfl (by kernel_rfl) (by kernel_rfl) (by kernel_rfl) (by decide) (fun _ _ _ h => h) (by rfl) (by assumption) ?_
        try simp only [Act.put, List.setIfInBounds_toArray, List.set_cons_zero, List.set_cons_succ]
        refine pickN 18 (some 35) rfl rfl (by kernel_rfl) (by kernel_rfl) (by kernel_rfl) (by decide) (fun _ _ _ h => h) (by rfl) (by assumption) ?_
        try simp only [Act.put, List.setIfInBounds_toArray, List.set_cons_zero, List.set_cons_succ]
        refine pickN 19 (some 36) rfl rfl (by kernel_rfl) (by kernel_rfl) (by kernel_rfl) (by decide) (fun _ _ _ h => h) (by rfl) (by assumption) ?_
        try simp only [Act.put, List.setIfInBounds_toArray, List.set_cons_zero, List.set_cons_succ]
        refine pickN 20 (some 37) rfl rfl (by kernel_rfl) (by kernel_rfl) (by kernel_rfl) (by decide) (fun _ _ _ h => h) (by rfl) (by assumption) ?_
        try simp only [Act.put, List.setIfInBounds_toArray, List.set_cons_zero, List.set_cons_succ]
        refine pickN 21 (some 38) rfl rfl (by kernel_rfl) (by kernel_rfl) (by kernel_rfl) (by decide) (fun _ _ _ h => h) (by rfl) (by assumption) ?_
        try simp only [Act.put, List.setIfInBounds_toArray, List.set_cons_zero, List.set_cons_succ]
        refine pickN 22 (some 39) rfl rfl (by kernel_rfl) (by kernel_rfl) (by kernel_rfl) (by decide) (fun _ _ _ h => h) (by rfl) (by assumption) ?_
        try simp only [Act.put, List.setIfInBounds_toArray, List.set_cons_zero, List.set_cons_succ]
        refine pickN 23 (some 40) rfl rfl (by kernel_rfl) (by kernel_rfl) (by kernel_rfl) (by decide) (fun _ _ _ h => h) (by rfl) (by assumption) ?_
        try simp only [Act.put, List.setIfInBounds_toArray, List.set_cons_zero, List.set_cons_succ]
        refine pickN 24 (some 41) rfl rfl (by kernel_rfl) (by kernel_rfl) (by kernel_rfl) (by decide) (fun _ _ _ h => h) (by rfl) (by assumption) ?_
        try simp only [Act.put, List.setIfInBounds_toArray, List.set_cons_zero, List.set_cons_succ]
        refine pickA (v := ?_) 25 (some 42) rfl rfl (by kernel_rfl) (by kernel_rfl) (by kernel_rfl) (by decide) (fun _ _ _ h => h) (by rfl) ?_ (by assumption) ?_
        rotate_left
        · intro w'
          go_simp
          try with_reducible rfl
        try simp only [Act.put, List.setIfInBounds_toArray, List.set_cons_zero, List.set_cons_succ]
        refine doneL (by kernel_rfl) ?_ _
        clear hHeld
        go_wp2
        go_ret
        exact ⟨by rw [hE.out]; rfl, HB.out.trans (((Below.refl _ wr).drew).mono HB.out.size)⟩
    · have hE : Hid (sameL l m = true) := sameL_all (hn.out.trans HL.out) (fun q h1 h2 => HQ.out q (by rw [hn.out] at h1; omega) h1 h2)
      go_wp2
      go_ret
      exact ⟨by rw [hE.out]; rfl, HB.out⟩

end Go.Proofs.Ytfnpapaibgbjpaa
