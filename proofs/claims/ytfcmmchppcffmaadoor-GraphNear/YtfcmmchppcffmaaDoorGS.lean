/- Package graph: Members; the document's Same of alike rows. -/
import Derived.Test.YtfcmmchppcffmaaDoorGR
namespace Go.Proofs.YtfcmmchppcffmaaDoor
open Go.RowKit Go.Maps Go.ChangeMaps

theorem eqr (i a b c d i' a' b' c' d' : Int) (w : World) : (binOp .eql 30 (.agg #[.int .i64 i, .int .i64 a, .int .u64 b, .int .i64 c, .int .u64 d]) (.agg #[.int .i64 i', .int .i64 a', .int .u64 b', .int .i64 c', .int .u64 d'])).run Tryd.prog w = .ok (.bool (i == i' && (a == a' && b == b') && (c == c' && d == d'))) w := by
  have u0 := Tryd.underlying23
  have a0 := Tryd.isAgg23
  have z0 := Tryd.sizeOf23
  have u1 := Tryd.underlying3
  have a1 := Tryd.isAgg3
  have z1 := Tryd.sizeOf3
  have u2 := Tryd.underlying24
  have a2 := Tryd.isAgg24
  have z2 := Tryd.sizeOf24
  have u3 := Tryd.isAgg26
  have u4 := Tryd.sizeOf26
  have u5 := Tryd.isAgg28
  have u6 := Tryd.sizeOf28
  have hS : Tryd.prog.underlying 30 = some (.struct (Tryd.prog.fieldsOf 30)) := by kernel_rfl
  have hp : Tryd.prog.stoodInHeld 30 = false := by kernel_rfl
  have hS1 : Tryd.prog.underlying 26 = some (.struct (Tryd.prog.fieldsOf 26)) := by kernel_rfl
  have hp1 : Tryd.prog.stoodInHeld 26 = false := by kernel_rfl
  have hS2 : Tryd.prog.underlying 28 = some (.struct (Tryd.prog.fieldsOf 28)) := by kernel_rfl
  have hp2 : Tryd.prog.stoodInHeld 28 = false := by kernel_rfl
  obtain ⟨dd, hd⟩ : ∃ dd, (10000 : Nat) = dd + 1 + 1 + 1 := ⟨9997, rfl⟩
  rw [run_eql_struct, hd, run_equalIn_agg w (dd + 1 + 1) 30 _ _ hS hp]
  clear hd hS
  simp only [Program.fieldsOf, Tryd.underlying30]
  have e1 : ∀ (x y x' y' : Int) w, (Op.equalIn (dd + 1 + 1) 26 (.agg #[.int .i64 x, .int .u64 y]) (.agg #[.int .i64 x', .int .u64 y'])).run Tryd.prog w = .ok (x == x' && y == y') w := fun x y x' y' w => by
    rw [run_equalIn_agg w (dd + 1) 26 _ _ hS1 hp1]
    simp only [Program.fieldsOf, Tryd.underlying26]
    go_simp
    by_cases h1 : x = x' <;> by_cases h2 : y = y' <;> simp [h1, h2]
  have e2 : ∀ (x y x' y' : Int) w, (Op.equalIn (dd + 1 + 1) 28 (.agg #[.int .i64 x, .int .u64 y]) (.agg #[.int .i64 x', .int .u64 y'])).run Tryd.prog w = .ok (x == x' && y == y') w := fun x y x' y' w => by
    rw [run_equalIn_agg w (dd + 1) 28 _ _ hS2 hp2]
    simp only [Program.fieldsOf, Tryd.underlying28]
    go_simp
    by_cases h1 : x = x' <;> by_cases h2 : y = y' <;> simp [h1, h2]
  clear hS1 hp1 hS2 hp2
  go_simp
  by_cases h1 : i = i' <;> by_cases h2 : a = a' <;> by_cases h3 : b = b' <;> by_cases h4 : c = c' <;> by_cases h5 : d = d' <;> simp [h1, h2, h3, h4, h5]
theorem ner (i a b c d i' a' b' c' d' : Int) (w : World) : (binOp .neq 30 (.agg #[.int .i64 i, .int .i64 a, .int .u64 b, .int .i64 c, .int .u64 d]) (.agg #[.int .i64 i', .int .i64 a', .int .u64 b', .int .i64 c', .int .u64 d'])).run Tryd.prog w = .ok (.bool (!(i == i' && (a == a' && b == b') && (c == c' && d == d')))) w := by
  have u0 := Tryd.underlying23
  have a0 := Tryd.isAgg23
  have z0 := Tryd.sizeOf23
  have u1 := Tryd.underlying3
  have a1 := Tryd.isAgg3
  have z1 := Tryd.sizeOf3
  have u2 := Tryd.underlying24
  have a2 := Tryd.isAgg24
  have z2 := Tryd.sizeOf24
  have u3 := Tryd.isAgg26
  have u4 := Tryd.sizeOf26
  have u5 := Tryd.isAgg28
  have u6 := Tryd.sizeOf28
  have hS : Tryd.prog.underlying 30 = some (.struct (Tryd.prog.fieldsOf 30)) := by kernel_rfl
  have hp : Tryd.prog.stoodInHeld 30 = false := by kernel_rfl
  have hS1 : Tryd.prog.underlying 26 = some (.struct (Tryd.prog.fieldsOf 26)) := by kernel_rfl
  have hp1 : Tryd.prog.stoodInHeld 26 = false := by kernel_rfl
  have hS2 : Tryd.prog.underlying 28 = some (.struct (Tryd.prog.fieldsOf 28)) := by kernel_rfl
  have hp2 : Tryd.prog.stoodInHeld 28 = false := by kernel_rfl
  obtain ⟨dd, hd⟩ : ∃ dd, (10000 : Nat) = dd + 1 + 1 + 1 := ⟨9997, rfl⟩
  rw [run_neq_struct, hd, run_equalIn_agg w (dd + 1 + 1) 30 _ _ hS hp]
  clear hd hS
  simp only [Program.fieldsOf, Tryd.underlying30]
  have e1 : ∀ (x y x' y' : Int) w, (Op.equalIn (dd + 1 + 1) 26 (.agg #[.int .i64 x, .int .u64 y]) (.agg #[.int .i64 x', .int .u64 y'])).run Tryd.prog w = .ok (x == x' && y == y') w := fun x y x' y' w => by
    rw [run_equalIn_agg w (dd + 1) 26 _ _ hS1 hp1]
    simp only [Program.fieldsOf, Tryd.underlying26]
    go_simp
    by_cases h1 : x = x' <;> by_cases h2 : y = y' <;> simp [h1, h2]
  have e2 : ∀ (x y x' y' : Int) w, (Op.equalIn (dd + 1 + 1) 28 (.agg #[.int .i64 x, .int .u64 y]) (.agg #[.int .i64 x', .int .u64 y'])).run Tryd.prog w = .ok (x == x' && y == y') w := fun x y x' y' w => by
    rw [run_equalIn_agg w (dd + 1) 28 _ _ hS2 hp2]
    simp only [Program.fieldsOf, Tryd.underlying28]
    go_simp
    by_cases h1 : x = x' <;> by_cases h2 : y = y' <;> simp [h1, h2]
  clear hS1 hp1 hS2 hp2
  go_simp
  by_cases h1 : i = i' <;> by_cases h2 : a = a' <;> by_cases h3 : b = b' <;> by_cases h4 : c = c' <;> by_cases h5 : d = d' <;> simp [h1, h2, h3, h4, h5]


theorem rguard : Tryd.prog.eqGuardType Tryd.prog.depth 30 = false := by kernel_rfl

set_option maxHeartbeats 4000000 in
set_option maxRecDepth 100000 in
theorem members_ok (h x y : Int) (hy : 0 ≤ y) (v : Value) (l : List Rf) (hl : l.length ≤ 1000) (hbt : ∀ r ∈ l, 0 ≤ r.bt) (hg : okG h l) (m : List Rf) (hp : m.Perm l) (hso : m.Pairwise keyLt) (hrt : rt x y = true) (hxh : x ≤ h) (w : World) (hs : RSl w v l) :
    Calls Tryd.prog 13 #[.int .i64 h, (.agg #[.int .i64 (x), .int .u64 (y)]), v] w fun e w' => ∃ v', e = .returned (.tuple #[v', .int .i64 0]) ∧ RSl w' v' (flt x (x, y) m) ∧ Below w.heap.size w w' := by
  have mixed : Tryd.prog.follows .mixedOrders = true := by kernel_rfl
  have M := Mem.of hg hbt hl hp
  have hr0 := of_decide_eq_true hrt
  have hov : okV (x, y) := okV_of hr0.1 hr0.2.1 hy (by have := pow32 x hr0.1 hr0.2.1; omega)
  have HOV := hide hov
  have hM := hide M
  have HG := hide hg
  have b1 := (Below.refl w.heap.size w).alloc (Nat.le_refl _) (.cells #[.int .i64 x, .int .u64 y] 28)
  have Vb := hide (IsB.new w #[.int .i64 x, .int .u64 y] 28)
  have BU := hide (build_any h v l hl hbt _ (hs.below b1))
  have B := hide b1
  clear b1 hs M hov
  go_enter Tryd.func13, Tryd.ntmps13
  go_wp2_with fail
  generalize w.alloc (.cells #[.int .i64 x, .int .u64 y] 28) = W1 at *
  generalize hH : w.heap.size = H at Vb ⊢
  replace hH := hide hH
  refine BU.out.mono ?_
  rintro e w2 ⟨(⟨-, a, c, m', rfl, hp', hso', hrw, -⟩ | ⟨h9, -⟩), hb⟩
  rotate_left
  · exact absurd HG.out h9
  obtain rfl : m' = m := sorted_one hp' hp hso' hso
  have R2 := hide hrw.rsl
  replace Vb := hide (Vb.out.below hb)
  replace B := hide (B.out.trans (hb.mono B.out.size))
  clear hb hrw hp' hso'
  have LA := fun W hsW => level_any h x a c m' hM.out.len hM.out.ok hM.out.h32 hr0.1 hxh W hsW
  have NM := fun W => names_any h a m'.length c x y hy W
  unfold gcs at LA NM
  rw [hrt, decide_eq_true hxh] at NM
  have HL := hide LA
  have HNM := hide NM
  clear LA NM
  unfold gcs
  have GBn := hide (IsB.new w2 #[.int .i64 h, .int .i64 0, .int .i64 1, .int .u64 0, .int .i64 h, .int .u64 0, .int .i64 1, .int .i64 3, .int .u64 0, .int .i64 h, .int .u64 0, .slice a m'.length c] 55)
  have b4 := (Below.refl w2.heap.size w2).alloc (Nat.le_refl _) (.cells #[.int .i64 h, .int .i64 0, .int .i64 1, .int .u64 0, .int .i64 h, .int .u64 0, .int .i64 1, .int .i64 3, .int .u64 0, .int .i64 h, .int .u64 0, .slice a m'.length c] 55)
  replace Vb := hide (Vb.out.below b4)
  replace R2 := hide (R2.out.below b4)
  replace B := hide (B.out.trans (b4.mono B.out.size))
  clear b4 BU
  have c0 := Vb.out.cell 0
  have c1 := Vb.out.cell 1
  simp at c0 c1
  go_wp2_with fail
  clear c0 c1
  generalize w2.alloc (.cells #[.int .i64 h, .int .i64 0, .int .i64 1, .int .u64 0, .int .i64 h, .int .u64 0, .int .i64 1, .int .i64 3, .int .u64 0, .int .i64 h, .int .u64 0, .slice a m'.length c] 55) = W3 at *
  generalize w2.heap.size = GBk at GBn ⊢
  refine (HNM.out W3).mono ?_
  rintro e w4 ⟨rfl, hb⟩
  replace Vb := hide (Vb.out.below hb)
  replace R2 := hide (R2.out.below hb)
  replace GBn := hide (GBn.out.below hb)
  replace B := hide (B.out.trans (hb.mono B.out.size))
  clear hb HNM
  go_wp2_with fail
  replace Vb := hide (Vb.out.below ((Below.refl _ _).drew))
  replace R2 := hide (R2.out.below ((Below.refl _ _).drew))
  replace GBn := hide (GBn.out.below ((Below.refl _ _).drew))
  replace B := hide B.out.drew
  refine regionL 8 (fun w' => IsB w' GBk #[.int .i64 h, .int .i64 0, .int .i64 1, .int .u64 0, .int .i64 h, .int .u64 0, .int .i64 1, .int .i64 3, .int .u64 0, .int .i64 h, .int .u64 0, .slice a m'.length c] 55 ∧ IsB w' H #[.int .i64 x, .int .u64 y] 28) mixed ⟨GBn.out, Vb.out⟩ (fun hHeld => ?_)
  generalize w4.drew = WD at *
  refine pickL (v := .agg #[.int .i64 h, .int .i64 0, .int .i64 1, .int .u64 0, .int .i64 h, .int .u64 0, .int .i64 1, .int .i64 3, .int .u64 0, .int .i64 h, .int .u64 0, .slice a m'.length c]) 0 (some 23) rfl rfl (by kernel_rfl) (by kernel_rfl) (by kernel_rfl) (by decide) (by kernel_rfl) (by kernel_rfl) (fun _ _ _ h => h) (by rfl) ?_ (by assumption) ?_
  · intro w' hSw
    obtain ⟨u0, u1⟩ := hSw
    exact exec_load rfl rfl (load_gr u0 rfl)
  try simp only [Act.put, List.setIfInBounds_toArray, List.set_cons_zero, List.set_cons_succ]
  refine pickA (v := ?_) 1 (some 24) rfl rfl (by kernel_rfl) (by kernel_rfl) (by kernel_rfl) (by decide) (fun _ _ _ h => h) (by rfl) ?_ (by assumption) ?_
  rotate_left
  · intro w'
    go_simp
    try with_reducible rfl
  try simp only [Act.put, List.setIfInBounds_toArray, List.set_cons_zero, List.set_cons_succ]
  refine pickL (v := .int .i64 x) 2 (some 25) rfl rfl (by kernel_rfl) (by kernel_rfl) (by kernel_rfl) (by decide) (by kernel_rfl) (by kernel_rfl) (fun _ _ _ h => h) (by rfl) ?_ (by assumption) ?_
  · intro w' hSw
    obtain ⟨u0, u1⟩ := hSw
    have y0 := u1.cell 0
    simp at y0
    go_simp
  try simp only [Act.put, List.setIfInBounds_toArray, List.set_cons_zero, List.set_cons_succ]
  refine pickL (v := .agg #[.int .i64 x, .int .u64 y]) 4 (some 27) rfl rfl (by kernel_rfl) (by kernel_rfl) (by kernel_rfl) (by decide) (by kernel_rfl) (by kernel_rfl) (fun _ _ _ h => h) (by rfl) ?_ (by assumption) ?_
  · intro w' hSw
    obtain ⟨u0, u1⟩ := hSw
    exact exec_load rfl rfl (load_vec u1 rfl)
  try simp only [Act.put, List.setIfInBounds_toArray, List.set_cons_zero, List.set_cons_succ]
  refine oneL (i := 3) (by kernel_rfl) rfl (fun K hK => ?_)
  go_simp
  refine (HL.out WD R2.out).mono ?_
  rintro e w5 ⟨mb, E, rfl, hLv, hb⟩
  have LV := hide hLv
  replace Vb := hide (Vb.out.below hb)
  replace GBn := hide (GBn.out.below hb)
  replace B := hide (B.out.trans (hb.mono B.out.size))
  clear hb hLv
  refine hK.out _ _ ?_ ?_
  · exact ⟨GBn.out, Vb.out⟩
  clear hK K
  try simp only [Act.put, List.setIfInBounds_toArray, List.set_cons_zero, List.set_cons_succ]
  clear hHeld
  have hHeld : (fun w' => IsB w' GBk #[.int .i64 h, .int .i64 0, .int .i64 1, .int .u64 0, .int .i64 h, .int .u64 0, .int .i64 1, .int .i64 3, .int .u64 0, .int .i64 h, .int .u64 0, .slice a m'.length c] 55 ∧ IsB w' H #[.int .i64 x, .int .u64 y] 28) w5 := ⟨GBn.out, Vb.out⟩
  obtain ⟨lv, hlk, hlrw, -⟩ := LV.out.look (x, y) HOV.out
  have HLK : (Instr.lookup 70 (.map (some mb)) (.agg #[.int .i64 x, .int .u64 y]) false).run Tryd.prog w5 = .ok lv w5 := hlk
  have LR := hide hlrw.rsl
  clear hlk hlrw
  refine oneL (i := 5) (by kernel_rfl) rfl (fun K hK => ?_)
  go_simp
  refine hK.out _ _ ?_ ?_
  · exact ⟨GBn.out, Vb.out⟩
  clear hK K
  try simp only [Act.put, List.setIfInBounds_toArray, List.set_cons_zero, List.set_cons_succ]
  refine pickA (v := ?_) 6 (some 6) rfl rfl (by kernel_rfl) (by kernel_rfl) (by kernel_rfl) (by decide) (fun _ _ _ h => h) (by rfl) ?_ (by assumption) ?_
  rotate_left
  · intro w'
    go_simp
    try with_reducible rfl
  try simp only [Act.put, List.setIfInBounds_toArray, List.set_cons_zero, List.set_cons_succ]
  refine pickA (v := ?_) 7 (some 7) rfl rfl (by kernel_rfl) (by kernel_rfl) (by kernel_rfl) (by decide) (fun _ _ _ h => h) (by rfl) ?_ (by assumption) ?_
  rotate_left
  · intro w'
    go_simp
    try with_reducible rfl
  try simp only [Act.put, List.setIfInBounds_toArray, List.set_cons_zero, List.set_cons_succ]
  refine doneL (by kernel_rfl) ?_ _
  clear hHeld
  go_wp2
  go_ret2
  exact ⟨_, rfl, LR.out, B.out⟩

set_option maxHeartbeats 4000000 in
set_option maxRecDepth 100000 in
theorem same_yes (v v2 : Value) (l : List Rf) (hl : l.length ≤ 100000) (w : World) (h : RSl w v l) (h2 : RSl w v2 l) : Calls Tryd.prog 16 #[v, v2] w fun e w' => e = .returned (.bool true) ∧ Below w.heap.size w w' := by
  have mixed : Tryd.prog.follows .mixedOrders = true := by kernel_rfl
  obtain ⟨va, vc, rfl, -, -⟩ := h.shape
  obtain ⟨va2, vc2, rfl, -, -⟩ := h2.shape
  have H1 := hide h
  have H2 := hide h2
  clear h h2
  generalize hn : l.length = n at *
  replace hn := hide hn
  go_enter Tryd.func16, Tryd.ntmps16
  go_wp2
  go_loopw [5] (fun i wr => ∃ j : Nat, j ≤ n ∧ i = .int .i64 (j : Int) ∧ Hid (Below w.heap.size w wr)) (fun i _ => n - (intOf i).toNat)
  case atStart => exact ⟨0, by omega, rfl, Below.refl _ _⟩
  case round =>
    obtain ⟨j, hj, rfl, HB⟩ := hrel
    by_cases hlt : j < n
    · have hjl : j < l.length := by rw [hn.out]; exact hlt
      obtain ⟨g, o, c, ev, -, -, a0, a1, a2, a3, a4⟩ := (H1.out.below HB.out.drew).cells j hjl
      injection ev with ev el ec
      clear el
      subst ev ec
      obtain ⟨g2, o2, c2, ev2, -, -, b0, b1, b2, b3, b4⟩ := (H2.out.below HB.out.drew).cells j hjl
      injection ev2 with ev2 el2 ec2
      clear el2
      subst ev2 ec2
      generalize l[j].id = x0 at *
      generalize l[j].rk = x1 at *
      generalize l[j].kn = x2 at *
      generalize l[j].ln = x3 at *
      generalize l[j].bt = x4 at *
      have HNE : Hid (∀ w, (binOp .neq 30 (.agg #[.int .i64 x0, .int .i64 x1, .int .u64 x2, .int .i64 x3, .int .u64 x4]) (.agg #[.int .i64 x0, .int .i64 x1, .int .u64 x2, .int .i64 x3, .int .u64 x4])).run Tryd.prog w = .ok (.bool false) w) := fun w => by rw [ner]; simp
      go_wp2_with fail
      refine regionL 9 (fun w' => w'.cell? ⟨g, o + j * 5, none⟩ = some (.int .i64 x0) ∧ w'.cell? ⟨g, o + j * 5 + 1, none⟩ = some (.int .i64 x1) ∧ w'.cell? ⟨g, o + j * 5 + 2, none⟩ = some (.int .u64 x2) ∧ w'.cell? ⟨g, o + j * 5 + 3, none⟩ = some (.int .i64 x3) ∧ w'.cell? ⟨g, o + j * 5 + 4, none⟩ = some (.int .u64 x4) ∧ w'.cell? ⟨g2, o2 + j * 5, none⟩ = some (.int .i64 x0) ∧ w'.cell? ⟨g2, o2 + j * 5 + 1, none⟩ = some (.int .i64 x1) ∧ w'.cell? ⟨g2, o2 + j * 5 + 2, none⟩ = some (.int .u64 x2) ∧ w'.cell? ⟨g2, o2 + j * 5 + 3, none⟩ = some (.int .i64 x3) ∧ w'.cell? ⟨g2, o2 + j * 5 + 4, none⟩ = some (.int .u64 x4)) mixed ⟨a0, a1, a2, a3, a4, b0, b1, b2, b3, b4⟩ (fun hHeld => ?_)
      refine pickA (v := ?_) 0 (some 17) rfl rfl (by kernel_rfl) (by kernel_rfl) (by kernel_rfl) (by decide) (fun _ _ _ h => h) (by rfl) ?_ (by assumption) ?_
      rotate_left
      · intro w'
        go_simp
        try with_reducible rfl
      try simp only [Act.put, List.setIfInBounds_toArray, List.set_cons_zero, List.set_cons_succ]
      refine pickA (v := ?_) 1 (some 18) rfl rfl (by kernel_rfl) (by kernel_rfl) (by kernel_rfl) (by decide) (fun _ _ _ h => h) (by rfl) ?_ (by assumption) ?_
      rotate_left
      · intro w'
        go_simp
        try with_reducible rfl
      try simp only [Act.put, List.setIfInBounds_toArray, List.set_cons_zero, List.set_cons_succ]
      refine pickA (v := .pointer (some ⟨g, o + j * 5, none⟩)) 2 (some 19) rfl rfl (by kernel_rfl) (by kernel_rfl) (by kernel_rfl) (by decide) (fun _ _ _ h => h) (by rfl) ?_ (by assumption) ?_
      · intro w'
        go_simp
      try simp only [Act.put, List.setIfInBounds_toArray, List.set_cons_zero, List.set_cons_succ]
      refine pickL (v := .agg #[.int .i64 x0, .int .i64 x1, .int .u64 x2, .int .i64 x3, .int .u64 x4]) 3 (some 20) rfl rfl (by kernel_rfl) (by kernel_rfl) (by kernel_rfl) (by decide) (by kernel_rfl) (by kernel_rfl) (fun _ _ _ h => h) (by rfl) ?_ (by assumption) ?_
      · intro w' hSw
        obtain ⟨z0, z1, z2, z3, z4, z5, z6, z7, z8, z9⟩ := hSw
        go_simp
      try simp only [Act.put, List.setIfInBounds_toArray, List.set_cons_zero, List.set_cons_succ]
      refine pickA (v := ?_) 4 (some 21) rfl rfl (by kernel_rfl) (by kernel_rfl) (by kernel_rfl) (by decide) (fun _ _ _ h => h) (by rfl) ?_ (by assumption) ?_
      rotate_left
      · intro w'
        go_simp
        try with_reducible rfl
      try simp only [Act.put, List.setIfInBounds_toArray, List.set_cons_zero, List.set_cons_succ]
      refine pickA (v := ?_) 5 (some 22) rfl rfl (by kernel_rfl) (by kernel_rfl) (by kernel_rfl) (by decide) (fun _ _ _ h => h) (by rfl) ?_ (by assumption) ?_
      rotate_left
      · intro w'
        go_simp
        try with_reducible rfl
      try simp only [Act.put, List.setIfInBounds_toArray, List.set_cons_zero, List.set_cons_succ]
      refine pickA (v := .pointer (some ⟨g2, o2 + j * 5, none⟩)) 6 (some 23) rfl rfl (by kernel_rfl) (by kernel_rfl) (by kernel_rfl) (by decide) (fun _ _ _ h => h) (by rfl) ?_ (by assumption) ?_
      · intro w'
        go_simp
      try simp only [Act.put, List.setIfInBounds_toArray, List.set_cons_zero, List.set_cons_succ]
      refine pickL (v := .agg #[.int .i64 x0, .int .i64 x1, .int .u64 x2, .int .i64 x3, .int .u64 x4]) 7 (some 24) rfl rfl (by kernel_rfl) (by kernel_rfl) (by kernel_rfl) (by decide) (by kernel_rfl) (by kernel_rfl) (fun _ _ _ h => h) (by rfl) ?_ (by assumption) ?_
      · intro w' hSw
        obtain ⟨z0, z1, z2, z3, z4, z5, z6, z7, z8, z9⟩ := hSw
        go_simp
      try simp only [Act.put, List.setIfInBounds_toArray, List.set_cons_zero, List.set_cons_succ]
      refine pickA (v := .bool false) 8 (some 25) rfl rfl (by kernel_rfl) (by kernel_rfl) (by kernel_rfl) (by decide) (fun _ _ _ h => h) (by rfl) ?_ (by assumption) ?_
      · intro w'
        exact exec_bin rguard rfl rfl rfl (HNE.out _)
      try simp only [Act.put, List.setIfInBounds_toArray, List.set_cons_zero, List.set_cons_succ]
      refine doneL (by kernel_rfl) ?_ _
      clear hHeld
      go_wp2
      exact ⟨⟨j + 1, by omega, by simp, HB.out.drew⟩, by simp [intOf]; omega⟩
    · go_wp2
      go_ret
      exact ⟨rfl, HB.out⟩

end Go.Proofs.YtfcmmchppcffmaaDoor
