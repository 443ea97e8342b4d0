/- The document's network: Cut. -/
import Derived.Test.YtoinjmddmahpkaaZG
import Derived.Test.YtoinjmddmahpkaaNW
namespace Go.Proofs.Ytoinjmddmahpkaa
open Go.RowKit Go.Maps

set_option maxHeartbeats 2000000 in
set_option maxRecDepth 100000 in
theorem rcut_bad (b : Nat) (ga : Bool) (gn : Int) (hg : okA gn = false) (w : World) :
    Calls Try.prog 30 #[.pointer (some ⟨b, 0, none⟩), .agg #[.bool ga, .int .i64 gn]] w fun e w' => e = .returned (.tuple #[.int .i64 0, .int .i64 50]) ∧ Below w.heap.size w w' := by
  have bel := hide ((Below.refl w.heap.size w).alloc (Nat.le_refl _) (.cells #[.bool ga, .int .i64 gn] 32))
  go_enter Try.func30, Try.ntmps30
  go_wp2_with fail
  refine (isAddr_any ga gn _).mono ?_; rintro e w2 ⟨rfl, hb⟩
  rw [hg]
  have HB := hide (bel.out.trans (hb.mono bel.out.size))
  clear hb
  go_wp2
  go_ret2
  exact ⟨rfl, HB.out⟩

set_option maxHeartbeats 16000000 in
set_option maxRecDepth 100000 in
theorem rcut_ok (b : Nat) (v : Value) (ps : List Pc) (c : Cnt) (k : Nat) (hk : k < 1000000) (w : World) (h : RS w b v ps c k) (ga : Bool) (gn : Int) (hg : okA gn = true) :
    Calls Try.prog 30 #[.pointer (some ⟨b, 0, none⟩), .agg #[.bool ga, .int .i64 gn]] w fun e w' => e = .returned (.tuple #[.int .i64 ((ps.length - (ps.filter (stay ga gn)).length : Nat) : Int), .int .i64 0]) ∧
      ∃ v', Rx w w' b v v' (ps.filter (stay ga gn)) { c with d := c.d + ((ps.length - (ps.filter (stay ga gn)).length : Nat) : Int) } (k + 1) := by
  have mixed : Try.prog.follows .mixedOrders = true := by kernel_rfl
  have hnq := addr_ne
  have bel := (Below.refl w.heap.size w).alloc (Nat.le_refl _) (.cells #[.bool ga, .int .i64 gn] 32)
  have A0 := hide (IsB.new w #[.bool ga, .int .i64 gn] 32)
  have X0 := hide (h.rx bel)
  obtain ⟨va, vc, rfl, hvc, hvm⟩ := h.row.row.shape
  have hlen := h.len
  obtain ⟨i0, hi0, hz0, hz1, hz2⟩ := info_parts Try.infoP
  clear h bel
  go_enter Try.func30, Try.ntmps30
  go_wp2_with fail
  refine (isAddr_any ga gn _).mono ?_; rintro e W ⟨rfl, hb⟩
  rw [hg]
  have X1 := hide (X0.out.bel hb)
  have A1 := hide (A0.out.below hb)
  clear hb X0 A0
  generalize w.heap.size = A at *
  go_wp2
  go_loopw [6, 7] (fun u i wr => ∃ j : Nat, j ≤ ps.length ∧ i = .int .i64 (j : Int) ∧ Hid (Rw wr 35 5 u ((ps.take j).filter (stay ga gn)).length (pcs ((ps.take j).filter (stay ga gn)))) ∧ Hid (∀ q, u.ownBlock = some q → W.heap.size ≤ q) ∧ Hid (Below W.heap.size W wr)) (fun _ i _ => ps.length - (intOf i).toNat)
  case atStart => exact ⟨0, by omega, rfl, ⟨rfl, Or.inl ⟨rfl, rfl⟩⟩, (by intro q hq; simp [Value.ownBlock] at hq), Below.refl _ _⟩
  case round =>
    obtain ⟨j, hj, rfl, HR, HO, HB⟩ := hrel
    have hbr : wr.cell? ⟨b, 0, none⟩ = some (.slice va ps.length vc) := (X1.out.rs.blk.below HB.out).cell 0
    have x0 : wr.cell? ⟨A, 0, none⟩ = some (.bool ga) := (A1.out.below HB.out).cell 0
    have x1 : wr.cell? ⟨A, 1, none⟩ = some (.int .i64 gn) := (A1.out.below HB.out).cell 1
    obtain ⟨ua, uc, hu, -, -⟩ := HR.out.shape
    subst hu
    by_cases hlt : j < ps.length
    · obtain ⟨g, cap, hv, -, -, c0, c1, c2, c3, c4⟩ := X1.out.rs.cells j hlt
      injection hv with hv1 _ hv3
      subst hv1
      subst hv3
      have d0 := (HB.out.cell (lt_of_cell c0)).trans c0
      have d1 := (HB.out.cell (lt_of_cell c1)).trans c1
      have d2 := (HB.out.cell (lt_of_cell c2)).trans c2
      have d3 := (HB.out.cell (lt_of_cell c3)).trans c3
      have d4 := (HB.out.cell (lt_of_cell c4)).trans c4
      have HFT := hide (filter_take_succ (stay ga gn) ps j hlt)
      clear c0 c1 c2 c3 c4
      generalize ps[j] = p at *
      obtain ⟨fa, fn, ta, tn, pa, pc, bs⟩ := p
      simp only [] at d0 d1 d2 d3 d4
      have hst : Hid (stay ga gn ⟨fa, fn, ta, tn, pa, pc, bs⟩ = (!(fa == ga && fn == gn) && !(ta == ga && tn == gn))) := rfl
      generalize hpl : bs.length = pl at *
      replace hpl := hide hpl
      generalize hB1 : (!(fa == ga && fn == gn)) = B1 at hst
      generalize hB2 : (!(ta == ga && tn == gn)) = B2 at hst
      cases B1
      · rw [hst.out, if_neg (by simp), List.append_nil] at HFT
        go_wp2
        refine regionL 22 (fun w' => w'.cell? ⟨b, 0, none⟩ = some (.slice (some ⟨g, 0, none⟩) ps.length vc) ∧ w'.cell? ⟨g, j * 5, none⟩ = some (.bool fa) ∧ w'.cell? ⟨g, j * 5 + 1, none⟩ = some (.int .i64 fn) ∧ w'.cell? ⟨g, j * 5 + 2, none⟩ = some (.bool ta) ∧ w'.cell? ⟨g, j * 5 + 3, none⟩ = some (.int .i64 tn) ∧ w'.cell? ⟨A, 0, none⟩ = some (.bool ga) ∧ w'.cell? ⟨A, 1, none⟩ = some (.int .i64 gn)) mixed ⟨hbr, d0, d1, d2, d3, x0, x1⟩ (fun hHeld => ?_)
        refine pickA (v := ?_) 0 (some 21) rfl rfl (by kernel_rfl) (by kernel_rfl) (by kernel_rfl) (by decide) (fun _ _ _ h => h) (by rfl) ?_ (by assumption) ?_
        rotate_left
        · intro w'
          go_simp
          try with_reducible rfl
        try simp only [Act.put, List.setIfInBounds_toArray, List.set_cons_zero, List.set_cons_succ]
        refine pickA (v := ?_) 1 (some 22) rfl rfl (by kernel_rfl) (by kernel_rfl) (by kernel_rfl) (by decide) (fun _ _ _ h => h) (by rfl) ?_ (by assumption) ?_
        rotate_left
        · intro w'
          go_simp
          try with_reducible rfl
        try simp only [Act.put, List.setIfInBounds_toArray, List.set_cons_zero, List.set_cons_succ]
        refine pickA (v := ?_) 2 (some 23) rfl rfl (by kernel_rfl) (by kernel_rfl) (by kernel_rfl) (by decide) (fun _ _ _ h => h) (by rfl) ?_ (by assumption) ?_
        rotate_left
        · intro w'
          go_simp
          try with_reducible rfl
        try simp only [Act.put, List.setIfInBounds_toArray, List.set_cons_zero, List.set_cons_succ]
        refine pickL (v := ?_) 3 (some 24) rfl rfl (by kernel_rfl) (by kernel_rfl) (by kernel_rfl) (by decide) (by kernel_rfl) (by kernel_rfl) (fun _ _ _ h => h) (by rfl) ?_ (by assumption) ?_
        rotate_left
        · intro w' hSw
          obtain ⟨g0, g1, g2, g3, g4, g5, g6⟩ := hSw
          go_simp
          try with_reducible rfl
        try simp only [Act.put, List.setIfInBounds_toArray, List.set_cons_zero, List.set_cons_succ]
        refine pickA (v := ?_) 4 (some 25) rfl rfl (by kernel_rfl) (by kernel_rfl) (by kernel_rfl) (by decide) (fun _ _ _ h => h) (by rfl) ?_ (by assumption) ?_
        rotate_left
        · intro w'
          go_simp
          try with_reducible rfl
        try simp only [Act.put, List.setIfInBounds_toArray, List.set_cons_zero, List.set_cons_succ]
        refine pickA (v := ?_) 5 (some 26) rfl rfl (by kernel_rfl) (by kernel_rfl) (by kernel_rfl) (by decide) (fun _ _ _ h => h) (by rfl) ?_ (by assumption) ?_
        rotate_left
        · intro w'
          go_simp
          try with_reducible rfl
        try simp only [Act.put, List.setIfInBounds_toArray, List.set_cons_zero, List.set_cons_succ]
        refine pickA (v := ?_) 6 (some 27) rfl rfl (by kernel_rfl) (by kernel_rfl) (by kernel_rfl) (by decide) (fun _ _ _ h => h) (by rfl) ?_ (by assumption) ?_
        rotate_left
        · intro w'
          go_simp
          try with_reducible rfl
        try simp only [Act.put, List.setIfInBounds_toArray, List.set_cons_zero, List.set_cons_succ]
        refine pickL (v := ?_) 7 (some 28) rfl rfl (by kernel_rfl) (by kernel_rfl) (by kernel_rfl) (by decide) (by kernel_rfl) (by kernel_rfl) (fun _ _ _ h => h) (by rfl) ?_ (by assumption) ?_
        rotate_left
        · intro w' hSw
          obtain ⟨g0, g1, g2, g3, g4, g5, g6⟩ := hSw
          go_simp
          try with_reducible rfl
        try simp only [Act.put, List.setIfInBounds_toArray, List.set_cons_zero, List.set_cons_succ]
        refine pickL (v := ?_) 8 (some 29) rfl rfl (by kernel_rfl) (by kernel_rfl) (by kernel_rfl) (by decide) (by kernel_rfl) (by kernel_rfl) (fun _ _ _ h => h) (by rfl) ?_ (by assumption) ?_
        rotate_left
        · intro w' hSw
          obtain ⟨g0, g1, g2, g3, g4, g5, g6⟩ := hSw
          go_simp
          try with_reducible rfl
        try simp only [Act.put, List.setIfInBounds_toArray, List.set_cons_zero, List.set_cons_succ]
        refine pickA (v := .bool false) 9 (some 30) rfl rfl (by kernel_rfl) (by kernel_rfl) (by kernel_rfl) (by decide) (fun _ _ _ h => h) (by rfl) ?_ (by assumption) ?_
        · intro w'
          go_simp
        try simp only [Act.put, List.setIfInBounds_toArray, List.set_cons_zero, List.set_cons_succ]
        refine pickA (v := ?_) 10 (some 31) rfl rfl (by kernel_rfl) (by kernel_rfl) (by kernel_rfl) (by decide) (fun _ _ _ h => h) (by rfl) ?_ (by assumption) ?_
        rotate_left
        · intro w'
          go_simp
          try with_reducible rfl
        try simp only [Act.put, List.setIfInBounds_toArray, List.set_cons_zero, List.set_cons_succ]
        refine pickN 11 (some 32) rfl rfl (by kernel_rfl) (by kernel_rfl) (by kernel_rfl) (by decide) (fun _ _ _ h => h) (by rfl) (by assumption) ?_
        try simp only [Act.put, List.setIfInBounds_toArray, List.set_cons_zero, List.set_cons_succ]
        refine pickN 12 (some 33) rfl rfl (by kernel_rfl) (by kernel_rfl) (by kernel_rfl) (by decide) (fun _ _ _ h => h) (by rfl) (by assumption) ?_
        try simp only [Act.put, List.setIfInBounds_toArray, List.set_cons_zero, List.set_cons_succ]
        refine pickN 13 (some 34) rfl rfl (by kernel_rfl) (by kernel_rfl) (by kernel_rfl) (by decide) (fun _ _ _ h => h) (by rfl) (by assumption) ?_
        try simp only [Act.put, List.setIfInBounds_toArray, List.set_cons_zero, List.set_cons_succ]
        refine pickN 14 (some 35) rfl rfl (by kernel_rfl) (by kernel_rfl) (by kernel_rfl) (by decide) (fun _ _ _ h => h) (by rfl) (by assumption) ?_
        try simp only [Act.put, List.setIfInBounds_toArray, List.set_cons_zero, List.set_cons_succ]
        refine pickN 15 (some 36) rfl rfl (by kernel_rfl) (by kernel_rfl) (by kernel_rfl) (by decide) (fun _ _ _ h => h) (by rfl) (by assumption) ?_
        try simp only [Act.put, List.setIfInBounds_toArray, List.set_cons_zero, List.set_cons_succ]
        refine pickN 16 (some 37) rfl rfl (by kernel_rfl) (by kernel_rfl) (by kernel_rfl) (by decide) (fun _ _ _ h => h) (by rfl) (by assumption) ?_
        try simp only [Act.put, List.setIfInBounds_toArray, List.set_cons_zero, List.set_cons_succ]
        refine pickN 17 (some 38) rfl rfl (by kernel_rfl) (by kernel_rfl) (by kernel_rfl) (by decide) (fun _ _ _ h => h) (by rfl) (by assumption) ?_
        try simp only [Act.put, List.setIfInBounds_toArray, List.set_cons_zero, List.set_cons_succ]
        refine pickN 18 (some 39) rfl rfl (by kernel_rfl) (by kernel_rfl) (by kernel_rfl) (by decide) (fun _ _ _ h => h) (by rfl) (by assumption) ?_
        try simp only [Act.put, List.setIfInBounds_toArray, List.set_cons_zero, List.set_cons_succ]
        refine pickN 19 (some 40) rfl rfl (by kernel_rfl) (by kernel_rfl) (by kernel_rfl) (by decide) (fun _ _ _ h => h) (by rfl) (by assumption) ?_
        try simp only [Act.put, List.setIfInBounds_toArray, List.set_cons_zero, List.set_cons_succ]
        refine pickN 20 (some 41) rfl rfl (by kernel_rfl) (by kernel_rfl) (by kernel_rfl) (by decide) (fun _ _ _ h => h) (by rfl) (by assumption) ?_
        try simp only [Act.put, List.setIfInBounds_toArray, List.set_cons_zero, List.set_cons_succ]
        refine pickA (v := ?_) 21 (some 42) rfl rfl (by kernel_rfl) (by kernel_rfl) (by kernel_rfl) (by decide) (fun _ _ _ h => h) (by rfl) ?_ (by assumption) ?_
        rotate_left
        · intro w'
          go_simp
          try with_reducible rfl
        try simp only [Act.put, List.setIfInBounds_toArray, List.set_cons_zero, List.set_cons_succ]
        refine doneL (by kernel_rfl) ?_ _
        clear hHeld
        go_wp2
        exact ⟨⟨j + 1, by omega, by simp, by rw [HFT.out]; exact HR.out.below ((Below.refl wr.heap.size wr).drew), HO, HB.out.trans (((Below.refl _ wr).drew).mono HB.out.size)⟩, by simp [intOf]; omega⟩
      · cases B2
        · rw [hst.out, if_neg (by simp), List.append_nil] at HFT
          go_wp2
          refine regionL 22 (fun w' => w'.cell? ⟨b, 0, none⟩ = some (.slice (some ⟨g, 0, none⟩) ps.length vc) ∧ w'.cell? ⟨g, j * 5, none⟩ = some (.bool fa) ∧ w'.cell? ⟨g, j * 5 + 1, none⟩ = some (.int .i64 fn) ∧ w'.cell? ⟨g, j * 5 + 2, none⟩ = some (.bool ta) ∧ w'.cell? ⟨g, j * 5 + 3, none⟩ = some (.int .i64 tn) ∧ w'.cell? ⟨A, 0, none⟩ = some (.bool ga) ∧ w'.cell? ⟨A, 1, none⟩ = some (.int .i64 gn)) mixed ⟨hbr, d0, d1, d2, d3, x0, x1⟩ (fun hHeld => ?_)
          refine pickA (v := ?_) 0 (some 21) rfl rfl (by kernel_rfl) (by kernel_rfl) (by kernel_rfl) (by decide) (fun _ _ _ h => h) (by rfl) ?_ (by assumption) ?_
          rotate_left
          · intro w'
            go_simp
            try with_reducible rfl
          try simp only [Act.put, List.setIfInBounds_toArray, List.set_cons_zero, List.set_cons_succ]
          refine pickA (v := ?_) 1 (some 22) rfl rfl (by kernel_rfl) (by kernel_rfl) (by kernel_rfl) (by decide) (fun _ _ _ h => h) (by rfl) ?_ (by assumption) ?_
          rotate_left
          · intro w'
            go_simp
            try with_reducible rfl
          try simp only [Act.put, List.setIfInBounds_toArray, List.set_cons_zero, List.set_cons_succ]
          refine pickA (v := ?_) 2 (some 23) rfl rfl (by kernel_rfl) (by kernel_rfl) (by kernel_rfl) (by decide) (fun _ _ _ h => h) (by rfl) ?_ (by assumption) ?_
          rotate_left
          · intro w'
            go_simp
            try with_reducible rfl
          try simp only [Act.put, List.setIfInBounds_toArray, List.set_cons_zero, List.set_cons_succ]
          refine pickL (v := ?_) 3 (some 24) rfl rfl (by kernel_rfl) (by kernel_rfl) (by kernel_rfl) (by decide) (by kernel_rfl) (by kernel_rfl) (fun _ _ _ h => h) (by rfl) ?_ (by assumption) ?_
          rotate_left
          · intro w' hSw
            obtain ⟨g0, g1, g2, g3, g4, g5, g6⟩ := hSw
            go_simp
            try with_reducible rfl
          try simp only [Act.put, List.setIfInBounds_toArray, List.set_cons_zero, List.set_cons_succ]
          refine pickA (v := ?_) 4 (some 25) rfl rfl (by kernel_rfl) (by kernel_rfl) (by kernel_rfl) (by decide) (fun _ _ _ h => h) (by rfl) ?_ (by assumption) ?_
          rotate_left
          · intro w'
            go_simp
            try with_reducible rfl
          try simp only [Act.put, List.setIfInBounds_toArray, List.set_cons_zero, List.set_cons_succ]
          refine pickA (v := ?_) 5 (some 26) rfl rfl (by kernel_rfl) (by kernel_rfl) (by kernel_rfl) (by decide) (fun _ _ _ h => h) (by rfl) ?_ (by assumption) ?_
          rotate_left
          · intro w'
            go_simp
            try with_reducible rfl
          try simp only [Act.put, List.setIfInBounds_toArray, List.set_cons_zero, List.set_cons_succ]
          refine pickA (v := ?_) 6 (some 27) rfl rfl (by kernel_rfl) (by kernel_rfl) (by kernel_rfl) (by decide) (fun _ _ _ h => h) (by rfl) ?_ (by assumption) ?_
          rotate_left
          · intro w'
            go_simp
            try with_reducible rfl
          try simp only [Act.put, List.setIfInBounds_toArray, List.set_cons_zero, List.set_cons_succ]
          refine pickL (v := ?_) 7 (some 28) rfl rfl (by kernel_rfl) (by kernel_rfl) (by kernel_rfl) (by decide) (by kernel_rfl) (by kernel_rfl) (fun _ _ _ h => h) (by rfl) ?_ (by assumption) ?_
          rotate_left
          · intro w' hSw
            obtain ⟨g0, g1, g2, g3, g4, g5, g6⟩ := hSw
            go_simp
            try with_reducible rfl
          try simp only [Act.put, List.setIfInBounds_toArray, List.set_cons_zero, List.set_cons_succ]
          refine pickL (v := ?_) 8 (some 29) rfl rfl (by kernel_rfl) (by kernel_rfl) (by kernel_rfl) (by decide) (by kernel_rfl) (by kernel_rfl) (fun _ _ _ h => h) (by rfl) ?_ (by assumption) ?_
          rotate_left
          · intro w' hSw
            obtain ⟨g0, g1, g2, g3, g4, g5, g6⟩ := hSw
            go_simp
            try with_reducible rfl
          try simp only [Act.put, List.setIfInBounds_toArray, List.set_cons_zero, List.set_cons_succ]
          refine pickA (v := .bool true) 9 (some 30) rfl rfl (by kernel_rfl) (by kernel_rfl) (by kernel_rfl) (by decide) (fun _ _ _ h => h) (by rfl) ?_ (by assumption) ?_
          · intro w'
            go_simp
          try simp only [Act.put, List.setIfInBounds_toArray, List.set_cons_zero, List.set_cons_succ]
          refine pickA (v := ?_) 10 (some 31) rfl rfl (by kernel_rfl) (by kernel_rfl) (by kernel_rfl) (by decide) (fun _ _ _ h => h) (by rfl) ?_ (by assumption) ?_
          rotate_left
          · intro w'
            go_simp
            try with_reducible rfl
          try simp only [Act.put, List.setIfInBounds_toArray, List.set_cons_zero, List.set_cons_succ]
          refine pickA (v := ?_) 11 (some 32) rfl rfl (by kernel_rfl) (by kernel_rfl) (by kernel_rfl) (by decide) (fun _ _ _ h => h) (by rfl) ?_ (by assumption) ?_
          rotate_left
          · intro w'
            go_simp
            try with_reducible rfl
          try simp only [Act.put, List.setIfInBounds_toArray, List.set_cons_zero, List.set_cons_succ]
          refine pickA (v := ?_) 12 (some 33) rfl rfl (by kernel_rfl) (by kernel_rfl) (by kernel_rfl) (by decide) (fun _ _ _ h => h) (by rfl) ?_ (by assumption) ?_
          rotate_left
          · intro w'
            go_simp
            try with_reducible rfl
          try simp only [Act.put, List.setIfInBounds_toArray, List.set_cons_zero, List.set_cons_succ]
          refine pickA (v := ?_) 13 (some 34) rfl rfl (by kernel_rfl) (by kernel_rfl) (by kernel_rfl) (by decide) (fun _ _ _ h => h) (by rfl) ?_ (by assumption) ?_
          rotate_left
          · intro w'
            go_simp
            try with_reducible rfl
          try simp only [Act.put, List.setIfInBounds_toArray, List.set_cons_zero, List.set_cons_succ]
          refine pickL (v := ?_) 14 (some 35) rfl rfl (by kernel_rfl) (by kernel_rfl) (by kernel_rfl) (by decide) (by kernel_rfl) (by kernel_rfl) (fun _ _ _ h => h) (by rfl) ?_ (by assumption) ?_
          rotate_left
          · intro w' hSw
            obtain ⟨g0, g1, g2, g3, g4, g5, g6⟩ := hSw
            go_simp
            try with_reducible rfl
          try simp only [Act.put, List.setIfInBounds_toArray, List.set_cons_zero, List.set_cons_succ]
          refine pickA (v := ?_) 15 (some 36) rfl rfl (by kernel_rfl) (by kernel_rfl) (by kernel_rfl) (by decide) (fun _ _ _ h => h) (by rfl) ?_ (by assumption) ?_
          rotate_left
          · intro w'
            go_simp
            try with_reducible rfl
          try simp only [Act.put, List.setIfInBounds_toArray, List.set_cons_zero, List.set_cons_succ]
          refine pickA (v := ?_) 16 (some 37) rfl rfl (by kernel_rfl) (by kernel_rfl) (by kernel_rfl) (by decide) (fun _ _ _ h => h) (by rfl) ?_ (by assumption) ?_
          rotate_left
          · intro w'
            go_simp
            try with_reducible rfl
          try simp only [Act.put, List.setIfInBounds_toArray, List.set_cons_zero, List.set_cons_succ]
          refine pickA (v := ?_) 17 (some 38) rfl rfl (by kernel_rfl) (by kernel_rfl) (by kernel_rfl) (by decide) (fun _ _ _ h => h) (by rfl) ?_ (by assumption) ?_
          rotate_left
          · intro w'
            go_simp
            try with_reducible rfl
          try simp only [Act.put, List.setIfInBounds_toArray, List.set_cons_zero, List.set_cons_succ]
          refine pickL (v := ?_) 18 (some 39) rfl rfl (by kernel_rfl) (by kernel_rfl) (by kernel_rfl) (by decide) (by kernel_rfl) (by kernel_rfl) (fun _ _ _ h => h) (by rfl) ?_ (by assumption) ?_
          rotate_left
          · intro w' hSw
            obtain ⟨g0, g1, g2, g3, g4, g5, g6⟩ := hSw
            go_simp
            try with_reducible rfl
          try simp only [Act.put, List.setIfInBounds_toArray, List.set_cons_zero, List.set_cons_succ]
          refine pickL (v := ?_) 19 (some 40) rfl rfl (by kernel_rfl) (by kernel_rfl) (by kernel_rfl) (by decide) (by kernel_rfl) (by kernel_rfl) (fun _ _ _ h => h) (by rfl) ?_ (by assumption) ?_
          rotate_left
          · intro w' hSw
            obtain ⟨g0, g1, g2, g3, g4, g5, g6⟩ := hSw
            go_simp
            try with_reducible rfl
          try simp only [Act.put, List.setIfInBounds_toArray, List.set_cons_zero, List.set_cons_succ]
          refine pickA (v := .bool false) 20 (some 41) rfl rfl (by kernel_rfl) (by kernel_rfl) (by kernel_rfl) (by decide) (fun _ _ _ h => h) (by rfl) ?_ (by assumption) ?_
          · intro w'
            go_simp
          try simp only [Act.put, List.setIfInBounds_toArray, List.set_cons_zero, List.set_cons_succ]
          refine pickA (v := ?_) 21 (some 42) rfl rfl (by kernel_rfl) (by kernel_rfl) (by kernel_rfl) (by decide) (fun _ _ _ h => h) (by rfl) ?_ (by assumption) ?_
          rotate_left
          · intro w'
            go_simp
            try with_reducible rfl
          try simp only [Act.put, List.setIfInBounds_toArray, List.set_cons_zero, List.set_cons_succ]
          refine doneL (by kernel_rfl) ?_ _
          clear hHeld
          go_wp2
          exact ⟨⟨j + 1, by omega, by simp, by rw [HFT.out]; exact HR.out.below ((Below.refl wr.heap.size wr).drew), HO, HB.out.trans (((Below.refl _ wr).drew).mono HB.out.size)⟩, by simp [intOf]; omega⟩
        · rw [hst.out, if_pos (by simp)] at HFT
          go_wp2
          refine regionL 22 (fun w' => w'.cell? ⟨b, 0, none⟩ = some (.slice (some ⟨g, 0, none⟩) ps.length vc) ∧ w'.cell? ⟨g, j * 5, none⟩ = some (.bool fa) ∧ w'.cell? ⟨g, j * 5 + 1, none⟩ = some (.int .i64 fn) ∧ w'.cell? ⟨g, j * 5 + 2, none⟩ = some (.bool ta) ∧ w'.cell? ⟨g, j * 5 + 3, none⟩ = some (.int .i64 tn) ∧ w'.cell? ⟨A, 0, none⟩ = some (.bool ga) ∧ w'.cell? ⟨A, 1, none⟩ = some (.int .i64 gn)) mixed ⟨hbr, d0, d1, d2, d3, x0, x1⟩ (fun hHeld => ?_)
          refine pickA (v := ?_) 0 (some 21) rfl rfl (by kernel_rfl) (by kernel_rfl) (by kernel_rfl) (by decide) (fun _ _ _ h => h) (by rfl) ?_ (by assumption) ?_
          rotate_left
          · intro w'
            go_simp
            try with_reducible rfl
          try simp only [Act.put, List.setIfInBounds_toArray, List.set_cons_zero, List.set_cons_succ]
          refine pickA (v := ?_) 1 (some 22) rfl rfl (by kernel_rfl) (by kernel_rfl) (by kernel_rfl) (by decide) (fun _ _ _ h => h) (by rfl) ?_ (by assumption) ?_
          rotate_left
          · intro w'
            go_simp
            try with_reducible rfl
          try simp only [Act.put, List.setIfInBounds_toArray, List.set_cons_zero, List.set_cons_succ]
          refine pickA (v := ?_) 2 (some 23) rfl rfl (by kernel_rfl) (by kernel_rfl) (by kernel_rfl) (by decide) (fun _ _ _ h => h) (by rfl) ?_ (by assumption) ?_
          rotate_left
          · intro w'
            go_simp
            try with_reducible rfl
          try simp only [Act.put, List.setIfInBounds_toArray, List.set_cons_zero, List.set_cons_succ]
          refine pickL (v := ?_) 3 (some 24) rfl rfl (by kernel_rfl) (by kernel_rfl) (by kernel_rfl) (by decide) (by kernel_rfl) (by kernel_rfl) (fun _ _ _ h => h) (by rfl) ?_ (by assumption) ?_
          rotate_left
          · intro w' hSw
            obtain ⟨g0, g1, g2, g3, g4, g5, g6⟩ := hSw
            go_simp
            try with_reducible rfl
          try simp only [Act.put, List.setIfInBounds_toArray, List.set_cons_zero, List.set_cons_succ]
          refine pickA (v := ?_) 4 (some 25) rfl rfl (by kernel_rfl) (by kernel_rfl) (by kernel_rfl) (by decide) (fun _ _ _ h => h) (by rfl) ?_ (by assumption) ?_
          rotate_left
          · intro w'
            go_simp
            try with_reducible rfl
          try simp only [Act.put, List.setIfInBounds_toArray, List.set_cons_zero, List.set_cons_succ]
          refine pickA (v := ?_) 5 (some 26) rfl rfl (by kernel_rfl) (by kernel_rfl) (by kernel_rfl) (by decide) (fun _ _ _ h => h) (by rfl) ?_ (by assumption) ?_
          rotate_left
          · intro w'
            go_simp
            try with_reducible rfl
          try simp only [Act.put, List.setIfInBounds_toArray, List.set_cons_zero, List.set_cons_succ]
          refine pickA (v := ?_) 6 (some 27) rfl rfl (by kernel_rfl) (by kernel_rfl) (by kernel_rfl) (by decide) (fun _ _ _ h => h) (by rfl) ?_ (by assumption) ?_
          rotate_left
          · intro w'
            go_simp
            try with_reducible rfl
          try simp only [Act.put, List.setIfInBounds_toArray, List.set_cons_zero, List.set_cons_succ]
          refine pickL (v := ?_) 7 (some 28) rfl rfl (by kernel_rfl) (by kernel_rfl) (by kernel_rfl) (by decide) (by kernel_rfl) (by kernel_rfl) (fun _ _ _ h => h) (by rfl) ?_ (by assumption) ?_
          rotate_left
          · intro w' hSw
            obtain ⟨g0, g1, g2, g3, g4, g5, g6⟩ := hSw
            go_simp
            try with_reducible rfl
          try simp only [Act.put, List.setIfInBounds_toArray, List.set_cons_zero, List.set_cons_succ]
          refine pickL (v := ?_) 8 (some 29) rfl rfl (by kernel_rfl) (by kernel_rfl) (by kernel_rfl) (by decide) (by kernel_rfl) (by kernel_rfl) (fun _ _ _ h => h) (by rfl) ?_ (by assumption) ?_
          rotate_left
          · intro w' hSw
            obtain ⟨g0, g1, g2, g3, g4, g5, g6⟩ := hSw
            go_simp
            try with_reducible rfl
          try simp only [Act.put, List.setIfInBounds_toArray, List.set_cons_zero, List.set_cons_succ]
          refine pickA (v := .bool true) 9 (some 30) rfl rfl (by kernel_rfl) (by kernel_rfl) (by kernel_rfl) (by decide) (fun _ _ _ h => h) (by rfl) ?_ (by assumption) ?_
          · intro w'
            go_simp
          try simp only [Act.put, List.setIfInBounds_toArray, List.set_cons_zero, List.set_cons_succ]
          refine pickA (v := ?_) 10 (some 31) rfl rfl (by kernel_rfl) (by kernel_rfl) (by kernel_rfl) (by decide) (fun _ _ _ h => h) (by rfl) ?_ (by assumption) ?_
          rotate_left
          · intro w'
            go_simp
            try with_reducible rfl
          try simp only [Act.put, List.setIfInBounds_toArray, List.set_cons_zero, List.set_cons_succ]
          refine pickA (v := ?_) 11 (some 32) rfl rfl (by kernel_rfl) (by kernel_rfl) (by kernel_rfl) (by decide) (fun _ _ _ h => h) (by rfl) ?_ (by assumption) ?_
          rotate_left
          · intro w'
            go_simp
            try with_reducible rfl
          try simp only [Act.put, List.setIfInBounds_toArray, List.set_cons_zero, List.set_cons_succ]
          refine pickA (v := ?_) 12 (some 33) rfl rfl (by kernel_rfl) (by kernel_rfl) (by kernel_rfl) (by decide) (fun _ _ _ h => h) (by rfl) ?_ (by assumption) ?_
          rotate_left
          · intro w'
            go_simp
            try with_reducible rfl
          try simp only [Act.put, List.setIfInBounds_toArray, List.set_cons_zero, List.set_cons_succ]
          refine pickA (v := ?_) 13 (some 34) rfl rfl (by kernel_rfl) (by kernel_rfl) (by kernel_rfl) (by decide) (fun _ _ _ h => h) (by rfl) ?_ (by assumption) ?_
          rotate_left
          · intro w'
            go_simp
            try with_reducible rfl
          try simp only [Act.put, List.setIfInBounds_toArray, List.set_cons_zero, List.set_cons_succ]
          refine pickL (v := ?_) 14 (some 35) rfl rfl (by kernel_rfl) (by kernel_rfl) (by kernel_rfl) (by decide) (by kernel_rfl) (by kernel_rfl) (fun _ _ _ h => h) (by rfl) ?_ (by assumption) ?_
          rotate_left
          · intro w' hSw
            obtain ⟨g0, g1, g2, g3, g4, g5, g6⟩ := hSw
            go_simp
            try with_reducible rfl
          try simp only [Act.put, List.setIfInBounds_toArray, List.set_cons_zero, List.set_cons_succ]
          refine pickA (v := ?_) 15 (some 36) rfl rfl (by kernel_rfl) (by kernel_rfl) (by kernel_rfl) (by decide) (fun _ _ _ h => h) (by rfl) ?_ (by assumption) ?_
          rotate_left
          · intro w'
            go_simp
            try with_reducible rfl
          try simp only [Act.put, List.setIfInBounds_toArray, List.set_cons_zero, List.set_cons_succ]
          refine pickA (v := ?_) 16 (some 37) rfl rfl (by kernel_rfl) (by kernel_rfl) (by kernel_rfl) (by decide) (fun _ _ _ h => h) (by rfl) ?_ (by assumption) ?_
          rotate_left
          · intro w'
            go_simp
            try with_reducible rfl
          try simp only [Act.put, List.setIfInBounds_toArray, List.set_cons_zero, List.set_cons_succ]
          refine pickA (v := ?_) 17 (some 38) rfl rfl (by kernel_rfl) (by kernel_rfl) (by kernel_rfl) (by decide) (fun _ _ _ h => h) (by rfl) ?_ (by assumption) ?_
          rotate_left
          · intro w'
            go_simp
            try with_reducible rfl
          try simp only [Act.put, List.setIfInBounds_toArray, List.set_cons_zero, List.set_cons_succ]
          refine pickL (v := ?_) 18 (some 39) rfl rfl (by kernel_rfl) (by kernel_rfl) (by kernel_rfl) (by decide) (by kernel_rfl) (by kernel_rfl) (fun _ _ _ h => h) (by rfl) ?_ (by assumption) ?_
          rotate_left
          · intro w' hSw
            obtain ⟨g0, g1, g2, g3, g4, g5, g6⟩ := hSw
            go_simp
            try with_reducible rfl
          try simp only [Act.put, List.setIfInBounds_toArray, List.set_cons_zero, List.set_cons_succ]
          refine pickL (v := ?_) 19 (some 40) rfl rfl (by kernel_rfl) (by kernel_rfl) (by kernel_rfl) (by decide) (by kernel_rfl) (by kernel_rfl) (fun _ _ _ h => h) (by rfl) ?_ (by assumption) ?_
          rotate_left
          · intro w' hSw
            obtain ⟨g0, g1, g2, g3, g4, g5, g6⟩ := hSw
            go_simp
            try with_reducible rfl
          try simp only [Act.put, List.setIfInBounds_toArray, List.set_cons_zero, List.set_cons_succ]
          refine pickA (v := .bool true) 20 (some 41) rfl rfl (by kernel_rfl) (by kernel_rfl) (by kernel_rfl) (by decide) (fun _ _ _ h => h) (by rfl) ?_ (by assumption) ?_
          · intro w'
            go_simp
          try simp only [Act.put, List.setIfInBounds_toArray, List.set_cons_zero, List.set_cons_succ]
          refine pickA (v := ?_) 21 (some 42) rfl rfl (by kernel_rfl) (by kernel_rfl) (by kernel_rfl) (by decide) (fun _ _ _ h => h) (by rfl) ?_ (by assumption) ?_
          rotate_left
          · intro w'
            go_simp
            try with_reducible rfl
          try simp only [Act.put, List.setIfInBounds_toArray, List.set_cons_zero, List.set_cons_succ]
          refine doneL (by kernel_rfl) ?_ _
          clear hHeld
          have bel := (Below.refl wr.drew.heap.size wr.drew).alloc (Nat.le_refl _) (.cells #[.bool fa, .int .i64 fn, .bool ta, .int .i64 tn, .slice pa pl pc] 35)
          have I4 := IsB.new wr.drew #[.bool fa, .int .i64 fn, .bool ta, .int .i64 tn, .slice pa pl pc] 35
          have hnews : ∀ jj x, (pcs [(⟨fa, fn, ta, tn, pa, pc, bs⟩ : Pc)])[jj]? = some x → (wr.drew.alloc (.cells #[.bool fa, .int .i64 fn, .bool ta, .int .i64 tn, .slice pa pl pc] 35)).cell? ((⟨wr.heap.size, 0, none⟩ : Addr).add jj) = some x := by
            intro jj x hu
            rw [add_none, Nat.zero_add]
            have h9 := I4.cell jj
            have e9 : wr.drew.heap.size = wr.heap.size := rfl
            rw [e9] at h9
            rw [h9]
            simp only [pcs, Pc.cs, List.flatMap_cons, List.flatMap_nil, List.append_nil] at hu
            rw [← hpl.out]
            simpa using hu
          have hfl : ((ps.take j).filter (stay ga gn)).length ≤ j := Nat.le_trans (List.length_filter_le _ _) (by rw [List.length_take]; omega)
          obtain ⟨v', w4, hrun, hrw, hgr, hat, -⟩ := run_append_rw (P := Try.prog) (wr.drew.alloc (.cells #[.bool fa, .int .i64 fn, .bool ta, .int .i64 tn, .slice pa pl pc] 35)) 26 26 35 i0 _ 5 56 Try.underlying26 hi0 hz0 hz1 hz2 rfl
            _ _ _ ((HR.out.below ((Below.refl wr.heap.size wr).drew)).below bel) (.slice (some ⟨wr.heap.size, 0, none⟩) 1 1) 1 (pcs [⟨fa, fn, ta, tn, pa, pc, bs⟩]) (by rfl) (Or.inl ⟨_, _, rfl, hnews⟩) (pcs_one _) (by unfold maxLen; omega) (by omega)
          have B3 := HB.out.trans (((Below.refl wr.heap.size wr).drew).mono HB.out.size)
          have B4 := hide ((B3.trans (bel.mono B3.size)).grown hgr (Nat.le_trans B3.size bel.size) (fun q hq => HO.out q hq))
          have HO4 : Hid (∀ q, v'.ownBlock = some q → W.heap.size ≤ q) := fun q hq => by
            rcases hat with h1 | h1
            · exact HO.out q (by rw [← h1]; exact hq)
            · rw [hq] at h1
              have := Option.some.inj h1
              have h3 := HB.out.size
              have h4 := bel.size
              have e9 : wr.drew.heap.size = wr.heap.size := rfl
              omega
          have R4 : Hid (Rw w4 35 5 v' ((ps.take (j + 1)).filter (stay ga gn)).length (pcs ((ps.take (j + 1)).filter (stay ga gn)))) := by
            show Rw _ _ _ _ _ _
            rw [HFT.out, List.length_append, pcs_app]
            exact hrw
          have HRUN := hide hrun
          obtain ⟨ya, yn, yc, rfl⟩ : ∃ ya yn yc, v' = .slice ya yn yc := by
            obtain ⟨x, y, z, -, -⟩ := hrw.shape
            exact ⟨_, _, _, z⟩
          clear hrun hrw hgr hat hnews I4 bel hfl HFT B3
          go_wp2_with (at_builtin; refine wpList_append_eq rfl (.tmp 43) (.tmp 51) 26 rfl _ _ (.slice ya yn yc) w4 rfl rfl HRUN.out ?_)
          exact ⟨⟨j + 1, by omega, by simp, R4, HO4, B4⟩, by simp [intOf]; omega⟩
    · obtain rfl : j = ps.length := by omega
      rw [List.take_length] at HR HO ⊢
      have hfl : (ps.filter (stay ga gn)).length ≤ ps.length := List.length_filter_le _ _
      have hB1 := X1.out.rs.blk.below HB.out
      have f0 := hB1.free 0
      have e0 := hB1.cell 0
      simp at e0
      have hblt : b < W.heap.size := X1.out.rs.blk.lt
      have hkS : Kp [b] wr (wr.setCell ⟨b, 0, none⟩ (.slice ua (ps.filter (stay ga gn)).length uc)) := (Kp.refl _ wr).set _ _ (Or.inl (by simp))
      have hnb : NoBy wr [b] := fun q hq => (X1.out.rs.below HB.out).noBy q (by simp at hq; subst hq; simp [rfoot])
      have X5 : Rx W (wr.setCell ⟨b, 0, none⟩ (.slice ua (ps.filter (stay ga gn)).length uc)) b (.slice va ps.length vc) (.slice ua (ps.filter (stay ga gn)).length uc) (ps.filter (stay ga gn)) c k := by
        refine ⟨⟨?_, ⟨?_, ?_⟩, by omega, X1.out.rs.c0, X1.out.rs.c1⟩, (Kp.of_below HB.out).set _ _ (Or.inl (by simp [rfoot])), fun q hq => Or.inr (HO.out q hq)⟩
        · have := hB1.set 0 (.slice ua (ps.filter (stay ga gn)).length uc)
          simpa using this
        · exact HR.out.kept fun q hq => Below.heap_setCell _ _ _ _ (by have := HO.out q hq; simp only []; omega)
        · intro p hp
          exact ((X1.out.rs.row.by_ p (List.mem_filter.1 hp).1).below HB.out).kp hkS hnb
      have hb3 := X5.rs.blk.cell 3
      have hf3 := X5.rs.blk.free 3
      simp at hb3
      have q0 := X5.rs.c0.2.2.1
      have q1 := X5.rs.c1.2.2.1
      have X6 := hide (X1.out.trans (X5.trans (X5.rs.count 3 (c.d + ((ps.length - (ps.filter (stay ga gn)).length : Nat) : Int)) { c with d := c.d + ((ps.length - (ps.filter (stay ga gn)).length : Nat) : Int) } (by simp) ⟨X5.rs.c0.1, X5.rs.c0.2.1, by simp only []; omega, X5.rs.c0.2.2.2⟩ ⟨by have := X5.rs.c1.1; simp only []; omega, by have := X5.rs.c1.2.1; simp only []; omega, by simp only []; omega, by have := X5.rs.c1.2.2.2; simp only []; omega⟩)))
      clear X5 hB1 hkS hnb HR HO HB X1 A1 hnq hi0 hz0 hz1 hz2
      have hlo : Hid (((ps.length - (ps.filter (stay ga gn)).length : Nat) : Int) = (ps.length : Int) - ((ps.filter (stay ga gn)).length : Int)) := by
        show _ = _
        omega
      rw [hlo.out] at X6
      generalize hfn : (ps.filter (stay ga gn)).length = fl at *
      replace hfn := hide hfn
      generalize hcd : c.d = cd at *
      replace hcd := hide hcd
      generalize hpn : ps.length = pn at *
      replace hpn := hide hpn
      go_wp2
      go_ret2
      have hl2 : ((ps.length - (ps.filter (stay ga gn)).length : Nat) : Int) = (pn : Int) - (fl : Int) := by
        rw [hfn.out, hpn.out]
        exact hlo.out
      rw [hl2, hcd.out, hpn.out]
      exact ⟨rfl, _, X6.out⟩

end Go.Proofs.Ytoinjmddmahpkaa
