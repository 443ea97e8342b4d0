/- Package model: told. -/
import Derived.Test.YtfnpapaibgbjpaaZL
namespace Go.Proofs.Ytfnpapaibgbjpaa
open Go.RowKit Go.Maps

set_option maxHeartbeats 4000000 in
set_option maxRecDepth 100000 in
theorem told_5 (v : Value) (l : List It) (hl : l.length ≤ 100000) (ho : okM l) (key high : Int) (ca : Option Addr) (cn cc : Nat) (w : World) (h : Sl w v l) :
    Calls Try.prog 37 #[v, .agg #[.int .i64 5, .int .u64 key, .int .u64 high, .slice ca cn cc]] w fun e w' => ∃ r : Rs, e = .returned (.agg r.cells) ∧ r.val = tl l 5 key high ∧ RsOk w' w.heap.size r ∧ Below w.heap.size w w' := by
  have mixed : Try.prog.follows .mixedOrders = true := by kernel_rfl
  have b1 := ((Below.refl w.heap.size w).alloc (Nat.le_refl _) (.cells #[.int .i64 5, .int .u64 key, .int .u64 high, .slice ca cn cc] 27)).alloc (by simp) (.cells #[.int .i64 0, .int .u64 0, .slice none 0 0, .slice none 0 0, .int .i64 0, .int .i64 0, .int .u64 0, .int .i64 0, .int .u64 0, .int .i64 0, .int .i64 0, .int .u64 0, .int .i64 0, .int .u64 0, .bool false] 46)
  have i0 : IsB ((w.alloc (.cells #[.int .i64 5, .int .u64 key, .int .u64 high, .slice ca cn cc] 27)).alloc (.cells #[.int .i64 0, .int .u64 0, .slice none 0 0, .slice none 0 0, .int .i64 0, .int .i64 0, .int .u64 0, .int .i64 0, .int .u64 0, .int .i64 0, .int .i64 0, .int .u64 0, .int .i64 0, .int .u64 0, .bool false] 46)) w.heap.size #[.int .i64 5, .int .u64 key, .int .u64 high, .slice ca cn cc] 27 := (IsB.new w #[.int .i64 5, .int .u64 key, .int .u64 high, .slice ca cn cc] _).below ((Below.refl _ _).alloc (Nat.le_refl _) _)
  have i1 : IsB ((w.alloc (.cells #[.int .i64 5, .int .u64 key, .int .u64 high, .slice ca cn cc] 27)).alloc (.cells #[.int .i64 0, .int .u64 0, .slice none 0 0, .slice none 0 0, .int .i64 0, .int .i64 0, .int .u64 0, .int .i64 0, .int .u64 0, .int .i64 0, .int .i64 0, .int .u64 0, .int .i64 0, .int .u64 0, .bool false] 46)) (w.heap.size + 1) #[.int .i64 0, .int .u64 0, .slice none 0 0, .slice none 0 0, .int .i64 0, .int .i64 0, .int .u64 0, .int .i64 0, .int .u64 0, .int .i64 0, .int .i64 0, .int .u64 0, .int .i64 0, .int .u64 0, .bool false] 46 := by
    have := IsB.new (w.alloc (.cells #[.int .i64 5, .int .u64 key, .int .u64 high, .slice ca cn cc] 27)) #[.int .i64 0, .int .u64 0, .slice none 0 0, .slice none 0 0, .int .i64 0, .int .i64 0, .int .u64 0, .int .i64 0, .int .u64 0, .int .i64 0, .int .i64 0, .int .u64 0, .int .i64 0, .int .u64 0, .bool false] 46
    rwa [World.size_alloc] at this
  have hS := h.below b1
  obtain ⟨va, vc, rfl, -, -⟩ := h.shape
  have c1 := i0.cell 1
  simp at c1
  have HC := hide (place_any _ l hl ho key _ hS)
  have HB := hide b1
  have HO := hide ho
  have I0 := hide i0
  have I1 := hide i1
  have HS := hide hS
  clear i0 i1 hS h b1 ho
  go_enter Try.func37, Try.ntmps37
  go_wp2_with fail
  refine HC.out.mono ?_
  rintro e w1 ⟨rfl, hb⟩
  have J0 := hide (I0.out.below hb)
  have J1 := hide (I1.out.below hb)
  have JS := hide (HS.out.below hb)
  have hbs : Hid (w.heap.size + 1 + 1 ≤ w1.heap.size) := by have := hb.size; simp at this; exact this
  have JB := hide (HB.out.trans (hb.mono (by simp; omega)))
  clear hb HC I0 I1 HS HB c1
  generalize hH : w.heap.size = H at *
  replace hH := hide hH
  generalize hn : l.length = n at *
  replace hn := hide hn
  have hip := pl_le key l
  rw [hn.out] at hip
  generalize hi : pl key l = i at *
  replace hi := hide hi
  have j0 := J0.out.cell 0
  have j1 := J0.out.cell 1
  have j2 := J0.out.cell 2
  simp at j0 j1 j2
  have hn' : Hid (n = l.length) := hn.out.symm
  have hic : i ≤ vc := by
    obtain ⟨_, _, e1, e2, -⟩ := JS.out.shape
    injection e1 with _ _ e3
    rw [hn.out] at e2
    omega
  rcases JS.out.tail i (by rw [hn.out]; exact hip) with ⟨hva, hle, hvc⟩ | ⟨g0, k0, hva, hts⟩
  · subst hva hvc
    have hn0 : n = 0 := by rw [← hn.out, hle]; rfl
    subst hn0
    have hi0 : i = 0 := by omega
    subst hi0
    have TS : Hid (Sl w1 (.slice none 0 0) (l.drop 0)) := by
      show Sl _ _ _
      rw [hle]
      exact Sl.nil _
    clear hle
    go_wp2
    refine regionL 15 (fun _ => True) mixed trivial (fun hHeld => ?_)
    refine pickA (v := ?_) 0 (some 11) rfl rfl (by kernel_rfl) (by kernel_rfl) (by kernel_rfl) (by decide) (fun _ _ _ h => h) (by rfl) ?_ (by assumption) ?_
    rotate_left
    · intro w'
      go_simp
      try with_reducible rfl
    try simp only [Act.put, List.setIfInBounds_toArray, List.set_cons_zero, List.set_cons_succ]
    refine pickA (v := ?_) 1 (some 12) rfl rfl (by kernel_rfl) (by kernel_rfl) (by kernel_rfl) (by decide) (fun _ _ _ h => h) (by rfl) ?_ (by assumption) ?_
    rotate_left
    · intro w'
      go_simp
      try with_reducible rfl
    try simp only [Act.put, List.setIfInBounds_toArray, List.set_cons_zero, List.set_cons_succ]
    refine pickA (v := ?_) 2 (some 13) rfl rfl (by kernel_rfl) (by kernel_rfl) (by kernel_rfl) (by decide) (fun _ _ _ h => h) (by rfl) ?_ (by assumption) ?_
    rotate_left
    · intro w'
      go_simp
      try with_reducible rfl
    try simp only [Act.put, List.setIfInBounds_toArray, List.set_cons_zero, List.set_cons_succ]
    refine pickA (v := .bool false) 3 (some 14) rfl rfl (by kernel_rfl) (by kernel_rfl) (by kernel_rfl) (by decide) (fun _ _ _ h => h) (by rfl) ?_ (by assumption) ?_
    · intro w'
      go_simp
      all_goals simp
    try simp only [Act.put, List.setIfInBounds_toArray, List.set_cons_zero, List.set_cons_succ]
    refine pickA (v := ?_) 4 (some 15) rfl rfl (by kernel_rfl) (by kernel_rfl) (by kernel_rfl) (by decide) (fun _ _ _ h => h) (by rfl) ?_ (by assumption) ?_
    rotate_left
    · intro w'
      go_simp
      try with_reducible rfl
    try simp only [Act.put, List.setIfInBounds_toArray, List.set_cons_zero, List.set_cons_succ]
    refine pickN 5 (some 16) rfl rfl (by kernel_rfl) (by kernel_rfl) (by kernel_rfl) (by decide) (fun _ _ _ h => h) (by rfl) (by assumption) ?_
    try simp only [Act.put, List.setIfInBounds_toArray, List.set_cons_zero, List.set_cons_succ]
    refine pickN 6 (some 17) rfl rfl (by kernel_rfl) (by kernel_rfl) (by kernel_rfl) (by decide) (fun _ _ _ h => h) (by rfl) (by assumption) ?_
    try simp only [Act.put, List.setIfInBounds_toArray, List.set_cons_zero, List.set_cons_succ]
    refine pickN 7 (some 18) rfl rfl (by kernel_rfl) (by kernel_rfl) (by kernel_rfl) (by decide) (fun _ _ _ h => h) (by rfl) (by assumption) ?_
    try simp only [Act.put, List.setIfInBounds_toArray, List.set_cons_zero, List.set_cons_succ]
    refine pickN 8 (some 19) rfl rfl (by kernel_rfl) (by kernel_rfl) (by kernel_rfl) (by decide) (fun _ _ _ h => h) (by rfl) (by assumption) ?_
    try simp only [Act.put, List.setIfInBounds_toArray, List.set_cons_zero, List.set_cons_succ]
    refine pickN 9 (some 20) rfl rfl (by kernel_rfl) (by kernel_rfl) (by kernel_rfl) (by decide) (fun _ _ _ h => h) (by rfl) (by assumption) ?_
    try simp only [Act.put, List.setIfInBounds_toArray, List.set_cons_zero, List.set_cons_succ]
    refine pickN 10 (some 21) rfl rfl (by kernel_rfl) (by kernel_rfl) (by kernel_rfl) (by decide) (fun _ _ _ h => h) (by rfl) (by assumption) ?_
    try simp only [Act.put, List.setIfInBounds_toArray, List.set_cons_zero, List.set_cons_succ]
    refine pickN 11 (some 22) rfl rfl (by kernel_rfl) (by kernel_rfl) (by kernel_rfl) (by decide) (fun _ _ _ h => h) (by rfl) (by assumption) ?_
    try simp only [Act.put, List.setIfInBounds_toArray, List.set_cons_zero, List.set_cons_succ]
    refine pickN 12 (some 23) rfl rfl (by kernel_rfl) (by kernel_rfl) (by kernel_rfl) (by decide) (fun _ _ _ h => h) (by rfl) (by assumption) ?_
    try simp only [Act.put, List.setIfInBounds_toArray, List.set_cons_zero, List.set_cons_succ]
    refine pickA (v := ?_) 13 (some 24) rfl rfl (by kernel_rfl) (by kernel_rfl) (by kernel_rfl) (by decide) (fun _ _ _ h => h) (by rfl) ?_ (by assumption) ?_
    rotate_left
    · intro w'
      go_simp
      try with_reducible rfl
    try simp only [Act.put, List.setIfInBounds_toArray, List.set_cons_zero, List.set_cons_succ]
    refine pickA (v := ?_) 14 (some 6) rfl rfl (by kernel_rfl) (by kernel_rfl) (by kernel_rfl) (by decide) (fun _ _ _ h => h) (by rfl) ?_ (by assumption) ?_
    rotate_left
    · intro w'
      go_simp
      try with_reducible rfl
    try simp only [Act.put, List.setIfInBounds_toArray, List.set_cons_zero, List.set_cons_succ]
    refine doneL (by kernel_rfl) ?_ _
    clear hHeld
    clear j1
    go_wp2
    refine regionL 6 (fun w' => w'.cell? ⟨H, 2, none⟩ = some (.int .u64 high)) mixed j2 (fun hHeld => ?_)
    refine pickA (v := ?_) 0 (some 62) rfl rfl (by kernel_rfl) (by kernel_rfl) (by kernel_rfl) (by decide) (fun _ _ _ h => h) (by rfl) ?_ (by assumption) ?_
    rotate_left
    · intro w'
      go_simp
      try with_reducible rfl
    try simp only [Act.put, List.setIfInBounds_toArray, List.set_cons_zero, List.set_cons_succ]
    refine pickA (v := ?_) 1 (some 63) rfl rfl (by kernel_rfl) (by kernel_rfl) (by kernel_rfl) (by decide) (fun _ _ _ h => h) (by rfl) ?_ (by assumption) ?_
    rotate_left
    · intro w'
      go_simp
      try with_reducible rfl
    try simp only [Act.put, List.setIfInBounds_toArray, List.set_cons_zero, List.set_cons_succ]
    refine pickA (v := .slice none 0 0) 2 (some 64) rfl rfl (by kernel_rfl) (by kernel_rfl) (by kernel_rfl) (by decide) (fun _ _ _ h => h) (by rfl) ?_ (by assumption) ?_
    · intro w'
      go_simp
    try simp only [Act.put, List.setIfInBounds_toArray, List.set_cons_zero, List.set_cons_succ]
    refine pickA (v := ?_) 3 (some 65) rfl rfl (by kernel_rfl) (by kernel_rfl) (by kernel_rfl) (by decide) (fun _ _ _ h => h) (by rfl) ?_ (by assumption) ?_
    rotate_left
    · intro w'
      go_simp
      try with_reducible rfl
    try simp only [Act.put, List.setIfInBounds_toArray, List.set_cons_zero, List.set_cons_succ]
    refine pickL (v := ?_) 4 (some 66) rfl rfl (by kernel_rfl) (by kernel_rfl) (by kernel_rfl) (by decide) (by kernel_rfl) (by kernel_rfl) (fun _ _ _ h => h) (by rfl) ?_ (by assumption) ?_
    rotate_left
    · intro w' hSw
      have q0 := hSw
      go_simp
      try with_reducible rfl
    try simp only [Act.put, List.setIfInBounds_toArray, List.set_cons_zero, List.set_cons_succ]
    refine oneL (i := 5) (by kernel_rfl) rfl (fun K hK => ?_)
    go_simp
    refine (ranged_any (.slice none 0 0) (l.drop 0) (by rw [List.length_drop]; have := hn.out; omega) (okM_drop HO.out 0) high _ (TS.out.below (((Below.refl w1.heap.size w1).drew).trans (((Below.refl _ _).drew).mono (Nat.le_refl _))))).mono ?_; rintro e w5 ⟨r, rfl, hrv, hro, b5⟩
    have b6 : Below w1.heap.size w1 w5 := (((Below.refl w1.heap.size w1).drew).trans (((Below.refl _ _).drew).mono (Nat.le_refl _))).trans (b5.mono (Nat.le_refl _))
    have HRV := hide hrv
    have HRO := hide hro
    have J5 := hide (J1.out.below b6)
    have JB5 := hide (JB.out.trans (b6.mono (by have := hbs.out; omega)))
    have hb5 : Hid (H + 1 + 1 ≤ w5.heap.size) := Nat.le_trans hbs.out b5.size
    have S5 : Hid (w5.cell? ⟨H, 2, none⟩ = some (.int .u64 high)) := (b6.cell (lt_of_cell j2)).trans j2
    clear hrv hro b5 b6
    refine hK.out _ _ ?_ ?_
    · exact S5.out
    clear hK K
    try simp only [Act.put, List.setIfInBounds_toArray, List.set_cons_zero, List.set_cons_succ]
    clear hHeld
    have hHeld : (fun w' => w'.cell? ⟨H, 2, none⟩ = some (.int .u64 high)) w5 := S5.out
    refine lateL (i := 6) (by kernel_rfl) rfl (by decide) (by kernel_rfl) (fun K hK => ?_)
    obtain ⟨w6, hst, K6, k6⟩ := store_res J5.out (cs := r.cells) rfl rfl (by unfold Rs.cells; kernel_rfl)
    have HST := hide hst
    have L6 := hide K6
    have B6 : Hid (Below H w w6) := JB5.out.trans (k6.to_below (by have := hb5.out; omega) (by simp))
    have R6 : Hid (RsOk w6 H r) := by
      have hr := HRO.out.keep k6 (fun q hm => by simp at hm; subst hm; exact ⟨_, _, J5.out, by decide⟩) (fun q hm hq => by simp at hm; subst hm; have h9 : w1.heap.size ≤ _ := HRO.out.new _ hq; have := hbs.out; omega)
      exact ⟨hr.by_, hr.vn, hr.it, fun q hq => by have h9 : w1.heap.size ≤ _ := hr.new q hq; have := hbs.out; omega⟩
    clear hst K6 k6
    refine step_store_w rfl 46 (.tmp 4) (.tmp 67) rfl rfl rfl HST.out ?_
    refine hK.out _ _ ?_
    clear hK K
    try simp only [Act.put, List.setIfInBounds_toArray]
    refine doneL (by kernel_rfl) ?_ _
    clear hHeld
    go_wp2
    refine ret_res (p := 4) (b := H + 1) Try.results37 rfl rfl L6.out ?_
    rw [hH.out]
    refine ⟨r, rfl, ?_, R6.out, B6.out⟩
    rw [HRV.out]
    show _ = tl l 5 key high
    unfold tl
    simp [hi.out]
  · obtain ⟨xs, hxs⟩ : ∃ xs, (if vc = i then some (⟨g0, k0, none⟩ : Addr) else some ⟨g0, k0 + i * 2, none⟩) = xs := ⟨_, rfl⟩
    rw [hxs] at hts
    replace hxs := hide hxs
    have TS := hide hts
    clear hts
    by_cases hlt : i < n
    · skip
      have hil : i < l.length := by rw [hn.out]; exact hlt
      obtain ⟨g, k, c, ev, -, -, h2, h3⟩ := JS.out.cells i hil
      injection ev with ev el ec
      clear el
      subst ev ec
      have RX := hide (JS.out.2 _ (List.getElem_mem hil)).1
      have HXA := hide (JS.out.2 _ (List.getElem_mem hil)).2
      have HXL := hide (okM_bs HO.out _ (List.getElem_mem hil))
      obtain ⟨xn, HXN⟩ : ∃ z, l[i].bs.length = z := ⟨_, rfl⟩
      rw [HXN] at h3
      replace HXN := hide HXN
      generalize hx : l[i].k = x at *
      generalize l[i].a = xa at *
      generalize hxb : l[i].bs = xb at *
      generalize l[i].c = xc at *
      replace hx := hide hx
      replace hxb := hide hxb
      injection hva with hva
      injection hva with e1 e2 e3
      subst e1 e2
      clear e3
      by_cases hk0 : x = key
      · have hk : Hid (x = key) := hk0
        clear hk0
        go_wp2
        refine regionL 15 (fun w' => w'.cell? ⟨H, 1, none⟩ = some (.int .u64 key) ∧ w'.cell? ⟨g, k + i * 2, none⟩ = some (.int .u64 x)) mixed ⟨j1, h2⟩ (fun hHeld => ?_)
        refine pickA (v := ?_) 0 (some 11) rfl rfl (by kernel_rfl) (by kernel_rfl) (by kernel_rfl) (by decide) (fun _ _ _ h => h) (by rfl) ?_ (by assumption) ?_
        rotate_left
        · intro w'
          go_simp
          try with_reducible rfl
        try simp only [Act.put, List.setIfInBounds_toArray, List.set_cons_zero, List.set_cons_succ]
        refine pickA (v := ?_) 1 (some 12) rfl rfl (by kernel_rfl) (by kernel_rfl) (by kernel_rfl) (by decide) (fun _ _ _ h => h) (by rfl) ?_ (by assumption) ?_
        rotate_left
        · intro w'
          go_simp
          try with_reducible rfl
        try simp only [Act.put, List.setIfInBounds_toArray, List.set_cons_zero, List.set_cons_succ]
        refine pickA (v := ?_) 2 (some 13) rfl rfl (by kernel_rfl) (by kernel_rfl) (by kernel_rfl) (by decide) (fun _ _ _ h => h) (by rfl) ?_ (by assumption) ?_
        rotate_left
        · intro w'
          go_simp
          try with_reducible rfl
        try simp only [Act.put, List.setIfInBounds_toArray, List.set_cons_zero, List.set_cons_succ]
        refine pickA (v := .bool true) 3 (some 14) rfl rfl (by kernel_rfl) (by kernel_rfl) (by kernel_rfl) (by decide) (fun _ _ _ h => h) (by rfl) ?_ (by assumption) ?_
        · intro w'
          go_simp
          all_goals (simp; omega)
        try simp only [Act.put, List.setIfInBounds_toArray, List.set_cons_zero, List.set_cons_succ]
        refine pickA (v := ?_) 4 (some 15) rfl rfl (by kernel_rfl) (by kernel_rfl) (by kernel_rfl) (by decide) (fun _ _ _ h => h) (by rfl) ?_ (by assumption) ?_
        rotate_left
        · intro w'
          go_simp
          try with_reducible rfl
        try simp only [Act.put, List.setIfInBounds_toArray, List.set_cons_zero, List.set_cons_succ]
        refine pickA (v := ?_) 5 (some 16) rfl rfl (by kernel_rfl) (by kernel_rfl) (by kernel_rfl) (by decide) (fun _ _ _ h => h) (by rfl) ?_ (by assumption) ?_
        rotate_left
        · intro w'
          go_simp
          try with_reducible rfl
        try simp only [Act.put, List.setIfInBounds_toArray, List.set_cons_zero, List.set_cons_succ]
        refine pickA (v := ?_) 6 (some 17) rfl rfl (by kernel_rfl) (by kernel_rfl) (by kernel_rfl) (by decide) (fun _ _ _ h => h) (by rfl) ?_ (by assumption) ?_
        rotate_left
        · intro w'
          go_simp
          try with_reducible rfl
        try simp only [Act.put, List.setIfInBounds_toArray, List.set_cons_zero, List.set_cons_succ]
        refine pickA (v := ?_) 7 (some 18) rfl rfl (by kernel_rfl) (by kernel_rfl) (by kernel_rfl) (by decide) (fun _ _ _ h => h) (by rfl) ?_ (by assumption) ?_
        rotate_left
        · intro w'
          go_simp
          try with_reducible rfl
        try simp only [Act.put, List.setIfInBounds_toArray, List.set_cons_zero, List.set_cons_succ]
        refine pickA (v := ?_) 8 (some 19) rfl rfl (by kernel_rfl) (by kernel_rfl) (by kernel_rfl) (by decide) (fun _ _ _ h => h) (by rfl) ?_ (by assumption) ?_
        rotate_left
        · intro w'
          go_simp
          try with_reducible rfl
        try simp only [Act.put, List.setIfInBounds_toArray, List.set_cons_zero, List.set_cons_succ]
        refine pickL (v := ?_) 9 (some 20) rfl rfl (by kernel_rfl) (by kernel_rfl) (by kernel_rfl) (by decide) (by kernel_rfl) (by kernel_rfl) (fun _ _ _ h => h) (by rfl) ?_ (by assumption) ?_
        rotate_left
        · intro w' hSw
          obtain ⟨q0, q1⟩ := hSw
          go_simp
          try with_reducible rfl
        try simp only [Act.put, List.setIfInBounds_toArray, List.set_cons_zero, List.set_cons_succ]
        refine pickA (v := ?_) 10 (some 21) rfl rfl (by kernel_rfl) (by kernel_rfl) (by kernel_rfl) (by decide) (fun _ _ _ h => h) (by rfl) ?_ (by assumption) ?_
        rotate_left
        · intro w'
          go_simp
          try with_reducible rfl
        try simp only [Act.put, List.setIfInBounds_toArray, List.set_cons_zero, List.set_cons_succ]
        refine pickL (v := ?_) 11 (some 22) rfl rfl (by kernel_rfl) (by kernel_rfl) (by kernel_rfl) (by decide) (by kernel_rfl) (by kernel_rfl) (fun _ _ _ h => h) (by rfl) ?_ (by assumption) ?_
        rotate_left
        · intro w' hSw
          obtain ⟨q0, q1⟩ := hSw
          go_simp
          try with_reducible rfl
        try simp only [Act.put, List.setIfInBounds_toArray, List.set_cons_zero, List.set_cons_succ]
        refine pickA (v := .bool true) 12 (some 23) rfl rfl (by kernel_rfl) (by kernel_rfl) (by kernel_rfl) (by decide) (fun _ _ _ h => h) (by rfl) ?_ (by assumption) ?_
        · intro w'
          go_simp
          all_goals simp [hk.out]
        try simp only [Act.put, List.setIfInBounds_toArray, List.set_cons_zero, List.set_cons_succ]
        refine pickA (v := ?_) 13 (some 24) rfl rfl (by kernel_rfl) (by kernel_rfl) (by kernel_rfl) (by decide) (fun _ _ _ h => h) (by rfl) ?_ (by assumption) ?_
        rotate_left
        · intro w'
          go_simp
          try with_reducible rfl
        try simp only [Act.put, List.setIfInBounds_toArray, List.set_cons_zero, List.set_cons_succ]
        refine pickA (v := ?_) 14 (some 6) rfl rfl (by kernel_rfl) (by kernel_rfl) (by kernel_rfl) (by decide) (fun _ _ _ h => h) (by rfl) ?_ (by assumption) ?_
        rotate_left
        · intro w'
          go_simp
          try with_reducible rfl
        try simp only [Act.put, List.setIfInBounds_toArray, List.set_cons_zero, List.set_cons_succ]
        refine doneL (by kernel_rfl) ?_ _
        clear hHeld
        clear j1
        go_wp2
        refine regionL 6 (fun w' => w'.cell? ⟨H, 2, none⟩ = some (.int .u64 high)) mixed j2 (fun hHeld => ?_)
        refine pickA (v := ?_) 0 (some 62) rfl rfl (by kernel_rfl) (by kernel_rfl) (by kernel_rfl) (by decide) (fun _ _ _ h => h) (by rfl) ?_ (by assumption) ?_
        rotate_left
        · intro w'
          go_simp
          try with_reducible rfl
        try simp only [Act.put, List.setIfInBounds_toArray, List.set_cons_zero, List.set_cons_succ]
        refine pickA (v := ?_) 1 (some 63) rfl rfl (by kernel_rfl) (by kernel_rfl) (by kernel_rfl) (by decide) (fun _ _ _ h => h) (by rfl) ?_ (by assumption) ?_
        rotate_left
        · intro w'
          go_simp
          try with_reducible rfl
        try simp only [Act.put, List.setIfInBounds_toArray, List.set_cons_zero, List.set_cons_succ]
        refine pickA (v := .slice xs (n - i) (vc - i)) 2 (some 64) rfl rfl (by kernel_rfl) (by kernel_rfl) (by kernel_rfl) (by decide) (fun _ _ _ h => h) (by rfl) ?_ (by assumption) ?_
        · intro w'
          go_simp
          rw [hxs.out]
        try simp only [Act.put, List.setIfInBounds_toArray, List.set_cons_zero, List.set_cons_succ]
        refine pickA (v := ?_) 3 (some 65) rfl rfl (by kernel_rfl) (by kernel_rfl) (by kernel_rfl) (by decide) (fun _ _ _ h => h) (by rfl) ?_ (by assumption) ?_
        rotate_left
        · intro w'
          go_simp
          try with_reducible rfl
        try simp only [Act.put, List.setIfInBounds_toArray, List.set_cons_zero, List.set_cons_succ]
        refine pickL (v := ?_) 4 (some 66) rfl rfl (by kernel_rfl) (by kernel_rfl) (by kernel_rfl) (by decide) (by kernel_rfl) (by kernel_rfl) (fun _ _ _ h => h) (by rfl) ?_ (by assumption) ?_
        rotate_left
        · intro w' hSw
          have q0 := hSw
          go_simp
          try with_reducible rfl
        try simp only [Act.put, List.setIfInBounds_toArray, List.set_cons_zero, List.set_cons_succ]
        refine oneL (i := 5) (by kernel_rfl) rfl (fun K hK => ?_)
        go_simp
        refine (ranged_any (.slice xs (n - i) (vc - i)) (l.drop i) (by rw [List.length_drop]; have := hn.out; omega) (okM_drop HO.out i) high _ (TS.out.below (((Below.refl w1.heap.size w1).drew).trans (((Below.refl _ _).drew).mono (Nat.le_refl _))))).mono ?_; rintro e w5 ⟨r, rfl, hrv, hro, b5⟩
        have b6 : Below w1.heap.size w1 w5 := (((Below.refl w1.heap.size w1).drew).trans (((Below.refl _ _).drew).mono (Nat.le_refl _))).trans (b5.mono (Nat.le_refl _))
        have HRV := hide hrv
        have HRO := hide hro
        have J5 := hide (J1.out.below b6)
        have JB5 := hide (JB.out.trans (b6.mono (by have := hbs.out; omega)))
        have hb5 : Hid (H + 1 + 1 ≤ w5.heap.size) := Nat.le_trans hbs.out b5.size
        have S5 : Hid (w5.cell? ⟨H, 2, none⟩ = some (.int .u64 high)) := (b6.cell (lt_of_cell j2)).trans j2
        clear hrv hro b5 b6
        refine hK.out _ _ ?_ ?_
        · exact S5.out
        clear hK K
        try simp only [Act.put, List.setIfInBounds_toArray, List.set_cons_zero, List.set_cons_succ]
        clear hHeld
        have hHeld : (fun w' => w'.cell? ⟨H, 2, none⟩ = some (.int .u64 high)) w5 := S5.out
        refine lateL (i := 6) (by kernel_rfl) rfl (by decide) (by kernel_rfl) (fun K hK => ?_)
        obtain ⟨w6, hst, K6, k6⟩ := store_res J5.out (cs := r.cells) rfl rfl (by unfold Rs.cells; kernel_rfl)
        have HST := hide hst
        have L6 := hide K6
        have B6 : Hid (Below H w w6) := JB5.out.trans (k6.to_below (by have := hb5.out; omega) (by simp))
        have R6 : Hid (RsOk w6 H r) := by
          have hr := HRO.out.keep k6 (fun q hm => by simp at hm; subst hm; exact ⟨_, _, J5.out, by decide⟩) (fun q hm hq => by simp at hm; subst hm; have h9 : w1.heap.size ≤ _ := HRO.out.new _ hq; have := hbs.out; omega)
          exact ⟨hr.by_, hr.vn, hr.it, fun q hq => by have h9 : w1.heap.size ≤ _ := hr.new q hq; have := hbs.out; omega⟩
        clear hst K6 k6
        refine step_store_w rfl 46 (.tmp 4) (.tmp 67) rfl rfl rfl HST.out ?_
        refine hK.out _ _ ?_
        clear hK K
        try simp only [Act.put, List.setIfInBounds_toArray]
        refine doneL (by kernel_rfl) ?_ _
        clear hHeld
        go_wp2
        refine ret_res (p := 4) (b := H + 1) Try.results37 rfl rfl L6.out ?_
        rw [hH.out]
        refine ⟨r, rfl, ?_, R6.out, B6.out⟩
        rw [HRV.out]
        show _ = tl l 5 key high
        unfold tl
        simp [hi.out]
      · have hk : Hid (¬x = key) := hk0
        clear hk0
        go_wp2
        refine regionL 15 (fun w' => w'.cell? ⟨H, 1, none⟩ = some (.int .u64 key) ∧ w'.cell? ⟨g, k + i * 2, none⟩ = some (.int .u64 x)) mixed ⟨j1, h2⟩ (fun hHeld => ?_)
        refine pickA (v := ?_) 0 (some 11) rfl rfl (by kernel_rfl) (by kernel_rfl) (by kernel_rfl) (by decide) (fun _ _ _ h => h) (by rfl) ?_ (by assumption) ?_
        rotate_left
        · intro w'
          go_simp
          try with_reducible rfl
        try simp only [Act.put, List.setIfInBounds_toArray, List.set_cons_zero, List.set_cons_succ]
        refine pickA (v := ?_) 1 (some 12) rfl rfl (by kernel_rfl) (by kernel_rfl) (by kernel_rfl) (by decide) (fun _ _ _ h => h) (by rfl) ?_ (by assumption) ?_
        rotate_left
        · intro w'
          go_simp
          try with_reducible rfl
        try simp only [Act.put, List.setIfInBounds_toArray, List.set_cons_zero, List.set_cons_succ]
        refine pickA (v := ?_) 2 (some 13) rfl rfl (by kernel_rfl) (by kernel_rfl) (by kernel_rfl) (by decide) (fun _ _ _ h => h) (by rfl) ?_ (by assumption) ?_
        rotate_left
        · intro w'
          go_simp
          try with_reducible rfl
        try simp only [Act.put, List.setIfInBounds_toArray, List.set_cons_zero, List.set_cons_succ]
        refine pickA (v := .bool true) 3 (some 14) rfl rfl (by kernel_rfl) (by kernel_rfl) (by kernel_rfl) (by decide) (fun _ _ _ h => h) (by rfl) ?_ (by assumption) ?_
        · intro w'
          go_simp
          all_goals (simp; omega)
        try simp only [Act.put, List.setIfInBounds_toArray, List.set_cons_zero, List.set_cons_succ]
        refine pickA (v := ?_) 4 (some 15) rfl rfl (by kernel_rfl) (by kernel_rfl) (by kernel_rfl) (by decide) (fun _ _ _ h => h) (by rfl) ?_ (by assumption) ?_
        rotate_left
        · intro w'
          go_simp
          try with_reducible rfl
        try simp only [Act.put, List.setIfInBounds_toArray, List.set_cons_zero, List.set_cons_succ]
        refine pickA (v := ?_) 5 (some 16) rfl rfl (by kernel_rfl) (by kernel_rfl) (by kernel_rfl) (by decide) (fun _ _ _ h => h) (by rfl) ?_ (by assumption) ?_
        rotate_left
        · intro w'
          go_simp
          try with_reducible rfl
        try simp only [Act.put, List.setIfInBounds_toArray, List.set_cons_zero, List.set_cons_succ]
        refine pickA (v := ?_) 6 (some 17) rfl rfl (by kernel_rfl) (by kernel_rfl) (by kernel_rfl) (by decide) (fun _ _ _ h => h) (by rfl) ?_ (by assumption) ?_
        rotate_left
        · intro w'
          go_simp
          try with_reducible rfl
        try simp only [Act.put, List.setIfInBounds_toArray, List.set_cons_zero, List.set_cons_succ]
        refine pickA (v := ?_) 7 (some 18) rfl rfl (by kernel_rfl) (by kernel_rfl) (by kernel_rfl) (by decide) (fun _ _ _ h => h) (by rfl) ?_ (by assumption) ?_
        rotate_left
        · intro w'
          go_simp
          try with_reducible rfl
        try simp only [Act.put, List.setIfInBounds_toArray, List.set_cons_zero, List.set_cons_succ]
        refine pickA (v := ?_) 8 (some 19) rfl rfl (by kernel_rfl) (by kernel_rfl) (by kernel_rfl) (by decide) (fun _ _ _ h => h) (by rfl) ?_ (by assumption) ?_
        rotate_left
        · intro w'
          go_simp
          try with_reducible rfl
        try simp only [Act.put, List.setIfInBounds_toArray, List.set_cons_zero, List.set_cons_succ]
        refine pickL (v := ?_) 9 (some 20) rfl rfl (by kernel_rfl) (by kernel_rfl) (by kernel_rfl) (by decide) (by kernel_rfl) (by kernel_rfl) (fun _ _ _ h => h) (by rfl) ?_ (by assumption) ?_
        rotate_left
        · intro w' hSw
          obtain ⟨q0, q1⟩ := hSw
          go_simp
          try with_reducible rfl
        try simp only [Act.put, List.setIfInBounds_toArray, List.set_cons_zero, List.set_cons_succ]
        refine pickA (v := ?_) 10 (some 21) rfl rfl (by kernel_rfl) (by kernel_rfl) (by kernel_rfl) (by decide) (fun _ _ _ h => h) (by rfl) ?_ (by assumption) ?_
        rotate_left
        · intro w'
          go_simp
          try with_reducible rfl
        try simp only [Act.put, List.setIfInBounds_toArray, List.set_cons_zero, List.set_cons_succ]
        refine pickL (v := ?_) 11 (some 22) rfl rfl (by kernel_rfl) (by kernel_rfl) (by kernel_rfl) (by decide) (by kernel_rfl) (by kernel_rfl) (fun _ _ _ h => h) (by rfl) ?_ (by assumption) ?_
        rotate_left
        · intro w' hSw
          obtain ⟨q0, q1⟩ := hSw
          go_simp
          try with_reducible rfl
        try simp only [Act.put, List.setIfInBounds_toArray, List.set_cons_zero, List.set_cons_succ]
        refine pickA (v := .bool false) 12 (some 23) rfl rfl (by kernel_rfl) (by kernel_rfl) (by kernel_rfl) (by decide) (fun _ _ _ h => h) (by rfl) ?_ (by assumption) ?_
        · intro w'
          go_simp
          all_goals simp [hk.out]
        try simp only [Act.put, List.setIfInBounds_toArray, List.set_cons_zero, List.set_cons_succ]
        refine pickA (v := ?_) 13 (some 24) rfl rfl (by kernel_rfl) (by kernel_rfl) (by kernel_rfl) (by decide) (fun _ _ _ h => h) (by rfl) ?_ (by assumption) ?_
        rotate_left
        · intro w'
          go_simp
          try with_reducible rfl
        try simp only [Act.put, List.setIfInBounds_toArray, List.set_cons_zero, List.set_cons_succ]
        refine pickA (v := ?_) 14 (some 6) rfl rfl (by kernel_rfl) (by kernel_rfl) (by kernel_rfl) (by decide) (fun _ _ _ h => h) (by rfl) ?_ (by assumption) ?_
        rotate_left
        · intro w'
          go_simp
          try with_reducible rfl
        try simp only [Act.put, List.setIfInBounds_toArray, List.set_cons_zero, List.set_cons_succ]
        refine doneL (by kernel_rfl) ?_ _
        clear hHeld
        clear j1
        go_wp2
        refine regionL 6 (fun w' => w'.cell? ⟨H, 2, none⟩ = some (.int .u64 high)) mixed j2 (fun hHeld => ?_)
        refine pickA (v := ?_) 0 (some 62) rfl rfl (by kernel_rfl) (by kernel_rfl) (by kernel_rfl) (by decide) (fun _ _ _ h => h) (by rfl) ?_ (by assumption) ?_
        rotate_left
        · intro w'
          go_simp
          try with_reducible rfl
        try simp only [Act.put, List.setIfInBounds_toArray, List.set_cons_zero, List.set_cons_succ]
        refine pickA (v := ?_) 1 (some 63) rfl rfl (by kernel_rfl) (by kernel_rfl) (by kernel_rfl) (by decide) (fun _ _ _ h => h) (by rfl) ?_ (by assumption) ?_
        rotate_left
        · intro w'
          go_simp
          try with_reducible rfl
        try simp only [Act.put, List.setIfInBounds_toArray, List.set_cons_zero, List.set_cons_succ]
        refine pickA (v := .slice xs (n - i) (vc - i)) 2 (some 64) rfl rfl (by kernel_rfl) (by kernel_rfl) (by kernel_rfl) (by decide) (fun _ _ _ h => h) (by rfl) ?_ (by assumption) ?_
        · intro w'
          go_simp
          rw [hxs.out]
        try simp only [Act.put, List.setIfInBounds_toArray, List.set_cons_zero, List.set_cons_succ]
        refine pickA (v := ?_) 3 (some 65) rfl rfl (by kernel_rfl) (by kernel_rfl) (by kernel_rfl) (by decide) (fun _ _ _ h => h) (by rfl) ?_ (by assumption) ?_
        rotate_left
        · intro w'
          go_simp
          try with_reducible rfl
        try simp only [Act.put, List.setIfInBounds_toArray, List.set_cons_zero, List.set_cons_succ]
        refine pickL (v := ?_) 4 (some 66) rfl rfl (by kernel_rfl) (by kernel_rfl) (by kernel_rfl) (by decide) (by kernel_rfl) (by kernel_rfl) (fun _ _ _ h => h) (by rfl) ?_ (by assumption) ?_
        rotate_left
        · intro w' hSw
          have q0 := hSw
          go_simp
          try with_reducible rfl
        try simp only [Act.put, List.setIfInBounds_toArray, List.set_cons_zero, List.set_cons_succ]
        refine oneL (i := 5) (by kernel_rfl) rfl (fun K hK => ?_)
        go_simp
        refine (ranged_any (.slice xs (n - i) (vc - i)) (l.drop i) (by rw [List.length_drop]; have := hn.out; omega) (okM_drop HO.out i) high _ (TS.out.below (((Below.refl w1.heap.size w1).drew).trans (((Below.refl _ _).drew).mono (Nat.le_refl _))))).mono ?_; rintro e w5 ⟨r, rfl, hrv, hro, b5⟩
        have b6 : Below w1.heap.size w1 w5 := (((Below.refl w1.heap.size w1).drew).trans (((Below.refl _ _).drew).mono (Nat.le_refl _))).trans (b5.mono (Nat.le_refl _))
        have HRV := hide hrv
        have HRO := hide hro
        have J5 := hide (J1.out.below b6)
        have JB5 := hide (JB.out.trans (b6.mono (by have := hbs.out; omega)))
        have hb5 : Hid (H + 1 + 1 ≤ w5.heap.size) := Nat.le_trans hbs.out b5.size
        have S5 : Hid (w5.cell? ⟨H, 2, none⟩ = some (.int .u64 high)) := (b6.cell (lt_of_cell j2)).trans j2
        clear hrv hro b5 b6
        refine hK.out _ _ ?_ ?_
        · exact S5.out
        clear hK K
        try simp only [Act.put, List.setIfInBounds_toArray, List.set_cons_zero, List.set_cons_succ]
        clear hHeld
        have hHeld : (fun w' => w'.cell? ⟨H, 2, none⟩ = some (.int .u64 high)) w5 := S5.out
        refine lateL (i := 6) (by kernel_rfl) rfl (by decide) (by kernel_rfl) (fun K hK => ?_)
        obtain ⟨w6, hst, K6, k6⟩ := store_res J5.out (cs := r.cells) rfl rfl (by unfold Rs.cells; kernel_rfl)
        have HST := hide hst
        have L6 := hide K6
        have B6 : Hid (Below H w w6) := JB5.out.trans (k6.to_below (by have := hb5.out; omega) (by simp))
        have R6 : Hid (RsOk w6 H r) := by
          have hr := HRO.out.keep k6 (fun q hm => by simp at hm; subst hm; exact ⟨_, _, J5.out, by decide⟩) (fun q hm hq => by simp at hm; subst hm; have h9 : w1.heap.size ≤ _ := HRO.out.new _ hq; have := hbs.out; omega)
          exact ⟨hr.by_, hr.vn, hr.it, fun q hq => by have h9 : w1.heap.size ≤ _ := hr.new q hq; have := hbs.out; omega⟩
        clear hst K6 k6
        refine step_store_w rfl 46 (.tmp 4) (.tmp 67) rfl rfl rfl HST.out ?_
        refine hK.out _ _ ?_
        clear hK K
        try simp only [Act.put, List.setIfInBounds_toArray]
        refine doneL (by kernel_rfl) ?_ _
        clear hHeld
        go_wp2
        refine ret_res (p := 4) (b := H + 1) Try.results37 rfl rfl L6.out ?_
        rw [hH.out]
        refine ⟨r, rfl, ?_, R6.out, B6.out⟩
        rw [HRV.out]
        show _ = tl l 5 key high
        unfold tl
        simp [hi.out]
    · have hin : Hid (n = i) := by show n = i; omega
      subst hva
      clear hlt
      go_wp2
      refine regionL 15 (fun _ => True) mixed trivial (fun hHeld => ?_)
      refine pickA (v := ?_) 0 (some 11) rfl rfl (by kernel_rfl) (by kernel_rfl) (by kernel_rfl) (by decide) (fun _ _ _ h => h) (by rfl) ?_ (by assumption) ?_
      rotate_left
      · intro w'
        go_simp
        try with_reducible rfl
      try simp only [Act.put, List.setIfInBounds_toArray, List.set_cons_zero, List.set_cons_succ]
      refine pickA (v := ?_) 1 (some 12) rfl rfl (by kernel_rfl) (by kernel_rfl) (by kernel_rfl) (by decide) (fun _ _ _ h => h) (by rfl) ?_ (by assumption) ?_
      rotate_left
      · intro w'
        go_simp
        try with_reducible rfl
      try simp only [Act.put, List.setIfInBounds_toArray, List.set_cons_zero, List.set_cons_succ]
      refine pickA (v := ?_) 2 (some 13) rfl rfl (by kernel_rfl) (by kernel_rfl) (by kernel_rfl) (by decide) (fun _ _ _ h => h) (by rfl) ?_ (by assumption) ?_
      rotate_left
      · intro w'
        go_simp
        try with_reducible rfl
      try simp only [Act.put, List.setIfInBounds_toArray, List.set_cons_zero, List.set_cons_succ]
      refine pickA (v := .bool false) 3 (some 14) rfl rfl (by kernel_rfl) (by kernel_rfl) (by kernel_rfl) (by decide) (fun _ _ _ h => h) (by rfl) ?_ (by assumption) ?_
      · intro w'
        go_simp
        all_goals (have hz := hin.out; simp; omega)
      try simp only [Act.put, List.setIfInBounds_toArray, List.set_cons_zero, List.set_cons_succ]
      refine pickA (v := ?_) 4 (some 15) rfl rfl (by kernel_rfl) (by kernel_rfl) (by kernel_rfl) (by decide) (fun _ _ _ h => h) (by rfl) ?_ (by assumption) ?_
      rotate_left
      · intro w'
        go_simp
        try with_reducible rfl
      try simp only [Act.put, List.setIfInBounds_toArray, List.set_cons_zero, List.set_cons_succ]
      refine pickN 5 (some 16) rfl rfl (by kernel_rfl) (by kernel_rfl) (by kernel_rfl) (by decide) (fun _ _ _ h => h) (by rfl) (by assumption) ?_
      try simp only [Act.put, List.setIfInBounds_toArray, List.set_cons_zero, List.set_cons_succ]
      refine pickN 6 (some 17) rfl rfl (by kernel_rfl) (by kernel_rfl) (by kernel_rfl) (by decide) (fun _ _ _ h => h) (by rfl) (by assumption) ?_
      try simp only [Act.put, List.setIfInBounds_toArray, List.set_cons_zero, List.set_cons_succ]
      refine pickN 7 (some 18) rfl rfl (by kernel_rfl) (by kernel_rfl) (by kernel_rfl) (by decide) (fun _ _ _ h => h) (by rfl) (by assumption) ?_
      try simp only [Act.put, List.setIfInBounds_toArray, List.set_cons_zero, List.set_cons_succ]
      refine pickN 8 (some 19) rfl rfl (by kernel_rfl) (by kernel_rfl) (by kernel_rfl) (by decide) (fun _ _ _ h => h) (by rfl) (by assumption) ?_
      try simp only [Act.put, List.setIfInBounds_toArray, List.set_cons_zero, List.set_cons_succ]
      refine pickN 9 (some 20) rfl rfl (by kernel_rfl) (by kernel_rfl) (by kernel_rfl) (by decide) (fun _ _ _ h => h) (by rfl) (by assumption) ?_
      try simp only [Act.put, List.setIfInBounds_toArray, List.set_cons_zero, List.set_cons_succ]
      refine pickN 10 (some 21) rfl rfl (by kernel_rfl) (by kernel_rfl) (by kernel_rfl) (by decide) (fun _ _ _ h => h) (by rfl) (by assumption) ?_
      try simp only [Act.put, List.setIfInBounds_toArray, List.set_cons_zero, List.set_cons_succ]
      refine pickN 11 (some 22) rfl rfl (by kernel_rfl) (by kernel_rfl) (by kernel_rfl) (by decide) (fun _ _ _ h => h) (by rfl) (by assumption) ?_
      try simp only [Act.put, List.setIfInBounds_toArray, List.set_cons_zero, List.set_cons_succ]
      refine pickN 12 (some 23) rfl rfl (by kernel_rfl) (by kernel_rfl) (by kernel_rfl) (by decide) (fun _ _ _ h => h) (by rfl) (by assumption) ?_
      try simp only [Act.put, List.setIfInBounds_toArray, List.set_cons_zero, List.set_cons_succ]
      refine pickA (v := ?_) 13 (some 24) rfl rfl (by kernel_rfl) (by kernel_rfl) (by kernel_rfl) (by decide) (fun _ _ _ h => h) (by rfl) ?_ (by assumption) ?_
      rotate_left
      · intro w'
        go_simp
        try with_reducible rfl
      try simp only [Act.put, List.setIfInBounds_toArray, List.set_cons_zero, List.set_cons_succ]
      refine pickA (v := ?_) 14 (some 6) rfl rfl (by kernel_rfl) (by kernel_rfl) (by kernel_rfl) (by decide) (fun _ _ _ h => h) (by rfl) ?_ (by assumption) ?_
      rotate_left
      · intro w'
        go_simp
        try with_reducible rfl
      try simp only [Act.put, List.setIfInBounds_toArray, List.set_cons_zero, List.set_cons_succ]
      refine doneL (by kernel_rfl) ?_ _
      clear hHeld
      clear j1
      go_wp2
      refine regionL 6 (fun w' => w'.cell? ⟨H, 2, none⟩ = some (.int .u64 high)) mixed j2 (fun hHeld => ?_)
      refine pickA (v := ?_) 0 (some 62) rfl rfl (by kernel_rfl) (by kernel_rfl) (by kernel_rfl) (by decide) (fun _ _ _ h => h) (by rfl) ?_ (by assumption) ?_
      rotate_left
      · intro w'
        go_simp
        try with_reducible rfl
      try simp only [Act.put, List.setIfInBounds_toArray, List.set_cons_zero, List.set_cons_succ]
      refine pickA (v := ?_) 1 (some 63) rfl rfl (by kernel_rfl) (by kernel_rfl) (by kernel_rfl) (by decide) (fun _ _ _ h => h) (by rfl) ?_ (by assumption) ?_
      rotate_left
      · intro w'
        go_simp
        try with_reducible rfl
      try simp only [Act.put, List.setIfInBounds_toArray, List.set_cons_zero, List.set_cons_succ]
      refine pickA (v := .slice xs (n - i) (vc - i)) 2 (some 64) rfl rfl (by kernel_rfl) (by kernel_rfl) (by kernel_rfl) (by decide) (fun _ _ _ h => h) (by rfl) ?_ (by assumption) ?_
      · intro w'
        go_simp
        rw [hxs.out]
      try simp only [Act.put, List.setIfInBounds_toArray, List.set_cons_zero, List.set_cons_succ]
      refine pickA (v := ?_) 3 (some 65) rfl rfl (by kernel_rfl) (by kernel_rfl) (by kernel_rfl) (by decide) (fun _ _ _ h => h) (by rfl) ?_ (by assumption) ?_
      rotate_left
      · intro w'
        go_simp
        try with_reducible rfl
      try simp only [Act.put, List.setIfInBounds_toArray, List.set_cons_zero, List.set_cons_succ]
      refine pickL (v := ?_) 4 (some 66) rfl rfl (by kernel_rfl) (by kernel_rfl) (by kernel_rfl) (by decide) (by kernel_rfl) (by kernel_rfl) (fun _ _ _ h => h) (by rfl) ?_ (by assumption) ?_
      rotate_left
      · intro w' hSw
        have q0 := hSw
        go_simp
        try with_reducible rfl
      try simp only [Act.put, List.setIfInBounds_toArray, List.set_cons_zero, List.set_cons_succ]
      refine oneL (i := 5) (by kernel_rfl) rfl (fun K hK => ?_)
      go_simp
      refine (ranged_any (.slice xs (n - i) (vc - i)) (l.drop i) (by rw [List.length_drop]; have := hn.out; omega) (okM_drop HO.out i) high _ (TS.out.below (((Below.refl w1.heap.size w1).drew).trans (((Below.refl _ _).drew).mono (Nat.le_refl _))))).mono ?_; rintro e w5 ⟨r, rfl, hrv, hro, b5⟩
      have b6 : Below w1.heap.size w1 w5 := (((Below.refl w1.heap.size w1).drew).trans (((Below.refl _ _).drew).mono (Nat.le_refl _))).trans (b5.mono (Nat.le_refl _))
      have HRV := hide hrv
      have HRO := hide hro
      have J5 := hide (J1.out.below b6)
      have JB5 := hide (JB.out.trans (b6.mono (by have := hbs.out; omega)))
      have hb5 : Hid (H + 1 + 1 ≤ w5.heap.size) := Nat.le_trans hbs.out b5.size
      have S5 : Hid (w5.cell? ⟨H, 2, none⟩ = some (.int .u64 high)) := (b6.cell (lt_of_cell j2)).trans j2
      clear hrv hro b5 b6
      refine hK.out _ _ ?_ ?_
      · exact S5.out
      clear hK K
      try simp only [Act.put, List.setIfInBounds_toArray, List.set_cons_zero, List.set_cons_succ]
      clear hHeld
      have hHeld : (fun w' => w'.cell? ⟨H, 2, none⟩ = some (.int .u64 high)) w5 := S5.out
      refine lateL (i := 6) (by kernel_rfl) rfl (by decide) (by kernel_rfl) (fun K hK => ?_)
      obtain ⟨w6, hst, K6, k6⟩ := store_res J5.out (cs := r.cells) rfl rfl (by unfold Rs.cells; kernel_rfl)
      have HST := hide hst
      have L6 := hide K6
      have B6 : Hid (Below H w w6) := JB5.out.trans (k6.to_below (by have := hb5.out; omega) (by simp))
      have R6 : Hid (RsOk w6 H r) := by
        have hr := HRO.out.keep k6 (fun q hm => by simp at hm; subst hm; exact ⟨_, _, J5.out, by decide⟩) (fun q hm hq => by simp at hm; subst hm; have h9 : w1.heap.size ≤ _ := HRO.out.new _ hq; have := hbs.out; omega)
        exact ⟨hr.by_, hr.vn, hr.it, fun q hq => by have h9 : w1.heap.size ≤ _ := hr.new q hq; have := hbs.out; omega⟩
      clear hst K6 k6
      refine step_store_w rfl 46 (.tmp 4) (.tmp 67) rfl rfl rfl HST.out ?_
      refine hK.out _ _ ?_
      clear hK K
      try simp only [Act.put, List.setIfInBounds_toArray]
      refine doneL (by kernel_rfl) ?_ _
      clear hHeld
      go_wp2
      refine ret_res (p := 4) (b := H + 1) Try.results37 rfl rfl L6.out ?_
      rw [hH.out]
      refine ⟨r, rfl, ?_, R6.out, B6.out⟩
      rw [HRV.out]
      show _ = tl l 5 key high
      unfold tl
      simp [hi.out]

end Go.Proofs.Ytfnpapaibgbjpaa
