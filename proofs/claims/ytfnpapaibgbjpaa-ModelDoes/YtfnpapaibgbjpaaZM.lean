/- Package model: write. -/
import Derived.Test.YtfnpapaibgbjpaaZL
namespace Go.Proofs.Ytfnpapaibgbjpaa
open Go.RowKit Go.Maps

/-- What a call makes of items, if it told that error. -/
def wv (l : List It) (kd key : Int) (cb : List UInt8) (er : Int) : List (Int × List UInt8) :=
  if er = 0 ∧ kd = 1 then (l.map It.val).take (pl key l) ++ (key, cb) :: (l.map It.val).drop (pl key l)
  else if er = 0 ∧ kd = 2 then (l.map It.val).take (pl key l) ++ (l.map It.val).drop (pl key l + 1)
  else l.map It.val

set_option maxHeartbeats 4000000 in
set_option maxRecDepth 100000 in
theorem write_err (v : Value) (l : List It) (key high : Int) (ca : Option Addr) (cb : List UInt8) (cc : Nat) (w : World) (kd er : Int) (he : er ≠ 0) (h : Ow w v l) :
    Calls Try.prog 38 #[v, .agg #[.int .i64 kd, .int .u64 key, .int .u64 high, .slice ca cb.length cc], .int .i64 er] w fun e w' => ∃ v' m, e = .returned v' ∧ Ow w' v' m ∧ m.map It.val = wv l kd key cb er ∧ (v'.ownBlock = v.ownBlock ∨ ∃ q, v'.ownBlock = some q ∧ w.heap.size ≤ q) ∧ Kp v.ownBlock.toList w w' := by
  obtain ⟨cn, hcn⟩ : ∃ z, cb.length = z := ⟨_, rfl⟩
  rw [hcn]
  have b1 := hide ((Below.refl w.heap.size w).alloc (Nat.le_refl _) (.cells #[.int .i64 kd, .int .u64 key, .int .u64 high, .slice ca cn cc] 27))
  have H0 := hide h
  have heb : (er == 0) = false := by simpa using he
  have HE := hide he
  clear h he
  go_enter Try.func38, Try.ntmps38
  go_wp2
  go_ret
  refine ⟨v, l, rfl, H0.out.below b1.out, ?_, Or.inl rfl, Kp.of_below b1.out⟩
  unfold wv
  rw [if_neg (fun h => HE.out h.1), if_neg (fun h => HE.out h.1)]

set_option maxHeartbeats 4000000 in
set_option maxRecDepth 100000 in
theorem write_read (v : Value) (l : List It) (hl : l.length ≤ 100000) (ho : okM l) (key high : Int) (ca : Option Addr) (cb : List UInt8) (cc : Nat) (w : World) (kd : Int) (hk1 : kd ≠ 1) (hk2 : kd ≠ 2) (h : Ow w v l) :
    Calls Try.prog 38 #[v, .agg #[.int .i64 kd, .int .u64 key, .int .u64 high, .slice ca cb.length cc], .int .i64 0] w fun e w' => ∃ v' m, e = .returned v' ∧ Ow w' v' m ∧ m.map It.val = wv l kd key cb 0 ∧ (v'.ownBlock = v.ownBlock ∨ ∃ q, v'.ownBlock = some q ∧ w.heap.size ≤ q) ∧ Kp v.ownBlock.toList w w' := by
  obtain ⟨cn, hcn⟩ : ∃ z, cb.length = z := ⟨_, rfl⟩
  rw [hcn]
  have b1 := (Below.refl w.heap.size w).alloc (Nat.le_refl _) (.cells #[.int .i64 kd, .int .u64 key, .int .u64 high, .slice ca cn cc] 27)
  have Vb := hide (IsB.new w #[.int .i64 kd, .int .u64 key, .int .u64 high, .slice ca cn cc] 27)
  have Ro := hide (h.below b1)
  have B := hide b1
  have hBs : Hid (w.heap.size ≤ (w.alloc (.cells #[.int .i64 kd, .int .u64 key, .int .u64 high, .slice ca cn cc] 27)).heap.size) := b1.size
  have hk1b : (kd == 1) = false := by simpa using hk1
  have hk2b : (kd == 2) = false := by simpa using hk2
  clear h b1
  have c1 := Vb.out.cell 1
  simp at c1
  go_enter Try.func38, Try.ntmps38
  go_wp2_with fail
  generalize w.alloc (.cells #[.int .i64 kd, .int .u64 key, .int .u64 high, .slice ca cn cc] 27) = W1 at *
  generalize hH : w.heap.size = H at Vb ⊢
  replace hH := hide hH
  refine (place_any _ l hl ho key _ Ro.out.sl).mono ?_
  rintro e w2 ⟨rfl, hb⟩
  replace Ro := hide (Ro.out.below hb)
  replace Vb := hide (Vb.out.below hb)
  replace B := hide (B.out.trans (hb.mono hBs.out))
  replace hBs : Hid (w.heap.size ≤ _) := Nat.le_trans hBs.out hb.size
  clear hb c1
  have hip : Hid (pl key l ≤ l.length) := pl_le key l
  generalize hi : pl key l = i at hip ⊢
  replace hi := hide hi
  have j0 := Vb.out.cell 0
  simp at j0
  go_wp2
  go_ret
  refine ⟨v, l, rfl, Ro.out, ?_, Or.inl rfl, Kp.of_below B.out⟩
  unfold wv
  rw [if_neg (fun h => hk1 h.2), if_neg (fun h => hk2 h.2)]

set_option maxHeartbeats 4000000 in
set_option maxRecDepth 100000 in
theorem write_ins (v : Value) (l : List It) (hl : l.length ≤ 100000) (ho : okM l) (key high : Int) (ca : Option Addr) (cb : List UInt8) (cc : Nat) (w : World) (hc : Rd8 w ca cb) (hcl : cb.length ≤ 140737488355328) (hca : ca = none → cc = 0) (h : Ow w v l) :
    Calls Try.prog 38 #[v, .agg #[.int .i64 1, .int .u64 key, .int .u64 high, .slice ca cb.length cc], .int .i64 0] w fun e w' => ∃ v' m, e = .returned v' ∧ Ow w' v' m ∧ m.map It.val = wv l 1 key cb 0 ∧ (v'.ownBlock = v.ownBlock ∨ ∃ q, v'.ownBlock = some q ∧ w.heap.size ≤ q) ∧ Kp v.ownBlock.toList w w' := by
  have mixed : Try.prog.follows .mixedOrders = true := by kernel_rfl
  have HCL := hide hcl
  obtain ⟨cn, hcn⟩ : ∃ z, cb.length = z := ⟨_, rfl⟩
  rw [hcn]
  have b1 := (Below.refl w.heap.size w).alloc (Nat.le_refl _) (.cells #[.int .i64 1, .int .u64 key, .int .u64 high, .slice ca cn cc] 27)
  have Vb := hide (IsB.new w #[.int .i64 1, .int .u64 key, .int .u64 high, .slice ca cn cc] 27)
  have Ro := hide (h.below b1)
  have B := hide b1
  have hBs : Hid (w.heap.size ≤ (w.alloc (.cells #[.int .i64 1, .int .u64 key, .int .u64 high, .slice ca cn cc] 27)).heap.size) := b1.size
  have HCN := hide hcn
  have RC := hide (hc.below b1)
  have HCA := hide hca
  clear h b1 hc hcl hca hcn
  have c1 := Vb.out.cell 1
  simp at c1
  go_enter Try.func38, Try.ntmps38
  go_wp2_with fail
  generalize w.alloc (.cells #[.int .i64 1, .int .u64 key, .int .u64 high, .slice ca cn cc] 27) = W1 at *
  generalize hH : w.heap.size = H at Vb ⊢
  replace hH := hide hH
  refine (place_any _ l hl ho key _ Ro.out.sl).mono ?_
  rintro e w2 ⟨rfl, hb⟩
  replace Ro := hide (Ro.out.below hb)
  replace Vb := hide (Vb.out.below hb)
  replace B := hide (B.out.trans (hb.mono hBs.out))
  replace hBs : Hid (w.heap.size ≤ _) := Nat.le_trans hBs.out hb.size
  replace RC := hide (RC.out.below hb)
  clear hb c1
  have hip : Hid (pl key l ≤ l.length) := pl_le key l
  generalize hi : pl key l = i at hip ⊢
  replace hi := hide hi
  have j0 := Vb.out.cell 0
  simp at j0
  go_wp2
  have b9 := (Below.refl w2.heap.size w2).drew
  replace Ro := hide (Ro.out.below b9)
  replace Vb := hide (Vb.out.below b9)
  replace B := hide (B.out.trans (b9.mono hBs.out))
  replace hBs : Hid (w.heap.size ≤ _) := Nat.le_trans hBs.out b9.size
  clear b9
  refine regionL 11 (fun w' => w'.cell? ⟨H, 1, none⟩ = some (.int .u64 key) ∧ w'.cell? ⟨H, 3, none⟩ = some (.slice ca cn cc)) mixed ⟨Vb.out.cell 1, Vb.out.cell 3⟩ (fun hHeld => ?_)
  refine pickA (v := ?_) 0 (some 19) rfl rfl (by kernel_rfl) (by kernel_rfl) (by kernel_rfl) (by decide) (fun _ _ _ h => h) (by rfl) ?_ (by assumption) ?_
  rotate_left
  · intro w'
    go_simp
    try with_reducible rfl
  try simp only [Act.put, List.setIfInBounds_toArray, List.set_cons_zero, List.set_cons_succ]
  refine pickA (v := ?_) 1 (some 20) rfl rfl (by kernel_rfl) (by kernel_rfl) (by kernel_rfl) (by decide) (fun _ _ _ h => h) (by rfl) ?_ (by assumption) ?_
  rotate_left
  · intro w'
    go_simp
    try with_reducible rfl
  try simp only [Act.put, List.setIfInBounds_toArray, List.set_cons_zero, List.set_cons_succ]
  refine pickA (v := ?_) 2 (some 21) rfl rfl (by kernel_rfl) (by kernel_rfl) (by kernel_rfl) (by decide) (fun _ _ _ h => h) (by rfl) ?_ (by assumption) ?_
  rotate_left
  · intro w'
    go_simp
    try with_reducible rfl
  try simp only [Act.put, List.setIfInBounds_toArray, List.set_cons_zero, List.set_cons_succ]
  refine pickL (v := ?_) 3 (some 22) rfl rfl (by kernel_rfl) (by kernel_rfl) (by kernel_rfl) (by decide) (by kernel_rfl) (by kernel_rfl) (fun _ _ _ h => h) (by rfl) ?_ (by assumption) ?_
  rotate_left
  · intro w' hSw
    obtain ⟨q0, q1⟩ := hSw
    go_simp
    try with_reducible rfl
  try simp only [Act.put, List.setIfInBounds_toArray, List.set_cons_zero, List.set_cons_succ]
  refine pickA (v := ?_) 4 (some 23) rfl rfl (by kernel_rfl) (by kernel_rfl) (by kernel_rfl) (by decide) (fun _ _ _ h => h) (by rfl) ?_ (by assumption) ?_
  rotate_left
  · intro w'
    go_simp
    try with_reducible rfl
  try simp only [Act.put, List.setIfInBounds_toArray, List.set_cons_zero, List.set_cons_succ]
  refine pickL (v := ?_) 5 (some 24) rfl rfl (by kernel_rfl) (by kernel_rfl) (by kernel_rfl) (by decide) (by kernel_rfl) (by kernel_rfl) (fun _ _ _ h => h) (by rfl) ?_ (by assumption) ?_
  rotate_left
  · intro w' hSw
    obtain ⟨q0, q1⟩ := hSw
    go_simp
    try with_reducible rfl
  try simp only [Act.put, List.setIfInBounds_toArray, List.set_cons_zero, List.set_cons_succ]
  refine oneL (i := 6) (by kernel_rfl) rfl (fun K hK => ?_)
  go_simp
  rw [← HCN.out]
  refine (bclone_any ca cc cb (by have := HCL.out; omega) HCA.out _ (RC.out.below ((Below.refl _ _).drew))).mono ?_; rintro e w5 ⟨da, dc, rfl, hby, hnw, hdn, b5⟩
  have BY := hide hby
  have DN := hide hdn
  replace Ro := hide (Ro.out.below b5)
  replace Vb := hide (Vb.out.below b5)
  replace B := hide (B.out.trans (b5.mono hBs.out))
  replace hBs : Hid (w.heap.size ≤ _) := Nat.le_trans hBs.out b5.size
  rw [HCN.out]
  clear hby hnw hdn b5
  refine hK.out _ _ ?_ ?_
  · exact ⟨Vb.out.cell 1, Vb.out.cell 3⟩
  clear hK K
  try simp only [Act.put, List.setIfInBounds_toArray, List.set_cons_zero, List.set_cons_succ]
  clear hHeld
  have hHeld : (fun w' => w'.cell? ⟨H, 1, none⟩ = some (.int .u64 key) ∧ w'.cell? ⟨H, 3, none⟩ = some (.slice ca cn cc)) w5 := ⟨Vb.out.cell 1, Vb.out.cell 3⟩
  refine pickA (v := ?_) 7 (some 26) rfl rfl (by kernel_rfl) (by kernel_rfl) (by kernel_rfl) (by decide) (fun _ _ _ h => h) (by rfl) ?_ (by assumption) ?_
  rotate_left
  · intro w'
    go_simp
    try with_reducible rfl
  try simp only [Act.put, List.setIfInBounds_toArray, List.set_cons_zero, List.set_cons_succ]
  refine oneL (i := 8) (by kernel_rfl) rfl (fun K hK => ?_)
  go_simp
  have b7 := (Below.refl w5.heap.size w5).alloc (Nat.le_refl _) (.cells #[.int .u64 key, .slice da cn dc] 61)
  have N := hide (IsB.new w5 #[.int .u64 key, .slice da cn dc] 61)
  have hN5 : Hid (¬v.ownBlock = some w5.heap.size) := fun e => by have := (Ro.out.row.lt _ e).1; omega
  replace BY := hide (BY.out.below b7)
  replace Ro := hide (Ro.out.below b7)
  replace Vb := hide (Vb.out.below b7)
  replace B := hide (B.out.trans (b7.mono hBs.out))
  replace hBs : Hid (w.heap.size ≤ _) := Nat.le_trans hBs.out b7.size
  clear b7
  generalize w5.alloc (.cells #[.int .u64 key, .slice da cn dc] 61) = W7 at BY Ro Vb B N hBs ⊢
  generalize w5.heap.size = nb at N hN5 ⊢
  refine hK.out _ _ ?_ ?_
  · exact ⟨Vb.out.cell 1, Vb.out.cell 3⟩
  clear hK K
  try simp only [Act.put, List.setIfInBounds_toArray, List.set_cons_zero, List.set_cons_succ]
  clear hHeld
  have hHeld : (fun w' => w'.cell? ⟨H, 1, none⟩ = some (.int .u64 key) ∧ w'.cell? ⟨H, 3, none⟩ = some (.slice ca cn cc)) W7 := ⟨Vb.out.cell 1, Vb.out.cell 3⟩
  refine oneL (i := 9) (by kernel_rfl) rfl (fun K hK => ?_)
  go_simp
  refine (insert_any v l hl (⟨key, da, dc, cb⟩ : It) nb 1 i hip.out W7 Ro.out (by show IsB W7 nb #[.int .u64 key, .slice da cb.length dc] _; rw [HCN.out]; exact N.out) hN5.out ⟨BY.out, DN.out⟩).mono ?_; rintro e w8 ⟨v8, rfl, hO, hat, hk⟩
  have O8 := hide hO
  have A8 : Hid (v8.ownBlock = v.ownBlock ∨ ∃ q, v8.ownBlock = some q ∧ w.heap.size ≤ q) := by
    rcases hat with h | h
    · exact Or.inl h
    · exact Or.inr ⟨_, h, hBs.out⟩
  have K8 : Hid (Kp v.ownBlock.toList w w8) := (Kp.of_below (S := v.ownBlock.toList) B.out).trans hk (fun j hj => Or.inl hj)
  have V8 : Hid (IsB w8 H #[.int .i64 1, .int .u64 key, .int .u64 high, .slice ca cn cc] 27) := Vb.out.kp hk (fun hm => by
    obtain ⟨cur, hc⟩ := Ro.out.row.kinds H hm
    exact absurd (cells_inj hc Vb.out) (by decide))
  clear hO hat hk
  refine hK.out _ _ ?_ ?_
  · exact ⟨V8.out.cell 1, V8.out.cell 3⟩
  clear hK K
  try simp only [Act.put, List.setIfInBounds_toArray, List.set_cons_zero, List.set_cons_succ]
  clear hHeld
  have hHeld : (fun w' => w'.cell? ⟨H, 1, none⟩ = some (.int .u64 key) ∧ w'.cell? ⟨H, 3, none⟩ = some (.slice ca cn cc)) w8 := ⟨V8.out.cell 1, V8.out.cell 3⟩
  refine pickA (v := ?_) 10 (some 6) rfl rfl (by kernel_rfl) (by kernel_rfl) (by kernel_rfl) (by decide) (fun _ _ _ h => h) (by rfl) ?_ (by assumption) ?_
  rotate_left
  · intro w'
    go_simp
    try with_reducible rfl
  try simp only [Act.put, List.setIfInBounds_toArray, List.set_cons_zero, List.set_cons_succ]
  refine doneL (by kernel_rfl) ?_ _
  clear hHeld
  go_wp2
  go_ret
  refine ⟨v8, _, rfl, O8.out, ?_, A8.out, K8.out⟩
  unfold wv
  rw [if_pos ⟨rfl, rfl⟩, hi.out]
  simp [It.val]

set_option maxHeartbeats 4000000 in
set_option maxRecDepth 100000 in
theorem write_del (v : Value) (l : List It) (hl : l.length ≤ 100000) (ho : okM l) (key high : Int) (ca : Option Addr) (cb : List UInt8) (cc : Nat) (w : World) (hlt : pl key l < l.length) (h : Ow w v l) :
    Calls Try.prog 38 #[v, .agg #[.int .i64 2, .int .u64 key, .int .u64 high, .slice ca cb.length cc], .int .i64 0] w fun e w' => ∃ v' m, e = .returned v' ∧ Ow w' v' m ∧ m.map It.val = wv l 2 key cb 0 ∧ (v'.ownBlock = v.ownBlock ∨ ∃ q, v'.ownBlock = some q ∧ w.heap.size ≤ q) ∧ Kp v.ownBlock.toList w w' := by
  have mixed : Try.prog.follows .mixedOrders = true := by kernel_rfl
  obtain ⟨cn, hcn⟩ : ∃ z, cb.length = z := ⟨_, rfl⟩
  rw [hcn]
  have b1 := (Below.refl w.heap.size w).alloc (Nat.le_refl _) (.cells #[.int .i64 2, .int .u64 key, .int .u64 high, .slice ca cn cc] 27)
  have Vb := hide (IsB.new w #[.int .i64 2, .int .u64 key, .int .u64 high, .slice ca cn cc] 27)
  have Ro := hide (h.below b1)
  have B := hide b1
  have hBs : Hid (w.heap.size ≤ (w.alloc (.cells #[.int .i64 2, .int .u64 key, .int .u64 high, .slice ca cn cc] 27)).heap.size) := b1.size
  have HLT := hide hlt
  clear h b1 hlt
  have c1 := Vb.out.cell 1
  simp at c1
  go_enter Try.func38, Try.ntmps38
  go_wp2_with fail
  generalize w.alloc (.cells #[.int .i64 2, .int .u64 key, .int .u64 high, .slice ca cn cc] 27) = W1 at *
  generalize hH : w.heap.size = H at Vb ⊢
  replace hH := hide hH
  refine (place_any _ l hl ho key _ Ro.out.sl).mono ?_
  rintro e w2 ⟨rfl, hb⟩
  replace Ro := hide (Ro.out.below hb)
  replace Vb := hide (Vb.out.below hb)
  replace B := hide (B.out.trans (hb.mono hBs.out))
  replace hBs : Hid (w.heap.size ≤ _) := Nat.le_trans hBs.out hb.size
  clear hb c1
  have hip : Hid (pl key l ≤ l.length) := pl_le key l
  generalize hi : pl key l = i at hip ⊢
  replace hi := hide hi
  have j0 := Vb.out.cell 0
  simp at j0
  rw [hi.out] at HLT
  have hib : i ≤ 100000 := by have := hip.out; omega
  go_wp2_with fail
  refine (delete_any v l hl i HLT.out _ Ro.out).mono ?_
  rintro e w8 ⟨v8, rfl, hO, hat, hk⟩
  have O8 := hide hO
  have A8 := hide hat
  have K8 : Hid (Kp v.ownBlock.toList w w8) := (Kp.of_below (S := v.ownBlock.toList) B.out).trans hk (fun j hj => Or.inl hj)
  clear hO hat hk
  go_wp2
  go_ret
  refine ⟨v8, _, rfl, O8.out, ?_, Or.inl A8.out, K8.out⟩
  unfold wv
  rw [if_neg (fun h => absurd h.2 (by decide)), if_pos ⟨rfl, rfl⟩, hi.out]
  simp

end Go.Proofs.Ytfnpapaibgbjpaa
