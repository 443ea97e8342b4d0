/- Package key: slices.Compact at keys, walked. After the kit's Derived/Shelf/SlicesE/Compact.lean (elements of one cell). -/
import Derived.Test.YtidgkaephikjaaaDoorSD
namespace Go.Proofs.YtidgkaephikjaaaDoor
open Go.Shelf Go.RowKit Go.Lib Go.Sort

theorem drew_gr {w : World} (p : Gb) (blk off : Nat) (dk : Array (Int × Int)) (hb : blk < w.heap.size) : (putRowK encK 2 (gr w p) blk off dk).drew = putRowK encK 2 (gr w (p.add ⟨1, #[]⟩)) blk off dk := by
  rw [← putRowK_gr2 encK 2 w blk off p ⟨1, #[]⟩ dk hb]
  unfold gr; rw [grow_empty]; rfl
theorem beq_key {a b c d : Int} (h : (a, b) = (c, d)) : (a == c) = true ∧ (b == d) = true := by
  cases h; simp
theorem beq_key_ne {a b c d : Int} (h : ¬ (a, b) = (c, d)) : ((a == c) && (b == d)) = false := by
  rcases Decidable.em (a = c) with h1 | h1
  · have h2 : ¬ b = d := fun h2 => h (by rw [h1, h2])
    simp [h1, h2]
  · simp [h1]

theorem eqKey (a b c d : Int) (w : World) : (binOp .eql 25 (.agg #[.int .i64 (a), .int .u64 (b)]) (.agg #[.int .i64 (c), .int .u64 (d)])).run Tryd.prog w = .ok (.bool ((a == c) && (b == d))) w := by
  have u3 := Tryd.underlying22
  have a3 := Tryd.isAgg22
  have z3 := Tryd.sizeOf22
  have u4 := Tryd.underlying23
  have a4 := Tryd.isAgg23
  have z4 := Tryd.sizeOf23
  have hS : Tryd.prog.underlying 25 = some (.struct (Tryd.prog.fieldsOf 25)) := by kernel_rfl
  have hp : Tryd.prog.stoodInHeld 25 = false := by kernel_rfl
  rw [run_eql_struct, show (10000 : Nat) = 9999 + 1 from rfl, run_equalIn_agg w 9999 25 _ _ hS hp]
  simp only [Program.fieldsOf, Tryd.underlying25]
  go_simp
  by_cases h1 : a = c <;> by_cases h2 : b = d <;> simp [h1, h2]
theorem neKey (a b c d : Int) (w : World) : (binOp .neq 25 (.agg #[.int .i64 (a), .int .u64 (b)]) (.agg #[.int .i64 (c), .int .u64 (d)])).run Tryd.prog w = .ok (.bool (!((a == c) && (b == d)))) w := by
  have u3 := Tryd.underlying22
  have a3 := Tryd.isAgg22
  have z3 := Tryd.sizeOf22
  have u4 := Tryd.underlying23
  have a4 := Tryd.isAgg23
  have z4 := Tryd.sizeOf23
  have hS : Tryd.prog.underlying 25 = some (.struct (Tryd.prog.fieldsOf 25)) := by kernel_rfl
  have hp : Tryd.prog.stoodInHeld 25 = false := by kernel_rfl
  rw [run_neq_struct, show (10000 : Nat) = 9999 + 1 from rfl, run_equalIn_agg w 9999 25 _ _ hS hp]
  simp only [Program.fieldsOf, Tryd.underlying25]
  go_simp
  by_cases h1 : a = c <;> by_cases h2 : b = d <;> simp [h1, h2]

set_option maxHeartbeats 4000000 in
set_option maxRecDepth 1000000 in
theorem compact_any (blk off cap : Nat) (d : Array (Int × Int)) (w : World) (hH : HoldsK encK 2 w blk off d) (hblk : blk < w.heap.size) (hsz : d.size ≤ 4611686018427387903) (hcap : d.size ≤ cap) :
    Calls Tryd.prog 45 #[.slice (some ⟨blk, off, none⟩) d.size cap] w fun e w' => e = .returned (.slice (some ⟨blk, off, none⟩) (compactUpTo d d.size).length cap) ∧ HoldsL w' blk off (compactUpTo d d.size) ∧ RowKit.Below blk w w' ∧ w.heap.size ≤ w'.heap.size := by
  have mixed : Tryd.prog.follows .mixedOrders = true := by kernel_rfl
  have same : ∀ q, (∀ j, j < d.size → keeps d j = true) → (compactUpTo d d.size).length = d.size ∧ HoldsL (w.drewN q) blk off (compactUpTo d d.size) ∧ RowKit.Below blk w (w.drewN q) ∧ w.heap.size ≤ (w.drewN q).heap.size := by
    intro q hall
    have e : compactUpTo d d.size = d.toList := by rw [compactUpTo_all d _ hall, range_map_get]
    rw [e]
    exact ⟨by simp, holdsL_of (holdsK_ahead encK 2 w q blk off d hH), ⟨rfl, rfl, rfl, Nat.le_refl _, fun _ _ => rfl⟩, Nat.le_refl _⟩
  have HS := hide same
  clear same
  by_cases h2 : d.size < 2
  · have HH := hide hH
    clear hH
    go_enter Tryd.func45, Tryd.ntmps45
    go_wp2
    go_ret
    obtain ⟨e1, e2⟩ := HS.out 0 (fun j hj => keeps_lt_one d j (by omega))
    exact ⟨by rw [e1]; rfl, e2⟩
  · go_enter Tryd.func45, Tryd.ntmps45
    go_wp2
    go_loopg [3] d.size (fun g s3 wr => ∃ k q : Nat, 1 ≤ k ∧ k ≤ d.size ∧ d.size - k ≤ g ∧ s3 = .int .i64 k ∧ wr = w.drewN q ∧ ∀ j, j < k → keeps d j = true)
    case atStart => exact ⟨1, 0, Nat.le_refl _, by omega, by omega, rfl, rfl, keeps_lt_one d⟩
    case round =>
      obtain ⟨k, q, hk1, hk, hg, rfl, rfl, hall⟩ := hrel
      by_cases hlt : k < d.size
      · obtain ⟨c1, c1', f1, f1'⟩ := holds_cells hH hlt
        obtain ⟨c0, c0', f0, f0'⟩ := holds_cells hH (show k - 1 < d.size by omega)
        have A := hide hall
        have HH := hide hH
        clear hall hH
        generalize hx : d[k]! = x at c1 c1'
        generalize hy : d[k - 1]! = y at c0 c0'
        have B := hide (show d[k]! = x ∧ d[k - 1]! = y from ⟨hx, hy⟩)
        clear hx hy
        obtain ⟨xr, xn⟩ := x
        obtain ⟨yr, yn⟩ := y
        simp only [] at c0 c0' c1 c1'
        by_cases hdup : (xr, xn) = (yr, yn)
        · obtain ⟨rfl, rfl⟩ := Prod.mk.inj hdup
          clear hdup
          go_wp2_with fail
          go_region_o
          go_wp2
          clear c0 c1 f0 f1 c0' c1' f0' f1'
          go_loopg [3, 5] d.size (fun g s3 s5 wr => ∃ (kk k2 : Nat) (p : Gb) (dk : Array (Int × Int)), s3 = .int .i64 kk ∧ s5 = .int .i64 k2 ∧ 1 ≤ k2 ∧ k + k2 ≤ d.size ∧ d.size - (k + k2) ≤ g ∧ wr = putRowK encK 2 (gr w p) blk off dk ∧ CompInv d (k + k2) kk dk)
          case atStart =>
            refine ⟨k, 1, ⟨q + 1, #[]⟩, d, rfl, rfl, Nat.le_refl _, by omega, by omega, ?_, CompInv.start A.out (keeps_neg (by omega) (by rw [B.out.1, B.out.2]))⟩
            rw [putRowK_self encK 2 _ blk off d (holdsK_gr encK 2 w blk off _ d hblk HH.out)]
            unfold gr; rw [grow_empty]; rfl
          case round =>
            obtain ⟨kk, k2, p, dk, rfl, rfl, h1, hle, hg2, hwr, hI⟩ := hrel
            have hkk := hI.lt
            have hds := hI.size
            have hHk : HoldsK encK 2 wr blk off dk := by rw [hwr]; exact holdsK_putRowK encK 2 _ blk off d dk (holdsK_gr encK 2 w blk off p d hblk HH.out) hds
            have W2 := hide hwr
            have I2 := hide hI
            clear hwr
            by_cases hlt2 : k + k2 < d.size
            · obtain ⟨cm, cm', -, -⟩ := holds_cells hHk (show k + k2 < dk.size by omega)
              obtain ⟨cp, cp', -, -⟩ := holds_cells hHk (show k + k2 - 1 < dk.size by omega)
              obtain ⟨ck, ck', fk, fk'⟩ := holds_cells hHk (show kk < dk.size by omega)
              rw [hI.high (k + k2) (by omega), show off + (k + k2) * 2 = off + k * 2 + k2 * 2 by omega] at cm cm'
              rw [hI.high (k + k2 - 1) (by omega), show off + (k + k2 - 1) * 2 = off + k * 2 + (k2 - 1) * 2 by omega] at cp cp'
              clear hHk hI
              generalize hu : d[k + k2]! = u at cm cm'
              generalize hv : d[k + k2 - 1]! = v at cp cp'
              generalize dk[kk]! = old at ck ck'
              have C := hide (show d[k + k2]! = u ∧ d[k + k2 - 1]! = v from ⟨hu, hv⟩)
              clear hu hv
              obtain ⟨ur, un⟩ := u
              obtain ⟨vr, vn⟩ := v
              simp only [] at cm cm' cp cp'
              by_cases huv : (ur, un) = (vr, vn)
              · obtain ⟨rfl, rfl⟩ := Prod.mk.inj huv
                clear huv
                go_wp2_with fail
                go_region_o
                go_wp2
                go_roundg (d.size - (k + (k2 + 1)))
                case measure => omega
                case rel => exact ⟨kk, k2 + 1, p.add ⟨1, #[]⟩, dk, rfl, by go_num, by omega, by omega, Nat.le_refl _, by rw [W2.out]; exact drew_gr p blk off dk hblk, I2.out.skip (keeps_neg (by omega) (by rw [C.out.1, C.out.2]))⟩
              · have hne : ∀ w, Sem.run Tryd.prog (binOp .neq 25 (.agg #[.int .i64 (ur), .int .u64 (un)]) (.agg #[.int .i64 (vr), .int .u64 (vn)])) w = .ok (.bool true) w := fun w => by rw [neKey, beq_key_ne huv]; rfl
                go_wp2_with fail
                go_region_o
                go_wp2
                go_roundg (d.size - (k + (k2 + 1)))
                case measure => omega
                case rel =>
                  refine ⟨kk + 1, k2 + 1, p.add ⟨1, #[]⟩, dk.setIfInBounds kk (ur, un), by go_num, by go_num, by omega, by omega, Nat.le_refl _, ?_, by have := I2.out.keep hlt2 (keeps_pos (by rw [C.out.1, C.out.2]; exact huv)); rwa [C.out.1] at this⟩
                  rw [← drew_gr p blk off _ hblk, ← store_gr p blk off dk kk (by omega) ur un, W2.out]
            · have hend : k + k2 = d.size := by omega
              have hcl0 := clear_keys wr 0 blk (off + kk * 2) (d.size - kk) (cap - kk) (by omega)
                (fun j hj => by
                  have := holds_cells hHk (show kk + j / 2 < dk.size by omega)
                  rcases (by omega : j = j / 2 * 2 ∨ j = j / 2 * 2 + 1) with e | e
                  · rw [show off + kk * 2 + j = off + (kk + j / 2) * 2 by omega, this.1]; rfl
                  · rw [show off + kk * 2 + j = off + (kk + j / 2) * 2 + 1 by omega, this.2.1]; rfl)
                (fun j hj => by
                  have := holds_cells hHk (show kk + j / 2 < dk.size by omega)
                  rcases (by omega : j = j / 2 * 2 ∨ j = j / 2 * 2 + 1) with e | e
                  · rw [show off + kk * 2 + j = off + (kk + j / 2) * 2 by omega]; exact this.2.2.1
                  · rw [show off + kk * 2 + j = off + (kk + j / 2) * 2 + 1 by omega]; exact this.2.2.2)
              obtain ⟨vs, hvl, hcl⟩ := hcl0
              have HHk := hide hHk
              clear hHk hI
              go_wp2
              go_ret
              have hI := I2.out
              rw [hend] at hI
              refine ⟨by rw [hI.len]; rfl, ?_, ?_, ?_⟩
              · intro j x hx
                have hj : j < kk := by have := (List.getElem?_eq_some_iff.1 hx).1; rw [hI.len] at this; exact this
                have e := hI.low j hj
                rw [hx] at e
                have e := Option.some.inj e
                have hh := holds_cells HHk.out (show j < dk.size by omega)
                rw [← e] at hh
                exact ⟨by rw [World.cell?_setCells_out _ _ _ _ _ (fun _ _ => Or.inl (by show off + j * 2 < off + kk * 2; omega))]; exact hh.1, by rw [World.cell?_setCells_out _ _ _ _ _ (fun _ _ => Or.inl (by show off + j * 2 + 1 < off + kk * 2; omega))]; exact hh.2.1⟩
              · refine below_setCells blk (Nat.le_refl _) _ _ _ ?_
                rw [W2.out]; exact below_putRowK blk off dk p hblk
              · rw [size_setCells, W2.out, size_putRowK, size_gr]; omega
        · have hne : ∀ w, Sem.run Tryd.prog (binOp .eql 25 (.agg #[.int .i64 (xr), .int .u64 (xn)]) (.agg #[.int .i64 (yr), .int .u64 (yn)])) w = .ok (.bool false) w := fun w => by rw [eqKey, beq_key_ne hdup]
          go_wp2_with fail
          go_region_o
          go_wp2
          go_roundg (d.size - (k + 1))
          case measure => omega
          case rel =>
            refine ⟨k + 1, q + 1, by omega, by omega, Nat.le_refl _, by go_num, rfl, fun j hj => ?_⟩
            by_cases e : j = k
            · subst e
              exact keeps_pos (by rw [B.out.1, B.out.2]; exact hdup)
            · exact A.out j (by omega)
      · have : k = d.size := by omega
        subst this
        have HH := hide hH
        clear hH
        go_wp2
        go_ret
        obtain ⟨e1, e2⟩ := HS.out q hall
        exact ⟨by rw [e1]; rfl, e2⟩

end Go.Proofs.YtidgkaephikjaaaDoor
