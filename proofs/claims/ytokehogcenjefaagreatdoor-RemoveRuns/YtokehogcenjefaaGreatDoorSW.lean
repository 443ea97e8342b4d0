/- SeekRises walked. -/
import Derived.Test.YtokehogcenjefaaGreatDoorSJ
import Derived.Test.YtokehogcenjefaaGreatDoorSR
namespace Go.Proofs.YtokehogcenjefaaGreatDoor
open Go.RowKit Go.Maps Go.ChangeMaps

/-- Answers that can be read. -/
def AnSl (w : World) (v : Value) (l : List An) : Prop := (v = .slice none 0 0 ∧ l = []) ∨ ∃ g o c, v = .slice (some ⟨g, o, none⟩) l.length c ∧ l.length ≤ c ∧ c ≤ maxLen ∧ g < w.heap.size ∧ ∀ j (hj : j < l.length) k, k < 13 → w.cell? ⟨g, o + j * 13 + k, none⟩ = (anL l[j])[k]?
theorem AnSl.below {w w' : World} {v : Value} {l : List An} (h : AnSl w v l) (hb : Below w.heap.size w w') : AnSl w' v l := by
 rcases h with h | ⟨g, o, c, rfl, h1, h2, h3, h4⟩
 · exact Or.inl h
 · refine Or.inr ⟨g, o, c, rfl, h1, h2, Nat.lt_of_lt_of_le h3 hb.size, fun j hj k hk => ?_⟩
   rw [← h4 j hj k hk]
   exact hb.cell h3
theorem AnSl.shape {w : World} {v : Value} {l : List An} (h : AnSl w v l) : ∃ a c, v = .slice a l.length c ∧ l.length ≤ c ∧ c ≤ maxLen := by
 rcases h with ⟨rfl, rfl⟩ | ⟨g, o, c, rfl, h1, h2, h3, h4⟩
 · exact ⟨none, 0, rfl, Nat.le_refl _, by unfold maxLen; omega⟩
 · exact ⟨_, c, rfl, h1, h2⟩
theorem AnSl.at2 {w : World} {v : Value} {l : List An} (h : AnSl w v l) (j : Nat) (hj : j < l.length) : ∃ g o c, v = .slice (some ⟨g, o, none⟩) l.length c ∧ ∀ w', Below w.heap.size w w' → (Instr.loadAt 62 (.pointer (some ⟨g, o + j * 13, none⟩))).run Tryz.prog w' = .ok (.agg (anL l[j]).toArray) w' := by
 rcases h with ⟨rfl, rfl⟩ | ⟨g, o, c, rfl, h1, h2, h3, h4⟩
 · simp at hj
 · refine ⟨g, o, c, rfl, fun w' hb => ?_⟩
   refine run_loadAt_mid w' g (o + j * 13) 62 (anL l[j]) _ (fun k v hk => ?_) Tryz.underlying62 rfl (by kernel_rfl)
   have hk2 : k < 13 := (List.getElem?_eq_some_iff.1 hk).1
   rw [hb.cell h3, h4 j hj k hk2]
   exact hk
theorem ld_stk {w : World} {b : Nat} {k : Int} {r : Rf} {q x y e : Int} {l r2 : Rf} {fd : Bool} (I : IsB w b (spL k r q x y e l r2 fd).toArray 53) : (Instr.loadAt 25 (.pointer (some ⟨b, 2, none⟩))).run Tryz.prog w = .ok (.agg #[.int .i64 (r.rk), .int .u64 (r.kn)]) w := load_mid I 2 _ [.int .i64 r.rk, .int .u64 r.kn] _ rfl Tryz.underlying25 rfl (by kernel_rfl)
theorem fld_to (k : Int) (r : Rf) (q x y e : Int) (l r2 : Rf) (fd : Bool) (w : World) : (Instr.field 53 (.agg (spL k r q x y e l r2 fd).toArray) 1).run Tryz.prog w = .ok (.agg r.cells) w := by kernel_rfl
theorem store_new0 (w : World) (r : Rf) : (Instr.storeAt 29 (.pointer (some ⟨w.heap.size, 0, none⟩)) (.agg r.cells)).run Tryz.prog (w.alloc (.cells #[.int .i64 0, .int .i64 0, .int .u64 0, .int .i64 0, .int .u64 0] 29)) = .ok () (w.alloc (.cells r.cells 29)) := store_new w r
theorem SkAt.kpo {w w' : World} {b m c : Nat} {S : Sk} {ws : List (Pl × Rf)} {cs : Array Value} (X : SkAt w b m S ws) (I : IsB w c cs 29) (k : Kp [c] w w') : SkAt w' b m S ws := X.kp k (by simp only [List.mem_singleton]; rintro rfl; exact absurd (Option.some.inj (X.blk.symm.trans I)) (by simp)) (by simp only [List.mem_singleton]; exact fun e => X.map.off I e.symm)



end Go.Proofs.YtokehogcenjefaaGreatDoor
