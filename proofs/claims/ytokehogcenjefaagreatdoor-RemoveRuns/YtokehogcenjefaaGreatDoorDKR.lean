/- Both searches stand alike. -/
import Derived.Test.YtokehogcenjefaaGreatDoorDH
import Derived.Test.YtokehogcenjefaaGreatDoorDI
import Derived.Test.YtokehogcenjefaaGreatDoorSW
namespace Go.Proofs.YtokehogcenjefaaGreatDoor
open Go.RowKit Go.Maps Go.ChangeMaps

def Zr (S : Sk) : Prop := S.ov = false → S.e = 0 ∧ S.rl = zr ∧ S.rr = zr ∧ S.fd = false
theorem begin_kz {S : Sk} (h : Zr S) : S.begin.hd = S.hd ∧ Zr S.begin := by
 unfold Sk.begin
 split
 · exact ⟨rfl, fun c => by cases c⟩
 · exact ⟨rfl, h⟩
theorem passed_kz {S : Sk} : S.passed.hd = S.hd ∧ Zr S.passed := by
 unfold Sk.passed
 split
 · exact ⟨rfl, fun c => by cases c⟩
 · exact ⟨rfl, fun _ => ⟨rfl, rfl, rfl, rfl⟩⟩
theorem left_kz {S : Sk} (h : Zr S) (l : Rf) : (S.left l).hd = S.hd ∧ Zr (S.left l) := by
 unfold Sk.left
 split
 · exact ⟨rfl, h⟩
 · exact begin_kz h
theorem next_kz {S : Sk} (h : Zr S) (x : Rf) : (S.next x).hd = S.hd ∧ Zr (S.next x) := by
 unfold Sk.next
 split
 · exact ⟨rfl, h⟩
 · split
   · exact ⟨rfl, h⟩
   · exact ⟨rfl, fun c => by cases c⟩
theorem right_kz {S : Sk} (h : Zr S) (ws : List (Pl × Rf)) (r : Rf) : (S.right ws r).hd = S.hd ∧ Zr (S.right ws r) := by
 unfold Sk.right
 split
 · exact begin_kz h
 · exact next_kz h _
theorem tell_kz {S : Sk} (h : Zr S) (ws : List (Pl × Rf)) (a : An) : (S.tell ws a).1.hd = S.hd ∧ Zr (S.tell ws a).1 := by
 unfold Sk.tell
 split
 · exact ⟨rfl, h⟩
 · split
   · unfold Sk.hearA
     split
     · exact right_kz (S := S.stand S.ah) h ws a.r
     · split
       · exact passed_kz
       · exact begin_kz h
   · unfold Sk.hearH
     split
     · show (ite _ _ _ : Sk).hd = _ ∧ Zr (ite _ _ _)
       split
       · exact right_kz h ws a.r
       · exact left_kz h a.l
     · split
       · exact begin_kz h
       · exact begin_kz h
theorem dead_kz {S : Sk} (h : Zr S) (ws : List (Pl × Rf)) (a : An) : (S.dead ws a).1.hd = S.hd ∧ Zr (S.dead ws a).1 := by
 unfold Sk.dead
 split
 · exact passed_kz
 · exact ⟨rfl, h⟩
theorem tell_wills {S : Sk} {L : List Wl} {a : An} (hn : (L.map fun x => x.pr.1).Nodup) : (S.tell (L.map Wl.pr) a).2 = (S.tellL L a).map Wl.pr := by
 unfold Sk.tell Sk.tellL Sk.to
 by_cases hv : S.ov = true
 · rw [if_pos hv, if_pos hv]
 · rw [if_neg hv, if_neg hv]
   by_cases hl : S.lk = true
   · rw [if_pos hl, if_pos hl]
     unfold Sk.hearA
     by_cases h1 : a.k = 1
     · rw [if_pos h1, if_neg (show ¬a.k = 3 by omega)]
     · rw [if_neg h1]
       by_cases h3 : a.k = 3
       · rw [if_pos h3, if_pos h3, keepL_pr hn]
         rfl
       · rw [if_neg h3, if_neg h3]
   · rw [if_neg hl, if_neg hl]
     unfold Sk.hearH
     by_cases h1 : a.k = 1
     · rw [if_pos h1, if_neg (show ¬a.k = 3 by omega)]
     · rw [if_neg h1]
       by_cases h3 : a.k = 3
       · rw [if_pos h3, if_pos h3, keepL_pr hn]
         rfl
       · rw [if_neg h3, if_neg h3]
theorem dead_wills {S : Sk} {L : List Wl} {a : An} (hn : (L.map fun x => x.pr.1).Nodup) : (S.dead (L.map Wl.pr) a).2 = (S.deadL L a).map Wl.pr := by
 unfold Sk.dead Sk.deadL
 by_cases h : S.ov = true ∧ S.e = 0
 · rw [if_pos h, if_pos h, keepL_pr hn]
   rfl
 · rw [if_neg h, if_neg h]
theorem keepL_len (L : List Wl) (a : Wl) : (keepL L a).length ≤ L.length + 1 := by
 unfold keepL
 split <;> simp
theorem tellL_len (S : Sk) (L : List Wl) (a : An) : (S.tellL L a).length ≤ L.length + 1 := by
 unfold Sk.tellL
 split
 · omega
 · split
   · exact keepL_len _ _
   · omega
theorem deadL_len (S : Sk) (L : List Wl) (a : An) : (S.deadL L a).length ≤ L.length + 1 := by
 unfold Sk.deadL
 split
 · exact keepL_len _ _
 · omega
/-- Both searches stand alike. -/
structure Bo (w : World) (b m d base : Nat) (S : Sk) (s : Rf) (L : List Wl) (k : Nat) : Prop where
 X : SkAt w b m S (L.map Wl.pr)
 D : Dk w d base S s L
 ok : SOk S (L.map Wl.pr)
 hd : ∃ h, S.hd = ⟨0, 1, 0, h, 0⟩
 hL : L.length ≤ k
 z : Zr S
theorem Bo.below {w w' : World} {b m d base : Nat} {S : Sk} {s : Rf} {L : List Wl} {k : Nat} (h : Bo w b m d base S s L k) (hb : Below w.heap.size w w') : Bo w' b m d base S s L k := ⟨h.X.below hb, h.D.below hb, h.ok, h.hd, h.hL, h.z⟩
theorem Bo.pre {w : World} {b m d base : Nat} {S : Sk} {s : Rf} {L : List Wl} {k : Nat} (h : Bo w b m d base S s L k) (hk : k ≤ 1000000) : Pre S L := ⟨h.hd, h.ok.wr, h.ok.w0, h.ok.n0, h.ok.n1, Nat.le_trans h.hL hk, h.z⟩
theorem Bo.nd {w : World} {b m d base : Nat} {S : Sk} {s : Rf} {L : List Wl} {k : Nat} (h : Bo w b m d base S s L k) : (L.map fun x => x.pr.1).Nodup := by
 have := h.X.map.nodup
 rwa [List.map_map] at this
theorem Dk.size {w : World} {d base : Nat} {S : Sk} {s : Rf} {L : List Wl} (h : Dk w d base S s L) : base ≤ w.heap.size := by
 obtain ⟨to, v, -, h2⟩ := h
 have := h2.le
 have := h2.blk.lt
 omega
theorem Bo.told {w w1 w2 : World} {b m d base : Nat} {S : Sk} {s : Rf} {L : List Wl} {k : Nat} {a : An} (h : Bo w b m d base S s L k) (ha : AOk a) (X1 : SkAt w1 b m (S.tell (L.map Wl.pr) a).1 (S.tell (L.map Wl.pr) a).2) (K : Kd base w1 w2) (D2 : Dk w2 d base (S.tell (L.map Wl.pr) a).1 s (S.tellL L a)) : Bo w2 b m d base (S.tell (L.map Wl.pr) a).1 s (S.tellL L a) (k + 1) := by
 have ho := h.ok.tell ha
 obtain ⟨e1, e2⟩ := tell_kz h.z (L.map Wl.pr) a
 rw [tell_wills h.nd] at X1 ho
 exact ⟨X1.kd K, D2, ho, by rw [e1]; exact h.hd, by have := tellL_len S L a; have := h.hL; omega, e2⟩
theorem Bo.died {w w1 w2 : World} {b m d base : Nat} {S : Sk} {s : Rf} {L : List Wl} {k : Nat} {a : An} (h : Bo w b m d base S s L k) (ha : AOk a) (X1 : SkAt w1 b m (S.dead (L.map Wl.pr) a).1 (S.dead (L.map Wl.pr) a).2) (K : Kd base w1 w2) (D2 : Dk w2 d base (S.dead (L.map Wl.pr) a).1 s (S.deadL L a)) : Bo w2 b m d base (S.dead (L.map Wl.pr) a).1 s (S.deadL L a) (k + 1) := by
 have ho := h.ok.dead ha
 obtain ⟨e1, e2⟩ := dead_kz h.z (L.map Wl.pr) a
 rw [dead_wills h.nd] at X1 ho
 exact ⟨X1.kd K, D2, ho, by rw [e1]; exact h.hd, by have := deadL_len S L a; have := h.hL; omega, e2⟩

end Go.Proofs.YtokehogcenjefaaGreatDoor
