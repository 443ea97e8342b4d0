/- The document's Same of two parcels; bytes that are told as texts. -/
import Derived.Test.YtoinjmddmahpkaaNS
namespace Go.Proofs.Ytoinjmddmahpkaa
open Go.RowKit Go.Maps

/-- Bytes as numbers. -/
def nums (us : List UInt8) : List Int := us.map fun u => (u.toNat : Int)
theorem nums_len (us : List UInt8) : (nums us).length = us.length := by simp [nums]
theorem conv_nil (w : World) : (convert 33 9 (.slice none 0 0)).run Try.prog w = .ok (.string ⟨#[]⟩) w := by kernel_rfl
theorem conv_any (w : World) (a : Option Addr) (c : Nat) (us : List UInt8) (hn : a = none → c = 0) (h : Rd8 w a (nums us)) : (convert 33 9 (.slice a us.length c)).run Try.prog w = .ok (.string ⟨us.toArray⟩) w := by
  rcases h with ⟨rfl, h1⟩ | ⟨ad, rfl, hc⟩
  · have : us = [] := by simpa [nums] using h1
    subst this
    rw [hn rfl]
    exact conv_nil w
  · exact run_convert_bytes_back (P := Try.prog) w 33 9 5 ad c us Try.underlying33 Try.underlying5 Try.underlying9 (fun j hj => by
      have := hc j (by rw [nums_len]; exact hj)
      rw [this]
      simp [nums])

/-- A truth is told, and it is 'true' of two that are the same. -/
def SameR (fa ga : Bool) (fn gn : Int) (ta ha : Bool) (tn hn : Int) (us vs : List UInt8) (e : Ending) : Prop := ∃ t, e = .returned (.bool t) ∧ (fa = ga → fn = gn → ta = ha → tn = hn → us = vs → t = true)

set_option maxHeartbeats 4000000 in
set_option maxRecDepth 100000 in
theorem same_any (fa ga : Bool) (fn gn : Int) (ta ha : Bool) (tn hn : Int) (a a' : Option Addr) (c c' : Nat) (us vs : List UInt8) (h1 : a = none → c = 0) (h2 : a' = none → c' = 0) (w : World) (hr : Rd8 w a (nums us)) (hs : Rd8 w a' (nums vs)) :
    Calls Try.prog 15 #[.agg #[.bool fa, .int .i64 fn, .bool ta, .int .i64 tn, .slice a us.length c], .agg #[.bool ga, .int .i64 gn, .bool ha, .int .i64 hn, .slice a' vs.length c']] w fun e w' => SameR fa ga fn gn ta ha tn hn us vs e ∧ Below w.heap.size w w' := by
  have hq := addr_eq
  have bel : Hid (Below w.heap.size w ((w.alloc (.cells #[.bool fa, .int .i64 fn, .bool ta, .int .i64 tn, .slice a us.length c] 35)).alloc (.cells #[.bool ga, .int .i64 gn, .bool ha, .int .i64 hn, .slice a' vs.length c'] 35))) := two_new w _ _
  have k1 := conv_any _ a c us h1 (hr.below (bel.out))
  have k2 := conv_any _ a' c' vs h2 (hs.below (bel.out))
  have hE : Hid (us = vs → (⟨us.toArray⟩ : ByteArray) = ⟨vs.toArray⟩) := fun h => by rw [h]
  clear hr hs h1 h2
  generalize (⟨us.toArray⟩ : ByteArray) = S1 at *
  generalize (⟨vs.toArray⟩ : ByteArray) = S2 at *
  have eB : Hid (fa = ga → fn = gn → (fa == ga && fn == gn) = true) := fun h1 h2 => by simp [h1, h2]
  have eC : Hid (ta = ha → tn = hn → (ta == ha && tn == hn) = true) := fun h1 h2 => by simp [h1, h2]
  generalize hB : (fa == ga && fn == gn) = B at eB
  generalize hC : (ta == ha && tn == hn) = C at eC
  cases B
  · go_enter Try.func15, Try.ntmps15
    go_wp2
    go_ret
    exact ⟨⟨_, rfl, fun h1 h2 _ _ _ => by have := eB.out h1 h2; cases this⟩, bel.out⟩
  · cases C
    · go_enter Try.func15, Try.ntmps15
      go_wp2
      go_ret
      exact ⟨⟨_, rfl, fun _ _ h1 h2 _ => by have := eC.out h1 h2; cases this⟩, bel.out⟩
    · go_enter Try.func15, Try.ntmps15
      go_wp2
      go_ret
      refine ⟨⟨_, rfl, fun _ _ _ _ h => ?_⟩, bel.out⟩
      have := hE.out h
      simp [this]

end Go.Proofs.Ytoinjmddmahpkaa
