/- The law's own cut of a parcel; the acts of a script. -/
import Derived.Test.YtoinjmddmahpkaaNR
namespace Go.Proofs.Ytoinjmddmahpkaa
open Go.RowKit Go.Maps

/-- How many bytes of a parcel are looked at. -/
def cl (l : Nat) : Nat := if 100 < l ∧ l ≤ 262144 then 100 else l
theorem cl_le (l : Nat) : cl l ≤ l := by unfold cl; split <;> omega

/-- A parcel is returned out of a block that was laid last. -/
theorem ret_pn {fn : Func} {p : Tmp} (hf : fn.results = #[.cell p 35]) {Q : Ending → World → Prop} {tmps : Array Value} {W : World} {b : Nat} {x0 x1 x2 x3 x4 : Value}
    (hp : tmps.getD p undef = .pointer (some ⟨b, 0, none⟩)) (hb : b = W.heap.size) (hQ : Q (.returned (.agg #[x0, x1, x2, x3, x4])) (W.alloc (.cells #[x0, x1, x2, x3, x4] 35))) :
    bodyPost Try.prog fn Q .ret ⟨tmps, []⟩ (W.alloc (.cells #[x0, x1, x2, x3, x4] 35)) := by
  subst hb
  exact bodyPost_ret (results_cell_row hf tmps _ W.heap.size 35 _ (0, 0) _ hp (IsB.new W _ _) Try.underlying35 rfl parcel_info) rfl hQ
theorem two_new (w : World) (o o' : Obj) : Below w.heap.size w ((w.alloc o).alloc o') := ((Below.refl w.heap.size w).alloc (Nat.le_refl _) o).alloc (by simp) o'

set_option maxHeartbeats 2000000 in
set_option maxRecDepth 100000 in
theorem lcut_any (fa : Bool) (fn : Int) (ta : Bool) (tn : Int) (a : Option Addr) (len cap : Nat) (hlc : len ≤ cap) (hn : a = none → len = 0 ∧ cap = 0) (w : World) :
    Calls Try.prog 19 #[.agg #[.bool fa, .int .i64 fn, .bool ta, .int .i64 tn, .slice a len cap]] w fun e w' => e = .returned (.agg #[.bool fa, .int .i64 fn, .bool ta, .int .i64 tn, .slice a (cl len) cap]) ∧ Below w.heap.size w w' := by
  by_cases h1 : len ≤ 100
  · have e : cl len = len := by unfold cl; rw [if_neg (by omega)]
    rw [e]
    clear e
    go_enter Try.func19, Try.ntmps19
    go_wp2
    refine ret_pn (p := 2) (b := w.heap.size + 1) Try.results19 ?_ ?_ ?_
    · rfl
    · simp
    · exact ⟨rfl, two_new w _ _⟩
  · by_cases h2 : len ≤ 262144
    · have e : cl len = 100 := by unfold cl; rw [if_pos (by omega)]
      obtain ⟨ad, rfl⟩ : ∃ ad, a = some ad := by
        cases a with
        | none => have := (hn rfl).1; omega
        | some ad => exact ⟨ad, rfl⟩
      rw [e]
      clear e
      go_enter Try.func19, Try.ntmps19
      go_wp2
      refine ret_pn (p := 2) (b := w.heap.size + 1) Try.results19 ?_ ?_ ?_
      · rfl
      · simp
      · exact ⟨rfl, two_new w _ _⟩
    · have e : cl len = len := by unfold cl; rw [if_neg (by omega)]
      rw [e]
      clear e
      go_enter Try.func19, Try.ntmps19
      go_wp2
      refine ret_pn (p := 2) (b := w.heap.size + 1) Try.results19 ?_ ?_ ?_
      · rfl
      · simp
      · exact ⟨rfl, two_new w _ _⟩

/-- An act that lies there, and whose bytes can be read. -/
structure OpV where
  kd : Int
  fa : Bool
  fn : Int
  ta : Bool
  tn : Int
  a : Option Addr
  len : Nat
  cap : Nat
  I : Int
  K : Int
def OpV.cs (o : OpV) : List Value := [.int .i64 o.kd, .bool o.fa, .int .i64 o.fn, .bool o.ta, .int .i64 o.tn, .slice o.a o.len o.cap, .int .i64 o.I, .int .i64 o.K]
structure OpAt (w : World) (g o : Nat) (x : OpV) : Prop where
  cell : ∀ c, c < 8 → w.cell? ⟨g, o + c, none⟩ = x.cs[c]?
  lc : x.len ≤ x.cap
  nil : x.a = none → x.len = 0 ∧ x.cap = 0
  by_ : ∃ us : List UInt8, us.length = x.len ∧ Rd8 w x.a (us.map fun u => (u.toNat : Int))
theorem Rd8.take {w : World} {a : Option Addr} {l : List Int} (h : Rd8 w a l) (n : Nat) : Rd8 w a (l.take n) := by
  rcases h with ⟨h1, h2⟩ | ⟨ad, h1, hc⟩
  · exact Or.inl ⟨h1, by rw [h2]; simp⟩
  · refine Or.inr ⟨ad, h1, fun j hj => ?_⟩
    rw [List.length_take] at hj
    rw [List.getElem_take]
    exact hc j (by omega)
/-- The bytes of it that are looked at. -/
theorem OpAt.cut {w w' : World} {g o : Nat} {x : OpV} (h : OpAt w g o x) (hb : Below w.heap.size w w') : ∃ us : List UInt8, us.length = cl x.len ∧ Rd8 w' x.a (us.map fun u => (u.toNat : Int)) := by
  obtain ⟨us, h1, h2⟩ := h.by_
  refine ⟨us.take (cl x.len), by rw [List.length_take, h1]; have := cl_le x.len; omega, ?_⟩
  rw [List.map_take]
  exact (h2.below hb).take _
/-- A script. -/
def Scr (w : World) (a : Option Addr) (len : Nat) : Prop := len = 0 ∨ ∃ g o, a = some ⟨g, o, none⟩ ∧ ∀ j, j < len → ∃ x, OpAt w g (o + j * 8) x

end Go.Proofs.Ytoinjmddmahpkaa
