/- Results: in memory, returned, stored whole; ranged. -/
import Derived.Test.YtfnpapaibgbjpaaZF
import Derived.Test.YtfnpapaibgbjpaaZI
namespace Go.Proofs.Ytfnpapaibgbjpaa
open Go.RowKit Go.Maps

theorem exec_load {P : Program} {t : TypeId} {o : Operand} {oi : Oper} {ρ : Operand → Value} {v x : Value} {w : World} (hop : oi.op = Op.load t o) (hx : ρ o = x) (hl : (Instr.loadAt t x).run P w = .ok v w) : (execOp ρ oi).run P w = .ok (.value v) w := by
  simp [execOp, hop, hx, hl, Result.andThen]
theorem exec_store {P : Program} {t : TypeId} {o y : Operand} {oi : Oper} {ρ : Operand → Value} {v x : Value} {w w' : World} (hop : oi.op = Op.store t o y) (hx : ρ o = x) (hy : ρ y = v) (hl : (Instr.storeAt t x v).run P w = .ok () w') : (execOp ρ oi).run P w = .ok .skip w' := by
  simp [execOp, hop, hx, hy, hl, Result.andThen]
/-- A load whose value is known, in a region that does not draw. -/
theorem wpList_load_w {P : Program} {ops : Array Oper} {rest : List Oper} {o : Oper} {a : Act} {w : World} {Q : Exit → Act → World → Prop} (hw : Region.wanted o (yielded ops a.tmps) = true) (ty : TypeId) (x : Operand) (ho : o.op = .load ty x) {X v : Value} (hx : a.eval x = X) (hl : (Instr.loadAt ty X).run P w = .ok v w)
    (h : wpList P ops Q rest (a.put o.dst v) w) : wpList P ops Q (o :: rest) a w := by
  unfold wpList
  rw [if_pos hw]
  refine Or.inl ?_
  unfold Oper.wp
  rw [exec_load ho hx hl]
  exact h
/-- A store of a whole value, in a region that does not draw. -/
theorem wpList_store_w {P : Program} {ops : Array Oper} {rest : List Oper} {o : Oper} {a : Act} {w w' : World} {Q : Exit → Act → World → Prop} (hw : Region.wanted o (yielded ops a.tmps) = true) (ty : TypeId) (x y : Operand) (ho : o.op = .store ty x y) {X v : Value} (hx : a.eval x = X) (hy : a.eval y = v) (hl : (Instr.storeAt ty X v).run P w = .ok () w')
    (h : wpList P ops Q rest (a.put o.dst undef) w') : wpList P ops Q (o :: rest) a w := by
  unfold wpList
  rw [if_pos hw]
  refine Or.inl ?_
  unfold Oper.wp
  rw [exec_store ho hx hy hl]
  exact h
/-- .. as a step of a region that draws. -/
theorem step_store_w {P : Program} {w w' : World} {ops : Array Oper} {o : Oper} {a : Act} {K : Act → World → Prop} {Q : Exit → Act → World → Prop} {E : Prop} (hg : o.guard = none) (ty : TypeId) (x y : Operand) (ho : o.op = .store ty x y) {X v : Value} (hx : a.eval x = X) (hy : a.eval y = v) (hl : (Instr.storeAt ty X v).run P w = .ok () w') (hK : K (a.put o.dst undef) w') : if Region.wanted o (yielded ops a.tmps) = true then Oper.wp P o a w K Q else E := by
  have hw : Region.wanted o (yielded ops a.tmps) = true := by simp [Region.wanted, hg]
  rw [if_pos hw]
  unfold Oper.wp
  rw [exec_store ho hx hy hl]
  exact hK
theorem res_info : (Try.prog.info? 46).map (·.size) = some 15 := by kernel_rfl
theorem load_res {w : World} {b : Nat} {cs : Array Value} (I : IsB w b cs 46) (hs : cs.size = 15) : (Instr.loadAt 46 (.pointer (some ⟨b, 0, none⟩))).run Try.prog w = .ok (.agg cs) w := by
  have h := run_loadVar_row (P := Try.prog) w b 46 46 cs (0, 0) _ I Try.underlying46 rfl (by rw [hs]; exact res_info)
  simp only [Instr.loadAt, Instr.sureAddr, Sem.run_bind, Sem.run_pure, Result.andThen_ok, h]
theorem store_res {w : World} {b : Nat} {old cs : Array Value} (I : IsB w b old 46) (hs : cs.size = 15) (ho : old.size = 15) (h1 : cs.all (·.oneCell') = true) : ∃ w', (Instr.storeAt 46 (.pointer (some ⟨b, 0, none⟩)) (.agg cs)).run Try.prog w = .ok () w' ∧ IsB w' b cs 46 ∧ Kp [b] w w' := by
  have h := run_storeVar_row (P := Try.prog) w b 46 46 old cs I (by rw [hs]; exact res_info) (by rw [hs, ho]) h1
  refine ⟨_, ?_, isB_setRow I cs, kp_setRow cs⟩
  simp only [Instr.storeAt, Instr.sureAddr, Sem.run_bind, Sem.run_pure, Result.andThen_ok, h]
/-- A result is returned out of the block of its variable. -/
theorem ret_res {fn : Func} {p : Tmp} (hf : fn.results = #[.cell p 46]) {Q : Ending → World → Prop} {tmps : Array Value} {w : World} {b : Nat} {cs : Array Value} (hs : cs.size = 15)
    (hp : tmps.getD p undef = .pointer (some ⟨b, 0, none⟩)) (I : IsB w b cs 46) (hQ : Q (.returned (.agg cs)) w) :
    bodyPost Try.prog fn Q .ret ⟨tmps, []⟩ w :=
  bodyPost_ret (results_cell_row hf tmps w b 46 cs (0, 0) _ hp I Try.underlying46 rfl (by rw [hs]; exact res_info)) rfl hQ

/-- A result that the program tells: its parts. -/
structure Rs where
  e : Int
  key : Int
  va : Option Addr
  vc : Nat
  vb : List UInt8
  ia : Option Addr
  ic : Nat
  il : List It
  f : Bool
def Rs.cells (r : Rs) : Array Value := #[.int .i64 r.e, .int .u64 r.key, .slice r.va r.vb.length r.vc, .slice r.ia r.il.length r.ic, .int .i64 0, .int .i64 0, .int .u64 0, .int .i64 0, .int .u64 0, .int .i64 0, .int .i64 0, .int .u64 0, .int .i64 0, .int .u64 0, .bool r.f]
abbrev RV := Int × Int × List UInt8 × List (Int × List UInt8) × Bool
/-- What it says. -/
def Rs.val (r : Rs) : RV := (r.e, r.key, r.vb, r.il.map It.val, r.f)
/-- It lies there, in blocks that are not below base. -/
structure RsOk (w : World) (base : Nat) (r : Rs) : Prop where
  by_ : By w r.va r.vc r.vb
  vn : r.va = none → r.vc = 0
  it : Ow w (.slice r.ia r.il.length r.ic) r.il
  new : ∀ k, (Value.slice r.ia r.il.length r.ic).ownBlock = some k → base ≤ k
theorem RsOk.below {w w' : World} {base : Nat} {r : Rs} (h : RsOk w base r) (hb : Below w.heap.size w w') : RsOk w' base r := ⟨h.by_.below hb, h.vn, h.it.below hb, h.new⟩
theorem RsOk.keep {S : List Nat} {w w' : World} {base : Nat} {r : Rs} (h : RsOk w base r) (hk : Kp S w w') (hS : ∀ k ∈ S, ∃ cur t, w.heap[k]? = some (.cells cur t (0, 0)) ∧ t ≠ 5) (hi : ∀ k ∈ S, (Value.slice r.ia r.il.length r.ic).ownBlock ≠ some k) : RsOk w' base r := by
  have hb : ∀ {a c l}, By w a c l → By w' a c l := fun h => h.kp hk (fun k hm cur h0 => by
    obtain ⟨cur2, t, hc, ht⟩ := hS k hm
    exact absurd (cells_inj h0 hc).symm ht)
  exact ⟨hb h.by_, h.vn, ⟨h.it.row.kp hk (fun k hv hm => hi k hm hv), fun it hm => ⟨hb (h.it.byt it hm).1, (h.it.byt it hm).2⟩⟩, h.new⟩
theorem By.nil (w : World) : By w none 0 [] := ⟨⟨rfl, Or.inl ⟨rfl, rfl⟩⟩, by simp⟩
theorem RsOk.plain (w : World) (base : Nat) (e : Int) : RsOk w base ⟨e, 0, none, 0, [], none, 0, [], false⟩ := ⟨By.nil w, fun _ => rfl, Ow.nil w, fun k hk => by cases hk⟩

theorem Sl.head {w : World} {a : Option Addr} {n c : Nat} {l : List It} (h : Sl w (.slice a n c) l) (m : Nat) (hm : m ≤ l.length) : Sl w (.slice a m m) (l.take m) := by
  refine ⟨?_, fun it hi => h.2 it (List.mem_of_mem_take hi)⟩
  rcases h.1 with ⟨h1, rfl⟩ | ⟨g, o, c', h1, h2, h3, h4, h5⟩
  · injection h1 with h1 _ _
    have : m = 0 := by simpa using hm
    subst this h1
    exact Or.inl ⟨rfl, rfl⟩
  · injection h1 with h1 h6 h7
    subst h1 h7
    refine Or.inr ⟨g, o, m, by rw [List.length_take, Nat.min_eq_left hm], by rw [List.length_take]; omega, by omega, h4, fun j u hu => ?_⟩
    rw [← its_take, List.getElem?_take] at hu
    split at hu
    · exact h5 j u hu
    · cases hu
theorem Sl.tail {w : World} {a : Option Addr} {n c : Nat} {l : List It} (h : Sl w (.slice a n c) l) (i : Nat) (hi : i ≤ l.length) : (a = none ∧ l = [] ∧ c = 0) ∨ ∃ g o, a = some ⟨g, o, none⟩ ∧ Sl w (.slice (if c = i then some ⟨g, o, none⟩ else some ⟨g, o + i * 2, none⟩) (n - i) (c - i)) (l.drop i) := by
  rcases h.1 with ⟨h1, rfl⟩ | ⟨g, o, c', h1, h2, h3, h4, h5⟩
  · injection h1 with h1 _ h2
    exact Or.inl ⟨h1, rfl, h2⟩
  · injection h1 with h1 h6 h7
    subst h1 h6 h7
    refine Or.inr ⟨g, o, rfl, ?_, fun it hi => h.2 it (List.mem_of_mem_drop hi)⟩
    refine Or.inr ⟨g, (if c = i then o else o + i * 2), c - i, by rw [List.length_drop]; split <;> rfl, by rw [List.length_drop]; omega, by omega, h4, fun j u hu => ?_⟩
    have hj := (List.getElem?_eq_some_iff.1 hu).1
    rw [its_len, List.length_drop] at hj
    rw [if_neg (by omega)]
    rw [← its_drop, List.getElem?_drop] at hu
    rw [Nat.add_assoc]
    exact h5 _ u hu

end Go.Proofs.Ytfnpapaibgbjpaa
