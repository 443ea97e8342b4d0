/- A record is loaded whole. -/
import Derived.Test.YtdogdinkopocaaaDoorKO
namespace Go.Proofs.YtdogdinkopocaaaDoor
open Go.RowKit Go.Maps

theorem exec_load {P : Program} {t : TypeId} {o : Operand} {oi : Oper} {ρ : Operand → Value} {v x : Value} {w : World} (hop : oi.op = Op.load t o) (hx : ρ o = x) (hl : (Instr.loadAt t x).run P w = .ok v w) : (execOp ρ oi).run P w = .ok (.value v) w := by
  simp [execOp, hop, hx, hl, Result.andThen]
theorem load_rs {w : World} {b : Nat} {cs : Array Value} (I : IsB w b cs 107) (hs : cs.size = 16) : (Instr.loadAt 107 (.pointer (some ⟨b, 0, none⟩))).run Tryd.prog w = .ok (.agg cs) w := by
  have h := run_loadVar_row (P := Tryd.prog) w b 107 107 cs (0, 0) _ I Tryd.underlying107 rfl (by rw [hs]; exact rs_info)
  simp only [Instr.loadAt, Instr.sureAddr, Sem.run_bind, Sem.run_pure, Result.andThen_ok, h]

/-- A load whose value is known, in a region that does not draw. -/
theorem wpList_load_w {P : Program} {ops : Array Oper} {rest : List Oper} {o : Oper} {a : Act} {w : World} {Q : Exit → Act → World → Prop} (hw : Region.wanted o (yielded ops a.tmps) = true) (ty : TypeId) (x : Operand) (ho : o.op = .load ty x) {X v : Value} (hx : a.eval x = X) (hl : (Instr.loadAt ty X).run P w = .ok v w)
    (h : wpList P ops Q rest (a.put o.dst v) w) : wpList P ops Q (o :: rest) a w := by
  unfold wpList
  rw [if_pos hw]
  refine Or.inl ?_
  unfold Oper.wp
  rw [exec_load ho hx hl]
  exact h

end Go.Proofs.YtdogdinkopocaaaDoor
