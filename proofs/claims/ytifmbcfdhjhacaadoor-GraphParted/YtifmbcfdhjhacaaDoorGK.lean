/- Package graph: Beside. -/
import Derived.Test.YtifmbcfdhjhacaaDoorGJ
namespace Go.Proofs.YtifmbcfdhjhacaaDoor
open Go.RowKit Go.Maps Go.ChangeMaps

theorem results_cct {fn : Func} {p q u : Tmp} {ty ty2 : TypeId} (h : fn.results = #[.cell p ty, .cell q ty2, .tmp u]) (tmps : Array Value) (P : Program) (w : World) :
    (results fn tmps).run P w =
      ((asAddr (tmps.getD p undef)).run P w).andThen fun a w₁ => ((loadVar ty a).run P w₁).andThen fun v w₂ => ((asAddr (tmps.getD q undef)).run P w₂).andThen fun b w₃ => ((loadVar ty2 b).run P w₃).andThen fun y w₄ => .ok (.tuple #[v, y, tmps.getD u undef]) w₄ := by
  simp only [results, h]
  simp [Sem.run_bind, Result.andThen]
theorem ret_rrt {fn : Func} {p q u : Tmp} (hf : fn.results = #[.cell p 40, .cell q 40, .tmp u]) {Q : Ending → World → Prop} {tmps : Array Value} {w : World} {a b : Nat} {cs ds : Array Value} {v : Value} (hs : cs.size = 5) (hs2 : ds.size = 5)
    (hp : tmps.getD p undef = .pointer (some ⟨a, 0, none⟩)) (hq : tmps.getD q undef = .pointer (some ⟨b, 0, none⟩)) (hu : tmps.getD u undef = v) (I : IsB w a cs 40) (J : IsB w b ds 40) (hQ : Q (.returned (.tuple #[.agg cs, .agg ds, v])) w) :
    bodyPost Tryd.prog fn Q .ret ⟨tmps, []⟩ w := by
  refine bodyPost_ret ?_ rfl hQ
  rw [results_cct hf, hp, hq, hu]
  have h := run_loadVar_row (P := Tryd.prog) w a 40 40 cs (0, 0) _ I Tryd.underlying40 rfl (by rw [hs]; exact ref_info)
  have h2 := run_loadVar_row (P := Tryd.prog) w b 40 40 ds (0, 0) _ J Tryd.underlying40 rfl (by rw [hs2]; exact ref_info)
  simp [asAddr, h, h2, Result.andThen]
/-- What Beside answers, of members that make a graph. -/
def besE (h : Int) (u : Vc) (d : Int) (m : List Rf) : Rf × Rf × Int :=
  if (rt u.1 u.2 && decide (u.1 ≤ h)) = true then
    if plI d (rowL h (flt u.1 u m)) < 0 then (zr, zr, 111) else (besL (rowL h (flt u.1 u m)) (plI d (rowL h (flt u.1 u m))).toNat, besR (rowL h (flt u.1 u m)) (plI d (rowL h (flt u.1 u m))).toNat, 0)
  else (zr, zr, 10)
/-- What a sorted row of members keeps of them. -/
theorem perm_ok {h : Int} {l m : List Rf} (hg : okG h l) (hbt : ∀ x ∈ l, 0 ≤ x.bt) (hp : m.Perm l) : ∀ r ∈ m, mayR h r = true ∧ 0 ≤ r.bt := fun r hr => ⟨hg.2.1.1 r (hp.mem_iff.1 hr), hbt r (hp.mem_iff.1 hr)⟩





end Go.Proofs.YtifmbcfdhjhacaaDoor
