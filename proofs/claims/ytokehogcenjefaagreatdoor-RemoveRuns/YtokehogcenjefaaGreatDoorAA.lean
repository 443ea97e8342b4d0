/- A removal's cells. -/
import Derived.Test.YtokehogcenjefaaGreatDoorSJ
namespace Go.Proofs.YtokehogcenjefaaGreatDoor
open Go.RowKit Go.Maps Go.ChangeMaps

/-- A removal: its owner, its place, whom it found, whether it marked, its list, its result. -/
structure Rm where
 oa : Int
 oo : Int
 pl : Int
 x : Rf
 md : Bool
 ll : Int
 lb : Int
 e : Int
/-- Its cells; h is the machine at hand. -/
def rmL (R : Rm) (h : Value) : List Value := [.int .i64 R.oa, .int .i64 R.oo, .int .i64 R.pl, h, .int .i64 R.x.id, .int .i64 R.x.rk, .int .u64 R.x.kn, .int .i64 R.x.ln, .int .u64 R.x.bt, .bool R.md, .int .i64 R.ll, .int .u64 R.lb, .int .i64 R.e]

section
variable {w : World} {b : Nat} {R : Rm} {h : Value} (I : IsB w b (rmL R h).toArray 90)
include I
theorem rl_x : (Instr.loadAt 29 (.pointer (some ⟨b, 4, none⟩))).run Tryz.prog w = .ok (.agg #[.int .i64 R.x.id, .int .i64 R.x.rk, .int .u64 R.x.kn, .int .i64 R.x.ln, .int .u64 R.x.bt]) w := load_mid I 4 _ [.int .i64 R.x.id, .int .i64 R.x.rk, .int .u64 R.x.kn, .int .i64 R.x.ln, .int .u64 R.x.bt] _ rfl Tryz.underlying29 rfl (by kernel_rfl)
theorem rl_xv : (Instr.loadAt 27 (.pointer (some ⟨b, 7, none⟩))).run Tryz.prog w = .ok (.agg #[.int .i64 (R.x.ln), .int .u64 (R.x.bt)]) w := load_mid I 7 _ [.int .i64 R.x.ln, .int .u64 R.x.bt] _ rfl Tryz.underlying27 rfl (by kernel_rfl)
theorem rc_pl : w.cell? ⟨b, 2, none⟩ = some (.int .i64 R.pl) := I.cell 2
theorem rc_h : w.cell? ⟨b, 3, none⟩ = some h := I.cell 3
theorem rc_mk : w.cell? ⟨b, 9, none⟩ = some (.bool R.md) := I.cell 9
theorem rc_e : w.cell? ⟨b, 12, none⟩ = some (.int .i64 R.e) := I.cell 12
theorem rs_pl (k : Int) : ∃ w', (Instr.storeAt 88 (.pointer (some ⟨b, 2, none⟩)) (.int .i64 k)).run Tryz.prog w = .ok () w' ∧ IsB w' b (rmL { R with pl := k } h).toArray 90 ∧ Kp [b] w w' :=
 store_one I 2 _ (.int .i64 k) (by simp [rmL]) (by kernel_rfl) rfl rfl
theorem rs_nil : ∃ w', (Instr.storeAt 84 (.pointer (some ⟨b, 3, none⟩)) .nilIface).run Tryz.prog w = .ok () w' ∧ IsB w' b (rmL R .nilIface).toArray 90 ∧ Kp [b] w w' :=
 store_one I 3 _ .nilIface (by simp [rmL]) (by kernel_rfl) rfl rfl
theorem rs_h (t : TypeId) (p : Value) : ∃ w', (Instr.storeAt 84 (.pointer (some ⟨b, 3, none⟩)) (.iface t p)).run Tryz.prog w = .ok () w' ∧ IsB w' b (rmL R (.iface t p)).toArray 90 ∧ Kp [b] w w' :=
 store_one I 3 _ (.iface t p) (by simp [rmL]) (by kernel_rfl) rfl rfl
theorem rs_x (r : Rf) : ∃ w', (Instr.storeAt 29 (.pointer (some ⟨b, 4, none⟩)) (.agg r.cells)).run Tryz.prog w = .ok () w' ∧ IsB w' b (rmL { R with x := r } h).toArray 90 ∧ Kp [b] w w' :=
 store_mid I 4 _ r.cs (by simp [rmL, Rf.cs]) (by kernel_rfl) (by simp [Rf.cs, Value.oneCell'])
theorem rs_mk (f : Bool) : ∃ w', (Instr.storeAt 4 (.pointer (some ⟨b, 9, none⟩)) (.bool f)).run Tryz.prog w = .ok () w' ∧ IsB w' b (rmL { R with md := f } h).toArray 90 ∧ Kp [b] w w' :=
 store_one I 9 _ (.bool f) (by simp [rmL]) (by kernel_rfl) rfl rfl
theorem rs_l (x y : Int) : ∃ w', (Instr.storeAt 27 (.pointer (some ⟨b, 10, none⟩)) (.agg #[.int .i64 (x), .int .u64 (y)])).run Tryz.prog w = .ok () w' ∧ IsB w' b (rmL { R with ll := x, lb := y } h).toArray 90 ∧ Kp [b] w w' :=
 store_mid I 10 _ [.int .i64 x, .int .u64 y] (by simp [rmL]) (by kernel_rfl) (by simp [Value.oneCell'])
theorem rs_e (k : Int) : ∃ w', (Instr.storeAt 37 (.pointer (some ⟨b, 12, none⟩)) (.int .i64 k)).run Tryz.prog w = .ok () w' ∧ IsB w' b (rmL { R with e := k } h).toArray 90 ∧ Kp [b] w w' :=
 store_one I 12 _ (.int .i64 k) (by simp [rmL]) (by kernel_rfl) rfl rfl
end

end Go.Proofs.YtokehogcenjefaaGreatDoor
