/- The middle of a block: loads and stores of a part of it; an unsplice's cells. -/
import Derived.Test.YtokehogcenjefaaGreatDoorAD
import Derived.Deep.MidRow
namespace Go.Proofs.YtokehogcenjefaaGreatDoor
open Go.RowKit Go.Maps Go.ChangeMaps







theorem IsB.ne_t {w : World} {a b : Nat} {x y : Array Value} {s t : TypeId} (h : IsB w a x s) (k : IsB w b y t) (hn : s ≠ t) : a ≠ b := by
 rintro rfl
 have := Option.some.inj (h.symm.trans k)
 injection this with _ h2
 exact hn h2

/-- An unsplice: its list, who is to leave it, its owner; where it is at; who stands to the left, and to the right; what comes behind Free; its error. The document's lies in memory just so. -/
structure Us where
 wl : Int
 wb : Int
 me : Rf
 oa : Int
 oo : Int
 pl : Int
 lf : Rf
 rg : Rf
 bh : Int
 e : Int

/-- The settings' cells. -/
def ucfL (wl wb : Int) (me : Rf) (oa oo : Int) : List Value := [.int .i64 wl, .int .u64 wb, .int .i64 me.id, .int .i64 me.rk, .int .u64 me.kn, .int .i64 me.ln, .int .u64 me.bt, .int .i64 oa, .int .i64 oo]
/-- An unsplice's cells. -/
def usL (S : Us) : List Value :=
 [.int .i64 S.wl, .int .u64 S.wb, .int .i64 S.me.id, .int .i64 S.me.rk, .int .u64 S.me.kn, .int .i64 S.me.ln, .int .u64 S.me.bt, .int .i64 S.oa, .int .i64 S.oo, .int .i64 S.pl, .int .i64 S.lf.id, .int .i64 S.lf.rk, .int .u64 S.lf.kn, .int .i64 S.lf.ln, .int .u64 S.lf.bt, .int .i64 S.rg.id, .int .i64 S.rg.rk, .int .u64 S.rg.kn, .int .i64 S.rg.ln, .int .u64 S.rg.bt, .int .i64 S.bh, .int .i64 S.e]
/-- It lies there. -/
def UsAt (w : World) (b : Nat) (S : Us) : Prop := IsB w b (usL S).toArray 215

/-- The document's lies there. -/
def DsAt (w : World) (b : Nat) (S : Us) : Prop := IsB w b (usL S).toArray 102

section
variable {w : World} {b : Nat} {S : Us} (I : UsAt w b S)
include I
theorem ld_w : (Instr.loadAt 27 (.pointer (some ⟨b, 0, none⟩))).run Tryz.prog w = .ok (.agg #[.int .i64 (S.wl), .int .u64 (S.wb)]) w := load_mid I 0 _ [.int .i64 S.wl, .int .u64 S.wb] _ rfl Tryz.underlying27 rfl (by kernel_rfl)
theorem ld_me : (Instr.loadAt 29 (.pointer (some ⟨b, 2, none⟩))).run Tryz.prog w = .ok (.agg S.me.cells) w := load_mid I 2 _ S.me.cs _ rfl Tryz.underlying29 rfl (by kernel_rfl)
theorem ld_mek : (Instr.loadAt 25 (.pointer (some ⟨b, 3, none⟩))).run Tryz.prog w = .ok (.agg #[.int .i64 (S.me.rk), .int .u64 (S.me.kn)]) w := load_mid I 3 _ [.int .i64 S.me.rk, .int .u64 S.me.kn] _ rfl Tryz.underlying25 rfl (by kernel_rfl)
theorem ld_left : (Instr.loadAt 29 (.pointer (some ⟨b, 10, none⟩))).run Tryz.prog w = .ok (.agg S.lf.cells) w := load_mid I 10 _ S.lf.cs _ rfl Tryz.underlying29 rfl (by kernel_rfl)
theorem ld_leftk : (Instr.loadAt 25 (.pointer (some ⟨b, 11, none⟩))).run Tryz.prog w = .ok (.agg #[.int .i64 (S.lf.rk), .int .u64 (S.lf.kn)]) w := load_mid I 11 _ [.int .i64 S.lf.rk, .int .u64 S.lf.kn] _ rfl Tryz.underlying25 rfl (by kernel_rfl)
theorem ld_right : (Instr.loadAt 29 (.pointer (some ⟨b, 15, none⟩))).run Tryz.prog w = .ok (.agg S.rg.cells) w := load_mid I 15 _ S.rg.cs _ rfl Tryz.underlying29 rfl (by kernel_rfl)
theorem ld_rightk : (Instr.loadAt 25 (.pointer (some ⟨b, 16, none⟩))).run Tryz.prog w = .ok (.agg #[.int .i64 (S.rg.rk), .int .u64 (S.rg.kn)]) w := load_mid I 16 _ [.int .i64 S.rg.rk, .int .u64 S.rg.kn] _ rfl Tryz.underlying25 rfl (by kernel_rfl)
theorem ld_owner : (Instr.loadAt 31 (.pointer (some ⟨b, 7, none⟩))).run Tryz.prog w = .ok (.agg #[.int .i64 S.oa, .int .i64 S.oo]) w := load_mid I 7 _ [.int .i64 S.oa, .int .i64 S.oo] _ rfl Tryz.underlying31 rfl (by kernel_rfl)
theorem cl_at : w.cell? ⟨b, 9, none⟩ = some (.int .i64 S.pl) := IsB.cell I 9
theorem cl_bh : w.cell? ⟨b, 20, none⟩ = some (.int .i64 S.bh) := IsB.cell I 20
theorem ucl_e : w.cell? ⟨b, 21, none⟩ = some (.int .i64 S.e) := IsB.cell I 21
theorem st_left (r : Rf) : ∃ w', (Instr.storeAt 29 (.pointer (some ⟨b, 10, none⟩)) (.agg r.cells)).run Tryz.prog w = .ok () w' ∧ UsAt w' b { S with lf := r } ∧ Kp [b] w w' :=
 store_mid I 10 _ r.cs (by simp [usL, Rf.cs]) (by kernel_rfl) (by simp [Rf.cs, Value.oneCell'])
theorem st_right (r : Rf) : ∃ w', (Instr.storeAt 29 (.pointer (some ⟨b, 15, none⟩)) (.agg r.cells)).run Tryz.prog w = .ok () w' ∧ UsAt w' b { S with rg := r } ∧ Kp [b] w w' :=
 store_mid I 15 _ r.cs (by simp [usL, Rf.cs]) (by kernel_rfl) (by simp [Rf.cs, Value.oneCell'])
theorem st_at (k : Int) : ∃ w', (Instr.storeAt 213 (.pointer (some ⟨b, 9, none⟩)) (.int .i64 k)).run Tryz.prog w = .ok () w' ∧ UsAt w' b { S with pl := k } ∧ Kp [b] w w' :=
 store_one I 9 _ (.int .i64 k) (by simp [usL]) (by kernel_rfl) rfl rfl
theorem st_bh (k : Int) : ∃ w', (Instr.storeAt 213 (.pointer (some ⟨b, 20, none⟩)) (.int .i64 k)).run Tryz.prog w = .ok () w' ∧ UsAt w' b { S with bh := k } ∧ Kp [b] w w' :=
 store_one I 20 _ (.int .i64 k) (by simp [usL]) (by kernel_rfl) rfl rfl
theorem st_e (k : Int) : ∃ w', (Instr.storeAt 37 (.pointer (some ⟨b, 21, none⟩)) (.int .i64 k)).run Tryz.prog w = .ok () w' ∧ UsAt w' b { S with e := k } ∧ Kp [b] w w' :=
 store_one I 21 _ (.int .i64 k) (by simp [usL]) (by kernel_rfl) rfl rfl
end

section
/- 102 -/
variable {w : World} {b : Nat} {S : Us} (I : DsAt w b S)
include I
theorem dld_w : (Instr.loadAt 27 (.pointer (some ⟨b, 0, none⟩))).run Tryz.prog w = .ok (.agg #[.int .i64 (S.wl), .int .u64 (S.wb)]) w := load_mid I 0 _ [.int .i64 S.wl, .int .u64 S.wb] _ rfl Tryz.underlying27 rfl (by kernel_rfl)
theorem dld_me : (Instr.loadAt 29 (.pointer (some ⟨b, 2, none⟩))).run Tryz.prog w = .ok (.agg S.me.cells) w := load_mid I 2 _ S.me.cs _ rfl Tryz.underlying29 rfl (by kernel_rfl)
theorem dld_mek : (Instr.loadAt 25 (.pointer (some ⟨b, 3, none⟩))).run Tryz.prog w = .ok (.agg #[.int .i64 (S.me.rk), .int .u64 (S.me.kn)]) w := load_mid I 3 _ [.int .i64 S.me.rk, .int .u64 S.me.kn] _ rfl Tryz.underlying25 rfl (by kernel_rfl)
theorem dld_left : (Instr.loadAt 29 (.pointer (some ⟨b, 10, none⟩))).run Tryz.prog w = .ok (.agg S.lf.cells) w := load_mid I 10 _ S.lf.cs _ rfl Tryz.underlying29 rfl (by kernel_rfl)
theorem dld_leftk : (Instr.loadAt 25 (.pointer (some ⟨b, 11, none⟩))).run Tryz.prog w = .ok (.agg #[.int .i64 (S.lf.rk), .int .u64 (S.lf.kn)]) w := load_mid I 11 _ [.int .i64 S.lf.rk, .int .u64 S.lf.kn] _ rfl Tryz.underlying25 rfl (by kernel_rfl)
theorem dld_right : (Instr.loadAt 29 (.pointer (some ⟨b, 15, none⟩))).run Tryz.prog w = .ok (.agg S.rg.cells) w := load_mid I 15 _ S.rg.cs _ rfl Tryz.underlying29 rfl (by kernel_rfl)
theorem dld_rightk : (Instr.loadAt 25 (.pointer (some ⟨b, 16, none⟩))).run Tryz.prog w = .ok (.agg #[.int .i64 (S.rg.rk), .int .u64 (S.rg.kn)]) w := load_mid I 16 _ [.int .i64 S.rg.rk, .int .u64 S.rg.kn] _ rfl Tryz.underlying25 rfl (by kernel_rfl)
theorem dld_owner : (Instr.loadAt 31 (.pointer (some ⟨b, 7, none⟩))).run Tryz.prog w = .ok (.agg #[.int .i64 S.oa, .int .i64 S.oo]) w := load_mid I 7 _ [.int .i64 S.oa, .int .i64 S.oo] _ rfl Tryz.underlying31 rfl (by kernel_rfl)
theorem dcl_at : w.cell? ⟨b, 9, none⟩ = some (.int .i64 S.pl) := IsB.cell I 9
theorem dcl_bh : w.cell? ⟨b, 20, none⟩ = some (.int .i64 S.bh) := IsB.cell I 20
theorem dcl_e : w.cell? ⟨b, 21, none⟩ = some (.int .i64 S.e) := IsB.cell I 21
theorem dst_left (r : Rf) : ∃ w', (Instr.storeAt 29 (.pointer (some ⟨b, 10, none⟩)) (.agg r.cells)).run Tryz.prog w = .ok () w' ∧ DsAt w' b { S with lf := r } ∧ Kp [b] w w' :=
 store_mid I 10 _ r.cs (by simp [usL, Rf.cs]) (by kernel_rfl) (by simp [Rf.cs, Value.oneCell'])
theorem dst_right (r : Rf) : ∃ w', (Instr.storeAt 29 (.pointer (some ⟨b, 15, none⟩)) (.agg r.cells)).run Tryz.prog w = .ok () w' ∧ DsAt w' b { S with rg := r } ∧ Kp [b] w w' :=
 store_mid I 15 _ r.cs (by simp [usL, Rf.cs]) (by kernel_rfl) (by simp [Rf.cs, Value.oneCell'])
theorem dst_at (k : Int) : ∃ w', (Instr.storeAt 3 (.pointer (some ⟨b, 9, none⟩)) (.int .i64 k)).run Tryz.prog w = .ok () w' ∧ DsAt w' b { S with pl := k } ∧ Kp [b] w w' :=
 store_one I 9 _ (.int .i64 k) (by simp [usL]) (by kernel_rfl) rfl rfl
theorem dst_bh (k : Int) : ∃ w', (Instr.storeAt 3 (.pointer (some ⟨b, 20, none⟩)) (.int .i64 k)).run Tryz.prog w = .ok () w' ∧ DsAt w' b { S with bh := k } ∧ Kp [b] w w' :=
 store_one I 20 _ (.int .i64 k) (by simp [usL]) (by kernel_rfl) rfl rfl
theorem dst_e (k : Int) : ∃ w', (Instr.storeAt 37 (.pointer (some ⟨b, 21, none⟩)) (.int .i64 k)).run Tryz.prog w = .ok () w' ∧ DsAt w' b { S with e := k } ∧ Kp [b] w w' :=
 store_one I 21 _ (.int .i64 k) (by simp [usL]) (by kernel_rfl) rfl rfl
end

section
variable {w : World} {b : Nat} {wl wb : Int} {me : Rf} {oa oo : Int} (I : IsB w b (ucfL wl wb me oa oo).toArray 100)
include I
theorem ld_cconf : (Instr.loadAt 100 (.pointer (some ⟨b, 0, none⟩))).run Tryz.prog w = .ok (.agg (ucfL wl wb me oa oo).toArray) w := load_mid I 0 _ (ucfL wl wb me oa oo) _ rfl Tryz.underlying100 rfl (by kernel_rfl)
theorem ld_cw : (Instr.loadAt 27 (.pointer (some ⟨b, 0, none⟩))).run Tryz.prog w = .ok (.agg #[.int .i64 (wl), .int .u64 (wb)]) w := load_mid I 0 _ [.int .i64 wl, .int .u64 wb] _ rfl Tryz.underlying27 rfl (by kernel_rfl)
theorem ld_cme : (Instr.loadAt 29 (.pointer (some ⟨b, 2, none⟩))).run Tryz.prog w = .ok (.agg me.cells) w := load_mid I 2 _ me.cs _ rfl Tryz.underlying29 rfl (by kernel_rfl)
theorem ld_cmev : (Instr.loadAt 27 (.pointer (some ⟨b, 5, none⟩))).run Tryz.prog w = .ok (.agg #[.int .i64 (me.ln), .int .u64 (me.bt)]) w := load_mid I 5 _ [.int .i64 me.ln, .int .u64 me.bt] _ rfl Tryz.underlying27 rfl (by kernel_rfl)
theorem ld_cow : (Instr.loadAt 31 (.pointer (some ⟨b, 7, none⟩))).run Tryz.prog w = .ok (.agg #[.int .i64 oa, .int .i64 oo]) w := load_mid I 7 _ [.int .i64 oa, .int .i64 oo] _ rfl Tryz.underlying31 rfl (by kernel_rfl)
end


section
variable {w : World} {b : Nat} {a : An} (I : IsB w b (anL a).toArray 62)
include I



theorem ld_ualk : (Instr.loadAt 25 (.pointer (some ⟨b, 3, none⟩))).run Tryz.prog w = .ok (.agg #[.int .i64 (a.l.rk), .int .u64 (a.l.kn)]) w := load_mid I 3 _ [.int .i64 a.l.rk, .int .u64 a.l.kn] _ rfl Tryz.underlying25 rfl (by kernel_rfl)
theorem ld_ark : (Instr.loadAt 25 (.pointer (some ⟨b, 8, none⟩))).run Tryz.prog w = .ok (.agg #[.int .i64 (a.r.rk), .int .u64 (a.r.kn)]) w := load_mid I 8 _ [.int .i64 a.r.rk, .int .u64 a.r.kn] _ rfl Tryz.underlying25 rfl (by kernel_rfl)

end



theorem ptr_eq (a : Addr) (w : World) : (binOp .eql 197 (.pointer (some a)) (.pointer none)).run Tryz.prog w = .ok (.bool false) w := by kernel_rfl
theorem ptr_ne (a : Addr) (w : World) : (binOp .neq 197 (.pointer (some a)) (.pointer none)).run Tryz.prog w = .ok (.bool true) w := by kernel_rfl

end Go.Proofs.YtokehogcenjefaaGreatDoor
