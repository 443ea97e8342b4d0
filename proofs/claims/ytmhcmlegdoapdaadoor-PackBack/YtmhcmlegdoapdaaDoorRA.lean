/- Package pack: one field, packed and read; worlds that lie as they did; texts. -/
import Derived.Test.YtmhcmlegdoapdaaDoorQZ
import Derived.Test.YtmhcmlegdoapdaaDoorQT
import Derived.Test.YtmhcmlegdoapdaaDoorQP
namespace Go.Proofs.YtmhcmlegdoapdaaDoor
open Go.RowKit

/-- A world in which all that lay in W lies as it did. -/
structure Bel (W : World) where
  v : World
  h : Below W.heap.size W v
theorem wp_region_bel {P : Program} {id : Nat} {Q : Exit → Act → World → Prop} {a : Act} {w : World} {l : List Oper} (hm : P.follows .mixedOrders = true) (hB : Region.lexB .any l.toArray = true)
    (h : wpQuiet P l.toArray (fun w' => ∃ p : Bel w, w' = p.v) (fun a' => ∀ w', (∃ p : Bel w, w' = p.v) → Q .normal a' w') l a) : (Code.region id l.toArray true).wp P Q a w :=
  wp_region_quiet (C := fun w' => ∃ p : Bel w, w' = p.v) hm hB ⟨⟨w.drew, (Below.refl _ _).drew⟩, rfl⟩ (by simpa using h)
theorem bel_of {P : Program} {f : FuncId} {args : Array Value} {w : World} {v : Value} (p : Bel w)
    (h : Calls P f args p.v fun e w' => e = .returned v ∧ Below p.v.heap.size p.v w') : Calls P f args p.v fun e w'' => e = .returned v ∧ ∃ q : Bel w, w'' = q.v :=
  h.mono fun _ w'' ⟨he, hb⟩ => ⟨he, ⟨w'', p.h.trans (hb.mono p.h.size)⟩, rfl⟩
theorem bel_cell {w : World} {a : Addr} {v : Value} (h : w.cell? a = some v) (p : Bel w) : p.v.cell? a = some v := by
  rw [p.h.cell (lt_of_cell h)]; exact h

/-- The bytes that a slice holds read as this text, whatever is made behind them. -/
def Txt (w : World) (v : Value) (S : ByteArray) : Prop := ∀ w', RowKit.Below w.heap.size w w' → (convert 25 9 v).run Tryd.prog w' = .ok (.string S) w'
theorem Txt.below {w w' : World} {v : Value} {S : ByteArray} (h : Txt w v S) (hb : RowKit.Below w.heap.size w w') : Txt w' v S := fun w'' hb' => h w'' (hb.trans (hb'.mono hb.size))
theorem txt_nil (w : World) : Txt w (.slice none 0 0) ⟨#[]⟩ := fun w' _ => by
  have := run_convert_bytes_string (P := Tryd.prog) w' 25 9 5 none 0 0 Tryd.underlying25 Tryd.underlying5 Tryd.underlying9
  rw [this]
  rfl
/-- Bytes as numbers. -/
def ints (L : List UInt8) : List Int := L.map fun c => (c.toNat : Int)
theorem ints_len (L : List UInt8) : (ints L).length = L.length := by unfold ints; exact List.length_map _
theorem ints_get (L : List UInt8) (j : Nat) (hj : j < L.length) : (ints L)[j]'(by rw [ints_len]; exact hj) = (L[j].toNat : Int) := by unfold ints; simp
theorem txt_cells {w : World} {b o cap : Nat} (L : List UInt8) (h : ∀ j (hj : j < L.length), w.cell? ⟨b, o + j, none⟩ = some (.int .u8 (L[j].toNat : Int))) : Txt w (.slice (some ⟨b, o, none⟩) L.length cap) ⟨L.toArray⟩ := fun w' hb => by
  refine run_convert_bytes_back (P := Tryd.prog) w' 25 9 5 ⟨b, o, none⟩ cap L Tryd.underlying25 Tryd.underlying5 Tryd.underlying9 (fun j hj => ?_)
  rw [Lib.add_plain, ← h j hj]
  exact hb.cell (by exact lt_of_cell (h j hj))
theorem txt_own {w : World} {base g cap : Nat} (L : List UInt8) (h : w.ownsRow base 5 1 (.slice (some ⟨g, 0, none⟩) L.length cap) L.length (u8s (ints L))) : Txt w (.slice (some ⟨g, 0, none⟩) L.length cap) ⟨L.toArray⟩ := text_of L h

/-- A row of cells, one by one. -/
theorem own_cells {w : World} {base g n cap : Nat} {l : List Int} (h : w.ownsRow base 5 1 (.slice (some ⟨g, 0, none⟩) n cap) n (u8s l)) : ∀ j (hj : j < l.length), w.cell? ⟨g, 0 + j, none⟩ = some (.int .u8 l[j]) := by
  intro j hj
  have hl : (u8s l).length = n * 1 := h.1
  rw [show (u8s l).length = l.length from List.length_map _] at hl
  rw [Nat.zero_add, h.cellAt j (by omega)]
  unfold u8s
  simp [hj]

/-- One field is packed. -/
theorem pack_one (f : Fd) (l : List Int) (W : World) (b : Nat) (hI : IsB W b f.cs 34) (hP : PackOf W f l) (hl : l.length ≤ 1099511627776) :
    Calls Tryd.prog 10 #[.slice (some ⟨b, 0, none⟩) 1 1] W fun e w' => ∃ g, W.heap.size ≤ g ∧ e = .returned (.tuple #[.slice (some ⟨g, 0, none⟩) l.length l.length, .int .i64 0]) ∧ w'.ownsRow W.heap.size 5 1 (.slice (some ⟨g, 0, none⟩) l.length l.length) l.length (u8s l) ∧ RowKit.Below W.heap.size W w' := by
  have ha : allOf [(f, l)] = l := by simp [allOf]
  have := pack_any b 0 1 [(f, l)] W (fun i p hp => by
    match i, hp with
    | 0, hp =>
      cases hp
      refine ⟨hP, fun j _ => ?_⟩
      rw [Nat.zero_mul, Nat.add_zero, Nat.zero_add]
      exact hI.cell j) (by simp) (by rw [ha]; exact hl)
  rw [ha] at this
  exact this

theorem encs_one (v : FV) : encs [v] = v.enc := by simp [encs]
/-- What is read where one field is. -/
theorem readTo_one {w w' : World} {v : FV} {fa : Option Addr} {fc : Nat} (h : ReadTo w w' [v] fa fc) : ∃ g f, fa = some ⟨g, 0, none⟩ ∧ w.heap.size ≤ g ∧ w'.ownsRow w.heap.size 34 14 (.slice (some ⟨g, 0, none⟩) 1 fc) 1 f.cs.toList ∧ v.At w' w.heap.size f ∧ RowKit.Below w.heap.size w w' := by
  obtain ⟨fs, h1, h2, h3, h4⟩ := h
  obtain ⟨f, rfl⟩ := List.length_eq_one_iff.1 (show fs.length = 1 from h1)
  have e : cellsOf [f] = f.cs.toList := by simp [cellsOf]
  rw [e] at h2
  have h2' : w'.ownsRow w.heap.size 34 14 (.slice fa 1 fc) 1 f.cs.toList := h2
  obtain ⟨g, cap, he, hg, _⟩ := h2'.form (by omega)
  simp only [Value.slice.injEq] at he
  obtain ⟨rfl, -, rfl⟩ := he
  exact ⟨g, f, rfl, hg, h2', h3 0 v f rfl rfl, h4⟩
/-- One field is read. -/
theorem unpack_one (v : FV) (hv : Reads v) (b cap kb kc : Nat) (w : World) (hR : Ranks w) (hb : b < w.heap.size) (hcap : v.enc.length ≤ cap) (hcap2 : cap ≤ 100000000)
    (hC : ∀ j (hj : j < v.enc.length), w.cell? ⟨b, 0 + j, none⟩ = some (.int .u8 v.enc[j])) (hK : w.cell? ⟨kb, 0, none⟩ = some (.int .i64 v.kind)) :
    Calls Tryd.prog 19 #[.slice (some ⟨b, 0, none⟩) v.enc.length cap, .slice (some ⟨kb, 0, none⟩) 1 kc] w fun e w' => ∃ g fc f, e = .returned (.tuple #[.slice (some ⟨g, 0, none⟩) 1 fc, .int .i64 0, .int .i64 0]) ∧ w.heap.size ≤ g ∧ w'.ownsRow w.heap.size 34 14 (.slice (some ⟨g, 0, none⟩) 1 fc) 1 f.cs.toList ∧ v.At w' w.heap.size f ∧ RowKit.Below w.heap.size w w' := by
  have := unpack_ok [v] (fun u hu => by rw [List.mem_singleton.1 hu]; exact hv) (by simp) b 0 cap kb 0 kc w hR hb (by rw [encs_one]; exact hcap) hcap2 (by rw [encs_one]; exact hC) (fun j u hu => by
    match j, hu with
    | 0, hu => cases hu; exact hK)
  rw [encs_one] at this
  refine this.mono ?_
  rintro e w' ⟨fa, fc, rfl, h⟩
  obtain ⟨g, f, rfl, h1, h2, h3, h4⟩ := readTo_one h
  exact ⟨g, fc, f, rfl, h1, h2, h3, h4⟩

end Go.Proofs.YtmhcmlegdoapdaaDoor
