/- graph.Lists of members that make a graph. -/
import Derived.Test.YtfcmmchppcffmaaDoorLKF
import Derived.Test.YtfcmmchppcffmaaDoorGK
namespace Go.Proofs.YtfcmmchppcffmaaDoor
open Go.RowKit Go.Maps

set_option maxHeartbeats 4000000 in
set_option maxRecDepth 100000 in
theorem glists_ok (h : Int) (v : Value) (l : List Rf) (hl : l.length ≤ 1000) (hbt : ∀ r ∈ l, 0 ≤ r.bt) (hg : okG h l) (m : List Rf) (hp : m.Perm l) (hso : m.Pairwise keyLt) (w : World) (hs : RSl w v l) :
    Calls Tryd.prog 7 #[.int .i64 h, v] w fun e w' => ∃ v2 As, e = .returned (.tuple #[v2, .int .i64 0]) ∧ LsRow w' v2 m As ∧ Nms (h.toNat + 1) m (As.map (·.1.1)) ∧ Below w.heap.size w w' := by
  have HOK := hide (perm_ok hg hbt hp)
  have HG := hide hg
  have hml : m.length ≤ 1000 := by rw [hp.length_eq]; exact hl
  have H0 : Hid (0 ≤ h) := hg.1.1
  have H1 : Hid (h ≤ 32) := hg.1.2
  have BU := hide (build_any h v l hl hbt _ hs)
  clear hs
  go_enter Tryd.func7, Tryd.ntmps7
  go_wp2_with fail
  refine BU.out.mono ?_
  rintro e w2 ⟨(⟨-, a, c, m', rfl, hp', hso', hrw, hnew⟩ | ⟨h9, -⟩), hb⟩
  rotate_left
  · exact absurd HG.out h9
  obtain rfl : m' = m := sorted_one hp' hp hso' hso
  have R2 := hide hrw.rsl
  have B := hide hb
  clear hb hrw hnew hp' hso' BU
  unfold gcs
  have GBn := hide (IsB.new w2 #[.int .i64 h, .int .i64 0, .int .i64 1, .int .u64 0, .int .i64 h, .int .u64 0, .int .i64 1, .int .i64 3, .int .u64 0, .int .i64 h, .int .u64 0, .slice a m'.length c] 55)
  have b4 := (Below.refl w2.heap.size w2).alloc (Nat.le_refl _) (.cells #[.int .i64 h, .int .i64 0, .int .i64 1, .int .u64 0, .int .i64 h, .int .u64 0, .int .i64 1, .int .i64 3, .int .u64 0, .int .i64 h, .int .u64 0, .slice a m'.length c] 55)
  replace R2 := hide (R2.out.below b4)
  replace B := hide (B.out.trans (b4.mono B.out.size))
  clear b4
  have LA := hide (lists_any h a c m' hml HOK.out H1.out H0.out _ R2.out)
  have LD := hide (load_gr GBn.out rfl)
  have LA2 : Hid (Calls Tryd.prog 18 #[.agg #[.int .i64 h, .int .i64 0, .int .i64 1, .int .u64 0, .int .i64 h, .int .u64 0, .int .i64 1, .int .i64 3, .int .u64 0, .int .i64 h, .int .u64 0, .slice a m'.length c]] (w2.alloc (.cells #[.int .i64 h, .int .i64 0, .int .i64 1, .int .u64 0, .int .i64 h, .int .u64 0, .int .i64 1, .int .i64 3, .int .u64 0, .int .i64 h, .int .u64 0, .slice a m'.length c] 55)) fun e w' => ∃ v As, e = .returned v ∧ LsRow w' v m' As ∧ Nms (h.toNat + 1) m' (As.map (·.1.1)) ∧ (∀ i j (hj : j < As.length) (hij : i < j), ltOf cfX As[j] As[i] = false) ∧ Below (w2.alloc (.cells #[.int .i64 h, .int .i64 0, .int .i64 1, .int .u64 0, .int .i64 h, .int .u64 0, .int .i64 1, .int .i64 3, .int .u64 0, .int .i64 h, .int .u64 0, .slice a m'.length c] 55)).heap.size (w2.alloc (.cells #[.int .i64 h, .int .i64 0, .int .i64 1, .int .u64 0, .int .i64 h, .int .u64 0, .int .i64 1, .int .i64 3, .int .u64 0, .int .i64 h, .int .u64 0, .slice a m'.length c] 55)) w') := LA.out
  clear LA
  generalize hn : m'.length = n at *
  replace hn := hide hn
  go_wp2_with (first | (focus ((with_reducible refine wpList_load_w ?_ 55 (.tmp 6) ?_ ?_ LD.out ?_); rotate_left; rfl; rfl; rotate_left; rfl)) | fail)
  generalize (w2.alloc (.cells #[.int .i64 h, .int .i64 0, .int .i64 1, .int .u64 0, .int .i64 h, .int .u64 0, .int .i64 1, .int .i64 3, .int .u64 0, .int .i64 h, .int .u64 0, .slice a n c] 55)) = W3 at *
  refine LA2.out.mono ?_
  rintro e w4 ⟨v2, As, rfl, h1, h2, -, h4⟩
  have X := hide h1
  have Y := hide h2
  have Z := hide (B.out.trans (h4.mono B.out.size))
  clear h1 h2 h4 LA2
  go_wp2
  go_ret2
  exact ⟨v2, As, rfl, X.out, Y.out, Z.out⟩

end Go.Proofs.YtfcmmchppcffmaaDoor
