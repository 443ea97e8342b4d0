/- PackOwn, walked. -/
import Derived.Test.YtjjjpainmldfnaaDoorRA
import Derived.Laws.AppendOwnNone
import Derived.OpenShut
namespace Go.Proofs.YtjjjpainmldfnaaDoor
open Go.RowKit

theorem news_u8 {w w' : World} {ad : Addr} {L : List UInt8} (h : ∀ j (hj : j < L.length), w.cell? (ad.add j) = some (.int .u8 (L[j].toNat : Int))) (hg : Gr w w') : ∀ j u, (u8s (ints L))[j]? = some u → w'.cell? (ad.add j) = some u := by
  intro j u hu
  unfold u8s ints at hu
  rw [List.map_map, List.getElem?_map] at hu
  obtain ⟨x, hx, rfl⟩ := Option.map_eq_some_iff.1 hu
  obtain ⟨hj, rfl⟩ := List.getElem?_eq_some_iff.1 hx
  exact hg.cell (lt_of_cell (h j hj)) (h j hj)
theorem txt_ad {w : World} {ad : Addr} {cap : Nat} (L : List UInt8) (h : ∀ j (hj : j < L.length), w.cell? (ad.add j) = some (.int .u8 (L[j].toNat : Int))) : Txt w (.slice (some ad) L.length cap) ⟨L.toArray⟩ := fun w' hb => by
  refine run_convert_bytes_back (P := Tryd.prog) w' 25 9 5 ad cap L Tryd.underlying25 Tryd.underlying5 Tryd.underlying9 (fun j hj => ?_)
  rw [← h j hj]
  exact hb.cell (by exact lt_of_cell (h j hj))
theorem u8_one (l : List Int) : ∀ u ∈ u8s l, u.oneCell' = true := by intro u hu; simp [u8s] at hu; obtain ⟨_, _, rfl⟩ := hu; rfl
theorem own_not_nil {w : World} {base : Nat} {v : Value} {n : Nat} {xs : List Value} (ho : w.ownsRow base 5 1 v n xs) (hn : v ≠ .slice none 0 0) : ∃ g c, v = .slice (some ⟨g, 0, none⟩) n c ∧ base ≤ g ∧ g < w.heap.size := by
  rcases ho.2 with ⟨h, _⟩ | ⟨g, c, cur, rfl, hg, hrest⟩
  · exact absurd h hn
  · exact ⟨g, c, rfl, ho.lt g rfl⟩
/-- Bytes behind an empty slice that is not nil. -/
theorem append_b {w : World} {ops : Array Oper} {rest : List Oper} {o : Oper} {a : Act} {Q : Exit → Act → World → Prop} (hgd : o.guard = none) (s x : Operand)
    (ho : o.op = .call { callee := .builtin .append, args := #[s, x], argTypes := #[25, 25] })
    (base g0 : Nat) (hs : a.eval s = .slice (some ⟨g0, 0, none⟩) 0 0) (hown : w.ownsRow base 5 1 (.slice (some ⟨g0, 0, none⟩) 0 0) 0 [])
    (ad : Addr) (m c : Nat) (l : List Int) (hx : a.eval x = .slice (some ad) m c) (hl : l.length = m) (hnews : ∀ j u, (u8s l)[j]? = some u → w.cell? (ad.add j) = some u)
    (hm : m ≤ 70000) (hbase : base ≤ w.heap.size)
    (h : ∀ g c w', w'.ownsRow base 5 1 (.slice (some ⟨g, 0, none⟩) m c) m (u8s l) → w.grownBy w' (some g0) → wpList Tryd.prog ops Q rest (a.put o.dst (.slice (some ⟨g, 0, none⟩) m c)) w') : wpList Tryd.prog ops Q (o :: rest) a w := by
  obtain ⟨i0, hi, hz0, hz1, hz2⟩ := info_parts Tryd.infoU8
  refine wpList_append_own _ hgd s x 25 ho base 5 i0 (.int .u8 0) 1 1 Tryd.underlying25 hi hz0 hz1 hz2 rfl (by decide) _ _ _ hs hown ad m c (u8s l) hx (by unfold u8s; rw [List.length_map]; omega) hnews (u8_one l) (by unfold maxLen; omega) (by omega) hbase ?_
  intro v' w4 hown4 hgrow4 hnil4
  obtain ⟨gb, cb, rfl, _, _⟩ := own_not_nil hown4 (fun h => by have h2 := (hnil4.1 h).1; cases h2)
  rw [Nat.zero_add, List.nil_append] at hown4
  rw [Nat.zero_add]
  exact h gb cb w4 hown4 hgrow4

theorem append_b_nil {w : World} {ops : Array Oper} {rest : List Oper} {o : Oper} {a : Act} {Q : Exit → Act → World → Prop} (hgd : o.guard = none) (s x : Operand)
    (ho : o.op = .call { callee := .builtin .append, args := #[s, x], argTypes := #[25, 25] })
    (base g0 : Nat) (hs : a.eval s = .slice (some ⟨g0, 0, none⟩) 0 0) (hown : w.ownsRow base 5 1 (.slice (some ⟨g0, 0, none⟩) 0 0) 0 []) (hx : a.eval x = .slice none 0 0) (L : List UInt8) (hL : L.length = 0)
    (h : ∀ g c w', w'.ownsRow base 5 1 (.slice (some ⟨g, 0, none⟩) 0 c) 0 (u8s (ints L)) → w.grownBy w' (some g0) → wpList Tryd.prog ops Q rest (a.put o.dst (.slice (some ⟨g, 0, none⟩) 0 c)) w') : wpList Tryd.prog ops Q (o :: rest) a w := by
  obtain ⟨i0, hi, hz0, hz1, hz2⟩ := info_parts Tryd.infoU8
  obtain rfl : L = [] := List.length_eq_zero_iff.1 hL
  exact wpList_append_own_none hgd s x 25 ho base 5 i0 1 Tryd.underlying25 hi _ _ _ hs hown hx (h g0 0 w hown ⟨rfl, rfl, rfl, Nat.le_refl _, fun _ _ _ => rfl⟩)

/-- A row of bytes of which one is turned. -/
theorem own_set {w : World} {base g n cap : Nat} {l : List Int} (h : w.ownsRow base 5 1 (.slice (some ⟨g, 0, none⟩) n cap) n (u8s l)) (j : Nat) (y : Int) : (w.setCell ⟨g, j, none⟩ (.int .u8 y)).ownsRow base 5 1 (.slice (some ⟨g, 0, none⟩) n cap) n (u8s (l.set j y)) := by
  have h2 := (h.stored j (.int .u8 y)).1
  have e : (u8s l).set j (.int .u8 y) = u8s (l.set j y) := by unfold u8s; rw [List.map_set]
  rw [e] at h2
  exact h2
theorem txt_n {w : World} {base g cap n : Nat} {L : List UInt8} (hL : L.length = n) (h : w.ownsRow base 5 1 (.slice (some ⟨g, 0, none⟩) n cap) n (u8s (ints L))) : Txt w (.slice (some ⟨g, 0, none⟩) n cap) ⟨L.toArray⟩ := by
  subst hL; exact txt_own L h
theorem at_bytes {w : World} {base : Nat} {l : List Int} {f : Fd} (h : (FV.bytes l).At w base f) : ∃ g c, f = ⟨4, 0, 0, false, some ⟨g, 0, none⟩, l.length, c, 0, 0, 0, 0, 0, 0, 0, 0, 0⟩ ∧ w.ownsRow base 5 1 (.slice (some ⟨g, 0, none⟩) l.length c) l.length (u8s l) := by
  rcases h with ⟨hr, _⟩ | ⟨l', g, c, hr, rfl, ho⟩
  · cases hr
  · cases hr; exact ⟨g, c, rfl, ho⟩

set_option maxHeartbeats 8000000 in
set_option maxRecDepth 100000 in
theorem packOwn_small (ad : Addr) (cap n : Nat) (L : List UInt8) (hL : L.length = n) (hn : n ≤ 700) (w : World) (hR : Ranks w) (hC : ∀ j (hj : j < L.length), w.cell? (ad.add j) = some (.int .u8 (L[j].toNat : Int))) :
    Calls Tryd.prog 8 #[.slice (some ad) n cap] w fun e w' => e = .returned (.bool true) ∧ RowKit.Below w.heap.size w w' := by
  have mixed : Tryd.prog.follows .mixedOrders = true := by kernel_rfl
  have HTF := txt_ad (cap := cap) L hC
  rw [hL] at HTF
  replace HTF := hide HTF
  have hnews := news_u8 hC ((Gr.refl w).alloc (.cells #[] 5))
  have hown0 : (w.alloc (.cells #[] 5)).ownsRow w.heap.size 5 1 (.slice (some ⟨w.heap.size, 0, none⟩) 0 0) 0 [] := World.ownsRow_lit w #[] 0 (Nat.le_refl _) (by unfold maxLen; omega) rfl
  have HB := hide (show RowKit.Below w.heap.size w (w.alloc (.cells #[] 5)) from ((Gr.refl w).alloc _).below)
  have HR := hide hR
  have HLn := hide hL
  have hil : (ints L).length = n := by rw [ints_len]; exact hL
  clear hR hC hL
  go_enter Tryd.func8, Tryd.ntmps8
  go_wp2_with (at_builtin; refine append_b rfl (.tmp 16) (.tmp 17) rfl w.heap.size w.heap.size rfl hown0 ad n cap (ints L) rfl hil hnews (by omega) (by simp) ?_; intro gb cb w4 hown4 hgrow4)
  replace HB := hide (HB.out.grown hgrow4 HB.out.size (fun j hj => by cases hj; exact Nat.le_refl _))
  have hlt := hown4.lt gb rfl
  have HO := hide hown4
  clear hown4 hgrow4 hown0 hnews
  have HI := hide (IsB.new w4 #[.int .i64 4, .int .u64 0, .int .i64 0, .bool false, .slice (some ⟨gb, 0, none⟩) n cb, .int .i64 0, .int .u64 0, .int .i64 0, .int .u64 0, .int .i64 0, .int .i64 0, .int .u64 0, .int .i64 0, .int .u64 0] 34)
  have HG := hide (show Gr w4 (w4.alloc (.cells #[.int .i64 4, .int .u64 0, .int .i64 0, .bool false, .slice (some ⟨gb, 0, none⟩) n cb, .int .i64 0, .int .u64 0, .int .i64 0, .int .u64 0, .int .i64 0, .int .i64 0, .int .u64 0, .int .i64 0, .int .u64 0] 34)) from (Gr.refl w4).alloc _)
  generalize hU : w4.heap.size = U at HI ⊢
  generalize w4.alloc (.cells #[.int .i64 4, .int .u64 0, .int .i64 0, .bool false, .slice (some ⟨gb, 0, none⟩) n cb, .int .i64 0, .int .u64 0, .int .i64 0, .int .u64 0, .int .i64 0, .int .i64 0, .int .u64 0, .int .i64 0, .int .u64 0] 34) = W5 at HI HG ⊢
  have hgl5 := HG.out.le
  have HO5 := hide (HO.out.kept (grown_of_gr HG.out none) (Or.inr (by simp [Value.ownBlock])))
  have henc : (FV.bytes (ints L)).enc = nb n ++ ints L := by show nb (ints L).length ++ ints L = _; rw [hil]
  have hXl : (nb n ++ ints L).length ≤ 1000 := by rw [List.length_append, hil]; have := nb_len10 n (by omega); omega
  have hpk := hide (pack_one ⟨4, 0, 0, false, some ⟨gb, 0, none⟩, n, cb, 0, 0, 0, 0, 0, 0, 0, 0, 0⟩ (nb n ++ ints L) W5 U HI.out (packOf_bytes W5 gb 0 n cb (ints L) hil (by omega) (by omega) (own_cells HO5.out)) (by omega))
  have hup0 := unpack_one (.bytes (ints L)) (reads_bytes (ints L) (by omega))
  rw [henc] at hup0
  replace hup0 := hide hup0
  generalize nb n ++ ints L = X at hpk hup0 hXl
  clear HI henc
  refine hpk.out.mono ?_
  rintro e w6 ⟨g, hg, rfl, hownX, hb6⟩
  have hgX := hownX.lt g rfl
  have HB6 := hide (HB.out.trans ((HG.out.below.trans (hb6.mono HG.out.le)).mono HB.out.size))
  have HO6 := hide (HO5.out.kept (grown_of_below hb6 none) (Or.inr (by simp [Value.ownBlock])))
  have HX6 := hide hownX
  clear hpk hb6 hownX HO HO5
  have I7 := IsB.new w6 #[.int .i64 4] 23
  have HG7 := hide (show Gr w6 (w6.alloc (.cells #[.int .i64 4] 23)) from (Gr.refl w6).alloc _)
  have hup := hide (hup0.out g X.length w6.heap.size 1 (w6.alloc (.cells #[.int .i64 4] 23)) (HR.out.below (HB6.out.trans (HG7.out.below.mono HB6.out.size))) (by have := HG7.out.le; omega) (Nat.le_refl _) (by omega) (own_cells (HX6.out.alloc _)) (I7.cell 0))
  clear I7 hup0
  go_wp2_with fail
  generalize w6.alloc (.cells #[.int .i64 4] 23) = W7 at HG7 hup ⊢
  have hgl7 := HG7.out.le
  refine hup.out.mono ?_
  rintro e w8 ⟨gf, fc, f, rfl, hgf, hownF, hat, hb8⟩
  obtain ⟨gr, cr, hfe, hownR⟩ := at_bytes hat
  rw [hil] at hfe hownR
  subst hfe
  have hgF := hownF.lt gf rfl
  have hgR := hownR.lt gr rfl
  have HB8 := hide (HB6.out.trans ((HG7.out.below.trans (hb8.mono HG7.out.le)).mono HB6.out.size))
  have HO8 := hide ((HO6.out.kept (grown_of_gr HG7.out none) (Or.inr (by simp [Value.ownBlock]))).kept (grown_of_below hb8 none) (Or.inr (by simp [Value.ownBlock])))
  have HX8 := hide ((HX6.out.kept (grown_of_gr HG7.out none) (Or.inr (by simp [Value.ownBlock]))).kept (grown_of_below hb8 none) (Or.inr (by simp [Value.ownBlock])))
  have HF8 := hide hownF
  have HR8 := hide hownR
  have hs8 := hb8.size
  clear hup hownF hat hownR hb8 HO6 HX6 HG7 HG HB HB6
  obtain ⟨S, hS⟩ : ∃ S : ByteArray, S = ⟨L.toArray⟩ := ⟨_, rfl⟩
  have hcv1 : (convert 25 9 (.slice (some ⟨gb, 0, none⟩) n cb)).run Tryd.prog w8 = .ok (.string S) w8 := by rw [hS]; exact txt_n HLn.out HO8.out w8 (Below.refl _ _)
  have hcv2 : (convert 25 9 (.slice (some ad) n cap)).run Tryd.prog w8 = .ok (.string S) w8 := by rw [hS]; exact HTF.out w8 HB8.out
  have HS := hide hS
  have heq : (S.toList == S.toList) = true := by simp
  clear hS
  go_wp2
  go_loopw [9] (fun i wr => ∃ (k : Nat) (xs : List Int), k ≤ X.length ∧ xs.length = X.length ∧ i = .int .i64 (k : Int) ∧ wr.ownsRow W5.heap.size 5 1 (.slice (some ⟨g, 0, none⟩) X.length X.length) X.length (u8s xs) ∧ w8.grownBy wr (some g)) (fun i _ => X.length - (intOf i).toNat)
  case atStart => exact ⟨0, X, by omega, rfl, rfl, HX8.out, ⟨rfl, rfl, rfl, Nat.le_refl _, fun _ _ _ => rfl⟩⟩
  case round =>
    obtain ⟨k, xs, hk, hxs, rfl, hown, hgr⟩ := hrel
    clear hcv1 hcv2
    by_cases hlt2 : k < X.length
    · have hc : wr.cell? ⟨g, k, none⟩ = some (.int .u8 (xs[k]'(by omega))) := by have := own_cells hown k (by omega); rw [Nat.zero_add] at this; exact this
      have hfz := hown.frozenAt k
      have HOW := hide hown
      have HGR := hide hgr
      clear hown hgr
      generalize xs[k]'(by omega) = c at hc
      go_wp2
      go_roundw
      case rel => exact ⟨k + 1, _, by omega, by rw [List.length_set]; exact hxs, by go_num, own_set HOW.out k _, grown_trans HGR.out (grown_set _ _ _ _)⟩
      case measure => simp [intOf]; omega
    · obtain rfl : k = X.length := by omega
      have HO9 := hide (HO8.out.kept hgr (Or.inr (by simp only [Value.ownBlock, ne_eq, Option.some.injEq]; omega)))
      have HF9 := hide (HF8.out.kept hgr (Or.inr (by simp only [Value.ownBlock, ne_eq, Option.some.injEq]; omega)))
      have HR9 := hide (HR8.out.kept hgr (Or.inr (by simp only [Value.ownBlock, ne_eq, Option.some.injEq]; omega)))
      have HB9 := hide (grown_below HB8.out hgr (by omega))
      clear HO8 HF8 HR8 HB8 hown hgr HX8
      obtain ⟨w9, rfl⟩ : ∃ w9, w9 = wr := ⟨_, rfl⟩
      go_wp2
      go_loopw [10] (fun i wr => ∃ (k : Nat) (xs : List Int), k ≤ n ∧ xs.length = n ∧ i = .int .i64 (k : Int) ∧ wr.ownsRow w.heap.size 5 1 (.slice (some ⟨gb, 0, none⟩) n cb) n (u8s xs) ∧ w9.grownBy wr (some gb)) (fun i _ => n - (intOf i).toNat)
      case atStart => exact ⟨0, _, by omega, hil, rfl, HO9.out, ⟨rfl, rfl, rfl, Nat.le_refl _, fun _ _ _ => rfl⟩⟩
      case round =>
        obtain ⟨k, xs, hk, hxs, rfl, hown, hgr⟩ := hrel
        by_cases hlt3 : k < n
        · have hc : wr.cell? ⟨gb, k, none⟩ = some (.int .u8 (xs[k]'(by omega))) := by have := own_cells hown k (by omega); rw [Nat.zero_add] at this; exact this
          have hfz := hown.frozenAt k
          have HOW := hide hown
          have HGR := hide hgr
          clear hown hgr
          generalize xs[k]'(by omega) = c at hc
          go_wp2
          go_roundw
          case rel => exact ⟨k + 1, _, by omega, by rw [List.length_set]; exact hxs, by go_num, own_set HOW.out k _, grown_trans HGR.out (grown_set _ _ _ _)⟩
          case measure => simp [intOf]; omega
        · obtain rfl : n = k := by omega
          have hF := HF9.out.kept hgr (Or.inr (by simp only [Value.ownBlock, ne_eq, Option.some.injEq]; omega))
          have hRw := HR9.out.kept hgr (Or.inr (by simp only [Value.ownBlock, ne_eq, Option.some.injEq]; omega))
          have HB10 := hide (grown_below HB9.out hgr (by omega))
          have c4 : ∀ p : Bel wr, p.v.cell? ⟨gf, 4, none⟩ = some (.slice (some ⟨gr, 0, none⟩) n cr) := bel_cell (by rw [hF.cellAt 4 (by omega)]; rfl)
          have x1 : ∀ p : Bel wr, (convert 25 9 (.slice (some ⟨gr, 0, none⟩) n cr)).run Tryd.prog p.v = .ok (.string S) p.v := fun p => by rw [HS.out]; exact txt_n HLn.out hRw p.v p.h
          have x2 : ∀ p : Bel wr, (convert 25 9 (.slice (some ad) n cap)).run Tryd.prog p.v = .ok (.string S) p.v := fun p => by rw [HS.out]; exact HTF.out p.v (HB10.out.trans (p.h.mono HB10.out.size))
          have HRW := hide (show ∀ p : Bel wr, Ranks p.v from fun p => (HR.out.below HB10.out).below p.h)
          clear HO9 HF9 HR9 HB9 hown hgr hF hRw HS HTF
          go_wp2
          haveI : Inhabited (Bel wr) := ⟨⟨wr, Below.refl _ _⟩⟩
          refine wp_region_bel (by assumption) (by kernel_rfl) ?_
          repeat (quiet_step ((go_at_call 18; exact bel_of _ (alive_any _ (HRW.out _)))))
          refine wpQuiet_nil ?_
          intro _ hw'
          obtain ⟨p, rfl⟩ := hw'
          go_wp2
          go_ret
          exact ⟨rfl, HB10.out.trans (p.h.mono HB10.out.size)⟩

set_option maxHeartbeats 8000000 in
set_option maxRecDepth 100000 in
theorem packOwn_big (b o cap len : Nat) (L : List UInt8) (hL : L.length = 700) (hlen : 700 < len) (hcap : len ≤ cap) (w : World) (hR : Ranks w) (hC : ∀ j (hj : j < L.length), w.cell? ((⟨b, o, none⟩ : Addr).add j) = some (.int .u8 (L[j].toNat : Int))) :
    Calls Tryd.prog 8 #[.slice (some ⟨b, o, none⟩) len cap] w fun e w' => e = .returned (.bool true) ∧ RowKit.Below w.heap.size w w' := by
  have mixed : Tryd.prog.follows .mixedOrders = true := by kernel_rfl
  have HTF := txt_ad (cap := cap) L hC
  rw [hL] at HTF
  replace HTF := hide HTF
  have hnews := news_u8 hC ((Gr.refl w).alloc (.cells #[] 5))
  have hown0 : (w.alloc (.cells #[] 5)).ownsRow w.heap.size 5 1 (.slice (some ⟨w.heap.size, 0, none⟩) 0 0) 0 [] := World.ownsRow_lit w #[] 0 (Nat.le_refl _) (by unfold maxLen; omega) rfl
  have HB := hide (show RowKit.Below w.heap.size w (w.alloc (.cells #[] 5)) from ((Gr.refl w).alloc _).below)
  have HR := hide hR
  have HLn := hide hL
  have hil : (ints L).length = 700 := by rw [ints_len]; exact hL
  clear hR hC hL
  go_enter Tryd.func8, Tryd.ntmps8
  go_wp2_with (at_builtin; refine append_b rfl (.tmp 16) (.tmp 17) rfl w.heap.size w.heap.size rfl hown0 ⟨b, o, none⟩ 700 cap (ints L) rfl hil hnews (by omega) (by simp) ?_; intro gb cb w4 hown4 hgrow4)
  replace HB := hide (HB.out.grown hgrow4 HB.out.size (fun j hj => by cases hj; exact Nat.le_refl _))
  have hlt := hown4.lt gb rfl
  have HO := hide hown4
  clear hown4 hgrow4 hown0 hnews
  have HI := hide (IsB.new w4 #[.int .i64 4, .int .u64 0, .int .i64 0, .bool false, .slice (some ⟨gb, 0, none⟩) 700 cb, .int .i64 0, .int .u64 0, .int .i64 0, .int .u64 0, .int .i64 0, .int .i64 0, .int .u64 0, .int .i64 0, .int .u64 0] 34)
  have HG := hide (show Gr w4 (w4.alloc (.cells #[.int .i64 4, .int .u64 0, .int .i64 0, .bool false, .slice (some ⟨gb, 0, none⟩) 700 cb, .int .i64 0, .int .u64 0, .int .i64 0, .int .u64 0, .int .i64 0, .int .i64 0, .int .u64 0, .int .i64 0, .int .u64 0] 34)) from (Gr.refl w4).alloc _)
  generalize hU : w4.heap.size = U at HI ⊢
  generalize w4.alloc (.cells #[.int .i64 4, .int .u64 0, .int .i64 0, .bool false, .slice (some ⟨gb, 0, none⟩) 700 cb, .int .i64 0, .int .u64 0, .int .i64 0, .int .u64 0, .int .i64 0, .int .i64 0, .int .u64 0, .int .i64 0, .int .u64 0] 34) = W5 at HI HG ⊢
  have hgl5 := HG.out.le
  have HO5 := hide (HO.out.kept (grown_of_gr HG.out none) (Or.inr (by simp [Value.ownBlock])))
  have henc : (FV.bytes (ints L)).enc = nb 700 ++ ints L := by show nb (ints L).length ++ ints L = _; rw [hil]
  have hXl : (nb 700 ++ ints L).length ≤ 1000 := by rw [List.length_append, hil]; have := nb_len10 700 (by omega); omega
  have hpk := hide (pack_one ⟨4, 0, 0, false, some ⟨gb, 0, none⟩, 700, cb, 0, 0, 0, 0, 0, 0, 0, 0, 0⟩ (nb 700 ++ ints L) W5 U HI.out (packOf_bytes W5 gb 0 700 cb (ints L) hil (by omega) (by omega) (own_cells HO5.out)) (by omega))
  have hup0 := unpack_one (.bytes (ints L)) (reads_bytes (ints L) (by omega))
  rw [henc] at hup0
  replace hup0 := hide hup0
  generalize nb 700 ++ ints L = X at hpk hup0 hXl
  clear HI henc
  refine hpk.out.mono ?_
  rintro e w6 ⟨g, hg, rfl, hownX, hb6⟩
  have hgX := hownX.lt g rfl
  have HB6 := hide (HB.out.trans ((HG.out.below.trans (hb6.mono HG.out.le)).mono HB.out.size))
  have HO6 := hide (HO5.out.kept (grown_of_below hb6 none) (Or.inr (by simp [Value.ownBlock])))
  have HX6 := hide hownX
  clear hpk hb6 hownX HO HO5
  have I7 := IsB.new w6 #[.int .i64 4] 23
  have HG7 := hide (show Gr w6 (w6.alloc (.cells #[.int .i64 4] 23)) from (Gr.refl w6).alloc _)
  have hup := hide (hup0.out g X.length w6.heap.size 1 (w6.alloc (.cells #[.int .i64 4] 23)) (HR.out.below (HB6.out.trans (HG7.out.below.mono HB6.out.size))) (by have := HG7.out.le; omega) (Nat.le_refl _) (by omega) (own_cells (HX6.out.alloc _)) (I7.cell 0))
  clear I7 hup0
  go_wp2_with fail
  generalize w6.alloc (.cells #[.int .i64 4] 23) = W7 at HG7 hup ⊢
  have hgl7 := HG7.out.le
  refine hup.out.mono ?_
  rintro e w8 ⟨gf, fc, f, rfl, hgf, hownF, hat, hb8⟩
  obtain ⟨gr, cr, hfe, hownR⟩ := at_bytes hat
  rw [hil] at hfe hownR
  subst hfe
  have hgF := hownF.lt gf rfl
  have hgR := hownR.lt gr rfl
  have HB8 := hide (HB6.out.trans ((HG7.out.below.trans (hb8.mono HG7.out.le)).mono HB6.out.size))
  have HO8 := hide ((HO6.out.kept (grown_of_gr HG7.out none) (Or.inr (by simp [Value.ownBlock]))).kept (grown_of_below hb8 none) (Or.inr (by simp [Value.ownBlock])))
  have HX8 := hide ((HX6.out.kept (grown_of_gr HG7.out none) (Or.inr (by simp [Value.ownBlock]))).kept (grown_of_below hb8 none) (Or.inr (by simp [Value.ownBlock])))
  have HF8 := hide hownF
  have HR8 := hide hownR
  have hs8 := hb8.size
  clear hup hownF hat hownR hb8 HO6 HX6 HG7 HG HB HB6
  obtain ⟨S, hS⟩ : ∃ S : ByteArray, S = ⟨L.toArray⟩ := ⟨_, rfl⟩
  have hcv1 : (convert 25 9 (.slice (some ⟨gb, 0, none⟩) 700 cb)).run Tryd.prog w8 = .ok (.string S) w8 := by rw [hS]; exact txt_n HLn.out HO8.out w8 (Below.refl _ _)
  have hcv2 : (convert 25 9 (.slice (some ⟨b, o, none⟩) 700 cap)).run Tryd.prog w8 = .ok (.string S) w8 := by rw [hS]; exact HTF.out w8 HB8.out
  have HS := hide hS
  have heq : (S.toList == S.toList) = true := by simp
  clear hS
  go_wp2
  go_loopw [9] (fun i wr => ∃ (k : Nat) (xs : List Int), k ≤ X.length ∧ xs.length = X.length ∧ i = .int .i64 (k : Int) ∧ wr.ownsRow W5.heap.size 5 1 (.slice (some ⟨g, 0, none⟩) X.length X.length) X.length (u8s xs) ∧ w8.grownBy wr (some g)) (fun i _ => X.length - (intOf i).toNat)
  case atStart => exact ⟨0, X, by omega, rfl, rfl, HX8.out, ⟨rfl, rfl, rfl, Nat.le_refl _, fun _ _ _ => rfl⟩⟩
  case round =>
    obtain ⟨k, xs, hk, hxs, rfl, hown, hgr⟩ := hrel
    clear hcv1 hcv2
    by_cases hlt2 : k < X.length
    · have hc : wr.cell? ⟨g, k, none⟩ = some (.int .u8 (xs[k]'(by omega))) := by have := own_cells hown k (by omega); rw [Nat.zero_add] at this; exact this
      have hfz := hown.frozenAt k
      have HOW := hide hown
      have HGR := hide hgr
      clear hown hgr
      generalize xs[k]'(by omega) = c at hc
      go_wp2
      go_roundw
      case rel => exact ⟨k + 1, _, by omega, by rw [List.length_set]; exact hxs, by go_num, own_set HOW.out k _, grown_trans HGR.out (grown_set _ _ _ _)⟩
      case measure => simp [intOf]; omega
    · obtain rfl : k = X.length := by omega
      have HO9 := hide (HO8.out.kept hgr (Or.inr (by simp only [Value.ownBlock, ne_eq, Option.some.injEq]; omega)))
      have HF9 := hide (HF8.out.kept hgr (Or.inr (by simp only [Value.ownBlock, ne_eq, Option.some.injEq]; omega)))
      have HR9 := hide (HR8.out.kept hgr (Or.inr (by simp only [Value.ownBlock, ne_eq, Option.some.injEq]; omega)))
      have HB9 := hide (grown_below HB8.out hgr (by omega))
      clear HO8 HF8 HR8 HB8 hown hgr HX8
      obtain ⟨w9, rfl⟩ : ∃ w9, w9 = wr := ⟨_, rfl⟩
      go_wp2
      go_loopw [10] (fun i wr => ∃ (k : Nat) (xs : List Int), k ≤ 700 ∧ xs.length = 700 ∧ i = .int .i64 (k : Int) ∧ wr.ownsRow w.heap.size 5 1 (.slice (some ⟨gb, 0, none⟩) 700 cb) 700 (u8s xs) ∧ w9.grownBy wr (some gb)) (fun i _ => 700 - (intOf i).toNat)
      case atStart => exact ⟨0, _, by omega, hil, rfl, HO9.out, ⟨rfl, rfl, rfl, Nat.le_refl _, fun _ _ _ => rfl⟩⟩
      case round =>
        obtain ⟨k, xs, hk, hxs, rfl, hown, hgr⟩ := hrel
        by_cases hlt3 : k < 700
        · have hc : wr.cell? ⟨gb, k, none⟩ = some (.int .u8 (xs[k]'(by omega))) := by have := own_cells hown k (by omega); rw [Nat.zero_add] at this; exact this
          have hfz := hown.frozenAt k
          have HOW := hide hown
          have HGR := hide hgr
          clear hown hgr
          generalize xs[k]'(by omega) = c at hc
          go_wp2
          go_roundw
          case rel => exact ⟨k + 1, _, by omega, by rw [List.length_set]; exact hxs, by go_num, own_set HOW.out k _, grown_trans HGR.out (grown_set _ _ _ _)⟩
          case measure => simp [intOf]; omega
        · obtain rfl : 700 = k := by omega
          have hF := HF9.out.kept hgr (Or.inr (by simp only [Value.ownBlock, ne_eq, Option.some.injEq]; omega))
          have hRw := HR9.out.kept hgr (Or.inr (by simp only [Value.ownBlock, ne_eq, Option.some.injEq]; omega))
          have HB10 := hide (grown_below HB9.out hgr (by omega))
          have c4 : ∀ p : Bel wr, p.v.cell? ⟨gf, 4, none⟩ = some (.slice (some ⟨gr, 0, none⟩) 700 cr) := bel_cell (by rw [hF.cellAt 4 (by omega)]; rfl)
          have x1 : ∀ p : Bel wr, (convert 25 9 (.slice (some ⟨gr, 0, none⟩) 700 cr)).run Tryd.prog p.v = .ok (.string S) p.v := fun p => by rw [HS.out]; exact txt_n HLn.out hRw p.v p.h
          have x2 : ∀ p : Bel wr, (convert 25 9 (.slice (some ⟨b, o, none⟩) 700 cap)).run Tryd.prog p.v = .ok (.string S) p.v := fun p => by rw [HS.out]; exact HTF.out p.v (HB10.out.trans (p.h.mono HB10.out.size))
          have HRW := hide (show ∀ p : Bel wr, Ranks p.v from fun p => (HR.out.below HB10.out).below p.h)
          clear HO9 HF9 HR9 HB9 hown hgr hF hRw HS HTF
          go_wp2
          haveI : Inhabited (Bel wr) := ⟨⟨wr, Below.refl _ _⟩⟩
          refine wp_region_bel (by assumption) (by kernel_rfl) ?_
          repeat (quiet_step ((go_at_call 18; exact bel_of _ (alive_any _ (HRW.out _)))))
          refine wpQuiet_nil ?_
          intro _ hw'
          obtain ⟨p, rfl⟩ := hw'
          go_wp2
          go_ret
          exact ⟨rfl, HB10.out.trans (p.h.mono HB10.out.size)⟩

set_option maxHeartbeats 8000000 in
set_option maxRecDepth 100000 in
theorem packOwn_nil (L : List UInt8) (hL : L.length = 0) (w : World) (hR : Ranks w) (hT : Txt w (.slice none 0 0) ⟨L.toArray⟩) :
    Calls Tryd.prog 8 #[.slice none 0 0] w fun e w' => e = .returned (.bool true) ∧ RowKit.Below w.heap.size w w' := by
  have mixed : Tryd.prog.follows .mixedOrders = true := by kernel_rfl
  have HTF := hide hT
  have hown0 : (w.alloc (.cells #[] 5)).ownsRow w.heap.size 5 1 (.slice (some ⟨w.heap.size, 0, none⟩) 0 0) 0 [] := World.ownsRow_lit w #[] 0 (Nat.le_refl _) (by unfold maxLen; omega) rfl
  have HB := hide (show RowKit.Below w.heap.size w (w.alloc (.cells #[] 5)) from ((Gr.refl w).alloc _).below)
  have HR := hide hR
  have HLn := hide hL
  have hil : (ints L).length = 0 := by rw [ints_len]; exact hL
  clear hR hL hT
  go_enter Tryd.func8, Tryd.ntmps8
  go_wp2_with (at_builtin; refine append_b_nil rfl (.tmp 16) (.tmp 17) rfl w.heap.size w.heap.size rfl hown0 rfl L HLn.out ?_; intro gb cb w4 hown4 hgrow4)
  replace HB := hide (HB.out.grown hgrow4 HB.out.size (fun j hj => by cases hj; exact Nat.le_refl _))
  have hlt := hown4.lt gb rfl
  have HO := hide hown4
  clear hown4 hgrow4 hown0
  have HI := hide (IsB.new w4 #[.int .i64 4, .int .u64 0, .int .i64 0, .bool false, .slice (some ⟨gb, 0, none⟩) 0 cb, .int .i64 0, .int .u64 0, .int .i64 0, .int .u64 0, .int .i64 0, .int .i64 0, .int .u64 0, .int .i64 0, .int .u64 0] 34)
  have HG := hide (show Gr w4 (w4.alloc (.cells #[.int .i64 4, .int .u64 0, .int .i64 0, .bool false, .slice (some ⟨gb, 0, none⟩) 0 cb, .int .i64 0, .int .u64 0, .int .i64 0, .int .u64 0, .int .i64 0, .int .i64 0, .int .u64 0, .int .i64 0, .int .u64 0] 34)) from (Gr.refl w4).alloc _)
  generalize hU : w4.heap.size = U at HI ⊢
  generalize w4.alloc (.cells #[.int .i64 4, .int .u64 0, .int .i64 0, .bool false, .slice (some ⟨gb, 0, none⟩) 0 cb, .int .i64 0, .int .u64 0, .int .i64 0, .int .u64 0, .int .i64 0, .int .i64 0, .int .u64 0, .int .i64 0, .int .u64 0] 34) = W5 at HI HG ⊢
  have hgl5 := HG.out.le
  have HO5 := hide (HO.out.kept (grown_of_gr HG.out none) (Or.inr (by simp [Value.ownBlock])))
  have henc : (FV.bytes (ints L)).enc = nb 0 ++ ints L := by show nb (ints L).length ++ ints L = _; rw [hil]
  have hXl : (nb 0 ++ ints L).length ≤ 1000 := by rw [List.length_append, hil]; have := nb_len10 0 (by omega); omega
  have hpk := hide (pack_one ⟨4, 0, 0, false, some ⟨gb, 0, none⟩, 0, cb, 0, 0, 0, 0, 0, 0, 0, 0, 0⟩ (nb 0 ++ ints L) W5 U HI.out (packOf_bytes W5 gb 0 0 cb (ints L) hil (by omega) (by omega) (own_cells HO5.out)) (by omega))
  have hup0 := unpack_one (.bytes (ints L)) (reads_bytes (ints L) (by omega))
  rw [henc] at hup0
  replace hup0 := hide hup0
  generalize nb 0 ++ ints L = X at hpk hup0 hXl
  clear HI henc
  refine hpk.out.mono ?_
  rintro e w6 ⟨g, hg, rfl, hownX, hb6⟩
  have hgX := hownX.lt g rfl
  have HB6 := hide (HB.out.trans ((HG.out.below.trans (hb6.mono HG.out.le)).mono HB.out.size))
  have HO6 := hide (HO5.out.kept (grown_of_below hb6 none) (Or.inr (by simp [Value.ownBlock])))
  have HX6 := hide hownX
  clear hpk hb6 hownX HO HO5
  have I7 := IsB.new w6 #[.int .i64 4] 23
  have HG7 := hide (show Gr w6 (w6.alloc (.cells #[.int .i64 4] 23)) from (Gr.refl w6).alloc _)
  have hup := hide (hup0.out g X.length w6.heap.size 1 (w6.alloc (.cells #[.int .i64 4] 23)) (HR.out.below (HB6.out.trans (HG7.out.below.mono HB6.out.size))) (by have := HG7.out.le; omega) (Nat.le_refl _) (by omega) (own_cells (HX6.out.alloc _)) (I7.cell 0))
  clear I7 hup0
  go_wp2_with fail
  generalize w6.alloc (.cells #[.int .i64 4] 23) = W7 at HG7 hup ⊢
  have hgl7 := HG7.out.le
  refine hup.out.mono ?_
  rintro e w8 ⟨gf, fc, f, rfl, hgf, hownF, hat, hb8⟩
  obtain ⟨gr, cr, hfe, hownR⟩ := at_bytes hat
  rw [hil] at hfe hownR
  subst hfe
  have hgF := hownF.lt gf rfl
  have hgR := hownR.lt gr rfl
  have HB8 := hide (HB6.out.trans ((HG7.out.below.trans (hb8.mono HG7.out.le)).mono HB6.out.size))
  have HO8 := hide ((HO6.out.kept (grown_of_gr HG7.out none) (Or.inr (by simp [Value.ownBlock]))).kept (grown_of_below hb8 none) (Or.inr (by simp [Value.ownBlock])))
  have HX8 := hide ((HX6.out.kept (grown_of_gr HG7.out none) (Or.inr (by simp [Value.ownBlock]))).kept (grown_of_below hb8 none) (Or.inr (by simp [Value.ownBlock])))
  have HF8 := hide hownF
  have HR8 := hide hownR
  have hs8 := hb8.size
  clear hup hownF hat hownR hb8 HO6 HX6 HG7 HG HB HB6
  obtain ⟨S, hS⟩ : ∃ S : ByteArray, S = ⟨L.toArray⟩ := ⟨_, rfl⟩
  have hcv1 : (convert 25 9 (.slice (some ⟨gb, 0, none⟩) 0 cb)).run Tryd.prog w8 = .ok (.string S) w8 := by rw [hS]; exact txt_n HLn.out HO8.out w8 (Below.refl _ _)
  have hcv2 : (convert 25 9 (.slice none 0 0)).run Tryd.prog w8 = .ok (.string S) w8 := by rw [hS]; exact HTF.out w8 HB8.out
  have HS := hide hS
  have heq : (S.toList == S.toList) = true := by simp
  clear hS
  go_wp2
  go_loopw [9] (fun i wr => ∃ (k : Nat) (xs : List Int), k ≤ X.length ∧ xs.length = X.length ∧ i = .int .i64 (k : Int) ∧ wr.ownsRow W5.heap.size 5 1 (.slice (some ⟨g, 0, none⟩) X.length X.length) X.length (u8s xs) ∧ w8.grownBy wr (some g)) (fun i _ => X.length - (intOf i).toNat)
  case atStart => exact ⟨0, X, by omega, rfl, rfl, HX8.out, ⟨rfl, rfl, rfl, Nat.le_refl _, fun _ _ _ => rfl⟩⟩
  case round =>
    obtain ⟨k, xs, hk, hxs, rfl, hown, hgr⟩ := hrel
    clear hcv1 hcv2
    by_cases hlt2 : k < X.length
    · have hc : wr.cell? ⟨g, k, none⟩ = some (.int .u8 (xs[k]'(by omega))) := by have := own_cells hown k (by omega); rw [Nat.zero_add] at this; exact this
      have hfz := hown.frozenAt k
      have HOW := hide hown
      have HGR := hide hgr
      clear hown hgr
      generalize xs[k]'(by omega) = c at hc
      go_wp2
      go_roundw
      case rel => exact ⟨k + 1, _, by omega, by rw [List.length_set]; exact hxs, by go_num, own_set HOW.out k _, grown_trans HGR.out (grown_set _ _ _ _)⟩
      case measure => simp [intOf]; omega
    · obtain rfl : k = X.length := by omega
      have HO9 := hide (HO8.out.kept hgr (Or.inr (by simp only [Value.ownBlock, ne_eq, Option.some.injEq]; omega)))
      have HF9 := hide (HF8.out.kept hgr (Or.inr (by simp only [Value.ownBlock, ne_eq, Option.some.injEq]; omega)))
      have HR9 := hide (HR8.out.kept hgr (Or.inr (by simp only [Value.ownBlock, ne_eq, Option.some.injEq]; omega)))
      have HB9 := hide (grown_below HB8.out hgr (by omega))
      clear HO8 HF8 HR8 HB8 hown hgr HX8
      obtain ⟨w9, rfl⟩ : ∃ w9, w9 = wr := ⟨_, rfl⟩
      go_wp2
      go_loopw [10] (fun i wr => ∃ (k : Nat) (xs : List Int), k ≤ 0 ∧ xs.length = 0 ∧ i = .int .i64 (k : Int) ∧ wr.ownsRow w.heap.size 5 1 (.slice (some ⟨gb, 0, none⟩) 0 cb) 0 (u8s xs) ∧ w9.grownBy wr (some gb)) (fun i _ => 0 - (intOf i).toNat)
      case atStart => exact ⟨0, _, by omega, hil, rfl, HO9.out, ⟨rfl, rfl, rfl, Nat.le_refl _, fun _ _ _ => rfl⟩⟩
      case round =>
        obtain ⟨k, xs, hk, hxs, rfl, hown, hgr⟩ := hrel
        by_cases hlt3 : k < 0
        · exact absurd hlt3 (by omega)
        · obtain rfl : 0 = k := by omega
          have hF := HF9.out.kept hgr (Or.inr (by simp only [Value.ownBlock, ne_eq, Option.some.injEq]; omega))
          have hRw := HR9.out.kept hgr (Or.inr (by simp only [Value.ownBlock, ne_eq, Option.some.injEq]; omega))
          have HB10 := hide (grown_below HB9.out hgr (by omega))
          have c4 : ∀ p : Bel wr, p.v.cell? ⟨gf, 4, none⟩ = some (.slice (some ⟨gr, 0, none⟩) 0 cr) := bel_cell (by rw [hF.cellAt 4 (by omega)]; rfl)
          have x1 : ∀ p : Bel wr, (convert 25 9 (.slice (some ⟨gr, 0, none⟩) 0 cr)).run Tryd.prog p.v = .ok (.string S) p.v := fun p => by rw [HS.out]; exact txt_n HLn.out hRw p.v p.h
          have x2 : ∀ p : Bel wr, (convert 25 9 (.slice none 0 0)).run Tryd.prog p.v = .ok (.string S) p.v := fun p => by rw [HS.out]; exact HTF.out p.v (HB10.out.trans (p.h.mono HB10.out.size))
          have HRW := hide (show ∀ p : Bel wr, Ranks p.v from fun p => (HR.out.below HB10.out).below p.h)
          clear HO9 HF9 HR9 HB9 hown hgr hF hRw HS HTF
          go_wp2
          haveI : Inhabited (Bel wr) := ⟨⟨wr, Below.refl _ _⟩⟩
          refine wp_region_bel (by assumption) (by kernel_rfl) ?_
          repeat (quiet_step ((go_at_call 18; exact bel_of _ (alive_any _ (HRW.out _)))))
          refine wpQuiet_nil ?_
          intro _ hw'
          obtain ⟨p, rfl⟩ := hw'
          go_wp2
          go_ret
          exact ⟨rfl, HB10.out.trans (p.h.mono HB10.out.size)⟩

/-- Bytes of a list of numbers. -/
theorem bytes_of (zs : List Int) (h : ∀ j : Nat, 0 ≤ zs[j]?.getD 0 ∧ zs[j]?.getD 0 ≤ 255) : ∃ L : List UInt8, L.length = zs.length ∧ ∀ j (hj : j < L.length), (L[j].toNat : Int) = zs[j]?.getD 0 := by
  refine ⟨zs.map fun z => UInt8.ofNat z.toNat, List.length_map _, fun j hj => ?_⟩
  rw [List.length_map] at hj
  have := h j
  rw [List.getElem?_eq_getElem hj] at this ⊢
  simp only [Option.getD_some, List.getElem_map] at this ⊢
  rw [UInt8.toNat_ofNat']
  omega

theorem packOwn_any (a : Option Addr) (len cap : Nat) (w : World) (hR : Ranks w)
    (h : a = none ∧ len = 0 ∧ cap = 0 ∨ ∃ (ad : Addr) (zs : List Int), a = some ad ∧ len ≤ cap ∧ zs.length = cap ∧ (∀ j : Nat, 0 ≤ zs[j]?.getD 0 ∧ zs[j]?.getD 0 ≤ 255) ∧ (∀ i, i < zs.length → w.cell? (ad.add i) = some (.int .u8 (zs.getD i 0)))) :
    Calls Tryd.prog 8 #[.slice a len cap] w fun e w' => e = .returned (.bool true) ∧ RowKit.Below w.heap.size w w' := by
  rcases h with ⟨rfl, rfl, rfl⟩ | ⟨ad, zs, rfl, hl, hz, hb, hc⟩
  · exact packOwn_nil [] rfl w hR (txt_nil w)
  · obtain ⟨L, hL, hLz⟩ := bytes_of zs hb
    have hcell : ∀ j (hj : j < L.length), w.cell? (ad.add j) = some (.int .u8 (L[j].toNat : Int)) := fun j hj => by
      rw [hLz j hj, hc j (by omega), List.getD_eq_getElem?_getD]
    have htake : ∀ m, ∀ j (hj : j < (L.take m).length), w.cell? (ad.add j) = some (.int .u8 ((L.take m)[j].toNat : Int)) := fun m j hj => by
      rw [List.getElem_take]; exact hcell j (by rw [List.length_take] at hj; omega)
    by_cases h7 : len ≤ 700
    · exact packOwn_small ad cap len (L.take len) (by rw [List.length_take]; omega) h7 w hR (htake len)
    · obtain ⟨b, off, rfl, _⟩ := ints_at hc (by omega)
      exact packOwn_big b off cap len (L.take 700) (by rw [List.length_take]; omega) (by omega) hl w hR (htake 700)

end Go.Proofs.YtjjjpainmldfnaaDoor
