/- Package pack: a field of bytes: Check, fieldSize, putField. -/
import Derived.Test.YtmhcmlegdoapdaaDoorQF
import Derived.Test.YtmhcmlegdoapdaaDoorQH
import Derived.Test.YtmhcmlegdoapdaaDoorQI
namespace Go.Proofs.YtmhcmlegdoapdaaDoor
open Go.RowKit

set_option maxHeartbeats 2000000 in
set_option maxRecDepth 100000 in
theorem own_bytes (b o len cap : Nat) (hl : len ≤ 65536) (w : World) : Calls Tryd.prog 30 #[.agg #[.int .i64 4, .int .u64 0, .int .i64 0, .bool false, .slice (some ⟨b, o, none⟩) len cap, .int .i64 0, .int .u64 0, .int .i64 0, .int .u64 0, .int .i64 0, .int .i64 0, .int .u64 0, .int .i64 0, .int .u64 0]] w fun e w' => e = .returned (.bool true) ∧ Gr w w' := by
  have HI := hide (IsB.new w #[.int .i64 4, .int .u64 0, .int .i64 0, .bool false, .slice (some ⟨b, o, none⟩) len cap, .int .i64 0, .int .u64 0, .int .i64 0, .int .u64 0, .int .i64 0, .int .i64 0, .int .u64 0, .int .i64 0, .int .u64 0] 34)
  have HG := hide (show Gr w (w.alloc (.cells #[.int .i64 4, .int .u64 0, .int .i64 0, .bool false, .slice (some ⟨b, o, none⟩) len cap, .int .i64 0, .int .u64 0, .int .i64 0, .int .u64 0, .int .i64 0, .int .i64 0, .int .u64 0, .int .i64 0, .int .u64 0] 34)) from (Gr.refl w).alloc _)
  go_enter Tryd.func30, Tryd.ntmps30
  go_wp2_with fail
  go_ret
  exact ⟨by simp; omega, HG.out⟩

set_option maxHeartbeats 2000000 in
set_option maxRecDepth 100000 in
theorem without_bytes (b o len cap : Nat) (w : World) : Calls Tryd.prog 31 #[.agg #[.int .i64 4, .int .u64 0, .int .i64 0, .bool false, .slice (some ⟨b, o, none⟩) len cap, .int .i64 0, .int .u64 0, .int .i64 0, .int .u64 0, .int .i64 0, .int .i64 0, .int .u64 0, .int .i64 0, .int .u64 0]] w fun e w' => e = .returned (.agg #[.int .i64 0, .int .u64 0, .int .i64 0, .bool false, .slice none 0 0, .int .i64 0, .int .u64 0, .int .i64 0, .int .u64 0, .int .i64 0, .int .i64 0, .int .u64 0, .int .i64 0, .int .u64 0]) ∧ Gr w w' := by
  go_enter Tryd.func31, Tryd.ntmps31
  go_wp2
  go_returns
  exact ⟨rfl, ((Gr.refl w).alloc _).alloc _⟩

set_option maxHeartbeats 4000000 in
set_option maxRecDepth 100000 in
theorem check_bytes (b o len cap : Nat) (hl : len ≤ 65536) (w : World) : Calls Tryd.prog 14 #[.agg #[.int .i64 4, .int .u64 0, .int .i64 0, .bool false, .slice (some ⟨b, o, none⟩) len cap, .int .i64 0, .int .u64 0, .int .i64 0, .int .u64 0, .int .i64 0, .int .i64 0, .int .u64 0, .int .i64 0, .int .u64 0]] w fun e w' => e = .returned (.int .i64 0) ∧ Gr w w' := by
  have ho := hide (fun w => own_bytes b o len cap hl w)
  have hw := hide (fun w => without_bytes b o len cap w)
  have HI := hide (IsB.new w #[.int .i64 4, .int .u64 0, .int .i64 0, .bool false, .slice (some ⟨b, o, none⟩) len cap, .int .i64 0, .int .u64 0, .int .i64 0, .int .u64 0, .int .i64 0, .int .i64 0, .int .u64 0, .int .i64 0, .int .u64 0] 34)
  have HG := hide (show Gr w (w.alloc (.cells #[.int .i64 4, .int .u64 0, .int .i64 0, .bool false, .slice (some ⟨b, o, none⟩) len cap, .int .i64 0, .int .u64 0, .int .i64 0, .int .u64 0, .int .i64 0, .int .i64 0, .int .u64 0, .int .i64 0, .int .u64 0] 34)) from (Gr.refl w).alloc _)
  go_enter Tryd.func14, Tryd.ntmps14
  go_wp2_with fail
  generalize w.alloc (.cells #[.int .i64 4, .int .u64 0, .int .i64 0, .bool false, .slice (some ⟨b, o, none⟩) len cap, .int .i64 0, .int .u64 0, .int .i64 0, .int .u64 0, .int .i64 0, .int .i64 0, .int .u64 0, .int .i64 0, .int .u64 0] 34) = W0 at HI HG ⊢
  have a0 : W0.cell? ⟨w.heap.size, 0, none⟩ = some (.int .i64 4) := HI.out.cell 0
  have a1 : W0.cell? ⟨w.heap.size, 1, none⟩ = some (.int .u64 0) := HI.out.cell 1
  have a2 : W0.cell? ⟨w.heap.size, 2, none⟩ = some (.int .i64 0) := HI.out.cell 2
  have a3 : W0.cell? ⟨w.heap.size, 3, none⟩ = some (.bool false) := HI.out.cell 3
  have a4 : W0.cell? ⟨w.heap.size, 4, none⟩ = some (.slice (some ⟨b, o, none⟩) len cap) := HI.out.cell 4
  have a5 : W0.cell? ⟨w.heap.size, 5, none⟩ = some (.int .i64 0) := HI.out.cell 5
  have a6 : W0.cell? ⟨w.heap.size, 6, none⟩ = some (.int .u64 0) := HI.out.cell 6
  have a7 : W0.cell? ⟨w.heap.size, 7, none⟩ = some (.int .i64 0) := HI.out.cell 7
  have a8 : W0.cell? ⟨w.heap.size, 8, none⟩ = some (.int .u64 0) := HI.out.cell 8
  have a9 : W0.cell? ⟨w.heap.size, 9, none⟩ = some (.int .i64 0) := HI.out.cell 9
  have a10 : W0.cell? ⟨w.heap.size, 10, none⟩ = some (.int .i64 0) := HI.out.cell 10
  have a11 : W0.cell? ⟨w.heap.size, 11, none⟩ = some (.int .u64 0) := HI.out.cell 11
  have a12 : W0.cell? ⟨w.heap.size, 12, none⟩ = some (.int .i64 0) := HI.out.cell 12
  have a13 : W0.cell? ⟨w.heap.size, 13, none⟩ = some (.int .u64 0) := HI.out.cell 13
  refine (isKind_yes 4 (by omega) (by omega) _).mono ?_; rintro e w1 ⟨rfl, rfl⟩
  go_wp2_with fail
  clear a0 a1 a2 a3 a4 a5 a6 a7 a8 a9 a10 a11 a12 a13
  refine (ho.out _).mono ?_; rintro e w2 ⟨rfl, hg⟩
  replace HI := hide (HI.out.gr hg)
  replace HG := hide (HG.out.trans hg)
  clear hg
  have a0 : w2.cell? ⟨w.heap.size, 0, none⟩ = some (.int .i64 4) := HI.out.cell 0
  have a1 : w2.cell? ⟨w.heap.size, 1, none⟩ = some (.int .u64 0) := HI.out.cell 1
  have a2 : w2.cell? ⟨w.heap.size, 2, none⟩ = some (.int .i64 0) := HI.out.cell 2
  have a3 : w2.cell? ⟨w.heap.size, 3, none⟩ = some (.bool false) := HI.out.cell 3
  have a4 : w2.cell? ⟨w.heap.size, 4, none⟩ = some (.slice (some ⟨b, o, none⟩) len cap) := HI.out.cell 4
  have a5 : w2.cell? ⟨w.heap.size, 5, none⟩ = some (.int .i64 0) := HI.out.cell 5
  have a6 : w2.cell? ⟨w.heap.size, 6, none⟩ = some (.int .u64 0) := HI.out.cell 6
  have a7 : w2.cell? ⟨w.heap.size, 7, none⟩ = some (.int .i64 0) := HI.out.cell 7
  have a8 : w2.cell? ⟨w.heap.size, 8, none⟩ = some (.int .u64 0) := HI.out.cell 8
  have a9 : w2.cell? ⟨w.heap.size, 9, none⟩ = some (.int .i64 0) := HI.out.cell 9
  have a10 : w2.cell? ⟨w.heap.size, 10, none⟩ = some (.int .i64 0) := HI.out.cell 10
  have a11 : w2.cell? ⟨w.heap.size, 11, none⟩ = some (.int .u64 0) := HI.out.cell 11
  have a12 : w2.cell? ⟨w.heap.size, 12, none⟩ = some (.int .i64 0) := HI.out.cell 12
  have a13 : w2.cell? ⟨w.heap.size, 13, none⟩ = some (.int .u64 0) := HI.out.cell 13
  go_wp2_with fail
  clear a0 a1 a2 a3 a4 a5 a6 a7 a8 a9 a10 a11 a12 a13
  refine (hw.out _).mono ?_; rintro e w3 ⟨rfl, hg⟩
  replace HG := hide (HG.out.trans hg)
  clear hg
  go_wp2_with fail
  refine (same_zero _).mono ?_; rintro e w4 ⟨rfl, hg⟩
  replace HG := hide (HG.out.trans hg)
  clear hg
  go_wp2
  go_ret
  exact ⟨rfl, HG.out⟩

set_option maxHeartbeats 4000000 in
set_option maxRecDepth 100000 in
theorem fieldSize_bytes (b o len cap : Nat) (hl : len ≤ 65536) (w : World) :
    Calls Tryd.prog 28 #[.agg #[.int .i64 4, .int .u64 0, .int .i64 0, .bool false, .slice (some ⟨b, o, none⟩) len cap, .int .i64 0, .int .u64 0, .int .i64 0, .int .u64 0, .int .i64 0, .int .i64 0, .int .u64 0, .int .i64 0, .int .u64 0]] w fun e w' => e = .returned (.int .i64 (((nb len).length + len : Nat) : Int)) ∧ Gr w w' := by
  have mixed : Tryd.prog.follows .mixedOrders = true := by kernel_rfl
  have hs := hide (fun w => numberSize_any len (by omega) w)
  have hnb : (nb len).length ≤ 10 := by
    rcases Nat.eq_zero_or_pos len with h | h
    · subst h; rw [nb_small (by omega)]; simp
    · have a := Nat.log2_self_le (n := len) (by omega)
      have b := Nat.lt_log2_self (n := len)
      generalize Nat.log2 len = k at a b
      have hk : k < 20 := by
        rcases Nat.lt_or_ge k 20 with h' | h'
        · exact h'
        · have := Nat.pow_le_pow_right (n := 2) (by omega) h'; omega
      rw [nb_pow k len a b]; omega
  have HI := hide (IsB.new w #[.int .i64 4, .int .u64 0, .int .i64 0, .bool false, .slice (some ⟨b, o, none⟩) len cap, .int .i64 0, .int .u64 0, .int .i64 0, .int .u64 0, .int .i64 0, .int .i64 0, .int .u64 0, .int .i64 0, .int .u64 0] 34)
  have HG := hide (show Gr w (w.alloc (.cells #[.int .i64 4, .int .u64 0, .int .i64 0, .bool false, .slice (some ⟨b, o, none⟩) len cap, .int .i64 0, .int .u64 0, .int .i64 0, .int .u64 0, .int .i64 0, .int .i64 0, .int .u64 0, .int .i64 0, .int .u64 0] 34)) from (Gr.refl w).alloc _)
  go_enter Tryd.func28, Tryd.ntmps28
  go_wp2
  generalize w.alloc (.cells #[.int .i64 4, .int .u64 0, .int .i64 0, .bool false, .slice (some ⟨b, o, none⟩) len cap, .int .i64 0, .int .u64 0, .int .i64 0, .int .u64 0, .int .i64 0, .int .i64 0, .int .u64 0, .int .i64 0, .int .u64 0] 34) = W0 at HI HG ⊢
  have a4 : W0.cell? ⟨w.heap.size, 4, none⟩ = some (.slice (some ⟨b, o, none⟩) len cap) := HI.out.cell 4
  go_quiet ((go_at_call 48; exact Calls.quiet_of_same (hs.out _)))
  go_wp2
  go_ret
  exact ⟨by simp, HG.out.drewN _⟩

theorem news_of {w W0 w1 : World} {b o g : Nat} {l : List Int} (hbg : b ≠ g) (hc : ∀ j (hj : j < l.length), w.cell? ⟨b, o + j, none⟩ = some (.int .u8 l[j])) (hg : Gr w W0) (hp : W0.drew.grownBy w1 (some g)) :
    ∀ j u, (u8s l)[j]? = some u → w1.cell? ((⟨b, o, none⟩ : Addr).add j) = some u := by
  intro j u hu
  rw [Lib.add_plain]
  unfold u8s at hu
  rw [List.getElem?_map] at hu
  obtain ⟨x, hx, rfl⟩ := Option.map_eq_some_iff.1 hu
  obtain ⟨hj, rfl⟩ := List.getElem?_eq_some_iff.1 hx
  have h0 := hc j hj
  have h1 : W0.drew.cell? ⟨b, o + j, none⟩ = some (.int .u8 l[j]) := hg.drew.cell (lt_of_cell h0) h0
  exact hp.cell h1 (by simpa using hbg)

set_option maxHeartbeats 4000000 in
set_option maxRecDepth 100000 in
theorem putField_bytes (b o len cap' : Nat) (l : List Int) (hll : l.length = len) (hl : len ≤ 65536) (base g n cap : Nat) (xs : List Int) (w : World) (hbg : b ≠ g)
    (hc : ∀ j (hj : j < l.length), w.cell? ⟨b, o + j, none⟩ = some (.int .u8 l[j]))
    (hown : w.ownsRow base 5 1 (.slice (some ⟨g, 0, none⟩) n cap) n (u8s xs)) (hroom : n + (nb len ++ l).length ≤ cap) :
    Calls Tryd.prog 26 #[.slice (some ⟨g, 0, none⟩) n cap, .agg #[.int .i64 4, .int .u64 0, .int .i64 0, .bool false, .slice (some ⟨b, o, none⟩) len cap', .int .i64 0, .int .u64 0, .int .i64 0, .int .u64 0, .int .i64 0, .int .i64 0, .int .u64 0, .int .i64 0, .int .u64 0]] w fun e w' => e = .returned (.slice (some ⟨g, 0, none⟩) (n + (nb len ++ l).length) cap) ∧ Put w w' base g n cap xs (nb len ++ l) := by
  have mixed : Tryd.prog.follows .mixedOrders = true := by kernel_rfl
  obtain ⟨i0, hi, hz0, hz1, hz2⟩ := info_parts Tryd.infoU8
  rw [List.length_append, hll] at hroom
  have HI := hide (IsB.new w #[.int .i64 4, .int .u64 0, .int .i64 0, .bool false, .slice (some ⟨b, o, none⟩) len cap', .int .i64 0, .int .u64 0, .int .i64 0, .int .u64 0, .int .i64 0, .int .i64 0, .int .u64 0, .int .i64 0, .int .u64 0] 34)
  have hgl := (hown.lt g rfl).2
  have hown0 := hown.alloc (.cells #[.int .i64 4, .int .u64 0, .int .i64 0, .bool false, .slice (some ⟨b, o, none⟩) len cap', .int .i64 0, .int .u64 0, .int .i64 0, .int .u64 0, .int .i64 0, .int .i64 0, .int .u64 0, .int .i64 0, .int .u64 0] 34)
  have HG := hide (World.grownBy_alloc w (.cells #[.int .i64 4, .int .u64 0, .int .i64 0, .bool false, .slice (some ⟨b, o, none⟩) len cap', .int .i64 0, .int .u64 0, .int .i64 0, .int .u64 0, .int .i64 0, .int .i64 0, .int .u64 0, .int .i64 0, .int .u64 0] 34) (some g))
  have HGr := hide (show Gr w (w.alloc (.cells #[.int .i64 4, .int .u64 0, .int .i64 0, .bool false, .slice (some ⟨b, o, none⟩) len cap', .int .i64 0, .int .u64 0, .int .i64 0, .int .u64 0, .int .i64 0, .int .i64 0, .int .u64 0, .int .i64 0, .int .u64 0] 34)) from (Gr.refl w).alloc _)
  have hC0 := hide hc
  clear hown hc
  go_enter Tryd.func26, Tryd.ntmps26
  go_wp2
  generalize w.alloc (.cells #[.int .i64 4, .int .u64 0, .int .i64 0, .bool false, .slice (some ⟨b, o, none⟩) len cap', .int .i64 0, .int .u64 0, .int .i64 0, .int .u64 0, .int .i64 0, .int .i64 0, .int .u64 0, .int .i64 0, .int .u64 0] 34) = W0 at HI HG hown0 HGr ⊢
  have a4 : W0.cell? ⟨w.heap.size, 4, none⟩ = some (.slice (some ⟨b, o, none⟩) len cap') := HI.out.cell 4
  have hlt := HI.out.lt
  have hne : g ≠ w.heap.size := by omega
  have hwl : IntKind.u64.wrap (len : Int) = (len : Int) := by rw [IntKind.wrap_u64]; omega
  go_region_held3 (fun w' => w'.cell? ⟨w.heap.size, 4, none⟩ = some (.slice (some ⟨b, o, none⟩) len cap')) (first | (go_keep; done) | (rw [hgrow.cell_far _ hl1 (by simpa using Ne.symm hne)]; assumption) | (rw [hput.2.cell_far _ (by exact hlt) (by simpa using Ne.symm hne)]; assumption))
    (first
      | (refine step_append_fits (by rfl) (.tmp 37) (.tmp 39) 25 (by rfl) base 5 i0 1 Tryd.underlying25 hi hz1 g (n + (nb len).length) cap (u8s (xs ++ nb len)) (by rfl) hput.1 ⟨b, o, none⟩ len cap' (u8s l) (by rfl) (by simp [u8s, hll]) hnews (by intro u hu; simp [u8s] at hu; obtain ⟨_, _, rfl⟩ := hu; rfl) (by omega) ?_; intro w2 hown2 hgrow)
      | (go_at_call 39; refine (putNumber_any len (by omega) base g n cap xs _ hown0.drew (by omega)).mono ?_; rintro e w1 ⟨rfl, hput⟩; have hl1 : w.heap.size < w1.heap.size := (by have := hput.2.size; exact Nat.lt_of_lt_of_le hlt this); have hnews : ∀ j u, (u8s l)[j]? = some u → w1.cell? ((⟨b, o, none⟩ : Addr).add j) = some u := (news_of hbg hC0.out HGr.out hput.2)))
  have hp1 : Put w _ base g n cap xs (nb len) := ⟨hput.1, grown_trans HG.out (grown_trans (grown_of_gr ((Gr.refl W0).drew) _) hput.2)⟩
  have hp2 : Put _ _ base g (n + (nb len).length) cap (xs ++ nb len) l := ⟨by rw [u8s_app (xs ++ nb len), hll]; exact hown2, hgrow⟩
  have HP := hide (hp1.trans hp2)
  have hlen : n + (nb len ++ l).length = n + (nb len).length + len := by rw [List.length_append, hll]; omega
  clear hp1 hp2 hput hown2 hgrow hnews
  go_wp2
  go_ret
  exact ⟨by rw [hlen]; rfl, HP.out⟩

/-- A field of bytes that lie in memory. -/
theorem packOf_bytes (W0 : World) (b o len cap : Nat) (l : List Int) (hll : l.length = len) (hl : len ≤ 65536) (hb : b < W0.heap.size) (hc : ∀ j (hj : j < l.length), W0.cell? ⟨b, o + j, none⟩ = some (.int .u8 l[j])) :
    PackOf W0 ⟨4, 0, 0, false, some ⟨b, o, none⟩, len, cap, 0, 0, 0, 0, 0, 0, 0, 0, 0⟩ (nb len ++ l) where
  check := fun w _ => (check_bytes b o len cap hl w).mono fun _ _ ⟨h, k⟩ => ⟨h, k.below⟩
  size := fun w _ => (fieldSize_bytes b o len cap hl w).mono fun _ _ ⟨h, k⟩ => ⟨by rw [h, List.length_append, hll], k.below⟩
  put := fun w base g n cap' xs hw hg ho hr => putField_bytes b o len cap l hll hl base g n cap' xs w (by omega) (fun j hj => (hw.cell (by exact hb)).trans (hc j hj)) ho hr

end Go.Proofs.YtmhcmlegdoapdaaDoor
