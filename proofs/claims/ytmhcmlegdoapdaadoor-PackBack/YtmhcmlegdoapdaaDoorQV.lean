/- Package pack: a row of bytes is read: bytes.Clone, row. -/
import Derived.Test.YtmhcmlegdoapdaaDoorQU
namespace Go.Proofs.YtmhcmlegdoapdaaDoor
open Go.RowKit

theorem slice_nil (a : Addr) (len cap : Nat) (w : World) : (binOp .eql 25 (.slice (some a) len cap) (.slice none 0 0)).run Tryd.prog w = .ok (.bool false) w := by kernel_rfl

set_option maxHeartbeats 1000000 in
set_option maxRecDepth 100000 in
theorem clone_ok (b o cap : Nat) (l : List Int) (hl : l.length ≤ 65536) (w : World) (hc : ∀ j (hj : j < l.length), w.cell? ⟨b, o + j, none⟩ = some (.int .u8 l[j])) :
    Calls Tryd.prog 78 #[.slice (some ⟨b, o, none⟩) l.length cap] w fun e w' => ∃ g c, e = .returned (.slice (some ⟨g, 0, none⟩) l.length c) ∧ w.heap.size ≤ g ∧ w'.ownsRow w.heap.size 5 1 (.slice (some ⟨g, 0, none⟩) l.length c) l.length (u8s l) ∧ RowKit.Below w.heap.size w w' := by
  obtain ⟨i0, hi, hz0, hz1, hz2⟩ := info_parts Tryd.infoU8
  have hown0 : (w.alloc (.cells #[] 5)).ownsRow w.heap.size 5 1 (.slice (some ⟨w.heap.size, 0, none⟩) 0 0) 0 [] := World.ownsRow_lit w #[] 0 (Nat.le_refl _) (by unfold maxLen; omega) rfl
  have hnews : ∀ j u, (u8s l)[j]? = some u → (w.alloc (.cells #[] 5)).cell? ((⟨b, o, none⟩ : Addr).add j) = some u := by
    intro j u hu
    rw [Lib.add_plain]
    unfold u8s at hu
    rw [List.getElem?_map] at hu
    obtain ⟨x, hx, rfl⟩ := Option.map_eq_some_iff.1 hu
    obtain ⟨hj, rfl⟩ := List.getElem?_eq_some_iff.1 hx
    exact ((Gr.refl w).alloc _).cell (lt_of_cell (hc j hj)) (hc j hj)
  have hul : (u8s l).length = l.length * 1 := by simp [u8s]
  have h1c : ∀ u ∈ u8s l, u.oneCell' = true := by intro u hu; simp [u8s] at hu; obtain ⟨_, _, rfl⟩ := hu; rfl
  have HB := hide (show RowKit.Below w.heap.size w (w.alloc (.cells #[] 5)) from ((Gr.refl w).alloc _).below)
  clear hc
  generalize hL : l.length = L at *
  have hsn := slice_nil
  go_enter Tryd.func78, Tryd.ntmps78
  go_wp2_with (at_builtin; refine wpList_append_own _ rfl (.tmp 5) (.tmp 6) 25 rfl w.heap.size 5 i0 (.int .u8 0) 1 1 Tryd.underlying25 hi hz0 hz1 hz2 rfl (by decide) _ _ _ rfl hown0 ⟨b, o, none⟩ L cap (u8s l) rfl hul hnews h1c (by unfold maxLen; omega) (by omega) (by simp) ?_; intro v' w4 hown4 hgrow4 hnil4)
  have HO := hide hown4
  have HN := hide hnil4
  replace HB := hide (HB.out.grown hgrow4 HB.out.size (fun j hj => by cases hj; exact Nat.le_refl _))
  clear hown4 hgrow4 hnil4 hown0 hnews
  go_wp2
  go_ret
  have ho := HO.out
  rw [Nat.zero_add, List.nil_append] at ho
  rcases ho.2 with ⟨h, _⟩ | ⟨g, c, cur, rfl, hg, hrest⟩
  · exact absurd (HN.out.1 h).1 (by intro h2; cases h2)
  · exact ⟨g, c, rfl, hg, ho, HB.out⟩

theorem owns_base {w : World} {base base' : Nat} {v : Value} {n : Nat} {xs : List Value} (h : base' ≤ base) (ho : w.ownsRow base 5 1 v n xs) : w.ownsRow base' 5 1 v n xs := by
  obtain ⟨h1, h2⟩ := ho
  refine ⟨h1, ?_⟩
  rcases h2 with h' | ⟨g', cap', cur, h', h3, h4⟩
  · exact Or.inl h'
  · exact Or.inr ⟨g', cap', cur, h', Nat.le_trans h h3, h4⟩
theorem num_cells {w : World} {b o : Nat} {l : List Int} (h : ∀ j (hj : j < (nb l.length ++ l).length), w.cell? ⟨b, o + j, none⟩ = some (.int .u8 (nb l.length ++ l)[j])) :
    ∀ j (hj : j < (nb l.length).length), w.drew.cell? ⟨b, o + j, none⟩ = some (.int .u8 (nb l.length)[j]) := by
  intro j hj
  have := h j (by rw [List.length_append]; omega)
  rw [List.getElem_append_left hj] at this
  exact this
theorem row_cells {w w1 w2 : World} {b o o1 R len : Nat} {l : List Int} (h : ∀ j (hj : j < (nb l.length ++ l).length), w.cell? ⟨b, o + j, none⟩ = some (.int .u8 (nb l.length ++ l)[j]))
    (ho : (nb l.length).length < len → o1 = o + (nb l.length).length) (hne : b ≠ R) (hlen : (nb l.length).length + l.length ≤ len) (h1 : w.drew.grownBy w1 (some R)) (h2 : w1.grownBy w2 (some R)) :
    ∀ j (hj : j < l.length), w2.cell? ⟨b, o1 + j, none⟩ = some (.int .u8 l[j]) := by
  intro j hj
  rw [ho (by omega)]
  have := h ((nb l.length).length + j) (by rw [List.length_append]; omega)
  rw [List.getElem_append_right (by omega)] at this
  have e : w.drew.cell? ⟨b, o + (nb l.length).length + j, none⟩ = some (.int .u8 l[j]) := by
    rw [Nat.add_assoc]
    simpa using this
  exact h2.cell (h1.cell e (by simpa using hne)) (by simpa using hne)

set_option maxHeartbeats 4000000 in
set_option maxRecDepth 100000 in
theorem row_ok (l : List Int) (hl : l.length ≤ 65536) (R b o len cap : Nat) (at' : Int) (h0 : 0 ≤ at') (h1 : at' ≤ 100000000) (fl : Value) (w : World) (hR : Rd w R (some ⟨b, o, none⟩) len cap at' fl) (hne : b ≠ R)
    (hlen : (nb l.length ++ l).length ≤ len) (hcap : len ≤ cap) (hcap2 : cap ≤ 1000000000) (hC : ∀ j (hj : j < (nb l.length ++ l).length), w.cell? ⟨b, o + j, none⟩ = some (.int .u8 (nb l.length ++ l)[j])) :
    Calls Tryd.prog 68 #[.pointer (some ⟨R, 0, none⟩)] w fun e w' => ∃ g c, e = .returned (.slice (some ⟨g, 0, none⟩) l.length c) ∧ w.heap.size ≤ g ∧ w'.ownsRow w.heap.size 5 1 (.slice (some ⟨g, 0, none⟩) l.length c) l.length (u8s l) ∧
      (∃ o', ((nb l.length ++ l).length < len → o' = o + (nb l.length ++ l).length) ∧ Rd w' R (some ⟨b, o', none⟩) (len - (nb l.length ++ l).length) (cap - (nb l.length ++ l).length) (at' + ((nb l.length ++ l).length : Int)) fl) ∧ w.grownBy w' (some R) := by
  have mixed : Tryd.prog.follows .mixedOrders = true := by kernel_rfl
  rw [List.length_append] at hlen
  have hn := hide (fun w h => number_ok l.length 65536 hl (by omega) R b o len cap at' h0 (by omega) fl w h hne (by omega) hcap hcap2)
  have hRl := hR.lt
  have hwl : IntKind.i64.wrap (l.length : Int) = (l.length : Int) := by rw [IntKind.wrap_i64]; omega
  have HR := hide hR
  have HC := hide hC
  clear hR hC
  go_enter Tryd.func68, Tryd.ntmps68
  go_wp2
  go_region_held3 (fun _ => True) (trivial)
    (first
      | (go_at_call 65; refine (hn.out w.drew HR.out (num_cells HC.out)).mono ?_; rintro e w1 ⟨rfl, o1, ho1, hr1, hg1⟩)
      | (go_at_call 79; refine (take_ok R (len - (nb l.length).length) (cap - (nb l.length).length) l.length b o1 (at' + ((nb l.length).length : Int)) (by omega) (by omega) fl w1 hr1 (by omega) (by omega) (by omega)).mono ?_; rintro e w2 ⟨rfl, o2, ho2, hr2, hg2⟩)
      | (go_at_call 78; refine (clone_ok b o1 _ l hl w2 (row_cells HC.out ho1 hne hlen hg1 hg2)).mono ?_; rintro e w3 ⟨g, c, rfl, hgl, hown, hb⟩))
  have hsz : w.heap.size ≤ w2.heap.size := Nat.le_trans hg1.size hg2.size
  have hgr : w.grownBy w3 (some R) := grown_trans (grown_of_gr ((Gr.refl w).drew) _) (grown_trans hg1 (grown_trans hg2 (grown_of_below hb _)))
  have hrd : Rd w3 R (some ⟨b, o2, none⟩) (len - (nb l.length).length - l.length) (cap - (nb l.length).length - l.length) (at' + ((nb l.length).length : Int) + (l.length : Int)) fl := IsB.setB hr2 hb
  rw [Nat.sub_sub, Nat.sub_sub, Int.add_assoc] at hrd
  have hw3 : w3.ownsRow w.heap.size 5 1 (.slice (some ⟨g, 0, none⟩) l.length c) l.length (u8s l) := owns_base hsz hown
  have hoo : (nb l.length).length + l.length < len → o2 = o + ((nb l.length).length + l.length) := fun h => by
    rw [ho2 (by omega), ho1 (by omega)]; omega
  have HGR := hide hgr
  have HRD := hide hrd
  have HW3 := hide hw3
  have HOO := hide hoo
  have HGL := hide (Nat.le_trans hsz hgl)
  clear hgr hrd hw3 hoo hown hb hr1 hr2 hg1 hg2 ho1 ho2 hsz hgl
  go_wp2
  go_ret
  rw [List.length_append]
  exact ⟨g, c, rfl, HGL.out, HW3.out, ⟨o2, HOO.out, by rw [Int.natCast_add]; exact HRD.out⟩, HGR.out⟩

end Go.Proofs.YtmhcmlegdoapdaaDoor
