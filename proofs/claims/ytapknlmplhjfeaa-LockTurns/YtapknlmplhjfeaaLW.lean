/- LockTurns: the law walked. -/
import Derived.Test.YtapknlmplhjfeaaLWA
import Derived.Test.YtapknlmplhjfeaaLO
namespace Go.Proofs.Ytapknlmplhjfeaa
open Go.RowKit Go.Maps

theorem Kp.lowBel {S : List Nat} {a b c : World} (h : Kp S a b) (k : Below a.heap.size b c) : Kp S a c :=
  ⟨k.os.trans h.os, k.tape.trans h.tape, k.output.trans h.output, Nat.le_trans h.size k.size, fun j hj hn => (k.block j hj).trans (h.block j hj hn)⟩

/-- An append whose run is known, its slot named. -/
theorem step_append_d {P : Program} {w : World} {ops : Array Oper} {o : Oper} {a : Act} {K : Act → World → Prop} {Q : Exit → Act → World → Prop} {E : Prop} (d : Option Nat) (hg : o.guard = none) (hd : o.dst = d) (s x : Operand) (t : TypeId)
    (hop : o.op = .call { callee := .builtin .append, args := #[s, x], argTypes := #[t, t] }) (v y v' : Value) (w' : World) (hs : a.eval s = v) (hx : a.eval x = y)
    (hrun : (Builtin.append_ #[t, t] o.type #[v, y]).run P w = .ok v' w') (hK : K (a.put d v') w') : if Region.wanted o (yielded ops a.tmps) = true then Oper.wp P o a w K Q else E := by
  subst hd
  exact step_append_eq hg s x t hop v y v' w' hs hx hrun hK

set_option maxHeartbeats 16000000 in
set_option maxRecDepth 100000 in
theorem lockTurns_walk (sa : Option Addr) (len cap : Nat) (w : World) (hs : Scr w sa len) : Calls Try.prog 6 #[.slice sa len cap] w fun e w' => e = .returned (.bool true) ∧ Below w.heap.size w w' := by
  have mixed : Try.prog.follows .mixedOrders = true := by kernel_rfl
  have hpn := ptr_eq_nil
  replace hs := hide hs
  go_enter Try.func6, Try.ntmps6
  go_wp2_with fail
  refine (new_any w).mono ?_; rintro e w1 ⟨b, rfl, hb, hN, hbl⟩
  have T1 : Hid (TS w1.heap.size w1 b (.slice none 0 0) (.slice none 0 0) []) := ⟨hN, ⟨rfl, Or.inl ⟨rfl, rfl⟩⟩, Good.nil, fun k hk => by simp [Value.ownBlock] at hk, fun k hk => by simp [Value.ownBlock] at hk⟩
  have B1 := hide hbl
  replace hb := hide hb
  clear hN hbl
  go_wp2
  go_loopw [4, 5] (fun r i wr => ∃ j : Nat, j ≤ len ∧ j ≤ 150 ∧ i = .int .i64 (j : Int) ∧ Hid (∃ v os, TS w1.heap.size wr b v r os ∧ Kp [b] w1 wr)) (fun r i _ => 150 - (intOf i).toNat)
  case atStart => exact ⟨0, by omega, by omega, rfl, _, _, T1.out, Kp.refl _ _⟩
  case round =>
    obtain ⟨j, hj, hj2, rfl, hX⟩ := hrel
    rename Value => rv
    obtain ⟨v, os, hT0, hK0⟩ := hX.out
    have T0 := hide hT0
    have K0 := hide hK0
    have HB0 : Hid (Below w.heap.size w wr) := B1.out.trans (hK0.to_below B1.out.size (by simp; exact hb.out))
    clear hX hT0 hK0
    by_cases hlt : j < len
    · by_cases h150 : j < 150
      · obtain ⟨g0, k0, rfl, hel⟩ : ∃ g k, sa = some ⟨g, k, none⟩ ∧ ∀ j, j < len → ∃ kd x y, OpAt w g (k + j * 3) kd x y := by
          rcases hs.out with h | ⟨g, o, h1, h2⟩
          · omega
          · exact ⟨g, o, h1, h2⟩
        obtain ⟨kd, a, o, hop⟩ := hel j hlt
        have s0 := (hop.below HB0.out).c0
        have s1 := (hop.below HB0.out).c1
        have s2 := (hop.below HB0.out).c2
        have belA := (Below.refl wr.heap.size wr).alloc (Nat.le_refl _) (.cells #[.int .i64 kd, .int .i64 a, .int .i64 o] 33)
        have TA := hide (T0.out.below belA)
        have KA := hide (K0.out.bel belA)
        have IA := hide (IsB.new wr #[.int .i64 kd, .int .i64 a, .int .i64 o] 33)
        have HBA := hide (HB0.out.trans (belA.mono HB0.out.size))
        have hbw : Hid (b < wr.heap.size) := T0.out.ls.blk.lt
        have hw1 : Hid (w1.heap.size ≤ wr.heap.size) := K0.out.size
        clear hel hop T0 K0 HB0 belA
        obtain ⟨ra, rc, rfl, -, -⟩ := TA.out.rr.shape
        have hlo : os.length ≤ 65 := TA.out.ls.len
        generalize hn : os.length = n at *
        replace hn := hide hn
        have hd150 : decide ((j : Int) < 150) = true := by simp; omega
        go_wp2
        clear hd150
        generalize wr.alloc (.cells #[.int .i64 kd, .int .i64 a, .int .i64 o] 33) = WA at *
        generalize hA : wr.heap.size = A at *
        clear s0 s1 s2
        rename_i KI hKI
        have hAfter : ∀ (zz : Int) (y2 y8 y9 y10 y11 y12 y13 y14 y15 y16 y17 y21 y22 y23 y24 y25 y26 y27 y28 y29 y30 y31 y32 y33 y34 y35 y36 y37 y38 y39 y40 y41 y42 y43 y44 y45 y46 y47 y48 y49 y50 y51 y52 y53 y54 y55 y56 y57 y58 y59 y60 y61 y62 y63 y64 y65 y66 y67 y68 y69 y70 y71 y72 y73 y74 y75 y76 y77 y78 y79 y80 y81 y82 y83 y84 y85 y86 y87 y88 y89 y90 y91 y92 y93 y94 y95 y96 y97 y98 y99 y100 y101 y102 y103 y104 y105 y106 y107 y108 y109 y110 y111 y112 y113 y114 y115 y116 y117 y118 y119 y120 y121 y122 y123 y124 y125 y126 y127 y128 y129 y130 y131 y132 y133 y134 y135 y136 y137 y138 y139 y140 y141 y142 y143 y144 y145 y146 y147 y148 y149 y150 y151 y152 y153 y154 : Value) (wq : World), Seen (a, o) os n zz → Below WA.heap.size WA wq → KI ⟨#[.slice (some ⟨g0, k0, none⟩) len cap, undef, y2, .pointer (some ⟨b, 0, none⟩), .slice ra n rc, .int .i64 (j : Int), .pointer (some ⟨A, 0, none⟩), .int .i64 zz, y8, y9, y10, y11, y12, y13, y14, y15, y16, y17, .pointer (some ⟨b, 0, none⟩), .pointer (some ⟨b, 0, none⟩), .bool false, y21, y22, y23, y24, y25, y26, y27, y28, y29, y30, y31, y32, y33, y34, y35, y36, y37, y38, y39, y40, y41, y42, y43, y44, y45, y46, y47, y48, y49, y50, y51, y52, y53, y54, y55, y56, y57, y58, y59, y60, y61, y62, y63, y64, y65, y66, y67, y68, y69, y70, y71, y72, y73, y74, y75, y76, y77, y78, y79, y80, y81, y82, y83, y84, y85, y86, y87, y88, y89, y90, y91, y92, y93, y94, y95, y96, y97, y98, y99, y100, y101, y102, y103, y104, y105, y106, y107, y108, y109, y110, y111, y112, y113, y114, y115, y116, y117, y118, y119, y120, y121, y122, y123, y124, y125, y126, y127, y128, y129, y130, y131, y132, y133, y134, y135, y136, y137, y138, y139, y140, y141, y142, y143, y144, y145, y146, y147, y148, y149, y150, y151, y152, y153, y154, undef], []⟩ wq := by
          intro zz y2 y8 y9 y10 y11 y12 y13 y14 y15 y16 y17 y21 y22 y23 y24 y25 y26 y27 y28 y29 y30 y31 y32 y33 y34 y35 y36 y37 y38 y39 y40 y41 y42 y43 y44 y45 y46 y47 y48 y49 y50 y51 y52 y53 y54 y55 y56 y57 y58 y59 y60 y61 y62 y63 y64 y65 y66 y67 y68 y69 y70 y71 y72 y73 y74 y75 y76 y77 y78 y79 y80 y81 y82 y83 y84 y85 y86 y87 y88 y89 y90 y91 y92 y93 y94 y95 y96 y97 y98 y99 y100 y101 y102 y103 y104 y105 y106 y107 y108 y109 y110 y111 y112 y113 y114 y115 y116 y117 y118 y119 y120 y121 y122 y123 y124 y125 y126 y127 y128 y129 y130 y131 y132 y133 y134 y135 y136 y137 y138 y139 y140 y141 y142 y143 y144 y145 y146 y147 y148 y149 y150 y151 y152 y153 y154 wq hSeen HQ
          apply hKI
          apply wp_seq_k
          intro K2 hK2
          have hrest : ∀ (z2 z6 z7 z8 z9 z10 z11 z12 z13 z14 z15 z16 z17 z21 z22 z23 z24 z25 z26 z27 z28 z29 z30 z31 z32 z33 z34 z35 z36 z37 z38 z39 z40 z41 z42 z43 z44 z45 z46 z47 z48 z49 z50 z51 z52 z53 z54 z55 z56 z57 z58 z59 z60 z61 z62 z63 z64 z65 z66 z67 z68 z69 z70 z71 z72 z73 z74 z75 z76 z77 z78 z79 z80 z81 z82 z83 z84 z85 z86 z87 z88 z89 z90 z91 z92 z93 z94 z95 z96 z97 z98 z99 z100 z101 z102 z103 z104 z105 z106 z107 z108 z109 z110 z111 z112 z113 z114 z115 z116 z117 z118 z119 z120 z121 z122 z123 z124 z125 z126 z127 z128 z129 z130 z131 z132 z133 z134 z135 z136 z137 z138 z139 z140 z141 z142 z143 z144 z145 z146 z147 z148 z149 z150 z151 z152 z153 z154 : Value) (ra' : Option Addr) (rc' : Nat) (os' : List Ow) (m' : Nat) (v' : Value) (W : World), os'.length = m' → TS w1.heap.size W b v' (.slice ra' m' rc') os' → Kp [b] w1 W → K2 ⟨#[.slice (some ⟨g0, k0, none⟩) len cap, undef, z2, .pointer (some ⟨b, 0, none⟩), .slice ra' m' rc', .int .i64 (j : Int), z6, z7, z8, z9, z10, z11, z12, z13, z14, z15, z16, z17, .pointer (some ⟨b, 0, none⟩), .pointer (some ⟨b, 0, none⟩), .bool false, z21, z22, z23, z24, z25, z26, z27, z28, z29, z30, z31, z32, z33, z34, z35, z36, z37, z38, z39, z40, z41, z42, z43, z44, z45, z46, z47, z48, z49, z50, z51, z52, z53, z54, z55, z56, z57, z58, z59, z60, z61, z62, z63, z64, z65, z66, z67, z68, z69, z70, z71, z72, z73, z74, z75, z76, z77, z78, z79, z80, z81, z82, z83, z84, z85, z86, z87, z88, z89, z90, z91, z92, z93, z94, z95, z96, z97, z98, z99, z100, z101, z102, z103, z104, z105, z106, z107, z108, z109, z110, z111, z112, z113, z114, z115, z116, z117, z118, z119, z120, z121, z122, z123, z124, z125, z126, z127, z128, z129, z130, z131, z132, z133, z134, z135, z136, z137, z138, z139, z140, z141, z142, z143, z144, z145, z146, z147, z148, z149, z150, z151, z152, z153, z154, undef], []⟩ W := by
            intro z2 z6 z7 z8 z9 z10 z11 z12 z13 z14 z15 z16 z17 z21 z22 z23 z24 z25 z26 z27 z28 z29 z30 z31 z32 z33 z34 z35 z36 z37 z38 z39 z40 z41 z42 z43 z44 z45 z46 z47 z48 z49 z50 z51 z52 z53 z54 z55 z56 z57 z58 z59 z60 z61 z62 z63 z64 z65 z66 z67 z68 z69 z70 z71 z72 z73 z74 z75 z76 z77 z78 z79 z80 z81 z82 z83 z84 z85 z86 z87 z88 z89 z90 z91 z92 z93 z94 z95 z96 z97 z98 z99 z100 z101 z102 z103 z104 z105 z106 z107 z108 z109 z110 z111 z112 z113 z114 z115 z116 z117 z118 z119 z120 z121 z122 z123 z124 z125 z126 z127 z128 z129 z130 z131 z132 z133 z134 z135 z136 z137 z138 z139 z140 z141 z142 z143 z144 z145 z146 z147 z148 z149 z150 z151 z152 z153 z154 ra' rc' os' m' v' W hm' hT hK
            subst hm'
            have T5 := hide hT
            have K5 := hide hK
            clear hT hK
            apply hK2
            go_wp2_with fail
            refine (holder_any b _ _ _ T5.out.ls).mono ?_; rintro e w5 ⟨rfl, hb5⟩
            have bel6 := (Below.refl w5.heap.size w5).alloc (Nat.le_refl _) (.cells #[.int .i64 (hd os').1, .int .i64 (hd os').2] 27)
            have T6a := (T5.out.below hb5).below bel6
            have K6 := hide (((K5.out.bel hb5).bel bel6).drew)
            have O6a := IsB.new w5 #[.int .i64 (hd os').1, .int .i64 (hd os').2] 27
            clear hb5 bel6 T5 K5
            by_cases hne : 0 < os'.length
            · have hmlen := T6a.ls.len
              have T6 := hide (T6a.below ((Below.refl _ _).drew))
              have O6 := hide (O6a.below ((Below.refl _ _).drew))
              clear T6a O6a
              rw [show decide (0 < os'.length) = true by simp [hne]]
              obtain ⟨g, rcx, hgv, hcap, -, -⟩ := T6.out.rr.form hne
              injection hgv with hgv hgn hgc
              clear hgn
              subst hgv hgc
              have q0 := (ows_get os' 0 hne).1
              have q1 := (ows_get os' 0 hne).2
              rw [hd_get hne] at q0 q1
              have hK33 : Hid (∀ W', Below (w5.alloc (.cells #[.int .i64 (hd os').1, .int .i64 (hd os').2] 27)).drew.heap.size (w5.alloc (.cells #[.int .i64 (hd os').1, .int .i64 (hd os').2] 27)).drew W' → (fun w' => w'.cell? ⟨w5.heap.size, 0, none⟩ = some (.int .i64 (hd os').1) ∧ w'.cell? ⟨w5.heap.size, 1, none⟩ = some (.int .i64 (hd os').2) ∧ w'.cell? ⟨g, 0, none⟩ = some (.int .i64 (hd os').1) ∧ w'.cell? ⟨g, 1, none⟩ = some (.int .i64 (hd os').2)) W') := fun W' hW => by
                have h1 := O6.out.below hW
                have h2 := T6.out.rr.below hW
                exact ⟨h1.cell 0, h1.cell 1, (h2.cellAt 0 (by omega)).trans q0, (h2.cellAt 1 (by omega)).trans q1⟩
              have hSlT := Rw.tailSl T6.out.rr 1 hne
              rw [List.drop_one] at hSlT
              simp only [Nat.one_mul] at hSlT
              generalize hxa : (if rc' = 1 then some (⟨g, 0, none⟩ : Addr) else some ⟨g, 2, none⟩) = xa at hSlT
              replace hxa := hide hxa
              replace hSlT := hide hSlT
              have HS33 := hide (hK33.out _ (Below.refl _ _))
              clear q0 q1
              go_wp2
              generalize w5.alloc (.cells #[.int .i64 (hd os').1, .int .i64 (hd os').2] 27) = W6 at *
              generalize w5.heap.size = F at *
              generalize (hd os').1 = x at *
              generalize (hd os').2 = y at *
              generalize hm : os'.length = m at *
              replace hm := hide hm
              refine regionL 33 (fun w' => w'.cell? ⟨F, 0, none⟩ = some (.int .i64 x) ∧ w'.cell? ⟨F, 1, none⟩ = some (.int .i64 y) ∧ w'.cell? ⟨g, 0, none⟩ = some (.int .i64 x) ∧ w'.cell? ⟨g, 1, none⟩ = some (.int .i64 y)) mixed HS33.out (fun hHeld => ?_)
              refine pickA (v := ?_) 0 (some 122) rfl rfl (by kernel_rfl) (by kernel_rfl) (by kernel_rfl) (by decide) (fun _ _ _ h => h) (by rfl) ?_ (by assumption) ?_
              rotate_left
              · intro w'
                go_simp
                try with_reducible rfl
              try simp only [Act.put, List.setIfInBounds_toArray, List.set_cons_zero, List.set_cons_succ]
              refine pickA (v := ?_) 1 (some 123) rfl rfl (by kernel_rfl) (by kernel_rfl) (by kernel_rfl) (by decide) (fun _ _ _ h => h) (by rfl) ?_ (by assumption) ?_
              rotate_left
              · intro w'
                go_simp
                try with_reducible rfl
              try simp only [Act.put, List.setIfInBounds_toArray, List.set_cons_zero, List.set_cons_succ]
              refine pickA (v := ?_) 2 (some 124) rfl rfl (by kernel_rfl) (by kernel_rfl) (by kernel_rfl) (by decide) (fun _ _ _ h => h) (by rfl) ?_ (by assumption) ?_
              rotate_left
              · intro w'
                go_simp
                try with_reducible rfl
              try simp only [Act.put, List.setIfInBounds_toArray, List.set_cons_zero, List.set_cons_succ]
              refine pickA (v := ?_) 3 (some 125) rfl rfl (by kernel_rfl) (by kernel_rfl) (by kernel_rfl) (by decide) (fun _ _ _ h => h) (by rfl) ?_ (by assumption) ?_
              rotate_left
              · intro w'
                go_simp
                try with_reducible rfl
              try simp only [Act.put, List.setIfInBounds_toArray, List.set_cons_zero, List.set_cons_succ]
              refine pickA (v := .bool false) 4 (some 126) rfl rfl (by kernel_rfl) (by kernel_rfl) (by kernel_rfl) (by decide) (fun _ _ _ h => h) (by rfl) ?_ (by assumption) ?_
              · intro w'
                go_simp
              try simp only [Act.put, List.setIfInBounds_toArray, List.set_cons_zero, List.set_cons_succ]
              refine pickA (v := ?_) 5 (some 127) rfl rfl (by kernel_rfl) (by kernel_rfl) (by kernel_rfl) (by decide) (fun _ _ _ h => h) (by rfl) ?_ (by assumption) ?_
              rotate_left
              · intro w'
                go_simp
                try with_reducible rfl
              try simp only [Act.put, List.setIfInBounds_toArray, List.set_cons_zero, List.set_cons_succ]
              refine pickA (v := ?_) 6 (some 128) rfl rfl (by kernel_rfl) (by kernel_rfl) (by kernel_rfl) (by decide) (fun _ _ _ h => h) (by rfl) ?_ (by assumption) ?_
              rotate_left
              · intro w'
                go_simp
                try with_reducible rfl
              try simp only [Act.put, List.setIfInBounds_toArray, List.set_cons_zero, List.set_cons_succ]
              refine pickA (v := ?_) 7 (some 129) rfl rfl (by kernel_rfl) (by kernel_rfl) (by kernel_rfl) (by decide) (fun _ _ _ h => h) (by rfl) ?_ (by assumption) ?_
              rotate_left
              · intro w'
                go_simp
                try with_reducible rfl
              try simp only [Act.put, List.setIfInBounds_toArray, List.set_cons_zero, List.set_cons_succ]
              refine pickL (v := ?_) 8 (some 130) rfl rfl (by kernel_rfl) (by kernel_rfl) (by kernel_rfl) (by decide) (by kernel_rfl) (by kernel_rfl) (fun _ _ _ h => h) (by rfl) ?_ (by assumption) ?_
              rotate_left
              · intro w' hSw
                obtain ⟨q0, q1, q2, q3⟩ := hSw
                go_simp
                try with_reducible rfl
              try simp only [Act.put, List.setIfInBounds_toArray, List.set_cons_zero, List.set_cons_succ]
              refine pickA (v := ?_) 9 (some 131) rfl rfl (by kernel_rfl) (by kernel_rfl) (by kernel_rfl) (by decide) (fun _ _ _ h => h) (by rfl) ?_ (by assumption) ?_
              rotate_left
              · intro w'
                go_simp
                try with_reducible rfl
              try simp only [Act.put, List.setIfInBounds_toArray, List.set_cons_zero, List.set_cons_succ]
              refine pickA (v := ?_) 10 (some 132) rfl rfl (by kernel_rfl) (by kernel_rfl) (by kernel_rfl) (by decide) (fun _ _ _ h => h) (by rfl) ?_ (by assumption) ?_
              rotate_left
              · intro w'
                go_simp
                try with_reducible rfl
              try simp only [Act.put, List.setIfInBounds_toArray, List.set_cons_zero, List.set_cons_succ]
              refine pickL (v := ?_) 11 (some 133) rfl rfl (by kernel_rfl) (by kernel_rfl) (by kernel_rfl) (by decide) (by kernel_rfl) (by kernel_rfl) (fun _ _ _ h => h) (by rfl) ?_ (by assumption) ?_
              rotate_left
              · intro w' hSw
                obtain ⟨q0, q1, q2, q3⟩ := hSw
                go_simp
                try with_reducible rfl
              try simp only [Act.put, List.setIfInBounds_toArray, List.set_cons_zero, List.set_cons_succ]
              refine pickA (v := .bool false) 12 (some 134) rfl rfl (by kernel_rfl) (by kernel_rfl) (by kernel_rfl) (by decide) (fun _ _ _ h => h) (by rfl) ?_ (by assumption) ?_
              · intro w'
                go_simp
              try simp only [Act.put, List.setIfInBounds_toArray, List.set_cons_zero, List.set_cons_succ]
              refine pickA (v := ?_) 13 (some 135) rfl rfl (by kernel_rfl) (by kernel_rfl) (by kernel_rfl) (by decide) (fun _ _ _ h => h) (by rfl) ?_ (by assumption) ?_
              rotate_left
              · intro w'
                go_simp
                try with_reducible rfl
              try simp only [Act.put, List.setIfInBounds_toArray, List.set_cons_zero, List.set_cons_succ]
              refine pickA (v := ?_) 14 (some 136) rfl rfl (by kernel_rfl) (by kernel_rfl) (by kernel_rfl) (by decide) (fun _ _ _ h => h) (by rfl) ?_ (by assumption) ?_
              rotate_left
              · intro w'
                go_simp
                try with_reducible rfl
              try simp only [Act.put, List.setIfInBounds_toArray, List.set_cons_zero, List.set_cons_succ]
              refine pickA (v := ?_) 16 (some 138) rfl rfl (by kernel_rfl) (by kernel_rfl) (by kernel_rfl) (by decide) (fun _ _ _ h => h) (by rfl) ?_ (by assumption) ?_
              rotate_left
              · intro w'
                go_simp
                try with_reducible rfl
              try simp only [Act.put, List.setIfInBounds_toArray, List.set_cons_zero, List.set_cons_succ]
              refine pickA (v := .slice xa (m - 1) (rc' - 1)) 17 (some 139) rfl rfl (by kernel_rfl) (by kernel_rfl) (by kernel_rfl) (by decide) (fun _ _ _ h => h) (by rfl) ?_ (by assumption) ?_
              · intro w'
                go_simp
                rw [hxa.out, if_pos (by omega)]
              try simp only [Act.put, List.setIfInBounds_toArray, List.set_cons_zero, List.set_cons_succ]
              refine oneL (i := 15) (by kernel_rfl) rfl (fun K hK => ?_)
              go_simp
              refine (waits_any b _ _ _ T6.out.ls).mono ?_; rintro e w7 ⟨xv, rfl, hx, -, hb7⟩
              have B7 := hide hb7
              obtain ⟨xb, xc, rfl, -, -⟩ := hx.shape
              have X7 := hide hx.sl
              clear hx hb7
              generalize os'.tail.length = xn at X7 ⊢
              have hS7' := hide (hK33.out w7 B7.out)
              refine hK.out _ _ ?_ ?_
              · exact hS7'.out
              clear hK K
              try simp only [Act.put, List.setIfInBounds_toArray, List.set_cons_zero, List.set_cons_succ]
              clear hHeld
              have hHeld := hS7'.out
              refine oneL (i := 18) (by kernel_rfl) rfl (fun K hK => ?_)
              go_simp
              refine (same_any _ _ os'.tail (by have := T6.out.ls.len; rw [List.length_tail]; omega) _ X7.out (hSlT.out.below B7.out)).mono ?_; rintro e w8 ⟨rfl, hb8⟩
              have B8 := hide (B7.out.trans (hb8.mono B7.out.size))
              have hS8' := hide (hK33.out w8 B8.out)
              clear hb8
              refine hK.out _ _ ?_ ?_
              · exact hS8'.out
              clear hK K
              try simp only [Act.put, List.setIfInBounds_toArray, List.set_cons_zero, List.set_cons_succ]
              clear hHeld
              have hHeld := hS8'.out
              refine pickA (v := ?_) 19 (some 141) rfl rfl (by kernel_rfl) (by kernel_rfl) (by kernel_rfl) (by decide) (fun _ _ _ h => h) (by rfl) ?_ (by assumption) ?_
              rotate_left
              · intro w'
                go_simp
                try with_reducible rfl
              try simp only [Act.put, List.setIfInBounds_toArray, List.set_cons_zero, List.set_cons_succ]
              refine pickA (v := ?_) 20 (some 142) rfl rfl (by kernel_rfl) (by kernel_rfl) (by kernel_rfl) (by decide) (fun _ _ _ h => h) (by rfl) ?_ (by assumption) ?_
              rotate_left
              · intro w'
                go_simp
                try with_reducible rfl
              try simp only [Act.put, List.setIfInBounds_toArray, List.set_cons_zero, List.set_cons_succ]
              refine pickA (v := ?_) 21 (some 143) rfl rfl (by kernel_rfl) (by kernel_rfl) (by kernel_rfl) (by decide) (fun _ _ _ h => h) (by rfl) ?_ (by assumption) ?_
              rotate_left
              · intro w'
                go_simp
                try with_reducible rfl
              try simp only [Act.put, List.setIfInBounds_toArray, List.set_cons_zero, List.set_cons_succ]
              refine pickA (v := ?_) 22 (some 144) rfl rfl (by kernel_rfl) (by kernel_rfl) (by kernel_rfl) (by decide) (fun _ _ _ h => h) (by rfl) ?_ (by assumption) ?_
              rotate_left
              · intro w'
                go_simp
                try with_reducible rfl
              try simp only [Act.put, List.setIfInBounds_toArray, List.set_cons_zero, List.set_cons_succ]
              refine pickA (v := ?_) 23 (some 145) rfl rfl (by kernel_rfl) (by kernel_rfl) (by kernel_rfl) (by decide) (fun _ _ _ h => h) (by rfl) ?_ (by assumption) ?_
              rotate_left
              · intro w'
                go_simp
                try with_reducible rfl
              try simp only [Act.put, List.setIfInBounds_toArray, List.set_cons_zero, List.set_cons_succ]
              refine pickA (v := ?_) 24 (some 146) rfl rfl (by kernel_rfl) (by kernel_rfl) (by kernel_rfl) (by decide) (fun _ _ _ h => h) (by rfl) ?_ (by assumption) ?_
              rotate_left
              · intro w'
                go_simp
                try with_reducible rfl
              try simp only [Act.put, List.setIfInBounds_toArray, List.set_cons_zero, List.set_cons_succ]
              refine pickA (v := ?_) 25 (some 147) rfl rfl (by kernel_rfl) (by kernel_rfl) (by kernel_rfl) (by decide) (fun _ _ _ h => h) (by rfl) ?_ (by assumption) ?_
              rotate_left
              · intro w'
                go_simp
                try with_reducible rfl
              try simp only [Act.put, List.setIfInBounds_toArray, List.set_cons_zero, List.set_cons_succ]
              refine pickA (v := ?_) 26 (some 148) rfl rfl (by kernel_rfl) (by kernel_rfl) (by kernel_rfl) (by decide) (fun _ _ _ h => h) (by rfl) ?_ (by assumption) ?_
              rotate_left
              · intro w'
                go_simp
                try with_reducible rfl
              try simp only [Act.put, List.setIfInBounds_toArray, List.set_cons_zero, List.set_cons_succ]
              refine pickN 27 (some 149) rfl rfl (by kernel_rfl) (by kernel_rfl) (by kernel_rfl) (by decide) (fun _ _ _ h => h) (by rfl) (by assumption) ?_
              try simp only [Act.put, List.setIfInBounds_toArray, List.set_cons_zero, List.set_cons_succ]
              refine pickN 28 (some 150) rfl rfl (by kernel_rfl) (by kernel_rfl) (by kernel_rfl) (by decide) (fun _ _ _ h => h) (by rfl) (by assumption) ?_
              try simp only [Act.put, List.setIfInBounds_toArray, List.set_cons_zero, List.set_cons_succ]
              refine pickN 29 (some 151) rfl rfl (by kernel_rfl) (by kernel_rfl) (by kernel_rfl) (by decide) (fun _ _ _ h => h) (by rfl) (by assumption) ?_
              try simp only [Act.put, List.setIfInBounds_toArray, List.set_cons_zero, List.set_cons_succ]
              refine pickN 30 (some 152) rfl rfl (by kernel_rfl) (by kernel_rfl) (by kernel_rfl) (by decide) (fun _ _ _ h => h) (by rfl) (by assumption) ?_
              try simp only [Act.put, List.setIfInBounds_toArray, List.set_cons_zero, List.set_cons_succ]
              refine pickA (v := ?_) 31 (some 153) rfl rfl (by kernel_rfl) (by kernel_rfl) (by kernel_rfl) (by decide) (fun _ _ _ h => h) (by rfl) ?_ (by assumption) ?_
              rotate_left
              · intro w'
                go_simp
                try with_reducible rfl
              try simp only [Act.put, List.setIfInBounds_toArray, List.set_cons_zero, List.set_cons_succ]
              refine pickA (v := ?_) 32 (some 154) rfl rfl (by kernel_rfl) (by kernel_rfl) (by kernel_rfl) (by decide) (fun _ _ _ h => h) (by rfl) ?_ (by assumption) ?_
              rotate_left
              · intro w'
                go_simp
                try with_reducible rfl
              try simp only [Act.put, List.setIfInBounds_toArray, List.set_cons_zero, List.set_cons_succ]
              refine doneL (by kernel_rfl) ?_ _
              clear hHeld
              go_wp2
              refine ⟨⟨j + 1, by omega, by omega, by simp, v', os', ?_, K6.out.bel B8.out⟩, by simp [intOf]; omega⟩
              have := T6.out.below B8.out
              exact this
            · have hos : os' = [] := List.eq_nil_of_length_eq_zero (by omega)
              subst hos
              have T6 := hide (T6a.below ((Below.refl _ _).drew))
              clear T6a O6a hne
              simp only [List.length_nil, hd, List.headD_nil, Nat.lt_irrefl, decide_false] at *
              go_wp2
              generalize w5.alloc (.cells #[.int .i64 0, .int .i64 0] 27) = W6 at *
              generalize w5.heap.size = F at *
              refine regionL 33 (fun _ => True) mixed trivial (fun hHeld => ?_)
              refine pickA (v := ?_) 0 (some 122) rfl rfl (by kernel_rfl) (by kernel_rfl) (by kernel_rfl) (by decide) (fun _ _ _ h => h) (by rfl) ?_ (by assumption) ?_
              rotate_left
              · intro w'
                go_simp
                try with_reducible rfl
              try simp only [Act.put, List.setIfInBounds_toArray, List.set_cons_zero, List.set_cons_succ]
              refine pickA (v := ?_) 1 (some 123) rfl rfl (by kernel_rfl) (by kernel_rfl) (by kernel_rfl) (by decide) (fun _ _ _ h => h) (by rfl) ?_ (by assumption) ?_
              rotate_left
              · intro w'
                go_simp
                try with_reducible rfl
              try simp only [Act.put, List.setIfInBounds_toArray, List.set_cons_zero, List.set_cons_succ]
              refine pickA (v := ?_) 2 (some 124) rfl rfl (by kernel_rfl) (by kernel_rfl) (by kernel_rfl) (by decide) (fun _ _ _ h => h) (by rfl) ?_ (by assumption) ?_
              rotate_left
              · intro w'
                go_simp
                try with_reducible rfl
              try simp only [Act.put, List.setIfInBounds_toArray, List.set_cons_zero, List.set_cons_succ]
              refine pickA (v := ?_) 3 (some 125) rfl rfl (by kernel_rfl) (by kernel_rfl) (by kernel_rfl) (by decide) (fun _ _ _ h => h) (by rfl) ?_ (by assumption) ?_
              rotate_left
              · intro w'
                go_simp
                try with_reducible rfl
              try simp only [Act.put, List.setIfInBounds_toArray, List.set_cons_zero, List.set_cons_succ]
              refine pickA (v := .bool false) 4 (some 126) rfl rfl (by kernel_rfl) (by kernel_rfl) (by kernel_rfl) (by decide) (fun _ _ _ h => h) (by rfl) ?_ (by assumption) ?_
              · intro w'
                go_simp
              try simp only [Act.put, List.setIfInBounds_toArray, List.set_cons_zero, List.set_cons_succ]
              refine pickA (v := ?_) 5 (some 127) rfl rfl (by kernel_rfl) (by kernel_rfl) (by kernel_rfl) (by decide) (fun _ _ _ h => h) (by rfl) ?_ (by assumption) ?_
              rotate_left
              · intro w'
                go_simp
                try with_reducible rfl
              try simp only [Act.put, List.setIfInBounds_toArray, List.set_cons_zero, List.set_cons_succ]
              refine pickA (v := ?_) 6 (some 128) rfl rfl (by kernel_rfl) (by kernel_rfl) (by kernel_rfl) (by decide) (fun _ _ _ h => h) (by rfl) ?_ (by assumption) ?_
              rotate_left
              · intro w'
                go_simp
                try with_reducible rfl
              try simp only [Act.put, List.setIfInBounds_toArray, List.set_cons_zero, List.set_cons_succ]
              refine pickA (v := ?_) 7 (some 129) rfl rfl (by kernel_rfl) (by kernel_rfl) (by kernel_rfl) (by decide) (fun _ _ _ h => h) (by rfl) ?_ (by assumption) ?_
              rotate_left
              · intro w'
                go_simp
                try with_reducible rfl
              try simp only [Act.put, List.setIfInBounds_toArray, List.set_cons_zero, List.set_cons_succ]
              refine pickN 8 (some 130) rfl rfl (by kernel_rfl) (by kernel_rfl) (by kernel_rfl) (by decide) (fun _ _ _ h => h) (by rfl) (by assumption) ?_
              try simp only [Act.put, List.setIfInBounds_toArray, List.set_cons_zero, List.set_cons_succ]
              refine pickN 9 (some 131) rfl rfl (by kernel_rfl) (by kernel_rfl) (by kernel_rfl) (by decide) (fun _ _ _ h => h) (by rfl) (by assumption) ?_
              try simp only [Act.put, List.setIfInBounds_toArray, List.set_cons_zero, List.set_cons_succ]
              refine pickN 10 (some 132) rfl rfl (by kernel_rfl) (by kernel_rfl) (by kernel_rfl) (by decide) (fun _ _ _ h => h) (by rfl) (by assumption) ?_
              try simp only [Act.put, List.setIfInBounds_toArray, List.set_cons_zero, List.set_cons_succ]
              refine pickN 11 (some 133) rfl rfl (by kernel_rfl) (by kernel_rfl) (by kernel_rfl) (by decide) (fun _ _ _ h => h) (by rfl) (by assumption) ?_
              try simp only [Act.put, List.setIfInBounds_toArray, List.set_cons_zero, List.set_cons_succ]
              refine pickN 12 (some 134) rfl rfl (by kernel_rfl) (by kernel_rfl) (by kernel_rfl) (by decide) (fun _ _ _ h => h) (by rfl) (by assumption) ?_
              try simp only [Act.put, List.setIfInBounds_toArray, List.set_cons_zero, List.set_cons_succ]
              refine pickN 13 (some 135) rfl rfl (by kernel_rfl) (by kernel_rfl) (by kernel_rfl) (by decide) (fun _ _ _ h => h) (by rfl) (by assumption) ?_
              try simp only [Act.put, List.setIfInBounds_toArray, List.set_cons_zero, List.set_cons_succ]
              refine pickN 14 (some 136) rfl rfl (by kernel_rfl) (by kernel_rfl) (by kernel_rfl) (by decide) (fun _ _ _ h => h) (by rfl) (by assumption) ?_
              try simp only [Act.put, List.setIfInBounds_toArray, List.set_cons_zero, List.set_cons_succ]
              refine pickN 15 (some 137) rfl rfl (by kernel_rfl) (by kernel_rfl) (by kernel_rfl) (by decide) (fun _ _ _ h => h) (by rfl) (by assumption) ?_
              try simp only [Act.put, List.setIfInBounds_toArray, List.set_cons_zero, List.set_cons_succ]
              refine pickN 16 (some 138) rfl rfl (by kernel_rfl) (by kernel_rfl) (by kernel_rfl) (by decide) (fun _ _ _ h => h) (by rfl) (by assumption) ?_
              try simp only [Act.put, List.setIfInBounds_toArray, List.set_cons_zero, List.set_cons_succ]
              refine pickN 17 (some 139) rfl rfl (by kernel_rfl) (by kernel_rfl) (by kernel_rfl) (by decide) (fun _ _ _ h => h) (by rfl) (by assumption) ?_
              try simp only [Act.put, List.setIfInBounds_toArray, List.set_cons_zero, List.set_cons_succ]
              refine pickN 18 (some 140) rfl rfl (by kernel_rfl) (by kernel_rfl) (by kernel_rfl) (by decide) (fun _ _ _ h => h) (by rfl) (by assumption) ?_
              try simp only [Act.put, List.setIfInBounds_toArray, List.set_cons_zero, List.set_cons_succ]
              refine pickN 19 (some 141) rfl rfl (by kernel_rfl) (by kernel_rfl) (by kernel_rfl) (by decide) (fun _ _ _ h => h) (by rfl) (by assumption) ?_
              try simp only [Act.put, List.setIfInBounds_toArray, List.set_cons_zero, List.set_cons_succ]
              refine pickN 20 (some 142) rfl rfl (by kernel_rfl) (by kernel_rfl) (by kernel_rfl) (by decide) (fun _ _ _ h => h) (by rfl) (by assumption) ?_
              try simp only [Act.put, List.setIfInBounds_toArray, List.set_cons_zero, List.set_cons_succ]
              refine pickA (v := ?_) 21 (some 143) rfl rfl (by kernel_rfl) (by kernel_rfl) (by kernel_rfl) (by decide) (fun _ _ _ h => h) (by rfl) ?_ (by assumption) ?_
              rotate_left
              · intro w'
                go_simp
                try with_reducible rfl
              try simp only [Act.put, List.setIfInBounds_toArray, List.set_cons_zero, List.set_cons_succ]
              refine pickA (v := ?_) 22 (some 144) rfl rfl (by kernel_rfl) (by kernel_rfl) (by kernel_rfl) (by decide) (fun _ _ _ h => h) (by rfl) ?_ (by assumption) ?_
              rotate_left
              · intro w'
                go_simp
                try with_reducible rfl
              try simp only [Act.put, List.setIfInBounds_toArray, List.set_cons_zero, List.set_cons_succ]
              refine pickA (v := ?_) 23 (some 145) rfl rfl (by kernel_rfl) (by kernel_rfl) (by kernel_rfl) (by decide) (fun _ _ _ h => h) (by rfl) ?_ (by assumption) ?_
              rotate_left
              · intro w'
                go_simp
                try with_reducible rfl
              try simp only [Act.put, List.setIfInBounds_toArray, List.set_cons_zero, List.set_cons_succ]
              refine pickA (v := ?_) 24 (some 146) rfl rfl (by kernel_rfl) (by kernel_rfl) (by kernel_rfl) (by decide) (fun _ _ _ h => h) (by rfl) ?_ (by assumption) ?_
              rotate_left
              · intro w'
                go_simp
                try with_reducible rfl
              try simp only [Act.put, List.setIfInBounds_toArray, List.set_cons_zero, List.set_cons_succ]
              refine pickA (v := ?_) 25 (some 147) rfl rfl (by kernel_rfl) (by kernel_rfl) (by kernel_rfl) (by decide) (fun _ _ _ h => h) (by rfl) ?_ (by assumption) ?_
              rotate_left
              · intro w'
                go_simp
                try with_reducible rfl
              try simp only [Act.put, List.setIfInBounds_toArray, List.set_cons_zero, List.set_cons_succ]
              refine pickA (v := ?_) 26 (some 148) rfl rfl (by kernel_rfl) (by kernel_rfl) (by kernel_rfl) (by decide) (fun _ _ _ h => h) (by rfl) ?_ (by assumption) ?_
              rotate_left
              · intro w'
                go_simp
                try with_reducible rfl
              try simp only [Act.put, List.setIfInBounds_toArray, List.set_cons_zero, List.set_cons_succ]
              refine pickA (v := ?_) 27 (some 149) rfl rfl (by kernel_rfl) (by kernel_rfl) (by kernel_rfl) (by decide) (fun _ _ _ h => h) (by rfl) ?_ (by assumption) ?_
              rotate_left
              · intro w'
                go_simp
                try with_reducible rfl
              try simp only [Act.put, List.setIfInBounds_toArray, List.set_cons_zero, List.set_cons_succ]
              refine oneL (i := 28) (by kernel_rfl) rfl (fun K hK => ?_)
              go_simp
              refine (waits_any b _ _ _ T6.out.ls).mono ?_; rintro e w7 ⟨xv, rfl, hx, -, hb7⟩
              have B7 := hide hb7
              obtain ⟨xb, xc, rfl, -, -⟩ := hx.shape
              clear hx hb7
              refine hK.out _ _ ?_ ?_
              · trivial
              clear hK K
              try simp only [Act.put, List.setIfInBounds_toArray, List.set_cons_zero, List.set_cons_succ]
              refine pickA (v := ?_) 29 (some 151) rfl rfl (by kernel_rfl) (by kernel_rfl) (by kernel_rfl) (by decide) (fun _ _ _ h => h) (by rfl) ?_ (by assumption) ?_
              rotate_left
              · intro w'
                go_simp
                try with_reducible rfl
              try simp only [Act.put, List.setIfInBounds_toArray, List.set_cons_zero, List.set_cons_succ]
              refine pickA (v := ?_) 30 (some 152) rfl rfl (by kernel_rfl) (by kernel_rfl) (by kernel_rfl) (by decide) (fun _ _ _ h => h) (by rfl) ?_ (by assumption) ?_
              rotate_left
              · intro w'
                go_simp
                try with_reducible rfl
              try simp only [Act.put, List.setIfInBounds_toArray, List.set_cons_zero, List.set_cons_succ]
              refine pickA (v := ?_) 31 (some 153) rfl rfl (by kernel_rfl) (by kernel_rfl) (by kernel_rfl) (by decide) (fun _ _ _ h => h) (by rfl) ?_ (by assumption) ?_
              rotate_left
              · intro w'
                go_simp
                try with_reducible rfl
              try simp only [Act.put, List.setIfInBounds_toArray, List.set_cons_zero, List.set_cons_succ]
              refine pickA (v := ?_) 32 (some 154) rfl rfl (by kernel_rfl) (by kernel_rfl) (by kernel_rfl) (by decide) (fun _ _ _ h => h) (by rfl) ?_ (by assumption) ?_
              rotate_left
              · intro w'
                go_simp
                try with_reducible rfl
              try simp only [Act.put, List.setIfInBounds_toArray, List.set_cons_zero, List.set_cons_succ]
              refine doneL (by kernel_rfl) ?_ _
              clear hHeld
              go_wp2
              refine ⟨⟨j + 1, by omega, by omega, by simp, v', [], ?_, K6.out.bel B7.out⟩, by simp [intOf]; omega⟩
              have := T6.out.below B7.out
              exact this
          have TQ := hide (TA.out.below HQ)
          have KQ := hide (KA.out.bel HQ)
          have IQ := hide (IA.out.below HQ)
          have hzz : Hid (zz = plc (a, o) os) := Seen.end_ TA.out.good (by rw [hn.out]; exact hSeen)
          have hAq : Hid (b < A) := hbw
          have hqw : Hid (w1.heap.size ≤ wq.heap.size) := KQ.out.size
          have i0 := IQ.out.cell 0
          have i1 := IQ.out.cell 1
          have i2 := IQ.out.cell 2
          simp at i0 i1 i2
          have hrest' := hide hrest
          clear hrest hSeen HQ hK2
          by_cases k1 : kd = 1
          · subst k1
            obtain ⟨B, E, os', hg, hC, hcs⟩ := ask_turn TA.out.good (by rw [hn.out]; exact hlo) a o
            replace hC := hide hC
            replace hg := hide hg
            replace hcs := hide hcs
            go_wp2_with fail
            clear i0 i1 i2
            refine (hC.out b v _ TQ.out.ls).mono ?_; rintro e w2 ⟨rfl, v', hx⟩
            obtain ⟨hrr, hap⟩ := TQ.out.call hx
            have I2 := IQ.out.kp hx.kp (by simp; have := hAq.out; omega)
            have K2' := hide (KQ.out.trans hx.kp (by simp))
            replace hrr := hide hrr
            replace hap := hide hap
            replace hx := hide hx
            rcases hcs.out with ⟨rfl, hp, he⟩ | ⟨hE, rfl⟩ | ⟨rfl, hp, rfl⟩
            · have hzm : zz = -1 := hzz.out.trans hp
              subst hzm
              have bel3 := (Below.refl w2.heap.size w2).alloc (Nat.le_refl _) (.cells #[.int .i64 a, .int .i64 o] 27)
              obtain ⟨va, vc, W4, hrun, hTS, hbel⟩ := TS.more (B := w1.heap.size) (hx.out.ls.below bel3) hg.out (hrr.out.below bel3) hap.out TQ.out.up (by have := K2'.out.size; simp; omega) (by rw [hn.out]; omega) (Sl.one (IsB.new w2 #[.int .i64 a, .int .i64 o] 27)) he 28
              have K4 := hide ((K2'.out.bel bel3).lowBel hbel)
              have HTS := hide hTS
              have j1 := I2.cell 1
              have j2 := I2.cell 2
              simp at j1 j2
              have hon : Hid (os'.length = os'.length) := rfl
              clear bel3 hbel hTS I2
              replace he := hide he
              generalize hmm : os'.length = mm at *
              go_wp2_with (at_builtin; refine wpList_append_eq rfl (.tmp 66) (.tmp 69) 28 rfl _ _ (.slice va mm vc) W4 rfl rfl hrun ?_)
              exact hrest'.out _ _ _ _ _ _ _ _ _ _ _ _ _ _ _ _ _ _ _ _ _ _ _ _ _ _ _ _ _ _ _ _ _ _ _ _ _ _ _ _ _ _ _ _ _ _ _ _ _ _ _ _ _ _ _ _ _ _ _ _ _ _ _ _ _ _ _ _ _ _ _ _ _ _ _ _ _ _ _ _ _ _ _ _ _ _ _ _ _ _ _ _ _ _ _ _ _ _ _ _ _ _ _ _ _ _ _ _ _ _ _ _ _ _ _ _ _ _ _ _ _ _ _ _ _ _ _ _ _ _ _ _ _ _ _ _ _ _ _ _ _ _ _ _ _ _ _ _ _ os' _ v' _ hmm HTS.out K4.out
            · have hE' : (E == 0) = false := by simpa using hE
              clear hE I2
              go_wp2
              exact hrest'.out _ _ _ _ _ _ _ _ _ _ _ _ _ _ _ _ _ _ _ _ _ _ _ _ _ _ _ _ _ _ _ _ _ _ _ _ _ _ _ _ _ _ _ _ _ _ _ _ _ _ _ _ _ _ _ _ _ _ _ _ _ _ _ _ _ _ _ _ _ _ _ _ _ _ _ _ _ _ _ _ _ _ _ _ _ _ _ _ _ _ _ _ _ _ _ _ _ _ _ _ _ _ _ _ _ _ _ _ _ _ _ _ _ _ _ _ _ _ _ _ _ _ _ _ _ _ _ _ _ _ _ _ _ _ _ _ _ _ _ _ _ _ _ _ _ _ _ _ _ os' _ v' _ hn.out ⟨hx.out.ls, hrr.out, hg.out, hap.out, TQ.out.up⟩ K2'.out
            · have hz0 : 0 ≤ zz := by rw [hzz.out]; exact hp
              clear hp I2
              go_wp2
              exact hrest'.out _ _ _ _ _ _ _ _ _ _ _ _ _ _ _ _ _ _ _ _ _ _ _ _ _ _ _ _ _ _ _ _ _ _ _ _ _ _ _ _ _ _ _ _ _ _ _ _ _ _ _ _ _ _ _ _ _ _ _ _ _ _ _ _ _ _ _ _ _ _ _ _ _ _ _ _ _ _ _ _ _ _ _ _ _ _ _ _ _ _ _ _ _ _ _ _ _ _ _ _ _ _ _ _ _ _ _ _ _ _ _ _ _ _ _ _ _ _ _ _ _ _ _ _ _ _ _ _ _ _ _ _ _ _ _ _ _ _ _ _ _ _ _ _ _ _ _ _ _ os' _ v' _ hn.out ⟨hx.out.ls, hrr.out, hg.out, hap.out, TQ.out.up⟩ K2'.out
          · by_cases k2 : kd = 2
            · subst k2
              obtain ⟨X, Y, B, E, os', hg, hC, hcs⟩ := free_turn TA.out.good a o
              replace hC := hide hC
              replace hg := hide hg
              replace hcs := hide hcs
              go_wp2_with fail
              clear i0 i1 i2
              refine (hC.out b v _ TQ.out.ls).mono ?_; rintro e w2 ⟨rfl, v', hx⟩
              obtain ⟨hrr, hap⟩ := TQ.out.call hx
              have bel2 := (Below.refl w2.heap.size w2).alloc (Nat.le_refl _) (.cells #[.int .i64 X, .int .i64 Y] 27)
              have K2' := hide ((KQ.out.trans hx.kp (by simp)).bel bel2)
              have hrr2 := hide (hrr.below bel2)
              have hls2 := hide (hx.ls.below bel2)
              have hlt2 : Hid (∀ k, (Value.slice ra n rc).ownBlock = some k → k < w2.heap.size) := fun k hk => (hrr.lt k hk).1
              replace hap := hide hap
              clear hrr hx bel2
              rcases hcs.out with ⟨rfl, hp, rfl, hl0⟩ | ⟨hE, hp, rfl⟩
              · have hzm : zz = 0 := hzz.out.trans hp
                subst hzm
                obtain ⟨g, rcx, hgv, hcap, -, -⟩ := hrr2.out.form hl0
                injection hgv with hgv hgn hgc
                clear hgn
                subst hgv hgc
                have hSlT := Rw.tailSl (g := g) (cap := rc) (os := os) (by have h := hrr2.out; rw [← hn.out] at h; exact h) 1 hl0
                rw [List.drop_one] at hSlT
                simp only [Nat.one_mul] at hSlT
                rw [hn.out] at hSlT hcap hl0
                have hfin : Hid (∀ x, Sl (w2.alloc (.cells #[.int .i64 X, .int .i64 Y] 27)) x os.tail → ∃ va vc W4, (Builtin.append_ #[28, 28] 28 #[.slice (some ⟨w2.heap.size + 1, 0, none⟩) 0 0, x]).run Try.prog ((w2.alloc (.cells #[.int .i64 X, .int .i64 Y] 27)).alloc (.cells #[] 27)) = .ok (.slice va os.tail.length vc) W4 ∧ TS w1.heap.size W4 b v' (.slice va os.tail.length vc) os.tail ∧ Kp [b] w1 W4) := fun x hx => by
                  have bel4 := (Below.refl _ (w2.alloc (.cells #[.int .i64 X, .int .i64 Y] 27))).alloc (Nat.le_refl _) (.cells #[] 27)
                  have hp4 := IsB.new (w2.alloc (.cells #[.int .i64 X, .int .i64 Y] 27)) #[] 27
                  obtain ⟨va, vc, W4, h1, h2, h3, h4⟩ := run_clone hp4 (hx.below bel4) (by rw [List.length_tail, hn.out]; omega) 28
                  rw [World.size_alloc] at h1
                  have hb4 := bel4.grown h4 (by simp) (fun k hk => by simp at hk ⊢; omega)
                  refine ⟨va, vc, W4, h1, TS.anew hls2.out hg.out h2 hb4 (fun k hk => ?_) K2'.out.size, K2'.out.bel hb4⟩
                  rcases h3 k hk with h | h
                  · rw [h]; simp
                  · simp at h ⊢; omega
                clear hrr2 hlt2
                by_cases hc1 : rc = 1
                · subst hc1
                  obtain rfl : n = 1 := by omega
                  obtain ⟨va, vc, W4, hrun, hTS, hK4⟩ := hfin.out (.slice (some ⟨g, 0, none⟩) 0 0) (by simpa using hSlT)
                  have HTS := hide hTS
                  have HK4 := hide hK4
                  clear hfin hSlT hTS hK4
                  generalize hmm : os.tail.length = mm at *
                  go_wp2_with (at_builtin; refine wpList_append_eq rfl (.tmp 88) (.tmp 90) 28 rfl _ _ (.slice va mm vc) W4 rfl rfl hrun ?_)
                  exact hrest'.out _ _ _ _ _ _ _ _ _ _ _ _ _ _ _ _ _ _ _ _ _ _ _ _ _ _ _ _ _ _ _ _ _ _ _ _ _ _ _ _ _ _ _ _ _ _ _ _ _ _ _ _ _ _ _ _ _ _ _ _ _ _ _ _ _ _ _ _ _ _ _ _ _ _ _ _ _ _ _ _ _ _ _ _ _ _ _ _ _ _ _ _ _ _ _ _ _ _ _ _ _ _ _ _ _ _ _ _ _ _ _ _ _ _ _ _ _ _ _ _ _ _ _ _ _ _ _ _ _ _ _ _ _ _ _ _ _ _ _ _ _ _ _ _ _ _ _ _ _ os.tail _ v' _ hmm HTS.out HK4.out
                · obtain ⟨va, vc, W4, hrun, hTS, hK4⟩ := hfin.out (.slice (some ⟨g, 2, none⟩) (n - 1) (rc - 1)) (by rw [if_neg hc1] at hSlT; exact hSlT)
                  have HTS := hide hTS
                  have HK4 := hide hK4
                  clear hfin hSlT hTS hK4
                  generalize hmm : os.tail.length = mm at *
                  go_wp2_with (at_builtin; refine wpList_append_eq rfl (.tmp 88) (.tmp 90) 28 rfl _ _ (.slice va mm vc) W4 rfl rfl hrun ?_)
                  exact hrest'.out _ _ _ _ _ _ _ _ _ _ _ _ _ _ _ _ _ _ _ _ _ _ _ _ _ _ _ _ _ _ _ _ _ _ _ _ _ _ _ _ _ _ _ _ _ _ _ _ _ _ _ _ _ _ _ _ _ _ _ _ _ _ _ _ _ _ _ _ _ _ _ _ _ _ _ _ _ _ _ _ _ _ _ _ _ _ _ _ _ _ _ _ _ _ _ _ _ _ _ _ _ _ _ _ _ _ _ _ _ _ _ _ _ _ _ _ _ _ _ _ _ _ _ _ _ _ _ _ _ _ _ _ _ _ _ _ _ _ _ _ _ _ _ _ _ _ _ _ _ os.tail _ v' _ hmm HTS.out HK4.out
              · have hE' : (E == 0) = false := by simpa using hE
                have hz0 : (zz == 0) = false := by rw [hzz.out]; simpa using hp
                clear hE hp
                go_wp2
                exact hrest'.out _ _ _ _ _ _ _ _ _ _ _ _ _ _ _ _ _ _ _ _ _ _ _ _ _ _ _ _ _ _ _ _ _ _ _ _ _ _ _ _ _ _ _ _ _ _ _ _ _ _ _ _ _ _ _ _ _ _ _ _ _ _ _ _ _ _ _ _ _ _ _ _ _ _ _ _ _ _ _ _ _ _ _ _ _ _ _ _ _ _ _ _ _ _ _ _ _ _ _ _ _ _ _ _ _ _ _ _ _ _ _ _ _ _ _ _ _ _ _ _ _ _ _ _ _ _ _ _ _ _ _ _ _ _ _ _ _ _ _ _ _ _ _ _ _ _ _ _ _ os' _ v' _ hn.out ⟨hls2.out, hrr2.out, hg.out, hap.out, TQ.out.up⟩ K2'.out
            · by_cases k3 : kd = 3
              · subst k3
                obtain ⟨B, E, os', hg, hC, hcs⟩ := leave_turn TA.out.good a o
                replace hC := hide hC
                replace hg := hide hg
                replace hcs := hide hcs
                go_wp2_with fail
                clear i0 i1 i2
                refine (hC.out b v _ TQ.out.ls).mono ?_; rintro e w2 ⟨rfl, v', hx⟩
                obtain ⟨hrr, hap⟩ := TQ.out.call hx
                have K2' := hide (KQ.out.trans hx.kp (by simp))
                replace hrr := hide hrr
                replace hap := hide hap
                replace hx := hide hx
                rcases hcs.out with ⟨rfl, P, hp, hP1, hPl, he⟩ | ⟨rfl, hp, rfl⟩
                · have hzm : zz = (P : Int) := hzz.out.trans hp
                  subst hzm
                  obtain ⟨g, rcx, hgv, hcap, -, -⟩ := hrr.out.form (by omega)
                  injection hgv with hgv hgn hgc
                  clear hgn
                  subst hgv hgc
                  have hR : Rw w2.drew 27 2 (.slice (some ⟨g, 0, none⟩) os.length rc) os.length (ows os) := by have h := hrr.out.below ((Below.refl _ w2).drew); rw [← hn.out] at h; exact h
                  obtain ⟨q, hq⟩ : ∃ q : Nat, q = P + 1 := ⟨_, rfl⟩
                  have hqn : q ≤ os.length := by omega
                  have hwr : Hid (IntKind.i64.wrap ((P : Int) + 1) = (q : Int)) := by
                    show _ = _
                    rw [IntKind.wrap_i64]; have := hn.out; omega
                  have hS1 : Sl w2.drew (.slice (some ⟨g, 0, none⟩) P rc) (os.take P) := by
                    have h1 := hR.head P rc (by omega) (by omega) (Nat.le_refl _)
                    rw [ows_take] at h1
                    have h2 : (os.take P).length = P := by rw [List.length_take]; omega
                    exact Rw.sl (l := os.take P) (by rw [h2]; exact h1)
                  have hS2 := hR.tailSl q hqn
                  have HE : Hid (os.take P ++ os.drop q = os') := by show _ = _; rw [he, hq]; exact (List.eraseIdx_eq_take_drop_succ os P).symm
                  have hPn : Hid ((os.take P).length = P) := by show _ = _; rw [List.length_take]; omega
                  have bE := (Below.refl w2.drew.heap.size w2.drew).alloc (Nat.le_refl _) (.cells #[] 27)
                  obtain ⟨ta, tc, W8, hrun8, hrw8, hat8, hgr8⟩ := run_clone (IsB.new w2.drew #[] 27) (hS1.below bE) (by rw [hPn.out]; have := hn.out; omega) 28
                  have b8 := bE.grown hgr8 (by simp) (fun k hk => by simp at hk ⊢; omega)
                  have hat8' : ∀ k, (Value.slice ta (os.take P).length tc).ownBlock = some k → w2.drew.heap.size ≤ k := fun k hk => by
                    rcases hat8 k hk with h | h
                    · simp at h ⊢; omega
                    · simp at h ⊢; omega
                  obtain ⟨ua, uc, W9, hrun9, hrw9, hat9, h89⟩ := run_more hrw8 hat8' b8.size (by rw [hPn.out]; have := hn.out; omega) (hS2.below b8) (by rw [List.length_drop]; have := hn.out; omega) 28
                  have hb9 : Hid (Below w2.heap.size w2 W9) := ((Below.refl _ w2).drew).trans (b8.trans h89)
                  rw [hPn.out] at hrun8 hrun9
                  rw [HE.out] at hrun9 hrw9 hat9
                  generalize hxa : (if rc = q then some (⟨g, 0, none⟩ : Addr) else some ⟨g, q * 2, none⟩) = xa at hrun9
                  replace hxa := hide hxa
                  have HT9 : Hid (TS w1.heap.size W9 b v' (.slice ua os'.length uc) os') := TS.anew hx.out.ls hg.out hrw9 hb9.out (fun k hk => hat9 k hk) K2'.out.size
                  have HK9 := hide (K2'.out.bel hb9.out)
                  replace hrun8 := hide hrun8
                  replace hrun9 := hide hrun9
                  rw [hn.out] at hPl hqn hcap hrun9
                  have hcapP : P ≤ rc := by omega
                  have hPi : decide (0 < P) = true := by simp; omega
                  have hPj : (!decide (0 < P)) = false := by rw [hPi]; rfl
                  clear hS1 hS2 bE b8 h89 hrw8 hat8 hat8' hgr8 hR hrw9 hat9 he hp hb9 hap hrr
                  replace hq := hide hq
                  generalize hmm : os'.length = mm at *
                  go_wp2
                  refine regionL 11 (fun _ => True) mixed trivial (fun hHeld => ?_)
                  refine pickA (v := ?_) 1 (some 108) rfl rfl (by kernel_rfl) (by kernel_rfl) (by kernel_rfl) (by decide) (fun _ _ _ h => h) (by rfl) ?_ (by assumption) ?_
                  rotate_left
                  · intro w'
                    go_simp
                    try with_reducible rfl
                  try simp only [Act.put, List.setIfInBounds_toArray, List.set_cons_zero, List.set_cons_succ]
                  refine pickA (v := ?_) 2 (some 109) rfl rfl (by kernel_rfl) (by kernel_rfl) (by kernel_rfl) (by decide) (fun _ _ _ h => h) (by rfl) ?_ (by assumption) ?_
                  rotate_left
                  · intro w'
                    go_simp
                    try with_reducible rfl
                  try simp only [Act.put, List.setIfInBounds_toArray, List.set_cons_zero, List.set_cons_succ]
                  refine pickA (v := .slice (some ⟨g, 0, none⟩) P rc) 3 (some 110) rfl rfl (by kernel_rfl) (by kernel_rfl) (by kernel_rfl) (by decide) (fun _ _ _ h => h) (by rfl) ?_ (by assumption) ?_
                  · intro w'
                    go_simp
                  try simp only [Act.put, List.setIfInBounds_toArray, List.set_cons_zero, List.set_cons_succ]
                  refine pickA (v := ?_) 5 (some 112) rfl rfl (by kernel_rfl) (by kernel_rfl) (by kernel_rfl) (by decide) (fun _ _ _ h => h) (by rfl) ?_ (by assumption) ?_
                  rotate_left
                  · intro w'
                    go_simp
                    try with_reducible rfl
                  try simp only [Act.put, List.setIfInBounds_toArray, List.set_cons_zero, List.set_cons_succ]
                  refine pickA (v := ?_) 6 (some 113) rfl rfl (by kernel_rfl) (by kernel_rfl) (by kernel_rfl) (by decide) (fun _ _ _ h => h) (by rfl) ?_ (by assumption) ?_
                  rotate_left
                  · intro w'
                    go_simp
                    try with_reducible rfl
                  try simp only [Act.put, List.setIfInBounds_toArray, List.set_cons_zero, List.set_cons_succ]
                  refine pickA (v := .int .i64 (q : Int)) 7 (some 114) rfl rfl (by kernel_rfl) (by kernel_rfl) (by kernel_rfl) (by decide) (fun _ _ _ h => h) (by rfl) ?_ (by assumption) ?_
                  · intro w'
                    go_simp
                    rw [hwr.out]
                  try simp only [Act.put, List.setIfInBounds_toArray, List.set_cons_zero, List.set_cons_succ]
                  refine pickA (v := .slice xa (n - q) (rc - q)) 8 (some 115) rfl rfl (by kernel_rfl) (by kernel_rfl) (by kernel_rfl) (by decide) (fun _ _ _ h => h) (by rfl) ?_ (by assumption) ?_
                  · intro w'
                    go_simp
                    rw [hxa.out]
                  try simp only [Act.put, List.setIfInBounds_toArray, List.set_cons_zero, List.set_cons_succ]
                  refine oneL (i := 0) (by kernel_rfl) rfl (fun K hK => ?_)
                  go_simp
                  refine hK.out _ _ trivial ?_
                  clear hK K
                  try simp only [Act.put, List.setIfInBounds_toArray, List.set_cons_zero, List.set_cons_succ]
                  refine oneL (i := 4) (by kernel_rfl) rfl (fun K hK => ?_)
                  refine step_append_d (some 111) rfl rfl (.tmp 107) (.tmp 110) 28 rfl _ _ (.slice ta P tc) W8 rfl rfl hrun8.out ?_
                  refine hK.out _ _ trivial ?_
                  clear hK K
                  try simp only [Act.put, List.setIfInBounds_toArray, List.set_cons_zero, List.set_cons_succ]
                  refine oneL (i := 9) (by kernel_rfl) rfl (fun K hK => ?_)
                  refine step_append_d (some 116) rfl rfl (.tmp 111) (.tmp 115) 28 rfl _ _ (.slice ua mm uc) W9 rfl rfl hrun9.out ?_
                  refine hK.out _ _ trivial ?_
                  clear hK K
                  try simp only [Act.put, List.setIfInBounds_toArray, List.set_cons_zero, List.set_cons_succ]
                  refine pickA (v := ?_) 10 (some 4) rfl rfl (by kernel_rfl) (by kernel_rfl) (by kernel_rfl) (by decide) (fun _ _ _ h => h) (by rfl) ?_ (by assumption) ?_
                  rotate_left
                  · intro w'
                    go_simp
                    try with_reducible rfl
                  try simp only [Act.put, List.setIfInBounds_toArray, List.set_cons_zero, List.set_cons_succ]
                  refine doneL (by kernel_rfl) ?_ _
                  clear hHeld
                  go_wp2
                  exact hrest'.out _ _ _ _ _ _ _ _ _ _ _ _ _ _ _ _ _ _ _ _ _ _ _ _ _ _ _ _ _ _ _ _ _ _ _ _ _ _ _ _ _ _ _ _ _ _ _ _ _ _ _ _ _ _ _ _ _ _ _ _ _ _ _ _ _ _ _ _ _ _ _ _ _ _ _ _ _ _ _ _ _ _ _ _ _ _ _ _ _ _ _ _ _ _ _ _ _ _ _ _ _ _ _ _ _ _ _ _ _ _ _ _ _ _ _ _ _ _ _ _ _ _ _ _ _ _ _ _ _ _ _ _ _ _ _ _ _ _ _ _ _ _ _ _ _ _ _ _ _ os' _ v' _ hmm HT9.out HK9.out
                · have hz0 : zz < 1 := by rw [hzz.out]; exact hp
                  clear hp
                  go_wp2
                  exact hrest'.out _ _ _ _ _ _ _ _ _ _ _ _ _ _ _ _ _ _ _ _ _ _ _ _ _ _ _ _ _ _ _ _ _ _ _ _ _ _ _ _ _ _ _ _ _ _ _ _ _ _ _ _ _ _ _ _ _ _ _ _ _ _ _ _ _ _ _ _ _ _ _ _ _ _ _ _ _ _ _ _ _ _ _ _ _ _ _ _ _ _ _ _ _ _ _ _ _ _ _ _ _ _ _ _ _ _ _ _ _ _ _ _ _ _ _ _ _ _ _ _ _ _ _ _ _ _ _ _ _ _ _ _ _ _ _ _ _ _ _ _ _ _ _ _ _ _ _ _ _ os' _ v' _ hn.out ⟨hx.out.ls, hrr.out, hg.out, hap.out, TQ.out.up⟩ K2'.out
              · clear hrest'
                go_wp2
                exact ⟨⟨j + 1, by omega, by omega, by simp, v, os, TQ.out, KQ.out⟩, by simp [intOf]; omega⟩
        replace hAfter := hide hAfter
        clear hKI
        go_loopw [7, 8] (fun z i wq => ∃ (t : Nat) (zz : Int), t ≤ n ∧ i = .int .i64 (t : Int) ∧ z = .int .i64 zz ∧ Hid (Seen (a, o) os t zz) ∧ Hid (Below WA.heap.size WA wq)) (fun z i _ => n - (intOf i).toNat)
        case atStart => exact ⟨0, -1, by omega, rfl, rfl, Or.inl ⟨rfl, fun q h _ => by omega⟩, Below.refl _ _⟩
        case round =>
          obtain ⟨t, zz, ht, rfl, rfl, hSeen, HQ⟩ := hrel
          by_cases htn : t < n
          · have htl : t < os.length := by rw [hn.out]; exact htn
            have c1 := (IA.out.below HQ.out).cell 1
            have c2 := (IA.out.below HQ.out).cell 2
            simp at c1 c2
            obtain ⟨g, k, c, ev, -, -, p0, p1⟩ := (TA.out.rr.sl.below HQ.out).cells t htl
            injection ev with ev el ec
            clear el
            subst ev ec
            have HX : Hid (os[t] = (os[t].1, os[t].2)) := rfl
            generalize os[t].1 = x at p0 HX
            generalize os[t].2 = y at p1 HX
            by_cases hxy : x = a ∧ y = o
            · replace hxy := hide hxy
              have hS' : Hid (Seen (a, o) os (t + 1) (t : Int)) := Seen.yes htl (by rw [HX.out, hxy.out.1, hxy.out.2])
              go_wp2
              refine regionL 7 (fun w' => w'.cell? ⟨g, k + t * 2, none⟩ = some (.int .i64 x) ∧ w'.cell? ⟨g, k + t * 2 + 1, none⟩ = some (.int .i64 y) ∧ w'.cell? ⟨A, 1, none⟩ = some (.int .i64 a) ∧ w'.cell? ⟨A, 2, none⟩ = some (.int .i64 o)) mixed ⟨p0, p1, c1, c2⟩ (fun hHeld => ?_)
              refine pickA (v := ?_) 0 (some 41) rfl rfl (by kernel_rfl) (by kernel_rfl) (by kernel_rfl) (by decide) (fun _ _ _ h => h) (by rfl) ?_ (by assumption) ?_
              rotate_left
              · intro w'
                go_simp
                try with_reducible rfl
              try simp only [Act.put, List.setIfInBounds_toArray, List.set_cons_zero, List.set_cons_succ]
              refine pickA (v := ?_) 1 (some 42) rfl rfl (by kernel_rfl) (by kernel_rfl) (by kernel_rfl) (by decide) (fun _ _ _ h => h) (by rfl) ?_ (by assumption) ?_
              rotate_left
              · intro w'
                go_simp
                try with_reducible rfl
              try simp only [Act.put, List.setIfInBounds_toArray, List.set_cons_zero, List.set_cons_succ]
              refine pickA (v := ?_) 2 (some 43) rfl rfl (by kernel_rfl) (by kernel_rfl) (by kernel_rfl) (by decide) (fun _ _ _ h => h) (by rfl) ?_ (by assumption) ?_
              rotate_left
              · intro w'
                go_simp
                try with_reducible rfl
              try simp only [Act.put, List.setIfInBounds_toArray, List.set_cons_zero, List.set_cons_succ]
              refine pickL (v := ?_) 3 (some 44) rfl rfl (by kernel_rfl) (by kernel_rfl) (by kernel_rfl) (by decide) (by kernel_rfl) (by kernel_rfl) (fun _ _ _ h => h) (by rfl) ?_ (by assumption) ?_
              rotate_left
              · intro w' hSw
                obtain ⟨q0, q1, q2, q3⟩ := hSw
                go_simp
                try with_reducible rfl
              try simp only [Act.put, List.setIfInBounds_toArray, List.set_cons_zero, List.set_cons_succ]
              refine pickA (v := ?_) 4 (some 45) rfl rfl (by kernel_rfl) (by kernel_rfl) (by kernel_rfl) (by decide) (fun _ _ _ h => h) (by rfl) ?_ (by assumption) ?_
              rotate_left
              · intro w'
                go_simp
                try with_reducible rfl
              try simp only [Act.put, List.setIfInBounds_toArray, List.set_cons_zero, List.set_cons_succ]
              refine pickL (v := ?_) 5 (some 46) rfl rfl (by kernel_rfl) (by kernel_rfl) (by kernel_rfl) (by decide) (by kernel_rfl) (by kernel_rfl) (fun _ _ _ h => h) (by rfl) ?_ (by assumption) ?_
              rotate_left
              · intro w' hSw
                obtain ⟨q0, q1, q2, q3⟩ := hSw
                go_simp
                try with_reducible rfl
              try simp only [Act.put, List.setIfInBounds_toArray, List.set_cons_zero, List.set_cons_succ]
              refine pickA (v := .bool true) 6 (some 47) rfl rfl (by kernel_rfl) (by kernel_rfl) (by kernel_rfl) (by decide) (fun _ _ _ h => h) (by rfl) ?_ (by assumption) ?_
              · intro w'
                go_simp
                simp [hxy.out.1, hxy.out.2]
              try simp only [Act.put, List.setIfInBounds_toArray, List.set_cons_zero, List.set_cons_succ]
              refine doneL (by kernel_rfl) ?_ _
              clear hHeld
              go_wp2
              exact ⟨⟨t + 1, (t : Int), by omega, by simp, rfl, hS', HQ.out.trans (((Below.refl _ wr).drew).mono HQ.out.size)⟩, by simp [intOf]; omega⟩
            · replace hxy : Hid (x = a → ¬y = o) := fun h1 h2 => hxy ⟨h1, h2⟩
              have hS' : Hid (Seen (a, o) os (t + 1) zz) := hSeen.out.no htl (by rw [HX.out]; intro e; injection e with e1 e2; exact hxy.out e1 e2)
              go_wp2
              refine regionL 7 (fun w' => w'.cell? ⟨g, k + t * 2, none⟩ = some (.int .i64 x) ∧ w'.cell? ⟨g, k + t * 2 + 1, none⟩ = some (.int .i64 y) ∧ w'.cell? ⟨A, 1, none⟩ = some (.int .i64 a) ∧ w'.cell? ⟨A, 2, none⟩ = some (.int .i64 o)) mixed ⟨p0, p1, c1, c2⟩ (fun hHeld => ?_)
              refine pickA (v := ?_) 0 (some 41) rfl rfl (by kernel_rfl) (by kernel_rfl) (by kernel_rfl) (by decide) (fun _ _ _ h => h) (by rfl) ?_ (by assumption) ?_
              rotate_left
              · intro w'
                go_simp
                try with_reducible rfl
              try simp only [Act.put, List.setIfInBounds_toArray, List.set_cons_zero, List.set_cons_succ]
              refine pickA (v := ?_) 1 (some 42) rfl rfl (by kernel_rfl) (by kernel_rfl) (by kernel_rfl) (by decide) (fun _ _ _ h => h) (by rfl) ?_ (by assumption) ?_
              rotate_left
              · intro w'
                go_simp
                try with_reducible rfl
              try simp only [Act.put, List.setIfInBounds_toArray, List.set_cons_zero, List.set_cons_succ]
              refine pickA (v := ?_) 2 (some 43) rfl rfl (by kernel_rfl) (by kernel_rfl) (by kernel_rfl) (by decide) (fun _ _ _ h => h) (by rfl) ?_ (by assumption) ?_
              rotate_left
              · intro w'
                go_simp
                try with_reducible rfl
              try simp only [Act.put, List.setIfInBounds_toArray, List.set_cons_zero, List.set_cons_succ]
              refine pickL (v := ?_) 3 (some 44) rfl rfl (by kernel_rfl) (by kernel_rfl) (by kernel_rfl) (by decide) (by kernel_rfl) (by kernel_rfl) (fun _ _ _ h => h) (by rfl) ?_ (by assumption) ?_
              rotate_left
              · intro w' hSw
                obtain ⟨q0, q1, q2, q3⟩ := hSw
                go_simp
                try with_reducible rfl
              try simp only [Act.put, List.setIfInBounds_toArray, List.set_cons_zero, List.set_cons_succ]
              refine pickA (v := ?_) 4 (some 45) rfl rfl (by kernel_rfl) (by kernel_rfl) (by kernel_rfl) (by decide) (fun _ _ _ h => h) (by rfl) ?_ (by assumption) ?_
              rotate_left
              · intro w'
                go_simp
                try with_reducible rfl
              try simp only [Act.put, List.setIfInBounds_toArray, List.set_cons_zero, List.set_cons_succ]
              refine pickL (v := ?_) 5 (some 46) rfl rfl (by kernel_rfl) (by kernel_rfl) (by kernel_rfl) (by decide) (by kernel_rfl) (by kernel_rfl) (fun _ _ _ h => h) (by rfl) ?_ (by assumption) ?_
              rotate_left
              · intro w' hSw
                obtain ⟨q0, q1, q2, q3⟩ := hSw
                go_simp
                try with_reducible rfl
              try simp only [Act.put, List.setIfInBounds_toArray, List.set_cons_zero, List.set_cons_succ]
              refine pickA (v := .bool false) 6 (some 47) rfl rfl (by kernel_rfl) (by kernel_rfl) (by kernel_rfl) (by decide) (fun _ _ _ h => h) (by rfl) ?_ (by assumption) ?_
              · intro w'
                go_simp
                exact hxy.out
              try simp only [Act.put, List.setIfInBounds_toArray, List.set_cons_zero, List.set_cons_succ]
              refine doneL (by kernel_rfl) ?_ _
              clear hHeld
              go_wp2
              exact ⟨⟨t + 1, zz, by omega, by simp, rfl, hS', HQ.out.trans (((Below.refl _ wr).drew).mono HQ.out.size)⟩, by simp [intOf]; omega⟩
          · obtain rfl : t = n := by omega
            go_wp2
            exact hAfter.out _ _ _ _ _ _ _ _ _ _ _ _ _ _ _ _ _ _ _ _ _ _ _ _ _ _ _ _ _ _ _ _ _ _ _ _ _ _ _ _ _ _ _ _ _ _ _ _ _ _ _ _ _ _ _ _ _ _ _ _ _ _ _ _ _ _ _ _ _ _ _ _ _ _ _ _ _ _ _ _ _ _ _ _ _ _ _ _ _ _ _ _ _ _ _ _ _ _ _ _ _ _ _ _ _ _ _ _ _ _ _ _ _ _ _ _ _ _ _ _ _ _ _ _ _ _ _ _ _ _ _ _ _ _ _ _ _ _ _ _ _ _ _ _ _ _ _ hSeen.out HQ.out
      · have e150 : Hid (j = 150) := by show j = 150; omega
        go_wp2_with fail
        refine (alive_any _).mono ?_; rintro e w9 ⟨rfl, hb9⟩
        have HB9 := hide (HB0.out.trans (hb9.mono HB0.out.size))
        clear hb9
        go_wp2
        go_ret
        exact ⟨rfl, HB9.out⟩
    · go_wp2_with fail
      refine (alive_any _).mono ?_; rintro e w9 ⟨rfl, hb9⟩
      have HB9 := hide (HB0.out.trans (hb9.mono HB0.out.size))
      clear hb9
      go_wp2
      go_ret
      exact ⟨rfl, HB9.out⟩

end Go.Proofs.Ytapknlmplhjfeaa
