/- The program's lists: every level's map is ranged over, then all are put in order. -/
import Derived.Test.YtfcmmchppcffmaaDoorGJ
import Derived.Test.YtfcmmchppcffmaaDoorLRG
import Derived.Test.YtfcmmchppcffmaaDoorLKG
namespace Go.Proofs.YtfcmmchppcffmaaDoor
open Go.RowKit Go.Maps Go.ChangeMaps

section
variable {P : Program} {ops : Array Oper} {rest : List Oper} {o : Oper} {a : Act} {w w' : World} {Q : Exit → Act → World → Prop}
theorem wpList_range_eq (hg : o.guard = none) (t : TypeId) (x : Operand) (hop : o.op = Op.range t x) {X v : Value} (hx : a.eval x = X) (hrun : (Instr.range t X).run P w = .ok v w') (h : wpList P ops Q rest (a.put o.dst v) w') : wpList P ops Q (o :: rest) a w := by
  refine wpList_plain hg fun K' hK' => ?_
  unfold Oper.wp
  simp [execOp, hop, hx, hrun, Result.andThen]
  exact hK' _ _ h
theorem wpList_next_eq (hg : o.guard = none) (x : Operand) (hop : o.op = Op.next x false) {X v : Value} (hx : a.eval x = X) (hrun : (Instr.next X false o.type).run P w = .ok v w') (h : wpList P ops Q rest (a.put o.dst v) w') : wpList P ops Q (o :: rest) a w := by
  refine wpList_plain hg fun K' hK' => ?_
  unfold Oper.wp
  simp [execOp, hop, hx, hrun, Result.andThen]
  exact hK' _ _ h
end

/-- A slice of lists; their members can be read. -/
structure LsRow (w : World) (v : Value) (l : List Rf) (As : List Lx) : Prop where
  row : Rw w 40 3 v As.length (flatX As)
  ms : ∀ x ∈ As, Rw w 30 5 (.slice x.1.2.1 x.1.2.2.1 x.1.2.2.2) (flt x.1.1.1 x.1.1 l).length (rfs (flt x.1.1.1 x.1.1 l))
theorem LsRow.below {w w' : World} {v : Value} {l : List Rf} {As : List Lx} (h : LsRow w v l As) (hb : Below w.heap.size w w') : LsRow w' v l As := ⟨h.row.below hb, fun x hx => (h.ms x hx).below hb⟩
theorem LsRow.keep {S : List Nat} {w w' : World} {v : Value} {l : List Rf} {As : List Lx} (h : LsRow w v l As) (hk : Kp S w w') (hS : ∀ k ∈ S, ∀ cs t, w.heap[k]? ≠ some (.cells cs t (0, 0))) : LsRow w' v l As :=
  ⟨h.row.kp hk (fun k hv hm => by obtain ⟨-, cur, hc⟩ := h.row.lt k hv; exact hS k hm _ _ hc), fun x hx => (h.ms x hx).kp hk (fun k hv hm => by obtain ⟨-, cur, hc⟩ := (h.ms x hx).lt k hv; exact hS k hm _ _ hc)⟩
theorem LsRow.nil (w : World) (l : List Rf) : LsRow w (.slice none 0 0) l [] := ⟨⟨rfl, Or.inl ⟨rfl, rfl⟩⟩, by simp⟩
theorem ref_list {w : World} {g : Nat} {cur cur2 : Array Value} (h1 : w.heap[g]? = some (.cells cur 30 (0, 0))) (h2 : w.heap[g]? = some (.cells cur2 40 (0, 0))) : False := by
  rw [h1] at h2
  injection h2 with h2
  injection h2 with _ h2
  exact absurd h2 (by decide)
theorem LsRow.push {w : World} {v : Value} {l : List Rf} {As : List Lx} (h : LsRow w v l As) (x : Lx) (hq : Rw w 30 5 (.slice x.1.2.1 x.1.2.2.1 x.1.2.2.2) (flt x.1.1.1 x.1.1 l).length (rfs (flt x.1.1.1 x.1.1 l))) (g c : Nat) (hg : IsB w g (encX x).toArray 40) (hlen : As.length ≤ 1000000) (ty : TypeId) :
    ∃ va vc w', (Builtin.append_ #[34, 34] ty #[v, .slice (some ⟨g, 0, none⟩) 1 c]).run Tryd.prog w = .ok (.slice va (As.length + 1) vc) w' ∧ LsRow w' (.slice va (As.length + 1) vc) l (As ++ [x]) ∧ w.grownBy w' v.ownBlock ∧ ((Value.slice va (As.length + 1) vc).ownBlock = v.ownBlock ∨ (Value.slice va (As.length + 1) vc).ownBlock = some w.heap.size) := by
  obtain ⟨i0, hi0, hz0, hz1, hz2⟩ := info_parts infoX
  have hcells : ∀ j u, (encX x)[j]? = some u → w.cell? ((⟨g, 0, none⟩ : Addr).add j) = some u := fun j u hu => by
    have e : (⟨g, 0, none⟩ : Addr).add j = ⟨g, j, none⟩ := by unfold Addr.add; split <;> simp_all
    rw [e, hg.cell j]
    simpa using hu
  obtain ⟨v', w', hrun, hrw, hgr, hat, -⟩ := run_append_rw (P := Tryd.prog) w 34 ty 40 i0 _ 3 40 Tryd.underlying34 hi0 hz0 hz1 hz2 rfl v As.length (flatX As) h.row (.slice (some ⟨g, 0, none⟩) 1 c) 1 (encX x) rfl (Or.inl ⟨⟨g, 0, none⟩, c, rfl, hcells⟩) (encX_one x) (by unfold maxLen; omega) (by omega)
  obtain ⟨va, vc, rfl, -, -⟩ := hrw.shape
  refine ⟨va, vc, w', hrun, ⟨?_, fun z hz => ?_⟩, hgr, hat⟩
  · rw [flatX_app]
    simpa using hrw
  · have hz2 : Rw w 30 5 (.slice z.1.2.1 z.1.2.2.1 z.1.2.2.2) (flt z.1.1.1 z.1.1 l).length (rfs (flt z.1.1.1 z.1.1 l)) := by
      rcases List.mem_append.1 hz with hz | hz
      · exact h.ms z hz
      · simp at hz
        rw [hz]
        exact hq
    refine hz2.kept fun k hk => hgr.block k (hz2.lt k hk).1 fun e => ?_
    obtain ⟨-, cur, hc⟩ := hz2.lt k hk
    obtain ⟨-, cur2, hc2⟩ := h.row.lt k e.symm
    exact ref_list hc hc2

/-- These are the names of all lists below level K, each once. -/
structure Nms (K : Nat) (l : List Rf) (ns : List Vc) : Prop where
  nod : ns.Nodup
  key : ∀ u ∈ ns, ∃ k : Nat, k < K ∧ ∃ r ∈ l, u = prV (k : Int) r
  all : ∀ k : Nat, k < K → ∀ r ∈ l, prV (k : Int) r ∈ ns
  len : ns.length ≤ K * l.length
theorem Nms.zero (l : List Rf) : Nms 0 l [] := ⟨List.nodup_nil, by simp, fun k hk => absurd hk (by omega), by simp⟩
theorem nodup_sub : ∀ (l l' : List Vc), l.Nodup → (∀ x ∈ l, x ∈ l') → l.length ≤ l'.length
  | [], _, _, _ => by simp
  | a :: t, l', h1, h2 => by
    have h := List.nodup_cons.1 h1
    have ih := nodup_sub t (l'.erase a) h.2 (fun x hx => (List.mem_erase_of_ne (fun (e : x = a) => h.1 (by rw [← e]; exact hx))).2 (h2 x (by simp [hx])))
    have ha := h2 a (by simp)
    rw [List.length_erase_of_mem ha] at ih
    have := List.length_pos_of_mem ha
    simp
    omega
theorem Nms.step {K : Nat} {l : List Rf} {ns ms : List Vc} {E : List (Vc × Value)} (h : Nms K l ns) (hp : ms.Perm (E.map (·.1))) (hn : (E.map (·.1)).Nodup) (hk : ∀ x ∈ E, ∃ r ∈ l, x.1 = prV (K : Int) r) (ha : ∀ r ∈ l, ∃ x ∈ E, x.1 = prV (K : Int) r) : Nms (K + 1) l (ns ++ ms) := by
  have hm : ∀ u ∈ ms, ∃ r ∈ l, u = prV (K : Int) r := fun u hu => by
    obtain ⟨x, hx, rfl⟩ := List.mem_map.1 (hp.mem_iff.1 hu)
    exact hk x hx
  refine ⟨?_, fun u hu => ?_, fun k hk2 r hr => ?_, ?_⟩
  · rw [List.nodup_append]
    refine ⟨h.nod, hp.nodup_iff.2 hn, fun u hu v hv e => ?_⟩
    obtain ⟨k, hkK, r, -, e1⟩ := h.key u hu
    obtain ⟨r2, -, e2⟩ := hm v hv
    have : ((k : Nat) : Int) = (K : Int) := by
      have e3 : (prV (k : Int) r).1 = (prV (K : Int) r2).1 := by rw [← e1, ← e2, e]
      exact e3
    omega
  · rcases List.mem_append.1 hu with hu | hu
    · obtain ⟨k, hkK, r, hr, e⟩ := h.key u hu
      exact ⟨k, by omega, r, hr, e⟩
    · obtain ⟨r, hr, e⟩ := hm u hu
      exact ⟨K, by omega, r, hr, e⟩
  · by_cases e : k = K
    · subst e
      obtain ⟨x, hx, e⟩ := ha r hr
      exact List.mem_append_right _ (hp.mem_iff.2 (List.mem_map.2 ⟨x, hx, e⟩))
    · exact List.mem_append_left _ (h.all k (by omega) r hr)
  · have h1 := nodup_sub ms (l.map (prV (K : Int))) (hp.nodup_iff.2 hn) (fun u hu => by
      obtain ⟨r, hr, e⟩ := hm u hu
      exact List.mem_map.2 ⟨r, hr, e.symm⟩)
    rw [List.length_map] at h1
    rw [List.length_append, Nat.succ_mul]
    have := h.len
    omega
theorem Nms.perm {K : Nat} {l : List Rf} {ns ms : List Vc} (h : Nms K l ns) (hp : ms.Perm ns) : Nms K l ms :=
  ⟨hp.nodup_iff.2 h.nod, fun u hu => h.key u (hp.mem_iff.1 hu), fun k hk r hr => hp.mem_iff.2 (h.all k hk r hr), by rw [hp.length_eq]; exact h.len⟩
/-- The name of a map's entry. -/
def nmA (E : List (Vc × Value)) (i : Nat) : Vc := match E[i]? with
  | some e => e.1
  | none => (0, 0)
theorem nmA_some {E : List (Vc × Value)} {i : Nat} {e : Vc × Value} (h : E[i]? = some e) : nmA E i = e.1 := by unfold nmA; rw [h]
theorem nmA_all (E : List (Vc × Value)) : (List.range E.length).map (nmA E) = E.map (·.1) := by
  apply List.ext_getElem?
  intro i
  by_cases hi : i < E.length
  · rw [List.getElem?_map, List.getElem?_range hi, List.getElem?_map, List.getElem?_eq_getElem hi]
    simp [nmA, hi]
  · rw [List.getElem?_eq_none (by simp; omega), List.getElem?_eq_none (by simp; omega)]
theorem nodup_lenN : ∀ (n : Nat) (J : List Nat), J.Nodup → (∀ i ∈ J, i < n) → J.length ≤ n
  | 0, J, _, h => by
    cases J with
    | nil => simp
    | cons a t => exact absurd (h a (by simp)) (by omega)
  | n + 1, J, h1, h2 => by
    by_cases hn : n ∈ J
    · have ih := nodup_lenN n (J.erase n) (h1.erase n) (fun i hi => by
        have := (h1.mem_erase_iff).1 hi
        have := h2 i this.2
        omega)
      rw [List.length_erase_of_mem hn] at ih
      omega
    · have ih := nodup_lenN n J h1 (fun i hi => by
        have := h2 i hi
        have : i ≠ n := fun e => hn (e ▸ hi)
        omega)
      omega
def slN : Value → Nat
  | .slice _ n _ => n
  | _ => 0
/-- Where the lists so far stand: nothing old has turned. -/
structure LsAt (base : Nat) (w0 w : World) (v : Value) (l : List Rf) (As : List Lx) : Prop where
  row : LsRow w v l As
  own : ∀ k, v.ownBlock = some k → base ≤ k
  low : Below base w0 w
theorem LsAt.below {base : Nat} {w0 w w' : World} {v : Value} {l : List Rf} {As : List Lx} (h : LsAt base w0 w v l As) (hb : Below w.heap.size w w') (hs : base ≤ w.heap.size) : LsAt base w0 w' v l As := ⟨h.row.below hb, h.own, h.low.trans (hb.mono hs)⟩

set_option maxHeartbeats 8000000 in
set_option maxRecDepth 100000 in
theorem lists_any (h : Int) (a : Option Addr) (c : Nat) (m : List Rf) (hl : m.length ≤ 1000) (hok : ∀ r ∈ m, mayR h r = true ∧ 0 ≤ r.bt) (h32 : h ≤ 32) (h0 : 0 ≤ h) (w : World) (hs : RSl w (.slice a m.length c) m) :
    Calls Tryd.prog 18 #[.agg (gcs h a m.length c)] w fun e w' => ∃ v As, e = .returned v ∧ LsRow w' v m As ∧ Nms (h.toNat + 1) m (As.map (·.1.1)) ∧ (∀ i j (hj : j < As.length) (hij : i < j), ltOf cfX As[j] As[i] = false) ∧ Below w.heap.size w w' := by
  have LA := fun (k : Int) (k0 : 0 ≤ k) (k1 : k ≤ h) W hsW => level_any h k a c m hl hok h32 k0 k1 W hsW
  obtain ⟨N, hN⟩ : ∃ N : Nat, h + 1 = (N : Int) := ⟨h.toNat + 1, by omega⟩
  have hNN : Hid (h.toNat + 1 = N) := by show _ = _; omega
  have hN33 : N ≤ 33 := by omega
  have hw1 : IntKind.i64.wrap (h + 1) = (N : Int) := (wrap_small _ (by omega) (by omega)).trans hN
  have LAX : ∀ (k : Int), 0 ≤ k → k ≤ h → ∀ W, RSl W (.slice a m.length c) m → Calls Tryd.prog 29 #[.agg #[.int .i64 h, .int .i64 0, .int .i64 1, .int .u64 0, .int .i64 h, .int .u64 0, .int .i64 1, .int .i64 3, .int .u64 0, .int .i64 h, .int .u64 0, .slice a m.length c], .int .i64 k] W fun e w' => ∃ b E, e = .returned (.map (some b)) ∧ Lv w' W.heap.size b k m E ∧ Below W.heap.size W w' := LA
  have HL := hide LAX
  have HOK := hide hok
  have hN' := hide hN
  unfold gcs
  have b1 := (Below.refl w.heap.size w).alloc (Nat.le_refl _) (.cells #[.int .i64 h, .int .i64 0, .int .i64 1, .int .u64 0, .int .i64 h, .int .u64 0, .int .i64 1, .int .i64 3, .int .u64 0, .int .i64 h, .int .u64 0, .slice a m.length c] 55)
  have Gb := hide (IsB.new w #[.int .i64 h, .int .i64 0, .int .i64 1, .int .u64 0, .int .i64 h, .int .u64 0, .int .i64 1, .int .i64 3, .int .u64 0, .int .i64 h, .int .u64 0, .slice a m.length c] 55)
  have HS := hide (hs.below b1)
  have B := hide b1
  have hsz := hide b1.size
  have hsz1 : Hid ((w.alloc (.cells #[.int .i64 h, .int .i64 0, .int .i64 1, .int .u64 0, .int .i64 h, .int .u64 0, .int .i64 1, .int .i64 3, .int .u64 0, .int .i64 h, .int .u64 0, .slice a m.length c] 55)).heap.size = w.heap.size + 1) := World.size_alloc _ _
  have ML := hide hl
  clear b1 hs hok LA LAX hN h0 h32 hl
  generalize hn : m.length = n at *
  replace hn := hide hn
  go_enter Tryd.func18, Tryd.ntmps18
  go_wp2_with fail
  generalize w.alloc (.cells #[.int .i64 h, .int .i64 0, .int .i64 1, .int .u64 0, .int .i64 h, .int .u64 0, .int .i64 1, .int .i64 3, .int .u64 0, .int .i64 h, .int .u64 0, .slice a n c] 55) = W at *
  generalize hH : w.heap.size = H at Gb ⊢
  replace hH := hide hH
  go_loopw [3, 10] (fun v i wr => ∃ (j : Nat) (As : List Lx) (vv0 : Value), j ≤ N ∧ i = .int .i64 (j : Int) ∧ vv0 = v ∧ Hid (LsAt (H + 1) W wr v m As) ∧ Hid (Nms j m (As.map (·.1.1)))) (fun _ i _ => N - (intOf i).toNat)
  case atStart => exact ⟨0, [], _, by omega, rfl, rfl, ⟨LsRow.nil _ _, (fun k hk => by cases hk), Below.refl _ _⟩, Nms.zero _⟩
  case round =>
    obtain ⟨j, As, v, hj, rfl, rfl, LS, NM⟩ := hrel
    have hWr : Hid (H + 1 ≤ wr.heap.size) := by
      have q1 := LS.out.low.size
      have q2 := hsz1.out
      rw [hH.out] at q2
      show _ ≤ _
      omega
    by_cases hlt : j < N
    · have G0 : IsB wr H #[.int .i64 h, .int .i64 0, .int .i64 1, .int .u64 0, .int .i64 h, .int .u64 0, .int .i64 1, .int .i64 3, .int .u64 0, .int .i64 h, .int .u64 0, .slice a n c] 55 := (LS.out.low.block H (Nat.lt_succ_self _)).trans Gb.out
      have hRS : RSl wr (.slice a n c) m := HS.out.below (LS.out.low.mono (by have := hsz1.out; rw [hH.out] at this; omega))
      have CL := hide (HL.out (j : Int) (by omega) (by have := hN'.out; omega) wr hRS)
      have HG := hide (load_gr G0 rfl)
      clear hRS G0
      have HJ0 : Hid ((j : Int) ≤ h) := by have := hN'.out; show _ ≤ _; omega
      go_wp2_with (first | (focus ((with_reducible refine wpList_load_w ?_ 55 (.tmp 1) ?_ ?_ HG.out ?_); rotate_left; rfl; rfl; rotate_left; rfl)) | fail)
      refine CL.out.mono ?_
      rintro e w2 ⟨b, E, rfl, hLv, hbL⟩
      obtain ⟨w3, hrun, hrg, hb3⟩ := hLv.mp.range
      have hb03 : Below wr.heap.size wr w3 := hbL.trans (hb3.mono hbL.size)
      have LS3 := hide (LS.out.below hb03 hWr.out)
      have ER : Hid (∀ x ∈ E, Rw w3 30 5 x.2 (flt (j : Int) x.1 m).length (rfs (flt (j : Int) x.1 m))) := fun x hx => (hLv.row x hx).below hb3
      have EN := hide hLv.nod
      have EK := hide hLv.key
      have EA := hide hLv.all
      have hRB : Hid (H + 1 ≤ w2.heap.size) := by have := hWr.out; have := hbL.size; show _ ≤ _; omega
      have RG3 := hide hrg
      have ELm : E.length ≤ 1000 := by
        have q := nodup_sub (E.map (·.1)) (m.map (prV (j : Int))) EN.out (fun u hu => by
          obtain ⟨x, hx, rfl⟩ := List.mem_map.1 hu
          obtain ⟨r, hr, e⟩ := EK.out x hx
          exact List.mem_map.2 ⟨r, hr, e.symm⟩)
        rw [List.length_map, List.length_map] at q
        have := hn.out
        have := ML.out
        omega
      have NML : As.length ≤ 33000 := by
        have q1 := NM.out.len
        rw [List.length_map] at q1
        have q2 : j * m.length ≤ 33 * 1000 := Nat.mul_le_mul (by omega) (by rw [hn.out]; exact ML.out)
        omega
      have ELH := hide ELm
      have NMH := hide NML
      clear hLv hbL hrg hb3 hb03 CL LS ELm NML HG
      go_wp2_with (at_range; refine wpList_range_eq rfl _ (.tmp 15) rfl rfl hrun ?_)
      go_frame
      clear hrun
      generalize w2.heap.size = RB at RG3 hRB ⊢
      go_loopw [3] (fun v wq => ∃ (I : List Nat) (Bs : List Lx) (vv0 : Value), vv0 = v ∧ Hid (VRg wq b RB E I) ∧ Hid (LsAt (H + 1) W wq v m Bs) ∧ Hid (∀ x ∈ E, Rw wq 30 5 x.2 (flt (j : Int) x.1 m).length (rfs (flt (j : Int) x.1 m))) ∧ Hid (Bs.map (·.1.1) = As.map (·.1.1) ++ I.map (nmA E)) ∧ Hid (I.Nodup ∧ ∀ i ∈ I, i < E.length)) (fun v _ => As.length + E.length - slN v)
      case atStart => exact ⟨[], As, _, rfl, RG3.out, LS3.out, ER.out, by show _ = _; simp, by simp, by simp⟩
      case round =>
        clear RG3 LS3 ER
        obtain ⟨I, Bs, v, rfl, RG, LS, ER, HA, HI⟩ := hrel
        obtain ⟨va, vc, hva, -, -⟩ := LS.out.row.row.shape
        subst hva
        have hWq : Hid (H + 1 ≤ wr.heap.size) := by
          have q1 := LS.out.low.size
          have q2 := hsz1.out
          rw [hH.out] at q2
          show _ ≤ _
          omega
        have HBl : Hid (Bs.length = As.length + I.length) := by
          have := congrArg List.length HA.out
          show _ = _
          simpa using this
        rcases RG.out.next 0 with ⟨hall, hnx⟩ | ⟨ix, ⟨x, y⟩, rb0, w4, hni, hLi, hnx, hen, hrg4, hk4⟩
        · have HP : Hid (I.Perm (List.range E.length)) := perm_range HI.out.1 HI.out.2 hall
          have NM2 : Hid (Nms (j + 1) m (Bs.map (·.1.1))) := by
            have q := NM.out.step (ms := I.map (nmA E)) (by rw [← nmA_all]; exact HP.out.map _) EN.out EK.out EA.out
            rw [← HA.out] at q
            exact q
          clear hall
          obtain ⟨bn, hbn⟩ : ∃ z, Bs.length = z := ⟨_, rfl⟩
          rw [hbn] at LS ⊢
          replace hbn := hide hbn
          go_wp2_with (first | (at_next; refine wpList_next_eq rfl (.tmp 16) rfl rfl hnx ?_) | fail)
          exact ⟨⟨j + 1, Bs, _, by omega, by simp, rfl, LS.out, NM2.out⟩, by simp [intOf]; omega⟩
        · have hmem := List.mem_of_getElem? hLi
          have hxE : Hid (ix < E.length) := (List.getElem?_eq_some_iff.1 hLi).1
          obtain ⟨r, hr, hxr⟩ := EK.out _ hmem
          have hrt := mayR_rt (HOK.out r hr).1
          have hbt := (HOK.out r hr).2
          have hxj : x = (j : Int) := congrArg Prod.fst hxr
          have hyp : y = ((pre r.ln.toNat r.bt.toNat (j : Int).toNat : Nat) : Int) := congrArg Prod.snd hxr
          have HX : Hid (rt x y = true ∧ 0 ≤ y) := by
            refine ⟨?_, by rw [hyp]; omega⟩
            rw [hxj, hyp]
            exact pre_rt hrt.1 hbt (by omega) (by rw [hrt.2]; exact HJ0.out)
          have hrow := ER.out _ hmem
          obtain ⟨qa, qc, hq0, -, -⟩ := hrow.shape
          have hq1 : rb0 = .slice qa (flt (j : Int) (x, y) m).length qc := hq0
          have hNA : Hid (nmA E ix = (x, y)) := nmA_some hLi
          subst hq1
          have HXJ := hide hxj
          clear hq0 hmem hLi hr hxr hrt hbt hyp hxj
          have hRW : Rw wr 30 5 (.slice qa (flt (j : Int) (x, y) m).length qc) (flt (j : Int) (x, y) m).length (rfs (flt (j : Int) (x, y) m)) := hrow
          have hS4 : ∀ k ∈ [RB], ∀ cs t, wr.heap[k]? ≠ some (.cells cs t (0, 0)) := fun k hk cs t hc => by
            simp at hk
            subst hk
            exact (RG.out.off hc).2 rfl
          have RW4 : Hid (Rw w4 30 5 (.slice qa (flt (j : Int) (x, y) m).length qc) (flt (j : Int) (x, y) m).length (rfs (flt (j : Int) (x, y) m))) := hRW.kp hk4 (fun k hv hm => by obtain ⟨-, cur, hc⟩ := hRW.lt k hv; exact hS4 k hm _ _ hc)
          have ER4 : Hid (∀ x ∈ E, Rw w4 30 5 x.2 (flt (j : Int) x.1 m).length (rfs (flt (j : Int) x.1 m))) := fun x hx => (ER.out x hx).kp hk4 (fun k hv hm => by obtain ⟨-, cur, hc⟩ := (ER.out x hx).lt k hv; exact hS4 k hm _ _ hc)
          have LS4 : Hid (LsAt (H + 1) W w4 (.slice va Bs.length vc) m Bs) := ⟨LS.out.row.keep hk4 hS4, LS.out.own, LS.out.low.trans (hk4.to_below hWq.out (by simp; exact hRB.out))⟩
          have RG4 := hide hrg4
          have hW4 : Hid (H + 1 ≤ w4.heap.size) := by have := hWq.out; have := hk4.size; show _ ≤ _; omega
          clear hrow hRW hS4 hrg4 hk4 RG LS ER
          obtain ⟨bn, hbn⟩ : ∃ z, Bs.length = z := ⟨_, rfl⟩
          obtain ⟨qn, hqn⟩ : ∃ z, (flt (j : Int) (x, y) m).length = z := ⟨_, rfl⟩
          rw [hbn] at LS4 ⊢
          rw [hqn] at hnx hen
          have RW4' : Hid (Rw w4 30 5 (.slice qa qn qc) (flt (j : Int) (x, y) m).length (rfs (flt (j : Int) (x, y) m))) := by rw [← hqn]; exact RW4.out
          clear RW4
          replace hbn := hide hbn
          replace hqn := hide hqn
          have hen2 : (Instr.entry (.pointer (some ⟨RB, 0, none⟩))).run Tryd.prog w4 = .ok (.tuple #[.agg #[.int .i64 x, .int .u64 y], .slice qa qn qc]) w4 := hen
          have hnx2 : (Instr.next (.pointer (some ⟨RB, 0, none⟩)) false 0).run Tryd.prog wr = .ok (.tuple #[.bool true, .agg #[.int .i64 x, .int .u64 y], .slice qa qn qc]) w4 := hnx
          clear hen hnx
          have b5 := (Below.refl w4.heap.size w4).alloc (Nat.le_refl _) (.cells #[.int .i64 x, .int .u64 y] 28)
          have b6 := b5.alloc (by simp) (.cells #[.int .i64 x, .int .u64 y, .slice qa qn qc] 40)
          have LS6 := hide (LS4.out.below b6 hW4.out)
          have RG6 := hide (RG4.out.below b6)
          have ER6 : Hid (∀ z ∈ E, Rw ((w4.alloc (.cells #[.int .i64 x, .int .u64 y] 28)).alloc (.cells #[.int .i64 x, .int .u64 y, .slice qa qn qc] 40)) 30 5 z.2 (flt (j : Int) z.1 m).length (rfs (flt (j : Int) z.1 m))) := fun z hz => (ER4.out z hz).below b6
          have HLN : Hid (Bs.length ≤ As.length + E.length ∧ Bs.length ≤ 1000000 ∧ bn + 1 ≤ As.length + E.length) := by
            have q1 := HBl.out
            have q2 := nodup_lenN E.length (I ++ [ix]) (by
              rw [List.nodup_append]
              exact ⟨HI.out.1, by simp, fun a ha b hb => by simp at hb; subst hb; exact fun e => hni (e ▸ ha)⟩) (fun i hi => by
              rcases List.mem_append.1 hi with hi | hi
              · exact HI.out.2 i hi
              · simp at hi
                rw [hi]
                exact hxE.out)
            rw [List.length_append] at q2
            simp only [List.length_cons, List.length_nil] at q2
            have q3 := ELH.out
            have q4 := NMH.out
            have q5 := hbn.out
            exact ⟨by omega, by omega, by omega⟩
          have L6 := LS6.out.row
          rw [← hbn.out] at L6
          have hp := HX.out
          have hRow : Rw ((w4.alloc (.cells #[.int .i64 x, .int .u64 y] 28)).alloc (.cells #[.int .i64 x, .int .u64 y, .slice qa qn qc] 40)) 30 5 (.slice qa qn qc) (flt x (x, y) m).length (rfs (flt x (x, y) m)) := by
            have q := RW4'.out.below b6
            rw [← HXJ.out] at q
            exact q
          have I6 : IsB ((w4.alloc (.cells #[.int .i64 x, .int .u64 y] 28)).alloc (.cells #[.int .i64 x, .int .u64 y, .slice qa qn qc] 40)) (w4.heap.size + 1) (encX (⟨((x, y), (qa, qn, qc)), hp⟩ : Lx)).toArray 40 := by
            have := IsB.new (w4.alloc (.cells #[.int .i64 x, .int .u64 y] 28)) #[.int .i64 x, .int .u64 y, .slice qa qn qc] 40
            rwa [World.size_alloc] at this
          obtain ⟨na, nc, w7, hap, hrow7, hgr7, hat7⟩ := L6.push (⟨((x, y), (qa, qn, qc)), hp⟩ : Lx) hRow (w4.heap.size + 1) 1 I6 HLN.out.2.1 34
          rw [hbn.out] at hap hrow7 hat7 hgr7
          have hvb : ∀ k, (Value.slice va bn vc).ownBlock = some k → ∃ cur, ((w4.alloc (.cells #[.int .i64 x, .int .u64 y] 28)).alloc (.cells #[.int .i64 x, .int .u64 y, .slice qa qn qc] 40)).heap[k]? = some (.cells cur 40 (0, 0)) := fun k hk => by
            rw [← hbn.out] at hk
            exact (L6.row.lt k hk).2
          have hsz6 : H + 1 ≤ ((w4.alloc (.cells #[.int .i64 x, .int .u64 y] 28)).alloc (.cells #[.int .i64 x, .int .u64 y, .slice qa qn qc] 40)).heap.size := by
            rw [World.size_alloc, World.size_alloc]
            have := hW4.out
            omega
          have NEW : Hid (VRg w7 b RB E (I ++ [ix]) ∧ LsAt (H + 1) W w7 (.slice na (bn + 1) nc) m (Bs ++ [(⟨((x, y), (qa, qn, qc)), hp⟩ : Lx)]) ∧ (∀ z ∈ E, Rw w7 30 5 z.2 (flt (j : Int) z.1 m).length (rfs (flt (j : Int) z.1 m)))) := by
            refine ⟨RG6.out.kept (hgr7.block _ RG6.out.lt.2 ?_) (hgr7.block _ RG6.out.lt.1 ?_), ⟨hrow7, fun k hk => ?_, LS6.out.low.grown hgr7 hsz6 (fun k hk => LS6.out.own k hk)⟩, fun z hz => (ER6.out z hz).grown hgr7 (fun g hg e => ?_)⟩
            · intro e
              obtain ⟨cur, hc⟩ := hvb b e.symm
              exact (RG6.out.off hc).1 rfl
            · intro e
              obtain ⟨cur, hc⟩ := hvb RB e.symm
              exact (RG6.out.off hc).2 rfl
            · rcases hat7 with q | q
              · exact LS6.out.own k (by rw [← q]; exact hk)
              · rw [q] at hk
                injection hk with hk
                omega
            · obtain ⟨cur, hc⟩ := hvb g e
              obtain ⟨-, cur2, hc2⟩ := (ER6.out z hz).lt g hg
              exact ref_list hc2 hc
          have HA2 : Hid ((Bs ++ [(⟨((x, y), (qa, qn, qc)), hp⟩ : Lx)]).map (·.1.1) = As.map (·.1.1) ++ (I ++ [ix]).map (nmA E)) := by
            show _ = _
            rw [List.map_append, List.map_append, HA.out, List.append_assoc]
            simp only [List.map_cons, List.map_nil, hNA.out]
          have HI2 : Hid ((I ++ [ix]).Nodup ∧ ∀ i ∈ I ++ [ix], i < E.length) := by
            refine ⟨?_, fun i hi => ?_⟩
            · rw [List.nodup_append]
              exact ⟨HI.out.1, by simp, fun a ha b hb => by simp at hb; subst hb; exact fun e => hni (e ▸ ha)⟩
            · rcases List.mem_append.1 hi with hi | hi
              · exact HI.out.2 i hi
              · simp at hi
                rw [hi]
                exact hxE.out
          have HAP := hide hap
          clear hrow7 hgr7 hat7 hvb hsz6 I6 hRow L6 b5 b6 hap LS4 RG4 ER4 LS6 RG6 ER6 RW4'
          go_wp2_with (first | (at_next; refine wpList_next_eq rfl (.tmp 16) rfl rfl hnx2 ?_) | (at_builtin; refine wpList_append_eq rfl (.tmp 22) (.tmp 26) 34 rfl _ _ (.slice na (bn + 1) nc) w7 rfl rfl HAP.out ?_))
          exact ⟨⟨I ++ [ix], Bs ++ [_], _, rfl, NEW.out.1, NEW.out.2.1, NEW.out.2.2, HA2.out, HI2.out⟩, by have := HLN.out; show As.length + E.length - (bn + 1) < As.length + E.length - bn; omega⟩
    · have hjN : j = N := by omega
      subst hjN
      have hAl : As.length ≤ 100000 := by
        have q1 := NM.out.len
        rw [List.length_map] at q1
        have q2 : j * m.length ≤ 33 * 1000 := Nat.mul_le_mul hN33 (by rw [hn.out]; exact ML.out)
        omega
      have CS := hide (sortX v As wr LS.out.row.row (by omega))
      go_wp2_with fail
      refine CS.out.mono ?_
      rintro e w4 ⟨rfl, As2, hperm, hsort, hrow2, hk4⟩
      have X4 : Hid (LsRow w4 v m As2 ∧ Nms (h.toNat + 1) m (As2.map (·.1.1)) ∧ (∀ i j (hj : j < As2.length) (hij : i < j), ltOf cfX As2[j] As2[i] = false) ∧ Below w.heap.size w w4) := by
        refine ⟨⟨hrow2, fun x hx => ?_⟩, ?_, hsort, ?_⟩
        · have hx1 := LS.out.row.ms x (hperm.mem_iff.1 hx)
          refine hx1.kp hk4 fun k hv hm => ?_
          obtain ⟨-, cur, hc⟩ := hx1.lt k hv
          obtain ⟨-, cur2, hc2⟩ := LS.out.row.row.lt k (by simpa using hm)
          exact ref_list hc hc2
        · rw [hNN.out]
          exact NM.out.perm (hperm.map _)
        · have q1 : Below w.heap.size W wr := LS.out.low.mono (by rw [hH.out]; omega)
          exact (B.out.trans q1).trans (hk4.to_below (by have := hWr.out; have := hH.out; omega) (fun k hk => by have := LS.out.own k (by simpa using hk); have := hH.out; omega))
      clear hperm hsort hrow2 hk4 CS
      go_wp2
      go_ret
      exact ⟨v, As2, rfl, X4.out.1, X4.out.2.1, X4.out.2.2.1, X4.out.2.2.2⟩

end Go.Proofs.YtfcmmchppcffmaaDoor
