/- sort.Slice where 'less' lays blocks of its own: the words for it, and sort.insertionSort_func. After the kit's own proof at a 'less' that only reads (Derived/Shelf/GgSortFunc/InsertionK.lean). -/
import Derived.Test.YtidgkaephikjaaaDoorA
import Derived.Shelf.GgSortFunc.SmallK
import Derived.Shelf.SlSortFuncK.ComposeK
import Derived.Deep.LoopGhost
namespace Go.Proofs.YtidgkaephikjaaaDoor
open Go.Shelf Go.RowKit Go.Lib Go.Sort
variable {P : Program} {ρ : Ren} {α : Type} [Inhabited α]

/-- How far a world has grown: so many draws, these blocks. -/
structure Gb where
  n : Nat
  os : Array Obj
def Gb.zero : Gb := ⟨0, #[]⟩
def Gb.add (a b : Gb) : Gb := ⟨a.n + b.n, a.os ++ b.os⟩
def gr (w : World) (p : Gb) : World := grow (Sort.ahead w p.n) p.os
theorem gr_zero (w : World) : gr w .zero = w := by unfold gr Gb.zero; rw [grow_empty]; rfl
theorem gr_gr (w : World) (a b : Gb) : gr (gr w a) b = gr w (a.add b) := by
  unfold gr Gb.add
  rw [ahead_grow, grow_grow]
  show grow (Sort.ahead (Sort.ahead w a.n) b.n) _ = _
  congr 1
  show ({ w with drawn := w.drawn + a.n + b.n } : World) = { w with drawn := w.drawn + (a.n + b.n) }
  rw [Nat.add_assoc]
theorem size_gr (w : World) (p : Gb) : (gr w p).heap.size = w.heap.size + p.os.size := size_grow _ _
theorem gr_lt {w : World} {b : Nat} (h : b < w.heap.size) (p : Gb) : b < (gr w p).heap.size := by rw [size_gr]; omega
theorem cell?_gr (w : World) (p : Gb) (a : Addr) (h : a.block < w.heap.size) : (gr w p).cell? a = w.cell? a := by unfold gr; rw [cell?_grow _ _ _ (by exact h)]; rfl
theorem Gr_gr (w : World) (p : Gb) : Gr w (gr w p) := ⟨p.n, p.os, rfl⟩
theorem gr_of_Gr {w w' : World} (h : Gr w w') : ∃ p, w' = gr w p := by obtain ⟨q, os, rfl⟩ := h; exact ⟨⟨q, os⟩, rfl⟩
theorem gr_alloc (w : World) (o : Obj) (p : Gb) : gr (w.alloc o) p = gr w ⟨p.n, #[o] ++ p.os⟩ := by
  unfold gr; rw [alloc_eq_grow, ahead_grow, grow_grow]

section
variable (enc : α → List Value) (k : Nat) (w : World) (blk off : Nat)
theorem putRowK_gr (p : Gb) (d : Array α) (hb : blk < w.heap.size) : putRowK enc k (gr w p) blk off d = gr (putRowK enc k w blk off d) p := by
  unfold gr; rw [putRowK_grow enc k _ _ blk off d (by exact hb)]; rfl
theorem putRowK_gr2 (p q : Gb) (d : Array α) (hb : blk < w.heap.size) : gr (putRowK enc k (gr w p) blk off d) q = putRowK enc k (gr w (p.add q)) blk off d := by
  rw [putRowK_gr enc k w blk off p d hb, gr_gr, putRowK_gr enc k w blk off _ d hb]
theorem holdsK_gr (p : Gb) (d : Array α) (hb : blk < w.heap.size) (h : HoldsK enc k w blk off d) : HoldsK enc k (gr w p) blk off d :=
  holdsK_grow enc k _ _ blk off d (by exact hb) (holdsK_ahead enc k w p.n blk off d h)
theorem sortWorldK_gr (m : Nat) (os : Array Obj) (d : Array α) (hb : blk < w.heap.size) : sortWorldK enc k w blk off m d os = putRowK enc k (gr w ⟨m, os⟩) blk off d := by
  unfold sortWorldK gr; rw [putRowK_grow enc k _ _ blk off d (by exact hb)]
theorem putRowK_on (p q : Gb) (d d' : Array α) (hb : blk < w.heap.size) (hs : d'.size = d.size) : putRowK enc k (gr (putRowK enc k (gr w p) blk off d) q) blk off d' = putRowK enc k (gr w (p.add q)) blk off d' := by
  rw [← sortWorldK_gr enc k w blk off p.n p.os d hb, ← sortWorldK_gr enc k _ blk off q.n q.os d' (lt_sortWorldK enc k w blk off p.n d p.os hb), sortWorldK_on enc k w blk off p.n q.n d d' p.os q.os hb hs, sortWorldK_gr enc k w blk off _ _ d' hb]
  rfl
theorem swap_gr (hk : ∀ x, (enc x).length = k) (p : Gb) (d : Array α) (i j : Nat) (hi : i < d.size) (hj : j < d.size) :
    ((putRowK enc k (gr w p) blk off d).setCells blk (off + i * k) (enc d[j]!)).setCells blk (off + j * k) (enc d[i]!) = putRowK enc k (gr w p) blk off (swp d i j) := putRowK_swp enc k hk _ blk off d i j hi hj
end

/-- What is asked of 'less': in every world that the sort passes through it tells 'lt', and turns nothing; it may draw and lay blocks. -/
def LessLaysK (P : Program) (g : Nat) (lb : Array Value) (enc : α → List Value) (k : Nat) (lt : α → α → Bool) (blk off size : Nat) (w : World) : Prop :=
  ∀ (p : Gb) (dk : Array α), dk.size = size → ∀ i j : Nat, i < size → j < size →
    Calls P g (#[.int .i64 i, .int .i64 j] ++ lb) (putRowK enc k (gr w p) blk off dk) fun e w' => e = .returned (.bool (lt dk[i]! dk[j]!)) ∧ ∃ q, w' = gr (putRowK enc k (gr w p) blk off dk) q
theorem LessLaysK.gr {g : Nat} {lb : Array Value} {enc : α → List Value} {k : Nat} {lt : α → α → Bool} {blk off size : Nat} {w : World} (h : LessLaysK P g lb enc k lt blk off size w) (q : Gb) :
    LessLaysK P g lb enc k lt blk off size (gr w q) := fun p dk hs i j hi hj => by
  rw [gr_gr]; exact h _ dk hs i j hi hj
theorem LessLaysK.alloc {g : Nat} {lb : Array Value} {enc : α → List Value} {k : Nat} {lt : α → α → Bool} {blk off size : Nat} {w : World} (h : LessLaysK P g lb enc k lt blk off size w) (o : Obj) :
    LessLaysK P g lb enc k lt blk off size (w.alloc o) := fun p dk hs i j hi hj => by
  rw [gr_alloc]; exact h _ dk hs i j hi hj
theorem LessLaysK.on {g : Nat} {lb : Array Value} {enc : α → List Value} {k : Nat} {lt : α → α → Bool} {blk off size : Nat} {w : World} (h : LessLaysK P g lb enc k lt blk off size w) (hblk : blk < w.heap.size) (q : Gb) (d : Array α) (hd : d.size = size) :
    LessLaysK P g lb enc k lt blk off size (putRowK enc k (YtidgkaephikjaaaDoor.gr w q) blk off d) := fun p dk hs i j hi hj => by
  rw [putRowK_on enc k w blk off q p d dk hblk (by rw [hs, hd])]; exact h _ dk hs i j hi hj

set_option maxHeartbeats 2000000 in
set_option maxRecDepth 100000 in
theorem insertionSort_lays (L : LaysGg.n26 P ρ) (enc : α → List Value) (k : Nat) (hk : ∀ x, (enc x).length = k) (lt : α → α → Bool) (g : Nat) (lb : Array Value) (sf : Nat) (sb : Array Value) (blk off a b : Nat) (d : Array α) (w : World)
    (eg : ∀ args w, (callFunc g args).run P w = .ok (.enter g args) w) (hless : LessLaysK P g lb enc k lt blk off d.size w) (hswap : SwapSwapsK P sf sb enc k blk off d.size)
    (hH : HoldsK enc k w blk off d) (hblk : blk < w.heap.size) (hab : a ≤ b) (hb : b ≤ d.size) (hsz : d.size < 4611686018427387904) :
    Calls P (ρ.f 26) #[.agg #[.func (.func g) #[] lb, .func (.func sf) #[] sb], .int .i64 a, .int .i64 b] w fun e w' =>
      e = .returned (.tuple #[]) ∧ ∃ n, w' = putRowK enc k (gr w n) blk off (Sort.insertionSort lt d a b) := by
  have mixed := L.mixed; have t0 := L.t0; have a0 := L.a0; have z0 := L.z0; have v0 := L.v0; have t3 := L.t3; have a3 := L.a3; have z3 := L.z3; have v3 := L.v3; have t4 := L.t4; have a4 := L.a4; have z4 := L.z4; have v4 := L.v4; have t26 := L.t26; have a26 := L.a26; have z26 := L.z26; have v26 := L.v26; have t37 := L.t37; have a37 := L.a37; have z37 := L.z37; have v37 := L.v37; have t44 := L.t44; have a44 := L.a44; have z44 := L.z44; have v44 := L.v44
  have u44 := run_underlying L.t44
  have hH1 : HoldsK enc k (w.alloc (.cells #[.func (.func g) #[] lb, .func (.func sf) #[] sb] (ρ.t 44))) blk off d := by rw [alloc_eq_grow]; exact holdsK_grow enc k w _ blk off d hblk hH
  have hbB : blk < (w.alloc (.cells #[.func (.func g) #[] lb, .func (.func sf) #[] sb] (ρ.t 44))).heap.size := by rw [World.size_alloc]; omega
  have HL := hide (hless.alloc (.cells #[.func (.func g) #[] lb, .func (.func sf) #[] sb] (ρ.t 44)))
  have cc : ∀ kk v, ((w.alloc (.cells #[.func (.func g) #[] lb, .func (.func sf) #[] sb] (ρ.t 44)))).cell? ⟨w.heap.size, kk, none⟩ = some v → ∀ p dj q, (gr (putRowK enc k (gr (w.alloc (.cells #[.func (.func g) #[] lb, .func (.func sf) #[] sb] (ρ.t 44))) p) blk off dj) q).cell? ⟨w.heap.size, kk, none⟩ = some v := fun kk v h p dj q => by
    rw [putRowK_gr2 enc k _ blk off p q dj hbB, cell?_putRowK_other enc k _ blk off dj _ (by show w.heap.size ≠ blk; omega), cell?_gr _ _ _ (by show w.heap.size < _; rw [World.size_alloc]; omega)]; exact h
  have C0 := hide (cc 0 (.func (.func g) #[] lb) (by simp))
  have C1 := hide (cc 1 (.func (.func sf) #[] sb) (by simp))
  clear cc
  go_enter L.f26, BodyGg.n26_ntmps ρ
  go_wp2
  have HE := hide (show ∀ n, gr (w.alloc (.cells #[.func (.func g) #[] lb, .func (.func sf) #[] sb] (ρ.t 44))) n = gr w ⟨n.n, #[.cells #[.func (.func g) #[] lb, .func (.func sf) #[] sb] (ρ.t 44)] ++ n.os⟩ from fun n => gr_alloc _ _ n)
  have HST := hide (show w.alloc (.cells #[.func (.func g) #[] lb, .func (.func sf) #[] sb] (ρ.t 44)) = putRowK enc k (gr (w.alloc (.cells #[.func (.func g) #[] lb, .func (.func sf) #[] sb] (ρ.t 44))) .zero) blk off d from by rw [gr_zero]; exact (putRowK_self _ _ _ _ _ _ hH1).symm)
  generalize w.alloc (.cells #[.func (.func g) #[] lb, .func (.func sf) #[] sb] (ρ.t 44)) = WB at *
  clear hH hless
  go_loopw [6] (fun vi wr => ∃ (i : Nat) (n : Gb) (dk : Array α), vi = .int .i64 i ∧ a < i ∧ i ≤ b + 1 ∧ dk.size = d.size ∧ wr = putRowK enc k (gr WB n) blk off dk ∧
      insOuter lt a b i dk = insOuter lt a b (a + 1) d) (fun vi _ => b + 1 - (intOf vi).toNat)
  case atStart => exact ⟨a + 1, .zero, d, by go_num, by omega, by omega, rfl, HST.out, rfl⟩
  case round =>
    obtain ⟨i, n, dk, rfl, hai, hib, hsk, hwr, hO⟩ := hrel
    have HO : Hid (insOuter lt a b i dk = insOuter lt a b (a + 1) d) := hO
    clear hO
    go_wp2
    · -- i < b: the inner loop
      go_loopw [7] (fun vj wr2 => ∃ (j : Nat) (m : Gb) (dj : Array α), vj = .int .i64 j ∧ a ≤ j ∧ j ≤ i ∧ dj.size = d.size ∧ wr2 = putRowK enc k (gr WB m) blk off dj ∧
          insInner lt a j dj = insInner lt a i dk) (fun vj _ => (intOf vj).toNat)
      case atStart => exact ⟨i, n, dk, rfl, by omega, Nat.le_refl _, hsk, rfl, rfl⟩
      case round =>
        obtain ⟨j, m, dj, rfl, haj, hji, hsj, hw2, hI⟩ := hrel
        have hlt : i < b := by assumption
        have hHw : ∀ q, HoldsK enc k (gr wr q) blk off dj := fun q => by
          rw [hw2, putRowK_gr2 enc k WB blk off m q dj hbB]; exact holdsK_putRowK enc k _ blk off d dj (holdsK_gr enc k _ _ _ _ _ hbB hH1) hsj
        have c0 : ∀ q, (gr wr q).cell? ⟨w.heap.size, 0, none⟩ = some (.func (.func g) #[] lb) := fun q => by rw [hw2]; exact C0.out m dj q
        have c1 : ∀ q, (gr wr q).cell? ⟨w.heap.size, 1, none⟩ = some (.func (.func sf) #[] sb) := fun q => by rw [hw2]; exact C1.out m dj q
        have c0' : wr.cell? ⟨w.heap.size, 0, none⟩ = some (.func (.func g) #[] lb) := by have := c0 .zero; rwa [gr_zero] at this
        have HW : Hid (wr = putRowK enc k (gr WB m) blk off dj) := hw2
        have HI : Hid (insInner lt a j dj = insInner lt a i dk) := hI
        have HHw := hide hHw
        clear hw2 hI hHw
        have out : (j ≤ a ∨ lt dj[j]! dj[j - 1]! = false) → ∀ q, ∃ (i' : Nat) (n' : Gb) (dk' : Array α), Value.int .i64 ((i : Int) + 1) = .int .i64 (i' : Nat) ∧ a < i' ∧ i' ≤ b + 1 ∧ dk'.size = d.size ∧
            gr wr q = putRowK enc k (gr WB n') blk off dk' ∧ insOuter lt a b i' dk' = insOuter lt a b (a + 1) d := fun hs q =>
          ⟨i + 1, m.add q, dj, by go_num, by omega, by omega, hsj, by rw [HW.out]; exact putRowK_gr2 _ _ _ _ _ _ _ _ hbB,
            by rw [← HO.out, insOuter_go _ _ _ _ _ hlt, ← HI.out, insInner_stop _ _ _ _ hs]⟩
        have OUT : Hid _ := out
        clear out
        by_cases hja : a < j
        · have hl := HL.out m dj hsj j (j - 1) (by omega) (by omega)
          rw [← HW.out] at hl
          rw [show (((j - 1 : Nat) : Int)) = (j : Int) - 1 by omega] at hl
          cases hlv : lt dj[j]! dj[j - 1]! with
          | true =>
            rw [hlv] at hl
            go_wp2_with (go_at_fn g; refine hl.mono ?_; rintro e w' ⟨rfl, q, rfl⟩)
            have hs := hswap (gr wr q) dj (HHw.out q) hsj j (j - 1) (by omega) (by omega)
            rw [show (((j - 1 : Nat) : Int)) = (j : Int) - 1 by omega] at hs
            rw [hs, Oper.upon_value]
            go_wp2
            go_roundw
            case rel =>
              (repeat apply Exists.intro)
              refine ⟨⟨j - 1, m.add q, swp dj j (j - 1), by congr 1 <;> omega, by omega, by omega, by rw [size_swp]; exact hsj, ?_, ?_⟩, by rw [decide_eq_true hlt, show ((j - 1 : Nat) : Int) = (j : Int) - 1 by omega]⟩
              · rw [HW.out, putRowK_gr2 enc k WB blk off m q dj hbB]
                exact swap_gr enc k _ blk off hk _ dj j (j - 1) (by omega) (by omega)
              · rw [← HI.out, insInner_go lt a j dj hja hlv]
            case measure => simp [intOf]; omega
          | false =>
            rw [hlv] at hl
            go_wp2_with (go_at_fn g; refine hl.mono ?_; rintro e w' ⟨rfl, q, rfl⟩)
            go_roundw
            case rel => exact OUT.out (Or.inr hlv) q
            case measure => simp [intOf]; omega
        · go_wp2
          go_roundw
          case rel =>
            have := OUT.out (Or.inl (by omega)) .zero
            rwa [gr_zero] at this
          case measure => simp [intOf]; omega
    · -- the outer loop is at its end
      have hge : ¬ i < b := by assumption
      go_end0
      exact ⟨rfl, _, by rw [HE.out]; unfold Sort.insertionSort; rw [← HO.out, insOuter_stop _ _ _ _ _ hge]⟩

end Go.Proofs.YtidgkaephikjaaaDoor
