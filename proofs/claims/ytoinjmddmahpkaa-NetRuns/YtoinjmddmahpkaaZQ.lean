/- One act on both networks, whatever it is. -/
import Derived.Test.YtoinjmddmahpkaaZP
namespace Go.Proofs.Ytoinjmddmahpkaa
open Go.RowKit Go.Maps

/-- Both networks, and they read alike. -/
structure Both (L : List Nat) (w1 wr : World) (b m rb : Nat) (v rv : Value) (ps qs : List Pc) (c : Cnt) (k rk : Nat) : Prop where
  two : Two L w1 wr b m rb v rv ps qs c c k rk
  like : Like ps qs
  us : ∀ p ∈ ps, ∃ us : List UInt8, p.bs = nums us
theorem Both.bel {L : List Nat} {w1 wr w2 : World} {b m rb : Nat} {v rv : Value} {ps qs : List Pc} {c : Cnt} {k rk : Nat} (h : Both L w1 wr b m rb v rv ps qs c k rk) (hb : Below wr.heap.size wr w2) : Both L w1 w2 b m rb v rv ps qs c k rk := ⟨h.two.bel hb, h.like, h.us⟩
/-- What an act makes of them. -/
def Then (L : List Nat) (w1 w' : World) (b m rb k rk : Nat) : Prop := ∃ v' rv' ps' qs' c' k' rk', Both L w1 w' b m rb v' rv' ps' qs' c' k' rk' ∧ k' ≤ k + 1 ∧ rk' ≤ rk + 1
theorem Both.same {L : List Nat} {w1 wr w2 : World} {b m rb : Nat} {v rv : Value} {ps qs : List Pc} {c : Cnt} {k rk : Nat} (h : Both L w1 wr b m rb v rv ps qs c k rk) (hb : Below wr.heap.size wr w2) : Then L w1 w2 b m rb k rk := ⟨_, _, _, _, _, _, _, h.bel hb, by omega, by omega⟩
theorem us_swp {ps : List Pc} {i j : Nat} (hi : i < ps.length) (hj : j < ps.length) (h : ∀ p ∈ ps, ∃ us : List UInt8, p.bs = nums us) : ∀ p ∈ swp ps i j, ∃ us : List UInt8, p.bs = nums us := by
  intro p hp
  unfold swp at hp
  have g : ∀ n, n < ps.length → ps.getD n Pc.none ∈ ps := fun n hn => by
    rw [List.getD_eq_getElem?_getD, List.getElem?_eq_getElem hn]; exact List.getElem_mem hn
  rcases List.mem_or_eq_of_mem_set hp with h1 | h1
  · rcases List.mem_or_eq_of_mem_set h1 with h2 | h2
    · exact h p h2
    · subst h2; first | exact h _ (g _ hj) | exact h _ (g _ hi)
  · subst h1; first | exact h _ (g _ hi) | exact h _ (g _ hj)
theorem inR_n {n : Nat} {i : Int} (h : inR n i = true) : ∃ j : Nat, i = (j : Int) ∧ j < n := by
  unfold inR at h
  simp at h
  exact ⟨i.toNat, by omega, by omega⟩
theorem sub_eq (a b c d : Nat) (h : a = c) (g : b = d) : a - b = c - d := by subst h g; rfl

theorem step_any {L : List Nat} {w0 w1 w : World} {b m rb : Nat} {v rv : Value} {ps qs : List Pc} {c : Cnt} {k rk : Nat} (h0 : Below w0.heap.size w0 w1) (hS : ∀ j ∈ L, w0.heap.size ≤ j) (hk : k < 1000000) (hr : rk < 1000000) (h : Both L w1 w b m rb v rv ps qs c k rk)
    (kd : Int) (fa : Bool) (fn : Int) (ta : Bool) (tn : Int) (a : Option Addr) (len cap : Nat) (hlc : len ≤ cap) (hn : a = none → len = 0 ∧ cap = 0) (I K : Int) (vs : List UInt8) (hvl : (nums vs).length = cl len) (hrd : Rd8 w0 a (nums vs)) :
    Calls Try.prog 9 #[.pointer (some ⟨b, 0, none⟩), .pointer (some ⟨rb, 0, none⟩), .agg #[.int .i64 kd, .bool fa, .int .i64 fn, .bool ta, .int .i64 tn, .slice a len cap, .int .i64 I, .int .i64 K]] w fun e w' => e = .returned (.bool true) ∧ Then L w1 w' b m rb k rk := by
  have hlen := h.like.len
  have hq : ∀ i, inR qs.length i = inR ps.length i := fun i => by rw [hlen]
  have weak : ∀ {x : Int}, Calls Try.prog 9 #[.pointer (some ⟨b, 0, none⟩), .pointer (some ⟨rb, 0, none⟩), .agg #[.int .i64 x, .bool fa, .int .i64 fn, .bool ta, .int .i64 tn, .slice a len cap, .int .i64 I, .int .i64 K]] w (fun e w' => e = .returned (.bool true) ∧ Below w.heap.size w w') →
      Calls Try.prog 9 #[.pointer (some ⟨b, 0, none⟩), .pointer (some ⟨rb, 0, none⟩), .agg #[.int .i64 x, .bool fa, .int .i64 fn, .bool ta, .int .i64 tn, .slice a len cap, .int .i64 I, .int .i64 K]] w fun e w' => e = .returned (.bool true) ∧ Then L w1 w' b m rb k rk :=
    fun hc => hc.mono (by rintro e w' ⟨rfl, hb⟩; exact ⟨rfl, h.same hb⟩)
  by_cases k1 : kd = 1
  · subst k1
    by_cases hok : okP fn tn (cl len) = true
    · by_cases hf : ps.length = 4096
      · refine (step_put_full hk hr h.two hf (by omega) fa fn ta tn a len cap hlc hn I K hok).mono ?_
        rintro e w' ⟨rfl, v', rv', h2⟩
        exact ⟨rfl, _, _, _, _, _, _, _, ⟨h2, h.like, h.us⟩, by omega, by omega⟩
      · have := h.two.ns.len
        refine (step_put_ok h0 hS hk hr h.two (nums vs) (by omega) (by omega) fa fn ta tn a len cap hlc hn I K hvl hrd hok).mono ?_
        rintro e w' ⟨rfl, v', rv', p, q, h2, hkey, hbs⟩
        refine ⟨rfl, _, _, _, _, _, _, _, ⟨h2, h.like.app hkey, ?_⟩, by omega, by omega⟩
        intro x hx
        rcases List.mem_append.1 hx with hx | hx
        · exact h.us x hx
        · obtain rfl : x = p := by simpa using hx
          exact ⟨vs, hbs⟩
    · exact weak (step_put_bad h.two fa fn ta tn a len cap hlc hn I K (by simpa using hok))
  by_cases k8 : kd = 8
  · subst k8
    exact weak (step_to h.two h.like fa fn ta tn a len cap I K)
  by_cases k6 : kd = 6
  · subst k6
    by_cases hg : okA fn = true
    · refine (step_cut_ok hk hr h.two h.like fa fn hg ta tn a len cap I K).mono ?_
      rintro e w' ⟨rfl, v', rv', h2⟩
      rw [sub_eq _ _ _ _ hlen.symm (h.like.cut fa fn).len.symm] at h2
      refine ⟨rfl, _, _, _, _, _, _, _, ⟨h2, h.like.cut fa fn, fun p hp => h.us p (List.mem_filter.1 hp).1⟩, by omega, by omega⟩
    · exact weak (step_cut_bad h.two fa fn (by simpa using hg) ta tn a len cap I K)
  by_cases k5 : kd = 5
  · subst k5
    by_cases hin : (inR ps.length I && inR ps.length K) = true
    · rw [Bool.and_eq_true] at hin
      obtain ⟨i, rfl, hi⟩ := inR_n hin.1
      obtain ⟨j, rfl, hj⟩ := inR_n hin.2
      refine (step_swap_ok h.two i j hi hj (by omega) (by omega) fa fn ta tn a len cap).mono ?_
      rintro e w' ⟨rfl, v', rv', h2⟩
      exact ⟨rfl, _, _, _, _, _, _, _, ⟨h2, h.like.swp i j, us_swp hi hj h.us⟩, by omega, by omega⟩
    · have hin' : (inR ps.length I && inR ps.length K) = false := by simpa using hin
      exact weak (step_swap_bad h.two I K hin' (by rw [hq, hq]; exact hin') fa fn ta tn a len cap)
  by_cases kk : kd = 2 ∨ kd = 3 ∨ kd = 4 ∨ kd = 7
  · by_cases hin : inR ps.length I = true
    · obtain ⟨i, rfl, hi⟩ := inR_n hin
      have hj : i < qs.length := by omega
      obtain ⟨us, hus⟩ := h.us ps[i] (List.getElem_mem hi)
      rcases kk with rfl | rfl | rfl | rfl
      · refine (step_take_ok hk hr h.two h.like i hi hj us hus fa fn ta tn a len cap K).mono ?_
        rintro e w' ⟨rfl, v', rv', h2⟩
        exact ⟨rfl, _, _, _, _, _, _, _, ⟨h2, h.like.erase i, fun p hp => h.us p (List.mem_of_mem_eraseIdx hp)⟩, by omega, by omega⟩
      · refine (step_twin_ok hk hr h.two h.like i hi hj us hus fa fn ta tn a len cap K).mono ?_
        rintro e w' ⟨rfl, v', rv', h2⟩
        exact ⟨rfl, _, _, _, _, _, _, _, ⟨h2, h.like, h.us⟩, by omega, by omega⟩
      · refine (step_drop_ok hk hr h.two i hi hj fa fn ta tn a len cap K).mono ?_
        rintro e w' ⟨rfl, v', rv', h2⟩
        exact ⟨rfl, _, _, _, _, _, _, _, ⟨h2, h.like.erase i, fun p hp => h.us p (List.mem_of_mem_eraseIdx hp)⟩, by omega, by omega⟩
      · exact weak (step_at_ok h.two h.like i hi hj us hus fa fn ta tn a len cap K)
    · have hin' : inR ps.length I = false := by simpa using hin
      have hin2 : inR qs.length I = false := by rw [hq]; exact hin'
      rcases kk with rfl | rfl | rfl | rfl
      · exact weak (step_take_bad h.two I hin' hin2 fa fn ta tn a len cap K)
      · exact weak (step_twin_bad h.two I hin' hin2 fa fn ta tn a len cap K)
      · exact weak (step_drop_bad h.two I hin' hin2 fa fn ta tn a len cap K)
      · exact weak (step_at_bad h.two I hin' hin2 fa fn ta tn a len cap K)
  · refine weak (step_other _ _ kd ?_ fa fn ta tn a len cap I K w)
    intro i h1 h2 he
    have : i = 1 ∨ i = 2 ∨ i = 3 ∨ i = 4 ∨ i = 5 ∨ i = 6 ∨ i = 7 ∨ i = 8 := by omega
    rcases this with rfl | rfl | rfl | rfl | rfl | rfl | rfl | rfl <;> simp_all

end Go.Proofs.Ytoinjmddmahpkaa
