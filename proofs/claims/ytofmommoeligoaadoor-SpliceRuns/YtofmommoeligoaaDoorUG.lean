/- The program's splice and the document's: alike, whatever they are told. -/
import Derived.Test.YtofmommoeligoaaDoorTX
import Derived.Test.YtofmommoeligoaaDoorUE
import Derived.Test.YtofmommoeligoaaDoorUF
namespace Go.Proofs.YtofmommoeligoaaDoor

/-- The document's splice and the program's stand alike. -/
structure Sim (D : Ds) (S : Sp) (t : Option Th) : Prop where
  c1 : S.wl = D.wl
  c2 : S.wb = D.wb
  c3 : S.me = D.me
  c4 : S.oa = D.oa
  c5 : S.oo = D.oo
  pl : S.pl = D.st
  dd : S.dd = D.pd
  rg : S.rg = D.r
  lf : ¬ (D.st = 10 ∧ D.th = 5) → S.lf = D.p ∧ S.hl = D.has ∧ (D.has = true → S.la = D.la)
  la : D.st = 10 ∧ D.th = 5 → S.lf = D.la ∧ S.hl = false
  w10 : D.st = 10 → D.th = 1 ∨ D.th = 5
  f9 : D.st = 9 → D.th = 2 ∧ t = some .wait ∨ D.th = 3 ∧ t = some (.fin D.e D.rl D.rr) ∨ D.th = 4 ∧ t = some (.go D.r)
  e11 : D.st = 11 → S.e = D.e ∧ S.rl = D.rl ∧ S.rr = D.rr
theorem Sim.step {D : Ds} {S : Sp} {t : Option Th} (h : Sim D S t) (ok : SOk S t) : S.step = D.step := by
  have hp : S.pl = 1 ∨ S.pl = 3 ∨ S.pl = 4 ∨ S.pl = 5 ∨ S.pl = 6 ∨ S.pl = 7 ∨ S.pl = 8 ∨ S.pl = 9 ∨ S.pl = 10 ∨ S.pl = 11 := by have := ok.pl; omega
  have he := h.pl
  unfold Sp.step Ds.step
  rw [h.c1, h.c2, h.c3, h.c4, h.c5, h.rg, ← he]
  have hl : S.pl ≠ 10 → S.lf = D.p := fun e => (h.lf (fun c => e (by rw [he]; exact c.1))).1
  rcases hp with hp | hp | hp | hp | hp | hp | hp | hp | hp | hp
  all_goals rw [hp]
  · rw [hl (by omega)]; rfl
  · rfl
  · rw [hl (by omega)]; rfl
  · rw [hl (by omega)]; rfl
  · rfl
  · rfl
  · rfl
  · rw [hl (by omega)]; rfl
  · rfl
  · obtain ⟨e1, e2, e3⟩ := h.e11 (by omega)
    rw [e1, e2, e3]; rfl
/-- What both have in common where nothing but the place, the answer .. turns. -/
theorem Sim.base {D : Ds} {S : Sp} {t : Option Th} (h : Sim D S t) (hn : D.st ≠ 10) : S.lf = D.p ∧ S.hl = D.has ∧ (D.has = true → S.la = D.la) := h.lf (fun c => hn c.1)
/-- A step that turns the place alone (not Free, not a wait, not the end). -/
theorem Sim.place {D : Ds} {S : Sp} {t u : Option Th} (h : Sim D S t) (hn : D.st ≠ 10) {k : Int} (h9 : k ≠ 9) (h10 : k ≠ 10) (h11 : k ≠ 11) : Sim { D with st := k } { S with pl := k } u :=
  ⟨h.c1, h.c2, h.c3, h.c4, h.c5, rfl, h.dd, h.rg, fun _ => h.base hn, fun c => absurd c.1 h10, fun e => absurd e h10, fun e => absurd e h9, fun e => absurd e h11⟩
theorem Sim.free3 {D : Ds} {S : Sp} {t : Option Th} (h : Sim D S t) (hn : D.st ≠ 10) (e : Int) (l r : Rf) : Sim (({ D with e := e, rl := l, rr := r } : Ds).free 3) (S.free t (.fin e l r)).1 (S.free t (.fin e l r)).2 := by
  have hb := h.base hn
  cases hd : S.dd with
  | false =>
    rw [free_nd hd]
    unfold Ds.free
    rw [if_neg (by rw [show ({ D with e := e, rl := l, rr := r } : Ds).pd = D.pd from rfl, ← h.dd, hd]; simp)]
    exact ⟨h.c1, h.c2, h.c3, h.c4, h.c5, rfl, h.dd, h.rg, fun _ => hb, fun c => absurd (show (9 : Int) = 10 from c.1) (by decide), fun c => absurd (show (9 : Int) = 10 from c) (by decide), fun _ => Or.inr (Or.inl ⟨rfl, rfl⟩), fun c => absurd (show (9 : Int) = 11 from c) (by decide)⟩
  | true =>
    rw [free_d hd]
    unfold Ds.free
    rw [if_pos (by rw [show ({ D with e := e, rl := l, rr := r } : Ds).pd = D.pd from rfl, ← h.dd, hd])]
    unfold Ds.go
    rw [if_pos rfl]
    exact ⟨h.c1, h.c2, h.c3, h.c4, h.c5, rfl, h.dd, h.rg, fun _ => hb, fun c => absurd (show (11 : Int) = 10 from c.1) (by decide), fun c => absurd (show (11 : Int) = 10 from c) (by decide), fun c => absurd (show (11 : Int) = 9 from c) (by decide), fun _ => ⟨rfl, rfl, rfl⟩⟩
theorem Sim.free2 {D : Ds} {S : Sp} {t : Option Th} (h : Sim D S t) (hn : D.st ≠ 10) (hd : S.dd = false) : Sim (D.free 2) (S.free t .wait).1 (S.free t .wait).2 := by
  have hb := h.base hn
  rw [free_nd hd]
  unfold Ds.free
  rw [if_neg (by rw [← h.dd, hd]; simp)]
  exact ⟨h.c1, h.c2, h.c3, h.c4, h.c5, rfl, h.dd, h.rg, fun _ => hb, fun c => absurd (show (9 : Int) = 10 from c.1) (by decide), fun c => absurd (show (9 : Int) = 10 from c) (by decide), fun _ => Or.inl ⟨rfl, rfl⟩, fun c => absurd (show (9 : Int) = 11 from c) (by decide)⟩
theorem Sim.free4 {D : Ds} {S : Sp} {t : Option Th} (h : Sim D S t) (hn : D.st ≠ 10) (hd : S.dd = false) : Sim (D.free 4) (S.free t (.go S.rg)).1 (S.free t (.go S.rg)).2 := by
  have hb := h.base hn
  rw [free_nd hd]
  unfold Ds.free
  rw [if_neg (by rw [← h.dd, hd]; simp)]
  exact ⟨h.c1, h.c2, h.c3, h.c4, h.c5, rfl, h.dd, h.rg, fun _ => hb, fun c => absurd (show (9 : Int) = 10 from c.1) (by decide), fun c => absurd (show (9 : Int) = 10 from c) (by decide), fun _ => Or.inr (Or.inr ⟨rfl, by rw [h.rg]⟩), fun c => absurd (show (9 : Int) = 11 from c) (by decide)⟩
theorem Sim.fin {D : Ds} {S : Sp} {t : Option Th} (h : Sim D S t) (hn : D.st ≠ 10) (e : Int) (h0 : e ≠ 0) (h1 : e ≠ 100) : Sim (D.fin e) (S.free t (.fin e zr zr)).1 (S.free t (.fin e zr zr)).2 := by
  unfold Ds.fin
  rw [if_neg (fun c => c.elim h0 h1)]
  exact h.free3 hn e zr zr
theorem Sim.fin2 {D : Ds} {S : Sp} {t : Option Th} (h : Sim D S t) (hn : D.st ≠ 10) (e : Int) (h0 : e = 0 ∨ e = 100) : Sim (D.fin e) (S.free t (.fin e S.lf S.rg)).1 (S.free t (.fin e S.lf S.rg)).2 := by
  unfold Ds.fin
  rw [if_pos h0, (h.base hn).1, h.rg]
  exact h.free3 hn e D.p D.r
theorem Sim.look {D : Ds} {S : Sp} {t : Option Th} (h : Sim D S t) (hn : D.st ≠ 10) (hd : S.dd = false) : Sim D.look (S.look t).1 (S.look t).2 := by
  have hb := h.base hn
  have k1 : klt (S.lf.rk, S.lf.kn) (S.rg.rk, S.rg.kn) = klt (D.p.rk, D.p.kn) (D.r.rk, D.r.kn) := by rw [hb.1, h.rg]
  have k2 : klt (S.rg.rk, S.rg.kn) (S.me.rk, S.me.kn) = klt (D.r.rk, D.r.kn) (D.me.rk, D.me.kn) := by rw [h.rg, h.c3]
  have k3 : klt (S.me.rk, S.me.kn) (S.rg.rk, S.rg.kn) = klt (D.me.rk, D.me.kn) (D.r.rk, D.r.kn) := by rw [h.rg, h.c3]
  unfold Ds.look Sp.look
  by_cases h1 : klt (D.p.rk, D.p.kn) (D.r.rk, D.r.kn) = false
  · rw [if_pos h1, if_pos (k1.trans h1)]; exact h.fin hn 131 (by decide) (by decide)
  rw [if_neg h1, if_neg (fun c => h1 (k1.symm.trans c))]
  by_cases h2 : klt (D.r.rk, D.r.kn) (D.me.rk, D.me.kn) = true
  · rw [if_pos h2, if_pos (k2.trans h2)]
    exact h.free4 hn hd
  rw [if_neg h2, if_neg (fun c => h2 (k2.symm.trans c))]
  rw [klt_dec] at h2
  have h2' : ¬ (D.r.rk < D.me.rk ∨ D.r.rk = D.me.rk ∧ D.r.kn < D.me.kn) := fun c => h2 (decide_eq_true c)
  by_cases h3 : klt (D.me.rk, D.me.kn) (D.r.rk, D.r.kn) = true
  · have h3' := h3
    rw [klt_dec] at h3'
    have h3' := of_decide_eq_true h3'
    rw [if_pos (k3.trans h3), if_neg (by omega)]
    exact h.place hn (k := 4) (by decide) (by decide) (by decide)
  · have h3' := h3
    rw [klt_dec] at h3'
    have h3' : ¬ (D.me.rk < D.r.rk ∨ D.me.rk = D.r.rk ∧ D.me.kn < D.r.kn) := fun c => h3' (decide_eq_true c)
    rw [if_neg (fun c => h3 (k3.symm.trans c)), if_pos (by omega)]
    by_cases h4 : 0 < D.wl
    · rw [if_pos h4, if_pos (by rw [h.c1]; exact h4)]; exact h.free2 hn hd
    · rw [if_neg h4, if_neg (by rw [h.c1]; exact h4)]; exact h.place hn (k := 3) (by decide) (by decide) (by decide)
theorem dgo_st (D : Ds) (k : Int) : ({ D with st := k } : Ds).go = D.go := by
  unfold Ds.go
  rfl
theorem dfree_st (D : Ds) (k h : Int) : ({ D with st := k } : Ds).free h = D.free h := by
  unfold Ds.free Ds.go
  rfl
theorem dfin_st (D : Ds) (k e : Int) : ({ D with st := k } : Ds).fin e = D.fin e := by
  unfold Ds.fin Ds.free Ds.go
  rfl
theorem dlook_st (D : Ds) (k : Int) (r : Rf) : ({ D with st := k, r := r } : Ds).look = ({ D with r := r } : Ds).look := by
  unfold Ds.look
  rw [show ({ D with st := k, r := r } : Ds) = { ({ D with r := r } : Ds) with st := k } from rfl, dfin_st, dfree_st, dfree_st]
theorem Sim.tell {D : Ds} {S : Sp} {t : Option Th} (h : Sim D S t) (ok : SOk S t) (a : An) : Sim (D.tell a) (S.tell t a).1 (S.tell t a).2 := by
  have he := h.pl
  unfold Ds.tell Sp.tell
  rw [← he]
  by_cases h1 : S.pl = 1
  · rw [if_pos h1, if_pos h1]
    have hd := ok.nd (Or.inl h1)
    have hn : D.st ≠ 10 := by omega
    have hb := h.base hn
    unfold Ds.locked
    by_cases hk : a.k = 1
    · rw [if_pos hk, if_pos hk]
      have hs : Sim { D with st := 2, r := a.r } { S with pl := 2, rg := a.r } t := ⟨h.c1, h.c2, h.c3, h.c4, h.c5, rfl, h.dd, rfl, fun _ => hb, fun c => absurd (show (2 : Int) = 10 from c.1) (by decide), fun c => absurd (show (2 : Int) = 10 from c) (by decide), fun c => absurd (show (2 : Int) = 9 from c) (by decide), fun c => absurd (show (2 : Int) = 11 from c) (by decide)⟩
      have := hs.look (show (2 : Int) ≠ 10 by decide) hd
      rwa [dlook_st] at this
    · rw [if_neg hk, if_neg hk]
      unfold Sp.stepBack Sp.wait Sp.fin
      by_cases h23 : a.k = 2 ∨ a.k = 3
      · rw [if_pos h23, if_pos h23]
        by_cases hh : D.has = true
        · rw [if_pos hh, if_pos (hb.2.1.trans hh)]
          exact ⟨h.c1, h.c2, h.c3, h.c4, h.c5, rfl, h.dd, h.rg, fun c => absurd ⟨rfl, rfl⟩ c, fun _ => ⟨hb.2.2 hh, rfl⟩, fun _ => Or.inr rfl, fun c => absurd (show (10 : Int) = 9 from c) (by decide), fun c => absurd (show (10 : Int) = 11 from c) (by decide)⟩
        · rw [if_neg hh, if_neg (fun c => hh (hb.2.1.symm.trans c))]
          exact ⟨h.c1, h.c2, h.c3, h.c4, h.c5, rfl, h.dd, h.rg, fun _ => hb, fun c => absurd (show (11 : Int) = 10 from c.1) (by decide), fun c => absurd (show (11 : Int) = 10 from c) (by decide), fun c => absurd (show (11 : Int) = 9 from c) (by decide), fun _ => ⟨rfl, rfl, rfl⟩⟩
      · rw [if_neg h23, if_neg h23]
        exact ⟨h.c1, h.c2, h.c3, h.c4, h.c5, rfl, h.dd, h.rg, fun _ => hb, fun c => absurd (show (1 : Int) = 5 from c.2) (by decide), fun _ => Or.inl rfl, fun c => absurd (show (10 : Int) = 9 from c) (by decide), fun c => absurd (show (10 : Int) = 11 from c) (by decide)⟩
  rw [if_neg h1, if_neg h1]
  by_cases h3 : S.pl = 3
  · rw [if_pos h3, if_pos h3]
    have hd := ok.nd (Or.inr (Or.inl h3))
    have hn : D.st ≠ 10 := by omega
    unfold Sp.hSame
    by_cases hc : a.k = 1 ∧ a.mr = false
    · rw [if_pos hc, if_pos hc]; exact h.fin2 hn 100 (Or.inr rfl)
    · rw [if_neg hc, if_neg hc]; exact h.free2 hn hd
  rw [if_neg h3, if_neg h3]
  by_cases h4 : S.pl = 4
  · rw [if_pos h4, if_pos h4]
    have hn : D.st ≠ 10 := by omega
    unfold Sp.hEnter
    by_cases hk : a.k = 1
    · rw [if_pos hk, if_pos hk]; exact h.place hn (by decide) (by decide) (by decide)
    · rw [if_neg hk, if_neg hk]
      by_cases hk3 : a.k = 3
      · rw [if_pos hk3]; exact h.fin hn 132 (by decide) (by decide)
      · rw [if_neg hk3]; exact h.fin hn 133 (by decide) (by decide)
  rw [if_neg h4, if_neg h4]
  by_cases h5 : S.pl = 5
  · rw [if_pos h5, if_pos h5]
    have hn : D.st ≠ 10 := by omega
    have hb := h.base hn
    unfold Sp.hRight
    by_cases hc : a.k = 1 ∨ a.k = 3 ∧ a.r.id = D.me.id
    · rw [if_pos hc, if_pos (by rw [h.c3]; exact hc)]
      exact ⟨h.c1, h.c2, h.c3, h.c4, h.c5, rfl, rfl, h.rg, fun _ => hb, fun c => absurd (show (6 : Int) = 10 from c.1) (by decide), fun c => absurd (show (6 : Int) = 10 from c) (by decide), fun c => absurd (show (6 : Int) = 9 from c) (by decide), fun c => absurd (show (6 : Int) = 11 from c) (by decide)⟩
    · rw [if_neg hc, if_neg (by rw [h.c3]; exact hc)]
      exact ⟨h.c1, h.c2, h.c3, h.c4, h.c5, rfl, rfl, h.rg, fun _ => hb, fun c => absurd (show (8 : Int) = 10 from c.1) (by decide), fun c => absurd (show (8 : Int) = 10 from c) (by decide), fun c => absurd (show (8 : Int) = 9 from c) (by decide), fun c => absurd (show (8 : Int) = 11 from c) (by decide)⟩
  rw [if_neg h5, if_neg h5]
  by_cases h6 : S.pl = 6
  · rw [if_pos h6, if_pos h6]
    exact h.place (by omega) (by decide) (by decide) (by decide)
  rw [if_neg h6, if_neg h6]
  by_cases h7 : S.pl = 7
  · rw [if_pos h7, if_pos h7]
    have hn : D.st ≠ 10 := by omega
    unfold Sp.hMine
    by_cases hk3 : a.k = 3
    · rw [if_pos hk3, if_pos hk3]; exact h.fin hn 132 (by decide) (by decide)
    · rw [if_neg hk3, if_neg hk3]; exact h.fin2 hn 0 (Or.inl rfl)
  rw [if_neg h7, if_neg h7]
  by_cases h8 : S.pl = 8
  · rw [if_pos h8, if_pos h8]
    have hn : D.st ≠ 10 := by omega
    unfold Sp.hOut
    by_cases hk3 : a.k = 3
    · rw [if_pos hk3, if_pos hk3]; exact h.fin hn 132 (by decide) (by decide)
    · rw [if_neg hk3, if_neg hk3]; exact h.fin hn 131 (by decide) (by decide)
  rw [if_neg h8, if_neg h8]
  by_cases h9 : S.pl = 9
  · rw [if_pos h9, if_pos h9]
    have hn : D.st ≠ 10 := by omega
    have hb := h.base hn
    have hd := ok.nd (by omega)
    unfold Ds.go
    rcases h.f9 (by omega) with ⟨e1, rfl⟩ | ⟨e1, rfl⟩ | ⟨e1, rfl⟩
    · rw [if_neg (by omega), if_pos e1]
      exact ⟨h.c1, h.c2, h.c3, h.c4, h.c5, rfl, h.dd, h.rg, fun _ => hb, fun c => absurd (show (1 : Int) = 5 from c.2) (by decide), fun _ => Or.inl rfl, fun c => absurd (show (10 : Int) = 9 from c) (by decide), fun c => absurd (show (10 : Int) = 11 from c) (by decide)⟩
    · rw [if_pos e1]
      exact ⟨h.c1, h.c2, h.c3, h.c4, h.c5, rfl, h.dd, h.rg, fun _ => hb, fun c => absurd (show (11 : Int) = 10 from c.1) (by decide), fun c => absurd (show (11 : Int) = 10 from c) (by decide), fun c => absurd (show (11 : Int) = 9 from c) (by decide), fun _ => ⟨rfl, rfl, rfl⟩⟩
    · rw [if_neg (by omega), if_neg (by omega), if_pos e1]
      exact ⟨h.c1, h.c2, h.c3, h.c4, h.c5, rfl, h.dd, h.rg, fun _ => ⟨rfl, rfl, fun _ => hb.1⟩, fun c => absurd (show (1 : Int) = 10 from c.1) (by decide), fun c => absurd (show (1 : Int) = 10 from c) (by decide), fun c => absurd (show (1 : Int) = 9 from c) (by decide), fun c => absurd (show (1 : Int) = 11 from c) (by decide)⟩
  rw [if_neg h9, if_neg h9]
  exact h
theorem Sim.wake {D : Ds} {S : Sp} {t : Option Th} (h : Sim D S t) : Sim D.wake S.wake t := by
  have he := h.pl
  unfold Ds.wake Sp.wake
  rw [← he]
  by_cases h10 : S.pl = 10
  · rw [if_pos h10, if_pos h10]
    unfold Ds.go
    rcases h.w10 (by omega) with e1 | e1
    · have hb := h.lf (fun c => by omega)
      rw [if_neg (by omega), if_neg (by omega), if_neg (by omega), if_neg (by omega)]
      exact ⟨h.c1, h.c2, h.c3, h.c4, h.c5, rfl, h.dd, h.rg, fun _ => hb, fun c => absurd (show (1 : Int) = 10 from c.1) (by decide), fun c => absurd (show (1 : Int) = 10 from c) (by decide), fun c => absurd (show (1 : Int) = 9 from c) (by decide), fun c => absurd (show (1 : Int) = 11 from c) (by decide)⟩
    · obtain ⟨l1, l2⟩ := h.la ⟨by omega, e1⟩
      rw [if_neg (by omega), if_neg (by omega), if_neg (by omega), if_pos e1]
      exact ⟨h.c1, h.c2, h.c3, h.c4, h.c5, rfl, h.dd, h.rg, fun _ => ⟨l1, l2, fun c => by cases c⟩, fun c => absurd (show (1 : Int) = 10 from c.1) (by decide), fun c => absurd (show (1 : Int) = 10 from c) (by decide), fun c => absurd (show (1 : Int) = 9 from c) (by decide), fun c => absurd (show (1 : Int) = 11 from c) (by decide)⟩
  · rw [if_neg h10, if_neg h10]; exact h
theorem Sim.new (wl wb : Int) (me fr : Rf) (oa oo : Int) : Sim (newD wl wb me fr oa oo) (newS wl wb me fr oa oo) none :=
  ⟨rfl, rfl, rfl, rfl, rfl, rfl, rfl, rfl, fun _ => ⟨rfl, rfl, fun c => by cases c⟩, fun c => absurd (show (1 : Int) = 10 from c.1) (by decide), fun c => absurd (show (1 : Int) = 10 from c) (by decide), fun c => absurd (show (1 : Int) = 9 from c) (by decide), fun c => absurd (show (1 : Int) = 11 from c) (by decide)⟩

end Go.Proofs.YtofmommoeligoaaDoor
