/- The document's reader: vectors, whole. -/
import Derived.Test.YtmhcmlegdoapdaaDoorVB
namespace Go.Proofs.YtmhcmlegdoapdaaDoor
open Go.RowKit

theorem pvec_rest (n : Nat) (hn : n ≤ 32) (l : List Int) : pvec ((n : Int) :: l) = vrest n l := by
  unfold pvec
  simp only []
  rw [if_pos (by omega), Int.toNat_natCast]
  unfold vrest
  rfl
theorem vrest_zero (l : List Int) : vrest 0 l = .ok (0, 0) 1 := by
  unfold vrest phigh
  rw [if_pos (by omega)]
  simp [hval, spare]

/-- The document's vector, of any bytes. -/
theorem rvec_any (Q sb : Nat) (L : List Int) (p : Nat) (w : World) (h : DR w Q sb L p 0) (hsb : sb < w.heap.size) :
    Calls Tryd.prog 60 #[.pointer (some ⟨Q, 0, none⟩)] w fun e w' => DPair w Q sb L p (pvec (L.drop p)) e w' := by
  have hbd := h.bd
  have hQ := h.lt
  have hby := fun (W : World) (hg : Gr w W) => rbyte_any Q sb L p 0 32 W (h.gr hg)
  rcases hd : L.drop p with _ | ⟨c, rest⟩
  · rw [hd] at hby
    have hb0 : pbyte 0 32 ([] : List Int) = .bad 0 32 := rfl
    rw [hb0] at hby
    refine (rvec_zero Q sb L p 32 w hQ hsb (fun W hg => (hby W hg).mono ?_)).mono ?_
    · rintro r w' ⟨⟨rfl, hd', _⟩, hg'⟩
      exact ⟨rfl, hd', hg'⟩
    · rintro e w' ⟨rfl, hd', hg'⟩
      exact ⟨⟨⟨0, 0, rfl⟩, hd', by omega⟩, hg'⟩
  · have hcb := hbd c (List.mem_of_mem_drop (by rw [hd]; exact List.mem_cons_self))
    have hr1 : L.drop (p + 1) = rest := by
      have : L.drop (p + 1) = (L.drop p).drop 1 := by rw [List.drop_drop]
      rw [this, hd]; rfl
    rw [hd] at hby
    obtain ⟨n, rfl⟩ := Int.eq_ofNat_of_zero_le hcb.1
    by_cases hc : n ≤ 32
    · have hb0 : pbyte 0 32 ((n : Int) :: rest) = .ok (n : Int) 1 := if_pos ⟨by omega, by omega⟩
      rw [hb0] at hby
      rw [pvec_rest n hc]
      by_cases h0 : n = 0
      · subst h0
        rw [vrest_zero]
        refine (rvec_zero Q sb L (p + 1) 0 w hQ hsb (fun W hg => (hby W hg).mono ?_)).mono ?_
        · rintro r w' ⟨⟨rfl, hd'⟩, hg'⟩
          exact ⟨rfl, hd', hg'⟩
        · rintro e w' ⟨rfl, hd', hg'⟩
          exact ⟨⟨rfl, hd'⟩, hg'⟩
      · refine rvec_some Q sb L rest p n (by omega) hc hr1 w hQ hsb hbd (fun W hg => (hby W hg).mono ?_)
        rintro r w' ⟨⟨rfl, hd'⟩, hg'⟩
        exact ⟨rfl, hd', hg'⟩
    · have hb0 : pbyte 0 32 ((n : Int) :: rest) = .bad 0 31 := if_neg (by omega)
      rw [hb0] at hby
      have hpk : pvec ((n : Int) :: rest) = .bad 0 31 := if_neg (by omega)
      rw [hpk]
      refine (rvec_zero Q sb L p 31 w hQ hsb (fun W hg => (hby W hg).mono ?_)).mono ?_
      · rintro r w' ⟨⟨rfl, hd', _⟩, hg'⟩
        exact ⟨rfl, hd', hg'⟩
      · rintro e w' ⟨rfl, hd', hg'⟩
        exact ⟨⟨⟨0, 0, rfl⟩, hd', by omega⟩, hg'⟩
/-- The document's vector behind a fault. -/
theorem rvec_bad (Q sb : Nat) (L : List Int) (p : Nat) (er : Int) (he : er ≠ 0) (w : World) (h : DR w Q sb L p er) (hsb : sb < w.heap.size) :
    Calls Tryd.prog 60 #[.pointer (some ⟨Q, 0, none⟩)] w fun e w' => e = .returned ((.agg #[.int .i64 (0), .int .u64 (0)])) ∧ DR w' Q sb L p er ∧ w.grownBy w' (some Q) := by
  refine rvec_zero Q sb L p er w h.lt hsb (fun W hg => (rbyte_bad Q sb L p er he 0 32 W (h.gr hg)).mono ?_)
  rintro r w' ⟨rfl, rfl⟩
  exact ⟨rfl, h.gr hg, ⟨rfl, rfl, rfl, Nat.le_refl _, fun _ _ _ => rfl⟩⟩

end Go.Proofs.YtmhcmlegdoapdaaDoor
