import Derived.Test.YtokdoklkaojheaaDoorWs
namespace Go.Proofs.YtokdoklkaojheaaDoor
open Go.RowKit

abbrev fv (f : Nat) : Value := .func (.func f) #[] #[]

theorem nameRules_any (w : World) :
    Calls Tryd.prog 48 #[] w fun e w' => e = .returned (.slice (some ⟨w.heap.size, 0, none⟩) 2 2) ∧ w.alloc (.cells #[fv 83, fv 84] 126) = w' := by
  go_enter Tryd.func48, Tryd.ntmps48
  go_wp2
  go_ret
  exact ⟨rfl, rfl⟩

theorem two_new (w : World) (a b : Value) (t : TypeId) (j : Nat) (u : Value) (h : [a, b][j]? = some u) : (w.alloc (.cells #[a, b] t)).cell? ((⟨w.heap.size, 0, none⟩ : Addr).add j) = some u := by
  match j, h with
  | 0, h => simp [Addr.add] at h ⊢; exact h
  | 1, h => simp [Addr.add] at h ⊢; exact h
  | j + 2, h => simp at h

theorem Tryd.info126 : (Tryd.prog.info? 126).map (fun i => (i.zero, i.size, i.bytes)) = some (some (.agg #[.nilFunc]), 1, 8) := by kernel_rfl

set_option maxHeartbeats 1000000 in
set_option maxRecDepth 100000 in
theorem rules_any (w : World) :
    Calls Tryd.prog 72 #[] w fun e w' => ∃ g cap, e = .returned (.slice (some ⟨g, 0, none⟩) 4 cap) ∧ (∀ k (h : k < 4), w'.cell? ⟨g, k, none⟩ = some (.func (.func ([83, 84, 97, 98][k])) #[] #[])) ∧ w.heap.size ≤ g ∧ g < w'.heap.size ∧ Below w.heap.size w w' := by
  obtain ⟨i0, hi, hz0, hz1, hz2⟩ := info_parts Tryd.info126
  have hown := World.ownsRow_lit (base := w.heap.size) (e := 126) (size := 1) w #[fv 83, fv 84] 2 (Nat.le_refl _) (by decide) rfl
  go_enter Tryd.func72, Tryd.ntmps72
  go_wp2_with fail
  refine (nameRules_any _).mono ?_; rintro e w1 ⟨rfl, rfl⟩
  go_wp2_with (at_builtin; refine wpList_append_own _ rfl _ _ 86 rfl w.heap.size 126 i0 (.agg #[.nilFunc]) 1 8 Tryd.underlying86 hi hz0 hz1 hz2 rfl (by decide) _ _ _ rfl (hown.alloc _) ⟨w.heap.size + 1, 0, none⟩ 2 2 [fv 97, fv 98] rfl rfl ?c1 ?c2 ?c3 ?c4 ?c5 ?_)
  case c1 => intro j u hj; have := two_new (w.alloc (.cells #[fv 83, fv 84] 126)) (fv 97) (fv 98) 126 j u hj; simpa using this
  case c2 => simp [Value.oneCell']
  case c3 => decide
  case c4 => decide
  case c5 => simp; omega
  · intro v' w1 hown' hgrow _
    have hbig : Below w.heap.size w w1 := (below_two w _ _).grown hgrow (by simp; omega) (fun j hj => by cases hj; exact Nat.le_refl _)
    have hex : ∃ g cap, v' = .slice (some ⟨g, 0, none⟩) 4 cap ∧ (∀ k (h : k < 4), w1.cell? ⟨g, k, none⟩ = some (.func (.func ([83, 84, 97, 98][k])) #[] #[])) ∧ w.heap.size ≤ g ∧ g < w1.heap.size := by
      rcases hown'.2 with ⟨_, h⟩ | ⟨g, cap, cur, rfl, h1, h2, _⟩
      · omega
      · refine ⟨g, cap, rfl, fun k hk => ?_, h1, (Array.getElem?_eq_some_iff.1 h2).1⟩
        rw [hown'.cellAt k (by omega)]
        match k, hk with
        | 0, _ => rfl
        | 1, _ => rfl
        | 2, _ => rfl
        | 3, _ => rfl
    obtain ⟨g, cap, hv, hcell, hg1, hg2⟩ := hex
    have Hcell := Lib.hid hcell; clear hcell
    rw [hv]
    clear hv hown' hgrow hown
    have Hbig := Lib.hid hbig; clear hbig
    go_wp2
    go_ret
    exact ⟨g, cap, rfl, Hcell.out, hg1, hg2, Hbig.out⟩
end Go.Proofs.YtokdoklkaojheaaDoor
