/- Plain facts: the program's way over spaces and comments is the specification's. No program's text stands in it. -/
import Derived.Test.YtokdoklkaojheaaDoorZb
import Derived.Test.YtokdoklkaojheaaDoorWv
namespace Go.Proofs.YtokdoklkaojheaaDoor
open Go.RowKit

theorem skipF_enough (l : List UInt8) : ∀ g g' at_, at_ ≤ l.length → l.length - at_ + 1 ≤ g → l.length - at_ + 1 ≤ g' → skipF g l at_ = skipF g' l at_
  | 0, _, at_, _, h, _ => by omega
  | g + 1, 0, at_, _, _, h => by omega
  | g + 1, g' + 1, at_, h0, h1, h2 => by
    have hle := skipAt_le l at_ h0
    have hge : at_ ≤ skipAt l at_ := by unfold skipAt; omega
    rw [skipF, skipF]
    by_cases c1 : Lib.hasPrefix (l.drop (skipAt l at_)) [47, 47] = true
    · rw [if_pos c1, if_pos c1]
      have h3 := tw_pos notNlB _ _ c1 (by decide)
      have h4 := tw_le notNlB (l.drop (skipAt l at_))
      rw [List.length_drop] at h4
      simp at h3
      exact skipF_enough l g g' _ (by omega) (by omega) (by omega)
    · rw [if_neg c1, if_neg c1]
      by_cases c2 : Lib.hasPrefix (l.drop (skipAt l at_)) [47, 42] = true
      · rw [if_pos c2, if_pos c2]
        by_cases c3 : Lib.index (l.drop (skipAt l at_ + 2)) [42, 47] < 0
        · rw [if_pos c3, if_pos c3]
        · rw [if_neg c3, if_neg c3]
          have hr := Lib.index_room (l.drop (skipAt l at_ + 2)) [42, 47] (by omega)
          have h5 := hasPrefix_len c2
          rw [List.length_drop] at hr h5
          simp at hr h5
          exact skipF_enough l g g' _ (by omega) (by omega) (by omega)
      · rw [if_neg c2, if_neg c2]

theorem skipL_from (l : List UInt8) (g at_ : Nat) (h0 : at_ ≤ l.length) (h : l.length - at_ + 1 ≤ g) : skipF g l at_ = skipL l at_ :=
  skipF_enough l _ _ _ h0 h (by omega)

/-- the first step of the way, where no space begins -/
theorem skipL_step (l : List UInt8) (at_ : Nat) (h : tw isSpB (l.drop at_) = 0) :
    skipL l at_ = if Lib.hasPrefix (l.drop at_) [47, 47] then skipF l.length l (at_ + tw notNlB (l.drop at_))
      else if Lib.hasPrefix (l.drop at_) [47, 42] then
        if Lib.index (l.drop (at_ + 2)) [42, 47] < 0 then (at_, 22) else skipF l.length l (at_ + ((Lib.index (l.drop (at_ + 2)) [42, 47]).toNat + 4))
      else (at_, 0) := by
  unfold skipL
  rw [skipF]
  have : skipAt l at_ = at_ := by unfold skipAt; omega
  rw [this]

theorem skip_space (l : List UInt8) (at_ : Nat) (c : UInt8) (R : List UInt8) (hD : l.drop at_ = c :: R) (hc : isSpB c = true) : skipL l at_ = skipL l (at_ + 1) := by
  have hR : l.drop (at_ + 1) = R := by
    have := congrArg (List.drop 1) hD
    simpa [List.drop_drop, Nat.add_comm] using this
  have : skipAt l at_ = skipAt l (at_ + 1) := by
    unfold skipAt
    rw [hD, hR, tw_cons, if_pos hc]; omega
  unfold skipL
  rw [skipF, skipF, this]

theorem drop_two {l : List UInt8} {at_ : Nat} {a c : UInt8} {R : List UInt8} (hD : l.drop at_ = a :: c :: R) : l.drop (at_ + 2) = R := by
  have := congrArg (List.drop 2) hD
  simpa [List.drop_drop, Nat.add_comm] using this

/-- the specification's blank against the program's way -/
theorem blank_skip (l : List UInt8) (at_ : Nat) (hat : at_ ≤ l.length) :
    (blankL (l.drop at_) = 0 ∧ skipL l at_ = (at_, 0)) ∨ (blankL (l.drop at_) < 0 ∧ skipL l at_ = (at_, 22)) ∨
    ∃ n : Nat, blankL (l.drop at_) = n ∧ 1 ≤ n ∧ at_ + n ≤ l.length ∧ skipL l at_ = skipL l (at_ + n) := by
  have hlen : (l.drop at_).length = l.length - at_ := List.length_drop
  match hD : l.drop at_ with
  | [] =>
    left
    refine ⟨rfl, ?_⟩
    rw [skipL_step l at_ (by rw [hD]; rfl), hD]
    rfl
  | a :: R =>
    rw [hD] at hlen
    by_cases hsp : isSpB a = true
    · right; right
      refine ⟨1, ?_, by omega, by simp at hlen; omega, skip_space l at_ a R hD hsp⟩
      unfold blankL
      rw [if_neg (by simp), if_pos (by simpa using hsp)]; rfl
    · have hB : blankL (a :: R) = if (a :: R).length < 2 ∨ ((a :: R).getD 0 0).toNat ≠ 47 then 0
          else if ((a :: R).getD 1 0).toNat = 47 then ((2 + tw notNlB ((a :: R).drop 2) : Nat) : Int) else if ((a :: R).getD 1 0).toNat ≠ 42 then 0
          else if Lib.index ((a :: R).drop 2) [42, 47] < 0 then -1 else Lib.index ((a :: R).drop 2) [42, 47] + 4 := by
        unfold blankL; rw [if_neg (by simp), if_neg (by simpa using hsp)]
      have hS := skipL_step l at_ (by rw [hD, tw_cons, if_neg hsp])
      rw [hD] at hS
      match R, hD with
      | [], hD =>
        left
        rw [hB, if_pos (Or.inl (by simp)), hS]
        have e1 : Lib.hasPrefix [a] [47, 47] = false := by simp [Lib.hasPrefix, List.isPrefixOf]
        have e2 : Lib.hasPrefix [a] [47, 42] = false := by simp [Lib.hasPrefix, List.isPrefixOf]
        rw [e1, e2]; exact ⟨rfl, rfl⟩
      | c :: Q, hD =>
        have hdt := drop_two hD
        rw [hdt] at hS
        by_cases ha : a = 47
        · subst ha
          rw [if_neg (by simp)] at hB
          by_cases hc : c = 47
          · subst hc
            right; right
            have hn : tw notNlB (47 :: 47 :: Q) = 2 + tw notNlB Q := by
              rw [tw_cons, if_pos (by decide), tw_cons, if_pos (by decide)]; omega
            have hq := tw_le notNlB Q
            simp at hlen
            refine ⟨2 + tw notNlB Q, ?_, by omega, by omega, ?_⟩
            · rw [hB, if_pos (by simp)]; rfl
            · rw [hS, if_pos (by simp [Lib.hasPrefix, List.isPrefixOf]), hn]
              exact skipL_from l _ _ (by omega) (by omega)
          · have e1 : Lib.hasPrefix (47 :: c :: Q) [47, 47] = false := by simp [Lib.hasPrefix, List.isPrefixOf, Ne.symm hc]
            have hcn : ¬ (((47 : UInt8) :: c :: Q).getD 1 0).toNat = 47 := by
              intro h; apply hc; rw [← UInt8.toNat_inj]; simpa using h
            rw [if_neg hcn] at hB
            rw [e1] at hS
            by_cases hs : c = 42
            · subst hs
              rw [if_neg (by simp)] at hB
              have e2 : Lib.hasPrefix (47 :: 42 :: Q) [47, 42] = true := by simp [Lib.hasPrefix, List.isPrefixOf]
              rw [if_neg (by simp), if_pos e2] at hS
              have hd2 : ((47 : UInt8) :: 42 :: Q).drop 2 = Q := rfl
              rw [hd2] at hB
              by_cases hi : Lib.index Q [42, 47] < 0
              · right; left
                rw [if_pos hi] at hB hS
                exact ⟨by omega, hS⟩
              · right; right
                rw [if_neg hi] at hB hS
                have hr := Lib.index_room Q [42, 47] (by omega)
                simp at hlen hr
                refine ⟨(Lib.index Q [42, 47]).toNat + 4, by omega, by omega, by omega, ?_⟩
                rw [hS]
                exact skipL_from l _ _ (by omega) (by omega)
            · left
              have hcn2 : (((47 : UInt8) :: c :: Q).getD 1 0).toNat ≠ 42 := by
                intro h; apply hs; rw [← UInt8.toNat_inj]; simpa using h
              rw [if_pos hcn2] at hB
              have e2 : Lib.hasPrefix (47 :: c :: Q) [47, 42] = false := by simp [Lib.hasPrefix, List.isPrefixOf, Ne.symm hs]
              rw [e2] at hS
              exact ⟨hB, hS⟩
        · left
          have han : ((a :: c :: Q).getD 0 0).toNat ≠ 47 := by
            intro h; apply ha; rw [← UInt8.toNat_inj]; simpa using h
          rw [if_pos (Or.inr han)] at hB
          have e1 : Lib.hasPrefix (a :: c :: Q) [47, 47] = false := by simp [Lib.hasPrefix, List.isPrefixOf, Ne.symm ha]
          have e2 : Lib.hasPrefix (a :: c :: Q) [47, 42] = false := by simp [Lib.hasPrefix, List.isPrefixOf, Ne.symm ha]
          rw [e1, e2] at hS
          exact ⟨hB, hS⟩
end Go.Proofs.YtokdoklkaojheaaDoor
