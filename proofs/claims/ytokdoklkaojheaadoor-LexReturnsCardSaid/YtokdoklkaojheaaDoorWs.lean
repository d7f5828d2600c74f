import Derived.Test.YtokdoklkaojheaaDoorWr
import Derived.Laws.EntriesVeiled
namespace Go.Proofs.YtokdoklkaojheaaDoor
open Go.RowKit

def readL : List (Nat × Nat × Int) → Nat × Nat × Int
  | [] => (0, 0, 22)
  | r :: rs => if r.2.2 ≠ 0 ∨ 0 < r.2.1 then r else readL rs
def nameRs (l : List UInt8) : List (Nat × Nat × Int) := [qualR l, wordR l]
def allRs (l : List UInt8) : List (Nat × Nat × Int) := [qualR l, wordR l, numR l, signR l]

/-- what a function that is a rule does -/
structure Rule (f : Nat) (s : ByteArray) (kb sb : Nat) (r : Nat × Nat × Int) : Prop where
  enters : ∀ args w, (callFunc f args).run Tryd.prog w = .ok (.enter f args) w
  calls : ∀ w, IsScanner w kb sb → Calls Tryd.prog f #[.agg #[.map (some kb), .map (some sb)], .string s] w fun e w' => e = .returned (rdV s r) ∧ Below w.heap.size w w'

set_option maxHeartbeats 2000000 in
set_option maxRecDepth 100000 in
theorem read_any (s : ByteArray) (kb sb rb : Nat) (n cap : Nat) (fs : List Nat) (rs : List (Nat × Nat × Int)) (w : World) (hs : s.size ≤ 65536) (hsc : IsScanner w kb sb)
    (hn : fs.length = n) (hrs : rs.length = n) (hn4 : n ≤ 4) (hrb : rb < w.heap.size)
    (hcell : ∀ k (h : k < fs.length), w.cell? ⟨rb, k, none⟩ = some (.func (.func fs[k]) #[] #[]))
    (hrule : ∀ k (h : k < fs.length) (h' : k < rs.length), Rule fs[k] s kb sb rs[k]) :
    Calls Tryd.prog 47 #[.agg #[.map (some kb), .map (some sb)], .string s, .slice (some ⟨rb, 0, none⟩) n cap] w fun e w' => e = .returned (rdV s (readL rs)) ∧ Below w.heap.size w w' := by
  have Hsc := Lib.hid hsc
  have hlt := hsc.lt
  clear hsc
  obtain ⟨W, hW⟩ : ∃ W, (w.alloc (.cells #[.map (some kb), .map (some sb)] 69)).alloc (.cells #[.int .i64 0, .string ⟨#[]⟩, .int .i64 0, .int .i64 0] 73) = W := ⟨_, rfl⟩
  have hsz : W.heap.size = w.heap.size + 2 := by rw [← hW]; simp
  have hbW : Below w.heap.size w W := by rw [← hW]; exact below_two w _ _
  have hW0 : W.cell? ⟨w.heap.size, 0, none⟩ = some (.map (some kb)) := by rw [← hW]; simp [World.cell?_alloc_lt]
  have hW1 : W.cell? ⟨w.heap.size, 1, none⟩ = some (.map (some sb)) := by rw [← hW]; simp [World.cell?_alloc_lt]
  have hWp : ∀ o, o < 4 → ∃ v, W.cell? ⟨w.heap.size + 1, o, none⟩ = some v := by
    intro o ho
    rw [← hW]
    have : o = 0 ∨ o = 1 ∨ o = 2 ∨ o = 3 := by omega
    rcases this with rfl | rfl | rfl | rfl
    · exact ⟨.int .i64 0, by simp⟩
    · exact ⟨.string ⟨#[]⟩, by simp⟩
    · exact ⟨.int .i64 0, by simp⟩
    · exact ⟨.int .i64 0, by simp⟩
  have hWf : ∀ o, W.frozen? ⟨w.heap.size + 1, o, none⟩ = false := by
    intro o; rw [← hW]; simp
  have HW := Lib.hid hW; clear hW
  have HWp := Lib.hid hWp; clear hWp
  have HWf := Lib.hid hWf; clear hWf
  have HW0 := Lib.hid hW0; clear hW0
  have HW1 := Lib.hid hW1; clear hW1
  have Hsz := Lib.hid hsz; clear hsz
  have HbW := Lib.hid hbW; clear hbW
  have Hn := Lib.hid hn; clear hn
  have Hrs := Lib.hid hrs; clear hrs
  have Hcell := Lib.hid hcell; clear hcell
  have Hrule := Lib.hid hrule; clear hrule
  go_enter Tryd.func47, Tryd.ntmps47
  go_wp2
  rw [HW.out]
  go_loopw [14] (fun i wr => ∃ k : Nat, k ≤ n ∧ i = .int .i64 k ∧ Below W.heap.size W wr ∧ readL rs = readL (rs.drop k)) (fun i _ => n - (intOf i).toNat)
  case atStart => exact ⟨0, by omega, rfl, Below.refl _ _, rfl⟩
  case round =>
    obtain ⟨k, hk, rfl, hb, hrd⟩ := hrel
    have Hrd := Lib.hid hrd; clear hrd
    have hzW : w.heap.size + 1 < W.heap.size := by have := Hsz.out; omega
    have hz0 : w.heap.size < W.heap.size := by omega
    have hgW := HbW.out.trans (hb.mono (by omega))
    have hsc2 : IsScanner wr kb sb := Hsc.out.below hlt.1 hlt.2 hgW
    have hs0 : wr.cell? ⟨w.heap.size, 0, none⟩ = some (.map (some kb)) := (hb.cell (p := ⟨w.heap.size, 0, none⟩) hz0).trans HW0.out
    have hs1 : wr.cell? ⟨w.heap.size, 1, none⟩ = some (.map (some sb)) := (hb.cell (p := ⟨w.heap.size, 1, none⟩) hz0).trans HW1.out
    have hzr : w.heap.size + 1 < wr.heap.size := by have := hb.size; omega
    have hzr0 : w.heap.size < wr.heap.size := by omega
    have Hsc2 := Lib.hid hsc2; clear hsc2
    have Hb := Lib.hid hb; clear hb
    have HgW := Lib.hid hgW; clear hgW
    by_cases hkn : k < n
    · have hkf : k < fs.length := by have := Hn.out; omega
      have hkr : k < rs.length := by have := Hrs.out; omega
      have hcr : wr.cell? ⟨rb, k, none⟩ = some (.func (.func fs[k]) #[] #[]) := (HgW.out.cell (p := ⟨rb, k, none⟩) hrb).trans (Hcell.out k hkf)
      have hru := Hrule.out k hkf hkr
      have hdr : rs.drop k = rs[k] :: rs.drop (k + 1) := List.drop_eq_getElem_cons hkr
      have Hdr := Lib.hid hdr; clear hdr
      obtain ⟨f, hf⟩ : ∃ f, fs[k] = f := ⟨_, rfl⟩
      obtain ⟨r, hr⟩ : ∃ r, rs[k] = r := ⟨_, rfl⟩
      rw [hf] at hcr hru
      rw [hr] at hru Hdr
      clear hf hr
      obtain ⟨rk, re, rr⟩ := r
      have ef := hru.enters
      have Cf := Lib.hid hru.calls
      clear hru
      go_wp2_with fail
      refine (Cf.out _ (by exact ⟨(heap_alloc_lt (Hsc2.out.lt.1)).trans Hsc2.out.1, (heap_alloc_lt (Hsc2.out.lt.2)).trans Hsc2.out.2⟩)).mono ?_; rintro e w2 ⟨rfl, hb2⟩
      simp only [rdV, plV]
      have hb3 : Below W.heap.size W w2 := (Hb.out.alloc Hb.out.size _).trans (hb2.mono (by have := Hb.out.size; simp; omega))
      have hz2 : wr.heap.size < w2.heap.size := by have := hb2.size; simp at this; omega
      clear hb2 hs0 hs1 hcr
      obtain ⟨v0, hv0⟩ := HWp.out 0 (by omega)
      obtain ⟨v1, hv1⟩ := HWp.out 1 (by omega)
      obtain ⟨v2, hv2⟩ := HWp.out 2 (by omega)
      obtain ⟨v3, hv3⟩ := HWp.out 3 (by omega)
      obtain ⟨hc, hf⟩ := bcell hb3
      have hz3 : w.heap.size + 1 < w2.heap.size := by omega
      have c0 := (hc (w.heap.size + 1) 0 hzW).trans hv0
      have c1 := (hc (w.heap.size + 1) 1 hzW).trans hv1
      have c2 := (hc (w.heap.size + 1) 2 hzW).trans hv2
      have c3 := (hc (w.heap.size + 1) 3 hzW).trans hv3
      have f0 := fun o => (hf (w.heap.size + 1) o hzW).trans (HWf.out o)
      have hgW2 := HbW.out.trans (hb3.mono (by omega))
      have HgW2 := Lib.hid hgW2; clear hgW2
      have Hb3 := Lib.hid hb3; clear hb3
      clear hc hf hv0 hv1 hv2 hv3 hzr hzr0
      by_cases hr1 : rr = 0
      · have d1 : (rr != 0) = false := by simpa using hr1
        by_cases hr2 : 0 < re
        · have d2 : decide ((0 : Int) < re) = true := decide_eq_true (by omega)
          have d2' : decide (0 < re) = true := decide_eq_true hr2
          have hv : readL rs = (rk, re, rr) := by rw [Hrd.out, Hdr.out, readL, if_pos (Or.inr hr2)]
          have Hv := Lib.hid hv; clear hv hr1 hr2
          go_wp2
          refine bodyPost_ret (v := rdV s (rk, re, rr)) ?_ rfl ⟨by rw [Hv.out], ?_⟩
          · simp [results, Tryd.results47, go_sem, c0, c1, c2, c3, hz3, World.cell?_alloc_lt]
            simp [rdV, plV]
          · exact (below_pl HgW2.out (by omega) _ _ _ _).alloc (by simp; omega) _
        · have d2 : decide ((0 : Int) < re) = false := decide_eq_false (by omega)
          have d2' : decide (0 < re) = false := decide_eq_false hr2
          have hv : readL rs = readL (rs.drop (k + 1)) := by rw [Hrd.out, Hdr.out, readL, if_neg (by simp only [ne_eq]; omega)]
          have Hv := Lib.hid hv; clear hv hr1 hr2
          go_wp2
          go_roundw
          case rel => exact ⟨k + 1, by omega, by go_num, Hb3.out.alloc Hb3.out.size _, Hv.out⟩
          case measure => simp [intOf]; omega
      · have d1 : (rr != 0) = true := by simpa using hr1
        have hv : readL rs = (rk, re, rr) := by rw [Hrd.out, Hdr.out, readL, if_pos (Or.inl hr1)]
        have Hv := Lib.hid hv; clear hv hr1
        go_wp2
        refine bodyPost_ret (v := rdV s (rk, re, rr)) ?_ rfl ⟨by rw [Hv.out], ?_⟩
        · simp [results, Tryd.results47, go_sem, c0, c1, c2, c3, hz3, World.cell?_alloc_lt]
          simp [rdV, plV]
        · exact (below_pl HgW2.out (by omega) _ _ _ _).alloc (by simp; omega) _
    · have hv : readL rs = (0, 0, 22) := by rw [Hrd.out, List.drop_of_length_le (by have := Hrs.out; omega)]; rfl
      have Hv := Lib.hid hv; clear hv
      obtain ⟨v0, hv0⟩ := HWp.out 0 (by omega)
      obtain ⟨v1, hv1⟩ := HWp.out 1 (by omega)
      obtain ⟨v2, hv2⟩ := HWp.out 2 (by omega)
      obtain ⟨v3, hv3⟩ := HWp.out 3 (by omega)
      obtain ⟨hc, hf⟩ := bcell Hb.out
      have c0 := (hc (w.heap.size + 1) 0 hzW).trans hv0
      have c1 := (hc (w.heap.size + 1) 1 hzW).trans hv1
      have c2 := (hc (w.heap.size + 1) 2 hzW).trans hv2
      have c3 := (hc (w.heap.size + 1) 3 hzW).trans hv3
      have f0 := fun o => (hf (w.heap.size + 1) o hzW).trans (HWf.out o)
      clear hc hf hv0 hv1 hv2 hv3 hs0 hs1
      go_wp2
      refine bodyPost_ret (v := rdV s (0, 0, 22)) ?_ rfl ⟨by rw [Hv.out], ?_⟩
      · simp [results, Tryd.results47, go_sem, c0, c1, c2, c3]
        simp [rdV, plV, extract_zero] <;> rfl
      · exact below_pl HgW.out (by omega) _ _ _ _
end Go.Proofs.YtokdoklkaojheaaDoor
