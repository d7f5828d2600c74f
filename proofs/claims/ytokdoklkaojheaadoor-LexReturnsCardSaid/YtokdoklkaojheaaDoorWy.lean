import Derived.Test.YtokdoklkaojheaaDoorWx
namespace Go.Proofs.YtokdoklkaojheaaDoor
open Go.RowKit

def awS : ByteArray := ⟨#[120, 32, 58, 61, 32, 77, 58, 58, 102, 40, 51, 44, 32, 49, 46, 53, 41, 59, 32, 47, 47, 32, 101, 110, 100]⟩
theorem aw_toks : ((toks awS).find? badTok).isNone = true ∧ (toks awS).length = 9 ∧ (rowL (toks awS))[6]? = some (.int .i64 0) ∧ (rowL (toks awS))[7]? = some (.string ⟨#[77, 58, 58, 102]⟩) ∧ (rowL (toks awS))[8]? = some (.int .i64 5) ∧ (rowL (toks awS))[20]? = some (.int .i64 13) := by
  refine ⟨by decide +kernel, by decide +kernel, ?_, ?_, ?_, ?_⟩ <;> kernel_rfl
def awP : ByteArray := ⟨#[97, 10, 98, 99, 100]⟩
theorem aw_pos : posErr awP.size ((4 : Nat) : Int) = 0 ∧ posLine awP 4 = 2 ∧ posCol awP 4 = 3 := by
  refine ⟨by decide +kernel, by decide +kernel, by decide +kernel⟩

theorem aw_out {base : Nat} {w' : World} {v : Value} {off err : Int} (h : TokOut awS base w' v off err) :
    ∃ g cap, v = .slice (some ⟨g, 0, none⟩) 9 cap ∧ 9 ≤ cap ∧ off = 0 ∧ err = 0 ∧ base ≤ g ∧ g < w'.heap.size ∧ w'.cell? ⟨g, 6, none⟩ = some (.int .i64 0) ∧ w'.cell? ⟨g, 7, none⟩ = some (.string ⟨#[77, 58, 58, 102]⟩) ∧ w'.cell? ⟨g, 8, none⟩ = some (.int .i64 5) ∧ w'.cell? ⟨g, 20, none⟩ = some (.int .i64 13) := by
  obtain ⟨h1, h2, h6, h7, h8, h20⟩ := aw_toks
  unfold TokOut at h
  rw [if_neg (by decide +kernel), Option.isNone_iff_eq_none.1 h1] at h
  simp only at h
  rw [if_neg (by rw [h2]; decide)] at h
  obtain ⟨hrow, _, rfl, rfl⟩ := h
  rw [h2] at hrow
  have hr := hrow
  rcases hr.2 with ⟨_, h⟩ | ⟨g, cap, cur, rfl, hb, hg, hc, _⟩
  · omega
  · exact ⟨g, cap, rfl, hc, rfl, rfl, hb, (Array.getElem?_eq_some_iff.1 hg).1, hrow.cells (g := g) rfl 6 _ h6, hrow.cells (g := g) rfl 7 _ h7, hrow.cells (g := g) rfl 8 _ h8, hrow.cells (g := g) rfl 20 _ h20⟩

set_option maxHeartbeats 2000000 in
set_option maxRecDepth 100000 in
theorem awake_any (m : Int) (w : World) (ht : Tab w) (hm : w.cell? ⟨2, 0, none⟩ = some (.int .i64 m)) :
    Calls Tryd.prog 8 #[] w fun e w' => e = .returned (.bool true) ∧ Below w.heap.size w w' := by
  have Ct := Lib.hid (tokens_any awS m w ht hm)
  have cp := fun w => lexPosition_ok awP 4 w (by decide +kernel) aw_pos.1
  rw [aw_pos.2.1, aw_pos.2.2] at cp
  have Cp := Lib.hid cp
  clear ht hm cp
  go_enter Tryd.func8, Tryd.ntmps8
  go_wp2_with fail
  refine Ct.out.mono ?_; rintro e w1 ⟨v, off, err, rfl, hout, hb1⟩
  obtain ⟨g, cap, rfl, hcap, rfl, rfl, hg0, hg1, k6, k7, k8, k20⟩ := aw_out hout
  clear hout
  go_wp2_with fail
  refine (Cp.out _).mono ?_; rintro e w2 ⟨rfl, hb2⟩
  have hB := hb1.trans (hb2.mono hb1.size)
  have hc := (bcell hb2).1
  have c6 := (hc g 6 hg1).trans k6
  have c7 := (hc g 7 hg1).trans k7
  have c8 := (hc g 8 hg1).trans k8
  have c20 := (hc g 20 hg1).trans k20
  have HB := Lib.hid hB
  clear hb1 hb2 hB k6 k7 k8 k20 hc
  go_wp2
  trace_state
  go_ret
  exact ⟨rfl, HB.out⟩
end Go.Proofs.YtokdoklkaojheaaDoor
