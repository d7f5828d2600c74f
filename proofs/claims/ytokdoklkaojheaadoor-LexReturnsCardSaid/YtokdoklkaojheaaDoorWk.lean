import Derived.Test.YtokdoklkaojheaaDoorWj
namespace Go.Proofs.YtokdoklkaojheaaDoor
open Go.RowKit

def isLetB (c : UInt8) : Bool := isLetZ c.toNat
def isDigB (c : UInt8) : Bool := isDigZ c.toNat
def isWordB (c : UInt8) : Bool := isWordZ c.toNat
def isSpB (c : UInt8) : Bool := isSpZ c.toNat
def notNlB (c : UInt8) : Bool := notNlZ c.toNat

theorem enters135 : ∀ args w, (callFunc 135 args).run Tryd.prog w = .ok (.enter 135 args) w := enters_of Tryd.func135 (by kernel_rfl) rfl
theorem enters114 : ∀ args w, (callFunc 114 args).run Tryd.prog w = .ok (.enter 114 args) w := enters_of Tryd.func114 (by kernel_rfl) rfl
theorem enters116 : ∀ args w, (callFunc 116 args).run Tryd.prog w = .ok (.enter 116 args) w := enters_of Tryd.func116 (by kernel_rfl) rfl
theorem enters100 : ∀ args w, (callFunc 100 args).run Tryd.prog w = .ok (.enter 100 args) w := enters_of Tryd.func100 (by kernel_rfl) rfl
theorem enters102 : ∀ args w, (callFunc 102 args).run Tryd.prog w = .ok (.enter 102 args) w := enters_of Tryd.func102 (by kernel_rfl) rfl

theorem isLetZ_high (r : Int) (h : 128 ≤ r) : isLetZ r = isLetZ 128 := by unfold isLetZ; simp; omega
theorem isDigZ_high (r : Int) (h : 128 ≤ r) : isDigZ r = isDigZ 128 := by unfold isDigZ; simp; omega
theorem isWordZ_high (r : Int) (h : 128 ≤ r) : isWordZ r = isWordZ 128 := by unfold isWordZ; rw [isLetZ_high r h, isDigZ_high r h]; congr 1; simp; omega
theorem isSpZ_high (r : Int) (h : 128 ≤ r) : isSpZ r = isSpZ 128 := by
  have h1 : (r == 32) = false := by simp; omega
  have h2 : (r == 9) = false := by simp; omega
  have h3 : (r == 10) = false := by simp; omega
  have h4 : (r == 13) = false := by simp; omega
  unfold isSpZ; rw [h1, h2, h3, h4]; rfl
theorem notNlZ_high (r : Int) (h : 128 ≤ r) : notNlZ r = notNlZ 128 := by
  have h3 : (r != 10) = true := by simp; omega
  unfold notNlZ; rw [h3]; rfl

theorem below_iter {w w' : World} {s : ByteArray} (h : ∃ p, w' = w.alloc (.stringIter s p)) : Below w.heap.size w w' := by
  obtain ⟨p, rfl⟩ := h; exact (Below.refl _ _).alloc (Nat.le_refl _) _

theorem preLet (s : ByteArray) (w : World) (hs : s.size ≤ 9223372036854775807) : Calls Tryd.prog 99 #[.string s, .func (.func 135) #[] #[]] w fun e w' => e = .returned (.int .i64 (tw isLetB s.data.toList)) ∧ Below w.heap.size w w' :=
  (prefix_any 135 isLetZ enters135 isLetter_any isLetZ_high s w hs).mono fun _ _ ⟨h1, h2⟩ => ⟨h1, below_iter h2⟩
theorem preDig (s : ByteArray) (w : World) (hs : s.size ≤ 9223372036854775807) : Calls Tryd.prog 99 #[.string s, .func (.func 114) #[] #[]] w fun e w' => e = .returned (.int .i64 (tw isDigB s.data.toList)) ∧ Below w.heap.size w w' :=
  (prefix_any 114 isDigZ enters114 isDigit_any isDigZ_high s w hs).mono fun _ _ ⟨h1, h2⟩ => ⟨h1, below_iter h2⟩
theorem preWord (s : ByteArray) (w : World) (hs : s.size ≤ 9223372036854775807) : Calls Tryd.prog 99 #[.string s, .func (.func 116) #[] #[]] w fun e w' => e = .returned (.int .i64 (tw isWordB s.data.toList)) ∧ Below w.heap.size w w' :=
  (prefix_any 116 isWordZ enters116 isWord_any isWordZ_high s w hs).mono fun _ _ ⟨h1, h2⟩ => ⟨h1, below_iter h2⟩
theorem preSp (s : ByteArray) (w : World) (hs : s.size ≤ 9223372036854775807) : Calls Tryd.prog 99 #[.string s, .func (.func 100) #[] #[]] w fun e w' => e = .returned (.int .i64 (tw isSpB s.data.toList)) ∧ Below w.heap.size w w' :=
  (prefix_any 100 isSpZ enters100 isSp_any isSpZ_high s w hs).mono fun _ _ ⟨h1, h2⟩ => ⟨h1, below_iter h2⟩
theorem preNl (s : ByteArray) (w : World) (hs : s.size ≤ 9223372036854775807) : Calls Tryd.prog 99 #[.string s, .func (.func 102) #[] #[]] w fun e w' => e = .returned (.int .i64 (tw notNlB s.data.toList)) ∧ Below w.heap.size w w' :=
  (prefix_any 102 notNlZ enters102 notNl_any notNlZ_high s w hs).mono fun _ _ ⟨h1, h2⟩ => ⟨h1, below_iter h2⟩

/-- the length of the word at the beginning of a text -/
def wlen (l : List UInt8) : Nat := if tw isLetB l = 0 then 0 else tw isWordB l
theorem wlen_le (l : List UInt8) : wlen l ≤ l.length := by
  unfold wlen; split
  · omega
  · exact tw_le _ _

theorem wordLength_any (s : ByteArray) (w : World) (hs : s.size ≤ 9223372036854775807) :
    Calls Tryd.prog 109 #[.string s] w fun e w' => e = .returned (.int .i64 (wlen s.data.toList)) ∧ Below w.heap.size w w' := by
  unfold wlen
  have c := preLet s w hs
  have hle : tw isWordB s.data.toList ≤ s.size := by have := tw_le isWordB s.data.toList; simpa using this
  have hle2 : tw isLetB s.data.toList ≤ s.size := by have := tw_le isLetB s.data.toList; simpa using this
  by_cases h0 : tw isLetB s.data.toList = 0
  · rw [if_pos h0]
    rw [h0] at c
    have C := Lib.hid c; clear c h0 hle2
    go_enter Tryd.func109, Tryd.ntmps109
    go_wp2_with fail
    refine C.out.mono ?_; rintro e w1 ⟨rfl, hb⟩
    go_wp2
    go_ret
    exact ⟨rfl, hb⟩
  · rw [if_neg h0]
    have h1 : ((tw isLetB s.data.toList : Int) == 0) = false := by simp; omega
    obtain ⟨n, hn⟩ : ∃ n, tw isLetB s.data.toList = n := ⟨_, rfl⟩
    rw [hn] at c h1 hle2
    have C := Lib.hid c; clear c h0 hn
    go_enter Tryd.func109, Tryd.ntmps109
    go_wp2_with fail
    refine C.out.mono ?_; rintro e w1 ⟨rfl, hb⟩
    have Hb := Lib.hid hb; clear hb
    go_wp2_with fail
    refine (preWord s _ hs).mono ?_; rintro e w2 ⟨rfl, hb2⟩
    have Hb2 := Lib.hid hb2; clear hb2
    go_wp2
    go_ret
    exact ⟨rfl, Hb.out.trans (Hb2.out.mono Hb.out.size)⟩
end Go.Proofs.YtokdoklkaojheaaDoor
