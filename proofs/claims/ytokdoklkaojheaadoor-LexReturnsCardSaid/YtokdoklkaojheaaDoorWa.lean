import Derived.Test.YtokdoklkaojheaaDoorRows
import Derived.WalkKit
import Derived.WalkSpells
import Derived.WalkLawsBesides
import Derived.IntWalk
import Derived.Lib.Hide
import Derived.Handy
namespace Go.Proofs.YtokdoklkaojheaaDoor
open Go.RowKit

def ckRange (n lo hi : Int) : Int := if n < lo ∨ hi < n then 3 else 0
def ckText (n : Int) : Int := if n > 65536 then 23 else 0
def ckWhen (b : Bool) (e : Int) : Int := if b then e else 0

theorem when_any (b : Bool) (e : Int) (w : World) :
    Calls Tryd.prog 51 #[.bool b, .int .i64 e] w fun r w' => r = .returned (.int .i64 (ckWhen b e)) ∧ w = w' := by
  cases b
  · go_enter Tryd.func51, Tryd.ntmps51
    go_wp2
    go_ret
    exact ⟨rfl, rfl⟩
  · go_enter Tryd.func51, Tryd.ntmps51
    go_wp2
    go_ret
    exact ⟨rfl, rfl⟩

theorem checkRange_any (n lo hi : Int) (w : World) :
    Calls Tryd.prog 53 #[.int .i64 n, .int .i64 lo, .int .i64 hi] w fun r w' => r = .returned (.int .i64 (ckRange n lo hi)) ∧ w = w' := by
  by_cases h1 : n < lo
  · go_enter Tryd.func53, Tryd.ntmps53
    go_wp2
    go_ret
    exact ⟨by simp [ckRange, h1], rfl⟩
  · by_cases h2 : hi < n
    · go_enter Tryd.func53, Tryd.ntmps53
      go_wp2
      go_ret
      exact ⟨by simp [ckRange, h2], rfl⟩
    · go_enter Tryd.func53, Tryd.ntmps53
      go_wp2
      go_ret
      exact ⟨by simp [ckRange, h1, h2], rfl⟩

theorem checkText_any (s : ByteArray) (w : World) :
    Calls Tryd.prog 35 #[.string s] w fun r w' => r = .returned (.int .i64 (ckText s.size)) ∧ w = w' := by
  by_cases h1 : (s.size : Int) > 65536
  · go_enter Tryd.func35, Tryd.ntmps35
    go_wp2
    go_ret
    exact ⟨by simp [ckText, h1], rfl⟩
  · go_enter Tryd.func35, Tryd.ntmps35
    go_wp2
    go_ret
    exact ⟨by simp [ckText, h1], rfl⟩
end Go.Proofs.YtokdoklkaojheaaDoor
