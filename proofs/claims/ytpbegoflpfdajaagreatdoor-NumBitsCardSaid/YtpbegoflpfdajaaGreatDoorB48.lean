/- WHAT IS PROVED: contracts of functions of the numbers package and laws for them, used by the last text of this claim. CONDITIONS: stated at each theorem. -/
import Derived.Test.YtpbegoflpfdajaaGreatDoorB46
import Derived.Test.YtpbegoflpfdajaaGreatDoorB47
namespace Go.Proofs.YtpbegoflpfdajaaGreatDoor
open Go.RowKit

theorem lawBits (o n : Int) (a b : ByteArray) (w : World) (hg : Gl w) : Calls Tryz.prog 6 #[.agg #[.int .i64 o,.int .i64 n,.string a,.string b]] w fun e w'=>e = .returned (.bool true)/\Below w.heap.size w w' :=
  bits_any o n a b (fun i k sa sb hi h1 h2 w=>refBits_go a b i k hi h1 h2 sa sb w) w hg
end Go.Proofs.YtpbegoflpfdajaaGreatDoor
