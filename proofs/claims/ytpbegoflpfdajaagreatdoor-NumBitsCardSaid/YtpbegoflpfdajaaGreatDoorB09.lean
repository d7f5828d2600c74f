/- WHAT IS PROVED: contracts of functions of the numbers package and laws for them, used by the last text of this claim. CONDITIONS: stated at each theorem. -/
import Derived.Shelf.Strings.Builder1
import Derived.Shelf.Strings.Builder2
import Derived.Shelf.Strings.BuilderF
import Derived.Shelf.Strings.BuilderK
import Derived.Shelf.Strings.Builder2Cap
import Derived.Shelf.Strconv.Atoi
import Derived.Shelf.Strconv.Itoa0
import Derived.Shelf.Strconv.Itoa1
import Derived.Shelf.LaysM
import Derived.Shelf.Strconv.Itoa2
import Derived.Shelf.Strconv.Itoa3
import Derived.Shelf.Strconv.AtoiErrFast
import Derived.Shelf.Strconv.ParseIntEmpty
import Derived.Shelf.Strconv.AtoiFail
import Derived.Shelf.Strconv.Clone
import Derived.Shelf.Strconv.SyntaxError
import Derived.Shelf.LaysC
import Derived.Shelf.Strconv.ToError
import Derived.Shelf.Strconv.AtoiErr
import Derived.Shelf.Strconv.ErrVar
import Derived.Shelf.Strconv.Lower
import Derived.Shelf.Strconv.ParseUint10
import Derived.Shelf.Strconv.ParseUint10Empty
import Derived.Shelf.Strconv.ParseUint10Any
import Derived.Shelf.Strconv.ParseInt10
import Derived.Shelf.Strconv.AtoiLong
import Derived.Shelf.Strconv.AtoiInnerAll
import Derived.Shelf.Strconv.RangeError
import Derived.Shelf.Strconv.ToErrorRange
import Derived.Shelf.Strconv.AtoiAll
import Derived.Shelf.Strconv.ErrVarAll
import Derived.Shelf.Strconv.ParseUintEmpty
import Derived.Shelf.Strconv.ParseUint10b64
import Derived.Shelf.Strconv.ParseUint10b32
import Derived.Shelf.Strconv.ParseUint10b16
import Derived.Shelf.Strconv.ParseUint10b8
import Derived.Shelf.Strconv.ParseUint10At
import Derived.Shelf.Strconv.ParseInt10At64
import Derived.Shelf.Strconv.ParseInt10At32
import Derived.Shelf.Strconv.ParseInt10At16
import Derived.Shelf.Strconv.ParseInt10At8
import Derived.Shelf.Strconv.ParseInt10All
import Derived.Ground.MpProg
import Derived.Shelf.Pu.ParseUintPublic10
import Derived.Shelf.Pu.ErrVarParseUint
import Derived.Shelf.Strings.Search1
import Derived.Shelf.Strings.Search2
import Derived.Shelf.Strings.Search3
import Derived.Shelf.Strings.Cut
import Derived.Shelf.Strings.Shaped
import Derived.Shelf.Strings.Prefix
import Derived.Shelf.Bits.Mul64
import Derived.Shelf.Strings.Repeat
import Derived.Shelf.Strings.BuilderCap
import Derived.Test.YtpbegoflpfdajaaGreatDoorProg
/-
  DERIVED: THE SHELF's CONTRACTS AT THIS DUMP, IN PLAIN WORDS (tools/lay-plain.mjs out of 'TryzShelf.lean', which tools/lay-shelf.mjs wrote): THE SAME DECLARATIONS UNDER THE SAME NAMES: 'import', 'namespace', 'open', 'def', 'theorem' AND NOTHING ELSE: no command of the shelf's: FOR A HAND-IN. Each laying: the table of numbers ('.._ren') and one theorem, a field a fact of the dump's own or the kernel's comparison; each contract: ONE APPLICATION.
-/
namespace Go.Proofs
open Go.Shelf
def Tryz.lays172_ren : Go.Shelf.Ren:=⟨fun | 172=>69 | 244=>142 | 245=>143 | 247=>189 | 279=>190 | 280=>191 | 281=>192 | 282=>193 | 287=>202 | 316=>210 | 171=>66 | 205=>211 | 321=>219 | 322=>220 | 243=>141 | 246=>188 | 283=>179 | 284=>180 | 285=>181 | 286=>182 | 129=>204 | 317=>203 | 318=>205 | 319=>206 | 320=>207 | 337=>221 | 338=>222 | n=>n,fun | 9=>9 | 3=>3 | 75=>77 | 76=>78 | 4=>4 | 5=>5 | 167=>191 | 37=>152 | 0=>0 | 85=>192 | 2=>2 | 168=>194 | 53=>57 | 175=>178 | 46=>148 | 210=>218 | 127=>189 | 145=>230 | 143=>228 | 21=>21 | 171=>180 | 173=>183 | 212=>209 | 51=>82 | 20=>20 | 213=>210 | 232=>232 | 233=>233 | 80=>104 | n=>n,fun | 15=>2 | 16=>3 | 17=>1 | 18=>5 | 19=>6 | n=>n⟩
def Tryz.lays283_ren : Go.Shelf.Ren:=⟨fun | 283=>179 | n=>n,fun | 3=>3 | 9=>9 | 4=>4 | n=>n,fun | n=>n⟩
theorem Tryz.lays283 : Go.Proofs.Lays.n283 Tryz.prog Tryz.lays283_ren:={
  mixed:=by kernel_rfl
  f283:=Tryz.func179.trans (congrArg some (by kernel_rfl))
  t3:=Tryz.underlying3
  a3:=Tryz.isAgg3
  z3:=Tryz.sizeOf3
  v3:=Tryz.zeroValue3
  t4:=Tryz.underlying4
  a4:=Tryz.isAgg4
  z4:=Tryz.sizeOf4
  v4:=Tryz.zeroValue4
  t9:=Tryz.underlying9
  a9:=Tryz.isAgg9
  z9:=Tryz.sizeOf9
  v9:=Tryz.zeroValue9 }
open Go.Lib in
theorem Tryz.internal_strconv_small (i : Nat) (h : i < 100) (w : World) :
    Calls Tryz.prog 179 #[.int .i64 i] w fun e w'=>e = .returned (.string ⟨(Lib.decDigits i).toArray⟩)/\w' = w:=Any.internal_strconv_small Tryz.lays283 i h w
def Tryz.laysM284_ren : Go.Shelf.Ren:=⟨fun | 284=>180 | 129=>204 | 317=>203 | 318=>205 | n=>n,fun | 53=>57 | 3=>3 | 212=>209 | 0=>0 | 4=>4 | 46=>148 | 5=>5 | 9=>9 | n=>n,fun | 17=>1 | n=>n⟩
theorem Tryz.laysM284 : Go.Proofs.LaysM.n284 Tryz.prog Tryz.laysM284_ren:={
  mixed:=by kernel_rfl
  f129:=Tryz.func204.trans (congrArg some (by kernel_rfl))
  f284:=Tryz.func180.trans (congrArg some (by kernel_rfl))
  f317:=Tryz.func203.trans (congrArg some (by kernel_rfl))
  f318:=Tryz.func205.trans (congrArg some (by kernel_rfl))
  t0:=Tryz.underlying0
  a0:=Tryz.isAgg0
  z0:=Tryz.sizeOf0
  v0:=Tryz.zeroValue0
  t3:=Tryz.underlying3
  a3:=Tryz.isAgg3
  z3:=Tryz.sizeOf3
  v3:=Tryz.zeroValue3
  t4:=Tryz.underlying4
  a4:=Tryz.isAgg4
  z4:=Tryz.sizeOf4
  v4:=Tryz.zeroValue4
  t5:=Tryz.underlying5
  a5:=Tryz.isAgg5
  z5:=Tryz.sizeOf5
  v5:=Tryz.zeroValue5
  t9:=Tryz.underlying9
  a9:=Tryz.isAgg9
  z9:=Tryz.sizeOf9
  v9:=Tryz.zeroValue9
  t46:=Tryz.underlying148
  a46:=Tryz.isAgg148
  z46:=Tryz.sizeOf148
  v46:=Tryz.zeroValue148
  t53:=Tryz.underlying57
  a53:=Tryz.isAgg57
  z53:=Tryz.sizeOf57
  v53:=Tryz.zeroValue57
  t212:=Tryz.underlying209
  a212:=Tryz.isAgg209
  z212:=Tryz.sizeOf209
  v212:=Tryz.zeroValue209
  g17:=by kernel_rfl
  i0:=by kernel_rfl
  i3:=by kernel_rfl
  i4:=by kernel_rfl
  i5:=by kernel_rfl
  i9:=by kernel_rfl
  i46:=by kernel_rfl
  i53:=by kernel_rfl
  i212:=by kernel_rfl
  m17:=by kernel_rfl }
open Go.Lib in
theorem Tryz.internal_strconv_numDigits (u : Nat) (h1 : 1 <= u) (h2 : u < 18446744073709551616) (w : World) (htab : Lib.TabIs Tryz.prog w "internal/strconv.uint64pow10" .u64 Lib.pow10Tab) :
    Calls Tryz.prog 180 #[.int .u64 u] w fun e w'=>e = .returned (.int .i64 (Lib.nDigits u))/\w' = w:=Any.internal_strconv_numDigits Tryz.laysM284 u h1 h2 w htab
def Tryz.lays285_ren : Go.Shelf.Ren:=⟨fun | 285=>181 | n=>n,fun | 37=>152 | 53=>57 | 3=>3 | 4=>4 | 51=>82 | 9=>9 | 5=>5 | 0=>0 | n=>n,fun | n=>n⟩
theorem Tryz.lays285 : Go.Proofs.Lays.n285 Tryz.prog Tryz.lays285_ren:={
  mixed:=by kernel_rfl
  f285:=Tryz.func181.trans (congrArg some (by kernel_rfl))
  t0:=Tryz.underlying0
  a0:=Tryz.isAgg0
  z0:=Tryz.sizeOf0
  v0:=Tryz.zeroValue0
  t3:=Tryz.underlying3
  a3:=Tryz.isAgg3
  z3:=Tryz.sizeOf3
  v3:=Tryz.zeroValue3
  t4:=Tryz.underlying4
  a4:=Tryz.isAgg4
  z4:=Tryz.sizeOf4
  v4:=Tryz.zeroValue4
  t5:=Tryz.underlying5
  a5:=Tryz.isAgg5
  z5:=Tryz.sizeOf5
  v5:=Tryz.zeroValue5
  t9:=Tryz.underlying9
  a9:=Tryz.isAgg9
  z9:=Tryz.sizeOf9
  v9:=Tryz.zeroValue9
  t37:=Tryz.underlying152
  a37:=Tryz.isAgg152
  z37:=Tryz.sizeOf152
  v37:=Tryz.zeroValue152
  t51:=Tryz.underlying82
  a51:=Tryz.isAgg82
  z51:=Tryz.sizeOf82
  v51:=Tryz.zeroValue82
  t53:=Tryz.underlying57
  a53:=Tryz.isAgg57
  z53:=Tryz.sizeOf57
  v53:=Tryz.zeroValue57 }
open Go.RowKit Go.Sort Go.Lib in
theorem Tryz.internal_strconv_formatBase10 (blk off cap : Nat) (u : Nat) (d : Array UInt8) (w : World) (hH : Holds (fun (b : UInt8)=>Value.int .u8 (b.toNat : Int)) w blk off d) (hu : u < 10 ^ d.size) (hu64 : u < 18446744073709551616) (hsz : d.size < 4611686018427387904) :
    Calls Tryz.prog 181 #[.slice (some ⟨blk,off,none⟩) d.size cap,.int .u64 u] w fun e w' =>
      e = .returned (.tuple #[])/\∃ (n v' : Nat) (dk : Array UInt8),w' = (putRow (fun (b : UInt8)=>Value.int .u8 (b.toNat : Int)) w blk off dk).drewN n/\FmtInv d.size u 0 v' dk:=Any.internal_strconv_formatBase10 Tryz.lays285 blk off cap u d w hH hu hu64 hsz
def Tryz.laysM246_ren : Go.Shelf.Ren:=⟨fun | 246=>188 | 283=>179 | 284=>180 | 285=>181 | 286=>182 | 129=>204 | 317=>203 | 318=>205 | 319=>206 | 320=>207 | 337=>221 | 338=>222 | n=>n,fun | 2=>2 | 3=>3 | 9=>9 | 4=>4 | 171=>180 | 0=>0 | 53=>57 | 37=>152 | 5=>5 | 173=>183 | 212=>209 | 51=>82 | 20=>20 | 213=>210 | 46=>148 | 232=>232 | 233=>233 | n=>n,fun | 17=>1 | 18=>5 | 19=>6 | n=>n⟩
def Tryz.laysM243_ren : Go.Shelf.Ren:=⟨fun | 243=>141 | 246=>188 | 283=>179 | 284=>180 | 285=>181 | 286=>182 | 129=>204 | 317=>203 | 318=>205 | 319=>206 | 320=>207 | 337=>221 | 338=>222 | n=>n,fun | 3=>3 | 9=>9 | 2=>2 | 4=>4 | 171=>180 | 0=>0 | 53=>57 | 37=>152 | 5=>5 | 173=>183 | 212=>209 | 51=>82 | 20=>20 | 213=>210 | 46=>148 | 232=>232 | 233=>233 | n=>n,fun | 17=>1 | 18=>5 | 19=>6 | n=>n⟩
def Tryz.laysM171_ren : Go.Shelf.Ren:=⟨fun | 171=>66 | 243=>141 | 246=>188 | 283=>179 | 284=>180 | 285=>181 | 286=>182 | 129=>204 | 317=>203 | 318=>205 | 319=>206 | 320=>207 | 337=>221 | 338=>222 | n=>n,fun | 3=>3 | 9=>9 | 2=>2 | 4=>4 | 171=>180 | 0=>0 | 53=>57 | 37=>152 | 5=>5 | 173=>183 | 212=>209 | 51=>82 | 20=>20 | 213=>210 | 46=>148 | 232=>232 | 233=>233 | n=>n,fun | 17=>1 | 18=>5 | 19=>6 | n=>n⟩
theorem Tryz.laysM171 : Go.Proofs.LaysM.n171 Tryz.prog Tryz.laysM171_ren:={
  mixed:=by kernel_rfl
  f129:=Tryz.func204.trans (congrArg some (by kernel_rfl))
  f171:=Tryz.func66.trans (congrArg some (by kernel_rfl))
  f243:=Tryz.func141.trans (congrArg some (by kernel_rfl))
  f246:=Tryz.func188.trans (congrArg some (by kernel_rfl))
  f283:=Tryz.func179.trans (congrArg some (by kernel_rfl))
  f284:=Tryz.func180.trans (congrArg some (by kernel_rfl))
  f285:=Tryz.func181.trans (congrArg some (by kernel_rfl))
  f286:=Tryz.func182.trans (congrArg some (by kernel_rfl))
  f317:=Tryz.func203.trans (congrArg some (by kernel_rfl))
  f318:=Tryz.func205.trans (congrArg some (by kernel_rfl))
  f319:=Tryz.func206.trans (congrArg some (by kernel_rfl))
  f320:=Tryz.func207.trans (congrArg some (by kernel_rfl))
  f337:=Tryz.func221.trans (congrArg some (by kernel_rfl))
  f338:=Tryz.func222.trans (congrArg some (by kernel_rfl))
  t0:=Tryz.underlying0
  a0:=Tryz.isAgg0
  z0:=Tryz.sizeOf0
  v0:=Tryz.zeroValue0
  t2:=Tryz.underlying2
  a2:=Tryz.isAgg2
  z2:=Tryz.sizeOf2
  v2:=Tryz.zeroValue2
  t3:=Tryz.underlying3
  a3:=Tryz.isAgg3
  z3:=Tryz.sizeOf3
  v3:=Tryz.zeroValue3
  t4:=Tryz.underlying4
  a4:=Tryz.isAgg4
  z4:=Tryz.sizeOf4
  v4:=Tryz.zeroValue4
  t5:=Tryz.underlying5
  a5:=Tryz.isAgg5
  z5:=Tryz.sizeOf5
  v5:=Tryz.zeroValue5
  t9:=Tryz.underlying9
  a9:=Tryz.isAgg9
  z9:=Tryz.sizeOf9
  v9:=Tryz.zeroValue9
  t20:=Tryz.underlying20
  a20:=Tryz.isAgg20
  z20:=Tryz.sizeOf20
  v20:=Tryz.zeroValue20
  t37:=Tryz.underlying152
  a37:=Tryz.isAgg152
  z37:=Tryz.sizeOf152
  v37:=Tryz.zeroValue152
  t46:=Tryz.underlying148
  a46:=Tryz.isAgg148
  z46:=Tryz.sizeOf148
  v46:=Tryz.zeroValue148
  t51:=Tryz.underlying82
  a51:=Tryz.isAgg82
  z51:=Tryz.sizeOf82
  v51:=Tryz.zeroValue82
  t53:=Tryz.underlying57
  a53:=Tryz.isAgg57
  z53:=Tryz.sizeOf57
  v53:=Tryz.zeroValue57
  t171:=Tryz.underlying180
  a171:=Tryz.isAgg180
  z171:=Tryz.sizeOf180
  v171:=Tryz.zeroValue180
  t173:=Tryz.underlying183
  a173:=Tryz.isAgg183
  z173:=Tryz.sizeOf183
  v173:=Tryz.zeroValue183
  t212:=Tryz.underlying209
  a212:=Tryz.isAgg209
  z212:=Tryz.sizeOf209
  v212:=Tryz.zeroValue209
  t213:=Tryz.underlying210
  a213:=Tryz.isAgg210
  z213:=Tryz.sizeOf210
  t232:=Tryz.underlying232
  a232:=Tryz.isAgg232
  z232:=Tryz.sizeOf232
  v232:=Tryz.zeroValue232
  t233:=Tryz.underlying233
  a233:=Tryz.isAgg233
  z233:=Tryz.sizeOf233
  v233:=Tryz.zeroValue233
  g17:=by kernel_rfl
  g18:=by kernel_rfl
  g19:=by kernel_rfl
  i0:=by kernel_rfl
  i2:=by kernel_rfl
  i3:=by kernel_rfl
  i4:=by kernel_rfl
  i5:=by kernel_rfl
  i9:=by kernel_rfl
  i20:=by kernel_rfl
  i37:=by kernel_rfl
  i46:=by kernel_rfl
  i51:=by kernel_rfl
  i53:=by kernel_rfl
  i171:=by kernel_rfl
  i173:=by kernel_rfl
  i212:=by kernel_rfl
  i232:=by kernel_rfl
  i233:=by kernel_rfl
  m17:=by kernel_rfl
  m18:=by kernel_rfl
  m19:=by kernel_rfl }
open Go.RowKit Go.Sort Go.Lib in
theorem Tryz.strconv_Itoa (n : Int) (h0 : -9223372036854775808 <= n) (h1 : n <= 9223372036854775807) (w : World) (htab : Lib.TabIs Tryz.prog w "internal/strconv.uint64pow10" .u64 Lib.pow10Tab) :
    Calls Tryz.prog 66 #[.int .i64 n] w fun e w'=>e = .returned (.string ⟨(Lib.itoa n).toArray⟩)/\∃ k os,w' = grow (w.drewN k) os:=Any.strconv_Itoa Tryz.laysM171 n h0 h1 w htab
def Tryz.laysC172_ren : Go.Shelf.Ren:=⟨fun | 172=>69 | 244=>142 | 245=>143 | 247=>189 | 279=>190 | 280=>191 | 281=>192 | 282=>193 | 287=>202 | 316=>210 | 171=>66 | 205=>211 | 321=>219 | 322=>220 | 243=>141 | 246=>188 | 283=>179 | 284=>180 | 285=>181 | 286=>182 | 129=>204 | 317=>203 | 318=>205 | 319=>206 | 320=>207 | 337=>221 | 338=>222 | n=>n,fun | 9=>9 | 3=>3 | 75=>77 | 76=>78 | 4=>4 | 5=>5 | 167=>191 | 37=>152 | 0=>0 | 85=>192 | 2=>2 | 168=>194 | 53=>57 | 175=>178 | 46=>148 | 210=>218 | 127=>189 | 145=>230 | 143=>228 | 21=>21 | 171=>180 | 173=>183 | 212=>209 | 51=>82 | 20=>20 | 213=>210 | 232=>232 | 233=>233 | 80=>104 | n=>n,fun | 15=>2 | 16=>3 | 17=>1 | 18=>5 | 19=>6 | n=>n⟩
theorem Tryz.laysC172 : Go.Proofs.LaysC.n172 Tryz.prog Tryz.laysC172_ren:={
  mixed:=by kernel_rfl
  f129:=Tryz.func204.trans (congrArg some (by kernel_rfl))
  f171:=Tryz.func66.trans (congrArg some (by kernel_rfl))
  f172:=Tryz.func69.trans (congrArg some (by kernel_rfl))
  f205:=Tryz.func211.trans (congrArg some (by kernel_rfl))
  f243:=Tryz.func141.trans (congrArg some (by kernel_rfl))
  f244:=Tryz.func142.trans (congrArg some (by kernel_rfl))
  f245:=Tryz.func143.trans (congrArg some (by kernel_rfl))
  f246:=Tryz.func188.trans (congrArg some (by kernel_rfl))
  f247:=Tryz.func189.trans (congrArg some (by kernel_rfl))
  f279:=Tryz.func190.trans (congrArg some (by kernel_rfl))
  f280:=Tryz.func191.trans (congrArg some (by kernel_rfl))
  f281:=Tryz.func192.trans (congrArg some (by kernel_rfl))
  f282:=Tryz.func193.trans (congrArg some (by kernel_rfl))
  f283:=Tryz.func179.trans (congrArg some (by kernel_rfl))
  f284:=Tryz.func180.trans (congrArg some (by kernel_rfl))
  f285:=Tryz.func181.trans (congrArg some (by kernel_rfl))
  f286:=Tryz.func182.trans (congrArg some (by kernel_rfl))
  f287:=Tryz.func202.trans (congrArg some (by kernel_rfl))
  f316:=Tryz.func210.trans (congrArg some (by kernel_rfl))
  f317:=Tryz.func203.trans (congrArg some (by kernel_rfl))
  f318:=Tryz.func205.trans (congrArg some (by kernel_rfl))
  f319:=Tryz.func206.trans (congrArg some (by kernel_rfl))
  f320:=Tryz.func207.trans (congrArg some (by kernel_rfl))
  f321:=Tryz.func219.trans (congrArg some (by kernel_rfl))
  f322:=Tryz.func220.trans (congrArg some (by kernel_rfl))
  f337:=Tryz.func221.trans (congrArg some (by kernel_rfl))
  f338:=Tryz.func222.trans (congrArg some (by kernel_rfl))
  t0:=Tryz.underlying0
  a0:=Tryz.isAgg0
  z0:=Tryz.sizeOf0
  v0:=Tryz.zeroValue0
  t2:=Tryz.underlying2
  a2:=Tryz.isAgg2
  z2:=Tryz.sizeOf2
  v2:=Tryz.zeroValue2
  t3:=Tryz.underlying3
  a3:=Tryz.isAgg3
  z3:=Tryz.sizeOf3
  v3:=Tryz.zeroValue3
  t4:=Tryz.underlying4
  a4:=Tryz.isAgg4
  z4:=Tryz.sizeOf4
  v4:=Tryz.zeroValue4
  t5:=Tryz.underlying5
  a5:=Tryz.isAgg5
  z5:=Tryz.sizeOf5
  v5:=Tryz.zeroValue5
  t9:=Tryz.underlying9
  a9:=Tryz.isAgg9
  z9:=Tryz.sizeOf9
  v9:=Tryz.zeroValue9
  t20:=Tryz.underlying20
  a20:=Tryz.isAgg20
  z20:=Tryz.sizeOf20
  v20:=Tryz.zeroValue20
  t21:=Tryz.underlying21
  a21:=Tryz.isAgg21
  z21:=Tryz.sizeOf21
  v21:=Tryz.zeroValue21
  t37:=Tryz.underlying152
  a37:=Tryz.isAgg152
  z37:=Tryz.sizeOf152
  v37:=Tryz.zeroValue152
  t46:=Tryz.underlying148
  a46:=Tryz.isAgg148
  z46:=Tryz.sizeOf148
  v46:=Tryz.zeroValue148
  t51:=Tryz.underlying82
  a51:=Tryz.isAgg82
  z51:=Tryz.sizeOf82
  v51:=Tryz.zeroValue82
  t53:=Tryz.underlying57
  a53:=Tryz.isAgg57
  z53:=Tryz.sizeOf57
  v53:=Tryz.zeroValue57
  t75:=Tryz.underlying77
  a75:=Tryz.isAgg77
  z75:=Tryz.sizeOf77
  v75:=Tryz.zeroValue77
  t76:=Tryz.underlying78
  a76:=Tryz.isAgg78
  z76:=Tryz.sizeOf78
  v76:=Tryz.zeroValue78
  t85:=Tryz.underlying192
  a85:=Tryz.isAgg192
  z85:=Tryz.sizeOf192
  v85:=Tryz.zeroValue192
  t127:=Tryz.underlying189
  a127:=Tryz.isAgg189
  z127:=Tryz.sizeOf189
  v127:=Tryz.zeroValue189
  t143:=Tryz.underlying228
  a143:=Tryz.isAgg228
  z143:=Tryz.sizeOf228
  v143:=Tryz.zeroValue228
  t145:=Tryz.underlying230
  a145:=Tryz.isAgg230
  z145:=Tryz.sizeOf230
  v145:=Tryz.zeroValue230
  t167:=Tryz.underlying191
  a167:=Tryz.isAgg191
  z167:=Tryz.sizeOf191
  v167:=Tryz.zeroValue191
  t168:=Tryz.underlying194
  a168:=Tryz.isAgg194
  z168:=Tryz.sizeOf194
  v168:=Tryz.zeroValue194
  t171:=Tryz.underlying180
  a171:=Tryz.isAgg180
  z171:=Tryz.sizeOf180
  v171:=Tryz.zeroValue180
  t173:=Tryz.underlying183
  a173:=Tryz.isAgg183
  z173:=Tryz.sizeOf183
  v173:=Tryz.zeroValue183
  t175:=Tryz.underlying178
  a175:=Tryz.isAgg178
  z175:=Tryz.sizeOf178
  v175:=Tryz.zeroValue178
  t210:=Tryz.underlying218
  a210:=Tryz.isAgg218
  z210:=Tryz.sizeOf218
  v210:=Tryz.zeroValue218
  t212:=Tryz.underlying209
  a212:=Tryz.isAgg209
  z212:=Tryz.sizeOf209
  v212:=Tryz.zeroValue209
  t213:=Tryz.underlying210
  a213:=Tryz.isAgg210
  z213:=Tryz.sizeOf210
  t232:=Tryz.underlying232
  a232:=Tryz.isAgg232
  z232:=Tryz.sizeOf232
  v232:=Tryz.zeroValue232
  t233:=Tryz.underlying233
  a233:=Tryz.isAgg233
  z233:=Tryz.sizeOf233
  v233:=Tryz.zeroValue233
  g15:=by kernel_rfl
  g16:=by kernel_rfl
  g17:=by kernel_rfl
  g18:=by kernel_rfl
  g19:=by kernel_rfl
  t80:=Tryz.underlying104
  a80:=Tryz.isAgg104
  z80:=Tryz.sizeOf104
  v80:=Tryz.zeroValue104
  i0:=by kernel_rfl
  i2:=by kernel_rfl
  i3:=by kernel_rfl
  i4:=by kernel_rfl
  i5:=by kernel_rfl
  i9:=by kernel_rfl
  i20:=by kernel_rfl
  i21:=by kernel_rfl
  i37:=by kernel_rfl
  i46:=by kernel_rfl
  i51:=by kernel_rfl
  i53:=by kernel_rfl
  i75:=by kernel_rfl
  i76:=by kernel_rfl
  i80:=by kernel_rfl
  i85:=by kernel_rfl
  i127:=by kernel_rfl
  i143:=by kernel_rfl
  i145:=by kernel_rfl
  i167:=by kernel_rfl
  i168:=by kernel_rfl
  i171:=by kernel_rfl
  i173:=by kernel_rfl
  i175:=by kernel_rfl
  i210:=by kernel_rfl
  i212:=by kernel_rfl
  i232:=by kernel_rfl
  i233:=by kernel_rfl
  m15:=by kernel_rfl
  m16:=by kernel_rfl
  m17:=by kernel_rfl
  m18:=by kernel_rfl
  m19:=by kernel_rfl
  c0:=by kernel_rfl
  c2:=by kernel_rfl
  c3:=by kernel_rfl
  c4:=by kernel_rfl
  c5:=by kernel_rfl
  c9:=by kernel_rfl
  c20:=by kernel_rfl
  c21:=by kernel_rfl
  c37:=by kernel_rfl
  c46:=by kernel_rfl
  c51:=by kernel_rfl
  c53:=by kernel_rfl
  c75:=by kernel_rfl
  c76:=by kernel_rfl
  c80:=by kernel_rfl
  c85:=by kernel_rfl
  c127:=by kernel_rfl
  c143:=by kernel_rfl
  c145:=by kernel_rfl
  c167:=by kernel_rfl
  c168:=by kernel_rfl
  c171:=by kernel_rfl
  c173:=by kernel_rfl
  c175:=by kernel_rfl
  c210:=by kernel_rfl
  c212:=by kernel_rfl
  c213:=by kernel_rfl
  c232:=by kernel_rfl
  c233:=by kernel_rfl }
open Go.RowKit in
theorem Tryz.strconv_Atoi_ok (s : ByteArray) (hmax : s.size <= 9223372036854775806) (v : Int) (h : Lib.atoiAll s.data.toList = .ok v) (w : World) :
    Calls Tryz.prog 69 #[.string s] w fun e w'=>e = .returned (.tuple #[.int .i64 v,.nilIface])/\(w' = w ∨ ∃ t,w' = Lib.bytesWorld w 5 t):=Any.strconv_Atoi_ok Tryz.laysC172 s hmax v h w
def Tryz.laysPu14_ren : Go.Shelf.Ren:=⟨fun | 14=>178 | 16=>202 | 17=>143 | 19=>219 | 20=>220 | 21=>190 | 22=>191 | 23=>192 | 24=>193 | 25=>210 | 27=>66 | 26=>211 | 28=>141 | 29=>188 | 30=>179 | 31=>180 | 32=>181 | 33=>182 | 35=>204 | 34=>203 | 36=>205 | 37=>206 | 38=>207 | 39=>221 | 40=>222 | n=>n,fun | 9=>9 | 3=>3 | 22=>57 | 24=>77 | 25=>178 | 4=>4 | 34=>191 | 5=>5 | 36=>148 | 37=>152 | 0=>0 | 39=>194 | 21=>21 | 44=>218 | 47=>189 | 50=>230 | 48=>228 | 2=>2 | 52=>180 | 55=>183 | 59=>209 | 60=>82 | 20=>20 | 61=>210 | 65=>232 | 66=>233 | 67=>104 | n=>n,fun | 0=>2 | 1=>3 | 2=>1 | 3=>5 | 4=>6 | n=>n⟩
theorem Tryz.laysPu14 : Go.Proofs.LaysPu.n14 Tryz.prog Tryz.laysPu14_ren:={
  mixed:=by kernel_rfl
  f14:=Tryz.func178.trans (congrArg some (by kernel_rfl))
  f16:=Tryz.func202.trans (congrArg some (by kernel_rfl))
  f17:=Tryz.func143.trans (congrArg some (by kernel_rfl))
  f19:=Tryz.func219.trans (congrArg some (by kernel_rfl))
  f20:=Tryz.func220.trans (congrArg some (by kernel_rfl))
  f21:=Tryz.func190.trans (congrArg some (by kernel_rfl))
  f22:=Tryz.func191.trans (congrArg some (by kernel_rfl))
  f23:=Tryz.func192.trans (congrArg some (by kernel_rfl))
  f24:=Tryz.func193.trans (congrArg some (by kernel_rfl))
  f25:=Tryz.func210.trans (congrArg some (by kernel_rfl))
  f26:=Tryz.func211.trans (congrArg some (by kernel_rfl))
  f27:=Tryz.func66.trans (congrArg some (by kernel_rfl))
  f28:=Tryz.func141.trans (congrArg some (by kernel_rfl))
  f29:=Tryz.func188.trans (congrArg some (by kernel_rfl))
  f30:=Tryz.func179.trans (congrArg some (by kernel_rfl))
  f31:=Tryz.func180.trans (congrArg some (by kernel_rfl))
  f32:=Tryz.func181.trans (congrArg some (by kernel_rfl))
  f33:=Tryz.func182.trans (congrArg some (by kernel_rfl))
  f34:=Tryz.func203.trans (congrArg some (by kernel_rfl))
  f35:=Tryz.func204.trans (congrArg some (by kernel_rfl))
  f36:=Tryz.func205.trans (congrArg some (by kernel_rfl))
  f37:=Tryz.func206.trans (congrArg some (by kernel_rfl))
  f38:=Tryz.func207.trans (congrArg some (by kernel_rfl))
  f39:=Tryz.func221.trans (congrArg some (by kernel_rfl))
  f40:=Tryz.func222.trans (congrArg some (by kernel_rfl))
  t0:=Tryz.underlying0
  a0:=Tryz.isAgg0
  z0:=Tryz.sizeOf0
  v0:=Tryz.zeroValue0
  i0:=by kernel_rfl
  t2:=Tryz.underlying2
  a2:=Tryz.isAgg2
  z2:=Tryz.sizeOf2
  v2:=Tryz.zeroValue2
  i2:=by kernel_rfl
  t3:=Tryz.underlying3
  a3:=Tryz.isAgg3
  z3:=Tryz.sizeOf3
  v3:=Tryz.zeroValue3
  i3:=by kernel_rfl
  t4:=Tryz.underlying4
  a4:=Tryz.isAgg4
  z4:=Tryz.sizeOf4
  v4:=Tryz.zeroValue4
  i4:=by kernel_rfl
  t5:=Tryz.underlying5
  a5:=Tryz.isAgg5
  z5:=Tryz.sizeOf5
  v5:=Tryz.zeroValue5
  i5:=by kernel_rfl
  t9:=Tryz.underlying9
  a9:=Tryz.isAgg9
  z9:=Tryz.sizeOf9
  v9:=Tryz.zeroValue9
  i9:=by kernel_rfl
  t20:=Tryz.underlying20
  a20:=Tryz.isAgg20
  z20:=Tryz.sizeOf20
  v20:=Tryz.zeroValue20
  i20:=by kernel_rfl
  t21:=Tryz.underlying21
  a21:=Tryz.isAgg21
  z21:=Tryz.sizeOf21
  v21:=Tryz.zeroValue21
  i21:=by kernel_rfl
  t22:=Tryz.underlying57
  a22:=Tryz.isAgg57
  z22:=Tryz.sizeOf57
  v22:=Tryz.zeroValue57
  i22:=by kernel_rfl
  t24:=Tryz.underlying77
  a24:=Tryz.isAgg77
  z24:=Tryz.sizeOf77
  v24:=Tryz.zeroValue77
  i24:=by kernel_rfl
  t25:=Tryz.underlying178
  a25:=Tryz.isAgg178
  z25:=Tryz.sizeOf178
  v25:=Tryz.zeroValue178
  i25:=by kernel_rfl
  t34:=Tryz.underlying191
  a34:=Tryz.isAgg191
  z34:=Tryz.sizeOf191
  v34:=Tryz.zeroValue191
  i34:=by kernel_rfl
  c34:=by kernel_rfl
  t36:=Tryz.underlying148
  a36:=Tryz.isAgg148
  z36:=Tryz.sizeOf148
  v36:=Tryz.zeroValue148
  i36:=by kernel_rfl
  t37:=Tryz.underlying152
  a37:=Tryz.isAgg152
  z37:=Tryz.sizeOf152
  v37:=Tryz.zeroValue152
  i37:=by kernel_rfl
  t39:=Tryz.underlying194
  a39:=Tryz.isAgg194
  z39:=Tryz.sizeOf194
  v39:=Tryz.zeroValue194
  i39:=by kernel_rfl
  t44:=Tryz.underlying218
  a44:=Tryz.isAgg218
  z44:=Tryz.sizeOf218
  v44:=Tryz.zeroValue218
  i44:=by kernel_rfl
  t47:=Tryz.underlying189
  a47:=Tryz.isAgg189
  z47:=Tryz.sizeOf189
  v47:=Tryz.zeroValue189
  i47:=by kernel_rfl
  t48:=Tryz.underlying228
  a48:=Tryz.isAgg228
  z48:=Tryz.sizeOf228
  v48:=Tryz.zeroValue228
  i48:=by kernel_rfl
  t50:=Tryz.underlying230
  a50:=Tryz.isAgg230
  z50:=Tryz.sizeOf230
  v50:=Tryz.zeroValue230
  i50:=by kernel_rfl
  t52:=Tryz.underlying180
  a52:=Tryz.isAgg180
  z52:=Tryz.sizeOf180
  v52:=Tryz.zeroValue180
  i52:=by kernel_rfl
  t55:=Tryz.underlying183
  a55:=Tryz.isAgg183
  z55:=Tryz.sizeOf183
  v55:=Tryz.zeroValue183
  i55:=by kernel_rfl
  t59:=Tryz.underlying209
  a59:=Tryz.isAgg209
  z59:=Tryz.sizeOf209
  v59:=Tryz.zeroValue209
  i59:=by kernel_rfl
  t60:=Tryz.underlying82
  a60:=Tryz.isAgg82
  z60:=Tryz.sizeOf82
  v60:=Tryz.zeroValue82
  i60:=by kernel_rfl
  t61:=Tryz.underlying210
  a61:=Tryz.isAgg210
  z61:=Tryz.sizeOf210
  t65:=Tryz.underlying232
  a65:=Tryz.isAgg232
  z65:=Tryz.sizeOf232
  v65:=Tryz.zeroValue232
  i65:=by kernel_rfl
  t66:=Tryz.underlying233
  a66:=Tryz.isAgg233
  z66:=Tryz.sizeOf233
  v66:=Tryz.zeroValue233
  i66:=by kernel_rfl
  t67:=Tryz.underlying104
  a67:=Tryz.isAgg104
  z67:=Tryz.sizeOf104
  v67:=Tryz.zeroValue104
  i67:=by kernel_rfl
  g0:=by kernel_rfl
  m0:=by kernel_rfl
  g1:=by kernel_rfl
  m1:=by kernel_rfl
  g2:=by kernel_rfl
  m2:=by kernel_rfl
  g3:=by kernel_rfl
  m3:=by kernel_rfl
  g4:=by kernel_rfl
  m4:=by kernel_rfl }
open Go.RowKit in
theorem Tryz.strconv_ParseUint_10_at64_ok (s : ByteArray) (hmax : s.size <= 9223372036854775806) (u : Nat) (h : Lib.parseUintB 64 s.data.toList = .ok u) (w : World) :
    Calls Tryz.prog 178 #[.string s,.int .i64 10,.int .i64 64] w fun e w'=>e = .returned (.tuple #[.int .u64 u,.nilIface])/\(w' = w ∨ w' = Lib.bytesWorld w 5 s):=Any.strconv_ParseUint_10_at64_ok Tryz.laysPu14 s hmax u h w
open Go.RowKit in
theorem Tryz.strconv_ParseUint_10_at64_syntax (s : ByteArray) (hlim : s.size <= 281474976710656) (h : Lib.parseUintB 64 s.data.toList = .syntax) (ev : Value) (w : World) (hv : w.cell? ⟨2,0,none⟩ = some ev) (hev : ev = .nilIface ∨ ∃ te pe,ev = .iface te pe) :
    Calls Tryz.prog 178 #[.string s,.int .i64 10,.int .i64 64] w fun e w'=>∃ N,e = .returned (.tuple #[.int .u64 0,.iface 194 (.pointer (some ⟨N,0,none⟩))])/\w.heap.size <= N/\w'.heap[N]? = some (.cells #[.string ⟨#[80,97,114,115,101,85,105,110,116]⟩,.string s,ev] 218 (0,0))/\Below w.heap.size w w':=Any.strconv_ParseUint_10_at64_syntax Tryz.laysPu14 s hlim h ev w hv hev
open Go.RowKit in
theorem Tryz.strconv_ParseUint_10_at64_range (s : ByteArray) (hlim : s.size <= 281474976710656) (h : Lib.parseUintB 64 s.data.toList = .range) (ev : Value) (w : World) (hv : w.cell? ⟨3,0,none⟩ = some ev) (hev : ev = .nilIface ∨ ∃ te pe,ev = .iface te pe) :
    Calls Tryz.prog 178 #[.string s,.int .i64 10,.int .i64 64] w fun e w'=>∃ N,e = .returned (.tuple #[.int .u64 18446744073709551615,.iface 194 (.pointer (some ⟨N,0,none⟩))])/\w.heap.size <= N/\w'.heap[N]? = some (.cells #[.string ⟨#[80,97,114,115,101,85,105,110,116]⟩,.string s,ev] 218 (0,0))/\Below w.heap.size w w':=Any.strconv_ParseUint_10_at64_range Tryz.laysPu14 s hlim h ev w hv hev
def Tryz.lays219_ren : Go.Shelf.Ren:=⟨fun | 219=>200 | 217=>215 | 225=>216 | 224=>217 | 267=>218 | 266=>223 | 314=>224 | n=>n,fun | 9=>9 | 3=>3 | 4=>4 | 5=>5 | 46=>148 | 146=>185 | 51=>82 | n=>n,fun | 1=>4 | n=>n⟩
def Tryz.lays144_ren : Go.Shelf.Ren:=⟨fun | 144=>114 | 143=>166 | 219=>200 | 217=>215 | 225=>216 | 224=>217 | 267=>218 | 266=>223 | 314=>224 | n=>n,fun | 9=>9 | 4=>4 | 3=>3 | 5=>5 | 46=>148 | 146=>185 | 51=>82 | n=>n,fun | 1=>4 | n=>n⟩
theorem Tryz.lays144 : Go.Proofs.Lays.n144 Tryz.prog Tryz.lays144_ren:={
  mixed:=by kernel_rfl
  f143:=Tryz.func166.trans (congrArg some (by kernel_rfl))
  f144:=Tryz.func114.trans (congrArg some (by kernel_rfl))
  f217:=Tryz.func215.trans (congrArg some (by kernel_rfl))
  f219:=Tryz.func200.trans (congrArg some (by kernel_rfl))
  f224:=Tryz.func217.trans (congrArg some (by kernel_rfl))
  f225:=Tryz.func216.trans (congrArg some (by kernel_rfl))
  f266:=Tryz.func223.trans (congrArg some (by kernel_rfl))
  f267:=Tryz.func218.trans (congrArg some (by kernel_rfl))
  f314:=Tryz.func224.trans (congrArg some (by kernel_rfl))
  t3:=Tryz.underlying3
  a3:=Tryz.isAgg3
  z3:=Tryz.sizeOf3
  v3:=Tryz.zeroValue3
  t4:=Tryz.underlying4
  a4:=Tryz.isAgg4
  z4:=Tryz.sizeOf4
  v4:=Tryz.zeroValue4
  t5:=Tryz.underlying5
  a5:=Tryz.isAgg5
  z5:=Tryz.sizeOf5
  v5:=Tryz.zeroValue5
  t9:=Tryz.underlying9
  a9:=Tryz.isAgg9
  z9:=Tryz.sizeOf9
  v9:=Tryz.zeroValue9
  t46:=Tryz.underlying148
  a46:=Tryz.isAgg148
  z46:=Tryz.sizeOf148
  v46:=Tryz.zeroValue148
  t51:=Tryz.underlying82
  a51:=Tryz.isAgg82
  z51:=Tryz.sizeOf82
  v51:=Tryz.zeroValue82
  t146:=Tryz.underlying185
  a146:=Tryz.isAgg185
  z146:=Tryz.sizeOf185
  v146:=Tryz.zeroValue185
  g1:=by kernel_rfl }
open Go.RowKit Go.Lib in
theorem Tryz.strings_Contains (s sub : ByteArray) (m : Int) (w : World) (hs : s.size < 4294967281) (hm : w.cell? ⟨4,0,none⟩ = some (.int .i64 m)) :
    Calls Tryz.prog 114 #[.string s,.string sub] w fun e w'=>e = .returned (.bool (Lib.contains s.data.toList sub.data.toList))/\w' = w:=Any.strings_Contains Tryz.lays144 s sub m w hs hm
def Tryz.lays145_ren : Go.Shelf.Ren:=⟨fun | 145=>113 | 220=>165 | 219=>200 | 217=>215 | 225=>216 | 224=>217 | 267=>218 | 266=>223 | 314=>224 | n=>n,fun | 9=>9 | 4=>4 | 59=>126 | 3=>3 | 5=>5 | 46=>148 | 146=>185 | 51=>82 | n=>n,fun | 1=>4 | n=>n⟩
theorem Tryz.lays145 : Go.Proofs.Lays.n145 Tryz.prog Tryz.lays145_ren:={
  mixed:=by kernel_rfl
  f145:=Tryz.func113.trans (congrArg some (by kernel_rfl))
  f217:=Tryz.func215.trans (congrArg some (by kernel_rfl))
  f219:=Tryz.func200.trans (congrArg some (by kernel_rfl))
  f220:=Tryz.func165.trans (congrArg some (by kernel_rfl))
  f224:=Tryz.func217.trans (congrArg some (by kernel_rfl))
  f225:=Tryz.func216.trans (congrArg some (by kernel_rfl))
  f266:=Tryz.func223.trans (congrArg some (by kernel_rfl))
  f267:=Tryz.func218.trans (congrArg some (by kernel_rfl))
  f314:=Tryz.func224.trans (congrArg some (by kernel_rfl))
  t3:=Tryz.underlying3
  a3:=Tryz.isAgg3
  z3:=Tryz.sizeOf3
  v3:=Tryz.zeroValue3
  t4:=Tryz.underlying4
  a4:=Tryz.isAgg4
  z4:=Tryz.sizeOf4
  v4:=Tryz.zeroValue4
  t5:=Tryz.underlying5
  a5:=Tryz.isAgg5
  z5:=Tryz.sizeOf5
  v5:=Tryz.zeroValue5
  t9:=Tryz.underlying9
  a9:=Tryz.isAgg9
  z9:=Tryz.sizeOf9
  v9:=Tryz.zeroValue9
  t46:=Tryz.underlying148
  a46:=Tryz.isAgg148
  z46:=Tryz.sizeOf148
  v46:=Tryz.zeroValue148
  t51:=Tryz.underlying82
  a51:=Tryz.isAgg82
  z51:=Tryz.sizeOf82
  v51:=Tryz.zeroValue82
  t59:=Tryz.underlying126
  a59:=Tryz.isAgg126
  z59:=Tryz.sizeOf126
  v59:=Tryz.zeroValue126
  t146:=Tryz.underlying185
  a146:=Tryz.isAgg185
  z146:=Tryz.sizeOf185
  v146:=Tryz.zeroValue185
  g1:=by kernel_rfl }
open Go.RowKit Go.Lib in
theorem Tryz.strings_Cut (s sep : ByteArray) (m : Int) (w : World) (hs : s.size < 4294967281) (hm : w.cell? ⟨4,0,none⟩ = some (.int .i64 m)) :
    Calls Tryz.prog 113 #[.string s,.string sep] w fun e w'=>e = .returned (.tuple #[.string ⟨(Lib.cut s.data.toList sep.data.toList).1.toArray⟩,.string ⟨(Lib.cut s.data.toList sep.data.toList).2.1.toArray⟩,.bool (Lib.cut s.data.toList sep.data.toList).2.2])/\∃ n,w' = w.drewN n:=Any.strings_Cut Tryz.lays145 s sep m w hs hm
def Tryz.lays206_ren : Go.Shelf.Ren:=⟨fun | 206=>183 | n=>n,fun | 9=>9 | 4=>4 | 3=>3 | n=>n,fun | n=>n⟩
def Tryz.lays101_ren : Go.Shelf.Ren:=⟨fun | 101=>60 | 208=>134 | 206=>183 | n=>n,fun | 9=>9 | 4=>4 | 3=>3 | n=>n,fun | n=>n⟩
theorem Tryz.lays101 : Go.Proofs.Lays.n101 Tryz.prog Tryz.lays101_ren:={
  mixed:=by kernel_rfl
  f101:=Tryz.func60.trans (congrArg some (by kernel_rfl))
  f206:=Tryz.func183.trans (congrArg some (by kernel_rfl))
  f208:=Tryz.func134.trans (congrArg some (by kernel_rfl))
  t3:=Tryz.underlying3
  a3:=Tryz.isAgg3
  z3:=Tryz.sizeOf3
  v3:=Tryz.zeroValue3
  t4:=Tryz.underlying4
  a4:=Tryz.isAgg4
  z4:=Tryz.sizeOf4
  v4:=Tryz.zeroValue4
  t9:=Tryz.underlying9
  a9:=Tryz.isAgg9
  z9:=Tryz.sizeOf9
  v9:=Tryz.zeroValue9 }
open Go.RowKit Go.Lib in
theorem Tryz.strings_TrimPrefix (s p : ByteArray) (w : World) :
    Calls Tryz.prog 60 #[.string s,.string p] w fun e w'=>e = .returned (.string ⟨(Lib.trimPrefix s.data.toList p.data.toList).toArray⟩)/\w' = w:=Any.strings_TrimPrefix Tryz.lays101 s p w
def Tryz.lays105_ren : Go.Shelf.Ren:=⟨fun | 105=>62 | 212=>135 | 99=>136 | 165=>137 | 166=>138 | 170=>139 | 169=>140 | 263=>184 | 264=>185 | 206=>183 | 240=>186 | 241=>187 | 276=>208 | 277=>209 | n=>n,fun | 9=>9 | 3=>3 | 4=>4 | 20=>20 | 0=>0 | 46=>148 | 109=>149 | 5=>5 | 72=>154 | 76=>78 | 51=>82 | 146=>185 | 53=>57 | 148=>187 | 70=>151 | 37=>152 | 75=>77 | 127=>189 | 164=>213 | 80=>104 | n=>n,fun | n=>n⟩
theorem Tryz.lays105 : Go.Proofs.Lays.n105 Tryz.prog Tryz.lays105_ren:={
  mixed:=by kernel_rfl
  f99:=Tryz.func136.trans (congrArg some (by kernel_rfl))
  f105:=Tryz.func62.trans (congrArg some (by kernel_rfl))
  f165:=Tryz.func137.trans (congrArg some (by kernel_rfl))
  f166:=Tryz.func138.trans (congrArg some (by kernel_rfl))
  f169:=Tryz.func140.trans (congrArg some (by kernel_rfl))
  f170:=Tryz.func139.trans (congrArg some (by kernel_rfl))
  f206:=Tryz.func183.trans (congrArg some (by kernel_rfl))
  f212:=Tryz.func135.trans (congrArg some (by kernel_rfl))
  f240:=Tryz.func186.trans (congrArg some (by kernel_rfl))
  f241:=Tryz.func187.trans (congrArg some (by kernel_rfl))
  f263:=Tryz.func184.trans (congrArg some (by kernel_rfl))
  f264:=Tryz.func185.trans (congrArg some (by kernel_rfl))
  f276:=Tryz.func208.trans (congrArg some (by kernel_rfl))
  f277:=Tryz.func209.trans (congrArg some (by kernel_rfl))
  t0:=Tryz.underlying0
  a0:=Tryz.isAgg0
  z0:=Tryz.sizeOf0
  v0:=Tryz.zeroValue0
  t3:=Tryz.underlying3
  a3:=Tryz.isAgg3
  z3:=Tryz.sizeOf3
  v3:=Tryz.zeroValue3
  t4:=Tryz.underlying4
  a4:=Tryz.isAgg4
  z4:=Tryz.sizeOf4
  v4:=Tryz.zeroValue4
  t5:=Tryz.underlying5
  a5:=Tryz.isAgg5
  z5:=Tryz.sizeOf5
  v5:=Tryz.zeroValue5
  t9:=Tryz.underlying9
  a9:=Tryz.isAgg9
  z9:=Tryz.sizeOf9
  v9:=Tryz.zeroValue9
  t20:=Tryz.underlying20
  a20:=Tryz.isAgg20
  z20:=Tryz.sizeOf20
  v20:=Tryz.zeroValue20
  t37:=Tryz.underlying152
  a37:=Tryz.isAgg152
  z37:=Tryz.sizeOf152
  v37:=Tryz.zeroValue152
  t46:=Tryz.underlying148
  a46:=Tryz.isAgg148
  z46:=Tryz.sizeOf148
  v46:=Tryz.zeroValue148
  t51:=Tryz.underlying82
  a51:=Tryz.isAgg82
  z51:=Tryz.sizeOf82
  v51:=Tryz.zeroValue82
  t53:=Tryz.underlying57
  a53:=Tryz.isAgg57
  z53:=Tryz.sizeOf57
  v53:=Tryz.zeroValue57
  t70:=Tryz.underlying151
  a70:=Tryz.isAgg151
  z70:=Tryz.sizeOf151
  v70:=Tryz.zeroValue151
  t72:=Tryz.underlying154
  a72:=Tryz.isAgg154
  z72:=Tryz.sizeOf154
  v72:=Tryz.zeroValue154
  t75:=Tryz.underlying77
  a75:=Tryz.isAgg77
  z75:=Tryz.sizeOf77
  v75:=Tryz.zeroValue77
  t76:=Tryz.underlying78
  a76:=Tryz.isAgg78
  z76:=Tryz.sizeOf78
  v76:=Tryz.zeroValue78
  t109:=Tryz.underlying149
  a109:=Tryz.isAgg149
  z109:=Tryz.sizeOf149
  v109:=Tryz.zeroValue149
  t127:=Tryz.underlying189
  a127:=Tryz.isAgg189
  z127:=Tryz.sizeOf189
  v127:=Tryz.zeroValue189
  t146:=Tryz.underlying185
  a146:=Tryz.isAgg185
  z146:=Tryz.sizeOf185
  v146:=Tryz.zeroValue185
  t148:=Tryz.underlying187
  a148:=Tryz.isAgg187
  z148:=Tryz.sizeOf187
  v148:=Tryz.zeroValue187
  t164:=Tryz.underlying213
  a164:=Tryz.isAgg213
  z164:=Tryz.sizeOf213
  v164:=Tryz.zeroValue213 }
theorem Tryz.Builder_Extra_105 : Builder.Extra Tryz.prog Tryz.lays105_ren:={
  sizeBuilder:=by kernel_rfl
  liesBuilder:=by kernel_rfl
  t5:=Tryz.underlying5
  a5:=Tryz.isAgg5
  z5:=Tryz.sizeOf5
  v5:=Tryz.zeroValue5
  infoByte:=by kernel_rfl
  cellsByte:=by kernel_rfl
  sizeByte:=by kernel_rfl
  neB5:=by decide }
open Go.RowKit Go.Lib in
theorem Tryz.strings_Repeat (s : ByteArray) (c : Nat) (w : World) (hc : c <= 9223372036854775807) (hlen : s.size * c <= 140737488355328) :
    Calls Tryz.prog 62 #[.string s,.int .i64 c] w fun e w'=>e = .returned (.string ⟨(Lib.repeatL s.data.toList c).toArray⟩)/\Below w.heap.size w w':=Any.strings_Repeat Tryz.lays105 Tryz.Builder_Extra_105 s c w hc hlen
end Go.Proofs
