/- WHAT IS PROVED: contracts of functions of the numbers package and laws for them, used by the last text of this claim. CONDITIONS: stated at each theorem. -/
import Derived.WideMake
import Derived.WalkKit
import Derived.LoopTactic
import Derived.Laws.EntriesVeiled
import Derived.Test.YtpbegoflpfdajaaGreatDoorB11
import Derived.Laws.Bits64b
import Derived.Test.YtpbegoflpfdajaaGreatDoorB07
/- Laws on a map from the numbers 0, 1, .. to values that the program made: a look-up, a store under a new number. -/
namespace Go.Proofs.YtpbegoflpfdajaaGreatDoor
open Go

def entsI (f : Nat->Value) (n : Nat) : List MapEntry:=(List.range n).map fun (i : Nat)=>{ key:=.int .i64 (i : Int),val:=f i,born:=i }
def mapI (f : Nat->Value) (n : Nat) : Obj:=.map (entsI f n).toArray n
theorem entsI_succ (f : Nat->Value) (n : Nat) : entsI f (n + 1) = entsI f n ++ [{ key:=.int .i64 (n : Int),val:=f n,born:=n }]:=by simp [entsI,List.range_succ]

theorem findNow_app (k : Int) : ∀ (l r : List MapEntry) (j : Nat),Instr.findNow (.int .i64) (.int .i64 k) l j = some none->Instr.findNow (.int .i64) (.int .i64 k) (l ++ r) j = Instr.findNow (.int .i64) (.int .i64 k) r (j + l.length)
  | [],r,j,_=>by simp
  | e :: l,r,j,h=>by
    simp only [List.cons_append,Instr.findNow] at h ⊢
    cases hs : Instr.sameNow (.int .i64) (.int .i64 k) e.key with
    | none=>rw [hs] at h;simp at h
    | some b =>
      cases b with
      | true=>rw [hs] at h;simp at h
      | false =>
        rw [hs] at h
        simp only at h ⊢
        rw [findNow_app k l r (j + 1) h,List.length_cons]
        congr 1;omega
theorem findI_out (f : Nat->Value) (k : Int) : ∀ n : Nat,(∀ i : Nat,i < n->(i : Int) ≠ k)->Instr.findNow (.int .i64) (.int .i64 k) (entsI f n) 0 = some none
  | 0,_=>rfl
  | n + 1,h=>by
    rw [entsI_succ,findNow_app k _ _ 0 (findI_out f k n (fun i hi=>h i (by omega)))]
    have : (k == (n : Int)) = false:=by have:=h n (by omega);simpa using Ne.symm this
    simp [Instr.findNow,Instr.sameNow,this]
theorem findNow_first (k : Int) : ∀ (l r : List MapEntry) (j : Nat) (x : Nat × Value),Instr.findNow (.int .i64) (.int .i64 k) l j = some (some x)->Instr.findNow (.int .i64) (.int .i64 k) (l ++ r) j = some (some x)
  | [],r,j,x,h=>by simp [Instr.findNow] at h
  | e :: l,r,j,x,h=>by
    simp only [List.cons_append,Instr.findNow] at h ⊢
    cases hs : Instr.sameNow (.int .i64) (.int .i64 k) e.key with
    | none=>rw [hs] at h;simp at h
    | some b =>
      cases b with
      | true=>rw [hs] at h;exact h
      | false=>rw [hs] at h;exact findNow_first k l r (j + 1) x h
theorem findI_in (f : Nat->Value) (k : Nat) : ∀ n : Nat,k < n->∃ j,Instr.findNow (.int .i64) (.int .i64 (k : Int)) (entsI f n) 0 = some (some (j,f k))
  | 0,h=>by omega
  | n + 1,h=>by
    rw [entsI_succ]
    by_cases e : k < n
    · obtain ⟨j,hj⟩:=findI_in f k n e
      exact ⟨j,findNow_first _ _ _ _ _ hj⟩
    · obtain rfl : k = n:=by omega
      rw [findNow_app _ _ _ 0 (findI_out f k k (fun i hi=>by omega))]
      simp [Instr.findNow,Instr.sameNow]

variable {P : Program}
theorem run_lookupI_in (T K E : TypeId) (f : Nat->Value) (k n b : Nat) (w : World) (hT : P.underlying T = some (.map K E)) (hK : P.underlying K = some (.int .i64)) (hk : k < n) (hb : w.heap[b]? = some (mapI f n)) :
    (Instr.lookup T (.map (some b)) (.int .i64 (k : Int)) true).run P w = .ok (.tuple #[f k,.bool true]) w:=by
  have hb' : w.heap[b]? = some (.map (entsI f n).toArray n):=hb
  obtain ⟨j,hn⟩:=findI_in f k n hk
  have hc : ∀ e,(Instr.checkKey e 10000 K (.int .i64 (k : Int))).run P w = .ok () w:=fun e=>MapKept.run_checkKey hK (by simp [MapKept.IsKey]) e 9999
  simp [Instr.lookup,run_underlying hT,MapKept.run_getObj_map hb',hc,MapKept.run_findKey hK hn,Result.andThen]
theorem run_lookupI_out (T K E : TypeId) (f : Nat->Value) (k : Int) (n b : Nat) (z : Value) (w : World) (hT : P.underlying T = some (.map K E)) (hK : P.underlying K = some (.int .i64)) (hz : ∀ w,(zeroValue E).run P w = .ok z w) (hk : ∀ i : Nat,i < n->(i : Int) ≠ k) (hb : w.heap[b]? = some (mapI f n)) :
    (Instr.lookup T (.map (some b)) (.int .i64 k) true).run P w = .ok (.tuple #[z,.bool false]) w:=by
  have hb' : w.heap[b]? = some (.map (entsI f n).toArray n):=hb
  have hn:=findI_out f k n hk
  have hc : ∀ e,(Instr.checkKey e 10000 K (.int .i64 k)).run P w = .ok () w:=fun e=>MapKept.run_checkKey hK (by simp [MapKept.IsKey]) e 9999
  simp [Instr.lookup,run_underlying hT,MapKept.run_getObj_map hb',hc,MapKept.run_findKey hK hn,Result.andThen,hz]
theorem run_updateI (T K E : TypeId) (f : Nat->Value) (n b : Nat) (w : World) (hT : P.underlying T = some (.map K E)) (hK : P.underlying K = some (.int .i64)) (hb : w.heap[b]? = some (mapI f n)) :
    (Instr.mapUpdate T (.map (some b)) (.int .i64 (n : Int)) (f n)).run P w = .ok () { w with heap:=w.heap.setIfInBounds b (mapI f (n + 1)) }:=by
  have hb' : w.heap[b]? = some (.map (entsI f n).toArray n):=hb
  have hf:=findI_out f (n : Int) n (fun i hi=>by omega)
  have hc : (Instr.checkKey false 10000 K (.int .i64 (n : Int))).run P w = .ok () w:=MapKept.run_checkKey hK (by simp [MapKept.IsKey]) false 9999
  have ho : mapI f (n + 1) = .map ((entsI f n).toArray.push { key:=.int .i64 (n : Int),val:=f n,born:=n }) (n + 1):=by
    simp [mapI,entsI_succ]
  rw [ho]
  simp [Instr.mapUpdate,run_underlying hT,MapKept.run_getObj_map hb',hc,MapKept.run_findKey hK hf,MapKept.run_setObj_map _ hb',Result.andThen]
end Go.Proofs.YtpbegoflpfdajaaGreatDoor

namespace Go.Proofs.YtpbegoflpfdajaaGreatDoor
open Go.RowKit

theorem checkBitsBox_any (s : ByteArray) (k : Nat) (hk : k <= 64) (p : Addr) (w : World) (hg : Gl w) (hp : w.cell? p = some (.int .i64 k)) :
    Calls Tryz.prog 128 #[.string s,.pointer (some p)] w fun e w'=>e = .returned (.int .i64 (cbV s.data.toList k))/\Below w.heap.size w w':=by
  have Cs:=Lib.hid (checkBits_any s k hk w hg)
  go_enter Tryz.func128,Tryz.ntmps128
  go_wp2_with (go_at_call 129;(with_reducible refine (Cs.out).mono ?_);rintro e w1 ⟨rfl,hb1⟩)
  go_ret
  exact ⟨rfl,hb1⟩

def opB (i : Nat) : Bool:=i == 3 || i == 4
def opV (i : Nat) : Value:=.agg #[.int .i64 (i : Int),.bool (opB i),.func (.func (168 + i)) #[] #[]]
def opCells : Array Value:=#[.int .i64 0,.bool false,.func (.func 168) #[] #[],.int .i64 1,.bool false,.func (.func 169) #[] #[],.int .i64 2,.bool false,.func (.func 170) #[] #[],.int .i64 3,.bool true,.func (.func 171) #[] #[],.int .i64 4,.bool true,.func (.func 172) #[] #[],.int .i64 5,.bool false,.func (.func 173) #[] #[],.int .i64 6,.bool false,.func (.func 174) #[] #[],.int .i64 7,.bool false,.func (.func 175) #[] #[],.int .i64 8,.bool false,.func (.func 176) #[] #[],.int .i64 9,.bool false,.func (.func 177) #[] #[]]
theorem opCells_at : ∀ k,k < 10->opCells[3 * k]? = some (.int .i64 (k : Int))/\opCells[3 * k + 1]? = some (.bool (opB k))/\opCells[3 * k + 2]? = some (.func (.func (168 + k)) #[] #[])
  | 0,_=>⟨rfl,rfl,rfl⟩
  | 1,_=>⟨rfl,rfl,rfl⟩
  | 2,_=>⟨rfl,rfl,rfl⟩
  | 3,_=>⟨rfl,rfl,rfl⟩
  | 4,_=>⟨rfl,rfl,rfl⟩
  | 5,_=>⟨rfl,rfl,rfl⟩
  | 6,_=>⟨rfl,rfl,rfl⟩
  | 7,_=>⟨rfl,rfl,rfl⟩
  | 8,_=>⟨rfl,rfl,rfl⟩
  | 9,_=>⟨rfl,rfl,rfl⟩
  | k + 10,h=>by omega
theorem below_setObj {w X : World} {B r : Nat} (hb : Below B w X) (h : B <= r) (o : Obj) : Below B w { X with heap:=X.heap.setIfInBounds r o } :=
  hb.trans ⟨rfl,rfl,rfl,by simp,fun k hk=>by show (X.heap.setIfInBounds r o)[k]? = _;rw [Array.getElem?_setIfInBounds];rw [if_neg (by omega)]⟩

set_option maxHeartbeats 1000000 in
set_option maxRecDepth 100000 in
theorem operations_any (w : World) : Calls Tryz.prog 127 #[] w fun e w'=>∃ b,e = .returned (.map (some b))/\w'.heap[b]? = some (mapI opV 10)/\Below w.heap.size w w':=by
  have hmm:=fun w=>run_makeMap_plain (P:=Tryz.prog) w 142
  have g0 : ((w.alloc (.cells opCells 140)).alloc (.map #[] 0)).heap[w.heap.size]? = some (.cells opCells 140 (0,0)):=by
    rw [heap_alloc_lt (by simp)];exact heap_alloc_at _ _
  have g1 : ((w.alloc (.cells opCells 140)).alloc (.map #[] 0)).heap[w.heap.size + 1]? = some (mapI opV 0):=heap_alloc_at' _ _ _ (by simp)
  have hb0 : Below w.heap.size w ((w.alloc (.cells opCells 140)).alloc (.map #[] 0)):=((Below.refl w.heap.size w).alloc (Nat.le_refl _) _).alloc (by simp) _
  have G:=Lib.hid (And.intro g0 (And.intro g1 hb0))
  clear g0 g1 hb0
  go_enter Tryz.func127,Tryz.ntmps127
  go_wp2
  go_loopw [19] (fun i wr=>∃ k : Nat,i = .int .i64 k/\k <= 10/\wr.heap[w.heap.size]? = some (.cells opCells 140 (0,0))/\wr.heap[w.heap.size + 1]? = some (mapI opV k)/\Below w.heap.size w wr) (fun i _=>10 - (intOf i).toNat)
  case atStart=>exact ⟨0,rfl,by omega,G.out.1,G.out.2.1,G.out.2.2⟩
  case round =>
    obtain ⟨k,rfl,hk,h0,h1,hb⟩:=hrel
    have hl1:=(Array.getElem?_eq_some_iff.1 h1).1
    by_cases h : k < 10
    · obtain ⟨a0,a1,a2⟩:=opCells_at k h
      have c0 : wr.cell? ⟨w.heap.size,k * 3,none⟩ = some (.int .i64 (k : Int)):=by rw [Nat.mul_comm];simp [World.cell?,h0,a0]
      have c1 : wr.cell? ⟨w.heap.size,k * 3 + 1,none⟩ = some (.bool (opB k)):=by rw [Nat.mul_comm];simp [World.cell?,h0,a1]
      have c2 : wr.cell? ⟨w.heap.size,k * 3 + 2,none⟩ = some (.func (.func (168 + k)) #[] #[]):=by rw [Nat.mul_comm];simp [World.cell?,h0,a2]
      have hm : (wr.alloc (.cells #[.int .i64 (k : Int),.bool (opB k),.func (.func (168 + k)) #[] #[]] 140)).heap[w.heap.size + 1]? = some (mapI opV k):=(heap_alloc_lt hl1).trans h1
      have hup:=run_updateI (P:=Tryz.prog) 142 3 140 opV k (w.heap.size + 1) _ Tryz.underlying142 Tryz.underlying3 hm
      unfold opV at hup
      have d1 : decide ((k : Int) < 10) = true:=by simp;omega
      have H0:=Lib.hid h0;have H1:=Lib.hid h1;have Hb:=Lib.hid hb
      have Hm:=Lib.hid hm
      clear h0 h1 hb a0 a1 a2 hm
      go_wp2
      go_roundw
      case rel=>exact ⟨k + 1,by go_num,by omega,((MapKept.heap_set Hm.out).2 _ (by omega)).trans ((heap_alloc_lt (by omega)).trans H0.out),(MapKept.heap_set Hm.out).1,below_setObj (Hb.out.alloc Hb.out.size _) (by omega) _⟩
      case measure=>simp [intOf];omega
    · have hk10 : k = 10:=by omega
      subst hk10
      have H1:=Lib.hid h1;have Hb:=Lib.hid hb
      clear h0 h1 hb h
      go_wp2
      go_ret
      exact ⟨_,rfl,H1.out,Hb.out⟩
end Go.Proofs.YtpbegoflpfdajaaGreatDoor

namespace Go.Proofs.YtpbegoflpfdajaaGreatDoor
open Go.RowKit

def opN (i a b : Nat) : Nat :=
  match i with
  | 0=>(a + b) % 18446744073709551616
  | 1=>(a + 18446744073709551616 - b) % 18446744073709551616
  | 2=>a * b % 18446744073709551616
  | 3=>a / b
  | 4=>a % b
  | 5=>a &&& b
  | 6=>a ||| b
  | 7=>a ^^^ b
  | 8=>a * 2 ^ min b 64 % 18446744073709551616
  | _=>a / 2 ^ min b 64

theorem opE0 (a b : Nat) (_ha : a < 18446744073709551616) (_hb : b < 18446744073709551616) : IntKind.u64.wrap ((a : Int) + b) = (opN 0 a b : Int):=by
  rw [IntKind.wrap_u64];unfold opN;simp only;omega
theorem op0_any (a b : Nat) (ha : a < 18446744073709551616) (hb : b < 18446744073709551616) (w : World) : Calls Tryz.prog 168 #[.int .u64 a,.int .u64 b] w fun e w'=>e = .returned (.int .u64 (opN 0 a b))/\w' = w:=by
  rw [<- opE0 a b ha hb]
  go_enter Tryz.func168,Tryz.ntmps168
  go_wp2
  go_ret
  exact ⟨rfl,rfl⟩

theorem opE1 (a b : Nat) (ha : a < 18446744073709551616) (hb : b < 18446744073709551616) : IntKind.u64.wrap ((a : Int) - b) = (opN 1 a b : Int):=by
  rw [IntKind.wrap_u64];unfold opN;simp only;omega
theorem op1_any (a b : Nat) (ha : a < 18446744073709551616) (hb : b < 18446744073709551616) (w : World) : Calls Tryz.prog 169 #[.int .u64 a,.int .u64 b] w fun e w'=>e = .returned (.int .u64 (opN 1 a b))/\w' = w:=by
  rw [<- opE1 a b ha hb]
  go_enter Tryz.func169,Tryz.ntmps169
  go_wp2
  go_ret
  exact ⟨rfl,rfl⟩

theorem opE2 (a b : Nat) (_ha : a < 18446744073709551616) (_hb : b < 18446744073709551616) : IntKind.u64.wrap ((a : Int) * b) = (opN 2 a b : Int):=by
  rw [IntKind.wrap_u64];unfold opN;simp only;rw [<- Int.natCast_mul];omega
theorem op2_any (a b : Nat) (ha : a < 18446744073709551616) (hb : b < 18446744073709551616) (w : World) : Calls Tryz.prog 170 #[.int .u64 a,.int .u64 b] w fun e w'=>e = .returned (.int .u64 (opN 2 a b))/\w' = w:=by
  rw [<- opE2 a b ha hb]
  go_enter Tryz.func170,Tryz.ntmps170
  go_wp2
  go_ret
  exact ⟨rfl,rfl⟩

theorem opE3 (a b : Nat) (ha : a < 18446744073709551616) (_hb : b < 18446744073709551616) : IntKind.u64.wrap ((a : Int) / b) = (opN 3 a b : Int):=by
  have h1 : (a : Int) / b = ((a / b : Nat) : Int):=by simp
  have h2 : a / b <= a:=Nat.div_le_self _ _
  show _ = ((a / b : Nat) : Int)
  obtain ⟨q,hq⟩ : ∃ q,a / b = q:=⟨_,rfl⟩
  rw [hq] at h1 h2 ⊢
  rw [h1];exact IntWalk.u64_in _ (by omega)
theorem op3_any (a b : Nat) (ha : a < 18446744073709551616) (hb : b < 18446744073709551616) (h0 : b ≠ 0) (w : World) : Calls Tryz.prog 171 #[.int .u64 a,.int .u64 b] w fun e w'=>e = .returned (.int .u64 (opN 3 a b))/\w' = w:=by
  rw [<- opE3 a b ha hb]
  have h1 : (b : Int) ≠ 0:=by omega
  have h2 : 0 < (b : Int):=by omega
  go_enter Tryz.func171,Tryz.ntmps171
  go_wp2
  go_ret
  exact ⟨rfl,rfl⟩

theorem opE4 (a b : Nat) (_ha : a < 18446744073709551616) (_hb : b < 18446744073709551616) : (a : Int) % b = (opN 4 a b : Int):=by
  unfold opN;simp
theorem op4_any (a b : Nat) (ha : a < 18446744073709551616) (hb : b < 18446744073709551616) (h0 : b ≠ 0) (w : World) : Calls Tryz.prog 172 #[.int .u64 a,.int .u64 b] w fun e w'=>e = .returned (.int .u64 (opN 4 a b))/\w' = w:=by
  rw [<- opE4 a b ha hb]
  have h1 : (b : Int) ≠ 0:=by omega
  have h2 : 0 < (b : Int):=by omega
  go_enter Tryz.func172,Tryz.ntmps172
  go_wp2
  go_ret
  exact ⟨rfl,rfl⟩

theorem opE5 (a b : Nat) (ha : a < 18446744073709551616) (hb : b < 18446744073709551616) : bits BinOp.and IntKind.u64 a b = (opN 5 a b : Int):=by
  exact bits_and_u64_nat a b ha hb
theorem op5_any (a b : Nat) (ha : a < 18446744073709551616) (hb : b < 18446744073709551616) (w : World) : Calls Tryz.prog 173 #[.int .u64 a,.int .u64 b] w fun e w'=>e = .returned (.int .u64 (opN 5 a b))/\w' = w:=by
  rw [<- opE5 a b ha hb]
  go_enter Tryz.func173,Tryz.ntmps173
  go_wp2
  go_ret
  exact ⟨rfl,rfl⟩

theorem opE6 (a b : Nat) (ha : a < 18446744073709551616) (hb : b < 18446744073709551616) : bits BinOp.or IntKind.u64 a b = (opN 6 a b : Int):=by
  exact bits_or_u64_nat a b ha hb
theorem op6_any (a b : Nat) (ha : a < 18446744073709551616) (hb : b < 18446744073709551616) (w : World) : Calls Tryz.prog 174 #[.int .u64 a,.int .u64 b] w fun e w'=>e = .returned (.int .u64 (opN 6 a b))/\w' = w:=by
  rw [<- opE6 a b ha hb]
  go_enter Tryz.func174,Tryz.ntmps174
  go_wp2
  go_ret
  exact ⟨rfl,rfl⟩

theorem opE7 (a b : Nat) (ha : a < 18446744073709551616) (hb : b < 18446744073709551616) : bits BinOp.xor IntKind.u64 a b = (opN 7 a b : Int):=by
  exact bits_xor_u64_nat a b ha hb
theorem op7_any (a b : Nat) (ha : a < 18446744073709551616) (hb : b < 18446744073709551616) (w : World) : Calls Tryz.prog 175 #[.int .u64 a,.int .u64 b] w fun e w'=>e = .returned (.int .u64 (opN 7 a b))/\w' = w:=by
  rw [<- opE7 a b ha hb]
  go_enter Tryz.func175,Tryz.ntmps175
  go_wp2
  go_ret
  exact ⟨rfl,rfl⟩

theorem opE8 (a b : Nat) (_ha : a < 18446744073709551616) (_hb : b < 18446744073709551616) : IntKind.u64.wrap ((a : Int) * 2 ^ min b 64) = (opN 8 a b : Int):=by
  have h1 : (a : Int) * 2 ^ min b 64 = ((a * 2 ^ min b 64 : Nat) : Int):=by simp
  rw [IntKind.wrap_u64,h1];unfold opN;simp only;omega
theorem op8_any (a b : Nat) (ha : a < 18446744073709551616) (hb : b < 18446744073709551616) (w : World) : Calls Tryz.prog 176 #[.int .u64 a,.int .u64 b] w fun e w'=>e = .returned (.int .u64 (opN 8 a b))/\w' = w:=by
  rw [<- opE8 a b ha hb]
  go_enter Tryz.func176,Tryz.ntmps176
  go_wp2
  go_ret
  exact ⟨rfl,rfl⟩

theorem opE9 (a b : Nat) (_ha : a < 18446744073709551616) (_hb : b < 18446744073709551616) : (a : Int) / 2 ^ min b 64 = (opN 9 a b : Int):=by
  unfold opN;simp
theorem op9_any (a b : Nat) (ha : a < 18446744073709551616) (hb : b < 18446744073709551616) (w : World) : Calls Tryz.prog 177 #[.int .u64 a,.int .u64 b] w fun e w'=>e = .returned (.int .u64 (opN 9 a b))/\w' = w:=by
  rw [<- opE9 a b ha hb]
  go_enter Tryz.func177,Tryz.ntmps177
  go_wp2
  go_ret
  exact ⟨rfl,rfl⟩

theorem opN_lt (i a b : Nat) (ha : a < 18446744073709551616) (hb : b < 18446744073709551616) (hi : i = 4->b ≠ 0) : opN i a b < 18446744073709551616:=by
  unfold opN
  split
  · omega
  · omega
  · omega
  · exact Nat.lt_of_le_of_lt (Nat.div_le_self _ _) ha
  · have:=Nat.mod_lt a (Nat.pos_of_ne_zero (hi rfl));omega
  · exact Nat.lt_of_le_of_lt Nat.and_le_left ha
  · exact Nat.or_lt_two_pow (n:=64) ha hb
  · exact Nat.xor_lt_two_pow (n:=64) ha hb
  · omega
  · exact Nat.lt_of_le_of_lt (Nat.div_le_self _ _) ha
end Go.Proofs.YtpbegoflpfdajaaGreatDoor

namespace Go.Proofs.YtpbegoflpfdajaaGreatDoor
open Go.RowKit
open Go.Lib (decDigits nDigits decDigits_length)

theorem op_any : ∀ (i : Nat) (_ : i < 10) (a b : Nat) (_ : a < 18446744073709551616) (_ : b < 18446744073709551616) (_ : opB i = true->b ≠ 0) (w : World),Calls Tryz.prog (168 + i) #[.int .u64 a,.int .u64 b] w fun e w'=>e = .returned (.int .u64 (opN i a b))/\w' = w
  | 0,_,a,b,ha,hb,_,w=>op0_any a b ha hb w
  | 1,_,a,b,ha,hb,_,w=>op1_any a b ha hb w
  | 2,_,a,b,ha,hb,_,w=>op2_any a b ha hb w
  | 3,_,a,b,ha,hb,h,w=>op3_any a b ha hb (h rfl) w
  | 4,_,a,b,ha,hb,h,w=>op4_any a b ha hb (h rfl) w
  | 5,_,a,b,ha,hb,_,w=>op5_any a b ha hb w
  | 6,_,a,b,ha,hb,_,w=>op6_any a b ha hb w
  | 7,_,a,b,ha,hb,_,w=>op7_any a b ha hb w
  | 8,_,a,b,ha,hb,_,w=>op8_any a b ha hb w
  | 9,_,a,b,ha,hb,_,w=>op9_any a b ha hb w
  | i + 10,h,_,_,_,_,_,_=>by omega
theorem op_enter : ∀ (i : Nat) (_ : i < 10) (args : Array Value) (w : World),(callFunc (168 + i) args).run Tryz.prog w = .ok (.enter (168 + i) args) w
  | 0,_=>enters_of Tryz.func168 (by kernel_rfl) rfl
  | 1,_=>enters_of Tryz.func169 (by kernel_rfl) rfl
  | 2,_=>enters_of Tryz.func170 (by kernel_rfl) rfl
  | 3,_=>enters_of Tryz.func171 (by kernel_rfl) rfl
  | 4,_=>enters_of Tryz.func172 (by kernel_rfl) rfl
  | 5,_=>enters_of Tryz.func173 (by kernel_rfl) rfl
  | 6,_=>enters_of Tryz.func174 (by kernel_rfl) rfl
  | 7,_=>enters_of Tryz.func175 (by kernel_rfl) rfl
  | 8,_=>enters_of Tryz.func176 (by kernel_rfl) rfl
  | 9,_=>enters_of Tryz.func177 (by kernel_rfl) rfl
  | i + 10,h=>by omega
theorem cb_enter (args : Array Value) (w : World) : (callFunc 128 args).run Tryz.prog w = .ok (.enter 128 args) w:=enters_of Tryz.func128 (by kernel_rfl) rfl _ _

theorem parseM_dig : ∀ (l : List UInt8) (acc : Nat),(∀ c ∈ l,isDig c = true)->l.foldl (fun v c=>v * 10 + (c.toNat - 48)) acc < 18446744073709551616->Lib.parseUintM (2 ^ 64 - 1) acc l = .ok (l.foldl (fun v c=>v * 10 + (c.toNat - 48)) acc)
  | [],acc,_,_=>rfl
  | c :: l,acc,hd,hlt=>by
    have hc:=hd c (by simp)
    simp only [isDig,decide_eq_true_eq] at hc
    have hge : ∀ (l : List UInt8) (x : Nat),x <= l.foldl (fun v c=>v * 10 + (c.toNat - 48)) x:=by
      intro l
      induction l with
      | nil=>intro x;exact Nat.le_refl _
      | cons c l ih=>intro x;exact Nat.le_trans (show x <= x * 10 + (c.toNat - 48) by omega) (ih _)
    simp only [List.foldl_cons] at hlt ⊢
    have:=hge l (acc * 10 + (c.toNat - 48))
    rw [Lib.parseUintM,if_pos hc,if_neg (by omega),if_neg (by omega)]
    exact parseM_dig l _ (fun x hx=>hd x (by simp [hx])) hlt
theorem parse_dec (a : Nat) (ha : a < 18446744073709551616) : Lib.parseUintB 64 (decDigits a) = .ok a:=by
  have h:=parseM_dig (decDigits a) 0 (decDigits_dig a) (by show valL (decDigits a) < _;rw [valL_decDigits];exact ha)
  unfold Lib.parseUintB
  rw [if_neg (by intro e;have:=decDigits_length a;rw [e] at this;have:=nD_pos a;simp at *;omega),h]
  show Lib.NumEnd.ok (valL (decDigits a)) = _
  rw [valL_decDigits]
theorem dec_head (a : Nat) : ∀ f,a <= f->(decDigits a).head? ≠ some 48 ∨ a = 0:=by
  intro f
  induction f generalizing a with
  | zero=>intro h;exact Or.inr (by omega)
  | succ f ih =>
    intro h
    by_cases h10 : a < 10
    · by_cases h0 : a = 0
      · exact Or.inr h0
      · refine Or.inl ?_
        rw [decDigits,dif_pos h10]
        simp only [List.head?_cons,ne_eq,Option.some.injEq]
        intro e
        have:=congrArg UInt8.toNat e
        rw [UInt8.toNat_ofNat'] at this
        simp at this;omega
    · rcases ih (a / 10) (by omega) with h1 | h1
      · refine Or.inl ?_
        rw [dec_step a h10]
        cases hd : decDigits (a / 10) with
        | nil=>have:=decDigits_length (a / 10);rw [hd] at this;have:=nD_pos (a / 10);simp at *;omega
        | cons c l=>rw [hd] at h1;simpa using h1
      · omega
theorem noMinus_dig (l : List UInt8) (h : ∀ c ∈ l,isDig c = true) : noMinus l = l:=by
  unfold noMinus Lib.trimPrefix
  rw [if_neg]
  intro hp
  cases l with
  | nil=>simp [Lib.hasPrefix] at hp
  | cons c l =>
    have hc:=h c (by simp)
    simp only [isDig,decide_eq_true_eq] at hc
    have : c = 45 := by have h2 : 45 = c := by simpa [Lib.hasPrefix] using hp
                        exact h2.symm
    rw [this] at hc
    exact absurd hc.1 (by decide)
theorem ckL_dec (a : Nat) (h : nDigits a <= 120) : ckL (decDigits a) = 0:=by
  have hd:=decDigits_dig a
  unfold ckL
  rw [noMinus_dig _ hd,if_neg,if_neg,if_neg]
  · rw [decDigits_length];omega
  · rintro ⟨h1,h2⟩
    rcases dec_head a a (Nat.le_refl _) with h3 | h3
    · exact h3 h1
    · subst h3;exact h2 (by rw [decDigits];rfl)
  · have : areDig (decDigits a) = true:=by
      unfold areDig
      rw [List.all_eq_true.2 hd,Bool.true_and]
      cases hl : decDigits a with
      | nil=>have:=decDigits_length a;rw [hl] at this;have:=nD_pos a;simp at *;omega
      | cons c l=>rfl
    rw [this];decide
end Go.Proofs.YtpbegoflpfdajaaGreatDoor

namespace Go.Proofs.YtpbegoflpfdajaaGreatDoor
open Go.RowKit

theorem sgA_lim {n : Nat} {s : Bool} {i : Nat} (h : i < 30) : (sgL n s).toArray[i]? = some (.int .u32 (lim n i)):=by
  unfold sgL;simp only [List.getElem?_toArray]
  rw [List.getElem?_append_left (by rw [mgL_len];exact h)];exact mgL_get h
def wrapV (n : Nat) (s : Bool) : Nat:=if s then (18446744073709551616 - n % 18446744073709551616) % 18446744073709551616 else n % 18446744073709551616
theorem div_top (n i : Nat) : n / bb ^ i = n / bb ^ (i + 1) * bb + lim n i:=by
  unfold lim
  rw [Nat.pow_succ,<- Nat.div_div_eq_div_mul,Nat.mul_comm,Nat.div_add_mod]
theorem wrap_next (n k v : Nat) (h : k < 30) (hv : v = n / bb ^ (30 - k) % 18446744073709551616) :
    ∃ v' : Nat,IntKind.u64.wrap (IntKind.u64.wrap ((v : Int) * 1000000000) + IntKind.u64.wrap (lim n (29 - k) : Int)) = (v' : Int)/\v' = n / bb ^ (30 - (k + 1)) % 18446744073709551616:=by
  refine ⟨_,?_,rfl⟩
  subst hv
  have e:=div_top n (29 - k)
  rw [show 29 - k + 1 = 30 - k by omega] at e
  rw [show 30 - (k + 1) = 29 - k by omega,e]
  generalize n / bb ^ (30 - k) = x
  have hl:=lim_lt' n (29 - k)
  generalize lim n (29 - k) = y at hl ⊢
  rw [show bb = 1000000000 from rfl]
  rw [IntKind.wrap_u64,IntKind.wrap_u64,IntKind.wrap_u64]
  omega

set_option maxHeartbeats 400000 in
theorem wrapped_any (n : Nat) (s : Bool) (hn : n < bb ^ 30) (w : World) :
    Calls Tryz.prog 124 #[.agg (sgL n s).toArray] w fun e w'=>e = .returned (.int .u64 (wrapV n s))/\Below w.heap.size w w':=by
  have Hg:=Lib.hid (fun i (h : i < 30)=>sgA_lim (n:=n) (s:=s) h)
  have Hs:=sgA_get (n:=n) (s:=s)
  have Hn:=Lib.hid hn;clear hn
  generalize (sgL n s).toArray = m at Hg Hs ⊢
  have HB:=Lib.hid (show Below w.heap.size w (w.alloc (.cells m 88)) from (Below.refl _ _).alloc (Nat.le_refl _) _)
  go_enter Tryz.func124,Tryz.ntmps124
  go_wp2
  go_loop [3,5] (fun v i=>∃ k x : Nat,k <= 30/\i = .int .i64 k/\v = .int .u64 x/\x = n / bb ^ (30 - k) % 18446744073709551616) (fun _ i=>30 - (intOf i).toNat)
  case atStart=>exact ⟨0,0,by omega,rfl,rfl,by rw [Nat.div_eq_of_lt Hn.out]⟩
  case round =>
    obtain ⟨k,x,hk,rfl,rfl,hx⟩:=hrel
    have Hx:=Lib.hid hx;clear hx
    by_cases h30 : k < 30
    · have hd : decide ((k : Int) < 30) = true:=by simp;omega
      have hcell:=Hg.out (29 - k) (by omega)
      have e1 : IntKind.i64.wrap (29 - (k : Int)) = ((29 - k : Nat) : Int):=by rw [IntWalk.i64_in _ (by omega)];omega
      obtain ⟨x',hx1,hx2⟩:=wrap_next n k x h30 Hx.out
      have Hx2:=Lib.hid hx2;clear hx2
      go_wp2
      go_round
      case rel=>exact ⟨k + 1,x',by omega,rfl,by rw [<- hx1],Hx2.out⟩
      case measure=>simp [intOf];omega
    · have hd : decide ((k : Int) < 30) = false:=by simp;omega
      have hx : x = n % 18446744073709551616:=by have:=Hx.out;rw [show 30 - k = 0 by omega,Nat.pow_zero,Nat.div_one] at this;exact this
      have Hx3:=Lib.hid hx;clear hx
      cases s with
      | false =>
        go_wp2
        go_ret
        exact ⟨by rw [show wrapV n false = x from (by unfold wrapV;rw [Hx3.out];rfl)];rfl,HB.out⟩
      | true =>
        go_wp2
        go_ret
        refine ⟨?_,HB.out⟩
        have e : ((wrapV n true : Nat) : Int) = IntKind.u64.wrap (-(x : Int)):=by
          have:=Hx3.out
          unfold wrapV;rw [IntKind.wrap_u64];simp only [if_true];omega
        rw [e];rfl
end Go.Proofs.YtpbegoflpfdajaaGreatDoor

namespace Go.Proofs.YtpbegoflpfdajaaGreatDoor
open Go.RowKit
open Go.Lib (decDigits nDigits decDigits_length)

theorem parseM_ok : ∀ (l : List UInt8) (M acc u : Nat),Lib.parseUintM M acc l = .ok u->(∀ c ∈ l,isDig c = true)/\u = l.foldl (fun v c=>v * 10 + (c.toNat - 48)) acc/\(acc <= M->u <= M)
  | [],M,acc,u,h=>by
    simp only [Lib.parseUintM,Lib.NumEnd.ok.injEq] at h
    subst h;exact ⟨by simp,rfl,fun h=>h⟩
  | c :: l,M,acc,u,h=>by
    rw [Lib.parseUintM] at h
    split at h
    · rename_i hc
      split at h
      · cases h
      · split at h
        · cases h
        · rename_i h2
          obtain ⟨a,b,d⟩:=parseM_ok l M _ u h
          refine ⟨fun x hx=>?_,b,fun _=>d (by omega)⟩
          rcases List.mem_cons.1 hx with e | e
          · subst e;simp only [isDig,decide_eq_true_eq];exact hc
          · exact a x e
    · cases h
theorem cbV_zero (l : List UInt8) (k : Nat) (hk : k <= 64) (h : cbV l k = 0) : AllDig l/\0 < l.length/\valL l < 2 ^ k:=by
  have hkp : 2 ^ k <= 18446744073709551616:=Nat.pow_le_pow_right (n:=2) (by omega) hk
  have hk1 : 1 <= 2 ^ k:=Nat.pow_pos (by omega)
  unfold cbV at h
  split at h
  · rename_i h0
    have hlen:=ckL_short l h0
    split at h
    · rename_i u hu
      unfold Lib.parseUintB at hu
      split at hu
      · cases hu
      · rename_i hne
        obtain ⟨a,b,_⟩:=parseM_ok l _ 0 u hu
        refine ⟨⟨by omega,fun i hi=>by have:=a l[i] (List.getElem_mem _);simpa [isDig] using this⟩,List.length_pos_iff.2 hne,?_⟩
        show l.foldl (fun v c=>v * 10 + (c.toNat - 48)) 0 < _
        rw [<- b]
        split at h
        · omega
        · omega
    · omega
  · exact absurd h (by assumption)

theorem parse_dig (s : ByteArray) (hd : AllDig s.data.toList) (h0 : 0 < s.data.toList.length) (x : Nat) (hx : valL s.data.toList = x) (w : World) (hg : Gl w) :
    Calls Tryz.prog 72 #[.string s] w fun e w'=>e = .returned (.agg (sgL x false).toArray)/\Below w.heap.size w w':=by
  subst hx
  have:=parse_f s hd (by simpa using h0) w hg.pow
  simpa using this
theorem wrapped_dig (x : Nat) (hx : x < bb ^ 30) (hx2 : x < 18446744073709551616) (w : World) :
    Calls Tryz.prog 124 #[.agg (sgL x false).toArray] w fun e w'=>e = .returned (.int .u64 x)/\Below w.heap.size w w':=by
  have:=wrapped_any x false hx w
  rwa [show wrapV x false = x from Nat.mod_eq_of_lt hx2] at this
theorem firstOf_two (k : Nat) (hk : k <= 64) (s1 s2 : ByteArray) (h1 : cbV s1.data.toList k = 0) (h2 : cbV s2.data.toList k = 0) (p : Addr) (g : Nat) (w : World) (hgl : Gl w) (hg : g < w.heap.size) (hp : w.cell? p = some (.int .i64 k))
    (hx0 : w.cell? ⟨g,0,none⟩ = some (.string s1)) (hx1 : w.cell? ⟨g,1,none⟩ = some (.string s2)) :
    Calls Tryz.prog 85 #[.func (.func 128) #[] #[.pointer (some p)],.slice (some ⟨g,0,none⟩) 2 2] w fun e w'=>e = .returned (.int .i64 0)/\Below w.heap.size w w':=by
  have:=firstOf_bound 128 cb_enter p (fun s=>cbV s.data.toList k) g 1 2 [s1,s2] w rfl (by omega) hg (fun i hi=>by
    match i,hi with
    | 0,_=>exact hx0
    | 1,_=>exact hx1) (fun x _ w3 hb=>checkBitsBox_any x k hk p w3 (hgl.keep hb) (cell_keep hp hb))
  simpa [firstE,h1,h2] using this
theorem and_mask (v k : Nat) (hv : v < 18446744073709551616) (hk : k <= 64) : bits BinOp.and IntKind.u64 (v : Int) ((2 ^ k - 1 : Nat) : Int) = ((v % 2 ^ k : Nat) : Int):=by
  have : 2 ^ k <= 2 ^ 64:=Nat.pow_le_pow_right (by omega) hk
  rw [bits_and_u64_nat v (2 ^ k - 1) hv (by omega),Nat.and_two_pow_sub_one_eq_mod]
theorem ckWidth_ok (k : Nat) (h1 : 1 <= k) (h2 : k <= 64) : ckWidth (k : Int) = 0:=by unfold ckWidth;rw [if_neg (by omega)]
end Go.Proofs.YtpbegoflpfdajaaGreatDoor
