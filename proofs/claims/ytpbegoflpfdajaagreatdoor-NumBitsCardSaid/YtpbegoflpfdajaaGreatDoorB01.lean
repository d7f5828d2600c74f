/- WHAT IS PROVED: contracts of functions of the numbers package and laws for them, used by the last text of this claim. CONDITIONS: stated at each theorem. -/
import Derived.Test.YtpbegoflpfdajaaGreatDoorProg
import Derived.WalkKit
import Derived.WalkSpells
import Derived.WalkLawsBesides
import Derived.IntWalk
import Derived.Lib.Hide
import Derived.Handy
import Derived.Deep.WholeRow
import Derived.Deep.MidRow
import Derived.Deep.RegionHeld3
import Derived.Deep.QuietTactic
import Derived.BigQuiet
import Derived.StillTailTactics
import Derived.Lib.EndianMore
import Derived.KernelRfl
/- Plain arithmetic: the limbs of a number to the base 10^9. -/
namespace Go.Proofs.YtpbegoflpfdajaaGreatDoor

def bb : Nat:=1000000000
theorem bb_pos : 0 < bb:=by unfold bb;omega
theorem bb_pow_pos (i : Nat) : 0 < bb ^ i:=Nat.pow_pos bb_pos
def lim (n i : Nat) : Nat:=n / bb ^ i % bb
theorem lim_lt (n i : Nat) : lim n i < bb:=Nat.mod_lt _ bb_pos
theorem lim_lt' (n i : Nat) : lim n i < 1000000000:=lim_lt n i
theorem mod_pow_succ (n i : Nat) : n % bb ^ (i + 1) = n % bb ^ i + bb ^ i * lim n i:=by
  rw [Nat.pow_succ,Nat.mod_mul];rfl
theorem lim_of_lt {n i : Nat} (h : n < bb ^ i) : lim n i = 0:=by
  unfold lim;rw [Nat.div_eq_of_lt h];rfl
theorem pow_mono {i j : Nat} (h : i <= j) : bb ^ i <= bb ^ j:=Nat.pow_le_pow_right bb_pos h
theorem lim_of_lt' {n i j : Nat} (h : n < bb ^ i) (hij : i <= j) : lim n j = 0:=lim_of_lt (Nat.lt_of_lt_of_le h (pow_mono hij))
theorem lim_zero (i : Nat) : lim 0 i = 0:=by unfold lim;simp
theorem lim_small {n : Nat} (h : n < bb) : lim n 0 = n:=by unfold lim;simp [Nat.mod_eq_of_lt h]
theorem lim_small_succ {n : Nat} (h : n < bb) (i : Nat) : lim n (i + 1) = 0:=lim_of_lt' (i:=1) (by simpa using h) (by omega)
theorem eq_of_mod (a b : Nat) : ∀ k,(∀ i,i < k->lim a i = lim b i)->a % bb ^ k = b % bb ^ k
  | 0,_=>by simp [Nat.mod_one]
  | k + 1,h=>by rw [mod_pow_succ,mod_pow_succ,eq_of_mod a b k (fun i hi=>h i (by omega)),h k (by omega)]
theorem eq_of_lims {a b k : Nat} (ha : a < bb ^ k) (hb : b < bb ^ k) (h : ∀ i,i < k->lim a i = lim b i) : a = b:=by
  have:=eq_of_mod a b k h
  rwa [Nat.mod_eq_of_lt ha,Nat.mod_eq_of_lt hb] at this

def lsz (n : Nat) : Nat:=if h : n = 0 then 0 else lsz (n / bb) + 1
  termination_by n
  decreasing_by unfold bb;omega
theorem lsz_zero : lsz 0 = 0:=by rw [lsz];simp
theorem lsz_pos {n : Nat} (h : n ≠ 0) : lsz n = lsz (n / bb) + 1:=by rw [lsz];simp [h]
theorem lsz_le_iff : ∀ k n : Nat,lsz n <= k ↔ n < bb ^ k
  | 0,n=>by
    by_cases h : n = 0
    · subst h;simp [lsz_zero]
    · rw [lsz_pos h];simp;omega
  | k + 1,n=>by
    by_cases h : n = 0
    · subst h;simp [lsz_zero];exact bb_pow_pos _
    · rw [lsz_pos h,Nat.add_le_add_iff_right,lsz_le_iff k,Nat.div_lt_iff_lt_mul bb_pos,Nat.pow_succ]
theorem lsz_lt (n : Nat) : n < bb ^ lsz n:=(lsz_le_iff _ n).1 (Nat.le_refl _)
theorem lsz_down {n j : Nat} (h : n < bb ^ (j + 1)) (hz : lim n j = 0) : n < bb ^ j:=by
  have:=mod_pow_succ n j
  rw [Nat.mod_eq_of_lt h,hz] at this
  have h2:=Nat.mod_lt n (bb_pow_pos j)
  omega
theorem lsz_stop {n j : Nat} (hz : lim n j ≠ 0) : j < lsz n:=by
  apply Nat.lt_of_not_le;intro h
  exact hz (lim_of_lt ((lsz_le_iff _ _).1 h))
theorem lsz_top {n : Nat} (h : n ≠ 0) : bb ^ (lsz n - 1) <= n:=by
  apply Nat.le_of_not_lt;intro hl
  have:=(lsz_le_iff _ _).2 hl
  have : lsz n ≠ 0:=by rw [lsz_pos h];omega
  omega
theorem lim_top {n : Nat} (h : n ≠ 0) : lim n (lsz n - 1) ≠ 0:=by
  intro hz
  have h1 : lsz n ≠ 0:=by rw [lsz_pos h];omega
  have h2:=lsz_lt n
  rw [show lsz n = lsz n - 1 + 1 by omega] at h2
  have h3:=lsz_down h2 hz
  have:=lsz_top h
  omega
theorem lsz_eq_zero {n : Nat} : lsz n = 0 ↔ n = 0:=by
  constructor
  · intro h;have:=lsz_lt n;rw [h] at this;simpa using this
  · intro h;subst h;exact lsz_zero

/-! sums -/
def car (a b k : Nat) : Nat:=(a % bb ^ k + b % bb ^ k) / bb ^ k
theorem car_zero (a b : Nat) : car a b 0 = 0:=by unfold car;simp [Nat.mod_one]
theorem car_le (a b k : Nat) : car a b k <= 1:=by
  unfold car
  have h1:=Nat.mod_lt a (bb_pow_pos k)
  have h2:=Nat.mod_lt b (bb_pow_pos k)
  have : (a % bb ^ k + b % bb ^ k) / bb ^ k < 2:=(Nat.div_lt_iff_lt_mul (bb_pow_pos k)).2 (by omega)
  omega
theorem div_add_car (a b k : Nat) : (a + b) / bb ^ k = a / bb ^ k + b / bb ^ k + car a b k:=by
  unfold car
  have h1:=Nat.div_add_mod a (bb ^ k)
  have h2:=Nat.div_add_mod b (bb ^ k)
  have h3 : a + b = bb ^ k * (a / bb ^ k + b / bb ^ k) + (a % bb ^ k + b % bb ^ k):=by rw [Nat.mul_add];omega
  conv=>lhs;rw [h3]
  rw [Nat.mul_add_div (bb_pow_pos k)]
theorem lim_add (a b k : Nat) : lim (a + b) k = (lim a k + lim b k + car a b k) % bb:=by
  unfold lim
  rw [div_add_car]
  simp [Nat.add_mod]
theorem car_succ (a b k : Nat) : car a b (k + 1) = (lim a k + lim b k + car a b k) / bb:=by
  have h:=div_add_car a b (k + 1)
  have h0:=div_add_car a b k
  simp only [Nat.pow_succ,<- Nat.div_div_eq_div_mul] at h
  rw [h0] at h
  unfold lim
  generalize a / bb ^ k = x at *
  generalize b / bb ^ k = y at *
  generalize car a b k = c at *
  have hx:=Nat.div_add_mod x bb
  have hy:=Nat.div_add_mod y bb
  have h3 : x + y + c = bb * (x / bb + y / bb) + (x % bb + y % bb + c):=by rw [Nat.mul_add];omega
  rw [h3,Nat.mul_add_div bb_pos] at h
  omega

/-! differences -/
def bor (a b k : Nat) : Nat:=if a % bb ^ k < b % bb ^ k then 1 else 0
theorem bor_zero (a b : Nat) : bor a b 0 = 0:=by unfold bor;simp [Nat.mod_one]
theorem bor_le (a b k : Nat) : bor a b k <= 1:=by unfold bor;split <;> omega
theorem bor_succ (a b k : Nat) : bor a b (k + 1) = 1 - (lim a k + bb - lim b k - bor a b k) / bb:=by
  have ha:=mod_pow_succ a k
  have hb:=mod_pow_succ b k
  have la:=lim_lt a k
  have lb:=lim_lt b k
  have h1:=Nat.mod_lt a (bb_pow_pos k)
  have h2:=Nat.mod_lt b (bb_pow_pos k)
  unfold bor
  rw [ha,hb]
  generalize a % bb ^ k = x at *
  generalize b % bb ^ k = y at *
  generalize lim a k = p at *
  generalize lim b k = q at *
  generalize bb ^ k = M at *
  have hB : bb = 1000000000:=rfl
  rcases Nat.lt_trichotomy p q with h | h | h
  · have : M * p + M <= M * q:=by rw [<- Nat.mul_succ];exact Nat.mul_le_mul_left M h
    rw [if_pos (by omega)]
    split <;> (rw [Nat.div_eq_of_lt (by omega)])
  · subst h
    by_cases hxy : x < y
    · rw [if_pos (by omega),if_pos hxy,Nat.div_eq_of_lt (by omega)]
    · rw [if_neg (by omega),if_neg hxy,show p + bb - p - 0 = bb by omega,Nat.div_self bb_pos]
  · have : M * q + M <= M * p:=by rw [<- Nat.mul_succ];exact Nat.mul_le_mul_left M h
    rw [if_neg (by omega)]
    have : ∀ z,z <= 1->(p + bb - q - z) / bb = 1:=by
      intro z hz
      apply Nat.div_eq_of_lt_le <;> omega
    split
    · rw [this 1 (by omega)]
    · rw [this 0 (by omega)]
theorem lim_sub (a b k : Nat) (h : b <= a) : lim (a - b) k = (lim a k + bb - lim b k - bor a b k) % bb:=by
  -- a = (a - b) + b
  have e:=lim_add (a - b) b k
  rw [Nat.sub_add_cancel h] at e
  have hc : car (a - b) b k = bor a b k:=by
    unfold car bor
    have h1:=Nat.mod_lt (a - b) (bb_pow_pos k)
    have h2:=Nat.mod_lt b (bb_pow_pos k)
    have h3 : a % bb ^ k = ((a - b) % bb ^ k + b % bb ^ k) % bb ^ k:=by rw [<- Nat.add_mod,Nat.sub_add_cancel h]
    rw [h3]
    generalize (a - b) % bb ^ k = x at *
    generalize b % bb ^ k = y at *
    generalize bb ^ k = M at *
    by_cases hs : x + y < M
    · rw [Nat.div_eq_of_lt hs,Nat.mod_eq_of_lt hs,if_neg (by omega)]
    · have : (x + y) % M = x + y - M:=by rw [Nat.mod_eq_sub_mod (by omega),Nat.mod_eq_of_lt (by omega)]
      rw [this,if_pos (by omega)]
      apply Nat.div_eq_of_lt_le <;> omega
  rw [hc] at e
  have la:=lim_lt a k
  have lb:=lim_lt b k
  have ld:=lim_lt (a - b) k
  have lc:=bor_le a b k
  generalize lim a k = p at *
  generalize lim b k = q at *
  generalize lim (a - b) k = r at *
  generalize bor a b k = c at *
  have hB : bb = 1000000000:=rfl
  simp only [hB] at e la lb ld ⊢
  omega

/-! comparing -/
theorem lt_of_top {a b k : Nat} (hh : a / bb ^ (k + 1) = b / bb ^ (k + 1)) (h : lim a k < lim b k) : a < b:=by
  have e1 : a / bb ^ k = bb * (a / bb ^ (k + 1)) + lim a k:=by
    have:=Nat.div_add_mod (a / bb ^ k) bb
    rw [Nat.div_div_eq_div_mul,<- Nat.pow_succ] at this
    exact this.symm
  have e2 : b / bb ^ k = bb * (b / bb ^ (k + 1)) + lim b k:=by
    have:=Nat.div_add_mod (b / bb ^ k) bb
    rw [Nat.div_div_eq_div_mul,<- Nat.pow_succ] at this
    exact this.symm
  have : a / bb ^ k < b / bb ^ k:=by rw [e1,e2,hh];omega
  apply Nat.lt_of_not_le;intro hl
  have:=Nat.div_le_div_right (c:=bb ^ k) hl
  omega
theorem div_same {a b k : Nat} (hh : a / bb ^ (k + 1) = b / bb ^ (k + 1)) (h : lim a k = lim b k) : a / bb ^ k = b / bb ^ k:=by
  have e1:=Nat.div_add_mod (a / bb ^ k) bb
  have e2:=Nat.div_add_mod (b / bb ^ k) bb
  rw [Nat.div_div_eq_div_mul,<- Nat.pow_succ] at e1 e2
  unfold lim at h
  rw [<- e1,<- e2,hh,h]
def cmpN (a b : Nat) : Int:=if a < b then -1 else if b < a then 1 else 0
end Go.Proofs.YtpbegoflpfdajaaGreatDoor

/- What the walks of this chapter share: magnitudes, signed numbers and fractions as lists of values; loads, stores, allocations and results of whole aggregates. -/
namespace Go.Proofs.YtpbegoflpfdajaaGreatDoor
open Go.RowKit

@[irreducible] def mgL (n : Nat) : List Value:=(List.range 30).map fun i=>.int .u32 (lim n i)
theorem mgL_len (n : Nat) : (mgL n).length = 30:=by simp [mgL]
theorem mgL_get {n i : Nat} (h : i < 30) : (mgL n)[i]? = some (.int .u32 (lim n i)):=by simp [mgL,h]
theorem mgL_size (n : Nat) : (mgL n).toArray.size = 30:=by simp [mgL]
theorem mgA_get {n i : Nat} (h : i < 30) : (mgL n).toArray[i]? = some (.int .u32 (lim n i)):=by simp [mgL_get h]
theorem mgL_one (n : Nat) : ∀ v ∈ mgL n,v.oneCell' = true:=by
  intro v hv;simp only [mgL,List.mem_map] at hv;obtain ⟨i,_,rfl⟩:=hv;rfl
theorem mgA_one (n : Nat) : (mgL n).toArray.all (·.oneCell') = true:=all_oneCell_toArray (mgL_one n)
@[irreducible] def sgL (n : Nat) (s : Bool) : List Value:=mgL n ++ [.bool s]
theorem sgL_len (n : Nat) (s : Bool) : (sgL n s).length = 31:=by simp [sgL,mgL_len]
theorem sgL_size (n : Nat) (s : Bool) : (sgL n s).toArray.size = 31:=by simp [sgL_len]
theorem sgL_one (n : Nat) (s : Bool) : ∀ v ∈ sgL n s,v.oneCell' = true:=by
  intro v hv;unfold sgL at hv;rcases List.mem_append.1 hv with h | h
  · exact mgL_one n v h
  · simp at h;subst h;rfl
theorem sgA_one (n : Nat) (s : Bool) : (sgL n s).toArray.all (·.oneCell') = true:=all_oneCell_toArray (sgL_one n s)
theorem sgL_get {n : Nat} {s : Bool} : (sgL n s)[30]? = some (.bool s):=by
  unfold sgL;rw [List.getElem?_append_right (by rw [mgL_len];omega),mgL_len];rfl
theorem sgA_get {n : Nat} {s : Bool} : (sgL n s).toArray[30]? = some (.bool s):=by simp [sgL_get]
@[irreducible] def frL (p : Nat) (s : Bool) (q : Nat) (t : Bool) : List Value:=sgL p s ++ sgL q t
theorem frL_len (p : Nat) (s : Bool) (q : Nat) (t : Bool) : (frL p s q t).length = 62:=by simp [frL,sgL_len]
theorem frL_size (p : Nat) (s : Bool) (q : Nat) (t : Bool) : (frL p s q t).toArray.size = 62:=by simp [frL_len]
theorem frL_one (p : Nat) (s : Bool) (q : Nat) (t : Bool) : ∀ v ∈ frL p s q t,v.oneCell' = true:=by
  intro v hv;unfold frL at hv;rcases List.mem_append.1 hv with h | h
  · exact sgL_one _ _ v h
  · exact sgL_one _ _ v h
theorem frA_one (p : Nat) (s : Bool) (q : Nat) (t : Bool) : (frL p s q t).toArray.all (·.oneCell') = true:=all_oneCell_toArray (frL_one p s q t)

theorem i84 : (Tryz.prog.info? 84).map (·.size) = some 30:=by kernel_rfl
theorem i86 : (Tryz.prog.info? 86).map (·.size) = some 30:=by kernel_rfl
theorem i88 : (Tryz.prog.info? 88).map (·.size) = some 31:=by kernel_rfl
theorem i115 : (Tryz.prog.info? 115).map (·.size) = some 62:=by kernel_rfl
theorem zero_mg : (mgL 0) = [.int .u32 0,.int .u32 0,.int .u32 0,.int .u32 0,.int .u32 0,.int .u32 0,.int .u32 0,.int .u32 0,.int .u32 0,.int .u32 0,.int .u32 0,.int .u32 0,.int .u32 0,.int .u32 0,.int .u32 0,.int .u32 0,.int .u32 0,.int .u32 0,.int .u32 0,.int .u32 0,.int .u32 0,.int .u32 0,.int .u32 0,.int .u32 0,.int .u32 0,.int .u32 0,.int .u32 0,.int .u32 0,.int .u32 0,.int .u32 0]:=by
  simp [mgL,lim_zero,List.range,List.range.loop]
theorem z86 (w : World) : (zeroValue 86).run Tryz.prog w = .ok (.agg (mgL 0).toArray) w:=by rw [zero_mg];exact Tryz.zeroValue86 w
theorem z88 (w : World) : (zeroValue 88).run Tryz.prog w = .ok (.agg (sgL 0 false).toArray) w:=by unfold sgL;rw [zero_mg];exact Tryz.zeroValue88 w
theorem z115 (w : World) : (zeroValue 115).run Tryz.prog w = .ok (.agg (frL 0 false 0 false).toArray) w:=by unfold frL sgL;rw [zero_mg];exact Tryz.zeroValue115 w

section
variable {ops : Array Oper} {rest : List Oper} {op : Oper} {a : Act} {w : World} {Q : Exit->Act->World->Prop}
theorem ld84 (b o : Nat) (n : Nat) (ho : op.guard = none/\∃ x,op.op = .load 84 x/\a.eval x = .pointer (some ⟨b,o,none⟩)) (hc : w.rangeAt b o (mgL n))
    (h : wpList Tryz.prog ops Q rest (a.put op.dst (.agg (mgL n).toArray)) w) : wpList Tryz.prog ops Q (op :: rest) a w :=
  let ⟨hg,x,h1,h2⟩:=ho;wpList_load_mid hg 84 x h1 b o h2 (mgL n) _ hc Tryz.underlying84 rfl (by rw [mgL_len];exact i84) h
theorem ld86 (b o : Nat) (n : Nat) (ho : op.guard = none/\∃ x,op.op = .load 86 x/\a.eval x = .pointer (some ⟨b,o,none⟩)) (hc : w.rangeAt b o (mgL n))
    (h : wpList Tryz.prog ops Q rest (a.put op.dst (.agg (mgL n).toArray)) w) : wpList Tryz.prog ops Q (op :: rest) a w :=
  let ⟨hg,x,h1,h2⟩:=ho;wpList_load_mid hg 86 x h1 b o h2 (mgL n) _ hc Tryz.underlying86 rfl (by rw [mgL_len];exact i86) h
theorem ld88 (b o : Nat) (n : Nat) (s : Bool) (ho : op.guard = none/\∃ x,op.op = .load 88 x/\a.eval x = .pointer (some ⟨b,o,none⟩)) (hc : w.rangeAt b o (sgL n s))
    (h : wpList Tryz.prog ops Q rest (a.put op.dst (.agg (sgL n s).toArray)) w) : wpList Tryz.prog ops Q (op :: rest) a w :=
  let ⟨hg,x,h1,h2⟩:=ho;wpList_load_mid hg 88 x h1 b o h2 (sgL n s) _ hc Tryz.underlying88 rfl (by rw [sgL_len];exact i88) h
theorem ld115 (b o : Nat) (p : Nat) (s : Bool) (q : Nat) (t : Bool) (ho : op.guard = none/\∃ x,op.op = .load 115 x/\a.eval x = .pointer (some ⟨b,o,none⟩)) (hc : w.rangeAt b o (frL p s q t))
    (h : wpList Tryz.prog ops Q rest (a.put op.dst (.agg (frL p s q t).toArray)) w) : wpList Tryz.prog ops Q (op :: rest) a w :=
  let ⟨hg,x,h1,h2⟩:=ho;wpList_load_mid hg 115 x h1 b o h2 (frL p s q t) _ hc Tryz.underlying115 rfl (by rw [frL_len];exact i115) h
theorem st86 (b o : Nat) (n : Nat) (ho : op.guard = none/\∃ x y,op.op = .store 86 x y/\a.eval x = .pointer (some ⟨b,o,none⟩)/\a.eval y = .agg (mgL n).toArray)
    (ht : w.there b o 30) (h : wpList Tryz.prog ops Q rest (a.put op.dst undef) (w.setCells b o (mgL n))) : wpList Tryz.prog ops Q (op :: rest) a w :=
  let ⟨hg,x,y,h1,h2,h3⟩:=ho;wpList_store_mid hg 86 x y h1 b o _ h2 h3 (by rw [mgL_size];exact ht) (by rw [mgL_size];exact i86) (mgA_one n) h
theorem st88 (b o : Nat) (n : Nat) (s : Bool) (ho : op.guard = none/\∃ x y,op.op = .store 88 x y/\a.eval x = .pointer (some ⟨b,o,none⟩)/\a.eval y = .agg (sgL n s).toArray)
    (ht : w.there b o 31) (h : wpList Tryz.prog ops Q rest (a.put op.dst undef) (w.setCells b o (sgL n s))) : wpList Tryz.prog ops Q (op :: rest) a w :=
  let ⟨hg,x,y,h1,h2,h3⟩:=ho;wpList_store_mid hg 88 x y h1 b o _ h2 h3 (by rw [sgL_size];exact ht) (by rw [sgL_size];exact i88) (sgA_one n s) h
theorem st115 (b o : Nat) (p : Nat) (s : Bool) (q : Nat) (t : Bool) (ho : op.guard = none/\∃ x y,op.op = .store 115 x y/\a.eval x = .pointer (some ⟨b,o,none⟩)/\a.eval y = .agg (frL p s q t).toArray)
    (ht : w.there b o 62) (h : wpList Tryz.prog ops Q rest (a.put op.dst undef) (w.setCells b o (frL p s q t))) : wpList Tryz.prog ops Q (op :: rest) a w :=
  let ⟨hg,x,y,h1,h2,h3⟩:=ho;wpList_store_mid hg 115 x y h1 b o _ h2 h3 (by rw [frL_size];exact ht) (by rw [frL_size];exact i115) (frA_one p s q t) h
theorem al_z (t : TypeId) (z : Array Value) (ho : op.guard = none/\op.op = .alloc t) (hz : ∀ w,(zeroValue t).run Tryz.prog w = .ok (.agg z) w)
    (h : wpList Tryz.prog ops Q rest (a.put op.dst (.pointer (some ⟨w.heap.size,0,none⟩))) (w.alloc (.cells z t))) : wpList Tryz.prog ops Q (op :: rest) a w :=
  wpList_plain ho.1 fun K hK=>by
    unfold Oper.wp execOp
    simp only [ho.2]
    go_simp
    exact hK _ _ h
end

theorem ret_cell {fn : Func} {R : Ending->World->Prop} {a : Act} {w : World} {tm : Nat} {ty : TypeId} {d : TypeDesc} (hres : fn.results = #[.cell tm ty]) (b o : Nat) (ht : a.tmps.getD tm undef = .pointer (some ⟨b,o,none⟩)) (cs : List Value)
    (hu : Tryz.prog.underlying ty = some d) (hd : d.isRow = true) (hi : (Tryz.prog.info? ty).map (·.size) = some cs.length) (hc : w.rangeAt b o cs) (hdf : a.defers = []) (hR : R (.returned (.agg cs.toArray)) w) : bodyPost Tryz.prog fn R .ret a w:=by
  refine bodyPost_ret (v:=.agg cs.toArray) ?_ hdf hR
  have h1 : ∀ tmps : Array Value,tmps.getD tm undef = .pointer (some ⟨b,o,none⟩)->(results fn tmps).run Tryz.prog w = .ok (.agg cs.toArray) w:=by
    intro tmps ht
    have ht' : tmps[tm]?.getD undef = .pointer (some ⟨b,o,none⟩):=by simpa using ht
    unfold results
    rw [hres]
    simp [asAddr,ht',run_loadVar_mid w b o ty cs d hc hu hd hi]
  exact h1 _ ht
theorem ret86 {fn : Func} {R : Ending->World->Prop} {a : Act} {w : World} {tm : Nat} (hres : fn.results = #[.cell tm 86]) (b o : Nat) (ht : a.tmps.getD tm undef = .pointer (some ⟨b,o,none⟩)) (n : Nat) (hc : w.rangeAt b o (mgL n)) (hdf : a.defers = []) (hR : R (.returned (.agg (mgL n).toArray)) w) : bodyPost Tryz.prog fn R .ret a w :=
  ret_cell hres b o ht _ Tryz.underlying86 rfl (by rw [mgL_len];exact i86) hc hdf hR
theorem ret88 {fn : Func} {R : Ending->World->Prop} {a : Act} {w : World} {tm : Nat} (hres : fn.results = #[.cell tm 88]) (b o : Nat) (ht : a.tmps.getD tm undef = .pointer (some ⟨b,o,none⟩)) (n : Nat) (s : Bool) (hc : w.rangeAt b o (sgL n s)) (hdf : a.defers = []) (hR : R (.returned (.agg (sgL n s).toArray)) w) : bodyPost Tryz.prog fn R .ret a w :=
  ret_cell hres b o ht _ Tryz.underlying88 rfl (by rw [sgL_len];exact i88) hc hdf hR
theorem ret115 {fn : Func} {R : Ending->World->Prop} {a : Act} {w : World} {tm : Nat} (hres : fn.results = #[.cell tm 115]) (b o : Nat) (ht : a.tmps.getD tm undef = .pointer (some ⟨b,o,none⟩)) (p : Nat) (s : Bool) (q : Nat) (t : Bool) (hc : w.rangeAt b o (frL p s q t)) (hdf : a.defers = []) (hR : R (.returned (.agg (frL p s q t).toArray)) w) : bodyPost Tryz.prog fn R .ret a w :=
  ret_cell hres b o ht _ Tryz.underlying115 rfl (by rw [frL_len];exact i115) hc hdf hR

/-! ranges -/
theorem range_new (w : World) (cs : List Value) (t : TypeId) : (w.alloc (.cells cs.toArray t)).rangeAt w.heap.size 0 cs:=by
  have:=World.rangeAt_of_block (w:=w.alloc (.cells cs.toArray t)) (heap_alloc_last w _) 0 cs.length
  simpa using this
theorem there_new (w : World) (cs : List Value) (t : TypeId) (n : Nat) (h : n = cs.length) : (w.alloc (.cells cs.toArray t)).there w.heap.size 0 n:=fun j hj=>by
  subst h
  have:=range_new w cs t j _ (List.getElem?_eq_getElem hj)
  refine ⟨by rw [this];rfl,?_⟩
  simp
theorem range_at {w : World} {b : Nat} (hb : b = w.heap.size) (cs : List Value) (t : TypeId) : (w.alloc (.cells cs.toArray t)).rangeAt b 0 cs:=by subst hb;exact range_new w cs t
theorem there_at {w : World} {b : Nat} (hb : b = w.heap.size) (cs : List Value) (t : TypeId) {n : Nat} (h : n = cs.length) : (w.alloc (.cells cs.toArray t)).there b 0 n:=by subst hb;exact there_new w cs t n h
theorem range_set {w : World} {b o : Nat} {cs : List Value} {n : Nat} (ht : w.there b o n) (h : n = cs.length) : (w.setCells b o cs).rangeAt b o cs:=World.rangeAt_setCells_same w b o cs (by subst h;exact ht)
theorem range_below {B : Nat} {w w' : World} {b o : Nat} {cs : List Value} (h : w.rangeAt b o cs) (hb : Below B w w') (hlt : b < B) : w'.rangeAt b o cs:=fun j v hv=>by
  rw [hb.cell (p:=⟨b,o + j,none⟩) hlt];exact h j v hv
theorem range_left {w : World} {b o : Nat} {cs ds : List Value} (h : w.rangeAt b o (cs ++ ds)) : w.rangeAt b o cs:=fun j v hv =>
  h j v (by rw [List.getElem?_append_left (List.getElem?_eq_some_iff.1 hv).1];exact hv)
theorem range_right {w : World} {b o : Nat} {cs ds : List Value} (h : w.rangeAt b o (cs ++ ds)) (n : Nat) (hn : n = o + cs.length) : w.rangeAt b n ds:=fun j v hv=>by
  have:=h (cs.length + j) v (by rw [List.getElem?_append_right (by omega)];simpa using hv)
  rwa [show o + (cs.length + j) = n + j by omega] at this
theorem range_sg {w : World} {b o n : Nat} {s : Bool} (h : w.rangeAt b o (sgL n s)) : w.rangeAt b o (mgL n)/\w.cell? ⟨b,o + 30,none⟩ = some (.bool s) :=
  ⟨by unfold sgL at h;exact range_left h,h 30 _ sgL_get⟩
theorem range_fr {w : World} {b o p q : Nat} {s t : Bool} (h : w.rangeAt b o (frL p s q t)) : w.rangeAt b o (sgL p s)/\w.rangeAt b (o + 31) (sgL q t) :=
  by unfold frL at h;exact ⟨range_left h,range_right h _ (by rw [sgL_len])⟩
theorem below_set {B b : Nat} {a w : World} (h : Below B a w) (hb : B <= b) (o : Nat) (cs : List Value) : Below B a (w.setCells b o cs):=h.trans (Lib.below_setCells_w hb cs o w)
end Go.Proofs.YtpbegoflpfdajaaGreatDoor

namespace Go.Proofs.YtpbegoflpfdajaaGreatDoor
open Go.RowKit

theorem ret_int {k : IntKind} {a b : Int} (h : a = b) : Ending.returned (.int k a) = .returned (.int k b):=by rw [h]
theorem lsz_down' {n j : Nat} (h : lsz n <= j + 1) (hz : lim n j = 0) : lsz n <= j :=
  (lsz_le_iff _ _).2 (lsz_down ((lsz_le_iff _ _).1 h) hz)

set_option maxHeartbeats 400000 in
theorem size_any (n : Nat) (hn : n < bb ^ 30) (w : World) :
    Calls Tryz.prog 159 #[.agg (mgL n).toArray] w fun e w'=>e = .returned (.int .i64 (lsz n))/\Below w.heap.size w w':=by
  have Hl:=Lib.hid ((lsz_le_iff 30 n).2 hn)
  have Hg:=Lib.hid (fun i (h : i < 30)=>mgA_get (n:=n) h)
  generalize (mgL n).toArray = m at Hg ⊢
  go_enter Tryz.func159,Tryz.ntmps159
  go_wp2
  go_loop [3] (fun i=>∃ j : Nat,lsz n <= j/\j <= 30/\i = .int .i64 j) (fun i=>(intOf i).toNat)
  case atStart=>exact ⟨30,Hl.out,by omega,rfl⟩
  case round =>
    obtain ⟨j,hj1,hj2,rfl⟩:=hrel
    by_cases hj : 0 < j
    · obtain ⟨i,rfl⟩ : ∃ i,j = i + 1:=⟨j - 1,by omega⟩
      have hcell:=Hg.out i (by omega)
      by_cases hz : lim n i = 0
      · go_wp2
        go_round
        case rel=>exact ⟨i,lsz_down' hj1 hz,by omega,rfl⟩
        case measure=>simp [intOf]
      · have hz' : ((lim n i : Int) == 0) = false:=by simp;omega
        have hst:=lsz_stop hz
        go_wp2
        go_ret
        exact ⟨ret_int (by omega),(Below.refl _ _).alloc (Nat.le_refl _) _⟩
    · go_wp2
      go_ret
      exact ⟨ret_int (by omega),(Below.refl _ _).alloc (Nat.le_refl _) _⟩

theorem mg_set (n : Nat) (hn : n < bb) : (mgL 0).set 0 (.int .u32 n) = mgL n:=by
  apply List.ext_getElem?
  intro i
  rw [List.getElem?_set]
  by_cases h : 0 = i
  · subst h;rw [if_pos rfl,if_pos (by rw [mgL_len];omega),mgL_get (by omega),lim_small hn]
  · rw [if_neg h]
    by_cases hi : i < 30
    · obtain ⟨k,rfl⟩ : ∃ k,i = k + 1:=⟨i - 1,by omega⟩
      rw [mgL_get hi,mgL_get hi,lim_zero,lim_small_succ hn]
    · rw [List.getElem?_eq_none (by rw [mgL_len];omega),List.getElem?_eq_none (by rw [mgL_len];omega)]

set_option maxHeartbeats 400000 in
theorem small_any (n : Nat) (hn : n < bb) (w : World) :
    Calls Tryz.prog 94 #[.int .u32 n] w fun e w'=>e = .returned (.agg (mgL n).toArray)/\Below w.heap.size w w':=by
  have HL:=mg_set n hn
  have hg:=mgL_get (n:=0) (i:=0) (by omega)
  have ht : ((w.alloc (.cells (mgL 0).toArray 86)).alloc (.cells (mgL n).toArray 86)).there w.heap.size 0 30:=World.there_alloc (there_at rfl _ _ (by rw [mgL_len])) _
  have Ht:=Lib.hid ht;clear ht
  go_enter Tryz.func94,Tryz.ntmps94
  go_wp2_with (first
    | ((with_reducible refine al_z 86 _ ?_ z86 ?_);· exact ⟨rfl,rfl⟩)
    | ((with_reducible refine ld86 (w.heap.size + 1) 0 n ?_ ?_ ?_);(· exact ⟨rfl,_,rfl,rfl⟩);· exact range_at (by simp) _ _)
    | ((with_reducible refine st86 w.heap.size 0 n ?_ ?_ ?_);(· exact ⟨rfl,_,_,rfl,rfl,rfl⟩);· exact Ht.out))
  refine ret86 Tryz.results94 w.heap.size 0 rfl n (range_set Ht.out (by rw [mgL_len])) rfl ⟨rfl,?_⟩
  exact below_set (((Below.refl _ _).alloc (Nat.le_refl _) _).alloc (by simp) _) (Nat.le_refl _) _ _
end Go.Proofs.YtpbegoflpfdajaaGreatDoor

namespace Go.Proofs.YtpbegoflpfdajaaGreatDoor
open Go.RowKit
theorem part82 (n i : Nat) (h : i < 30) (w : World) : (part 82 (mgL n).toArray (i * 1)).run Tryz.prog w = .ok (.int .u32 (lim n i)) w:=by
  have h2:=mgL_get (n:=n) h
  unfold part
  rw [Sem.run_bind,Tryz.isAgg82]
  simp [h2,Result.andThen]
theorem loopEq (body : Nat->Option Bool × Unit->Sem (ForInStep (Option Bool × Unit))) (g : Nat->Bool) (m : Nat) (hb : ∀ i,i < m->∀ s w,(body i s).run Tryz.prog w = .ok (if g i then .yield (none,()) else .done (some false,())) w) :
    ∀ n s w,s + n <= m->(forIn (List.range' s n) ((none : Option Bool),()) body).run Tryz.prog w = .ok (if (List.range' s n).all g then (none,()) else (some false,())) w
  | 0,s,w,_=>by simp
  | n + 1,s,w,h=>by
    rw [List.range'_succ,List.forIn_cons,Sem.run_bind,hb s (by omega),List.all_cons]
    have:=loopEq body g m hb n (s + 1) w (by omega)
    cases hg : g s with
    | true =>
      rw [Bool.true_and]
      simpa [Result.andThen] using this
    | false=>simp [Result.andThen]
theorem lims_all (x y : Nat) (hx : x < bb ^ 30) (hy : y < bb ^ 30) : (List.range' 0 30).all (fun i=>(lim x i : Int) == (lim y i : Int)) = decide (x = y):=by
  rw [Bool.eq_iff_iff]
  simp only [List.all_eq_true,List.mem_range'_1,decide_eq_true_eq]
  constructor
  · intro h;exact eq_of_lims hx hy fun i hi=>by have:=h i ⟨by omega,by omega⟩;simp at this;omega
  · intro h;subst h;intro i _;simp
theorem eq84 (d : Nat) (x y : Nat) (hx : x < bb ^ 30) (hy : y < bb ^ 30) (w : World) : (Op.equalIn (d + 2) 84 (.agg (mgL x).toArray) (.agg (mgL y).toArray)).run Tryz.prog w = .ok (decide (x = y)) w:=by
  have z82 : ∀ w,(Go.sizeOf 82).run Tryz.prog w = .ok 1 w:=Tryz.sizeOf82
  have e82 : ∀ (a b : Int) w,(Op.equalIn (d + 1) 82 (.int .u32 a) (.int .u32 b)).run Tryz.prog w = .ok (a == b) w:=fun a b w=>run_equalIn_int w d 82 _ _ a b Tryz.underlying82
  rw [show d + 2 = (d + 1) + 1 from rfl]
  generalize d + 1 = e at *
  simp only [Op.equalIn,Sem.run_bind,run_underlying Tryz.underlying84,Result.andThen_ok,z82]
  simp only [Std.Legacy.Range.forIn_eq_forIn_range',Std.Legacy.Range.size]
  rw [show (30 - 0 + 1 - 1) / 1 = 30 from rfl,loopEq _ (fun i=>(lim x i : Int) == (lim y i : Int)) 30 ?_ 30 0 w (by omega)]
  · rw [lims_all x y hx hy]
    by_cases h : x = y
    · simp [h]
    · simp [h]
  · intro i hi s w
    rw [Sem.run_bind,part82 x i hi,Result.andThen_ok,Sem.run_bind,part82 y i hi,Result.andThen_ok,Sem.run_bind,e82,Result.andThen_ok]
    by_cases h : (lim x i : Int) = (lim y i : Int)
    · simp [h]
    · simp [h]
end Go.Proofs.YtpbegoflpfdajaaGreatDoor
