/- WHAT IS PROVED: contracts of functions of the numbers package and laws for them, used by the last text of this claim. CONDITIONS: stated at each theorem. -/
import Derived.Test.YtpbegoflpfdajaaGreatDoorM32
import Derived.Deep.LoopGhost
import Derived.Deep.CutRange
import Derived.BigQuiet
import Derived.Test.YtpbegoflpfdajaaGreatDoorM10
namespace Go.Proofs.YtpbegoflpfdajaaGreatDoor
section
open Go.RowKit
open Go.Lib (decDigits nDigits decDigits_length)
def sgn (n : Nat) (s : Bool) : Int:=if s then -(n : Int) else n
def vz (x : ByteArray) : Int:=sgn (intM x.data.toList) (intS x.data.toList)
def tz (z : Int) : ByteArray:=⟨(sgText z.natAbs (decide (z < 0))).toArray⟩
def Okz (x : ByteArray) : Prop:=ckL x.data.toList = 0
theorem valL_pos : ∀ (l : List UInt8) (c : UInt8) (t : List UInt8),l = c :: t->49 <= c.toNat->0 < valL l
  | l,c,t,e,h=>by
    subst e
    unfold valL
    rw [List.foldl_cons]
    generalize hv : 0 * 10 + (c.toNat - 48) = v
    have h0 : 0 < v:=by omega
    clear hv h
    induction t generalizing v with
    | nil=>exact h0
    | cons d t ih=>rw [List.foldl_cons];exact ih _ (by omega)
theorem dec_val_aux : ∀ (k : Nat) (l : List UInt8),l.length <= k->0 < l.length->(∀ c ∈ l,isDig c = true)->(l.head? = some 48->l = [48])->decDigits (valL l) = l
  | 0,l,h1,h2,_,_=>by omega
  | k + 1,l,h1,h2,hd,hh=>by
    obtain ⟨t,c,rfl⟩ : ∃ t c,l = t ++ [c]:=⟨l.dropLast,l.getLast (by intro e;rw [e] at h2;simp at h2),(List.dropLast_concat_getLast _).symm⟩
    have hc:=hd c (by simp)
    simp only [isDig,decide_eq_true_eq] at hc
    rw [valL_snoc]
    cases t with
    | nil =>
      rw [show valL [] = 0 from rfl,Nat.zero_mul,Nat.zero_add,Lib.decDigits_one (by omega)]
      rw [show 48 + (c.toNat - 48) = c.toNat by omega]
      simp
    | cons d t =>
      have hdd:=hd d (by simp)
      simp only [isDig,decide_eq_true_eq] at hdd
      have hne : d ≠ 48:=by
        intro e
        subst e
        have:=hh (by simp)
        simp at this
      have h49 : 49 <= d.toNat:=by
        have : d.toNat ≠ 48:=fun e=>hne (UInt8.toNat_inj.1 (by rw [e];rfl))
        omega
      have hp:=valL_pos (d :: t) d t rfl h49
      have hi:=dec_val_aux k (d :: t) (by simp at h1 ⊢;omega) (by simp) (fun x hx=>hd x (by simp at hx ⊢;rcases hx with h | h <;> simp [h])) (fun e=>absurd (by simpa using e) hne)
      rw [dec_step _ (by omega),show (valL (d :: t) * 10 + (c.toNat - 48)) / 10 = valL (d :: t) by omega,show (valL (d :: t) * 10 + (c.toNat - 48)) % 10 = c.toNat - 48 by omega,hi,show 48 + (c.toNat - 48) = c.toNat by omega]
      simp
theorem dec_val (l : List UInt8) (h2 : 0 < l.length) (hd : ∀ c ∈ l,isDig c = true) (hh : l.head? = some 48->l = [48]) : decDigits (valL l) = l :=
  dec_val_aux l.length l (Nat.le_refl _) h2 hd hh
theorem okz_parts {l : List UInt8} (h : ckL l = 0) : 0 < (noMinus l).length/\(∀ c ∈ noMinus l,isDig c = true)/\((noMinus l).head? = some 48->l = [48])/\(noMinus l).length <= 120:=by
  obtain ⟨h1,h2,h3⟩:=ck_dig l h
  refine ⟨h2,fun c hc=>?_,fun hh=>?_,h3⟩
  · obtain ⟨i,hi,rfl⟩:=List.getElem_of_mem hc
    simp only [isDig,decide_eq_true_eq]
    exact h1.2 i hi
  · unfold ckL at h
    split at h
    · omega
    · split at h
      · omega
      · rename_i hn
        exact Classical.byContradiction fun hl=>hn ⟨hh,hl⟩
theorem tz_vz {x : ByteArray} (h : Okz x) : tz (vz x) = x:=by
  obtain ⟨h1,h2,h3,_⟩:=okz_parts h
  apply ByteArray.ext
  apply Array.toList_inj.1
  show (sgText (vz x).natAbs (decide (vz x < 0))) = x.data.toList
  unfold vz
  generalize x.data.toList = l at *
  rcases noMinus_cases l with ⟨t,ht,hn⟩ | ⟨hh,hn⟩
  · rw [hn] at h1 h2 h3
    have hz : intM l ≠ 0:=by
      unfold intM
      rw [hn]
      cases t with
      | nil=>simp at h1
      | cons d t =>
        have hdd:=h2 d (by simp)
        simp only [isDig,decide_eq_true_eq] at hdd
        have hne : d ≠ 48:=by
          intro e
          have:=h3 (by rw [e];rfl)
          rw [ht] at this
          simp at this
        have h49 : 49 <= d.toNat:=by
          have : d.toNat ≠ 48:=fun e=>hne (UInt8.toNat_inj.1 (by rw [e];rfl))
          omega
        have:=valL_pos (d :: t) d t rfl h49
        omega
    have hs : intS l = true:=by unfold intS;rw [ht] at hz ⊢;simp [hz]
    have hd:=dec_val t h1 h2 (fun e=>by have:=h3 e;rw [ht] at this;simp at this)
    have hm : intM l = valL t:=by unfold intM;rw [hn]
    rw [hs,hm]
    unfold sgn
    rw [if_pos rfl,decide_eq_true (by omega)]
    unfold sgText
    rw [if_pos rfl,show (-(valL t : Int)).natAbs = valL t by omega,hd,ht]
  · rw [hn] at h1 h2 h3
    have hs : intS l = false:=by unfold intS;rw [show (l.head? == some 45) = false by simpa using hh];rfl
    have hd:=dec_val l h1 h2 h3
    have hm : intM l = valL l:=by unfold intM;rw [hn]
    rw [hs,hm]
    unfold sgn
    rw [if_neg (by decide),decide_eq_false (by omega)]
    unfold sgText
    rw [if_neg (by decide),show ((valL l : Nat) : Int).natAbs = valL l by omega,hd]
theorem nD_fit {n : Nat} (h : n < 10 ^ 120) : nDigits n <= 120:=nD_le 119 n h
theorem noMinus_neg (l : List UInt8) : noMinus (45 :: l) = l:=by
  rcases noMinus_cases (45 :: l) with ⟨t,ht,hn⟩ | ⟨hh,_⟩
  · rw [hn];exact (List.cons.inj ht).2.symm
  · exact absurd rfl hh
theorem tz_list (z : Int) : (tz z).data.toList = sgText z.natAbs (decide (z < 0)):=rfl
theorem tz_neg {z : Int} (h : z < 0) : (tz z).data.toList = 45 :: decDigits z.natAbs:=by rw [tz_list,decide_eq_true h];rfl
theorem tz_pos {z : Int} (h : 0 <= z) : (tz z).data.toList = decDigits z.natAbs:=by rw [tz_list,decide_eq_false (by omega)];rfl
theorem ckL_neg (n : Nat) (h0 : n ≠ 0) (h : nDigits n <= 120) : ckL (45 :: decDigits n) = 0:=by
  have hd:=decDigits_dig n
  unfold ckL
  rw [noMinus_neg,if_neg,if_neg,if_neg]
  · rw [decDigits_length];omega
  · rintro ⟨h1,_⟩
    rcases dec_head n n (Nat.le_refl _) with h3 | h3
    · exact h3 h1
    · exact h0 h3
  · have : areDig (decDigits n) = true:=by
      unfold areDig
      rw [List.all_eq_true.2 hd,Bool.true_and]
      cases hl : decDigits n with
      | nil=>have:=decDigits_length n;rw [hl] at this;have:=nD_pos n;simp at *;omega
      | cons c l=>rfl
    rw [this];decide
theorem okz_tz {z : Int} (h : z.natAbs < 10 ^ 120) : Okz (tz z):=by
  unfold Okz
  by_cases hz : z < 0
  · rw [tz_neg hz];exact ckL_neg _ (by omega) (nD_fit h)
  · rw [tz_pos (by omega)];exact ckL_dec _ (nD_fit h)
theorem vz_abs (x : ByteArray) : (vz x).natAbs = intM x.data.toList:=by unfold vz sgn;split <;> omega
theorem vz_sign (x : ByteArray) : decide (vz x < 0) = intS x.data.toList:=by
  unfold vz sgn
  cases h : intS x.data.toList
  · simp;
  · have:=intS_pos h
    simp;omega
end
section
open Go.RowKit
open Go.Lib (decDigits nDigits decDigits_length)
def resZ (z : Int) : Value:=.tuple #[.string (tz z),.int .i64 0]
theorem resT_sgn {n : Nat} {s : Bool} (h : n < 10 ^ 120) (hs : s = true->n ≠ 0) : resT n s = resZ (sgn n s):=by
  refine resT_val n s _ h ?_
  unfold tz sgn
  cases s
  · rw [show (if false = true then -(n : Int) else (n : Int)) = n by simp,show ((n : Nat) : Int).natAbs = n by omega,decide_eq_false (by omega)]
  · have:=hs rfl
    rw [show (if true = true then -(n : Int) else (n : Int)) = -(n : Int) by simp,show (-((n : Nat) : Int)).natAbs = n by omega,decide_eq_true (by omega)]
theorem and_nz {s : Bool} {n : Nat} (h : (s && !decide (n = 0)) = true) : n ≠ 0:=by
  intro e;subst e;cases s <;> simp at h
theorem sgn_f (n : Nat) : sgn n false = n:=rfl
theorem sgn_t (n : Nat) : sgn n true = -(n : Int):=rfl
theorem sgn_nz (n : Nat) (s : Bool) : sgn n (s && !decide (n = 0)) = sgn n s:=by
  by_cases h : n = 0
  · subst h;cases s <;> rfl
  · rw [decide_eq_false h];simp
theorem sgn_abs (n : Nat) (s : Bool) : (sgn n s).natAbs = n:=by cases s <;> simp [sgn]
end
section
open Go.RowKit
open Go.Lib (decDigits nDigits decDigits_length)
theorem div_sgn (n m : Nat) (s t : Bool) (hm : 0 < m) : sgn n s = sgn m t * sgn (sdQ n s m) (sdS n s m t) + sdR n s m/\sdR n s m < m:=by
  have h1 : (m : Int) * (n / m : Nat) + (n % m : Nat) = n:=by rw [<- Int.natCast_mul,<- Int.natCast_add,Nat.div_add_mod]
  have h2:=Nat.mod_lt n hm
  unfold sdS
  rw [sgn_nz]
  unfold sdQ sdR
  generalize hq : n / m = q at *
  generalize hr : n % m = r at *
  have h3 : (m : Int) * ((q + 1 : Nat) : Int) = (m : Int) * q + m:=by rw [Int.natCast_add,Int.mul_add];simp
  cases s
  · rw [if_neg (by simp),if_neg (by simp)]
    refine ⟨?_,h2⟩
    cases t
    · show (n : Int) = (m : Int) * q + r;omega
    · show (n : Int) = -(m : Int) * -(q : Int) + r;rw [Int.neg_mul_neg];omega
  · by_cases h0 : r = 0
    · rw [if_neg (by simp [h0]),if_neg (by simp [h0])]
      refine ⟨?_,h2⟩
      cases t
      · show -(n : Int) = (m : Int) * -(q : Int) + r;rw [Int.mul_neg];omega
      · show -(n : Int) = -(m : Int) * (q : Int) + r;rw [Int.neg_mul];omega
    · rw [if_pos ⟨rfl,h0⟩,if_pos ⟨rfl,h0⟩]
      refine ⟨?_,by omega⟩
      cases t
      · show -(n : Int) = (m : Int) * -((q + 1 : Nat) : Int) + ((m - r : Nat) : Int);rw [Int.mul_neg,h3];omega
      · show -(n : Int) = -(m : Int) * ((q + 1 : Nat) : Int) + ((m - r : Nat) : Int);rw [Int.neg_mul,h3];omega
end
section
open Go.RowKit
open Go.Lib (decDigits nDigits decDigits_length)
theorem occ_slash (A B : List UInt8) : Lib.occAt (A ++ 47 :: B) [47] A.length = true:=by
  unfold Lib.occAt;rw [List.drop_left];rfl
theorem occ_not (l : List UInt8) (j : Nat) (h : ∀ c,l[j]? = some c->c ≠ 47) : Lib.occAt l [47] j = false:=by
  unfold Lib.occAt
  cases hd : l.drop j with
  | nil=>rfl
  | cons c t =>
    have : l[j]? = some c:=by
      have:=List.getElem?_drop (xs:=l) (i:=j) (j:=0)
      rw [hd] at this;simpa using this.symm
    have hc:=h c this
    show (([47] : List UInt8).isPrefixOf (c :: t)) = false
    simp [List.isPrefixOf]
    exact fun e=>hc e.symm
theorem cut_at (A B : List UInt8) (h : ∀ c ∈ A,c ≠ 47) : Lib.cut (A ++ 47 :: B) [47] = (A,B,true):=by
  have hi : Lib.index (A ++ 47 :: B) [47] = A.length:=Lib.index_first (by simp) (occ_slash A B) (fun j hj=>occ_not _ j (fun c hc=>by
    rw [List.getElem?_append_left hj] at hc
    exact h c (List.mem_of_getElem? hc)))
  unfold Lib.cut
  rw [hi,if_pos (by omega)]
  simp
theorem cut_found {l : List UInt8} (h : (Lib.cut l [47]).2.2 = true) : l = upT l ++ 47 :: loT l:=by
  unfold upT loT
  rcases Lib.index_spec l [47] with ⟨h1,_⟩ | ⟨i,h1,h2,h3,_⟩
  · unfold Lib.cut at h;rw [if_neg (by omega)] at h;cases h
  · unfold Lib.cut
    rw [if_pos (by omega),h1]
    unfold Lib.occAt at h3
    cases hd : l.drop i with
    | nil=>rw [hd] at h3;cases h3
    | cons c t =>
      rw [hd] at h3
      have hc : c = 47:=by
        simp [List.isPrefixOf] at h3
        exact h3.symm
      have ht : l.drop (i + 1) = t:=by rw [<- List.drop_drop,hd];rfl
      show l = l.take (Int.toNat i) ++ 47 :: l.drop (Int.toNat i + 1)
      rw [Int.toNat_natCast,ht,<- hc,<- hd,List.take_append_drop]
theorem no_slash {l : List UInt8} (h : ∀ c ∈ l,c ≠ 47) : Lib.contains l [47] = false:=by
  unfold Lib.contains
  rw [Lib.index_none (fun j _=>occ_not _ j (fun c hc=>h c (List.mem_of_getElem? hc)))]
  decide
theorem ok_text {l : List UInt8} (h : ckL l = 0) : sgText (intM l) (intS l) = l:=by
  have h2:=tz_vz (x:=⟨l.toArray⟩) h
  have h3:=congrArg (fun x : ByteArray=>x.data.toList) h2
  rw [show (tz (vz ⟨l.toArray⟩)).data.toList = sgText (vz ⟨l.toArray⟩).natAbs (decide (vz ⟨l.toArray⟩ < 0)) from rfl,vz_abs,vz_sign] at h3
  exact h3
def Okq (x : ByteArray) : Prop:=ckR x.data.toList = 0
end
section
open Go.RowKit
def splB (l : List UInt8) : Bool:=(Lib.cut l [47]).2.2 && !Lib.contains (loT l) [47]
def noS (l : List UInt8) (i : Nat) : Prop:=∀ j,j < i->l[j]? ≠ some 47
def oneS (l : List UInt8) (a i : Nat) : Prop:=a < i/\l[a]? = some 47/\∀ j,j < i->j ≠ a->l[j]? ≠ some 47
theorem not_mem_noS {l : List UInt8} (h : noS l l.length) : ∀ c ∈ l,c ≠ 47:=by
  intro c hc e
  subst e
  obtain ⟨j,hj,he⟩:=List.getElem_of_mem hc
  exact h j hj (by rw [List.getElem?_eq_getElem hj,he])
theorem has_slash {B : List UInt8} {j : Nat} (h : B[j]? = some 47) : Lib.contains B [47] = true:=by
  have hm : (47 : UInt8) ∈ B:=List.mem_of_getElem? h
  obtain ⟨X,Y,hB,hX⟩:=List.eq_append_cons_of_mem hm
  rw [hB]
  have hi : Lib.index (X ++ 47 :: Y) [47] = X.length:=Lib.index_first (by simp) (occ_slash X Y) (fun j hj=>occ_not _ j (fun c hc=>by
    rw [List.getElem?_append_left hj] at hc
    intro e
    subst e
    exact hX (List.mem_of_getElem? hc)))
  unfold Lib.contains
  rw [hi]
  simp
theorem cut_none {l : List UInt8} (h : noS l l.length) : splB l = false:=by
  have hi : Lib.index l [47] = -1:=Lib.index_none (fun j _=>occ_not _ j (fun c hc=>not_mem_noS h c (List.mem_of_getElem? hc)))
  unfold splB Lib.cut
  rw [hi,if_neg (by omega)]
  rfl
theorem split_at {l : List UInt8} {a : Nat} (h : l[a]? = some 47) (hb : ∀ j,j < a->l[j]? ≠ some 47) : Lib.cut l [47] = (l.take a,l.drop (a + 1),true):=by
  have hl : a < l.length:=by
    rcases Nat.lt_or_ge a l.length with g | g
    · exact g
    · rw [List.getElem?_eq_none g] at h;cases h
  have e : l = l.take a ++ 47 :: l.drop (a + 1):=by
    have h2 : l[a] = 47:=by rw [List.getElem?_eq_getElem hl] at h;injection h
    rw [<- h2,List.getElem_cons_drop,List.take_append_drop]
  have:=cut_at (l.take a) (l.drop (a + 1)) (fun c hc e=>by
    subst e
    obtain ⟨j,hj,he⟩:=List.getElem_of_mem hc
    rw [List.length_take] at hj
    exact hb j (by omega) (by rw [List.getElem?_eq_getElem (by omega),<- he,List.getElem_take]))
  rw [<- e] at this
  exact this
theorem cut_one {l : List UInt8} {a : Nat} (h : oneS l a l.length) : splB l = true/\upT l = l.take a/\loT l = l.drop (a + 1):=by
  obtain ⟨h1,h2,h3⟩:=h
  have hc:=split_at h2 (fun j hj=>h3 j (by omega) (by omega))
  refine ⟨?_,by unfold upT;rw [hc],by unfold loT;rw [hc]⟩
  unfold splB loT
  rw [hc]
  show (true && !Lib.contains (l.drop (a + 1)) [47]) = true
  rw [no_slash (fun c hm e=>by
    subst e
    obtain ⟨j,hj,he⟩:=List.getElem_of_mem hm
    rw [List.length_drop] at hj
    rw [List.getElem_drop] at he
    exact h3 (a + 1 + j) (by omega) (by omega) (by rw [List.getElem?_eq_getElem (by omega),he]))]
  rfl
theorem cut_two {l : List UInt8} {a i : Nat} (h : oneS l a i) (h2 : l[i]? = some 47) : splB l = false:=by
  obtain ⟨h1,ha,h3⟩:=h
  have hc:=split_at ha (fun j hj=>h3 j (by omega) (by omega))
  unfold splB loT
  rw [hc]
  show (true && !Lib.contains (l.drop (a + 1)) [47]) = false
  rw [has_slash (B:=l.drop (a + 1)) (j:=i - (a + 1)) (by rw [List.getElem?_drop,show a + 1 + (i - (a + 1)) = i by omega];exact h2)]
  rfl
theorem str_take (s : ByteArray) (a : Nat) : s.extract 0 a = ⟨(s.data.toList.take a).toArray⟩:=by
  apply ByteArray.ext
  apply Array.toList_inj.1
  simp
theorem str_drop (s : ByteArray) (a : Nat) : s.extract a s.size = ⟨(s.data.toList.drop a).toArray⟩:=by
  apply ByteArray.ext
  apply Array.toList_inj.1
  simp
  exact List.take_of_length_le (by simp)
theorem get_some (s : ByteArray) (k : Nat) (h : k < s.size) (c : Nat) (hc : (s[k]'h).toNat = c) : (s.data.toList[k]? = some 47) ↔ c = 47:=by
  rw [List.getElem?_eq_getElem (by simpa using h)]
  have e : s.data.toList[k]'(by simpa using h) = s[k]'h:=by simp;rfl
  rw [e]
  constructor
  · intro g;injection g with g;rw [<- hc,g];rfl
  · intro g;rw [show s[k]'h = 47 from UInt8.toNat_inj.1 (by rw [hc,g];rfl)]
set_option maxHeartbeats 2000000 in
set_option maxRecDepth 100000 in
theorem refSplit_any (s : ByteArray) (n : Nat) (hn : s.size = n) (hmax : n <= 4000) (w : World) :
    Calls Tryz.prog 116 #[.string s] w fun e w'=>e = .returned (if splB s.data.toList = true then .tuple #[.string ⟨(upT s.data.toList).toArray⟩,.string ⟨(loT s.data.toList).toArray⟩,.bool true] else .tuple #[.string ⟨#[]⟩,.string ⟨#[]⟩,.bool false])/\Below w.heap.size w w':=by
  have hlen : s.data.toList.length = n:=by rw [<- hn];simp
  obtain ⟨l,hl⟩ : ∃ l,s.data.toList = l:=⟨_,rfl⟩
  have Hc:=Lib.hid (fun k (h : k < s.size) c hc=>get_some s k h c hc)
  have Hu:=Lib.hid (fun a=>str_take s a)
  have Hd:=Lib.hid (fun a=>str_drop s a)
  rw [hl] at hlen Hc Hu Hd
  rw [hl]
  obtain ⟨R,hR⟩ : ∃ v,(if splB l = true then Value.tuple #[.string ⟨(upT l).toArray⟩,.string ⟨(loT l).toArray⟩,.bool true] else .tuple #[.string ⟨#[]⟩,.string ⟨#[]⟩,.bool false]) = v:=⟨_,rfl⟩
  rw [hR]
  have HR:=Lib.hid hR
  have HL:=Lib.hid hlen
  clear hl hR hlen
  go_enter Tryz.func116,Tryz.ntmps116
  go_wp2
  go_loopg [5,6] n (fun g at_ i wr=>wr = w/\∃ k : Nat,k <= n/\g = n - k/\i = .int .i64 k/\((at_ = .int .i64 (-1)/\noS l k) ∨ ∃ a : Nat,at_ = .int .i64 a/\oneS l a k))
  case atStart=>exact ⟨rfl,0,by omega,rfl,rfl,Or.inl ⟨rfl,fun j hj=>by omega⟩⟩
  case round =>
    obtain ⟨rfl,k,hk,rfl,rfl,hat⟩:=hrel
    by_cases hp : k < n
    · have hp2 : k < s.size:=by omega
      obtain ⟨c,hc⟩ : ∃ c,(s[k]'hp2).toNat = c:=⟨_,rfl⟩
      have hlt : c < 256:=by rw [<- hc];exact UInt8.toNat_lt _
      have H47:=Lib.hid (Hc.out k hp2 c hc)
      have hki : (k : Int) < (n : Int):=by omega
      by_cases h47 : c = 47
      · have hs : l[k]? = some 47:=H47.out.2 h47
        have HS:=Lib.hid hs
        have b1 : ((c : Int) == 47) = true:=by simp;omega
        clear h47 hs
        rcases hat with ⟨rfl,hno⟩ | ⟨a,rfl,hone⟩
        · have HN:=Lib.hid hno;clear hno
          have b2 : decide ((0 : Int) <= -1) = false:=by decide
          go_wp2
          go_roundg (n - (k + 1))
          case measure=>omega
          case rel=>exact ⟨rfl,k + 1,by omega,rfl,by go_num,Or.inr ⟨k,rfl,by omega,HS.out,fun j hj hne=>HN.out j (by omega)⟩⟩
        · have HN:=Lib.hid hone;clear hone
          have b2 : decide ((0 : Int) <= (a : Int)) = true:=by simp
          go_wp2
          go_ret3
          exact ⟨by rw [<- HR.out,cut_two HN.out HS.out];rfl,Below.refl _ _⟩
      · have hs : ¬ l[k]? = some 47:=fun e=>h47 (H47.out.1 e)
        have HS:=Lib.hid hs
        have b1 : ((c : Int) == 47) = false:=by simp;omega
        have HA:=Lib.hid hat
        clear h47 hs hat
        go_wp2
        go_roundg (n - (k + 1))
        case measure=>omega
        case rel =>
          refine ⟨rfl,k + 1,by omega,rfl,by go_num,?_⟩
          rcases HA.out with ⟨e,h⟩ | ⟨a,e,h1,h2,h3⟩
          · exact Or.inl ⟨e,fun j hj=>by
              rcases Nat.lt_or_ge j k with g | g
              · exact h j g
              · obtain rfl : j = k:=by omega
                exact HS.out⟩
          · exact Or.inr ⟨a,e,by omega,h2,fun j hj hne=>by
              rcases Nat.lt_or_ge j k with g | g
              · exact h3 j g hne
              · obtain rfl : j = k:=by omega
                exact HS.out⟩
    · obtain rfl : k = n:=by omega
      have hki : ¬ (k : Int) < (k : Int):=by omega
      rcases hat with ⟨rfl,hno⟩ | ⟨a,rfl,hone⟩
      · have HN:=Lib.hid hno;clear hno
        have b2 : decide ((-1 : Int) < 0) = true:=by decide
        go_wp2
        go_ret3
        exact ⟨by rw [<- HR.out,cut_none (by rw [HL.out];exact HN.out)];rfl,Below.refl _ _⟩
      · have ha:=hone.1
        have HN:=Lib.hid hone;clear hone
        have b2 : decide ((a : Int) < 0) = false:=by simp
        have i1 : (a : Int) <= (k : Int):=by omega
        have i2 : (a : Int) + 1 <= (k : Int):=by omega
        have hv:=Lib.hid (cut_one (a:=a) (l:=l) (by rw [HL.out];exact HN.out))
        have Hu2:=Lib.hid (Hu.out a);have hd3:=Hd.out (a + 1);rw [hn] at hd3;have Hd2:=Lib.hid hd3;clear hd3
        clear Hu Hd Hc
        go_upto_region 11 with fail
        go_quiet (fail)
        go_wp2
        go_ret3
        exact ⟨by rw [<- HR.out,if_pos hv.out.1,hv.out.2.1,hv.out.2.2,Hu2.out,Hd2.out];rfl,below_drewN (Below.refl _ _)⟩
end
section
open Go.RowKit
open Go.Lib (decDigits nDigits decDigits_length)
def resI (z : Int) : Value:=if z.natAbs < 10 ^ 120 then resZ z else errT 4
theorem fitsV_big {n : Nat} (h : ¬ n < 10 ^ 120) : digN n > 120/\fitsV n = 4:=by
  have h1 : 120 < digN n:=by
    unfold digN
    rw [if_neg (by intro e;rw [e] at h;exact h (by decide))]
    rcases Nat.lt_or_ge 120 (nDigits n) with h2 | h2
    · exact h2
    · exact absurd (nD_lt 120 n h2) h
  exact ⟨h1,by unfold fitsV;rw [if_pos h1]⟩
theorem resT_int {n : Nat} {s : Bool} (hs : s = true->n ≠ 0) : resT n s = resI (sgn n s):=by
  unfold resI
  rw [sgn_abs]
  by_cases h : n < 10 ^ 120
  · rw [if_pos h];exact resT_sgn h hs
  · rw [if_neg h]
    obtain ⟨h1,h2⟩:=fitsV_big h
    unfold resT errT
    rw [if_neg (by omega),h2]
theorem resI_two (z : Int) : ∃ a b,resI z = .tuple #[a,b]:=by
  unfold resI;split
  · exact ⟨_,_,rfl⟩
  · exact ⟨_,_,rfl⟩
theorem ckL2_zero {x y : ByteArray} (h : ckL2 x y = 0) : Okz x/\Okz y:=firstE_two h
end
section
open Go.RowKit
open Go.Lib (decDigits nDigits decDigits_length)
end
section
open Go.RowKit
theorem refDigit_any (c : Nat) (w : World) : Calls Tryz.prog 121 #[.int .u8 c] w fun e w'=>e = .returned (.bool (decide (48 <= c/\c <= 57)))/\w' = w:=by
  by_cases h1 : 48 <= c
  · have d1 : decide ((48 : Int) <= (c : Int)) = true:=by simp;omega
    by_cases h2 : c <= 57
    · have d2 : decide ((c : Int) <= 57) = true:=by simp;omega
      rw [decide_eq_true (show 48 <= c/\c <= 57 from ⟨h1,h2⟩)]
      clear h1 h2
      go_enter Tryz.func121,Tryz.ntmps121
      go_wp2
      go_ret
      exact ⟨rfl,rfl⟩
    · have d2 : decide ((c : Int) <= 57) = false:=by simp;omega
      rw [decide_eq_false (show ¬ (48 <= c/\c <= 57) from fun h=>h2 h.2)]
      clear h1 h2
      go_enter Tryz.func121,Tryz.ntmps121
      go_wp2
      go_ret
      exact ⟨rfl,rfl⟩
  · have d1 : decide ((48 : Int) <= (c : Int)) = false:=by simp;omega
    rw [decide_eq_false (show ¬ (48 <= c/\c <= 57) from fun h=>h1 h.1)]
    clear h1
    go_enter Tryz.func121,Tryz.ntmps121
    go_wp2
    go_ret
    exact ⟨rfl,rfl⟩
theorem refWhen_any (b : Bool) (e : Int) (w : World) : Calls Tryz.prog 65 #[.bool b,.int .i64 e] w fun x w'=>x = .returned (.int .i64 (if b then e else 0))/\w' = w:=by
  cases b
  · go_enter Tryz.func65,Tryz.ntmps65
    go_wp2
    go_ret
    exact ⟨rfl,rfl⟩
  · go_enter Tryz.func65,Tryz.ntmps65
    go_wp2
    go_ret
    exact ⟨rfl,rfl⟩
end
end Go.Proofs.YtpbegoflpfdajaaGreatDoor