/- WHAT IS PROVED: contracts of functions of the numbers package and laws for them, used by the last text of this claim. CONDITIONS: stated at each theorem. -/
import Derived.Test.YtpbegoflpfdajaaGreatDoorB10
import Derived.Laws.MakeOwn
import Derived.Lib.ItoaMem
import Derived.Lib.AtoiErrMem
namespace Go.Proofs.YtpbegoflpfdajaaGreatDoor
section
open Go.RowKit
open Go.Lib (decDigits nDigits decDigits_length byteCells)
def sgText (n : Nat) (s : Bool) : List UInt8:=if s then 45 :: decDigits n else decDigits n
theorem minus_text (T : ByteArray) (l : List UInt8) (h : T = ⟨l.toArray⟩) : (⟨#[45]⟩ ++ T : ByteArray) = ⟨(45 :: l).toArray⟩:=by
  subst h
  apply ByteArray.ext
  simp
set_option maxHeartbeats 400000 in
theorem signedString_any (n : Nat) (s : Bool) (hn : n < bb ^ 30) (w : World) (hg : Gl w) :
    Calls Tryz.prog 90 #[.agg (sgL n s).toArray] w fun e w'=>e = .returned (.string ⟨(sgText n s).toArray⟩)/\Below w.heap.size w w':=by
  have HB:=Lib.hid (show Below w.heap.size w (w.alloc (.cells (sgL n s).toArray 88)) from (Below.refl w.heap.size w).alloc (Nat.le_refl _) _)
  have Hr:=Lib.hid (show (w.alloc (.cells (sgL n s).toArray 88)).rangeAt w.heap.size 0 (mgL n) from (range_sg (range_new w _ 88)).1)
  have hc : (w.alloc (.cells (sgL n s).toArray 88)).cell? ⟨w.heap.size,30,none⟩ = some (.bool s):=cell_sg (range_new w _ 88)
  have ct:=string_any n hn _ (hg.keep HB.out)
  obtain ⟨T,hT⟩ : ∃ T : ByteArray,T = ⟨(decDigits n).toArray⟩:=⟨_,rfl⟩
  rw [<- hT] at ct
  have Ct:=Lib.hid ct
  have HT:=Lib.hid hT
  have hTs : T.size <= 270:=by
    rw [hT]
    have:=nD_bound n 30 hn (by omega)
    simp only [ByteArray.size,List.size_toArray,decDigits_length]
    omega
  clear ct hT hn hg
  cases s with
  | true =>
    go_enter Tryz.func90,Tryz.ntmps90
    go_wp2_with (first
      | ((with_reducible refine ld86 w.heap.size 0 n ?_ ?_ ?_);(· exact ⟨rfl,_,rfl,rfl⟩);· exact Hr.out)
      | (go_at_call 157;(with_reducible refine (Ct.out).mono ?_);rintro e w1 ⟨rfl,hb1⟩))
    go_ret
    refine ⟨?_,HB.out.trans (hb1.mono HB.out.size)⟩
    show _ = Ending.returned (Value.string ⟨(45 :: decDigits n).toArray⟩)
    rw [<- minus_text T _ HT.out];rfl
  | false =>
    go_enter Tryz.func90,Tryz.ntmps90
    go_wp2_with (first
      | ((with_reducible refine ld86 w.heap.size 0 n ?_ ?_ ?_);(· exact ⟨rfl,_,rfl,rfl⟩);· exact Hr.out)
      | (go_at_call 157;(with_reducible refine (Ct.out).mono ?_);rintro e w1 ⟨rfl,hb1⟩))
    go_ret
    refine ⟨?_,HB.out.trans (hb1.mono HB.out.size)⟩
    show _ = Ending.returned (Value.string ⟨(decDigits n).toArray⟩)
    rw [<- HT.out];rfl
set_option maxHeartbeats 400000 in
theorem result_any (n : Nat) (s : Bool) (hn : n < bb ^ 30) (w : World) (hg : Gl w) :
    Calls Tryz.prog 74 #[.agg (sgL n s).toArray] w fun e w'=>e = .returned (.tuple #[.string (if digN n <= 120 then ⟨(sgText n s).toArray⟩ else ⟨#[]⟩),.int .i64 (fitsV n)])/\Below w.heap.size w w':=by
  have HB:=Lib.hid (show Below w.heap.size w (w.alloc (.cells (sgL n s).toArray 88)) from (Below.refl w.heap.size w).alloc (Nat.le_refl _) _)
  have Hr:=Lib.hid (show (w.alloc (.cells (sgL n s).toArray 88)).rangeAt w.heap.size 0 (sgL n s) from range_new w _ 88)
  have HG:=Lib.hid (hg.keep HB.out)
  have cf:=fits_any n s hn _ HG.out
  have ct:=fun w h=>signedString_any n s hn w h
  obtain ⟨T,hT⟩ : ∃ T : ByteArray,⟨(sgText n s).toArray⟩ = T:=⟨_,rfl⟩
  rw [hT] at ct ⊢
  have Ct:=Lib.hid ct
  clear ct hT hn hg
  by_cases h : 120 < digN n
  · have hf : fitsV n = 4:=by unfold fitsV;rw [if_pos h]
    rw [if_neg (by omega),hf]
    rw [hf] at cf
    have Cf:=Lib.hid cf;clear cf hf h
    go_enter Tryz.func74,Tryz.ntmps74
    go_wp2_with (first
      | ((with_reducible refine ld88 w.heap.size 0 n s ?_ ?_ ?_);(· exact ⟨rfl,_,rfl,rfl⟩);· exact Hr.out)
      | (go_at_call 89;(with_reducible refine (Cf.out).mono ?_);rintro e w1 ⟨rfl,hb1⟩))
    go_ret2
    exact ⟨rfl,HB.out.trans (hb1.mono HB.out.size)⟩
  · have hf : fitsV n = 0:=by unfold fitsV;rw [if_neg h]
    rw [if_pos (by omega),hf]
    rw [hf] at cf
    have Cf:=Lib.hid cf;clear cf hf h
    go_enter Tryz.func74,Tryz.ntmps74
    go_wp2_with (first
      | ((with_reducible refine ld88 w.heap.size 0 n s ?_ ?_ ?_);(· exact ⟨rfl,_,rfl,rfl⟩);· first | exact Hr.out | exact range_keep Hr.out HB1.out)
      | (go_at_call 89;(with_reducible refine (Cf.out).mono ?_);rintro e w1 ⟨rfl,hb1⟩;have HB1:=Lib.hid hb1;clear hb1)
      | (go_at_call 90;(with_reducible refine (Ct.out _ (HG.out.keep HB1.out)).mono ?_);rintro e w2 ⟨rfl,hb2⟩;have HB2:=Lib.hid hb2;clear hb2))
    go_ret2
    have q1:=HB.out.trans (HB1.out.mono HB.out.size)
    exact ⟨rfl,q1.trans (HB2.out.mono q1.size)⟩
end
section
open Go.RowKit
def firstE : List Int->Int
  | []=>0
  | x :: xs=>if x = 0 then firstE xs else x
theorem firstE_drop (xs : List Int) (k : Nat) (h : k < xs.length) : firstE (xs.drop k) = if xs[k] = 0 then firstE (xs.drop (k + 1)) else xs[k]:=by
  rw [List.drop_eq_getElem_cons h];rfl
set_option maxHeartbeats 400000 in
theorem firstError_any (g n c : Nat) (xs : List Int) (hn : xs.length = n) (h63 : n <= 1000) (w : World) (hx : ∀ i (h : i < xs.length),w.cell? ⟨g,i,none⟩ = some (.int .i64 xs[i])) :
    Calls Tryz.prog 88 #[.slice (some ⟨g,0,none⟩) n c] w fun e w'=>e = .returned (.int .i64 (firstE xs))/\w' = w:=by
  have Hx:=Lib.hid hx;have Hn:=Lib.hid hn
  clear hx hn
  go_enter Tryz.func88,Tryz.ntmps88
  go_wp2
  go_loop [7] (fun i=>∃ k : Nat,i = .int .i64 k/\k <= n/\firstE (xs.drop k) = firstE xs) (fun i=>n - (intOf i).toNat)
  case atStart=>exact ⟨0,rfl,by omega,rfl⟩
  case round =>
    obtain ⟨k,rfl,hk,hf⟩:=hrel
    have Hf:=Lib.hid hf;clear hf
    by_cases h : k < n
    · have hkx : k < xs.length:=by have:=Hn.out;omega
      have hc:=Hx.out k hkx
      have hs:=firstE_drop xs k hkx
      rw [Hf.out] at hs
      obtain ⟨x,hxk⟩ : ∃ x,xs[k] = x:=⟨_,rfl⟩
      rw [hxk] at hc hs
      have d1 : decide ((k : Int) < (n : Int)) = true:=by simp;omega
      by_cases h0 : x = 0
      · rw [if_pos h0] at hs
        have d2 : (x != 0) = false:=by simp [h0]
        have Hs:=Lib.hid hs
        clear hs h0 hxk
        go_wp2
        go_round
        case rel=>exact ⟨k + 1,by go_num,by omega,Hs.out.symm⟩
        case measure=>simp [intOf];omega
      · rw [if_neg h0] at hs
        have d2 : (x != 0) = true:=by simp [h0]
        have Hs:=Lib.hid hs
        clear hs hxk
        go_wp2
        go_ret
        exact ⟨by rw [Hs.out];rfl,rfl⟩
    · have hkn : k = n:=by omega
      have d1 : decide ((k : Int) < (n : Int)) = false:=by simp;omega
      have hz : firstE xs = 0:=by rw [<- Hf.out,hkn,List.drop_of_length_le (by have:=Hn.out;omega)];rfl
      have Hz:=Lib.hid hz;clear hz
      go_wp2
      go_ret
      exact ⟨by rw [Hz.out];rfl,rfl⟩
end
section
open Go.RowKit
theorem Tryz.info24 : (Tryz.prog.info? 24).map (fun i=>(i.zero,i.size,i.bytes)) = some (some (.int .i64 0),1,8):=by kernel_rfl
def errV (xs : List Int) : List Value:=xs.map fun x=>.int .i64 x
theorem errV_snoc (pre : List Int) (x : Int) : errV (pre ++ [x]) = errV pre ++ [.int .i64 x]:=by simp [errV]
theorem one_new1 (w : World) (a : Value) (t : TypeId) : ∀ (j : Nat) (u : Value),[a][j]? = some u->(w.alloc (.cells #[a] t)).cell? ((⟨w.heap.size,0,none⟩ : Addr).add j) = some u
  | 0,_,h=>by simp [Addr.add] at h ⊢;exact h
  | j + 1,_,h=>by simp at h
theorem ownsRow_below' {A B : World} {base : Nat} {e : TypeId} {size : Nat} {v : Value} {n : Nat} {xs : List Value} (h : A.ownsRow base e size v n xs) (hb : Below A.heap.size A B) : B.ownsRow base e size v n xs :=
  h.kept (grown_of_below hb) (by cases v.ownBlock <;> simp)
set_option maxHeartbeats 4000000 in
set_option maxRecDepth 100000 in
theorem transform_plain (f : Nat) (ef : ∀ args wx,(callFunc f args).run Tryz.prog wx = .ok (.enter f args) wx) (E : ByteArray->Int) (g n c : Nat) (xs : List ByteArray) (w : World) (hn : n = xs.length) (hn80 : n <= 80) (hg : g < w.heap.size) (hx : ∀ i (h : i < xs.length),w.cell? ⟨g,i,none⟩ = some (.string xs[i]))
    (hcall : ∀ x ∈ xs,∀ w3,Below w.heap.size w w3->Calls Tryz.prog f #[.string x] w3 fun e w'=>e = .returned (.int .i64 (E x))/\Below w3.heap.size w3 w') :
    Calls Tryz.prog 153 #[.slice (some ⟨g,0,none⟩) n c,.func (.func f) #[] #[]] w fun e w'=>∃ v,e = .returned v/\w'.ownsRow w.heap.size 24 1 v n (errV (xs.map E))/\Below w.heap.size w w':=by
  obtain ⟨i0,hi,hz0,hz1,hz2⟩:=info_parts Tryz.info24
  have hmk:=fun w=>run_makeSlice_owned (P:=Tryz.prog) w w.heap.size 162 24 i0 (.int .i64 0) 1 Tryz.underlying162 hi hz0 hz1 .i64 .i64 n (by omega) (by rw [hz2];omega) (by unfold maxLen;omega) (Nat.le_refl _)
  obtain ⟨w1,hmk1,hown1,hgr1⟩:=hmk w
  have Ck:=Lib.hid hcall
  have Hn:=Lib.hid hn;have Hx:=Lib.hid hx;have Hown1:=Lib.hid hown1;have Hgr1:=Lib.hid hgr1
  clear hn hx hmk hown1 hgr1 hcall
  go_enter Tryz.func153,Tryz.ntmps153
  go_wp2_with fail
  go_loopw [5,13] (fun v i wr=>∃ k : Nat,k <= n/\i = .int .i64 k/\wr.ownsRow w.heap.size 24 1 v k (errV ((xs.map E).take k))/\Below w.heap.size w wr) (fun _ i _=>n - (intOf i).toNat)
  case atStart=>exact ⟨0,Nat.zero_le _,rfl,Hown1.out,(Below.refl _ w).grown Hgr1.out (Nat.le_refl _) (fun j hj=>by cases hj)⟩
  case round =>
    obtain ⟨k,hk,rfl,hrow,hbl⟩:=hrel
    by_cases hlt : k < n
    · have hkx : k < xs.length:=by have:=Hn.out;omega
      have hbr:=hbl.size
      have c0:=(hbl.cell (p:=⟨g,k,none⟩) hg).trans (Hx.out k hkx)
      have hsn : (xs.map E).take (k + 1) = (xs.map E).take k ++ [E xs[k]]:=by rw [List.take_succ_eq_append_getElem (by simpa using hkx)];simp
      have ck:=Ck.out xs[k] (List.getElem_mem hkx) wr hbl
      have Hsn:=Lib.hid hsn;clear hsn
      have Hrow:=Lib.hid hrow;have Hbl:=Lib.hid hbl;clear hrow hbl
      obtain ⟨x,hxk⟩ : ∃ x,xs[k] = x:=⟨_,rfl⟩
      rw [hxk] at c0 Hsn ck
      obtain ⟨ev,hev⟩ : ∃ ev,E x = ev:=⟨_,rfl⟩
      rw [hev] at Hsn ck
      clear hxk hev
      have CK:=Lib.hid ck;clear ck
      go_wp2_with (first
        | (go_at_fn f;refine (CK.out).mono ?_;rintro e w2 ⟨rfl,hb2⟩;have HB2:=Lib.hid hb2;clear hb2;have hs2:=HB2.out.size;have HO2:=Lib.hid (ownsRow_below' Hrow.out HB2.out))
        | (at_builtin;refine wpList_append_own _ rfl _ _ 162 rfl w.heap.size 24 i0 (.int .i64 0) 1 8 Tryz.underlying162 hi hz0 hz1 hz2 rfl (by decide) _ _ _ rfl (HO2.out.alloc _) ⟨w2.heap.size,0,none⟩ 1 1 [.int .i64 ev] rfl rfl (one_new1 _ _ _) (by simp [Value.oneCell']) (by unfold maxLen;omega) (by omega) (by simp;omega) ?_;intro v' w3 hown' hgrow _;have HN:=Lib.hid (And.intro hown' hgrow);clear hown' hgrow))
      have hbig : Below w.heap.size w w3:=((Hbl.out.trans (HB2.out.mono hbr)).alloc (by omega) _).grown HN.out.2 (by simp;omega) (fun j hj=>(HO2.out.lt j hj).1)
      have hnew : w3.ownsRow w.heap.size 24 1 v' (k + 1) (errV ((xs.map E).take (k + 1))):=by rw [Hsn.out,errV_snoc];exact HN.out.1
      have Hnew:=Lib.hid hnew
      have Hbig:=Lib.hid hbig
      clear hbig hnew
      go_roundw
      case rel=>exact ⟨k + 1,by omega,by go_num,Hnew.out,Hbig.out⟩
      case measure=>simp [intOf];omega
    · have hkn : k = n:=by omega
      rw [List.take_of_length_le (by have:=Hn.out;simp;omega)] at hrow
      have Hrow2:=Lib.hid hrow
      have Hbl:=Lib.hid hbl
      clear hrow hbl
      subst hkn
      go_wp2
      go_ret
      exact ⟨_,rfl,Hrow2.out,Hbl.out⟩
set_option maxHeartbeats 4000000 in
set_option maxRecDepth 100000 in
theorem transform_bound (f : Nat) (ef : ∀ args wx,(callFunc f args).run Tryz.prog wx = .ok (.enter f args) wx) (p : Addr) (E : ByteArray->Int) (g n c : Nat) (xs : List ByteArray) (w : World) (hn : n = xs.length) (hn80 : n <= 80) (hg : g < w.heap.size) (hx : ∀ i (h : i < xs.length),w.cell? ⟨g,i,none⟩ = some (.string xs[i]))
    (hcall : ∀ x ∈ xs,∀ w3,Below w.heap.size w w3->Calls Tryz.prog f #[.string x,.pointer (some p)] w3 fun e w'=>e = .returned (.int .i64 (E x))/\Below w3.heap.size w3 w') :
    Calls Tryz.prog 153 #[.slice (some ⟨g,0,none⟩) n c,.func (.func f) #[] #[.pointer (some p)]] w fun e w'=>∃ v,e = .returned v/\w'.ownsRow w.heap.size 24 1 v n (errV (xs.map E))/\Below w.heap.size w w':=by
  obtain ⟨i0,hi,hz0,hz1,hz2⟩:=info_parts Tryz.info24
  have hmk:=fun w=>run_makeSlice_owned (P:=Tryz.prog) w w.heap.size 162 24 i0 (.int .i64 0) 1 Tryz.underlying162 hi hz0 hz1 .i64 .i64 n (by omega) (by rw [hz2];omega) (by unfold maxLen;omega) (Nat.le_refl _)
  obtain ⟨w1,hmk1,hown1,hgr1⟩:=hmk w
  have Ck:=Lib.hid hcall
  have Hn:=Lib.hid hn;have Hx:=Lib.hid hx;have Hown1:=Lib.hid hown1;have Hgr1:=Lib.hid hgr1
  clear hn hx hmk hown1 hgr1 hcall
  go_enter Tryz.func153,Tryz.ntmps153
  go_wp2_with fail
  go_loopw [5,13] (fun v i wr=>∃ k : Nat,k <= n/\i = .int .i64 k/\wr.ownsRow w.heap.size 24 1 v k (errV ((xs.map E).take k))/\Below w.heap.size w wr) (fun _ i _=>n - (intOf i).toNat)
  case atStart=>exact ⟨0,Nat.zero_le _,rfl,Hown1.out,(Below.refl _ w).grown Hgr1.out (Nat.le_refl _) (fun j hj=>by cases hj)⟩
  case round =>
    obtain ⟨k,hk,rfl,hrow,hbl⟩:=hrel
    by_cases hlt : k < n
    · have hkx : k < xs.length:=by have:=Hn.out;omega
      have hbr:=hbl.size
      have c0:=(hbl.cell (p:=⟨g,k,none⟩) hg).trans (Hx.out k hkx)
      have hsn : (xs.map E).take (k + 1) = (xs.map E).take k ++ [E xs[k]]:=by rw [List.take_succ_eq_append_getElem (by simpa using hkx)];simp
      have ck:=Ck.out xs[k] (List.getElem_mem hkx) wr hbl
      have Hsn:=Lib.hid hsn;clear hsn
      have Hrow:=Lib.hid hrow;have Hbl:=Lib.hid hbl;clear hrow hbl
      obtain ⟨x,hxk⟩ : ∃ x,xs[k] = x:=⟨_,rfl⟩
      rw [hxk] at c0 Hsn ck
      obtain ⟨ev,hev⟩ : ∃ ev,E x = ev:=⟨_,rfl⟩
      rw [hev] at Hsn ck
      clear hxk hev
      have CK:=Lib.hid ck;clear ck
      go_wp2_with (first
        | (go_at_fn f;refine (CK.out).mono ?_;rintro e w2 ⟨rfl,hb2⟩;have HB2:=Lib.hid hb2;clear hb2;have hs2:=HB2.out.size;have HO2:=Lib.hid (ownsRow_below' Hrow.out HB2.out))
        | (at_builtin;refine wpList_append_own _ rfl _ _ 162 rfl w.heap.size 24 i0 (.int .i64 0) 1 8 Tryz.underlying162 hi hz0 hz1 hz2 rfl (by decide) _ _ _ rfl (HO2.out.alloc _) ⟨w2.heap.size,0,none⟩ 1 1 [.int .i64 ev] rfl rfl (one_new1 _ _ _) (by simp [Value.oneCell']) (by unfold maxLen;omega) (by omega) (by simp;omega) ?_;intro v' w3 hown' hgrow _;have HN:=Lib.hid (And.intro hown' hgrow);clear hown' hgrow))
      have hbig : Below w.heap.size w w3:=((Hbl.out.trans (HB2.out.mono hbr)).alloc (by omega) _).grown HN.out.2 (by simp;omega) (fun j hj=>(HO2.out.lt j hj).1)
      have hnew : w3.ownsRow w.heap.size 24 1 v' (k + 1) (errV ((xs.map E).take (k + 1))):=by rw [Hsn.out,errV_snoc];exact HN.out.1
      have Hnew:=Lib.hid hnew
      have Hbig:=Lib.hid hbig
      clear hbig hnew
      go_roundw
      case rel=>exact ⟨k + 1,by omega,by go_num,Hnew.out,Hbig.out⟩
      case measure=>simp [intOf];omega
    · have hkn : k = n:=by omega
      rw [List.take_of_length_le (by have:=Hn.out;simp;omega)] at hrow
      have Hrow2:=Lib.hid hrow
      have Hbl:=Lib.hid hbl
      clear hrow hbl
      subst hkn
      go_wp2
      go_ret
      exact ⟨_,rfl,Hrow2.out,Hbl.out⟩
end
section
open Go.RowKit
theorem errV_cells {W : World} {D : Nat} {g cap n : Nat} {l : List Int} (h : W.ownsRow D 24 1 (.slice (some ⟨g,0,none⟩) n cap) n (errV l)) : ∀ i (h : i < l.length),W.cell? ⟨g,i,none⟩ = some (.int .i64 l[i]):=fun i hi=>by
  have:=h.cells (g:=g) rfl i (.int .i64 l[i]) (by simp [errV,hi])
  rw [show ((⟨g,0,none⟩ : Addr).add i) = ⟨g,i,none⟩ from by rw [Addr.add_mid,Nat.zero_add]] at this
  exact this
set_option maxHeartbeats 1000000 in
theorem firstOf_plain (f : Nat) (ef : ∀ args wx,(callFunc f args).run Tryz.prog wx = .ok (.enter f args) wx) (E : ByteArray->Int) (g n c : Nat) (xs : List ByteArray) (w : World) (hn : n + 1 = xs.length) (hn80 : n + 1 <= 80) (hg : g < w.heap.size) (hx : ∀ i (h : i < xs.length),w.cell? ⟨g,i,none⟩ = some (.string xs[i]))
    (hcall : ∀ x ∈ xs,∀ w3,Below w.heap.size w w3->Calls Tryz.prog f #[.string x] w3 fun e w'=>e = .returned (.int .i64 (E x))/\Below w3.heap.size w3 w') :
    Calls Tryz.prog 85 #[.func (.func f) #[] #[],.slice (some ⟨g,0,none⟩) (n + 1) c] w fun e w'=>e = .returned (.int .i64 (firstE (xs.map E)))/\Below w.heap.size w w':=by
  have Ct:=Lib.hid (transform_plain f ef E g (n + 1) c xs w hn hn80 hg hx hcall)
  have Hl:=Lib.hid (show (xs.map E).length = n + 1 by rw [List.length_map];exact hn.symm)
  clear hx hcall hn
  go_enter Tryz.func85,Tryz.ntmps85
  go_wp2_with (first
    | (go_at_call 153;(with_reducible refine (Ct.out).mono ?_);rintro e w1 ⟨v,rfl,hrow,hb1⟩;have HR:=Lib.hid hrow;have HB1:=Lib.hid hb1;clear hrow hb1;obtain ⟨g1,cap1,rfl⟩:=ownsRow_succ HR.out)
    | (go_at_call 88;(with_reducible refine (firstError_any g1 (n + 1) cap1 (xs.map E) (Hl.out) (by omega) w1 (errV_cells HR.out)).mono ?_);rintro e w2 ⟨rfl,rfl⟩))
  go_ret
  exact ⟨rfl,HB1.out⟩
set_option maxHeartbeats 1000000 in
theorem firstOf_bound (f : Nat) (ef : ∀ args wx,(callFunc f args).run Tryz.prog wx = .ok (.enter f args) wx) (p : Addr) (E : ByteArray->Int) (g n c : Nat) (xs : List ByteArray) (w : World) (hn : n + 1 = xs.length) (hn80 : n + 1 <= 80) (hg : g < w.heap.size) (hx : ∀ i (h : i < xs.length),w.cell? ⟨g,i,none⟩ = some (.string xs[i]))
    (hcall : ∀ x ∈ xs,∀ w3,Below w.heap.size w w3->Calls Tryz.prog f #[.string x,.pointer (some p)] w3 fun e w'=>e = .returned (.int .i64 (E x))/\Below w3.heap.size w3 w') :
    Calls Tryz.prog 85 #[.func (.func f) #[] #[.pointer (some p)],.slice (some ⟨g,0,none⟩) (n + 1) c] w fun e w'=>e = .returned (.int .i64 (firstE (xs.map E)))/\Below w.heap.size w w':=by
  have Ct:=Lib.hid (transform_bound f ef p E g (n + 1) c xs w hn hn80 hg hx hcall)
  have Hl:=Lib.hid (show (xs.map E).length = n + 1 by rw [List.length_map];exact hn.symm)
  clear hx hcall hn
  go_enter Tryz.func85,Tryz.ntmps85
  go_wp2_with (first
    | (go_at_call 153;(with_reducible refine (Ct.out).mono ?_);rintro e w1 ⟨v,rfl,hrow,hb1⟩;have HR:=Lib.hid hrow;have HB1:=Lib.hid hb1;clear hrow hb1;obtain ⟨g1,cap1,rfl⟩:=ownsRow_succ HR.out)
    | (go_at_call 88;(with_reducible refine (firstError_any g1 (n + 1) cap1 (xs.map E) (Hl.out) (by omega) w1 (errV_cells HR.out)).mono ?_);rintro e w2 ⟨rfl,rfl⟩))
  go_ret
  exact ⟨rfl,HB1.out⟩
end
section
open Go.RowKit Go.Sort
open Go.Lib (decDigits nDigits decDigits_length)
theorem holds_zero0 (w : World) (T : TypeId) (nd : Nat) (hs : nd <= 24) : Holds (fun (b : UInt8)=>Value.int .u8 (b.toNat : Int)) (w.alloc (.cells Lib.zeros24 T)) w.heap.size 0 (Array.replicate nd (0 : UInt8)):=fun j hj=>by
  have hj' : j < nd:=by simpa using hj
  refine ⟨?_,World.frozen?_alloc_new _ _ _ _⟩
  rw [World.cell?_alloc_new,Lib.zeros24_at _ (by omega),getElem!_pos _ j hj]
  simp
theorem cv_row (w : World) (u k v' : Nat) (dk : Array UInt8) (HH0 : Holds (fun (b : UInt8)=>Value.int .u8 (b.toNat : Int)) (w.alloc (.cells Lib.zeros24 180)) w.heap.size 0 (Array.replicate (nDigits u) (0 : UInt8))) (hF : Lib.FmtInv (nDigits u) u 0 v' dk) :
    (convert 152 9 (.slice (some ⟨w.heap.size,0,none⟩) (nDigits u) 24)).run Tryz.prog ((putRow (fun (b : UInt8)=>Value.int .u8 (b.toNat : Int)) (w.alloc (.cells Lib.zeros24 180)) w.heap.size 0 dk).drewN k) = .ok (.string ⟨(decDigits u).toArray⟩) ((putRow (fun (b : UInt8)=>Value.int .u8 (b.toNat : Int)) (w.alloc (.cells Lib.zeros24 180)) w.heap.size 0 dk).drewN k):=by
  have h:=run_convert_bytes_back (P:=Tryz.prog) ((putRow (fun (b : UInt8)=>Value.int .u8 (b.toNat : Int)) (w.alloc (.cells Lib.zeros24 180)) w.heap.size 0 dk).drewN k) 152 9 5 ⟨w.heap.size,0,none⟩ 24 (decDigits u) Tryz.underlying152 Tryz.underlying5 Tryz.underlying9 (fun j hj=>by
    rw [Lib.row_is_numeral hF j hj,Lib.add_plain,World.cell?_drewN]
    exact cell?_putRow (fun (b : UInt8)=>Value.int .u8 (b.toNat : Int)) _ w.heap.size 0 _ dk HH0 (by rw [hF.size,Array.size_replicate]) j (by rw [hF.size];rw [decDigits_length] at hj;exact hj))
  rw [decDigits_length] at h
  exact h
theorem below_row (w : World) (dk : Array UInt8) (k : Nat) : RowKit.Below w.heap.size w ((putRow (fun (b : UInt8)=>Value.int .u8 (b.toNat : Int)) (w.alloc (.cells Lib.zeros24 180)) w.heap.size 0 dk).drewN k):=by
  rw [alloc_eq_grow]
  obtain ⟨os',_,e⟩:=putRow_grow_new (fun (b : UInt8)=>Value.int .u8 (b.toNat : Int)) w #[.cells Lib.zeros24 180] w.heap.size 0 dk (Nat.le_refl _)
  rw [e]
  exact Lib.below_grow w.heap.size w (Nat.le_refl _) k os'
theorem z180 (w : World) : (zeroValue 180).run Tryz.prog w = .ok (.agg Lib.zeros24) w:=Tryz.zeroValue180 w
set_option maxHeartbeats 1000000 in
set_option maxRecDepth 100000 in
theorem formatUint1_any (u : Nat) (hu64 : u < 18446744073709551616) (w : World) (hg : Gl w) :
    Calls Tryz.prog 133 #[.int .u64 u,.int .i64 10] w fun e w'=>e = .returned (.string ⟨(decDigits u).toArray⟩)/\Below w.heap.size w w':=by
  by_cases h100 : u < 100
  · have d1 : decide ((u : Int) < 100) = true:=by simp;omega
    have Cs:=Lib.hid (Tryz.internal_strconv_small u h100 w)
    go_enter Tryz.func133,Tryz.ntmps133
    go_wp2_with (go_at_call 179;(with_reducible refine (Cs.out).mono ?_);rintro e w1 ⟨rfl,rfl⟩)
    go_ret
    exact ⟨rfl,Below.refl _ _⟩
  · have d1 : decide ((u : Int) < 100) = false:=by simp;omega
    have hu1 : 1 <= u:=by omega
    have hnd20 : nDigits u <= 20:=by have:=Lib.numDigits_eq u hu1 hu64;split at this <;> omega
    have htab:=Lib.tabIs_alloc hg.tab (.cells Lib.zeros24 180)
    have Cn:=Lib.hid (Tryz.internal_strconv_numDigits u hu1 hu64 _ htab)
    have hH0:=holds_zero0 w 180 (nDigits u) (by omega)
    have hfmt:=Tryz.internal_strconv_formatBase10 w.heap.size 0 24 u (Array.replicate (nDigits u) 0) (w.alloc (.cells Lib.zeros24 180)) hH0 (by rw [Array.size_replicate];exact Lib.lt_pow_nDigits u) hu64 (by rw [Array.size_replicate];omega)
    rw [Array.size_replicate] at hfmt
    have HH0:=Lib.hid hH0
    have HF:=Lib.hid hfmt
    have hal : Tryz.prog.arrayLen 180 = 24:=by kernel_rfl
    have hsl : ∀ W,(Instr.sliceAt 180 (.pointer (some ⟨w.heap.size,0,none⟩)) none (some (.int .i64 (nDigits u : Int))) none).run Tryz.prog W = .ok (.slice (some ⟨w.heap.size,0,none⟩) (nDigits u) 24) W:=fun W=>by
      rw [run_sliceAt_array_h W 180 ⟨w.heap.size,0,none⟩ (by simp [Program.arrayLen,Program.elem,Tryz.underlying180]) .i64 (nDigits u : Int) (by omega) (by rw [hal];omega)]
      go_simp
    clear hfmt hH0 htab hal
    go_enter Tryz.func133,Tryz.ntmps133
    go_wp2_with (first
      | ((with_reducible refine al_z 180 Lib.zeros24 ?_ z180 ?_);(· exact ⟨rfl,rfl⟩))
      | (go_at_call 180;(with_reducible refine (Cn.out).mono ?_);rintro e w1 ⟨rfl,rfl⟩)
      | (go_at_call 181;(with_reducible refine (HF.out).mono ?_);rintro e w2 ⟨rfl,k,v',dk,rfl,hF⟩;have hcv:=cv_row w u k v' dk HH0.out hF))
    go_ret
    exact ⟨rfl,below_row w dk k⟩
theorem formatUint_any (u : Nat) (hu64 : u < 18446744073709551616) (w : World) (hg : Gl w) :
    Calls Tryz.prog 59 #[.int .u64 u,.int .i64 10] w fun e w'=>e = .returned (.string ⟨(decDigits u).toArray⟩)/\Below w.heap.size w w':=by
  have Cs:=Lib.hid (formatUint1_any u hu64 w hg)
  go_enter Tryz.func59,Tryz.ntmps59
  go_wp2_with (go_at_call 133;(with_reducible refine (Cs.out).mono ?_);rintro e w1 ⟨rfl,hb1⟩)
  go_ret
  exact ⟨rfl,hb1⟩
end
section
open Go.RowKit
open Go.Lib (decDigits nDigits decDigits_length)
def cbV (l : List UInt8) (k : Nat) : Int :=
  if ckL l = 0 then (match Lib.parseUintB 64 l with | .ok u=>if 2 ^ k - 1 < u then 3 else 0 | _=>3) else ckL l
theorem numEnd_cases (e : Lib.NumEnd Nat) : (∃ u,e = .ok u) ∨ e = .syntax ∨ e = .range:=by cases e <;> simp
theorem parse_syn (s : ByteArray) (hs : s.size <= 281474976710656) (h : Lib.parseUintB 64 s.data.toList = .syntax) (w : World) (hg : Gl w) :
    Calls Tryz.prog 178 #[.string s,.int .i64 10,.int .i64 64] w fun e w'=>∃ N,e = .returned (.tuple #[.int .u64 0,.iface 194 (.pointer (some ⟨N,0,none⟩))])/\Below w.heap.size w w':=by
  obtain ⟨a,b,e⟩:=hg.es
  refine (Tryz.strconv_ParseUint_10_at64_syntax s hs h _ w e (Or.inr ⟨a,b,rfl⟩)).mono ?_
  rintro e w' ⟨N,h1,_,_,h2⟩
  exact ⟨N,h1,h2⟩
theorem parse_rng (s : ByteArray) (hs : s.size <= 281474976710656) (h : Lib.parseUintB 64 s.data.toList = .range) (w : World) (hg : Gl w) :
    Calls Tryz.prog 178 #[.string s,.int .i64 10,.int .i64 64] w fun e w'=>∃ N,e = .returned (.tuple #[.int .u64 18446744073709551615,.iface 194 (.pointer (some ⟨N,0,none⟩))])/\Below w.heap.size w w':=by
  obtain ⟨a,b,e⟩:=hg.er
  refine (Tryz.strconv_ParseUint_10_at64_range s hs h _ w e (Or.inr ⟨a,b,rfl⟩)).mono ?_
  rintro e w' ⟨N,h1,_,_,h2⟩
  exact ⟨N,h1,h2⟩
theorem ckL_short (l : List UInt8) (h : ckL l = 0) : l.length <= 121:=by
  unfold ckL at h
  split at h
  · omega
  · split at h
    · omega
    · split at h
      · omega
      · rename_i h3
        unfold noMinus Lib.trimPrefix at h3
        split at h3
        · simp at h3;omega
        · omega
theorem below_bw {w w' : World} {s : ByteArray} (h : w' = w ∨ w' = Lib.bytesWorld w 5 s) : Below w.heap.size w w':=by
  rcases h with rfl | rfl
  · exact Below.refl _ _
  · exact Lib.bytesWorld_below _ _ _
set_option maxHeartbeats 1000000 in
theorem checkBits_any (s : ByteArray) (k : Nat) (hk : k <= 64) (w : World) (hg : Gl w) :
    Calls Tryz.prog 129 #[.string s,.int .i64 k] w fun e w'=>e = .returned (.int .i64 (cbV s.data.toList k))/\Below w.heap.size w w':=by
  have cc:=check_any s w
  by_cases h0 : ckL s.data.toList = 0
  · have hsz : s.size <= 121:=by have:=ckL_short _ h0;simpa using this
    rw [h0] at cc
    have Cc:=Lib.hid cc;clear cc
    have HG:=Lib.hid hg;clear hg
    rcases numEnd_cases (Lib.parseUintB 64 s.data.toList) with ⟨u,hp⟩ | hp | hp
    · skip
      have hv : cbV s.data.toList k = if 2 ^ k - 1 < u then 3 else 0:=by unfold cbV;rw [if_pos h0,hp]
      have Hp:=Lib.hid hp
      clear hp h0
      have Cp:=Lib.hid (fun w=>Tryz.strconv_ParseUint_10_at64_ok s (by omega) u Hp.out w)
      clear hsz
      by_cases hu : 2 ^ k - 1 < u
      · rw [if_pos hu] at hv
        have d : decide (((2 ^ k - 1 : Nat) : Int) < (u : Int)) = true:=by simp only [decide_eq_true_eq];omega
        have Hv:=Lib.hid hv;clear hv
        obtain ⟨m,hm⟩ : ∃ m,2 ^ k - 1 = m:=⟨_,rfl⟩
        have cm:=fun w=>mask_any k hk w
        rw [hm] at d cm hu
        have d2:=hu
        have Cm:=Lib.hid cm;clear cm hm
        go_enter Tryz.func129,Tryz.ntmps129
        go_wp2_with (first
          | (go_at_call 12;(with_reducible refine (Cc.out).mono ?_);rintro e w1 ⟨rfl,hb1⟩;have HB1:=Lib.hid hb1;clear hb1)
          | (go_at_call 178;(with_reducible refine (Cp.out _).mono ?_);rintro e w2 ⟨rfl,hw2⟩;have HB2:=Lib.hid (below_bw hw2);clear hw2)
          | (go_at_call 125;(with_reducible refine (Cm.out _).mono ?_);rintro e w3 ⟨rfl,rfl⟩))
        go_ret
        exact ⟨by rw [Hv.out];rfl,HB1.out.trans (HB2.out.mono HB1.out.size)⟩
      · rw [if_neg hu] at hv
        have d : decide (((2 ^ k - 1 : Nat) : Int) < (u : Int)) = false:=by simp only [decide_eq_false_iff_not];omega
        have Hv:=Lib.hid hv;clear hv
        obtain ⟨m,hm⟩ : ∃ m,2 ^ k - 1 = m:=⟨_,rfl⟩
        have cm:=fun w=>mask_any k hk w
        rw [hm] at d cm hu
        have d2:=hu
        have Cm:=Lib.hid cm;clear cm hm
        go_enter Tryz.func129,Tryz.ntmps129
        go_wp2_with (first
          | (go_at_call 12;(with_reducible refine (Cc.out).mono ?_);rintro e w1 ⟨rfl,hb1⟩;have HB1:=Lib.hid hb1;clear hb1)
          | (go_at_call 178;(with_reducible refine (Cp.out _).mono ?_);rintro e w2 ⟨rfl,hw2⟩;have HB2:=Lib.hid (below_bw hw2);clear hw2)
          | (go_at_call 125;(with_reducible refine (Cm.out _).mono ?_);rintro e w3 ⟨rfl,rfl⟩))
        go_ret
        exact ⟨by rw [Hv.out];rfl,HB1.out.trans (HB2.out.mono HB1.out.size)⟩
    · skip
      have hv : cbV s.data.toList k = 3:=by unfold cbV;rw [if_pos h0,hp]
      have Hv:=Lib.hid hv
      have Hp:=Lib.hid hp
      clear hp h0 hv
      have Cp:=Lib.hid (fun w (h : Gl w)=>parse_syn s (by omega) Hp.out w h)
      clear hsz
      go_enter Tryz.func129,Tryz.ntmps129
      go_wp2_with (first
        | (go_at_call 12;(with_reducible refine (Cc.out).mono ?_);rintro e w1 ⟨rfl,hb1⟩;have HB1:=Lib.hid hb1;clear hb1)
        | (go_at_call 178;(with_reducible refine (Cp.out _ (HG.out.keep HB1.out)).mono ?_);rintro e w2 ⟨N,rfl,hb2⟩;have HB2:=Lib.hid hb2;clear hb2))
      go_ret
      exact ⟨by rw [Hv.out];rfl,HB1.out.trans (HB2.out.mono HB1.out.size)⟩
    · skip
      have hv : cbV s.data.toList k = 3:=by unfold cbV;rw [if_pos h0,hp]
      have Hv:=Lib.hid hv
      have Hp:=Lib.hid hp
      clear hp h0 hv
      have Cp:=Lib.hid (fun w (h : Gl w)=>parse_rng s (by omega) Hp.out w h)
      clear hsz
      go_enter Tryz.func129,Tryz.ntmps129
      go_wp2_with (first
        | (go_at_call 12;(with_reducible refine (Cc.out).mono ?_);rintro e w1 ⟨rfl,hb1⟩;have HB1:=Lib.hid hb1;clear hb1)
        | (go_at_call 178;(with_reducible refine (Cp.out _ (HG.out.keep HB1.out)).mono ?_);rintro e w2 ⟨N,rfl,hb2⟩;have HB2:=Lib.hid hb2;clear hb2))
      go_ret
      exact ⟨by rw [Hv.out];rfl,HB1.out.trans (HB2.out.mono HB1.out.size)⟩
  · have hv : cbV s.data.toList k = ckL s.data.toList:=by unfold cbV;rw [if_neg h0]
    obtain ⟨x,hx⟩ : ∃ x,ckL s.data.toList = x:=⟨_,rfl⟩
    rw [hx] at cc hv h0
    have Cc:=Lib.hid cc
    have Hv:=Lib.hid hv
    have d : (x != 0) = true:=by simpa using h0
    clear cc hx h0 hv hg
    go_enter Tryz.func129,Tryz.ntmps129
    go_wp2_with (first
      | (go_at_call 12;(with_reducible refine (Cc.out).mono ?_);rintro e w1 ⟨rfl,hb1⟩;have HB1:=Lib.hid hb1;clear hb1))
    go_ret
    exact ⟨by rw [Hv.out];rfl,HB1.out⟩
end
end Go.Proofs.YtpbegoflpfdajaaGreatDoor