/- WHAT IS PROVED: contracts of functions of the numbers package and laws for them, used by the last text of this claim. CONDITIONS: stated at each theorem. -/
import Derived.Test.YtpbegoflpfdajaaGreatDoorB20
import Derived.Laws.StructEq
namespace Go.Proofs.YtpbegoflpfdajaaGreatDoor
section
open Go.RowKit
open Go.Lib (decDigits nDigits decDigits_length)
theorem gl_keep {w w' : World} (h : Gl w) (hb : Below w.heap.size w w') : Gl w':=h.keep hb
theorem gl_drew {w : World} (h : Gl w) : Gl w.drew:=h.keep (Below.refl _ _).drew
def frText (p : Nat) (s : Bool) (q : Nat) (t : Bool) : List UInt8:=sgText p s ++ 47 :: sgText q t
theorem sgText_size (n : Nat) (s : Bool) (hn : n < bb ^ 30) : (⟨(sgText n s).toArray⟩ : ByteArray).size <= 271:=by
  have:=nD_bound n 30 hn (by omega)
  have h : (sgText n s).length <= nDigits n + 1:=by
    unfold sgText;split
    · simp [decDigits_length]
    · rw [decDigits_length];omega
  show (sgText n s).toArray.size <= 271
  rw [List.size_toArray];omega
theorem fr_text (T1 T2 : ByteArray) (l1 l2 : List UInt8) (h1 : ⟨l1.toArray⟩ = T1) (h2 : ⟨l2.toArray⟩ = T2) : (T1 ++ ⟨#[47]⟩ ++ T2 : ByteArray) = ⟨(l1 ++ 47 :: l2).toArray⟩:=by
  subst h1;subst h2
  apply ByteArray.ext
  simp
set_option maxHeartbeats 2000000 in
theorem fracString_any (p : Nat) (s : Bool) (q : Nat) (t : Bool) (hp : p < bb ^ 30) (hq : q < bb ^ 30) (w : World) (hg : Gl w) :
    Calls Tryz.prog 164 #[.agg (frL p s q t).toArray] w fun e w'=>e = .returned (.string ⟨(frText p s q t).toArray⟩)/\Below w.heap.size w w':=by
  have hb0 : Below w.heap.size w (w.alloc (.cells (frL p s q t).toArray 115)):=(Below.refl _ _).alloc (Nat.le_refl _) _
  have HB0:=Lib.hid hb0
  have HG0:=Lib.hid (hg.keep hb0)
  have hr:=range_fr (range_new w (frL p s q t) 115)
  rw [Nat.zero_add] at hr
  have Hr1:=Lib.hid hr.1;have Hr2:=Lib.hid hr.2
  have c1:=fun w g=>signedString_any p s hp w g
  have c2:=fun w g=>signedString_any q t hq w g
  have z1:=sgText_size p s hp
  have z2:=sgText_size q t hq
  unfold frText
  obtain ⟨l1,hl1⟩ : ∃ l,sgText p s = l:=⟨_,rfl⟩
  obtain ⟨l2,hl2⟩ : ∃ l,sgText q t = l:=⟨_,rfl⟩
  rw [hl1] at c1 z1 ⊢
  rw [hl2] at c2 z2 ⊢
  obtain ⟨T1,hT1⟩ : ∃ T : ByteArray,⟨l1.toArray⟩ = T:=⟨_,rfl⟩
  obtain ⟨T2,hT2⟩ : ∃ T : ByteArray,⟨l2.toArray⟩ = T:=⟨_,rfl⟩
  rw [hT1] at c1 z1
  rw [hT2] at c2 z2
  have C1:=Lib.hid c1;have C2:=Lib.hid c2;have HT:=Lib.hid (fr_text T1 T2 l1 l2 hT1 hT2)
  clear c1 c2 hT1 hT2 hl1 hl2 hp hq hg hb0 hr
  go_enter Tryz.func164,Tryz.ntmps164
  go_wp2_with fail
  refine wp_region_held_drew (S:=(fun w'=>Below w.heap.size w w'/\w'.rangeAt w.heap.size 0 (sgL p s)/\w'.rangeAt w.heap.size 31 (sgL q t)/\Gl w')) (by kernel_rfl) ?_ (fun hH=>?_)
  · exact ⟨HB0.out.drew,Hr1.out,Hr2.out,gl_drew HG0.out⟩
  try dsimp only at hH
  refine wpAnyH_take (i:=0) (v:=(.pointer (some ⟨w.heap.size,0,none⟩))) rfl (by kernel_rfl) (by kernel_rfl) (by kernel_rfl) (fun _ _ _ h=>h) (Or.inl ⟨by rfl,fun wz hz=>by skip;go_simp⟩) hH ?_
  try simp only [Act.put,List.getElem_toArray,List.getElem_cons_zero,List.setIfInBounds_toArray,List.set_cons_zero,List.set_cons_succ]
  refine wpAnyH_take (i:=1) (v:=(.agg (sgL p s).toArray)) rfl (by kernel_rfl) (by kernel_rfl) (by kernel_rfl) (fun _ _ _ h=>h) (yld88 w.heap.size 0 p s rfl ⟨_,rfl,rfl⟩ (fun wz hz=>hz.2.1)) hH ?_
  try simp only [Act.put,List.getElem_toArray,List.getElem_cons_succ,List.getElem_cons_zero,List.setIfInBounds_toArray,List.set_cons_zero,List.set_cons_succ]
  refine wpAnyH_take (i:=4) (v:=(.pointer (some ⟨w.heap.size,31,none⟩))) rfl (by kernel_rfl) (by kernel_rfl) (by kernel_rfl) (fun _ _ _ h=>h) (Or.inl ⟨by rfl,fun wz hz=>by skip;go_simp⟩) hH ?_
  try simp only [Act.put,List.getElem_toArray,List.getElem_cons_succ,List.getElem_cons_zero,List.setIfInBounds_toArray,List.set_cons_zero,List.set_cons_succ]
  refine wpAnyH_take (i:=5) (v:=(.agg (sgL q t).toArray)) rfl (by kernel_rfl) (by kernel_rfl) (by kernel_rfl) (fun _ _ _ h=>h) (yld88 w.heap.size 31 q t rfl ⟨_,rfl,rfl⟩ (fun wz hz=>hz.2.2.1)) hH ?_
  try simp only [Act.put,List.getElem_toArray,List.getElem_cons_succ,List.getElem_cons_zero,List.setIfInBounds_toArray,List.set_cons_zero,List.set_cons_succ]
  refine wpAnyH_ready (rs:=[2]) (by kernel_rfl) (by simp) ?_
  refine AllReadyH.cons rfl (fun K hK=>?_) AllReadyH.nil
  simp only [List.getElem_toArray,List.getElem_cons_succ,List.getElem_cons_zero]
  rw [if_pos (by rfl)]
  go_simp
  refine (C1.out _ hH.2.2.2).mono ?_;rintro e w1 ⟨rfl,hb1⟩
  try simp only []
  refine hK.out _ _ ?_ (fun hH1=>?_)
  · exact ⟨(hH.1).trans (hb1.mono (hH.1).size),range_keep hH.2.1 hb1,range_keep hH.2.2.1 hb1,gl_keep hH.2.2.2 hb1⟩
  clear hK K
  try simp only [Act.put,List.getElem_toArray,List.getElem_cons_succ,List.getElem_cons_zero,List.setIfInBounds_toArray,List.set_cons_zero,List.set_cons_succ]
  refine wpAnyH_take (i:=3) (v:=(.string (T1 ++ ⟨#[47]⟩))) rfl (by kernel_rfl) (by kernel_rfl) (by kernel_rfl) (fun _ _ _ h=>h) (Or.inl ⟨by rfl,fun wz hz=>by skip;go_simp;omega⟩) hH1 ?_
  try simp only [Act.put,List.getElem_toArray,List.getElem_cons_succ,List.getElem_cons_zero,List.setIfInBounds_toArray,List.set_cons_zero,List.set_cons_succ]
  refine wpAnyH_ready (rs:=[6]) (by kernel_rfl) (by simp) ?_
  refine AllReadyH.cons rfl (fun K hK=>?_) AllReadyH.nil
  simp only [List.getElem_toArray,List.getElem_cons_succ,List.getElem_cons_zero]
  rw [if_pos (by rfl)]
  go_simp
  refine (C2.out _ hH1.2.2.2).mono ?_;rintro e w2 ⟨rfl,hb2⟩
  try simp only []
  refine hK.out _ _ ?_ (fun hH2=>?_)
  · exact ⟨(hH1.1).trans (hb2.mono (hH1.1).size),range_keep hH1.2.1 hb2,range_keep hH1.2.2.1 hb2,gl_keep hH1.2.2.2 hb2⟩
  clear hK K
  try simp only [Act.put,List.getElem_toArray,List.getElem_cons_succ,List.getElem_cons_zero,List.setIfInBounds_toArray,List.set_cons_zero,List.set_cons_succ]
  refine wpAnyH_take (i:=7) (v:=(.string (T1 ++ ⟨#[47]⟩ ++ T2))) rfl (by kernel_rfl) (by kernel_rfl) (by kernel_rfl) (fun _ _ _ h=>h) (Or.inl ⟨by rfl,fun wz hz=>by skip;go_simp;omega⟩) hH2 ?_
  try simp only [Act.put,List.getElem_toArray,List.getElem_cons_succ,List.getElem_cons_zero,List.setIfInBounds_toArray,List.set_cons_zero,List.set_cons_succ]
  refine wpAnyH_take (i:=8) (v:=(.string (T1 ++ ⟨#[47]⟩ ++ T2))) rfl (by kernel_rfl) (by kernel_rfl) (by kernel_rfl) (fun _ _ _ h=>h) (Or.inl ⟨by rfl,fun wz hz=>by skip;go_simp⟩) hH2 ?_
  try simp only [Act.put,List.getElem_toArray,List.getElem_cons_succ,List.getElem_cons_zero,List.setIfInBounds_toArray,List.set_cons_zero,List.set_cons_succ]
  refine wpAnyH_done (by kernel_rfl) ?_ _
  go_wp2
  go_ret
  exact ⟨by rw [HT.out];rfl,hH2.1⟩
end
section
open Go.RowKit
def nws (w : World) (n : Nat) (s : Bool) : World:=(w.alloc (.cells (sgL 0 false).toArray 88)).setCells w.heap.size 0 (sgL n s)
theorem nws_old (w : World) (n : Nat) (s : Bool) : Below w.heap.size w (nws w n s):=below_set ((Below.refl _ _).alloc (Nat.le_refl _) _) (Nat.le_refl _) _ _
theorem nws_at (w : World) (n : Nat) (s : Bool) : (nws w n s).rangeAt w.heap.size 0 (sgL n s):=range_set (there_at rfl _ 88 (by rw [sgL_len])) (by rw [sgL_len])
set_option maxHeartbeats 4000000 in
set_option maxRecDepth 100000 in
theorem transformS_any (g n c : Nat) (xs : List (Nat × Bool)) (w : World) (hn : n = xs.length) (hn80 : n <= 80) (hg : g < w.heap.size) (hx : ∀ i (h : i < xs.length),w.rangeAt g (i * 31) (sgL xs[i].1 xs[i].2)) (hb : ∀ x ∈ xs,x.1 < bb ^ 30) (hG : Gl w) :
    Calls Tryz.prog 163 #[.slice (some ⟨g,0,none⟩) n c,.func (.func 89) #[] #[]] w fun e w'=>∃ v,e = .returned v/\w'.ownsRow w.heap.size 24 1 v n (errV (xs.map fun x=>fitsV x.1))/\Below w.heap.size w w':=by
  obtain ⟨i0,hi,hz0,hz1,hz2⟩:=info_parts Tryz.info24
  have hmk:=fun w=>run_makeSlice_owned (P:=Tryz.prog) w w.heap.size 162 24 i0 (.int .i64 0) 1 Tryz.underlying162 hi hz0 hz1 .i64 .i64 n (by omega) (by rw [hz2];omega) (by unfold maxLen;omega) (Nat.le_refl _)
  obtain ⟨w1,hmk1,hown1,hgr1⟩:=hmk w
  have HG:=Lib.hid hG
  have Hbb:=Lib.hid hb
  have ef:=enters_of Tryz.func89 (by kernel_rfl) rfl
  have Hn:=Lib.hid hn;have Hx:=Lib.hid hx;have Hown1:=Lib.hid hown1;have Hgr1:=Lib.hid hgr1
  clear hn hx hmk hown1 hgr1 hb hG
  go_enter Tryz.func163,Tryz.ntmps163
  go_wp2_with fail
  go_loopw [5,13] (fun v i wr=>∃ k : Nat,k <= n/\i = .int .i64 k/\wr.ownsRow w.heap.size 24 1 v k (errV ((xs.map fun x=>fitsV x.1).take k))/\Below w.heap.size w wr) (fun _ i _=>n - (intOf i).toNat)
  case atStart=>exact ⟨0,Nat.zero_le _,rfl,Hown1.out,(Below.refl _ w).grown Hgr1.out (Nat.le_refl _) (fun j hj=>by cases hj)⟩
  case round =>
    obtain ⟨k,hk,rfl,hrow,hbl⟩:=hrel
    by_cases hlt : k < n
    · have hkx : k < xs.length:=by have:=Hn.out;omega
      have hbr:=hbl.size
      have c0 : wr.rangeAt g (k * 31) (sgL xs[k].1 xs[k].2):=range_below (Hx.out k hkx) hbl hg
      have hsn : (xs.map fun x=>fitsV x.1).take (k + 1) = (xs.map fun x=>fitsV x.1).take k ++ [fitsV xs[k].1]:=by rw [List.take_succ_eq_append_getElem (by simpa using hkx)];simp
      have hlx:=Hbb.out xs[k] (List.getElem_mem hkx)
      have Hsn:=Lib.hid hsn;clear hsn
      have Hrow:=Lib.hid hrow;have Hbl:=Lib.hid hbl;clear hrow hbl
      obtain ⟨m,hxm⟩ : ∃ x,xs[k].1 = x:=⟨_,rfl⟩
      obtain ⟨s,hxs⟩ : ∃ x,xs[k].2 = x:=⟨_,rfl⟩
      rw [hxm,hxs] at c0
      rw [hxm] at Hsn hlx
      have ck:=fun w g=>fits_any m s hlx w g
      obtain ⟨ev,hev⟩ : ∃ ev,fitsV m = ev:=⟨_,rfl⟩
      rw [hev] at Hsn ck
      clear hxm hxs hev
      have CK:=Lib.hid ck;have C0:=Lib.hid c0;clear ck c0
      have GN:=Lib.hid (show Gl ((wr.alloc (.cells (sgL 0 false).toArray 88)).setCells wr.heap.size 0 (sgL m s)) from HG.out.keep (Hbl.out.trans ((nws_old wr m s).mono Hbl.out.size)))
      have BN:=Lib.hid (show Below wr.heap.size wr ((wr.alloc (.cells (sgL 0 false).toArray 88)).setCells wr.heap.size 0 (sgL m s)) from nws_old wr m s)
      go_wp2_with (first
        | ((with_reducible refine al_zb 88 _ wr.heap.size ?_ ?_ z88 ?_);(· exact ⟨rfl,rfl⟩);· rfl)
        | ((with_reducible refine ld88 g (k * 31) m s ?_ ?_ ?_);(· exact ⟨rfl,_,rfl,rfl⟩);· exact C0.out)
        | ((with_reducible refine st88 wr.heap.size 0 m s ?_ ?_ ?_);(· exact ⟨rfl,_,_,rfl,rfl,rfl⟩);· exact there_at rfl _ 88 (by rw [sgL_len]))
        | ((with_reducible refine ld88 wr.heap.size 0 m s ?_ ?_ ?_);(· exact ⟨rfl,_,rfl,rfl⟩);· exact nws_at wr m s)
        | (go_at_call 89;(with_reducible refine (CK.out _ GN.out).mono ?_);rintro e w2 ⟨rfl,hb2⟩;have HB2:=Lib.hid (show Below wr.heap.size wr w2 from BN.out.trans (hb2.mono BN.out.size));clear hb2;have hs2:=HB2.out.size;have HO2:=Lib.hid (ownsRow_below' Hrow.out HB2.out))
        | (at_builtin;refine wpList_append_own _ rfl _ _ 162 rfl w.heap.size 24 i0 (.int .i64 0) 1 8 Tryz.underlying162 hi hz0 hz1 hz2 rfl (by decide) _ _ _ rfl (HO2.out.alloc _) ⟨w2.heap.size,0,none⟩ 1 1 [.int .i64 ev] rfl rfl (one_new1 _ _ _) (by simp [Value.oneCell']) (by unfold maxLen;omega) (by omega) (by simp;omega) ?_;intro v' w3 hown' hgrow _;have HN:=Lib.hid (And.intro hown' hgrow);clear hown' hgrow))
      have hbig : Below w.heap.size w w3:=((Hbl.out.trans (HB2.out.mono hbr)).alloc (by omega) _).grown HN.out.2 (by simp;omega) (fun j hj=>(HO2.out.lt j hj).1)
      have hnew : w3.ownsRow w.heap.size 24 1 v' (k + 1) (errV ((xs.map fun x=>fitsV x.1).take (k + 1))):=by rw [Hsn.out,errV_snoc];exact HN.out.1
      have Hnew:=Lib.hid hnew
      have Hbig:=Lib.hid hbig
      clear hbig hnew
      go_roundw
      case rel=>exact ⟨k + 1,by omega,by go_num,Hnew.out,Hbig.out⟩
      case measure=>simp [intOf];omega
    · have hkn : k = n:=by omega
      rw [List.take_of_length_le (by have:=Hn.out;simp;omega)] at hrow
      have Hrow2:=Lib.hid hrow
      have Hbl:=Lib.hid hbl
      clear hrow hbl
      subst hkn
      go_wp2
      go_ret
      exact ⟨_,rfl,Hrow2.out,Hbl.out⟩
end
section
open Go.RowKit
def fitF (p q : Nat) : Int:=firstE [fitsV p,fitsV q]
def resF (p : Nat) (s : Bool) (q : Nat) (t : Bool) : Value:=.tuple #[.string (if fitF p q = 0 then ⟨(frText p s q t).toArray⟩ else ⟨#[]⟩),.int .i64 (fitF p q)]
set_option maxHeartbeats 2000000 in
theorem fracResult_any (p : Nat) (s : Bool) (q : Nat) (t : Bool) (hp : p < bb ^ 30) (hq : q < bb ^ 30) (w : World) (hg : Gl w) :
    Calls Tryz.prog 109 #[.agg (frL p s q t).toArray] w fun e w'=>e = .returned (resF p s q t)/\Below w.heap.size w w':=by
  have hb0 : Below w.heap.size w (w.alloc (.cells (frL p s q t).toArray 115)):=(Below.refl _ _).alloc (Nat.le_refl _) _
  have hb1 : Below w.heap.size w ((w.alloc (.cells (frL p s q t).toArray 115)).alloc (.cells (sgL p s ++ sgL q t).toArray 88)):=hb0.alloc (by simp) _
  have HB0:=Lib.hid hb1
  have hr0:=range_new w (frL p s q t) 115
  have hr:=range_fr hr0
  rw [Nat.zero_add] at hr
  have Hr:=Lib.hid (World.rangeAt_alloc hr0 (.cells (sgL p s ++ sgL q t).toArray 88))
  have Hr1:=Lib.hid hr.1;have Hr2:=Lib.hid hr.2
  have HG1:=Lib.hid (hg.keep hb1)
  have hg2 : ((w.alloc (.cells (frL p s q t).toArray 115)).alloc (.cells (sgL p s ++ sgL q t).toArray 88)).rangeAt (w.heap.size + 1) 0 (sgL p s ++ sgL q t):=range_at (by simp) _ 88
  have ct:=transformS_any (w.heap.size + 1) 2 2 [(p,s),(q,t)] ((w.alloc (.cells (frL p s q t).toArray 115)).alloc (.cells (sgL p s ++ sgL q t).toArray 88)) rfl (by omega) (by simp)
    (fun i hi=>by
      have h2 : i = 0 ∨ i = 1:=by simp at hi;omega
      rcases h2 with rfl | rfl
      · exact range_left hg2
      · exact range_right hg2 _ (by rw [sgL_len]))
    (fun x hx=>by
      rcases List.mem_cons.1 hx with rfl | hx
      · exact hp
      · rcases List.mem_cons.1 hx with rfl | hx
        · exact hq
        · cases hx) HG1.out
  have CT:=Lib.hid ct
  have cs:=fun w g=>fracString_any p s q t hp hq w g
  unfold resF
  have hF : firstE ([(p,s),(q,t)].map fun x=>fitsV x.1) = fitF p q:=rfl
  obtain ⟨T,hT⟩ : ∃ T : ByteArray,⟨(frText p s q t).toArray⟩ = T:=⟨_,rfl⟩
  rw [hT] at cs ⊢
  have CS:=Lib.hid cs
  obtain ⟨F,hFe⟩ : ∃ F,fitF p q = F:=⟨_,rfl⟩
  rw [hFe] at hF ⊢
  have HF:=Lib.hid hF
  clear ct cs hT hFe hF hg2 hr hr0 hb0 hb1 hg hp hq
  by_cases hz : F = 0
  · rw [if_pos hz]
    have td : (F != 0) = false:=by simp [hz]
    subst hz
    go_enter Tryz.func109,Tryz.ntmps109
    go_wp2_with (first
      | ((with_reducible refine ld88 w.heap.size 0 p s ?_ ?_ ?_);(· exact ⟨rfl,_,rfl,rfl⟩);· exact Hr1.out)
      | ((with_reducible refine ld88 w.heap.size 31 q t ?_ ?_ ?_);(· exact ⟨rfl,_,rfl,rfl⟩);· exact Hr2.out)
      | ((with_reducible refine bs171 p q s t (w.heap.size + 1) ?_ ?_ ?_);(· exact ⟨rfl,_,_,rfl,rfl,rfl⟩);· (simp;done))
      | (go_at_call 163;(with_reducible refine (CT.out).mono ?_);rintro e w1 ⟨v,rfl,hrow,hb1⟩;have HR:=Lib.hid hrow;have HB1:=Lib.hid hb1;clear hrow hb1;obtain ⟨g1,cap1,rfl⟩:=ownsRow_succ HR.out)
      | (go_at_call 88;(with_reducible refine (firstError_any g1 2 cap1 ([(p,s),(q,t)].map fun x=>fitsV x.1) rfl (by omega) w1 (errV_cells HR.out)).mono ?_);rintro e w2 ⟨rfl,rfl⟩;rw [HF.out])
      | ((with_reducible refine ld115 w.heap.size 0 p s q t ?_ ?_ ?_);(· exact ⟨rfl,_,rfl,rfl⟩);· exact range_keep Hr.out (HB1.out))
      | (go_at_call 164;(with_reducible refine (CS.out _ (HG1.out.keep HB1.out)).mono ?_);rintro e w3 ⟨rfl,hb3⟩;have HB3:=Lib.hid hb3;clear hb3))
    go_ret2
    have q1:=HB0.out.trans (HB1.out.mono HB0.out.size)
    exact ⟨rfl,q1.trans (HB3.out.mono q1.size)⟩
  · rw [if_neg hz]
    have td : (F != 0) = true:=by simp [hz]
    have Hz:=Lib.hid hz;clear hz
    go_enter Tryz.func109,Tryz.ntmps109
    go_wp2_with (first
      | ((with_reducible refine ld88 w.heap.size 0 p s ?_ ?_ ?_);(· exact ⟨rfl,_,rfl,rfl⟩);· exact Hr1.out)
      | ((with_reducible refine ld88 w.heap.size 31 q t ?_ ?_ ?_);(· exact ⟨rfl,_,rfl,rfl⟩);· exact Hr2.out)
      | ((with_reducible refine bs171 p q s t (w.heap.size + 1) ?_ ?_ ?_);(· exact ⟨rfl,_,_,rfl,rfl,rfl⟩);· (simp;done))
      | (go_at_call 163;(with_reducible refine (CT.out).mono ?_);rintro e w1 ⟨v,rfl,hrow,hb1⟩;have HR:=Lib.hid hrow;have HB1:=Lib.hid hb1;clear hrow hb1;obtain ⟨g1,cap1,rfl⟩:=ownsRow_succ HR.out)
      | (go_at_call 88;(with_reducible refine (firstError_any g1 2 cap1 ([(p,s),(q,t)].map fun x=>fitsV x.1) rfl (by omega) w1 (errV_cells HR.out)).mono ?_);rintro e w2 ⟨rfl,rfl⟩;rw [HF.out]))
    go_ret2
    exact ⟨rfl,HB0.out.trans (HB1.out.mono HB0.out.size)⟩
end
section
open Go.RowKit
theorem part_agg {t : TypeId} (hi : ∀ w,(isAgg t).run Tryz.prog w = .ok true w) (n : Nat) (hz : ∀ w,(Go.sizeOf t).run Tryz.prog w = .ok n w) (A B C : List Value) (o : Nat) (hA : A.length = o) (hB : B.length = n) (w : World) :
    (part t (A ++ B ++ C).toArray o).run Tryz.prog w = .ok (.agg B.toArray) w:=by
  unfold part
  rw [Sem.run_bind,hi]
  simp only [Result.andThen_ok,if_true,Sem.run_bind,hz,Sem.run_pure]
  congr 2
  subst hA;subst hB
  apply Array.ext_getElem?
  intro i
  simp only [Array.getElem?_extract,List.getElem?_toArray,List.size_toArray,List.length_append]
  by_cases h : i < B.length
  · rw [if_pos (by omega),List.append_assoc,List.getElem?_append_right (by omega),Nat.add_sub_cancel_left,List.getElem?_append_left h]
  · rw [if_neg (by omega),List.getElem?_eq_none (by omega)]
theorem part_cell {t : TypeId} (hi : ∀ w,(isAgg t).run Tryz.prog w = .ok false w) (cs : Array Value) (o : Nat) (v : Value) (h : cs[o]? = some v) (w : World) : (part t cs o).run Tryz.prog w = .ok v w:=by
  unfold part
  rw [Sem.run_bind,hi]
  simp [h,Result.andThen]
theorem mg_parts (x : Nat) : (mgL x).toArray = ([] ++ mgL x ++ []).toArray:=by simp
theorem sg_parts (x : Nat) (s : Bool) : (sgL x s).toArray = ([] ++ mgL x ++ [Value.bool s]).toArray:=by unfold sgL;simp
theorem fr_parts0 (p : Nat) (s : Bool) (q : Nat) (t : Bool) : (frL p s q t).toArray = ([] ++ sgL p s ++ sgL q t).toArray:=by unfold frL;simp
theorem fr_parts1 (p : Nat) (s : Bool) (q : Nat) (t : Bool) : (frL p s q t).toArray = (sgL p s ++ sgL q t ++ []).toArray:=by unfold frL;simp
theorem field_mg (x : Nat) (w : World) : (part 84 (mgL x).toArray 0).run Tryz.prog w = .ok (.agg (mgL x).toArray) w:=by
  have h:=part_agg Tryz.isAgg84 30 Tryz.sizeOf84 [] (mgL x) [] 0 rfl (mgL_len x) w
  rw [<- mg_parts] at h;exact h
theorem field_sg (x : Nat) (s : Bool) (w : World) : (part 86 (sgL x s).toArray 0).run Tryz.prog w = .ok (.agg (mgL x).toArray) w:=by
  have h:=part_agg Tryz.isAgg86 30 Tryz.sizeOf86 [] (mgL x) [Value.bool s] 0 rfl (mgL_len x) w
  rw [<- sg_parts] at h;exact h
theorem field_neg (x : Nat) (s : Bool) (w : World) : (part 4 (sgL x s).toArray 30).run Tryz.prog w = .ok (.bool s) w:=part_cell Tryz.isAgg4 _ _ _ sgA_get w
theorem field_fr0 (p : Nat) (s : Bool) (q : Nat) (t : Bool) (w : World) : (part 88 (frL p s q t).toArray 0).run Tryz.prog w = .ok (.agg (sgL p s).toArray) w:=by
  have h:=part_agg Tryz.isAgg88 31 Tryz.sizeOf88 [] (sgL p s) (sgL q t) 0 rfl (sgL_len p s) w
  rw [<- fr_parts0] at h;exact h
theorem field_fr1 (p : Nat) (s : Bool) (q : Nat) (t : Bool) (w : World) : (part 88 (frL p s q t).toArray 31).run Tryz.prog w = .ok (.agg (sgL q t).toArray) w:=by
  have h:=part_agg Tryz.isAgg88 31 Tryz.sizeOf88 (sgL p s) (sgL q t) [] 31 (sgL_len p s) (sgL_len q t) w
  rw [<- fr_parts1] at h;exact h
theorem eq86 (d : Nat) (x y : Nat) (hx : x < bb ^ 30) (hy : y < bb ^ 30) (w : World) : (Op.equalIn (d + 3) 86 (.agg (mgL x).toArray) (.agg (mgL y).toArray)).run Tryz.prog w = .ok (decide (x = y)) w:=by
  have hp : Tryz.prog.stoodInHeld 86 = false:=by kernel_rfl
  have hf : Tryz.prog.underlying 86 = some (.struct (Tryz.prog.fieldsOf 86)):=by kernel_rfl
  have hl : (Tryz.prog.fieldsOf 86).toList = [{ name := "limbs", type:=84,offset:=0,embedded:=false,tag := "", pkgPath := "entail/num", byteOffset:=0 }]:=by kernel_rfl
  rw [run_equalIn_agg w (d + 2) 86 _ _ hf hp,hl]
  have e:=eq84 d x y hx hy w
  obtain ⟨b,hb⟩ : ∃ b,decide (x = y) = b:=⟨_,rfl⟩
  rw [hb] at e ⊢
  cases b <;> simp [Op.eqFields,field_mg,e,Result.andThen]
theorem eq88 (d : Nat) (x : Nat) (s : Bool) (y : Nat) (t : Bool) (hx : x < bb ^ 30) (hy : y < bb ^ 30) (w : World) : (Op.equalIn (d + 4) 88 (.agg (sgL x s).toArray) (.agg (sgL y t).toArray)).run Tryz.prog w = .ok (decide (x = y) && (s == t)) w:=by
  have hp : Tryz.prog.stoodInHeld 88 = false:=by kernel_rfl
  have hf : Tryz.prog.underlying 88 = some (.struct (Tryz.prog.fieldsOf 88)):=by kernel_rfl
  have hl : (Tryz.prog.fieldsOf 88).toList = [{ name := "magnitude", type:=86,offset:=0,embedded:=true,tag := "", pkgPath := "entail/num", byteOffset:=0 },{ name := "negative", type:=4,offset:=30,embedded:=false,tag := "", pkgPath := "entail/num", byteOffset:=120 }]:=by kernel_rfl
  rw [run_equalIn_agg w (d + 3) 88 _ _ hf hp,hl]
  have e:=eq86 d x y hx hy w
  have e4 : (Op.equalIn (d + 3) 4 (.bool s) (.bool t)).run Tryz.prog w = .ok (s == t) w:=by
    rw [show d + 3 = (d + 2) + 1 from rfl]
    simp only [Op.equalIn,Sem.run_bind,run_underlying Tryz.underlying4,Result.andThen_ok]
    rfl
  obtain ⟨b,hb⟩ : ∃ b,decide (x = y) = b:=⟨_,rfl⟩
  rw [hb] at e ⊢
  obtain ⟨c,hc⟩ : ∃ c,(s == t) = c:=⟨_,rfl⟩
  rw [hc] at e4 ⊢
  cases b <;> cases c <;> simp [Op.eqFields,field_sg,field_neg,e,e4,Result.andThen]
theorem eq115 (d : Nat) (p : Nat) (s : Bool) (q : Nat) (t : Bool) (p2 : Nat) (s2 : Bool) (q2 : Nat) (t2 : Bool) (h1 : p < bb ^ 30) (h2 : q < bb ^ 30) (h3 : p2 < bb ^ 30) (h4 : q2 < bb ^ 30) (w : World) :
    (Op.equalIn (d + 5) 115 (.agg (frL p s q t).toArray) (.agg (frL p2 s2 q2 t2).toArray)).run Tryz.prog w = .ok ((decide (p = p2) && (s == s2)) && (decide (q = q2) && (t == t2))) w:=by
  have hp : Tryz.prog.stoodInHeld 115 = false:=by kernel_rfl
  have hf : Tryz.prog.underlying 115 = some (.struct (Tryz.prog.fieldsOf 115)):=by kernel_rfl
  have hl : (Tryz.prog.fieldsOf 115).toList = [{ name := "upper", type:=88,offset:=0,embedded:=false,tag := "", pkgPath := "entail/num", byteOffset:=0 },{ name := "lower", type:=88,offset:=31,embedded:=false,tag := "", pkgPath := "entail/num", byteOffset:=124 }]:=by kernel_rfl
  rw [run_equalIn_agg w (d + 4) 115 _ _ hf hp,hl]
  have e:=eq88 d p s p2 s2 h1 h3 w
  have e4:=eq88 d q t q2 t2 h2 h4 w
  obtain ⟨b,hb⟩ : ∃ b,(decide (p = p2) && (s == s2)) = b:=⟨_,rfl⟩
  rw [hb] at e ⊢
  obtain ⟨c,hc⟩ : ∃ c,(decide (q = q2) && (t == t2)) = c:=⟨_,rfl⟩
  rw [hc] at e4 ⊢
  cases b <;> cases c <;> simp [Op.eqFields,field_fr0,field_fr1,e,e4,Result.andThen]
end
end Go.Proofs.YtpbegoflpfdajaaGreatDoor