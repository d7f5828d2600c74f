/- WHAT IS PROVED: the law NumBits returns true at every case of an operation on bits, and leaves its argument as it was. CONDITIONS: none of its own; the listed variables hold what the program's text lays in them (the given tie). -/
import Derived.Test.YtpbegoflpfdajaaGreatDoorB32
import Derived.Test.YtpbegoflpfdajaaGreatDoorB48
import Derived.Test.YtpbegoflpfdajaaGreatDoorTie
import Derived.Test.YtpbegoflpfdajaaGreatDoorCards
import Derived.SevenTiedAt
import Derived.Lib.SmallJoins
namespace Go.Proofs.YtpbegoflpfdajaaGreatDoor
open Go.ChangeShapes Go.WideShapes Go.ChangeAt Go.WideMaps Go.WideElems Go.RowKit
open Go.ChangeMaps (open_string)

set_option maxRecDepth 100000 in
theorem numBits_lifted (os : Os) (started : os.Started) (H : Type) (enc : TypeId × Value->H) :
    ReturnsInHanded {} Tryz.checked os 6 .any (fun w args=>(Rows.numBitsSpec.pre enc Tryz.prog Tryz.f6 [] false w args/\laidMetH Tryz.prog laidL w)/\sizedMet enc Tryz.prog Tryz.f6 (OpenSpec.ofChange Rows.numBitsSpec) false w args)
      (Rows.numBitsSpec.post enc Tryz.prog Tryz.f6 false true false false):=by
  refine returnsInHanded_of_calls (C:=Tryz.checked) own started (by kernel_rfl)
    (ChangeSpec.witness_shaped (enc:=enc) (C:=Tryz.checked) (os:=os) (fn:=Tryz.f6) (X:=fun w _=>laidMetH Tryz.prog laidL w) false (World.doorLaid Tryz.prog 400 os) #[.agg #[.int .i64 0,.int .i64 0,.string ⟨#[]⟩,.string ⟨#[]⟩]] 8 rfl (World.shaped_of_RefB (by kernel_rfl) (by kernel_rfl)) (by kernel_rfl) (by kernel_rfl) (by kernel_rfl) (door_met os _)) ?_
  intro w tape i _ hsh _ hok hpre _
  obtain ⟨_,_,_,fn',hfn',_,_,_,_,hval0⟩:=hok
  obtain rfl : fn' = Tryz.f6:=Option.some.inj (hfn'.symm.trans Tryz.func6)
  obtain ⟨⟨⟨ds,gs,before,hw,_⟩,hL0⟩,_⟩:=hpre
  have hW':=DataW.Whole.of_heap (w':=w.forCall tape i) (by rfl) hw
  have hL : laidMetH Tryz.prog laidL (w.forCall tape i):=hL0.of_heap (by rfl)
  obtain ⟨args,hargs⟩ : ∃ args,i.args = args:=⟨_,rfl⟩
  obtain ⟨W,hWW⟩ : ∃ W,w.forCall tape i = W:=⟨_,rfl⟩
  rw [hargs] at hW' hval0 ⊢
  rw [hWW] at hW' hval0 hL hsh ⊢
  clear hw hL0 hWW hargs
  have hG:=gl_of_laid hL hsh
  clear hL hsh
  have hval : ∀ (j : Nat) t v,Tryz.f6.params[j]? = some t->args[j]? = some v->Value.okWide Tryz.prog W .any w.heap.size t v:=hval0
  have hW:=hW'
  obtain ⟨p,q,hA0,hV,rfl,_,_⟩:=hW
  have hA : DataW.TrodAll enc Tryz.prog W 0 (fun _=>true) true Tryz.f6.params.toList args.toList ds p:=hA0
  rw [Tryz.params6] at hA hval
  obtain ⟨v0,d0,rfl,rfl,h0⟩:=trodAll_one hA
  obtain ⟨rfl,rfl⟩:=trodVars_none hV
  clear hA0 hval0
  simp only [List.append_nil] at hW'
  have hlt : ∀ x ∈ p,x.block < W.heap.size:=fun x hx=>by simpa using hW'.lt x hx
  have k0:=h0
  obtain ⟨c0,c1,c2,c3,y0,y1,y2,y3,m,rfl,_,_,t0,t1,t2,t3⟩:=Go.Joins.open_agg4 Tryz.underlying53 (by kernel_rfl) (by kernel_rfl) (hval 0 53 v0 rfl rfl) k0
  obtain ⟨o,e0,_,_⟩:=DataW.trod_int Tryz.underlying3 t0
  obtain ⟨n,e1,_,_⟩:=DataW.trod_int Tryz.underlying3 t1
  obtain ⟨a,e2,_,_⟩:=DataW.trod_string Tryz.underlying9 t2
  obtain ⟨b,e3,_,_⟩:=DataW.trod_string Tryz.underlying9 t3
  obtain rfl : c0 = .int .i64 o:=by simpa using e0
  obtain rfl : c1 = .int .i64 n:=by simpa using e1
  obtain rfl : c2 = .string a:=by simpa using e2
  obtain rfl : c3 = .string b:=by simpa using e3
  refine (lawBits o n a b W hG).mono fun e W' ⟨he,hb⟩=>?_
  subst he
  have g0:=Below.trod laidOut (by kernel_rfl) (of_decide_eq_true (by kernel_rfl)) h0 hb (fun x hx=>hlt x hx)
  have hp : Rows.numBitsSpec.post enc Tryz.prog Tryz.f6 false true false false W #[.agg #[.int .i64 o,.int .i64 n,.string a,.string b]] (.bool true) W' :=
    ⟨_,_,_,[],_,[],hW',trodAll_mk1 (shut_bool Tryz.underlying4 _),trodAll_mk1 g0,rfl,hb.frame _,fun h=>by cases h⟩
  exact ChangeSpec.post_blind hp

theorem numBits_holds : Rows.NumBitsSaid :=
  OpenClaim.holds_of_wide 6 Tryz.f6 rfl rfl rfl rfl rfl rfl rfl ⟨rfl,rfl,rfl,rfl,rfl⟩ rfl rfl rfl rfl rfl (by kernel_rfl) Tryz.func6 (by kernel_rfl)
    (of_decide_eq_true (by kernel_rfl)) (by unfold Func.isWrapper;first | (rw [if_pos (by decide +kernel)];kernel_rfl) | (rw [if_neg (by decide +kernel)];exact ⟨rfl,rfl⟩))
    (fun os started H enc _=>numBits_lifted os started H enc)

theorem numBits_card : Rows.NumBitsCardSaid :=
  Claim7.holds_tied_plain_at .later [] [.data,.data,.data,.sentinel,.sentinel,.data] true (true, "e7139b556e4086fd952740ece416d0302f716dc01af8d5fbb2b06789d2a7b8f6") true
    numBits_holds (fun _ h=>by cases h) (by kernel_rfl) (fun _ h=>by cases h) numBits_row_tie rfl ⟨rfl,rfl⟩ (by kernel_rfl) rfl
    (fun f fn hf hfn=>by
      obtain rfl : f = 6:=Option.some.inj ((show Tryz.prog.funcNamed "entail/entaillaw01.NumBits" = some 6 by kernel_rfl).symm.trans hf) |>.symm
      obtain rfl : fn = Tryz.f6:=(Option.some.inj (Tryz.func6.symm.trans hfn)).symm
      exact ⟨by kernel_rfl,fun j t ht=>by
        rw [Tryz.params6] at ht
        match j,ht with
        | 0, ht => obtain rfl : t = 53 := by simpa using ht.symm
                   exact (show Tryz.prog.wantsStandIn 53 = false by kernel_rfl)
        | j + 1,ht=>simp at ht⟩)
    (by kernel_rfl)
end Go.Proofs.YtpbegoflpfdajaaGreatDoor
