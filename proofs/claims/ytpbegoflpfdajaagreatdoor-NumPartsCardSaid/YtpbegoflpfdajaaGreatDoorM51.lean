/- WHAT IS PROVED: the law NumParts returns true at every three strings, and leaves its arguments as they were. CONDITIONS: none of its own; the listed variables hold what the program's text lays in them (the given tie). -/
import Derived.Test.YtpbegoflpfdajaaGreatDoorM34
import Derived.Test.YtpbegoflpfdajaaGreatDoorM50
import Derived.Test.YtpbegoflpfdajaaGreatDoorTie
import Derived.Test.YtpbegoflpfdajaaGreatDoorCards
import Derived.SevenTiedAt
namespace Go.Proofs.YtpbegoflpfdajaaGreatDoor
open Go.ChangeShapes Go.WideShapes Go.ChangeAt Go.WideMaps Go.WideElems Go.RowKit
open Go.ChangeMaps (open_string)

set_option maxRecDepth 100000 in
theorem numParts_lifted (os : Os) (started : os.Started) (H : Type) (enc : TypeId × Value->H) :
    ReturnsInHanded {} Tryz.checked os 5 .any (fun w args=>(Rows.numPartsSpec.pre enc Tryz.prog Tryz.f5 [] false w args/\laidMetH Tryz.prog laidL w)/\sizedMet enc Tryz.prog Tryz.f5 (OpenSpec.ofChange Rows.numPartsSpec) false w args)
      (Rows.numPartsSpec.post enc Tryz.prog Tryz.f5 false true false false):=by
  refine returnsInHanded_of_calls (C:=Tryz.checked) own started (by kernel_rfl)
    (ChangeSpec.witness_shaped (enc:=enc) (C:=Tryz.checked) (os:=os) (fn:=Tryz.f5) (X:=fun w _=>laidMetH Tryz.prog laidL w) false (World.doorLaid Tryz.prog 400 os) #[.string ⟨#[]⟩,.string ⟨#[]⟩,.string ⟨#[]⟩] 8 rfl (World.shaped_of_RefB (by kernel_rfl) (by kernel_rfl)) (by kernel_rfl) (by kernel_rfl) (by kernel_rfl) (door_met os _)) ?_
  intro w tape i _ hsh _ hok hpre _
  obtain ⟨_,_,_,fn',hfn',_,_,_,_,hval0⟩:=hok
  obtain rfl : fn' = Tryz.f5:=Option.some.inj (hfn'.symm.trans Tryz.func5)
  obtain ⟨⟨⟨ds,gs,before,hw,_⟩,hL0⟩,_⟩:=hpre
  have hW':=DataW.Whole.of_heap (w':=w.forCall tape i) (by rfl) hw
  have hL : laidMetH Tryz.prog laidL (w.forCall tape i):=hL0.of_heap (by rfl)
  obtain ⟨args,hargs⟩ : ∃ args,i.args = args:=⟨_,rfl⟩
  obtain ⟨W,hWW⟩ : ∃ W,w.forCall tape i = W:=⟨_,rfl⟩
  rw [hargs] at hW' hval0 ⊢
  rw [hWW] at hW' hval0 hL hsh ⊢
  clear hw hL0 hWW hargs
  have hG:=gl_of_laid hL hsh
  clear hL hsh
  have hval : ∀ (j : Nat) t v,Tryz.f5.params[j]? = some t->args[j]? = some v->Value.okWide Tryz.prog W .any w.heap.size t v:=hval0
  have hW:=hW'
  obtain ⟨p,q,hA0,hV,rfl,_,_⟩:=hW
  have hA : DataW.TrodAll enc Tryz.prog W 0 (fun _=>true) true Tryz.f5.params.toList args.toList ds p:=hA0
  rw [Tryz.params5] at hA hval
  obtain ⟨v0,v1,v2,d0,d1,d2,p0,p1,p2,rfl,rfl,rfl,h0,h1,h2⟩:=trodAll_three hA
  obtain ⟨rfl,rfl⟩:=trodVars_none hV
  clear hA0 hval0
  simp only [List.append_nil] at hW'
  have hlt : ∀ x ∈ p0 ++ p1 ++ p2,x.block < W.heap.size:=fun x hx=>by simpa using hW'.lt x hx
  have k0:=h0
  have k1:=h1
  have k2:=h2
  obtain ⟨s0,rfl,e0,_,z0⟩:=open_string Tryz.underlying9 (hval 0 9 v0 rfl rfl) k0
  obtain ⟨s1,rfl,e1,_,z1⟩:=open_string Tryz.underlying9 (hval 1 9 v1 rfl rfl) k1
  obtain ⟨s2,rfl,e2,_,z2⟩:=open_string Tryz.underlying9 (hval 2 9 v2 rfl rfl) k2
  refine (parts_any s0 s1 s2 W hG).mono fun e W' ⟨he,hb⟩=>?_
  subst he
  have g0:=Below.trod laidOut (by kernel_rfl) (of_decide_eq_true (by kernel_rfl)) h0 hb (fun x hx=>hlt x (List.mem_append_left _ (List.mem_append_left _ hx)))
  have g1:=Below.trod laidOut (by kernel_rfl) (of_decide_eq_true (by kernel_rfl)) h1 hb (fun x hx=>hlt x (List.mem_append_left _ (List.mem_append_right _ hx)))
  have g2:=Below.trod laidOut (by kernel_rfl) (of_decide_eq_true (by kernel_rfl)) h2 hb (fun x hx=>hlt x (List.mem_append_right _ hx))
  have hp : Rows.numPartsSpec.post enc Tryz.prog Tryz.f5 false true false false W #[.string s0,.string s1,.string s2] (.bool true) W' :=
    ⟨_,_,_,[],_,[],hW',trodAll_mk1 (shut_bool Tryz.underlying4 _),trodAll_mk3 g0 g1 g2,rfl,hb.frame _,fun h=>by cases h⟩
  exact ChangeSpec.post_blind hp

theorem numParts_holds : Rows.NumPartsSaid :=
  OpenClaim.holds_of_wide 5 Tryz.f5 rfl rfl rfl rfl rfl rfl rfl ⟨rfl,rfl,rfl,rfl,rfl⟩ rfl rfl rfl rfl rfl (by kernel_rfl) Tryz.func5 (by kernel_rfl)
    (of_decide_eq_true (by kernel_rfl)) (by unfold Func.isWrapper;first | (rw [if_pos (by decide +kernel)];kernel_rfl) | (rw [if_neg (by decide +kernel)];exact ⟨rfl,rfl⟩))
    (fun os started H enc _=>numParts_lifted os started H enc)

theorem numParts_card : Rows.NumPartsCardSaid :=
  Claim7.holds_tied_plain_at .later [] [.data,.data,.data,.sentinel,.sentinel,.data] true (true, "e7139b556e4086fd952740ece416d0302f716dc01af8d5fbb2b06789d2a7b8f6") true
    numParts_holds (fun _ h=>by cases h) (by kernel_rfl) (fun _ h=>by cases h) numParts_row_tie rfl ⟨rfl,rfl⟩ (by kernel_rfl) rfl
    (fun f fn hf hfn=>by
      obtain rfl : f = 5:=Option.some.inj ((show Tryz.prog.funcNamed "entail/entaillaw01.NumParts" = some 5 by kernel_rfl).symm.trans hf) |>.symm
      obtain rfl : fn = Tryz.f5:=(Option.some.inj (Tryz.func5.symm.trans hfn)).symm
      exact ⟨by kernel_rfl,fun j t ht=>by
        rw [Tryz.params5] at ht
        match j,ht with
        | 0, ht => obtain rfl : t = 9 := by simpa using ht.symm
                   exact (show Tryz.prog.wantsStandIn 9 = false by kernel_rfl)
        | 1, ht => obtain rfl : t = 9 := by simpa using ht.symm
                   exact (show Tryz.prog.wantsStandIn 9 = false by kernel_rfl)
        | 2, ht => obtain rfl : t = 9 := by simpa using ht.symm
                   exact (show Tryz.prog.wantsStandIn 9 = false by kernel_rfl)
        | j + 3,ht=>simp at ht⟩)
    (by kernel_rfl)
end Go.Proofs.YtpbegoflpfdajaaGreatDoor
