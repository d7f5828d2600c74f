/- WHAT IS PROVED: contracts of functions of the numbers package and laws for them, used by the last text of this claim. CONDITIONS: stated at each theorem. -/
import Derived.Laws.EntriesVeiled
import Derived.Test.YtpbegoflpfdajaaGreatDoorB12
import Derived.LoopTactic
import Derived.Test.YtpbegoflpfdajaaGreatDoorB01
namespace Go.Proofs.YtpbegoflpfdajaaGreatDoor
open Go.RowKit
open Go.Lib (decDigits nDigits decDigits_length)

theorem bits_w3 {w w1 : World} (k : Nat) (s1 s2 : ByteArray) (v0 v1 v2 : Value) (hB : Below (w.alloc (.cells #[.int .i64 (k : Int)] 3)).heap.size (w.alloc (.cells #[.int .i64 (k : Int)] 3)) w1) :
    Below w.heap.size w ((w1.alloc (.cells #[v0,v1,v2] 140)).alloc (.cells #[.string s1,.string s2] 9)) /\
    ((w1.alloc (.cells #[v0,v1,v2] 140)).alloc (.cells #[.string s1,.string s2] 9)).cell? ⟨w.heap.size,0,none⟩ = some (.int .i64 (k : Int)) /\
    w1.heap.size + 1 < ((w1.alloc (.cells #[v0,v1,v2] 140)).alloc (.cells #[.string s1,.string s2] 9)).heap.size /\
    ((w1.alloc (.cells #[v0,v1,v2] 140)).alloc (.cells #[.string s1,.string s2] 9)).cell? ⟨w1.heap.size + 1,0,none⟩ = some (.string s1) /\
    ((w1.alloc (.cells #[v0,v1,v2] 140)).alloc (.cells #[.string s1,.string s2] 9)).cell? ⟨w1.heap.size + 1,1,none⟩ = some (.string s2) /\
    (w1.alloc (.cells #[v0,v1,v2] 140)).cell? ⟨w.heap.size,0,none⟩ = some (.int .i64 (k : Int)) /\
    ((w1.alloc (.cells #[v0,v1,v2] 140)).alloc (.cells #[.string s1,.string s2] 9)).cell? ⟨w1.heap.size,1,none⟩ = some v1 /\
    ((w1.alloc (.cells #[v0,v1,v2] 140)).alloc (.cells #[.string s1,.string s2] 9)).cell? ⟨w1.heap.size,2,none⟩ = some v2:=by
  have hc : (w.alloc (.cells #[.int .i64 (k : Int)] 3)).cell? ⟨w.heap.size,0,none⟩ = some (.int .i64 (k : Int)):=by simp only [World.cell?,heap_alloc_at];rfl
  have c1:=cell_keep hc hB
  have c2:=cell_keep c1 ((Below.refl w1.heap.size w1).alloc (Nat.le_refl _) (.cells #[v0,v1,v2] 140))
  have c3:=cell_keep c2 ((Below.refl (w1.alloc (.cells #[v0,v1,v2] 140)).heap.size (w1.alloc (.cells #[v0,v1,v2] 140))).alloc (Nat.le_refl _) (.cells #[.string s1,.string s2] 9))
  have hb0 : Below w.heap.size w (w.alloc (.cells #[.int .i64 (k : Int)] 3)):=(Below.refl _ _).alloc (Nat.le_refl _) _
  have hb1:=hb0.trans (hB.mono hb0.size)
  have hb2:=hb1.alloc hb1.size (.cells #[v0,v1,v2] 140)
  have h9 : ((w1.alloc (.cells #[v0,v1,v2] 140)).alloc (.cells #[.string s1,.string s2] 9)).heap[w1.heap.size + 1]? = some (.cells #[.string s1,.string s2] 9 (0,0)):=heap_alloc_at' _ _ _ (by simp)
  have h8 : ((w1.alloc (.cells #[v0,v1,v2] 140)).alloc (.cells #[.string s1,.string s2] 9)).heap[w1.heap.size]? = some (.cells #[v0,v1,v2] 140 (0,0)):=by rw [heap_alloc_lt (by simp)];exact heap_alloc_at _ _
  refine ⟨hb2.alloc hb2.size _,c3,by simp,?_,?_,c2,?_,?_⟩
  · simp only [World.cell?,h9];rfl
  · simp only [World.cell?,h9];rfl
  · simp only [World.cell?,h8];rfl
  · simp only [World.cell?,h8];rfl
theorem bits_w8 {w3 w4 w5 w6 w7 w8 : World} (h4 : Below w3.heap.size w3 w4) (h5 : Below w4.heap.size w4 w5) (h6 : Below w5.heap.size w5 w6) (h7 : Below w6.heap.size w6 w7) (h8 : Below w7.heap.size w7 w8) : Below w3.heap.size w3 w8:=by
  have q5:=h4.trans (h5.mono h4.size)
  have q6:=q5.trans (h6.mono q5.size)
  have q7:=q6.trans (h7.mono q6.size)
  exact q7.trans (h8.mono q7.size)

set_option maxHeartbeats 2000000 in
set_option maxRecDepth 100000 in
theorem bits_ok (i : Nat) (hi10 : i < 10) (k : Nat) (hk1 : 1 <= k) (hk : k <= 64) (s1 s2 : ByteArray) (h1 : cbV s1.data.toList k = 0) (h2 : cbV s2.data.toList k = 0) (x y : Nat) (hx : valL s1.data.toList = x) (hy : valL s2.data.toList = y) (hdiv : opB i = true->y ≠ 0) (w : World) (hg : Gl w) :
    Calls Tryz.prog 57 #[.int .i64 i,.int .i64 k,.string s1,.string s2] w fun e w'=>e = .returned (.tuple #[.string ⟨(decDigits (opN i x y % 2 ^ k)).toArray⟩,.int .i64 0])/\Below w.heap.size w w':=by
  obtain ⟨hd1,hp1,hl1⟩:=cbV_zero _ k hk h1
  obtain ⟨hd2,hp2,hl2⟩:=cbV_zero _ k hk h2
  have hkp : 2 ^ k <= 18446744073709551616:=Nat.pow_le_pow_right (n:=2) (by omega) hk
  rw [hx] at hl1
  rw [hy] at hl2
  have hx64 : x < 18446744073709551616:=by omega
  have hy64 : y < 18446744073709551616:=by omega
  have hxb : x < bb ^ 30:=hx ▸ hd1.lt
  have hyb : y < bb ^ 30:=hy ▸ hd2.lt
  have cw:=fun w=>checkWidth_any (k : Int) w
  rw [ckWidth_ok k hk1 hk] at cw
  have Cw:=Lib.hid cw
  have Cf:=Lib.hid (fun p g w a b c d e=>firstOf_two k hk s1 s2 h1 h2 p g w a b c d e)
  have Cp1:=Lib.hid (fun w h=>parse_dig s1 hd1 hp1 x hx w h)
  have Cp2:=Lib.hid (fun w h=>parse_dig s2 hd2 hp2 y hy w h)
  have Cx:=Lib.hid (fun w=>wrapped_dig x hxb hx64 w)
  have Cy:=Lib.hid (fun w=>wrapped_dig y hyb hy64 w)
  have HB0:=Lib.hid (show Below w.heap.size w (w.alloc (.cells #[.int .i64 k] 3)) from (Below.refl _ _).alloc (Nat.le_refl _) _)
  have HG:=Lib.hid hg
  have HC0:=Lib.hid (show (w.alloc (.cells #[.int .i64 k] 3)).cell? ⟨w.heap.size,0,none⟩ = some (.int .i64 k) by simp only [World.cell?,heap_alloc_at];rfl)
  have Co:=Lib.hid (fun w=>op_any i hi10 x y hx64 hy64 hdiv w)
  have hv64:=opN_lt i x y hx64 hy64 (fun h=>hdiv (by rw [h];rfl))
  obtain ⟨v,hv⟩ : ∃ v,opN i x y = v:=⟨_,rfl⟩
  rw [hv] at Co hv64 ⊢
  have hand:=and_mask v k hv64 hk
  have hr64 : v % 2 ^ k < 18446744073709551616:=Nat.lt_of_le_of_lt (Nat.mod_le _ _) hv64
  obtain ⟨r,hr⟩ : ∃ r,v % 2 ^ k = r:=⟨_,rfl⟩
  rw [hr] at hand hr64 ⊢
  have cm:=fun w=>mask_any k hk w
  obtain ⟨m,hm0⟩ : ∃ m,2 ^ k - 1 = m:=⟨_,rfl⟩
  rw [hm0] at hand cm
  have Cm:=Lib.hid cm
  obtain ⟨T,hT⟩ : ∃ T : ByteArray,T = ⟨(decDigits r).toArray⟩:=⟨_,rfl⟩
  have CF : ∀ w,Gl w->Calls Tryz.prog 59 #[.int .u64 r,.int .i64 10] w fun e w'=>e = .returned (.string T)/\Below w.heap.size w w':=fun w h=>hT ▸ formatUint_any r hr64 w h
  have HT:=Lib.hid hT
  clear hv hr hm0 cm hT hkp
  clear cw hd1 hd2 hp1 hp2 h1 h2 hl1 hl2 hx hy hxb hyb hg
  go_enter Tryz.func57,Tryz.ntmps57
  go_wp2_with (first
    | (go_at_call 127;(with_reducible refine (operations_any _).mono ?_);rintro e w1 ⟨b,rfl,hm,hb1⟩;have F3:=Lib.hid (bits_w3 k s1 s2 (.int .i64 (i : Int)) (.bool (opB i)) (.func (.func (168 + i)) #[] #[]) hb1);have hck:=F3.out.2.2.2.2.2.1;have HG3:=Lib.hid (HG.out.keep F3.out.1);have hlk:=run_lookupI_in (P:=Tryz.prog) 142 3 140 opV i 10 b w1 Tryz.underlying142 Tryz.underlying3 hi10 hm;unfold opV at hlk;clear hb1 hm)
    | (go_at_call 123;(with_reducible refine (Cw.out _).mono ?_);rintro e w2 ⟨rfl,rfl⟩)
    | (go_at_call 85;(with_reducible refine (Cf.out ⟨w.heap.size,0,none⟩ (w1.heap.size + 1) _ HG3.out F3.out.2.2.1 F3.out.2.1 F3.out.2.2.2.1 F3.out.2.2.2.2.1).mono ?_);rintro e w4 ⟨rfl,hb4⟩;have HB4:=Lib.hid hb4;have HG4:=Lib.hid (HG3.out.keep hb4);clear hb4)
    | (go_at_call 72;(with_reducible refine (Cp1.out _ HG4.out).mono ?_);rintro e w5 ⟨rfl,hb5⟩;have HB5:=Lib.hid hb5;have HG5:=Lib.hid (HG4.out.keep hb5);clear hb5 HG4)
    | (go_at_call 124;(with_reducible refine (Cx.out _).mono ?_);rintro e w6 ⟨rfl,hb6⟩;have HB6:=Lib.hid hb6;have HG6:=Lib.hid (HG5.out.keep hb6);clear hb6 Cx)
    | (go_at_call 72;(with_reducible refine (Cp2.out _ HG6.out).mono ?_);rintro e w7 ⟨rfl,hb7⟩;have HB7:=Lib.hid hb7;have HG7:=Lib.hid (HG6.out.keep hb7);clear hb7 HG6)
    | (go_at_call 124;(with_reducible refine (Cy.out _).mono ?_);rintro e w8 ⟨rfl,hb8⟩;have HG8:=Lib.hid (HG7.out.keep hb8);have HQ:=Lib.hid (bits_w8 HB4.out HB5.out HB6.out HB7.out hb8);have hk8:=cell_keep F3.out.2.1 HQ.out;have ho8:=cell_keep F3.out.2.2.2.2.2.2.1 HQ.out;have hf8:=cell_keep F3.out.2.2.2.2.2.2.2 HQ.out;clear hb8 Cy))

  all_goals first
    | (exfalso;have h1:=hdiv (by assumption);have h2 : ((y : Int) == 0) = true:=by assumption
       rw [beq_iff_eq] at h2;omega)
    | skip
  all_goals (
    have hfo : Tryz.prog.follows Departure.mixedOrders = true:=by kernel_rfl
    have he:=op_enter i hi10
    have hkd : w8.drew.cell? ⟨w.heap.size,0,none⟩ = some (.int .i64 (k : Int)):=hk8
    have hfd : w8.drew.cell? ⟨w1.heap.size,2,none⟩ = some (.func (.func (168 + i)) #[] #[]):=hf8
    have HBd:=Lib.hid (show Below w.heap.size w w8.drew from (F3.out.1.trans (HQ.out.mono F3.out.1.size)).drew)
    have hgd:=HG8.out.keep (Below.refl w8.heap.size w8).drew
    refine wp_region_any hfo ?_
    change wpAny _ _ _ _ _ _ _ w8.drew
    generalize w8.drew = W at hkd hfd HBd hgd ⊢
    have Cf8:=Lib.hid (CF W hgd)
    clear hk8 ho8 hf8 hgd HG8 HQ hlk hck
    refine wpAny_take (i:=0) (v:=(.pointer (some ⟨w1.heap.size,2,none⟩))) rfl (by kernel_rfl) (by kernel_rfl) (by kernel_rfl) (fun _ _ _ h=>h) (Or.inl ⟨by rfl,fun wz=>by go_simp⟩) ?_
    try simp only [Act.put,List.getElem_toArray,List.getElem_cons_zero,List.setIfInBounds_toArray,List.set_cons_zero,List.set_cons_succ]
    refine wpAny_take (i:=2) (v:=(.int .u64 x)) rfl (by kernel_rfl) (by kernel_rfl) (by kernel_rfl) (fun _ _ _ h=>h) (Or.inl ⟨by rfl,fun wz=>by go_simp⟩) ?_
    try simp only [Act.put,List.getElem_toArray,List.getElem_cons_succ,List.getElem_cons_zero,List.setIfInBounds_toArray,List.set_cons_zero,List.set_cons_succ]
    refine wpAny_take (i:=3) (v:=(.int .u64 y)) rfl (by kernel_rfl) (by kernel_rfl) (by kernel_rfl) (fun _ _ _ h=>h) (Or.inl ⟨by rfl,fun wz=>by go_simp⟩) ?_
    try simp only [Act.put,List.getElem_toArray,List.getElem_cons_succ,List.getElem_cons_zero,List.setIfInBounds_toArray,List.set_cons_zero,List.set_cons_succ]
    refine wpAny_ready (rs:=[1,5]) (by kernel_rfl) (by simp) ?_
    refine AllReady.cons rfl (fun K hK=>?_) ?_
    · skip
      go_simp
      refine hK _ _ ?_;clear hK K
      try simp only [Act.put,List.getElem_toArray,List.getElem_cons_succ,List.getElem_cons_zero,List.setIfInBounds_toArray,List.set_cons_zero,List.set_cons_succ]
      refine wpAny_ready (rs:=[4,5]) (by kernel_rfl) (by simp) ?_
      refine AllReady.cons rfl (fun K hK=>?_) ?_
      · skip
        go_simp
        refine (Co.out W).mono ?_;rintro e w9 ⟨rfl,rfl⟩;try simp only []
        refine hK _ _ ?_;clear hK K
        try simp only [Act.put,List.getElem_toArray,List.getElem_cons_succ,List.getElem_cons_zero,List.setIfInBounds_toArray,List.set_cons_zero,List.set_cons_succ]
        refine wpAny_ready (rs:=[5]) (by kernel_rfl) (by simp) ?_
        refine AllReady.cons rfl (fun K hK=>?_) AllReady.nil
        go_simp
        refine hK _ _ ?_;clear hK K
        try simp only [Act.put,List.getElem_toArray,List.getElem_cons_succ,List.getElem_cons_zero,List.setIfInBounds_toArray,List.set_cons_zero,List.set_cons_succ]
        refine wpAny_ready (rs:=[6]) (by kernel_rfl) (by simp) ?_
        refine AllReady.cons rfl (fun K hK=>?_) AllReady.nil
        go_simp
        refine (Cm.out _).mono ?_;rintro e w10 ⟨rfl,rfl⟩;try simp only []
        refine hK _ _ ?_;clear hK K
        try simp only [Act.put,List.getElem_toArray,List.getElem_cons_succ,List.getElem_cons_zero,List.setIfInBounds_toArray,List.set_cons_zero,List.set_cons_succ]
        refine wpAny_take (i:=7) (v:=(.int .u64 r)) rfl (by kernel_rfl) (by kernel_rfl) (by kernel_rfl) (fun _ _ _ h=>h) (Or.inl ⟨by rfl,fun wz=>by go_simp⟩) ?_
        try simp only [Act.put,List.getElem_toArray,List.getElem_cons_succ,List.getElem_cons_zero,List.setIfInBounds_toArray,List.set_cons_zero,List.set_cons_succ]
        refine wpAny_ready (rs:=[8]) (by kernel_rfl) (by simp) ?_
        refine AllReady.cons rfl (fun K hK=>?_) AllReady.nil
        go_simp
        refine (Cf8.out).mono ?_;rintro e w11 ⟨rfl,hb11⟩;try simp only []
        refine hK _ _ ?_;clear hK K
        try simp only [Act.put,List.getElem_toArray,List.getElem_cons_succ,List.getElem_cons_zero,List.setIfInBounds_toArray,List.set_cons_zero,List.set_cons_succ]
        refine wpAny_take (i:=9) (v:=(.string T)) rfl (by kernel_rfl) (by kernel_rfl) (by kernel_rfl) (fun _ _ _ h=>h) (Or.inl ⟨by rfl,fun wz=>by go_simp⟩) ?_
        try simp only [Act.put,List.getElem_toArray,List.getElem_cons_succ,List.getElem_cons_zero,List.setIfInBounds_toArray,List.set_cons_zero,List.set_cons_succ]
        refine wpAny_take (i:=10) (v:=(.int .i64 0)) rfl (by kernel_rfl) (by kernel_rfl) (by kernel_rfl) (fun _ _ _ h=>h) (Or.inl ⟨by rfl,fun wz=>by go_simp⟩) ?_
        try simp only [Act.put,List.getElem_toArray,List.getElem_cons_succ,List.getElem_cons_zero,List.setIfInBounds_toArray,List.set_cons_zero,List.set_cons_succ]
        refine wpAny_done (by kernel_rfl) ?_ _
        go_wp2
        go_ret2
        exact ⟨by rw [HT.out];rfl,HBd.out.trans (hb11.mono HBd.out.size)⟩
      · refine AllReady.cons rfl (fun K hK=>?_) AllReady.nil
        go_simp
        refine hK _ _ ?_;clear hK K
        try simp only [Act.put,List.getElem_toArray,List.getElem_cons_succ,List.getElem_cons_zero,List.setIfInBounds_toArray,List.set_cons_zero,List.set_cons_succ]
        refine wpAny_ready (rs:=[4]) (by kernel_rfl) (by simp) ?_
        refine AllReady.cons rfl (fun K hK=>?_) AllReady.nil
        go_simp
        refine (Co.out W).mono ?_;rintro e w9 ⟨rfl,rfl⟩;try simp only []
        refine hK _ _ ?_;clear hK K
        try simp only [Act.put,List.getElem_toArray,List.getElem_cons_succ,List.getElem_cons_zero,List.setIfInBounds_toArray,List.set_cons_zero,List.set_cons_succ]
        refine wpAny_ready (rs:=[6]) (by kernel_rfl) (by simp) ?_
        refine AllReady.cons rfl (fun K hK=>?_) AllReady.nil
        go_simp
        refine (Cm.out _).mono ?_;rintro e w10 ⟨rfl,rfl⟩;try simp only []
        refine hK _ _ ?_;clear hK K
        try simp only [Act.put,List.getElem_toArray,List.getElem_cons_succ,List.getElem_cons_zero,List.setIfInBounds_toArray,List.set_cons_zero,List.set_cons_succ]
        refine wpAny_take (i:=7) (v:=(.int .u64 r)) rfl (by kernel_rfl) (by kernel_rfl) (by kernel_rfl) (fun _ _ _ h=>h) (Or.inl ⟨by rfl,fun wz=>by go_simp⟩) ?_
        try simp only [Act.put,List.getElem_toArray,List.getElem_cons_succ,List.getElem_cons_zero,List.setIfInBounds_toArray,List.set_cons_zero,List.set_cons_succ]
        refine wpAny_ready (rs:=[8]) (by kernel_rfl) (by simp) ?_
        refine AllReady.cons rfl (fun K hK=>?_) AllReady.nil
        go_simp
        refine (Cf8.out).mono ?_;rintro e w11 ⟨rfl,hb11⟩;try simp only []
        refine hK _ _ ?_;clear hK K
        try simp only [Act.put,List.getElem_toArray,List.getElem_cons_succ,List.getElem_cons_zero,List.setIfInBounds_toArray,List.set_cons_zero,List.set_cons_succ]
        refine wpAny_take (i:=9) (v:=(.string T)) rfl (by kernel_rfl) (by kernel_rfl) (by kernel_rfl) (fun _ _ _ h=>h) (Or.inl ⟨by rfl,fun wz=>by go_simp⟩) ?_
        try simp only [Act.put,List.getElem_toArray,List.getElem_cons_succ,List.getElem_cons_zero,List.setIfInBounds_toArray,List.set_cons_zero,List.set_cons_succ]
        refine wpAny_take (i:=10) (v:=(.int .i64 0)) rfl (by kernel_rfl) (by kernel_rfl) (by kernel_rfl) (fun _ _ _ h=>h) (Or.inl ⟨by rfl,fun wz=>by go_simp⟩) ?_
        try simp only [Act.put,List.getElem_toArray,List.getElem_cons_succ,List.getElem_cons_zero,List.setIfInBounds_toArray,List.set_cons_zero,List.set_cons_succ]
        refine wpAny_done (by kernel_rfl) ?_ _
        go_wp2
        go_ret2
        exact ⟨by rw [HT.out];rfl,HBd.out.trans (hb11.mono HBd.out.size)⟩
    · refine AllReady.cons rfl (fun K hK=>?_) AllReady.nil
      go_simp
      refine hK _ _ ?_;clear hK K
      try simp only [Act.put,List.getElem_toArray,List.getElem_cons_succ,List.getElem_cons_zero,List.setIfInBounds_toArray,List.set_cons_zero,List.set_cons_succ]
      refine wpAny_ready (rs:=[1]) (by kernel_rfl) (by simp) ?_
      refine AllReady.cons rfl (fun K hK=>?_) AllReady.nil
      go_simp
      refine hK _ _ ?_;clear hK K
      try simp only [Act.put,List.getElem_toArray,List.getElem_cons_succ,List.getElem_cons_zero,List.setIfInBounds_toArray,List.set_cons_zero,List.set_cons_succ]
      refine wpAny_ready (rs:=[4]) (by kernel_rfl) (by simp) ?_
      refine AllReady.cons rfl (fun K hK=>?_) AllReady.nil
      go_simp
      refine (Co.out W).mono ?_;rintro e w9 ⟨rfl,rfl⟩;try simp only []
      refine hK _ _ ?_;clear hK K
      try simp only [Act.put,List.getElem_toArray,List.getElem_cons_succ,List.getElem_cons_zero,List.setIfInBounds_toArray,List.set_cons_zero,List.set_cons_succ]
      refine wpAny_ready (rs:=[6]) (by kernel_rfl) (by simp) ?_
      refine AllReady.cons rfl (fun K hK=>?_) AllReady.nil
      go_simp
      refine (Cm.out _).mono ?_;rintro e w10 ⟨rfl,rfl⟩;try simp only []
      refine hK _ _ ?_;clear hK K
      try simp only [Act.put,List.getElem_toArray,List.getElem_cons_succ,List.getElem_cons_zero,List.setIfInBounds_toArray,List.set_cons_zero,List.set_cons_succ]
      refine wpAny_take (i:=7) (v:=(.int .u64 r)) rfl (by kernel_rfl) (by kernel_rfl) (by kernel_rfl) (fun _ _ _ h=>h) (Or.inl ⟨by rfl,fun wz=>by go_simp⟩) ?_
      try simp only [Act.put,List.getElem_toArray,List.getElem_cons_succ,List.getElem_cons_zero,List.setIfInBounds_toArray,List.set_cons_zero,List.set_cons_succ]
      refine wpAny_ready (rs:=[8]) (by kernel_rfl) (by simp) ?_
      refine AllReady.cons rfl (fun K hK=>?_) AllReady.nil
      go_simp
      refine (Cf8.out).mono ?_;rintro e w11 ⟨rfl,hb11⟩;try simp only []
      refine hK _ _ ?_;clear hK K
      try simp only [Act.put,List.getElem_toArray,List.getElem_cons_succ,List.getElem_cons_zero,List.setIfInBounds_toArray,List.set_cons_zero,List.set_cons_succ]
      refine wpAny_take (i:=9) (v:=(.string T)) rfl (by kernel_rfl) (by kernel_rfl) (by kernel_rfl) (fun _ _ _ h=>h) (Or.inl ⟨by rfl,fun wz=>by go_simp⟩) ?_
      try simp only [Act.put,List.getElem_toArray,List.getElem_cons_succ,List.getElem_cons_zero,List.setIfInBounds_toArray,List.set_cons_zero,List.set_cons_succ]
      refine wpAny_take (i:=10) (v:=(.int .i64 0)) rfl (by kernel_rfl) (by kernel_rfl) (by kernel_rfl) (fun _ _ _ h=>h) (Or.inl ⟨by rfl,fun wz=>by go_simp⟩) ?_
      try simp only [Act.put,List.getElem_toArray,List.getElem_cons_succ,List.getElem_cons_zero,List.setIfInBounds_toArray,List.set_cons_zero,List.set_cons_succ]
      refine wpAny_done (by kernel_rfl) ?_ _
      go_wp2
      go_ret2
      exact ⟨by rw [HT.out];rfl,HBd.out.trans (hb11.mono HBd.out.size)⟩)
end Go.Proofs.YtpbegoflpfdajaaGreatDoor

namespace Go.Proofs.YtpbegoflpfdajaaGreatDoor
open Go.RowKit
open Go.Lib (decDigits nDigits decDigits_length)

set_option maxHeartbeats 2000000 in
set_option maxRecDepth 100000 in
theorem bits_zero (i : Nat) (hi10 : i < 10) (k : Nat) (hk1 : 1 <= k) (hk : k <= 64) (s1 s2 : ByteArray) (h1 : cbV s1.data.toList k = 0) (h2 : cbV s2.data.toList k = 0) (x y : Nat) (hx : valL s1.data.toList = x) (hy : valL s2.data.toList = y) (hB : opB i = true) (hy0 : y = 0) (w : World) (hg : Gl w) :
    Calls Tryz.prog 57 #[.int .i64 i,.int .i64 k,.string s1,.string s2] w fun e w'=>e = .returned (.tuple #[.string ⟨#[]⟩,.int .i64 30])/\Below w.heap.size w w':=by
  obtain ⟨hd1,hp1,hl1⟩:=cbV_zero _ k hk h1
  obtain ⟨hd2,hp2,hl2⟩:=cbV_zero _ k hk h2
  have hkp : 2 ^ k <= 18446744073709551616:=Nat.pow_le_pow_right (n:=2) (by omega) hk
  rw [hx] at hl1
  rw [hy] at hl2
  have hx64 : x < 18446744073709551616:=by omega
  have hy64 : y < 18446744073709551616:=by omega
  have hxb : x < bb ^ 30:=hx ▸ hd1.lt
  have hyb : y < bb ^ 30:=hy ▸ hd2.lt
  have cw:=fun w=>checkWidth_any (k : Int) w
  rw [ckWidth_ok k hk1 hk] at cw
  have Cw:=Lib.hid cw
  have Cf:=Lib.hid (fun p g w a b c d e=>firstOf_two k hk s1 s2 h1 h2 p g w a b c d e)
  have Cp1:=Lib.hid (fun w h=>parse_dig s1 hd1 hp1 x hx w h)
  have Cp2:=Lib.hid (fun w h=>parse_dig s2 hd2 hp2 y hy w h)
  have Cx:=Lib.hid (fun w=>wrapped_dig x hxb hx64 w)
  have Cy:=Lib.hid (fun w=>wrapped_dig y hyb hy64 w)
  have HB0:=Lib.hid (show Below w.heap.size w (w.alloc (.cells #[.int .i64 k] 3)) from (Below.refl _ _).alloc (Nat.le_refl _) _)
  have HG:=Lib.hid hg
  have HC0:=Lib.hid (show (w.alloc (.cells #[.int .i64 k] 3)).cell? ⟨w.heap.size,0,none⟩ = some (.int .i64 k) by simp only [World.cell?,heap_alloc_at];rfl)
  subst hy0
  clear cw hd1 hd2 hp1 hp2 h1 h2 hl1 hl2 hx hy hxb hyb hg
  go_enter Tryz.func57,Tryz.ntmps57
  go_wp2_with (first
    | (go_at_call 127;(with_reducible refine (operations_any _).mono ?_);rintro e w1 ⟨b,rfl,hm,hb1⟩;have F3:=Lib.hid (bits_w3 k s1 s2 (.int .i64 (i : Int)) (.bool true) (.func (.func (168 + i)) #[] #[]) hb1);have hck:=F3.out.2.2.2.2.2.1;have HG3:=Lib.hid (HG.out.keep F3.out.1);have hlk:=run_lookupI_in (P:=Tryz.prog) 142 3 140 opV i 10 b w1 Tryz.underlying142 Tryz.underlying3 hi10 hm;unfold opV at hlk;rw [hB] at hlk;clear hb1 hm)
    | (go_at_call 123;(with_reducible refine (Cw.out _).mono ?_);rintro e w2 ⟨rfl,rfl⟩)
    | (go_at_call 85;(with_reducible refine (Cf.out ⟨w.heap.size,0,none⟩ (w1.heap.size + 1) _ HG3.out F3.out.2.2.1 F3.out.2.1 F3.out.2.2.2.1 F3.out.2.2.2.2.1).mono ?_);rintro e w4 ⟨rfl,hb4⟩;have HB4:=Lib.hid hb4;have HG4:=Lib.hid (HG3.out.keep hb4);clear hb4)
    | (go_at_call 72;(with_reducible refine (Cp1.out _ HG4.out).mono ?_);rintro e w5 ⟨rfl,hb5⟩;have HB5:=Lib.hid hb5;have HG5:=Lib.hid (HG4.out.keep hb5);clear hb5 HG4)
    | (go_at_call 124;(with_reducible refine (Cx.out _).mono ?_);rintro e w6 ⟨rfl,hb6⟩;have HB6:=Lib.hid hb6;have HG6:=Lib.hid (HG5.out.keep hb6);clear hb6 Cx)
    | (go_at_call 72;(with_reducible refine (Cp2.out _ HG6.out).mono ?_);rintro e w7 ⟨rfl,hb7⟩;have HB7:=Lib.hid hb7;have HG7:=Lib.hid (HG6.out.keep hb7);clear hb7 HG6)
    | (go_at_call 124;(with_reducible refine (Cy.out _).mono ?_);rintro e w8 ⟨rfl,hb8⟩;have HG8:=Lib.hid (HG7.out.keep hb8);have HQ:=Lib.hid (bits_w8 HB4.out HB5.out HB6.out HB7.out hb8);have hk8:=cell_keep F3.out.2.1 HQ.out;have ho8:=cell_keep F3.out.2.2.2.2.2.2.1 HQ.out;have hf8:=cell_keep F3.out.2.2.2.2.2.2.2 HQ.out;clear hb8 Cy))

  go_ret2
  exact ⟨rfl,F3.out.1.trans (HQ.out.mono F3.out.1.size)⟩
end Go.Proofs.YtpbegoflpfdajaaGreatDoor

namespace Go.Proofs.YtpbegoflpfdajaaGreatDoor
open Go.RowKit
open Go.Lib (decDigits nDigits decDigits_length)

end Go.Proofs.YtpbegoflpfdajaaGreatDoor

namespace Go.Proofs.YtpbegoflpfdajaaGreatDoor
open Go.RowKit
open Go.Lib (decDigits nDigits decDigits_length)

end Go.Proofs.YtpbegoflpfdajaaGreatDoor

namespace Go.Proofs.YtpbegoflpfdajaaGreatDoor
open Go.RowKit

end Go.Proofs.YtpbegoflpfdajaaGreatDoor

/- Plain arithmetic: one digit of a long division. -/
namespace Go.Proofs.YtpbegoflpfdajaaGreatDoor

theorem two_top (n s : Nat) (hs : 2 <= s) (h : n < bb ^ s) : n / bb ^ (s - 2) = lim n (s - 1) * bb + lim n (s - 2):=by
  obtain ⟨k,rfl⟩ : ∃ k,s = k + 2:=⟨s - 2,by omega⟩
  have e1 : k + 2 - 1 = k + 1:=by omega
  have e2 : k + 2 - 2 = k:=by omega
  rw [e1,e2]
  have h1 : n / bb ^ k / bb = n / bb ^ (k + 1):=by rw [Nat.div_div_eq_div_mul,<- Nat.pow_succ]
  have h2 : n / bb ^ (k + 1) < bb:=(Nat.div_lt_iff_lt_mul (bb_pow_pos _)).2 (by rw [show bb * bb ^ (k + 1) = bb ^ (k + 2) by rw [Nat.mul_comm,<- Nat.pow_succ]];exact h)
  have h3 : lim n (k + 1) = n / bb ^ (k + 1):=by unfold lim;exact Nat.mod_eq_of_lt h2
  have h4:=Nat.div_add_mod (n / bb ^ k) bb
  rw [h1] at h4
  rw [h3]
  unfold lim
  rw [Nat.mul_comm] at h4
  omega
theorem top_le {R v s : Nat} (hs : 2 <= s) (hv : v < bb ^ s) (hR : R < v * bb) : R / bb ^ s <= lim v (s - 1):=by
  obtain ⟨k,rfl⟩ : ∃ k,s = k + 2:=⟨s - 2,by omega⟩
  have e1 : k + 2 - 1 = k + 1:=by omega
  rw [e1]
  have h2 : v / bb ^ (k + 1) < bb:=(Nat.div_lt_iff_lt_mul (bb_pow_pos _)).2 (by rw [show bb * bb ^ (k + 1) = bb ^ (k + 2) by rw [Nat.mul_comm,<- Nat.pow_succ]];exact hv)
  have h3 : lim v (k + 1) = v / bb ^ (k + 1):=by unfold lim;exact Nat.mod_eq_of_lt h2
  rw [h3]
  apply Nat.le_of_lt_succ
  rw [Nat.div_lt_iff_lt_mul (bb_pow_pos _)]
  have h5 : v < (v / bb ^ (k + 1) + 1) * bb ^ (k + 1):=by
    have:=Nat.div_add_mod v (bb ^ (k + 1))
    have:=Nat.mod_lt v (bb_pow_pos (k + 1))
    rw [Nat.add_mul,Nat.one_mul,Nat.mul_comm (v / bb ^ (k + 1))]
    omega
  have h6 : v * bb < (v / bb ^ (k + 1) + 1) * bb ^ (k + 1) * bb:=Nat.mul_lt_mul_of_pos_right h5 bb_pos
  rw [Nat.mul_assoc,<- Nat.pow_succ] at h6
  exact Nat.lt_trans hR h6

structure Guess (R v s H D over : Nat) : Prop where
  sum : D * lim v (s - 1) + over = H
  up : R < (D + 1) * v

section
variable {R v s H D over : Nat}
theorem top_pos (hs : 2 <= s) (hv1 : bb ^ (s - 1) <= v) (hv : v < bb ^ s) : 0 < lim v (s - 1):=by
  have:=two_top v s hs hv
  apply Nat.pos_of_ne_zero
  intro h0
  obtain ⟨k,rfl⟩ : ∃ k,s = k + 2:=⟨s - 2,by omega⟩
  have e1 : k + 2 - 1 = k + 1:=by omega
  have e2 : k + 2 - 2 = k:=by omega
  rw [h0,e2] at this
  have h2 : bb <= v / bb ^ k:=by
    rw [Nat.le_div_iff_mul_le (bb_pow_pos k),Nat.mul_comm,<- Nat.pow_succ];rw [e1] at hv1;exact hv1
  have:=lim_lt v k
  omega
theorem rest_top (hs : 2 <= s) (hv : v < bb ^ s) (hR : R < v * bb) : R / bb ^ (s - 2) = (lim R s * bb + lim R (s - 1)) * bb + lim R (s - 2):=by
  have h1 : R < bb ^ (s + 1):=by
    rw [Nat.pow_succ];exact Nat.lt_trans hR (Nat.mul_lt_mul_of_pos_right hv bb_pos)
  obtain ⟨k,rfl⟩ : ∃ k,s = k + 2:=⟨s - 2,by omega⟩
  have e1 : k + 2 - 1 = k + 1:=by omega
  have e2 : k + 2 - 2 = k:=by omega
  have t:=two_top R (k + 2 + 1) (by omega) h1
  have e3 : k + 2 + 1 - 2 = k + 1:=by omega
  have e4 : k + 2 + 1 - 1 = k + 2:=by omega
  rw [e3,e4] at t
  rw [e1,e2]
  rw [<- t]
  have h4:=Nat.div_add_mod (R / bb ^ k) bb
  rw [Nat.div_div_eq_div_mul,<- Nat.pow_succ,Nat.mul_comm] at h4
  show R / bb ^ k = R / bb ^ (k + 1) * bb + R / bb ^ k % bb
  exact h4.symm
theorem lt_up {a b c : Nat} (h : R / bb ^ c < a) (hv : a * bb ^ c <= b) : R < b :=
  Nat.lt_of_lt_of_le ((Nat.div_lt_iff_lt_mul (bb_pow_pos c)).1 h) hv
theorem two_le (hs : 2 <= s) (hv : v < bb ^ s) : (lim v (s - 1) * bb + lim v (s - 2)) * bb ^ (s - 2) <= v:=by
  rw [<- two_top v s hs hv];exact Nat.div_mul_le_self v _
theorem one_le (hs : 2 <= s) (hv : v < bb ^ s) : lim v (s - 1) * bb ^ (s - 1) <= v:=by
  refine Nat.le_trans ?_ (two_le hs hv)
  obtain ⟨k,rfl⟩ : ∃ k,s = k + 2:=⟨s - 2,by omega⟩
  have e1 : k + 2 - 1 = k + 1:=by omega
  have e2 : k + 2 - 2 = k:=by omega
  rw [e1,e2,Nat.pow_succ,Nat.add_mul,Nat.mul_assoc,Nat.mul_comm bb]
  omega
theorem Guess.first (hs : 2 <= s) (hv1 : bb ^ (s - 1) <= v) (hv : v < bb ^ s) (hR : R < v * bb) (hH : H = lim R s * bb + lim R (s - 1)) : Guess R v s H (H / lim v (s - 1)) (H % lim v (s - 1)):=by
  have tp:=top_pos hs hv1 hv
  refine ⟨by rw [Nat.mul_comm];exact Nat.div_add_mod _ _,?_⟩
  have r:=rest_top hs hv hR
  rw [<- hH] at r
  have h1 : R / bb ^ (s - 1) < H + 1:=by
    obtain ⟨k,rfl⟩ : ∃ k,s = k + 2:=⟨s - 2,by omega⟩
    have e1 : k + 2 - 1 = k + 1:=by omega
    have e2 : k + 2 - 2 = k:=by omega
    rw [e2] at r
    rw [e1,Nat.pow_succ,<- Nat.div_div_eq_div_mul,r]
    rw [Nat.div_lt_iff_lt_mul bb_pos,Nat.add_mul]
    have:=lim_lt R k
    omega
  refine lt_up h1 ?_
  have h2 : H + 1 <= (H / lim v (s - 1) + 1) * lim v (s - 1):=by
    have:=Nat.div_add_mod H (lim v (s - 1))
    have:=Nat.mod_lt H tp
    rw [Nat.add_mul,Nat.one_mul,Nat.mul_comm (H / _)]
    omega
  calc (H + 1) * bb ^ (s - 1) <= (H / lim v (s - 1) + 1) * lim v (s - 1) * bb ^ (s - 1):=Nat.mul_le_mul_right _ h2
    _ = (H / lim v (s - 1) + 1) * (lim v (s - 1) * bb ^ (s - 1)):=Nat.mul_assoc _ _ _
    _ <= (H / lim v (s - 1) + 1) * v:=Nat.mul_le_mul_left _ (one_le hs hv)
theorem head_lt (hs : 2 <= s) (hv : v < bb ^ s) (hR : R < v * bb) (hH : H = lim R s * bb + lim R (s - 1)) : H < (lim v (s - 1) + 1) * bb:=by
  have h1 : R < bb ^ (s + 1):=by
    rw [Nat.pow_succ];exact Nat.lt_trans hR (Nat.mul_lt_mul_of_pos_right hv bb_pos)
  have h2 : lim R s = R / bb ^ s:=by
    unfold lim;rw [Nat.mod_eq_of_lt];rw [Nat.div_lt_iff_lt_mul (bb_pow_pos _),Nat.mul_comm,<- Nat.pow_succ];exact h1
  have h3:=top_le hs hv hR
  rw [<- h2] at h3
  have:=lim_lt R (s - 1)
  have h4 : lim R s * bb <= lim v (s - 1) * bb:=Nat.mul_le_mul_right _ h3
  rw [hH,Nat.add_mul]
  omega
theorem Guess.big (hs : 2 <= s) (hv1 : bb ^ (s - 1) <= v) (hv : v < bb ^ s) (hR : R < v * bb) (hH : H = lim R s * bb + lim R (s - 1)) (g : Guess R v s H D over) (hD : bb <= D) : R < D * v/\over < bb/\D <= 2 * bb:=by
  have tp:=top_pos hs hv1 hv
  have hl:=head_lt hs hv hR hH
  have h1 : bb * v <= D * v:=Nat.mul_le_mul_right _ hD
  have h2 : bb * lim v (s - 1) <= D * lim v (s - 1):=Nat.mul_le_mul_right _ hD
  have h3:=g.sum
  rw [Nat.add_mul,Nat.one_mul,Nat.mul_comm] at hl
  refine ⟨by rw [Nat.mul_comm] at hR;omega,by omega,?_⟩
  apply Nat.le_of_not_lt;intro hlt
  have h4 : (2 * bb + 1) * lim v (s - 1) <= D * lim v (s - 1):=Nat.mul_le_mul_right _ hlt
  have h5 : bb <= bb * lim v (s - 1):=Nat.le_mul_of_pos_right _ tp
  have h6 : (2 * bb + 1) * lim v (s - 1) = bb * lim v (s - 1) + bb * lim v (s - 1) + lim v (s - 1):=by rw [Nat.add_mul,Nat.mul_assoc,Nat.two_mul,Nat.one_mul]
  omega
theorem Guess.over' (hs : 2 <= s) (hv : v < bb ^ s) (hR : R < v * bb) (hH : H = lim R s * bb + lim R (s - 1)) (g : Guess R v s H D over) (h : over * bb + lim R (s - 2) < D * lim v (s - 2)) : R < D * v:=by
  have r:=rest_top hs hv hR
  rw [<- hH] at r
  have e : D * (lim v (s - 1) * bb + lim v (s - 2)) = D * lim v (s - 1) * bb + D * lim v (s - 2):=by rw [Nat.mul_add,Nat.mul_assoc]
  have hs2 : H * bb = D * lim v (s - 1) * bb + over * bb:=by rw [<- g.sum,Nat.add_mul]
  refine lt_up (c:=s - 2) (a:=D * (lim v (s - 1) * bb + lim v (s - 2))) (by omega) ?_
  rw [Nat.mul_assoc]
  exact Nat.mul_le_mul_left _ (two_le hs hv)
theorem Guess.less (g : Guess R v s H D over) (hb : R < D * v) : 0 < D/\Guess R v s H (D - 1) (over + lim v (s - 1)):=by
  have h0 : 0 < D:=by
    apply Nat.pos_of_ne_zero;intro h;rw [h,Nat.zero_mul] at hb;omega
  obtain ⟨d,rfl⟩ : ∃ d,D = d + 1:=⟨D - 1,by omega⟩
  refine ⟨h0,?_,hb⟩
  have:=g.sum
  rw [Nat.add_mul,Nat.one_mul] at this
  rw [Nat.add_sub_cancel]
  omega
theorem Guess.done (hs : 2 <= s) (hv1 : bb ^ (s - 1) <= v) (hv : v < bb ^ s) (hR : R < v * bb) (hH : H = lim R s * bb + lim R (s - 1)) (g : Guess R v s H D over) (hD : D < bb) (h : D * lim v (s - 2) <= over * bb + lim R (s - 2)) : D * v <= R + v:=by
  have r:=rest_top hs hv hR
  rw [<- hH] at r
  have e : D * (lim v (s - 1) * bb + lim v (s - 2)) = D * lim v (s - 1) * bb + D * lim v (s - 2):=by rw [Nat.mul_add,Nat.mul_assoc]
  have hs2 : H * bb = D * lim v (s - 1) * bb + over * bb:=by rw [<- g.sum,Nat.add_mul]
  have h1 : D * (v / bb ^ (s - 2)) <= R / bb ^ (s - 2):=by rw [two_top v s hs hv];omega
  have h2 : D * (v / bb ^ (s - 2)) * bb ^ (s - 2) <= R:=Nat.le_trans (Nat.mul_le_mul_right _ h1) (Nat.div_mul_le_self _ _)
  have h3 : D * v = D * (v / bb ^ (s - 2)) * bb ^ (s - 2) + D * (v % bb ^ (s - 2)):=by
    rw [Nat.mul_assoc,<- Nat.mul_add,Nat.mul_comm (v / _),Nat.div_add_mod]
  have h4 : D * (v % bb ^ (s - 2)) <= bb * bb ^ (s - 2):=Nat.mul_le_mul (by omega) (Nat.le_of_lt (Nat.mod_lt _ (bb_pow_pos _)))
  have h5 : bb * bb ^ (s - 2) <= v:=by
    obtain ⟨k,rfl⟩ : ∃ k,s = k + 2:=⟨s - 2,by omega⟩
    have e1 : k + 2 - 1 = k + 1:=by omega
    have e2 : k + 2 - 2 = k:=by omega
    rw [e2,Nat.mul_comm,<- Nat.pow_succ];rw [e1] at hv1;exact hv1
  omega
theorem Guess.stop (hs : 2 <= s) (hv1 : bb ^ (s - 1) <= v) (hv : v < bb ^ s) (hR : R < v * bb) (hH : H = lim R s * bb + lim R (s - 1)) (g : Guess R v s H D over) (ho : bb <= over) : D < bb/\D * v <= R + v:=by
  have hD : D < bb:=by
    apply Nat.lt_of_not_le;intro hle
    have:=(g.big hs hv1 hv hR hH hle).2.1
    omega
  refine ⟨hD,g.done hs hv1 hv hR hH hD ?_⟩
  have h1 : D * lim v (s - 2) <= bb * bb:=Nat.mul_le_mul (by omega) (Nat.le_of_lt (lim_lt _ _))
  have h2 : bb * bb <= over * bb:=Nat.mul_le_mul_right _ ho
  omega
end
end Go.Proofs.YtpbegoflpfdajaaGreatDoor
