/- WHAT IS PROVED: contracts of functions of the numbers package and laws for them, used by the last text of this claim. CONDITIONS: stated at each theorem. -/
import Derived.Test.YtpbegoflpfdajaaGreatDoorB22
namespace Go.Proofs.YtpbegoflpfdajaaGreatDoor
open Go.RowKit

theorem wal {op : Oper} {a : Act} {w : World} {K : Act->World->Prop} {Q : Exit->Act->World->Prop} (t : TypeId) (z : Array Value) (ho : op.op = .alloc t) (hz : ∀ w,(zeroValue t).run Tryz.prog w = .ok (.agg z) w) (h : K (a.put op.dst (.pointer (some ⟨w.heap.size,0,none⟩))) (w.alloc (.cells z t))) : op.wp Tryz.prog a w K Q:=by
  unfold Oper.wp execOp
  simp only [ho]
  go_simp
  exact h
theorem sz_keep {n : Nat} {W w1 : World} (h : n <= W.heap.size) (hb : Below W.heap.size W w1) : n <= w1.heap.size:=Nat.le_trans h hb.size
theorem sz_setk {n : Nat} {W : World} (h : n <= W.heap.size) {b o : Nat} {vs : List Value} (_ : True) : n <= (W.setCells b o vs).heap.size:=by rw [size_setCells];exact h
def addF (p1 : Nat) (s1 : Bool) (q1 : Nat) (p2 : Nat) (s2 : Bool) (q2 : Nat) : Nat × Bool:=addR (p1 * q2) (mulS s1 false (p1 * q2)) (p2 * q1) (mulS s2 false (p2 * q1))
theorem addR_lt28 {a b : Nat} {s t : Bool} (ha : a < bb ^ 28) (hb : b < bb ^ 28) : (addR a s b t).1 < bb ^ 29:=by
  have h : bb ^ 28 * 2 <= bb ^ 29:=by rw [Nat.pow_succ bb 28];exact Nat.mul_le_mul_left _ (by unfold bb;omega)
  unfold addR
  split
  · simp only;omega
  · split
    · simp only;omega
    · simp only;omega
theorem plusS28 (a : Nat) (s : Bool) (b : Nat) (t : Bool) (ha : a < bb ^ 28) (hb : b < bb ^ 28) (w : World) :
    Calls Tryz.prog 78 #[.agg (sgL a s).toArray,.agg (sgL b t).toArray] w fun e w'=>e = .returned (.agg (sgL (addR a s b t).1 (addR a s b t).2).toArray)/\Below w.heap.size w w':=by
  by_cases hs : s = t
  · rw [show addR a s b t = (a + b,s && !decide (a + b = 0)) by unfold addR;rw [if_pos hs]]
    refine plusS_same a b s t hs ?_ w
    have h : bb ^ 28 * 2 <= bb ^ 29:=by rw [Nat.pow_succ bb 28];exact Nat.mul_le_mul_left _ (by unfold bb;omega)
    have h2 : bb ^ 29 <= bb ^ 30:=pow_mono (by omega)
    omega
  · by_cases h : b <= a
    · rw [show addR a s b t = (max a b - min a b,s && !decide (max a b - min a b = 0)) by unfold addR;rw [if_neg hs,if_pos h]]
      exact plusS_ge a b s t hs h (lt30 ha) (lt30 hb) w
    · rw [show addR a s b t = (max b a - min b a,t && !decide (max b a - min b a = 0)) by unfold addR;rw [if_neg hs,if_neg h]]
      have:=plusS_lt a b s t hs (by omega) (lt30 ha) (lt30 hb) w
      rwa [Nat.max_comm,Nat.min_comm] at this

set_option maxHeartbeats 8000000 in
set_option maxRecDepth 20000 in
theorem plus_frac (p1 : Nat) (s1 : Bool) (q1 : Nat) (p2 : Nat) (s2 : Bool) (q2 : Nat) (h1 : p1 < bb ^ 14) (h2 : q1 < bb ^ 14) (h3 : p2 < bb ^ 14) (h4 : q2 < bb ^ 14) (h0 : 0 < q1) (h5 : 0 < q2) (w : World) :
    Calls Tryz.prog 99 #[.agg (frL p1 s1 q1 false).toArray,.agg (frL p2 s2 q2 false).toArray] w fun e w'=>e = .returned (.agg (frR (addF p1 s1 q1 p2 s2 q2).1 (addF p1 s1 q1 p2 s2 q2).2 (q1 * q2) false).toArray)/\Below w.heap.size w w':=by
  have C1:=Lib.hid (fun w=>mulS_any p1 q2 s1 false h1 h4 w)
  have C2:=Lib.hid (fun w=>mulS_any p2 q1 s2 false h3 h2 w)
  have c3:=fun w=>plusS28 (p1 * q2) (mulS s1 false (p1 * q2)) (p2 * q1) (mulS s2 false (p2 * q1)) (lt28 h1 h4) (lt28 h3 h2) w
  have hl:=addR_lt28 (s:=mulS s1 false (p1 * q2)) (t:=mulS s2 false (p2 * q1)) (lt28 h1 h4) (lt28 h3 h2)
  have C4:=Lib.hid (fun w=>mulS_any q1 q2 false false h2 h4 w)
  unfold addF
  obtain ⟨⟨n,s⟩,hns⟩ : ∃ x,addR (p1 * q2) (mulS s1 false (p1 * q2)) (p2 * q1) (mulS s2 false (p2 * q1)) = x:=⟨_,rfl⟩
  rw [hns] at c3 hl ⊢
  have C3:=Lib.hid c3
  have c5:=fun w=>ratio_any n s (q1 * q2) (mulS false false (q1 * q2)) hl (lt29 (lt28 h2 h4)) (Nat.mul_pos h0 h5) w
  rw [show ratS n s (mulS false false (q1 * q2)) = ratS n s false from rfl] at c5
  unfold frR
  obtain ⟨a,ha⟩ : ∃ a,n / Nat.gcd n (q1 * q2) = a:=⟨_,rfl⟩
  obtain ⟨b,hb⟩ : ∃ b,(ratS n s false && !decide (n / Nat.gcd n (q1 * q2) = 0)) = b:=⟨_,rfl⟩
  obtain ⟨c,hc⟩ : ∃ c,q1 * q2 / Nat.gcd n (q1 * q2) = c:=⟨_,rfl⟩
  rw [hb,ha,hc] at c5
  dsimp only
  rw [hb,ha,hc]
  have C5:=Lib.hid c5
  have HB:=Lib.hid (show Below w.heap.size w (((w.alloc (.cells (frL p1 s1 q1 false).toArray 115)).alloc (.cells (frL p2 s2 q2 false).toArray 115)).alloc (.cells (frL 0 false 0 false).toArray 115)).drew from ((((Below.refl w.heap.size w).alloc (Nat.le_refl _) _).alloc (by simp) _).alloc (by simp;omega) _).drew)
  have HR1:=Lib.hid (show (((w.alloc (.cells (frL p1 s1 q1 false).toArray 115)).alloc (.cells (frL p2 s2 q2 false).toArray 115)).alloc (.cells (frL 0 false 0 false).toArray 115)).drew.rangeAt w.heap.size 0 (frL p1 s1 q1 false) from World.rangeAt_alloc (World.rangeAt_alloc (range_new w _ 115) _) _)
  have HR2:=Lib.hid (show (((w.alloc (.cells (frL p1 s1 q1 false).toArray 115)).alloc (.cells (frL p2 s2 q2 false).toArray 115)).alloc (.cells (frL 0 false 0 false).toArray 115)).drew.rangeAt (w.heap.size + 1) 0 (frL p2 s2 q2 false) from World.rangeAt_alloc (range_at (by simp) _ 115) _)
  have HT:=Lib.hid (show (((w.alloc (.cells (frL p1 s1 q1 false).toArray 115)).alloc (.cells (frL p2 s2 q2 false).toArray 115)).alloc (.cells (frL 0 false 0 false).toArray 115)).drew.there (w.heap.size + 2) 0 62 from there_at (by simp) _ 115 (by rw [frL_len]))
  have HS:=Lib.hid (show w.heap.size + 3 <= (((w.alloc (.cells (frL p1 s1 q1 false).toArray 115)).alloc (.cells (frL p2 s2 q2 false).toArray 115)).alloc (.cells (frL 0 false 0 false).toArray 115)).drew.heap.size by simp)
  clear c3 c5 ha hb hc hns hl
  go_enter Tryz.func99,Tryz.ntmps99
  go_wp2_with (first
    | ((with_reducible refine al_zb 115 _ (w.heap.size + 2) ?_ ?_ z115 ?_);(· exact ⟨rfl,rfl⟩);· (simp;done)))
  try simp only [Act.put,List.getElem_toArray,List.getElem_cons_succ,List.getElem_cons_zero,List.setIfInBounds_toArray,List.set_cons_zero,List.set_cons_succ]
  refine wp_region_held_drew (S:=(fun w'=>Below w.heap.size w w'/\w'.rangeAt w.heap.size 0 (frL p1 s1 q1 false)/\w'.rangeAt (w.heap.size + 1) 0 (frL p2 s2 q2 false)/\w'.there (w.heap.size + 2) 0 62/\w.heap.size + 3 <= w'.heap.size)) (by kernel_rfl) ?_ (fun hH=>?_)
  · exact ⟨HB.out,HR1.out,HR2.out,HT.out,HS.out⟩
  try dsimp only at hH
  refine wpAnyH_take (i:=0) (v:=(.pointer (some ⟨w.heap.size,0,none⟩))) rfl (by kernel_rfl) (by kernel_rfl) (by kernel_rfl) (fun _ _ _ h=>h) (Or.inl ⟨by rfl,fun wz hz=>by skip;go_simp⟩) hH ?_
  try simp only [Act.put,List.getElem_toArray,List.getElem_cons_zero,List.setIfInBounds_toArray,List.set_cons_zero,List.set_cons_succ]
  refine wpAnyH_take (i:=1) (v:=(.agg (sgL p1 s1).toArray)) rfl (by kernel_rfl) (by kernel_rfl) (by kernel_rfl) (fun _ _ _ h=>h) (yld88 w.heap.size 0 p1 s1 rfl ⟨_,rfl,rfl⟩ (fun wz hz=>fr_up (hz.2.1))) hH ?_
  try simp only [Act.put,List.getElem_toArray,List.getElem_cons_succ,List.getElem_cons_zero,List.setIfInBounds_toArray,List.set_cons_zero,List.set_cons_succ]
  refine wpAnyH_take (i:=2) (v:=(.pointer (some ⟨w.heap.size + 1,31,none⟩))) rfl (by kernel_rfl) (by kernel_rfl) (by kernel_rfl) (fun _ _ _ h=>h) (Or.inl ⟨by rfl,fun wz hz=>by skip;go_simp⟩) hH ?_
  try simp only [Act.put,List.getElem_toArray,List.getElem_cons_succ,List.getElem_cons_zero,List.setIfInBounds_toArray,List.set_cons_zero,List.set_cons_succ]
  refine wpAnyH_take (i:=3) (v:=(.agg (sgL q2 false).toArray)) rfl (by kernel_rfl) (by kernel_rfl) (by kernel_rfl) (fun _ _ _ h=>h) (yld88 (w.heap.size + 1) 31 q2 false rfl ⟨_,rfl,rfl⟩ (fun wz hz=>fr_lo (hz.2.2.1))) hH ?_
  try simp only [Act.put,List.getElem_toArray,List.getElem_cons_succ,List.getElem_cons_zero,List.setIfInBounds_toArray,List.set_cons_zero,List.set_cons_succ]
  refine wpAnyH_take (i:=5) (v:=(.pointer (some ⟨w.heap.size + 1,0,none⟩))) rfl (by kernel_rfl) (by kernel_rfl) (by kernel_rfl) (fun _ _ _ h=>h) (Or.inl ⟨by rfl,fun wz hz=>by skip;go_simp⟩) hH ?_
  try simp only [Act.put,List.getElem_toArray,List.getElem_cons_succ,List.getElem_cons_zero,List.setIfInBounds_toArray,List.set_cons_zero,List.set_cons_succ]
  refine wpAnyH_take (i:=6) (v:=(.agg (sgL p2 s2).toArray)) rfl (by kernel_rfl) (by kernel_rfl) (by kernel_rfl) (fun _ _ _ h=>h) (yld88 (w.heap.size + 1) 0 p2 s2 rfl ⟨_,rfl,rfl⟩ (fun wz hz=>fr_up (hz.2.2.1))) hH ?_
  try simp only [Act.put,List.getElem_toArray,List.getElem_cons_succ,List.getElem_cons_zero,List.setIfInBounds_toArray,List.set_cons_zero,List.set_cons_succ]
  refine wpAnyH_take (i:=7) (v:=(.pointer (some ⟨w.heap.size,31,none⟩))) rfl (by kernel_rfl) (by kernel_rfl) (by kernel_rfl) (fun _ _ _ h=>h) (Or.inl ⟨by rfl,fun wz hz=>by skip;go_simp⟩) hH ?_
  try simp only [Act.put,List.getElem_toArray,List.getElem_cons_succ,List.getElem_cons_zero,List.setIfInBounds_toArray,List.set_cons_zero,List.set_cons_succ]
  refine wpAnyH_take (i:=8) (v:=(.agg (sgL q1 false).toArray)) rfl (by kernel_rfl) (by kernel_rfl) (by kernel_rfl) (fun _ _ _ h=>h) (yld88 w.heap.size 31 q1 false rfl ⟨_,rfl,rfl⟩ (fun wz hz=>fr_lo (hz.2.1))) hH ?_
  try simp only [Act.put,List.getElem_toArray,List.getElem_cons_succ,List.getElem_cons_zero,List.setIfInBounds_toArray,List.set_cons_zero,List.set_cons_succ]
  refine wpAnyH_ready (rs:=[4,11]) (by kernel_rfl) (by simp) ?_
  refine AllReadyH.cons rfl (fun K hK=>?_) ?_
  · simp only [List.getElem_toArray,List.getElem_cons_succ,List.getElem_cons_zero]
    rw [if_pos (by rfl)]
    go_simp
    refine (C1.out _).mono ?_;rintro e w1 ⟨rfl,hb1⟩
    try simp only []
    refine hK.out _ _ ?_ (fun hH1=>?_)
    · exact ⟨(hH.1).trans (hb1.mono (hH.1).size),range_keep hH.2.1 hb1,range_keep hH.2.2.1 hb1,there_keep hH.2.2.2.1 hb1,sz_keep hH.2.2.2.2 hb1⟩
    clear hK K
    try simp only [Act.put,List.getElem_toArray,List.getElem_cons_succ,List.getElem_cons_zero,List.setIfInBounds_toArray,List.set_cons_zero,List.set_cons_succ]
    refine wpAnyH_ready (rs:=[9,11]) (by kernel_rfl) (by simp) ?_
    refine AllReadyH.cons rfl (fun K hK=>?_) ?_
    · simp only [List.getElem_toArray,List.getElem_cons_succ,List.getElem_cons_zero]
      rw [if_pos (by rfl)]
      go_simp
      refine (C2.out _).mono ?_;rintro e w2 ⟨rfl,hb2⟩
      try simp only []
      refine hK.out _ _ ?_ (fun hH2=>?_)
      · exact ⟨(hH1.1).trans (hb2.mono (hH1.1).size),range_keep hH1.2.1 hb2,range_keep hH1.2.2.1 hb2,there_keep hH1.2.2.2.1 hb2,sz_keep hH1.2.2.2.2 hb2⟩
      clear hK K
      try simp only [Act.put,List.getElem_toArray,List.getElem_cons_succ,List.getElem_cons_zero,List.setIfInBounds_toArray,List.set_cons_zero,List.set_cons_succ]
      refine wpAnyH_ready (rs:=[10,11]) (by kernel_rfl) (by simp) ?_
      refine AllReadyH.cons rfl (fun K hK=>?_) ?_
      · simp only [List.getElem_toArray,List.getElem_cons_succ,List.getElem_cons_zero]
        rw [if_pos (by rfl)]
        go_simp
        refine (C3.out _).mono ?_;rintro e w3 ⟨rfl,hb3⟩
        try simp only []
        refine hK.out _ _ ?_ (fun hH3=>?_)
        · exact ⟨(hH2.1).trans (hb3.mono (hH2.1).size),range_keep hH2.2.1 hb3,range_keep hH2.2.2.1 hb3,there_keep hH2.2.2.2.1 hb3,sz_keep hH2.2.2.2.2 hb3⟩
        clear hK K
        try simp only [Act.put,List.getElem_toArray,List.getElem_cons_succ,List.getElem_cons_zero,List.setIfInBounds_toArray,List.set_cons_zero,List.set_cons_succ]
        refine wpAnyH_ready (rs:=[11]) (by kernel_rfl) (by simp) ?_
        refine AllReadyH.cons rfl (fun K hK=>?_) AllReadyH.nil
        simp only [List.getElem_toArray,List.getElem_cons_succ,List.getElem_cons_zero]
        rw [if_pos (by rfl)]
        with_reducible refine wal 88 _ ?_ z88 ?_
        · rfl
        refine hK.out _ _ ?_ (fun hH4=>?_)
        · exact ⟨(hH3.1).alloc (hH3.1).size _,World.rangeAt_alloc hH3.2.1 _,World.rangeAt_alloc hH3.2.2.1 _,World.there_alloc hH3.2.2.2.1 _,sz_keep hH3.2.2.2.2 ((Below.refl _ _).alloc (Nat.le_refl _) _)⟩
        clear hK K
        have HA4:=Lib.hid (show (w3.alloc (.cells (sgL 0 false).toArray 88)).there (w3.heap.size) 0 31 from there_at (by first | rfl | simp) _ 88 (by rw [sgL_len]))
        have hx4:=hH3.2.2.2.2
        try simp only [Act.put,List.setIfInBounds_toArray,List.set_cons_zero,List.set_cons_succ]
        refine wpAnyH_ready (rs:=[12]) (by kernel_rfl) (by simp) ?_
        refine AllReadyH.cons rfl (fun K hK=>?_) AllReadyH.nil
        simp only [List.getElem_toArray,List.getElem_cons_succ,List.getElem_cons_zero]
        rw [if_pos (by rfl)]
        with_reducible refine wst88 (w3.heap.size) 0 n s ?_ HA4.out ?_
        · exact ⟨_,_,rfl,rfl,rfl⟩
        refine hK.out _ _ ?_ (fun hH5=>?_)
        · exact ⟨below_set hH4.1 (by omega) _ _,range_setk hH4.2.1 (by first | trivial | omega),range_setk hH4.2.2.1 (by first | trivial | omega),there_setk hH4.2.2.2.1 (by first | trivial | omega),sz_setk hH4.2.2.2.2 (by first | trivial | omega)⟩
        clear hK K
        try simp only [Act.put]
        refine wpAnyH_done (by kernel_rfl) ?_ _
        try simp only [Act.put,List.getElem_toArray,List.getElem_cons_succ,List.getElem_cons_zero,List.setIfInBounds_toArray,List.set_cons_zero,List.set_cons_succ]
        have HN:=Lib.hid (show ((w3.alloc (.cells (sgL 0 false).toArray 88)).setCells (w3.heap.size) 0 (sgL n s)).rangeAt (w3.heap.size) 0 (sgL n s) from range_set HA4.out (by rw [sgL_len]))
        go_wp2_with fail
        refine wp_region_held_drew (S:=(fun w'=>Below w.heap.size w w'/\w'.rangeAt w.heap.size 0 (frL p1 s1 q1 false)/\w'.rangeAt (w.heap.size + 1) 0 (frL p2 s2 q2 false)/\w'.there (w.heap.size + 2) 0 62/\w.heap.size + 3 <= w'.heap.size/\w'.rangeAt (w3.heap.size) 0 (sgL n s))) (by kernel_rfl) ?_ (fun hH=>?_)
        · exact ⟨hH5.1.drew,hH5.2.1,hH5.2.2.1,hH5.2.2.2.1,hH5.2.2.2.2,HN.out⟩
        try dsimp only at hH
        refine wpAnyH_take (i:=0) (v:=(.agg (sgL n s).toArray)) rfl (by kernel_rfl) (by kernel_rfl) (by kernel_rfl) (fun _ _ _ h=>h) (yld88 (w3.heap.size) 0 n s rfl ⟨_,rfl,rfl⟩ (fun wz hz=>hz.2.2.2.2.2)) hH ?_
        try simp only [Act.put,List.getElem_toArray,List.getElem_cons_zero,List.setIfInBounds_toArray,List.set_cons_zero,List.set_cons_succ]
        refine wpAnyH_take (i:=1) (v:=(.pointer (some ⟨w.heap.size,31,none⟩))) rfl (by kernel_rfl) (by kernel_rfl) (by kernel_rfl) (fun _ _ _ h=>h) (Or.inl ⟨by rfl,fun wz hz=>by skip;go_simp⟩) hH ?_
        try simp only [Act.put,List.getElem_toArray,List.getElem_cons_succ,List.getElem_cons_zero,List.setIfInBounds_toArray,List.set_cons_zero,List.set_cons_succ]
        refine wpAnyH_take (i:=2) (v:=(.agg (sgL q1 false).toArray)) rfl (by kernel_rfl) (by kernel_rfl) (by kernel_rfl) (fun _ _ _ h=>h) (yld88 w.heap.size 31 q1 false rfl ⟨_,rfl,rfl⟩ (fun wz hz=>fr_lo (hz.2.1))) hH ?_
        try simp only [Act.put,List.getElem_toArray,List.getElem_cons_succ,List.getElem_cons_zero,List.setIfInBounds_toArray,List.set_cons_zero,List.set_cons_succ]
        refine wpAnyH_take (i:=3) (v:=(.pointer (some ⟨w.heap.size + 1,31,none⟩))) rfl (by kernel_rfl) (by kernel_rfl) (by kernel_rfl) (fun _ _ _ h=>h) (Or.inl ⟨by rfl,fun wz hz=>by skip;go_simp⟩) hH ?_
        try simp only [Act.put,List.getElem_toArray,List.getElem_cons_succ,List.getElem_cons_zero,List.setIfInBounds_toArray,List.set_cons_zero,List.set_cons_succ]
        refine wpAnyH_take (i:=4) (v:=(.agg (sgL q2 false).toArray)) rfl (by kernel_rfl) (by kernel_rfl) (by kernel_rfl) (fun _ _ _ h=>h) (yld88 (w.heap.size + 1) 31 q2 false rfl ⟨_,rfl,rfl⟩ (fun wz hz=>fr_lo (hz.2.2.1))) hH ?_
        try simp only [Act.put,List.getElem_toArray,List.getElem_cons_succ,List.getElem_cons_zero,List.setIfInBounds_toArray,List.set_cons_zero,List.set_cons_succ]
        refine wpAnyH_ready (rs:=[5]) (by kernel_rfl) (by simp) ?_
        refine AllReadyH.cons rfl (fun K hK=>?_) AllReadyH.nil
        simp only [List.getElem_toArray,List.getElem_cons_succ,List.getElem_cons_zero]
        rw [if_pos (by rfl)]
        go_simp
        refine (C4.out _).mono ?_;rintro e w1 ⟨rfl,hb1⟩
        try simp only []
        refine hK.out _ _ ?_ (fun hH1=>?_)
        · exact ⟨(hH.1).trans (hb1.mono (hH.1).size),range_keep hH.2.1 hb1,range_keep hH.2.2.1 hb1,there_keep hH.2.2.2.1 hb1,sz_keep hH.2.2.2.2.1 hb1,range_keep hH.2.2.2.2.2 hb1⟩
        clear hK K
        try simp only [Act.put,List.getElem_toArray,List.getElem_cons_succ,List.getElem_cons_zero,List.setIfInBounds_toArray,List.set_cons_zero,List.set_cons_succ]
        refine wpAnyH_ready (rs:=[6]) (by kernel_rfl) (by simp) ?_
        refine AllReadyH.cons rfl (fun K hK=>?_) AllReadyH.nil
        simp only [List.getElem_toArray,List.getElem_cons_succ,List.getElem_cons_zero]
        rw [if_pos (by rfl)]
        go_simp
        refine (C5.out _).mono ?_;rintro e w2 ⟨rfl,hb2⟩
        try simp only []
        refine hK.out _ _ ?_ (fun hH2=>?_)
        · exact ⟨(hH1.1).trans (hb2.mono (hH1.1).size),range_keep hH1.2.1 hb2,range_keep hH1.2.2.1 hb2,there_keep hH1.2.2.2.1 hb2,sz_keep hH1.2.2.2.2.1 hb2,range_keep hH1.2.2.2.2.2 hb2⟩
        clear hK K
        try simp only [Act.put,List.getElem_toArray,List.getElem_cons_succ,List.getElem_cons_zero,List.setIfInBounds_toArray,List.set_cons_zero,List.set_cons_succ]
        refine wpAnyH_ready (rs:=[7]) (by kernel_rfl) (by simp) ?_
        refine AllReadyH.cons rfl (fun K hK=>?_) AllReadyH.nil
        simp only [List.getElem_toArray,List.getElem_cons_succ,List.getElem_cons_zero]
        rw [if_pos (by rfl)]
        with_reducible refine wst115 (w.heap.size + 2) 0 a b c false ?_ hH2.2.2.2.1 ?_
        · exact ⟨_,_,rfl,rfl,rfl⟩
        refine hK.out _ _ ?_ (fun hH3=>?_)
        · exact ⟨below_set hH2.1 (by omega) _ _,range_setk hH2.2.1 (by first | trivial | omega),range_setk hH2.2.2.1 (by first | trivial | omega),there_setk hH2.2.2.2.1 (by first | trivial | omega),sz_setk hH2.2.2.2.2.1 (by first | trivial | omega),range_setk hH2.2.2.2.2.2 (by first | trivial | omega)⟩
        clear hK K
        try simp only [Act.put]
        refine wpAnyH_done (by kernel_rfl) ?_ _
        go_wp2
        exact ret115 Tryz.results99 (w.heap.size + 2) 0 rfl a b c false (range_set hH2.2.2.2.1 (by rw [frL_len])) rfl ⟨rfl,hH3.1⟩
      refine AllReadyH.cons rfl (fun K hK=>?_) AllReadyH.nil
      simp only [List.getElem_toArray,List.getElem_cons_succ,List.getElem_cons_zero]
      rw [if_pos (by rfl)]
      with_reducible refine wal 88 _ ?_ z88 ?_
      · rfl
      refine hK.out _ _ ?_ (fun hH6=>?_)
      · exact ⟨(hH2.1).alloc (hH2.1).size _,World.rangeAt_alloc hH2.2.1 _,World.rangeAt_alloc hH2.2.2.1 _,World.there_alloc hH2.2.2.2.1 _,sz_keep hH2.2.2.2.2 ((Below.refl _ _).alloc (Nat.le_refl _) _)⟩
      clear hK K
      have HA6:=Lib.hid (show (w2.alloc (.cells (sgL 0 false).toArray 88)).there (w2.heap.size) 0 31 from there_at (by first | rfl | simp) _ 88 (by rw [sgL_len]))
      have hx6:=hH2.2.2.2.2
      try simp only [Act.put,List.setIfInBounds_toArray,List.set_cons_zero,List.set_cons_succ]
      refine wpAnyH_ready (rs:=[10]) (by kernel_rfl) (by simp) ?_
      refine AllReadyH.cons rfl (fun K hK=>?_) AllReadyH.nil
      simp only [List.getElem_toArray,List.getElem_cons_succ,List.getElem_cons_zero]
      rw [if_pos (by rfl)]
      go_simp
      refine (C3.out _).mono ?_;rintro e w7 ⟨rfl,hb7⟩
      try simp only []
      refine hK.out _ _ ?_ (fun hH7=>?_)
      · exact ⟨(hH6.1).trans (hb7.mono (hH6.1).size),range_keep hH6.2.1 hb7,range_keep hH6.2.2.1 hb7,there_keep hH6.2.2.2.1 hb7,sz_keep hH6.2.2.2.2 hb7⟩
      clear hK K
      have HA7:=Lib.hid (there_keep HA6.out hb7)
      try simp only [Act.put,List.getElem_toArray,List.getElem_cons_succ,List.getElem_cons_zero,List.setIfInBounds_toArray,List.set_cons_zero,List.set_cons_succ]
      refine wpAnyH_ready (rs:=[12]) (by kernel_rfl) (by simp) ?_
      refine AllReadyH.cons rfl (fun K hK=>?_) AllReadyH.nil
      simp only [List.getElem_toArray,List.getElem_cons_succ,List.getElem_cons_zero]
      rw [if_pos (by rfl)]
      with_reducible refine wst88 (w2.heap.size) 0 n s ?_ HA7.out ?_
      · exact ⟨_,_,rfl,rfl,rfl⟩
      refine hK.out _ _ ?_ (fun hH8=>?_)
      · exact ⟨below_set hH7.1 (by omega) _ _,range_setk hH7.2.1 (by first | trivial | omega),range_setk hH7.2.2.1 (by first | trivial | omega),there_setk hH7.2.2.2.1 (by first | trivial | omega),sz_setk hH7.2.2.2.2 (by first | trivial | omega)⟩
      clear hK K
      try simp only [Act.put]
      refine wpAnyH_done (by kernel_rfl) ?_ _
      try simp only [Act.put,List.getElem_toArray,List.getElem_cons_succ,List.getElem_cons_zero,List.setIfInBounds_toArray,List.set_cons_zero,List.set_cons_succ]
      have HN:=Lib.hid (show (w7.setCells (w2.heap.size) 0 (sgL n s)).rangeAt (w2.heap.size) 0 (sgL n s) from range_set HA7.out (by rw [sgL_len]))
      go_wp2_with fail
      refine wp_region_held_drew (S:=(fun w'=>Below w.heap.size w w'/\w'.rangeAt w.heap.size 0 (frL p1 s1 q1 false)/\w'.rangeAt (w.heap.size + 1) 0 (frL p2 s2 q2 false)/\w'.there (w.heap.size + 2) 0 62/\w.heap.size + 3 <= w'.heap.size/\w'.rangeAt (w2.heap.size) 0 (sgL n s))) (by kernel_rfl) ?_ (fun hH=>?_)
      · exact ⟨hH8.1.drew,hH8.2.1,hH8.2.2.1,hH8.2.2.2.1,hH8.2.2.2.2,HN.out⟩
      try dsimp only at hH
      refine wpAnyH_take (i:=0) (v:=(.agg (sgL n s).toArray)) rfl (by kernel_rfl) (by kernel_rfl) (by kernel_rfl) (fun _ _ _ h=>h) (yld88 (w2.heap.size) 0 n s rfl ⟨_,rfl,rfl⟩ (fun wz hz=>hz.2.2.2.2.2)) hH ?_
      try simp only [Act.put,List.getElem_toArray,List.getElem_cons_zero,List.setIfInBounds_toArray,List.set_cons_zero,List.set_cons_succ]
      refine wpAnyH_take (i:=1) (v:=(.pointer (some ⟨w.heap.size,31,none⟩))) rfl (by kernel_rfl) (by kernel_rfl) (by kernel_rfl) (fun _ _ _ h=>h) (Or.inl ⟨by rfl,fun wz hz=>by skip;go_simp⟩) hH ?_
      try simp only [Act.put,List.getElem_toArray,List.getElem_cons_succ,List.getElem_cons_zero,List.setIfInBounds_toArray,List.set_cons_zero,List.set_cons_succ]
      refine wpAnyH_take (i:=2) (v:=(.agg (sgL q1 false).toArray)) rfl (by kernel_rfl) (by kernel_rfl) (by kernel_rfl) (fun _ _ _ h=>h) (yld88 w.heap.size 31 q1 false rfl ⟨_,rfl,rfl⟩ (fun wz hz=>fr_lo (hz.2.1))) hH ?_
      try simp only [Act.put,List.getElem_toArray,List.getElem_cons_succ,List.getElem_cons_zero,List.setIfInBounds_toArray,List.set_cons_zero,List.set_cons_succ]
      refine wpAnyH_take (i:=3) (v:=(.pointer (some ⟨w.heap.size + 1,31,none⟩))) rfl (by kernel_rfl) (by kernel_rfl) (by kernel_rfl) (fun _ _ _ h=>h) (Or.inl ⟨by rfl,fun wz hz=>by skip;go_simp⟩) hH ?_
      try simp only [Act.put,List.getElem_toArray,List.getElem_cons_succ,List.getElem_cons_zero,List.setIfInBounds_toArray,List.set_cons_zero,List.set_cons_succ]
      refine wpAnyH_take (i:=4) (v:=(.agg (sgL q2 false).toArray)) rfl (by kernel_rfl) (by kernel_rfl) (by kernel_rfl) (fun _ _ _ h=>h) (yld88 (w.heap.size + 1) 31 q2 false rfl ⟨_,rfl,rfl⟩ (fun wz hz=>fr_lo (hz.2.2.1))) hH ?_
      try simp only [Act.put,List.getElem_toArray,List.getElem_cons_succ,List.getElem_cons_zero,List.setIfInBounds_toArray,List.set_cons_zero,List.set_cons_succ]
      refine wpAnyH_ready (rs:=[5]) (by kernel_rfl) (by simp) ?_
      refine AllReadyH.cons rfl (fun K hK=>?_) AllReadyH.nil
      simp only [List.getElem_toArray,List.getElem_cons_succ,List.getElem_cons_zero]
      rw [if_pos (by rfl)]
      go_simp
      refine (C4.out _).mono ?_;rintro e w1 ⟨rfl,hb1⟩
      try simp only []
      refine hK.out _ _ ?_ (fun hH1=>?_)
      · exact ⟨(hH.1).trans (hb1.mono (hH.1).size),range_keep hH.2.1 hb1,range_keep hH.2.2.1 hb1,there_keep hH.2.2.2.1 hb1,sz_keep hH.2.2.2.2.1 hb1,range_keep hH.2.2.2.2.2 hb1⟩
      clear hK K
      try simp only [Act.put,List.getElem_toArray,List.getElem_cons_succ,List.getElem_cons_zero,List.setIfInBounds_toArray,List.set_cons_zero,List.set_cons_succ]
      refine wpAnyH_ready (rs:=[6]) (by kernel_rfl) (by simp) ?_
      refine AllReadyH.cons rfl (fun K hK=>?_) AllReadyH.nil
      simp only [List.getElem_toArray,List.getElem_cons_succ,List.getElem_cons_zero]
      rw [if_pos (by rfl)]
      go_simp
      refine (C5.out _).mono ?_;rintro e w2 ⟨rfl,hb2⟩
      try simp only []
      refine hK.out _ _ ?_ (fun hH2=>?_)
      · exact ⟨(hH1.1).trans (hb2.mono (hH1.1).size),range_keep hH1.2.1 hb2,range_keep hH1.2.2.1 hb2,there_keep hH1.2.2.2.1 hb2,sz_keep hH1.2.2.2.2.1 hb2,range_keep hH1.2.2.2.2.2 hb2⟩
      clear hK K
      try simp only [Act.put,List.getElem_toArray,List.getElem_cons_succ,List.getElem_cons_zero,List.setIfInBounds_toArray,List.set_cons_zero,List.set_cons_succ]
      refine wpAnyH_ready (rs:=[7]) (by kernel_rfl) (by simp) ?_
      refine AllReadyH.cons rfl (fun K hK=>?_) AllReadyH.nil
      simp only [List.getElem_toArray,List.getElem_cons_succ,List.getElem_cons_zero]
      rw [if_pos (by rfl)]
      with_reducible refine wst115 (w.heap.size + 2) 0 a b c false ?_ hH2.2.2.2.1 ?_
      · exact ⟨_,_,rfl,rfl,rfl⟩
      refine hK.out _ _ ?_ (fun hH3=>?_)
      · exact ⟨below_set hH2.1 (by omega) _ _,range_setk hH2.2.1 (by first | trivial | omega),range_setk hH2.2.2.1 (by first | trivial | omega),there_setk hH2.2.2.2.1 (by first | trivial | omega),sz_setk hH2.2.2.2.2.1 (by first | trivial | omega),range_setk hH2.2.2.2.2.2 (by first | trivial | omega)⟩
      clear hK K
      try simp only [Act.put]
      refine wpAnyH_done (by kernel_rfl) ?_ _
      go_wp2
      exact ret115 Tryz.results99 (w.heap.size + 2) 0 rfl a b c false (range_set hH2.2.2.2.1 (by rw [frL_len])) rfl ⟨rfl,hH3.1⟩
    refine AllReadyH.cons rfl (fun K hK=>?_) AllReadyH.nil
    simp only [List.getElem_toArray,List.getElem_cons_succ,List.getElem_cons_zero]
    rw [if_pos (by rfl)]
    with_reducible refine wal 88 _ ?_ z88 ?_
    · rfl
    refine hK.out _ _ ?_ (fun hH9=>?_)
    · exact ⟨(hH1.1).alloc (hH1.1).size _,World.rangeAt_alloc hH1.2.1 _,World.rangeAt_alloc hH1.2.2.1 _,World.there_alloc hH1.2.2.2.1 _,sz_keep hH1.2.2.2.2 ((Below.refl _ _).alloc (Nat.le_refl _) _)⟩
    clear hK K
    have HA9:=Lib.hid (show (w1.alloc (.cells (sgL 0 false).toArray 88)).there (w1.heap.size) 0 31 from there_at (by first | rfl | simp) _ 88 (by rw [sgL_len]))
    have hx9:=hH1.2.2.2.2
    try simp only [Act.put,List.setIfInBounds_toArray,List.set_cons_zero,List.set_cons_succ]
    refine wpAnyH_ready (rs:=[9]) (by kernel_rfl) (by simp) ?_
    refine AllReadyH.cons rfl (fun K hK=>?_) AllReadyH.nil
    simp only [List.getElem_toArray,List.getElem_cons_succ,List.getElem_cons_zero]
    rw [if_pos (by rfl)]
    go_simp
    refine (C2.out _).mono ?_;rintro e w10 ⟨rfl,hb10⟩
    try simp only []
    refine hK.out _ _ ?_ (fun hH10=>?_)
    · exact ⟨(hH9.1).trans (hb10.mono (hH9.1).size),range_keep hH9.2.1 hb10,range_keep hH9.2.2.1 hb10,there_keep hH9.2.2.2.1 hb10,sz_keep hH9.2.2.2.2 hb10⟩
    clear hK K
    have HA10:=Lib.hid (there_keep HA9.out hb10)
    try simp only [Act.put,List.getElem_toArray,List.getElem_cons_succ,List.getElem_cons_zero,List.setIfInBounds_toArray,List.set_cons_zero,List.set_cons_succ]
    refine wpAnyH_ready (rs:=[10]) (by kernel_rfl) (by simp) ?_
    refine AllReadyH.cons rfl (fun K hK=>?_) AllReadyH.nil
    simp only [List.getElem_toArray,List.getElem_cons_succ,List.getElem_cons_zero]
    rw [if_pos (by rfl)]
    go_simp
    refine (C3.out _).mono ?_;rintro e w11 ⟨rfl,hb11⟩
    try simp only []
    refine hK.out _ _ ?_ (fun hH11=>?_)
    · exact ⟨(hH10.1).trans (hb11.mono (hH10.1).size),range_keep hH10.2.1 hb11,range_keep hH10.2.2.1 hb11,there_keep hH10.2.2.2.1 hb11,sz_keep hH10.2.2.2.2 hb11⟩
    clear hK K
    have HA11:=Lib.hid (there_keep HA10.out hb11)
    try simp only [Act.put,List.getElem_toArray,List.getElem_cons_succ,List.getElem_cons_zero,List.setIfInBounds_toArray,List.set_cons_zero,List.set_cons_succ]
    refine wpAnyH_ready (rs:=[12]) (by kernel_rfl) (by simp) ?_
    refine AllReadyH.cons rfl (fun K hK=>?_) AllReadyH.nil
    simp only [List.getElem_toArray,List.getElem_cons_succ,List.getElem_cons_zero]
    rw [if_pos (by rfl)]
    with_reducible refine wst88 (w1.heap.size) 0 n s ?_ HA11.out ?_
    · exact ⟨_,_,rfl,rfl,rfl⟩
    refine hK.out _ _ ?_ (fun hH12=>?_)
    · exact ⟨below_set hH11.1 (by omega) _ _,range_setk hH11.2.1 (by first | trivial | omega),range_setk hH11.2.2.1 (by first | trivial | omega),there_setk hH11.2.2.2.1 (by first | trivial | omega),sz_setk hH11.2.2.2.2 (by first | trivial | omega)⟩
    clear hK K
    try simp only [Act.put]
    refine wpAnyH_done (by kernel_rfl) ?_ _
    try simp only [Act.put,List.getElem_toArray,List.getElem_cons_succ,List.getElem_cons_zero,List.setIfInBounds_toArray,List.set_cons_zero,List.set_cons_succ]
    have HN:=Lib.hid (show (w11.setCells (w1.heap.size) 0 (sgL n s)).rangeAt (w1.heap.size) 0 (sgL n s) from range_set HA11.out (by rw [sgL_len]))
    go_wp2_with fail
    refine wp_region_held_drew (S:=(fun w'=>Below w.heap.size w w'/\w'.rangeAt w.heap.size 0 (frL p1 s1 q1 false)/\w'.rangeAt (w.heap.size + 1) 0 (frL p2 s2 q2 false)/\w'.there (w.heap.size + 2) 0 62/\w.heap.size + 3 <= w'.heap.size/\w'.rangeAt (w1.heap.size) 0 (sgL n s))) (by kernel_rfl) ?_ (fun hH=>?_)
    · exact ⟨hH12.1.drew,hH12.2.1,hH12.2.2.1,hH12.2.2.2.1,hH12.2.2.2.2,HN.out⟩
    try dsimp only at hH
    refine wpAnyH_take (i:=0) (v:=(.agg (sgL n s).toArray)) rfl (by kernel_rfl) (by kernel_rfl) (by kernel_rfl) (fun _ _ _ h=>h) (yld88 (w1.heap.size) 0 n s rfl ⟨_,rfl,rfl⟩ (fun wz hz=>hz.2.2.2.2.2)) hH ?_
    try simp only [Act.put,List.getElem_toArray,List.getElem_cons_zero,List.setIfInBounds_toArray,List.set_cons_zero,List.set_cons_succ]
    refine wpAnyH_take (i:=1) (v:=(.pointer (some ⟨w.heap.size,31,none⟩))) rfl (by kernel_rfl) (by kernel_rfl) (by kernel_rfl) (fun _ _ _ h=>h) (Or.inl ⟨by rfl,fun wz hz=>by skip;go_simp⟩) hH ?_
    try simp only [Act.put,List.getElem_toArray,List.getElem_cons_succ,List.getElem_cons_zero,List.setIfInBounds_toArray,List.set_cons_zero,List.set_cons_succ]
    refine wpAnyH_take (i:=2) (v:=(.agg (sgL q1 false).toArray)) rfl (by kernel_rfl) (by kernel_rfl) (by kernel_rfl) (fun _ _ _ h=>h) (yld88 w.heap.size 31 q1 false rfl ⟨_,rfl,rfl⟩ (fun wz hz=>fr_lo (hz.2.1))) hH ?_
    try simp only [Act.put,List.getElem_toArray,List.getElem_cons_succ,List.getElem_cons_zero,List.setIfInBounds_toArray,List.set_cons_zero,List.set_cons_succ]
    refine wpAnyH_take (i:=3) (v:=(.pointer (some ⟨w.heap.size + 1,31,none⟩))) rfl (by kernel_rfl) (by kernel_rfl) (by kernel_rfl) (fun _ _ _ h=>h) (Or.inl ⟨by rfl,fun wz hz=>by skip;go_simp⟩) hH ?_
    try simp only [Act.put,List.getElem_toArray,List.getElem_cons_succ,List.getElem_cons_zero,List.setIfInBounds_toArray,List.set_cons_zero,List.set_cons_succ]
    refine wpAnyH_take (i:=4) (v:=(.agg (sgL q2 false).toArray)) rfl (by kernel_rfl) (by kernel_rfl) (by kernel_rfl) (fun _ _ _ h=>h) (yld88 (w.heap.size + 1) 31 q2 false rfl ⟨_,rfl,rfl⟩ (fun wz hz=>fr_lo (hz.2.2.1))) hH ?_
    try simp only [Act.put,List.getElem_toArray,List.getElem_cons_succ,List.getElem_cons_zero,List.setIfInBounds_toArray,List.set_cons_zero,List.set_cons_succ]
    refine wpAnyH_ready (rs:=[5]) (by kernel_rfl) (by simp) ?_
    refine AllReadyH.cons rfl (fun K hK=>?_) AllReadyH.nil
    simp only [List.getElem_toArray,List.getElem_cons_succ,List.getElem_cons_zero]
    rw [if_pos (by rfl)]
    go_simp
    refine (C4.out _).mono ?_;rintro e w1 ⟨rfl,hb1⟩
    try simp only []
    refine hK.out _ _ ?_ (fun hH1=>?_)
    · exact ⟨(hH.1).trans (hb1.mono (hH.1).size),range_keep hH.2.1 hb1,range_keep hH.2.2.1 hb1,there_keep hH.2.2.2.1 hb1,sz_keep hH.2.2.2.2.1 hb1,range_keep hH.2.2.2.2.2 hb1⟩
    clear hK K
    try simp only [Act.put,List.getElem_toArray,List.getElem_cons_succ,List.getElem_cons_zero,List.setIfInBounds_toArray,List.set_cons_zero,List.set_cons_succ]
    refine wpAnyH_ready (rs:=[6]) (by kernel_rfl) (by simp) ?_
    refine AllReadyH.cons rfl (fun K hK=>?_) AllReadyH.nil
    simp only [List.getElem_toArray,List.getElem_cons_succ,List.getElem_cons_zero]
    rw [if_pos (by rfl)]
    go_simp
    refine (C5.out _).mono ?_;rintro e w2 ⟨rfl,hb2⟩
    try simp only []
    refine hK.out _ _ ?_ (fun hH2=>?_)
    · exact ⟨(hH1.1).trans (hb2.mono (hH1.1).size),range_keep hH1.2.1 hb2,range_keep hH1.2.2.1 hb2,there_keep hH1.2.2.2.1 hb2,sz_keep hH1.2.2.2.2.1 hb2,range_keep hH1.2.2.2.2.2 hb2⟩
    clear hK K
    try simp only [Act.put,List.getElem_toArray,List.getElem_cons_succ,List.getElem_cons_zero,List.setIfInBounds_toArray,List.set_cons_zero,List.set_cons_succ]
    refine wpAnyH_ready (rs:=[7]) (by kernel_rfl) (by simp) ?_
    refine AllReadyH.cons rfl (fun K hK=>?_) AllReadyH.nil
    simp only [List.getElem_toArray,List.getElem_cons_succ,List.getElem_cons_zero]
    rw [if_pos (by rfl)]
    with_reducible refine wst115 (w.heap.size + 2) 0 a b c false ?_ hH2.2.2.2.1 ?_
    · exact ⟨_,_,rfl,rfl,rfl⟩
    refine hK.out _ _ ?_ (fun hH3=>?_)
    · exact ⟨below_set hH2.1 (by omega) _ _,range_setk hH2.2.1 (by first | trivial | omega),range_setk hH2.2.2.1 (by first | trivial | omega),there_setk hH2.2.2.2.1 (by first | trivial | omega),sz_setk hH2.2.2.2.2.1 (by first | trivial | omega),range_setk hH2.2.2.2.2.2 (by first | trivial | omega)⟩
    clear hK K
    try simp only [Act.put]
    refine wpAnyH_done (by kernel_rfl) ?_ _
    go_wp2
    exact ret115 Tryz.results99 (w.heap.size + 2) 0 rfl a b c false (range_set hH2.2.2.2.1 (by rw [frL_len])) rfl ⟨rfl,hH3.1⟩
  refine AllReadyH.cons rfl (fun K hK=>?_) AllReadyH.nil
  simp only [List.getElem_toArray,List.getElem_cons_succ,List.getElem_cons_zero]
  rw [if_pos (by rfl)]
  with_reducible refine wal 88 _ ?_ z88 ?_
  · rfl
  refine hK.out _ _ ?_ (fun hH13=>?_)
  · exact ⟨(hH.1).alloc (hH.1).size _,World.rangeAt_alloc hH.2.1 _,World.rangeAt_alloc hH.2.2.1 _,World.there_alloc hH.2.2.2.1 _,sz_keep hH.2.2.2.2 ((Below.refl _ _).alloc (Nat.le_refl _) _)⟩
  clear hK K
  have HA13:=Lib.hid (show ((((w.alloc (.cells (frL p1 s1 q1 false).toArray 115)).alloc (.cells (frL p2 s2 q2 false).toArray 115)).alloc (.cells (frL 0 false 0 false).toArray 115)).drew.alloc (.cells (sgL 0 false).toArray 88)).there (w.heap.size + 1 + 1 + 1) 0 31 from there_at (by first | rfl | simp) _ 88 (by rw [sgL_len]))
  have hx13:=hH.2.2.2.2
  try simp only [Act.put,List.setIfInBounds_toArray,List.set_cons_zero,List.set_cons_succ]
  refine wpAnyH_ready (rs:=[4]) (by kernel_rfl) (by simp) ?_
  refine AllReadyH.cons rfl (fun K hK=>?_) AllReadyH.nil
  simp only [List.getElem_toArray,List.getElem_cons_succ,List.getElem_cons_zero]
  rw [if_pos (by rfl)]
  go_simp
  refine (C1.out _).mono ?_;rintro e w14 ⟨rfl,hb14⟩
  try simp only []
  refine hK.out _ _ ?_ (fun hH14=>?_)
  · exact ⟨(hH13.1).trans (hb14.mono (hH13.1).size),range_keep hH13.2.1 hb14,range_keep hH13.2.2.1 hb14,there_keep hH13.2.2.2.1 hb14,sz_keep hH13.2.2.2.2 hb14⟩
  clear hK K
  have HA14:=Lib.hid (there_keep HA13.out hb14)
  try simp only [Act.put,List.getElem_toArray,List.getElem_cons_succ,List.getElem_cons_zero,List.setIfInBounds_toArray,List.set_cons_zero,List.set_cons_succ]
  refine wpAnyH_ready (rs:=[9]) (by kernel_rfl) (by simp) ?_
  refine AllReadyH.cons rfl (fun K hK=>?_) AllReadyH.nil
  simp only [List.getElem_toArray,List.getElem_cons_succ,List.getElem_cons_zero]
  rw [if_pos (by rfl)]
  go_simp
  refine (C2.out _).mono ?_;rintro e w15 ⟨rfl,hb15⟩
  try simp only []
  refine hK.out _ _ ?_ (fun hH15=>?_)
  · exact ⟨(hH14.1).trans (hb15.mono (hH14.1).size),range_keep hH14.2.1 hb15,range_keep hH14.2.2.1 hb15,there_keep hH14.2.2.2.1 hb15,sz_keep hH14.2.2.2.2 hb15⟩
  clear hK K
  have HA15:=Lib.hid (there_keep HA14.out hb15)
  try simp only [Act.put,List.getElem_toArray,List.getElem_cons_succ,List.getElem_cons_zero,List.setIfInBounds_toArray,List.set_cons_zero,List.set_cons_succ]
  refine wpAnyH_ready (rs:=[10]) (by kernel_rfl) (by simp) ?_
  refine AllReadyH.cons rfl (fun K hK=>?_) AllReadyH.nil
  simp only [List.getElem_toArray,List.getElem_cons_succ,List.getElem_cons_zero]
  rw [if_pos (by rfl)]
  go_simp
  refine (C3.out _).mono ?_;rintro e w16 ⟨rfl,hb16⟩
  try simp only []
  refine hK.out _ _ ?_ (fun hH16=>?_)
  · exact ⟨(hH15.1).trans (hb16.mono (hH15.1).size),range_keep hH15.2.1 hb16,range_keep hH15.2.2.1 hb16,there_keep hH15.2.2.2.1 hb16,sz_keep hH15.2.2.2.2 hb16⟩
  clear hK K
  have HA16:=Lib.hid (there_keep HA15.out hb16)
  try simp only [Act.put,List.getElem_toArray,List.getElem_cons_succ,List.getElem_cons_zero,List.setIfInBounds_toArray,List.set_cons_zero,List.set_cons_succ]
  refine wpAnyH_ready (rs:=[12]) (by kernel_rfl) (by simp) ?_
  refine AllReadyH.cons rfl (fun K hK=>?_) AllReadyH.nil
  simp only [List.getElem_toArray,List.getElem_cons_succ,List.getElem_cons_zero]
  rw [if_pos (by rfl)]
  with_reducible refine wst88 (w.heap.size + 1 + 1 + 1) 0 n s ?_ HA16.out ?_
  · exact ⟨_,_,rfl,rfl,rfl⟩
  refine hK.out _ _ ?_ (fun hH17=>?_)
  · exact ⟨below_set hH16.1 (by omega) _ _,range_setk hH16.2.1 (by first | trivial | omega),range_setk hH16.2.2.1 (by first | trivial | omega),there_setk hH16.2.2.2.1 (by first | trivial | omega),sz_setk hH16.2.2.2.2 (by first | trivial | omega)⟩
  clear hK K
  try simp only [Act.put]
  refine wpAnyH_done (by kernel_rfl) ?_ _
  try simp only [Act.put,List.getElem_toArray,List.getElem_cons_succ,List.getElem_cons_zero,List.setIfInBounds_toArray,List.set_cons_zero,List.set_cons_succ]
  have HN:=Lib.hid (show (w16.setCells (w.heap.size + 1 + 1 + 1) 0 (sgL n s)).rangeAt (w.heap.size + 1 + 1 + 1) 0 (sgL n s) from range_set HA16.out (by rw [sgL_len]))
  go_wp2_with fail
  refine wp_region_held_drew (S:=(fun w'=>Below w.heap.size w w'/\w'.rangeAt w.heap.size 0 (frL p1 s1 q1 false)/\w'.rangeAt (w.heap.size + 1) 0 (frL p2 s2 q2 false)/\w'.there (w.heap.size + 2) 0 62/\w.heap.size + 3 <= w'.heap.size/\w'.rangeAt (w.heap.size + 1 + 1 + 1) 0 (sgL n s))) (by kernel_rfl) ?_ (fun hH=>?_)
  · exact ⟨hH17.1.drew,hH17.2.1,hH17.2.2.1,hH17.2.2.2.1,hH17.2.2.2.2,HN.out⟩
  try dsimp only at hH
  refine wpAnyH_take (i:=0) (v:=(.agg (sgL n s).toArray)) rfl (by kernel_rfl) (by kernel_rfl) (by kernel_rfl) (fun _ _ _ h=>h) (yld88 (w.heap.size + 1 + 1 + 1) 0 n s rfl ⟨_,rfl,rfl⟩ (fun wz hz=>hz.2.2.2.2.2)) hH ?_
  try simp only [Act.put,List.getElem_toArray,List.getElem_cons_zero,List.setIfInBounds_toArray,List.set_cons_zero,List.set_cons_succ]
  refine wpAnyH_take (i:=1) (v:=(.pointer (some ⟨w.heap.size,31,none⟩))) rfl (by kernel_rfl) (by kernel_rfl) (by kernel_rfl) (fun _ _ _ h=>h) (Or.inl ⟨by rfl,fun wz hz=>by skip;go_simp⟩) hH ?_
  try simp only [Act.put,List.getElem_toArray,List.getElem_cons_succ,List.getElem_cons_zero,List.setIfInBounds_toArray,List.set_cons_zero,List.set_cons_succ]
  refine wpAnyH_take (i:=2) (v:=(.agg (sgL q1 false).toArray)) rfl (by kernel_rfl) (by kernel_rfl) (by kernel_rfl) (fun _ _ _ h=>h) (yld88 w.heap.size 31 q1 false rfl ⟨_,rfl,rfl⟩ (fun wz hz=>fr_lo (hz.2.1))) hH ?_
  try simp only [Act.put,List.getElem_toArray,List.getElem_cons_succ,List.getElem_cons_zero,List.setIfInBounds_toArray,List.set_cons_zero,List.set_cons_succ]
  refine wpAnyH_take (i:=3) (v:=(.pointer (some ⟨w.heap.size + 1,31,none⟩))) rfl (by kernel_rfl) (by kernel_rfl) (by kernel_rfl) (fun _ _ _ h=>h) (Or.inl ⟨by rfl,fun wz hz=>by skip;go_simp⟩) hH ?_
  try simp only [Act.put,List.getElem_toArray,List.getElem_cons_succ,List.getElem_cons_zero,List.setIfInBounds_toArray,List.set_cons_zero,List.set_cons_succ]
  refine wpAnyH_take (i:=4) (v:=(.agg (sgL q2 false).toArray)) rfl (by kernel_rfl) (by kernel_rfl) (by kernel_rfl) (fun _ _ _ h=>h) (yld88 (w.heap.size + 1) 31 q2 false rfl ⟨_,rfl,rfl⟩ (fun wz hz=>fr_lo (hz.2.2.1))) hH ?_
  try simp only [Act.put,List.getElem_toArray,List.getElem_cons_succ,List.getElem_cons_zero,List.setIfInBounds_toArray,List.set_cons_zero,List.set_cons_succ]
  refine wpAnyH_ready (rs:=[5]) (by kernel_rfl) (by simp) ?_
  refine AllReadyH.cons rfl (fun K hK=>?_) AllReadyH.nil
  simp only [List.getElem_toArray,List.getElem_cons_succ,List.getElem_cons_zero]
  rw [if_pos (by rfl)]
  go_simp
  refine (C4.out _).mono ?_;rintro e w1 ⟨rfl,hb1⟩
  try simp only []
  refine hK.out _ _ ?_ (fun hH1=>?_)
  · exact ⟨(hH.1).trans (hb1.mono (hH.1).size),range_keep hH.2.1 hb1,range_keep hH.2.2.1 hb1,there_keep hH.2.2.2.1 hb1,sz_keep hH.2.2.2.2.1 hb1,range_keep hH.2.2.2.2.2 hb1⟩
  clear hK K
  try simp only [Act.put,List.getElem_toArray,List.getElem_cons_succ,List.getElem_cons_zero,List.setIfInBounds_toArray,List.set_cons_zero,List.set_cons_succ]
  refine wpAnyH_ready (rs:=[6]) (by kernel_rfl) (by simp) ?_
  refine AllReadyH.cons rfl (fun K hK=>?_) AllReadyH.nil
  simp only [List.getElem_toArray,List.getElem_cons_succ,List.getElem_cons_zero]
  rw [if_pos (by rfl)]
  go_simp
  refine (C5.out _).mono ?_;rintro e w2 ⟨rfl,hb2⟩
  try simp only []
  refine hK.out _ _ ?_ (fun hH2=>?_)
  · exact ⟨(hH1.1).trans (hb2.mono (hH1.1).size),range_keep hH1.2.1 hb2,range_keep hH1.2.2.1 hb2,there_keep hH1.2.2.2.1 hb2,sz_keep hH1.2.2.2.2.1 hb2,range_keep hH1.2.2.2.2.2 hb2⟩
  clear hK K
  try simp only [Act.put,List.getElem_toArray,List.getElem_cons_succ,List.getElem_cons_zero,List.setIfInBounds_toArray,List.set_cons_zero,List.set_cons_succ]
  refine wpAnyH_ready (rs:=[7]) (by kernel_rfl) (by simp) ?_
  refine AllReadyH.cons rfl (fun K hK=>?_) AllReadyH.nil
  simp only [List.getElem_toArray,List.getElem_cons_succ,List.getElem_cons_zero]
  rw [if_pos (by rfl)]
  with_reducible refine wst115 (w.heap.size + 2) 0 a b c false ?_ hH2.2.2.2.1 ?_
  · exact ⟨_,_,rfl,rfl,rfl⟩
  refine hK.out _ _ ?_ (fun hH3=>?_)
  · exact ⟨below_set hH2.1 (by omega) _ _,range_setk hH2.2.1 (by first | trivial | omega),range_setk hH2.2.2.1 (by first | trivial | omega),there_setk hH2.2.2.2.1 (by first | trivial | omega),sz_setk hH2.2.2.2.2.1 (by first | trivial | omega),range_setk hH2.2.2.2.2.2 (by first | trivial | omega)⟩
  clear hK K
  try simp only [Act.put]
  refine wpAnyH_done (by kernel_rfl) ?_ _
  go_wp2
  exact ret115 Tryz.results99 (w.heap.size + 2) 0 rfl a b c false (range_set hH2.2.2.2.1 (by rw [frL_len])) rfl ⟨rfl,hH3.1⟩
end Go.Proofs.YtpbegoflpfdajaaGreatDoor
