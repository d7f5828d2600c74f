/- WHAT IS PROVED: contracts of functions of the numbers package and laws for them, used by the last text of this claim. CONDITIONS: stated at each theorem. -/
import Derived.Test.YtpbegoflpfdajaaGreatDoorB03
import Derived.Test.YtpbegoflpfdajaaGreatDoorB04
import Derived.Deep.LoopGhost
namespace Go.Proofs.YtpbegoflpfdajaaGreatDoor
section
open Go.RowKit Go.Shelf
attribute [local go_sem] Oper.semAt_some
def Pow (w : World) : Prop:=∀ i,i < 9->w.cell? ⟨0,i,none⟩ = some (.int .u32 ((10 ^ i : Nat) : Int))
theorem Pow.keep {w w' : World} (h : Pow w) (hb : Below w.heap.size w w') : Pow w':=fun i hi=>cell_keep (h i hi) hb
theorem Pow.lt {w : World} (h : Pow w) : 0 < w.heap.size:=World.block_lt_of_cell? w _ (h 0 (by omega))
theorem range_grown {A B : World} {row : Option Nat} {b o : Nat} {cs : List Value} (h : A.rangeAt b o cs) (hg : A.grownBy B row) (hr : ∀ r,row = some r->∃ o : Obj,A.heap[r]? = some o/\o.isCells = false) : B.rangeAt b o cs :=
  fun j v hv=>cell_kept (h j v hv) hg hr
theorem there_grown {A B : World} {row : Option Nat} {b o n : Nat} (h : A.there b o n) (hg : A.grownBy B row) (hr : ∀ r,row = some r->∃ o : Obj,A.heap[r]? = some o/\o.isCells = false) : B.there b o n:=fun j hj=>by
  obtain ⟨h1,h2⟩:=h j hj
  obtain ⟨u,hu⟩:=Option.isSome_iff_exists.1 h1
  exact ⟨by rw [cell_kept hu hg hr];rfl,(frozen_kept hu hg hr).trans h2⟩
theorem heap_alloc_at' (w : World) (o : Obj) (k : Nat) (h : k = w.heap.size) : (w.alloc o).heap[k]? = some o:=by rw [h];exact heap_alloc_at w o
theorem blk_range {W : World} {b : Nat} {cs : List Value} {t : TypeId} (h : W.heap[b]? = some (.cells cs.toArray t (0,0))) : W.rangeAt b 0 cs:=fun j v hv=>by
  simp [World.cell?,h,hv]
theorem blk_there {W : World} {b : Nat} {cs : List Value} {t : TypeId} {n : Nat} (h : W.heap[b]? = some (.cells cs.toArray t (0,0))) (hn : n = cs.length) : W.there b 0 n:=fun j hj=>by
  subst hn
  refine ⟨by simp [World.cell?,h,hj],?_⟩
  simp [World.frozen?,h]
theorem heap_setCells_ne (b i : Nat) (h : i ≠ b) : ∀ (vs : List Value) (o : Nat) {w : World},(w.setCells b o vs).heap[i]? = w.heap[i]?
  | [],_,_=>rfl
  | v :: vs,o,w=>(heap_setCells_ne b i h vs (o + 1)).trans (Below.heap_setCell w ⟨b,o,none⟩ v i h)
theorem results_cell {fn : Func} {tmps : Array Value} {w : World} {tm : Nat} {ty : TypeId} {d : TypeDesc} (hres : fn.results = #[.cell tm ty]) (b o : Nat) (ht : tmps.getD tm undef = .pointer (some ⟨b,o,none⟩)) (cs : List Value)
    (hu : Tryz.prog.underlying ty = some d) (hd : d.isRow = true) (hi : (Tryz.prog.info? ty).map (·.size) = some cs.length) (hc : w.rangeAt b o cs) : (results fn tmps).run Tryz.prog w = .ok (.agg cs.toArray) w:=by
  have ht' : tmps[tm]?.getD undef = .pointer (some ⟨b,o,none⟩):=by simpa using ht
  unfold results
  rw [hres]
  simp [asAddr,ht',run_loadVar_mid w b o ty cs d hc hu hd hi]
theorem enc_zero : encA (foldA []) = mgL 0:=by rw [zero_mg];rfl
theorem enc_step (pre : List Dg) (x : Dg) : encA (foldA (pre ++ [x])) = (encA (foldA pre)).set (x.1.1 / 9) (.int .u32 (((foldA pre).getD (x.1.1 / 9) 0 + x.1.2 * 10 ^ (x.1.1 % 9)) % 4294967296 : Nat)):=by
  rw [foldA_snoc];unfold stepA encA;rw [List.map_set]
theorem wrap_step (v d j : Nat) : IntKind.u32.wrap ((v : Int) + IntKind.u32.wrap ((d : Int) * 10 ^ j)) = (((v + d * 10 ^ j) % 4294967296 : Nat) : Int):=by
  have e : (d : Int) * 10 ^ j = ((d * 10 ^ j : Nat) : Int):=by simp
  rw [e,IntKind.wrap_u32,IntKind.wrap_u32];omega
theorem body_fin {w W : World} {pre : List Dg} (hB : Below w.heap.size w W) (ht1 : W.there (w.heap.size + 1) 0 30) (ht0 : W.there w.heap.size 0 30) (hr : W.rangeAt (w.heap.size + 1) 0 (encA (foldA pre)))
    (q d : Nat) (hq : q < 270) (hd : d < 10) (i : Nat) (hi : q / 9 = i) (v : Nat) (hv : (foldA pre).getD i 0 = v) (j : Nat) (hj : q % 9 = j) :
    KeepsOthers W (W.setCell ⟨w.heap.size + 1,i,none⟩ (.int .u32 (IntKind.u32.wrap ((v : Int) + IntKind.u32.wrap ((d : Int) * 10 ^ j))))).drew /\
    KeptD (w.heap.size + 1 + 1) W (W.setCell ⟨w.heap.size + 1,i,none⟩ (.int .u32 (IntKind.u32.wrap ((v : Int) + IntKind.u32.wrap ((d : Int) * 10 ^ j))))).drew /\
    ((W.setCell ⟨w.heap.size + 1,i,none⟩ (.int .u32 (IntKind.u32.wrap ((v : Int) + IntKind.u32.wrap ((d : Int) * 10 ^ j))))).drew.rangeAt (w.heap.size + 1) 0 (encA (foldA (pre ++ [⟨(q,d),hq,hd⟩]))) /\
      (W.setCell ⟨w.heap.size + 1,i,none⟩ (.int .u32 (IntKind.u32.wrap ((v : Int) + IntKind.u32.wrap ((d : Int) * 10 ^ j))))).drew.there (w.heap.size + 1) 0 30 /\
      (W.setCell ⟨w.heap.size + 1,i,none⟩ (.int .u32 (IntKind.u32.wrap ((v : Int) + IntKind.u32.wrap ((d : Int) * 10 ^ j))))).drew.there w.heap.size 0 30) /\
    Below w.heap.size w (W.setCell ⟨w.heap.size + 1,i,none⟩ (.int .u32 (IntKind.u32.wrap ((v : Int) + IntKind.u32.wrap ((d : Int) * 10 ^ j))))).drew:=by
  have ko:=(KeepsOthers.setCell W ⟨w.heap.size + 1,i,none⟩ (.int .u32 (IntKind.u32.wrap ((v : Int) + IntKind.u32.wrap ((d : Int) * 10 ^ j))))).trans (KeepsOthers.drew _)
  refine ⟨ko,⟨ko.walks,Below.heap_setCell W ⟨w.heap.size + 1,i,none⟩ _ (w.heap.size + 1 + 1) (by simp)⟩,⟨?_,there_setCell ht1 _ _,there_setCell ht0 _ _⟩,(hB.setCell (p:=⟨w.heap.size + 1,i,none⟩) (by simp) _).drew⟩
  rw [enc_step]
  simp only
  rw [hi,hj,hv,wrap_step]
  exact range_setCell hr i _ (by simp [encA,foldA_len];omega)
set_option maxRecDepth 100000 in
set_option maxHeartbeats 1000000 in
theorem parseMag_in (n : Nat) (hn : 6 <= n) (s : ByteArray) (hd : AllDig s.data.toList) (w : World) (hp : Pow w) :
    CallsIn Fence.wide n Tryz.prog 120 #[.string s] w fun e w'=>e = .returned (.agg (mgL (valL s.data.toList)).toArray)/\Below w.heap.size w w':=by
  have h1 : 1 <= n:=by omega
  have hps:=hp.lt
  refine callsIn_of_wp_marks Tryz.func120 rfl trivial ?_ rfl
  simp only [Tryz.ntmps120,List.size_toArray,List.length_cons,List.length_nil,Nat.reduceAdd,Nat.reduceSub,Array.replicate_succ,Array.replicate_zero,List.push_toArray,List.append_toArray,List.nil_append,List.cons_append]
  gi_wp2_with (first
    | ((with_reducible refine alI 86 _ w.heap.size ?_ ?_ z86 ?_);(· exact ⟨rfl,rfl⟩);· rfl)
    | ((with_reducible refine alI 86 _ (w.heap.size + 1) ?_ ?_ z86 ?_);(· exact ⟨rfl,rfl⟩);· (simp;done))
    | (refine ⟨trivial,(callsIn_wide.2 (digitsOf_any s _)).mono ?_⟩;rintro e w1 ⟨rfl,rfl⟩))
  have g0 : (((w.alloc (Obj.cells (mgL 0).toArray 86)).alloc (Obj.cells (mgL 0).toArray 86)).alloc (Obj.cells #[Value.string s] 9)).heap[w.heap.size]? = some (.cells (mgL 0).toArray 86 (0,0)):=by
    rw [heap_alloc_lt (by simp;omega),heap_alloc_lt (by simp)];exact heap_alloc_at _ _
  have g1 : (((w.alloc (Obj.cells (mgL 0).toArray 86)).alloc (Obj.cells (mgL 0).toArray 86)).alloc (Obj.cells #[Value.string s] 9)).heap[w.heap.size + 1]? = some (.cells (mgL 0).toArray 86 (0,0)):=by
    rw [heap_alloc_lt (by simp)];exact heap_alloc_at' _ _ _ (by simp)
  have g2 : (((w.alloc (Obj.cells (mgL 0).toArray 86)).alloc (Obj.cells (mgL 0).toArray 86)).alloc (Obj.cells #[Value.string s] 9)).heap[w.heap.size + 1 + 1]? = some (.cells #[.string s] 9 (0,0)) :=
    heap_alloc_at' _ _ _ (by simp)
  have hB0 : Below w.heap.size w (((w.alloc (Obj.cells (mgL 0).toArray 86)).alloc (Obj.cells (mgL 0).toArray 86)).alloc (Obj.cells #[Value.string s] 9)) :=
    (((Below.refl _ w).alloc (Nat.le_refl _) _).alloc (by simp) _).alloc (by simp;omega) _
  have hsz : (((w.alloc (Obj.cells (mgL 0).toArray 86)).alloc (Obj.cells (mgL 0).toArray 86)).alloc (Obj.cells #[Value.string s] 9)).heap.size = w.heap.size + 3:=by simp
  obtain ⟨W0,hW0⟩ : ∃ W0,(((w.alloc (Obj.cells (mgL 0).toArray 86)).alloc (Obj.cells (mgL 0).toArray 86)).alloc (Obj.cells #[Value.string s] 9)) = W0:=⟨_,rfl⟩
  rw [hW0] at hB0 hsz g0 g1 g2 ⊢
  have hth0 : W0.there w.heap.size 0 30:=blk_there g0 (mgL_len 0).symm
  have hth1 : W0.there (w.heap.size + 1) 0 30:=blk_there g1 (mgL_len 0).symm
  have hr1 : W0.rangeAt (w.heap.size + 1) 0 (encA (foldA [])):=by rw [enc_zero];exact blk_range g1
  have hbs : W0.cell? ⟨w.heap.size + 1 + 1,0,none⟩ = some (.string s):=by simp [World.cell?,g2]
  refine wpIn_rangeFunc_ownF (F:=Fence.wide) rfl h1 (gf:=201) (lb:=#[.pointer (some ⟨w.heap.size + 1 + 1,0,none⟩)]) rfl trivial (enters_of Tryz.func201 (by kernel_rfl) rfl)
    (digits_stops (n - 1) (by omega) s hd (w.heap.size + 1 + 1) W0 hbs) KeptD.trans
    (fun W l o o' hl h hc hw=>⟨KeepsWalks.putObj _ h hw,World.putObj_heap_other (by omega)⟩) (Below.refl _ _) (fun _=>rfl)
    (fun pre W=>(W.rangeAt (w.heap.size + 1) 0 (encA (foldA pre))/\W.there (w.heap.size + 1) 0 30/\W.there w.heap.size 0 30)/\Below w.heap.size w W)
    (fun _ _ _=>False)
    (OwnFrom.and (Own.from (fun pre A B row hs hg hr=>⟨range_grown hs.1 hg hr,there_grown hs.2.1 hg hr,there_grown hs.2.2 hg hr⟩) _) (ownFrom_below (Nat.le_refl _) (by omega)))
    (fun c _ A B row hs _ _=>hs)
    ⟨⟨hr1,hth1,hth0⟩,hB0⟩
    (fun x=>{ tmps:=#[.string s,undef,.pointer (some ⟨w.heap.size,0,none⟩),.pointer (some ⟨w.heap.size + 1,0,none⟩),.int .i64 x.1.1,.int .u32 x.1.2,.string s,.func (.func 201) #[] #[.pointer (some ⟨w.heap.size + 1 + 1,0,none⟩)],.int .i64 x.1.1,.int .u32 x.1.2,undef,undef,undef,undef,undef,undef,undef,undef,undef,undef,undef,undef,undef,undef,undef],defers:=[] })
    ?assign ?body ?done ?stop
  case assign =>
    intro l x W K hK
    simp only [encD]
    gi_wp2
    exact hK
  case body =>
    rintro l pre x W ⟨⟨hr,ht1,ht0⟩,hB⟩ hlt
    obtain ⟨⟨q,d⟩,hq,hd10⟩:=x
    simp only at hq hd10
    obtain ⟨i,hi⟩ : ∃ i,q / 9 = i:=⟨_,rfl⟩
    obtain ⟨j,hj⟩ : ∃ j,q % 9 = j:=⟨_,rfl⟩
    have hi30 : i < 30:=by omega
    have hj9 : j < 9:=by omega
    have hpw:=(hp.keep hB) j hj9
    obtain ⟨v,hv⟩ : ∃ v,(foldA pre).getD i 0 = v:=⟨_,rfl⟩
    have hvl : v < 4294967296:=by rw [<- hv];exact foldA_lt pre _
    have hce : W.cell? ⟨w.heap.size + 1,i,none⟩ = some (.int .u32 v):=cell_of_range hr (by
      unfold encA;rw [List.getElem?_map,List.getElem?_eq_getElem (by rw [foldA_len];exact hi30)]
      rw [List.getD_eq_getElem?_getD,List.getElem?_eq_getElem (by rw [foldA_len];exact hi30)] at hv
      simp only [Option.getD_some] at hv
      simp [hv])
    have hfr : W.frozen? ⟨w.heap.size + 1,i,none⟩ = false:=by have:=(ht1 i hi30).2;rwa [Nat.zero_add] at this
    have hfo : Tryz.prog.follows Departure.mixedOrders = true:=by kernel_rfl
    have hlt' : w.heap.size + 1 < W.heap.size:=World.block_lt_of_cell? W _ hce
    have Hq : IntKind.i64.wrap ((q : Int) / 9) = (i : Int):=by rw [IntWalk.i64_in _ (by omega)];omega
    have Hr : (q : Int).tmod 9 = (j : Int):=by rw [Int.tmod_eq_emod_of_nonneg (by omega)];omega
    have b1 : (i : Int) < 30:=by omega
    have b2 : 0 <= (i : Int):=by omega
    have b3 : (j : Int) < 9:=by omega
    have b4 : 0 <= (j : Int):=by omega
    gi_wp2_with fail
    rename_i Q0 K0 a0 Q1
    clear a0 hW0 g0 g1 g2 hr1 hth0 hth1 hbs hB0 hlt
    have Hp:=Lib.hid hp;clear hp
    have hce' : W.drew.cell? ⟨w.heap.size + 1,i,none⟩ = some (.int .u32 v):=hce
    have hpw' : W.drew.cell? ⟨0,j,none⟩ = some (.int .u32 ((10 ^ j : Nat) : Int)):=hpw
    have hfr' : W.drew.frozen? ⟨w.heap.size + 1,i,none⟩ = false:=hfr
    have FIN:=body_fin hB ht1 ht0 hr q d hq hd10 i hi v hv j hj
    have FIN:=Lib.hid FIN
    clear hB ht1 ht0 hr hi hj hv
    refine region_round hfo (noDefer_spec (by kernel_rfl)) (fun ⟨_,_,h⟩=>h) ?_
    refine wpAny_take (i:=0) (v:=(.int .i64 q)) rfl (by kernel_rfl) (by kernel_rfl) (by kernel_rfl) (fun _ _ _ h=>h) (Or.inl ⟨by rfl,fun wz=>by go_simp⟩) ?_
    try simp only [Act.put,List.getElem_toArray,List.getElem_cons_zero,List.setIfInBounds_toArray,List.set_cons_zero,List.set_cons_succ]
    refine wpAny_take (i:=5) (v:=(.int .u32 d)) rfl (by kernel_rfl) (by kernel_rfl) (by kernel_rfl) (fun _ _ _ h=>h) (Or.inl ⟨by rfl,fun wz=>by go_simp⟩) ?_
    try simp only [Act.put,List.getElem_toArray,List.getElem_cons_succ,List.getElem_cons_zero,List.setIfInBounds_toArray,List.set_cons_zero,List.set_cons_succ]
    refine wpAny_take (i:=6) (v:=(.int .i64 q)) rfl (by kernel_rfl) (by kernel_rfl) (by kernel_rfl) (fun _ _ _ h=>h) (Or.inl ⟨by rfl,fun wz=>by go_simp⟩) ?_
    try simp only [Act.put,List.getElem_toArray,List.getElem_cons_succ,List.getElem_cons_zero,List.setIfInBounds_toArray,List.set_cons_zero,List.set_cons_succ]
    refine wpAny_take (i:=2) (v:=(.pointer (some ⟨w.heap.size + 1,0,none⟩))) rfl (by kernel_rfl) (by kernel_rfl) (by kernel_rfl) (fun _ _ _ h=>h) (Or.inl ⟨by rfl,fun wz=>by go_simp⟩) ?_
    try simp only [Act.put,List.getElem_toArray,List.getElem_cons_succ,List.getElem_cons_zero,List.setIfInBounds_toArray,List.set_cons_zero,List.set_cons_succ]
    refine wpAny_take (i:=12) (v:=(.pointer (some ⟨w.heap.size + 1,0,none⟩))) rfl (by kernel_rfl) (by kernel_rfl) (by kernel_rfl) (fun _ _ _ h=>h) (Or.inl ⟨by rfl,fun wz=>by go_simp⟩) ?_
    try simp only [Act.put,List.getElem_toArray,List.getElem_cons_succ,List.getElem_cons_zero,List.setIfInBounds_toArray,List.set_cons_zero,List.set_cons_succ]
    refine wpAny_take (i:=1) (v:=(.int .i64 i)) rfl (by kernel_rfl) (by kernel_rfl) (by kernel_rfl) (fun _ _ _ h=>h) (Or.inl ⟨by rfl,fun wz=>by go_simp⟩) ?_
    try simp only [Act.put,List.getElem_toArray,List.getElem_cons_succ,List.getElem_cons_zero,List.setIfInBounds_toArray,List.set_cons_zero,List.set_cons_succ]
    refine wpAny_take (i:=7) (v:=(.int .i64 j)) rfl (by kernel_rfl) (by kernel_rfl) (by kernel_rfl) (fun _ _ _ h=>h) (Or.inl ⟨by rfl,fun wz=>by go_simp⟩) ?_
    try simp only [Act.put,List.getElem_toArray,List.getElem_cons_succ,List.getElem_cons_zero,List.setIfInBounds_toArray,List.set_cons_zero,List.set_cons_succ]
    refine wpAny_take (i:=3) (v:=(.pointer (some ⟨w.heap.size + 1,i,none⟩))) rfl (by kernel_rfl) (by kernel_rfl) (by kernel_rfl) (fun _ _ _ h=>h) (Or.inl ⟨by rfl,fun wz=>by go_simp⟩) ?_
    try simp only [Act.put,List.getElem_toArray,List.getElem_cons_succ,List.getElem_cons_zero,List.setIfInBounds_toArray,List.set_cons_zero,List.set_cons_succ]
    refine wpAny_take (i:=8) (v:=(.pointer (some ⟨0,j,none⟩))) rfl (by kernel_rfl) (by kernel_rfl) (by kernel_rfl) (fun _ _ _ h=>h) (Or.inl ⟨by rfl,fun wz=>by go_simp⟩) ?_
    try simp only [Act.put,List.getElem_toArray,List.getElem_cons_succ,List.getElem_cons_zero,List.setIfInBounds_toArray,List.set_cons_zero,List.set_cons_succ]
    refine wpAny_ready (rs:=[4,9]) (by kernel_rfl) (by simp) ?_
    refine AllReady.cons rfl (fun K hK=>?_) ?_
    · skip
      go_simp
      refine hK _ _ ?_;clear hK K
      try simp only [Act.put,List.getElem_toArray,List.getElem_cons_succ,List.getElem_cons_zero,List.setIfInBounds_toArray,List.set_cons_zero,List.set_cons_succ]
      refine wpAny_ready (rs:=[9]) (by kernel_rfl) (by simp) ?_
      refine AllReady.cons rfl (fun K hK=>?_) AllReady.nil
      go_simp
      refine hK _ _ ?_;clear hK K
      try simp only [Act.put,List.getElem_toArray,List.getElem_cons_succ,List.getElem_cons_zero,List.setIfInBounds_toArray,List.set_cons_zero,List.set_cons_succ]
      refine wpAny_take (i:=10) (v:=(.int .u32 (IntKind.u32.wrap ((d : Int) * ((10 ^ j : Nat) : Int))))) rfl (by kernel_rfl) (by kernel_rfl) (by kernel_rfl) (fun _ _ _ h=>h) (Or.inl ⟨by rfl,fun wz=>by go_simp⟩) ?_
      try simp only [Act.put,List.getElem_toArray,List.getElem_cons_succ,List.getElem_cons_zero,List.setIfInBounds_toArray,List.set_cons_zero,List.set_cons_succ]
      refine wpAny_take (i:=11) (v:=(.int .u32 (IntKind.u32.wrap ((v : Int) + IntKind.u32.wrap ((d : Int) * ((10 ^ j : Nat) : Int)))))) rfl (by kernel_rfl) (by kernel_rfl) (by kernel_rfl) (fun _ _ _ h=>h) (Or.inl ⟨by rfl,fun wz=>by go_simp⟩) ?_
      try simp only [Act.put,List.getElem_toArray,List.getElem_cons_succ,List.getElem_cons_zero,List.setIfInBounds_toArray,List.set_cons_zero,List.set_cons_succ]
      refine wpAny_take (i:=13) (v:=(.pointer (some ⟨w.heap.size + 1,i,none⟩))) rfl (by kernel_rfl) (by kernel_rfl) (by kernel_rfl) (fun _ _ _ h=>h) (Or.inl ⟨by rfl,fun wz=>by go_simp⟩) ?_
      try simp only [Act.put,List.getElem_toArray,List.getElem_cons_succ,List.getElem_cons_zero,List.setIfInBounds_toArray,List.set_cons_zero,List.set_cons_succ]
      refine wpAny_ready (rs:=[14]) (by kernel_rfl) (by simp) ?_
      refine AllReady.cons rfl (fun K hK=>?_) AllReady.nil
      go_simp
      refine hK _ _ ?_;clear hK K
      try simp only [Act.put,List.getElem_toArray,List.getElem_cons_succ,List.getElem_cons_zero,List.setIfInBounds_toArray,List.set_cons_zero,List.set_cons_succ]
      refine wpAny_done (by kernel_rfl) ?_ _
      exact FIN.out
    · refine AllReady.cons rfl (fun K hK=>?_) AllReady.nil
      go_simp
      refine hK _ _ ?_;clear hK K
      try simp only [Act.put,List.getElem_toArray,List.getElem_cons_succ,List.getElem_cons_zero,List.setIfInBounds_toArray,List.set_cons_zero,List.set_cons_succ]
      refine wpAny_take (i:=10) (v:=(.int .u32 (IntKind.u32.wrap ((d : Int) * ((10 ^ j : Nat) : Int))))) rfl (by kernel_rfl) (by kernel_rfl) (by kernel_rfl) (fun _ _ _ h=>h) (Or.inl ⟨by rfl,fun wz=>by go_simp⟩) ?_
      try simp only [Act.put,List.getElem_toArray,List.getElem_cons_succ,List.getElem_cons_zero,List.setIfInBounds_toArray,List.set_cons_zero,List.set_cons_succ]
      refine wpAny_ready (rs:=[4]) (by kernel_rfl) (by simp) ?_
      refine AllReady.cons rfl (fun K hK=>?_) AllReady.nil
      go_simp
      refine hK _ _ ?_;clear hK K
      try simp only [Act.put,List.getElem_toArray,List.getElem_cons_succ,List.getElem_cons_zero,List.setIfInBounds_toArray,List.set_cons_zero,List.set_cons_succ]
      refine wpAny_take (i:=11) (v:=(.int .u32 (IntKind.u32.wrap ((v : Int) + IntKind.u32.wrap ((d : Int) * ((10 ^ j : Nat) : Int)))))) rfl (by kernel_rfl) (by kernel_rfl) (by kernel_rfl) (fun _ _ _ h=>h) (Or.inl ⟨by rfl,fun wz=>by go_simp⟩) ?_
      try simp only [Act.put,List.getElem_toArray,List.getElem_cons_succ,List.getElem_cons_zero,List.setIfInBounds_toArray,List.set_cons_zero,List.set_cons_succ]
      refine wpAny_take (i:=13) (v:=(.pointer (some ⟨w.heap.size + 1,i,none⟩))) rfl (by kernel_rfl) (by kernel_rfl) (by kernel_rfl) (fun _ _ _ h=>h) (Or.inl ⟨by rfl,fun wz=>by go_simp⟩) ?_
      try simp only [Act.put,List.getElem_toArray,List.getElem_cons_succ,List.getElem_cons_zero,List.setIfInBounds_toArray,List.set_cons_zero,List.set_cons_succ]
      refine wpAny_ready (rs:=[14]) (by kernel_rfl) (by simp) ?_
      refine AllReady.cons rfl (fun K hK=>?_) AllReady.nil
      go_simp
      refine hK _ _ ?_;clear hK K
      try simp only [Act.put,List.getElem_toArray,List.getElem_cons_succ,List.getElem_cons_zero,List.setIfInBounds_toArray,List.set_cons_zero,List.set_cons_succ]
      refine wpAny_done (by kernel_rfl) ?_ _
      exact FIN.out
  case done =>
    rintro D xs W hD rfl ⟨⟨hr,ht1,ht0⟩,hB⟩ hK
    rw [enc_all] at hr
    gi_wp2_with (first
      | ((with_reducible refine ld86I (w.heap.size + 1) 0 _ ?_ hr ?_);(· exact ⟨rfl,_,rfl,rfl⟩))
      | ((with_reducible refine st86I w.heap.size 0 (valL s.data.toList) ?_ ht0 ?_);(· exact ⟨rfl,_,_,rfl,rfl,rfl⟩)))
    have hDl:=(Array.getElem?_eq_some_iff.1 hK).1
    have hK2 : (W.setCells w.heap.size 0 (mgL (valL s.data.toList))).heap[D]? = some (.deferred (some [])):=(heap_setCells_ne _ _ (by omega) _ _).trans hK
    have hr2 : (W.setCells w.heap.size 0 (mgL (valL s.data.toList))).rangeAt w.heap.size 0 (mgL (valL s.data.toList)):=range_set ht0 (mgL_len _).symm
    have hb2:=below_set hB (Nat.le_refl _) 0 (mgL (valL s.data.toList))
    have hr3:=range_grown hr2 (grownBy_putObj' _ D (.deferred none)) (fun r e=>by cases e;exact ⟨_,hK2,rfl⟩)
    refine ⟨by simp,.inl ⟨_,_,rfl,run_takeDeferred hK2,?_⟩⟩
    exact ⟨.agg (mgL (valL s.data.toList)).toArray,results_cell Tryz.results120 _ 0 rfl _ Tryz.underlying86 rfl (by rw [mgL_len];exact i86) hr3,rfl,hb2.trans (belowK_b (w:=w) (Nat.le_refl _) _ D _ (.deferred none) (by omega) hK2 rfl rfl)⟩
  case stop =>
    rintro D c pre W hD _ h _
    exact h.elim
theorem parseMag_any (s : ByteArray) (hd : AllDig s.data.toList) (w : World) (hp : Pow w) : Calls Tryz.prog 120 #[.string s] w fun e w'=>e = .returned (.agg (mgL (valL s.data.toList)).toArray)/\Below w.heap.size w w' :=
  callsIn_wide.1 (parseMag_in 6 (by omega) s hd w hp)
end
section
open Go.RowKit
theorem toList_data' (s : ByteArray) : s.toList = s.data.toList:=ByteArray.toList_eq s
def areDig (l : List UInt8) : Bool:=l.all isDig && !l.isEmpty
set_option maxHeartbeats 1000000 in
set_option maxRecDepth 100000 in
theorem areDigits_any (s : ByteArray) (w : World) :
    Calls Tryz.prog 63 #[.string s] w fun e w'=>e = .returned (.bool (areDig s.data.toList))/\Below w.heap.size w w':=by
  have hrep : ∀ p,Below w.heap.size w (w.iter s p):=fun p=>((Below.refl _ w).alloc (Nat.le_refl _) _)
  go_enter Tryz.func63,Tryz.ntmps63
  go_wp2
  go_loopg [] s.size (fun g wx=>∃ pos : Nat,wx = w.iter s pos/\pos <= s.size/\s.size <= pos + g/\∀ k (h : k < s.size),k < pos->isDig (s[k]'h) = true)
  case atStart=>exact ⟨0,rfl,by omega,by omega,fun k _ hk=>by omega⟩
  case round =>
    obtain ⟨pos,rfl,hle,hfu,hall⟩:=hrel
    have Hall:=Lib.hid hall;clear hall
    have Hrep:=Lib.hid hrep;clear hrep
    by_cases hp : pos < s.size
    · obtain ⟨g,rfl⟩ : ∃ g,gk = g + 1:=⟨gk - 1,by omega⟩
      by_cases hdg : isDig (s[pos]'hp) = true
      · have hd2:=hdg
        simp only [isDig,decide_eq_true_eq] at hd2
        obtain ⟨c,hc⟩ : ∃ c,(s[pos]'hp).toNat = c:=⟨_,rfl⟩
        have hnx : ∀ ty,(Instr.next (.pointer (some ⟨w.heap.size,0,none⟩)) true ty).run Tryz.prog (w.iter s pos) = .ok (.tuple #[.bool true,.int .i64 pos,.int .i32 c]) (w.iter s (pos + 1)):=fun ty=>by
          rw [<- hc];exact run_next_ascii w s pos ty hp (by omega)
        rw [hc] at hd2
        have d1 : decide ((c : Int) < 48) = false:=by simp;omega
        have d2 : decide ((57 : Int) < (c : Int)) = false:=by simp;omega
        have Hdg:=Lib.hid hdg;clear hdg hc
        go_wp2
        go_roundg g
        case measure=>omega
        case rel=>exact ⟨pos + 1,rfl,by omega,by omega,fun k hk1 hk=>by
          by_cases h : k < pos
          · exact Hall.out k hk1 h
          · obtain rfl : k = pos:=by omega
            exact Hdg.out⟩
      · have hR : ∃ R K,Utf8.decode s pos = (R,K)/\(R < 48 ∨ 57 < R)/\R <= 2147483647:=by
          refine ⟨(Utf8.decode s pos).1,(Utf8.decode s pos).2,rfl,?_,decode_le s pos⟩
          by_cases ha : (s[pos]'hp).toNat < 128
          · rw [decode_ascii s pos hp ha]
            simp only [isDig,decide_eq_true_eq] at hdg
            simp only
            omega
          · have:=(decode_high s pos hp (by omega)).1
            omega
        obtain ⟨R,K,hR,hR2,hR3⟩:=hR
        have hnx : ∀ ty,(Instr.next (.pointer (some ⟨w.heap.size,0,none⟩)) true ty).run Tryz.prog (w.iter s pos) = .ok (.tuple #[.bool true,.int .i64 pos,.int .i32 R]) (w.iter s (pos + K)):=fun ty=>by
          have:=run_next_any (P:=Tryz.prog) w s pos ty hp
          rw [hR] at this;exact this
        have hfalse : areDig s.data.toList = false:=by
          unfold areDig
          rw [Bool.and_eq_false_iff]
          refine Or.inl ?_
          rw [List.all_eq_false]
          exact ⟨s[pos]'hp,by rw [show s[pos]'hp = s.data.toList[pos]'(by simpa using hp) by simp;rfl];exact List.getElem_mem _,hdg⟩
        have Hf:=Lib.hid hfalse;clear hfalse hdg hR
        rcases hR2 with h1 | h1
        · have d1 : decide ((R : Int) < 48) = true:=by simp;omega
          go_wp2
          go_ret
          exact ⟨by rw [Hf.out];rfl,Hrep.out _⟩
        · have d1 : decide ((R : Int) < 48) = false:=by simp;omega
          have d2 : decide ((57 : Int) < (R : Int)) = true:=by simp;omega
          go_wp2
          go_ret
          exact ⟨by rw [Hf.out];rfl,Hrep.out _⟩
    · have hnx : ∀ ty,(Instr.next (.pointer (some ⟨w.heap.size,0,none⟩)) true ty).run Tryz.prog (w.iter s pos) = _:=fun ty=>run_next_end w s pos ty hp
      go_wp2
      go_ret
      refine ⟨?_,Hrep.out _⟩
      have e : areDig s.data.toList = !s.toList.isEmpty:=by
        unfold areDig
        have hal : s.data.toList.all isDig = true:=by
          rw [List.all_eq_true];intro c hc
          obtain ⟨i,hi,rfl⟩:=List.getElem_of_mem hc
          exact Hall.out i (by simpa using hi) (by simp at hi;omega)
        rw [hal,Bool.true_and,toList_data']
      rw [e];rfl
end
section
open Go.RowKit
theorem number_any (n : Nat) (s : Bool) (hn : n < bb ^ 30) (w : World) :
    Calls Tryz.prog 93 #[.agg (mgL n).toArray,.bool s] w fun e w'=>e = .returned (.agg (sgL n (s && !decide (n = 0))).toArray)/\Below w.heap.size w w':=by
  cases s
  · exact number_f n hn w
  · rw [Bool.true_and];exact number_t n hn w
set_option maxHeartbeats 1000000 in
theorem negated_any (n : Nat) (s : Bool) (hn : n < bb ^ 30) (w : World) :
    Calls Tryz.prog 73 #[.agg (sgL n s).toArray] w fun e w'=>e = .returned (.agg (sgL n (!s && !decide (n = 0))).toArray)/\Below w.heap.size w w':=by
  have Hn:=Lib.hid hn;clear hn
  obtain ⟨h1,h2⟩:=range_sg (range_new w (sgL n s) 88)
  have hc : (sgL n s)[30]? = some (.bool s):=sgL_get
  have Hr:=Lib.hid (World.rangeAt_alloc h1 (.cells (sgL 0 false).toArray 88))
  have Ht:=Lib.hid (show ((w.alloc (.cells (sgL n s).toArray 88)).alloc (.cells (sgL 0 false).toArray 88)).there (w.heap.size + 1) 0 31 from there_at (by simp) _ _ (by rw [sgL_len]))
  have Hb:=Lib.hid (show Below w.heap.size w ((w.alloc (.cells (sgL n s).toArray 88)).alloc (.cells (sgL 0 false).toArray 88)) from ((Below.refl w.heap.size w).alloc (Nat.le_refl _) _).alloc (by simp) _)
  clear h1 h2
  go_enter Tryz.func73,Tryz.ntmps73
  go_wp2_with (first
    | ((with_reducible refine al_zb 88 _ (w.heap.size + 1) ?_ ?_ z88 ?_);(· exact ⟨rfl,rfl⟩);· (simp;done))
    | ((with_reducible refine ld86 w.heap.size 0 n ?_ ?_ ?_);(· exact ⟨rfl,_,rfl,rfl⟩);· exact Hr.out)
    | (go_at_call 93;(with_reducible refine (number_any n (!s) Hn.out _).mono ?_);rintro e w1 ⟨rfl,hb1⟩;have HB1:=Lib.hid hb1;clear hb1)
    | ((with_reducible refine st88 (w.heap.size + 1) 0 n (!s && !decide (n = 0)) ?_ ?_ ?_);(· exact ⟨rfl,_,_,rfl,rfl,rfl⟩);· exact there_keep Ht.out HB1.out))
  refine ret88 Tryz.results73 (w.heap.size + 1) 0 rfl n (!s && !decide (n = 0)) (range_set (there_keep Ht.out HB1.out) (by rw [sgL_len])) rfl ⟨rfl,?_⟩
  exact below_set (Hb.out.trans (HB1.out.mono Hb.out.size)) (by omega) _ _
end
end Go.Proofs.YtpbegoflpfdajaaGreatDoor