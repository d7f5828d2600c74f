/- WHAT IS PROVED: contracts of functions of the numbers package and laws for them, used by the last text of this claim. CONDITIONS: stated at each theorem. -/
import Derived.Test.YtpbegoflpfdajaaGreatDoorB30
namespace Go.Proofs.YtpbegoflpfdajaaGreatDoor
open Go.RowKit

def awA : Array Value:=#[.func (.func 21) #[] #[],.string ⟨#[57,57]⟩,.string ⟨#[49]⟩,.string ⟨#[49,48,48]⟩,.func (.func 23) #[] #[],.string ⟨#[53]⟩,.string ⟨#[49,50]⟩,.string ⟨#[45,55]⟩,.func (.func 25) #[] #[],.string ⟨#[45,49,50]⟩,.string ⟨#[49,50]⟩,.string ⟨#[45,49,52,52]⟩,.func (.func 33) #[] #[],.string ⟨#[45,49,50]⟩,.string ⟨#[49,56]⟩,.string ⟨#[54]⟩,.func (.func 47) #[] #[],.string ⟨#[54]⟩,.string ⟨#[45,52]⟩,.string ⟨#[45,51,47,50]⟩,.func (.func 35) #[] #[],.string ⟨#[49,47,50]⟩,.string ⟨#[49,47,51]⟩,.string ⟨#[53,47,54]⟩,.func (.func 37) #[] #[],.string ⟨#[49,47,50]⟩,.string ⟨#[49,47,50]⟩,.string ⟨#[48,47,49]⟩,.func (.func 39) #[] #[],.string ⟨#[50,47,51]⟩,.string ⟨#[51,47,52]⟩,.string ⟨#[49,47,50]⟩,.func (.func 41) #[] #[],.string ⟨#[49,47,50]⟩,.string ⟨#[45,51,47,52]⟩,.string ⟨#[45,50,47,51]⟩]
def awB : Array Value:=#[.string ⟨#[45,55]⟩,.string ⟨#[50]⟩,.string ⟨#[45,52]⟩,.string ⟨#[49]⟩,.string ⟨#[45,55]⟩,.string ⟨#[45,50]⟩,.string ⟨#[52]⟩,.string ⟨#[49]⟩,.string ⟨#[55]⟩,.string ⟨#[45,50]⟩,.string ⟨#[45,51]⟩,.string ⟨#[49]⟩]
theorem heap_alloc_at2 (w : World) (o : Obj) : (w.alloc o).heap[w.heap.size]? = some o:=heap_alloc_at w o
theorem aw_cell {w wr : World} {A : Array Value} {t : TypeId} (h : Below (w.heap.size + 1) (w.alloc (.cells A t)) wr) {i : Nat} {v : Value} (hv : A[i]? = some v) : wr.cell? ⟨w.heap.size,i,none⟩ = some v:=by
  rw [h.cell (p:=⟨w.heap.size,i,none⟩) (by simp)]
  unfold World.cell?;rw [heap_alloc_at2];exact hv
theorem aw_below {w wr : World} {o : Obj} (h : Below (w.heap.size + 1) (w.alloc o) wr) : Below w.heap.size w wr:=((Below.refl w.heap.size w).alloc (Nat.le_refl _) o).trans (h.mono (by omega))

set_option maxHeartbeats 16000000 in
set_option maxRecDepth 100000 in
theorem awake_any (w : World) (hg : Gl w) : Calls Tryz.prog 10 #[] w fun e w'=>e = .returned (.bool true)/\Below w.heap.size w w':=by
  have HG:=Lib.hid hg;clear hg
  go_enter Tryz.func10,Tryz.ntmps10
  go_wp2_with fail
  go_loopw [50] (fun i wr=>∃ k : Nat,k <= 9/\i = .int .i64 k/\Below (w.heap.size + 1) (w.alloc (.cells awA 63)) wr) (fun i _=>9 - (intOf i).toNat)
  case atStart=>exact ⟨0,by omega,rfl,Below.refl _ _⟩
  case round =>
    obtain ⟨k,hk,rfl,hB⟩:=hrel
    have HB:=Lib.hid hB
    have HGr:=Lib.hid (HG.out.keep (aw_below hB))
    clear hB
    rcases (show k = 0 ∨ k = 1 ∨ k = 2 ∨ k = 3 ∨ k = 4 ∨ k = 5 ∨ k = 6 ∨ k = 7 ∨ k = 8 ∨ k = 9 by omega) with rfl | rfl | rfl | rfl | rfl | rfl | rfl | rfl | rfl | rfl
    · have c0 : wr.cell? ⟨w.heap.size,0,none⟩ = some (.func (.func 21) #[] #[]):=aw_cell HB.out rfl
      have c1 : wr.cell? ⟨w.heap.size,1,none⟩ = some (.string ⟨#[57,57]⟩):=aw_cell HB.out rfl
      have c2 : wr.cell? ⟨w.heap.size,2,none⟩ = some (.string ⟨#[49]⟩):=aw_cell HB.out rfl
      have c3 : wr.cell? ⟨w.heap.size,3,none⟩ = some (.string ⟨#[49,48,48]⟩):=aw_cell HB.out rfl
      have GN:=Lib.hid (HGr.out.keep ((Below.refl _ _).alloc (Nat.le_refl _) (.cells #[.func (.func 21) #[] #[],.string ⟨#[57,57]⟩,.string ⟨#[49]⟩,.string ⟨#[49,48,48]⟩] 63)))
      go_wp2_with (first
        | (go_at_call 21;(with_reducible refine (ex_add _ GN.out).mono ?_);rintro e w1 ⟨rfl,hb1⟩;have HB1:=Lib.hid hb1;have c9 : w1.cell? ⟨wr.heap.size,3,none⟩ = some (.string ⟨#[49,48,48]⟩):=cell_keep (aw_cell (A:=#[.func (.func 21) #[] #[],.string ⟨#[57,57]⟩,.string ⟨#[49]⟩,.string ⟨#[49,48,48]⟩]) (Below.refl _ _) rfl) hb1;clear hb1))
      go_roundw
      case rel=>exact ⟨1,by omega,by go_num,(HB.out.alloc (Nat.le_trans (by simp) HB.out.size) _).trans (HB1.out.mono (by have:=HB.out.size;simp at this ⊢;omega))⟩
      case measure=>simp [intOf]
    · have c0 : wr.cell? ⟨w.heap.size,4,none⟩ = some (.func (.func 23) #[] #[]):=aw_cell HB.out rfl
      have c1 : wr.cell? ⟨w.heap.size,5,none⟩ = some (.string ⟨#[53]⟩):=aw_cell HB.out rfl
      have c2 : wr.cell? ⟨w.heap.size,6,none⟩ = some (.string ⟨#[49,50]⟩):=aw_cell HB.out rfl
      have c3 : wr.cell? ⟨w.heap.size,7,none⟩ = some (.string ⟨#[45,55]⟩):=aw_cell HB.out rfl
      have GN:=Lib.hid (HGr.out.keep ((Below.refl _ _).alloc (Nat.le_refl _) (.cells #[.func (.func 23) #[] #[],.string ⟨#[53]⟩,.string ⟨#[49,50]⟩,.string ⟨#[45,55]⟩] 63)))
      go_wp2_with (first
        | (go_at_call 23;(with_reducible refine (ex_sub _ GN.out).mono ?_);rintro e w1 ⟨rfl,hb1⟩;have HB1:=Lib.hid hb1;have c9 : w1.cell? ⟨wr.heap.size,3,none⟩ = some (.string ⟨#[45,55]⟩):=cell_keep (aw_cell (A:=#[.func (.func 23) #[] #[],.string ⟨#[53]⟩,.string ⟨#[49,50]⟩,.string ⟨#[45,55]⟩]) (Below.refl _ _) rfl) hb1;clear hb1))
      go_roundw
      case rel=>exact ⟨2,by omega,by go_num,(HB.out.alloc (Nat.le_trans (by simp) HB.out.size) _).trans (HB1.out.mono (by have:=HB.out.size;simp at this ⊢;omega))⟩
      case measure=>simp [intOf]
    · have c0 : wr.cell? ⟨w.heap.size,8,none⟩ = some (.func (.func 25) #[] #[]):=aw_cell HB.out rfl
      have c1 : wr.cell? ⟨w.heap.size,9,none⟩ = some (.string ⟨#[45,49,50]⟩):=aw_cell HB.out rfl
      have c2 : wr.cell? ⟨w.heap.size,10,none⟩ = some (.string ⟨#[49,50]⟩):=aw_cell HB.out rfl
      have c3 : wr.cell? ⟨w.heap.size,11,none⟩ = some (.string ⟨#[45,49,52,52]⟩):=aw_cell HB.out rfl
      have GN:=Lib.hid (HGr.out.keep ((Below.refl _ _).alloc (Nat.le_refl _) (.cells #[.func (.func 25) #[] #[],.string ⟨#[45,49,50]⟩,.string ⟨#[49,50]⟩,.string ⟨#[45,49,52,52]⟩] 63)))
      go_wp2_with (first
        | (go_at_call 25;(with_reducible refine (ex_mul _ GN.out).mono ?_);rintro e w1 ⟨rfl,hb1⟩;have HB1:=Lib.hid hb1;have c9 : w1.cell? ⟨wr.heap.size,3,none⟩ = some (.string ⟨#[45,49,52,52]⟩):=cell_keep (aw_cell (A:=#[.func (.func 25) #[] #[],.string ⟨#[45,49,50]⟩,.string ⟨#[49,50]⟩,.string ⟨#[45,49,52,52]⟩]) (Below.refl _ _) rfl) hb1;clear hb1))
      go_roundw
      case rel=>exact ⟨3,by omega,by go_num,(HB.out.alloc (Nat.le_trans (by simp) HB.out.size) _).trans (HB1.out.mono (by have:=HB.out.size;simp at this ⊢;omega))⟩
      case measure=>simp [intOf]
    · have c0 : wr.cell? ⟨w.heap.size,12,none⟩ = some (.func (.func 33) #[] #[]):=aw_cell HB.out rfl
      have c1 : wr.cell? ⟨w.heap.size,13,none⟩ = some (.string ⟨#[45,49,50]⟩):=aw_cell HB.out rfl
      have c2 : wr.cell? ⟨w.heap.size,14,none⟩ = some (.string ⟨#[49,56]⟩):=aw_cell HB.out rfl
      have c3 : wr.cell? ⟨w.heap.size,15,none⟩ = some (.string ⟨#[54]⟩):=aw_cell HB.out rfl
      have GN:=Lib.hid (HGr.out.keep ((Below.refl _ _).alloc (Nat.le_refl _) (.cells #[.func (.func 33) #[] #[],.string ⟨#[45,49,50]⟩,.string ⟨#[49,56]⟩,.string ⟨#[54]⟩] 63)))
      go_wp2_with (first
        | (go_at_call 33;(with_reducible refine (ex_gcd _ GN.out).mono ?_);rintro e w1 ⟨rfl,hb1⟩;have HB1:=Lib.hid hb1;have c9 : w1.cell? ⟨wr.heap.size,3,none⟩ = some (.string ⟨#[54]⟩):=cell_keep (aw_cell (A:=#[.func (.func 33) #[] #[],.string ⟨#[45,49,50]⟩,.string ⟨#[49,56]⟩,.string ⟨#[54]⟩]) (Below.refl _ _) rfl) hb1;clear hb1))
      go_roundw
      case rel=>exact ⟨4,by omega,by go_num,(HB.out.alloc (Nat.le_trans (by simp) HB.out.size) _).trans (HB1.out.mono (by have:=HB.out.size;simp at this ⊢;omega))⟩
      case measure=>simp [intOf]
    · have c0 : wr.cell? ⟨w.heap.size,16,none⟩ = some (.func (.func 47) #[] #[]):=aw_cell HB.out rfl
      have c1 : wr.cell? ⟨w.heap.size,17,none⟩ = some (.string ⟨#[54]⟩):=aw_cell HB.out rfl
      have c2 : wr.cell? ⟨w.heap.size,18,none⟩ = some (.string ⟨#[45,52]⟩):=aw_cell HB.out rfl
      have c3 : wr.cell? ⟨w.heap.size,19,none⟩ = some (.string ⟨#[45,51,47,50]⟩):=aw_cell HB.out rfl
      have GN:=Lib.hid (HGr.out.keep ((Below.refl _ _).alloc (Nat.le_refl _) (.cells #[.func (.func 47) #[] #[],.string ⟨#[54]⟩,.string ⟨#[45,52]⟩,.string ⟨#[45,51,47,50]⟩] 63)))
      go_wp2_with (first
        | (go_at_call 47;(with_reducible refine (ex_real _ GN.out).mono ?_);rintro e w1 ⟨rfl,hb1⟩;have HB1:=Lib.hid hb1;have c9 : w1.cell? ⟨wr.heap.size,3,none⟩ = some (.string ⟨#[45,51,47,50]⟩):=cell_keep (aw_cell (A:=#[.func (.func 47) #[] #[],.string ⟨#[54]⟩,.string ⟨#[45,52]⟩,.string ⟨#[45,51,47,50]⟩]) (Below.refl _ _) rfl) hb1;clear hb1))
      go_roundw
      case rel=>exact ⟨5,by omega,by go_num,(HB.out.alloc (Nat.le_trans (by simp) HB.out.size) _).trans (HB1.out.mono (by have:=HB.out.size;simp at this ⊢;omega))⟩
      case measure=>simp [intOf]
    · have c0 : wr.cell? ⟨w.heap.size,20,none⟩ = some (.func (.func 35) #[] #[]):=aw_cell HB.out rfl
      have c1 : wr.cell? ⟨w.heap.size,21,none⟩ = some (.string ⟨#[49,47,50]⟩):=aw_cell HB.out rfl
      have c2 : wr.cell? ⟨w.heap.size,22,none⟩ = some (.string ⟨#[49,47,51]⟩):=aw_cell HB.out rfl
      have c3 : wr.cell? ⟨w.heap.size,23,none⟩ = some (.string ⟨#[53,47,54]⟩):=aw_cell HB.out rfl
      have GN:=Lib.hid (HGr.out.keep ((Below.refl _ _).alloc (Nat.le_refl _) (.cells #[.func (.func 35) #[] #[],.string ⟨#[49,47,50]⟩,.string ⟨#[49,47,51]⟩,.string ⟨#[53,47,54]⟩] 63)))
      go_wp2_with (first
        | (go_at_call 35;(with_reducible refine (ex_addReal _ GN.out).mono ?_);rintro e w1 ⟨rfl,hb1⟩;have HB1:=Lib.hid hb1;have c9 : w1.cell? ⟨wr.heap.size,3,none⟩ = some (.string ⟨#[53,47,54]⟩):=cell_keep (aw_cell (A:=#[.func (.func 35) #[] #[],.string ⟨#[49,47,50]⟩,.string ⟨#[49,47,51]⟩,.string ⟨#[53,47,54]⟩]) (Below.refl _ _) rfl) hb1;clear hb1))
      go_roundw
      case rel=>exact ⟨6,by omega,by go_num,(HB.out.alloc (Nat.le_trans (by simp) HB.out.size) _).trans (HB1.out.mono (by have:=HB.out.size;simp at this ⊢;omega))⟩
      case measure=>simp [intOf]
    · have c0 : wr.cell? ⟨w.heap.size,24,none⟩ = some (.func (.func 37) #[] #[]):=aw_cell HB.out rfl
      have c1 : wr.cell? ⟨w.heap.size,25,none⟩ = some (.string ⟨#[49,47,50]⟩):=aw_cell HB.out rfl
      have c2 : wr.cell? ⟨w.heap.size,26,none⟩ = some (.string ⟨#[49,47,50]⟩):=aw_cell HB.out rfl
      have c3 : wr.cell? ⟨w.heap.size,27,none⟩ = some (.string ⟨#[48,47,49]⟩):=aw_cell HB.out rfl
      have GN:=Lib.hid (HGr.out.keep ((Below.refl _ _).alloc (Nat.le_refl _) (.cells #[.func (.func 37) #[] #[],.string ⟨#[49,47,50]⟩,.string ⟨#[49,47,50]⟩,.string ⟨#[48,47,49]⟩] 63)))
      go_wp2_with (first
        | (go_at_call 37;(with_reducible refine (ex_subReal _ GN.out).mono ?_);rintro e w1 ⟨rfl,hb1⟩;have HB1:=Lib.hid hb1;have c9 : w1.cell? ⟨wr.heap.size,3,none⟩ = some (.string ⟨#[48,47,49]⟩):=cell_keep (aw_cell (A:=#[.func (.func 37) #[] #[],.string ⟨#[49,47,50]⟩,.string ⟨#[49,47,50]⟩,.string ⟨#[48,47,49]⟩]) (Below.refl _ _) rfl) hb1;clear hb1))
      go_roundw
      case rel=>exact ⟨7,by omega,by go_num,(HB.out.alloc (Nat.le_trans (by simp) HB.out.size) _).trans (HB1.out.mono (by have:=HB.out.size;simp at this ⊢;omega))⟩
      case measure=>simp [intOf]
    · have c0 : wr.cell? ⟨w.heap.size,28,none⟩ = some (.func (.func 39) #[] #[]):=aw_cell HB.out rfl
      have c1 : wr.cell? ⟨w.heap.size,29,none⟩ = some (.string ⟨#[50,47,51]⟩):=aw_cell HB.out rfl
      have c2 : wr.cell? ⟨w.heap.size,30,none⟩ = some (.string ⟨#[51,47,52]⟩):=aw_cell HB.out rfl
      have c3 : wr.cell? ⟨w.heap.size,31,none⟩ = some (.string ⟨#[49,47,50]⟩):=aw_cell HB.out rfl
      have GN:=Lib.hid (HGr.out.keep ((Below.refl _ _).alloc (Nat.le_refl _) (.cells #[.func (.func 39) #[] #[],.string ⟨#[50,47,51]⟩,.string ⟨#[51,47,52]⟩,.string ⟨#[49,47,50]⟩] 63)))
      go_wp2_with (first
        | (go_at_call 39;(with_reducible refine (ex_mulReal _ GN.out).mono ?_);rintro e w1 ⟨rfl,hb1⟩;have HB1:=Lib.hid hb1;have c9 : w1.cell? ⟨wr.heap.size,3,none⟩ = some (.string ⟨#[49,47,50]⟩):=cell_keep (aw_cell (A:=#[.func (.func 39) #[] #[],.string ⟨#[50,47,51]⟩,.string ⟨#[51,47,52]⟩,.string ⟨#[49,47,50]⟩]) (Below.refl _ _) rfl) hb1;clear hb1))
      go_roundw
      case rel=>exact ⟨8,by omega,by go_num,(HB.out.alloc (Nat.le_trans (by simp) HB.out.size) _).trans (HB1.out.mono (by have:=HB.out.size;simp at this ⊢;omega))⟩
      case measure=>simp [intOf]
    · have c0 : wr.cell? ⟨w.heap.size,32,none⟩ = some (.func (.func 41) #[] #[]):=aw_cell HB.out rfl
      have c1 : wr.cell? ⟨w.heap.size,33,none⟩ = some (.string ⟨#[49,47,50]⟩):=aw_cell HB.out rfl
      have c2 : wr.cell? ⟨w.heap.size,34,none⟩ = some (.string ⟨#[45,51,47,52]⟩):=aw_cell HB.out rfl
      have c3 : wr.cell? ⟨w.heap.size,35,none⟩ = some (.string ⟨#[45,50,47,51]⟩):=aw_cell HB.out rfl
      have GN:=Lib.hid (HGr.out.keep ((Below.refl _ _).alloc (Nat.le_refl _) (.cells #[.func (.func 41) #[] #[],.string ⟨#[49,47,50]⟩,.string ⟨#[45,51,47,52]⟩,.string ⟨#[45,50,47,51]⟩] 63)))
      go_wp2_with (first
        | (go_at_call 41;(with_reducible refine (ex_divReal _ GN.out).mono ?_);rintro e w1 ⟨rfl,hb1⟩;have HB1:=Lib.hid hb1;have c9 : w1.cell? ⟨wr.heap.size,3,none⟩ = some (.string ⟨#[45,50,47,51]⟩):=cell_keep (aw_cell (A:=#[.func (.func 41) #[] #[],.string ⟨#[49,47,50]⟩,.string ⟨#[45,51,47,52]⟩,.string ⟨#[45,50,47,51]⟩]) (Below.refl _ _) rfl) hb1;clear hb1))
      go_roundw
      case rel=>exact ⟨9,by omega,by go_num,(HB.out.alloc (Nat.le_trans (by simp) HB.out.size) _).trans (HB1.out.mono (by have:=HB.out.size;simp at this ⊢;omega))⟩
      case measure=>simp [intOf]
    · have Z:=Lib.hid (aw_below HB.out)
      clear HB
      generalize wr = v at *
      go_wp2_with fail
      go_loopw [78] (fun i wr=>∃ k : Nat,k <= 3/\i = .int .i64 k/\Below (v.heap.size + 1) (v.alloc (.cells awB 65)) wr) (fun i _=>3 - (intOf i).toNat)
      case atStart=>exact ⟨0,by omega,rfl,Below.refl _ _⟩
      case round =>
        obtain ⟨k,hk,rfl,hB⟩:=hrel
        have HB:=Lib.hid hB
        have HG2:=Lib.hid (HGr.out.keep (aw_below hB))
        clear hB
        rcases (show k = 0 ∨ k = 1 ∨ k = 2 ∨ k = 3 by omega) with rfl | rfl | rfl | rfl
        · have c0 : wr.cell? ⟨v.heap.size,0,none⟩ = some (.string ⟨#[45,55]⟩):=aw_cell HB.out rfl
          have c1 : wr.cell? ⟨v.heap.size,1,none⟩ = some (.string ⟨#[50]⟩):=aw_cell HB.out rfl
          have c2 : wr.cell? ⟨v.heap.size,2,none⟩ = some (.string ⟨#[45,52]⟩):=aw_cell HB.out rfl
          have c3 : wr.cell? ⟨v.heap.size,3,none⟩ = some (.string ⟨#[49]⟩):=aw_cell HB.out rfl
          have GN:=Lib.hid (HG2.out.keep ((Below.refl _ _).alloc (Nat.le_refl _) (.cells #[.string ⟨#[45,55]⟩,.string ⟨#[50]⟩,.string ⟨#[45,52]⟩,.string ⟨#[49]⟩] 65)))
          go_wp2_with (first
            | (go_at_call 27;(with_reducible refine (ex_dm1 _ GN.out).mono ?_);rintro e w1 ⟨rfl,hb1⟩;have HB1:=Lib.hid hb1;have c8 : w1.cell? ⟨wr.heap.size,2,none⟩ = some (.string ⟨#[45,52]⟩):=cell_keep (aw_cell (A:=#[.string ⟨#[45,55]⟩,.string ⟨#[50]⟩,.string ⟨#[45,52]⟩,.string ⟨#[49]⟩]) (Below.refl _ _) rfl) hb1;have c9 : w1.cell? ⟨wr.heap.size,3,none⟩ = some (.string ⟨#[49]⟩):=cell_keep (aw_cell (A:=#[.string ⟨#[45,55]⟩,.string ⟨#[50]⟩,.string ⟨#[45,52]⟩,.string ⟨#[49]⟩]) (Below.refl _ _) rfl) hb1;clear hb1))
          go_roundw
          case rel=>exact ⟨_,_,_,_,_,_,_,_,_,_,_,_,_,_,_,_,_,_,_,_,_,_,_,_,_,_,_,_,_,_,_,_,_,⟨1,by omega,by go_num,(HB.out.alloc (Nat.le_trans (by simp) HB.out.size) _).trans (HB1.out.mono (by have:=HB.out.size;simp at this ⊢;omega))⟩,rfl⟩
          case measure=>simp [intOf]
        · have c0 : wr.cell? ⟨v.heap.size,4,none⟩ = some (.string ⟨#[45,55]⟩):=aw_cell HB.out rfl
          have c1 : wr.cell? ⟨v.heap.size,5,none⟩ = some (.string ⟨#[45,50]⟩):=aw_cell HB.out rfl
          have c2 : wr.cell? ⟨v.heap.size,6,none⟩ = some (.string ⟨#[52]⟩):=aw_cell HB.out rfl
          have c3 : wr.cell? ⟨v.heap.size,7,none⟩ = some (.string ⟨#[49]⟩):=aw_cell HB.out rfl
          have GN:=Lib.hid (HG2.out.keep ((Below.refl _ _).alloc (Nat.le_refl _) (.cells #[.string ⟨#[45,55]⟩,.string ⟨#[45,50]⟩,.string ⟨#[52]⟩,.string ⟨#[49]⟩] 65)))
          go_wp2_with (first
            | (go_at_call 27;(with_reducible refine (ex_dm2 _ GN.out).mono ?_);rintro e w1 ⟨rfl,hb1⟩;have HB1:=Lib.hid hb1;have c8 : w1.cell? ⟨wr.heap.size,2,none⟩ = some (.string ⟨#[52]⟩):=cell_keep (aw_cell (A:=#[.string ⟨#[45,55]⟩,.string ⟨#[45,50]⟩,.string ⟨#[52]⟩,.string ⟨#[49]⟩]) (Below.refl _ _) rfl) hb1;have c9 : w1.cell? ⟨wr.heap.size,3,none⟩ = some (.string ⟨#[49]⟩):=cell_keep (aw_cell (A:=#[.string ⟨#[45,55]⟩,.string ⟨#[45,50]⟩,.string ⟨#[52]⟩,.string ⟨#[49]⟩]) (Below.refl _ _) rfl) hb1;clear hb1))
          go_roundw
          case rel=>exact ⟨_,_,_,_,_,_,_,_,_,_,_,_,_,_,_,_,_,_,_,_,_,_,_,_,_,_,_,_,_,_,_,_,_,⟨2,by omega,by go_num,(HB.out.alloc (Nat.le_trans (by simp) HB.out.size) _).trans (HB1.out.mono (by have:=HB.out.size;simp at this ⊢;omega))⟩,rfl⟩
          case measure=>simp [intOf]
        · have c0 : wr.cell? ⟨v.heap.size,8,none⟩ = some (.string ⟨#[55]⟩):=aw_cell HB.out rfl
          have c1 : wr.cell? ⟨v.heap.size,9,none⟩ = some (.string ⟨#[45,50]⟩):=aw_cell HB.out rfl
          have c2 : wr.cell? ⟨v.heap.size,10,none⟩ = some (.string ⟨#[45,51]⟩):=aw_cell HB.out rfl
          have c3 : wr.cell? ⟨v.heap.size,11,none⟩ = some (.string ⟨#[49]⟩):=aw_cell HB.out rfl
          have GN:=Lib.hid (HG2.out.keep ((Below.refl _ _).alloc (Nat.le_refl _) (.cells #[.string ⟨#[55]⟩,.string ⟨#[45,50]⟩,.string ⟨#[45,51]⟩,.string ⟨#[49]⟩] 65)))
          go_wp2_with (first
            | (go_at_call 27;(with_reducible refine (ex_dm3 _ GN.out).mono ?_);rintro e w1 ⟨rfl,hb1⟩;have HB1:=Lib.hid hb1;have c8 : w1.cell? ⟨wr.heap.size,2,none⟩ = some (.string ⟨#[45,51]⟩):=cell_keep (aw_cell (A:=#[.string ⟨#[55]⟩,.string ⟨#[45,50]⟩,.string ⟨#[45,51]⟩,.string ⟨#[49]⟩]) (Below.refl _ _) rfl) hb1;have c9 : w1.cell? ⟨wr.heap.size,3,none⟩ = some (.string ⟨#[49]⟩):=cell_keep (aw_cell (A:=#[.string ⟨#[55]⟩,.string ⟨#[45,50]⟩,.string ⟨#[45,51]⟩,.string ⟨#[49]⟩]) (Below.refl _ _) rfl) hb1;clear hb1))
          go_roundw
          case rel=>exact ⟨_,_,_,_,_,_,_,_,_,_,_,_,_,_,_,_,_,_,_,_,_,_,_,_,_,_,_,_,_,_,_,_,_,⟨3,by omega,by go_num,(HB.out.alloc (Nat.le_trans (by simp) HB.out.size) _).trans (HB1.out.mono (by have:=HB.out.size;simp at this ⊢;omega))⟩,rfl⟩
          case measure=>simp [intOf]
        · have A0:=Lib.hid (Z.out.trans ((aw_below HB.out).mono Z.out.size))
          have G0:=Lib.hid (HG.out.keep A0.out)
          have sz0:=nines_size
          clear HB HG2 HGr Z
          go_wp2_with (first
            | (go_at_call 62;(with_reducible refine (ex_rep _).mono ?_);rintro e u0 ⟨rfl,hb⟩;have A1:=Lib.hid (A0.out.trans (hb.mono A0.out.size));have G1:=Lib.hid (HG.out.keep A1.out);clear hb G0)
            | (go_at_call 21;(with_reducible refine (ex_big _ G1.out).mono ?_);rintro e u1 ⟨rfl,hb⟩;have A2:=Lib.hid (A1.out.trans (hb.mono A1.out.size));have G2:=Lib.hid (HG.out.keep A2.out);clear hb G1)
            | (go_at_call 27;(with_reducible refine (ex_dm0 _ G2.out).mono ?_);rintro e u2 ⟨rfl,hb⟩;have A3:=Lib.hid (A2.out.trans (hb.mono A2.out.size));have G3:=Lib.hid (HG.out.keep A3.out);clear hb G2)
            | (go_at_call 31;(with_reducible refine (ex_pow _ G3.out).mono ?_);rintro e u3 ⟨rfl,hb⟩;have A4:=Lib.hid (A3.out.trans (hb.mono A3.out.size));have G4:=Lib.hid (HG.out.keep A4.out);clear hb G3)
            | (go_at_call 53;(with_reducible refine (ex_floor _ G4.out).mono ?_);rintro e u4 ⟨rfl,hb⟩;have A5:=Lib.hid (A4.out.trans (hb.mono A4.out.size));have G5:=Lib.hid (HG.out.keep A5.out);clear hb G4)
            | (go_at_call 51;(with_reducible refine (ex_dec _ G5.out).mono ?_);rintro e u5 ⟨rfl,hb⟩;have A6:=Lib.hid (A5.out.trans (hb.mono A5.out.size));have G6:=Lib.hid (HG.out.keep A6.out);clear hb G5)
            | (go_at_call 55;(with_reducible refine (ex_wrap _ G6.out).mono ?_);rintro e u6 ⟨rfl,hb⟩;have A7:=Lib.hid (A6.out.trans (hb.mono A6.out.size));have G7:=Lib.hid (HG.out.keep A7.out);clear hb G6)
            | (go_at_call 57;(with_reducible refine (ex_bAdd _ G7.out).mono ?_);rintro e u7 ⟨rfl,hb⟩;have A8:=Lib.hid (A7.out.trans (hb.mono A7.out.size));have G8:=Lib.hid (HG.out.keep A8.out);clear hb G7)
            | (go_at_call 57;(with_reducible refine (ex_bShl _ G8.out).mono ?_);rintro e u8 ⟨rfl,hb⟩;have A9:=Lib.hid (A8.out.trans (hb.mono A8.out.size));have G9:=Lib.hid (HG.out.keep A9.out);clear hb G8)
            | (go_at_call 57;(with_reducible refine (ex_bXor _ G9.out).mono ?_);rintro e u9 ⟨rfl,hb⟩;have A10:=Lib.hid (A9.out.trans (hb.mono A9.out.size));have G10:=Lib.hid (HG.out.keep A10.out);clear hb G9)
            | (go_at_call 29;(with_reducible refine (ex_cmp _ G10.out).mono ?_);rintro e u10 ⟨rfl,hb⟩;have A11:=Lib.hid (A10.out.trans (hb.mono A10.out.size));have G11:=Lib.hid (HG.out.keep A11.out);clear hb G10)
            | (go_at_call 43;(with_reducible refine (ex_cmpReal _ G11.out).mono ?_);rintro e u11 ⟨rfl,hb⟩;have A12:=Lib.hid (A11.out.trans (hb.mono A11.out.size));have G12:=Lib.hid (HG.out.keep A12.out);clear hb G11)
            | (go_at_call 16;(with_reducible refine (ex_toInt _ G12.out).mono ?_);rintro e u12 ⟨rfl,hb⟩;have A13:=Lib.hid (A12.out.trans (hb.mono A12.out.size));have G13:=Lib.hid (HG.out.keep A13.out);clear hb G12)
            | (go_at_call 18;(with_reducible refine (ex_neg _ G13.out).mono ?_);rintro e u13 ⟨rfl,hb⟩;have A14:=Lib.hid (A13.out.trans (hb.mono A13.out.size));have G14:=Lib.hid (HG.out.keep A14.out);clear hb G13)
            | (go_at_call 12;(with_reducible refine (ex_ck7 _ G14.out).mono ?_);rintro e u14 ⟨rfl,hb⟩;have A15:=Lib.hid (A14.out.trans (hb.mono A14.out.size));have G15:=Lib.hid (HG.out.keep A15.out);clear hb G14)
            | (go_at_call 12;(with_reducible refine (ex_ck0 _ G15.out).mono ?_);rintro e u15 ⟨rfl,hb⟩;have A16:=Lib.hid (A15.out.trans (hb.mono A15.out.size));have G16:=Lib.hid (HG.out.keep A16.out);clear hb G15)
            | (go_at_call 12;(with_reducible refine (ex_ckBig _ G16.out).mono ?_);rintro e u16 ⟨rfl,hb⟩;have A17:=Lib.hid (A16.out.trans (hb.mono A16.out.size));have G17:=Lib.hid (HG.out.keep A17.out);clear hb G16)
            | (go_at_call 45;(with_reducible refine (ex_ckReal _ G17.out).mono ?_);rintro e u17 ⟨rfl,hb⟩;have A18:=Lib.hid (A17.out.trans (hb.mono A17.out.size));have G18:=Lib.hid (HG.out.keep A18.out);clear hb G17)
            | (go_at_call 14;(with_reducible refine (ex_fromInt _ G18.out).mono ?_);rintro e u18 ⟨rfl,hb⟩;have A19:=Lib.hid (A18.out.trans (hb.mono A18.out.size));have G19:=Lib.hid (HG.out.keep A19.out);clear hb G18))
          go_ret
          exact ⟨rfl,A19.out⟩
end Go.Proofs.YtpbegoflpfdajaaGreatDoor
