import Derived.Test.YtokdoklkaojheaaDoorWl
import Derived.Deep.RegionHeld3
import Derived.Deep.RegionWith
namespace Go.Proofs.YtokdoklkaojheaaDoor
open Go.RowKit

/-- a place as a value: the kind, the text, the offset 0, the end -/
def plV (k : Int) (t : ByteArray) (n : Int) : Value := .agg #[.int .i64 k, .string t, .int .i64 0, .int .i64 n]

set_option maxHeartbeats 1000000 in
theorem place_any (s : ByteArray) (k : Int) (n : Nat) (w : World) (h : n ≤ s.size) (hs : s.size ≤ 9223372036854775807) :
    Calls Tryd.prog 111 #[.string s, .int .i64 k, .int .i64 n] w fun e w' => e = .returned (plV k (s.extract 0 n) n) ∧ Below w.heap.size w w' := by
  go_enter Tryd.func111, Tryd.ntmps111
  go_wp2
  refine bodyPost_ret (v := plV k (s.extract 0 n) n) ?_ rfl ⟨rfl, ?_⟩
  · unfold plV
    simp [results, Tryd.results111, go_sem]
  · exact (Below.refl _ _).alloc (Nat.le_refl _) _

/-- what a rule finds: the kind, the end, the error -/
def rdV (s : ByteArray) (r : Nat × Nat × Int) : Value := .tuple #[plV r.1 (s.extract 0 r.2.1) r.2.1, .int .i64 r.2.2]
def wordR (l : List UInt8) : Nat × Nat × Int :=
  if 24 < wlen l then (0, 0, 6) else if kwB (l.take (wlen l)) then (1, wlen l, 0) else (0, wlen l, 0)

theorem extract_zero (s : ByteArray) : s.extract 0 0 = ⟨#[]⟩ := by
  cases s; simp; rfl
theorem bcell {W w1 : World} (hb : Below W.heap.size W w1) : (∀ b o, b < W.heap.size → w1.cell? ⟨b, o, none⟩ = W.cell? ⟨b, o, none⟩) ∧ (∀ b o, b < W.heap.size → w1.frozen? ⟨b, o, none⟩ = W.frozen? ⟨b, o, none⟩) :=
  ⟨fun b o h => hb.cell (p := ⟨b, o, none⟩) h, fun b o h => hb.frozen (p := ⟨b, o, none⟩) h⟩

theorem below_pl {B b : Nat} {a w1 : World} (h : Below B a w1) (hB : B ≤ b) (v0 v1 v2 v3 : Value) : Below B a ((((w1.setCell ⟨b, 0, none⟩ v0).setCell ⟨b, 1, none⟩ v1).setCell ⟨b, 2, none⟩ v2).setCell ⟨b, 3, none⟩ v3) :=
  (((h.setCell (p := ⟨b, 0, none⟩) hB _).setCell (p := ⟨b, 1, none⟩) hB _).setCell (p := ⟨b, 2, none⟩) hB _).setCell (p := ⟨b, 3, none⟩) hB _
theorem below_undrew {B : Nat} {w w' : World} (h : Below B w.drew w') : Below B w w' := ⟨h.os, h.tape, h.output, h.size, h.block⟩
theorem below_two (w : World) (o o' : Obj) : Below w.heap.size w ((w.alloc o).alloc o') := ((Below.refl _ _).alloc (Nat.le_refl _) o).alloc (by simp) o'
/-- behind two new blocks and a call -/
theorem below_call {w w1 : World} {o o' : Obj} (h : Below ((w.alloc o).alloc o').heap.size ((w.alloc o).alloc o') w1) : Below w.heap.size w w1 := (below_two w o o').trans (h.mono (by simp; omega))

set_option maxHeartbeats 1000000 in
set_option maxRecDepth 100000 in
theorem word_any (s : ByteArray) (kb sb : Nat) (w : World) (hs : s.size ≤ 65536) (hsc : IsScanner w kb sb) :
    Calls Tryd.prog 84 #[.agg #[.map (some kb), .map (some sb)], .string s] w fun e w' => e = .returned (rdV s (wordR s.data.toList)) ∧ Below w.heap.size w w' := by
  have hle : wlen s.data.toList ≤ s.size := by have := wlen_le s.data.toList; simpa using this
  unfold wordR
  have cw := fun w => wordLength_any s w (by omega)
  have Hsc := Lib.hid hsc
  have hlt := hsc.lt
  obtain ⟨n, hn⟩ : ∃ n, wlen s.data.toList = n := ⟨_, rfl⟩
  rw [hn] at cw hle ⊢
  have Cw := Lib.hid cw
  clear cw hn hsc
  by_cases h1 : 24 < n
  · rw [if_pos h1]
    go_enter Tryd.func84, Tryd.ntmps84
    go_wp2_with fail
    refine (Cw.out _).mono ?_; rintro e w1 ⟨rfl, hb⟩
    obtain ⟨hc, hf⟩ := bcell hb
    have hz : w.heap.size + 1 < w1.heap.size := by have := hb.size; simp at this; omega
    have Hb := Lib.hid hb; clear hb
    go_wp2
    refine bodyPost_ret (v := rdV s (0, 0, 6)) ?_ rfl ⟨rfl, ?_⟩
    · simp [results, Tryd.results84, go_sem, hc, hz]
      simp [rdV, plV, extract_zero]; rfl
    · exact below_pl (below_call Hb.out) (by omega) _ _ _ _
  · rw [if_neg h1]
    have ck := fun w h => isKeyword_any (s.extract 0 n) kb sb w (by simp; omega) h
    rw [show (s.extract 0 n).data.toList = s.data.toList.take n by rw [Lib.extract_data]; simp] at ck
    cases hkw : kwB (s.data.toList.take n) with
    | true =>
      rw [hkw] at ck
      have Ck := Lib.hid ck; clear ck hkw
      go_enter Tryd.func84, Tryd.ntmps84
      go_wp2_with fail
      refine (Cw.out _).mono ?_; rintro e w1 ⟨rfl, hb⟩
      obtain ⟨hc, hf⟩ := bcell hb
      have hz : w.heap.size + 1 < w1.heap.size := by have := hb.size; simp at this; omega
      have hsc1 : IsScanner w1 kb sb := Hsc.out.below hlt.1 hlt.2 (below_call hb)
      have Hb := Lib.hid hb; clear hb
      have Hsc1 := Lib.hid hsc1; clear hsc1
      go_wp2
      have hk0 : w1.cell? ⟨w.heap.size, 0, none⟩ = some (.map (some kb)) := by
        rw [hc _ _ (by simp; omega)]; simp [World.cell?_alloc_lt]
      have hk1 : w1.cell? ⟨w.heap.size, 1, none⟩ = some (.map (some sb)) := by
        rw [hc _ _ (by simp; omega)]; simp [World.cell?_alloc_lt]
      go_region_held3 (fun w' => w'.cell? ⟨w.heap.size, 0, none⟩ = some (.map (some kb)) ∧ w'.cell? ⟨w.heap.size, 1, none⟩ = some (.map (some sb))) (first | exact ⟨hq0, hq1⟩ | exact ⟨hk0, hk1⟩ | go_keep)
        (first | (go_at_call 110; refine (Ck.out _ (by exact Hsc1.out)).mono ?_; rintro e w2 ⟨rfl, hb2⟩; have hq0 := cell_later hb2 hk0; have hq1 := cell_later hb2 hk1))
      have hbig2 := Hb.out.trans ((below_undrew hb2).mono Hb.out.size)
      clear hc hf hk0 hk1 hq0 hq1 hz
      have Hbig2 := Lib.hid hbig2; clear hbig2 hb2
      go_wp2_with fail
      refine (place_any s 1 n _ hle (by omega)).mono ?_; rintro e w3 ⟨rfl, hb3⟩
      simp only [plV]
      have hbig3 := Hbig2.out.trans (hb3.mono Hbig2.out.size)
      obtain ⟨hc, hf⟩ := bcell hbig3
      have hz : w.heap.size + 1 < w3.heap.size := by have := hbig3.size; simp at this; omega
      have Hbig3 := Lib.hid hbig3; clear hbig3 hb3
      go_wp2
      refine bodyPost_ret (v := rdV s (1, n, 0)) ?_ rfl ⟨rfl, ?_⟩
      · simp [results, Tryd.results84, go_sem, hc, hz]
        simp [rdV, plV]
      · exact below_pl (below_call Hbig3.out) (by omega) _ _ _ _
    | false =>
      rw [hkw] at ck
      have Ck := Lib.hid ck; clear ck hkw
      go_enter Tryd.func84, Tryd.ntmps84
      go_wp2_with fail
      refine (Cw.out _).mono ?_; rintro e w1 ⟨rfl, hb⟩
      obtain ⟨hc, hf⟩ := bcell hb
      have hz : w.heap.size + 1 < w1.heap.size := by have := hb.size; simp at this; omega
      have hsc1 : IsScanner w1 kb sb := Hsc.out.below hlt.1 hlt.2 (below_call hb)
      have Hb := Lib.hid hb; clear hb
      have Hsc1 := Lib.hid hsc1; clear hsc1
      go_wp2
      have hk0 : w1.cell? ⟨w.heap.size, 0, none⟩ = some (.map (some kb)) := by
        rw [hc _ _ (by simp; omega)]; simp [World.cell?_alloc_lt]
      have hk1 : w1.cell? ⟨w.heap.size, 1, none⟩ = some (.map (some sb)) := by
        rw [hc _ _ (by simp; omega)]; simp [World.cell?_alloc_lt]
      go_region_held3 (fun w' => w'.cell? ⟨w.heap.size, 0, none⟩ = some (.map (some kb)) ∧ w'.cell? ⟨w.heap.size, 1, none⟩ = some (.map (some sb))) (first | exact ⟨hq0, hq1⟩ | exact ⟨hk0, hk1⟩ | go_keep)
        (first | (go_at_call 110; refine (Ck.out _ (by exact Hsc1.out)).mono ?_; rintro e w2 ⟨rfl, hb2⟩; have hq0 := cell_later hb2 hk0; have hq1 := cell_later hb2 hk1))
      have hbig2 := Hb.out.trans ((below_undrew hb2).mono Hb.out.size)
      clear hc hf hk0 hk1 hq0 hq1 hz
      have Hbig2 := Lib.hid hbig2; clear hbig2 hb2
      go_wp2_with fail
      refine (place_any s 0 n _ hle (by omega)).mono ?_; rintro e w3 ⟨rfl, hb3⟩
      simp only [plV]
      have hbig3 := Hbig2.out.trans (hb3.mono Hbig2.out.size)
      obtain ⟨hc, hf⟩ := bcell hbig3
      have hz : w.heap.size + 1 < w3.heap.size := by have := hbig3.size; simp at this; omega
      have Hbig3 := Lib.hid hbig3; clear hbig3 hb3
      go_wp2
      refine bodyPost_ret (v := rdV s (0, n, 0)) ?_ rfl ⟨rfl, ?_⟩
      · simp [results, Tryd.results84, go_sem, hc, hz]
        simp [rdV, plV]
      · exact below_pl (below_call Hbig3.out) (by omega) _ _ _ _
end Go.Proofs.YtokdoklkaojheaaDoor
