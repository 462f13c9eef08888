/-
  OWN TEXT: the drawing of a party, and of a party with legs.
-/
import Derived.Test.YtaalhmaacaahhaaDoorDrawK
import Derived.Test.YtaalhmaacaahhaaDoorPlainFa
import Derived.Deep.DeepCutAuto
namespace Go.Proofs.YtaalhmaacaahhaaDoor
open Go.RowKit

/-- A cursor behind a store into a box that is neither the cursor nor where the bytes lie. -/
theorem CurIs.box {u : World} {cb n c a B : Nat} {ao : Option Addr} (h : CurIs u cb ao n c a) (h1 : cb ≠ B) (h2 : ∀ k, k < n → ∀ b off, ao = some ⟨b, off, none⟩ → b ≠ B) (i : Nat) (v : Value) : CurIs (u.setCell ⟨B, i, none⟩ v) cb ao n c a := by
  obtain ⟨⟨p, s, hp, hb⟩, hc⟩ := h
  refine ⟨⟨p, s, hp, blk_set_other hb i v h1⟩, fun k hk => ?_⟩
  obtain ⟨b, off, x, e, hne, hcell, g1, g2⟩ := hc k hk
  exact ⟨b, off, x, e, hne, (Kept.cellAt ((Kept.refl u (fun z => z = B)).set (a := ⟨B, i, none⟩) rfl v) hcell (h2 k hk b off e)), g1, g2⟩

/-- In the midst of a party's drawing: the cursor, the answer's box, the party's own box. -/
structure PSit (w u : World) (cb : Nat) (ao : Option Addr) (n c a pb : Nat) (x0 x1 x2 x3 : Int) (x4 : Bool) (x5 : Int) : Prop where
  cur : CurIs u cb ao n c a
  kept : Kept w u (fun b => b = cb)
  lt : w.heap.size < pb
  res : u.heap[w.heap.size]? = some (.cells #[.int .i64 0, .int .i64 0, .int .i64 0, .int .i64 0, .bool false, .int .i64 0] 24 (0, 0))
  box : u.heap[pb]? = some (.cells #[.int .i64 x0, .int .i64 x1, .int .i64 x2, .int .i64 x3, .bool x4, .int .i64 x5] 24 (0, 0))
theorem PSit.on {w u u' : World} {cb n c a a' pb : Nat} {ao : Option Addr} {x0 x1 x2 x3 : Int} {x4 : Bool} {x5 : Int} (h : PSit w u cb ao n c a pb x0 x1 x2 x3 x4 x5) (hcb : cb < w.heap.size) (hc : CurIs u' cb ao n c a') (hk : Kept u u' (fun b => b = cb)) : PSit w u' cb ao n c a' pb x0 x1 x2 x3 x4 x5 :=
  have h1 := h.lt
  ⟨hc, h.kept.trans hk, h.lt, hk.blk h.res (by omega), hk.blk h.box (by omega)⟩
theorem PSit.below {w u u' : World} {cb n c a pb : Nat} {ao : Option Addr} {x0 x1 x2 x3 : Int} {x4 : Bool} {x5 : Int} (h : PSit w u cb ao n c a pb x0 x1 x2 x3 x4 x5) (hb : Below u.heap.size u u') : PSit w u' cb ao n c a pb x0 x1 x2 x3 x4 x5 :=
  ⟨h.cur.below hb, h.kept.trans (Kept.of_below hb), h.lt, blk_below h.res hb, blk_below h.box hb⟩
theorem PSit.more {w u : World} {cb n c a a' pb : Nat} {ao : Option Addr} {x0 x1 x2 x3 : Int} {x4 : Bool} {x5 : Int} (h : PSit w u cb ao n c a pb x0 x1 x2 x3 x4 x5) (ha : a ≤ a') : PSit w u cb ao n c a' pb x0 x1 x2 x3 x4 x5 :=
  ⟨h.cur.more ha, h.kept, h.lt, h.res, h.box⟩
/-- What the bytes' block is not: it lies below the drawing's own memory. -/
def LowCode (w : World) (ao : Option Addr) (n : Nat) : Prop := ∀ k, k < n → ∀ b off, ao = some ⟨b, off, none⟩ → b < w.heap.size
theorem PSit.raw {w u : World} {cb n c a pb : Nat} {ao : Option Addr} {x0 x1 x2 x3 : Int} {x4 : Bool} {x5 : Int} (h : PSit w u cb ao n c a pb x0 x1 x2 x3 x4 x5) (hcb : cb < w.heap.size) (hl : LowCode w ao n) (i : Nat) (v : Value) :
    CurIs (u.setCell ⟨pb, i, none⟩ v) cb ao n c a ∧ Kept w (u.setCell ⟨pb, i, none⟩ v) (fun b => b = cb) ∧ (u.setCell ⟨pb, i, none⟩ v).heap[w.heap.size]? = some (.cells #[.int .i64 0, .int .i64 0, .int .i64 0, .int .i64 0, .bool false, .int .i64 0] 24 (0, 0)) := by
  have h1 := h.lt
  refine ⟨h.cur.box (by omega) (fun k hk b off e => by have := hl k hk b off e; omega) i v, ?_, blk_set_other h.res i v (by omega)⟩
  exact ⟨h.kept.os, h.kept.tape, h.kept.output, by rw [World.size_setCell]; exact h.kept.size, fun j hj hs => by
    rw [show (u.setCell ⟨pb, i, none⟩ v).heap[j]? = u.heap[j]? from by simp [World.setCell, Array.getElem?_modify]; intro e; omega]
    exact h.kept.block j hj hs⟩
theorem PSit.set0 {w u : World} {cb n c a pb : Nat} {ao : Option Addr} {x0 x1 x2 x3 : Int} {x4 : Bool} {x5 : Int} (h : PSit w u cb ao n c a pb x0 x1 x2 x3 x4 x5) (hcb : cb < w.heap.size) (hl : LowCode w ao n) (y : Int) : PSit w (u.setCell ⟨pb, 0, none⟩ (.int .i64 y)) cb ao n c a pb y x1 x2 x3 x4 x5 :=
  ⟨(h.raw hcb hl _ _).1, (h.raw hcb hl _ _).2.1, h.lt, (h.raw hcb hl _ _).2.2, blk_set h.box 0 _⟩
theorem PSit.set1 {w u : World} {cb n c a pb : Nat} {ao : Option Addr} {x0 x1 x2 x3 : Int} {x4 : Bool} {x5 : Int} (h : PSit w u cb ao n c a pb x0 x1 x2 x3 x4 x5) (hcb : cb < w.heap.size) (hl : LowCode w ao n) (y : Int) : PSit w (u.setCell ⟨pb, 1, none⟩ (.int .i64 y)) cb ao n c a pb x0 y x2 x3 x4 x5 :=
  ⟨(h.raw hcb hl _ _).1, (h.raw hcb hl _ _).2.1, h.lt, (h.raw hcb hl _ _).2.2, blk_set h.box 1 _⟩
theorem PSit.set2 {w u : World} {cb n c a pb : Nat} {ao : Option Addr} {x0 x1 x2 x3 : Int} {x4 : Bool} {x5 : Int} (h : PSit w u cb ao n c a pb x0 x1 x2 x3 x4 x5) (hcb : cb < w.heap.size) (hl : LowCode w ao n) (y : Int) : PSit w (u.setCell ⟨pb, 2, none⟩ (.int .i64 y)) cb ao n c a pb x0 x1 y x3 x4 x5 :=
  ⟨(h.raw hcb hl _ _).1, (h.raw hcb hl _ _).2.1, h.lt, (h.raw hcb hl _ _).2.2, blk_set h.box 2 _⟩
theorem PSit.set3 {w u : World} {cb n c a pb : Nat} {ao : Option Addr} {x0 x1 x2 x3 : Int} {x4 : Bool} {x5 : Int} (h : PSit w u cb ao n c a pb x0 x1 x2 x3 x4 x5) (hcb : cb < w.heap.size) (hl : LowCode w ao n) (y : Int) : PSit w (u.setCell ⟨pb, 3, none⟩ (.int .i64 y)) cb ao n c a pb x0 x1 x2 y x4 x5 :=
  ⟨(h.raw hcb hl _ _).1, (h.raw hcb hl _ _).2.1, h.lt, (h.raw hcb hl _ _).2.2, blk_set h.box 3 _⟩
theorem PSit.set4 {w u : World} {cb n c a pb : Nat} {ao : Option Addr} {x0 x1 x2 x3 : Int} {x4 : Bool} {x5 : Int} (h : PSit w u cb ao n c a pb x0 x1 x2 x3 x4 x5) (hcb : cb < w.heap.size) (hl : LowCode w ao n) (y : Bool) : PSit w (u.setCell ⟨pb, 4, none⟩ (.bool y)) cb ao n c a pb x0 x1 x2 x3 y x5 :=
  ⟨(h.raw hcb hl _ _).1, (h.raw hcb hl _ _).2.1, h.lt, (h.raw hcb hl _ _).2.2, blk_set h.box 4 _⟩
theorem PSit.set5 {w u : World} {cb n c a pb : Nat} {ao : Option Addr} {x0 x1 x2 x3 : Int} {x4 : Bool} {x5 : Int} (h : PSit w u cb ao n c a pb x0 x1 x2 x3 x4 x5) (hcb : cb < w.heap.size) (hl : LowCode w ao n) (y : Int) : PSit w (u.setCell ⟨pb, 5, none⟩ (.int .i64 y)) cb ao n c a pb x0 x1 x2 x3 x4 y :=
  ⟨(h.raw hcb hl _ _).1, (h.raw hcb hl _ _).2.1, h.lt, (h.raw hcb hl _ _).2.2, blk_set h.box 5 _⟩

theorem kept_far {w u : World} {S : Nat → Prop} {b : Nat} (h : Kept w u S) (hb : w.heap.size ≤ b) (i : Nat) (v : Value) : Kept w (u.setCell ⟨b, i, none⟩ v) S :=
  ⟨h.os, h.tape, h.output, by rw [World.size_setCell]; exact h.size, fun j hj hs => by
    rw [show (u.setCell ⟨b, i, none⟩ v).heap[j]? = u.heap[j]? from by simp [World.setCell, Array.getElem?_modify]; intro e; omega]
    exact h.block j hj hs⟩
theorem party_end {w u : World} {cb n c a pb : Nat} {ao : Option Addr} {x0 x1 x2 x3 : Int} {x4 : Bool} {x5 : Int} (h : PSit w u cb ao n c a pb x0 x1 x2 x3 x4 x5) (hcb : cb < w.heap.size) (hl : LowCode w ao n) :
    CurIs ((((((u.setCell ⟨w.heap.size, 0, none⟩ (.int .i64 x0)).setCell ⟨w.heap.size, 1, none⟩ (.int .i64 x1)).setCell ⟨w.heap.size, 2, none⟩ (.int .i64 x2)).setCell ⟨w.heap.size, 3, none⟩ (.int .i64 x3)).setCell ⟨w.heap.size, 4, none⟩ (.bool x4)).setCell ⟨w.heap.size, 5, none⟩ (.int .i64 x5)) cb ao n c a ∧
    Kept w ((((((u.setCell ⟨w.heap.size, 0, none⟩ (.int .i64 x0)).setCell ⟨w.heap.size, 1, none⟩ (.int .i64 x1)).setCell ⟨w.heap.size, 2, none⟩ (.int .i64 x2)).setCell ⟨w.heap.size, 3, none⟩ (.int .i64 x3)).setCell ⟨w.heap.size, 4, none⟩ (.bool x4)).setCell ⟨w.heap.size, 5, none⟩ (.int .i64 x5)) (fun b => b = cb) ∧
    ((((((u.setCell ⟨w.heap.size, 0, none⟩ (.int .i64 x0)).setCell ⟨w.heap.size, 1, none⟩ (.int .i64 x1)).setCell ⟨w.heap.size, 2, none⟩ (.int .i64 x2)).setCell ⟨w.heap.size, 3, none⟩ (.int .i64 x3)).setCell ⟨w.heap.size, 4, none⟩ (.bool x4)).setCell ⟨w.heap.size, 5, none⟩ (.int .i64 x5)).heap[w.heap.size]? = some (.cells #[.int .i64 x0, .int .i64 x1, .int .i64 x2, .int .i64 x3, .bool x4, .int .i64 x5] 24 (0, 0)) := by
  have h1 : cb ≠ w.heap.size := by omega
  have h2 : ∀ k, k < n → ∀ b off, ao = some ⟨b, off, none⟩ → b ≠ w.heap.size := fun k hk b off e => by have := hl k hk b off e; omega
  refine ⟨(((((h.cur.box h1 h2 0 _).box h1 h2 1 _).box h1 h2 2 _).box h1 h2 3 _).box h1 h2 4 _).box h1 h2 5 _, ?_, ?_⟩
  · exact kept_far (kept_far (kept_far (kept_far (kept_far (kept_far h.kept (Nat.le_refl _) _ _) (Nat.le_refl _) _ _) (Nat.le_refl _) _ _) (Nat.le_refl _) _ _) (Nat.le_refl _) _ _) (Nat.le_refl _) _ _
  · exact blk_set (blk_set (blk_set (blk_set (blk_set (blk_set h.res 0 _) 1 _) 2 _) 3 _) 4 _) 5 _

set_option maxHeartbeats 3200000 in
set_option maxRecDepth 100000 in
theorem party_any (cb : Nat) (ao : Option Addr) (n c a : Nat) (w : World) (ha : a ≤ 700000000000000000) (h : CurIs w cb ao n c a) :
    Calls Tryd.prog 9 #[.pointer (some ⟨cb, 0, none⟩)] w fun e w' => (∃ (x0 x1 x2 x3 : Int) (x4 : Bool) (x5 : Int), e = .returned (.agg #[.int .i64 x0, .int .i64 x1, .int .i64 x2, .int .i64 x3, .bool x4, .int .i64 x5])) ∧ CurIs w' cb ao n c (a + 40) ∧ Kept w w' (fun b => b = cb) := by
  have hcb := h.lt
  have HL : Hid (LowCode w ao n) := h.code_lt
  go_enter Tryd.func9, Tryd.ntmps9
  go_wp2_with fail
  have hA : CurIs (w.alloc (.cells #[.int .i64 0, .int .i64 0, .int .i64 0, .int .i64 0, .bool false, .int .i64 0] 24)) cb ao n c a := h.below (push (Below.refl _ _) _)
  have hkA : Kept w (w.alloc (.cells #[.int .i64 0, .int .i64 0, .int .i64 0, .int .i64 0, .bool false, .int .i64 0] 24)) (fun b => b = cb) := Kept.of_below (push (Below.refl _ _) _)
  have hrA := heap_alloc_new w (.cells #[.int .i64 0, .int .i64 0, .int .i64 0, .int .i64 0, .bool false, .int .i64 0] 24)
  have hsA : (w.alloc (.cells #[.int .i64 0, .int .i64 0, .int .i64 0, .int .i64 0, .bool false, .int .i64 0] 24)).heap.size = w.heap.size + 1 := by simp
  generalize w.alloc (.cells #[.int .i64 0, .int .i64 0, .int .i64 0, .int .i64 0, .bool false, .int .i64 0] 24) = wA at hA hkA hrA hsA ⊢
  refine (pick_any cb ao n c a 5 _ (by omega) (by omega) (by omega) hA).mono ?_
  rintro e w1 ⟨⟨r, rfl, hr⟩, hc1, hk1⟩
  have hwr : IntKind.i64.wrap (1 + (r : Int)) = 1 + (r : Int) := by rw [IntKind.wrap_i64]; omega
  have hr1 := hk1.blk hrA (by omega)
  have hs1 := hk1.size
  have hk1' := hkA.trans hk1
  clear h hA hkA hrA hk1
  go_wp2_with fail
  have hP : PSit w (w1.alloc (.cells #[.int .i64 (1 + (r : Int)), .int .i64 0, .int .i64 0, .int .i64 0, .bool false, .int .i64 0] 24)) cb ao n c (a + 2) w1.heap.size (1 + (r : Int)) 0 0 0 false 0 := ⟨hc1.below (push (Below.refl _ _) _), hk1'.trans (Kept.of_below (push (Below.refl _ _) _)), by omega, blk_alloc hr1 _, heap_alloc_new _ _⟩
  generalize w1.alloc (.cells #[.int .i64 (1 + (r : Int)), .int .i64 0, .int .i64 0, .int .i64 0, .bool false, .int .i64 0] 24) = u0 at hP ⊢
  clear hc1 hr1 hs1 hk1' hsA
  generalize w1.heap.size = pb at hP ⊢
  generalize (1 + (r : Int)) = x0 at hP ⊢
  clear hwr hr
  refine (one_any cb ao n c (a + 2) 2 _ (by omega) (by omega) (by omega) hP.cur).mono ?_
  rintro e u1 ⟨⟨q, rfl⟩, hcN, hkN⟩
  have hP1 := hP.on hcb hcN hkN
  clear hP hcN hkN
  go_upto_if 9 with fail
  go_cut [] (fun wx => ∃ y1 y2 : Int, PSit w wx cb ao n c (a + 8) pb x0 y1 y2 0 false 0)
  case first =>
    cases q with
    | false =>
      go_wp2
      go_meet
      exact ⟨0, 0, hP1.more (by omega)⟩
    | true =>
      go_wp2_with fail
      refine (pick_any cb ao n c (a + 2 + 2) 16 _ (by omega) (by omega) (by omega) hP1.cur).mono ?_
      rintro e u2 ⟨⟨r1, rfl, hr1⟩, hcN, hkN⟩
      have hP2 := hP1.on hcb hcN hkN
      clear hP1 hcN hkN
      have wa : IntKind.i64.wrap (50 * (r1 : Int)) = 50 * (r1 : Int) := by rw [IntKind.wrap_i64]; omega
      have wb : IntKind.i64.wrap (100 + 50 * (r1 : Int)) = 100 + 50 * (r1 : Int) := by rw [IntKind.wrap_i64]; omega
      have g1 := blk_cell hP2.box 1 _ rfl
      have f1 := blk_free hP2.box 1
      go_wp2_with fail
      have hP3 := hP2.set1 hcb HL.out (100 + 50 * (r1 : Int))
      clear hP2
      generalize u2.setCell ⟨pb, 1, none⟩ (.int .i64 (100 + 50 * (r1 : Int))) = u3 at hP3 ⊢
      clear g1 f1 wa wb
      refine (pick_any cb ao n c (a + 2 + 2 + 2) 5 _ (by omega) (by omega) (by omega) hP3.cur).mono ?_
      rintro e u4 ⟨⟨r2, rfl, hr2⟩, hcN, hkN⟩
      have hP4 := hP3.on hcb hcN hkN
      clear hP3 hcN hkN
      have wa : IntKind.i64.wrap (50 * (r2 : Int)) = 50 * (r2 : Int) := by rw [IntKind.wrap_i64]; omega
      have wb : IntKind.i64.wrap (150 + 50 * (r2 : Int)) = 150 + 50 * (r2 : Int) := by rw [IntKind.wrap_i64]; omega
      have g2 := blk_cell hP4.box 2 _ rfl
      have f2 := blk_free hP4.box 2
      go_wp2
      go_meet
      exact ⟨_, _, (hP4.set2 hcb HL.out _).more (by omega)⟩
  case rest =>
    obtain ⟨y1, y2, hP5⟩ := hcut
    clear hP1
    go_wp2_with fail
    refine (one_any cb ao n c (a + 8) 2 _ (by omega) (by omega) (by omega) hP5.cur).mono ?_
    rintro e u6 ⟨⟨q2, rfl⟩, hcN, hkN⟩
    have hP6 := hP5.on hcb hcN hkN
    clear hP5 hcN hkN
    go_upto_if 21 with fail
    go_cut [] (fun wx => ∃ (y3 : Int) (y4 : Bool) (y5 : Int), PSit w wx cb ao n c (a + 16) pb x0 y1 y2 y3 y4 y5)
    case first =>
      cases q2 with
      | false =>
        go_wp2
        go_meet
        exact ⟨0, false, 0, hP6.more (by omega)⟩
      | true =>
        go_wp2_with fail
        refine (pick_any cb ao n c (a + 8 + 2) 2 _ (by omega) (by omega) (by omega) hP6.cur).mono ?_
        rintro e u7 ⟨⟨r3, rfl, hr3⟩, hcN, hkN⟩
        have hP7 := hP6.on hcb hcN hkN
        clear hP6 hcN hkN
        have wa : IntKind.i64.wrap (1 + (r3 : Int)) = 1 + (r3 : Int) := by rw [IntKind.wrap_i64]; omega
        have g3 := blk_cell hP7.box 3 _ rfl
        have f3 := blk_free hP7.box 3
        go_wp2_with fail
        have hP8 := hP7.set3 hcb HL.out (1 + (r3 : Int))
        clear hP7
        generalize u7.setCell ⟨pb, 3, none⟩ (.int .i64 (1 + (r3 : Int))) = u8 at hP8 ⊢
        clear g3 f3 wa
        refine (one_any cb ao n c (a + 8 + 2 + 2) 2 _ (by omega) (by omega) (by omega) hP8.cur).mono ?_
        rintro e u9 ⟨⟨q3, rfl⟩, hcN, hkN⟩
        have hP9 := hP8.on hcb hcN hkN
        clear hP8 hcN hkN
        have g4 := blk_cell hP9.box 4 _ rfl
        have f4 := blk_free hP9.box 4
        have hP10 := hP9.set4 hcb HL.out q3
        have g4' := blk_cell hP10.box 4 _ rfl
        cases q3 with
        | true =>
          go_wp2
          go_meet
          exact ⟨_, _, _, hP10.more (by omega)⟩
        | false =>
          go_wp2_with fail
          clear hP9 g4 f4 g4'
          generalize u9.setCell ⟨pb, 4, none⟩ (.bool false) = u10 at hP10 ⊢
          refine (pick_any cb ao n c (a + 8 + 2 + 2 + 2) 3 _ (by omega) (by omega) (by omega) hP10.cur).mono ?_
          rintro e u11 ⟨⟨r4, rfl, hr4⟩, hcN, hkN⟩
          have hP11 := hP10.on hcb hcN hkN
          clear hP10 hcN hkN
          have wa : IntKind.i64.wrap (1 + (r4 : Int)) = 1 + (r4 : Int) := by rw [IntKind.wrap_i64]; omega
          have g5 := blk_cell hP11.box 5 _ rfl
          have f5 := blk_free hP11.box 5
          go_wp2
          go_meet
          exact ⟨_, _, _, (hP11.set5 hcb HL.out _).more (by omega)⟩
    case rest =>
      obtain ⟨y3, y4, y5, hP12⟩ := hcut
      clear hP6
      go_wp2_with fail
      refine (one_any cb ao n c (a + 16) 8 _ (by omega) (by omega) (by omega) hP12.cur).mono ?_
      rintro e u13 ⟨⟨q4, rfl⟩, hcN, hkN⟩
      have hP13 := hP12.on hcb hcN hkN
      clear hP12 hcN hkN
      go_upto_if 37 with fail
      go_cut [] (fun wx => ∃ (y0 : Int), PSit w wx cb ao n c (a + 20) pb y0 y1 y2 y3 y4 y5)
      case first =>
        cases q4 with
        | false =>
          go_wp2
          go_meet
          exact ⟨x0, hP13.more (by omega)⟩
        | true =>
          go_wp2_with fail
          refine (pick_any cb ao n c (a + 16 + 2) 20 _ (by omega) (by omega) (by omega) hP13.cur).mono ?_
          rintro e u14 ⟨⟨r5, rfl, hr5⟩, hcN, hkN⟩
          have hP14 := hP13.on hcb hcN hkN
          clear hP13 hcN hkN
          have wa : IntKind.i64.wrap (1 + (r5 : Int)) = 1 + (r5 : Int) := by rw [IntKind.wrap_i64]; omega
          have g0 := blk_cell hP14.box 0 _ rfl
          have f0 := blk_free hP14.box 0
          go_wp2
          go_meet
          exact ⟨_, (hP14.set0 hcb HL.out _).more (by omega)⟩
      case rest =>
        obtain ⟨y0, hP15⟩ := hcut
        clear hP13
        go_wp2_with fail
        refine (pick_any cb ao n c (a + 20) 60 _ (by omega) (by omega) (by omega) hP15.cur).mono ?_
        rintro e u16 ⟨⟨r6, rfl, hr6⟩, hcN, hkN⟩
        have hP16 := hP15.on hcb hcN hkN
        clear hP15 hcN hkN
        have HC : Hid (∀ k : Nat, r6 = k → True) := fun _ _ => trivial
        clear HC
        by_cases c0 : r6 = 0
        · subst c0
          go_wp2_with fail
          have hB := hP16.below (push (Below.refl _ _) (.cells ([0, 20, 21].map (fun x => Value.int .i64 x)).toArray 3))
          have hlt := hP16.cur.lt
          refine (amongL cb ao n c (a + 20 + 2) 3 [0, 20, 21] _ rfl (by omega) (by omega) (by omega) hB.cur u16.heap.size (heap_alloc_new u16 _) (by omega)).mono ?_
          rintro e u17 ⟨⟨x, rfl⟩, hcN, hkN⟩
          have hP17 := hB.on hcb hcN hkN
          clear hP16 hB hlt hcN hkN
          have g0 := blk_cell hP17.box 0 _ rfl
          have f0 := blk_free hP17.box 0
          go_upto_region 23 with fail
          have hP18 := hP17.set0 hcb HL.out (x)
          clear hP17
          generalize u17.setCell ⟨pb, 0, none⟩ (.int .i64 (x)) = u18 at hP18 ⊢
          clear g0 f0
          have k0 := blk_cell hP18.box 0 _ rfl
          have k1 := blk_cell hP18.box 1 _ rfl
          have k2 := blk_cell hP18.box 2 _ rfl
          have k3 := blk_cell hP18.box 3 _ rfl
          have k4 := blk_cell hP18.box 4 _ rfl
          have k5 := blk_cell hP18.box 5 _ rfl
          have m0 := blk_cell hP18.res 0 _ rfl
          have m1 := blk_cell hP18.res 1 _ rfl
          have m2 := blk_cell hP18.res 2 _ rfl
          have m3 := blk_cell hP18.res 3 _ rfl
          have m4 := blk_cell hP18.res 4 _ rfl
          have m5 := blk_cell hP18.res 5 _ rfl
          have fr0 := blk_free hP18.res 0
          have fr1 := blk_free hP18.res 1
          have fr2 := blk_free hP18.res 2
          have fr3 := blk_free hP18.res 3
          have fr4 := blk_free hP18.res 4
          have fr5 := blk_free hP18.res 5
          have HP : Hid (PSit w u18 cb ao n c _ pb _ _ _ _ _ _) := hP18
          clear hP18
          go_wp2
          clear k0 k1 k2 k3 k4 k5 m0 m1 m2 m3 m4 m5 fr0 fr1 fr2 fr3 fr4 fr5
          have HE := party_end HP.out hcb HL.out
          generalize ((((((u18.setCell ⟨w.heap.size, 0, none⟩ (.int .i64 x)).setCell ⟨w.heap.size, 1, none⟩ (.int .i64 y1)).setCell ⟨w.heap.size, 2, none⟩ (.int .i64 y2)).setCell ⟨w.heap.size, 3, none⟩ (.int .i64 y3)).setCell ⟨w.heap.size, 4, none⟩ (.bool y4)).setCell ⟨w.heap.size, 5, none⟩ (.int .i64 y5)) = U at HE ⊢
          have z0 := blk_cell HE.2.2 0 _ rfl
          have z1 := blk_cell HE.2.2 1 _ rfl
          have z2 := blk_cell HE.2.2 2 _ rfl
          have z3 := blk_cell HE.2.2 3 _ rfl
          have z4 := blk_cell HE.2.2 4 _ rfl
          have z5 := blk_cell HE.2.2 5 _ rfl
          exact bodyPost_ret (v := .agg #[.int .i64 x, .int .i64 y1, .int .i64 y2, .int .i64 y3, .bool y4, .int .i64 y5]) (by simp [results, Tryd.results9, go_sem, z0, z1, z2, z3, z4, z5]) rfl ⟨⟨_, _, _, _, _, _, rfl⟩, HE.1.more (by omega), HE.2.1⟩
        · have d0 : ((r6 : Int) == 0) = false := by simpa using (show ¬ (r6 : Int) = 0 by omega)
          by_cases c1 : r6 = 1
          · subst c1
            go_wp2_with fail
            have hB := hP16.below (push (Below.refl _ _) (.cells ([-1, 0, 2000, 2001].map (fun x => Value.int .i64 x)).toArray 3))
            have hlt := hP16.cur.lt
            refine (amongL cb ao n c (a + 20 + 2) 4 [-1, 0, 2000, 2001] _ rfl (by omega) (by omega) (by omega) hB.cur u16.heap.size (heap_alloc_new u16 _) (by omega)).mono ?_
            rintro e u17 ⟨⟨x, rfl⟩, hcN, hkN⟩
            have hP17 := hB.on hcb hcN hkN
            clear hP16 hB hlt hcN hkN
            have g1 := blk_cell hP17.box 1 _ rfl
            have f1 := blk_free hP17.box 1
            go_upto_region 23 with fail
            have hP18 := hP17.set1 hcb HL.out (x)
            clear hP17
            generalize u17.setCell ⟨pb, 1, none⟩ (.int .i64 (x)) = u18 at hP18 ⊢
            clear g1 f1
            have k0 := blk_cell hP18.box 0 _ rfl
            have k1 := blk_cell hP18.box 1 _ rfl
            have k2 := blk_cell hP18.box 2 _ rfl
            have k3 := blk_cell hP18.box 3 _ rfl
            have k4 := blk_cell hP18.box 4 _ rfl
            have k5 := blk_cell hP18.box 5 _ rfl
            have m0 := blk_cell hP18.res 0 _ rfl
            have m1 := blk_cell hP18.res 1 _ rfl
            have m2 := blk_cell hP18.res 2 _ rfl
            have m3 := blk_cell hP18.res 3 _ rfl
            have m4 := blk_cell hP18.res 4 _ rfl
            have m5 := blk_cell hP18.res 5 _ rfl
            have fr0 := blk_free hP18.res 0
            have fr1 := blk_free hP18.res 1
            have fr2 := blk_free hP18.res 2
            have fr3 := blk_free hP18.res 3
            have fr4 := blk_free hP18.res 4
            have fr5 := blk_free hP18.res 5
            have HP : Hid (PSit w u18 cb ao n c _ pb _ _ _ _ _ _) := hP18
            clear hP18
            go_wp2
            clear k0 k1 k2 k3 k4 k5 m0 m1 m2 m3 m4 m5 fr0 fr1 fr2 fr3 fr4 fr5
            have HE := party_end HP.out hcb HL.out
            generalize ((((((u18.setCell ⟨w.heap.size, 0, none⟩ (.int .i64 y0)).setCell ⟨w.heap.size, 1, none⟩ (.int .i64 x)).setCell ⟨w.heap.size, 2, none⟩ (.int .i64 y2)).setCell ⟨w.heap.size, 3, none⟩ (.int .i64 y3)).setCell ⟨w.heap.size, 4, none⟩ (.bool y4)).setCell ⟨w.heap.size, 5, none⟩ (.int .i64 y5)) = U at HE ⊢
            have z0 := blk_cell HE.2.2 0 _ rfl
            have z1 := blk_cell HE.2.2 1 _ rfl
            have z2 := blk_cell HE.2.2 2 _ rfl
            have z3 := blk_cell HE.2.2 3 _ rfl
            have z4 := blk_cell HE.2.2 4 _ rfl
            have z5 := blk_cell HE.2.2 5 _ rfl
            exact bodyPost_ret (v := .agg #[.int .i64 y0, .int .i64 x, .int .i64 y2, .int .i64 y3, .bool y4, .int .i64 y5]) (by simp [results, Tryd.results9, go_sem, z0, z1, z2, z3, z4, z5]) rfl ⟨⟨_, _, _, _, _, _, rfl⟩, HE.1.more (by omega), HE.2.1⟩
          · have d1 : ((r6 : Int) == 1) = false := by simpa using (show ¬ (r6 : Int) = 1 by omega)
            by_cases c2 : r6 = 2
            · subst c2
              go_wp2_with fail
              have hB := hP16.below (push (Below.refl _ _) (.cells ([-1, 0, 500, 501].map (fun x => Value.int .i64 x)).toArray 3))
              have hlt := hP16.cur.lt
              refine (amongL cb ao n c (a + 20 + 2) 4 [-1, 0, 500, 501] _ rfl (by omega) (by omega) (by omega) hB.cur u16.heap.size (heap_alloc_new u16 _) (by omega)).mono ?_
              rintro e u17 ⟨⟨x, rfl⟩, hcN, hkN⟩
              have hP17 := hB.on hcb hcN hkN
              clear hP16 hB hlt hcN hkN
              have g2 := blk_cell hP17.box 2 _ rfl
              have f2 := blk_free hP17.box 2
              go_upto_region 23 with fail
              have hP18 := hP17.set2 hcb HL.out (x)
              clear hP17
              generalize u17.setCell ⟨pb, 2, none⟩ (.int .i64 (x)) = u18 at hP18 ⊢
              clear g2 f2
              have k0 := blk_cell hP18.box 0 _ rfl
              have k1 := blk_cell hP18.box 1 _ rfl
              have k2 := blk_cell hP18.box 2 _ rfl
              have k3 := blk_cell hP18.box 3 _ rfl
              have k4 := blk_cell hP18.box 4 _ rfl
              have k5 := blk_cell hP18.box 5 _ rfl
              have m0 := blk_cell hP18.res 0 _ rfl
              have m1 := blk_cell hP18.res 1 _ rfl
              have m2 := blk_cell hP18.res 2 _ rfl
              have m3 := blk_cell hP18.res 3 _ rfl
              have m4 := blk_cell hP18.res 4 _ rfl
              have m5 := blk_cell hP18.res 5 _ rfl
              have fr0 := blk_free hP18.res 0
              have fr1 := blk_free hP18.res 1
              have fr2 := blk_free hP18.res 2
              have fr3 := blk_free hP18.res 3
              have fr4 := blk_free hP18.res 4
              have fr5 := blk_free hP18.res 5
              have HP : Hid (PSit w u18 cb ao n c _ pb _ _ _ _ _ _) := hP18
              clear hP18
              go_wp2
              clear k0 k1 k2 k3 k4 k5 m0 m1 m2 m3 m4 m5 fr0 fr1 fr2 fr3 fr4 fr5
              have HE := party_end HP.out hcb HL.out
              generalize ((((((u18.setCell ⟨w.heap.size, 0, none⟩ (.int .i64 y0)).setCell ⟨w.heap.size, 1, none⟩ (.int .i64 y1)).setCell ⟨w.heap.size, 2, none⟩ (.int .i64 x)).setCell ⟨w.heap.size, 3, none⟩ (.int .i64 y3)).setCell ⟨w.heap.size, 4, none⟩ (.bool y4)).setCell ⟨w.heap.size, 5, none⟩ (.int .i64 y5)) = U at HE ⊢
              have z0 := blk_cell HE.2.2 0 _ rfl
              have z1 := blk_cell HE.2.2 1 _ rfl
              have z2 := blk_cell HE.2.2 2 _ rfl
              have z3 := blk_cell HE.2.2 3 _ rfl
              have z4 := blk_cell HE.2.2 4 _ rfl
              have z5 := blk_cell HE.2.2 5 _ rfl
              exact bodyPost_ret (v := .agg #[.int .i64 y0, .int .i64 y1, .int .i64 x, .int .i64 y3, .bool y4, .int .i64 y5]) (by simp [results, Tryd.results9, go_sem, z0, z1, z2, z3, z4, z5]) rfl ⟨⟨_, _, _, _, _, _, rfl⟩, HE.1.more (by omega), HE.2.1⟩
            · have d2 : ((r6 : Int) == 2) = false := by simpa using (show ¬ (r6 : Int) = 2 by omega)
              by_cases c3 : r6 = 3
              · subst c3
                go_wp2_with fail
                have hB := hP16.below (push (Below.refl _ _) (.cells ([-1, 0, 3, 4].map (fun x => Value.int .i64 x)).toArray 3))
                have hlt := hP16.cur.lt
                refine (amongL cb ao n c (a + 20 + 2) 4 [-1, 0, 3, 4] _ rfl (by omega) (by omega) (by omega) hB.cur u16.heap.size (heap_alloc_new u16 _) (by omega)).mono ?_
                rintro e u17 ⟨⟨x, rfl⟩, hcN, hkN⟩
                have hP17 := hB.on hcb hcN hkN
                clear hP16 hB hlt hcN hkN
                have g3 := blk_cell hP17.box 3 _ rfl
                have f3 := blk_free hP17.box 3
                go_upto_region 23 with fail
                have hP18 := hP17.set3 hcb HL.out (x)
                clear hP17
                generalize u17.setCell ⟨pb, 3, none⟩ (.int .i64 (x)) = u18 at hP18 ⊢
                clear g3 f3
                have k0 := blk_cell hP18.box 0 _ rfl
                have k1 := blk_cell hP18.box 1 _ rfl
                have k2 := blk_cell hP18.box 2 _ rfl
                have k3 := blk_cell hP18.box 3 _ rfl
                have k4 := blk_cell hP18.box 4 _ rfl
                have k5 := blk_cell hP18.box 5 _ rfl
                have m0 := blk_cell hP18.res 0 _ rfl
                have m1 := blk_cell hP18.res 1 _ rfl
                have m2 := blk_cell hP18.res 2 _ rfl
                have m3 := blk_cell hP18.res 3 _ rfl
                have m4 := blk_cell hP18.res 4 _ rfl
                have m5 := blk_cell hP18.res 5 _ rfl
                have fr0 := blk_free hP18.res 0
                have fr1 := blk_free hP18.res 1
                have fr2 := blk_free hP18.res 2
                have fr3 := blk_free hP18.res 3
                have fr4 := blk_free hP18.res 4
                have fr5 := blk_free hP18.res 5
                have HP : Hid (PSit w u18 cb ao n c _ pb _ _ _ _ _ _) := hP18
                clear hP18
                go_wp2
                clear k0 k1 k2 k3 k4 k5 m0 m1 m2 m3 m4 m5 fr0 fr1 fr2 fr3 fr4 fr5
                have HE := party_end HP.out hcb HL.out
                generalize ((((((u18.setCell ⟨w.heap.size, 0, none⟩ (.int .i64 y0)).setCell ⟨w.heap.size, 1, none⟩ (.int .i64 y1)).setCell ⟨w.heap.size, 2, none⟩ (.int .i64 y2)).setCell ⟨w.heap.size, 3, none⟩ (.int .i64 x)).setCell ⟨w.heap.size, 4, none⟩ (.bool y4)).setCell ⟨w.heap.size, 5, none⟩ (.int .i64 y5)) = U at HE ⊢
                have z0 := blk_cell HE.2.2 0 _ rfl
                have z1 := blk_cell HE.2.2 1 _ rfl
                have z2 := blk_cell HE.2.2 2 _ rfl
                have z3 := blk_cell HE.2.2 3 _ rfl
                have z4 := blk_cell HE.2.2 4 _ rfl
                have z5 := blk_cell HE.2.2 5 _ rfl
                exact bodyPost_ret (v := .agg #[.int .i64 y0, .int .i64 y1, .int .i64 y2, .int .i64 x, .bool y4, .int .i64 y5]) (by simp [results, Tryd.results9, go_sem, z0, z1, z2, z3, z4, z5]) rfl ⟨⟨_, _, _, _, _, _, rfl⟩, HE.1.more (by omega), HE.2.1⟩
              · have d3 : ((r6 : Int) == 3) = false := by simpa using (show ¬ (r6 : Int) = 3 by omega)
                by_cases c4 : r6 = 4
                · subst c4
                  go_wp2_with fail
                  have hB := hP16.below (push (Below.refl _ _) (.cells ([-1, 0, 4, 5].map (fun x => Value.int .i64 x)).toArray 3))
                  have hlt := hP16.cur.lt
                  refine (amongL cb ao n c (a + 20 + 2) 4 [-1, 0, 4, 5] _ rfl (by omega) (by omega) (by omega) hB.cur u16.heap.size (heap_alloc_new u16 _) (by omega)).mono ?_
                  rintro e u17 ⟨⟨x, rfl⟩, hcN, hkN⟩
                  have hP17 := hB.on hcb hcN hkN
                  clear hP16 hB hlt hcN hkN
                  have g5 := blk_cell hP17.box 5 _ rfl
                  have f5 := blk_free hP17.box 5
                  go_upto_region 23 with fail
                  have hP18 := hP17.set5 hcb HL.out (x)
                  clear hP17
                  generalize u17.setCell ⟨pb, 5, none⟩ (.int .i64 (x)) = u18 at hP18 ⊢
                  clear g5 f5
                  have k0 := blk_cell hP18.box 0 _ rfl
                  have k1 := blk_cell hP18.box 1 _ rfl
                  have k2 := blk_cell hP18.box 2 _ rfl
                  have k3 := blk_cell hP18.box 3 _ rfl
                  have k4 := blk_cell hP18.box 4 _ rfl
                  have k5 := blk_cell hP18.box 5 _ rfl
                  have m0 := blk_cell hP18.res 0 _ rfl
                  have m1 := blk_cell hP18.res 1 _ rfl
                  have m2 := blk_cell hP18.res 2 _ rfl
                  have m3 := blk_cell hP18.res 3 _ rfl
                  have m4 := blk_cell hP18.res 4 _ rfl
                  have m5 := blk_cell hP18.res 5 _ rfl
                  have fr0 := blk_free hP18.res 0
                  have fr1 := blk_free hP18.res 1
                  have fr2 := blk_free hP18.res 2
                  have fr3 := blk_free hP18.res 3
                  have fr4 := blk_free hP18.res 4
                  have fr5 := blk_free hP18.res 5
                  have HP : Hid (PSit w u18 cb ao n c _ pb _ _ _ _ _ _) := hP18
                  clear hP18
                  go_wp2
                  clear k0 k1 k2 k3 k4 k5 m0 m1 m2 m3 m4 m5 fr0 fr1 fr2 fr3 fr4 fr5
                  have HE := party_end HP.out hcb HL.out
                  generalize ((((((u18.setCell ⟨w.heap.size, 0, none⟩ (.int .i64 y0)).setCell ⟨w.heap.size, 1, none⟩ (.int .i64 y1)).setCell ⟨w.heap.size, 2, none⟩ (.int .i64 y2)).setCell ⟨w.heap.size, 3, none⟩ (.int .i64 y3)).setCell ⟨w.heap.size, 4, none⟩ (.bool y4)).setCell ⟨w.heap.size, 5, none⟩ (.int .i64 x)) = U at HE ⊢
                  have z0 := blk_cell HE.2.2 0 _ rfl
                  have z1 := blk_cell HE.2.2 1 _ rfl
                  have z2 := blk_cell HE.2.2 2 _ rfl
                  have z3 := blk_cell HE.2.2 3 _ rfl
                  have z4 := blk_cell HE.2.2 4 _ rfl
                  have z5 := blk_cell HE.2.2 5 _ rfl
                  exact bodyPost_ret (v := .agg #[.int .i64 y0, .int .i64 y1, .int .i64 y2, .int .i64 y3, .bool y4, .int .i64 x]) (by simp [results, Tryd.results9, go_sem, z0, z1, z2, z3, z4, z5]) rfl ⟨⟨_, _, _, _, _, _, rfl⟩, HE.1.more (by omega), HE.2.1⟩
                · have d4 : ((r6 : Int) == 4) = false := by simpa using (show ¬ (r6 : Int) = 4 by omega)
                  clear c0 c1 c2 c3 c4
                  have k0 := blk_cell hP16.box 0 _ rfl
                  have k1 := blk_cell hP16.box 1 _ rfl
                  have k2 := blk_cell hP16.box 2 _ rfl
                  have k3 := blk_cell hP16.box 3 _ rfl
                  have k4 := blk_cell hP16.box 4 _ rfl
                  have k5 := blk_cell hP16.box 5 _ rfl
                  have m0 := blk_cell hP16.res 0 _ rfl
                  have m1 := blk_cell hP16.res 1 _ rfl
                  have m2 := blk_cell hP16.res 2 _ rfl
                  have m3 := blk_cell hP16.res 3 _ rfl
                  have m4 := blk_cell hP16.res 4 _ rfl
                  have m5 := blk_cell hP16.res 5 _ rfl
                  have fr0 := blk_free hP16.res 0
                  have fr1 := blk_free hP16.res 1
                  have fr2 := blk_free hP16.res 2
                  have fr3 := blk_free hP16.res 3
                  have fr4 := blk_free hP16.res 4
                  have fr5 := blk_free hP16.res 5
                  have HP : Hid (PSit w u16 cb ao n c _ pb _ _ _ _ _ _) := hP16
                  clear hP16
                  go_wp2
                  clear k0 k1 k2 k3 k4 k5 m0 m1 m2 m3 m4 m5 fr0 fr1 fr2 fr3 fr4 fr5
                  have HE := party_end HP.out hcb HL.out
                  generalize ((((((u16.setCell ⟨w.heap.size, 0, none⟩ (.int .i64 y0)).setCell ⟨w.heap.size, 1, none⟩ (.int .i64 y1)).setCell ⟨w.heap.size, 2, none⟩ (.int .i64 y2)).setCell ⟨w.heap.size, 3, none⟩ (.int .i64 y3)).setCell ⟨w.heap.size, 4, none⟩ (.bool y4)).setCell ⟨w.heap.size, 5, none⟩ (.int .i64 y5)) = U at HE ⊢
                  have z0 := blk_cell HE.2.2 0 _ rfl
                  have z1 := blk_cell HE.2.2 1 _ rfl
                  have z2 := blk_cell HE.2.2 2 _ rfl
                  have z3 := blk_cell HE.2.2 3 _ rfl
                  have z4 := blk_cell HE.2.2 4 _ rfl
                  have z5 := blk_cell HE.2.2 5 _ rfl
                  exact bodyPost_ret (v := .agg #[.int .i64 y0, .int .i64 y1, .int .i64 y2, .int .i64 y3, .bool y4, .int .i64 y5]) (by simp [results, Tryd.results9, go_sem, z0, z1, z2, z3, z4, z5]) rfl ⟨⟨_, _, _, _, _, _, rfl⟩, HE.1.more (by omega), HE.2.1⟩

set_option maxHeartbeats 800000 in
set_option maxRecDepth 100000 in
theorem drawPrice_any (ao : Option Addr) (n c : Nat) (w : World) (h : BytesAt w ao n) :
    Calls Tryd.prog 4 #[.slice ao n c] w fun e w' => (∃ (x0 x1 x2 x3 : Int) (x4 : Bool) (x5 : Int) (k : Nat), e = .returned (.tuple #[.agg #[.int .i64 x0, .int .i64 x1, .int .i64 x2, .int .i64 x3, .bool x4, .int .i64 x5], .int .i64 k]) ∧ k < 5) ∧ Below w.heap.size w w' := by
  have hr0 := heap_alloc_new w (.cells #[.int .i64 0, .int .i64 0, .int .i64 0, .int .i64 0, .bool false, .int .i64 0] 24)
  have hb0 : Below w.heap.size w (w.alloc (.cells #[.int .i64 0, .int .i64 0, .int .i64 0, .int .i64 0, .bool false, .int .i64 0] 24)) := push (Below.refl _ _) _
  have hx0 : BytesAt (w.alloc (.cells #[.int .i64 0, .int .i64 0, .int .i64 0, .int .i64 0, .bool false, .int .i64 0] 24)) ao n := h.below hb0
  have hs0 : (w.alloc (.cells #[.int .i64 0, .int .i64 0, .int .i64 0, .int .i64 0, .bool false, .int .i64 0] 24)).heap.size = w.heap.size + 1 := by simp
  go_enter Tryd.func4, Tryd.ntmps4
  go_wp2_with fail
  generalize w.alloc (.cells #[.int .i64 0, .int .i64 0, .int .i64 0, .int .i64 0, .bool false, .int .i64 0] 24) = v0 at hr0 hb0 hx0 hs0 ⊢
  have hc0 := cur_new (c := c) hx0
  rw [hs0] at hc0
  have hr1 := blk_alloc hr0 (.cells #[.slice ao n c, .int .i64 0, .int .u64 0] 35)
  have hb1 : Below w.heap.size w (v0.alloc (.cells #[.slice ao n c, .int .i64 0, .int .u64 0] 35)) := push hb0 _
  have hs1 : (v0.alloc (.cells #[.slice ao n c, .int .i64 0, .int .u64 0] 35)).heap.size = w.heap.size + 2 := by simp [hs0]
  clear h hx0 hr0 hb0
  generalize v0.alloc (.cells #[.slice ao n c, .int .i64 0, .int .u64 0] 35) = v1 at hc0 hr1 hb1 hs1 ⊢
  refine (party_any (w.heap.size + 1) ao n c 0 _ (by omega) hc0).mono ?_
  rintro e v2 ⟨⟨x0, x1, x2, x3, x4, x5, rfl⟩, hc2, hk2⟩
  have hr2 := hk2.blk hr1 (by omega)
  have hb2 : Below w.heap.size w v2 := Kept.below hb1 (by omega) hk2 (fun k e => by omega)
  have hs2 := hk2.size
  clear hc0 hr1 hb1 hk2
  go_wp2_with fail
  refine (pick_any (w.heap.size + 1) ao n c (0 + 40) 5 _ (by omega) (by omega) (by omega) hc2).mono ?_
  rintro e v3 ⟨⟨k, rfl, hk5⟩, hc3, hk3⟩
  have hr3 := hk3.blk hr2 (by omega)
  have hb3 : Below w.heap.size w v3 := Kept.below hb2 (by omega) hk3 (fun k e => by omega)
  clear hc2 hr2 hb2 hk3 hc3
  have m0 := blk_cell hr3 0 _ rfl
  have fr0 := blk_free hr3 0
  have m1 := blk_cell hr3 1 _ rfl
  have fr1 := blk_free hr3 1
  have m2 := blk_cell hr3 2 _ rfl
  have fr2 := blk_free hr3 2
  have m3 := blk_cell hr3 3 _ rfl
  have fr3 := blk_free hr3 3
  have m4 := blk_cell hr3 4 _ rfl
  have fr4 := blk_free hr3 4
  have m5 := blk_cell hr3 5 _ rfl
  have fr5 := blk_free hr3 5
  go_wp2
  clear m0 m1 m2 m3 m4 m5 fr0 fr1 fr2 fr3 fr4 fr5
  have hE := blk_set (blk_set (blk_set (blk_set (blk_set (blk_set hr3 0 (.int .i64 x0)) 1 (.int .i64 x1)) 2 (.int .i64 x2)) 3 (.int .i64 x3)) 4 (.bool x4)) 5 (.int .i64 x5)
  have hU : Below w.heap.size w ((((((v3.setCell ⟨w.heap.size, 0, none⟩ (.int .i64 x0)).setCell ⟨w.heap.size, 1, none⟩ (.int .i64 x1)).setCell ⟨w.heap.size, 2, none⟩ (.int .i64 x2)).setCell ⟨w.heap.size, 3, none⟩ (.int .i64 x3)).setCell ⟨w.heap.size, 4, none⟩ (.bool x4)).setCell ⟨w.heap.size, 5, none⟩ (.int .i64 x5)) := (((((hb3.setCell (p := ⟨w.heap.size, 0, none⟩) (Nat.le_refl _) _).setCell (p := ⟨w.heap.size, 1, none⟩) (Nat.le_refl _) _).setCell (p := ⟨w.heap.size, 2, none⟩) (Nat.le_refl _) _).setCell (p := ⟨w.heap.size, 3, none⟩) (Nat.le_refl _) _).setCell (p := ⟨w.heap.size, 4, none⟩) (Nat.le_refl _) _).setCell (p := ⟨w.heap.size, 5, none⟩) (Nat.le_refl _) _
  generalize ((((((v3.setCell ⟨w.heap.size, 0, none⟩ (.int .i64 x0)).setCell ⟨w.heap.size, 1, none⟩ (.int .i64 x1)).setCell ⟨w.heap.size, 2, none⟩ (.int .i64 x2)).setCell ⟨w.heap.size, 3, none⟩ (.int .i64 x3)).setCell ⟨w.heap.size, 4, none⟩ (.bool x4)).setCell ⟨w.heap.size, 5, none⟩ (.int .i64 x5)) = U at hE hU ⊢
  have z0 := blk_cell hE 0 _ rfl
  have z1 := blk_cell hE 1 _ rfl
  have z2 := blk_cell hE 2 _ rfl
  have z3 := blk_cell hE 3 _ rfl
  have z4 := blk_cell hE 4 _ rfl
  have z5 := blk_cell hE 5 _ rfl
  exact bodyPost_ret (v := .tuple #[.agg #[.int .i64 x0, .int .i64 x1, .int .i64 x2, .int .i64 x3, .bool x4, .int .i64 x5], .int .i64 k]) (by simp [results, Tryd.results4, go_sem, z0, z1, z2, z3, z4, z5]) rfl ⟨⟨_, _, _, _, _, _, k, rfl, hk5⟩, hU⟩

end Go.Proofs.YtaalhmaacaahhaaDoor
