/-
  OWN TEXT: PlainAq, AskCI, PlainCl.
-/
import Derived.Test.YtogbaoggebghdaaXerks07
namespace Go.Proofs.Ytogbaoggebghdaa
open Go.RowKit Classical Go.MapKept Go.ChangeMaps

theorem ask_other {N : Nat} {S S' : Nat → ClkD} {nm : ByteArray} {num z : Int} (h : ClerksOk N S) (hc : CodeIs N S nm num z) (h0 : z ≠ 0) (h1 : z ≠ 1) (hS : ∀ i, i < N → S' i = S i) : AskIs N S nm num N S' ansZero z := by
  obtain ⟨p, hp, ⟨b, rfl⟩ | ⟨_, _, e⟩ | ⟨b, k, hk, e, hz⟩⟩ := hc
  · exact Or.inr ⟨h, p, hp, Or.inl ⟨b, rfl, hS, rfl, rfl⟩⟩
  · exact absurd e h0
  · refine Or.inr ⟨h, p, hp, Or.inr (Or.inr ⟨b, rfl, k, hk, e, ?_⟩)⟩
    rcases hz with ⟨a, rfl⟩ | ⟨a, rfl⟩ | ⟨a, a', o, rfl⟩ | ⟨_, _, e⟩ | ⟨_, _, e⟩
    · exact Or.inl ⟨a, hS, rfl, rfl⟩
    · exact Or.inr (Or.inl ⟨a, hS, rfl, rfl⟩)
    · exact Or.inr (Or.inr (Or.inl ⟨a, a', o, hS, rfl, rfl⟩))
    · exact absurd e h1
    · exact absurd e h0
theorem ask_again {N : Nat} {S : Nat → ClkD} {nm : ByteArray} {num : Int} (h : ClerksOk N S) (hc : CodeIs N S nm num 1) : ∃ k, k < N ∧ (S k).nam = nm ∧ ∀ S' : Nat → ClkD, (∀ i, i < N → S' i = S i) → AskIs N S nm num N S' (S k).ans 1 := by
  obtain ⟨p, hp, ⟨_, e⟩ | ⟨_, _, e⟩ | ⟨b, k, hk, e, hz⟩⟩ := hc
  · cases e
  · cases e
  · refine ⟨k, hk, ?_, fun S' hS => Or.inr ⟨h, p, hp, Or.inr (Or.inr ⟨b, rfl, k, hk, e, ?_⟩)⟩⟩
    · rcases hp with ⟨j, hj, e2, hn, _⟩ | ⟨e2, _⟩
      · obtain rfl : j = k := by omega
        exact hn
      · omega
    · rcases hz with ⟨_, e⟩ | ⟨_, e⟩ | ⟨_, _, _, e⟩ | ⟨a, o, _⟩ | ⟨_, _, e⟩
      · cases e
      · cases e
      · cases e
      · exact Or.inr (Or.inr (Or.inr (Or.inl ⟨a, o, hS, rfl, rfl⟩)))
      · cases e
theorem told_bare (nm : ByteArray) (num : Int) : (bareC nm num).shut true = freshC nm num := rfl
theorem told_else {N : Nat} {S : Nat → ClkD} (h : ClerksOk N S) {nm : ByteArray} {i : Nat} (hi : i < N) (hn : (S i).nam ≠ nm) : (S i).opn = true ↔ (openIn S N (S i).nam ∨ (S i).nam = nm) := by
  rw [openIn_at h hi]
  exact ⟨Or.inl, fun h => h.elim id (fun e => absurd e hn)⟩
theorem ask_new {N N' : Nat} {S S' : Nat → ClkD} {nm : ByteArray} {num : Int} (h : ClerksOk N S) (hc : CodeIs N S nm num 0) (ht : Taken N S nm num N' S') : AskIs N S nm num N' (toldTo S' (fun s => openIn S N s ∨ s = nm) N') ansZero 0 := by
  obtain ⟨p, hp, ⟨_, e⟩ | ⟨b, hneg, _⟩ | ⟨b, k, hk, e, hz⟩⟩ := hc
  · cases e
  · have hno : ∀ j, j < N → (S j).nam ≠ nm := by
      rcases hp with ⟨j, _, e2, _⟩ | ⟨_, hno⟩
      · omega
      · exact hno
    rcases ht with ⟨k, hk, hn, _⟩ | ⟨_, rfl, k, hk, hS⟩
    · exact absurd hn (hno k hk)
    · refine Or.inr ⟨h, p, hp, Or.inr (Or.inl ⟨b, hneg, rfl, ⟨k, hk, fun i hi => ?_⟩, rfl, rfl⟩)⟩
      have hkN := hk.1
      rcases Nat.lt_trichotomy i k with e | e | e
      · have e2 : S' i = S i := by rw [hS i hi, insC_lt _ _ _ e]
        rw [toldTo_is hi (S i).opn (by rw [e2]; exact told_else h (by omega) (hno i (by omega))), insC_lt _ _ _ e, e2]
        exact shut_same rfl
      · subst e
        have e2 : S' i = bareC nm num := by rw [hS i hi, insC_at]
        rw [toldTo_is hi true (by rw [e2]; exact ⟨fun _ => Or.inr rfl, fun _ => rfl⟩), insC_at, e2]
        exact told_bare nm num
      · have e2 : S' i = S (i - 1) := by rw [hS i hi, insC_gt _ _ _ e]
        rw [toldTo_is hi (S (i - 1)).opn (by rw [e2]; exact told_else h (by omega) (hno _ (by omega))), insC_gt _ _ _ e, e2]
        exact shut_same rfl
  · have hnk : (S k).nam = nm := by
      rcases hp with ⟨j, hj, e2, hn, _⟩ | ⟨e2, _⟩
      · obtain rfl : j = k := by omega
        exact hn
      · omega
    rcases ht with ⟨k', hk', hn, rfl, hS⟩ | ⟨hno, _⟩
    · obtain rfl : k' = k := h.one hk' hk (hn.trans hnk.symm)
      refine Or.inr ⟨h, p, hp, Or.inr (Or.inr ⟨b, rfl, k', hk, e, ?_⟩)⟩
      rcases hz with ⟨_, e⟩ | ⟨_, e⟩ | ⟨_, _, _, e⟩ | ⟨_, _, e⟩ | ⟨a, o, _⟩
      · cases e
      · cases e
      · cases e
      · cases e
      · refine Or.inr (Or.inr (Or.inr (Or.inr ⟨a, o, fun i hi => ?_, rfl, rfl⟩)))
        by_cases e3 : i = k'
        · subst e3
          have e2 : S' i = bareC nm num := by rw [hS i hi, putC_at]
          rw [toldTo_is hi true (by rw [e2]; exact ⟨fun _ => Or.inr rfl, fun _ => rfl⟩), putC_at, e2]
          exact told_bare nm num
        · have e2 : S' i = S i := by rw [hS i hi, putC_ne _ _ _ e3]
          rw [toldTo_is hi (S i).opn (by rw [e2]; exact told_else h hi (fun e4 => e3 (h.one hi hk (e4.trans hnk.symm)))), putC_ne _ _ _ e3, e2]
          exact shut_same rfl
    · exact absurd hnk (hno k hk)

end Go.Proofs.Ytogbaoggebghdaa

namespace Go.Proofs.Ytogbaoggebghdaa
open Go.RowKit Classical Go.MapKept Go.ChangeMaps

set_option maxHeartbeats 12800000 in
set_option maxRecDepth 100000 in
theorem implAskC_any (ao : Option Addr) (N c : Nat) (S : Nat → ClkD) (nm : ByteArray) (num : Int) (w : World) (hN : N ≤ 1048576) (hs : ClkDsShort N S 1048576) (hx : ClkDsAt w ao N S) (hnm : nm.size ≤ 1048576) :
    Calls Try.prog 9 #[.slice ao N c, .string nm, .int .i64 num] w fun e w' => (∃ v rv N' S' R a z, e = .returned (.tuple #[v, .agg #[.int .i64 a.code, .int .i64 a.anam, .int .i64 a.price, rv], .int .i64 z]) ∧ AskOut w' w.heap.size v rv N' S' R a ∧ Hid (AskIs N S nm num N' S' a z)) ∧ Below w.heap.size w w' := by
  have HX : Hid (ClkDsAt w ao N S) := hx
  have HS : Hid (ClkDsShort N S 1048576) := hs
  clear hx hs
  have bZ := heap_alloc_new w (.cells #[.int .i64 0, .int .i64 0, .int .i64 0, .slice none 0 0] 28)
  have hb0 : Below w.heap.size w (w.alloc (.cells #[.int .i64 0, .int .i64 0, .int .i64 0, .slice none 0 0] 28)) := push (Below.refl _ _) _
  go_enter Try.func9, Try.ntmps9
  go_upto_region 1 with fail
  generalize w.alloc (.cells #[.int .i64 0, .int .i64 0, .int .i64 0, .slice none 0 0] 28) = W0 at bZ hb0 ⊢
  obtain ⟨zB, hzB⟩ : ∃ u, u = w.heap.size := ⟨_, rfl⟩
  rw [← hzB] at bZ ⊢
  have HZE : Hid (zB = w.heap.size) := hzB
  clear hzB
  go_wp2_with fail
  refine (implGoodC_any ao N c S W0 hN HS.out (HX.out.below hb0)).mono ?_
  rintro e w2 ⟨rfl, hb1⟩
  have bZ2 := blk_below bZ hb1
  have HB2 : Hid (Below w.heap.size w w2) := after hb0 hb1
  have HZL : Hid (zB < w2.heap.size) := blk_lt bZ2
  have HW2 : Hid (w.heap.size ≤ w2.heap.size) := HB2.out.size
  clear bZ hb0 hb1
  by_cases hok : ClerksOk N S
  case neg =>
    rw [show clerksOk N S = false from decide_eq_false hok]
    have HNK : Hid (¬ ClerksOk N S) := hok
    clear hok
    have q0 := blk_cell bZ2 0 _ rfl
    have qf0 := blk_free bZ2 0
    have q1 := blk_cell bZ2 1 _ rfl
    have qf1 := blk_free bZ2 1
    have q2 := blk_cell bZ2 2 _ rfl
    have qf2 := blk_free bZ2 2
    have q3 := blk_cell bZ2 3 _ rfl
    have qf3 := blk_free bZ2 3
    have rF := ans_set bZ2 (.int .i64 0) (.int .i64 0) (.int .i64 0) (.slice none 0 0)
    have hkF : Kept w2 ((((w2.setCell ⟨zB, 0, none⟩ (.int .i64 0)).setCell ⟨zB, 1, none⟩ (.int .i64 0)).setCell ⟨zB, 2, none⟩ (.int .i64 0)).setCell ⟨zB, 3, none⟩ (.slice none 0 0)) (fun b => b = zB) := (((((Kept.refl w2 (fun b => b = zB)).set (a := ⟨zB, 0, none⟩) rfl _).set (a := ⟨zB, 1, none⟩) rfl _).set (a := ⟨zB, 2, none⟩) rfl _).set (a := ⟨zB, 3, none⟩) rfl _)
    have hbF : Below w.heap.size w ((((w2.setCell ⟨zB, 0, none⟩ (.int .i64 0)).setCell ⟨zB, 1, none⟩ (.int .i64 0)).setCell ⟨zB, 2, none⟩ (.int .i64 0)).setCell ⟨zB, 3, none⟩ (.slice none 0 0)) := Kept.below HB2.out HB2.out.size hkF (fun b e => by have e : b = zB := e; have := HZE.out; omega)
    go_wp2
    generalize (((w2.setCell ⟨zB, 0, none⟩ (.int .i64 0)).setCell ⟨zB, 1, none⟩ (.int .i64 0)).setCell ⟨zB, 2, none⟩ (.int .i64 0)).setCell ⟨zB, 3, none⟩ (.slice none 0 0) = F at rF hbF ⊢
    clear q0 q1 q2 q3
    have q0 := blk_cell rF 0 _ rfl
    have q1 := blk_cell rF 1 _ rfl
    have q2 := blk_cell rF 2 _ rfl
    have q3 := blk_cell rF 3 _ rfl
    exact bodyPost_ret (v := .tuple #[.slice none 0 0, .agg #[.int .i64 0, .int .i64 0, .int .i64 0, .slice none 0 0], .int .i64 2]) (by simp [results, Try.results9, go_sem, q0, q1, q2, q3]) rfl ⟨⟨_, _, 0, S, fun _ => .slice none 0 0, ansZero, 2, rfl, AskOut.zero (OwnClks.nil _ w.heap.size _ _) (Nat.le_refl _), Or.inl ⟨HNK.out, rfl, rfl, rfl⟩⟩, hbF⟩
  rw [show clerksOk N S = true from decide_eq_true hok]
  have h20 : N ≤ 20 := hok.1
  have HOK : Hid (ClerksOk N S) := hok
  clear hok
  go_wp2_with fail
  refine (staffOf_any ao N c S w2 h20 HS.out (HX.out.below HB2.out)).mono ?_
  rintro e w3 ⟨⟨sb, mb, a1, d1, R, rfl, h3⟩, hb3⟩
  have HT3 : Hid (Staff w3 w2.heap.size sb mb N (.slice a1 N d1) N S R (openIn S N)) := h3
  have bZ3 := blk_below bZ2 hb3
  have HB3 : Hid (Below w.heap.size w w3) := after HB2.out hb3
  have HW3 : Hid (w2.heap.size ≤ w3.heap.size) := hb3.size
  clear h3 hb3 bZ2
  go_wp2_with fail
  refine (codeOf_any w3 w2.heap.size sb mb N a1 d1 N S R nm num HT3.out HOK.out hnm).mono ?_
  rintro e w4 ⟨⟨z, rfl, HC⟩, hb4⟩
  have HT4 := HT3.out.below hb4
  have bZ4 := blk_below bZ3 hb4
  have hb5 : Below w4.heap.size w4 (w4.alloc (.cells #[.int .i64 0, .int .i64 0, .int .i64 0, .slice none 0 0] 28)) := push (Below.refl _ _) _
  have bA5 : (w4.alloc (.cells #[.int .i64 0, .int .i64 0, .int .i64 0, .slice none 0 0] 28)).heap[w4.heap.size]? = some (.cells #[.int .i64 0, .int .i64 0, .int .i64 0, .slice none 0 0] 28 (0, 0)) := heap_alloc_new w4 _
  have bZ5 := blk_below bZ4 hb5
  have HT5 : Hid (Staff (w4.alloc (.cells #[.int .i64 0, .int .i64 0, .int .i64 0, .slice none 0 0] 28)) w2.heap.size sb mb N (.slice a1 N d1) N S R (openIn S N)) := HT4.below hb5
  have HB5 : Hid (Below w.heap.size w (w4.alloc (.cells #[.int .i64 0, .int .i64 0, .int .i64 0, .slice none 0 0] 28))) := after (after HB3.out hb4) hb5
  have HAL : Hid (w3.heap.size ≤ w4.heap.size ∧ (∀ g, (Value.slice a1 N d1).ownBlock = some g → g < w4.heap.size) ∧ (∀ i, i < N → ∀ g, (R i).ownBlock = some g → g < w4.heap.size) ∧ sb < w4.heap.size ∧ mb < w4.heap.size) := ⟨hb4.size, fun g hg => (HT4.own.row.lt g hg).2, fun i hi g hg => ((HT4.own.rows i hi).lt g hg).2, HT4.lt, HT4.ltm⟩
  obtain ⟨aB, haB⟩ : ∃ u, u = w4.heap.size := ⟨_, rfl⟩
  clear HT4 bZ4 bZ3 hb4 hb5 HT3
  by_cases h1 : z = 1
  · subst h1
    obtain ⟨k, hk, hkn, hask⟩ := ask_again HOK.out HC.out
    have HASK : Hid (∀ S' : Nat → ClkD, (∀ i, i < N → S' i = S i) → AskIs N S nm num N S' (S k).ans 1) := hask
    have HKN : Hid ((S k).nam = nm) := hkn
    clear hask hkn HC
    go_upto_region 8 with fail
    generalize w4.alloc (.cells #[.int .i64 0, .int .i64 0, .int .i64 0, .slice none 0 0] 28) = V at bA5 bZ5 HT5 HB5 ⊢
    rw [← haB] at bA5 HAL ⊢
    clear haB
    go_wp2_with fail
    refine (answerOf_any V w2.heap.size sb mb N a1 d1 N S R (openIn S N) k nm HT5.out (by omega) HOK.out.up hk HKN.out (HS.out k hk).2.1).mono ?_
    rintro e w6 ⟨⟨a3, c3, rfl, ho3⟩, hb6⟩
    have bA6 := blk_below bA5 hb6
    have bZ6 := blk_below bZ5 hb6
    have HO6 : Hid (w6.ownsRow V.heap.size 84 5 (.slice a3 (S k).rwn c3) (S k).rwn (rowList (S k).rw (S k).rwn)) := ho3
    have HT6 : Hid (Staff w6 w2.heap.size sb mb N (.slice a1 N d1) N S R (openIn S N)) := HT5.out.below hb6
    have HB6 : Hid (Below w.heap.size w w6) := after HB5.out hb6
    have haV : aB < V.heap.size := blk_lt bA5
    have HAZ : Hid (aB ≠ zB) := fun e => by have := HAL.out.1; have := HW3.out; have := HZL.out; omega
    clear ho3 hb6 bA5 bZ5
    have x0 := blk_cell bA6 0 _ rfl
    have xf0 := blk_free bA6 0
    have x1 := blk_cell bA6 1 _ rfl
    have xf1 := blk_free bA6 1
    have x2 := blk_cell bA6 2 _ rfl
    have xf2 := blk_free bA6 2
    have x3 := blk_cell bA6 3 _ rfl
    have xf3 := blk_free bA6 3
    go_upto_region 11 with fail
    have bAY := ans_set bA6 (.int .i64 (S k).code) (.int .i64 (S k).anam) (.int .i64 (S k).price) (.slice a3 (S k).rwn c3)
    have hkY : Kept w6 ((((w6.setCell ⟨aB, 0, none⟩ (.int .i64 (S k).code)).setCell ⟨aB, 1, none⟩ (.int .i64 (S k).anam)).setCell ⟨aB, 2, none⟩ (.int .i64 (S k).price)).setCell ⟨aB, 3, none⟩ (.slice a3 (S k).rwn c3)) (fun b => b = aB) := (((((Kept.refl w6 (fun b => b = aB)).set (a := ⟨aB, 0, none⟩) rfl _).set (a := ⟨aB, 1, none⟩) rfl _).set (a := ⟨aB, 2, none⟩) rfl _).set (a := ⟨aB, 3, none⟩) rfl _)
    generalize (((w6.setCell ⟨aB, 0, none⟩ (.int .i64 (S k).code)).setCell ⟨aB, 1, none⟩ (.int .i64 (S k).anam)).setCell ⟨aB, 2, none⟩ (.int .i64 (S k).price)).setCell ⟨aB, 3, none⟩ (.slice a3 (S k).rwn c3) = Y at bAY hkY ⊢
    have bZY := hkY.blk bZ6 (fun e => HAZ.out e.symm)
    have HTY : Hid (Staff Y w2.heap.size sb mb N (.slice a1 N d1) N S R (openIn S N)) := ⟨hkY.blk HT6.out.blk (by have := HAL.out.2.2.2.1; omega), HT6.out.hsb, HT6.out.hmb, ⟨hkY.own HT6.out.own.row (fun g hg e => by have e : g = aB := e; have := HAL.out.2.1 g hg; omega), fun i hi => hkY.own (HT6.out.own.rows i hi) (fun g hg e => by have e : g = aB := e; have := HAL.out.2.2.1 i hi g hg; omega), HT6.out.own.apart⟩, HT6.out.set.kept hkY (by have := HAL.out.2.2.2.2; omega)⟩
    have HRY : Hid (Y.ownsRow V.heap.size 84 5 (.slice a3 (S k).rwn c3) (S k).rwn (rowList (S k).rw (S k).rwn)) := hkY.own HO6.out (fun g hg e => by have e : g = aB := e; have := (HO6.out.lt g hg).1; omega)
    have HRV : Hid (Y.ownsRow w2.heap.size 84 5 (.slice a3 (S k).rwn c3) (S k).ans.rwn (rowList (S k).ans.rw (S k).ans.rwn)) := own_base HRY.out (by have := HAL.out.1; have := HW3.out; omega)
    have HBY : Hid (Below w.heap.size w Y) := Kept.below HB6.out HB6.out.size hkY (fun b e => by have e : b = aB := e; have := HAL.out.1; have := HW3.out; have := HW2.out; omega)
    have HAV : Hid ((Value.slice a1 N d1).ownBlock ≠ some aB) := fun e => by have := HAL.out.2.1 _ e; omega
    have HFAR : Hid (∀ i, i < N → ∀ b, (R i).ownBlock = some b → (Value.slice a3 (S k).rwn c3).ownBlock ≠ some b) := fun i hi b h1 h2 => by have := HAL.out.2.2.1 i hi b h1; have := (HRY.out.lt b h2).1; omega
    clear x0 x1 x2 x3 xf0 xf1 xf2 xf3 bA6 bZ6 hkY
    have p0 := blk_cell bAY 0 _ rfl
    have p1 := blk_cell bAY 1 _ rfl
    have p2 := blk_cell bAY 2 _ rfl
    have p3 := blk_cell bAY 3 _ rfl
    have HCALL : Hid (∀ Z, Below Y.heap.size Y Z → Calls Try.prog 43 #[.pointer (some ⟨sb, 0, none⟩)] Z fun e w8 => e = .returned (.slice a1 N d1) ∧ w8.heap[zB]? = some (.cells #[.int .i64 0, .int .i64 0, .int .i64 0, .slice none 0 0] 28 (0, 0)) ∧ w8.heap[aB]? = some (.cells #[.int .i64 (S k).code, .int .i64 (S k).anam, .int .i64 (S k).price, .slice a3 (S k).rwn c3] 28 (0, 0)) ∧ Hid (OwnClks w8 w2.heap.size (.slice a1 N d1) N (toldTo S (openIn S N) N) R ∧ w8.ownsRow w2.heap.size 84 5 (.slice a3 (S k).rwn c3) (S k).ans.rwn (rowList (S k).ans.rw (S k).ans.rwn) ∧ Kept Y w8 (fun b => w2.heap.size ≤ b))) := fun Z hZ => (told_any Z w2.heap.size sb mb N _ N S R (openIn S N) (HTY.out.below hZ) (by omega) (fun i hi => (HS.out i hi).1)).mono fun e w8 ⟨h1, h2, h3⟩ => by
      have hk8 : Kept Y w8 (fun b => (Value.slice a1 N d1).ownBlock = some b) := (Kept.of_below hZ).trans h3
      have hoz : ∀ b, (Value.slice a1 N d1).ownBlock = some b → w2.heap.size ≤ b ∧ b ≠ aB := fun b hb => ⟨(HTY.out.own.row.lt b hb).1, fun e => HAV.out (e ▸ hb)⟩
      exact ⟨h1, hk8.blk bZY (fun e => by have := (hoz _ e).1; have := HZL.out; omega), hk8.blk bAY (fun e => (hoz _ e).2 rfl), h2, hk8.own HRV.out (fun b hb e => own_apart HRV.out HTY.out.own.row (by decide) b hb e), hk8.mono (fun b e => (hoz b e).1)⟩
    go_region_law (first
      | (go_simp; go_at_call 43; (with_reducible refine Calls.mono (HCALL.out _ ?_) ?_); (focus (repeat (first | exact Below.refl _ _ | refine Below.drew ?_))); rintro e w8 ⟨rfl, bZ8, bA8, H8⟩; have q0 := blk_cell bZ8 0 _ rfl; have q1 := blk_cell bZ8 1 _ rfl; have q2 := blk_cell bZ8 2 _ rfl; have q3 := blk_cell bZ8 3 _ rfl; have qf0 := blk_free bZ8 0; have qf1 := blk_free bZ8 1; have qf2 := blk_free bZ8 2; have qf3 := blk_free bZ8 3; have r0 := blk_cell bA8 0 _ rfl; have r1 := blk_cell bA8 1 _ rfl; have r2 := blk_cell bA8 2 _ rfl; have r3 := blk_cell bA8 3 _ rfl; dsimp only))
    all_goals
      have rF := ans_set bZ8 (.int .i64 (S k).code) (.int .i64 (S k).anam) (.int .i64 (S k).price) (.slice a3 (S k).rwn c3)
      have hkF : Kept w8 ((((w8.setCell ⟨zB, 0, none⟩ (.int .i64 (S k).code)).setCell ⟨zB, 1, none⟩ (.int .i64 (S k).anam)).setCell ⟨zB, 2, none⟩ (.int .i64 (S k).price)).setCell ⟨zB, 3, none⟩ (.slice a3 (S k).rwn c3)) (fun b => b = zB) := (((((Kept.refl w8 (fun b => b = zB)).set (a := ⟨zB, 0, none⟩) rfl _).set (a := ⟨zB, 1, none⟩) rfl _).set (a := ⟨zB, 2, none⟩) rfl _).set (a := ⟨zB, 3, none⟩) rfl _)
      have hbF : Below w.heap.size w ((((w8.setCell ⟨zB, 0, none⟩ (.int .i64 (S k).code)).setCell ⟨zB, 1, none⟩ (.int .i64 (S k).anam)).setCell ⟨zB, 2, none⟩ (.int .i64 (S k).price)).setCell ⟨zB, 3, none⟩ (.slice a3 (S k).rwn c3)) := Kept.below (Kept.below HBY.out HBY.out.size H8.out.2.2 (fun b e => by have := HW2.out; omega)) (by have := HBY.out.size; have := H8.out.2.2.size; omega) hkF (fun b e => by have e : b = zB := e; have := HZE.out; omega)
      have hzo : ∀ b, w2.heap.size ≤ b → ¬ b = zB := fun b hb e => by have := HZL.out; omega
      have hOF : OwnClks ((((w8.setCell ⟨zB, 0, none⟩ (.int .i64 (S k).code)).setCell ⟨zB, 1, none⟩ (.int .i64 (S k).anam)).setCell ⟨zB, 2, none⟩ (.int .i64 (S k).price)).setCell ⟨zB, 3, none⟩ (.slice a3 (S k).rwn c3)) w2.heap.size (.slice a1 N d1) N (toldTo S (openIn S N) N) R := ⟨hkF.own H8.out.1.row (fun b hb => hzo b (H8.out.1.row.lt b hb).1), fun i hi => hkF.own (H8.out.1.rows i hi) (fun b hb => hzo b ((H8.out.1.rows i hi).lt b hb).1), H8.out.1.apart⟩
      have hRF := hkF.own H8.out.2.1 (fun b hb => hzo b (H8.out.2.1.lt b hb).1)
      clear q0 q1 q2 q3 qf0 qf1 qf2 qf3 r0 r1 r2 r3 hkF bZ8 bA8 H8
      go_wp2
      generalize (((w8.setCell ⟨zB, 0, none⟩ (.int .i64 (S k).code)).setCell ⟨zB, 1, none⟩ (.int .i64 (S k).anam)).setCell ⟨zB, 2, none⟩ (.int .i64 (S k).price)).setCell ⟨zB, 3, none⟩ (.slice a3 (S k).rwn c3) = F at rF hbF hOF hRF ⊢
      have q0 := blk_cell rF 0 _ rfl
      have q1 := blk_cell rF 1 _ rfl
      have q2 := blk_cell rF 2 _ rfl
      have q3 := blk_cell rF 3 _ rfl
      exact bodyPost_ret (v := .tuple #[.slice a1 N d1, .agg #[.int .i64 (S k).code, .int .i64 (S k).anam, .int .i64 (S k).price, .slice a3 (S k).rwn c3], .int .i64 1]) (by simp [results, Try.results9, go_sem, q0, q1, q2, q3]) rfl ⟨⟨_, _, N, _, R, (S k).ans, 1, rfl, ⟨hOF.lower HW2.out, own_base hRF HW2.out, HFAR.out⟩, HASK.out _ (told_same HOK.out)⟩, hbF⟩
  have HZ1 : Hid (z ≠ 1) := h1
  have e1 : (z == 1) = false := by simpa using h1
  clear h1
  by_cases h0 : z = 0
  · subst h0
    clear e1
    go_upto_region 10 with fail
    generalize w4.alloc (.cells #[.int .i64 0, .int .i64 0, .int .i64 0, .slice none 0 0] 28) = V at bA5 bZ5 HT5 HB5 ⊢
    rw [← haB] at bA5 HAL ⊢
    clear haB
    go_wp2_with fail
    refine (take_any V w2.heap.size sb mb N a1 d1 N S R (openIn S N) nm num HT5.out (by omega) (by omega) HOK.out.up hnm).mono ?_
    rintro e Y ⟨rfl, ⟨N', S', R', a', c', K', h6, htk⟩, hk6⟩
    have HTY : Hid (Staff Y w2.heap.size sb mb K' (.slice a' N' c') N' S' R' (fun s => openIn S N s ∨ s = nm)) := h6
    have HTK : Hid (Taken N S nm num N' S') := htk
    have hVs : aB < V.heap.size := blk_lt bA5
    have hnot : ∀ b, b < V.heap.size → (b < w2.heap.size ∨ b = aB) → ¬ (b = sb ∨ b = mb ∨ (Value.slice a1 N d1).ownBlock = some b ∨ V.heap.size ≤ b) := by
      rintro b hbV hb (e | e | e | e)
      · have := HT5.out.hsb; have := HAL.out.2.2.2.1; omega
      · have := HT5.out.hmb; have := HAL.out.2.2.2.2; omega
      · have := (HT5.out.own.row.lt b e).1; have := HAL.out.2.1 b e; omega
      · omega
    have bZY := hk6.blk bZ5 (hnot zB (blk_lt bZ5) (Or.inl HZL.out))
    have bAY := hk6.blk bA5 (hnot aB hVs (Or.inr rfl))
    have HBY : Hid (Below w.heap.size w Y) := Kept.below HB5.out HB5.out.size hk6 (fun b e => by
      have := HW2.out
      rcases e with e | e | e | e
      · rw [e]; have := HT5.out.hsb; omega
      · rw [e]; have := HT5.out.hmb; omega
      · have := (HT5.out.own.row.lt b e).1; omega
      · have := HB5.out.size; omega)
    have HRV : Hid (Y.ownsRow w2.heap.size 84 5 (.slice none 0 0) ansZero.rwn (rowList ansZero.rw ansZero.rwn)) := World.ownsRow_nil _ _ _ _
    have HAV : Hid ((Value.slice a' N' c').ownBlock ≠ some aB) := fun e => by
      obtain ⟨cur, hcur⟩ := own_blk HTY.out.own.row e
      rw [hcur] at bAY
      simp only [Option.some.injEq, Obj.cells.injEq] at bAY
      exact absurd bAY.2.1 (by decide)
    have hN' : N' ≤ 21 := by
      rcases HTK.out with ⟨_, _, _, e, _⟩ | ⟨_, e, _⟩ <;> omega
    have HSZ : Hid (∀ i, i < N' → (S' i).nam.size ≤ 1048576) := by
      intro i hi
      rcases HTK.out with ⟨k, hk, _, e, hS⟩ | ⟨_, e, k, hk, hS⟩
      · subst e
        rw [hS i hi]
        by_cases e : i = k
        · subst e; rw [putC_at]; exact hnm
        · rw [putC_ne _ _ _ e]; exact (HS.out i hi).1
      · subst e
        rw [hS i hi]
        rcases Nat.lt_trichotomy i k with e | e | e
        · rw [insC_lt _ _ _ e]; exact (HS.out i (by have := hk.1; omega)).1
        · subst e; rw [insC_at]; exact hnm
        · rw [insC_gt _ _ _ e]; exact (HS.out (i - 1) (by omega)).1
    have HPOST : Hid (AskIs N S nm num N' (toldTo S' (fun s => openIn S N s ∨ s = nm) N') ansZero 0) := ask_new HOK.out HC.out HTK.out
    clear bA5 bZ5 HT5 HB5 HC h6 htk hk6 hnot
    go_upto_region 11 with fail
    have p0 := blk_cell bAY 0 _ rfl
    have p1 := blk_cell bAY 1 _ rfl
    have p2 := blk_cell bAY 2 _ rfl
    have p3 := blk_cell bAY 3 _ rfl
    have HCALL : Hid (∀ Z, Below Y.heap.size Y Z → Calls Try.prog 43 #[.pointer (some ⟨sb, 0, none⟩)] Z fun e w8 => e = .returned (.slice a' N' c') ∧ w8.heap[zB]? = some (.cells #[.int .i64 0, .int .i64 0, .int .i64 0, .slice none 0 0] 28 (0, 0)) ∧ w8.heap[aB]? = some (.cells #[.int .i64 0, .int .i64 0, .int .i64 0, .slice none 0 0] 28 (0, 0)) ∧ Hid (OwnClks w8 w2.heap.size (.slice a' N' c') N' (toldTo S' (fun s => openIn S N s ∨ s = nm) N') R' ∧ w8.ownsRow w2.heap.size 84 5 (.slice none 0 0) ansZero.rwn (rowList ansZero.rw ansZero.rwn) ∧ Kept Y w8 (fun b => w2.heap.size ≤ b))) := fun Z hZ => (told_any Z w2.heap.size sb mb K' _ N' S' R' (fun s => openIn S N s ∨ s = nm) (HTY.out.below hZ) (by omega) HSZ.out).mono fun e w8 ⟨h1, h2, h3⟩ => by
      have hk8 : Kept Y w8 (fun b => (Value.slice a' N' c').ownBlock = some b) := (Kept.of_below hZ).trans h3
      have hoz : ∀ b, (Value.slice a' N' c').ownBlock = some b → w2.heap.size ≤ b ∧ b ≠ aB := fun b hb => ⟨(HTY.out.own.row.lt b hb).1, fun e => HAV.out (e ▸ hb)⟩
      exact ⟨h1, hk8.blk bZY (fun e => by have := (hoz _ e).1; have := HZL.out; omega), hk8.blk bAY (fun e => (hoz _ e).2 rfl), h2, hk8.own HRV.out (fun b hb e => own_apart HRV.out HTY.out.own.row (by decide) b hb e), hk8.mono (fun b e => (hoz b e).1)⟩
    go_region_law (first
      | (go_simp; go_at_call 43; (with_reducible refine Calls.mono (HCALL.out _ ?_) ?_); (focus (repeat (first | exact Below.refl _ _ | refine Below.drew ?_))); rintro e w8 ⟨rfl, bZ8, bA8, H8⟩; have q0 := blk_cell bZ8 0 _ rfl; have q1 := blk_cell bZ8 1 _ rfl; have q2 := blk_cell bZ8 2 _ rfl; have q3 := blk_cell bZ8 3 _ rfl; have qf0 := blk_free bZ8 0; have qf1 := blk_free bZ8 1; have qf2 := blk_free bZ8 2; have qf3 := blk_free bZ8 3; have r0 := blk_cell bA8 0 _ rfl; have r1 := blk_cell bA8 1 _ rfl; have r2 := blk_cell bA8 2 _ rfl; have r3 := blk_cell bA8 3 _ rfl; dsimp only))
    all_goals
      have rF := ans_set bZ8 (.int .i64 0) (.int .i64 0) (.int .i64 0) (.slice none 0 0)
      have hkF : Kept w8 ((((w8.setCell ⟨zB, 0, none⟩ (.int .i64 0)).setCell ⟨zB, 1, none⟩ (.int .i64 0)).setCell ⟨zB, 2, none⟩ (.int .i64 0)).setCell ⟨zB, 3, none⟩ (.slice none 0 0)) (fun b => b = zB) := (((((Kept.refl w8 (fun b => b = zB)).set (a := ⟨zB, 0, none⟩) rfl _).set (a := ⟨zB, 1, none⟩) rfl _).set (a := ⟨zB, 2, none⟩) rfl _).set (a := ⟨zB, 3, none⟩) rfl _)
      have hbF : Below w.heap.size w ((((w8.setCell ⟨zB, 0, none⟩ (.int .i64 0)).setCell ⟨zB, 1, none⟩ (.int .i64 0)).setCell ⟨zB, 2, none⟩ (.int .i64 0)).setCell ⟨zB, 3, none⟩ (.slice none 0 0)) := Kept.below (Kept.below HBY.out HBY.out.size H8.out.2.2 (fun b e => by have := HW2.out; omega)) (by have := HBY.out.size; have := H8.out.2.2.size; omega) hkF (fun b e => by have e : b = zB := e; have := HZE.out; omega)
      have hzo : ∀ b, w2.heap.size ≤ b → ¬ b = zB := fun b hb e => by have := HZL.out; omega
      have hOF : OwnClks ((((w8.setCell ⟨zB, 0, none⟩ (.int .i64 0)).setCell ⟨zB, 1, none⟩ (.int .i64 0)).setCell ⟨zB, 2, none⟩ (.int .i64 0)).setCell ⟨zB, 3, none⟩ (.slice none 0 0)) w2.heap.size (.slice a' N' c') N' (toldTo S' (fun s => openIn S N s ∨ s = nm) N') R' := ⟨hkF.own H8.out.1.row (fun b hb => hzo b (H8.out.1.row.lt b hb).1), fun i hi => hkF.own (H8.out.1.rows i hi) (fun b hb => hzo b ((H8.out.1.rows i hi).lt b hb).1), H8.out.1.apart⟩
      have hRF := hkF.own H8.out.2.1 (fun b hb => hzo b (H8.out.2.1.lt b hb).1)
      clear q0 q1 q2 q3 qf0 qf1 qf2 qf3 r0 r1 r2 r3 hkF bZ8 bA8 H8
      go_wp2
      generalize (((w8.setCell ⟨zB, 0, none⟩ (.int .i64 0)).setCell ⟨zB, 1, none⟩ (.int .i64 0)).setCell ⟨zB, 2, none⟩ (.int .i64 0)).setCell ⟨zB, 3, none⟩ (.slice none 0 0) = F at rF hbF hOF hRF ⊢
      have q0 := blk_cell rF 0 _ rfl
      have q1 := blk_cell rF 1 _ rfl
      have q2 := blk_cell rF 2 _ rfl
      have q3 := blk_cell rF 3 _ rfl
      exact bodyPost_ret (v := .tuple #[.slice a' N' c', .agg #[.int .i64 0, .int .i64 0, .int .i64 0, .slice none 0 0], .int .i64 0]) (by simp [results, Try.results9, go_sem, q0, q1, q2, q3]) rfl ⟨⟨_, _, N', _, R', ansZero, 0, rfl, ⟨hOF.lower HW2.out, own_base hRF HW2.out, (fun i hi b _ e => by cases e)⟩, HPOST.out⟩, hbF⟩
  have HZ0 : Hid (z ≠ 0) := h0
  have e0 : (z == 0) = false := by simpa using h0
  clear h0
  go_upto_region 11 with fail
  generalize w4.alloc (.cells #[.int .i64 0, .int .i64 0, .int .i64 0, .slice none 0 0] 28) = Y at bA5 bZ5 HT5 HB5 ⊢
  rw [← haB] at bA5 HAL ⊢
  clear haB
  have bAY := bA5
  have bZY := bZ5
  have HTY := HT5
  have HBY := HB5
  have HRV : Hid (Y.ownsRow w2.heap.size 84 5 (.slice none 0 0) ansZero.rwn (rowList ansZero.rw ansZero.rwn)) := World.ownsRow_nil _ _ _ _
  have HAV : Hid ((Value.slice a1 N d1).ownBlock ≠ some aB) := fun e => by have := HAL.out.2.1 _ e; omega
  have HPOST : Hid (AskIs N S nm num N (toldTo S (openIn S N) N) ansZero z) := ask_other HOK.out HC.out HZ0.out HZ1.out (told_same HOK.out)
  clear bA5 bZ5 HT5 HB5 e0 e1 HC
  have p0 := blk_cell bAY 0 _ rfl
  have p1 := blk_cell bAY 1 _ rfl
  have p2 := blk_cell bAY 2 _ rfl
  have p3 := blk_cell bAY 3 _ rfl
  have HCALL : Hid (∀ Z, Below Y.heap.size Y Z → Calls Try.prog 43 #[.pointer (some ⟨sb, 0, none⟩)] Z fun e w8 => e = .returned (.slice a1 N d1) ∧ w8.heap[zB]? = some (.cells #[.int .i64 0, .int .i64 0, .int .i64 0, .slice none 0 0] 28 (0, 0)) ∧ w8.heap[aB]? = some (.cells #[.int .i64 0, .int .i64 0, .int .i64 0, .slice none 0 0] 28 (0, 0)) ∧ Hid (OwnClks w8 w2.heap.size (.slice a1 N d1) N (toldTo S (openIn S N) N) R ∧ w8.ownsRow w2.heap.size 84 5 (.slice none 0 0) ansZero.rwn (rowList ansZero.rw ansZero.rwn) ∧ Kept Y w8 (fun b => w2.heap.size ≤ b))) := fun Z hZ => (told_any Z w2.heap.size sb mb N _ N S R (openIn S N) (HTY.out.below hZ) (by omega) (fun i hi => (HS.out i hi).1)).mono fun e w8 ⟨h1, h2, h3⟩ => by
    have hk8 : Kept Y w8 (fun b => (Value.slice a1 N d1).ownBlock = some b) := (Kept.of_below hZ).trans h3
    have hoz : ∀ b, (Value.slice a1 N d1).ownBlock = some b → w2.heap.size ≤ b ∧ b ≠ aB := fun b hb => ⟨(HTY.out.own.row.lt b hb).1, fun e => HAV.out (e ▸ hb)⟩
    exact ⟨h1, hk8.blk bZY (fun e => by have := (hoz _ e).1; have := HZL.out; omega), hk8.blk bAY (fun e => (hoz _ e).2 rfl), h2, hk8.own HRV.out (fun b hb e => own_apart HRV.out HTY.out.own.row (by decide) b hb e), hk8.mono (fun b e => (hoz b e).1)⟩
  go_region_law (first
    | (go_simp; go_at_call 43; (with_reducible refine Calls.mono (HCALL.out _ ?_) ?_); (focus (repeat (first | exact Below.refl _ _ | refine Below.drew ?_))); rintro e w8 ⟨rfl, bZ8, bA8, H8⟩; have q0 := blk_cell bZ8 0 _ rfl; have q1 := blk_cell bZ8 1 _ rfl; have q2 := blk_cell bZ8 2 _ rfl; have q3 := blk_cell bZ8 3 _ rfl; have qf0 := blk_free bZ8 0; have qf1 := blk_free bZ8 1; have qf2 := blk_free bZ8 2; have qf3 := blk_free bZ8 3; have r0 := blk_cell bA8 0 _ rfl; have r1 := blk_cell bA8 1 _ rfl; have r2 := blk_cell bA8 2 _ rfl; have r3 := blk_cell bA8 3 _ rfl; dsimp only))
  all_goals
    have rF := ans_set bZ8 (.int .i64 0) (.int .i64 0) (.int .i64 0) (.slice none 0 0)
    have hkF : Kept w8 ((((w8.setCell ⟨zB, 0, none⟩ (.int .i64 0)).setCell ⟨zB, 1, none⟩ (.int .i64 0)).setCell ⟨zB, 2, none⟩ (.int .i64 0)).setCell ⟨zB, 3, none⟩ (.slice none 0 0)) (fun b => b = zB) := (((((Kept.refl w8 (fun b => b = zB)).set (a := ⟨zB, 0, none⟩) rfl _).set (a := ⟨zB, 1, none⟩) rfl _).set (a := ⟨zB, 2, none⟩) rfl _).set (a := ⟨zB, 3, none⟩) rfl _)
    have hbF : Below w.heap.size w ((((w8.setCell ⟨zB, 0, none⟩ (.int .i64 0)).setCell ⟨zB, 1, none⟩ (.int .i64 0)).setCell ⟨zB, 2, none⟩ (.int .i64 0)).setCell ⟨zB, 3, none⟩ (.slice none 0 0)) := Kept.below (Kept.below HBY.out HBY.out.size H8.out.2.2 (fun b e => by have := HW2.out; omega)) (by have := HBY.out.size; have := H8.out.2.2.size; omega) hkF (fun b e => by have e : b = zB := e; have := HZE.out; omega)
    have hzo : ∀ b, w2.heap.size ≤ b → ¬ b = zB := fun b hb e => by have := HZL.out; omega
    have hOF : OwnClks ((((w8.setCell ⟨zB, 0, none⟩ (.int .i64 0)).setCell ⟨zB, 1, none⟩ (.int .i64 0)).setCell ⟨zB, 2, none⟩ (.int .i64 0)).setCell ⟨zB, 3, none⟩ (.slice none 0 0)) w2.heap.size (.slice a1 N d1) N (toldTo S (openIn S N) N) R := ⟨hkF.own H8.out.1.row (fun b hb => hzo b (H8.out.1.row.lt b hb).1), fun i hi => hkF.own (H8.out.1.rows i hi) (fun b hb => hzo b ((H8.out.1.rows i hi).lt b hb).1), H8.out.1.apart⟩
    have hRF := hkF.own H8.out.2.1 (fun b hb => hzo b (H8.out.2.1.lt b hb).1)
    clear q0 q1 q2 q3 qf0 qf1 qf2 qf3 r0 r1 r2 r3 hkF bZ8 bA8 H8
    go_wp2
    generalize (((w8.setCell ⟨zB, 0, none⟩ (.int .i64 0)).setCell ⟨zB, 1, none⟩ (.int .i64 0)).setCell ⟨zB, 2, none⟩ (.int .i64 0)).setCell ⟨zB, 3, none⟩ (.slice none 0 0) = F at rF hbF hOF hRF ⊢
    have q0 := blk_cell rF 0 _ rfl
    have q1 := blk_cell rF 1 _ rfl
    have q2 := blk_cell rF 2 _ rfl
    have q3 := blk_cell rF 3 _ rfl
    exact bodyPost_ret (v := .tuple #[.slice a1 N d1, .agg #[.int .i64 0, .int .i64 0, .int .i64 0, .slice none 0 0], .int .i64 z]) (by simp [results, Try.results9, go_sem, q0, q1, q2, q3]) rfl ⟨⟨_, _, N, _, R, ansZero, z, rfl, ⟨hOF.lower HW2.out, own_base hRF HW2.out, (fun i hi b _ e => by cases e)⟩, HPOST.out⟩, hbF⟩

end Go.Proofs.Ytogbaoggebghdaa

namespace Go.Proofs.Ytogbaoggebghdaa
open Go.RowKit Classical

theorem ask_made {N N1 : Nat} {S S1 : Nat → ClkD} {nm : ByteArray} {num : Int} {a1 : AnsD} (h : AskIs N S nm num N1 S1 a1 0) : ClerksOk N1 S1 ∧ IsName nm ∧ In num 1 1000000 ∧ ∃ k, k < N1 ∧ S1 k = freshC nm num := by
  rcases h with ⟨_, _, _, e⟩ | ⟨ok, p, hp, h⟩
  · cases e
  rcases h with ⟨_, _, _, _, e⟩ | ⟨b, hneg, rfl, ⟨k, hk, hS⟩, _, _⟩ | ⟨b, rfl, k, hk, e, hat⟩
  · cases e
  · have hn : IsName nm := Classical.byContradiction fun h => b (Or.inl h)
    have hi : In num 1 1000000 := Classical.byContradiction fun h => b (Or.inr (Or.inl h))
    have h20 : N ≠ 20 := fun e => b (Or.inr (Or.inr ⟨hneg, Or.inl e⟩))
    have hno : ∀ j, j < N → (S j).nam ≠ nm := by
      rcases hp with ⟨j, _, e2, _⟩ | ⟨_, hno⟩
      · omega
      · exact hno
    have hkN := hk.1
    refine ⟨⟨by have := ok.1; omega, fun i hi' => ?_⟩, hn, hi, k, by omega, by rw [hS k (by omega), insC_at]⟩
    unfold ClerkOk
    rcases Nat.lt_trichotomy i k with f | f | f
    · rw [hS i hi', insC_lt _ _ _ f]
      refine ⟨(ok.2 i (by omega)).1, fun h0 => ?_, (ok.2 i (by omega)).2.2⟩
      rw [hS (i - 1) (by omega), insC_lt _ _ _ (by omega)]
      exact (ok.2 i (by omega)).2.1 h0
    · subst f
      rw [hS i hi', insC_at]
      refine ⟨hn, fun h0 => ?_, hi, fun _ => ⟨rfl, rfl, rfl, rfl⟩⟩
      rw [hS (i - 1) (by omega), insC_lt _ _ _ (by omega)]
      exact hk.2.1 (i - 1) (by omega)
    · rw [hS i hi', insC_gt _ _ _ f]
      refine ⟨(ok.2 (i - 1) (by omega)).1, fun _ => ?_, (ok.2 (i - 1) (by omega)).2.2⟩
      by_cases g : i - 1 = k
      · rw [hS (i - 1) (by omega), g, insC_at]
        rcases textLt.not_iff.1 (hk.2.2 (by omega)) with h | h
        · exact h
        · exact absurd h.symm (hno k (by omega))
      · rw [hS (i - 1) (by omega), insC_gt _ _ _ (by omega)]
        exact (ok.2 (i - 1) (by omega)).2.1 (by omega)
  · have hn : IsName nm := Classical.byContradiction fun h => b (Or.inl h)
    have hi : In num 1 1000000 := Classical.byContradiction fun h => b (Or.inr (Or.inl h))
    have hnk : (S k).nam = nm := by
      rcases hp with ⟨j, hj, e2, hn, _⟩ | ⟨e2, _⟩
      · obtain rfl : j = k := by omega
        exact hn
      · omega
    rcases hat with ⟨_, _, _, e⟩ | ⟨_, _, _, e⟩ | ⟨_, _, _, _, _, e⟩ | ⟨_, _, _, _, e⟩ | ⟨_, _, hS, _, _⟩
    · cases e
    · cases e
    · cases e
    · cases e
    · refine ⟨⟨ok.1, fun i hi' => ?_⟩, hn, hi, k, hk, by rw [hS k hk, putC_at]⟩
      have nm1 : ∀ j, j < N1 → (S1 j).nam = (S j).nam := fun j hj => by
        rw [hS j hj]
        by_cases g : j = k
        · subst g; rw [putC_at]; exact hnk.symm
        · rw [putC_ne _ _ _ g]
      refine ⟨by rw [nm1 i hi']; exact (ok.2 i hi').1, fun h0 => by rw [nm1 i hi', nm1 (i - 1) (by omega)]; exact (ok.2 i hi').2.1 h0, ?_⟩
      rw [hS i hi']
      by_cases g : i = k
      · subst g; rw [putC_at]; exact ⟨hi, fun _ => ⟨rfl, rfl, rfl, rfl⟩⟩
      · rw [putC_ne _ _ _ g]; exact (ok.2 i hi').2.2
theorem notBad {N : Nat} {nm : ByteArray} {num : Int} {k : Nat} (hn : IsName nm) (hi : In num 1 1000000) : ¬ AskBad N nm num (k : Int) := by
  rintro (h | h | ⟨h, _⟩)
  · exact h hn
  · exact h hi
  · omega
theorem ask_open {N k : Nat} {S : Nat → ClkD} {nm : ByteArray} {num : Int} (ok : ClerksOk N S) (hk : k < N) (e : S k = freshC nm num) (hn : IsName nm) (hi : In num 1 1000000) : AskIs N S nm num N S ansZero 5 := by
  have h1 : (S k).nam = nm := by rw [e]; rfl
  refine Or.inr ⟨ok, k, h1 ▸ ok.atC hk, Or.inr (Or.inr ⟨notBad hn hi, rfl, k, hk, rfl, Or.inr (Or.inr (Or.inl ⟨?_, ?_, ?_, fun _ _ => rfl, rfl, rfl⟩))⟩)⟩
  · rw [e]; exact Int.le_refl _
  · rw [e]; show num ≤ num + 1; omega
  · rw [e]; rfl
theorem settle_open {N k : Nat} {S : Nat → ClkD} {nm : ByteArray} {num : Int} {a : AnsD} (ok : ClerksOk N S) (hk : k < N) (e : S k = freshC nm num) : SettleIs N S nm a N (putC S k (((S k).shut false).told a)) 0 := by
  have h1 : (S k).nam = nm := by rw [e]; rfl
  exact Or.inr ⟨ok, rfl, k, h1 ▸ ok.atC hk, Or.inl ⟨k, hk, rfl, by rw [e]; rfl, rfl, fun _ _ => rfl⟩⟩
theorem ask_told {N k : Nat} {S S3 : Nat → ClkD} {nm : ByteArray} {num : Int} {a : AnsD} (ok : ClerksOk N S) (hk : k < N) (e : S k = freshC nm num) (hn : IsName nm) (hi : In num 1 1000000) (hS : ∀ i, i < N → S3 i = putC S k (((S k).shut false).told a) i) : AskIs N S3 nm num N S3 a 1 := by
  have hk3 : S3 k = ((freshC nm num).shut false).told a := by rw [hS k hk, putC_at, e]
  have nm1 : ∀ j, j < N → (S3 j).nam = (S j).nam := fun j hj => by
    rw [hS j hj]
    by_cases g : j = k
    · subst g; rw [putC_at]; rfl
    · rw [putC_ne _ _ _ g]
  have ok3 : ClerksOk N S3 := by
    refine ⟨ok.1, fun i hi' => ⟨by rw [nm1 i hi']; exact (ok.2 i hi').1, fun h0 => by rw [nm1 i hi', nm1 (i - 1) (by omega)]; exact (ok.2 i hi').2.1 h0, ?_⟩⟩
    by_cases g : i = k
    · subst g; rw [hk3]; exact ⟨hi, fun h => by cases h⟩
    · rw [hS i hi', putC_ne _ _ _ g]; exact (ok.2 i hi').2.2
  have h1 : (S3 k).nam = nm := by rw [hk3]; rfl
  refine Or.inr ⟨ok3, k, h1 ▸ ok3.atC hk, Or.inr (Or.inr ⟨notBad hn hi, rfl, k, hk, rfl, Or.inr (Or.inr (Or.inr (Or.inl ⟨?_, ?_, fun _ _ => rfl, ?_, rfl⟩)))⟩)⟩
  · rw [hk3]; rfl
  · rw [hk3]; rfl
  · rw [hk3]; rfl

end Go.Proofs.Ytogbaoggebghdaa
