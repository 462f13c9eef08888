/-
  OWN TEXT: the contract of store.drop.
-/
import Derived.Test.YtclcjnbjpelcjaaImplSetK
import Derived.Test.YtclcjnbjpelcjaaImpl5
import Derived.Test.YtclcjnbjpelcjaaArenaOf
import Derived.Test.YtclcjnbjpelcjaaSpecDrop
import Derived.Deep.DrawnRows
import Derived.Deep.DeepCutAuto
namespace Go.Proofs.Ytclcjnbjpelcjaa
open Go.RowKit

theorem own_lt {w : World} {base e size g n c : Nat} {xs : List Value} (h : w.ownsRow base e size (.slice (some ⟨g, 0, none⟩) n c) n xs) {i : Nat} : (⟨g, i, none⟩ : Addr).block < w.heap.size := (h.lt g rfl).2
theorem Kept.drew' {w w' : World} {S : Nat → Prop} (h : Below w.drew.heap.size w.drew w') : Kept w w' S := ⟨h.os, h.tape, h.output, h.size, fun i hi _ => h.block i hi⟩
theorem Kept.of_grown {w w' : World} {S : Nat → Prop} {row : Option Nat} (h : w.grownBy w' row) (hs : ∀ b, row = some b → S b) : Kept w w' S := ⟨h.os, h.tape, h.output, h.size, fun i hi hn => h.block i hi (fun e => hn (hs i e.symm))⟩
/-- A record is stored into an owned row, cell by cell. -/
theorem own_put {w : World} {base e n c g q : Nat} {A : Nat → Int} {U : Nat → Bool} {V : Nat → Int} {a v : Int} {u : Bool} (h : w.ownsRow base e 3 (.slice (some ⟨g, 0, none⟩) n c) n (slotList A U V n)) :
    (((w.setCell ⟨g, q * 3, none⟩ (.int .i64 a)).setCell ⟨g, q * 3 + 1, none⟩ (.bool u)).setCell ⟨g, q * 3 + 2, none⟩ (.int .i64 v)).ownsRow base e 3 (.slice (some ⟨g, 0, none⟩) n c) n (slotList (put A q a) (put U q u) (put V q v) n) := by
  have := own_slot (k := q) (A' := put A q a) (U' := put U q u) (V' := put V q v) h (fun i hi => put_ne _ _ _ _ hi) (fun i hi => put_ne _ _ _ _ hi) (fun i hi => put_ne _ _ _ _ hi)
  rw [put_at, put_at, put_at] at this
  exact this

/-- What store.drop leaves. -/
def DropDone (sb base : Nat) (ao bo : Option Addr) (n c1 : Nat) (o : Out) (w : World) (e : Ending) (w' : World) : Prop :=
  ∃ bo' c2', e = .returned (.int .i64 o.c) ∧ o.n = n ∧
      w'.heap[sb]? = some (.cells #[.slice ao n c1, .slice bo' o.m c2'] 97 (0, 0)) ∧ w'.ownsRow base 184 3 (.slice ao n c1) n (slotList o.A o.U o.V n) ∧ w'.ownsRow base 3 1 (.slice bo' o.m c2') o.m (intList o.F o.m) ∧ Kept w w' (fun b => b = sb ∨ headsOf ao bo b)

set_option maxHeartbeats 1600000 in
set_option maxRecDepth 100000 in
theorem drop_any (sb base : Nat) (ao bo : Option Addr) (n m c1 c2 : Nat) (A : Nat → Int) (U : Nat → Bool) (V F : Nat → Int) (x a : Int) (w : World) (hgood : Good n m A U V F)
    (hS : w.heap[sb]? = some (.cells #[.slice ao n c1, .slice bo m c2] 97 (0, 0))) (ho : w.ownsRow base 184 3 (.slice ao n c1) n (slotList A U V n)) (ho' : w.ownsRow base 3 1 (.slice bo m c2) m (intList F m)) (_hbase : base ≤ w.heap.size) (hap : ¬ headsOf ao bo sb) :
    Calls Try.prog 53 #[.pointer (some ⟨sb, 0, none⟩), .agg #[.int .i64 x, .int .i64 a]] w fun e w' => DropDone sb base ao bo n c1 (dropOut n m A U V F x a) w e w' := by
  obtain ⟨j0, ji, jz0, jz1, jz2⟩ := info_parts Try.infoInt
  have h0 : Below w.heap.size w (w.alloc (.cells #[.int .i64 x, .int .i64 a] 30)) := push (Below.refl _ _) _
  have dS : (w.alloc (.cells #[.int .i64 x, .int .i64 a] 30)).drew.heap[sb]? = some (.cells #[.slice ao n c1, .slice bo m c2] 97 (0, 0)) := blk_alloc hS _
  have dH : (w.alloc (.cells #[.int .i64 x, .int .i64 a] 30)).drew.heap[w.heap.size]? = some (.cells #[.int .i64 x, .int .i64 a] 30 (0, 0)) := heap_alloc_new w _
  have hsl := blk_lt hS
  have p0 := blk_cell hS 0 _ rfl
  have p1 := blk_cell hS 1 _ rfl
  have hx := own_slots ho
  have HG : Hid (Good n m A U V F) := hgood
  clear hgood
  go_enter Try.func53, Try.ntmps53
  go_wp2
  go_region_held3 (fun w' => w'.cell? ⟨sb, 0, none⟩ = some (.slice ao n c1) ∧ w'.cell? ⟨sb, 1, none⟩ = some (.slice bo m c2) ∧ w'.cell? ⟨w.heap.size, 0, none⟩ = some (.int .i64 x) ∧ w'.cell? ⟨w.heap.size, 1, none⟩ = some (.int .i64 a))
    (first | exact ⟨blk_cell (blk_below dS hb2) 0 _ rfl, blk_cell (blk_below dS hb2) 1 _ rfl, blk_cell (blk_below dH hb2) 0 _ rfl, blk_cell (blk_below dH hb2) 1 _ rfl⟩ | exact ⟨blk_cell dS 0 _ rfl, blk_cell dS 1 _ rfl, blk_cell dH 0 _ rfl, blk_cell dH 1 _ rfl⟩)
    (first | (go_at_call 127; refine (codeOf_any ao bo n m c1 c2 A U V x a _ (hx.below h0.drew)).mono ?_; rintro e w2 ⟨rfl, hb2⟩))
  have hbw := after h0.drew hb2
  have hS2 := blk_below dS hb2
  have hH2 := blk_below dH hb2
  have ho2 := own_below hbw ho
  have ho3 := own_below hbw ho'
  have hlt : w.heap.size < w2.heap.size := by have := hb2.size; simp at this; omega
  clear dS dH h0 hb2 hS p0 p1 hx
  by_cases hf : faultOf n A U x a = 0
  · have ef : (faultOf n A U x a != 0) = false := by simpa using hf
    obtain ⟨q, rfl, hq, rfl, _⟩ := fault_zero hf
    have hage := good_age HG.out hq
    have hfew := good_few HG.out
    have hqn : (q : Int) < (n : Int) := by omega
    have hq0 : (0 : Int) ≤ (q : Int) := by omega
    obtain ⟨g, rfl, hg1, hg2⟩ := own_addr ho (by omega)
    have s0 := own_cell ho2 (q * 3) (by omega) rfl
    have s1 := own_cell ho2 (q * 3 + 1) (by omega) rfl
    have s2 := own_cell ho2 (q * 3 + 2) (by omega) rfl
    have sf0 := ho2.frozenAt (q * 3)
    have sf1 := ho2.frozenAt (q * 3 + 1)
    have sf2 := ho2.frozenAt (q * 3 + 2)
    have n1 : ¬ (sb = g) := fun e => hap (.inl ⟨g, rfl, e⟩)
    have n2 : ¬ (w.heap.size = g) := by omega
    have hwr : IntKind.i64.wrap (A q + 1) = A q + 1 := by rw [IntKind.wrap_i64]; omega
    have y0 := blk_cell hS2 0 _ rfl
    have y1 := blk_cell hH2 0 _ rfl
    have y2 := blk_cell hH2 1 _ rfl
    go_wp2
    go_region_held3 (fun w' => w'.cell? ⟨sb, 0, none⟩ = some (.slice (some ⟨g, 0, none⟩) n c1) ∧ w'.cell? ⟨w.heap.size, 0, none⟩ = some (.int .i64 (q : Int)) ∧ w'.cell? ⟨w.heap.size, 1, none⟩ = some (.int .i64 (A q)))
      (first | exact ⟨y0, y1, y2⟩ | exact ⟨((World.cell?_setCell_other _ _ _ _ (by simp <;> omega)).trans ((World.cell?_setCell_other _ _ _ _ (by simp <;> omega)).trans (World.cell?_setCell_other _ _ _ _ (by simp <;> omega)))).trans y0, ((World.cell?_setCell_other _ _ _ _ (by simp <;> omega)).trans ((World.cell?_setCell_other _ _ _ _ (by simp <;> omega)).trans (World.cell?_setCell_other _ _ _ _ (by simp <;> omega)))).trans y1, ((World.cell?_setCell_other _ _ _ _ (by simp <;> omega)).trans ((World.cell?_setCell_other _ _ _ _ (by simp <;> omega)).trans (World.cell?_setCell_other _ _ _ _ (by simp <;> omega)))).trans y2⟩)
      (fail)
    go_upto_region 5 with fail
    have hk4 : Kept w ((((w2.setCell ⟨g, q * 3, none⟩ (.int .i64 (A q + 1))).setCell ⟨g, q * 3 + 1, none⟩ (.bool false)).setCell ⟨g, q * 3 + 2, none⟩ (.int .i64 0)).drew) (fun b => b = sb ∨ headsOf (some ⟨g, 0, none⟩) bo b) := Kept.drew ((((Kept.of_below hbw).set (.inr (.inl ⟨g, rfl, rfl⟩)) _).set (.inr (.inl ⟨g, rfl, rfl⟩)) _).set (.inr (.inl ⟨g, rfl, rfl⟩)) _)
    have r4 : ((((w2.setCell ⟨g, q * 3, none⟩ (.int .i64 (A q + 1))).setCell ⟨g, q * 3 + 1, none⟩ (.bool false)).setCell ⟨g, q * 3 + 2, none⟩ (.int .i64 0)).drew).ownsRow base 184 3 (.slice (some ⟨g, 0, none⟩) n c1) n (slotList (put A q (A q + 1)) (put U q false) (put V q 0) n) := (own_put ho2).drew
    have hkg : Kept w2 ((((w2.setCell ⟨g, q * 3, none⟩ (.int .i64 (A q + 1))).setCell ⟨g, q * 3 + 1, none⟩ (.bool false)).setCell ⟨g, q * 3 + 2, none⟩ (.int .i64 0)).drew) (headOf (some ⟨g, 0, none⟩)) := Kept.drew ((((Kept.refl _ _).set ⟨g, rfl, rfl⟩ _).set ⟨g, rfl, rfl⟩ _).set ⟨g, rfl, rfl⟩ _)
    have t4 := hkg.own ho3 (fun b hb hs => heads_apart ho2 ho3 (by decide) b hs (own_head rfl ho3 hb))
    have hS4 := hkg.blk hS2 (fun h => hap (.inl h))
    have hH4 := hkg.blk hH2 (by rintro ⟨g', e1, e2⟩; simp only [Option.some.injEq, Addr.mk.injEq, and_true] at e1; omega)
    have hz4 : w2.heap.size ≤ ((((w2.setCell ⟨g, q * 3, none⟩ (.int .i64 (A q + 1))).setCell ⟨g, q * 3 + 1, none⟩ (.bool false)).setCell ⟨g, q * 3 + 2, none⟩ (.int .i64 0)).drew).heap.size := hkg.size
    have c0 := own_cell r4 (q * 3) (by omega) rfl
    have c1' := own_cell r4 (q * 3 + 1) (by omega) rfl
    have c2' := own_cell r4 (q * 3 + 2) (by omega) rfl
    rw [slotCell_0, put_at] at c0
    rw [slotCell_1, put_at] at c1'
    rw [slotCell_2, put_at] at c2'
    clear hkg ho2 ho3 hS2 hH2 hbw s0 s1 s2 sf0 sf1 sf2 y0 y1 y2
    generalize ((((w2.setCell ⟨g, q * 3, none⟩ (.int .i64 (A q + 1))).setCell ⟨g, q * 3 + 1, none⟩ (.bool false)).setCell ⟨g, q * 3 + 2, none⟩ (.int .i64 0)).drew) = W4 at *
    have y0 := blk_cell hS4 0 _ rfl
    have y1 := blk_cell hH4 0 _ rfl
    have dS := blk_drew hS4
    have dH := blk_drew hH4
    have d4 := r4.drew
    go_region_held3 (fun w' => w'.cell? ⟨sb, 0, none⟩ = some (.slice (some ⟨g, 0, none⟩) n c1) ∧ w'.cell? ⟨w.heap.size, 0, none⟩ = some (.int .i64 (q : Int)) ∧ w'.cell? ⟨g, q * 3, none⟩ = some (.int .i64 (A q + 1)) ∧ w'.cell? ⟨g, q * 3 + 1, none⟩ = some (.bool false) ∧ w'.cell? ⟨g, q * 3 + 2, none⟩ = some (.int .i64 0))
      (first | exact ⟨y0, y1, c0, c1', c2'⟩ | exact ⟨blk_cell (blk_below dS hb5) 0 _ rfl, blk_cell (blk_below dH hb5) 0 _ rfl, (hb5.cell (own_lt d4)).trans c0, (hb5.cell (own_lt d4)).trans c1', (hb5.cell (own_lt d4)).trans c2'⟩)
      (first | (go_at_call 128; refine (isFree_any _ _ _ _).mono ?_; rintro e w5 ⟨rfl, hb5⟩))
    have hk5 := hk4.trans (Kept.drew' hb5)
    have r5 := own_below hb5 d4
    have t5 := own_below hb5 t4.drew
    have hS5 := blk_below dS hb5
    have hH5 := blk_below dH hb5
    have hz5 : W4.heap.size ≤ w5.heap.size := hb5.size
    clear hk4 r4 t4 hS4 hH4 c0 c1' c2' y0 y1 dS dH d4 hb5
    have y0 := blk_cell hS5 1 _ rfl
    have y1 := blk_cell hH5 0 _ rfl
    have y2 := blk_free hS5 1
    by_cases h9 : A q + 1 < 9
    · have e9 : freeSlot (A q + 1) false = true := by simpa [freeSlot] using h9
      rw [e9]
      go_upto_region 6 with fail
      have hne : ∀ b, b < base ∨ ¬ headOf bo b → some b ≠ (Value.slice bo m c2).ownBlock := fun b hb e => by
        rcases hb with hb | hb
        · have := (t5.lt b e.symm).1; omega
        · exact hb (own_head rfl t5 e.symm)
      have n6 : some sb ≠ (Value.slice bo m c2).ownBlock := hne sb (.inr (fun h => hap (.inr h)))
      clear hne
      have HO : Hid (dropOut n m A U V F q (A q) = ⟨n, m + 1, put A q (A q + 1), put U q false, put V q 0, put F m q, 0⟩) := by unfold Hid dropOut; rw [if_pos hf, if_pos h9, Int.toNat_natCast]
      have HF : Hid (intList (put F m (q : Int)) (m + 1) = intList F m ++ [.int .i64 (q : Int)]) := intList_put F m q
      have y3 := blk_cell (blk_alloc hS5 (.cells #[.int .i64 (q : Int)] 3)) 1 _ rfl
      go_region_law ((refine step_append_lies _ (by rfl) (.tmp 38) (.tmp 41) 24 (by rfl) base 3 j0 (.int .i64 0) 1 8 Try.underlying24 ji jz0 jz1 jz2 rfl (by decide) _ m (intList F m) (by rfl) ((t5.alloc (.cells #[.int .i64 (q : Int)] 3)).drew) ⟨w5.heap.size, 0, none⟩ 1 1 [.int .i64 (q : Int)] (by rfl) (by rfl) (World.news_of_block (cs := #[.int .i64 (q : Int)]) (t := 3) (fr := (0, 0)) (heap_alloc_new w5 _)) (by intro u hu; simp at hu; subst hu; rfl) (by decide) (by unfold maxLen; omega) (by omega) (by simp; omega) (w5.heap.size + 1) (by simp) ?_; intro g6 cap w6 hown6 hgrow hat hlt6; have hS6 := grown_blk hgrow (blk_drew (blk_alloc hS5 (.cells #[.int .i64 (q : Int)] 3))) n6; have u1 := blk_cell hS6 1 _ rfl; have u2 := blk_free hS6 1))
      all_goals
        have hk6 : Kept w5 w6 (fun b => b = sb ∨ headsOf (some ⟨g, 0, none⟩) bo b) := (Kept.drew (Kept.of_below (push (Below.refl _ w5) (.cells #[.int .i64 (q : Int)] 3)))).trans (Kept.of_grown hgrow (fun b hb => .inr (.inr (own_head rfl t5 hb))))
        have r6 := ((r5.alloc (.cells #[.int .i64 (q : Int)] 3)).drew).kept hgrow (.inr (fun e => own_apart r5 t5 (by decide) g rfl e.symm))
        go_wp2
        go_ret
        rw [HO.out]
        refine ⟨some ⟨g6, 0, none⟩, cap, rfl, rfl, blk_set hS6 1 _, ?_, ?_, (hk5.trans hk6).set (.inl rfl) _⟩
        · exact ((Kept.refl w6 (fun b => b = sb)).set (a := ⟨sb, 1, none⟩) rfl _).own r6 (fun b hb e => hap (.inl (e ▸ own_head rfl r6 hb)))
        · show World.ownsRow _ _ _ _ _ (m + 1) (intList (put F m (q : Int)) (m + 1))
          rw [HF.out]
          refine ((Kept.refl w6 (fun b => b = sb)).set (a := ⟨sb, 1, none⟩) rfl _).own hown6 (fun b hb e => ?_)
          subst e
          simp only [Value.ownBlock, Option.some.injEq] at hb
          subst hb
          rcases hat with h | h
          · exact n6 h.symm
          · have := blk_lt hS5; omega
    · have HO : Hid (dropOut n m A U V F q (A q) = ⟨n, m, put A q (A q + 1), put U q false, put V q 0, F, 0⟩) := by unfold Hid dropOut; rw [if_pos hf, if_neg h9, Int.toNat_natCast]
      have e9 : freeSlot (A q + 1) false = false := by simpa [freeSlot] using h9
      rw [e9]
      go_wp2
      go_ret
      rw [HO.out]
      exact ⟨bo, c2, rfl, rfl, hS5, r5, t5, hk5⟩
  · have HO : Hid (dropOut n m A U V F x a = ⟨n, m, A, U, V, F, faultOf n A U x a⟩) := if_neg hf
    have ef : (faultOf n A U x a != 0) = true := by simpa using hf
    go_wp2
    go_ret
    rw [HO.out]
    exact ⟨bo, c2, rfl, rfl, hS2, ho2, ho3, Kept.of_below hbw⟩

end Go.Proofs.Ytclcjnbjpelcjaa
