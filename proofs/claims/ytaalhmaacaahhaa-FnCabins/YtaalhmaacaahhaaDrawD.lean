/-
  OWN TEXT: contracts of the drawing of a deck: lanes, carOf, deckOf, by, DrawPlaceCar. They return, and write the cursor and new memory alone.
-/
import Derived.Test.YtaalhmaacaahhaaDrawK
import Derived.Test.YtaalhmaacaahhaaPlaceS
namespace Go.Proofs.Ytaalhmaacaahhaa
open Go.RowKit

theorem Try.infoLane : (Try.prog.info? 74).map (fun i => (i.zero, i.size, i.bytes)) = some (some (.agg #[.int .i64 0, .int .i64 0]), 2, 16) := by kernel_rfl
theorem CurIs.kept {w w' : World} {cb n c a : Nat} {ao : Option Addr} {S : Nat → Prop} (h : CurIs w cb ao n c a) (hk : Kept w w' S) (hS : ∀ b, S b → w.heap.size ≤ b) : CurIs w' cb ao n c a := by
  obtain ⟨⟨p, s, hp, hb⟩, hc⟩ := h
  refine ⟨⟨p, s, hp, hk.blk hb (fun e => by have := hS cb e; have := blk_lt hb; omega)⟩, fun k hk' => ?_⟩
  obtain ⟨b, off, v, e, hne, hcell, h1, h2⟩ := hc k hk'
  exact ⟨b, off, v, e, hne, hk.cellAt hcell (fun e => by have h3 := hS b e; have h4 : b < w.heap.size := World.block_lt_of_cell? w _ hcell; omega), h1, h2⟩
/-- The cells of the first n pairs. -/
def pairList (p : Pairs) (n : Nat) : List Value := (List.range (n * 2)).map (pairCell p)
theorem pairList_more (p : Pairs) (k : Nat) (x y : Int) : pairList ⟨k + 1, fun i => if i = k then x else p.A i, fun i => if i = k then y else p.B i⟩ (k + 1) = pairList p k ++ [.int .i64 x, .int .i64 y] := by
  unfold pairList
  rw [show (k + 1) * 2 = k * 2 + 1 + 1 by omega, List.range_succ, List.range_succ]
  simp only [List.map_append, List.map_cons, List.map_nil, List.append_assoc, List.cons_append, List.nil_append, pairCell_0, pairCell_1, if_pos]
  congr 1
  refine List.map_congr_left (fun j hj => ?_)
  have hj' : j < k * 2 := by simpa using hj
  unfold pairCell
  simp only [if_neg (show ¬ j / 2 = k by omega)]
theorem pairs_of_own {w : World} {base e n c : Nat} {ao : Option Addr} {p : Pairs} (hp : p.n = n) (h : w.ownsRow base e 2 (.slice ao n c) n (pairList p n)) : PairsAt w ao p := by
  intro k hk
  rw [hp] at hk
  obtain ⟨g, rfl, _, _⟩ := own_addr h (by omega)
  have c0 := own_cell h (k * 2) (by omega) rfl
  have c1 := own_cell h (k * 2 + 1) (by omega) rfl
  rw [pairCell_0] at c0
  rw [pairCell_1] at c1
  exact ⟨g, 0, rfl, by rw [Nat.zero_add]; exact c0, by rw [Nat.zero_add]; exact c1⟩
/-- An owned row outlives writes into a block below its base. -/
theorem own_kept {w w' : World} {cb base e size n : Nat} {v : Value} {xs : List Value} (h : w.ownsRow base e size v n xs) (hk : Kept w w' (fun b => b = cb)) (hlt : cb < base) : w'.ownsRow base e size v n xs :=
  hk.own h (fun g hg e => by have := (h.lt g hg).1; omega)

set_option maxHeartbeats 1600000 in
theorem carOf_any (cb : Nat) (ao : Option Addr) (n c a : Nat) (w : World) (ha : a ≤ 800000000000000000) (h : CurIs w cb ao n c a) :
    Calls Try.prog 98 #[.pointer (some ⟨cb, 0, none⟩)] w fun e w' => (∃ x y : Int, e = .returned (.tuple #[.int .i64 x, .int .i64 y])) ∧ CurIs w' cb ao n c (a + 10) ∧ Kept w w' (fun b => b = cb) := by
  go_enter Try.func98, Try.ntmps98
  go_wp2_with fail
  refine (one_any cb ao n c a 20 _ (by omega) (by omega) (by omega) h).mono ?_
  rintro e w1 ⟨⟨q, rfl⟩, hc1, hk1⟩
  cases q with
  | true =>
    go_wp2_with fail
    refine (amongL cb ao n c (a + 2) 4 [0, 1, 2000, 2001] _ rfl (by omega) (by omega) (by omega) (hc1.below (push (Below.refl _ _) _)) w1.heap.size (heap_alloc_new w1 _) (by have := hc1.lt; omega)).mono ?_
    rintro e w2 ⟨⟨x, rfl⟩, hc2, hk2⟩
    go_wp2_with fail
    refine (amongL cb ao n c (a + 2 + 2) 4 [0, 1, 500, 501] _ rfl (by omega) (by omega) (by omega) (hc2.below (push (Below.refl _ _) _)) w2.heap.size (heap_alloc_new w2 _) (by have := hc2.lt; omega)).mono ?_
    rintro e w3 ⟨⟨y, rfl⟩, hc3, hk3⟩
    go_wp2
    exact bodyPost_ret (v := .tuple #[.int .i64 x, .int .i64 y]) (by simp [results, Try.results98, go_sem]) rfl ⟨⟨x, y, rfl⟩, hc3.more (by omega), (hk1.trans ((Kept.of_below (push (Below.refl _ _) _)).trans hk2)).trans ((Kept.of_below (push (Below.refl _ _) _)).trans hk3)⟩
  | false =>
    go_wp2_with fail
    refine (pick_any cb ao n c (a + 2) 16 _ (by omega) (by omega) (by omega) hc1).mono ?_
    rintro e w2 ⟨⟨r, rfl, hr⟩, hc2, hk2⟩
    go_wp2_with fail
    refine (pick_any cb ao n c (a + 2 + 2) 6 _ (by omega) (by omega) (by omega) hc2).mono ?_
    rintro e w3 ⟨⟨r2, rfl, hr2⟩, hc3, hk3⟩
    go_wp2
    exact bodyPost_ret (v := .tuple #[.int .i64 _, .int .i64 _]) (by simp [results, Try.results98, go_sem]; exact ⟨rfl, rfl⟩) rfl ⟨⟨_, _, rfl⟩, hc3.more (by omega), (hk1.trans hk2).trans hk3⟩

theorem by_any (cb : Nat) (ao : Option Addr) (n c a : Nat) (w : World) (ha : a ≤ 800000000000000000) (h : CurIs w cb ao n c a) :
    Calls Try.prog 99 #[.pointer (some ⟨cb, 0, none⟩)] w fun e w' => (∃ x : Int, e = .returned (.int .i64 x)) ∧ CurIs w' cb ao n c (a + 10) ∧ Kept w w' (fun b => b = cb) := by
  go_enter Try.func99, Try.ntmps99
  go_wp2_with fail
  refine (one_any cb ao n c a 20 _ (by omega) (by omega) (by omega) h).mono ?_
  rintro e w1 ⟨⟨q, rfl⟩, hc1, hk1⟩
  cases q with
  | true =>
    go_wp2_with fail
    refine (amongL cb ao n c (a + 2) 4 [0, 9999, 10000, -1] _ rfl (by omega) (by omega) (by omega) (hc1.below (push (Below.refl _ _) _)) w1.heap.size (heap_alloc_new w1 _) (by have := hc1.lt; omega)).mono ?_
    rintro e w2 ⟨⟨x, rfl⟩, hc2, hk2⟩
    go_wp2
    go_ret
    exact ⟨⟨x, rfl⟩, hc2.more (by omega), hk1.trans ((Kept.of_below (push (Below.refl _ _) _)).trans hk2)⟩
  | false =>
    go_wp2_with fail
    refine (pick_any cb ao n c (a + 2) 14 _ (by omega) (by omega) (by omega) hc1).mono ?_
    rintro e w2 ⟨⟨r, rfl, hr⟩, hc2, hk2⟩
    go_wp2
    go_ret
    exact ⟨⟨_, rfl⟩, hc2.more (by omega), hk1.trans hk2⟩

/-- Lanes that were drawn: a row of its own. -/
def LanesOwn (w : World) (base : Nat) (v : Value) : Prop := ∃ (p : Pairs), p.n ≤ 5 ∧ w.ownsRow base 74 2 v p.n (pairList p p.n)

/-- New memory and the cursor: what a step of a drawing leaves, behind the step before. -/
theorem kept_grow {w w1 w2 : World} {cb : Nat} {row : Option Nat} (h : Kept w w1 (fun b => b = cb)) (hg : w1.grownBy w2 row) (hr : ∀ b, row = some b → w.heap.size ≤ b) : Kept w w2 (fun b => b = cb) :=
  ⟨hg.os.trans h.os, hg.tape.trans h.tape, hg.output.trans h.output, Nat.le_trans h.size hg.size, fun i hi hn => (hg.block i (Nat.lt_of_lt_of_le hi h.size) (fun e => by have := hr i e.symm; omega)).trans (h.block i hi hn)⟩
theorem cur_grow {w w2 : World} {cb n c a base : Nat} {ao : Option Addr} {row : Option Nat} (h : CurIs w cb ao n c a) (hg : w.grownBy w2 row) (hr : ∀ b, row = some b → base ≤ b) (hc : cb < base) (hb : ∀ k, k < n → ∀ b off, ao = some ⟨b, off, none⟩ → b < base) : CurIs w2 cb ao n c a := by
  obtain ⟨⟨p, s, hp, hk⟩, hcd⟩ := h
  refine ⟨⟨p, s, hp, grown_blk hg hk (fun e => by have := hr cb e.symm; omega)⟩, fun k hk' => ?_⟩
  obtain ⟨b, off, v, e, hne, hcell, h1, h2⟩ := hcd k hk'
  refine ⟨b, off, v, e, hne, ?_, h1, h2⟩
  have hlt : b < w.heap.size := World.block_lt_of_cell? w _ hcell
  have := hg.block b hlt (fun e' => by have := hr b e'.symm; have := hb k hk' b off e; omega)
  unfold World.cell? at hcell ⊢
  rw [this]; exact hcell
set_option maxHeartbeats 1600000 in
set_option maxRecDepth 100000 in
theorem lanes_any (cb : Nat) (ao : Option Addr) (n c a : Nat) (w : World) (ha : a ≤ 700000000000000000) (h : CurIs w cb ao n c a) :
    Calls Try.prog 151 #[.pointer (some ⟨cb, 0, none⟩)] w fun e w' => (∃ v, e = .returned v ∧ LanesOwn w' w.heap.size v) ∧ CurIs w' cb ao n c (a + 40) ∧ Kept w w' (fun b => b = cb) := by
  obtain ⟨j0, ji, jz0, jz1, jz2⟩ := info_parts Try.infoLane
  have hcb := h.lt
  have HCL : Hid (∀ k, k < n → ∀ b off, ao = some ⟨b, off, none⟩ → b < w.heap.size) := h.code_lt
  go_enter Try.func151, Try.ntmps151
  go_wp2_with fail
  refine (pick_any cb ao n c a 5 _ (by omega) (by omega) (by omega) h).mono ?_
  rintro e w1 ⟨⟨r, rfl, hr⟩, hc1, hk1⟩
  clear h
  go_wp2
  go_loopw [3, 4] (fun v i wr => ∃ (t : Nat) (p : Pairs), i = .int .i64 t ∧ t + p.n ≤ 4 ∧ wr.ownsRow w.heap.size 74 2 v p.n (pairList p p.n) ∧ CurIs wr cb ao n c (a + 2 + 4 * p.n) ∧ Kept w wr (fun b => b = cb)) (fun _ i _ => (intOf i).toNat)
  case atStart => exact ⟨r, ⟨0, fun _ => 0, fun _ => 0⟩, rfl, by show r + 0 ≤ 4; omega, ⟨rfl, .inl ⟨rfl, rfl⟩⟩, hc1, hk1⟩
  case round =>
    obtain ⟨t, p, rfl, ht, hown, hc, hk⟩ := hrel
    clear hc1 hk1
    obtain ⟨k, hpk⟩ : ∃ k, k = p.n := ⟨_, rfl⟩
    rw [← hpk] at ht hown hc
    have HPK : Hid (k = p.n) := hpk
    clear hpk
    by_cases h0 : t = 0
    · subst h0
      go_wp2_with fail
      refine (one_any cb ao n c (a + 2 + 4 * k) 30 _ (by omega) (by omega) (by omega) hc).mono ?_
      rintro e w2 ⟨⟨q, rfl⟩, hc2, hk2⟩
      have hown2 := own_kept hown hk2 hcb
      have hk2' := hk.trans hk2
      clear hown hk2 hk hc
      cases q with
      | false =>
        go_wp2
        go_ret
        exact ⟨⟨_, rfl, p, by rw [← HPK.out]; omega, by rw [← HPK.out]; exact hown2⟩, hc2.more (by omega), hk2'⟩
      | true =>
        go_wp2_with fail
        refine (amongL cb ao n c (a + 2 + 4 * k + 2) 3 [0, 5001, 10] _ rfl (by omega) (by omega) (by omega) (hc2.below (push (Below.refl _ _) _)) w2.heap.size (heap_alloc_new w2 _) (by have := hc2.lt; omega)).mono ?_
        rintro e w3 ⟨⟨x, rfl⟩, hc3, hk3⟩
        have hown3 := own_kept (hown2.alloc _) hk3 hcb
        have hk3' := hk2'.trans ((Kept.of_below (push (Below.refl _ _) _)).trans hk3)
        clear hown2 hk3 hk2' hc2
        have hs3 := hk3'.size
        have HC : Hid (∀ ad, (some ⟨w3.heap.size, 0, none⟩ : Option Addr) = some ad → ∀ j u, [Value.int .i64 x, .int .i64 200][j]? = some u → (w3.alloc (.cells #[.int .i64 x, .int .i64 200] 74)).cell? (ad.add j) = some u) := by
          intro ad e
          cases e
          exact World.news_of_block (heap_alloc_new w3 _)
        go_wp2_with (first | (at_builtin; refine wpList_append_any _ (by rfl) (.tmp 24) (.tmp 29) 59 (by rfl) w.heap.size 74 j0 (.agg #[.int .i64 0, .int .i64 0]) 2 16 Try.underlying59 ji jz0 jz1 jz2 rfl (by decide) _ k (pairList p k) (by rfl) (hown3.alloc _) (some ⟨w3.heap.size, 0, none⟩) 1 1 [.int .i64 x, .int .i64 200] (by rfl) (fun h => (by cases h)) (by rfl) HC.out (by intro u hu; simp at hu; rcases hu with rfl | rfl <;> rfl) (by unfold maxLen; omega) (by omega) (by simp; omega) ?_; intro v' w9 ho9 hg9))
        go_ret
        refine ⟨⟨_, rfl, ⟨k + 1, fun i => if i = k then x else p.A i, fun i => if i = k then 200 else p.B i⟩, by show k + 1 ≤ 5; omega, by rw [pairList_more]; exact ho9⟩, ?_, ?_⟩
        · exact (cur_grow (hc3.below (push (Below.refl _ _) _)) hg9 (fun b hb => (hown3.lt b hb).1) hcb HCL.out).more (by omega)
        · exact kept_grow (hk3'.trans (Kept.of_below (push (Below.refl _ _) _))) hg9 (fun b hb => (hown3.lt b hb).1)
    · have d0 : decide ((0 : Int) < (t : Int)) = true := by simp; omega
      go_wp2_with fail
      refine (pick_any cb ao n c (a + 2 + 4 * k) 20 _ (by omega) (by omega) (by omega) hc).mono ?_
      rintro e w2 ⟨⟨r2, rfl, hr2⟩, hc2, hk2⟩
      have hown2 := own_kept hown hk2 hcb
      have hk2' := hk.trans hk2
      clear hown hk2 hk hc
      have hw1 : IntKind.i64.wrap (100 * (r2 : Int)) = 100 * (r2 : Int) := by rw [IntKind.wrap_i64]; omega
      have hw2 : IntKind.i64.wrap (500 + 100 * (r2 : Int)) = 500 + 100 * (r2 : Int) := by rw [IntKind.wrap_i64]; omega
      go_wp2_with fail
      refine (amongL cb ao n c (a + 2 + 4 * k + 2) 3 [200, 300, 400] _ rfl (by omega) (by omega) (by omega) (hc2.below (push (Below.refl _ _) _)) w2.heap.size (heap_alloc_new w2 _) (by have := hc2.lt; omega)).mono ?_
      rintro e w3 ⟨⟨y, rfl⟩, hc3, hk3⟩
      have hown3 := own_kept (hown2.alloc _) hk3 hcb
      have hk3' := hk2'.trans ((Kept.of_below (push (Below.refl _ _) _)).trans hk3)
      clear hown2 hk3 hk2' hc2
      have hs3 := hk3'.size
      have hwt : IntKind.i64.wrap ((t : Int) - 1) = ((t - 1 : Nat) : Int) := by rw [IntKind.wrap_i64]; omega
      have HC : Hid (∀ ad, (some ⟨w3.heap.size, 0, none⟩ : Option Addr) = some ad → ∀ j u, [Value.int .i64 (500 + 100 * (r2 : Int)), .int .i64 y][j]? = some u → (w3.alloc (.cells #[.int .i64 (500 + 100 * (r2 : Int)), .int .i64 y] 74)).cell? (ad.add j) = some u) := by
        intro ad e
        cases e
        exact World.news_of_block (heap_alloc_new w3 _)
      go_wp2_with (first | (at_builtin; refine wpList_append_any _ (by rfl) (.tmp 11) (.tmp 20) 59 (by rfl) w.heap.size 74 j0 (.agg #[.int .i64 0, .int .i64 0]) 2 16 Try.underlying59 ji jz0 jz1 jz2 rfl (by decide) _ k (pairList p k) (by rfl) (hown3.alloc _) (some ⟨w3.heap.size, 0, none⟩) 1 1 [.int .i64 (500 + 100 * (r2 : Int)), .int .i64 y] (by rfl) (fun h => (by cases h)) (by rfl) HC.out (by intro u hu; simp at hu; rcases hu with rfl | rfl <;> rfl) (by unfold maxLen; omega) (by omega) (by simp; omega) ?_; intro v' w9 ho9 hg9))
      go_roundw
      case rel =>
        refine ⟨t - 1, ⟨k + 1, fun i => if i = k then 500 + 100 * (r2 : Int) else p.A i, fun i => if i = k then y else p.B i⟩, by go_num, by show t - 1 + (k + 1) ≤ 4; omega, by rw [pairList_more]; exact ho9, ?_, ?_⟩
        · exact (cur_grow (hc3.below (push (Below.refl _ _) _)) hg9 (fun b hb => (hown3.lt b hb).1) hcb HCL.out).more (by show a + 2 + 4 * k + 2 + 2 ≤ a + 2 + 4 * (k + 1); omega)
        · exact kept_grow (hk3'.trans (Kept.of_below (push (Below.refl _ _) _))) hg9 (fun b hb => (hown3.lt b hb).1)
      case measure => simp [intOf]; omega

end Go.Proofs.Ytaalhmaacaahhaa
