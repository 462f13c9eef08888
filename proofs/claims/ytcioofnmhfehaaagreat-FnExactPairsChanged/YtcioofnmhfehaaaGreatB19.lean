/-
  OWN TEXT: SortK, SortN, PcI.
-/
import Derived.Test.YtcioofnmhfehaaaGreatRows
import Derived.Shelf.Sort.Plain
import Derived.Shelf.Lay
import Derived.Sort.OwnSortedInts
import Derived.Deep.LoopGhost
import Derived.LoopN
import Derived.Maps.RangeWalk
import Derived.Test.YtcioofnmhfehaaaGreatB18
import Derived.Test.YtcioofnmhfehaaaGreatB00
import Derived.Test.YtcioofnmhfehaaaGreatB15
import Derived.Test.YtcioofnmhfehaaaGreatB08
namespace Go.Proofs
open Go.Shelf
shelf_lay Lays.n189 Nm 189 at Tryz as Tryz.lays189
end Go.Proofs

namespace Go.Proofs.YtcioofnmhfehaaaGreat
open Go.RowKit

def srt (l : List Int) : List Int := l.mergeSort (fun x y => decide (x ≤ y))
theorem cellsI_map (l : List Int) : cellsI l = l.map (Value.int .i64) := by
  unfold cellsI intList getI
  apply List.ext_getElem?
  intro i
  by_cases hi : i < l.length
  · rw [List.getElem?_map, List.getElem?_range hi, List.getElem?_map, List.getElem?_eq_getElem hi]
    simp [List.getD_eq_getElem?_getD, List.getElem?_eq_getElem hi]
  · rw [List.getElem?_eq_none (by simpa using hi), List.getElem?_eq_none (by simpa using hi)]
theorem srt_length (l : List Int) : (srt l).length = l.length := (List.mergeSort_perm l _).length_eq
theorem srt_mem (l : List Int) (z : Int) : z ∈ srt l ↔ z ∈ l := (List.mergeSort_perm l _).mem_iff
theorem srt_rises {l : List Int} (h : l.Nodup) : (srt l).Pairwise (· < ·) := by
  have h1 : (srt l).Pairwise (fun a b => decide (a ≤ b) = true) := List.pairwise_mergeSort (le := fun x y => decide (x ≤ y)) (fun a b c h1 h2 => by simp at *; omega) (fun a b => by simp; omega) l
  have h2 : (srt l).Nodup := (List.mergeSort_perm l _).nodup_iff.2 h
  exact (List.Pairwise.and h1 h2).imp (fun ⟨a, b⟩ => by simp at a; omega)
theorem rises_ext : ∀ {a b : List Int}, a.Pairwise (· < ·) → b.Pairwise (· < ·) → (∀ z, z ∈ a ↔ z ∈ b) → a = b
  | [], [], _, _, _ => rfl
  | [], y :: b, _, _, h => by have := (h y).2 (by simp); cases this
  | x :: a, [], _, _, h => by have := (h x).1 (by simp); cases this
  | x :: a, y :: b, ha, hb, h => by
    rw [List.pairwise_cons] at ha hb
    have e : x = y := by
      rcases List.mem_cons.1 ((h x).1 (by simp)) with e | e
      · exact e
      · rcases List.mem_cons.1 ((h y).2 (by simp)) with e2 | e2
        · exact e2.symm
        · have := hb.1 x e; have := ha.1 y e2; omega
    subst e
    rw [rises_ext ha.2 hb.2 (fun z => ⟨fun hz => by
      rcases List.mem_cons.1 ((h z).1 (by simp [hz])) with e | e
      · subst e; have := ha.1 z hz; omega
      · exact e, fun hz => by
      rcases List.mem_cons.1 ((h z).2 (by simp [hz])) with e | e
      · subst e; have := hb.1 z hz; omega
      · exact e⟩)]

theorem sort_big (g cap base : Nat) (l : List Int) (w : World) (hl : l.length ≤ 1048576) (ho : w.ownsRow base 3 1 (.slice (some ⟨g, 0, none⟩) l.length cap) l.length (cellsI l)) :
    Calls Tryz.prog 24 #[.slice (some ⟨g, 0, none⟩) l.length cap] w fun e w' => e = .returned (.tuple #[]) ∧ w'.ownsRow base 3 1 (.slice (some ⟨g, 0, none⟩) l.length cap) l.length (cellsI (srt l)) ∧ w.grownBy w' (some g) := by
  rw [cellsI_map] at ho
  rw [cellsI_map]
  rcases ho.2 with ⟨h0, _⟩ | ⟨g', cap', cur, hv, hg, hb, h1, h2, h3, h4⟩
  · cases h0
  simp only [Value.slice.injEq, Option.some.injEq, Addr.mk.injEq] at hv
  obtain ⟨⟨rfl, _, _⟩, _, rfl⟩ := hv
  have hH := holds_of_blockI (ss := l) hb (by rw [Nat.mul_one] at h4; exact h4)
  refine (Any.slices_Sort_int Tryz.lays189 g 0 cap l w hH (blk_lt hb) (by omega)).mono ?_
  rintro e w' ⟨rfl, n, os, rfl⟩
  exact ⟨rfl, ownsRow_sortedI (srt_length l) hg hb h1 h2 h3, grownBy_sortedI _⟩

end Go.Proofs.YtcioofnmhfehaaaGreat

namespace Go.Proofs.YtcioofnmhfehaaaGreat
open Go.RowKit

set_option maxHeartbeats 1600000 in
set_option maxRecDepth 100000 in
theorem len64_none (w : World) : Calls Tryz.prog 88 #[.int .u64 0] w fun e w' => (∃ r : Int, e = .returned (.int .i64 r)) ∧ w' = w := by
  go_enter Tryz.func88, Tryz.ntmps88
  go_wp2
  go_ret
  exact ⟨⟨_, rfl⟩, rfl⟩
theorem len_none (w : World) : Calls Tryz.prog 46 #[.int .u64 0] w fun e w' => (∃ r : Int, e = .returned (.int .i64 r)) ∧ w' = w := by
  go_enter Tryz.func46, Tryz.ntmps46
  go_wp2_with fail
  refine (len64_none _).mono ?_
  rintro e w' ⟨⟨r, rfl⟩, rfl⟩
  go_wp2
  go_ret
  exact ⟨⟨_, rfl⟩, rfl⟩

set_option maxHeartbeats 1600000 in
set_option maxRecDepth 100000 in
theorem ins_none (w : World) : Calls Tryz.prog 78 #[.slice none 0 0, .int .i64 0, .int .i64 0] w fun e w' => e = .returned (.tuple #[]) ∧ w' = w := by
  go_enter Tryz.func78, Tryz.ntmps78
  go_wp2
  refine wp_loop_rounds 1 ?_
  rw [rounds_succ]
  go_wp2
  first
    | exact bodyPost_end (v := .tuple #[]) (by simp [results, Tryz.results78, go_sem]) rfl ⟨rfl, rfl⟩
    | exact bodyPost_ret (v := .tuple #[]) (by simp [results, Tryz.results78, go_sem]) rfl ⟨rfl, rfl⟩

set_option maxHeartbeats 1600000 in
set_option maxRecDepth 100000 in
theorem pdq_none (r : Int) (w : World) : Calls Tryz.prog 45 #[.slice none 0 0, .int .i64 0, .int .i64 0, .int .i64 r] w fun e w' => e = .returned (.tuple #[]) ∧ w' = w := by
  go_enter Tryz.func45, Tryz.ntmps45
  go_wp2
  refine wp_loop_rounds 1 ?_
  rw [rounds_succ]
  go_wp2_with fail
  refine (ins_none _).mono ?_
  rintro e w1 ⟨rfl, rfl⟩
  go_wp2
  first
    | exact bodyPost_ret (v := .tuple #[]) (by simp [results, Tryz.results45, go_sem]) rfl ⟨rfl, rfl⟩
    | exact bodyPost_end (v := .tuple #[]) (by simp [results, Tryz.results45, go_sem]) rfl ⟨rfl, rfl⟩

set_option maxHeartbeats 800000 in
theorem sort_none (w : World) : Calls Tryz.prog 24 #[.slice none 0 0] w fun e w' => e = .returned (.tuple #[]) ∧ w' = w := by
  go_enter Tryz.func24, Tryz.ntmps24
  go_wp2_with fail
  refine (len_none _).mono ?_
  rintro e w' ⟨⟨r, rfl⟩, rfl⟩
  go_wp2_with fail
  refine (pdq_none r _).mono ?_
  rintro e w1 ⟨rfl, rfl⟩
  go_wp2
  first
    | exact bodyPost_end (v := .tuple #[]) (by simp [results, Tryz.results24, go_sem]) rfl ⟨rfl, rfl⟩
    | exact bodyPost_ret (v := .tuple #[]) (by simp [results, Tryz.results24, go_sem]) rfl ⟨rfl, rfl⟩

end Go.Proofs.YtcioofnmhfehaaaGreat

namespace Go.Proofs.YtcioofnmhfehaaaGreat
open Go.RowKit Classical Go.MapKept Go.ChangeMaps

/-- What PairsChanged answers. -/
noncomputable def pcList (x y : Off) : List Int := if PcOk x y then pcTo x.sa x.ld y.ld x.san else []
theorem pcList_yes {x y : Off} (h : PcOk x y) : pcList x y = pcTo x.sa x.ld y.ld x.san := if_pos h
theorem pcList_no {x y : Off} (h : ¬ PcOk x y) : pcList x y = [] := if_neg h
theorem pcList_len (x y : Off) : (pcList x y).length ≤ 18 := by
  by_cases h : PcOk x y
  · rw [pcList_yes h]
    have := pcTo_len x.sa x.ld y.ld x.san
    have := h.1.1
    omega
  · rw [pcList_no h]; exact Nat.zero_le _
theorem tab_rises {N : Nat} {S : Nat → Sail} (h : GoodTab N S) : ∀ j i, i < j → j < N → (S i).id < (S j).id := by
  intro j
  induction j with
  | zero => intro i hi; omega
  | succ j ih =>
    intro i hi hj
    have h1 := (h.2 (j + 1) hj).2 (by omega)
    simp only [Nat.add_sub_cancel] at h1
    by_cases e : i = j
    · subst e; exact h1
    · have := ih i (by omega) (by omega); omega
theorem pc_rises {x y : Off} (h : PcOk x y) : (pcTo x.sa x.ld y.ld x.san).Pairwise (· < ·) := pcTo_sorted (fun i j hij hj => tab_rises h.1 j i hij hj)
theorem same_int (a b : Int) : (Lit.int .i64 a).sameKey (.int .i64 b) = (a == b) := by
  rw [Bool.eq_iff_iff]
  simp [Lit.sameKey]
theorem has_Dset (l : List Int) (z : Int) : Maps.has (Dset l) (.int .i64 z) = true ↔ z ∈ l := by
  unfold Dset
  rw [Maps.has_setOf _ _ _ (fun x hx => by
    obtain ⟨a, _, rfl⟩ := List.mem_map.1 hx
    exact trivial)]
  rw [List.any_eq_true]
  constructor
  · rintro ⟨x, hx, he⟩
    obtain ⟨a, ha, rfl⟩ := List.mem_map.1 hx
    rw [same_int] at he
    have : a = z := by simpa using he
    exact this ▸ ha
  · intro h
    exact ⟨_, List.mem_map.2 ⟨z, h, rfl⟩, by rw [same_int]; simp⟩
/-- The keys met so far, and those that are still to come. -/
structure Met (L ks : List Int) (left : Lit → Bool) : Prop where
  nodup : ks.Nodup
  come : ∀ z, left (.int .i64 z) = true → z ∈ L ∧ z ∉ ks
  gone : ∀ z, z ∈ ks → z ∈ L
  all : ∀ z, z ∈ L → left (.int .i64 z) = true ∨ z ∈ ks
theorem Met.start (L : List Int) : Met L [] (Maps.has (Dset L)) := ⟨List.nodup_nil, fun z h => ⟨(has_Dset L z).1 h, by simp⟩, (fun z h => by cases h), fun z h => Or.inl ((has_Dset L z).2 h)⟩
theorem Met.step {L ks : List Int} {left : Lit → Bool} {x : Int} (h : Met L ks left) (hx : left (.int .i64 x) = true) : Met L (ks ++ [x]) (fun z => left z && !z.sameKey (.int .i64 x)) := by
  refine ⟨?_, ?_, ?_, ?_⟩
  · rw [List.nodup_append]
    exact ⟨h.nodup, by simp, fun a ha b hb e => by simp at hb; subst hb; subst e; exact (h.come _ hx).2 ha⟩
  · intro z hz
    simp only [Bool.and_eq_true, Bool.not_eq_true', same_int] at hz
    have hne : ¬ z = x := by simpa using hz.2
    exact ⟨(h.come z hz.1).1, by simp [(h.come z hz.1).2, hne]⟩
  · intro z hz
    rcases List.mem_append.1 hz with h1 | h1
    · exact h.gone z h1
    · obtain rfl : z = x := by simpa using h1
      exact (h.come _ hx).1
  · intro z hz
    by_cases e : z = x
    · subst e; exact .inr (by simp)
    · rcases h.all z hz with h1 | h1
      · exact .inl (by simp only [h1, Bool.true_and, same_int]; simpa using e)
      · exact .inr (by simp [h1])
theorem nodup_len : ∀ {ks L : List Int}, ks.Nodup → (∀ z, z ∈ ks → z ∈ L) → ks.length ≤ L.length
  | [], _, _, _ => Nat.zero_le _
  | x :: ks, L, hn, hs => by
    rw [List.nodup_cons] at hn
    have hx : x ∈ L := hs x (by simp)
    have h1 := nodup_len (L := L.erase x) hn.2 (fun z hz => (List.mem_erase_of_ne (fun e => by subst e; exact hn.1 hz)).2 (hs z (by simp [hz])))
    have h2 := List.length_erase_of_mem hx
    have h3 := List.length_pos_of_mem hx
    rw [List.length_cons]
    omega
theorem Met.len {L ks : List Int} {left : Lit → Bool} (h : Met L ks left) : ks.length ≤ L.length := nodup_len h.nodup h.gone
theorem Met.done {L ks : List Int} {left : Lit → Bool} (h : Met L ks left) (hl : ∀ kl, left kl = false) (hr : L.Pairwise (· < ·)) : srt ks = L :=
  rises_ext (srt_rises h.nodup) hr (fun z => by
    rw [srt_mem]
    exact ⟨h.gone z, fun hz => by
      rcases h.all z hz with h1 | h1
      · rw [hl] at h1; cases h1
      · exact h1⟩)
theorem row_not {w : World} {base e size n b : Nat} {v : Value} {xs : List Value} {o : Obj} (ho : w.ownsRow base e size v n xs) (hb : w.heap[b]? = some o) (hn : ∀ c t f, o ≠ .cells c t f) : v.ownBlock ≠ some b := by
  intro e1
  rcases ho.2 with ⟨rfl, _⟩ | ⟨g, cap, cur, rfl, _, hg, _⟩
  · simp [Value.ownBlock] at e1
  · simp only [Value.ownBlock, Option.some.injEq] at e1
    subst e1
    rw [hb] at hg
    simp only [Option.some.injEq] at hg
    exact hn _ _ _ hg

set_option maxHeartbeats 6400000 in
set_option maxRecDepth 100000 in
theorem implPc_any (x y : Off) (cs ds : List Value) (w : World) (hs : Off.Short x 1048576) (ht : Off.Short y 1048576) (hx : Off.Is w cs x) (hy : Off.Is w ds y) :
    Calls Tryz.prog 7 #[.agg cs.toArray, .agg ds.toArray] w fun e w' => (∃ v, e = .returned (.tuple #[v, .bool (pcOk x y)]) ∧ w'.ownsRow w.heap.size 3 1 v (pcList x y).length (cellsI (pcList x y))) ∧ Below w.heap.size w w' := by
  obtain ⟨asa, csa, ald, cld, abk, cbk, rfl, hsa, s1, hld, s2, hbk, s3⟩ := hx
  obtain ⟨asa', csa', ald', cld', abk', cbk', rfl, hsa', s4, hld', s5, hbk', s6⟩ := hy
  clear s1 s2 s3 s4 s5 s6
  obtain ⟨i0, hi0, hz0, hz1, hz2⟩ := info_parts Tryz.infoInt
  have HX : Hid (SailsAt w asa x.san x.sa ∧ LoadsAt w ald x.ldn x.ld) := ⟨hsa, hld⟩
  have HY : Hid (SailsAt w asa' y.san y.sa ∧ LoadsAt w ald' y.ldn y.ld) := ⟨hsa', hld'⟩
  have HS : Hid (Off.Short x 1048576) := hs
  have HT : Hid (Off.Short y 1048576) := ht
  have hn : x.san ≤ 1048576 := hs.1.1
  have hm : y.san ≤ 1048576 := ht.1.1
  clear hsa hld hbk hsa' hld' hbk' hs ht
  obtain ⟨q, hq⟩ : ∃ q : Bool, q = pcOk x y := ⟨_, rfl⟩
  have HQ : Hid (q = true ↔ PcOk x y) := by rw [hq]; exact decide_eq_true_iff
  have HQE : Hid (pcOk x y = q) := hq.symm
  rw [← hq]
  clear hq
  obtain ⟨L, hL⟩ : ∃ L, L = pcList x y := ⟨_, rfl⟩
  have HPL : Hid (L = pcList x y) := hL
  have hlen : L.length ≤ 18 := by rw [hL]; exact pcList_len x y
  rw [← hL]
  clear hL
  have hb0 : Below w.heap.size w ((w.alloc (.cells #[.slice asa x.san csa, .slice ald x.ldn cld, .slice abk x.bkn cbk] 35)).alloc (.cells #[.slice asa' y.san csa', .slice ald' y.ldn cld', .slice abk' y.bkn cbk'] 35)) := push (push (Below.refl _ _) _) _
  have bA : ((w.alloc (.cells #[.slice asa x.san csa, .slice ald x.ldn cld, .slice abk x.bkn cbk] 35)).alloc (.cells #[.slice asa' y.san csa', .slice ald' y.ldn cld', .slice abk' y.bkn cbk'] 35)).heap[w.heap.size]? = some (.cells #[.slice asa x.san csa, .slice ald x.ldn cld, .slice abk x.bkn cbk] 35 (0, 0)) := blk_alloc (heap_alloc_new w _) _
  have bB : ((w.alloc (.cells #[.slice asa x.san csa, .slice ald x.ldn cld, .slice abk x.bkn cbk] 35)).alloc (.cells #[.slice asa' y.san csa', .slice ald' y.ldn cld', .slice abk' y.bkn cbk'] 35)).heap[w.heap.size + 1]? = some (.cells #[.slice asa' y.san csa', .slice ald' y.ldn cld', .slice abk' y.bkn cbk'] 35 (0, 0)) := by simpa using heap_alloc_new (w.alloc _) _
  go_enter Tryz.func7, Tryz.ntmps7
  go_wp2_with fail
  generalize (w.alloc (.cells #[.slice asa x.san csa, .slice ald x.ldn cld, .slice abk x.bkn cbk] 35)).alloc (.cells #[.slice asa' y.san csa', .slice ald' y.ldn cld', .slice abk' y.bkn cbk'] 35) = V at hb0 bA bB ⊢
  refine (sailAlike_any x y asa ald abk asa' ald' abk' csa cld cbk csa' cld' cbk' _ hn hm HS.out.1.2 HT.out.1.2 (HX.out.1.below hb0) (HY.out.1.below hb0)).mono ?_
  rintro e V1 ⟨he, hb1⟩
  rw [HQE.out] at he
  subst he
  replace bA := blk_below bA hb1
  replace bB := blk_below bB hb1
  replace hb0 := after hb0 hb1
  clear hb1 HQE V
  cases q with
  | false =>
    have HN : Hid (¬ PcOk x y) := fun h => absurd (HQ.out.2 h) (by decide)
    clear HQ
    go_wp2
    go_ret2
    exact ⟨⟨_, rfl, by rw [HPL.out, pcList_no HN.out]; exact World.ownsRow_nil _ _ _ _⟩, hb0⟩
  | true =>
  have HOK : Hid (PcOk x y) := HQ.out.1 rfl
  clear HQ
  have x0 := blk_cell bA 0 _ rfl
  have x1 := blk_cell bA 1 _ rfl
  have x2 := blk_cell bA 2 _ rfl
  have y0 := blk_cell bB 0 _ rfl
  have y1 := blk_cell bB 1 _ rfl
  have y2 := blk_cell bB 2 _ rfl
  go_wp2_with fail
  refine (differ_any x y asa ald abk asa' ald' abk' csa cld cbk csa' cld' cbk' _ HS.out HT.out HOK.out (HX.out.1.below hb0) (HX.out.2.below hb0) (HY.out.2.below hb0)).mono ?_
  rintro e V2 ⟨⟨B, rfl, hB, hset⟩, hb1⟩
  have HB0 : Hid (V1.heap.size ≤ B) := hB
  have HB1 : Hid (w.heap.size ≤ V1.heap.size) := hb0.size
  replace hb0 := after hb0 hb1
  clear hb1 x0 x1 x2 y0 y1 y2 bA bB hB
  have hL : L = pcTo x.sa x.ld y.ld x.san := by rw [HPL.out, pcList_yes HOK.out]
  have HR : Hid (L.Pairwise (· < ·)) := by rw [hL]; exact pc_rises HOK.out
  rw [← hL] at hset
  have HSET : Hid (SetOf V2 B L) := hset
  clear hL hset HPL
  go_wp2_with (first | (at_range; refine wpList_range_own _ rfl _ 67 rfl 3 108 Tryz.keyedI Tryz.underlying67 (unitElem (H := Unit)) B L.length (Dset L) rfl HSET.out ?_; intro w0 hrg0 hg0 hs0) | go_in)
  go_frame
  obtain ⟨R, hR⟩ : ∃ R, R = V2.heap.size := ⟨_, rfl⟩
  rw [← hR] at hrg0 ⊢
  have HRB : Hid (w.heap.size ≤ R ∧ w.heap.size ≤ B) := ⟨by rw [hR]; exact hb0.size, Nat.le_trans HB1.out HB0.out⟩
  have HRG : Hid (w0.ranges Tryz.prog 3 (unitElem (H := Unit)) B R L.length (Dset L) (Maps.has (Dset L)) (Maps.size (Dset L))) := hrg0
  have hbw : Below w.heap.size w w0 := hb0.grown hg0 hb0.size (fun j hj => by cases hj)
  clear hR hrg0 hg0 hs0 hb0 HSET HB0 HB1
  go_loopw [6] (fun v wr => ∃ (left : Lit → Bool) (cnt : Nat) (ks : List Int), Hid (wr.ranges Tryz.prog 3 (unitElem (H := Unit)) B R L.length (Dset L) left cnt) ∧ Hid (Met L ks left) ∧ ks.length ≤ 18 ∧ wr.ownsRow w.heap.size 3 1 v ks.length (cellsI ks) ∧ Below w.heap.size w wr) (fun _ wr => wr.rangeLeft B R)
  case atStart => exact ⟨_, _, [], HRG.out, Met.start L, Nat.zero_le _, World.ownsRow_nil _ _ _ _, hbw⟩
  case round =>
    clear HRG hbw
    obtain ⟨left, cnt, ks, HRG, HM, hkl, hown, hbel⟩ := hrel
    have hnk : ks.length ≤ 17 ∨ ks.length = 18 := by omega
    go_wp2_with (first | (at_next; refine wpList_next_ranges (α := Int) (β := Unit) _ rfl _ rfl 3 Tryz.keyedI (unitElem (H := Unit)) (Value.int .i64) (fun _ => .agg #[]) (fun key kl hk => by obtain ⟨a, rfl, _⟩ := Maps.keyOf_int_inv Tryz.underlying3 hk; exact ⟨a, rfl⟩) (fun v y hv => ⟨(), (unitElem_inv hv).1⟩) B R L.length (Dset L) left cnt rfl HRG.out ?_ ?_) | go_in)
    · intro hc0 hl0
      have HL0 : Hid (∀ kl, left kl = false) := hl0
      clear hl0
      have HE : Hid (srt ks = L) := HM.out.done HL0.out HR.out
      obtain ⟨av, cv, rfl, _⟩ := own_form hown
      cases av with
      | none =>
        have hk0 : ks = [] := by
          rcases hown.2 with ⟨h0, hn0⟩ | ⟨g, cap, cur, h0, _⟩
          · exact List.eq_nil_of_length_eq_zero (by omega)
          · simp at h0
        subst hk0
        have hcv : cv = 0 := by
          rcases hown.2 with ⟨h0, _⟩ | ⟨g, cap, cur, h0, _⟩
          · simpa using h0
          · simp at h0
        subst hcv
        have hL0 : L = [] := by rw [← HE.out]; exact List.eq_nil_of_length_eq_zero (by rw [srt_length]; rfl)
        go_wp2_with fail
        refine (sort_none _).mono ?_
        rintro e w5 ⟨rfl, rfl⟩
        go_wp2
        go_ret2
        exact ⟨⟨_, rfl, by rw [hL0]; exact World.ownsRow_nil _ _ _ _⟩, hbel⟩
      | some ad =>
        obtain ⟨g, rfl, hgw⟩ : ∃ g, ad = ⟨g, 0, none⟩ ∧ w.heap.size ≤ g := by
          rcases hown.2 with ⟨h0, _⟩ | ⟨g, cap, cur, h0, hg, _⟩
          · simp at h0
          · simp only [Value.slice.injEq, Option.some.injEq] at h0
            exact ⟨g, h0.1, hg⟩
        go_wp2_with fail
        refine (sort_big g cv w.heap.size ks _ (by omega) hown).mono ?_
        rintro e w5 ⟨rfl, ho5, hg5⟩
        have hb5 : Below w.heap.size w w5 := hbel.grown hg5 hbel.size (fun j hj => by cases hj; exact hgw)
        have hl5 : ks.length = L.length := by rw [← HE.out, srt_length]
        rw [HE.out, hl5] at ho5
        rw [hl5]
        clear hg5 hown hbel
        go_wp2
        go_ret2
        exact ⟨⟨_, rfl, ho5⟩, hb5⟩
    · intro z c kl yv w1 cnt1 hkey hlk hv hat hrg1 hlt hg1 hs1 hen
      obtain ⟨z', ez, rfl, _⟩ := Maps.keyOf_int_inv Tryz.underlying3 hkey
      cases ez
      have HM1 : Hid (Met L (ks ++ [z]) (fun u => left u && !u.sameKey (.int .i64 z))) := HM.out.step hlk
      have HRG1 : Hid (w1.ranges Tryz.prog 3 (unitElem (H := Unit)) B R L.length (Dset L) (fun u => left u && !u.sameKey (.int .i64 z)) cnt1) := hrg1
      have HLT : Hid (cnt1 < cnt) := hlt
      have HK1 : Hid (Kept wr w1 (fun b => b = R)) := ⟨hg1.os, hg1.tape, hg1.output, hg1.size, fun i hi hne => hg1.block i hi (fun e => hne (by simpa using e))⟩
      have hRr : ∃ o, wr.heap[R]? = some o ∧ ∀ c t f, o ≠ .cells c t f := by
        obtain ⟨es, clock, since, seen, c0, _, _, _, _, hr, _⟩ := HRG.out
        exact ⟨_, hr, fun _ _ _ h => by cases h⟩
      obtain ⟨oR, hoR, hoN⟩ := hRr
      have ho1 : w1.ownsRow w.heap.size 3 1 u6 ks.length (cellsI ks) := HK1.out.own hown (fun b hb e => row_not hown hoR hoN (by rw [hb, e]))
      have hb1 : Below w.heap.size w w1 := Kept.below hbel hbel.size HK1.out (fun b e => by rw [e]; exact HRB.out.1)
      have hl18 : (ks ++ [z]).length ≤ 18 := Nat.le_trans HM1.out.len hlen
      have hl17 : ks.length ≤ 17 := by rw [List.length_append] at hl18; simp at hl18; omega
      clear hkey hlk hv hat hrg1 hlt hg1 hs1 hown hbel hoR hoN hnk
      have hsz1 := hb1.size
      go_wp2_with (first | (at_builtin; refine wpList_append_lies _ (by rfl) (.tmp 20) (.tmp 22) 28 (by rfl) w.heap.size 3 i0 (.int .i64 0) 1 8 Tryz.underlying28 hi0 hz0 hz1 hz2 rfl (by decide) _ ks.length (cellsI ks) (by rfl) (ho1.alloc _) ⟨w1.heap.size, 0, none⟩ 1 1 [.int .i64 z] (by rfl) (by rfl) (World.news_of_block (heap_alloc_new w1 _)) (by intro u hu; simp at hu; subst hu; rfl) (by decide) (by unfold maxLen; omega) (by omega) (by simp; omega) _ rfl ?_; intro g cap w2 hown1 hgrow hat hlt1) | go_in)
      go_roundw
      case rel =>
        have hrow : ∀ b o, (w1.alloc (.cells #[.int .i64 z] 3)).heap[b]? = some o → (∀ c t f, o ≠ .cells c t f) → some b ≠ u6.ownBlock := fun b o hb hn e => row_not (ho1.alloc (.cells #[.int .i64 z] 3)) hb hn e.symm
        refine ⟨_, cnt1, ks ++ [z], ?_, HM1.out, hl18, ?_, (push hb1 _).grown hgrow (by simp; omega) (fun j hj => (ho1.lt j hj).1)⟩
        · have hA := HRG1.out.alloc (.cells #[.int .i64 z] 3)
          have h2 := hA
          obtain ⟨es, clock, since, seen, c0, hbm, _, _, _, hrm, _⟩ := h2
          exact hA.kept hgrow (hrow _ _ hbm (fun _ _ _ h => by cases h)) (hrow _ _ hrm (fun _ _ _ h => by cases h))
        · rw [cellsI_snoc, List.length_append]
          exact hown1
      case measure =>
        have hA := HRG1.out.alloc (.cells #[.int .i64 z] 3)
        have h2 := hA
        obtain ⟨es, clock, since, seen, c0, hbm, _, _, _, hrm, _⟩ := h2
        have hrow : ∀ b o, (w1.alloc (.cells #[.int .i64 z] 3)).heap[b]? = some o → (∀ c t f, o ≠ .cells c t f) → some b ≠ u6.ownBlock := fun b o hb hn e => row_not (ho1.alloc (.cells #[.int .i64 z] 3)) hb hn e.symm
        have h3 := hA.kept hgrow (hrow _ _ hbm (fun _ _ _ h => by cases h)) (hrow _ _ hrm (fun _ _ _ h => by cases h))
        rw [h3.left_eq, HRG.out.left_eq]
        exact HLT.out

end Go.Proofs.YtcioofnmhfehaaaGreat
