/-
  OWN TEXT: contracts of the specification's l7Own at an office without bookings and with empty loads, and of NewOffice.
-/
import Derived.Test.YtlnadbnoemlpeaaNewI
import Derived.Test.YtlnadbnoemlpeaaOwnLd
import Derived.Test.YtlnadbnoemlpeaaSpecT
import Derived.Deep.RegionLawGrows
namespace Go.Proofs.Ytlnadbnoemlpeaa
open Go.RowKit Classical

theorem kept_row {w w' : World} {row : Option Nat} (h : w.grownBy w' row) : Kept w w' (fun b => row = some b) := ⟨h.os, h.tape, h.output, h.size, fun i hi hn => h.block i hi (fun e => hn e.symm)⟩
theorem sailRow_snoc (S : Nat → Sail) (L C : Nat → Value) (k : Nat) (lv cv : Value) :
    (List.range ((k + 1) * 8)).map (sailCell S (atV L k lv) (atV C k cv)) = (List.range (k * 8)).map (sailCell S L C) ++ [.int .i64 (S k).id, .string (S k).fr, .string (S k).dst, .int .i64 (S k).dep, .int .i64 (S k).arr, lv, cv, .int .i64 (S k).most] := by
  rw [show (k + 1) * 8 = k * 8 + 1 + 1 + 1 + 1 + 1 + 1 + 1 + 1 by omega, List.range_succ, List.range_succ, List.range_succ, List.range_succ, List.range_succ, List.range_succ, List.range_succ, List.range_succ]
  simp only [List.map_append, List.map_cons, List.map_nil, List.append_assoc, List.cons_append, List.nil_append]
  rw [sailCell_0, sailCell_1, show k * 8 + 1 + 1 = k * 8 + 2 by omega, sailCell_2, show k * 8 + 2 + 1 = k * 8 + 3 by omega, sailCell_3, show k * 8 + 3 + 1 = k * 8 + 4 by omega, sailCell_4, show k * 8 + 4 + 1 = k * 8 + 5 by omega, sailCell_5, show k * 8 + 5 + 1 = k * 8 + 6 by omega, sailCell_6, show k * 8 + 6 + 1 = k * 8 + 7 by omega, sailCell_7, atV_at, atV_at]
  congr 1
  refine List.map_congr_left fun j hj => ?_
  have hj' : j < k * 8 := by simpa using hj
  unfold sailCell
  rw [atV_ne _ _ _ _ (show j / 8 ≠ k by omega), atV_ne _ _ _ _ (show j / 8 ≠ k by omega)]
/-- One sailing more behind the others. -/
theorem OwnSails.snoc {w w' : World} {base k : Nat} {v v' : Value} {S : Nat → Sail} {L C : Nat → Value} {lv cv : Value} {lim : Nat} (h : OwnSails w base v k S L C) (hlim : ∀ i, i < k → (∀ b, (L i).ownBlock = some b → b < lim) ∧ (∀ b, (C i).ownBlock = some b → b < lim))
    (hl : w.ownsRow lim 77 2 lv (S k).la.n (pairRow (S k).la)) (hc : w.ownsRow lim 80 2 cv (S k).ca.n (pairRow (S k).ca)) (hbl : base ≤ lim) (hg : w.grownBy w' v.ownBlock)
    (ho : w'.ownsRow base 47 8 v' (k + 1) ((List.range (k * 8)).map (sailCell S L C) ++ [.int .i64 (S k).id, .string (S k).fr, .string (S k).dst, .int .i64 (S k).dep, .int .i64 (S k).arr, lv, cv, .int .i64 (S k).most])) :
    OwnSails w' base v' (k + 1) S (atV L k lv) (atV C k cv) := by
  have hk := kept_row hg
  refine ⟨by rw [sailRow_snoc]; exact ho, fun i hi => ?_, fun i hi => ?_, fun i j hij hj => ?_⟩
  · by_cases e : i = k
    · subst e; rw [atV_at]; exact hk.own (own_base hl hbl) (fun g hg1 hg2 => own_apart h.row (own_base hl hbl) (by decide) g hg2 hg1)
    · rw [atV_ne _ _ _ _ e]; exact hk.own (h.la i (by omega)) (fun g hg1 hg2 => own_apart h.row (h.la i (by omega)) (by decide) g hg2 hg1)
  · by_cases e : i = k
    · subst e; rw [atV_at]; exact hk.own (own_base hc hbl) (fun g hg1 hg2 => own_apart h.row (own_base hc hbl) (by decide) g hg2 hg1)
    · rw [atV_ne _ _ _ _ e]; exact hk.own (h.ca i (by omega)) (fun g hg1 hg2 => own_apart h.row (h.ca i (by omega)) (by decide) g hg2 hg1)
  · by_cases e : j = k
    · subst e
      rw [atV_at, atV_at, atV_ne _ _ _ _ (by omega), atV_ne _ _ _ _ (by omega)]
      refine ⟨fun b h1 h3 => ?_, fun b h1 h3 => ?_⟩
      · have a := (hlim i hij).1 b h1
        have c := (hl.lt b h3).1
        omega
      · have a := (hlim i hij).2 b h1
        have c := (hc.lt b h3).1
        omega
    · rw [atV_ne _ _ _ _ e, atV_ne _ _ _ _ e, atV_ne _ _ _ _ (by omega), atV_ne _ _ _ _ (by omega)]
      exact h.apart i j hij (by omega)
theorem OwnSails.keptRow {w w' : World} {base base2 k n : Nat} {v lv : Value} {S : Nat → Sail} {L C : Nat → Value} {xs : List Value} (h : OwnSails w base v k S L C) (hl : w.ownsRow base2 66 3 lv n xs) (hg : w.grownBy w' lv.ownBlock) : OwnSails w' base v k S L C := by
  have hk := kept_row hg
  exact ⟨hk.own h.row (fun g h1 h2 => own_apart hl h.row (by decide) g h2 h1), fun i hi => hk.own (h.la i hi) (fun g h1 h2 => own_apart hl (h.la i hi) (by decide) g h2 h1), fun i hi => hk.own (h.ca i hi) (fun g h1 h2 => own_apart hl (h.ca i hi) (by decide) g h2 h1), h.apart⟩
theorem off_at0 {w : World} {g t : Nat} {u0 u1 u2 : Value} (h : w.heap[g]? = some (.cells #[u0, u1, u2] t (0, 0))) (v : Value) : (w.setCell ⟨g, 0, none⟩ v).heap[g]? = some (.cells #[v, u1, u2] t (0, 0)) := by simpa using blk_set h 0 v
theorem off_at1 {w : World} {g t : Nat} {u0 u1 u2 : Value} (h : w.heap[g]? = some (.cells #[u0, u1, u2] t (0, 0))) (v : Value) : (w.setCell ⟨g, 1, none⟩ v).heap[g]? = some (.cells #[u0, v, u2] t (0, 0)) := by simpa using blk_set h 1 v
/-- A row of loads that are empty. -/
def Empties (w : World) (base : Nat) (v : Value) (n : Nat) : Prop := ∃ xs, w.ownsRow base 66 3 v n xs ∧ ∀ u ∈ xs, ∃ a c, u = .slice a 0 c
theorem Empties.loads {w : World} {base n c : Nat} {ao : Option Addr} (h : Empties w base (.slice ao n c) n) : Loads0 w ao n := by
  obtain ⟨xs, ho, hu⟩ := h
  intro k hk
  obtain ⟨g, rfl, _, _⟩ := own_addr ho (by omega)
  have key : ∀ j, j < n * 3 → ∃ a c, w.cell? ⟨g, j, none⟩ = some (.slice a 0 c) := fun j hj => by
    have hl : xs.length = n * 3 := ho.1
    have e := ho.cellAt j hj
    rw [List.getElem?_eq_getElem (by omega)] at e
    obtain ⟨a, c, h⟩ := hu _ (List.getElem_mem (by omega : j < xs.length))
    rw [h] at e
    exact ⟨a, c, e⟩
  obtain ⟨a1, c1, e1⟩ := key (k * 3) (by omega)
  obtain ⟨a2, c2, e2⟩ := key (k * 3 + 1) (by omega)
  obtain ⟨a3, c3, e3⟩ := key (k * 3 + 2) (by omega)
  exact ⟨g, 0, a1, c1, a2, c2, a3, c3, rfl, by rw [Nat.zero_add]; exact e1, by rw [Nat.zero_add]; exact e2, by rw [Nat.zero_add]; exact e3⟩

set_option maxHeartbeats 6400000 in
set_option maxRecDepth 100000 in
theorem l7Own0 (ao al : Option Addr) (N c cl : Nat) (S : Nat → Sail) (w : World) (hN : N ≤ 1048576) (hs : ShortAll N S 1048576) (hz : SailsAt w ao N S) (hl : w.ownsRow 0 66 3 (.slice al N cl) N (nilRow N)) :
    Calls Try.prog 15 #[.agg #[.slice ao N c, .slice al N cl, .slice none 0 0]] w fun e w' => (∃ ao' c' al' cl' L C, e = .returned (.agg #[.slice ao' N c', .slice al' N cl', .slice none 0 0]) ∧ OwnSails w' w.heap.size (.slice ao' N c') N S L C ∧ Empties w' w.heap.size (.slice al' N cl') N) ∧ Below w.heap.size w w' := by
  obtain ⟨j0, ji, jz0, jz1, jz2⟩ := info_parts Try.infoSailing
  obtain ⟨l0, li, lz0, lz1, lz2⟩ := info_parts Try.infoLane'
  obtain ⟨m0, mi, mz0, mz1, mz2⟩ := info_parts Try.infoCabin'
  obtain ⟨p0, pi, pz0, pz1, pz2⟩ := info_parts Try.infoLoad'
  have HS : Hid (ShortAll N S 1048576) := hs
  have HZ : Hid (SailsAt w ao N S) := hz
  have HL : Hid (w.ownsRow 0 66 3 (.slice al N cl) N (nilRow N)) := hl
  clear hs hz hl
  have hb0 : Below w.heap.size w (((w.alloc (.cells #[.slice ao N c, .slice al N cl, .slice none 0 0] 28)).alloc (.cells #[.slice none 0 0, .slice none 0 0, .slice none 0 0] 28)).alloc (.cells #[.slice none 0 0, .slice none 0 0, .slice none 0 0] 28)) := push (push (push (Below.refl _ _) _) _) _
  have bO : (((w.alloc (.cells #[.slice ao N c, .slice al N cl, .slice none 0 0] 28)).alloc (.cells #[.slice none 0 0, .slice none 0 0, .slice none 0 0] 28)).alloc (.cells #[.slice none 0 0, .slice none 0 0, .slice none 0 0] 28)).heap[w.heap.size]? = some (.cells #[.slice ao N c, .slice al N cl, .slice none 0 0] 28 (0, 0)) := blk_alloc (blk_alloc (heap_alloc_new w _) _) _
  have bR : (((w.alloc (.cells #[.slice ao N c, .slice al N cl, .slice none 0 0] 28)).alloc (.cells #[.slice none 0 0, .slice none 0 0, .slice none 0 0] 28)).alloc (.cells #[.slice none 0 0, .slice none 0 0, .slice none 0 0] 28)).heap[w.heap.size + 1]? = some (.cells #[.slice none 0 0, .slice none 0 0, .slice none 0 0] 28 (0, 0)) := blk_alloc (load_new w _ _) _
  have bQ : (((w.alloc (.cells #[.slice ao N c, .slice al N cl, .slice none 0 0] 28)).alloc (.cells #[.slice none 0 0, .slice none 0 0, .slice none 0 0] 28)).alloc (.cells #[.slice none 0 0, .slice none 0 0, .slice none 0 0] 28)).heap[w.heap.size + 1 + 1]? = some (.cells #[.slice none 0 0, .slice none 0 0, .slice none 0 0] 28 (0, 0)) := by simpa using heap_alloc_new ((w.alloc _).alloc _) _
  go_enter Try.func15, Try.ntmps15
  go_wp2
  generalize ((w.alloc (.cells #[.slice ao N c, .slice al N cl, .slice none 0 0] 28)).alloc (.cells #[.slice none 0 0, .slice none 0 0, .slice none 0 0] 28)).alloc (.cells #[.slice none 0 0, .slice none 0 0, .slice none 0 0] 28) = V at hb0 bO bR bQ ⊢
  have HBO : Hid (V.heap[w.heap.size]? = some (.cells #[.slice ao N c, .slice al N cl, .slice none 0 0] 28 (0, 0))) := bO
  have HBR : Hid (V.heap[w.heap.size + 1]? = some (.cells #[.slice none 0 0, .slice none 0 0, .slice none 0 0] 28 (0, 0))) := bR
  have hQV : w.heap.size + 1 + 1 < V.heap.size := blk_lt bQ
  go_loopw [5, 14] (fun _ i wr => ∃ (k : Nat) (v : Value) (L C : Nat → Value), k ≤ N ∧ i = .int .i64 k ∧ wr.heap[w.heap.size + 1 + 1]? = some (.cells #[v, .slice none 0 0, .slice none 0 0] 28 (0, 0)) ∧ OwnSails wr V.heap.size v k S L C ∧ Kept V wr (fun b => b = w.heap.size + 1 + 1 ∨ V.heap.size ≤ b)) (fun _ i _ => N - (intOf i).toNat)
  case atStart => exact ⟨0, .slice none 0 0, fun _ => .slice none 0 0, fun _ => .slice none 0 0, Nat.zero_le _, rfl, bQ, OwnSails.nil _ _ _ _ _, Kept.refl _ _⟩
  case round =>
    clear bO bR bQ
    obtain ⟨k, v, L, C, hk, rfl, hQ, hO, hkp⟩ := hrel
    have hbel : Below w.heap.size w wr := Kept.below hb0 hb0.size hkp (fun b e => by have e : b = w.heap.size + 1 + 1 ∨ V.heap.size ≤ b := e; have := hb0.size; omega)
    have hszV := hkp.size
    by_cases hlt : k < N
    · obtain ⟨b, off, la, lc, ca, cc, rfl, h0, h1, h2, h3, h4, h5, h6, h7, h8, h9, h10, h11⟩ := HZ.out k hlt
      obtain ⟨s, hsd⟩ : ∃ s, s = S k := ⟨_, rfl⟩
      obtain ⟨_, _, s3, s4⟩ := HS.out k hlt
      rw [← hsd] at h0 h1 h2 h3 h4 h5 h6 h7 h8 h9 h10 h11 s3 s4
      have HSD : Hid (s = S k) := hsd
      have hb := World.block_lt_of_cell? w _ h1
      have c0 := (hbel.cell (p := ⟨b, off + k * 8, none⟩) hb).trans h0
      have c1 := (hbel.cell (p := ⟨b, off + k * 8 + 1, none⟩) hb).trans h1
      have c2 := (hbel.cell (p := ⟨b, off + k * 8 + 2, none⟩) hb).trans h2
      have c3 := (hbel.cell (p := ⟨b, off + k * 8 + 3, none⟩) hb).trans h3
      have c4 := (hbel.cell (p := ⟨b, off + k * 8 + 4, none⟩) hb).trans h4
      have c5 := (hbel.cell (p := ⟨b, off + k * 8 + 5, none⟩) hb).trans h5
      have c6 := (hbel.cell (p := ⟨b, off + k * 8 + 6, none⟩) hb).trans h6
      have c7 := (hbel.cell (p := ⟨b, off + k * 8 + 7, none⟩) hb).trans h7
      have HLA : Hid (PairsAt w la s.la ∧ SliceOk la s.la.n lc) := ⟨h8, h10⟩
      have HCA : Hid (PairsAt w ca s.ca ∧ SliceOk ca s.ca.n cc) := ⟨h9, h11⟩
      clear h0 h1 h2 h3 h4 h5 h6 h7 h8 h9 h10 h11 hsd
      have HLM : Hid (∀ i, i < k → (∀ b, (L i).ownBlock = some b → b < wr.heap.size) ∧ (∀ b, (C i).ownBlock = some b → b < wr.heap.size)) := fun i hi => ⟨fun b hb => ((hO.la i hi).lt b hb).2, fun b hb => ((hO.ca i hi).lt b hb).2⟩
      have hbx : Below wr.heap.size wr (wr.alloc (.cells #[.int .i64 s.id, .string s.fr, .string s.dst, .int .i64 s.dep, .int .i64 s.arr, .slice la s.la.n lc, .slice ca s.ca.n cc, .int .i64 s.most] 47)) := push (Below.refl _ _) _
      have bX := heap_alloc_new wr (.cells #[.int .i64 s.id, .string s.fr, .string s.dst, .int .i64 s.dep, .int .i64 s.arr, .slice la s.la.n lc, .slice ca s.ca.n cc, .int .i64 s.most] 47)
      have bXe := blk_alloc bX (.cells #[] 77)
      have hbe : Below wr.heap.size wr ((wr.alloc (.cells #[.int .i64 s.id, .string s.fr, .string s.dst, .int .i64 s.dep, .int .i64 s.arr, .slice la s.la.n lc, .slice ca s.ca.n cc, .int .i64 s.most] 47)).alloc (.cells #[] 77)) := push hbx _
      have x5 := blk_cell bXe 5 _ rfl
      have hE : ((wr.alloc (.cells #[.int .i64 s.id, .string s.fr, .string s.dst, .int .i64 s.dep, .int .i64 s.arr, .slice la s.la.n lc, .slice ca s.ca.n cc, .int .i64 s.most] 47)).alloc (.cells #[] 77)).ownsRow (wr.heap.size + 1) 77 2 (.slice (some ⟨wr.heap.size + 1, 0, none⟩) 0 0) 0 [] := ⟨rfl, .inr ⟨wr.heap.size + 1, 0, #[], rfl, Nat.le_refl _, load_new wr _ _, Nat.le_refl _, Nat.zero_le _, rfl, rfl⟩⟩
      have HE : Hid _ := hE
      have HCL : Hid (∀ ad', la = some ad' → ∀ j u, (pairRow s.la)[j]? = some u → ((wr.alloc (.cells #[.int .i64 s.id, .string s.fr, .string s.dst, .int .i64 s.dep, .int .i64 s.arr, .slice la s.la.n lc, .slice ca s.ca.n cc, .int .i64 s.most] 47)).alloc (.cells #[] 77)).cell? (ad'.add j) = some u) := pairs_cells (HLA.out.1.below (after hbel hbe))
      have HNL : Hid (la = none → s.la.n = 0 ∧ lc = 0) := HLA.out.2.2.2
      clear hE
      go_upto_region 6 with (first | (at_builtin; refine wpList_append_any _ (by rfl) (.tmp 18) (.tmp 20) 44 (by rfl) (wr.heap.size + 1) 77 l0 (.agg #[.int .i64 0, .int .i64 0]) 2 16 Try.underlying44 li lz0 lz1 lz2 rfl (by decide) _ 0 [] (by rfl) HE.out la s.la.n lc (pairRow s.la) (by rfl) HNL.out (pairRow_length _) HCL.out (pairRow_one _) (by unfold maxLen; omega) (by omega) (by simp) ?_; intro v3 w3 ho3 hg3; rw [Nat.zero_add, List.nil_append] at ho3; obtain ⟨a3, e3, rfl, _⟩ := own_form ho3; have bX3 := (kept_row hg3).blk bXe (by simp [Value.ownBlock]); have u5 := blk_cell bX3 5 _ rfl; have f5 := blk_free bX3 5; have hb3 : Below wr.heap.size wr w3 := hbe.grown hg3 hbe.size (fun j hj => by simp [Value.ownBlock] at hj; omega)))
      have bX4 := box_5 bX3 (.slice a3 s.la.n e3)
      have hb4 : Below wr.heap.size wr (w3.setCell ⟨wr.heap.size, 5, none⟩ (.slice a3 s.la.n e3)) := hb3.setCell (p := ⟨wr.heap.size, 5, none⟩) (Nat.le_refl _) _
      have hl4 : (w3.setCell ⟨wr.heap.size, 5, none⟩ (.slice a3 s.la.n e3)).ownsRow (wr.heap.size + 1) 77 2 (.slice a3 s.la.n e3) s.la.n (pairRow s.la) := own_set ho3 (a := ⟨wr.heap.size, 5, none⟩) (by show wr.heap.size < wr.heap.size + 1; omega) _
      generalize w3.setCell ⟨wr.heap.size, 5, none⟩ (.slice a3 s.la.n e3) = W4 at bX4 hb4 hl4 ⊢
      have HL4 : Hid (W4.ownsRow (wr.heap.size + 1) 77 2 (.slice a3 s.la.n e3) s.la.n (pairRow s.la)) := hl4
      clear bX3 u5 f5 hb3 ho3 hg3 x5 hbx bX bXe hbe HE HCL HNL hl4 c0 c1 c2 c3 c4 c5 c6 c7
      have bXe := blk_alloc bX4 (.cells #[] 80)
      have hbe : Below wr.heap.size wr (W4.alloc (.cells #[] 80)) := push hb4 _
      have hbe4 : Below W4.heap.size W4 (W4.alloc (.cells #[] 80)) := push (Below.refl _ _) _
      have x6 := blk_cell bXe 6 _ rfl
      have hlt4 : wr.heap.size < W4.heap.size := blk_lt bX4
      have hE : (W4.alloc (.cells #[] 80)).ownsRow W4.heap.size 80 2 (.slice (some ⟨W4.heap.size, 0, none⟩) 0 0) 0 [] := ⟨rfl, .inr ⟨W4.heap.size, 0, #[], rfl, Nat.le_refl _, heap_alloc_new W4 _, Nat.le_refl _, Nat.zero_le _, rfl, rfl⟩⟩
      have HE : Hid _ := hE
      have HCL : Hid (∀ ad', ca = some ad' → ∀ j u, (pairRow s.ca)[j]? = some u → (W4.alloc (.cells #[] 80)).cell? (ad'.add j) = some u) := pairs_cells (HCA.out.1.below (after hbel hbe))
      have HNL : Hid (ca = none → s.ca.n = 0 ∧ cc = 0) := HCA.out.2.2.2
      clear hE
      go_upto_region 7 with (first | (at_builtin; refine wpList_append_any _ (by rfl) (.tmp 23) (.tmp 25) 45 (by rfl) W4.heap.size 80 m0 (.agg #[.int .i64 0, .int .i64 0]) 2 16 Try.underlying45 mi mz0 mz1 mz2 rfl (by decide) _ 0 [] (by rfl) HE.out ca s.ca.n cc (pairRow s.ca) (by rfl) HNL.out (pairRow_length _) HCL.out (pairRow_one _) (by unfold maxLen; omega) (by omega) (by simp) ?_; intro v6 w6 ho6 hg6; rw [Nat.zero_add, List.nil_append] at ho6; obtain ⟨a6, e6, rfl, _⟩ := own_form ho6; have bX6 := (kept_row hg6).blk bXe (by simp [Value.ownBlock]; omega); have u6 := blk_cell bX6 6 _ rfl; have f6 := blk_free bX6 6; have hb6 : Below W4.heap.size W4 w6 := hbe4.grown hg6 hbe4.size (fun j hj => by simp [Value.ownBlock] at hj; omega)))
      have bX7 := box_6 bX6 (.slice a6 s.ca.n e6)
      have hb7 : Below wr.heap.size wr (w6.setCell ⟨wr.heap.size, 6, none⟩ (.slice a6 s.ca.n e6)) := (after hb4 hb6).setCell (p := ⟨wr.heap.size, 6, none⟩) (Nat.le_refl _) _
      have hl7 : (w6.setCell ⟨wr.heap.size, 6, none⟩ (.slice a6 s.ca.n e6)).ownsRow (wr.heap.size + 1) 77 2 (.slice a3 s.la.n e3) s.la.n (pairRow s.la) := own_set (own_below hb6 HL4.out) (a := ⟨wr.heap.size, 6, none⟩) (by show wr.heap.size < wr.heap.size + 1; omega) _
      have hc7 : (w6.setCell ⟨wr.heap.size, 6, none⟩ (.slice a6 s.ca.n e6)).ownsRow (wr.heap.size + 1) 80 2 (.slice a6 s.ca.n e6) s.ca.n (pairRow s.ca) := own_base (own_set ho6 (a := ⟨wr.heap.size, 6, none⟩) (by show wr.heap.size < W4.heap.size; omega) _) (by omega)
      generalize w6.setCell ⟨wr.heap.size, 6, none⟩ (.slice a6 s.ca.n e6) = W7 at bX7 hb7 hl7 hc7 ⊢
      clear bX4 bXe bX6 u6 f6 hb6 ho6 hg6 x6 hbe hbe4 HE HCL HNL HL4 hb4
      obtain ⟨av, cv, rfl, _⟩ := own_form hO.row
      have hQ7 := blk_below hQ hb7
      have y0 := blk_cell bX7 0 _ rfl
      have y1 := blk_cell bX7 1 _ rfl
      have y2 := blk_cell bX7 2 _ rfl
      have y3 := blk_cell bX7 3 _ rfl
      have y4 := blk_cell bX7 4 _ rfl
      have y5 := blk_cell bX7 5 _ rfl
      have y6 := blk_cell bX7 6 _ rfl
      have y7 := blk_cell bX7 7 _ rfl
      have q0 := blk_cell hQ7 0 _ rfl
      have hb8 : Below wr.heap.size wr (W7.alloc (.cells #[.int .i64 s.id, .string s.fr, .string s.dst, .int .i64 s.dep, .int .i64 s.arr, .slice a3 s.la.n e3, .slice a6 s.ca.n e6, .int .i64 s.most] 47)) := push hb7 _
      have hbq8 : Below W7.heap.size W7 (W7.alloc (.cells #[.int .i64 s.id, .string s.fr, .string s.dst, .int .i64 s.dep, .int .i64 s.arr, .slice a3 s.la.n e3, .slice a6 s.ca.n e6, .int .i64 s.most] 47)) := push (Below.refl _ _) _
      have hO8 := hO.below hb8
      have hl8 := own_below hbq8 hl7
      have hc8 := own_below hbq8 hc7
      have hQ8 := blk_alloc hQ7 (.cells #[.int .i64 s.id, .string s.fr, .string s.dst, .int .i64 s.dep, .int .i64 s.arr, .slice a3 s.la.n e3, .slice a6 s.ca.n e6, .int .i64 s.most] 47)
      have HNW : Hid (∀ j u, ([.int .i64 s.id, .string s.fr, .string s.dst, .int .i64 s.dep, .int .i64 s.arr, .slice a3 s.la.n e3, .slice a6 s.ca.n e6, .int .i64 s.most] : List Value)[j]? = some u → (W7.alloc (.cells #[.int .i64 s.id, .string s.fr, .string s.dst, .int .i64 s.dep, .int .i64 s.arr, .slice a3 s.la.n e3, .slice a6 s.ca.n e6, .int .i64 s.most] 47)).cell? ((⟨W7.heap.size, 0, none⟩ : Addr).add j) = some u) := World.news_of_block (heap_alloc_new W7 _)
      have HO8 : Hid (OwnSails (W7.alloc (.cells #[.int .i64 s.id, .string s.fr, .string s.dst, .int .i64 s.dep, .int .i64 s.arr, .slice a3 s.la.n e3, .slice a6 s.ca.n e6, .int .i64 s.most] 47)) V.heap.size (.slice av k cv) k S L C) := hO8
      have HLC : Hid ((W7.alloc (.cells #[.int .i64 s.id, .string s.fr, .string s.dst, .int .i64 s.dep, .int .i64 s.arr, .slice a3 s.la.n e3, .slice a6 s.ca.n e6, .int .i64 s.most] 47)).ownsRow (wr.heap.size + 1) 77 2 (.slice a3 s.la.n e3) s.la.n (pairRow s.la) ∧ (W7.alloc (.cells #[.int .i64 s.id, .string s.fr, .string s.dst, .int .i64 s.dep, .int .i64 s.arr, .slice a3 s.la.n e3, .slice a6 s.ca.n e6, .int .i64 s.most] 47)).ownsRow (wr.heap.size + 1) 80 2 (.slice a6 s.ca.n e6) s.ca.n (pairRow s.ca)) := ⟨hl8, hc8⟩
      have hszq : V.heap.size ≤ (W7.alloc (.cells #[.int .i64 s.id, .string s.fr, .string s.dst, .int .i64 s.dep, .int .i64 s.arr, .slice a3 s.la.n e3, .slice a6 s.ca.n e6, .int .i64 s.most] 47)).heap.size := Nat.le_trans hszV hb8.size
      clear hO8 hl8 hc8 hl7 hc7
      go_wp2_with (first | (at_builtin; refine wpList_append_any _ (by rfl) (.tmp 29) (.tmp 31) 24 (by rfl) V.heap.size 47 j0 (.agg #[.int .i64 0, .string ⟨#[]⟩, .string ⟨#[]⟩, .int .i64 0, .int .i64 0, .slice none 0 0, .slice none 0 0, .int .i64 0]) 8 112 Try.underlying24 ji jz0 jz1 jz2 rfl (by decide) _ k _ (by rfl) HO8.out.row (some ⟨W7.heap.size, 0, none⟩) 1 1 [.int .i64 s.id, .string s.fr, .string s.dst, .int .i64 s.dep, .int .i64 s.arr, .slice a3 s.la.n e3, .slice a6 s.ca.n e6, .int .i64 s.most] (by rfl) (fun h => (by cases h)) (by rfl) (fun ad e => by cases e; exact HNW.out) (by intro u hu; simp at hu; rcases hu with rfl | rfl | rfl | rfl | rfl | rfl | rfl | rfl <;> rfl) (by unfold maxLen; omega) (by omega) hszq ?_; intro v9 w9 ho9 hg9; obtain ⟨a9, e9, rfl, _⟩ := own_form ho9; have hQ9 := (kept_row hg9).blk hQ8 (fun e => by have := (HO8.out.row.lt _ e).1; omega); have r9 := blk_cell hQ9 0 _ rfl; have f9 := blk_free hQ9 0))
      have hO9 : OwnSails w9 V.heap.size (.slice a9 (k + 1) e9) (k + 1) S (atV L k (.slice a3 s.la.n e3)) (atV C k (.slice a6 s.ca.n e6)) :=
        HO8.out.snoc (lim := wr.heap.size + 1) (fun i hi => ⟨fun b hb => by have := (HLM.out i hi).1 b hb; omega, fun b hb => by have := (HLM.out i hi).2 b hb; omega⟩) (by rw [← HSD.out]; exact HLC.out.1) (by rw [← HSD.out]; exact HLC.out.2) (by omega) hg9 (by rw [← HSD.out]; exact ho9)
      have hkq : Kept w9 (w9.setCell ⟨w.heap.size + 1 + 1, 0, none⟩ (.slice a9 (k + 1) e9)) (fun b => b = w.heap.size + 1 + 1) := (Kept.refl _ (fun b => b = w.heap.size + 1 + 1)).set (a := ⟨w.heap.size + 1 + 1, 0, none⟩) rfl _
      have HF1 : Hid (OwnSails (w9.setCell ⟨w.heap.size + 1 + 1, 0, none⟩ (.slice a9 (k + 1) e9)) V.heap.size (.slice a9 (k + 1) e9) (k + 1) S (atV L k (.slice a3 s.la.n e3)) (atV C k (.slice a6 s.ca.n e6))) := hO9.kept hkq (fun b e => by have e : b = w.heap.size + 1 + 1 := e; omega)
      have HF2 : Hid (Kept V (w9.setCell ⟨w.heap.size + 1 + 1, 0, none⟩ (.slice a9 (k + 1) e9)) (fun b => b = w.heap.size + 1 + 1 ∨ V.heap.size ≤ b)) :=
        (hkp.trans (Kept.of_below hb8)).trans (((kept_row hg9).mono (fun b e => .inr (HO8.out.row.lt b e).1)).trans (hkq.mono (fun b e => .inl e)))
      have HF3 := off_at0 hQ9 (.slice a9 (k + 1) e9)
      have HF3 : Hid _ := HF3
      go_wp2
      go_roundw
      case rel => exact ⟨k + 1, _, _, _, by omega, by go_num, HF3.out, HF1.out, HF2.out⟩
      case measure => simp [intOf]; omega
    · obtain rfl : k = N := by omega
      have o1 := blk_cell (hkp.blk HBO.out (fun e => by have e : w.heap.size = w.heap.size + 1 + 1 ∨ V.heap.size ≤ w.heap.size := e; omega)) 1 _ rfl
      clear hlt hbel
      go_wp2
      clear o1
      have HO0 : Hid (OwnSails wr V.heap.size v k S L C) := hO
      have HQ0 : Hid (wr.heap[w.heap.size + 1 + 1]? = some (.cells #[v, .slice none 0 0, .slice none 0 0] 28 (0, 0))) := hQ
      have HK0 : Hid (Kept V wr (fun b => b = w.heap.size + 1 + 1 ∨ V.heap.size ≤ b)) := hkp
      clear hO hQ hkp hszV hk
      go_loopw [7, 38] (fun _ i wz => ∃ (t : Nat) (lv : Value), t ≤ k ∧ i = .int .i64 t ∧ wz.heap[w.heap.size + 1 + 1]? = some (.cells #[v, lv, .slice none 0 0] 28 (0, 0)) ∧ OwnSails wz V.heap.size v k S L C ∧ Empties wz V.heap.size lv t ∧ Kept V wz (fun b => b = w.heap.size + 1 + 1 ∨ V.heap.size ≤ b)) (fun _ i _ => k - (intOf i).toNat)
      case atStart => exact ⟨0, .slice none 0 0, Nat.zero_le _, rfl, HQ0.out, HO0.out, ⟨[], World.ownsRow_nil _ _ _ _, fun u hu => by cases hu⟩, HK0.out⟩
      case round =>
        clear HO0 HQ0 HK0
        obtain ⟨t, lv, ht, rfl, hQ, hO, ⟨xs, hE, hU⟩, hkp⟩ := hrel
        have hbel : Below w.heap.size w wr := Kept.below hb0 hb0.size hkp (fun b e => by have e : b = w.heap.size + 1 + 1 ∨ V.heap.size ≤ b := e; have := hb0.size; omega)
        have hszV := hkp.size
        obtain ⟨av, cv, rfl, _⟩ := own_form hO.row
        obtain ⟨ae, ce, rfl, _⟩ := own_form hE
        by_cases hlt : t < k
        · obtain ⟨gl, rfl, _, hgl⟩ := own_addr HL.out (by omega)
          have c0 : wr.cell? ⟨gl, t * 3, none⟩ = some (.slice none 0 0) := (hbel.cell (p := ⟨gl, t * 3, none⟩) hgl).trans (own_cell HL.out (t * 3) (by omega) rfl)
          have c1 : wr.cell? ⟨gl, t * 3 + 1, none⟩ = some (.slice none 0 0) := (hbel.cell (p := ⟨gl, t * 3 + 1, none⟩) hgl).trans (own_cell HL.out (t * 3 + 1) (by omega) rfl)
          have c2 : wr.cell? ⟨gl, t * 3 + 2, none⟩ = some (.slice none 0 0) := (hbel.cell (p := ⟨gl, t * 3 + 2, none⟩) hgl).trans (own_cell HL.out (t * 3 + 2) (by omega) rfl)
          have hbx : Below wr.heap.size wr (wr.alloc (.cells #[.slice none 0 0, .slice none 0 0, .slice none 0 0] 66)) := push (Below.refl _ _) _
          have bX := heap_alloc_new wr (.cells #[.slice none 0 0, .slice none 0 0, .slice none 0 0] 66)
          have hQB := blk_alloc hQ (.cells #[.slice none 0 0, .slice none 0 0, .slice none 0 0] 66)
          go_upto_region 12 with fail
          generalize hbxx : wr.heap.size = bx at bX ⊢
          generalize wr.alloc (.cells #[.slice none 0 0, .slice none 0 0, .slice none 0 0] 66) = WB at hbx bX hQB ⊢
          rw [← hbxx] at *
          clear c0 c1 c2
          have x0 := blk_cell bX 0 _ rfl
          have x1 := blk_cell bX 1 _ rfl
          have x2 := blk_cell bX 2 _ rfl
          have q1 := blk_cell hQB 1 _ rfl
          have HOB : Hid (OwnSails WB V.heap.size (.slice av k cv) k S L C) := hO.below hbx
          have HEB : Hid (WB.ownsRow V.heap.size 66 3 (.slice ae t ce) t xs) := own_below hbx hE
          have HKB : Hid (Kept V WB (fun b => b = w.heap.size + 1 + 1 ∨ V.heap.size ≤ b)) := hkp.trans (Kept.of_below hbx)
          have HU : Hid (∀ u ∈ xs, ∃ a c, u = .slice a 0 c) := hU
          have hszB : V.heap.size ≤ WB.heap.size := HKB.out.size
          clear hO hE hkp hU hbx bX hbel
          go_region_law (first
            | (go_simp; go_at_call 34; refine Calls.mono (l7OwnLoad0 _) ?_; rintro e w5 ⟨⟨a1, a2, a3, rfl⟩, hb5⟩; have hb6 : Below WB.heap.size WB w5 := after ((Below.refl _ WB).drew) hb5; have hQ5 := blk_below hQB hb6; have qq := blk_cell hQ5 1 _ rfl; have qa := blk_cell (blk_alloc hQ5 (.cells #[.slice a1 0 0, .slice a2 0 0, .slice a3 0 0] 66)) 1 _ rfl; have HE5 : Hid ((w5.alloc (.cells #[.slice a1 0 0, .slice a2 0 0, .slice a3 0 0] 66)).ownsRow V.heap.size 66 3 (.slice ae t ce) t xs) := own_below (push hb6 _) HEB.out; have hs5 : V.heap.size ≤ (w5.alloc (.cells #[.slice a1 0 0, .slice a2 0 0, .slice a3 0 0] 66)).heap.size := Nat.le_trans hszB (push hb6 _).size; dsimp only)
            | (refine step_append_lies _ (by rfl) (.tmp 43) (.tmp 46) 25 (by rfl) V.heap.size 66 p0 (.agg #[.slice none 0 0, .slice none 0 0, .slice none 0 0]) 3 72 Try.underlying25 pi pz0 pz1 pz2 rfl (by decide) _ t xs (by rfl) HE5.out ⟨w5.heap.size, 0, none⟩ 1 1 [.slice a1 0 0, .slice a2 0 0, .slice a3 0 0] (by rfl) (by rfl) (World.news_of_block (cs := #[.slice a1 0 0, .slice a2 0 0, .slice a3 0 0]) (t := 66) (fr := (0, 0)) (heap_alloc_new w5 _)) (by intro u hu; simp at hu; rcases hu with rfl | rfl | rfl <;> rfl) (by decide) (by unfold maxLen; omega) (by omega) hs5 (w5.heap.size + 1) (by simp) ?_; intro g6 cap6 w6 hown6 hgrow6 hat6 hlt6; have hQ6 := (kept_row hgrow6).blk (blk_alloc hQ5 (.cells #[.slice a1 0 0, .slice a2 0 0, .slice a3 0 0] 66)) (fun e => by have := (HE5.out.lt _ e).1; omega); have u1 := blk_cell hQ6 1 _ rfl; have u2 := blk_free hQ6 1))
          all_goals
            have HO5 := HOB.out.below (push hb6 (.cells #[.slice a1 0 0, .slice a2 0 0, .slice a3 0 0] 66))
            have HO6 := HO5.keptRow HE5.out hgrow6
            have hkq : Kept w6 (w6.setCell ⟨w.heap.size + 1 + 1, 1, none⟩ (.slice (some ⟨g6, 0, none⟩) (t + 1) cap6)) (fun b => b = w.heap.size + 1 + 1) := (Kept.refl _ (fun b => b = w.heap.size + 1 + 1)).set (a := ⟨w.heap.size + 1 + 1, 1, none⟩) rfl _
            have HF1 : Hid (OwnSails (w6.setCell ⟨w.heap.size + 1 + 1, 1, none⟩ (.slice (some ⟨g6, 0, none⟩) (t + 1) cap6)) V.heap.size (.slice av k cv) k S L C) := HO6.kept hkq (fun b e => by have e : b = w.heap.size + 1 + 1 := e; omega)
            have HF2 : Hid (Kept V (w6.setCell ⟨w.heap.size + 1 + 1, 1, none⟩ (.slice (some ⟨g6, 0, none⟩) (t + 1) cap6)) (fun b => b = w.heap.size + 1 + 1 ∨ V.heap.size ≤ b)) :=
              (HKB.out.trans (Kept.of_below (push hb6 _))).trans (((kept_row hgrow6).mono (fun b e => .inr (HE5.out.lt b e).1)).trans (hkq.mono (fun b e => .inl e)))
            have HF3 := off_at1 hQ6 (.slice (some ⟨g6, 0, none⟩) (t + 1) cap6)
            have HF3 : Hid _ := HF3
            have HF4 : Hid (Empties (w6.setCell ⟨w.heap.size + 1 + 1, 1, none⟩ (.slice (some ⟨g6, 0, none⟩) (t + 1) cap6)) V.heap.size (.slice (some ⟨g6, 0, none⟩) (t + 1) cap6) (t + 1)) := ⟨_, own_set hown6 (a := ⟨w.heap.size + 1 + 1, 1, none⟩) hQV _, fun u hu => by
              rcases List.mem_append.1 hu with h | h
              · exact HU.out u h
              · simp at h; rcases h with rfl | rfl | rfl <;> exact ⟨_, _, rfl⟩⟩
            clear HO5 HO6 hkq
            go_wp2
            go_roundw
            case rel => exact ⟨t + 1, _, by omega, by go_num, HF3.out, HF1.out, HF4.out, HF2.out⟩
            case measure => simp [intOf]; omega
        · obtain rfl : t = k := by omega
          have o2 := blk_cell (hkp.blk HBO.out (fun e => by have e : w.heap.size = w.heap.size + 1 + 1 ∨ V.heap.size ≤ w.heap.size := e; omega)) 2 _ rfl
          have hR := hkp.blk HBR.out (fun e => by have e : w.heap.size + 1 = w.heap.size + 1 + 1 ∨ V.heap.size ≤ w.heap.size + 1 := e; omega)
          clear ht hlt
          go_wp2
          clear o2
          have HA1 : Hid (OwnSails wr V.heap.size (.slice av t cv) t S L C) := hO
          have HA2 : Hid (wr.ownsRow V.heap.size 66 3 (.slice ae t ce) t xs) := hE
          have HU : Hid (∀ u ∈ xs, ∃ a c, u = .slice a 0 c) := hU
          have HBB : Hid (Below w.heap.size w wr) := hbel
          have HQ : Hid _ := hQ
          have HR : Hid _ := hR
          clear hO hE hU hkp hszV hQ hR hbel
          go_loopw [9, 53] (fun _ i wz => i = .int .i64 0 ∧ wz = wr) (fun _ _ _ => 0)
          case atStart => exact ⟨rfl, rfl⟩
          case round =>
            obtain ⟨rfl, rfl⟩ := hrel
            have hQ := HQ.out
            have hR := HR.out
            have y0 := blk_cell hQ 0 _ rfl
            have y1 := blk_cell hQ 1 _ rfl
            have y2 := blk_cell hQ 2 _ rfl
            have r0 := blk_cell hR 0 _ rfl
            have r1 := blk_cell hR 1 _ rfl
            have r2 := blk_cell hR 2 _ rfl
            have f0 := blk_free hR 0
            have f1 := blk_free hR 1
            have f2 := blk_free hR 2
            clear hQ hR
            go_wp2
            have rF := off3_0 HR.out (.slice av t cv) (.slice ae t ce) (.slice none 0 0)
            have z0 := blk_cell rF 0 _ rfl
            have z1 := blk_cell rF 1 _ rfl
            have z2 := blk_cell rF 2 _ rfl
            have hkR := ((((Kept.refl _ (fun b => b = w.heap.size + 1)).set (a := ⟨w.heap.size + 1, 0, none⟩) rfl (.slice av t cv)).set (a := ⟨w.heap.size + 1, 1, none⟩) rfl (.slice ae t ce)).set (a := ⟨w.heap.size + 1, 2, none⟩) rfl (.slice none 0 0) : Kept wr _ _)
            have hA := (HA1.out.kept hkR (fun b e => by have e : b = w.heap.size + 1 := e; omega)).base hb0.size
            have hB : Empties _ w.heap.size (.slice ae t ce) t := ⟨xs, own_base (hkR.own HA2.out (fun g h1 h2 => by have := (HA2.out.lt g h1).1; have h2 : g = w.heap.size + 1 := h2; omega)) hb0.size, HU.out⟩
            have hC := ((HBB.out.setCell (p := ⟨w.heap.size + 1, 0, none⟩) (by show w.heap.size ≤ w.heap.size + 1; omega) (.slice av t cv)).setCell (p := ⟨w.heap.size + 1, 1, none⟩) (by show w.heap.size ≤ w.heap.size + 1; omega) (.slice ae t ce)).setCell (p := ⟨w.heap.size + 1, 2, none⟩) (by show w.heap.size ≤ w.heap.size + 1; omega) (.slice none 0 0)
            exact bodyPost_ret (v := .agg #[.slice av t cv, .slice ae t ce, .slice none 0 0]) (by simp [results, Try.results15, go_sem, z0, z1, z2]) rfl ⟨⟨av, cv, ae, ce, L, C, rfl, hA, hB⟩, hC⟩

/-- What the specification's NewOffice answers. -/
def NewS (N : Nat) (S : Nat → Sail) (e : Ending) (w : World) : Prop :=
  ∃ ao c al cl, e = .returned (.tuple #[.agg #[.slice ao (nN N S) c, .slice al (nN N S) cl, .slice none 0 0], .bool (nOk N S)]) ∧ SailsAt w ao (nN N S) S ∧ Loads0 w al (nN N S)

set_option maxHeartbeats 3200000 in
set_option maxRecDepth 100000 in
theorem specNew_any (ao : Option Addr) (N c : Nat) (S : Nat → Sail) (w : World) (hN : N ≤ 1048576) (hs : ShortAll N S 1048576) (hz : SailsAt w ao N S) :
    Calls Try.prog 5 #[.slice ao N c] w fun e w' => NewS N S e w' ∧ Below w.heap.size w w' := by
  obtain ⟨i0, hi, hz0, hz1, hz2⟩ := info_parts Try.infoLoad'
  have HS : Hid (ShortAll N S 1048576) := hs
  have HZ : Hid (SailsAt w ao N S) := hz
  clear hs hz
  have hb0 : Below w.heap.size w (w.alloc (.cells #[.slice none 0 0, .slice none 0 0, .slice none 0 0] 28)) := push (Below.refl _ _) _
  have bR := heap_alloc_new w (.cells #[.slice none 0 0, .slice none 0 0, .slice none 0 0] 28)
  go_enter Try.func5, Try.ntmps5
  go_wp2_with fail
  generalize w.alloc (.cells #[.slice none 0 0, .slice none 0 0, .slice none 0 0] 28) = V at hb0 bR ⊢
  refine (specTab_any ao N c S _ hN HS.out (HZ.out.below hb0)).mono ?_
  rintro e X ⟨⟨t, rfl, ht⟩, hbv⟩
  have HT : Hid (t = true ↔ GoodTab N S) := ht
  have bR1 := blk_below bR hbv
  have hb1 := after hb0 hbv
  clear ht bR hb0 hbv
  cases t with
  | false =>
    have HN : Hid (¬ GoodTab N S) := fun h => by have := HT.out.2 h; cases this
    have r0 := blk_cell bR1 0 _ rfl
    have r1 := blk_cell bR1 1 _ rfl
    have r2 := blk_cell bR1 2 _ rfl
    have f0 := blk_free bR1 0
    have f1 := blk_free bR1 1
    have f2 := blk_free bR1 2
    go_wp2
    have rF := off3_0 bR1 (.slice none 0 0) (.slice none 0 0) (.slice none 0 0)
    have z0 := blk_cell rF 0 _ rfl
    have z1 := blk_cell rF 1 _ rfl
    have z2 := blk_cell rF 2 _ rfl
    refine bodyPost_ret (v := .tuple #[.agg #[.slice none 0 0, .slice none 0 0, .slice none 0 0], .bool false]) (by simp [results, Try.results5, go_sem, z0, z1, z2]) rfl ⟨⟨none, 0, none, 0, ?_, ?_, ?_⟩, ((hb1.setCell (Nat.le_refl _) _).setCell (Nat.le_refl _) _).setCell (Nat.le_refl _) _⟩
    · unfold nOk nN; rw [decide_eq_false HN.out, if_neg HN.out]
    · unfold nN; rw [if_neg HN.out]; intro k hk; omega
    · unfold nN; rw [if_neg HN.out]; intro k hk; omega
  | true =>
  have HOK : Hid (GoodTab N S) := HT.out.1 rfl
  clear HT
  go_wp2_with (first | (at_make; refine wpList_make_full _ rfl _ _ 25 rfl 0 66 i0 _ 3 Try.underlying25 hi hz0 hz1 .i64 .i64 _ _ N rfl rfl rfl rfl (by rw [hz2]; omega) (by unfold maxLen; omega) (Nat.zero_le _) ?_; intro w1 hown1 hgrow1))
  rw [nilRow_made] at hown1
  have hb2 := (Below.refl X.heap.size X).grown hgrow1 (Nat.le_refl _) (by simp)
  refine (l7Own0 ao _ N c N S _ hN HS.out (HZ.out.below (after hb1 hb2)) hown1).mono ?_
  rintro e w2 ⟨⟨ao2, c2, al2, cl2, L2, C2, rfl, hA, hB⟩, hb3⟩
  have bR2 := blk_below (blk_below bR1 hb2) hb3
  have hb4 := after (after hb1 hb2) hb3
  have hlt : w.heap.size < w1.heap.size := blk_lt (blk_below bR1 hb2)
  have HA : Hid (OwnSails w2 w1.heap.size (.slice ao2 N c2) N S L2 C2) := hA
  have HB : Hid (Empties w2 w1.heap.size (.slice al2 N cl2) N) := hB
  clear hA hB hb3 hown1 hgrow1
  have r0 := blk_cell bR2 0 _ rfl
  have r1 := blk_cell bR2 1 _ rfl
  have r2 := blk_cell bR2 2 _ rfl
  have f0 := blk_free bR2 0
  have f1 := blk_free bR2 1
  have f2 := blk_free bR2 2
  go_wp2
  have rF := off3_0 bR2 (.slice ao2 N c2) (.slice al2 N cl2) (.slice none 0 0)
  have z0 := blk_cell rF 0 _ rfl
  have z1 := blk_cell rF 1 _ rfl
  have z2 := blk_cell rF 2 _ rfl
  have hkR := ((((Kept.refl _ (fun b => b = w.heap.size)).set (a := ⟨w.heap.size, 0, none⟩) rfl (.slice ao2 N c2)).set (a := ⟨w.heap.size, 1, none⟩) rfl (.slice al2 N cl2)).set (a := ⟨w.heap.size, 2, none⟩) rfl (.slice none 0 0) : Kept w2 _ _)
  obtain ⟨xs, hX, hU⟩ := HB.out
  have hA := (HA.out.kept hkR (fun b e => by have e : b = w.heap.size := e; omega)).at
  have hB := Empties.loads ⟨xs, hkR.own hX (fun g h1 h2 => by have := (hX.lt g h1).1; have h2 : g = w.heap.size := h2; omega), hU⟩
  refine bodyPost_ret (v := .tuple #[.agg #[.slice ao2 N c2, .slice al2 N cl2, .slice none 0 0], .bool true]) (by simp [results, Try.results5, go_sem, z0, z1, z2]) rfl ⟨⟨ao2, c2, al2, cl2, ?_, ?_, ?_⟩, ((hb4.setCell (p := ⟨w.heap.size, 0, none⟩) (Nat.le_refl _) _).setCell (p := ⟨w.heap.size, 1, none⟩) (Nat.le_refl _) _).setCell (p := ⟨w.heap.size, 2, none⟩) (Nat.le_refl _) _⟩
  · unfold nOk nN; rw [decide_eq_true HOK.out, if_pos HOK.out]
  · unfold nN; rw [if_pos HOK.out]; exact hA
  · unfold nN; rw [if_pos HOK.out]; exact hB

end Go.Proofs.Ytlnadbnoemlpeaa
