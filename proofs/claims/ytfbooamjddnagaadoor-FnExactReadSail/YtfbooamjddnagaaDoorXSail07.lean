/-
  OWN TEXT: KitSh, KitOwn, PairsR, SailInI.
-/
import Derived.Test.YtfbooamjddnagaaDoorRows
import Derived.Test.YtfbooamjddnagaaDoorB02
import Derived.Test.YtfbooamjddnagaaDoorXSail05
namespace Go.Proofs.YtfbooamjddnagaaDoor
open Go.RowKit

def ShortS (s : Sail) (B : Nat) : Prop := s.fr.size ≤ B ∧ s.dst.size ≤ B ∧ s.la.n ≤ B ∧ s.ca.n ≤ B
def ShortAll (N : Nat) (S : Nat → Sail) (B : Nat) : Prop := ∀ i, i < N → ShortS (S i) B
theorem Tryd.infoLane : (Tryd.prog.info? 89).map (fun i => (i.zero, i.size, i.bytes)) = some (some (.agg #[.int .i64 0, .int .i64 0]), 2, 16) := by kernel_rfl
theorem Tryd.infoCabin : (Tryd.prog.info? 91).map (fun i => (i.zero, i.size, i.bytes)) = some (some (.agg #[.int .i64 0, .int .i64 0]), 2, 16) := by kernel_rfl
theorem Tryd.infoSailing : (Tryd.prog.info? 49).map (fun i => (i.zero, i.size, i.bytes)) = some (some (.agg #[.int .i64 0, .string ⟨#[]⟩, .string ⟨#[]⟩, .int .i64 0, .int .i64 0, .slice none 0 0, .slice none 0 0, .int .i64 0]), 8, 112) := by kernel_rfl

end Go.Proofs.YtfbooamjddnagaaDoor

namespace Go.Proofs.YtfbooamjddnagaaDoor
open Go.RowKit

/-- The cells of pairs. -/
def pairRow (p : Pairs) : List Value := (List.range (p.n * 2)).map (pairCell p)
theorem pairRow_length (p : Pairs) : (pairRow p).length = p.n * 2 := by simp [pairRow]
theorem pairRow_get {p : Pairs} {j : Nat} {u : Value} (h : (pairRow p)[j]? = some u) : j < p.n * 2 ∧ u = pairCell p j := by
  unfold pairRow at h
  rw [List.getElem?_map] at h
  by_cases hj : j < p.n * 2
  · rw [List.getElem?_range hj] at h; simp at h; exact ⟨hj, h.symm⟩
  · rw [List.getElem?_eq_none (by simpa using hj)] at h; cases h
theorem pairRow_one (p : Pairs) : ∀ u ∈ pairRow p, u.oneCell' = true := by
  intro u hu
  unfold pairRow at hu
  obtain ⟨j, _, rfl⟩ := List.mem_map.1 hu
  unfold pairCell
  split <;> rfl
theorem pairs_cells {w : World} {ao : Option Addr} {p : Pairs} (h : PairsAt w ao p) : ∀ ad, ao = some ad → ∀ j u, (pairRow p)[j]? = some u → w.cell? (ad.add j) = some u := by
  intro ad e j u hu
  obtain ⟨hj, rfl⟩ := pairRow_get hu
  obtain ⟨b, off, e2, h0, h1⟩ := h (j / 2) (by omega)
  rw [e] at e2
  cases e2
  rw [Addr.add_lit]
  unfold pairCell
  by_cases c : j % 2 = 0
  · rw [if_pos c, ← h0, show off + j / 2 * 2 = off + j by omega]
  · rw [if_neg c, ← h1, show off + j / 2 * 2 + 1 = off + j by omega]
theorem pairs_of_own {w : World} {base t c : Nat} {ao : Option Addr} {p : Pairs} (h : w.ownsRow base t 2 (.slice ao p.n c) p.n (pairRow p)) : PairsAt w ao p := by
  intro k hk
  obtain ⟨g, rfl, _, _⟩ := own_addr h (by omega)
  refine ⟨g, 0, rfl, ?_, ?_⟩
  · rw [Nat.zero_add, own_cell h (k * 2) (by omega) rfl, pairCell_0]
  · rw [Nat.zero_add, own_cell h (k * 2 + 1) (by omega) rfl, pairCell_1]

/-- Sailings that lie in memory of their own, from base on. -/
structure OwnSails (w : World) (base : Nat) (v : Value) (N : Nat) (S : Nat → Sail) (L C : Nat → Value) : Prop where
  row : w.ownsRow base 49 8 v N ((List.range (N * 8)).map (sailCell S L C))
  la : ∀ i, i < N → w.ownsRow base 89 2 (L i) (S i).la.n (pairRow (S i).la)
  ca : ∀ i, i < N → w.ownsRow base 91 2 (C i) (S i).ca.n (pairRow (S i).ca)
  apart : ∀ i j, i < j → j < N → (∀ b, (L i).ownBlock = some b → (L j).ownBlock ≠ some b) ∧ (∀ b, (C i).ownBlock = some b → (C j).ownBlock ≠ some b)
theorem OwnSails.below {w w' : World} {base : Nat} {v : Value} {N : Nat} {S : Nat → Sail} {L C : Nat → Value} (h : OwnSails w base v N S L C) (hb : Below w.heap.size w w') : OwnSails w' base v N S L C :=
  ⟨own_below hb h.row, fun i hi => own_below hb (h.la i hi), fun i hi => own_below hb (h.ca i hi), h.apart⟩
theorem OwnSails.kept {w w' : World} {base : Nat} {v : Value} {N : Nat} {S : Nat → Sail} {L C : Nat → Value} {T : Nat → Prop} (h : OwnSails w base v N S L C) (hk : Kept w w' T) (hT : ∀ b, T b → b < base) : OwnSails w' base v N S L C :=
  ⟨hk.own h.row (fun g hg s => by have := (h.row.lt g hg).1; have := hT g s; omega), fun i hi => hk.own (h.la i hi) (fun g hg s => by have := ((h.la i hi).lt g hg).1; have := hT g s; omega),
    fun i hi => hk.own (h.ca i hi) (fun g hg s => by have := ((h.ca i hi).lt g hg).1; have := hT g s; omega), h.apart⟩
theorem OwnSails.base {w : World} {b1 b2 : Nat} {v : Value} {N : Nat} {S : Nat → Sail} {L C : Nat → Value} (h : OwnSails w b1 v N S L C) (hb : b2 ≤ b1) : OwnSails w b2 v N S L C :=
  ⟨own_base h.row hb, fun i hi => own_base (h.la i hi) hb, fun i hi => own_base (h.ca i hi) hb, h.apart⟩
theorem OwnSails.at {w : World} {base : Nat} {ao : Option Addr} {N c : Nat} {S : Nat → Sail} {L C : Nat → Value} (h : OwnSails w base (.slice ao N c) N S L C) : SailsAt w ao N S := by
  intro k hk
  obtain ⟨g, rfl, _, _⟩ := own_addr h.row (by omega)
  obtain ⟨la, lc, e1, l1, l2, l3⟩ := own_form (h.la k hk)
  obtain ⟨ca, cc, e2, c1, c2, c3⟩ := own_form (h.ca k hk)
  have o1 := h.la k hk
  have o2 := h.ca k hk
  rw [e1] at o1
  rw [e2] at o2
  refine ⟨g, 0, la, lc, ca, cc, rfl, ?_, ?_, ?_, ?_, ?_, ?_, ?_, ?_, pairs_of_own o1, pairs_of_own o2, ⟨l1, l2, l3⟩, ⟨c1, c2, c3⟩⟩
  · rw [Nat.zero_add, own_cell h.row (k * 8) (by omega) rfl, sailCell_0]
  · rw [Nat.zero_add, own_cell h.row (k * 8 + 1) (by omega) rfl, sailCell_1]
  · rw [Nat.zero_add, own_cell h.row (k * 8 + 2) (by omega) rfl, sailCell_2]
  · rw [Nat.zero_add, own_cell h.row (k * 8 + 3) (by omega) rfl, sailCell_3]
  · rw [Nat.zero_add, own_cell h.row (k * 8 + 4) (by omega) rfl, sailCell_4]
  · rw [Nat.zero_add, own_cell h.row (k * 8 + 5) (by omega) rfl, sailCell_5, e1]
  · rw [Nat.zero_add, own_cell h.row (k * 8 + 6) (by omega) rfl, sailCell_6, e2]
  · rw [Nat.zero_add, own_cell h.row (k * 8 + 7) (by omega) rfl, sailCell_7]
theorem OwnSails.nil (w : World) (base : Nat) (S : Nat → Sail) (L C : Nat → Value) : OwnSails w base (.slice none 0 0) 0 S L C :=
  ⟨⟨rfl, .inl ⟨rfl, rfl⟩⟩, fun i hi => by omega, fun i hi => by omega, fun i j hi hj => by omega⟩

end Go.Proofs.YtfbooamjddnagaaDoor

namespace Go.Proofs.YtfbooamjddnagaaDoor
open Go.RowKit

theorem wd_lt {l : List ByteArray} {x : ByteArray} {i : Nat} (h : i < l.length) : wd (l ++ [x]) i = wd l i := by
  unfold wd
  rw [List.getD_eq_getElem?_getD, List.getD_eq_getElem?_getD, List.getElem?_append_left h]
theorem wd_last (l : List ByteArray) (x : ByteArray) : wd (l ++ [x]) l.length = x := by
  unfold wd
  rw [List.getD_eq_getElem?_getD, List.getElem?_append_right (Nat.le_refl _)]
  simp
theorem prs_snoc (l : List ByteArray) (x : ByteArray) : pairRow (prs (l ++ [x])) = pairRow (prs l) ++ [.int .i64 (numOf (cutA 47 x)), .int .i64 (numOf (cutB 47 x))] := by
  unfold pairRow
  have e : (prs (l ++ [x])).n * 2 = (prs l).n * 2 + 1 + 1 := by simp [prs]; omega
  rw [e, List.range_succ, List.range_succ, List.map_append, List.map_append, List.append_assoc]
  congr 1
  · refine List.map_congr_left fun j hj => ?_
    have hj : j < l.length * 2 := by simpa [prs] using hj
    have h2 : j / 2 < l.length := by omega
    unfold pairCell prs
    dsimp only
    rw [wd_lt h2]
  · have e0 : (prs l).n = l.length := rfl
    have d0 : l.length * 2 / 2 = l.length := by omega
    have d1 : (l.length * 2 + 1) / 2 = l.length := by omega
    have m0 : l.length * 2 % 2 = 0 := by omega
    have m1 : ¬ (l.length * 2 + 1) % 2 = 0 := by omega
    simp only [List.map_cons, List.map_nil, e0]
    unfold pairCell
    rw [if_pos m0, if_neg m1, d0, d1]
    unfold prs
    dsimp only
    rw [wd_last]
    rfl
theorem take_snoc_w {l : List ByteArray} {k : Nat} (h : k < l.length) : l.take (k + 1) = l.take k ++ [l[k]'h] := by
  rw [List.take_add_one, List.getElem?_eq_getElem h]
  rfl

set_option maxRecDepth 100000 in
theorem inLane_any (s : ByteArray) (w : World) (hs : s.size ≤ 1000000000000) (hP : PowAt w) :
    Calls Tryd.prog 103 #[.string s] w fun e w' => e = .returned (.agg #[.int .i64 (numOf (cutA 47 s)), .int .i64 (numOf (cutB 47 s))]) ∧ Below w.heap.size w w' := by
  have HP : Hid (PowAt w) := hP
  have b0 := heap_alloc_new w (.cells #[.int .i64 0, .int .i64 0] 89)
  have hb0 : Below w.heap.size w (w.alloc (.cells #[.int .i64 0, .int .i64 0] 89)) := push (Below.refl _ _) _
  have HC : Hid (∀ W', PowAt W' → Calls Tryd.prog 118 #[.string s] W' fun e w' => e = .returned (.tuple #[.int .i64 (numOf (cutA 47 s)), .int .i64 (numOf (cutB 47 s))]) ∧ Below W'.heap.size W' w') := fun W' h => pairIn_any s W' hs h
  generalize numOf (cutA 47 s) = a at HC ⊢
  generalize numOf (cutB 47 s) = b at HC ⊢
  go_enter Tryd.func103, Tryd.ntmps103
  go_upto_region 1 with fail
  generalize w.alloc (.cells #[.int .i64 0, .int .i64 0] 89) = W at b0 hb0 ⊢
  have hsz := hb0.size
  have ci := HC.out W (HP.out.below hb0)
  go_wp2_with fail
  refine ci.mono ?_
  clear ci
  rintro e w2 ⟨rfl, hb2⟩
  have b2 := blk_below b0 hb2
  have hB2 := after hb0 hb2
  have y0 := blk_cell b2 0 _ rfl
  have y1 := blk_cell b2 1 _ rfl
  have g0 := blk_free b2 0
  have g1 := blk_free b2 1
  have rF := blk_set (blk_set b2 0 (.int .i64 a)) 1 (.int .i64 b)
  have HFB : Hid (Below w.heap.size w _) := Kept.below hB2 hB2.size (((Kept.refl w2 (fun g => g = w.heap.size)).set (a := ⟨w.heap.size, 0, none⟩) rfl (.int .i64 a)).set (a := ⟨w.heap.size, 1, none⟩) rfl (.int .i64 b)) (fun k e => by have e : k = w.heap.size := e; omega)
  clear b0 hb0 hb2 b2 hB2
  go_wp2
  have t0 := blk_cell rF 0 _ rfl
  have t1 := blk_cell rF 1 _ rfl
  exact bodyPost_ret (v := .agg #[.int .i64 a, .int .i64 b]) (by simp [results, Tryd.results103, go_sem, t0, t1]) rfl ⟨rfl, HFB.out⟩

set_option maxHeartbeats 1600000 in
set_option maxRecDepth 100000 in
theorem listLaneIn_any (s : ByteArray) (w : World) (hs : s.size ≤ 1048576) (hP : PowAt w) :
    Calls Tryd.prog 102 #[.string s, .func (.func 103) #[] #[]] w fun e w' => ∃ v l, e = .returned v ∧ w'.ownsRow w.heap.size 89 2 v l.length (pairRow (prs l)) ∧ Hid (PRd s l) ∧ Below w.heap.size w w' := by
  have HP : Hid (PowAt w) := hP
  clear hP
  obtain ⟨j0, ji, jz0, jz1, jz2⟩ := info_parts Tryd.infoLane
  by_cases h45 : s = ⟨#[45]⟩
  · have e45 : (s.toList == (⟨#[45]⟩ : ByteArray).toList) = true := bytes_eq.2 h45
    have HR : Hid (PRd s []) := ⟨by simp, .inl ⟨h45, rfl⟩⟩
    have e1 : s.toList = [45] := by rw [h45]; simp [ByteArray.toList_eq]
    clear h45
    go_enter Tryd.func102, Tryd.ntmps102
    go_wp2
    go_ret
    exact ⟨_, [], rfl, World.ownsRow_nil _ _ _ _, HR, Below.refl _ _⟩
  · have e45 : (s.toList == [45]) = false := by
      rw [beq_eq_false_iff_ne]
      intro e
      exact h45 (toList_inj (by rw [e]; simp [ByteArray.toList_eq]))
    have e1 : ¬ s.toList = [45] := by rwa [beq_eq_false_iff_ne] at e45
    have HNE : Hid (s ≠ ⟨#[45]⟩) := h45
    clear h45
    go_enter Tryd.func102, Tryd.ntmps102
    go_wp2_with fail
    refine (partsIn_any s 44 _ (by decide) hs).mono ?_
    rintro e w2 ⟨v, l, rfl, ho, hp, hb2⟩
    obtain ⟨pa, pc, rfl, hpc, hpm, hpn⟩ := own_form ho
    have HO : Hid (OwnT w2 w.heap.size (.slice pa l.length pc) l) := ho
    have HPT : Hid (Parts 44 s l ∧ l.length ≤ s.size + 1) := hp.out
    have hll : l.length ≤ 1048577 := by have := hp.out.2; omega
    have HSM : Hid (∀ q, q ∈ l → q.size ≤ 1000000000000) := fun q hq => by have := parts_le hp.out.1 q hq; omega
    clear ho hp
    go_wp2
    go_loopw [5, 7, 13] (fun v _ i wr => ∃ k : Nat, k ≤ l.length ∧ i = .int .i64 k ∧ Hid (wr.ownsRow w.heap.size 89 2 v k (pairRow (prs (l.take k)))) ∧ Hid (OwnT wr w.heap.size (.slice pa l.length pc) l) ∧ Below w.heap.size w wr)
      (fun _ _ i _ => l.length - (intOf i).toNat)
    case atStart => exact ⟨0, Nat.zero_le _, rfl, World.ownsRow_nil _ _ _ _, HO.out, hb2⟩
    case round =>
      clear HO
      obtain ⟨k, hk, rfl, HN, HO, hbel⟩ := hrel
      by_cases hlt : k < l.length
      · obtain ⟨g, hpa, _, hg⟩ := own_addr HO.out (by omega)
        subst hpa
        have hx : l[k]? = some (l[k]'hlt) := List.getElem?_eq_getElem hlt
        have hc : wr.cell? ⟨g, k, none⟩ = some (.string (l[k]'hlt)) := by rw [World.ownsRow.cellAt HO.out k (by omega), List.getElem?_map, hx]; rfl
        have HL : Hid (l.take (k + 1) = l.take k ++ [l[k]'hlt]) := take_snoc_w hlt
        have HXS : Hid ((l[k]'hlt).size ≤ 1000000000000) := HSM.out _ (List.getElem_mem hlt)
        generalize l[k]'hlt = x at hc HL HXS
        obtain ⟨va, vc, rfl, _⟩ := own_form HN.out
        have ci := inLane_any x wr HXS.out (HP.out.below hbel)
        have HSN : Hid (pairRow (prs (l.take (k + 1))) = pairRow (prs (l.take k)) ++ [.int .i64 (numOf (cutA 47 x)), .int .i64 (numOf (cutB 47 x))]) := by rw [HL.out]; exact prs_snoc _ _
        generalize numOf (cutA 47 x) = ca at ci HSN
        generalize numOf (cutB 47 x) = cb at ci HSN
        clear hx HL HXS
        go_wp2_with fail
        refine ci.mono ?_
        clear ci
        rintro e w3 ⟨rfl, hb3⟩
        have HN3 : Hid (World.ownsRow (w3.alloc (.cells #[.int .i64 ca, .int .i64 cb] 89)) w.heap.size 89 2 (.slice va k vc) k (pairRow (prs (l.take k)))) := own_below (push (Below.refl _ _) _) (own_below hb3 HN.out)
        have HO3 : Hid (OwnT (w3.alloc (.cells #[.int .i64 ca, .int .i64 cb] 89)) w.heap.size (.slice (some ⟨g, 0, none⟩) l.length pc) l) := own_below (push (Below.refl _ _) _) (own_below hb3 HO.out)
        have hb4 : Below w.heap.size w (w3.alloc (.cells #[.int .i64 ca, .int .i64 cb] 89)) := push (after hbel hb3) _
        have hsz := hb4.size
        clear HN HO hbel hb3 hc
        go_wp2_with (first | (at_builtin; refine wpList_append_any _ (by rfl) (.tmp 17) (.tmp 21) 46 (by rfl) w.heap.size 89 j0 (.agg #[.int .i64 0, .int .i64 0]) 2 16 Tryd.underlying46 ji jz0 jz1 jz2 rfl (by decide) _ k (pairRow (prs (l.take k))) (by rfl) HN3.out (some ⟨w3.heap.size, 0, none⟩) 1 1 [.int .i64 ca, .int .i64 cb] (by rfl) (fun h => by cases h) (by rfl) (fun ad h => by cases h; exact World.news_of_block (heap_alloc_new w3 _)) (by intro u hu; simp only [List.mem_cons, List.not_mem_nil, or_false] at hu; rcases hu with rfl | rfl <;> rfl) (by unfold maxLen; omega) (by omega) hsz ?_; intro v9 w9 ho9 hg9))
        have HN9 : Hid (World.ownsRow w9 w.heap.size 89 2 v9 (k + 1) (pairRow (prs (l.take (k + 1))))) := by
          rw [HSN.out]
          exact ho9
        have HO9 : Hid (OwnT w9 w.heap.size (.slice (some ⟨g, 0, none⟩) l.length pc) l) := (kept_row hg9).own HO3.out (fun g1 h1 e1 => own_apart HO3.out HN3.out (by decide) g1 h1 e1)
        have hb9 := hb4.grown hg9 hsz (fun j hj => (World.ownsRow.lt HN3.out j hj).1)
        clear HN3 HO3 hb4 ho9 hg9 hsz HSN
        go_roundw
        case rel => exact ⟨k + 1, by omega, by go_num, HN9.out, HO9.out, hb9⟩
        case measure => simp [intOf]; omega
      · obtain rfl : k = l.length := by omega
        have HF : Hid (PRd s l) := ⟨HPT.out.2, .inr ⟨HNE.out, HPT.out.1⟩⟩
        have hN := HN.out
        rw [List.take_of_length_le (Nat.le_refl _)] at hN
        have HN2 : Hid (wr.ownsRow w.heap.size 89 2 u5 l.length (pairRow (prs l))) := hN
        clear HN hN
        go_wp2
        go_ret
        exact ⟨_, _, rfl, HN2.out, HF, hbel⟩

set_option maxRecDepth 100000 in
theorem inCabin_any (s : ByteArray) (w : World) (hs : s.size ≤ 1000000000000) (hP : PowAt w) :
    Calls Tryd.prog 105 #[.string s] w fun e w' => e = .returned (.agg #[.int .i64 (numOf (cutA 47 s)), .int .i64 (numOf (cutB 47 s))]) ∧ Below w.heap.size w w' := by
  have HP : Hid (PowAt w) := hP
  have b0 := heap_alloc_new w (.cells #[.int .i64 0, .int .i64 0] 91)
  have hb0 : Below w.heap.size w (w.alloc (.cells #[.int .i64 0, .int .i64 0] 91)) := push (Below.refl _ _) _
  have HC : Hid (∀ W', PowAt W' → Calls Tryd.prog 118 #[.string s] W' fun e w' => e = .returned (.tuple #[.int .i64 (numOf (cutA 47 s)), .int .i64 (numOf (cutB 47 s))]) ∧ Below W'.heap.size W' w') := fun W' h => pairIn_any s W' hs h
  generalize numOf (cutA 47 s) = a at HC ⊢
  generalize numOf (cutB 47 s) = b at HC ⊢
  go_enter Tryd.func105, Tryd.ntmps105
  go_upto_region 1 with fail
  generalize w.alloc (.cells #[.int .i64 0, .int .i64 0] 91) = W at b0 hb0 ⊢
  have hsz := hb0.size
  have ci := HC.out W (HP.out.below hb0)
  go_wp2_with fail
  refine ci.mono ?_
  clear ci
  rintro e w2 ⟨rfl, hb2⟩
  have b2 := blk_below b0 hb2
  have hB2 := after hb0 hb2
  have y0 := blk_cell b2 0 _ rfl
  have y1 := blk_cell b2 1 _ rfl
  have g0 := blk_free b2 0
  have g1 := blk_free b2 1
  have rF := blk_set (blk_set b2 0 (.int .i64 a)) 1 (.int .i64 b)
  have HFB : Hid (Below w.heap.size w _) := Kept.below hB2 hB2.size (((Kept.refl w2 (fun g => g = w.heap.size)).set (a := ⟨w.heap.size, 0, none⟩) rfl (.int .i64 a)).set (a := ⟨w.heap.size, 1, none⟩) rfl (.int .i64 b)) (fun k e => by have e : k = w.heap.size := e; omega)
  clear b0 hb0 hb2 b2 hB2
  go_wp2
  have t0 := blk_cell rF 0 _ rfl
  have t1 := blk_cell rF 1 _ rfl
  exact bodyPost_ret (v := .agg #[.int .i64 a, .int .i64 b]) (by simp [results, Tryd.results105, go_sem, t0, t1]) rfl ⟨rfl, HFB.out⟩

set_option maxHeartbeats 1600000 in
set_option maxRecDepth 100000 in
theorem listCabinIn_any (s : ByteArray) (w : World) (hs : s.size ≤ 1048576) (hP : PowAt w) :
    Calls Tryd.prog 104 #[.string s, .func (.func 105) #[] #[]] w fun e w' => ∃ v l, e = .returned v ∧ w'.ownsRow w.heap.size 91 2 v l.length (pairRow (prs l)) ∧ Hid (PRd s l) ∧ Below w.heap.size w w' := by
  have HP : Hid (PowAt w) := hP
  clear hP
  obtain ⟨j0, ji, jz0, jz1, jz2⟩ := info_parts Tryd.infoCabin
  by_cases h45 : s = ⟨#[45]⟩
  · have e45 : (s.toList == (⟨#[45]⟩ : ByteArray).toList) = true := bytes_eq.2 h45
    have HR : Hid (PRd s []) := ⟨by simp, .inl ⟨h45, rfl⟩⟩
    have e1 : s.toList = [45] := by rw [h45]; simp [ByteArray.toList_eq]
    clear h45
    go_enter Tryd.func104, Tryd.ntmps104
    go_wp2
    go_ret
    exact ⟨_, [], rfl, World.ownsRow_nil _ _ _ _, HR, Below.refl _ _⟩
  · have e45 : (s.toList == [45]) = false := by
      rw [beq_eq_false_iff_ne]
      intro e
      exact h45 (toList_inj (by rw [e]; simp [ByteArray.toList_eq]))
    have e1 : ¬ s.toList = [45] := by rwa [beq_eq_false_iff_ne] at e45
    have HNE : Hid (s ≠ ⟨#[45]⟩) := h45
    clear h45
    go_enter Tryd.func104, Tryd.ntmps104
    go_wp2_with fail
    refine (partsIn_any s 44 _ (by decide) hs).mono ?_
    rintro e w2 ⟨v, l, rfl, ho, hp, hb2⟩
    obtain ⟨pa, pc, rfl, hpc, hpm, hpn⟩ := own_form ho
    have HO : Hid (OwnT w2 w.heap.size (.slice pa l.length pc) l) := ho
    have HPT : Hid (Parts 44 s l ∧ l.length ≤ s.size + 1) := hp.out
    have hll : l.length ≤ 1048577 := by have := hp.out.2; omega
    have HSM : Hid (∀ q, q ∈ l → q.size ≤ 1000000000000) := fun q hq => by have := parts_le hp.out.1 q hq; omega
    clear ho hp
    go_wp2
    go_loopw [5, 7, 13] (fun v _ i wr => ∃ k : Nat, k ≤ l.length ∧ i = .int .i64 k ∧ Hid (wr.ownsRow w.heap.size 91 2 v k (pairRow (prs (l.take k)))) ∧ Hid (OwnT wr w.heap.size (.slice pa l.length pc) l) ∧ Below w.heap.size w wr)
      (fun _ _ i _ => l.length - (intOf i).toNat)
    case atStart => exact ⟨0, Nat.zero_le _, rfl, World.ownsRow_nil _ _ _ _, HO.out, hb2⟩
    case round =>
      clear HO
      obtain ⟨k, hk, rfl, HN, HO, hbel⟩ := hrel
      by_cases hlt : k < l.length
      · obtain ⟨g, hpa, _, hg⟩ := own_addr HO.out (by omega)
        subst hpa
        have hx : l[k]? = some (l[k]'hlt) := List.getElem?_eq_getElem hlt
        have hc : wr.cell? ⟨g, k, none⟩ = some (.string (l[k]'hlt)) := by rw [World.ownsRow.cellAt HO.out k (by omega), List.getElem?_map, hx]; rfl
        have HL : Hid (l.take (k + 1) = l.take k ++ [l[k]'hlt]) := take_snoc_w hlt
        have HXS : Hid ((l[k]'hlt).size ≤ 1000000000000) := HSM.out _ (List.getElem_mem hlt)
        generalize l[k]'hlt = x at hc HL HXS
        obtain ⟨va, vc, rfl, _⟩ := own_form HN.out
        have ci := inCabin_any x wr HXS.out (HP.out.below hbel)
        have HSN : Hid (pairRow (prs (l.take (k + 1))) = pairRow (prs (l.take k)) ++ [.int .i64 (numOf (cutA 47 x)), .int .i64 (numOf (cutB 47 x))]) := by rw [HL.out]; exact prs_snoc _ _
        generalize numOf (cutA 47 x) = ca at ci HSN
        generalize numOf (cutB 47 x) = cb at ci HSN
        clear hx HL HXS
        go_wp2_with fail
        refine ci.mono ?_
        clear ci
        rintro e w3 ⟨rfl, hb3⟩
        have HN3 : Hid (World.ownsRow (w3.alloc (.cells #[.int .i64 ca, .int .i64 cb] 91)) w.heap.size 91 2 (.slice va k vc) k (pairRow (prs (l.take k)))) := own_below (push (Below.refl _ _) _) (own_below hb3 HN.out)
        have HO3 : Hid (OwnT (w3.alloc (.cells #[.int .i64 ca, .int .i64 cb] 91)) w.heap.size (.slice (some ⟨g, 0, none⟩) l.length pc) l) := own_below (push (Below.refl _ _) _) (own_below hb3 HO.out)
        have hb4 : Below w.heap.size w (w3.alloc (.cells #[.int .i64 ca, .int .i64 cb] 91)) := push (after hbel hb3) _
        have hsz := hb4.size
        clear HN HO hbel hb3 hc
        go_wp2_with (first | (at_builtin; refine wpList_append_any _ (by rfl) (.tmp 17) (.tmp 21) 47 (by rfl) w.heap.size 91 j0 (.agg #[.int .i64 0, .int .i64 0]) 2 16 Tryd.underlying47 ji jz0 jz1 jz2 rfl (by decide) _ k (pairRow (prs (l.take k))) (by rfl) HN3.out (some ⟨w3.heap.size, 0, none⟩) 1 1 [.int .i64 ca, .int .i64 cb] (by rfl) (fun h => by cases h) (by rfl) (fun ad h => by cases h; exact World.news_of_block (heap_alloc_new w3 _)) (by intro u hu; simp only [List.mem_cons, List.not_mem_nil, or_false] at hu; rcases hu with rfl | rfl <;> rfl) (by unfold maxLen; omega) (by omega) hsz ?_; intro v9 w9 ho9 hg9))
        have HN9 : Hid (World.ownsRow w9 w.heap.size 91 2 v9 (k + 1) (pairRow (prs (l.take (k + 1))))) := by
          rw [HSN.out]
          exact ho9
        have HO9 : Hid (OwnT w9 w.heap.size (.slice (some ⟨g, 0, none⟩) l.length pc) l) := (kept_row hg9).own HO3.out (fun g1 h1 e1 => own_apart HO3.out HN3.out (by decide) g1 h1 e1)
        have hb9 := hb4.grown hg9 hsz (fun j hj => (World.ownsRow.lt HN3.out j hj).1)
        clear HN3 HO3 hb4 ho9 hg9 hsz HSN
        go_roundw
        case rel => exact ⟨k + 1, by omega, by go_num, HN9.out, HO9.out, hb9⟩
        case measure => simp [intOf]; omega
      · obtain rfl : k = l.length := by omega
        have HF : Hid (PRd s l) := ⟨HPT.out.2, .inr ⟨HNE.out, HPT.out.1⟩⟩
        have hN := HN.out
        rw [List.take_of_length_le (Nat.le_refl _)] at hN
        have HN2 : Hid (wr.ownsRow w.heap.size 91 2 u5 l.length (pairRow (prs l))) := hN
        clear HN hN
        go_wp2
        go_ret
        exact ⟨_, _, rfl, HN2.out, HF, hbel⟩

end Go.Proofs.YtfbooamjddnagaaDoor

namespace Go.Proofs.YtfbooamjddnagaaDoor
open Go.RowKit

/-- A sailing as it is read, its lists as values and as parts. -/
structure SRc where
  id : Int
  fr : ByteArray
  dst : ByteArray
  dep : Int
  arr : Int
  vl : Value
  vc : Value
  la : List ByteArray
  lc : List ByteArray
  most : Int
def SRc.cs (x : SRc) : Array Value := #[.int .i64 x.id, .string x.fr, .string x.dst, .int .i64 x.dep, .int .i64 x.arr, x.vl, x.vc, .int .i64 x.most]
noncomputable def SRc.d (x : SRc) : Sail := ⟨x.id, x.fr, x.dst, x.dep, x.arr, prs x.la, prs x.lc, x.most⟩
theorem hd_drop (l : List ByteArray) (i : Nat) : hd (l.drop i) = wd l i := by
  unfold hd wd
  rw [List.headD_eq_head?_getD, List.head?_drop, List.getD_eq_getElem?_getD]
theorem next_at (b : Nat) (l : List ByteArray) (i : Nat) (w : World) (h : WSt w b (l.drop i)) :
    Calls Tryd.prog 82 #[.pointer (some ⟨b, 0, none⟩)] w fun e w' => e = .returned (.string (wd l i)) ∧ Hid (WSt w' b (l.drop (i + 1))) ∧ Kept w w' (fun k => k = b) := by
  have c := next_hd b (l.drop i) w h
  rw [hd_drop, List.tail_drop] at c
  exact c
theorem name_at (b : Nat) (l : List ByteArray) (i : Nat) (w : World) (h : WSt w b (l.drop i)) (hl : (wd l i).size ≤ 1048576) :
    Calls Tryd.prog 84 #[.pointer (some ⟨b, 0, none⟩)] w fun e w' => e = .returned (.string (wd l i)) ∧ Hid (WSt w' b (l.drop (i + 1))) ∧ Kept w w' (fun k => k = b) := by
  have c := name_hd b (l.drop i) w h (by rw [hd_drop]; exact hl)
  rw [hd_drop, List.tail_drop] at c
  exact c
theorem number_at (b : Nat) (l : List ByteArray) (i : Nat) (w : World) (h : WSt w b (l.drop i)) (hP : PowAt w) (hg : 4 ≠ b) :
    Calls Tryd.prog 83 #[.pointer (some ⟨b, 0, none⟩)] w fun e w' => e = .returned (.int .i64 (numOf (wd l i))) ∧ Hid (WSt w' b (l.drop (i + 1))) ∧ Kept w w' (fun k => k = b) := by
  have c := number_hd b (l.drop i) w h hP hg
  rw [hd_drop, List.tail_drop] at c
  exact c
theorem wd_size {l : List ByteArray} (hl : ∀ q, q ∈ l → q.size ≤ 1048576) (i : Nat) : (wd l i).size ≤ 1048576 := by
  unfold wd
  rw [List.getD_eq_getElem?_getD]
  cases h : l[i]? with
  | none => exact Nat.zero_le _
  | some q => exact hl q (List.mem_of_getElem? h)
/-- The sailing at hand in its box, beside the box of results and the words'. -/
structure SIn (w wx : World) (b rb ob : Nat) (x : SRc) (L : List ByteArray) : Prop where
  r : wx.heap[rb]? = some (.cells #[.int .i64 0, .string ⟨#[]⟩, .string ⟨#[]⟩, .int .i64 0, .int .i64 0, .slice none 0 0, .slice none 0 0, .int .i64 0] 49 (0, 0))
  o : wx.heap[ob]? = some (.cells x.cs 49 (0, 0))
  ws : WSt wx b L
  ne : rb ≠ ob
  lo : w.heap.size ≤ rb ∧ w.heap.size ≤ ob
  la : wx.ownsRow w.heap.size 89 2 x.vl x.la.length (pairRow (prs x.la))
  ca : wx.ownsRow w.heap.size 91 2 x.vc x.lc.length (pairRow (prs x.lc))
  kept : Kept w wx (fun g => g = b)
section
variable {w wx wy : World} {b rb ob : Nat} {x : SRc} {L L' : List ByteArray}
theorem SIn.below (h : SIn w wx b rb ob x L) (hb : Below wx.heap.size wx wy) : SIn w wy b rb ob x L :=
  ⟨blk_below h.r hb, blk_below h.o hb, h.ws.below hb, h.ne, h.lo, own_below hb h.la, own_below hb h.ca, h.kept.trans (Kept.of_below hb)⟩
theorem SIn.words (h : SIn w wx b rb ob x L) (hW : WSt wy b L') (hk : Kept wx wy (fun g => g = b)) : SIn w wy b rb ob x L' := by
  obtain ⟨_, _, h1, _⟩ := id h.ws
  exact ⟨hk.blk h.r (words_ne h.ws h.r (by decide)), hk.blk h.o (words_ne h.ws h.o (by decide)), hW, h.ne, h.lo, hk.own h.la (own_notT h.la h1 (by decide)), hk.own h.ca (own_notT h.ca h1 (by decide)), h.kept.trans hk⟩
theorem SIn.store (h : SIn w wx b rb ob x L) (i : Nat) (u : Value) (y : SRc) (hy : y.cs = x.cs.setIfInBounds i u) (hl : wx.ownsRow w.heap.size 89 2 y.vl y.la.length (pairRow (prs y.la))) (hc : wx.ownsRow w.heap.size 91 2 y.vc y.lc.length (pairRow (prs y.lc))) : SIn w (wx.setCell ⟨ob, i, none⟩ u) b rb ob y L := by
  have hk : Kept wx (wx.setCell ⟨ob, i, none⟩ u) (fun g => g = ob) := (Kept.refl wx (fun g => g = ob)).set (a := ⟨ob, i, none⟩) rfl u
  refine ⟨hk.blk h.r h.ne, ?_, ?_, h.ne, h.lo, hk.own hl (own_notT hl h.o (by decide)), hk.own hc (own_notT hc h.o (by decide)), ?_⟩
  · rw [hy]
    exact blk_set h.o i u
  · refine h.ws.kept hk (fun e => words_ne h.ws h.o (by decide) e.symm) (fun g cur hg e => ?_)
    have e : g = ob := e
    rw [e, h.o] at hg
    simp only [Option.some.injEq, Obj.cells.injEq] at hg
    exact absurd hg.2.1 (by decide)
  · refine ⟨h.kept.os, h.kept.tape, h.kept.output, by rw [World.size_setCell]; exact h.kept.size, fun g hg hn => ?_⟩
    rw [hk.block g (by have := h.kept.size; omega) (fun e => by have e : g = ob := e; have := h.lo.2; omega)]
    exact h.kept.block g hg hn
theorem SIn.done {z : World} (h : SIn w wx b rb ob x L) (hk : Kept wx z (fun g => g = rb)) : z.ownsRow w.heap.size 89 2 x.vl x.la.length (pairRow (prs x.la)) ∧ z.ownsRow w.heap.size 91 2 x.vc x.lc.length (pairRow (prs x.lc)) ∧ Kept w z (fun g => g = b) := by
  refine ⟨hk.own h.la (own_notT h.la h.r (by decide)), hk.own h.ca (own_notT h.ca h.r (by decide)), ⟨hk.os.trans h.kept.os, hk.tape.trans h.kept.tape, hk.output.trans h.kept.output, Nat.le_trans h.kept.size hk.size, fun g hg hn => ?_⟩⟩
  rw [hk.block g (by have := h.kept.size; omega) (fun e => by have e : g = rb := e; have := h.lo.1; omega)]
  exact h.kept.block g hg hn
end

set_option maxHeartbeats 6400000 in
set_option maxRecDepth 100000 in
theorem sailingIn_any (b : Nat) (l : List ByteArray) (w : World) (hl : ∀ q, q ∈ l → q.size ≤ 1048576) (h : WSt w b l) (hP : PowAt w) (hb1 : 4 ≠ b) :
    Calls Tryd.prog 59 #[.pointer (some ⟨b, 0, none⟩)] w fun e w' => ∃ x : SRc, e = .returned (.agg x.cs) ∧ w'.ownsRow w.heap.size 89 2 x.vl x.la.length (pairRow (prs x.la)) ∧ w'.ownsRow w.heap.size 91 2 x.vc x.lc.length (pairRow (prs x.lc)) ∧ Hid (x.d = readS l x.la x.lc ∧ PRd (wd l 7) x.la ∧ PRd (wd l 8) x.lc) ∧ Kept w w' (fun g => g = b) := by
  have HPB : Hid (∀ wx, Kept w wx (fun g => g = b) → PowAt wx) := fun wx hk => pow_kept (S := fun g => g = b) hP hk hb1
  have HSM : Hid (∀ i, (wd l i).size ≤ 1048576) := fun i => wd_size hl i
  have hr := heap_alloc_new w (.cells #[.int .i64 0, .string ⟨#[]⟩, .string ⟨#[]⟩, .int .i64 0, .int .i64 0, .slice none 0 0, .slice none 0 0, .int .i64 0] 49)
  have hb0 : Below w.heap.size w (w.alloc (.cells #[.int .i64 0, .string ⟨#[]⟩, .string ⟨#[]⟩, .int .i64 0, .int .i64 0, .slice none 0 0, .slice none 0 0, .int .i64 0] 49)) := push (Below.refl _ _) _
  have HWS : Hid (WSt (w.alloc (.cells #[.int .i64 0, .string ⟨#[]⟩, .string ⟨#[]⟩, .int .i64 0, .int .i64 0, .slice none 0 0, .slice none 0 0, .int .i64 0] 49)) b (l.drop 0)) := h.below hb0
  clear h hP hl
  go_enter Tryd.func59, Tryd.ntmps59
  go_upto_region 1 with fail
  generalize w.alloc (.cells #[.int .i64 0, .string ⟨#[]⟩, .string ⟨#[]⟩, .int .i64 0, .int .i64 0, .slice none 0 0, .slice none 0 0, .int .i64 0] 49) = W at hr hb0 HWS ⊢
  have hKW : Kept w W (fun g => g = b) := Kept.of_below hb0
  go_wp2_with fail
  refine (next_at b l 0 _ HWS.out).mono ?_
  rintro e w2 ⟨rfl, HW2, hk2⟩
  have hrb : ¬ w.heap.size = b := words_ne HWS.out hr (by decide)
  have hr2 := hk2.blk hr hrb
  have hK2 := hKW.trans hk2
  have hlt2 := blk_lt hr2
  clear hr hb0 HWS hKW hk2 hrb
  have b3 := heap_alloc_new w2 (.cells #[.int .i64 0, .string ⟨#[]⟩, .string ⟨#[]⟩, .int .i64 0, .int .i64 0, .slice none 0 0, .slice none 0 0, .int .i64 0] 49)
  have p3 : Below w2.heap.size w2 (w2.alloc (.cells #[.int .i64 0, .string ⟨#[]⟩, .string ⟨#[]⟩, .int .i64 0, .int .i64 0, .slice none 0 0, .slice none 0 0, .int .i64 0] 49)) := push (Below.refl _ _) _
  have HS0 : Hid (SIn w (w2.alloc (.cells #[.int .i64 0, .string ⟨#[]⟩, .string ⟨#[]⟩, .int .i64 0, .int .i64 0, .slice none 0 0, .slice none 0 0, .int .i64 0] 49)) b w.heap.size w2.heap.size ⟨0, ⟨#[]⟩, ⟨#[]⟩, 0, 0, .slice none 0 0, .slice none 0 0, [], [], 0⟩ (l.drop 1)) :=
    ⟨blk_below hr2 p3, b3, HW2.out.below p3, by omega, ⟨Nat.le_refl _, by omega⟩, World.ownsRow_nil _ _ _ _, World.ownsRow_nil _ _ _ _, hK2.trans (Kept.of_below p3)⟩
  clear hr2 hK2 b3 p3 HW2
  go_upto_region 3 with fail
  generalize w2.alloc (.cells #[.int .i64 0, .string ⟨#[]⟩, .string ⟨#[]⟩, .int .i64 0, .int .i64 0, .slice none 0 0, .slice none 0 0, .int .i64 0] 49) = W0 at HS0 ⊢
  generalize w2.heap.size = ob at HS0 hlt2 ⊢
  clear w2 W
  generalize w.heap.size = rb at HS0 hlt2 ⊢
  go_wp2_with fail
  refine (number_at b l 1 _ HS0.out.ws (HPB.out _ HS0.out.kept) hb1).mono ?_
  rintro e v0 ⟨rfl, HW, hk⟩
  have H5 : Hid (SIn w v0 b rb ob ⟨0, ⟨#[]⟩, ⟨#[]⟩, 0, 0, (.slice none 0 0), (.slice none 0 0), [], [], 0⟩ (l.drop 2)) := HS0.out.words HW.out hk
  have o5 := H5.out.o
  have x5 := blk_cell o5 0 _ rfl
  have g5 := blk_free o5 0
  have HS1 : Hid (SIn w (v0.setCell ⟨ob, 0, none⟩ (.int .i64 (numOf (wd l 1)))) b rb ob ⟨(numOf (wd l 1)), ⟨#[]⟩, ⟨#[]⟩, 0, 0, (.slice none 0 0), (.slice none 0 0), [], [], 0⟩ (l.drop 2)) := H5.out.store 0 (.int .i64 (numOf (wd l 1))) ⟨(numOf (wd l 1)), ⟨#[]⟩, ⟨#[]⟩, 0, 0, (.slice none 0 0), (.slice none 0 0), [], [], 0⟩ rfl H5.out.la H5.out.ca
  clear o5 H5 HW hk HS0
  go_upto_region 4 with fail
  generalize v0.setCell ⟨ob, 0, none⟩ (.int .i64 (numOf (wd l 1))) = W1 at HS1 ⊢
  clear x5 g5
  go_wp2_with fail
  refine (name_at b l 2 _ HS1.out.ws (HSM.out 2)).mono ?_
  rintro e v1 ⟨rfl, HW, hk⟩
  have H5 : Hid (SIn w v1 b rb ob ⟨(numOf (wd l 1)), ⟨#[]⟩, ⟨#[]⟩, 0, 0, (.slice none 0 0), (.slice none 0 0), [], [], 0⟩ (l.drop 3)) := HS1.out.words HW.out hk
  have o5 := H5.out.o
  have x5 := blk_cell o5 1 _ rfl
  have g5 := blk_free o5 1
  have HS2 : Hid (SIn w (v1.setCell ⟨ob, 1, none⟩ (.string (wd l 2))) b rb ob ⟨(numOf (wd l 1)), (wd l 2), ⟨#[]⟩, 0, 0, (.slice none 0 0), (.slice none 0 0), [], [], 0⟩ (l.drop 3)) := H5.out.store 1 (.string (wd l 2)) ⟨(numOf (wd l 1)), (wd l 2), ⟨#[]⟩, 0, 0, (.slice none 0 0), (.slice none 0 0), [], [], 0⟩ rfl H5.out.la H5.out.ca
  clear o5 H5 HW hk HS1
  go_upto_region 5 with fail
  generalize v1.setCell ⟨ob, 1, none⟩ (.string (wd l 2)) = W2 at HS2 ⊢
  clear x5 g5
  go_wp2_with fail
  refine (name_at b l 3 _ HS2.out.ws (HSM.out 3)).mono ?_
  rintro e v2 ⟨rfl, HW, hk⟩
  have H5 : Hid (SIn w v2 b rb ob ⟨(numOf (wd l 1)), (wd l 2), ⟨#[]⟩, 0, 0, (.slice none 0 0), (.slice none 0 0), [], [], 0⟩ (l.drop 4)) := HS2.out.words HW.out hk
  have o5 := H5.out.o
  have x5 := blk_cell o5 2 _ rfl
  have g5 := blk_free o5 2
  have HS3 : Hid (SIn w (v2.setCell ⟨ob, 2, none⟩ (.string (wd l 3))) b rb ob ⟨(numOf (wd l 1)), (wd l 2), (wd l 3), 0, 0, (.slice none 0 0), (.slice none 0 0), [], [], 0⟩ (l.drop 4)) := H5.out.store 2 (.string (wd l 3)) ⟨(numOf (wd l 1)), (wd l 2), (wd l 3), 0, 0, (.slice none 0 0), (.slice none 0 0), [], [], 0⟩ rfl H5.out.la H5.out.ca
  clear o5 H5 HW hk HS2
  go_upto_region 6 with fail
  generalize v2.setCell ⟨ob, 2, none⟩ (.string (wd l 3)) = W3 at HS3 ⊢
  clear x5 g5
  go_wp2_with fail
  refine (number_at b l 4 _ HS3.out.ws (HPB.out _ HS3.out.kept) hb1).mono ?_
  rintro e v3 ⟨rfl, HW, hk⟩
  have H5 : Hid (SIn w v3 b rb ob ⟨(numOf (wd l 1)), (wd l 2), (wd l 3), 0, 0, (.slice none 0 0), (.slice none 0 0), [], [], 0⟩ (l.drop 5)) := HS3.out.words HW.out hk
  have o5 := H5.out.o
  have x5 := blk_cell o5 3 _ rfl
  have g5 := blk_free o5 3
  have HS4 : Hid (SIn w (v3.setCell ⟨ob, 3, none⟩ (.int .i64 (numOf (wd l 4)))) b rb ob ⟨(numOf (wd l 1)), (wd l 2), (wd l 3), (numOf (wd l 4)), 0, (.slice none 0 0), (.slice none 0 0), [], [], 0⟩ (l.drop 5)) := H5.out.store 3 (.int .i64 (numOf (wd l 4))) ⟨(numOf (wd l 1)), (wd l 2), (wd l 3), (numOf (wd l 4)), 0, (.slice none 0 0), (.slice none 0 0), [], [], 0⟩ rfl H5.out.la H5.out.ca
  clear o5 H5 HW hk HS3
  go_upto_region 7 with fail
  generalize v3.setCell ⟨ob, 3, none⟩ (.int .i64 (numOf (wd l 4))) = W4 at HS4 ⊢
  clear x5 g5
  go_wp2_with fail
  refine (number_at b l 5 _ HS4.out.ws (HPB.out _ HS4.out.kept) hb1).mono ?_
  rintro e v4 ⟨rfl, HW, hk⟩
  have H5 : Hid (SIn w v4 b rb ob ⟨(numOf (wd l 1)), (wd l 2), (wd l 3), (numOf (wd l 4)), 0, (.slice none 0 0), (.slice none 0 0), [], [], 0⟩ (l.drop 6)) := HS4.out.words HW.out hk
  have o5 := H5.out.o
  have x5 := blk_cell o5 4 _ rfl
  have g5 := blk_free o5 4
  have HS5 : Hid (SIn w (v4.setCell ⟨ob, 4, none⟩ (.int .i64 (numOf (wd l 5)))) b rb ob ⟨(numOf (wd l 1)), (wd l 2), (wd l 3), (numOf (wd l 4)), (numOf (wd l 5)), (.slice none 0 0), (.slice none 0 0), [], [], 0⟩ (l.drop 6)) := H5.out.store 4 (.int .i64 (numOf (wd l 5))) ⟨(numOf (wd l 1)), (wd l 2), (wd l 3), (numOf (wd l 4)), (numOf (wd l 5)), (.slice none 0 0), (.slice none 0 0), [], [], 0⟩ rfl H5.out.la H5.out.ca
  clear o5 H5 HW hk HS4
  go_upto_region 8 with fail
  generalize v4.setCell ⟨ob, 4, none⟩ (.int .i64 (numOf (wd l 5))) = W5 at HS5 ⊢
  clear x5 g5
  go_wp2_with fail
  refine (number_at b l 6 _ HS5.out.ws (HPB.out _ HS5.out.kept) hb1).mono ?_
  rintro e v5 ⟨rfl, HW, hk⟩
  have H5 : Hid (SIn w v5 b rb ob ⟨(numOf (wd l 1)), (wd l 2), (wd l 3), (numOf (wd l 4)), (numOf (wd l 5)), (.slice none 0 0), (.slice none 0 0), [], [], 0⟩ (l.drop 7)) := HS5.out.words HW.out hk
  have o5 := H5.out.o
  have x5 := blk_cell o5 7 _ rfl
  have g5 := blk_free o5 7
  have HS6 : Hid (SIn w (v5.setCell ⟨ob, 7, none⟩ (.int .i64 (numOf (wd l 6)))) b rb ob ⟨(numOf (wd l 1)), (wd l 2), (wd l 3), (numOf (wd l 4)), (numOf (wd l 5)), (.slice none 0 0), (.slice none 0 0), [], [], (numOf (wd l 6))⟩ (l.drop 7)) := H5.out.store 7 (.int .i64 (numOf (wd l 6))) ⟨(numOf (wd l 1)), (wd l 2), (wd l 3), (numOf (wd l 4)), (numOf (wd l 5)), (.slice none 0 0), (.slice none 0 0), [], [], (numOf (wd l 6))⟩ rfl H5.out.la H5.out.ca
  clear o5 H5 HW hk HS5
  go_upto_region 9 with fail
  generalize v5.setCell ⟨ob, 7, none⟩ (.int .i64 (numOf (wd l 6))) = W6 at HS6 ⊢
  clear x5 g5
  go_wp2_with fail
  refine (next_at b l 7 _ HS6.out.ws).mono ?_
  rintro e z6 ⟨rfl, HW, hk⟩
  have H4 : Hid (SIn w z6 b rb ob ⟨(numOf (wd l 1)), (wd l 2), (wd l 3), (numOf (wd l 4)), (numOf (wd l 5)), (.slice none 0 0), (.slice none 0 0), [], [], (numOf (wd l 6))⟩ (l.drop 8)) := HS6.out.words HW.out hk
  clear HW hk HS6
  go_wp2_with fail
  refine (listLaneIn_any (wd l 7) _ (HSM.out 7) (HPB.out _ H4.out.kept)).mono ?_
  rintro e v6 ⟨vv, pl, rfl, ho, HRLane, hb5⟩
  have H5 : Hid (SIn w v6 b rb ob ⟨(numOf (wd l 1)), (wd l 2), (wd l 3), (numOf (wd l 4)), (numOf (wd l 5)), (.slice none 0 0), (.slice none 0 0), [], [], (numOf (wd l 6))⟩ (l.drop 8)) := H4.out.below hb5
  have HO5 : Hid (v6.ownsRow w.heap.size 89 2 vv pl.length (pairRow (prs pl))) := own_base ho H4.out.kept.size
  obtain ⟨a6, c6, rfl, _⟩ := own_form ho
  clear ho hb5 H4
  have o5 := H5.out.o
  have x5 := blk_cell o5 5 _ rfl
  have g5 := blk_free o5 5
  have HS7 : Hid (SIn w (v6.setCell ⟨ob, 5, none⟩ (.slice a6 pl.length c6)) b rb ob ⟨(numOf (wd l 1)), (wd l 2), (wd l 3), (numOf (wd l 4)), (numOf (wd l 5)), (.slice a6 pl.length c6), (.slice none 0 0), pl, [], (numOf (wd l 6))⟩ (l.drop 8)) := H5.out.store 5 (.slice a6 pl.length c6) ⟨(numOf (wd l 1)), (wd l 2), (wd l 3), (numOf (wd l 4)), (numOf (wd l 5)), (.slice a6 pl.length c6), (.slice none 0 0), pl, [], (numOf (wd l 6))⟩ rfl HO5.out H5.out.ca
  clear o5 H5 HO5
  go_upto_region 10 with fail
  generalize v6.setCell ⟨ob, 5, none⟩ (.slice a6 pl.length c6) = W7 at HS7 ⊢
  clear x5 g5
  go_wp2_with fail
  refine (next_at b l 8 _ HS7.out.ws).mono ?_
  rintro e z7 ⟨rfl, HW, hk⟩
  have H4 : Hid (SIn w z7 b rb ob ⟨(numOf (wd l 1)), (wd l 2), (wd l 3), (numOf (wd l 4)), (numOf (wd l 5)), (.slice a6 pl.length c6), (.slice none 0 0), pl, [], (numOf (wd l 6))⟩ (l.drop 9)) := HS7.out.words HW.out hk
  clear HW hk HS7
  go_wp2_with fail
  refine (listCabinIn_any (wd l 8) _ (HSM.out 8) (HPB.out _ H4.out.kept)).mono ?_
  rintro e v7 ⟨vv, pc, rfl, ho, HRCabin, hb5⟩
  have H5 : Hid (SIn w v7 b rb ob ⟨(numOf (wd l 1)), (wd l 2), (wd l 3), (numOf (wd l 4)), (numOf (wd l 5)), (.slice a6 pl.length c6), (.slice none 0 0), pl, [], (numOf (wd l 6))⟩ (l.drop 9)) := H4.out.below hb5
  have HO5 : Hid (v7.ownsRow w.heap.size 91 2 vv pc.length (pairRow (prs pc))) := own_base ho H4.out.kept.size
  obtain ⟨a7, c7, rfl, _⟩ := own_form ho
  clear ho hb5 H4
  have o5 := H5.out.o
  have x5 := blk_cell o5 6 _ rfl
  have g5 := blk_free o5 6
  have HS8 : Hid (SIn w (v7.setCell ⟨ob, 6, none⟩ (.slice a7 pc.length c7)) b rb ob ⟨(numOf (wd l 1)), (wd l 2), (wd l 3), (numOf (wd l 4)), (numOf (wd l 5)), (.slice a6 pl.length c6), (.slice a7 pc.length c7), pl, pc, (numOf (wd l 6))⟩ (l.drop 9)) := H5.out.store 6 (.slice a7 pc.length c7) ⟨(numOf (wd l 1)), (wd l 2), (wd l 3), (numOf (wd l 4)), (numOf (wd l 5)), (.slice a6 pl.length c6), (.slice a7 pc.length c7), pl, pc, (numOf (wd l 6))⟩ rfl H5.out.la HO5.out
  clear o5 H5 HO5
  go_upto_region 11 with fail
  generalize v7.setCell ⟨ob, 6, none⟩ (.slice a7 pc.length c7) = W8 at HS8 ⊢
  clear x5 g5
  have HRD : Hid (SRc.d ⟨(numOf (wd l 1)), (wd l 2), (wd l 3), (numOf (wd l 4)), (numOf (wd l 5)), (.slice a6 pl.length c6), (.slice a7 pc.length c7), pl, pc, (numOf (wd l 6))⟩ = readS l pl pc ∧ PRd (wd l 7) pl ∧ PRd (wd l 8) pc) := ⟨rfl, HRLane.out, HRCabin.out⟩
  have hr8 := HS8.out.r
  have ho8 : W8.heap[ob]? = some (.cells #[.int .i64 (numOf (wd l 1)), .string (wd l 2), .string (wd l 3), .int .i64 (numOf (wd l 4)), .int .i64 (numOf (wd l 5)), .slice a6 pl.length c6, .slice a7 pc.length c7, .int .i64 (numOf (wd l 6))] 49 (0, 0)) := HS8.out.o
  have s0 := blk_cell hr8 0 _ rfl
  have g0 := blk_free hr8 0
  have p0 := blk_cell ho8 0 _ rfl
  have s1 := blk_cell hr8 1 _ rfl
  have g1 := blk_free hr8 1
  have p1 := blk_cell ho8 1 _ rfl
  have s2 := blk_cell hr8 2 _ rfl
  have g2 := blk_free hr8 2
  have p2 := blk_cell ho8 2 _ rfl
  have s3 := blk_cell hr8 3 _ rfl
  have g3 := blk_free hr8 3
  have p3 := blk_cell ho8 3 _ rfl
  have s4 := blk_cell hr8 4 _ rfl
  have g4 := blk_free hr8 4
  have p4 := blk_cell ho8 4 _ rfl
  have s5 := blk_cell hr8 5 _ rfl
  have g5 := blk_free hr8 5
  have p5 := blk_cell ho8 5 _ rfl
  have s6 := blk_cell hr8 6 _ rfl
  have g6 := blk_free hr8 6
  have p6 := blk_cell ho8 6 _ rfl
  have s7 := blk_cell hr8 7 _ rfl
  have g7 := blk_free hr8 7
  have p7 := blk_cell ho8 7 _ rfl
  have rF := box_8 hr8 (.int .i64 (numOf (wd l 1))) (.string (wd l 2)) (.string (wd l 3)) (.int .i64 (numOf (wd l 4))) (.int .i64 (numOf (wd l 5))) (.slice a6 pl.length c6) (.slice a7 pc.length c7) (.int .i64 (numOf (wd l 6)))
  have HFD : Hid _ := HS8.out.done (keep_8 W8 rb (.int .i64 (numOf (wd l 1))) (.string (wd l 2)) (.string (wd l 3)) (.int .i64 (numOf (wd l 4))) (.int .i64 (numOf (wd l 5))) (.slice a6 pl.length c6) (.slice a7 pc.length c7) (.int .i64 (numOf (wd l 6))))
  clear hr8 ho8
  go_wp2
  have t0 := blk_cell rF 0 _ rfl
  have t1 := blk_cell rF 1 _ rfl
  have t2 := blk_cell rF 2 _ rfl
  have t3 := blk_cell rF 3 _ rfl
  have t4 := blk_cell rF 4 _ rfl
  have t5 := blk_cell rF 5 _ rfl
  have t6 := blk_cell rF 6 _ rfl
  have t7 := blk_cell rF 7 _ rfl
  refine bodyPost_ret (v := .agg #[.int .i64 (numOf (wd l 1)), .string (wd l 2), .string (wd l 3), .int .i64 (numOf (wd l 4)), .int .i64 (numOf (wd l 5)), .slice a6 pl.length c6, .slice a7 pc.length c7, .int .i64 (numOf (wd l 6))]) (by simp [results, Tryd.results59, go_sem, t0, t1, t2, t3, t4, t5, t6, t7]) rfl ?_
  exact ⟨⟨(numOf (wd l 1)), (wd l 2), (wd l 3), (numOf (wd l 4)), (numOf (wd l 5)), (.slice a6 pl.length c6), (.slice a7 pc.length c7), pl, pc, (numOf (wd l 6))⟩, rfl, HFD.out.1, HFD.out.2.1, HRD, HFD.out.2.2⟩

end Go.Proofs.YtfbooamjddnagaaDoor
