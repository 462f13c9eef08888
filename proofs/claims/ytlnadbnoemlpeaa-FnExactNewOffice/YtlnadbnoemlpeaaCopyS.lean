/-
  OWN TEXT: contracts of the program's copySailing and copyEach at sailings.
-/
import Derived.Test.YtlnadbnoemlpeaaCloneP
import Derived.Deep.RegionWith
import Derived.Deep.RegionHeld3
import Derived.Deep.DeepCutAuto
namespace Go.Proofs.Ytlnadbnoemlpeaa
open Go.RowKit

theorem box_5 {w : World} {g t : Nat} {u0 u1 u2 u3 u4 u5 u6 u7 : Value} (h : w.heap[g]? = some (.cells #[u0, u1, u2, u3, u4, u5, u6, u7] t (0, 0))) (v : Value) : (w.setCell ⟨g, 5, none⟩ v).heap[g]? = some (.cells #[u0, u1, u2, u3, u4, v, u6, u7] t (0, 0)) := by simpa using blk_set h 5 v
theorem box_6 {w : World} {g t : Nat} {u0 u1 u2 u3 u4 u5 u6 u7 : Value} (h : w.heap[g]? = some (.cells #[u0, u1, u2, u3, u4, u5, u6, u7] t (0, 0))) (v : Value) : (w.setCell ⟨g, 6, none⟩ v).heap[g]? = some (.cells #[u0, u1, u2, u3, u4, u5, v, u7] t (0, 0)) := by simpa using blk_set h 6 v

theorem own_set8 {w : World} {base e size n g o : Nat} {v v0 v1 v2 v3 v4 v5 v6 v7 : Value} {xs : List Value} (h : w.ownsRow base e size v n xs) (hg : g < base) : (set8 w g o v0 v1 v2 v3 v4 v5 v6 v7).ownsRow base e size v n xs := by
  unfold set8
  exact own_set (own_set (own_set (own_set (own_set (own_set (own_set (own_set h (a := ⟨g, o, none⟩) hg _) (a := ⟨g, o + 1, none⟩) hg _) (a := ⟨g, o + 2, none⟩) hg _) (a := ⟨g, o + 3, none⟩) hg _) (a := ⟨g, o + 4, none⟩) hg _) (a := ⟨g, o + 5, none⟩) hg _) (a := ⟨g, o + 6, none⟩) hg _) (a := ⟨g, o + 7, none⟩) hg _

set_option maxHeartbeats 3200000 in
set_option maxRecDepth 100000 in
theorem copySailing_any (s : Sail) (la ca : Option Addr) (lc cc : Nat) (w : World) (h1 : s.la.n ≤ 1048576) (h2 : s.ca.n ≤ 1048576) (hla : PairsAt w la s.la) (hca : PairsAt w ca s.ca) (sla : SliceOk la s.la.n lc) (sca : SliceOk ca s.ca.n cc) :
    Calls Try.prog 19 #[.agg #[.int .i64 s.id, .string s.fr, .string s.dst, .int .i64 s.dep, .int .i64 s.arr, .slice la s.la.n lc, .slice ca s.ca.n cc, .int .i64 s.most]] w fun e w' =>
      (∃ lv cv, e = .returned (.agg #[.int .i64 s.id, .string s.fr, .string s.dst, .int .i64 s.dep, .int .i64 s.arr, lv, cv, .int .i64 s.most]) ∧ w'.ownsRow w.heap.size 77 2 lv s.la.n (pairRow s.la) ∧ w'.ownsRow w.heap.size 80 2 cv s.ca.n (pairRow s.ca)) ∧ Below w.heap.size w w' := by
  have HLA : Hid (PairsAt w la s.la ∧ SliceOk la s.la.n lc) := ⟨hla, sla⟩
  have HCA : Hid (PairsAt w ca s.ca ∧ SliceOk ca s.ca.n cc) := ⟨hca, sca⟩
  clear hla hca sla sca
  have hb0 : Below w.heap.size w ((w.alloc (.cells #[.int .i64 s.id, .string s.fr, .string s.dst, .int .i64 s.dep, .int .i64 s.arr, .slice la s.la.n lc, .slice ca s.ca.n cc, .int .i64 s.most] 47)).alloc (.cells #[.int .i64 0, .string ⟨#[]⟩, .string ⟨#[]⟩, .int .i64 0, .int .i64 0, .slice none 0 0, .slice none 0 0, .int .i64 0] 47)) := push (push (Below.refl _ _) _) _
  have bS : ((w.alloc (.cells #[.int .i64 s.id, .string s.fr, .string s.dst, .int .i64 s.dep, .int .i64 s.arr, .slice la s.la.n lc, .slice ca s.ca.n cc, .int .i64 s.most] 47)).alloc (.cells #[.int .i64 0, .string ⟨#[]⟩, .string ⟨#[]⟩, .int .i64 0, .int .i64 0, .slice none 0 0, .slice none 0 0, .int .i64 0] 47)).heap[w.heap.size]? = some (.cells #[.int .i64 s.id, .string s.fr, .string s.dst, .int .i64 s.dep, .int .i64 s.arr, .slice la s.la.n lc, .slice ca s.ca.n cc, .int .i64 s.most] 47 (0, 0)) := blk_alloc (heap_alloc_new w _) _
  have bR : ((w.alloc (.cells #[.int .i64 s.id, .string s.fr, .string s.dst, .int .i64 s.dep, .int .i64 s.arr, .slice la s.la.n lc, .slice ca s.ca.n cc, .int .i64 s.most] 47)).alloc (.cells #[.int .i64 0, .string ⟨#[]⟩, .string ⟨#[]⟩, .int .i64 0, .int .i64 0, .slice none 0 0, .slice none 0 0, .int .i64 0] 47)).heap[w.heap.size + 1]? = some (.cells #[.int .i64 0, .string ⟨#[]⟩, .string ⟨#[]⟩, .int .i64 0, .int .i64 0, .slice none 0 0, .slice none 0 0, .int .i64 0] 47 (0, 0)) := by simpa using heap_alloc_new (w.alloc _) _
  go_enter Try.func19, Try.ntmps19
  go_upto_region 1 with fail
  generalize (w.alloc (.cells #[.int .i64 s.id, .string s.fr, .string s.dst, .int .i64 s.dep, .int .i64 s.arr, .slice la s.la.n lc, .slice ca s.ca.n cc, .int .i64 s.most] 47)).alloc (.cells #[.int .i64 0, .string ⟨#[]⟩, .string ⟨#[]⟩, .int .i64 0, .int .i64 0, .slice none 0 0, .slice none 0 0, .int .i64 0] 47) = X at hb0 bS bR ⊢
  have KB : Hid (∀ w', Below X.heap.size X w' → w'.heap[w.heap.size]? = some (.cells #[.int .i64 s.id, .string s.fr, .string s.dst, .int .i64 s.dep, .int .i64 s.arr, .slice la s.la.n lc, .slice ca s.ca.n cc, .int .i64 s.most] 47 (0, 0))) := fun w' h => blk_below bS h
  have HC1 : Hid (∀ w', Below X.heap.size X w' → Calls Try.prog 38 #[.slice la s.la.n lc] w' fun e w2 => (∃ a c, e = .returned (.slice a s.la.n c) ∧ w2.ownsRow X.heap.size 77 2 (.slice a s.la.n c) s.la.n (pairRow s.la)) ∧ Below w'.heap.size w' w2) := fun w' h => (cloneLane la lc s.la w' h1 (HLA.out.1.below (after hb0 h)) HLA.out.2.2.2).mono fun _ _ ⟨⟨v, e, ho⟩, hb⟩ => by
    obtain ⟨a, c, rfl, _⟩ := own_form ho
    exact ⟨⟨a, c, e, own_base ho h.size⟩, hb⟩
  have HC2 : Hid (∀ w', Below X.heap.size X w' → Calls Try.prog 39 #[.slice ca s.ca.n cc] w' fun e w2 => (∃ a c, e = .returned (.slice a s.ca.n c) ∧ w2.ownsRow X.heap.size 80 2 (.slice a s.ca.n c) s.ca.n (pairRow s.ca)) ∧ Below w'.heap.size w' w2) := fun w' h => (cloneCabin ca cc s.ca w' h2 (HCA.out.1.below (after hb0 h)) HCA.out.2.2.2).mono fun _ _ ⟨⟨v, e, ho⟩, hb⟩ => by
    obtain ⟨a, c, rfl, _⟩ := own_form ho
    exact ⟨⟨a, c, e, own_base ho h.size⟩, hb⟩
  have s5 := blk_cell bS 5 _ rfl
  have s6 := blk_cell bS 6 _ rfl
  have hlt := blk_lt bS
  have hXw : w.heap.size < X.heap.size := hlt
  go_cut [1] (fun p wx => p = .pointer (some ⟨w.heap.size, 0, none⟩) ∧ ∃ lv cv, wx.heap[w.heap.size]? = some (.cells #[.int .i64 s.id, .string s.fr, .string s.dst, .int .i64 s.dep, .int .i64 s.arr, lv, cv, .int .i64 s.most] 47 (0, 0)) ∧ wx.ownsRow X.heap.size 77 2 lv s.la.n (pairRow s.la) ∧ wx.ownsRow X.heap.size 80 2 cv s.ca.n (pairRow s.ca) ∧ Kept X wx (fun b => b = w.heap.size))
  case first =>
    go_region_with (first
      | (go_at_call 38; refine Calls.mono (HC1.out _ (by repeat (first | exact Below.refl _ _ | refine Below.drew ?_ | refine after ?_ hb4 | refine after ?_ hb5))) ?_; rintro e w4 ⟨⟨a4, c4, rfl, ho4⟩, hb4⟩; have z4 := KB.out w4 (by repeat (first | exact Below.refl _ _ | refine Below.drew ?_ | refine after ?_ hb4 | refine after ?_ hb5)); have o5 := blk_cell z4 5 _ rfl; have o6 := blk_cell z4 6 _ rfl; have f5 := blk_free z4 5; have f6 := blk_free z4 6)
      | (go_at_call 39; refine Calls.mono (HC2.out _ (by repeat (first | exact Below.refl _ _ | refine Below.drew ?_ | refine after ?_ hb4 | refine after ?_ hb5))) ?_; rintro e w5 ⟨⟨a5, c5, rfl, ho5⟩, hb5⟩; have z5 := KB.out w5 (by repeat (first | exact Below.refl _ _ | refine Below.drew ?_ | refine after ?_ hb4 | refine after ?_ hb5)); have p5 := blk_cell z5 5 _ rfl; have p6 := blk_cell z5 6 _ rfl; have g5 := blk_free z5 5; have g6 := blk_free z5 6))
    all_goals
      go_wp2
      go_meet
      exact ⟨rfl, _, _, box_6 (box_5 z5 _) _, own_set (own_set (own_below (w := w4) (by repeat (first | exact Below.refl _ _ | refine Below.drew ?_ | refine after ?_ hb5)) ho4) (a := ⟨w.heap.size, 5, none⟩) hXw _) (a := ⟨w.heap.size, 6, none⟩) hXw _, own_set (own_set ho5 (a := ⟨w.heap.size, 5, none⟩) hXw _) (a := ⟨w.heap.size, 6, none⟩) hXw _,
        ((Kept.of_below (w := X) (w' := w5) (S := fun b => b = w.heap.size) (by repeat (first | exact Below.refl _ _ | refine Below.drew ?_ | refine after ?_ hb4 | refine after ?_ hb5))).set (a := ⟨w.heap.size, 5, none⟩) rfl _).set (a := ⟨w.heap.size, 6, none⟩) rfl _⟩
  case rest =>
    obtain ⟨rfl, lv, cv, bS2, hl, hc, hk⟩ := hcut
    obtain ⟨a4, c4, rfl, _⟩ := own_form hl
    obtain ⟨a5, c5, rfl, _⟩ := own_form hc
    have bR2 := hk.blk bR (by show ¬ (w.heap.size + 1 = w.heap.size); omega)
    have hbe : Below w.heap.size w wc := Kept.below hb0 hb0.size hk (fun b e => by have e : b = w.heap.size := e; omega)
    have hR : w.heap.size + 1 < X.heap.size := blk_lt bR
    have HL : Hid (wc.ownsRow X.heap.size 77 2 (.slice a4 s.la.n c4) s.la.n (pairRow s.la)) := hl
    have HC : Hid (wc.ownsRow X.heap.size 80 2 (.slice a5 s.ca.n c5) s.ca.n (pairRow s.ca)) := hc
    clear hl hc hk KB HC1 HC2 s5 s6 bS bR
    have y0 := blk_cell bS2 0 _ rfl
    have y1 := blk_cell bS2 1 _ rfl
    have y2 := blk_cell bS2 2 _ rfl
    have y3 := blk_cell bS2 3 _ rfl
    have y4 := blk_cell bS2 4 _ rfl
    have y5 := blk_cell bS2 5 _ rfl
    have y6 := blk_cell bS2 6 _ rfl
    have y7 := blk_cell bS2 7 _ rfl
    have r0 := blk_cell bR2 0 _ rfl
    have r1 := blk_cell bR2 1 _ rfl
    have r2 := blk_cell bR2 2 _ rfl
    have r3 := blk_cell bR2 3 _ rfl
    have r4 := blk_cell bR2 4 _ rfl
    have r5 := blk_cell bR2 5 _ rfl
    have r6 := blk_cell bR2 6 _ rfl
    have r7 := blk_cell bR2 7 _ rfl
    have f0 := blk_free bR2 0
    have f1 := blk_free bR2 1
    have f2 := blk_free bR2 2
    have f3 := blk_free bR2 3
    have f4 := blk_free bR2 4
    have f5 := blk_free bR2 5
    have f6 := blk_free bR2 6
    have f7 := blk_free bR2 7
    go_wp2
    obtain ⟨F, hF⟩ : ∃ F, F = set8 wc (w.heap.size + 1) 0 (.int .i64 s.id) (.string s.fr) (.string s.dst) (.int .i64 s.dep) (.int .i64 s.arr) (.slice a4 s.la.n c4) (.slice a5 s.ca.n c5) (.int .i64 s.most) := ⟨_, rfl⟩
    have rF : F.heap[w.heap.size + 1]? = some (.cells #[.int .i64 s.id, .string s.fr, .string s.dst, .int .i64 s.dep, .int .i64 s.arr, .slice a4 s.la.n c4, .slice a5 s.ca.n c5, .int .i64 s.most] 47 (0, 0)) := by rw [hF]; exact set8_blk bR2
    have HL2 : F.ownsRow w.heap.size 77 2 (.slice a4 s.la.n c4) s.la.n (pairRow s.la) := by rw [hF]; exact own_base (own_set8 HL.out hR) hb0.size
    have HC2 : F.ownsRow w.heap.size 80 2 (.slice a5 s.ca.n c5) s.ca.n (pairRow s.ca) := by rw [hF]; exact own_base (own_set8 HC.out hR) hb0.size
    have hFb : Below w.heap.size w F := by rw [hF]; exact set8_below hbe (by omega)
    have hF' : F = ((((((((wc.setCell ⟨w.heap.size + 1, 0, none⟩ (.int .i64 s.id)).setCell ⟨w.heap.size + 1, 1, none⟩ (.string s.fr)).setCell ⟨w.heap.size + 1, 2, none⟩ (.string s.dst)).setCell ⟨w.heap.size + 1, 3, none⟩ (.int .i64 s.dep)).setCell ⟨w.heap.size + 1, 4, none⟩ (.int .i64 s.arr)).setCell ⟨w.heap.size + 1, 5, none⟩ (.slice a4 s.la.n c4)).setCell ⟨w.heap.size + 1, 6, none⟩ (.slice a5 s.ca.n c5)).setCell ⟨w.heap.size + 1, 7, none⟩ (.int .i64 s.most)) := hF
    rw [← hF']
    clear hF hF'
    have z0 := blk_cell rF 0 _ rfl
    have z1 := blk_cell rF 1 _ rfl
    have z2 := blk_cell rF 2 _ rfl
    have z3 := blk_cell rF 3 _ rfl
    have z4 := blk_cell rF 4 _ rfl
    have z5 := blk_cell rF 5 _ rfl
    have z6 := blk_cell rF 6 _ rfl
    have z7 := blk_cell rF 7 _ rfl
    exact bodyPost_ret (v := .agg #[.int .i64 s.id, .string s.fr, .string s.dst, .int .i64 s.dep, .int .i64 s.arr, .slice a4 s.la.n c4, .slice a5 s.ca.n c5, .int .i64 s.most]) (by simp [results, Try.results19, go_sem, z0, z1, z2, z3, z4, z5, z6, z7]) rfl ⟨⟨_, _, rfl, HL2, HC2⟩, hFb⟩

/-- f, with u at place q. -/
def atV (f : Nat → Value) (q : Nat) (u : Value) (i : Nat) : Value := if i = q then u else f i
theorem atV_at (f : Nat → Value) (q : Nat) (u : Value) : atV f q u q = u := if_pos rfl
theorem atV_ne (f : Nat → Value) (q : Nat) (u : Value) (i : Nat) (h : i ≠ q) : atV f q u i = f i := if_neg h

/-- The first k of N sailings have been copied into the row g. -/
structure EachTo (w : World) (base g k N : Nat) (S : Nat → Sail) (L C : Nat → Value) : Prop where
  row : w.rowIs g 47 (N * 8) (sailCell (upto k S Sail.zero) (upto k L (.slice none 0 0)) (upto k C (.slice none 0 0)))
  gb : base ≤ g
  la : ∀ i, i < k → w.ownsRow (g + 1) 77 2 (L i) (S i).la.n (pairRow (S i).la)
  ca : ∀ i, i < k → w.ownsRow (g + 1) 80 2 (C i) (S i).ca.n (pairRow (S i).ca)
  apart : ∀ i j, i < j → j < k → (∀ b, (L i).ownBlock = some b → (L j).ownBlock ≠ some b) ∧ (∀ b, (C i).ownBlock = some b → (C j).ownBlock ≠ some b)
theorem EachTo.below {w w' : World} {base g k N : Nat} {S : Nat → Sail} {L C : Nat → Value} (h : EachTo w base g k N S L C) (hb : Below w.heap.size w w') : EachTo w' base g k N S L C :=
  ⟨row_below h.row hb, h.gb, fun i hi => own_below hb (h.la i hi), fun i hi => own_below hb (h.ca i hi), h.apart⟩
theorem EachTo.own {w : World} {base g N : Nat} {S : Nat → Sail} {L C : Nat → Value} (h : EachTo w base g N N S L C) (hN : N ≤ maxLen) : OwnSails w base (.slice (some ⟨g, 0, none⟩) N N) N S L C := by
  refine ⟨?_, fun i hi => own_base (h.la i hi) (Nat.le_succ_of_le h.gb), fun i hi => own_base (h.ca i hi) (Nat.le_succ_of_le h.gb), h.apart⟩
  refine own_congr (own_of_row h.row h.gb hN) (fun j hj => ?_)
  have hj8 : j / 8 < N := by omega
  unfold sailCell
  rw [upto_lt _ _ hj8, upto_lt _ _ hj8, upto_lt _ _ hj8]
theorem EachTo.step {w w2 : World} {base g k N : Nat} {S : Nat → Sail} {L C : Nat → Value} {lv cv : Value} (h : EachTo w base g k N S L C) (hb : Below w.heap.size w w2) (hk : k < N)
    (hl : w2.ownsRow w.heap.size 77 2 lv (S k).la.n (pairRow (S k).la)) (hc : w2.ownsRow w.heap.size 80 2 cv (S k).ca.n (pairRow (S k).ca)) :
    EachTo (set8 w2 g (k * 8) (.int .i64 (S k).id) (.string (S k).fr) (.string (S k).dst) (.int .i64 (S k).dep) (.int .i64 (S k).arr) lv cv (.int .i64 (S k).most)) base g (k + 1) N S (atV L k lv) (atV C k cv) := by
  have hg : g < w.heap.size := h.row.lt
  have h2 := h.below hb
  refine ⟨?_, h.gb, fun i hi => ?_, fun i hi => ?_, fun i j hij hj => ?_⟩
  · have key := sail_set (k := k) (S' := upto (k + 1) S Sail.zero) (ls' := upto (k + 1) (atV L k lv) (.slice none 0 0)) (cs' := upto (k + 1) (atV C k cv) (.slice none 0 0)) h2.row (fun i hi => ?_) (fun i hi => ?_) (fun i hi => ?_)
    · rw [upto_lt _ _ (by omega), upto_lt _ _ (by omega), upto_lt _ _ (by omega), atV_at, atV_at] at key
      exact key
    all_goals
      unfold upto
      by_cases c : i < k
      · rw [if_pos c, if_pos (by omega)]
        try rw [atV_ne _ _ _ _ hi]
      · rw [if_neg c, if_neg (by omega)]
  · by_cases e : i = k
    · subst e; rw [atV_at]; exact own_set8 (own_base hl (by omega)) (by omega)
    · rw [atV_ne _ _ _ _ e]; exact own_set8 (h2.la i (by omega)) (by omega)
  · by_cases e : i = k
    · subst e; rw [atV_at]; exact own_set8 (own_base hc (by omega)) (by omega)
    · rw [atV_ne _ _ _ _ e]; exact own_set8 (h2.ca i (by omega)) (by omega)
  · by_cases e : j = k
    · subst e
      rw [atV_at, atV_at, atV_ne _ _ _ _ (by omega), atV_ne _ _ _ _ (by omega)]
      refine ⟨fun b h1 h3 => ?_, fun b h1 h3 => ?_⟩
      · have a := ((h.la i hij).lt b h1).2
        have c := (hl.lt b h3).1
        omega
      · have a := ((h.ca i hij).lt b h1).2
        have c := (hc.lt b h3).1
        omega
    · rw [atV_ne _ _ _ _ e, atV_ne _ _ _ _ e, atV_ne _ _ _ _ (by omega), atV_ne _ _ _ _ (by omega)]
      exact h.apart i j hij (by omega)

set_option maxHeartbeats 3200000 in
set_option maxRecDepth 100000 in
theorem copyEach_any (ao : Option Addr) (N c : Nat) (S : Nat → Sail) (w : World) (hN : N ≤ 1048576) (hs : ShortAll N S 1048576) (hz : SailsAt w ao N S) :
    Calls Try.prog 18 #[.slice ao N c, .func (.func 19) #[] #[]] w fun e w' => (∃ g L C, e = .returned (.slice (some ⟨g, 0, none⟩) N N) ∧ OwnSails w' w.heap.size (.slice (some ⟨g, 0, none⟩) N N) N S L C) ∧ Below w.heap.size w w' := by
  obtain ⟨i0, hi, hz0, hz1, hz2⟩ := info_parts Try.infoSailing
  have HS : Hid (ShortAll N S 1048576) := hs
  have HZ : Hid (SailsAt w ao N S) := hz
  clear hs hz
  go_enter Try.func18, Try.ntmps18
  go_wp2_with (first | (at_make; refine wpList_make_full _ rfl _ _ 24 rfl w.heap.size 47 i0 _ 8 Try.underlying24 hi hz0 hz1 .i64 .i64 _ _ N rfl rfl rfl rfl (by rw [hz2]; omega) (by unfold maxLen; omega) (Nat.le_refl _) ?_; intro w1 hown1 hgrow1))
  go_loopw [6, 7, 13] (fun _ _ i wr => ∃ (k : Nat) (L C : Nat → Value), k ≤ N ∧ i = .int .i64 k ∧ EachTo wr w.heap.size w.heap.size k N S L C ∧ Below w.heap.size w wr) (fun _ _ i _ => N - (intOf i).toNat)
  case atStart => exact ⟨0, fun _ => .slice none 0 0, fun _ => .slice none 0 0, Nat.zero_le _, rfl, ⟨(row_of_own hown1).congr (fun j hj => made_sails N j hj), Nat.le_refl _, fun i hi => by omega, fun i hi => by omega, fun i j _ hj => by omega⟩, (Below.refl _ _).grown hgrow1 (Nat.le_refl _) (by simp)⟩
  case round =>
    obtain ⟨k, L, C, hk, rfl, hrow, hbel⟩ := hrel
    clear hown1 hgrow1
    by_cases hlt : k < N
    · obtain ⟨b, off, la, lc, ca, cc, rfl, h0, h1, h2, h3, h4, h5, h6, h7, h8, h9, h10, h11⟩ := HZ.out k hlt
      have hb := World.block_lt_of_cell? w _ h1
      have c0 := (hbel.cell (p := ⟨b, off + k * 8, none⟩) hb).trans h0
      have c1 := (hbel.cell (p := ⟨b, off + k * 8 + 1, none⟩) hb).trans h1
      have c2 := (hbel.cell (p := ⟨b, off + k * 8 + 2, none⟩) hb).trans h2
      have c3 := (hbel.cell (p := ⟨b, off + k * 8 + 3, none⟩) hb).trans h3
      have c4 := (hbel.cell (p := ⟨b, off + k * 8 + 4, none⟩) hb).trans h4
      have c5 := (hbel.cell (p := ⟨b, off + k * 8 + 5, none⟩) hb).trans h5
      have c6 := (hbel.cell (p := ⟨b, off + k * 8 + 6, none⟩) hb).trans h6
      have c7 := (hbel.cell (p := ⟨b, off + k * 8 + 7, none⟩) hb).trans h7
      obtain ⟨_, _, s3, s4⟩ := HS.out k hlt
      have HLA : Hid (PairsAt w la (S k).la ∧ SliceOk la (S k).la.n lc) := ⟨h8, h10⟩
      have HCA : Hid (PairsAt w ca (S k).ca ∧ SliceOk ca (S k).ca.n cc) := ⟨h9, h11⟩
      have hbx := push hbel (.cells #[.int .i64 (S k).id, .string (S k).fr, .string (S k).dst, .int .i64 (S k).dep, .int .i64 (S k).arr, .slice la (S k).la.n lc, .slice ca (S k).ca.n cc, .int .i64 (S k).most] 47)
      have hr1 := hrow.below (push (Below.refl _ wr) (.cells #[.int .i64 (S k).id, .string (S k).fr, .string (S k).dst, .int .i64 (S k).dep, .int .i64 (S k).arr, .slice la (S k).la.n lc, .slice ca (S k).ca.n cc, .int .i64 (S k).most] 47))
      have hbox := heap_alloc_new wr (.cells #[.int .i64 (S k).id, .string (S k).fr, .string (S k).dst, .int .i64 (S k).dep, .int .i64 (S k).arr, .slice la (S k).la.n lc, .slice ca (S k).ca.n cc, .int .i64 (S k).most] 47)
      clear h0 h1 h2 h3 h4 h5 h6 h7 h8 h9 h10 h11 hrow
      go_wp2_with fail
      generalize wr.alloc (.cells #[.int .i64 (S k).id, .string (S k).fr, .string (S k).dst, .int .i64 (S k).dep, .int .i64 (S k).arr, .slice la (S k).la.n lc, .slice ca (S k).ca.n cc, .int .i64 (S k).most] 47) = W at hbx hr1 hbox ⊢
      clear c0 c1 c2 c3 c4 c5 c6 c7 hbel hbox
      refine (copySailing_any (S k) la ca lc cc _ s3 s4 (HLA.out.1.below hbx) (HCA.out.1.below hbx) HLA.out.2 HCA.out.2).mono ?_
      rintro e w2 ⟨⟨lv, cv, rfl, hl, hc⟩, hb2⟩
      have hst := hr1.step hb2 hlt hl hc
      have hr2 := hr1.below hb2
      obtain ⟨al, cl, rfl, _⟩ := own_form hl
      obtain ⟨ac, ccc, rfl, _⟩ := own_form hc
      have o0 := hr2.row.cell (i := k * 8) (by omega)
      have f0 := hr2.row.frozen (k * 8)
      have o1 := hr2.row.cell (i := k * 8 + 1) (by omega)
      have f1 := hr2.row.frozen (k * 8 + 1)
      have o2 := hr2.row.cell (i := k * 8 + 2) (by omega)
      have f2 := hr2.row.frozen (k * 8 + 2)
      have o3 := hr2.row.cell (i := k * 8 + 3) (by omega)
      have f3 := hr2.row.frozen (k * 8 + 3)
      have o4 := hr2.row.cell (i := k * 8 + 4) (by omega)
      have f4 := hr2.row.frozen (k * 8 + 4)
      have o5 := hr2.row.cell (i := k * 8 + 5) (by omega)
      have f5 := hr2.row.frozen (k * 8 + 5)
      have o6 := hr2.row.cell (i := k * 8 + 6) (by omega)
      have f6 := hr2.row.frozen (k * 8 + 6)
      have o7 := hr2.row.cell (i := k * 8 + 7) (by omega)
      have f7 := hr2.row.frozen (k * 8 + 7)
      have HST : Hid (EachTo (set8 w2 w.heap.size (k * 8) (.int .i64 (S k).id) (.string (S k).fr) (.string (S k).dst) (.int .i64 (S k).dep) (.int .i64 (S k).arr) (.slice al (S k).la.n cl) (.slice ac (S k).ca.n ccc) (.int .i64 (S k).most)) w.heap.size w.heap.size (k + 1) N S (atV L k (.slice al (S k).la.n cl)) (atV C k (.slice ac (S k).ca.n ccc))) := hst
      have HBE : Hid (Below w.heap.size w (set8 w2 w.heap.size (k * 8) (.int .i64 (S k).id) (.string (S k).fr) (.string (S k).dst) (.int .i64 (S k).dep) (.int .i64 (S k).arr) (.slice al (S k).la.n cl) (.slice ac (S k).ca.n ccc) (.int .i64 (S k).most))) := set8_below (after hbx hb2) (Nat.le_refl _)
      clear hst hr1 hr2 hl hc hbx hb2
      go_wp2
      go_roundw
      case rel =>
        have key := HST.out
        have key2 := HBE.out
        unfold set8 at key key2
        exact ⟨k + 1, _, _, by omega, by go_num, key, key2⟩
      case measure => simp [intOf]; omega
    · obtain rfl : k = N := by omega
      have HO : Hid _ := hrow.own (by unfold maxLen; omega)
      go_wp2
      go_ret
      exact ⟨⟨_, L, C, rfl, HO.out⟩, hbel⟩

end Go.Proofs.Ytlnadbnoemlpeaa
