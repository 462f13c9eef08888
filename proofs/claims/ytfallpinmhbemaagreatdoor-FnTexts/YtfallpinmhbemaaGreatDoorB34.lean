/-
  OWN TEXT: SpecSt2, PlainSp, PlainNu, NumI, PartI.
-/
import Derived.Lib.OthersKept
import Derived.Laws.RangeAny
import Derived.Lib.IndexMore
import Derived.Shelf.Small.Utf8
import Derived.Test.YtfallpinmhbemaaGreatDoorB33
import Derived.Test.YtfallpinmhbemaaGreatDoorB08
import Derived.Test.YtfallpinmhbemaaGreatDoorB31
import Derived.Test.YtfallpinmhbemaaGreatDoorB29
namespace Go.Proofs.YtfallpinmhbemaaGreatDoor
open Go.RowKit

theorem Tryz.infoIntS' : (Tryz.prog.info? 23).map (fun i => (i.zero, i.size, i.bytes)) = some (some (.slice none 0 0), 1, 24) := by kernel_rfl
/-- Lists of two numbers in a row of one's own, the first k of them. -/
structure PSt (w wx : World) (v : Value) (p : Pairs) (k : Nat) (g : Nat → Nat) : Prop where
  own : wx.ownsRow w.heap.size 23 1 v k ((List.range k).map (fun i => .slice (some ⟨g i, 0, none⟩) 2 2))
  el : ∀ i, i < k → wx.heap[g i]? = some (.cells #[.int .i64 (p.A i), .int .i64 (p.B i)] 3 (0, 0))
theorem PSt.below {w wx wy : World} {v : Value} {p : Pairs} {k : Nat} {g : Nat → Nat} (h : PSt w wx v p k g) (hb : Below wx.heap.size wx wy) : PSt w wy v p k g := ⟨own_below hb h.own, fun i hi => blk_below (h.el i hi) hb⟩
theorem PSt.app {w wx wy : World} {v v' : Value} {p : Pairs} {k m : Nat} {g : Nat → Nat} (h : PSt w wx v p k g) (hm : wx.heap[m]? = some (.cells #[.int .i64 (p.A k), .int .i64 (p.B k)] 3 (0, 0))) (hg : wx.grownBy wy v.ownBlock)
    (ho : wy.ownsRow w.heap.size 23 1 v' (k + 1) ((List.range k).map (fun i => Value.slice (some ⟨g i, 0, none⟩) 2 2) ++ [.slice (some ⟨m, 0, none⟩) 2 2])) : PSt w wy v' p (k + 1) (fun i => if i = k then m else g i) := by
  refine ⟨?_, fun i hi => ?_⟩
  · have e : (List.range (k + 1)).map (fun i => Value.slice (some ⟨(if i = k then m else g i), 0, none⟩) 2 2) = (List.range k).map (fun i => Value.slice (some ⟨g i, 0, none⟩) 2 2) ++ [.slice (some ⟨m, 0, none⟩) 2 2] := by
      rw [List.range_succ, List.map_append, List.map_cons, List.map_nil, if_pos rfl]
      congr 1
      refine List.map_congr_left fun i hi => ?_
      have : i < k := by simpa using hi
      rw [if_neg (by omega)]
    rw [e]
    exact ho
  · by_cases e : i = k
    · subst e
      rw [if_pos rfl]
      exact (kept_row hg).blk hm (fun e => own_notT h.own hm (by decide) _ e rfl)
    · rw [if_neg e]
      exact (kept_row hg).blk (h.el i (by omega)) (fun e' => own_notT h.own (h.el i (by omega)) (by decide) _ e' rfl)
theorem PSt.rows {w wx : World} {ao : Option Addr} {c : Nat} {p : Pairs} {g : Nat → Nat} (h : PSt w wx (.slice ao p.n c) p p.n g) : PRows wx ao p := fun k hk => by
  obtain ⟨b, rfl, _, _⟩ := own_addr h.own (by omega)
  refine ⟨b, 0, g k, rfl, ?_, h.el k hk⟩
  rw [Nat.zero_add]
  exact own_cell h.own k (by omega) (by omega)
theorem text_all (s : Sail) : (⟨#[115, 97, 105, 108, 32]⟩ : ByteArray) ++ numT s.id ++ ⟨#[32]⟩ ++ s.fr ++ ⟨#[32]⟩ ++ s.dst ++ ⟨#[32]⟩ ++ numT s.dep ++ ⟨#[32]⟩ ++ numT s.arr ++ ⟨#[32]⟩ ++ numT s.most ++ ⟨#[32]⟩ ++ pairsT s.la ++ ⟨#[32]⟩ ++ pairsT s.ca = sailT s := by
  have key : ∀ (l : List ByteArray) (p : ByteArray), l ≠ [] → joinT spT (l ++ [p]) = joinT spT l ++ (⟨#[32]⟩ ++ p) := fun l p hl => joinT_snoc spT p hl
  unfold sailT sailP
  rw [show [sailW, numT s.id, s.fr, s.dst, numT s.dep, numT s.arr, numT s.most, pairsT s.la, pairsT s.ca] = ((((((([sailW] ++ [numT s.id]) ++ [s.fr]) ++ [s.dst]) ++ [numT s.dep]) ++ [numT s.arr]) ++ [numT s.most]) ++ [pairsT s.la]) ++ [pairsT s.ca] from rfl,
    key _ _ (by simp), key _ _ (by simp), key _ _ (by simp), key _ _ (by simp), key _ _ (by simp), key _ _ (by simp), key _ _ (by simp), key _ _ (by simp), joinT_one]
  rw [show (⟨#[115, 97, 105, 108, 32]⟩ : ByteArray) = sailW ++ ⟨#[32]⟩ from rfl]
  simp only [ByteArray.append_assoc]

set_option maxHeartbeats 6400000 in
set_option maxRecDepth 100000 in
theorem l11Sail_any (s : Sail) (lo co : Option Addr) (c1 c2 : Nat) (w : World) (hs : GoodSail s) (hx : PairsAt w lo s.la) (hy : PairsAt w co s.ca) :
    Calls Tryz.prog 27 #[.agg #[.int .i64 s.id, .string s.fr, .string s.dst, .int .i64 s.dep, .int .i64 s.arr, .slice lo s.la.n c1, .slice co s.ca.n c2, .int .i64 s.most]] w fun e w' => e = .returned (.string (sailT s)) ∧ Below w.heap.size w w' := by
  have HG : Hid (GoodSail s) := hs
  have HXY : Hid (PairsAt w lo s.la ∧ PairsAt w co s.ca) := ⟨hx, hy⟩
  obtain ⟨na, hna⟩ : ∃ n, n = s.la.n := ⟨_, rfl⟩
  obtain ⟨nb, hnb⟩ : ∃ n, n = s.ca.n := ⟨_, rfl⟩
  have HNA : Hid (s.la.n = na ∧ s.ca.n = nb) := ⟨hna.symm, hnb.symm⟩
  have n6 : na ≤ 6 ∧ nb ≤ 6 := ⟨by rw [hna]; exact (small_la hs).1, by rw [hnb]; exact (small_ca hs).1⟩
  obtain ⟨j0, ji, jz0, jz1, jz2⟩ := info_parts Tryz.infoIntS'
  rw [← hna, ← hnb]
  clear hs hx hy hna hnb
  have hb0 : Below w.heap.size w (w.alloc (.cells #[.int .i64 s.id, .string s.fr, .string s.dst, .int .i64 s.dep, .int .i64 s.arr, .slice lo na c1, .slice co nb c2, .int .i64 s.most] 37)) := push (Below.refl _ _) _
  have b0 := heap_alloc_new w (.cells #[.int .i64 s.id, .string s.fr, .string s.dst, .int .i64 s.dep, .int .i64 s.arr, .slice lo na c1, .slice co nb c2, .int .i64 s.most] 37)
  go_enter Tryz.func27, Tryz.ntmps27
  go_upto_region 1 with fail
  generalize w.alloc (.cells #[.int .i64 s.id, .string s.fr, .string s.dst, .int .i64 s.dep, .int .i64 s.arr, .slice lo na c1, .slice co nb c2, .int .i64 s.most] 37) = W at hb0 b0 ⊢
  have HB0 : Hid (Below w.heap.size w W) := hb0
  have B0 : Hid (W.heap[w.heap.size]? = _) := b0
  have y5 := blk_cell b0 5 _ rfl
  have H0 : Hid (PSt W W (.slice none 0 0) s.la 0 (fun _ => 0)) := ⟨World.ownsRow_nil _ _ _ _, fun i hi => by omega⟩
  clear b0 hb0
  go_wp2
  go_loopw [3, 6, 12] (fun v _ i wr => ∃ (k : Nat) (g : Nat → Nat), k ≤ na ∧ i = .int .i64 k ∧ Hid (PSt W wr v s.la k g ∧ Below W.heap.size W wr)) (fun _ _ i _ => na - (intOf i).toNat)
  case atStart => exact ⟨0, _, Nat.zero_le _, rfl, H0.out, Below.refl _ _⟩
  case round =>
    obtain ⟨k, g, hk, rfl, HR⟩ := hrel
    clear H0
    by_cases hlt : k < na
    · obtain ⟨b, off, rfl, hc, hd⟩ := (HXY.out.1.below HB0.out) k (by rw [HNA.out.1]; exact hlt)
      have hc' : wr.cell? ⟨b, off + k * 2, none⟩ = some (.int .i64 (s.la.A k)) := (HR.out.2.cell (World.block_lt_of_cell? W _ hc)).trans hc
      have hd' : wr.cell? ⟨b, off + k * 2 + 1, none⟩ = some (.int .i64 (s.la.B k)) := (HR.out.2.cell (World.block_lt_of_cell? W _ hd)).trans hd
      clear hc hd
      obtain ⟨va, vc, rfl, _⟩ := own_form HR.out.1.own
      have bl := heap_alloc_new wr (.cells #[.int .i64 (s.la.A k), .int .i64 (s.la.B k)] 106)
      have HR1 : Hid (PSt W (wr.alloc (.cells #[.int .i64 (s.la.A k), .int .i64 (s.la.B k)] 106)) (.slice va k vc) s.la k g ∧ Below W.heap.size W (wr.alloc (.cells #[.int .i64 (s.la.A k), .int .i64 (s.la.B k)] 106))) := ⟨HR.out.1.below (push (Below.refl _ _) _), push HR.out.2 _⟩
      go_upto_region 5 with fail
      generalize wr.alloc (.cells #[.int .i64 (s.la.A k), .int .i64 (s.la.B k)] 106) = W1 at bl HR1 ⊢
      have z0 := blk_cell bl 0 _ rfl
      have z1 := blk_cell bl 1 _ rfl
      clear HR hc' hd' bl
      have HR3 : Hid (PSt W ((W1.alloc (.cells #[.int .i64 (s.la.A k), .int .i64 (s.la.B k)] 3)).alloc (.cells #[.slice (some ⟨W1.heap.size, 0, none⟩) 2 2] 23)) (.slice va k vc) s.la k g ∧ Below W.heap.size W ((W1.alloc (.cells #[.int .i64 (s.la.A k), .int .i64 (s.la.B k)] 3)).alloc (.cells #[.slice (some ⟨W1.heap.size, 0, none⟩) 2 2] 23))) := ⟨HR1.out.1.below (push (push (Below.refl _ _) _) _), push (push HR1.out.2 _) _⟩
      have HM : Hid (((W1.alloc (.cells #[.int .i64 (s.la.A k), .int .i64 (s.la.B k)] 3)).alloc (.cells #[.slice (some ⟨W1.heap.size, 0, none⟩) 2 2] 23)).heap[W1.heap.size]? = some (.cells #[.int .i64 (s.la.A k), .int .i64 (s.la.B k)] 3 (0, 0))) := blk_alloc (heap_alloc_new W1 _) _
      have hsz := HR3.out.2.size
      have hw1 : (W1.alloc (.cells #[.int .i64 (s.la.A k), .int .i64 (s.la.B k)] 3)).heap.size = W1.heap.size + 1 := by simp
      have HNW : Hid (∀ j u, [Value.slice (some ⟨W1.heap.size, 0, none⟩) 2 2][j]? = some u → ((W1.alloc (.cells #[.int .i64 (s.la.A k), .int .i64 (s.la.B k)] 3)).alloc (.cells #[.slice (some ⟨W1.heap.size, 0, none⟩) 2 2] 23)).cell? ((⟨W1.heap.size + 1, 0, none⟩ : Addr).add j) = some u) := by
        have := World.news_of_block (heap_alloc_new (W1.alloc (.cells #[.int .i64 (s.la.A k), .int .i64 (s.la.B k)] 3)) (.cells #[.slice (some ⟨W1.heap.size, 0, none⟩) 2 2] 23))
        rw [hw1] at this
        exact this
      clear HR1
      go_wp2_with (first | (at_builtin; refine wpList_append_any _ (by rfl) (.tmp 16) (.tmp 22) 112 (by rfl) W.heap.size 23 j0 (.slice none 0 0) 1 24 Tryz.underlying112 ji jz0 jz1 jz2 rfl (by decide) _ k ((List.range k).map (fun i => Value.slice (some ⟨g i, 0, none⟩) 2 2)) (by rfl) HR3.out.1.own (some ⟨W1.heap.size + 1, 0, none⟩) 1 1 [.slice (some ⟨W1.heap.size, 0, none⟩) 2 2] (by rfl) (fun h => by cases h) (by rfl) (fun ad h => by cases h; exact HNW.out) (by intro u hu; simp only [List.mem_cons, List.not_mem_nil, or_false] at hu; subst hu; rfl) (by unfold maxLen; omega) (by omega) hsz ?_; intro v9 w9 ho9 hg9))
      have HN9 : Hid (PSt W w9 v9 s.la (k + 1) (fun i => if i = k then W1.heap.size else g i) ∧ Below W.heap.size W w9) := ⟨HR3.out.1.app HM.out hg9 ho9, HR3.out.2.grown hg9 hsz (fun j hj => (World.ownsRow.lt HR3.out.1.own j hj).1)⟩
      clear HR3 HM HNW hsz hw1 z0 z1 ho9 hg9
      go_roundw
      case rel => exact ⟨k + 1, _, by omega, by go_num, HN9.out⟩
      case measure => simp [intOf]; omega
    · obtain rfl : na = k := by omega
      clear y5
      obtain ⟨va, vc, rfl, _⟩ := own_form HR.out.1.own
      have HPA : Hid (PRows wr va s.la) := by
        have h := HR.out.1
        rw [← HNA.out.1] at h
        exact h.rows
      have HBW : Hid (Below w.heap.size w wr) := after HB0.out HR.out.2
      have b2 := blk_below B0.out HR.out.2
      clear HR B0 HB0
      obtain ⟨W2, hW2⟩ : ∃ z, z = wr := ⟨_, rfl⟩
      subst hW2
      have y6 := blk_cell b2 6 _ rfl
      have B2 : Hid (W2.heap[w.heap.size]? = _) := b2
      clear b2
      have H0 : Hid (PSt W2 W2 (.slice none 0 0) s.ca 0 (fun _ => 0)) := ⟨World.ownsRow_nil _ _ _ _, fun i hi => by omega⟩
      go_wp2
      go_loopw [4, 8, 28] (fun v _ i wr => ∃ (k : Nat) (g : Nat → Nat), k ≤ nb ∧ i = .int .i64 k ∧ Hid (PSt W2 wr v s.ca k g ∧ Below W2.heap.size W2 wr)) (fun _ _ i _ => nb - (intOf i).toNat)
      case atStart => exact ⟨0, _, Nat.zero_le _, rfl, H0.out, Below.refl _ _⟩
      case round =>
        obtain ⟨k, g, hk, rfl, HR⟩ := hrel
        clear H0
        by_cases hlt : k < nb
        · obtain ⟨b, off, rfl, hc, hd⟩ := (HXY.out.2.below HBW.out) k (by rw [HNA.out.2]; exact hlt)
          have hc' : wr.cell? ⟨b, off + k * 2, none⟩ = some (.int .i64 (s.ca.A k)) := (HR.out.2.cell (World.block_lt_of_cell? W2 _ hc)).trans hc
          have hd' : wr.cell? ⟨b, off + k * 2 + 1, none⟩ = some (.int .i64 (s.ca.B k)) := (HR.out.2.cell (World.block_lt_of_cell? W2 _ hd)).trans hd
          clear hc hd
          obtain ⟨va, vc, rfl, _⟩ := own_form HR.out.1.own
          have bl := heap_alloc_new wr (.cells #[.int .i64 (s.ca.A k), .int .i64 (s.ca.B k)] 110)
          have HR1 : Hid (PSt W2 (wr.alloc (.cells #[.int .i64 (s.ca.A k), .int .i64 (s.ca.B k)] 110)) (.slice va k vc) s.ca k g ∧ Below W2.heap.size W2 (wr.alloc (.cells #[.int .i64 (s.ca.A k), .int .i64 (s.ca.B k)] 110))) := ⟨HR.out.1.below (push (Below.refl _ _) _), push HR.out.2 _⟩
          go_upto_region 10 with fail
          generalize wr.alloc (.cells #[.int .i64 (s.ca.A k), .int .i64 (s.ca.B k)] 110) = W1 at bl HR1 ⊢
          have z0 := blk_cell bl 0 _ rfl
          have z1 := blk_cell bl 1 _ rfl
          clear HR hc' hd' bl
          have HR3 : Hid (PSt W2 ((W1.alloc (.cells #[.int .i64 (s.ca.A k), .int .i64 (s.ca.B k)] 3)).alloc (.cells #[.slice (some ⟨W1.heap.size, 0, none⟩) 2 2] 23)) (.slice va k vc) s.ca k g ∧ Below W2.heap.size W2 ((W1.alloc (.cells #[.int .i64 (s.ca.A k), .int .i64 (s.ca.B k)] 3)).alloc (.cells #[.slice (some ⟨W1.heap.size, 0, none⟩) 2 2] 23))) := ⟨HR1.out.1.below (push (push (Below.refl _ _) _) _), push (push HR1.out.2 _) _⟩
          have HM : Hid (((W1.alloc (.cells #[.int .i64 (s.ca.A k), .int .i64 (s.ca.B k)] 3)).alloc (.cells #[.slice (some ⟨W1.heap.size, 0, none⟩) 2 2] 23)).heap[W1.heap.size]? = some (.cells #[.int .i64 (s.ca.A k), .int .i64 (s.ca.B k)] 3 (0, 0))) := blk_alloc (heap_alloc_new W1 _) _
          have hsz := HR3.out.2.size
          have hw1 : (W1.alloc (.cells #[.int .i64 (s.ca.A k), .int .i64 (s.ca.B k)] 3)).heap.size = W1.heap.size + 1 := by simp
          have HNW : Hid (∀ j u, [Value.slice (some ⟨W1.heap.size, 0, none⟩) 2 2][j]? = some u → ((W1.alloc (.cells #[.int .i64 (s.ca.A k), .int .i64 (s.ca.B k)] 3)).alloc (.cells #[.slice (some ⟨W1.heap.size, 0, none⟩) 2 2] 23)).cell? ((⟨W1.heap.size + 1, 0, none⟩ : Addr).add j) = some u) := by
            have := World.news_of_block (heap_alloc_new (W1.alloc (.cells #[.int .i64 (s.ca.A k), .int .i64 (s.ca.B k)] 3)) (.cells #[.slice (some ⟨W1.heap.size, 0, none⟩) 2 2] 23))
            rw [hw1] at this
            exact this
          clear HR1
          go_wp2_with (first | (at_builtin; refine wpList_append_any _ (by rfl) (.tmp 32) (.tmp 38) 112 (by rfl) W2.heap.size 23 j0 (.slice none 0 0) 1 24 Tryz.underlying112 ji jz0 jz1 jz2 rfl (by decide) _ k ((List.range k).map (fun i => Value.slice (some ⟨g i, 0, none⟩) 2 2)) (by rfl) HR3.out.1.own (some ⟨W1.heap.size + 1, 0, none⟩) 1 1 [.slice (some ⟨W1.heap.size, 0, none⟩) 2 2] (by rfl) (fun h => by cases h) (by rfl) (fun ad h => by cases h; exact HNW.out) (by intro u hu; simp only [List.mem_cons, List.not_mem_nil, or_false] at hu; subst hu; rfl) (by unfold maxLen; omega) (by omega) hsz ?_; intro v9 w9 ho9 hg9))
          have HN9 : Hid (PSt W2 w9 v9 s.ca (k + 1) (fun i => if i = k then W1.heap.size else g i) ∧ Below W2.heap.size W2 w9) := ⟨HR3.out.1.app HM.out hg9 ho9, HR3.out.2.grown hg9 hsz (fun j hj => (World.ownsRow.lt HR3.out.1.own j hj).1)⟩
          clear HR3 HM HNW hsz hw1 z0 z1 ho9 hg9
          go_roundw
          case rel => exact ⟨k + 1, _, by omega, by go_num, HN9.out⟩
          case measure => simp [intOf]; omega
        · obtain rfl : nb = k := by omega
          clear y6
          obtain ⟨vb, vd, rfl, _⟩ := own_form HR.out.1.own
          have HPB : Hid (PRows wr vb s.ca) := by
            have h := HR.out.1
            rw [← HNA.out.2] at h
            exact h.rows
          have HPA' : Hid (PRows wr va s.la) := HPA.out.below HR.out.2
          have HBF : Hid (Below w.heap.size w wr) := after HBW.out HR.out.2
          have b3 := blk_below B2.out HR.out.2
          clear HR HPA HBW B2
          have lA := blk_lt b3
          have x0 : ∀ h : Grown wr, h.val.cell? ⟨w.heap.size, 0, none⟩ = some (.int .i64 s.id) := fun h => (h.bel.cell lA).trans (blk_cell b3 0 _ rfl)
          have x1 : ∀ h : Grown wr, h.val.cell? ⟨w.heap.size, 1, none⟩ = some (.string s.fr) := fun h => (h.bel.cell lA).trans (blk_cell b3 1 _ rfl)
          have x2 : ∀ h : Grown wr, h.val.cell? ⟨w.heap.size, 2, none⟩ = some (.string s.dst) := fun h => (h.bel.cell lA).trans (blk_cell b3 2 _ rfl)
          have x3 : ∀ h : Grown wr, h.val.cell? ⟨w.heap.size, 3, none⟩ = some (.int .i64 s.dep) := fun h => (h.bel.cell lA).trans (blk_cell b3 3 _ rfl)
          have x4 : ∀ h : Grown wr, h.val.cell? ⟨w.heap.size, 4, none⟩ = some (.int .i64 s.arr) := fun h => (h.bel.cell lA).trans (blk_cell b3 4 _ rfl)
          have x7 : ∀ h : Grown wr, h.val.cell? ⟨w.heap.size, 7, none⟩ = some (.int .i64 s.most) := fun h => (h.bel.cell lA).trans (blk_cell b3 7 _ rfl)
          clear b3
          have HRG : Hid _ := sail_rng HG.out
          have rg := HRG.out
          have m0 := numT_size (n := s.id) (by omega) (by omega)
          have m1 := numT_size (n := s.dep) (by omega) (by omega)
          have m2 := numT_size (n := s.arr) (by omega) (by omega)
          have m3 := numT_size (n := s.most) (by omega) (by omega)
          have m4 := pairsT_size (small_la HG.out)
          have m5 := pairsT_size (small_ca HG.out)
          have q1 : (⟨#[32]⟩ : ByteArray).size = 1 := rfl
          have q2 : (⟨#[115, 97, 105, 108, 32]⟩ : ByteArray).size = 5 := rfl
          have m6 := rg.2.2.2.2.1
          have m7 := rg.2.2.2.2.2
          have EF := text_all s
          obtain ⟨a1, ha1⟩ : ∃ z, z = (⟨#[115, 97, 105, 108, 32]⟩ : ByteArray) ++ (numT s.id) := ⟨_, rfl⟩
          have z1 : a1.size ≤ 1 * 7000 := by rw [ha1, ByteArray.size_append]; omega
          have r1 : ∀ W : World, (Op.stringOp .add ⟨#[115, 97, 105, 108, 32]⟩ (numT s.id)).run Tryz.prog W = .ok (.string a1) W := by rw [ha1]; exact add_run _ _ (by omega) (by omega)
          rw [← ha1] at EF
          clear ha1
          obtain ⟨a2, ha2⟩ : ∃ z, z = a1 ++ ⟨#[32]⟩ := ⟨_, rfl⟩
          have z2 : a2.size ≤ 2 * 7000 := by rw [ha2, ByteArray.size_append]; omega
          have r2 : ∀ W : World, (Op.stringOp .add a1 ⟨#[32]⟩).run Tryz.prog W = .ok (.string a2) W := by rw [ha2]; exact add_run _ _ (by omega) (by omega)
          rw [← ha2] at EF
          clear ha2
          obtain ⟨a3, ha3⟩ : ∃ z, z = a2 ++ s.fr := ⟨_, rfl⟩
          have z3 : a3.size ≤ 3 * 7000 := by rw [ha3, ByteArray.size_append]; omega
          have r3 : ∀ W : World, (Op.stringOp .add a2 s.fr).run Tryz.prog W = .ok (.string a3) W := by rw [ha3]; exact add_run _ _ (by omega) (by omega)
          rw [← ha3] at EF
          clear ha3
          obtain ⟨a4, ha4⟩ : ∃ z, z = a3 ++ ⟨#[32]⟩ := ⟨_, rfl⟩
          have z4 : a4.size ≤ 4 * 7000 := by rw [ha4, ByteArray.size_append]; omega
          have r4 : ∀ W : World, (Op.stringOp .add a3 ⟨#[32]⟩).run Tryz.prog W = .ok (.string a4) W := by rw [ha4]; exact add_run _ _ (by omega) (by omega)
          rw [← ha4] at EF
          clear ha4
          obtain ⟨a5, ha5⟩ : ∃ z, z = a4 ++ s.dst := ⟨_, rfl⟩
          have z5 : a5.size ≤ 5 * 7000 := by rw [ha5, ByteArray.size_append]; omega
          have r5 : ∀ W : World, (Op.stringOp .add a4 s.dst).run Tryz.prog W = .ok (.string a5) W := by rw [ha5]; exact add_run _ _ (by omega) (by omega)
          rw [← ha5] at EF
          clear ha5
          obtain ⟨a6, ha6⟩ : ∃ z, z = a5 ++ ⟨#[32]⟩ := ⟨_, rfl⟩
          have z6 : a6.size ≤ 6 * 7000 := by rw [ha6, ByteArray.size_append]; omega
          have r6 : ∀ W : World, (Op.stringOp .add a5 ⟨#[32]⟩).run Tryz.prog W = .ok (.string a6) W := by rw [ha6]; exact add_run _ _ (by omega) (by omega)
          rw [← ha6] at EF
          clear ha6
          obtain ⟨a7, ha7⟩ : ∃ z, z = a6 ++ (numT s.dep) := ⟨_, rfl⟩
          have z7 : a7.size ≤ 7 * 7000 := by rw [ha7, ByteArray.size_append]; omega
          have r7 : ∀ W : World, (Op.stringOp .add a6 (numT s.dep)).run Tryz.prog W = .ok (.string a7) W := by rw [ha7]; exact add_run _ _ (by omega) (by omega)
          rw [← ha7] at EF
          clear ha7
          obtain ⟨a8, ha8⟩ : ∃ z, z = a7 ++ ⟨#[32]⟩ := ⟨_, rfl⟩
          have z8 : a8.size ≤ 8 * 7000 := by rw [ha8, ByteArray.size_append]; omega
          have r8 : ∀ W : World, (Op.stringOp .add a7 ⟨#[32]⟩).run Tryz.prog W = .ok (.string a8) W := by rw [ha8]; exact add_run _ _ (by omega) (by omega)
          rw [← ha8] at EF
          clear ha8
          obtain ⟨a9, ha9⟩ : ∃ z, z = a8 ++ (numT s.arr) := ⟨_, rfl⟩
          have z9 : a9.size ≤ 9 * 7000 := by rw [ha9, ByteArray.size_append]; omega
          have r9 : ∀ W : World, (Op.stringOp .add a8 (numT s.arr)).run Tryz.prog W = .ok (.string a9) W := by rw [ha9]; exact add_run _ _ (by omega) (by omega)
          rw [← ha9] at EF
          clear ha9
          obtain ⟨a10, ha10⟩ : ∃ z, z = a9 ++ ⟨#[32]⟩ := ⟨_, rfl⟩
          have z10 : a10.size ≤ 10 * 7000 := by rw [ha10, ByteArray.size_append]; omega
          have r10 : ∀ W : World, (Op.stringOp .add a9 ⟨#[32]⟩).run Tryz.prog W = .ok (.string a10) W := by rw [ha10]; exact add_run _ _ (by omega) (by omega)
          rw [← ha10] at EF
          clear ha10
          obtain ⟨a11, ha11⟩ : ∃ z, z = a10 ++ (numT s.most) := ⟨_, rfl⟩
          have z11 : a11.size ≤ 11 * 7000 := by rw [ha11, ByteArray.size_append]; omega
          have r11 : ∀ W : World, (Op.stringOp .add a10 (numT s.most)).run Tryz.prog W = .ok (.string a11) W := by rw [ha11]; exact add_run _ _ (by omega) (by omega)
          rw [← ha11] at EF
          clear ha11
          obtain ⟨a12, ha12⟩ : ∃ z, z = a11 ++ ⟨#[32]⟩ := ⟨_, rfl⟩
          have z12 : a12.size ≤ 12 * 7000 := by rw [ha12, ByteArray.size_append]; omega
          have r12 : ∀ W : World, (Op.stringOp .add a11 ⟨#[32]⟩).run Tryz.prog W = .ok (.string a12) W := by rw [ha12]; exact add_run _ _ (by omega) (by omega)
          rw [← ha12] at EF
          clear ha12
          obtain ⟨a13, ha13⟩ : ∃ z, z = a12 ++ (pairsT s.la) := ⟨_, rfl⟩
          have z13 : a13.size ≤ 13 * 7000 := by rw [ha13, ByteArray.size_append]; omega
          have r13 : ∀ W : World, (Op.stringOp .add a12 (pairsT s.la)).run Tryz.prog W = .ok (.string a13) W := by rw [ha13]; exact add_run _ _ (by omega) (by omega)
          rw [← ha13] at EF
          clear ha13
          obtain ⟨a14, ha14⟩ : ∃ z, z = a13 ++ ⟨#[32]⟩ := ⟨_, rfl⟩
          have z14 : a14.size ≤ 14 * 7000 := by rw [ha14, ByteArray.size_append]; omega
          have r14 : ∀ W : World, (Op.stringOp .add a13 ⟨#[32]⟩).run Tryz.prog W = .ok (.string a14) W := by rw [ha14]; exact add_run _ _ (by omega) (by omega)
          rw [← ha14] at EF
          clear ha14
          obtain ⟨a15, ha15⟩ : ∃ z, z = a14 ++ (pairsT s.ca) := ⟨_, rfl⟩
          have z15 : a15.size ≤ 15 * 7000 := by rw [ha15, ByteArray.size_append]; omega
          have r15 : ∀ W : World, (Op.stringOp .add a14 (pairsT s.ca)).run Tryz.prog W = .ok (.string a15) W := by rw [ha15]; exact add_run _ _ (by omega) (by omega)
          rw [← ha15] at EF
          clear ha15
          have HEF : Hid (a15 = sailT s) := EF
          clear EF rg
          have HN0 : Hid (∀ W : World, Calls Tryz.prog 47 #[.int .i64 s.id] W fun e w' => e = .returned (.string (numT s.id)) ∧ Below W.heap.size W w') := fun W => l1Num_any (by have := HRG.out.1; omega) (by have := HRG.out.1; omega) W
          have HN1 : Hid (∀ W : World, Calls Tryz.prog 47 #[.int .i64 s.dep] W fun e w' => e = .returned (.string (numT s.dep)) ∧ Below W.heap.size W w') := fun W => l1Num_any (by have := HRG.out.2.1; omega) (by have := HRG.out.2.1; omega) W
          have HN2 : Hid (∀ W : World, Calls Tryz.prog 47 #[.int .i64 s.arr] W fun e w' => e = .returned (.string (numT s.arr)) ∧ Below W.heap.size W w') := fun W => l1Num_any (by have := HRG.out.2.2.1; omega) (by have := HRG.out.2.2.1; omega) W
          have HN3 : Hid (∀ W : World, Calls Tryz.prog 47 #[.int .i64 s.most] W fun e w' => e = .returned (.string (numT s.most)) ∧ Below W.heap.size W w') := fun W => l1Num_any (by have := HRG.out.2.2.2.1; omega) (by have := HRG.out.2.2.2.1; omega) W
          have HPP : Hid (∀ h : Grown wr, Calls Tryz.prog 68 #[.slice va na vc] h.val fun e w' => e = .returned (.string (pairsT s.la)) ∧ Below h.val.heap.size h.val w') := fun h => by rw [← HNA.out.1]; exact l11Pairs_any va vc s.la _ (small_la HG.out) (HPA'.out.below h.bel)
          have HPQ : Hid (∀ h : Grown wr, Calls Tryz.prog 68 #[.slice vb nb vd] h.val fun e w' => e = .returned (.string (pairsT s.ca)) ∧ Below h.val.heap.size h.val w') := fun h => by rw [← HNA.out.2]; exact l11Pairs_any vb vd s.ca _ (small_ca HG.out) (HPB.out.below h.bel)
          go_upto_region 12 with fail
          refine wp_region_grow (by kernel_rfl) (by kernel_rfl) ?_
          repeat (first | go_big_quiet_skip | (go_big_quiet_want; go_big_quiet_op; first | go_big_quiet_on | (apply Exists.intro; refine ⟨fun g => ?_, ?_⟩; (focus (first | (go_at_call 47; with_reducible refine grown_call (v := .string (numT s.id)) (HN0.out _)) | (go_at_call 47; with_reducible refine grown_call (v := .string (numT s.dep)) (HN1.out _)) | (go_at_call 47; with_reducible refine grown_call (v := .string (numT s.arr)) (HN2.out _)) | (go_at_call 47; with_reducible refine grown_call (v := .string (numT s.most)) (HN3.out _)) | (go_at_call 68; with_reducible refine grown_call (v := .string (pairsT s.la)) (HPP.out _)) | (go_at_call 68; with_reducible refine grown_call (v := .string (pairsT s.ca)) (HPQ.out _)))); go_big_quiet_on)))
          refine wpQuiet_nil ?_
          rintro _ ⟨h, rfl⟩
          go_wp2
          go_ret
          exact ⟨congrArg (fun z => Ending.returned (Value.string z)) HEF.out, after HBF.out h.bel⟩

set_option maxHeartbeats 1600000 in
set_option maxRecDepth 100000 in
theorem specSText_any (s : Sail) (lo co : Option Addr) (c1 c2 : Nat) (w : World) (hfr : s.fr.size ≤ 1000000000000000) (hto : s.dst.size ≤ 1000000000000000) (hn : s.la.n ≤ 1048576) (hm : s.ca.n ≤ 1048576) (hx : PairsAt w lo s.la) (hy : PairsAt w co s.ca) :
    Calls Tryz.prog 11 #[.agg #[.int .i64 s.id, .string s.fr, .string s.dst, .int .i64 s.dep, .int .i64 s.arr, .slice lo s.la.n c1, .slice co s.ca.n c2, .int .i64 s.most]] w fun e w' => e = .returned (.tuple #[.string (stext s), .bool (goodS s)]) ∧ Below w.heap.size w w' := by
  have HXY : Hid (PairsAt w lo s.la ∧ PairsAt w co s.ca) := ⟨hx, hy⟩
  have hb0 : Below w.heap.size w (w.alloc (.cells #[.int .i64 s.id, .string s.fr, .string s.dst, .int .i64 s.dep, .int .i64 s.arr, .slice lo s.la.n c1, .slice co s.ca.n c2, .int .i64 s.most] 37)) := push (Below.refl _ _) _
  have b0 := heap_alloc_new w (.cells #[.int .i64 s.id, .string s.fr, .string s.dst, .int .i64 s.dep, .int .i64 s.arr, .slice lo s.la.n c1, .slice co s.ca.n c2, .int .i64 s.most] 37)
  clear hx hy
  go_enter Tryz.func11, Tryz.ntmps11
  go_upto_region 1 with fail
  generalize w.alloc (.cells #[.int .i64 s.id, .string s.fr, .string s.dst, .int .i64 s.dep, .int .i64 s.arr, .slice lo s.la.n c1, .slice co s.ca.n c2, .int .i64 s.most] 37) = W at hb0 b0 ⊢
  have y0 := blk_cell b0 0 _ rfl
  have y1 := blk_cell b0 1 _ rfl
  have y2 := blk_cell b0 2 _ rfl
  have y3 := blk_cell b0 3 _ rfl
  have y4 := blk_cell b0 4 _ rfl
  have y5 := blk_cell b0 5 _ rfl
  have y6 := blk_cell b0 6 _ rfl
  have y7 := blk_cell b0 7 _ rfl
  go_wp2_with fail
  refine (specSailing_any _ _ _ _ _ _ _ _ _ _ _ _ s.la s.ca _ rfl rfl hfr hto hn hm (HXY.out.1.below hb0) (HXY.out.2.below hb0)).mono ?_
  rintro e w2 ⟨⟨q, rfl, hq⟩, hb2⟩
  have HQ : Hid (q = true ↔ GoodSail s) := hq
  have b2 := blk_below b0 hb2
  have hB2 := after hb0 hb2
  clear y0 y1 y2 y3 y4 y5 y6 y7 b0 hb0 hb2 hq
  cases q with
  | false =>
    have hno : ¬ GoodSail s := fun h => by have := HQ.out.2 h; cases this
    have HR : Hid (stext s = ⟨#[]⟩ ∧ goodS s = false) := stext_not hno
    clear hno
    go_wp2
    exact bodyPost_ret (v := .tuple #[.string ⟨#[]⟩, .bool false]) (by simp [results, Tryz.results11, go_sem]) rfl ⟨by rw [HR.out.1, HR.out.2], hB2⟩
  | true =>
    have HG : Hid (GoodSail s) := by first | exact HQ.out.1 rfl | exact HQ.out.1 trivial
    have HR : Hid (stext s = sailT s ∧ goodS s = true) := stext_yes HG.out
    have y0 := blk_cell b2 0 _ rfl
    have y1 := blk_cell b2 1 _ rfl
    have y2 := blk_cell b2 2 _ rfl
    have y3 := blk_cell b2 3 _ rfl
    have y4 := blk_cell b2 4 _ rfl
    have y5 := blk_cell b2 5 _ rfl
    have y6 := blk_cell b2 6 _ rfl
    have y7 := blk_cell b2 7 _ rfl
    go_wp2_with fail
    refine (l11Sail_any s lo co c1 c2 _ HG.out (HXY.out.1.below hB2) (HXY.out.2.below hB2)).mono ?_
    rintro e w4 ⟨rfl, hb4⟩
    go_wp2
    exact bodyPost_ret (v := .tuple #[.string (sailT s), .bool true]) (by simp [results, Tryz.results11, go_sem]) rfl ⟨by rw [HR.out.1, HR.out.2], after hB2 hb4⟩

end Go.Proofs.YtfallpinmhbemaaGreatDoor

namespace Go.Proofs.YtfallpinmhbemaaGreatDoor
open Go.RowKit

def oneT (p : UInt8) : ByteArray := ⟨#[p]⟩
theorem list_cut {p : UInt8} : ∀ {a b x y : List UInt8}, p ∉ a → p ∉ b → a ++ p :: x = b ++ p :: y → a = b ∧ x = y
  | [], [], _, _, _, _, h => by simpa using h
  | [], c :: b, _, _, _, hb, h => by
    simp at h
    exact absurd (by rw [h.1]; simp) hb
  | c :: a, [], _, _, ha, _, h => by
    simp at h
    exact absurd (by rw [h.1]; simp) ha
  | c :: a, d :: b, x, y, ha, hb, h => by
    simp at h
    obtain ⟨rfl, h⟩ := h
    obtain ⟨rfl, rfl⟩ := list_cut (a := a) (b := b) (fun m => ha (by simp [m])) (fun m => hb (by simp [m])) h
    exact ⟨rfl, rfl⟩
/-- The parts of a text between signs p. -/
def PartsL (p : UInt8) (s : List UInt8) (l : List (List UInt8)) : Prop := l ≠ [] ∧ Lib.join l [p] = s ∧ ∀ q, q ∈ l → p ∉ q
theorem join_two (p : UInt8) (a b : List UInt8) (r : List (List UInt8)) : Lib.join (a :: b :: r) [p] = a ++ p :: Lib.join (b :: r) [p] := by
  rw [Lib.join_cons, Lib.join_cons]
  simp [Lib.joinTail]
theorem partsL_one {p : UInt8} : ∀ {l m : List (List UInt8)} {s : List UInt8}, PartsL p s l → PartsL p s m → l = m
  | [], _, _, h, _ => absurd rfl h.1
  | _, [], _, _, h => absurd rfl h.1
  | [a], [b], _, h, k => by
    have h2 := h.2.1
    have k2 := k.2.1
    rw [Lib.join_one] at h2 k2
    rw [h2, k2]
  | [a], b :: c :: r, _, h, k => by
    have h2 := h.2.1
    have k2 := k.2.1
    rw [Lib.join_one] at h2
    rw [join_two] at k2
    exact absurd (by rw [h2, ← k2]; simp) (h.2.2 a (by simp))
  | a :: d :: r, [b], _, h, k => by
    have h2 := h.2.1
    have k2 := k.2.1
    rw [Lib.join_one] at k2
    rw [join_two] at h2
    exact absurd (by rw [k2, ← h2]; simp) (k.2.2 b (by simp))
  | a :: d :: r, b :: c :: t, s, h, k => by
    have h2 := h.2.1
    have k2 := k.2.1
    rw [join_two] at h2 k2
    obtain ⟨e1, e2⟩ := list_cut (h.2.2 a (by simp)) (k.2.2 b (by simp)) (h2.trans k2.symm)
    have := partsL_one (l := d :: r) (m := c :: t) (s := Lib.join (d :: r) [p]) ⟨by simp, rfl, fun q hq => h.2.2 q (by simp at hq ⊢; exact .inr hq)⟩ ⟨by simp, e2.symm, fun q hq => k.2.2 q (by simp at hq ⊢; exact .inr hq)⟩
    rw [e1, this]
def Parts (p : UInt8) (s : ByteArray) (l : List ByteArray) : Prop := l ≠ [] ∧ joinT (oneT p) l = s ∧ ∀ q, q ∈ l → p ∉ q.data.toList
theorem Parts.list {p : UInt8} {s : ByteArray} {l : List ByteArray} (h : Parts p s l) : PartsL p s.data.toList (l.map (·.data.toList)) := by
  refine ⟨by simpa using h.1, ?_, fun q hq => ?_⟩
  · rw [← h.2.1]
    unfold joinT oneT
    simp
  · obtain ⟨x, hx, rfl⟩ := List.mem_map.1 hq
    exact h.2.2 x hx
theorem data_inj {a b : ByteArray} (h : a.data.toList = b.data.toList) : a = b := by
  apply ByteArray.ext
  have := congrArg List.toArray h
  simpa using this
theorem map_data_inj : ∀ {l m : List ByteArray}, l.map (·.data.toList) = m.map (·.data.toList) → l = m
  | [], [], _ => rfl
  | [], _ :: _, h => by simp at h
  | _ :: _, [], h => by simp at h
  | a :: l, b :: m, h => by
    simp only [List.map_cons, List.cons.injEq] at h
    rw [data_inj h.1, map_data_inj h.2]
theorem parts_one {p : UInt8} {s : ByteArray} {l m : List ByteArray} (h : Parts p s l) (k : Parts p s m) : l = m := map_data_inj (partsL_one h.list k.list)

/-! ### Numbers -/

def Digit (c : UInt8) : Prop := 48 ≤ c.toNat ∧ c.toNat ≤ 57
/-- What digits come to. -/
def valL (l : List UInt8) : Nat := l.foldl (fun a c => 10 * a + (c.toNat - 48)) 0
theorem valL_snoc (l : List UInt8) (c : UInt8) : valL (l ++ [c]) = 10 * valL l + (c.toNat - 48) := by simp [valL]
theorem digit_of {d : Nat} (h : d < 10) : Digit (UInt8.ofNat (48 + d)) ∧ (UInt8.ofNat (48 + d)).toNat - 48 = d := by
  have e : (UInt8.ofNat (48 + d)).toNat = 48 + d := by simp; omega
  unfold Digit
  rw [e]
  omega
theorem dec_digits (u : Nat) : ∀ c, c ∈ Lib.decDigits u → Digit c := by
  induction u using Nat.strongRecOn with
  | _ u ih =>
    intro c hc
    by_cases h : u < 10
    · rw [Lib.decDigits_one h] at hc
      rw [List.mem_singleton] at hc
      rw [hc]
      exact (digit_of h).1
    · rw [Lib.decDigits, dif_neg h] at hc
      rcases List.mem_append.1 hc with hc | hc
      · exact ih (u / 10) (by omega) c hc
      · rw [List.mem_singleton] at hc
        rw [hc]
        exact (digit_of (d := u % 10) (by omega)).1
theorem dec_val (u : Nat) : valL (Lib.decDigits u) = u := by
  induction u using Nat.strongRecOn with
  | _ u ih =>
    by_cases h : u < 10
    · rw [Lib.decDigits_one h]
      have := (digit_of h).2
      simp [valL] at this ⊢
      omega
    · rw [Lib.decDigits, dif_neg h, valL_snoc, ih (u / 10) (by omega), (digit_of (d := u % 10) (by omega)).2]
      omega
theorem dec_len {u : Nat} (h : u ≤ 99999) : 1 ≤ (Lib.decDigits u).length ∧ (Lib.decDigits u).length ≤ 5 := by
  rw [Lib.decDigits_length]
  refine ⟨Lib.nDigits_pos u, ?_⟩
  have h1 : ∀ k u, u < 10 ^ (k + 1) → Lib.nDigits u ≤ k + 1 := by
    intro k
    induction k with
    | zero => intro u hu; rw [Lib.nDigits_small (by simpa using hu)]; omega
    | succ k ih =>
      intro u hu
      by_cases c : u < 10
      · rw [Lib.nDigits_small c]; omega
      · rw [Lib.nDigits_big c]
        have := ih (u / 10) (by rw [Nat.pow_succ] at hu; omega)
        omega
  exact h1 4 u (by omega)
theorem val_lt : ∀ (l : List UInt8), (∀ c, c ∈ l → Digit c) → valL l < 10 ^ l.length := by
  intro l
  have key : ∀ m : List UInt8, (∀ c, c ∈ m → Digit c) → valL m.reverse < 10 ^ m.length := by
    intro m
    induction m with
    | nil => intro _; simp [valL]
    | cons a r ih =>
      intro h
      have := ih (fun c hc => h c (by simp [hc]))
      have ha := h a (by simp)
      unfold Digit at ha
      rw [List.reverse_cons, valL_snoc, List.length_cons, Nat.pow_succ]
      omega
  intro h
  have := key l.reverse (fun c hc => h c (by simpa using hc))
  rw [List.reverse_reverse, List.length_reverse] at this
  exact this
theorem digit_back {c : UInt8} (h : Digit c) : UInt8.ofNat (48 + (c.toNat - 48)) = c := by
  unfold Digit at h
  rw [show 48 + (c.toNat - 48) = c.toNat by omega]
  exact UInt8.ofNat_toNat
/-- Digits that do not begin with a needless nought are the text of what they come to. -/
theorem dec_back : ∀ (l : List UInt8), l ≠ [] → (∀ c, c ∈ l → Digit c) → (l.length = 1 ∨ l.head? ≠ some 48) → Lib.decDigits (valL l) = l := by
  intro l
  have key : ∀ m : List UInt8, m ≠ [] → (∀ c, c ∈ m → Digit c) → (m.length = 1 ∨ m.reverse.head? ≠ some 48) → Lib.decDigits (valL m.reverse) = m.reverse := by
    intro m
    induction m with
    | nil => intro h; exact absurd rfl h
    | cons a r ih =>
      intro _ hd h0
      have ha := hd a (by simp)
      by_cases hr : r = []
      · subst hr
        have hv : valL [a] = a.toNat - 48 := by simp [valL]
        show Lib.decDigits (valL [a]) = [a]
        unfold Digit at ha
        rw [hv, Lib.decDigits_one (by omega), digit_back (hd a (by simp))]
      · have hrr : r.reverse ≠ [] := by simpa using hr
        obtain ⟨b, t, hbt⟩ : ∃ b t, r.reverse = b :: t := by
          cases e : r.reverse with
          | nil => exact absurd e hrr
          | cons b t => exact ⟨b, t, rfl⟩
        have hb48 : b ≠ 48 := by
          rcases h0 with h0 | h0
          · simp at h0; exact absurd h0 hr
          · rw [List.reverse_cons, hbt] at h0
            simpa using h0
        have hr2 := ih hr (fun c hc => hd c (by simp [hc])) (.inr (by rw [hbt]; simpa using hb48))
        have hpos : 1 ≤ valL r.reverse := by
          rcases Nat.eq_zero_or_pos (valL r.reverse) with e | e
          · rw [e, Lib.decDigits_one (by omega), hbt] at hr2
            simp at hr2
            exact absurd hr2.1.symm hb48
          · exact e
        unfold Digit at ha
        rw [List.reverse_cons, valL_snoc, Lib.decDigits, dif_neg (by omega), show (10 * valL r.reverse + (a.toNat - 48)) / 10 = valL r.reverse by omega, hr2, show (10 * valL r.reverse + (a.toNat - 48)) % 10 = a.toNat - 48 by omega, digit_back (hd a (by simp))]
  intro h1 h2 h3
  have := key l.reverse (by simpa using h1) (fun c hc => h2 c (by simpa using hc)) (by rw [List.length_reverse, List.reverse_reverse]; exact h3)
  rw [List.reverse_reverse] at this
  exact this

end Go.Proofs.YtfallpinmhbemaaGreatDoor

namespace Go.Proofs.YtfallpinmhbemaaGreatDoor
open Go.RowKit

/-- The number that has this text, -1 where none has. -/
noncomputable def numOf (s : ByteArray) : Int := by classical exact if h : ∃ m : Int, In m 0 99999 ∧ s = numT m then Classical.choose h else -1
theorem numT_list {m : Int} (h : 0 ≤ m) : (numT m).data.toList = Lib.decDigits m.toNat := by
  obtain ⟨u, rfl⟩ := Int.eq_ofNat_of_zero_le h
  rw [numT_nat]
  rfl
theorem numT_inj {m n : Int} (hm : 0 ≤ m) (hn : 0 ≤ n) (h : numT m = numT n) : m = n := by
  have h1 := congrArg (fun z : ByteArray => valL z.data.toList) h
  rw [numT_list hm, numT_list hn, dec_val, dec_val] at h1
  omega
theorem numOf_text {m : Int} (h : In m 0 99999) : numOf (numT m) = m := by
  have hex : ∃ k : Int, In k 0 99999 ∧ numT m = numT k := ⟨m, h, rfl⟩
  unfold numOf
  rw [dif_pos hex]
  have := Classical.choose_spec hex
  exact (numT_inj h.1 this.1.1 this.2).symm
theorem numOf_not {s : ByteArray} (h : ∀ m : Int, In m 0 99999 → s ≠ numT m) : numOf s = -1 := by
  unfold numOf
  rw [dif_neg]
  rintro ⟨m, h1, h2⟩
  exact h m h1 h2
theorem numOf_rng (s : ByteArray) : -1 ≤ numOf s ∧ numOf s ≤ 99999 := by
  unfold numOf
  split
  · rename_i h
    obtain ⟨h1, h2⟩ := (Classical.choose_spec h).1
    exact ⟨Int.le_trans (by decide) h1, h2⟩
  · omega
/-- A sign that is no digit: no number. -/
theorem numOf_sign {s : ByteArray} {c : UInt8} (h : c ∈ s.data.toList) (hc : ¬ Digit c) : numOf s = -1 := numOf_not fun m hm e => by
  rw [e, numT_list hm.1] at h
  exact hc (dec_digits _ c h)
theorem numOf_long {s : ByteArray} (h : ¬ (1 ≤ s.size ∧ s.size ≤ 5)) : numOf s = -1 := numOf_not fun m hm e => by
  have h1 := dec_len (u := m.toNat) (by have := hm.1; have := hm.2; omega)
  have h2 : s.size = (Lib.decDigits m.toNat).length := by
    rw [← numT_list hm.1, ← e]
    exact (Array.length_toList).symm
  omega
theorem val_small {s : ByteArray} (h : s.size ≤ 5) (hd : ∀ c, c ∈ s.data.toList → Digit c) : valL s.data.toList ≤ 99999 := by
  have h1 := val_lt _ hd
  have h2 : s.data.toList.length = s.size := Array.length_toList
  rw [h2] at h1
  have : (10 : Nat) ^ s.size ≤ 10 ^ 5 := Nat.pow_le_pow_right (by decide) h
  omega
/-- Digits: what they come to, where that has this text. -/
theorem numOf_digits {s : ByteArray} (h : s.size ≤ 5) (hd : ∀ c, c ∈ s.data.toList → Digit c) : numOf s = if numT (valL s.data.toList : Int) = s then (valL s.data.toList : Int) else -1 := by
  have hv := val_small h hd
  split
  · rename_i e
    have := numOf_text (m := (valL s.data.toList : Int)) ⟨by omega, by omega⟩
    rw [e] at this
    exact this
  · rename_i e
    refine numOf_not fun m hm e2 => e ?_
    have h1 : valL s.data.toList = m.toNat := by rw [e2, numT_list hm.1, dec_val]
    rw [h1, e2]
    congr 1
    have := hm.1
    omega
/-- Digits without a needless nought ahead. -/
theorem numOf_plain {s : ByteArray} (h1 : 1 ≤ s.size) (h5 : s.size ≤ 5) (hd : ∀ c, c ∈ s.data.toList → Digit c) (h0 : s.size = 1 ∨ s.data.toList.head? ≠ some 48) : numOf s = (valL s.data.toList : Int) := by
  have hl : s.data.toList.length = s.size := Array.length_toList
  have e : numT (valL s.data.toList : Int) = s := data_inj (by
    rw [numT_list (by omega), Int.toNat_natCast]
    exact dec_back _ (by intro e; rw [e] at hl; simp at hl; omega) hd (by rw [hl]; exact h0))
  rw [numOf_digits h5 hd, if_pos e]
theorem numOf_nought {s : ByteArray} (h1 : 1 < s.size) (h0 : s.data.toList.head? = some 48) : numOf s = -1 := numOf_not fun m hm e => by
  have hl : s.data.toList.length = s.size := Array.length_toList
  rw [e, numT_list hm.1] at h0 hl
  by_cases c : m.toNat < 10
  · rw [Lib.decDigits_one c] at hl
    rw [e] at h1
    simp at hl
    omega
  · have key : ∀ u : Nat, 0 < u → (Lib.decDigits u).head? ≠ some 48 := by
      intro u
      induction u using Nat.strongRecOn with
      | _ u ih =>
        intro hu
        by_cases c : u < 10
        · rw [Lib.decDigits_one c]
          intro e
          have e : UInt8.ofNat (48 + u) = 48 := by simpa using e
          have := congrArg UInt8.toNat e
          simp at this
          omega
        · rw [Lib.decDigits, dif_neg c]
          have := ih (u / 10) (by omega) (by omega)
          have hne : Lib.decDigits (u / 10) ≠ [] := by
            intro e
            have := Lib.nDigits_pos (u / 10)
            rw [← Lib.decDigits_length, e] at this
            simp at this
          cases e : Lib.decDigits (u / 10) with
          | nil => exact absurd e hne
          | cons a r => rw [e] at this; simpa using this
    exact key m.toNat (by omega) h0

/-! ### What is read at a place -/

theorem get_at {s : ByteArray} {i : Nat} (h : i < s.size) : s.data.toList[i]? = some (s[i]'h) := by
  have hl : i < s.data.toList.length := by rw [Array.length_toList]; exact h
  rw [List.getElem?_eq_getElem hl]
  simp
  rfl
theorem get_bang {s : ByteArray} {i : Nat} (h : i < s.size) : s.get! i = s[i]'h := by
  show s.data[i]! = s.data[i]'h
  exact getElem!_pos s.data i h
/-- A rune that is no letter of the first 128 takes only bytes from 128 on. -/
theorem decode_skip (s : ByteArray) (i : Nat) (h : i < s.size) (ha : 128 ≤ (s[i]'h).toNat) : i + (Utf8.decode s i).2 ≤ s.size ∧ ∀ j, i ≤ j → j < i + (Utf8.decode s i).2 → ∀ hj : j < s.size, 128 ≤ (s[j]'hj).toNat := by
  have g0 := get_bang h
  have cont : ∀ k, (decide (i + k < s.size) && (s.get! (i + k)).toNat / 64 == 2) = true → i + k < s.size ∧ ∀ hj : i + k < s.size, 128 ≤ (s[i + k]'hj).toNat := fun k hk => by
    rw [Bool.and_eq_true] at hk
    have h1 := of_decide_eq_true hk.1
    have h2 := hk.2
    rw [get_bang h1, beq_iff_eq] at h2
    exact ⟨h1, fun hj => by omega⟩
  have one : ∀ j, i ≤ j → j < i + 1 → ∀ hj : j < s.size, 128 ≤ (s[j]'hj).toNat := fun j h1 h2 hj => by
    obtain rfl : i = j := by omega
    exact ha
  unfold Utf8.decode
  dsimp only
  rw [if_neg (by rw [Nat.add_zero, g0]; omega)]
  split
  · rename_i c
    rw [Bool.and_eq_true] at c
    have c1 := cont 1 c.2
    split
    · refine ⟨by show i + 2 ≤ _; omega, fun j h1 h2 hj => ?_⟩
      have h2 : j < i + 2 := h2
      rcases (show j = i ∨ j = i + 1 by omega) with rfl | rfl
      · exact ha
      · exact c1.2 hj
    · exact ⟨by show i + 1 ≤ _; omega, one⟩
  · split
    · rename_i c
      rw [Bool.and_eq_true, Bool.and_eq_true] at c
      have c1 := cont 1 c.1.2
      have c2 := cont 2 c.2
      split
      · refine ⟨by show i + 3 ≤ _; omega, fun j h1 h2 hj => ?_⟩
        have h2 : j < i + 3 := h2
        rcases (show j = i ∨ j = i + 1 ∨ j = i + 2 by omega) with rfl | rfl | rfl
        · exact ha
        · exact c1.2 hj
        · exact c2.2 hj
      · exact ⟨by show i + 1 ≤ _; omega, one⟩
    · split
      · rename_i c
        rw [Bool.and_eq_true, Bool.and_eq_true, Bool.and_eq_true] at c
        have c1 := cont 1 c.1.1.2
        have c2 := cont 2 c.1.2
        have c3 := cont 3 c.2
        split
        · refine ⟨by show i + 4 ≤ _; omega, fun j h1 h2 hj => ?_⟩
          have h2 : j < i + 4 := h2
          rcases (show j = i ∨ j = i + 1 ∨ j = i + 2 ∨ j = i + 3 by omega) with rfl | rfl | rfl | rfl
          · exact ha
          · exact c1.2 hj
          · exact c2.2 hj
          · exact c3.2 hj
        · exact ⟨by show i + 1 ≤ _; omega, one⟩
      · exact ⟨by show i + 1 ≤ _; omega, one⟩

/-! ### Cut in two -/

def CutIs (p : UInt8) (s a b : ByteArray) (f : Bool) : Prop := p ∉ a.data.toList ∧ ((f = true ∧ s.data.toList = a.data.toList ++ p :: b.data.toList) ∨ (f = false ∧ a = s ∧ b = ⟨#[]⟩))
theorem cut_one {p : UInt8} {s a b a' b' : ByteArray} {f f' : Bool} (h : CutIs p s a b f) (k : CutIs p s a' b' f') : a = a' ∧ b = b' ∧ f = f' := by
  obtain ⟨h0, h1⟩ := h
  obtain ⟨k0, k1⟩ := k
  rcases h1 with ⟨rfl, h1⟩ | ⟨rfl, rfl, rfl⟩
  · rcases k1 with ⟨rfl, k1⟩ | ⟨rfl, rfl, rfl⟩
    · obtain ⟨e1, e2⟩ := list_cut h0 k0 (h1.symm.trans k1)
      exact ⟨data_inj e1, data_inj e2, rfl⟩
    · exact absurd (by rw [h1]; simp) k0
  · rcases k1 with ⟨rfl, k1⟩ | ⟨rfl, rfl, rfl⟩
    · exact absurd (by rw [k1]; simp) h0
    · exact ⟨rfl, rfl, rfl⟩

end Go.Proofs.YtfallpinmhbemaaGreatDoor

namespace Go.Proofs.YtfallpinmhbemaaGreatDoor
open Go.RowKit

set_option maxHeartbeats 1600000 in
set_option maxRecDepth 100000 in
theorem numberIn_any (s : ByteArray) (w : World) (hP : PowAt w) :
    Calls Tryz.prog 55 #[.string s] w fun e w' => e = .returned (.int .i64 (numOf s)) ∧ Below w.heap.size w w' := by
  by_cases h5 : s.size ≤ 5
  case neg =>
    have d5 : decide (5 < s.size) = true := decide_eq_true (by omega)
    have HR : Hid (-1 = numOf s) := (numOf_long (by omega)).symm
    go_enter Tryz.func55, Tryz.ntmps55
    go_wp2
    go_ret
    exact ⟨congrArg (fun z => Ending.returned (Value.int .i64 z)) HR.out, Below.refl _ _⟩
  have d5 : decide (5 < s.size) = false := decide_eq_false (by omega)
  have HP : Hid (PowAt w) := hP
  have hl : s.data.toList.length = s.size := Array.length_toList
  have hk0 : (w.iter s 0).heap[w.heap.size]? = some (.stringIter s 0) := World.iter_heap w s 0
  have hb0 : Below w.heap.size w (w.iter s 0) := push (Below.refl _ _) _
  clear hP
  go_enter Tryz.func55, Tryz.ntmps55
  go_wp2
  go_loopw [3, 5] (fun v _ wr => ∃ pos : Nat, pos ≤ s.size ∧ wr.heap[w.heap.size]? = some (.stringIter s pos) ∧ v = .int .i64 (valL (s.data.toList.take pos) : Int) ∧ Hid (∀ c, c ∈ s.data.toList.take pos → Digit c) ∧ Below w.heap.size w wr)
    (fun _ _ wr => s.size - wr.iterPos w.heap.size)
  case atStart => exact ⟨0, Nat.zero_le _, hk0, rfl, fun c hc => by simp at hc, hb0⟩
  case round =>
    obtain ⟨pos, hps, hk, rfl, HD, hbel⟩ := hrel
    clear hk0 hb0
    have hmu : wr.iterPos w.heap.size = pos := by simp [World.iterPos, hk]
    by_cases hp : pos < s.size
    · have hmem : s[pos]'hp ∈ s.data.toList := List.mem_of_getElem? (get_at hp)
      by_cases h128 : (s[pos]'hp).toNat < 128
      · have hnext : ∀ ty, (Instr.next (.pointer (some ⟨w.heap.size, 0, none⟩)) true ty).run Tryz.prog wr = _ := fun ty => Lib.run_next_ascii_at wr w.heap.size s pos ty hk hp h128
        have hk1 := Lib.iterAt_heap wr w.heap.size s pos (pos + 1) hk
        have hb1 : Below w.heap.size w (wr.iterAt w.heap.size s (pos + 1)) := Lib.below_iterAt hbel (Nat.le_refl _) s (pos + 1)
        generalize wr.iterAt w.heap.size s (pos + 1) = W1 at hnext hk1 hb1
        by_cases hd : Digit (s[pos]'hp)
        · have HD1 : Hid (∀ c, c ∈ s.data.toList.take (pos + 1) → Digit c) := fun c hc => by
            rw [List.take_add_one, get_at hp] at hc
            rcases List.mem_append.1 hc with hc | hc
            · exact HD.out c hc
            · simp at hc; rw [hc]; exact hd
          have hv : valL (s.data.toList.take (pos + 1)) = 10 * valL (s.data.toList.take pos) + ((s[pos]'hp).toNat - 48) := by
            rw [List.take_add_one, get_at hp]
            exact valL_snoc _ _
          have hvs : valL (s.data.toList.take pos) < 100000 := by
            have h1 := val_lt _ HD.out
            have h2 : (s.data.toList.take pos).length ≤ 5 := by rw [List.length_take]; omega
            have : (10 : Nat) ^ (s.data.toList.take pos).length ≤ 10 ^ 5 := Nat.pow_le_pow_right (by decide) h2
            omega
          have HV : Hid (valL (s.data.toList.take (pos + 1)) = 10 * valL (s.data.toList.take pos) + ((s[pos]'hp).toNat - 48)) := hv
          unfold Digit at hd
          generalize hc : (s[pos]'hp).toNat = c at hd hnext HV h128
          generalize valL (s.data.toList.take pos) = V at hvs HV ⊢
          have e1 : decide ((c : Int) < 48) = false := decide_eq_false (by omega)
          have e2 : decide ((57 : Int) < (c : Int)) = false := decide_eq_false (by omega)
          have e1' : decide (c < 48) = false := decide_eq_false (by omega)
          have e2' : decide (57 < c) = false := decide_eq_false (by omega)
          have w1 : IntKind.i64.wrap (10 * (V : Int)) = 10 * (V : Int) := by rw [IntKind.wrap_i64]; omega
          have w2 : IntKind.i32.wrap ((c : Int) - 48) = (c : Int) - 48 := by unfold IntKind.wrap; simp [IntKind.bits, IntKind.signed]; omega
          have w3 : IntKind.i64.wrap ((c : Int) - 48) = (c : Int) - 48 := by rw [IntKind.wrap_i64]; omega
          have w4 : IntKind.i64.wrap (10 * (V : Int) + ((c : Int) - 48)) = 10 * (V : Int) + ((c : Int) - 48) := by rw [IntKind.wrap_i64]; omega
          clear hmem hc hk hbel HD hv
          go_wp2
          go_roundw
          case rel => exact ⟨pos + 1, by omega, hk1, by rw [HV.out]; congr 1; omega, HD1, hb1⟩
          case measure =>
            have hmu2 : W1.iterPos w.heap.size = pos + 1 := by simp [World.iterPos, hk1]
            rw [hmu, hmu2]
            omega
        · have HR : Hid (-1 = numOf s) := (numOf_sign hmem hd).symm
          unfold Digit at hd
          generalize hc : (s[pos]'hp).toNat = c at hd hnext h128
          generalize valL (s.data.toList.take pos) = V
          clear hmem hc hk HD hk1
          by_cases h48 : c < 48
          · have e1 : decide ((c : Int) < 48) = true := decide_eq_true (by omega)
            have e1' : decide (c < 48) = true := decide_eq_true h48
            go_wp2
            go_ret
            exact ⟨congrArg (fun z => Ending.returned (Value.int .i64 z)) HR.out, hb1⟩
          · have e1 : decide ((c : Int) < 48) = false := decide_eq_false (by omega)
            have e1' : decide (c < 48) = false := decide_eq_false h48
            have e2 : decide ((57 : Int) < (c : Int)) = true := decide_eq_true (by omega)
            have e2' : decide (57 < c) = true := decide_eq_true (by omega)
            go_wp2
            go_ret
            exact ⟨congrArg (fun z => Ending.returned (Value.int .i64 z)) HR.out, hb1⟩
      · have hnext : ∀ ty, (Instr.next (.pointer (some ⟨w.heap.size, 0, none⟩)) true ty).run Tryz.prog wr = _ := fun ty => Lib.run_next_any_at wr w.heap.size s pos ty hk hp
        have hb1 : Below w.heap.size w (wr.iterAt w.heap.size s (pos + (Utf8.decode s pos).2)) := Lib.below_iterAt hbel (Nat.le_refl _) s _
        generalize wr.iterAt w.heap.size s (pos + (Utf8.decode s pos).2) = W1 at hnext hb1
        have HR : Hid (-1 = numOf s) := (numOf_sign hmem (fun h => by unfold Digit at h; omega)).symm
        have hr := (decode_high s pos hp (by omega)).1
        generalize (Utf8.decode s pos).1 = c at hr hnext
        generalize valL (s.data.toList.take pos) = V
        clear hmem hk HD
        have e1 : decide ((c : Int) < 48) = false := decide_eq_false (by omega)
        have e1' : decide (c < 48) = false := decide_eq_false (by omega)
        have e2 : decide ((57 : Int) < (c : Int)) = true := decide_eq_true (by omega)
        have e2' : decide (57 < c) = true := decide_eq_true (by omega)
        go_wp2
        go_ret
        exact ⟨congrArg (fun z => Ending.returned (Value.int .i64 z)) HR.out, hb1⟩
    · have hnext : ∀ ty, (Instr.next (.pointer (some ⟨w.heap.size, 0, none⟩)) true ty).run Tryz.prog wr = _ := fun ty => Lib.run_next_end_at wr w.heap.size s pos ty hk hp
      have hall : s.data.toList.take pos = s.data.toList := List.take_of_length_le (by omega)
      rw [hall] at HD ⊢
      have hv := val_small h5 HD.out
      have HR := numOf_digits h5 HD.out
      generalize valL s.data.toList = V at hv HR ⊢
      have HRR : Hid (numOf s = if numT (V : Int) = s then (V : Int) else -1) := HR
      clear HR
      by_cases he : numT (V : Int) = s
      · have ee : ((numT (V : Int)).toList == s.toList) = true := bytes_eq.2 he
        have HF : Hid ((V : Int) = numOf s) := by rw [HRR.out, if_pos he]; exact rfl
        clear he
        go_wp2_with fail
        refine (itoa_any (V : Int) (by omega) (by omega) _ (HP.out.below hbel)).mono ?_
        rintro e w3 ⟨rfl, hb3⟩
        go_wp2
        go_ret
        exact ⟨congrArg (fun z => Ending.returned (Value.int .i64 z)) HF.out, after hbel hb3⟩
      · have ee : ((numT (V : Int)).toList == s.toList) = false := bytes_ne.2 he
        have HF : Hid (-1 = numOf s) := by rw [HRR.out, if_neg he]; exact rfl
        clear he
        go_wp2_with fail
        refine (itoa_any (V : Int) (by omega) (by omega) _ (HP.out.below hbel)).mono ?_
        rintro e w3 ⟨rfl, hb3⟩
        go_wp2
        go_ret
        exact ⟨congrArg (fun z => Ending.returned (Value.int .i64 z)) HF.out, after hbel hb3⟩

end Go.Proofs.YtfallpinmhbemaaGreatDoor

namespace Go.Proofs
open Go.Shelf
shelf_lay Lays.n118 Nm 118 at Tryz as Tryz.lays118
end Go.Proofs

namespace Go.Proofs.YtfallpinmhbemaaGreatDoor
open Go.RowKit

theorem parts_start (p : UInt8) : PartsL p [] [[]] := ⟨by simp, rfl, fun q hq => by simp at hq; rw [hq]; simp⟩
theorem parts_grow {p : UInt8} {x q t : List UInt8} {l : List (List UInt8)} (h : PartsL p x (l ++ [q])) (ht : p ∉ t) : PartsL p (x ++ t) (l ++ [q ++ t]) := by
  refine ⟨by simp, ?_, fun r hr => ?_⟩
  · rw [← h.2.1]
    by_cases c : l = []
    · subst c
      simp [Lib.join_one]
    · rw [join_snoc _ _ _ c, join_snoc _ _ _ c]
      simp
  · rcases List.mem_append.1 hr with hr | hr
    · exact h.2.2 r (by simp [hr])
    · simp at hr
      rw [hr]
      have := h.2.2 q (by simp)
      simp [this, ht]
theorem parts_sep {p : UInt8} {x q : List UInt8} {l : List (List UInt8)} (h : PartsL p x (l ++ [q])) : PartsL p (x ++ [p]) ((l ++ [q]) ++ [[]]) := by
  refine ⟨by simp, ?_, fun r hr => ?_⟩
  · rw [join_snoc _ _ _ (by simp), h.2.1]
    simp
  · rcases List.mem_append.1 hr with hr | hr
    · exact h.2.2 r hr
    · simp at hr
      rw [hr]
      simp
theorem sub_list (s : ByteArray) (a b : Nat) : (s.extract a b).data.toList = (s.data.toList.drop a).take (b - a) := by
  simp
/-- Where the cutting of a text stands: at pos, the part under way from st on, l behind it. -/
def CutAt (p : UInt8) (s : ByteArray) (pos st : Nat) (l : List ByteArray) : Prop := st ≤ pos ∧ pos ≤ s.size ∧ l.length ≤ pos ∧ PartsL p (s.data.toList.take pos) (l.map (·.data.toList) ++ [(s.data.toList.drop st).take (pos - st)])
theorem CutAt.start (p : UInt8) (s : ByteArray) : CutAt p s 0 0 [] := ⟨Nat.le_refl _, Nat.zero_le _, Nat.le_refl _, by simpa using parts_start p⟩
theorem CutAt.skip {p : UInt8} {s : ByteArray} {pos pos' st : Nat} {l : List ByteArray} (h : CutAt p s pos st l) (h1 : pos ≤ pos') (h2 : pos' ≤ s.size) (hn : ∀ j, pos ≤ j → j < pos' → ∀ hj : j < s.size, s[j]'hj ≠ p) : CutAt p s pos' st l := by
  obtain ⟨a, b, c, d⟩ := h
  refine ⟨by omega, h2, by omega, ?_⟩
  have hl : s.data.toList.length = s.size := Array.length_toList
  have e1 : s.data.toList.take pos' = s.data.toList.take pos ++ (s.data.toList.drop pos).take (pos' - pos) := by
    rw [show pos' = pos + (pos' - pos) by omega, List.take_add]
    simp
  have e2 : (s.data.toList.drop st).take (pos' - st) = (s.data.toList.drop st).take (pos - st) ++ (s.data.toList.drop pos).take (pos' - pos) := by
    rw [show pos' - st = (pos - st) + (pos' - pos) by omega, List.take_add, List.drop_drop, show st + (pos - st) = pos by omega]
  rw [e1, e2]
  refine parts_grow d ?_
  intro hm
  obtain ⟨i, hi⟩ := List.mem_iff_getElem?.1 hm
  rw [List.getElem?_take] at hi
  split at hi
  · rename_i hlt
    rw [List.getElem?_drop] at hi
    have hj : pos + i < s.size := by omega
    rw [get_at hj] at hi
    exact hn (pos + i) (by omega) (by omega) hj (by simpa using hi)
  · cases hi
theorem CutAt.sep {p : UInt8} {s : ByteArray} {pos st : Nat} {l : List ByteArray} (h : CutAt p s pos st l) (hp : pos < s.size) (he : s[pos]'hp = p) : CutAt p s (pos + 1) (pos + 1) (l ++ [s.extract st pos]) := by
  obtain ⟨a, b, c, d⟩ := h
  refine ⟨Nat.le_refl _, by omega, by rw [List.length_append, List.length_singleton]; omega, ?_⟩
  have := parts_sep d
  rw [List.map_append, List.map_cons, List.map_nil, sub_list, List.take_add_one, get_at hp, he]
  simpa using this
theorem CutAt.done {p : UInt8} {s : ByteArray} {st : Nat} {l : List ByteArray} (h : CutAt p s s.size st l) : Parts p s (l ++ [s.extract st s.size]) := by
  obtain ⟨a, b, c, d⟩ := h
  have hl : s.data.toList.length = s.size := Array.length_toList
  rw [← sub_list, List.take_of_length_le (by omega)] at d
  refine ⟨by simp, ?_, fun q hq => ?_⟩
  · apply data_inj
    unfold joinT oneT
    have := d.2.1
    simpa using this
  · refine d.2.2 _ ?_
    rcases List.mem_append.1 hq with hq | hq
    · exact List.mem_append.2 (.inl (List.mem_map.2 ⟨q, hq, rfl⟩))
    · simp at hq
      rw [hq]
      simp
theorem kept_iter (w : World) (k : Nat) (s : ByteArray) (pos : Nat) : Kept w (w.iterAt k s pos) (fun b => b = k) := ⟨rfl, rfl, rfl, by rw [Lib.iterAt_size]; exact Nat.le_refl _, fun i _ hn => Lib.iterAt_other w k i s pos hn⟩
theorem own_not_iter {w : World} {base e size n k pos : Nat} {v : Value} {xs : List Value} {s : ByteArray} (h : w.ownsRow base e size v n xs) (hk : w.heap[k]? = some (.stringIter s pos)) : ∀ g, v.ownBlock = some g → ¬ g = k := by
  rintro g hg rfl
  rcases h.2 with ⟨rfl, _⟩ | ⟨g', cap', cur, rfl, _, hg', _⟩
  · simp [Value.ownBlock] at hg
  · simp only [Value.ownBlock, Option.some.injEq] at hg
    subst hg
    rw [hg'] at hk
    cases hk

set_option maxHeartbeats 1600000 in
set_option maxRecDepth 100000 in
theorem partsIn_any (s : ByteArray) (p : UInt8) (w : World) (hp : p.toNat < 128) (hs : s.size ≤ 1048576) :
    Calls Tryz.prog 57 #[.string s, .int .i32 p.toNat] w fun e w' => ∃ v l, e = .returned v ∧ OwnT w' w.heap.size v l ∧ Hid (Parts p s l ∧ l.length ≤ s.size + 1) ∧ Below w.heap.size w w' := by
  obtain ⟨j0, ji, jz0, jz1, jz2⟩ := info_parts Tryz.infoText
  have hk0 : (w.iter s 0).heap[w.heap.size]? = some (.stringIter s 0) := World.iter_heap w s 0
  have hb0 : Below w.heap.size w (w.iter s 0) := push (Below.refl _ _) _
  have HRL : Hid (∀ W : World, Calls Tryz.prog 94 #[.int .i32 p.toNat] W fun e w' => e = .returned (.int .i64 1) ∧ w' = W) := fun W => by
    have h := Any.utf8_RuneLen Tryz.lays118 (p.toNat : Int) W
    rw [show Lib.runeLen (p.toNat : Int) = 1 from by unfold Lib.runeLen; rw [if_neg (by omega), if_pos (by omega)]] at h
    exact h
  go_enter Tryz.func57, Tryz.ntmps57
  go_wp2
  go_loopw [5, 6, 7, 8] (fun v vs _ _ wr => ∃ (pos st : Nat) (l : List ByteArray), vs = .int .i64 st ∧ wr.heap[w.heap.size]? = some (.stringIter s pos) ∧ Hid (CutAt p s pos st l) ∧ Hid (OwnT wr w.heap.size v l) ∧ Below w.heap.size w wr)
    (fun _ _ _ _ wr => s.size - wr.iterPos w.heap.size)
  case atStart => exact ⟨0, 0, [], rfl, hk0, CutAt.start p s, World.ownsRow_nil _ _ _ _, hb0⟩
  case round =>
    obtain ⟨pos, st, l, rfl, hk, HC, HO, hbel⟩ := hrel
    clear hk0 hb0
    have hmu : wr.iterPos w.heap.size = pos := by simp [World.iterPos, hk]
    obtain ⟨la, lc, rfl, _⟩ := own_form HO.out
    have hst := HC.out.1
    have hps := HC.out.2.1
    have hll := HC.out.2.2.1
    by_cases hlt : pos < s.size
    · by_cases h128 : (s[pos]'hlt).toNat < 128
      · have hnext : ∀ ty, (Instr.next (.pointer (some ⟨w.heap.size, 0, none⟩)) true ty).run Tryz.prog wr = _ := fun ty => Lib.run_next_ascii_at wr w.heap.size s pos ty hk hlt h128
        have hk1 := Lib.iterAt_heap wr w.heap.size s pos (pos + 1) hk
        have hb1 : Below w.heap.size w (wr.iterAt w.heap.size s (pos + 1)) := Lib.below_iterAt hbel (Nat.le_refl _) s (pos + 1)
        have HO1 : Hid (OwnT (wr.iterAt w.heap.size s (pos + 1)) w.heap.size (.slice la l.length lc) l) := (kept_iter wr w.heap.size s (pos + 1)).own HO.out (own_not_iter HO.out hk)
        generalize wr.iterAt w.heap.size s (pos + 1) = W1 at hnext hk1 hb1 HO1
        by_cases he : s[pos]'hlt = p
        · have HC1 : Hid (CutAt p s (pos + 1) (pos + 1) (l ++ [s.extract st pos])) := HC.out.sep hlt he
          rw [he] at hnext
          have ep : ((p.toNat : Int) == (p.toNat : Int)) = true := by simp
          have hw1 : IntKind.i64.wrap ((pos : Int) + 1) = ((pos + 1 : Nat) : Int) := by rw [IntKind.wrap_i64]; omega
          have i1 : (0 : Int) ≤ (st : Int) := by omega
          have i2 : (st : Int) ≤ (pos : Int) := by omega
          have i3 : (pos : Int) ≤ (s.size : Int) := by omega
          have HO2 : Hid (OwnT (W1.alloc (.cells #[.string (s.extract st pos)] 9)) w.heap.size (.slice la l.length lc) l) := own_below (push (Below.refl _ _) _) HO1.out
          have hb2 : Below w.heap.size w (W1.alloc (.cells #[.string (s.extract st pos)] 9)) := push hb1 _
          have hk2 := blk_alloc hk1 (.cells #[.string (s.extract st pos)] 9)
          have hsz := hb2.size
          clear hk hbel HO he
          go_wp2_with (first | (go_at_call 94; (with_reducible refine Calls.mono (HRL.out _) ?_); rintro e w3 ⟨rfl, hw3⟩; have hw3 := hw3.symm; subst hw3) | (at_builtin; refine wpList_append_any _ (by rfl) (.tmp 18) (.tmp 23) 46 (by rfl) w.heap.size 9 j0 (.string ⟨#[]⟩) 1 16 Tryz.underlying46 ji jz0 jz1 jz2 rfl (by decide) _ l.length (l.map Value.string) (by rfl) HO2.out (some ⟨W1.heap.size, 0, none⟩) 1 1 [.string (s.extract st pos)] (by rfl) (fun h => by cases h) (by rfl) (fun ad h => by cases h; exact World.news_of_block (heap_alloc_new W1 _)) (by intro u hu; simp only [List.mem_cons, List.not_mem_nil, or_false] at hu; subst hu; rfl) (by unfold maxLen; omega) (by omega) hsz ?_; intro v9 w9 ho9 hg9; have hk9 := (kept_row hg9).blk hk2 (fun e => own_not_iter HO2.out hk2 _ e rfl); have hb9 := hb2.grown hg9 hsz (fun j hj => (World.ownsRow.lt HO2.out j hj).1); have HO9 : Hid (OwnT w9 w.heap.size v9 (l ++ [s.extract st pos])) := (by unfold OwnT; rw [List.length_append, List.map_append]; exact ho9); clear ho9 hg9))
          go_roundw
          case rel => exact ⟨pos + 1, pos + 1, _, by go_num, hk9, HC1, HO9, hb9⟩
          case measure =>
            have hmu2 : w9.iterPos w.heap.size = pos + 1 := by simp [World.iterPos, hk9]
            rw [hmu, hmu2]
            omega
        · have HC1 : Hid (CutAt p s (pos + 1) st l) := HC.out.skip (by omega) (by omega) (fun j h1 h2 hj => by
            obtain rfl : pos = j := by omega
            exact he)
          have hne : (s[pos]'hlt).toNat ≠ p.toNat := fun e => he (UInt8.toNat_inj.1 e)
          have hne' : (((s[pos]'hlt).toNat : Int) == (p.toNat : Int)) = false := by rw [beq_eq_false_iff_ne]; omega
          clear hk hbel HO he
          go_wp2
          go_roundw
          case rel => exact ⟨pos + 1, st, l, rfl, hk1, HC1, HO1, hb1⟩
          case measure =>
            have hmu2 : W1.iterPos w.heap.size = pos + 1 := by simp [World.iterPos, hk1]
            rw [hmu, hmu2]
            omega
      · have hsk := decode_skip s pos hlt (by omega)
        have hhi := decode_high s pos hlt (by omega)
        have hnext : ∀ ty, (Instr.next (.pointer (some ⟨w.heap.size, 0, none⟩)) true ty).run Tryz.prog wr = _ := fun ty => Lib.run_next_any_at wr w.heap.size s pos ty hk hlt
        generalize (Utf8.decode s pos).2 = d at hsk hhi hnext
        have hk1 := Lib.iterAt_heap wr w.heap.size s pos (pos + d) hk
        have hb1 : Below w.heap.size w (wr.iterAt w.heap.size s (pos + d)) := Lib.below_iterAt hbel (Nat.le_refl _) s (pos + d)
        have HO1 : Hid (OwnT (wr.iterAt w.heap.size s (pos + d)) w.heap.size (.slice la l.length lc) l) := (kept_iter wr w.heap.size s (pos + d)).own HO.out (own_not_iter HO.out hk)
        generalize wr.iterAt w.heap.size s (pos + d) = W1 at hnext hk1 hb1 HO1
        have HC1 : Hid (CutAt p s (pos + d) st l) := HC.out.skip (by omega) hsk.1 (fun j h1 h2 hj e => by
          have := hsk.2 j h1 h2 hj
          rw [e] at this
          omega)
        generalize (Utf8.decode s pos).1 = c at hhi hnext
        have hne' : ((c : Int) == (p.toNat : Int)) = false := by rw [beq_eq_false_iff_ne]; omega
        have hne : c ≠ p.toNat := by omega
        clear hk hbel HO
        go_wp2
        go_roundw
        case rel => exact ⟨pos + d, st, l, rfl, hk1, HC1, HO1, hb1⟩
        case measure =>
          have hmu2 : W1.iterPos w.heap.size = pos + d := by simp [World.iterPos, hk1]
          rw [hmu, hmu2]
          omega
    · obtain rfl : pos = s.size := by omega
      have hnext : ∀ ty, (Instr.next (.pointer (some ⟨w.heap.size, 0, none⟩)) true ty).run Tryz.prog wr = _ := fun ty => Lib.run_next_end_at wr w.heap.size s s.size ty hk hlt
      have HPS : Hid (Parts p s (l ++ [s.extract st s.size]) ∧ (l ++ [s.extract st s.size]).length ≤ s.size + 1) := ⟨HC.out.done, by rw [List.length_append, List.length_singleton]; omega⟩
      have HO2 : Hid (OwnT (wr.alloc (.cells #[.string (s.extract st s.size)] 9)) w.heap.size (.slice la l.length lc) l) := own_below (push (Below.refl _ _) _) HO.out
      have hb2 : Below w.heap.size w (wr.alloc (.cells #[.string (s.extract st s.size)] 9)) := push hbel _
      have hsz := hb2.size
      have i1 : (0 : Int) ≤ (st : Int) := by omega
      have i2 : (st : Int) ≤ (s.size : Int) := by omega
      clear hk HO hmu
      go_wp2_with (first | (at_builtin; refine wpList_append_any _ (by rfl) (.tmp 29) (.tmp 33) 46 (by rfl) w.heap.size 9 j0 (.string ⟨#[]⟩) 1 16 Tryz.underlying46 ji jz0 jz1 jz2 rfl (by decide) _ l.length (l.map Value.string) (by rfl) HO2.out (some ⟨wr.heap.size, 0, none⟩) 1 1 [.string (s.extract st s.size)] (by rfl) (fun h => by cases h) (by rfl) (fun ad h => by cases h; exact World.news_of_block (heap_alloc_new wr _)) (by intro u hu; simp only [List.mem_cons, List.not_mem_nil, or_false] at hu; subst hu; rfl) (by unfold maxLen; omega) (by omega) hsz ?_; intro v9 w9 ho9 hg9; have hb9 := hb2.grown hg9 hsz (fun j hj => (World.ownsRow.lt HO2.out j hj).1); have HO9 : Hid (OwnT w9 w.heap.size v9 (l ++ [s.extract st s.size])) := (by unfold OwnT; rw [List.length_append, List.map_append]; exact ho9); clear ho9 hg9))
      go_ret
      exact ⟨_, _, rfl, HO9.out, HPS.out, hb9⟩

end Go.Proofs.YtfallpinmhbemaaGreatDoor
