/-
  OWN TEXT: StepOwn, SpecOo.
-/
import Derived.Deep.RegionLawGrows
import Derived.Deep.AppendLies
import Derived.Deep.LoopGhost
import Derived.Deep.RegionHeld3
import Derived.Test.YtdmkpflphjemoaaB03
import Derived.Test.YtdmkpflphjemoaaB16
import Derived.Test.YtdmkpflphjemoaaB06
import Derived.Test.YtdmkpflphjemoaaB13
namespace Go.Proofs.Ytdmkpflphjemoaa
open Go.RowKit

/-- append(T{}, src...), one step: a row of one's own. -/
theorem step_append_own0 {P : Program} {ops : Array Oper} {o : Oper} {a : Act} {w : World} {K : Act → World → Prop} {Q : Exit → Act → World → Prop} {E : Prop}
    (hg : o.guard = none) (s x : Operand) (t : TypeId) (hop : o.op = Op.call { callee := Callee.builtin Builtin.append, args := #[s, x], argTypes := #[t, t] })
    (e : TypeId) (i : TypeInfo) (z : Value) (size bytes : Nat) (h1 : P.underlying t = some (.slice e)) (h2 : P.info? e = some i) (h3 : i.zero = some z) (h4 : i.size = size) (h5 : i.bytes = bytes) (h6 : z.cells.size = size) (h7 : 0 < size)
    (base b : Nat) (hs : a.eval s = .slice (some ⟨b, 0, none⟩) 0 0) (hb : base ≤ b) (hbw : w.heap[b]? = some (.cells #[] e (0, 0)))
    (bo : Option Addr) (m c : Nat) (news : List Value) (hx : a.eval x = .slice bo m c) (hnil : bo = none → m = 0 ∧ c = 0) (hn : news.length = m * size) (hc : ∀ ad, bo = some ad → ∀ j u, news[j]? = some u → w.cell? (ad.add j) = some u) (h1c : ∀ u ∈ news, u.oneCell' = true)
    (b1 : m ≤ maxLen) (b2 : m * bytes ≤ 140737488355328)
    (hK : ∀ ao' c' w', w.grownBy w' none → w'.ownsRow base e size (.slice ao' m c') m news → (∀ g, (Value.slice ao' m c').ownBlock = some g → g = b ∨ w.heap.size ≤ g) → K (a.put o.dst (.slice ao' m c')) w') :
    if Region.wanted o (yielded ops a.tmps) = true then Oper.wp P o a w K Q else E := by
  have hbl : b < w.heap.size := blk_lt hbw
  by_cases hm : m = 0
  · subst hm
    have hnews : news = [] := List.eq_nil_of_length_eq_zero (by simpa using hn)
    subst hnews
    have hk := hK (some ⟨b, 0, none⟩) 0 w (World.grownBy.refl w none) ⟨by simp, .inr ⟨b, 0, #[], rfl, hb, hbw, Nat.le_refl _, Nat.zero_le _, by simp, by simp⟩⟩ (fun g hg => by simp only [Value.ownBlock, Option.some.injEq] at hg; exact .inl hg.symm)
    have hw : Region.wanted o (yielded ops a.tmps) = true := by simp [Region.wanted, hg]
    cases bo with
    | none =>
      obtain ⟨_, rfl⟩ := hnil rfl
      rw [if_pos hw]
      unfold Oper.wp
      have hrun : (Builtin.append_ #[t, t] o.type #[.slice (some ⟨b, 0, none⟩) 0 0, .slice none 0 0]).run P w = .ok (.slice (some ⟨b, 0, none⟩) 0 0) w := by
        simp [Builtin.append_, run_underlying h1, sizeOf, typeInfo, h2, Builtin.lenOf, Builtin.firstCells, storeCells]
      simp [execOp, hop, resolve, invoke, builtin, hs, hx, hrun, Result.andThen]
      exact hk
    | some ad => exact step_append_room hg s x t hop e i size h1 h2 h4 b 0 0 0 hs ad 0 c [] hx (by simp) (by simp) (by simp) (Nat.le_refl _) (by simp) (by simpa [World.setCells] using hk)
  · cases bo with
    | none => exact absurd (hnil rfl).1 hm
    | some ad =>
      refine step_append_grows hg s x t hop e i z size bytes h1 h2 h3 h4 h5 h6 h7 (some ⟨b, 0, none⟩) 0 0 [] hs (by intro h; cases h) (by simp) (by simp) ad m c news hx hn (hc ad rfl) h1c (by omega) (by omega) (by rw [Nat.zero_add]; exact b2) ?_
      intro v' w' hown hgrow
      rw [Nat.zero_add, List.nil_append] at hown
      obtain ⟨ao', c', rfl, hc1, hc2, _⟩ := own_form hown
      exact hK ao' c' w' hgrow (own_base hown (by omega)) (fun g hg => .inr (hown.lt g hg).1)

end Go.Proofs.Ytdmkpflphjemoaa

namespace Go.Proofs.Ytdmkpflphjemoaa
open Go.RowKit

set_option maxHeartbeats 6400000 in
set_option maxRecDepth 100000 in
theorem l2OwnO_any (ao : Option Addr) (N c : Nat) (K : Nat → Int) (H Q : Nat → Line) (w : World) (hN : N ≤ 1048576) (hs : ShortTo N H Q 1048576) (hz : LocksAt w ao N K H Q) :
    Calls Try.prog 29 #[.slice ao N c] w fun e w' => (∃ v hv qv, e = .returned v ∧ LocksOwn w' w.heap.size N v K H Q hv qv) ∧ Below w.heap.size w w' := by
  obtain ⟨i0, ii, iz0, iz1, iz2⟩ := info_parts Try.infoAsked
  obtain ⟨j0, ji, jz0, jz1, jz2⟩ := info_parts Try.infoLock
  have HS : Hid (ShortTo N H Q 1048576) := hs
  have HZ : Hid (LocksAt w ao N K H Q) := hz
  clear hs hz
  go_enter Try.func29, Try.ntmps29
  go_wp2
  go_loopg [3, 8] N (fun g v i wr => ∃ (k : Nat) (hv qv : Nat → Value), k ≤ N ∧ g = N - k ∧ i = .int .i64 k ∧ LocksOwn wr w.heap.size k v K H Q hv qv ∧ Below w.heap.size w wr)
  case atStart => exact ⟨0, fun _ => .slice none 0 0, fun _ => .slice none 0 0, Nat.zero_le _, rfl, rfl, LocksOwn.nil _ _ _ _ _ _ _, Below.refl _ _⟩
  case round =>
    obtain ⟨k, hv, qv, hk, rfl, rfl, hL, hbel⟩ := hrel
    obtain ⟨av, cv, rfl, _⟩ := own_form hL.row
    by_cases hlt : k < N
    · obtain ⟨b, off, ha, hc, qa, qc, rfl, h0, h1, h2, h3, h4, h5, h6⟩ := HZ.out k hlt
      have hb := World.block_lt_of_cell? w _ h0
      have d0 := (hbel.cell (p := ⟨b, off + k * 3, none⟩) hb).trans h0
      have d1 := (hbel.cell (p := ⟨b, off + k * 3 + 1, none⟩) hb).trans h1
      have d2 := (hbel.cell (p := ⟨b, off + k * 3 + 2, none⟩) hb).trans h2
      have s1 := (HS.out k hlt).1
      have s2 := (HS.out k hlt).2
      have HH : Hid (LineAt w ha (H k) ∧ SliceOk ha (H k).n hc) := ⟨h3, h5⟩
      have HQ : Hid (LineAt w qa (Q k) ∧ SliceOk qa (Q k).n qc) := ⟨h4, h6⟩
      have HL : Hid (LocksOwn wr w.heap.size k (.slice av k cv) K H Q hv qv) := hL
      have HB : Hid (Below w.heap.size w wr) := hbel
      clear h0 h1 h2 h3 h4 h5 h6 hL
      have hp : Below wr.heap.size wr (wr.alloc (.cells #[.int .i64 (K k), .slice ha (H k).n hc, .slice qa (Q k).n qc] 60)) := push (Below.refl _ _) _
      have bX := heap_alloc_new wr (.cells #[.int .i64 (K k), .slice ha (H k).n hc, .slice qa (Q k).n qc] 60)
      go_upto_region 5 with fail
      generalize wr.alloc (.cells #[.int .i64 (K k), .slice ha (H k).n hc, .slice qa (Q k).n qc] 60) = X at hp bX ⊢
      have hwX : w.heap.size ≤ X.heap.size := Nat.le_trans hbel.size hp.size
      have HX : Hid (Below wr.heap.size wr X ∧ wr.heap.size < X.heap.size) := ⟨hp, blk_lt bX⟩
      have KS : Hid (∀ w', Below X.heap.size X w' → w'.cell? ⟨wr.heap.size, 0, none⟩ = some (.int .i64 (K k)) ∧ w'.cell? ⟨wr.heap.size, 1, none⟩ = some (.slice ha (H k).n hc) ∧ w'.cell? ⟨wr.heap.size, 2, none⟩ = some (.slice qa (Q k).n qc)) := fun w' h => ⟨blk_cell (blk_below bX h) 0 _ rfl, blk_cell (blk_below bX h) 1 _ rfl, blk_cell (blk_below bX h) 2 _ rfl⟩
      have HLH : Hid (∀ w', Below X.heap.size X w' → LineAt w' ha (H k)) := fun w' h => HH.out.1.below (after HB.out (after HX.out.1 h))
      have HLQ : Hid (∀ w', Below X.heap.size X w' → LineAt w' qa (Q k)) := fun w' h => HQ.out.1.below (after HB.out (after HX.out.1 h))
      have HR : Hid (∀ w', Below X.heap.size X w' → LocksOwn w' w.heap.size k (.slice av k cv) K H Q hv qv) := fun w' h => HL.out.below (after HX.out.1 h)
      have HN1 : Hid (ha = none → (H k).n = 0 ∧ hc = 0) := HH.out.2.2.2
      have HN2 : Hid (qa = none → (Q k).n = 0 ∧ qc = 0) := HQ.out.2.2.2
      have KX : Hid (X.heap[wr.heap.size]? = some (.cells #[.int .i64 (K k), .slice ha (H k).n hc, .slice qa (Q k).n qc] 60 (0, 0))) := bX
      have KN : Hid (∀ g, (Value.slice av k cv).ownBlock = some g → g ≠ wr.heap.size) := fun g e => by have := (HL.out.row.lt g e).2; omega
      have x0 := blk_cell bX 0 _ rfl
      have x1 := blk_cell bX 1 _ rfl
      have x2 := blk_cell bX 2 _ rfl
      clear d0 d1 d2 hp bX hbel
      go_region_held3 (fun w' => w'.cell? ⟨wr.heap.size, 0, none⟩ = some (.int .i64 (K k)) ∧ w'.cell? ⟨wr.heap.size, 1, none⟩ = some (.slice ha (H k).n hc) ∧ w'.cell? ⟨wr.heap.size, 2, none⟩ = some (.slice qa (Q k).n qc))
        ((first | exact S6.out | (refine KS.out _ ?_; exact (by repeat (first | exact Below.refl _ _ | refine Below.drew ?_ | refine push ?_ _ | refine after ?_ (grown_below hg4) | refine after ?_ (grown_below hg5))))))
        (first
          | (refine step_append_own0 (by rfl) (.tmp 15) (.tmp 17) 58 (by rfl) 57 i0 (.agg #[.int .i64 0, .bool false]) 2 16 Try.underlying58 ii iz0 iz1 iz2 rfl (by decide) X.heap.size _ (by rfl) (by first | exact Nat.le_refl _ | (simp; done) | (simp; omega)) (by first | exact heap_alloc_new _ _ | exact blk_alloc (heap_alloc_new _ _) _ | exact new_at2 _ _ _) ha (H k).n hc (askList (H k)) (by rfl) HN1.out (askList_length _) (line_cells (HLH.out _ (by repeat (first | exact Below.refl _ _ | refine Below.drew ?_ | refine push ?_ _ | refine after ?_ (grown_below hg5))))) (askList_one _) (by unfold maxLen; omega) (by omega) ?_; intro a4 c4 w4 hg4 hr4 hat4)
          | (refine step_append_own0 (by rfl) (.tmp 19) (.tmp 21) 58 (by rfl) 57 i0 (.agg #[.int .i64 0, .bool false]) 2 16 Try.underlying58 ii iz0 iz1 iz2 rfl (by decide) X.heap.size _ (by rfl) (by have h1 := hg4.size; first | exact Nat.le_refl _ | (simp; done) | (simp at h1 ⊢; omega) | omega) (by first | exact heap_alloc_new _ _ | exact blk_below (blk_drew (new_at2 _ _ _)) (grown_below hg4) | exact blk_below (blk_drew (blk_alloc (heap_alloc_new _ _) _)) (grown_below hg4)) qa (Q k).n qc (askList (Q k)) (by rfl) HN2.out (askList_length _) (line_cells (HLQ.out _ (by repeat (first | exact Below.refl _ _ | refine Below.drew ?_ | refine push ?_ _ | refine after ?_ (grown_below hg4))))) (askList_one _) (by unfold maxLen; omega) (by omega) ?_; intro a5 c5 w5 hg5 hr5 hat5; have HB5 : Hid (Below X.heap.size X w5) := (by repeat (first | exact Below.refl _ _ | refine Below.drew ?_ | refine push ?_ _ | refine after ?_ (grown_below hg4) | refine after ?_ (grown_below hg5))); have HR4 : Hid (w5.ownsRow X.heap.size 57 2 (.slice a4 (H k).n c4) (H k).n (askList (H k))) := own_below (w := w4) (by repeat (first | exact Below.refl _ _ | refine Below.drew ?_ | refine push ?_ _ | refine after ?_ (grown_below hg5))) hr4; have HR5 : Hid (w5.ownsRow X.heap.size 57 2 (.slice a5 (Q k).n c5) (Q k).n (askList (Q k))) := hr5; have H45 : Hid (∀ b, (Value.slice a4 (H k).n c4).ownBlock = some b → (Value.slice a5 (Q k).n c5).ownBlock ≠ some b) := (fun b e1 e2 => by have h1 := hat4 b e1; have h2 := hat5 b e2; have h3 := (World.ownsRow.lt hr4 b e1).2; simp at h1 h2; omega); have HLR := HR.out (w5.alloc (.cells #[.int .i64 (K k), .slice a4 (H k).n c4, .slice a5 (Q k).n c5] 60)) (push HB5.out _); have HLR : Hid _ := HLR)
          | (refine step_append_lies _ (by rfl) (.tmp 12) (.tmp 24) 23 (by rfl) w.heap.size 60 j0 (.agg #[.int .i64 0, .slice none 0 0, .slice none 0 0]) 3 56 Try.underlying23 ji jz0 jz1 jz2 rfl (by decide) (.slice av k cv) k _ (by rfl) HLR.out.row ⟨w5.heap.size, 0, none⟩ 1 1 [.int .i64 (K k), .slice a4 (H k).n c4, .slice a5 (Q k).n c5] (by rfl) (by rfl) (World.news_of_block (cs := #[.int .i64 (K k), .slice a4 (H k).n c4, .slice a5 (Q k).n c5]) (t := 60) (fr := (0, 0)) (heap_alloc_new w5 _)) (by intro u hu; simp at hu; rcases hu with rfl | rfl | rfl <;> rfl) (by decide) (by unfold maxLen; omega) (by omega) (by have := HB5.out.size; simp; omega) (w5.heap.size + 1) (by simp) ?_; intro g6 cap6 w6 ho6 hg6 hat6 hlt6; have S6 : Hid _ := ((fun w' (hk : Kept (w5.alloc (.cells #[.int .i64 (K k), .slice a4 (H k).n c4, .slice a5 (Q k).n c5] 60)) w' (fun b => (Value.slice av k cv).ownBlock = some b)) => (⟨blk_cell (hk.blk (blk_alloc (blk_below KX.out HB5.out) _) (fun e => KN.out _ e rfl)) 0 _ rfl, blk_cell (hk.blk (blk_alloc (blk_below KX.out HB5.out) _) (fun e => KN.out _ e rfl)) 1 _ rfl, blk_cell (hk.blk (blk_alloc (blk_below KX.out HB5.out) _) (fun e => KN.out _ e rfl)) 2 _ rfl⟩ : w'.cell? ⟨wr.heap.size, 0, none⟩ = some (.int .i64 (K k)) ∧ w'.cell? ⟨wr.heap.size, 1, none⟩ = some (.slice ha (H k).n hc) ∧ w'.cell? ⟨wr.heap.size, 2, none⟩ = some (.slice qa (Q k).n qc)))) w6 (kept_by hg6)))
      all_goals
        have hF := HLR.out.snoc (lim := X.heap.size) (fun b hb => by have := HL.out.lim b hb; have := HX.out.2; omega) (own_below (push (Below.refl _ _) _) HR4.out) (own_below (push (Below.refl _ _) _) HR5.out) H45.out (by omega) hg6 ho6
        have hbF : Below w.heap.size w w6 := (push (after HB.out (after HX.out.1 HB5.out)) _).grown hg6 (by have := HB5.out.size; simp; omega) (fun j hj => (HLR.out.row.lt j hj).1)
        clear hg4 hg5 hr4 hr5 ho6 hg6 hat4 hat5 hat6 hlt6 S6
        go_wp2
        go_roundg (N - (k + 1))
        case measure => omega
        case rel => exact ⟨k + 1, _, _, by omega, rfl, by go_num, hF, hbF⟩
    · obtain rfl : k = N := by omega
      go_wp2
      (try rw [Exit.noGoto_ret])
      go_ret
      exact ⟨⟨_, _, _, rfl, hL⟩, hbel⟩

end Go.Proofs.Ytdmkpflphjemoaa
