/-
  OWN TEXT: what NewOffice answers, and the contract of the program's.
-/
import Derived.Test.YtlnadbnoemlpeaaCopyS
import Derived.Test.YtlnadbnoemlpeaaEmpt
import Derived.Test.YtlnadbnoemlpeaaImplT
namespace Go.Proofs.Ytlnadbnoemlpeaa
open Go.RowKit Classical

noncomputable def nOk (N : Nat) (S : Nat → Sail) : Bool := decide (GoodTab N S)
noncomputable def nN (N : Nat) (S : Nat → Sail) : Nat := if GoodTab N S then N else 0
theorem nN_le (N : Nat) (S : Nat → Sail) : nN N S ≤ N := by unfold nN; split <;> omega
/-- The cells of n empty loads. -/
def nilRow (n : Nat) : List Value := (List.range (n * 3)).map (fun _ => .slice none 0 0)
theorem nilRow_made (n : Nat) : (madeCells (Value.agg #[.slice none 0 0, .slice none 0 0, .slice none 0 0]).cells (n * 3)).toList = nilRow n := by
  have hz : (Value.agg #[.slice none 0 0, .slice none 0 0, .slice none 0 0]).cells = #[.slice none 0 0, .slice none 0 0, .slice none 0 0] := rfl
  rw [hz]
  unfold nilRow madeCells
  rw [Array.toList_map, Array.toList_range]
  refine List.map_congr_left fun j _ => ?_
  have : j % 3 = 0 ∨ j % 3 = 1 ∨ j % 3 = 2 := by omega
  rcases this with h | h | h <;> simp [h]
theorem loads0_of_own {w : World} {base c n : Nat} {ao : Option Addr} (h : w.ownsRow base 66 3 (.slice ao n c) n (nilRow n)) : Loads0 w ao n := by
  intro k hk
  obtain ⟨g, rfl, _, _⟩ := own_addr h (by omega)
  refine ⟨g, 0, none, 0, none, 0, none, 0, rfl, ?_, ?_, ?_⟩
  · rw [Nat.zero_add]; exact own_cell h (k * 3) (by omega) rfl
  · rw [Nat.zero_add]; exact own_cell h (k * 3 + 1) (by omega) rfl
  · rw [Nat.zero_add]; exact own_cell h (k * 3 + 2) (by omega) rfl
/-- What the program's NewOffice answers. -/
def NewU (N : Nat) (S : Nat → Sail) (base : Nat) (e : Ending) (w : World) : Prop :=
  ∃ v lv L C, e = .returned (.tuple #[.agg #[v, lv, .slice none 0 0], .bool (nOk N S)]) ∧ OwnSails w base v (nN N S) S L C ∧ w.ownsRow base 66 3 lv (nN N S) (nilRow (nN N S))

theorem Try.infoLoad' : (Try.prog.info? 66).map (fun i => (i.zero, i.size, i.bytes)) = some (some (.agg #[.slice none 0 0, .slice none 0 0, .slice none 0 0]), 3, 72) := by kernel_rfl
theorem off3_0 {w : World} {g t : Nat} {u0 u1 u2 : Value} (h : w.heap[g]? = some (.cells #[u0, u1, u2] t (0, 0))) (v0 v1 v2 : Value) :
    (((w.setCell ⟨g, 0, none⟩ v0).setCell ⟨g, 1, none⟩ v1).setCell ⟨g, 2, none⟩ v2).heap[g]? = some (.cells #[v0, v1, v2] t (0, 0)) := by
  have a : (w.setCell ⟨g, 0, none⟩ v0).heap[g]? = some (.cells #[v0, u1, u2] t (0, 0)) := by simpa using blk_set h 0 v0
  have b : ((w.setCell ⟨g, 0, none⟩ v0).setCell ⟨g, 1, none⟩ v1).heap[g]? = some (.cells #[v0, v1, u2] t (0, 0)) := by simpa using blk_set a 1 v1
  simpa using blk_set b 2 v2

/-- The world behind the program's last region. -/
def NewEnd (w : World) (N : Nat) (S : Nat → Sail) (wx : World) : Prop := ∃ g lb L C, wx.heap[w.heap.size]? = some (.cells #[.slice (some ⟨g, 0, none⟩) N N, .slice (some ⟨lb, 0, none⟩) N N, .slice none 0 0] 28 (0, 0)) ∧ OwnSails wx w.heap.size (.slice (some ⟨g, 0, none⟩) N N) N S L C ∧ wx.ownsRow w.heap.size 66 3 (.slice (some ⟨lb, 0, none⟩) N N) N (nilRow N) ∧ Below w.heap.size w wx
theorem newEnd_set {w W : World} {N : Nat} {S : Nat → Sail} {B g lb : Nat} {L C : Nat → Value} (hRX : w.heap.size < B) (hb : Below w.heap.size w W) (z : W.heap[w.heap.size]? = some (.cells #[.slice none 0 0, .slice none 0 0, .slice none 0 0] 28 (0, 0)))
    (ho : OwnSails W B (.slice (some ⟨g, 0, none⟩) N N) N S L C) (hl : W.ownsRow B 66 3 (.slice (some ⟨lb, 0, none⟩) N N) N (nilRow N)) :
    NewEnd w N S (((W.setCell ⟨w.heap.size, 0, none⟩ (.slice (some ⟨g, 0, none⟩) N N)).setCell ⟨w.heap.size, 1, none⟩ (.slice (some ⟨lb, 0, none⟩) N N)).setCell ⟨w.heap.size, 2, none⟩ (.slice none 0 0)) := by
  have hk : Kept W (((W.setCell ⟨w.heap.size, 0, none⟩ (.slice (some ⟨g, 0, none⟩) N N)).setCell ⟨w.heap.size, 1, none⟩ (.slice (some ⟨lb, 0, none⟩) N N)).setCell ⟨w.heap.size, 2, none⟩ (.slice none 0 0)) (fun b => b = w.heap.size) := (((Kept.refl W (fun b => b = w.heap.size)).set (a := ⟨w.heap.size, 0, none⟩) rfl _).set (a := ⟨w.heap.size, 1, none⟩) rfl _).set (a := ⟨w.heap.size, 2, none⟩) rfl _
  refine ⟨g, lb, L, C, off3_0 z _ _ _, (ho.kept hk (fun b e => by have e : b = w.heap.size := e; omega)).base (by omega), own_base (hk.own hl (fun b hb2 e => by have := (hl.lt b hb2).1; have e : b = w.heap.size := e; omega)) (by omega), ((hb.setCell (p := ⟨w.heap.size, 0, none⟩) (Nat.le_refl _) _).setCell (p := ⟨w.heap.size, 1, none⟩) (Nat.le_refl _) _).setCell (p := ⟨w.heap.size, 2, none⟩) (Nat.le_refl _) _⟩

set_option maxHeartbeats 3200000 in
set_option maxRecDepth 100000 in
theorem implNew_any (ao : Option Addr) (N c : Nat) (S : Nat → Sail) (w : World) (hN : N ≤ 1048576) (hs : ShortAll N S 1048576) (hz : SailsAt w ao N S) :
    Calls Try.prog 7 #[.slice ao N c] w fun e w' => NewU N S w.heap.size e w' ∧ Below w.heap.size w w' := by
  obtain ⟨i0, hi, hz0, hz1, hz2⟩ := info_parts Try.infoLoad'
  have HS : Hid (ShortAll N S 1048576) := hs
  have HZ : Hid (SailsAt w ao N S) := hz
  clear hs hz
  have hb0 : Below w.heap.size w (w.alloc (.cells #[.slice none 0 0, .slice none 0 0, .slice none 0 0] 28)) := push (Below.refl _ _) _
  have bR := heap_alloc_new w (.cells #[.slice none 0 0, .slice none 0 0, .slice none 0 0] 28)
  go_enter Try.func7, Try.ntmps7
  go_wp2_with fail
  generalize w.alloc (.cells #[.slice none 0 0, .slice none 0 0, .slice none 0 0] 28) = V at hb0 bR ⊢
  refine (implTab_any ao N c S _ hN HS.out (HZ.out.below hb0)).mono ?_
  rintro e X ⟨⟨t, rfl, ht⟩, hbv⟩
  have HT : Hid (t = true ↔ GoodTab N S) := ht
  have bR1 := blk_below bR hbv
  have hb1 := after hb0 hbv
  clear ht bR hb0 hbv
  have r0 := blk_cell bR1 0 _ rfl
  have r1 := blk_cell bR1 1 _ rfl
  have r2 := blk_cell bR1 2 _ rfl
  have f0 := blk_free bR1 0
  have f1 := blk_free bR1 1
  have f2 := blk_free bR1 2
  cases t with
  | false =>
    have HN : Hid (¬ GoodTab N S) := fun h => by have := HT.out.2 h; cases this
    go_wp2
    have rF := off3_0 bR1 (.slice none 0 0) (.slice none 0 0) (.slice none 0 0)
    have z0 := blk_cell rF 0 _ rfl
    have z1 := blk_cell rF 1 _ rfl
    have z2 := blk_cell rF 2 _ rfl
    refine bodyPost_ret (v := .tuple #[.agg #[.slice none 0 0, .slice none 0 0, .slice none 0 0], .bool false]) (by simp [results, Try.results7, go_sem, z0, z1, z2]) rfl ⟨⟨.slice none 0 0, .slice none 0 0, fun _ => .slice none 0 0, fun _ => .slice none 0 0, ?_, ?_, ?_⟩, ((hb1.setCell (Nat.le_refl _) _).setCell (Nat.le_refl _) _).setCell (Nat.le_refl _) _⟩
    · unfold nOk; rw [decide_eq_false HN.out]
    · unfold nN; rw [if_neg HN.out]; exact OwnSails.nil _ _ _ _ _
    · unfold nN; rw [if_neg HN.out]; exact World.ownsRow_nil _ _ _ _
  | true =>
  have HOK : Hid (GoodTab N S) := HT.out.1 rfl
  clear HT
  obtain ⟨M, hM⟩ : ∃ M, M = madeCells (Value.agg #[.slice none 0 0, .slice none 0 0, .slice none 0 0]).cells (N * 3) := ⟨_, rfl⟩
  have HM : Hid (M = madeCells (Value.agg #[.slice none 0 0, .slice none 0 0, .slice none 0 0]).cells (N * 3)) := hM
  have hmk : ∀ w', (Instr.makeSlice 25 (.int .i64 (N : Int)) (.int .i64 (N : Int))).run Try.prog w' = .ok (.slice (some ⟨w'.heap.size, 0, none⟩) N N) (w'.alloc (.cells M 66)) := fun w' => by
    have := run_make (P := Try.prog) w' 25 66 i0 _ Try.underlying25 hi hz0 .i64 .i64 (N : Int) (N : Int) (by omega) (by omega) (by rw [hz2]; omega) (by omega)
    rw [this, hM, hz1]
    simp
  clear hM
  have HLD : Hid (∀ (W : World) (lb : Nat), X.heap.size ≤ lb → W.heap[lb]? = some (.cells M 66 (0, 0)) → W.ownsRow X.heap.size 66 3 (.slice (some ⟨lb, 0, none⟩) N N) N (nilRow N)) := fun W lb h1 h2 => by
    refine ⟨by simp [nilRow], .inr ⟨lb, N, M, rfl, h1, h2, Nat.le_refl _, by unfold maxLen; omega, ?_, ?_⟩⟩
    · rw [HM.out]; simp [madeCells]
    · rw [HM.out, nilRow_made]; exact List.take_of_length_le (by simp [nilRow])
  have KR : Hid (∀ w', Below X.heap.size X w' → w'.heap[w.heap.size]? = some (.cells #[.slice none 0 0, .slice none 0 0, .slice none 0 0] 28 (0, 0))) := fun w' h => blk_below bR1 h
  have HC1 : Hid (∀ w', Below X.heap.size X w' → Calls Try.prog 18 #[.slice ao N c, .func (.func 19) #[] #[]] w' fun e w2 => (∃ g L C, e = .returned (.slice (some ⟨g, 0, none⟩) N N) ∧ OwnSails w2 X.heap.size (.slice (some ⟨g, 0, none⟩) N N) N S L C) ∧ Below w'.heap.size w' w2) := fun w' h =>
    (copyEach_any ao N c S w' hN HS.out (HZ.out.below (after hb1 h))).mono fun _ _ ⟨⟨g, L, C, e, ho⟩, hb⟩ => ⟨⟨g, L, C, e, ho.base h.size⟩, hb⟩
  have hRX : w.heap.size < X.heap.size := blk_lt bR1
  go_upto_region 3 with fail
  go_cut [2, 3] (fun p ok wx => p = .pointer (some ⟨w.heap.size, 0, none⟩) ∧ ok = .bool true ∧ NewEnd w N S wx)
  case first =>
    go_region_with (first | (go_at_call 18; refine Calls.mono (HC1.out _ (by repeat (first | exact Below.refl _ _ | refine Below.drew ?_ | refine push ?_ _ | refine after ?_ hb4))) ?_; rintro e w4 ⟨⟨g4, L4, C4, rfl, ho4⟩, hb4⟩; have z4 := KR.out w4 (by repeat (first | exact Below.refl _ _ | refine Below.drew ?_ | refine push ?_ _ | refine after ?_ hb4)); have o0 := blk_cell z4 0 _ rfl; have o1 := blk_cell z4 1 _ rfl; have o2 := blk_cell z4 2 _ rfl; have q0 := blk_free z4 0; have q1 := blk_free z4 1; have q2 := blk_free z4 2; have p0 := (fun o => blk_cell (blk_alloc z4 o) 0 _ rfl); have p1 := (fun o => blk_cell (blk_alloc z4 o) 1 _ rfl); have p2 := (fun o => blk_cell (blk_alloc z4 o) 2 _ rfl); have g0 := (fun o => blk_free (blk_alloc z4 o) 0); have g1 := (fun o => blk_free (blk_alloc z4 o) 1); have g2 := (fun o => blk_free (blk_alloc z4 o) 2)))
    all_goals
      go_wp2
      go_meet
      have hbx : Below X.heap.size X w4 := (by repeat (first | exact Below.refl _ _ | refine Below.drew ?_ | refine push ?_ _ | refine after ?_ hb4))
      have hsz := hbx.size
      first
        | with_reducible exact ⟨rfl, rfl, newEnd_set hRX (push (after hb1 hbx) _) (blk_alloc z4 _) (ho4.below (push (Below.refl _ w4) (.cells M 66))) (HLD.out _ _ hsz (heap_alloc_new w4 (.cells M 66)))⟩
        | with_reducible exact ⟨rfl, rfl, newEnd_set hRX (after hb1 hbx) z4 ho4 (HLD.out _ _ (Nat.le_refl _) (blk_below (blk_drew (heap_alloc_new X (.cells M 66))) hb4))⟩
  case rest =>
    obtain ⟨rfl, rfl, g, lb, L, C, rF, hO, hL, hB⟩ := hcut
    have z0 := blk_cell rF 0 _ rfl
    have z1 := blk_cell rF 1 _ rfl
    have z2 := blk_cell rF 2 _ rfl
    go_wp2
    refine bodyPost_ret (v := .tuple #[.agg #[.slice (some ⟨g, 0, none⟩) N N, .slice (some ⟨lb, 0, none⟩) N N, .slice none 0 0], .bool true]) (by simp [results, Try.results7, go_sem, z0, z1, z2]) rfl ⟨⟨.slice (some ⟨g, 0, none⟩) N N, .slice (some ⟨lb, 0, none⟩) N N, L, C, ?_, ?_, ?_⟩, hB⟩
    · unfold nOk; rw [decide_eq_true HOK.out]
    · unfold nN; rw [if_pos HOK.out]; exact hO
    · unfold nN; rw [if_pos HOK.out]; exact hL

end Go.Proofs.Ytlnadbnoemlpeaa
