/-
  OWN TEXT: InsQE, InsQS.
-/
import Derived.Lib.AppendZerosOnto
import Derived.Laws.NewBlocks
import Derived.Test.YtogbaoggebghdaaB11
import Derived.Test.YtogbaoggebghdaaB12
namespace Go.Proofs.Ytogbaoggebghdaa
open Go.RowKit Go.Lib

set_option maxHeartbeats 1600000 in
set_option maxRecDepth 100000 in
theorem insertQ_end (ao : Option Addr) (n c base vb : Nat) (u0 u1 u2 u3 u4 u5 u6 : Value) (hall : ∀ v ∈ [u0, u1, u2, u3, u4, u5, u6], v.oneCell' = true) (xs : List Value) (w : World) (hn : n ≤ 1048576) (ho : w.ownsRow base 68 7 (.slice ao n c) n xs) (hv : w.heap[vb]? = some (.cells #[u0, u1, u2, u3, u4, u5, u6] 68 (0, 0))) (hb : base ≤ w.heap.size) :
    Calls Try.prog 80 #[.slice ao n c, .int .i64 n, .slice (some ⟨vb, 0, none⟩) 1 1] w fun e w' => ∃ v, e = .returned v ∧ w'.ownsRow base 68 7 v (n + 1) (xs ++ [u0, u1, u2, u3, u4, u5, u6]) ∧ w.grownBy w' (Value.slice ao n c).ownBlock ∧ (∀ g, v.ownBlock = some g → (Value.slice ao n c).ownBlock = some g ∨ w.heap.size ≤ g) := by
  obtain ⟨j0, ji, jz0, jz1, jz2⟩ := info_parts Try.infoClerk
  have HO : Hid (w.ownsRow base 68 7 (.slice ao n c) n xs) := ho
  have HV : Hid (w.heap[vb]? = some (.cells #[u0, u1, u2, u3, u4, u5, u6] 68 (0, 0))) := hv
  obtain ⟨a', c', e', hc, hc2, hna⟩ := own_form ho
  simp only [Value.slice.injEq, true_and] at e'
  obtain ⟨rfl, rfl⟩ := e'
  have hc3 : c ≤ 9223372036854775807 := by unfold maxLen at hc2; omega
  clear hc2 ho hv
  have i1 : (n : Int) ≤ (c : Int) := by omega
  have i2 : (0 : Int) ≤ (n : Int) := by omega
  cases ao with
  | none =>
    obtain ⟨rfl, rfl⟩ := hna rfl
    go_enter Try.func80, Try.ntmps80
    go_wp2_with (first | (at_builtin; refine wpList_append_lies _ (by rfl) (.tmp 23) (.tmp 24) 23 (by rfl) base 68 j0 (.agg #[.string ⟨#[]⟩, .int .i64 0, .bool false, .int .i64 0, .int .i64 0, .int .i64 0, .slice none 0 0]) 7 80 Try.underlying23 ji jz0 jz1 jz2 rfl (by decide) _ 0 xs (by rfl) HO.out ⟨vb, 0, none⟩ 1 1 [u0, u1, u2, u3, u4, u5, u6] (by rfl) (by rfl) (World.news_of_block HV.out) hall (by decide) (by unfold maxLen; omega) (by omega) hb w.heap.size rfl ?_; intro g' cap' w3 ho3 hg3 hat3 hlt3))
    (try rw [Exit.noGoto_ret])
    go_ret
    exact ⟨_, rfl, ho3, hg3, fun g e => by have e' : some g' = some g := e; cases e'; rcases hat3 with h | h; exact .inl h; exact .inr (by omega)⟩
  | some ad =>
    go_enter Try.func80, Try.ntmps80
    go_wp2_with (first | (at_builtin; refine wpList_append_lies _ (by rfl) (.tmp 23) (.tmp 24) 23 (by rfl) base 68 j0 (.agg #[.string ⟨#[]⟩, .int .i64 0, .bool false, .int .i64 0, .int .i64 0, .int .i64 0, .slice none 0 0]) 7 80 Try.underlying23 ji jz0 jz1 jz2 rfl (by decide) _ n xs (by rfl) HO.out ⟨vb, 0, none⟩ 1 1 [u0, u1, u2, u3, u4, u5, u6] (by rfl) (by rfl) (World.news_of_block HV.out) hall (by decide) (by unfold maxLen; omega) (by omega) hb w.heap.size rfl ?_; intro g' cap' w3 ho3 hg3 hat3 hlt3))
    all_goals
      (try rw [Exit.noGoto_ret])
      go_ret
      exact ⟨_, rfl, ho3, hg3, fun g e => by have e' : some g' = some g := e; cases e'; rcases hat3 with h | h; exact .inl h; exact .inr (by omega)⟩


end Go.Proofs.Ytogbaoggebghdaa

namespace Go.Proofs.Ytogbaoggebghdaa
open Go.RowKit Go.Lib

set_option maxHeartbeats 4000000 in
set_option maxRecDepth 100000 in
/-- There is room, and the place lies ahead of the end: in place. -/
theorem insertQ_shift (b n c i vb : Nat) (u0 u1 u2 u3 u4 u5 u6 : Value) (hall : ∀ v ∈ [u0, u1, u2, u3, u4, u5, u6], v.oneCell' = true) (cs : List Value) (w : World) (hi : i < n) (hroom : n + 1 ≤ c) (hn : n ≤ 1048576) (hc63 : c ≤ 9223372036854775807) (hvb : vb ≠ b) (hcl : cs.length = n * 7)
    (hcs : ∀ j v, cs[j]? = some v → w.cell? ⟨b, j, none⟩ = some v) (hsp : ∀ j, j < (n + 1) * 7 → (w.cell? ⟨b, j, none⟩).isSome = true) (hfz : ∀ j, j < (n + 1) * 7 → w.frozen? ⟨b, j, none⟩ = false)
    (hv : w.heap[vb]? = some (.cells #[u0, u1, u2, u3, u4, u5, u6] 68 (0, 0))) (h1c : ∀ v ∈ cs, v.oneCell' = true)
    (tB : TypeId) (kB : Nat) (hsb : w.shape? b = some (tB, kB)) (hkB : kB ≠ 0) :
    Calls Try.prog 80 #[.slice (some ⟨b, 0, none⟩) n c, .int .i64 i, .slice (some ⟨vb, 0, none⟩) 1 1] w fun e w' =>
      e = .returned (.slice (some ⟨b, 0, none⟩) (n + 1) c) ∧ w' = (w.drew.setCells b ((i + 1) * 7) (cs.drop (i * 7))).setCells b (i * 7) [u0, u1, u2, u3, u4, u5, u6] := by
  obtain ⟨j0, ji, jz0, jz1, jz2⟩ := info_parts Try.infoClerk
  have hsz : (Try.prog.info? 68).map (·.size) = some 7 := by rw [ji]; simp [jz1]
  have hz2 : ¬ ((i : Int) = (n : Int)) := by omega
  have v0 := blk_cell hv 0 _ rfl
  have v1 := blk_cell hv 1 _ rfl
  have hsa : w.shape? vb = some (68, 7) := by simp [World.shape?, hv]
  have hfa := blk_free hv 0
  have hfe := blk_free hv 7
  have hov : ∀ lb cb, (callFunc 92 #[.slice (some ⟨vb, 0, none⟩) 1 1, .slice (some ⟨b, (i + 1) * 7, none⟩) lb cb]).run Try.prog w = .ok (.value (.bool false)) w := fun lb cb => by
    rw [run_callFunc_extern Try.func92 (by kernel_rfl) (by kernel_rfl) (by kernel_rfl) (e := Extern.SlicesOverlaps.overlaps #[23, 23] #[4]) (by kernel_rfl),
      Lib.run_overlaps_apart w 23 4 68 Try.underlying23 7 (fun w => by simp [sizeOf, typeInfo, ji, jz1]) ⟨vb, 0, none⟩ ⟨b, (i + 1) * 7, none⟩ 1 1 lb cb hvb 68 tB 7 kB hsa hsb hkB hfa hfe]
    rfl
  have hw1 : IntKind.i64.wrap ((i : Int) + 1) = (i : Int) + 1 := by rw [IntKind.wrap_i64]; omega
  have hb1 : (0 : Int) ≤ (i : Int) + 1 := by omega
  have hin : i ≤ n := by omega
  have htn : ((i : Int) + 1).toNat = i + 1 := by omega
  have hb2 : ¬ (c = i + 1) := by omega
  have hb3 : (i : Int) ≤ (n : Int) + 1 := by omega
  have hb4 : ¬ (c = i) := by omega
  have k1 : (i : Int) ≤ (n : Int) := by omega
  have k2 : ¬ ((c : Int) < (n : Int) + 1) := by omega
  have hdl : (cs.drop (i * 7)).length = (n - i) * 7 := by rw [List.length_drop, hcl]; omega
  have hcp1 : ∀ ty dl dc sl sc, Nat.min sl dl = n - i → (Builtin.copy_ #[23, 23] ty #[.slice (some ⟨b, (i + 1) * 7, none⟩) dl dc, .slice (some ⟨b, i * 7, none⟩) sl sc]).run Try.prog w.drew = .ok (goInt ((n - i : Nat) : Int)) (w.drew.setCells b ((i + 1) * 7) (cs.drop (i * 7))) := fun ty dl dc sl sc hm => by
    have h := run_copy_sz (P := Try.prog) w.drew 23 23 ty 68 7 b ((i + 1) * 7) dl dc ⟨b, i * 7, none⟩ sl sc (cs.drop (i * 7)) Try.underlying23 hsz (by rw [hdl, hm])
      (fun j v hj => by rw [Addr.add_lit]; exact hcs (i * 7 + j) v (by rwa [List.getElem?_drop] at hj))
      (fun j hj => hsp _ (by omega)) (fun j hj => hfz _ (by omega)) (fun v hv => h1c v (List.mem_of_mem_drop hv))
    rw [hm] at h
    exact h
  obtain ⟨W1, hW1⟩ : ∃ W1, W1 = w.drew.setCells b ((i + 1) * 7) (cs.drop (i * 7)) := ⟨_, rfl⟩
  have hsp1 : ∀ k, k < (n + 1) * 7 → (W1.cell? ⟨b, k, none⟩).isSome = true := fun k hk => by
    rw [hW1]
    exact isSome_setCells b (cs.drop (i * 7)) ((i + 1) * 7) w.drew (fun j hj => hsp ((i + 1) * 7 + j) (by rw [hdl] at hj; omega)) k (hsp k hk)
  have hcp2 : ∀ ty dl dc, 1 ≤ dl → (Builtin.copy_ #[23, 23] ty #[.slice (some ⟨b, i * 7, none⟩) dl dc, .slice (some ⟨vb, 0, none⟩) 1 1]).run Try.prog W1 = .ok (goInt 1) (W1.setCells b (i * 7) [u0, u1, u2, u3, u4, u5, u6]) := fun ty dl dc hd => by
    have hm : Nat.min 1 dl = 1 := Nat.min_eq_left hd
    have h := run_copy_sz (P := Try.prog) W1 23 23 ty 68 7 b (i * 7) dl dc ⟨vb, 0, none⟩ 1 1 [u0, u1, u2, u3, u4, u5, u6] Try.underlying23 hsz (by rw [hm]; rfl)
      (fun j v hj => by
        rw [Addr.add_lit, hW1, World.cell?_setCells_out b _ _ _ _ (fun h _ => absurd h hvb)]
        have hq := World.news_of_block hv j v hj
        rw [Addr.add_lit] at hq
        exact hq)
      (fun j hj => hsp1 _ (by have : j < 7 := hj; omega)) (fun j hj => by rw [hW1, World.frozen?_setCells]; exact hfz _ (by have : j < 7 := hj; omega)) hall
    rw [hm] at h
    exact h
  rw [hW1] at hcp2
  clear hsp1 hW1 W1
  have dl1 : 1 ≤ n + 1 - i := by omega
  have m1 : Nat.min (n + 1 - i) (n - i) = n - i := Nat.min_eq_right (by omega)
  go_enter Try.func80, Try.ntmps80
  go_wp2_with (simp only [hov])
  go_region_law (refine step_copy_runI (by rfl) _ _ 23 23 (by rfl) _ _ (by simp [Act.eval, Act.put]) (by simp [Act.eval, Act.put]) (hcp1 _ _ _ _ _ (by simp only [Nat.min_def]; split <;> omega)) ?_)
  go_wp2_with (first | (at_builtin; refine wpList_copy_runI _ rfl (.tmp 80) (.tmp 81) 23 23 rfl (.slice (some ⟨b, i * 7, none⟩) (n + 1 - i) (c - i)) (.slice (some ⟨vb, 0, none⟩) 1 1) (by rfl) (by rfl) (hcp2 3 (n + 1 - i) (c - i) dl1) ?_))
  (try rw [Exit.noGoto_ret])
  go_ret
  exact ⟨rfl, rfl⟩



end Go.Proofs.Ytogbaoggebghdaa
