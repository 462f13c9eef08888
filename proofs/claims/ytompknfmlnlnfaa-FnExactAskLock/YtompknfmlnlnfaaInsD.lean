/-
  OWN TEXT: copy of elements of any number of cells into the midst of a block; slices.Insert in place at an own row of Asked.
-/
import Derived.Test.YtompknfmlnlnfaaInsE
import Derived.Shelf.Spec.SlicesInsert
import Derived.Laws.IdiomCopy
import Derived.Deep.RegionLawGrows
namespace Go.Proofs.Ytompknfmlnlnfaa
open Go.RowKit Go.Lib

theorem run_copy_sz {P : Program} (w : World) (dT sT ty elem : TypeId) (sz b o dLen dCap : Nat) (a : Addr) (sLen sCap : Nat) (cs : List Value)
    (hu : P.underlying dT = some (.slice elem)) (hs : (P.info? elem).map (·.size) = some sz) (hn : cs.length = Nat.min sLen dLen * sz)
    (hsrc : ∀ j v, cs[j]? = some v → w.cell? (a.add j) = some v) (hc : ∀ j, j < cs.length → (w.cell? ⟨b, o + j, none⟩).isSome = true) (hf : ∀ j, j < cs.length → w.frozen? ⟨b, o + j, none⟩ = false) (h1 : ∀ v ∈ cs, v.oneCell' = true) :
    (Builtin.copy_ #[dT, sT] ty #[.slice (some ⟨b, o, none⟩) dLen dCap, .slice (some a) sLen sCap]).run P w = .ok (goInt (Nat.min sLen dLen)) (w.setCells b o cs) := by
  have hl := run_loadCells_list (P := P) w a cs hsrc
  have hst := run_storeCells_cells (P := P) b o cs 0 w (by simpa using hc) (by simpa using hf) h1
  cases hq : P.info? elem with
  | none => simp [hq] at hs
  | some i =>
    have hi : i.size = sz := by simpa [hq] using hs
    simp [Builtin.copy_, run_underlying hu, Builtin.lenOf, Builtin.firstCells, sizeOf, typeInfo, hq, hi, ← hn, hl, hst]

set_option maxHeartbeats 4000000 in
set_option maxRecDepth 100000 in
/-- There is room, and the place lies ahead of the end: in place. -/
theorem insertA_shift (b n c i vb : Nat) (x : Int) (s : Bool) (cs : List Value) (w : World) (hi : i < n) (hroom : n + 1 ≤ c) (hn : n ≤ 1048576) (hc63 : c ≤ 9223372036854775807) (hvb : vb ≠ b) (hcl : cs.length = n * 2)
    (hcs : ∀ j v, cs[j]? = some v → w.cell? ⟨b, j, none⟩ = some v) (hsp : ∀ j, j < (n + 1) * 2 → (w.cell? ⟨b, j, none⟩).isSome = true) (hfz : ∀ j, j < (n + 1) * 2 → w.frozen? ⟨b, j, none⟩ = false)
    (hv : w.heap[vb]? = some (.cells #[.int .i64 x, .bool s] 65 (0, 0))) (h1c : ∀ v ∈ cs, v.oneCell' = true)
    (tB : TypeId) (kB : Nat) (hsb : w.shape? b = some (tB, kB)) (hkB : kB ≠ 0) :
    Calls Try.prog 81 #[.slice (some ⟨b, 0, none⟩) n c, .int .i64 i, .slice (some ⟨vb, 0, none⟩) 1 1] w fun e w' =>
      e = .returned (.slice (some ⟨b, 0, none⟩) (n + 1) c) ∧ w' = (w.drew.setCells b ((i + 1) * 2) (cs.drop (i * 2))).setCells b (i * 2) [.int .i64 x, .bool s] := by
  obtain ⟨j0, ji, jz0, jz1, jz2⟩ := info_parts Try.infoAsked
  have hsz : (Try.prog.info? 65).map (·.size) = some 2 := by rw [ji]; simp [jz1]
  have hz2 : ¬ ((i : Int) = (n : Int)) := by omega
  have v0 := blk_cell hv 0 _ rfl
  have v1 := blk_cell hv 1 _ rfl
  have hsa : w.shape? vb = some (65, 2) := by simp [World.shape?, hv]
  have hfa := blk_free hv 0
  have hfe := blk_free hv 2
  have hov : ∀ lb cb, (callFunc 98 #[.slice (some ⟨vb, 0, none⟩) 1 1, .slice (some ⟨b, (i + 1) * 2, none⟩) lb cb]).run Try.prog w = .ok (.value (.bool false)) w := fun lb cb => by
    rw [run_callFunc_extern Try.func98 (by kernel_rfl) (by kernel_rfl) (by kernel_rfl) (e := Extern.SlicesOverlaps.overlaps #[66, 66] #[4]) (by kernel_rfl),
      Lib.run_overlaps_apart w 66 4 65 Try.underlying66 2 (fun w => by simp [sizeOf, typeInfo, ji, jz1]) ⟨vb, 0, none⟩ ⟨b, (i + 1) * 2, none⟩ 1 1 lb cb hvb 65 tB 2 kB hsa hsb hkB hfa hfe]
    rfl
  have hw1 : IntKind.i64.wrap ((i : Int) + 1) = (i : Int) + 1 := by rw [IntKind.wrap_i64]; omega
  have hb1 : (0 : Int) ≤ (i : Int) + 1 := by omega
  have hin : i ≤ n := by omega
  have htn : ((i : Int) + 1).toNat = i + 1 := by omega
  have hb2 : ¬ (c = i + 1) := by omega
  have hb3 : (i : Int) ≤ (n : Int) + 1 := by omega
  have hb4 : ¬ (c = i) := by omega
  have k1 : (i : Int) ≤ (n : Int) := by omega
  have k2 : ¬ ((c : Int) < (n : Int) + 1) := by omega
  have hdl : (cs.drop (i * 2)).length = (n - i) * 2 := by rw [List.length_drop, hcl]; omega
  have hcp1 : ∀ ty dl dc sl sc, Nat.min sl dl = n - i → (Builtin.copy_ #[66, 66] ty #[.slice (some ⟨b, (i + 1) * 2, none⟩) dl dc, .slice (some ⟨b, i * 2, none⟩) sl sc]).run Try.prog w.drew = .ok (goInt ((n - i : Nat) : Int)) (w.drew.setCells b ((i + 1) * 2) (cs.drop (i * 2))) := fun ty dl dc sl sc hm => by
    have h := run_copy_sz (P := Try.prog) w.drew 66 66 ty 65 2 b ((i + 1) * 2) dl dc ⟨b, i * 2, none⟩ sl sc (cs.drop (i * 2)) Try.underlying66 hsz (by rw [hdl, hm])
      (fun j v hj => by rw [Addr.add_lit]; exact hcs (i * 2 + j) v (by rwa [List.getElem?_drop] at hj))
      (fun j hj => hsp _ (by omega)) (fun j hj => hfz _ (by omega)) (fun v hv => h1c v (List.mem_of_mem_drop hv))
    rw [hm] at h
    exact h
  obtain ⟨W1, hW1⟩ : ∃ W1, W1 = w.drew.setCells b ((i + 1) * 2) (cs.drop (i * 2)) := ⟨_, rfl⟩
  have hsp1 : ∀ k, k < (n + 1) * 2 → (W1.cell? ⟨b, k, none⟩).isSome = true := fun k hk => by
    rw [hW1]
    exact isSome_setCells b (cs.drop (i * 2)) ((i + 1) * 2) w.drew (fun j hj => hsp ((i + 1) * 2 + j) (by rw [hdl] at hj; omega)) k (hsp k hk)
  have hcp2 : ∀ ty dl dc, 1 ≤ dl → (Builtin.copy_ #[66, 66] ty #[.slice (some ⟨b, i * 2, none⟩) dl dc, .slice (some ⟨vb, 0, none⟩) 1 1]).run Try.prog W1 = .ok (goInt 1) (W1.setCells b (i * 2) [.int .i64 x, .bool s]) := fun ty dl dc hd => by
    have hm : Nat.min 1 dl = 1 := Nat.min_eq_left hd
    have h := run_copy_sz (P := Try.prog) W1 66 66 ty 65 2 b (i * 2) dl dc ⟨vb, 0, none⟩ 1 1 [.int .i64 x, .bool s] Try.underlying66 hsz (by rw [hm]; rfl)
      (fun j v hj => by
        rw [Addr.add_lit, hW1, World.cell?_setCells_out b _ _ _ _ (fun h _ => absurd h hvb)]
        have hq := World.news_of_block hv j v hj
        rw [Addr.add_lit] at hq
        exact hq)
      (fun j hj => hsp1 _ (by have : j < 2 := hj; omega)) (fun j hj => by rw [hW1, World.frozen?_setCells]; exact hfz _ (by have : j < 2 := hj; omega)) (by intro u hu; simp at hu; rcases hu with rfl | rfl <;> rfl)
    rw [hm] at h
    exact h
  rw [hW1] at hcp2
  clear hsp1 hW1 W1
  have dl1 : 1 ≤ n + 1 - i := by omega
  have m1 : Nat.min (n + 1 - i) (n - i) = n - i := Nat.min_eq_right (by omega)
  go_enter Try.func81, Try.ntmps81
  go_wp2_with (simp only [hov])
  go_region_law (refine step_copy_runI (by rfl) _ _ 66 66 (by rfl) _ _ (by simp [Act.eval, Act.put]) (by simp [Act.eval, Act.put]) (hcp1 _ _ _ _ _ (by simp only [Nat.min_def]; split <;> omega)) ?_)
  go_wp2_with (first | (at_builtin; refine wpList_copy_runI _ rfl (.tmp 80) (.tmp 81) 66 66 rfl (.slice (some ⟨b, i * 2, none⟩) (n + 1 - i) (c - i)) (.slice (some ⟨vb, 0, none⟩) 1 1) (by rfl) (by rfl) (hcp2 3 (n + 1 - i) (c - i) dl1) ?_))
  (try rw [Exit.noGoto_ret])
  go_ret
  exact ⟨rfl, rfl⟩

end Go.Proofs.Ytompknfmlnlnfaa
