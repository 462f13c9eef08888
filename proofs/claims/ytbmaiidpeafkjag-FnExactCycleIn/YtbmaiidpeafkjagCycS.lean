/-
  OWN TEXT: the contract of spec.CycleIn: good locks have no circle.
-/
import Derived.Test.YtbmaiidpeafkjagPlainC
namespace Go.Proofs.Ytbmaiidpeafkjag
open Go.RowKit

/-- Tasks that rank below r, none twice. -/
def Under (N : Nat) (Q : Nat → Line) (r : Nat) (ss : List Int) : Prop := ss.Nodup ∧ ∀ y, y ∈ ss → isTask y ∧ rank N Q y < r
theorem under_few {N : Nat} {Q : Nat → Line} {r : Nat} {ss : List Int} (h : Under N Q r ss) : ss.length ≤ 12 := few_tasks ss h.1 (fun y hy => (h.2 y hy).1)
theorem under_for {N : Nat} {K : Nat → Int} {H Q : Nat → Line} (hg : GoodI N K H Q) (hs : ShortTo N H Q 1048576) {x : Int} {ks : List Int} (hf : ForIs N H Q x ks) : Under N Q (rank N Q x) ks := ⟨for_nodup hf, fun _ hy => ⟨for_task hg hf hy, rank_less hg hs hf hy⟩⟩
theorem under_snoc {N : Nat} {Q : Nat → Line} {r : Nat} {ss : List Int} {y : Int} (h : Under N Q r ss) (hy : y ∉ ss) (ht : isTask y) (hr : rank N Q y < r) : Under N Q r (ss ++ [y]) := by
  refine ⟨List.nodup_append.2 ⟨h.1, by simp, fun a ha b hb e => ?_⟩, fun z hz => ?_⟩
  · simp only [List.mem_singleton] at hb; subst hb; subst e; exact hy ha
  · rcases List.mem_append.1 hz with hz | hz
    · exact h.2 z hz
    · simp only [List.mem_singleton] at hz; subst hz; exact ⟨ht, hr⟩

/-- What CycleIn answers. -/
def CycAns (P : Prop) (b : Bool) (ok : Bool) : Prop := b = false ∧ (ok = true ↔ P)

set_option maxHeartbeats 3200000 in
set_option maxRecDepth 100000 in
theorem specCycle_any (ao : Option Addr) (N c : Nat) (K : Nat → Int) (H Q : Nat → Line) (w : World) (hN : N ≤ 1048576) (hcap : N ≤ c) (hs : ShortTo N H Q 1048576) (hx : LocksAt w ao N K H Q) :
    Calls Try.prog 24 #[.slice ao N c] w fun e w' => (∃ b ok, e = .returned (.tuple #[.bool b, .bool ok]) ∧ Hid (CycAns (GoodL N K H Q) b ok)) ∧ Below w.heap.size w w' := by
  obtain ⟨j0, ji, jz0, jz1, jz2⟩ := info_parts Try.infoInt
  have HS : Hid (ShortTo N H Q 1048576) := hs
  clear hs
  go_enter Try.func24, Try.ntmps24
  go_wp2_with fail
  refine (specLocks_any ao N c K H Q _ HS.out hcap hx).mono ?_
  rintro e w1 ⟨⟨v, rfl, hv⟩, hb1⟩
  have HV : Hid (v = true ↔ GoodL N K H Q) := hv
  clear hv
  cases v with
  | false =>
    have HG : Hid (¬ GoodL N K H Q) := fun h => by have := HV.out.2 h; cases this
    go_wp2
    exact bodyPost_ret (v := .tuple #[.bool false, .bool false]) (by simp [results, Try.results24, go_sem]) rfl ⟨⟨false, false, rfl, ⟨rfl, ⟨fun h => (by cases h), fun h => absurd h HG.out⟩⟩⟩, hb1⟩
  | true =>
    have HGL : Hid (GoodL N K H Q) := HV.out.1 rfl
    have HG : Hid (GoodI N K H Q) := (goodL_iff N K H Q).1 HGL.out
    clear HV
    go_wp2
    go_loopg [4] 12 (fun g t wr => ∃ k : Nat, k ≤ 12 ∧ g = 12 - k ∧ t = .int .i64 k ∧ Below w.heap.size w wr)
    case atStart => exact ⟨0, by omega, rfl, rfl, hb1⟩
    case round =>
      clear hb1
      obtain ⟨k, hk, rfl, rfl, hbel⟩ := hrel
      by_cases hlt : k < 12
      · have d0 : decide ((k : Int) < 12) = true := by simp; omega
        go_wp2_with fail
        refine (l2For_any ao N c K H Q k _ hN HS.out HG.out (hx.below hbel)).mono ?_
        rintro e w2 ⟨⟨v2, ks0, rfl, hwt2, hfor⟩, hb2⟩
        have hwt2 := own_base (base' := w.heap.size) hwt2 hbel.size
        have HU : Hid (Under N Q (rank N Q k) ks0) := under_for HG.out HS.out hfor.out
        have hbel2 := after hbel hb2
        clear hfor hbel hb2
        go_wp2
        go_loopg [5, 6] 12 (fun g v i wr => ∃ (ss : List Int) (p : Nat), p ≤ ss.length ∧ g = 12 - p ∧ i = .int .i64 p ∧ WaitsIs wr w.heap.size v ss ∧ Hid (Under N Q (rank N Q k) ss) ∧ Below w.heap.size w wr)
        case atStart => exact ⟨ks0, 0, Nat.zero_le _, rfl, rfl, hwt2, HU, hbel2⟩
        case round =>
          clear hwt2 HU hbel2
          obtain ⟨ss, p, hp, rfl, rfl, hwt, HU, hbel⟩ := hrel
          obtain ⟨av, cv, rfl, _⟩ := own_form hwt
          have hfew := under_few HU.out
          by_cases hlp : p < ss.length
          · have hints := hwt.ints
            obtain ⟨b, off, rfl, hc1⟩ := hints p hlp
            have hlp2 : (p : Int) < (ss.length : Int) := by omega
            have HM : Hid (isTask (getI ss p) ∧ rank N Q (getI ss p) < rank N Q k) := HU.out.2 _ (getI_mem.2 ⟨p, hlp, rfl⟩)
            clear hints
            go_wp2_with fail
            refine (l2For_any ao N c K H Q (getI ss p) _ hN HS.out HG.out (hx.below hbel)).mono ?_
            rintro e w4 ⟨⟨vk, ks, rfl, hwk, hfor⟩, hb4⟩
            obtain ⟨ak, ck, rfl, _⟩ := own_form hwk
            have HF : Hid (∀ y, y ∈ ks → isTask y ∧ rank N Q y < rank N Q k) := fun y hy => ⟨for_task HG.out hfor.out hy, by have := rank_less HG.out HS.out hfor.out hy; have := HM.out.2; omega⟩
            have hkl := forIs_len HG.out hfor.out
            have hwt4 := hwt.below hb4
            have hbel4 := after hbel hb4
            have HAP : Hid (∀ b', (Value.slice (some ⟨b, off, none⟩) ss.length cv).ownBlock = some b' → (Value.slice ak ks.length ck).ownBlock ≠ some b') := fun b' h1 h2 => by
              have := (World.ownsRow.lt hwt b' h1).2
              have := (World.ownsRow.lt hwk b' h2).1
              omega
            have hwk := own_base (base' := w.heap.size) hwk hbel.size
            clear hfor hb4 hbel hwt hc1
            go_wp2
            go_loopg [5, 32] ks.length (fun g v i wr => ∃ (s2 : List Int) (q : Nat), q ≤ ks.length ∧ g = ks.length - q ∧ i = .int .i64 q ∧ p < s2.length ∧ WaitsIs wr w.heap.size v s2 ∧ WaitsIs wr w.heap.size (.slice ak ks.length ck) ks ∧ Hid (Under N Q (rank N Q k) s2 ∧ ∀ b', v.ownBlock = some b' → (Value.slice ak ks.length ck).ownBlock ≠ some b') ∧ Below w.heap.size w wr)
            case atStart => exact ⟨ss, 0, Nat.zero_le _, rfl, rfl, hlp, hwt4, hwk, ⟨HU.out, HAP.out⟩, hbel4⟩
            case round =>
              clear hwt4 hwk hbel4 HU HAP hp hfew hlp hlp2 HM
              obtain ⟨s2, q, hq, rfl, rfl, hp2, hwt, hwk, HU, hbel⟩ := hrel
              obtain ⟨a2, c2, rfl, _⟩ := own_form hwt
              have hfew := under_few HU.out.1
              have hsz := hbel.size
              by_cases hlq : q < ks.length
              · obtain ⟨b3, off3, rfl, hc3⟩ := hwk.ints q hlq
                have hlq2 : (q : Int) < (ks.length : Int) := by omega
                have HY := HF.out _ (getI_mem.2 ⟨q, hlq, rfl⟩)
                have HY : Hid (isTask (getI ks q) ∧ rank N Q (getI ks q) < rank N Q k) := HY
                generalize getI ks q = y at *
                by_cases hmem : y ∈ s2
                · have HME : Hid (∃ j, j < s2.length ∧ getI s2 j = y) := getI_mem.1 hmem
                  clear hmem
                  go_wp2_with fail
                  refine (l1Has_yes a2 s2.length c2 (getI s2) y _ (by omega) hwt.ints HME.out).mono ?_
                  rintro e w' ⟨rfl, hw'⟩
                  have hw5 := hw'.symm
                  subst hw5
                  go_wp2
                  go_roundg (ks.length - (q + 1))
                  case measure => omega
                  case rel => exact ⟨s2, q + 1, by omega, rfl, by go_num, hp2, hwt, hwk, HU, hbel⟩
                · have HME : Hid (y ∉ s2) := hmem
                  clear hmem
                  go_wp2_with fail
                  refine (l1Has_no a2 s2.length c2 (getI s2) y _ (by omega) hwt.ints (fun j hj e => HME.out (getI_mem.2 ⟨j, hj, e⟩))).mono ?_
                  rintro e w' ⟨rfl, hw'⟩
                  have hw5 := hw'.symm
                  subst hw5
                  have hkb : ∀ b', (Value.slice (some ⟨b3, off3, none⟩) ks.length ck).ownBlock = some b' → b' < wr.heap.size := fun b' h => (World.ownsRow.lt hwk b' h).2
                  have HKB : Hid (∀ b', (Value.slice (some ⟨b3, off3, none⟩) ks.length ck).ownBlock = some b' → b' < wr.heap.size) := hkb
                  clear hkb
                  go_wp2_with (first | (at_builtin; refine wpList_append_lies _ (by rfl) (.tmp 40) (.tmp 42) 25 (by rfl) w.heap.size 3 j0 (.int .i64 0) 1 8 Try.underlying25 ji jz0 jz1 jz2 rfl (by decide) _ s2.length (cellsI s2) (by rfl) (hwt.alloc _) ⟨wr.heap.size, 0, none⟩ 1 1 [.int .i64 y] (by rfl) (by rfl) (World.news_of_block (heap_alloc_new wr _)) (by intro u hu; simp at hu; subst hu; rfl) (by decide) (by unfold maxLen; omega) (by omega) (by simp; omega) (wr.heap.size + 1) (by simp) ?_; intro g cap w6 hown6 hgrow hat hlt6))
                  have hkg := kept_by hgrow
                  go_roundg (ks.length - (q + 1))
                  case measure => omega
                  case rel =>
                    refine ⟨s2 ++ [y], q + 1, by omega, rfl, by go_num, by rw [List.length_append]; omega, ?_, ?_, ⟨under_snoc HU.out.1 HME.out HY.out.1 HY.out.2, ?_⟩, ?_⟩
                    · unfold WaitsIs; rw [cellsI_snoc, List.length_append]; exact hown6
                    · exact hkg.own (hwk.alloc _) (fun b' h1 h2 => HU.out.2 b' h2 h1)
                    · intro b' h1 h2
                      simp only [Value.ownBlock, Option.some.injEq] at h1
                      subst h1
                      rcases hat with h | h
                      · exact HU.out.2 g h h2
                      · have := HKB.out g h2; omega
                    · exact (push hbel _).grown hgrow (by simp; omega) (fun j hj => (World.ownsRow.lt hwt j hj).1)
              · go_wp2
                go_roundg (12 - (p + 1))
                case measure => omega
                case rel => exact ⟨s2, p + 1, by omega, rfl, by go_num, hwt, HU.out.1, hbel⟩
          · have HNO : Hid (∀ j, j < ss.length → getI ss j ≠ (k : Int)) := fun j hj e => by
              have := (HU.out.2 _ (getI_mem.2 ⟨j, hj, rfl⟩)).2
              rw [e] at this
              omega
            go_wp2_with fail
            refine (l1Has_no av ss.length cv (getI ss) k _ (by omega) hwt.ints HNO.out).mono ?_
            rintro e w' ⟨rfl, hw'⟩
            have hw5 := hw'.symm
            subst hw5
            go_wp2
            go_roundg (12 - (k + 1))
            case measure => omega
            case rel => exact ⟨k + 1, by omega, rfl, by go_num, hbel⟩
      · obtain rfl : k = 12 := by omega
        go_wp2
        exact bodyPost_ret (v := .tuple #[.bool false, .bool true]) (by simp [results, Try.results24, go_sem]) rfl ⟨⟨false, true, rfl, ⟨rfl, ⟨fun _ => HGL.out, fun _ => rfl⟩⟩⟩, hbel⟩

end Go.Proofs.Ytbmaiidpeafkjag
