/-
  OWN TEXT: TextI, ListI.
-/
import Derived.Deep.DeepCutAuto
import Derived.Deep.CutBlock
import Derived.Test.YtfbooamjddnagaaDoorB09
import Derived.Test.YtfbooamjddnagaaDoorB15
import Derived.Test.YtfbooamjddnagaaDoorB02
import Derived.Test.YtfbooamjddnagaaDoorB04
namespace Go.Proofs.YtfbooamjddnagaaDoor
open Go.RowKit

theorem areNumbers_any (ao : Option Addr) (n c : Nat) (f : Nat → Int) (w : World) (hn : n ≤ 1000000000) (hx : IntsAt w ao n f) :
    Calls Tryd.prog 32 #[.slice ao n c] w fun e w' => SaysIf (∀ i, i < n → In (f i) 0 99999) e ∧ Below w.heap.size w w' := by
  go_enter Tryd.func32, Tryd.ntmps32
  go_wp2
  go_loopw [4, 7] (fun _ vi wr => ∃ k : Nat, k ≤ n ∧ vi = .int .i64 k ∧ Hid (∀ i, i < k → In (f i) 0 99999) ∧ Below w.heap.size w wr) (fun _ vi _ => n - (intOf vi).toNat)
  case atStart => exact ⟨0, Nat.zero_le _, rfl, fun i hi => by omega, Below.refl _ _⟩
  case round =>
    obtain ⟨k, hk, rfl, HA, hbel⟩ := hrel
    by_cases hlt : k < n
    · obtain ⟨b, off, rfl, hc⟩ := hx k hlt
      have hc' : wr.cell? ⟨b, off + k, none⟩ = some (.int .i64 (f k)) := (hbel.cell (World.block_lt_of_cell? w _ hc)).trans hc
      clear hc
      by_cases hin : In (f k) 0 99999
      · go_wp2_with fail
        refine (within_yes (f k) 0 99999 _ hin).mono ?_
        rintro e w2 ⟨rfl, hb2⟩
        go_wp2
        go_roundw
        case rel => exact ⟨k + 1, by omega, by go_num, fun i hi => by
            by_cases e : i = k
            · rw [e]; exact hin
            · exact HA.out i (by omega), hb2 ▸ hbel⟩
        case measure => simp [intOf]; omega
      · go_wp2_with fail
        refine (within_no (f k) 0 99999 _ hin).mono ?_
        rintro e w2 ⟨rfl, hb2⟩
        go_wp2
        go_ret
        exact ⟨⟨false, rfl, by simp; exact ⟨k, hlt, hin⟩⟩, hb2 ▸ hbel⟩
    · obtain rfl : n = k := by omega
      go_wp2
      go_ret
      exact ⟨⟨true, rfl, by simp; exact HA.out⟩, hbel⟩

theorem pairText_any (a b : Int) (w : World) (ha : In a 0 1000000) (hb : In b 0 1000000) (hP : PowAt w) :
    Calls Tryd.prog 115 #[.int .i64 a, .int .i64 b] w fun e w' => e = .returned (.string (numT a ++ ⟨#[47]⟩ ++ numT b)) ∧ Below w.heap.size w w' := by
  unfold In at ha hb
  have s1 := numT_size (n := a) (by omega) (by omega)
  have s2 := numT_size (n := b) (by omega) (by omega)
  have r1 := add_run (numT a) ⟨#[47]⟩ (by omega) (by show 1 ≤ _; omega)
  have r2 := add_run (numT a ++ ⟨#[47]⟩) (numT b) (by rw [ByteArray.size_append]; show _ + 1 ≤ _; omega) (by omega)
  have HP : Hid (PowAt w) := hP
  clear hP
  go_enter Tryd.func115, Tryd.ntmps115
  go_wp2_with fail
  refine (itoa_any a (by omega) (by omega) _ HP.out).mono ?_
  rintro e w2 ⟨rfl, hb2⟩
  go_wp2_with fail
  refine (itoa_any b (by omega) (by omega) _ (HP.out.below hb2)).mono ?_
  rintro e w3 ⟨rfl, hb3⟩
  go_wp2
  go_ret
  exact ⟨rfl, after hb2 hb3⟩

set_option maxHeartbeats 800000 in
theorem partyText_any (p : Party) (w : World) (hp : PartyOk p) (hP : PowAt w) :
    Calls Tryd.prog 79 #[.agg #[.int .i64 p.pe, .int .i64 p.len, .int .i64 p.hei, .int .i64 p.cl, .bool p.all, .int .i64 p.be]] w fun e w' => e = .returned (.string (partyT p)) ∧ Below w.heap.size w w' := by
  obtain ⟨pe, len, hei, cl, all, be⟩ := p
  have HK : Hid (PartyOk ⟨pe, len, hei, cl, all, be⟩) := hp
  have HP : Hid (PowAt w) := hP
  unfold PartyOk CarOk CabOk In at hp
  dsimp only at hp ⊢
  have s1 := numT_size (n := pe) (by omega) (by omega)
  have s2 := numT_size (n := len) (by omega) (by omega)
  have s3 := numT_size (n := hei) (by omega) (by omega)
  have s4 := numT_size (n := cl) (by omega) (by omega)
  have s5 := numT_size (n := be) (by omega) (by omega)
  have b1 : (0 ≤ pe ∧ pe ≤ 1000) ∧ (0 ≤ len ∧ len ≤ 2000) ∧ (0 ≤ hei ∧ hei ≤ 500) ∧ (0 ≤ cl ∧ cl ≤ 3) ∧ (0 ≤ be ∧ be ≤ 4) := by omega
  have HB1 : Hid ((0 ≤ pe ∧ pe ≤ 1000) ∧ (0 ≤ len ∧ len ≤ 2000) ∧ (0 ≤ hei ∧ hei ≤ 500) ∧ (0 ≤ cl ∧ cl ≤ 3) ∧ (0 ≤ be ∧ be ≤ 4)) := b1
  clear hp hP b1
  have hA := heap_alloc_new w (.cells #[.int .i64 pe, .int .i64 len, .int .i64 hei, .int .i64 cl, .bool all, .int .i64 be] 30)
  have hb0 : Below w.heap.size w (w.alloc (.cells #[.int .i64 pe, .int .i64 len, .int .i64 hei, .int .i64 cl, .bool all, .int .i64 be] 30)) := push (Below.refl _ _) _
  go_enter Tryd.func79, Tryd.ntmps79
  go_upto_region 1 with fail
  generalize w.alloc (.cells #[.int .i64 pe, .int .i64 len, .int .i64 hei, .int .i64 cl, .bool all, .int .i64 be] 30) = wA at hA hb0 ⊢
  have x0 := blk_cell hA 0 _ rfl
  go_wp2_with fail
  refine (itoa_any pe (by have := HB1.out; omega) (by have := HB1.out; omega) _ (HP.out.below hb0)).mono ?_
  rintro e w2 ⟨rfl, hb2⟩
  have hA2 := blk_below hA hb2
  have hB2 := after hb0 hb2
  clear hA hb0 hb2 x0
  have y0 := blk_cell hA2 0 _ rfl
  have y1 := blk_cell hA2 1 _ rfl
  have y2 := blk_cell hA2 2 _ rfl
  have y3 := blk_cell hA2 3 _ rfl
  have y4 := blk_cell hA2 4 _ rfl
  have y5 := blk_cell hA2 5 _ rfl
  go_wp2_with fail
  obtain ⟨q, hq⟩ : ∃ q, q = decide (¬ (len = 0 ∧ hei = 0)) := ⟨_, rfl⟩
  have cq := asksCar_any pe len hei cl all be w2
  rw [← hq] at cq
  have HQ : Hid (q = decide (¬ (len = 0 ∧ hei = 0))) := hq
  clear hq
  refine cq.mono ?_
  clear cq
  rintro e w3 ⟨rfl, hb3⟩
  have hA3 := blk_below hA2 hb3
  have hB3 := after hB2 hb3
  clear hA2 hB2 hb3 y0 y1 y2 y3 y4 y5
  have hcs : (carT ⟨pe, len, hei, cl, all, be⟩).size ≤ 300 := by
    unfold carT
    split
    · exact Nat.zero_le _
    · rw [ByteArray.size_append, ByteArray.size_append, ByteArray.size_append]
      show 1 + ((numT len).size + 1 + (numT hei).size) ≤ 300
      omega
  go_upto_if 8 with fail
  go_cut [3] (fun v wx => v = .string (numT pe ++ carT ⟨pe, len, hei, cl, all, be⟩) ∧ Hid (Below w3.heap.size w3 wx))
  case first =>
    cases q with
    | false =>
      have hc : len = 0 ∧ hei = 0 := Classical.byContradiction (fun h => by have := HQ.out; rw [decide_eq_true h] at this; cases this)
      have ec : numT pe ++ carT ⟨pe, len, hei, cl, all, be⟩ = numT pe := by
        unfold carT
        rw [if_pos hc]
        exact ByteArray.append_empty
      have EC : Hid (numT pe = numT pe ++ carT ⟨pe, len, hei, cl, all, be⟩) := ec.symm
      clear hc ec
      go_wp2
      go_meet
      exact ⟨congrArg Value.string EC.out, Below.refl _ _⟩
    | true =>
      have hc : ¬ (len = 0 ∧ hei = 0) := of_decide_eq_true HQ.out.symm
      have ec : carT ⟨pe, len, hei, cl, all, be⟩ = ⟨#[43]⟩ ++ (numT len ++ ⟨#[47]⟩ ++ numT hei) := by unfold carT; rw [if_neg hc]
      rw [ec] at hcs
      rw [ByteArray.size_append] at hcs
      have r1 := add_run ⟨#[43]⟩ (numT len ++ ⟨#[47]⟩ ++ numT hei) (by show 1 ≤ _; omega) (by omega)
      have r2 := add_run (numT pe) (⟨#[43]⟩ ++ (numT len ++ ⟨#[47]⟩ ++ numT hei)) (by omega) (by rw [ByteArray.size_append]; omega)
      have y1 := blk_cell hA3 1 _ rfl
      have y2 := blk_cell hA3 2 _ rfl
      have EC : Hid (⟨#[43]⟩ ++ (numT len ++ ⟨#[47]⟩ ++ numT hei) = carT ⟨pe, len, hei, cl, all, be⟩) := ec.symm
      clear hc ec hcs
      go_wp2_with fail
      refine (pairText_any len hei _ ⟨by have := HB1.out; omega, by have := HB1.out; omega⟩ ⟨by have := HB1.out; omega, by have := HB1.out; omega⟩ (HP.out.below hB3)).mono ?_
      rintro e w4 ⟨rfl, hb4⟩
      go_wp2
      go_meet
      exact ⟨congrArg (fun z => Value.string (numT pe ++ z)) EC.out, hb4⟩
  case rest =>
  obtain ⟨rfl, HW⟩ := hcut
  have hA4 := blk_below hA3 HW.out
  have hB4 := after hB3 HW.out
  clear hA3 hB3 HW
  obtain ⟨ct, hct⟩ : ∃ z, z = carT ⟨pe, len, hei, cl, all, be⟩ := ⟨_, rfl⟩
  have HCT : Hid (ct = carT ⟨pe, len, hei, cl, all, be⟩) := hct
  rw [← hct] at hcs ⊢
  clear hct HQ q
  have y0 := blk_cell hA4 0 _ rfl
  have y1 := blk_cell hA4 1 _ rfl
  have y2 := blk_cell hA4 2 _ rfl
  have y3 := blk_cell hA4 3 _ rfl
  have y4 := blk_cell hA4 4 _ rfl
  have y5 := blk_cell hA4 5 _ rfl
  go_wp2_with fail
  obtain ⟨q, hq⟩ : ∃ q, q = decide (¬ (cl = 0 ∧ all = false ∧ be = 0)) := ⟨_, rfl⟩
  have cq := asksCabin_any pe len hei cl all be wc
  rw [← hq] at cq
  have HQ : Hid (q = decide (¬ (cl = 0 ∧ all = false ∧ be = 0))) := hq
  clear hq
  refine cq.mono ?_
  clear cq
  rintro e w5 ⟨rfl, hb5⟩
  have hA5 := blk_below hA4 hb5
  have hB5 := after hB4 hb5
  clear hA4 hB4 hb5 y0 y1 y2 y3 y4 y5
  cases q with
  | false =>
    have hc : cl = 0 ∧ all = false ∧ be = 0 := Classical.byContradiction (fun h => by have := HQ.out; rw [decide_eq_true h] at this; cases this)
    have EP : Hid (numT pe ++ ct = partyT ⟨pe, len, hei, cl, all, be⟩) := by
      show numT pe ++ ct = partyT _
      unfold partyT
      rw [if_pos hc.1, HCT.out]
    clear hc
    go_wp2
    go_ret
    exact ⟨congrArg (fun z => Ending.returned (Value.string z)) EP.out, hB5⟩
  | true =>
    have hc : cl ≠ 0 := fun h0 => by
      have h1 := of_decide_eq_true HQ.out.symm
      have h2 := HK.out.2.2
      rcases h2 with h2 | h2
      · exact h1 h2
      · have h3 := h2.1.1
        have h3 : 1 ≤ cl := h3
        omega
    have y3 := blk_cell hA5 3 _ rfl
    have t1 : (numT pe ++ ct).size ≤ 500 := by rw [ByteArray.size_append]; omega
    have t2 : ((⟨#[64]⟩ : ByteArray) ++ numT cl).size ≤ 101 := by rw [ByteArray.size_append]; show 1 + _ ≤ _; omega
    have r1 := add_run ⟨#[64]⟩ (numT cl) (by show 1 ≤ _; omega) (by omega)
    have r2 := add_run (numT pe ++ ct) (⟨#[64]⟩ ++ numT cl) (by omega) (by omega)
    go_wp2_with fail
    refine (itoa_any cl (by have := HB1.out; omega) (by have := HB1.out; omega) _ (HP.out.below hB5)).mono ?_
    rintro e w6 ⟨rfl, hb6⟩
    have hA6 := blk_below hA5 hb6
    have hB6 := after hB5 hb6
    clear hA5 hB5 hb6 y3
    have y4 := blk_cell hA6 4 _ rfl
    have y5 := blk_cell hA6 5 _ rfl
    cases all with
    | true =>
      have EP : Hid (numT pe ++ ct ++ (⟨#[64]⟩ ++ numT cl) = partyT ⟨pe, len, hei, cl, true, be⟩) := by
        show numT pe ++ ct ++ (⟨#[64]⟩ ++ numT cl) = partyT _
        unfold partyT cabT berT
        rw [if_neg hc, if_neg hc, if_pos rfl, HCT.out]
        exact ByteArray.append_empty.symm
      clear hc
      go_wp2
      go_ret
      exact ⟨congrArg (fun z => Ending.returned (Value.string z)) EP.out, hB6⟩
    | false =>
      have EP : Hid (numT pe ++ ct ++ (⟨#[64]⟩ ++ numT cl) ++ (⟨#[120]⟩ ++ numT be) = partyT ⟨pe, len, hei, cl, false, be⟩) := by
        show numT pe ++ ct ++ (⟨#[64]⟩ ++ numT cl) ++ (⟨#[120]⟩ ++ numT be) = partyT _
        unfold partyT cabT berT
        rw [if_neg hc, if_neg hc, if_neg (by simp), HCT.out]
      clear hc
      have r3 := add_run ⟨#[120]⟩ (numT be) (by show 1 ≤ _; omega) (by omega)
      have r4 := add_run (numT pe ++ ct ++ (⟨#[64]⟩ ++ numT cl)) (⟨#[120]⟩ ++ numT be) (by rw [ByteArray.size_append]; omega) (by rw [ByteArray.size_append]; show 1 + _ ≤ _; omega)
      go_wp2_with fail
      refine (itoa_any be (by have := HB1.out; omega) (by have := HB1.out; omega) _ (HP.out.below hB6)).mono ?_
      rintro e w7 ⟨rfl, hb7⟩
      go_wp2
      go_ret
      exact ⟨congrArg (fun z => Ending.returned (Value.string z)) EP.out, after hB6 hb7⟩

end Go.Proofs.YtfbooamjddnagaaDoor

namespace Go.Proofs.YtfbooamjddnagaaDoor
open Go.RowKit

theorem Tryd.infoText : (Tryd.prog.info? 9).map (fun i => (i.zero, i.size, i.bytes)) = some (some (.string ⟨#[]⟩), 1, 16) := by kernel_rfl
theorem join_row (sep : ByteArray) (g n : Nat) (F : Nat → ByteArray) (w : World) (h : w.rowIs g 9 n (fun k => .string (F k))) (hn : 0 < n) (hN : n ≤ 1048576) (hl : (joinT sep ((List.range n).map F)).size ≤ 140737488355328) :
    Calls Tryd.prog 33 #[.slice (some ⟨g, 0, none⟩) n n, .string sep] w fun e w' => e = .returned (.string (joinT sep ((List.range n).map F))) ∧ Below w.heap.size w w' := by
  have hlen : ((List.range n).map F).length = n := by simp
  have hc : ∀ (j : Nat) x, ((List.range n).map F)[j]? = some x → w.cell? ⟨g, 0 + j, none⟩ = some (.string x) := fun j x hx => by
    have hj : j < n := by
      rcases Nat.lt_or_ge j n with h' | h'
      · exact h'
      · rw [List.getElem?_eq_none (by simpa using h')] at hx; cases hx
    rw [List.getElem?_map, List.getElem?_range hj] at hx
    cases hx
    rw [Nat.zero_add]
    exact h.cell hj
  have key := Any.strings_Join Tryd.lays156 Tryd.extra156 g 0 n ((List.range n).map F) sep w hc h.lt (by omega) (by omega) (by
      have e : (joinT sep ((List.range n).map F)).size = (Lib.join (((List.range n).map F).map (·.data.toList)) sep.data.toList).length := by show (Lib.join (((List.range n).map F).map (·.data.toList)) sep.data.toList).toArray.size = _; simp
      rw [← e]; exact hl)
  rw [hlen] at key
  exact key

set_option maxHeartbeats 800000 in
theorem listInt_any (ao : Option Addr) (n cap : Nat) (f : Nat → Int) (w : World) (hn0 : 0 < n) (hn : n ≤ 3) (hz : IntsAt w ao n f) (hi : ∀ i, i < n → In (f i) 0 99999) (hP : PowAt w) :
    Calls Tryd.prog 78 #[.slice ao n cap, .func (.func 77) #[] #[]] w fun e w' => e = .returned (.string (legsT n f)) ∧ Below w.heap.size w w' := by
  have hmk := run_make_row' (P := Tryd.prog) 64 9 (.string ⟨#[]⟩) 16 Tryd.underlying64 Tryd.infoText rfl .i64 .i64 n (by omega) (by omega)
  have d0 : ((n : Int) == 0) = false := by rw [beq_eq_false_iff_ne]; omega
  have HP : Hid (PowAt w) := hP
  have HI : Hid (∀ i, i < n → In (f i) 0 99999) := hi
  clear hP hi
  go_enter Tryd.func78, Tryd.ntmps78
  go_wp2
  go_loopw [6, 7, 16] (fun _ _ i wr => ∃ k : Nat, k ≤ n ∧ i = .int .i64 k ∧ wr.rowIs w.heap.size 9 n (fun j => if j < k then .string (numT (f j)) else .string ⟨#[]⟩) ∧ Below w.heap.size w wr)
    (fun _ _ i _ => n - (intOf i).toNat)
  case atStart => exact ⟨0, Nat.zero_le _, rfl, (World.rowIs_made _ _ _ _).congr (by simp), (Below.refl _ _).alloc (Nat.le_refl _) _⟩
  case round =>
    obtain ⟨k, hk, rfl, hrow, hbel⟩ := hrel
    by_cases hlt : k < n
    · obtain ⟨b, off, rfl, hc⟩ := (hz k (by omega))
      have hc' : wr.cell? ⟨b, off + k, none⟩ = some (.int .i64 (f k)) := (hbel.cell (World.block_lt_of_cell? w _ hc)).trans hc
      have hik := HI.out k hlt
      unfold In at hik
      clear hc
      go_wp2_with fail
      refine (itoa_any (f k) (by omega) (by omega) _ (HP.out.below hbel)).mono ?_
      rintro e w2 ⟨rfl, hb2⟩
      have hrow2 := row_below hrow hb2
      have hbel2 := after hbel hb2
      have ho := hrow2.cell (i := k) hlt
      have hf := hrow2.frozen k
      simp only [Nat.lt_irrefl, if_false] at ho
      clear hrow hbel hb2
      go_wp2
      go_roundw
      case rel => exact ⟨k + 1, by omega, by go_num, (hrow2.set k _).congr (fun j hj => fill_step (fun j => Value.string (numT (f j))) _ k j), hbel2.setCell (Nat.le_refl _) _⟩
      case measure => simp [intOf]; omega
    · have hfull : wr.rowIs w.heap.size 9 n (fun j => .string (numT (f j))) := hrow.congr (fun j hj => by rw [if_pos (by omega)])
      have hsz := joinT_le coT (by show 1 ≤ 1; omega) ((List.range n).map (fun i => numT (f i))) (fun p hp => by
        obtain ⟨i, hi, rfl⟩ := List.mem_map.1 hp
        have h1 := HI.out i (by simpa using hi)
        unfold In at h1
        have := numT_size (n := f i) (by omega) (by omega)
        omega)
      have HF : Hid (wr.rowIs w.heap.size 9 n (fun j => .string (numT (f j)))) := hfull
      clear hrow hfull
      go_wp2_with fail
      refine (join_row coT w.heap.size n (fun i => numT (f i)) _ HF.out hn0 (by omega) (by rw [List.length_map, List.length_range] at hsz; omega)).mono ?_
      rintro e w3 ⟨rfl, hb3⟩
      go_wp2
      go_ret
      exact ⟨rfl, after hbel hb3⟩

end Go.Proofs.YtfbooamjddnagaaDoor
