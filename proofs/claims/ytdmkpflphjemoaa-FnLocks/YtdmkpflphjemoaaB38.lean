/-
  OWN TEXT: CycS0, CycI.
-/
import Derived.Test.YtdmkpflphjemoaaB37
namespace Go.Proofs.Ytdmkpflphjemoaa
open Go.RowKit

/-- Tasks that rank below r, none twice. -/
def Under (N : Nat) (Q : Nat → Line) (r : Nat) (ss : List Int) : Prop := ss.Nodup ∧ ∀ y, y ∈ ss → isTask y ∧ rank N Q y < r
theorem under_few {N : Nat} {Q : Nat → Line} {r : Nat} {ss : List Int} (h : Under N Q r ss) : ss.length ≤ 12 := few_tasks ss h.1 (fun y hy => (h.2 y hy).1)
theorem under_for {N : Nat} {K : Nat → Int} {H Q : Nat → Line} (hg : GoodI N K H Q) (hs : ShortTo N H Q 1048576) {x : Int} {ks : List Int} (hf : ForIs N H Q x ks) : Under N Q (rank N Q x) ks := ⟨for_nodup hf, fun _ hy => ⟨for_task hg hf hy, rank_less hg hs hf hy⟩⟩
theorem under_snoc {N : Nat} {Q : Nat → Line} {r : Nat} {ss : List Int} {y : Int} (h : Under N Q r ss) (hy : y ∉ ss) (ht : isTask y) (hr : rank N Q y < r) : Under N Q r (ss ++ [y]) := by
  refine ⟨List.nodup_append.2 ⟨h.1, by simp, fun a ha b hb e => ?_⟩, fun z hz => ?_⟩
  · simp only [List.mem_singleton] at hb; subst hb; subst e; exact hy ha
  · rcases List.mem_append.1 hz with hz | hz
    · exact h.2 z hz
    · simp only [List.mem_singleton] at hz; subst hz; exact ⟨ht, hr⟩

/-- What CycleIn answers. -/
def CycAns (P : Prop) (b : Bool) (ok : Bool) : Prop := b = false ∧ (ok = true ↔ P)

end Go.Proofs.Ytdmkpflphjemoaa

namespace Go.Proofs.Ytdmkpflphjemoaa
open Go.RowKit

theorem Try.zeroUnit (w : World) : (zeroValue 84).run Try.prog w = .ok (.agg #[]) w := by
  obtain ⟨i0, hi, hz0, _, _⟩ := info_parts (show (Try.prog.info? 84).map (fun i => (i.zero, i.size, i.bytes)) = some (some (.agg #[]), 0, 0) by kernel_rfl)
  simp [zeroValue, typeInfo, hi, hz0]

/-- A row of numbers, its last one cut off. -/
theorem WaitsIs.cut {w : World} {base c : Nat} {ao : Option Addr} {pre : List Int} {x : Int} (h : WaitsIs w base (.slice ao (pre.length + 1) c) (pre ++ [x])) : WaitsIs w base (.slice ao pre.length c) pre := by
  unfold WaitsIs at *
  rw [List.length_append, List.length_singleton] at h
  rcases h.2 with ⟨_, h0⟩ | ⟨g, cap, cur, hv, hb, hg, h1, h2, h3, h4⟩
  · omega
  · simp only [Value.slice.injEq, true_and] at hv
    obtain ⟨rfl, rfl⟩ := hv
    refine ⟨by rw [cellsI_length]; omega, .inr ⟨g, c, cur, rfl, hb, hg, by omega, h2, h3, ?_⟩⟩
    have e : cur.toList.take (pre.length * 1) = (cur.toList.take ((pre.length + 1) * 1)).take pre.length := by rw [List.take_take]; congr 1; omega
    rw [e, h4, cellsI_append, List.take_left' (cellsI_length pre)]
theorem last_of {ss : List Int} (h : 0 < ss.length) : ∃ pre x, ss = pre ++ [x] ∧ getI ss (ss.length - 1) = x ∧ pre.length = ss.length - 1 := by
  have hne : ss ≠ [] := by rintro rfl; simp at h
  refine ⟨ss.dropLast, ss.getLast hne, (List.dropLast_concat_getLast hne).symm, ?_, List.length_dropLast⟩
  have hl : ss.length - 1 < ss.length := by omega
  simp only [getI, List.getD_eq_getElem?_getD, List.getElem?_eq_getElem hl, Option.getD_some]
  rw [List.getLast_eq_getElem]

/-- One more in the set. -/
theorem set_put {w w' : World} {b : Nat} {rs : List Int} {D d : DataW Unit} {x : Int} (h : w'.ownsMap Try.prog 3 unitElem b (rs.length + 1) (D.put (.int .i64 x) d)) (h0 : w.ownsMap Try.prog 3 unitElem b rs.length D)
    (hD : rs.Nodup ∧ (∀ y, y ∈ rs → isTask y) ∧ ∀ y, y ∈ rs → Maps.has D (.int .i64 y) = true) (hk : Maps.has D (.int .i64 x) = false) (ht : isTask x) : SetIs w' b (rs ++ [x]) := by
  have hn : x ∉ rs := fun hx => by rw [hD.2.2 x hx] at hk; cases hk
  refine ⟨D.put (.int .i64 x) d, by rw [List.length_append, List.length_singleton]; exact h, ?_, ?_, ?_⟩
  · refine List.nodup_append.2 ⟨hD.1, by simp, fun a ha c hc e => ?_⟩
    simp only [List.mem_singleton] at hc; subst hc; subst e; exact hn ha
  · intro y hy
    rcases List.mem_append.1 hy with hy | hy
    · exact hD.2.1 y hy
    · simp only [List.mem_singleton] at hy; subst hy; exact ht
  · intro y hy
    by_cases e : y = x
    · subst e; exact Maps.has_put_same h0.isMap (show WideAt.IsKeyLit (.int .i64 y) by unfold WideAt.IsKeyLit; trivial) d
    · rw [Maps.has_put_other (by intro e2; apply e; simpa using e2)]
      rcases List.mem_append.1 hy with hy | hy
      · exact hD.2.2 y hy
      · simp only [List.mem_singleton] at hy; exact absurd hy e
theorem ints_cellsC {w : World} {ao : Option Addr} {ks : List Int} (h : IntsAt w ao ks.length (getI ks)) : ∀ ad, ao = some ad → ∀ j u, (cellsI ks)[j]? = some u → w.cell? (ad.add j) = some u := by
  intro ad e j u hu
  rw [cellsI_map, List.getElem?_map] at hu
  obtain ⟨y, hy, rfl⟩ := Option.map_eq_some_iff.1 hu
  have hj : j < ks.length := (List.getElem?_eq_some_iff.1 hy).1
  obtain ⟨b, off, e', h1⟩ := h j hj
  rw [e] at e'
  simp only [Option.some.injEq] at e'
  subst e'
  rw [Addr.add_lit, h1]
  simp [getI, List.getD_eq_getElem?_getD, hy]

set_option maxHeartbeats 1600000 in
set_option maxRecDepth 100000 in
theorem someWaits_any (ao : Option Addr) (N c : Nat) (K : Nat → Int) (H Q : Nat → Line) (w : World) (hN : N ≤ 1048576) (hs : ShortTo N H Q 1048576) (hg : GoodI N K H Q) (hx : LocksAt w ao N K H Q) :
    Calls Try.prog 35 #[.slice ao N c] w fun e w' => e = .returned (.bool false) ∧ Below w.heap.size w w' := by
  obtain ⟨j0, ji, jz0, jz1, jz2⟩ := info_parts Try.infoInt
  have HS : Hid (ShortTo N H Q 1048576) := hs
  have HG : Hid (GoodI N K H Q) := hg
  clear hs hg
  have hmk := run_makeMap (P := Try.prog) 83 w
  have hset0 := set_made w
  go_enter Try.func35, Try.ntmps35
  go_wp2
  go_step3
  go_wp2
  go_step3
  go_wp2
  go_loopg [3, 11] 12 (fun g f i wr => ∃ (k : Nat) (rs : List Int), k ≤ 12 ∧ g = 12 - k ∧ f = .bool false ∧ i = .int .i64 k ∧ SetIs wr w.heap.size rs ∧ Below w.heap.size w wr)
  case atStart => exact ⟨0, [], by omega, rfl, rfl, rfl, hset0, push (Below.refl _ _) _⟩
  case round =>
    clear hset0 hmk
    obtain ⟨k, rs, hk, rfl, rfl, rfl, hset, hbel⟩ := hrel
    by_cases hlt : k < 12
    · have d0 : decide ((k : Int) < 12) = true := by simp; omega
      have hsz := hbel.size
      obtain ⟨w1, hclr, hset1, hgr1⟩ := set_clear hset 83 Try.underlying83
      have hbel1 := hbel.grown hgr1 hsz (fun j hj => by simp only [Option.some.injEq] at hj; omega)
      have hclr := hclr 0
      go_wp2_with fail
      refine (waitedFor_any ao N c K H Q k _ hN HS.out HG.out (hx.below hbel1)).mono ?_
      rintro e w2 ⟨⟨v2, ks0, rfl, hwt2, hfor⟩, hb2⟩
      have hwt2 := own_base (base' := w.heap.size) hwt2 hbel1.size
      have hset2 := hset1.below hb2
      have hbel2 := after hbel1 hb2
      have HU : Hid ((∀ y, y ∈ ks0 → isTask y ∧ rank N Q y < rank N Q k) ∧ ks0.length ≤ 12) := ⟨fun y hy => ⟨for_task HG.out hfor.out hy, rank_less HG.out HS.out hfor.out hy⟩, forIs_len HG.out hfor.out⟩
      clear hfor hb2 hbel hset hset1 hbel1
      go_wp2
      go_loopg [3, 6] (weigh N Q ks0) (fun g f v wr => ∃ (ss rs : List Int), g = weigh N Q ss ∧ f = .bool false ∧ WaitsIs wr w.heap.size v ss ∧ SetIs wr w.heap.size rs ∧ Hid ((∀ y, y ∈ ss → isTask y ∧ rank N Q y < rank N Q k) ∧ ss.length ≤ 12 + 12 * rs.length) ∧ Below w.heap.size w wr)
      case atStart => exact ⟨ks0, [], rfl, rfl, hwt2, hset2, ⟨HU.out.1, by have := HU.out.2; omega⟩, hbel2⟩
      case round =>
        clear hwt2 hset2 hbel2 HU
        obtain ⟨ss, rs, rfl, rfl, hwt, hset, HU, hbel⟩ := hrel
        obtain ⟨w3, ew3⟩ : ∃ x, x = wr := ⟨_, rfl⟩
        subst ew3
        obtain ⟨av, cv, rfl, hvc, hvm, _⟩ := own_form hwt
        have hsz := hbel.size
        have hrl := hset.few
        by_cases hpos : 0 < ss.length
        · obtain ⟨pre, x, hss, hxl, hpl⟩ := last_of hpos
          have HX : Hid (isTask x ∧ rank N Q x < rank N Q k) := HU.out.1 x (by rw [hss]; simp)
          have HP : Hid (∀ y, y ∈ pre → isTask y ∧ rank N Q y < rank N Q k) := fun y hy => HU.out.1 y (by rw [hss]; exact List.mem_append.2 (.inl hy))
          have HWG : Hid (weigh N Q ss = weigh N Q pre + 13 ^ rank N Q x) := by show weigh N Q ss = _; rw [hss, weigh_append]; simp [weigh]
          have hlen : ss.length = pre.length + 1 := by omega
          obtain ⟨b, off, rfl, hc1⟩ := hwt.ints (ss.length - 1) (by omega)
          rw [hxl] at hc1
          have hne : (x == (k : Int)) = false := by
            simp only [beq_eq_false_iff_ne]
            rintro rfl
            have := HX.out.2; omega
          rw [hlen] at hc1 hwt
          have hcut : WaitsIs w3 w.heap.size (.slice (some ⟨b, off, none⟩) pre.length cv) pre := by rw [hss] at hwt; exact WaitsIs.cut hwt
          have HL : Hid (ss.length = pre.length + 1 ∧ pre.length + 1 ≤ 12 + 12 * rs.length) := ⟨hlen, by have := HU.out.2; omega⟩
          rw [hlen] at hvc
          rw [hlen]
          simp only [Nat.add_sub_cancel] at hc1
          have HKEY : Hid (keyOf Try.prog 3 (.int .i64 x) = some (.int .i64 x)) := key_task HX.out.1
          have HSZ : Hid (w.heap.size ≤ w3.heap.size ∧ rs.length ≤ 12) := ⟨hsz, hrl⟩
          have HCUT : Hid (WaitsIs w3 w.heap.size (.slice (some ⟨b, off, none⟩) pre.length cv) pre) := hcut
          generalize hpn : pre.length = pn at *
          have HPN : Hid (pre.length = pn) := hpn
          have hpb : pn ≤ 200 := by have := HL.out.2; omega
          clear hss hxl hpl hlen hwt HU hpos hpn hcut
          have i1 : (0 : Int) < (pn : Int) + 1 := by omega
          have i2 : IntKind.i64.wrap ((pn : Int) + 1 - 1) = (pn : Int) := by rw [IntKind.wrap_i64]; omega
          have i3 : (pn : Int) < (pn : Int) + 1 := by omega
          have i4 : (pn : Int) ≤ (cv : Int) := by omega
          have HSET : Hid (SetIs w3 w.heap.size rs) := hset
          obtain ⟨D, hmap, hD1, hD2, hD3⟩ := hset
          have HD : Hid (rs.Nodup ∧ (∀ y, y ∈ rs → isTask y) ∧ ∀ y, y ∈ rs → Maps.has D (.int .i64 y) = true) := ⟨hD1, hD2, hD3⟩
          have HMAP : Hid (w3.ownsMap Try.prog 3 unitElem w.heap.size rs.length D) := hmap
          clear hD1 hD2 hD3 hmap
          have i5 : wrap64 (pn : Int) = (pn : Int) := by unfold wrap64; omega
          clear hsz hrl hvc hvm
          by_cases hkn : Maps.has D (.int .i64 x) = true
          · have HKN : Hid (Maps.has D (.int .i64 x) = true) := hkn
            clear hkn
            go_wp2_with (first | (at_lookup; refine wpList_lookup_own_unit _ (by rfl) (.tmp 36) (.tmp 37) 83 (by rfl) 3 84 Try.keyed Try.underlying83 (Try.zeroUnit _) w.heap.size rs.length D (by rfl) HMAP.out (.int .i64 x) (.int .i64 x) (by rfl) HKEY.out ?_; rw [HKN.out]))
            go_roundg (weigh N Q pre)
            case measure => have h1 := HWG.out; have h2 : 0 < 13 ^ rank N Q x := Nat.pow_pos (by omega); omega
            case rel =>
              refine ⟨pre, rs, rfl, rfl, ?_, HSET.out.below (push (Below.refl _ _) _), ⟨HP.out, ?_⟩, push hbel _⟩
              · exact HCUT.out.alloc _
              · have := HL.out.2; have := HPN.out; omega
          · have HKN : Hid (Maps.has D (.int .i64 x) = false) := Bool.eq_false_iff.2 hkn
            clear hkn
            go_wp2_with (first | (at_lookup; refine wpList_lookup_own_unit _ (by rfl) (.tmp 36) (.tmp 37) 83 (by rfl) 3 84 Try.keyed Try.underlying83 (Try.zeroUnit _) w.heap.size rs.length D (by rfl) HMAP.out (.int .i64 x) (.int .i64 x) (by rfl) HKEY.out ?_; rw [HKN.out]) | (at_mapUpdate; refine wpList_mapUpdate_in _ (by rfl) (.tmp 43) (.tmp 44) (.tmp 45) 83 (by rfl) 3 84 Try.keyed Try.underlying83 (unitElem (H := Unit)) w.heap.size rs.length D (by rfl) (HMAP.out.alloc _) (by have := HSZ.out.2; unfold maxLen; omega) (.int .i64 x) (.agg #[]) (.int .i64 x) (by rfl) (by rfl) HKEY.out (.agg []) [] unitElem_mk ?_; intro w4 hown4 hturn4))
            have hg4 := hturn4.grown
            have hset4 : SetIs w4 w.heap.size (rs ++ [x]) := set_put hown4 HMAP.out HD.out HKN.out HX.out.1
            have hcut4 : WaitsIs w4 w.heap.size (.slice (some ⟨b, off, none⟩) pn cv) pre := by
              have h1 := (kept_by hg4).own (HCUT.out.alloc _) (fun b' h1 h2 => by
                simp only [Option.some.injEq] at h2
                subst h2
                exact HSET.out.not_row HCUT.out h1)
              exact h1
            have hbel4 := (push hbel (.cells #[] 84)).grown hg4 (by have := HSZ.out.1; simp; omega) (fun j hj => by simp only [Option.some.injEq] at hj; omega)
            clear hturn4 hown4 hg4
            refine (waitedFor_any ao N c K H Q x _ hN HS.out HG.out (hx.below hbel4)).mono ?_
            rintro e w5 ⟨⟨vk, ks, rfl, hwk, hfor⟩, hb5⟩
            have HF : Hid (∀ y, y ∈ ks → isTask y ∧ rank N Q y < rank N Q k) := fun y hy => ⟨for_task HG.out hfor.out hy, by have := rank_less HG.out HS.out hfor.out hy; have := HX.out.2; omega⟩
            have HKL : Hid (ks.length ≤ 12) := forIs_len HG.out hfor.out
            have HWP : Hid (weigh N Q ks < 13 ^ rank N Q x) := weigh_push HG.out HS.out hfor.out
            obtain ⟨ak, ck, rfl, hck, hcm, hkn⟩ := own_form hwk
            have HSRC : Hid ((ak = none → ks.length = 0 ∧ ck = 0) ∧ ∀ ad, ak = some ad → ∀ j u, (cellsI ks)[j]? = some u → w5.cell? (ad.add j) = some u) := ⟨hkn, ints_cellsC hwk.ints⟩
            have HSET5 : Hid (SetIs w5 w.heap.size (rs ++ [x])) := hset4.below hb5
            have HCUT5 : Hid (w5.ownsRow w.heap.size 3 1 (.slice (some ⟨b, off, none⟩) pn cv) pn (cellsI pre)) := by
              have h1 := hcut4.below hb5
              have e := HPN.out
              subst e
              exact h1
            have HBEL5 : Hid (Below w.heap.size w w5) := after hbel4 hb5
            have HB5 : Hid (w.heap.size ≤ w5.heap.size) := HBEL5.out.size
            clear hfor hwk hb5 hck hcm hkn hset4 hcut4 hbel4
            go_wp2_with (first | (at_builtin; refine wpList_append_any _ (by rfl) (.tmp 46) (.tmp 49) 33 (by rfl) w.heap.size 3 j0 (.int .i64 0) 1 8 Try.underlying33 ji jz0 jz1 jz2 rfl (by decide) _ pn (cellsI pre) (by rfl) HCUT5.out ak ks.length ck (cellsI ks) (by rfl) HSRC.out.1 (by rw [cellsI_length]; omega) HSRC.out.2 (cellsI_one ks) (by have := HKL.out; unfold maxLen; omega) (by have := HKL.out; omega) HB5.out ?_; intro v6 w6 hown6 hgrow6))
            go_roundg (weigh N Q (pre ++ ks))
            case measure => have h1 := HWG.out; have h2 := HWP.out; have h3 := weigh_append N Q pre ks; omega
            case rel =>
              refine ⟨pre ++ ks, rs ++ [x], rfl, rfl, ?_, ?_, ⟨?_, ?_⟩, ?_⟩
              · unfold WaitsIs
                rw [cellsI_append, List.length_append, HPN.out]
                exact hown6
              · refine HSET5.out.kept (kept_by hgrow6) (fun h => HSET5.out.not_row HCUT5.out h)
              · intro y hy
                rcases List.mem_append.1 hy with hy | hy
                · exact HP.out y hy
                · exact HF.out y hy
              · have h1 := HL.out.2; have h2 := HPN.out; have h3 := HKL.out
                rw [List.length_append, List.length_append, List.length_singleton]; omega
              · exact HBEL5.out.grown hgrow6 HB5.out (fun j hj => (World.ownsRow.lt HCUT5.out j hj).1)
        · go_wp2
          go_roundg (12 - (k + 1))
          case measure => omega
          case rel => exact ⟨k + 1, rs, by omega, rfl, rfl, by go_num, hset, hbel⟩
    · obtain rfl : k = 12 := by omega
      go_wp2
      (try rw [Exit.noGoto_ret])
      go_ret
      exact ⟨rfl, hbel⟩

end Go.Proofs.Ytdmkpflphjemoaa
