/-
  OWN TEXT: DrawC3, CodeC, TakeM.
-/
import Derived.Deep.RegionLawGrows
import Derived.Test.YtogbaoggebghdaaXerks06
import Derived.Test.YtogbaoggebghdaaB18
import Derived.Test.YtogbaoggebghdaaB23
import Derived.Test.YtogbaoggebghdaaXerks04
namespace Go.Proofs.Ytogbaoggebghdaa
open Go.RowKit

/-- A list of clerks that can be read. -/
def CkPlain (w : World) (v : Value) : Prop := ∃ av N cv S, v = .slice av N cv ∧ N ≤ 1000 ∧ ClkDsShort N S 1048576 ∧ ClkDsAt w av N S
theorem read_plain {w : World} {cb : Nat} {v : Value} (h : CkRead w cb v) : CkPlain w v := by
  obtain ⟨av, N, cv, S, e, h1, h2, h3⟩ := h
  exact ⟨av, N, cv, S, e, h1, h2, h3 w (Kept.refl _ _)⟩
theorem CkRead.form {w : World} {cb : Nat} {v : Value} (h : CkRead w cb v) : ∃ av N cv, v = .slice av N cv := by
  obtain ⟨av, N, cv, _, e, _⟩ := h
  exact ⟨av, N, cv, e⟩
theorem far_below {w w' : World} (h : Kept w w' (fun b => w.heap.size ≤ b)) : Below w.heap.size w w' := ⟨h.os, h.tape, h.output, h.size, fun i hi => h.block i hi (by omega)⟩

set_option maxHeartbeats 12800000 in
set_option maxRecDepth 100000 in
theorem drawAsk_any (ao : Option Addr) (n c : Nat) (w : World) (h : BytesAt w ao n) :
    Calls Try.prog 8 #[.slice ao n c] w fun e w' => (∃ v s z, e = .returned (.tuple #[v, .string s, .int .i64 z]) ∧ CkPlain w' v ∧ s.size ≤ 3) ∧ Below w.heap.size w w' := by
  have hc0 := cur_new (c := c) h
  have hb0 : Below w.heap.size w (w.alloc (.cells #[.slice ao n c, .int .i64 0, .int .u64 0] 61)) := push (Below.refl _ _) _
  have hk0 : Kept w (w.alloc (.cells #[.slice ao n c, .int .i64 0, .int .u64 0] 61)) (fun b => w.heap.size ≤ b) := Kept.of_below hb0
  go_enter Try.func8, Try.ntmps8
  go_upto_region 2 with fail
  generalize w.alloc (.cells #[.slice ao n c, .int .i64 0, .int .u64 0] 61) = v0 at hc0 hk0 ⊢
  obtain ⟨cb, hcb⟩ : ∃ u, u = w.heap.size := ⟨_, rfl⟩
  rw [← hcb] at hc0 ⊢
  have HCB : Hid (w.heap.size ≤ cb) := by show w.heap.size ≤ cb; omega
  clear hcb h hb0
  have HKC : Hid (∀ u u', Kept u u' (fun b => b = cb) → Kept u u' (fun b => w.heap.size ≤ b)) := fun u u' hk => hk.mono (fun b e => by have e : b = cb := e; have := HCB.out; omega)
  go_wp2_with fail
  refine (clerks_any cb ao n c 0 _ (by omega) hc0).mono ?_
  rintro e v1 ⟨⟨v, rfl, hR⟩, hc1, hk1⟩
  obtain ⟨av, N, cv, rfl⟩ := hR.form
  have HR : Hid (CkRead v1 cb (.slice av N cv)) := hR
  have hk := hk0.trans (HKC.out _ _ hk1)
  clear hR hk1 hk0 hc0
  go_wp2_with fail
  refine (clerkName_any cb ao n c _ _ (by omega) hc1).mono ?_
  rintro e v2 ⟨⟨s, rfl, hsz⟩, hc2, hk2⟩
  replace HR : Hid (CkRead v2 cb (.slice av N cv)) := HR.out.kept hk2
  replace hk := hk.trans (HKC.out _ _ hk2)
  clear hk2 hc1
  go_wp2_with fail
  refine (pick_any cb ao n c _ 4 _ (by omega) (by omega) (by omega) hc2).mono ?_
  rintro e v3 ⟨⟨r, rfl, hr⟩, hc3, hk3⟩
  replace HR : Hid (CkRead v3 cb (.slice av N cv)) := HR.out.kept hk3
  replace hk := hk.trans (HKC.out _ _ hk3)
  clear hk3 hc2
  obtain ⟨av1, N1, cv1, S, e9, h1, h2, h3⟩ := HR.out
  cases e9
  have HS : Hid (∀ w', Kept v3 w' (fun b => b = cb) → ClkDsAt w' av N S) := h3
  clear h3 h2
  go_wp2_with fail
  refine (l10At_any av N cv S s _ (by omega) (HS.out _ (Kept.refl _ _))).mono ?_
  rintro e v4 ⟨⟨p, rfl, hp⟩, hb4⟩
  have hc4 := hc3.below hb4
  replace HR : Hid (CkRead v4 cb (.slice av N cv)) := HR.out.below hb4
  replace HS : Hid (∀ w', Kept v4 w' (fun b => b = cb) → ClkDsAt w' av N S) := fun w' hk' => HS.out w' ((Kept.of_below hb4).trans hk')
  replace hk := hk.trans (Kept.of_below hb4)
  clear hc3 hb4
  rcases hp.out with ⟨k, hkN, rfl, -⟩ | ⟨rfl, -⟩
  · have dp : decide ((0 : Int) ≤ (k : Int)) = true := by simp
    go_wp2_with fail
    refine (one_any cb ao n c _ 2 _ (by omega) (by omega) (by omega) hc4).mono ?_
    rintro e v5 ⟨⟨b, rfl⟩, hc5, hk5⟩
    replace HR : Hid (CkRead v5 cb (.slice av N cv)) := HR.out.kept hk5
    replace HS : Hid (∀ w', Kept v5 w' (fun b => b = cb) → ClkDsAt w' av N S) := fun w' hk' => HS.out w' (hk5.trans hk')
    replace hk := hk.trans (HKC.out _ _ hk5)
    clear hk5 hc4
    cases b with
    | true =>
      obtain ⟨g, off, hav, HNUM⟩ : ∃ g off, av = some ⟨g, off, none⟩ ∧ ∀ w', Kept v5 w' (fun b => b = cb) → w'.cell? ⟨g, off + k * 7 + 1, none⟩ = some (.int .i64 (S k).num) := by
        obtain ⟨C, hC, hI⟩ := HS.out v5 (Kept.refl _ _)
        obtain ⟨g, off, ea, hc⟩ := hC k hkN
        refine ⟨g, off, ea, fun w' hk' => ?_⟩
        obtain ⟨C', hC', hI'⟩ := HS.out w' hk'
        obtain ⟨g', off', ea', hc'⟩ := hC' k hkN
        rw [ea] at ea'
        cases ea'
        obtain ⟨_, _, eC', _⟩ := hI' k hkN
        have := hc' 1 (by decide)
        rw [eC'] at this
        exact this
      have HNUM : Hid _ := HNUM
      subst hav
      have x1 := HNUM.out v5 (Kept.refl _ _)
      have i0 : (0 : Int) ≤ (k : Int) := by omega
      have i2 : (k : Int) < (N : Int) := by omega
      have HCALL : Hid (∀ Z, Below v5.heap.size v5 Z → Calls Try.prog 34 #[.pointer (some ⟨cb, 0, none⟩), .int .i64 2] Z fun e w' => ∃ r : Nat, e = .returned (.int .i64 r) ∧ Hid (CurIs w' cb ao n c (0 + 400 + 2 + 2 + 2 + 2)) ∧ Kept v5 w' (fun b => b = cb)) := fun Z hZ => (pick_any cb ao n c _ 2 Z (by omega) (by omega) (by omega) (hc5.below hZ)).mono fun e w' ⟨⟨r, h1, _⟩, h2, h3⟩ => ⟨r, h1, h2, (Kept.of_below hZ).trans h3⟩
      go_upto_region 7 with fail
      go_region_law (first
        | (go_simp; go_at_call 34; (with_reducible refine Calls.mono (HCALL.out _ ?_) ?_); (focus (repeat (first | exact Below.refl _ _ | refine Below.drew ?_))); rintro e v6 ⟨r6, rfl, hc6, hk6⟩; have x2 := HNUM.out v6 hk6; dsimp only))
      all_goals
        replace HR : Hid (CkRead v6 cb (.slice (some ⟨g, off, none⟩) N cv)) := HR.out.kept hk6
        replace hk := hk.trans (HKC.out _ _ hk6)
        clear hk6 hc5 x1 x2 HCALL HNUM
        obtain ⟨z6, hz7⟩ : ∃ z6 : Int, wrap64 ((S k).num + (r6 : Int)) = z6 := ⟨_, rfl⟩
        have hc := hc6.out
        clear hc6
        go_wp2_with fail
        refine (one_any cb ao n c _ 16 _ (by omega) (by omega) (by omega) hc).mono ?_
        rintro e u1 ⟨⟨b1, rfl⟩, hc1, hk1⟩
        replace HR : Hid (CkRead u1 cb (.slice (some ⟨g, off, none⟩) N cv)) := HR.out.kept hk1
        replace hk := hk.trans (HKC.out _ _ hk1)
        clear hk1 hc
        cases b1 with
        | true =>
          have hbI : Below u1.heap.size u1 (u1.alloc (.cells #[.int .i64 0, .int .i64 1000000, .int .i64 1000001, .int .i64 (-1)] 3)) := push (Below.refl _ _) _
          have bI : (u1.alloc (.cells #[.int .i64 0, .int .i64 1000000, .int .i64 1000001, .int .i64 (-1)] 3)).heap[u1.heap.size]? = some (.cells #[.int .i64 0, .int .i64 1000000, .int .i64 1000001, .int .i64 (-1)] 3 (0, 0)) := heap_alloc_new _ _
          have hc2 := hc1.below hbI
          have hcl := hc1.lt
          go_wp2_with fail
          refine (amongL cb ao n c _ 4 [0, 1000000, 1000001, (-1)] _ rfl (by omega) (by omega) (by omega) hc2 u1.heap.size bI (by omega)).mono ?_
          rintro e u2 ⟨⟨x, rfl⟩, hc3, hk3⟩
          replace HR : Hid (CkRead u2 cb (.slice (some ⟨g, off, none⟩) N cv)) := (HR.out.below hbI).kept hk3
          replace hk := (hk.trans (Kept.of_below hbI)).trans (HKC.out _ _ hk3)
          clear hk3 hbI bI hc2 hcl hc1
          go_wp2_with fail
          refine (one_any cb ao n c _ 16 _ (by omega) (by omega) (by omega) hc3).mono ?_
          rintro e y1 ⟨⟨b2, rfl⟩, hd1, hl1⟩
          replace HR : Hid (CkRead y1 cb (.slice (some ⟨g, off, none⟩) N cv)) := HR.out.kept hl1
          replace hk := hk.trans (HKC.out _ _ hl1)
          clear hl1 hc3
          cases b2 with
          | true =>
            have hbS : Below y1.heap.size y1 (y1.alloc (.cells #[.string ⟨#[]⟩, .string ⟨#[65, 49]⟩, .string ⟨#[78, 101, 119]⟩] 9)) := push (Below.refl _ _) _
            have bS : (y1.alloc (.cells #[.string ⟨#[]⟩, .string ⟨#[65, 49]⟩, .string ⟨#[78, 101, 119]⟩] 9)).heap[y1.heap.size]? = some (.cells #[.string ⟨#[]⟩, .string ⟨#[65, 49]⟩, .string ⟨#[78, 101, 119]⟩] 9 (0, 0)) := heap_alloc_new _ _
            have hd2 := hd1.below hbS
            have hdl := hd1.lt
            go_wp2_with fail
            refine (ofL cb ao n c _ 3 [⟨#[]⟩, ⟨#[65, 49]⟩, ⟨#[78, 101, 119]⟩] _ rfl (by omega) (by omega) (by omega) hd2 y1.heap.size bS (by omega)).mono ?_
            rintro e y2 ⟨⟨s2, rfl, hs2⟩, hd3, hl3⟩
            have hsz2 : s2.size ≤ 3 := by
              have h1 := hs2.out
              simp only [List.mem_cons, List.not_mem_nil, or_false] at h1
              rcases h1 with rfl | rfl | rfl <;> decide
            replace HR : Hid (CkRead y2 cb (.slice (some ⟨g, off, none⟩) N cv)) := (HR.out.below hbS).kept hl3
            replace hk := (hk.trans (Kept.of_below hbS)).trans (HKC.out _ _ hl3)
            clear hl3 hbS bS hd2 hdl hd1 hs2
            go_wp2
            exact bodyPost_ret (v := .tuple #[.slice (some ⟨g, off, none⟩) N cv, .string s2, .int .i64 x]) (by simp [results, Try.results8, go_sem]) rfl ⟨⟨_, _, _, rfl, read_plain HR.out, hsz2⟩, far_below hk⟩
          | false =>
            go_wp2
            exact bodyPost_ret (v := .tuple #[.slice (some ⟨g, off, none⟩) N cv, .string s, .int .i64 x]) (by simp [results, Try.results8, go_sem]) rfl ⟨⟨_, _, _, rfl, read_plain HR.out, hsz⟩, far_below hk⟩
        | false =>
          go_wp2_with fail
          refine (one_any cb ao n c _ 16 _ (by omega) (by omega) (by omega) hc1).mono ?_
          rintro e y1 ⟨⟨b2, rfl⟩, hd1, hl1⟩
          replace HR : Hid (CkRead y1 cb (.slice (some ⟨g, off, none⟩) N cv)) := HR.out.kept hl1
          replace hk := hk.trans (HKC.out _ _ hl1)
          clear hl1 hc1
          cases b2 with
          | true =>
            have hbS : Below y1.heap.size y1 (y1.alloc (.cells #[.string ⟨#[]⟩, .string ⟨#[65, 49]⟩, .string ⟨#[78, 101, 119]⟩] 9)) := push (Below.refl _ _) _
            have bS : (y1.alloc (.cells #[.string ⟨#[]⟩, .string ⟨#[65, 49]⟩, .string ⟨#[78, 101, 119]⟩] 9)).heap[y1.heap.size]? = some (.cells #[.string ⟨#[]⟩, .string ⟨#[65, 49]⟩, .string ⟨#[78, 101, 119]⟩] 9 (0, 0)) := heap_alloc_new _ _
            have hd2 := hd1.below hbS
            have hdl := hd1.lt
            go_wp2_with fail
            refine (ofL cb ao n c _ 3 [⟨#[]⟩, ⟨#[65, 49]⟩, ⟨#[78, 101, 119]⟩] _ rfl (by omega) (by omega) (by omega) hd2 y1.heap.size bS (by omega)).mono ?_
            rintro e y2 ⟨⟨s2, rfl, hs2⟩, hd3, hl3⟩
            have hsz2 : s2.size ≤ 3 := by
              have h1 := hs2.out
              simp only [List.mem_cons, List.not_mem_nil, or_false] at h1
              rcases h1 with rfl | rfl | rfl <;> decide
            replace HR : Hid (CkRead y2 cb (.slice (some ⟨g, off, none⟩) N cv)) := (HR.out.below hbS).kept hl3
            replace hk := (hk.trans (Kept.of_below hbS)).trans (HKC.out _ _ hl3)
            clear hl3 hbS bS hd2 hdl hd1 hs2
            go_wp2
            exact bodyPost_ret (v := .tuple #[.slice (some ⟨g, off, none⟩) N cv, .string s2, .int .i64 z6]) (by simp [results, Try.results8, go_sem]) rfl ⟨⟨_, _, _, rfl, read_plain HR.out, hsz2⟩, far_below hk⟩
          | false =>
            go_wp2
            exact bodyPost_ret (v := .tuple #[.slice (some ⟨g, off, none⟩) N cv, .string s, .int .i64 z6]) (by simp [results, Try.results8, go_sem]) rfl ⟨⟨_, _, _, rfl, read_plain HR.out, hsz⟩, far_below hk⟩
    | false =>
      have hc := hc5
      clear hc5
      go_wp2_with fail
      refine (one_any cb ao n c _ 16 _ (by omega) (by omega) (by omega) hc).mono ?_
      rintro e u1 ⟨⟨b1, rfl⟩, hc1, hk1⟩
      replace HR : Hid (CkRead u1 cb (.slice av N cv)) := HR.out.kept hk1
      replace hk := hk.trans (HKC.out _ _ hk1)
      clear hk1 hc
      cases b1 with
      | true =>
        have hbI : Below u1.heap.size u1 (u1.alloc (.cells #[.int .i64 0, .int .i64 1000000, .int .i64 1000001, .int .i64 (-1)] 3)) := push (Below.refl _ _) _
        have bI : (u1.alloc (.cells #[.int .i64 0, .int .i64 1000000, .int .i64 1000001, .int .i64 (-1)] 3)).heap[u1.heap.size]? = some (.cells #[.int .i64 0, .int .i64 1000000, .int .i64 1000001, .int .i64 (-1)] 3 (0, 0)) := heap_alloc_new _ _
        have hc2 := hc1.below hbI
        have hcl := hc1.lt
        go_wp2_with fail
        refine (amongL cb ao n c _ 4 [0, 1000000, 1000001, (-1)] _ rfl (by omega) (by omega) (by omega) hc2 u1.heap.size bI (by omega)).mono ?_
        rintro e u2 ⟨⟨x, rfl⟩, hc3, hk3⟩
        replace HR : Hid (CkRead u2 cb (.slice av N cv)) := (HR.out.below hbI).kept hk3
        replace hk := (hk.trans (Kept.of_below hbI)).trans (HKC.out _ _ hk3)
        clear hk3 hbI bI hc2 hcl hc1
        go_wp2_with fail
        refine (one_any cb ao n c _ 16 _ (by omega) (by omega) (by omega) hc3).mono ?_
        rintro e y1 ⟨⟨b2, rfl⟩, hd1, hl1⟩
        replace HR : Hid (CkRead y1 cb (.slice av N cv)) := HR.out.kept hl1
        replace hk := hk.trans (HKC.out _ _ hl1)
        clear hl1 hc3
        cases b2 with
        | true =>
          have hbS : Below y1.heap.size y1 (y1.alloc (.cells #[.string ⟨#[]⟩, .string ⟨#[65, 49]⟩, .string ⟨#[78, 101, 119]⟩] 9)) := push (Below.refl _ _) _
          have bS : (y1.alloc (.cells #[.string ⟨#[]⟩, .string ⟨#[65, 49]⟩, .string ⟨#[78, 101, 119]⟩] 9)).heap[y1.heap.size]? = some (.cells #[.string ⟨#[]⟩, .string ⟨#[65, 49]⟩, .string ⟨#[78, 101, 119]⟩] 9 (0, 0)) := heap_alloc_new _ _
          have hd2 := hd1.below hbS
          have hdl := hd1.lt
          go_wp2_with fail
          refine (ofL cb ao n c _ 3 [⟨#[]⟩, ⟨#[65, 49]⟩, ⟨#[78, 101, 119]⟩] _ rfl (by omega) (by omega) (by omega) hd2 y1.heap.size bS (by omega)).mono ?_
          rintro e y2 ⟨⟨s2, rfl, hs2⟩, hd3, hl3⟩
          have hsz2 : s2.size ≤ 3 := by
            have h1 := hs2.out
            simp only [List.mem_cons, List.not_mem_nil, or_false] at h1
            rcases h1 with rfl | rfl | rfl <;> decide
          replace HR : Hid (CkRead y2 cb (.slice av N cv)) := (HR.out.below hbS).kept hl3
          replace hk := (hk.trans (Kept.of_below hbS)).trans (HKC.out _ _ hl3)
          clear hl3 hbS bS hd2 hdl hd1 hs2
          go_wp2
          exact bodyPost_ret (v := .tuple #[.slice av N cv, .string s2, .int .i64 x]) (by simp [results, Try.results8, go_sem]) rfl ⟨⟨_, _, _, rfl, read_plain HR.out, hsz2⟩, far_below hk⟩
        | false =>
          go_wp2
          exact bodyPost_ret (v := .tuple #[.slice av N cv, .string s, .int .i64 x]) (by simp [results, Try.results8, go_sem]) rfl ⟨⟨_, _, _, rfl, read_plain HR.out, hsz⟩, far_below hk⟩
      | false =>
        go_wp2_with fail
        refine (one_any cb ao n c _ 16 _ (by omega) (by omega) (by omega) hc1).mono ?_
        rintro e y1 ⟨⟨b2, rfl⟩, hd1, hl1⟩
        replace HR : Hid (CkRead y1 cb (.slice av N cv)) := HR.out.kept hl1
        replace hk := hk.trans (HKC.out _ _ hl1)
        clear hl1 hc1
        cases b2 with
        | true =>
          have hbS : Below y1.heap.size y1 (y1.alloc (.cells #[.string ⟨#[]⟩, .string ⟨#[65, 49]⟩, .string ⟨#[78, 101, 119]⟩] 9)) := push (Below.refl _ _) _
          have bS : (y1.alloc (.cells #[.string ⟨#[]⟩, .string ⟨#[65, 49]⟩, .string ⟨#[78, 101, 119]⟩] 9)).heap[y1.heap.size]? = some (.cells #[.string ⟨#[]⟩, .string ⟨#[65, 49]⟩, .string ⟨#[78, 101, 119]⟩] 9 (0, 0)) := heap_alloc_new _ _
          have hd2 := hd1.below hbS
          have hdl := hd1.lt
          go_wp2_with fail
          refine (ofL cb ao n c _ 3 [⟨#[]⟩, ⟨#[65, 49]⟩, ⟨#[78, 101, 119]⟩] _ rfl (by omega) (by omega) (by omega) hd2 y1.heap.size bS (by omega)).mono ?_
          rintro e y2 ⟨⟨s2, rfl, hs2⟩, hd3, hl3⟩
          have hsz2 : s2.size ≤ 3 := by
            have h1 := hs2.out
            simp only [List.mem_cons, List.not_mem_nil, or_false] at h1
            rcases h1 with rfl | rfl | rfl <;> decide
          replace HR : Hid (CkRead y2 cb (.slice av N cv)) := (HR.out.below hbS).kept hl3
          replace hk := (hk.trans (Kept.of_below hbS)).trans (HKC.out _ _ hl3)
          clear hl3 hbS bS hd2 hdl hd1 hs2
          go_wp2
          exact bodyPost_ret (v := .tuple #[.slice av N cv, .string s2, .int .i64 (1 + (r : Int))]) (by simp [results, Try.results8, go_sem]) rfl ⟨⟨_, _, _, rfl, read_plain HR.out, hsz2⟩, far_below hk⟩
        | false =>
          go_wp2
          exact bodyPost_ret (v := .tuple #[.slice av N cv, .string s, .int .i64 (1 + (r : Int))]) (by simp [results, Try.results8, go_sem]) rfl ⟨⟨_, _, _, rfl, read_plain HR.out, hsz⟩, far_below hk⟩
  · have dp : decide ((0 : Int) ≤ (-1 : Int)) = false := by decide
    have hc := hc4
    clear hc4
    go_wp2_with fail
    refine (one_any cb ao n c _ 16 _ (by omega) (by omega) (by omega) hc).mono ?_
    rintro e u1 ⟨⟨b1, rfl⟩, hc1, hk1⟩
    replace HR : Hid (CkRead u1 cb (.slice av N cv)) := HR.out.kept hk1
    replace hk := hk.trans (HKC.out _ _ hk1)
    clear hk1 hc
    cases b1 with
    | true =>
      have hbI : Below u1.heap.size u1 (u1.alloc (.cells #[.int .i64 0, .int .i64 1000000, .int .i64 1000001, .int .i64 (-1)] 3)) := push (Below.refl _ _) _
      have bI : (u1.alloc (.cells #[.int .i64 0, .int .i64 1000000, .int .i64 1000001, .int .i64 (-1)] 3)).heap[u1.heap.size]? = some (.cells #[.int .i64 0, .int .i64 1000000, .int .i64 1000001, .int .i64 (-1)] 3 (0, 0)) := heap_alloc_new _ _
      have hc2 := hc1.below hbI
      have hcl := hc1.lt
      go_wp2_with fail
      refine (amongL cb ao n c _ 4 [0, 1000000, 1000001, (-1)] _ rfl (by omega) (by omega) (by omega) hc2 u1.heap.size bI (by omega)).mono ?_
      rintro e u2 ⟨⟨x, rfl⟩, hc3, hk3⟩
      replace HR : Hid (CkRead u2 cb (.slice av N cv)) := (HR.out.below hbI).kept hk3
      replace hk := (hk.trans (Kept.of_below hbI)).trans (HKC.out _ _ hk3)
      clear hk3 hbI bI hc2 hcl hc1
      go_wp2_with fail
      refine (one_any cb ao n c _ 16 _ (by omega) (by omega) (by omega) hc3).mono ?_
      rintro e y1 ⟨⟨b2, rfl⟩, hd1, hl1⟩
      replace HR : Hid (CkRead y1 cb (.slice av N cv)) := HR.out.kept hl1
      replace hk := hk.trans (HKC.out _ _ hl1)
      clear hl1 hc3
      cases b2 with
      | true =>
        have hbS : Below y1.heap.size y1 (y1.alloc (.cells #[.string ⟨#[]⟩, .string ⟨#[65, 49]⟩, .string ⟨#[78, 101, 119]⟩] 9)) := push (Below.refl _ _) _
        have bS : (y1.alloc (.cells #[.string ⟨#[]⟩, .string ⟨#[65, 49]⟩, .string ⟨#[78, 101, 119]⟩] 9)).heap[y1.heap.size]? = some (.cells #[.string ⟨#[]⟩, .string ⟨#[65, 49]⟩, .string ⟨#[78, 101, 119]⟩] 9 (0, 0)) := heap_alloc_new _ _
        have hd2 := hd1.below hbS
        have hdl := hd1.lt
        go_wp2_with fail
        refine (ofL cb ao n c _ 3 [⟨#[]⟩, ⟨#[65, 49]⟩, ⟨#[78, 101, 119]⟩] _ rfl (by omega) (by omega) (by omega) hd2 y1.heap.size bS (by omega)).mono ?_
        rintro e y2 ⟨⟨s2, rfl, hs2⟩, hd3, hl3⟩
        have hsz2 : s2.size ≤ 3 := by
          have h1 := hs2.out
          simp only [List.mem_cons, List.not_mem_nil, or_false] at h1
          rcases h1 with rfl | rfl | rfl <;> decide
        replace HR : Hid (CkRead y2 cb (.slice av N cv)) := (HR.out.below hbS).kept hl3
        replace hk := (hk.trans (Kept.of_below hbS)).trans (HKC.out _ _ hl3)
        clear hl3 hbS bS hd2 hdl hd1 hs2
        go_wp2
        exact bodyPost_ret (v := .tuple #[.slice av N cv, .string s2, .int .i64 x]) (by simp [results, Try.results8, go_sem]) rfl ⟨⟨_, _, _, rfl, read_plain HR.out, hsz2⟩, far_below hk⟩
      | false =>
        go_wp2
        exact bodyPost_ret (v := .tuple #[.slice av N cv, .string s, .int .i64 x]) (by simp [results, Try.results8, go_sem]) rfl ⟨⟨_, _, _, rfl, read_plain HR.out, hsz⟩, far_below hk⟩
    | false =>
      go_wp2_with fail
      refine (one_any cb ao n c _ 16 _ (by omega) (by omega) (by omega) hc1).mono ?_
      rintro e y1 ⟨⟨b2, rfl⟩, hd1, hl1⟩
      replace HR : Hid (CkRead y1 cb (.slice av N cv)) := HR.out.kept hl1
      replace hk := hk.trans (HKC.out _ _ hl1)
      clear hl1 hc1
      cases b2 with
      | true =>
        have hbS : Below y1.heap.size y1 (y1.alloc (.cells #[.string ⟨#[]⟩, .string ⟨#[65, 49]⟩, .string ⟨#[78, 101, 119]⟩] 9)) := push (Below.refl _ _) _
        have bS : (y1.alloc (.cells #[.string ⟨#[]⟩, .string ⟨#[65, 49]⟩, .string ⟨#[78, 101, 119]⟩] 9)).heap[y1.heap.size]? = some (.cells #[.string ⟨#[]⟩, .string ⟨#[65, 49]⟩, .string ⟨#[78, 101, 119]⟩] 9 (0, 0)) := heap_alloc_new _ _
        have hd2 := hd1.below hbS
        have hdl := hd1.lt
        go_wp2_with fail
        refine (ofL cb ao n c _ 3 [⟨#[]⟩, ⟨#[65, 49]⟩, ⟨#[78, 101, 119]⟩] _ rfl (by omega) (by omega) (by omega) hd2 y1.heap.size bS (by omega)).mono ?_
        rintro e y2 ⟨⟨s2, rfl, hs2⟩, hd3, hl3⟩
        have hsz2 : s2.size ≤ 3 := by
          have h1 := hs2.out
          simp only [List.mem_cons, List.not_mem_nil, or_false] at h1
          rcases h1 with rfl | rfl | rfl <;> decide
        replace HR : Hid (CkRead y2 cb (.slice av N cv)) := (HR.out.below hbS).kept hl3
        replace hk := (hk.trans (Kept.of_below hbS)).trans (HKC.out _ _ hl3)
        clear hl3 hbS bS hd2 hdl hd1 hs2
        go_wp2
        exact bodyPost_ret (v := .tuple #[.slice av N cv, .string s2, .int .i64 (1 + (r : Int))]) (by simp [results, Try.results8, go_sem]) rfl ⟨⟨_, _, _, rfl, read_plain HR.out, hsz2⟩, far_below hk⟩
      | false =>
        go_wp2
        exact bodyPost_ret (v := .tuple #[.slice av N cv, .string s, .int .i64 (1 + (r : Int))]) (by simp [results, Try.results8, go_sem]) rfl ⟨⟨_, _, _, rfl, read_plain HR.out, hsz⟩, far_below hk⟩

set_option maxHeartbeats 3200000 in
set_option maxRecDepth 100000 in
theorem drawSettle_any (ao : Option Addr) (n c : Nat) (w : World) (h : BytesAt w ao n) :
    Calls Try.prog 11 #[.slice ao n c] w fun e w' => (∃ v s, ∃ (x : AnsD) (rv : Value), ∃ ra rc, e = .returned (.tuple #[v, .string s, .agg #[.int .i64 x.code, .int .i64 x.anam, .int .i64 x.price, rv]]) ∧ rv = .slice ra x.rwn rc ∧ MRowsAt w' ra x.rwn x.rw ∧ x.rwn ≤ 1 ∧ (∀ j, j < x.rwn → (x.rw j).own.size ≤ 3) ∧ (ra = none → x.rwn = 0 ∧ rc = 0)) ∧ Below w.heap.size w w' := by
  have hbZ : Below w.heap.size w (w.alloc (.cells #[.int .i64 0, .int .i64 0, .int .i64 0, .slice none 0 0] 28)) := push (Below.refl _ _) _
  have bZ : (w.alloc (.cells #[.int .i64 0, .int .i64 0, .int .i64 0, .slice none 0 0] 28)).heap[w.heap.size]? = some (.cells #[.int .i64 0, .int .i64 0, .int .i64 0, .slice none 0 0] 28 (0, 0)) := heap_alloc_new _ _
  have hsZ : (w.alloc (.cells #[.int .i64 0, .int .i64 0, .int .i64 0, .slice none 0 0] 28)).heap.size = w.heap.size + 1 := by simp
  have hc0 := cur_new (c := c) (h.below hbZ)
  have hb0 : Below w.heap.size w ((w.alloc (.cells #[.int .i64 0, .int .i64 0, .int .i64 0, .slice none 0 0] 28)).alloc (.cells #[.slice ao n c, .int .i64 0, .int .u64 0] 61)) := push hbZ _
  have bZ0 := blk_alloc bZ (.cells #[.slice ao n c, .int .i64 0, .int .u64 0] 61)
  have hk0 : Kept w ((w.alloc (.cells #[.int .i64 0, .int .i64 0, .int .i64 0, .slice none 0 0] 28)).alloc (.cells #[.slice ao n c, .int .i64 0, .int .u64 0] 61)) (fun b => w.heap.size ≤ b) := Kept.of_below hb0
  rw [hsZ] at hc0
  go_enter Try.func11, Try.ntmps11
  go_upto_region 2 with fail
  generalize (w.alloc (.cells #[.int .i64 0, .int .i64 0, .int .i64 0, .slice none 0 0] 28)).alloc (.cells #[.slice ao n c, .int .i64 0, .int .u64 0] 61) = v0 at hc0 hk0 bZ0 ⊢
  obtain ⟨cb, hcb⟩ : ∃ u, u = w.heap.size + 1 := ⟨_, rfl⟩
  rw [← hcb] at hc0 ⊢
  obtain ⟨zB, hzB⟩ : ∃ u, u = w.heap.size := ⟨_, rfl⟩
  rw [← hzB] at bZ0 ⊢
  have HCB : Hid (w.heap.size ≤ cb ∧ zB ≠ cb ∧ w.heap.size ≤ zB) := ⟨by omega, by omega, by omega⟩
  clear hcb hzB h hb0 bZ hsZ hbZ
  have HKC : Hid (∀ u u', Kept u u' (fun b => b = cb) → Kept u u' (fun b => w.heap.size ≤ b)) := fun u u' hk => hk.mono (fun b e => by have e : b = cb := e; have := HCB.out; omega)
  go_wp2_with fail
  refine (clerks_any cb ao n c 0 _ (by omega) hc0).mono ?_
  rintro e v1 ⟨⟨v, rfl, hR⟩, hc1, hk1⟩
  obtain ⟨av, N, cv, rfl⟩ := hR.form
  have bZ1 := hk1.blk bZ0 HCB.out.2.1
  have hk := hk0.trans (HKC.out _ _ hk1)
  clear hR hk1 hk0 hc0 bZ0
  go_wp2_with fail
  refine (clerkName_any cb ao n c _ _ (by omega) hc1).mono ?_
  rintro e v2 ⟨⟨s, rfl, hsz⟩, hc2, hk2⟩
  have bZ2 := hk2.blk bZ1 HCB.out.2.1
  replace hk := hk.trans (HKC.out _ _ hk2)
  clear hk2 hc1 bZ1
  go_wp2_with fail
  refine (answer_any cb ao n c _ _ (by omega) hc2).mono ?_
  rintro e v3 ⟨⟨x, _, ra, rc, rfl, rfl, hrw, hr1, hr2, hr3, hr4⟩, hc3, hk3⟩
  have HR4 : Hid (∀ b off, ra = some ⟨b, off, none⟩ → b ≠ zB) := fun b off e1 => by have := hr4 b off e1; have := blk_lt bZ2; omega
  clear hr4
  have bZ3 := hk3.blk bZ2 HCB.out.2.1
  replace hk := hk.trans (HKC.out _ _ hk3)
  have HRW : Hid (MRowsAt v3 ra x.rwn x.rw ∧ (∀ j, j < x.rwn → (x.rw j).own.size ≤ 3) ∧ (ra = none → x.rwn = 0 ∧ rc = 0)) := ⟨hrw, hr2, hr3⟩
  clear hk3 hc2 bZ2 hrw hr2 hr3 hc3
  have y0 := blk_cell bZ3 0 _ rfl
  have y1 := blk_cell bZ3 1 _ rfl
  have y2 := blk_cell bZ3 2 _ rfl
  have y3 := blk_cell bZ3 3 _ rfl
  have f0 := blk_free bZ3 0
  have f1 := blk_free bZ3 1
  have f2 := blk_free bZ3 2
  have f3 := blk_free bZ3 3
  go_wp2
  have rF := ans_set bZ3 (.int .i64 x.code) (.int .i64 x.anam) (.int .i64 x.price) (.slice ra x.rwn rc)
  have hkF : Kept v3 ((((v3.setCell ⟨zB, 0, none⟩ (.int .i64 x.code)).setCell ⟨zB, 1, none⟩ (.int .i64 x.anam)).setCell ⟨zB, 2, none⟩ (.int .i64 x.price)).setCell ⟨zB, 3, none⟩ (.slice ra x.rwn rc)) (fun b => b = zB) := ((((Kept.refl v3 (fun b => b = zB)).set (a := ⟨zB, 0, none⟩) rfl _).set (a := ⟨zB, 1, none⟩) rfl _).set (a := ⟨zB, 2, none⟩) rfl _).set (a := ⟨zB, 3, none⟩) rfl _
  have HRF : Hid (MRowsAt ((((v3.setCell ⟨zB, 0, none⟩ (.int .i64 x.code)).setCell ⟨zB, 1, none⟩ (.int .i64 x.anam)).setCell ⟨zB, 2, none⟩ (.int .i64 x.price)).setCell ⟨zB, 3, none⟩ (.slice ra x.rwn rc)) ra x.rwn x.rw) := rows_kept HRW.out.1 hkF (fun b off e1 e2 => HR4.out b off e1 e2)
  replace hk := hk.trans (hkF.mono (fun b e => by have e : b = zB := e; have := HCB.out; omega))
  generalize (((v3.setCell ⟨zB, 0, none⟩ (.int .i64 x.code)).setCell ⟨zB, 1, none⟩ (.int .i64 x.anam)).setCell ⟨zB, 2, none⟩ (.int .i64 x.price)).setCell ⟨zB, 3, none⟩ (.slice ra x.rwn rc) = F at rF HRF hk ⊢
  have z0 := blk_cell rF 0 _ rfl
  have z1 := blk_cell rF 1 _ rfl
  have z2 := blk_cell rF 2 _ rfl
  have z3 := blk_cell rF 3 _ rfl
  exact bodyPost_ret (v := .tuple #[.slice av N cv, .string s, .agg #[.int .i64 x.code, .int .i64 x.anam, .int .i64 x.price, .slice ra x.rwn rc]]) (by simp [results, Try.results11, go_sem, z0, z1, z2, z3]) rfl ⟨⟨_, _, x, _, ra, rc, rfl, rfl, HRF.out, hr1, HRW.out.2.1, HRW.out.2.2⟩, far_below hk⟩

end Go.Proofs.Ytogbaoggebghdaa

namespace Go.Proofs.Ytogbaoggebghdaa
open Go.RowKit Classical Go.MapKept Go.ChangeMaps

/-- The code of a request. -/
def CkCode (S : Nat → ClkD) (k : Nat) (num : Int) (z : Int) : Prop :=
  (num < (S k).num ∧ z = 3) ∨ ((S k).num + 1 < num ∧ z = 4) ∨ ((S k).num ≤ num ∧ num ≤ (S k).num + 1 ∧ (S k).opn = true ∧ z = 5) ∨ (num = (S k).num ∧ (S k).opn = false ∧ z = 1) ∨ (num = (S k).num + 1 ∧ (S k).opn = false ∧ z = 0)
def CodeIs (N : Nat) (S : Nat → ClkD) (nm : ByteArray) (num z : Int) : Prop :=
  ∃ p, AtC N S nm p ∧ ((AskBad N nm num p ∧ z = 2) ∨ (¬ AskBad N nm num p ∧ p < 0 ∧ z = 0) ∨ (¬ AskBad N nm num p ∧ ∃ k : Nat, k < N ∧ p = k ∧ CkCode S k num z))
theorem ClerksOk.ex {N : Nat} {S : Nat → ClkD} (h : ClerksOk N S) (nm : ByteArray) : ∃ p, AtC N S nm p := by
  by_cases hex : ∃ k, k < N ∧ (S k).nam = nm
  · obtain ⟨k, hk, rfl⟩ := hex
    exact ⟨k, h.atC hk⟩
  · exact ⟨-1, Or.inr ⟨rfl, fun j hj e => hex ⟨j, hj, e⟩⟩⟩

set_option maxHeartbeats 800000 in
theorem codeOfNew_any (w : World) (base sb mb K : Nat) (a1 : Option Addr) (d1 N : Nat) (S : Nat → ClkD) (R : Nat → Value) (O : ByteArray → Prop) (num : Int) (h : Staff w base sb mb K (.slice a1 N d1) N S R O) :
    Calls Try.prog 70 #[.pointer (some ⟨sb, 0, none⟩), .int .i64 num] w fun e w' => (∃ z, e = .returned (.int .i64 z) ∧ Hid (((20 ≤ N ∨ num ≠ 1) ∧ z = 2) ∨ (N < 20 ∧ num = 1 ∧ z = 0))) ∧ w' = w := by
  have c2 := blk_cell h.blk 2 _ rfl
  clear h
  by_cases hN : 20 ≤ N
  · have d0 : decide ((20 : Int) ≤ (N : Int)) = true := by simp; omega
    go_enter Try.func70, Try.ntmps70
    go_wp2_with fail
    refine (atomLoad_any sb N w c2).mono ?_
    rintro e w1 ⟨rfl, rfl⟩
    go_wp2
    go_ret
    exact ⟨⟨2, rfl, Or.inl ⟨Or.inl hN, rfl⟩⟩, rfl⟩
  · have d0 : decide ((20 : Int) ≤ (N : Int)) = false := by simp; omega
    by_cases h1 : num = 1
    · have d1 : (num != 1) = false := by simpa using h1
      have H1 : Hid (num = 1) := h1
      clear h1
      go_enter Try.func70, Try.ntmps70
      go_wp2_with fail
      refine (atomLoad_any sb N w c2).mono ?_
      rintro e w1 ⟨rfl, rfl⟩
      go_wp2
      go_ret
      exact ⟨⟨0, rfl, Or.inr ⟨by omega, H1.out, rfl⟩⟩, rfl⟩
    · have d1 : (num != 1) = true := by simpa using h1
      go_enter Try.func70, Try.ntmps70
      go_wp2_with fail
      refine (atomLoad_any sb N w c2).mono ?_
      rintro e w1 ⟨rfl, rfl⟩
      go_wp2
      go_ret
      exact ⟨⟨2, rfl, Or.inl ⟨Or.inr h1, rfl⟩⟩, rfl⟩

set_option maxHeartbeats 3200000 in
set_option maxRecDepth 100000 in
theorem codeOf_any (w : World) (base sb mb K : Nat) (a1 : Option Addr) (d1 N : Nat) (S : Nat → ClkD) (R : Nat → Value) (nm : ByteArray) (num : Int) (h : Staff w base sb mb K (.slice a1 N d1) N S R (openIn S N)) (hok : ClerksOk N S) (hnm : nm.size ≤ 1048576) :
    Calls Try.prog 40 #[.pointer (some ⟨sb, 0, none⟩), .string nm, .int .i64 num] w fun e w' => (∃ z, e = .returned (.int .i64 z) ∧ Hid (CodeIs N S nm num z)) ∧ Below w.heap.size w w' := by
  have HH : Hid (Staff w base sb mb K (.slice a1 N d1) N S R (openIn S N)) := h
  have HOK : Hid (ClerksOk N S) := hok
  have h20 : N ≤ 20 := hok.1
  clear h hok
  by_cases hn : IsName nm
  case neg =>
    have HB : Hid (CodeIs N S nm num 2) := by obtain ⟨p, hp⟩ := HOK.out.ex nm; exact ⟨p, hp, Or.inl ⟨Or.inl hn, rfl⟩⟩
    go_enter Try.func40, Try.ntmps40
    go_wp2_with fail
    refine (isName_is nm _ (by omega)).mono ?_
    rintro e w1 ⟨he, rfl⟩
    rw [decide_eq_false hn] at he
    subst he
    go_wp2
    go_ret
    exact ⟨⟨2, rfl, HB⟩, Below.refl _ _⟩
  by_cases hi : In num 1 1000000
  case neg =>
    have HB : Hid (CodeIs N S nm num 2) := by obtain ⟨p, hp⟩ := HOK.out.ex nm; exact ⟨p, hp, Or.inl ⟨Or.inr (Or.inl hi), rfl⟩⟩
    go_enter Try.func40, Try.ntmps40
    go_wp2_with fail
    refine (isName_is nm _ (by omega)).mono ?_
    rintro e w1 ⟨he, rfl⟩
    rw [decide_eq_true hn] at he
    subst he
    go_wp2_with fail
    refine (isRequest_is num _).mono ?_
    rintro e w1 ⟨he, rfl⟩
    rw [decide_eq_false hi] at he
    subst he
    go_wp2
    go_ret
    exact ⟨⟨2, rfl, HB⟩, Below.refl _ _⟩
  go_enter Try.func40, Try.ntmps40
  go_wp2_with fail
  refine (isName_is nm _ (by omega)).mono ?_
  rintro e w1 ⟨he, hw'⟩
  have hw' := hw'.symm
  subst hw'
  rw [decide_eq_true hn] at he
  subst he
  go_wp2_with fail
  refine (isRequest_is num _).mono ?_
  rintro e w1 ⟨he, hw'⟩
  have hw' := hw'.symm
  subst hw'
  rw [decide_eq_true hi] at he
  subst he
  have HN : Hid (IsName nm ∧ In num 1 1000000) := ⟨hn, hi⟩
  clear hn hi
  go_wp2_with fail
  refine (find_any w base sb mb K _ N S R (openIn S N) nm HH.out (by omega) HOK.out.up).mono ?_
  rintro e w2 ⟨⟨p, rfl, hp⟩, hb2⟩
  have HT : Hid (Staff w2 base sb mb K (.slice a1 N d1) N S R (openIn S N)) := HH.out.below hb2
  by_cases hf : p < N ∧ (S p).nam = nm
  case neg =>
    have HNO : Hid (∀ j, j < N → (S j).nam ≠ nm) := fun j hj e => hf (by
      have := hp.out.at HOK.out.up hj e
      subst this
      exact ⟨hj, e⟩)
    rw [decide_eq_false hf]
    clear hf hp
    go_wp2_with fail
    refine (codeOfNew_any w2 base sb mb K a1 d1 N S R _ num HT.out).mono ?_
    rintro e w3 ⟨⟨z, rfl, hz⟩, rfl⟩
    go_wp2
    go_ret
    refine ⟨⟨z, rfl, -1, Or.inr ⟨rfl, HNO.out⟩, ?_⟩, hb2⟩
    rcases hz.out with ⟨h1, rfl⟩ | ⟨h1, h2, rfl⟩
    · exact Or.inl ⟨Or.inr (Or.inr ⟨by decide, h1.imp (fun h => by omega) id⟩), rfl⟩
    · refine Or.inr (Or.inl ⟨?_, by decide, rfl⟩)
      rintro (h | h | ⟨_, h | h⟩)
      · exact h HN.out.1
      · exact h HN.out.2
      · omega
      · exact h h2
  rw [decide_eq_true hf]
  have hpN := hf.1
  have HP : Hid (AtC N S nm p ∧ ¬ AskBad N nm num p) := ⟨hf.2 ▸ HOK.out.atC hpN, by
    rintro (h | h | ⟨h, _⟩)
    · exact h HN.out.1
    · exact h HN.out.2
    · omega⟩
  have HNM : Hid ((S p).nam = nm) := hf.2
  have hnum := (HOK.out.2 p hpN).2.2.1
  have hlo : 1 ≤ (S p).num := hnum.1
  have hhi : (S p).num ≤ 1000000 := hnum.2
  have HR : Hid (∀ z, CkCode S p num z → CodeIs N S nm num z) := fun z hz => ⟨p, HP.out.1, Or.inr (Or.inr ⟨HP.out.2, p, hpN, rfl, hz⟩)⟩
  obtain ⟨g, rfl, hg1, hg2⟩ := own_addr HT.out.own.row (by omega)
  have s0 := blk_cell HT.out.blk 0 _ rfl
  have c1 : w2.cell? ⟨g, p * 7 + 1, none⟩ = some (.int .i64 (S p).num) := by rw [own_cell HT.out.own.row (p * 7 + 1) (by omega) rfl, clkCell_1]
  have i0 : (0 : Int) ≤ (p : Int) := by omega
  have i2 : (p : Int) < (N : Int) := by omega
  clear hf hp hnum HP
  generalize hl : (S p).num = last at c1 hlo hhi
  have HL : Hid ((S p).num = last) := hl
  clear hl
  have hw1 : IntKind.i64.wrap (last + 1) = last + 1 := by rw [IntKind.wrap_i64]; omega
  by_cases h1 : num < last
  · have e1 : decide (num < last) = true := by simpa using h1
    go_wp2
    go_ret
    exact ⟨⟨3, rfl, HR.out 3 (Or.inl ⟨by rw [HL.out]; exact h1, rfl⟩)⟩, hb2⟩
  have e1 : decide (num < last) = false := by simpa using h1
  by_cases h2 : last + 1 < num
  · have e2 : decide (last + 1 < num) = true := by simpa using h2
    go_wp2
    go_ret
    exact ⟨⟨4, rfl, HR.out 4 (Or.inr (Or.inl ⟨by rw [HL.out]; exact h2, rfl⟩))⟩, hb2⟩
  have e2 : decide (last + 1 < num) = false := by simpa using h2
  go_wp2_with fail
  refine (isOpen_any w2 base sb mb K _ N S R (openIn S N) nm HT.out hnm).mono ?_
  rintro e w3 ⟨rfl, hb3⟩
  have HO : Hid (openIn S N nm ↔ (S p).opn = true) := by rw [← HNM.out]; exact openIn_at HOK.out hpN
  by_cases ho : openIn S N nm
  · rw [decide_eq_true ho]
    have HOP := HO.out.1 ho
    have HOP : Hid _ := HOP
    clear ho
    go_wp2
    go_ret
    exact ⟨⟨5, rfl, HR.out 5 (Or.inr (Or.inr (Or.inl ⟨by rw [HL.out]; omega, by rw [HL.out]; omega, HOP.out, rfl⟩)))⟩, after hb2 hb3⟩
  rw [decide_eq_false ho]
  have HOP : Hid ((S p).opn = false) := Bool.eq_false_iff.2 (fun e => ho (HO.out.2 e))
  clear ho
  by_cases h3 : num = last
  · have e3 : (num == last) = true := by simpa using h3
    go_wp2
    go_ret
    exact ⟨⟨1, rfl, HR.out 1 (Or.inr (Or.inr (Or.inr (Or.inl ⟨by rw [HL.out]; exact h3, HOP.out, rfl⟩))))⟩, after hb2 hb3⟩
  · have e3 : (num == last) = false := by simpa using h3
    go_wp2
    go_ret
    exact ⟨⟨0, rfl, HR.out 0 (Or.inr (Or.inr (Or.inr (Or.inr ⟨by rw [HL.out]; omega, HOP.out, rfl⟩))))⟩, after hb2 hb3⟩

end Go.Proofs.Ytogbaoggebghdaa

namespace Go.Proofs.Ytogbaoggebghdaa
open Go.RowKit Classical Go.MapKept Go.ChangeMaps

def bareC (nm : ByteArray) (num : Int) : ClkD := ⟨nm, num, false, 0, 0, 0, 0, fun _ => MRow.zero⟩

set_option maxHeartbeats 3200000 in
set_option maxRecDepth 100000 in
theorem answerOf_any (w : World) (base sb mb K : Nat) (a1 : Option Addr) (d1 N : Nat) (S : Nat → ClkD) (R : Nat → Value) (O : ByteArray → Prop) (k : Nat) (nm : ByteArray) (h : Staff w base sb mb K (.slice a1 N d1) N S R O) (hN : N ≤ 60) (hu : NamesUp N S) (hkN : k < N) (hkn : (S k).nam = nm) (hrn : (S k).rwn ≤ 1048576) :
    Calls Try.prog 41 #[.pointer (some ⟨sb, 0, none⟩), .string nm] w fun e w' => (∃ a3 c3, e = .returned (.agg #[.int .i64 (S k).code, .int .i64 (S k).anam, .int .i64 (S k).price, .slice a3 (S k).rwn c3]) ∧ w'.ownsRow w.heap.size 84 5 (.slice a3 (S k).rwn c3) (S k).rwn (rowList (S k).rw (S k).rwn)) ∧ Below w.heap.size w w' := by
  have HH : Hid (Staff w base sb mb K (.slice a1 N d1) N S R O) := h
  have HU : Hid (NamesUp N S) := hu
  have HKN : Hid ((S k).nam = nm) := hkn
  have hb0 : Below w.heap.size w (w.alloc (.cells #[.int .i64 0, .int .i64 0, .int .i64 0, .slice none 0 0] 28)) := push (Below.refl _ _) _
  have bZ : (w.alloc (.cells #[.int .i64 0, .int .i64 0, .int .i64 0, .slice none 0 0] 28)).heap[w.heap.size]? = some (.cells #[.int .i64 0, .int .i64 0, .int .i64 0, .slice none 0 0] 28 (0, 0)) := heap_alloc_new _ _
  obtain ⟨g, rfl, hg1, hg2⟩ := own_addr h.own.row (by omega)
  clear h hu hkn
  go_enter Try.func41, Try.ntmps41
  go_upto_region 1 with fail
  generalize w.alloc (.cells #[.int .i64 0, .int .i64 0, .int .i64 0, .slice none 0 0] 28) = V at hb0 bZ ⊢
  obtain ⟨zB, hzB⟩ : ∃ u, u = w.heap.size := ⟨_, rfl⟩
  rw [← hzB] at bZ ⊢
  have HZB : Hid (zB = w.heap.size) := hzB
  clear hzB
  go_wp2_with fail
  refine (find_any V base sb mb K _ N S R O nm (HH.out.below hb0) hN HU.out).mono ?_
  rintro e w1 ⟨⟨p, rfl, hp⟩, hb1⟩
  obtain rfl : p = k := hp.out.at HU.out hkN HKN.out
  rw [decide_eq_true (show p < N ∧ (S p).nam = nm from ⟨hkN, HKN.out⟩)]
  clear hp
  have HB1 : Hid (Below w.heap.size w w1) := after hb0 hb1
  have bZ1 := blk_below bZ hb1
  have HS1 : Hid (Staff w1 base sb mb K (.slice (some ⟨g, 0, none⟩) N d1) N S R O) := HH.out.below HB1.out
  clear hb0 hb1 bZ
  obtain ⟨ra, rc, eR, _, _, hrnil⟩ := own_form (HS1.out.own.rows p hkN)
  have HRW : Hid (MRowsAt w1 ra (S p).rwn (S p).rw ∧ (ra = none → (S p).rwn = 0 ∧ rc = 0)) := ⟨rows_of_own (eR ▸ HS1.out.own.rows p hkN), hrnil⟩
  have s0 := blk_cell HS1.out.blk 0 _ rfl
  have t3 : w1.cell? ⟨g, p * 7 + 3, none⟩ = some (.int .i64 (S p).code) := by rw [own_cell HS1.out.own.row (p * 7 + 3) (by omega) rfl, clkCell_3]
  have t4 : w1.cell? ⟨g, p * 7 + 4, none⟩ = some (.int .i64 (S p).anam) := by rw [own_cell HS1.out.own.row (p * 7 + 4) (by omega) rfl, clkCell_4]
  have t5 : w1.cell? ⟨g, p * 7 + 5, none⟩ = some (.int .i64 (S p).price) := by rw [own_cell HS1.out.own.row (p * 7 + 5) (by omega) rfl, clkCell_5]
  have t6 : w1.cell? ⟨g, p * 7 + 6, none⟩ = some (.slice ra (S p).rwn rc) := by rw [own_cell HS1.out.own.row (p * 7 + 6) (by omega) rfl, clkCell_6, eR]
  have i0 : (0 : Int) ≤ (p : Int) := by omega
  have i2 : (p : Int) < (N : Int) := by omega
  clear eR hrnil
  go_wp2_with fail
  refine (copyAnswer_any (S p).code (S p).anam (S p).price ra (S p).rwn rc (S p).rw w1 hrn HRW.out.2 HRW.out.1).mono ?_
  rintro e w3 ⟨⟨a3, c3, rfl, ho3⟩, hb3⟩
  have bZ3 := blk_below bZ1 hb3
  have HO3 : Hid (w3.ownsRow w1.heap.size 84 5 (.slice a3 (S p).rwn c3) (S p).rwn (rowList (S p).rw (S p).rwn)) := ho3
  have HB3 : Hid (Below w.heap.size w w3) := after HB1.out hb3
  have hz1 : zB < w1.heap.size := blk_lt bZ1
  clear ho3 hb3 s0 t3 t4 t5 t6 bZ1
  have z0 := blk_cell bZ3 0 _ rfl
  have z1 := blk_cell bZ3 1 _ rfl
  have z2 := blk_cell bZ3 2 _ rfl
  have z3 := blk_cell bZ3 3 _ rfl
  have f0 := blk_free bZ3 0
  have f1 := blk_free bZ3 1
  have f2 := blk_free bZ3 2
  have f3 := blk_free bZ3 3
  go_wp2
  have rF := ans_set bZ3 (.int .i64 (S p).code) (.int .i64 (S p).anam) (.int .i64 (S p).price) (.slice a3 (S p).rwn c3)
  have hkF : Kept w3 ((((w3.setCell ⟨zB, 0, none⟩ (.int .i64 (S p).code)).setCell ⟨zB, 1, none⟩ (.int .i64 (S p).anam)).setCell ⟨zB, 2, none⟩ (.int .i64 (S p).price)).setCell ⟨zB, 3, none⟩ (.slice a3 (S p).rwn c3)) (fun b => b = zB) := ((((Kept.refl w3 (fun b => b = zB)).set (a := ⟨zB, 0, none⟩) rfl _).set (a := ⟨zB, 1, none⟩) rfl _).set (a := ⟨zB, 2, none⟩) rfl _).set (a := ⟨zB, 3, none⟩) rfl _
  have hFb : Below w.heap.size w ((((w3.setCell ⟨zB, 0, none⟩ (.int .i64 (S p).code)).setCell ⟨zB, 1, none⟩ (.int .i64 (S p).anam)).setCell ⟨zB, 2, none⟩ (.int .i64 (S p).price)).setCell ⟨zB, 3, none⟩ (.slice a3 (S p).rwn c3)) := Kept.below HB3.out HB3.out.size hkF (fun b e => by have e : b = zB := e; have := HZB.out; omega)
  have hFo := own_base (hkF.own HO3.out (fun q hq e => by have e : q = zB := e; have := (HO3.out.lt q hq).1; omega)) (show w.heap.size ≤ w1.heap.size by have := HZB.out; omega)
  generalize (((w3.setCell ⟨zB, 0, none⟩ (.int .i64 (S p).code)).setCell ⟨zB, 1, none⟩ (.int .i64 (S p).anam)).setCell ⟨zB, 2, none⟩ (.int .i64 (S p).price)).setCell ⟨zB, 3, none⟩ (.slice a3 (S p).rwn c3) = F at rF hFb hFo ⊢
  have z0 := blk_cell rF 0 _ rfl
  have z1 := blk_cell rF 1 _ rfl
  have z2 := blk_cell rF 2 _ rfl
  have z3 := blk_cell rF 3 _ rfl
  exact bodyPost_ret (v := .agg #[.int .i64 (S p).code, .int .i64 (S p).anam, .int .i64 (S p).price, .slice a3 (S p).rwn c3]) (by simp [results, Try.results41, go_sem, z0, z1, z2, z3]) rfl ⟨⟨_, _, rfl, hFo⟩, hFb⟩

/-- What take makes of the clerks. -/
def Taken (N : Nat) (S : Nat → ClkD) (nm : ByteArray) (num : Int) (N' : Nat) (S' : Nat → ClkD) : Prop :=
  (∃ k, k < N ∧ (S k).nam = nm ∧ N' = N ∧ ∀ i, i < N → S' i = putC S k (bareC nm num) i) ∨
  ((∀ j, j < N → (S j).nam ≠ nm) ∧ N' = N + 1 ∧ ∃ k, InsAt N S nm k ∧ ∀ i, i < N + 1 → S' i = insC S k (bareC nm num) i)
def TakeOut (w' : World) (base sb mb : Nat) (O : ByteArray → Prop) (N : Nat) (S : Nat → ClkD) (nm : ByteArray) (num : Int) : Prop := ∃ N' S' R' a' c' K', Staff w' base sb mb K' (.slice a' N' c') N' S' R' (fun s => O s ∨ s = nm) ∧ Taken N S nm num N' S'
theorem putC_insC (S : Nat → ClkD) (k : Nat) (x y : ClkD) (i : Nat) : putC (insC S k x) k y i = insC S k y i := by
  by_cases e : i = k
  · subst e; rw [putC_at, insC_at]
  · rw [putC_ne _ _ _ e]
    unfold insC
    rw [if_neg e, if_neg e]

set_option maxHeartbeats 6400000 in
set_option maxRecDepth 100000 in
theorem take_any (w : World) (base sb mb K : Nat) (a1 : Option Addr) (d1 N : Nat) (S : Nat → ClkD) (R : Nat → Value) (O : ByteArray → Prop) (nm : ByteArray) (num : Int) (h : Staff w base sb mb K (.slice a1 N d1) N S R O) (hN : N ≤ 50) (hK : K ≤ 900) (hu : NamesUp N S) (hnm : nm.size ≤ 1048576) :
    Calls Try.prog 42 #[.pointer (some ⟨sb, 0, none⟩), .string nm, .int .i64 num] w fun e w' => e = .returned (.tuple #[]) ∧
      TakeOut w' base sb mb O N S nm num ∧ Kept w w' (fun b => b = sb ∨ b = mb ∨ (Value.slice a1 N d1).ownBlock = some b ∨ w.heap.size ≤ b) := by
  have HH : Hid (Staff w base sb mb K (.slice a1 N d1) N S R O) := h
  have HU : Hid (NamesUp N S) := hu
  clear h hu
  go_enter Try.func42, Try.ntmps42
  go_wp2_with fail
  refine (find_any w base sb mb K _ N S R O nm HH.out (by omega) HU.out).mono ?_
  rintro e w1 ⟨⟨p, rfl, hp⟩, hb1⟩
  have HT : Hid (Staff w1 base sb mb K (.slice a1 N d1) N S R O) := HH.out.below hb1
  have HK1 : Hid (Kept w w1 (fun b => b = sb ∨ b = mb ∨ (Value.slice a1 N d1).ownBlock = some b ∨ w.heap.size ≤ b)) := Kept.of_below hb1
  have hw1 : w.heap.size ≤ w1.heap.size := hb1.size
  by_cases hf : p < N ∧ (S p).nam = nm
  · rw [decide_eq_true hf]
    have hpN := hf.1
    have HNM : Hid ((S p).nam = nm) := hf.2
    clear hf hp hb1
    obtain ⟨g, rfl, hg1, hg2⟩ := own_addr HT.out.own.row (by omega)
    have s0 := blk_cell HT.out.blk 0 _ rfl
    have s1 := blk_cell HT.out.blk 1 _ rfl
    have tf : ∀ j, w1.frozen? ⟨g, j, none⟩ = false := fun j => by obtain ⟨cur, hcur⟩ := own_blk HT.out.own.row (g := g) rfl; exact blk_free hcur _
    have t0 := own_cell HT.out.own.row (p * 7) (by omega) rfl
    have f0 := tf (p * 7)
    have t1 := own_cell HT.out.own.row (p * 7 + 1) (by omega) rfl
    have f1 := tf (p * 7 + 1)
    have t2 := own_cell HT.out.own.row (p * 7 + 2) (by omega) rfl
    have f2 := tf (p * 7 + 2)
    have t3 := own_cell HT.out.own.row (p * 7 + 3) (by omega) rfl
    have f3 := tf (p * 7 + 3)
    have t4 := own_cell HT.out.own.row (p * 7 + 4) (by omega) rfl
    have f4 := tf (p * 7 + 4)
    have t5 := own_cell HT.out.own.row (p * 7 + 5) (by omega) rfl
    have f5 := tf (p * 7 + 5)
    have t6 := own_cell HT.out.own.row (p * 7 + 6) (by omega) rfl
    have f6 := tf (p * 7 + 6)
    clear tf
    have i0 : (0 : Int) ≤ (p : Int) := by omega
    have i2 : (p : Int) < (N : Int) := by omega
    go_upto_region 4 with fail
    have hF := HT.out.own.put7 (k := p) (bareC nm num) rfl
    have hkF : Kept w1 (((((((w1.setCell ⟨g, p * 7, none⟩ (.string nm)).setCell ⟨g, p * 7 + 1, none⟩ (.int .i64 num)).setCell ⟨g, p * 7 + 2, none⟩ (.bool false)).setCell ⟨g, p * 7 + 3, none⟩ (.int .i64 0)).setCell ⟨g, p * 7 + 4, none⟩ (.int .i64 0)).setCell ⟨g, p * 7 + 5, none⟩ (.int .i64 0)).setCell ⟨g, p * 7 + 6, none⟩ (.slice none 0 0)) (fun x => x = g) := ((((((((Kept.refl w1 (fun x => x = g)).set (a := ⟨g, p * 7, none⟩) rfl _).set (a := ⟨g, p * 7 + 1, none⟩) rfl _).set (a := ⟨g, p * 7 + 2, none⟩) rfl _).set (a := ⟨g, p * 7 + 3, none⟩) rfl _).set (a := ⟨g, p * 7 + 4, none⟩) rfl _).set (a := ⟨g, p * 7 + 5, none⟩) rfl _).set (a := ⟨g, p * 7 + 6, none⟩) rfl _)
    have HF : Hid (Staff (((((((w1.setCell ⟨g, p * 7, none⟩ (.string nm)).setCell ⟨g, p * 7 + 1, none⟩ (.int .i64 num)).setCell ⟨g, p * 7 + 2, none⟩ (.bool false)).setCell ⟨g, p * 7 + 3, none⟩ (.int .i64 0)).setCell ⟨g, p * 7 + 4, none⟩ (.int .i64 0)).setCell ⟨g, p * 7 + 5, none⟩ (.int .i64 0)).setCell ⟨g, p * 7 + 6, none⟩ (.slice none 0 0)) base sb mb K (.slice (some ⟨g, 0, none⟩) N d1) N (putC S p (bareC nm num)) (atV R p (.slice none 0 0)) O) := ⟨hkF.blk HT.out.blk (fun e => HT.out.vs g rfl e.symm), HT.out.hsb, HT.out.hmb, hF, HT.out.set.kept hkF (fun e => HT.out.vm g rfl e.symm)⟩
    have HKF : Hid (Kept w (((((((w1.setCell ⟨g, p * 7, none⟩ (.string nm)).setCell ⟨g, p * 7 + 1, none⟩ (.int .i64 num)).setCell ⟨g, p * 7 + 2, none⟩ (.bool false)).setCell ⟨g, p * 7 + 3, none⟩ (.int .i64 0)).setCell ⟨g, p * 7 + 4, none⟩ (.int .i64 0)).setCell ⟨g, p * 7 + 5, none⟩ (.int .i64 0)).setCell ⟨g, p * 7 + 6, none⟩ (.slice none 0 0)) (fun b => b = sb ∨ b = mb ∨ (Value.slice (some ⟨g, 0, none⟩) N d1).ownBlock = some b ∨ w.heap.size ≤ b)) := HK1.out.trans (hkF.mono (fun b e => by have e : b = g := e; rw [e]; exact Or.inr (Or.inr (Or.inl rfl))))
    clear hF hkF s0 s1 t0 t1 t2 t3 t4 t5 t6 f0 f1 f2 f3 f4 f5 f6
    generalize ((((((w1.setCell ⟨g, p * 7, none⟩ (.string nm)).setCell ⟨g, p * 7 + 1, none⟩ (.int .i64 num)).setCell ⟨g, p * 7 + 2, none⟩ (.bool false)).setCell ⟨g, p * 7 + 3, none⟩ (.int .i64 0)).setCell ⟨g, p * 7 + 4, none⟩ (.int .i64 0)).setCell ⟨g, p * 7 + 5, none⟩ (.int .i64 0)).setCell ⟨g, p * 7 + 6, none⟩ (.slice none 0 0) = F at HF HKF ⊢
    obtain ⟨D, hD, hO⟩ := HF.out.set
    have HD : Hid (F.ownsMap Try.prog 9 (unitElem (H := Unit)) mb K D) := hD
    have HKEY : Hid (keyOf Try.prog 9 (.string nm) = some (strLit nm)) := key_text hnm
    have m1 := blk_cell HF.out.blk 1 _ rfl
    clear hD
    go_wp2_with (first | (at_mapUpdate; refine wpList_mapUpdate_own _ (by rfl) _ _ _ 100 (by rfl) 9 101 Try.keyedS Try.underlying100 (unitElem (H := Unit)) mb _ _ (by rfl) HD.out (by unfold maxLen; omega) _ _ _ (by rfl) (by rfl) HKEY.out _ [] unitElem_mk ?_; intro w5 hown5 hg5))
    go_end0
    have hk5 := kept_row hg5
    refine ⟨rfl, ⟨N, putC S p (bareC nm num), atV R p (.slice none 0 0), some ⟨g, 0, none⟩, d1, K + 1, ⟨hk5.blk HF.out.blk (fun e => by cases e; exact HF.out.sm rfl), HF.out.hsb, HF.out.hmb, ⟨hk5.own HF.out.own.row (fun g hg e => by cases e; exact HF.out.vm _ hg rfl), fun i hi => hk5.own (HF.out.own.rows i hi) (fun g hg e => by cases e; exact HF.out.rm i hi _ hg rfl), HF.out.own.apart⟩, ⟨_, hown5, fun s => ?_⟩⟩, ?_⟩, HKF.out.trans (hk5.mono (fun b e => by cases e; exact Or.inr (Or.inl rfl)))⟩
    · by_cases e : s = nm
      · subst e
        rw [Maps.has_put_same HD.out.isMap (strLit_key _)]
        simp
      · rw [Maps.has_put_other (fun h => e (strLit_inj h)), hO s]
        simp [e]
    · exact Or.inl ⟨p, hpN, HNM.out, rfl, fun i _ => rfl⟩
  · rw [decide_eq_false hf]
    have HNO : Hid (∀ j, j < N → (S j).nam ≠ nm) := fun j hj e => hf (by
      have := hp.out.at HU.out hj e
      subst this
      exact ⟨hj, e⟩)
    have hpN : p ≤ N := hp.out.1
    have HI : Hid (InsAt N S nm p) := ⟨hpN, hp.out.2.1, fun h => hp.out.2.2 p (Nat.le_refl _) h⟩
    clear hf hp hb1
    go_wp2_with fail
    refine (put_any w1 base sb mb K a1 d1 N S R O p (bareC nm 0) none 0 HT.out (by omega) (by omega) hpN hnm (World.ownsRow_nil _ _ _ _) (fun i hi b _ e => by cases e)).mono ?_
    rintro e w2 ⟨rfl, ⟨a2, d2, hT2, hat2⟩, hk2⟩
    have HT2 : Hid (Staff w2 base sb mb (K + 1) (.slice a2 (N + 1) d2) (N + 1) (insC S p (bareC nm 0)) (insC R p (.slice none 0 0)) (fun s => O s ∨ ((bareC nm 0).opn = true ∧ s = (bareC nm 0).nam))) := hT2
    have HK2 : Hid (Kept w w2 (fun b => b = sb ∨ b = mb ∨ (Value.slice a1 N d1).ownBlock = some b ∨ w.heap.size ≤ b)) := HK1.out.trans (hk2.mono (fun b e => by
      rcases e with e | e | e
      · exact Or.inl e
      · exact Or.inr (Or.inl e)
      · exact Or.inr (Or.inr (Or.inl e))))
    have HAT2 : Hid (∀ g, (Value.slice a2 (N + 1) d2).ownBlock = some g → (Value.slice a1 N d1).ownBlock = some g ∨ w1.heap.size ≤ g) := hat2
    clear hT2 hk2 hat2
    obtain ⟨g, rfl, hg1, hg2⟩ := own_addr HT2.out.own.row (by omega)
    have s0 := blk_cell HT2.out.blk 0 _ rfl
    have s1 := blk_cell HT2.out.blk 1 _ rfl
    have tf : ∀ j, w2.frozen? ⟨g, j, none⟩ = false := fun j => by obtain ⟨cur, hcur⟩ := own_blk HT2.out.own.row (g := g) rfl; exact blk_free hcur _
    have t0 := own_cell HT2.out.own.row (p * 7) (by omega) rfl
    have f0 := tf (p * 7)
    have t1 := own_cell HT2.out.own.row (p * 7 + 1) (by omega) rfl
    have f1 := tf (p * 7 + 1)
    have t2 := own_cell HT2.out.own.row (p * 7 + 2) (by omega) rfl
    have f2 := tf (p * 7 + 2)
    have t3 := own_cell HT2.out.own.row (p * 7 + 3) (by omega) rfl
    have f3 := tf (p * 7 + 3)
    have t4 := own_cell HT2.out.own.row (p * 7 + 4) (by omega) rfl
    have f4 := tf (p * 7 + 4)
    have t5 := own_cell HT2.out.own.row (p * 7 + 5) (by omega) rfl
    have f5 := tf (p * 7 + 5)
    have t6 := own_cell HT2.out.own.row (p * 7 + 6) (by omega) rfl
    have f6 := tf (p * 7 + 6)
    clear tf
    have i0 : (0 : Int) ≤ (p : Int) := by omega
    have i2 : (p : Int) < (N + 1 : Int) := by omega
    go_upto_region 4 with fail
    have hF := HT2.out.own.put7 (k := p) (bareC nm num) rfl
    have hkF : Kept w2 (((((((w2.setCell ⟨g, p * 7, none⟩ (.string nm)).setCell ⟨g, p * 7 + 1, none⟩ (.int .i64 num)).setCell ⟨g, p * 7 + 2, none⟩ (.bool false)).setCell ⟨g, p * 7 + 3, none⟩ (.int .i64 0)).setCell ⟨g, p * 7 + 4, none⟩ (.int .i64 0)).setCell ⟨g, p * 7 + 5, none⟩ (.int .i64 0)).setCell ⟨g, p * 7 + 6, none⟩ (.slice none 0 0)) (fun x => x = g) := ((((((((Kept.refl w2 (fun x => x = g)).set (a := ⟨g, p * 7, none⟩) rfl _).set (a := ⟨g, p * 7 + 1, none⟩) rfl _).set (a := ⟨g, p * 7 + 2, none⟩) rfl _).set (a := ⟨g, p * 7 + 3, none⟩) rfl _).set (a := ⟨g, p * 7 + 4, none⟩) rfl _).set (a := ⟨g, p * 7 + 5, none⟩) rfl _).set (a := ⟨g, p * 7 + 6, none⟩) rfl _)
    have HF : Hid (Staff (((((((w2.setCell ⟨g, p * 7, none⟩ (.string nm)).setCell ⟨g, p * 7 + 1, none⟩ (.int .i64 num)).setCell ⟨g, p * 7 + 2, none⟩ (.bool false)).setCell ⟨g, p * 7 + 3, none⟩ (.int .i64 0)).setCell ⟨g, p * 7 + 4, none⟩ (.int .i64 0)).setCell ⟨g, p * 7 + 5, none⟩ (.int .i64 0)).setCell ⟨g, p * 7 + 6, none⟩ (.slice none 0 0)) base sb mb (K + 1) (.slice (some ⟨g, 0, none⟩) (N + 1) d2) (N + 1) (putC (insC S p (bareC nm 0)) p (bareC nm num)) (atV (insC R p (.slice none 0 0)) p (.slice none 0 0)) (fun s => O s ∨ ((bareC nm 0).opn = true ∧ s = (bareC nm 0).nam))) := ⟨hkF.blk HT2.out.blk (fun e => HT2.out.vs g rfl e.symm), HT2.out.hsb, HT2.out.hmb, hF, HT2.out.set.kept hkF (fun e => HT2.out.vm g rfl e.symm)⟩
    have HKF : Hid (Kept w (((((((w2.setCell ⟨g, p * 7, none⟩ (.string nm)).setCell ⟨g, p * 7 + 1, none⟩ (.int .i64 num)).setCell ⟨g, p * 7 + 2, none⟩ (.bool false)).setCell ⟨g, p * 7 + 3, none⟩ (.int .i64 0)).setCell ⟨g, p * 7 + 4, none⟩ (.int .i64 0)).setCell ⟨g, p * 7 + 5, none⟩ (.int .i64 0)).setCell ⟨g, p * 7 + 6, none⟩ (.slice none 0 0)) (fun b => b = sb ∨ b = mb ∨ (Value.slice a1 N d1).ownBlock = some b ∨ w.heap.size ≤ b)) := HK2.out.trans (hkF.mono (fun b e => by have e : b = g := e; rw [e]; exact (HAT2.out g rfl).elim (fun h => Or.inr (Or.inr (Or.inl h))) (fun h => Or.inr (Or.inr (Or.inr (by omega))))))
    clear hF hkF s0 s1 t0 t1 t2 t3 t4 t5 t6 f0 f1 f2 f3 f4 f5 f6
    generalize ((((((w2.setCell ⟨g, p * 7, none⟩ (.string nm)).setCell ⟨g, p * 7 + 1, none⟩ (.int .i64 num)).setCell ⟨g, p * 7 + 2, none⟩ (.bool false)).setCell ⟨g, p * 7 + 3, none⟩ (.int .i64 0)).setCell ⟨g, p * 7 + 4, none⟩ (.int .i64 0)).setCell ⟨g, p * 7 + 5, none⟩ (.int .i64 0)).setCell ⟨g, p * 7 + 6, none⟩ (.slice none 0 0) = F at HF HKF ⊢
    obtain ⟨D, hD, hO⟩ := HF.out.set
    have HD : Hid (F.ownsMap Try.prog 9 (unitElem (H := Unit)) mb (K + 1) D) := hD
    have HKEY : Hid (keyOf Try.prog 9 (.string nm) = some (strLit nm)) := key_text hnm
    have m1 := blk_cell HF.out.blk 1 _ rfl
    clear hD
    go_wp2_with (first | (at_mapUpdate; refine wpList_mapUpdate_own _ (by rfl) _ _ _ 100 (by rfl) 9 101 Try.keyedS Try.underlying100 (unitElem (H := Unit)) mb _ _ (by rfl) HD.out (by unfold maxLen; omega) _ _ _ (by rfl) (by rfl) HKEY.out _ [] unitElem_mk ?_; intro w5 hown5 hg5))
    go_end0
    have hk5 := kept_row hg5
    refine ⟨rfl, ⟨(N + 1), putC (insC S p (bareC nm 0)) p (bareC nm num), atV (insC R p (.slice none 0 0)) p (.slice none 0 0), some ⟨g, 0, none⟩, d2, K + 1 + 1, ⟨hk5.blk HF.out.blk (fun e => by cases e; exact HF.out.sm rfl), HF.out.hsb, HF.out.hmb, ⟨hk5.own HF.out.own.row (fun g hg e => by cases e; exact HF.out.vm _ hg rfl), fun i hi => hk5.own (HF.out.own.rows i hi) (fun g hg e => by cases e; exact HF.out.rm i hi _ hg rfl), HF.out.own.apart⟩, ⟨_, hown5, fun s => ?_⟩⟩, ?_⟩, HKF.out.trans (hk5.mono (fun b e => by cases e; exact Or.inr (Or.inl rfl)))⟩
    · by_cases e : s = nm
      · subst e
        rw [Maps.has_put_same HD.out.isMap (strLit_key _)]
        simp
      · rw [Maps.has_put_other (fun h => e (strLit_inj h)), hO s]
        simp [e, bareC]
    · exact Or.inr ⟨HNO.out, rfl, p, HI.out, fun i _ => putC_insC S p _ _ i⟩

end Go.Proofs.Ytogbaoggebghdaa
