/-
  OWN TEXT: LawRoutes, Views.
-/
import Derived.ProofKit
import Derived.OpenShut
import Derived.ChangeOld
import Derived.SizedLaws
import Derived.Deep.Slices
import Derived.Deep.Strs
import Derived.Lib.SmallJoins
import Derived.Test.YthcjfoaejomfaaaB14
import Derived.Test.YthcjfoaejomfaaaB26
import Derived.Test.YthcjfoaejomfaaaB27
import Derived.Test.YthcjfoaejomfaaaB31
import Derived.Test.YthcjfoaejomfaaaB00
namespace Go.Proofs.Ythcjfoaejomfaaa
open Go.RowKit

theorem short_more {N : Nat} {S : Nat → Sail} (h : ShortAll N S 100) : ShortAll N S 1048576 := fun i hi => by
  obtain ⟨h1, h2, h3, h4⟩ := h i hi
  exact ⟨by omega, by omega, by omega, by omega⟩

set_option maxHeartbeats 12800000 in
set_option maxRecDepth 100000 in
theorem lawRoutes (ao : Option Addr) (n c : Nat) (w : World) (hn : n ≤ 1000000000000000) (hx : BytesAt w ao n) :
    Calls Try.prog 3 #[.slice ao n c] w fun e w' => e = .returned (.bool true) ∧ Below w.heap.size w w' := by
  by_cases h20 : n ≤ 1048576
  case neg =>
    have d0 : decide (1048576 < n) = true := by simp; omega
    go_enter Try.func3, Try.ntmps3
    go_wp2
    go_ret
    exact ⟨rfl, Below.refl _ _⟩
  have d0 : decide (1048576 < n) = false := by simp; omega
  go_enter Try.func3, Try.ntmps3
  go_wp2_with fail
  refine (drawRoute_any ao n c _ h20 hx).mono ?_
  rintro e w1 ⟨⟨lo, N, lc, S, fr, tt, t, rfl, hN, HD⟩, hb1⟩
  obtain ⟨L, C, hl, hs, hfr, htt⟩ := HD.out
  obtain ⟨g, rfl, _, _⟩ := own_addr hl.row (by omega)
  have HX1 : Hid (SailsAt w1 (some ⟨g, 0, none⟩) N S) := hl.at
  have HS : Hid (ShortAll N S 1048576) := short_more hs
  clear HD hl hs L C d0 hx
  go_wp2_with fail
  refine (implRoute_any g 0 N lc S fr tt t _ (by omega) HS.out (by omega) (by omega) HX1.out).mono ?_
  rintro e w2 ⟨a, ro, rc, ha, rfl, ho2, hb2⟩
  have HX2 : Hid (SailsAt w2 (some ⟨g, 0, none⟩) N S) := HX1.out.below hb2
  have HB2 : Hid (Below w.heap.size w w2) := after hb1 hb2
  have HI2 : Hid (IntsAt w2 ro (a.getD []).length (getI (ids S (a.getD [])))) := own_legs (ids_length S _) ho2
  have HA : Hid (AnsIs N S fr tt t a) := ha
  clear hb1 hb2 ho2 HX1
  go_wp2_with fail
  refine (specRoute_any g 0 N lc S fr tt t _ (by omega) HS.out (by omega) (by omega) HX2.out).mono ?_
  rintro e w3 ⟨b, so, sc, hb, rfl, ho3, hb3⟩
  obtain rfl := ans_one ha hb
  clear ha hb
  have HX3 : Hid (SailsAt w3 (some ⟨g, 0, none⟩) N S) := HX2.out.below hb3
  have HB3 : Hid (Below w.heap.size w w3) := after HB2.out hb3
  have HI3 : Hid (IntsAt w3 ro (a.getD []).length (getI (ids S (a.getD [])))) := HI2.out.below hb3
  have HJ3 : Hid (IntsAt w3 so (a.getD []).length (getI (ids S (a.getD [])))) := own_legs (ids_length S _) ho3
  clear ho3 hb3 HX2 HB2 HI2
  have hm3 : (a.getD []).length ≤ 3 := by
    cases a with
    | none => simp
    | some p => exact HA.out.2.1.2.1
  obtain ⟨T, hT0, hTN, hTs⟩ := late_steps HA.out
  have HT : Hid (T 0 = 1099511627776 ∧ T N = lateOf S t a ∧ ∀ k, k < N → (a.isSome = true ∧ (S k).id = getI (ids S (a.getD [])) ((a.getD []).length - 1) → T (k + 1) = (S k).arr) ∧ (¬ (a.isSome = true ∧ (S k).id = getI (ids S (a.getD [])) ((a.getD []).length - 1)) → T (k + 1) = T k)) := ⟨hT0, hTN, hTs⟩
  clear hT0 hTN hTs
  have HE : Hid (a.isSome = true → 0 < (a.getD []).length ∧ GoodTab N S ∧ LegsOk N S (a.getD []).length (getI (ids S (a.getD [])))) := fun h => by
    obtain ⟨_, _, h1, h2, _, _, h3⟩ := ans_end HA.out h
    exact ⟨h2, h1, h3⟩
  have HNO : Hid (¬ (GoodTab N S ∧ fr ≠ tt ∧ In t 0 10000) → a.isSome = false) := fun h => by rw [ans_not HA.out h]; rfl
  generalize getI (ids S (a.getD [])) = F at HI3 HJ3 HT HE
  generalize (a.getD []).length = m at HI3 HJ3 HT HE hm3 ⊢
  generalize a.isSome = ok at HT HE HNO ⊢
  obtain ⟨sb, soff, la, ca, lac, cac, he, hlt3, hin3⟩ := sails_in HX3.out (by omega)
  simp only [Option.some.injEq, Addr.mk.injEq, and_true] at he
  obtain ⟨rfl, rfl⟩ := he
  have HC3 : Hid (SailsIn w3 g 0 N S la ca lac cac) := hin3
  clear hin3 hlt3
  go_upto_region 6 with fail
  go_cut [52] (fun v wx => v = .bool false ∧ Hid (Below w3.heap.size w3 wx))
  case first =>
    go_wp2_with fail
    refine (sameInts_same ro so m rc sc F _ (by omega) HI3.out HJ3.out).mono ?_
    rintro e w4 ⟨rfl, hb4⟩
    go_wp2
    go_meet
    exact ⟨rfl, hb4⟩
  case rest =>
  obtain ⟨rfl, HW4⟩ := hcut
  clear HJ3
  go_wp2
  go_loopw [11, 13, 55] (fun va _ vi wr => ∃ k : Nat, k ≤ N ∧ vi = .int .i64 k ∧ va = .int .i64 (T k) ∧ Hid (Below w3.heap.size w3 wr)) (fun _ _ vi _ => N - (intOf vi).toNat)
  case atStart => exact ⟨0, Nat.zero_le _, rfl, by rw [HT.out.1], HW4.out⟩
  case round =>
    obtain ⟨k, hk, rfl, rfl, HR⟩ := hrel
    clear HW4
    by_cases hlt : k < N
    · obtain ⟨c0, c1, c2, c3, c4, c5, c6, c7⟩ := HC3.out.below HR.out k hlt
      rw [Nat.zero_add] at c0 c1 c2 c3 c4 c5 c6 c7
      have hbx : Below w3.heap.size w3 (wr.alloc (.cells #[.int .i64 (S k).id, .string (S k).fr, .string (S k).dst, .int .i64 (S k).dep, .int .i64 (S k).arr, .slice (la k) (S k).la.n (lac k), .slice (ca k) (S k).ca.n (cac k), .int .i64 (S k).most] 33)) := push HR.out _
      have hbox := heap_alloc_new wr (.cells #[.int .i64 (S k).id, .string (S k).fr, .string (S k).dst, .int .i64 (S k).dep, .int .i64 (S k).arr, .slice (la k) (S k).la.n (lac k), .slice (ca k) (S k).ca.n (cac k), .int .i64 (S k).most] 33)
      go_upto_region 12 with fail
      generalize wr.alloc (.cells #[.int .i64 (S k).id, .string (S k).fr, .string (S k).dst, .int .i64 (S k).dep, .int .i64 (S k).arr, .slice (la k) (S k).la.n (lac k), .slice (ca k) (S k).ca.n (cac k), .int .i64 (S k).most] 33) = wb at hbx hbox ⊢
      clear c0 c1 c2 c3 c4 c5 c6 c7
      have b0 := blk_cell hbox 0 _ rfl
      have b4 := blk_cell hbox 4 _ rfl
      cases ok with
      | false =>
        have hstep := (HT.out.2.2 k hlt).2 (by simp)
        go_wp2
        go_quiet (fail)
        go_wp2
        go_roundw
        case rel => exact ⟨k + 1, by omega, by go_num, by rw [hstep], below_drewN hbx _⟩
        case measure => simp [intOf]; omega
      | true =>
        have hm0 := (HE.out rfl).1
        obtain ⟨M, rfl⟩ : ∃ M, m = M + 1 := ⟨m - 1, by omega⟩
        obtain ⟨rb, roff, rfl, hr⟩ := HI3.out M (by omega)
        have hrc : wb.cell? ⟨rb, roff + M, none⟩ = some (.int .i64 (F M)) := (hbx.cell (World.block_lt_of_cell? w3 _ hr)).trans hr
        have hwM : IntKind.i64.wrap (((M + 1 : Nat) : Int) - 1) = (M : Int) := by rw [IntKind.wrap_i64]; omega
        have hwM2 : IntKind.i64.wrap ((M : Int) + 1 - 1) = (M : Int) := by rw [IntKind.wrap_i64]; omega
        have hst := HT.out.2.2 k hlt
        rw [Nat.add_sub_cancel] at hst
        clear hr
        by_cases hid : (S k).id = F M
        · have dI : decide ((S k).id = F M) = true := decide_eq_true hid
          have hstep := hst.1 ⟨rfl, hid⟩
          clear hst
          go_wp2
          go_quiet (fail)
          go_wp2
          go_roundw
          case rel => exact ⟨k + 1, by omega, by go_num, by rw [hstep], below_drewN hbx _⟩
          case measure => simp [intOf]; omega
        · have dI : decide ((S k).id = F M) = false := decide_eq_false hid
          have hstep := hst.2 (fun h => hid h.2)
          clear hst
          go_wp2
          go_quiet (fail)
          go_wp2
          go_roundw
          case rel => exact ⟨k + 1, by omega, by go_num, by rw [hstep], below_drewN hbx _⟩
          case measure => simp [intOf]; omega
    · obtain rfl : N = k := by omega
      rw [HT.out.2.1]
      have HL : Hid (∀ k j, k < N → j < N → GoodTab N S → fr ≠ tt → In t 0 10000 → (S k).fr = fr → t ≤ (S k).dep → (((S k).dst = tt → lateOf S t a ≤ (S k).arr) ∧ ∀ G : Nat → Int, G 0 = (S k).id → G 1 = (S j).id → LegsOk N S 2 G → (S j).dst = tt → lateOf S t a ≤ (S j).arr)) :=
        fun k j hk hj hG hne hI hf hd => ⟨fun h => Int.not_lt.1 (one_leg hG hne hI HA.out hk hf hd h), fun G g0 g1 hl h => Int.not_lt.1 (two_legs hG hne hI HA.out hk hj hf hd g0 g1 hl h)⟩
      generalize lateOf S t a = A at HL ⊢
      clear HT HA
      go_upto_region 15 with fail
      go_cut [80] (fun v wx => v = .bool false ∧ Hid (Below w3.heap.size w3 wx))
      case first =>
        cases ok with
        | false =>
          go_wp2
          go_meet
          exact ⟨rfl, HR.out⟩
        | true =>
          go_wp2_with fail
          refine (implFit_any (some ⟨g, 0, none⟩) ro N m lc rc S F _ (by omega) (by omega) HS.out (HX3.out.below HR.out) (HI3.out.below HR.out)).mono ?_
          rintro e w5 ⟨⟨b5, rfl, hi5⟩, hb5⟩
          obtain rfl : b5 = true := hi5.2 (by first | exact (HE.out rfl).2 | exact (HE.out trivial).2)
          go_wp2
          go_meet
          exact ⟨rfl, after HR.out hb5⟩
      case rest =>
      obtain ⟨rfl, HW5⟩ := hcut
      clear HR HE HI3
      go_wp2_with fail
      refine (specTab_any (some ⟨g, 0, none⟩) N lc S _ (by omega) HS.out (HX3.out.below HW5.out)).mono ?_
      rintro e w6 ⟨⟨b6, rfl, hi6⟩, hb6⟩
      have HW6 : Hid (Below w3.heap.size w3 w6) := after HW5.out hb6
      clear HW5 hb6
      by_cases hq : GoodTab N S ∧ fr ≠ tt ∧ In t 0 10000
      case neg =>
        obtain rfl : ok = false := HNO.out hq
        have hb : Below w.heap.size w w6 := after HB3.out HW6.out
        cases b6 with
        | false =>
          go_wp2
          all_goals
            go_ret
            exact ⟨rfl, hb⟩
        | true =>
          have hG := hi6.1 rfl
          clear hi6
          by_cases hf : fr = tt
          · have df : (fr.toList == tt.toList) = true := bytes_eq.2 hf
            go_wp2
            all_goals
              go_ret
              exact ⟨rfl, hb⟩
          · have df : (fr.toList == tt.toList) = false := bytes_ne.2 hf
            by_cases h0 : t < 0
            · have dt : decide (t < 0) = true := decide_eq_true h0
              go_wp2
              all_goals
                go_ret
                exact ⟨rfl, hb⟩
            · have dt : decide (t < 0) = false := decide_eq_false h0
              have h1 : 10000 < t := by
                by_cases c : 10000 < t
                · exact c
                · exact absurd ⟨hG, hf, ⟨by omega, by omega⟩⟩ hq
              have du : decide (10000 < t) = true := decide_eq_true h1
              go_wp2
              all_goals
                go_ret
                exact ⟨rfl, hb⟩
      case pos =>
        obtain rfl : b6 = true := hi6.2 hq.1
        have HG : Hid (GoodTab N S ∧ fr ≠ tt ∧ In t 0 10000) := hq
        have df : (fr.toList == tt.toList) = false := bytes_ne.2 hq.2.1
        have dt : decide (t < 0) = false := decide_eq_false (by have := hq.2.2.1; omega)
        have du : decide (10000 < t) = false := decide_eq_false (by have := hq.2.2.2; omega)
        clear hi6 hq HNO
        go_wp2
        go_loopw [15, 17, 101, 127] (fun _ _ vi _ wr => ∃ k : Nat, k ≤ N ∧ vi = .int .i64 k ∧ Hid (Below w3.heap.size w3 wr)) (fun _ _ vi _ _ => N - (intOf vi).toNat)
        case atStart => exact ⟨0, Nat.zero_le _, rfl, HW6.out⟩
        case round =>
          obtain ⟨k, hk, rfl, HR⟩ := hrel
          clear HW6
          by_cases hlt : k < N
          · obtain ⟨c0, c1, c2, c3, c4, c5, c6, c7⟩ := HC3.out.below HR.out k hlt
            rw [Nat.zero_add] at c0 c1 c2 c3 c4 c5 c6 c7
            have hbx : Below w3.heap.size w3 (wr.alloc (.cells #[.int .i64 (S k).id, .string (S k).fr, .string (S k).dst, .int .i64 (S k).dep, .int .i64 (S k).arr, .slice (la k) (S k).la.n (lac k), .slice (ca k) (S k).ca.n (cac k), .int .i64 (S k).most] 33)) := push HR.out _
            have hbox := heap_alloc_new wr (.cells #[.int .i64 (S k).id, .string (S k).fr, .string (S k).dst, .int .i64 (S k).dep, .int .i64 (S k).arr, .slice (la k) (S k).la.n (lac k), .slice (ca k) (S k).ca.n (cac k), .int .i64 (S k).most] 33)
            go_upto_region 22 with fail
            generalize wr.alloc (.cells #[.int .i64 (S k).id, .string (S k).fr, .string (S k).dst, .int .i64 (S k).dep, .int .i64 (S k).arr, .slice (la k) (S k).la.n (lac k), .slice (ca k) (S k).ca.n (cac k), .int .i64 (S k).most] 33) = wb at hbx hbox ⊢
            generalize wr.heap.size = xb at hbox ⊢
            clear c0 c1 c2 c3 c4 c5 c6 c7 HR
            have HBX : Hid (Below w3.heap.size w3 wb) := hbx
            have b0 := blk_cell hbox 0 _ rfl
            have b1 := blk_cell hbox 1 _ rfl
            have b2 := blk_cell hbox 2 _ rfl
            have b3 := blk_cell hbox 3 _ rfl
            have b4 := blk_cell hbox 4 _ rfl
            have HBOX : Hid (wb.heap[xb]? = _) := hbox
            clear hbx hbox
            by_cases hf : (S k).fr = fr
            case neg =>
              have d1 : ((S k).fr.toList == fr.toList) = false := bytes_ne.2 hf
              clear hf
              go_wp2
              go_roundw
              case rel => exact ⟨k + 1, by omega, by go_num, HBX.out⟩
              case measure => simp [intOf]; omega
            case pos =>
              have d1 : ((S k).fr.toList == fr.toList) = true := bytes_eq.2 hf
              by_cases hd : (S k).dep < t
              · have d2 : decide ((S k).dep < t) = true := decide_eq_true hd
                go_wp2
                go_roundw
                case rel => exact ⟨k + 1, by omega, by go_num, HBX.out⟩
                case measure => simp [intOf]; omega
              · have d2 : decide ((S k).dep < t) = false := decide_eq_false hd
                have HK : Hid (∀ j, j < N → (((S k).dst = tt → A ≤ (S k).arr) ∧ ∀ G : Nat → Int, G 0 = (S k).id → G 1 = (S j).id → LegsOk N S 2 G → (S j).dst = tt → A ≤ (S j).arr)) := fun j hj => HL.out k j hlt hj HG.out.1 HG.out.2.1 HG.out.2.2 hf (by omega)
                clear hf hd
                go_upto_region 23 with fail
                go_cut [124] (fun v wx => v = .bool false ∧ wx = wb)
                case first =>
                  by_cases ht : (S k).dst = tt
                  · have e1 : ((S k).dst.toList == tt.toList) = true := bytes_eq.2 ht
                    have e2 : decide ((S k).arr < A) = false := decide_eq_false (Int.not_lt.2 ((HK.out k hlt).1 ht))
                    clear ht
                    go_wp2
                    go_meet
                    exact ⟨rfl, rfl⟩
                  · have e1 : ((S k).dst.toList == tt.toList) = false := bytes_ne.2 ht
                    clear ht
                    go_wp2
                    go_meet
                    exact ⟨rfl, rfl⟩
                case rest =>
                obtain ⟨rfl, hwc⟩ := hcut
                subst hwc
                clear b0 b1 b2 b3 b4
                go_wp2
                go_loopw [17, 127] (fun _ vi wr => ∃ j : Nat, j ≤ N ∧ vi = .int .i64 j ∧ Hid (Below w3.heap.size w3 wr ∧ wr.heap[xb]? = some (.cells #[.int .i64 (S k).id, .string (S k).fr, .string (S k).dst, .int .i64 (S k).dep, .int .i64 (S k).arr, .slice (la k) (S k).la.n (lac k), .slice (ca k) (S k).ca.n (cac k), .int .i64 (S k).most] 33 (0, 0)))) (fun _ vi _ => N - (intOf vi).toNat)
                case atStart => exact ⟨0, Nat.zero_le _, rfl, HBX.out, HBOX.out⟩
                case round =>
                  clear HBX HBOX
                  obtain ⟨j, hj, rfl, HR⟩ := hrel
                  by_cases hjl : j < N
                  · obtain ⟨c0, c1, c2, c3, c4, c5, c6, c7⟩ := HC3.out.below HR.out.1 j hjl
                    rw [Nat.zero_add] at c0 c1 c2 c3 c4 c5 c6 c7
                    have hbx : Below w3.heap.size w3 (wr.alloc (.cells #[.int .i64 (S j).id, .string (S j).fr, .string (S j).dst, .int .i64 (S j).dep, .int .i64 (S j).arr, .slice (la j) (S j).la.n (lac j), .slice (ca j) (S j).ca.n (cac j), .int .i64 (S j).most] 33)) := push HR.out.1 _
                    have hbox := heap_alloc_new wr (.cells #[.int .i64 (S j).id, .string (S j).fr, .string (S j).dst, .int .i64 (S j).dep, .int .i64 (S j).arr, .slice (la j) (S j).la.n (lac j), .slice (ca j) (S j).ca.n (cac j), .int .i64 (S j).most] 33)
                    have hboy := blk_alloc HR.out.2 (.cells #[.int .i64 (S j).id, .string (S j).fr, .string (S j).dst, .int .i64 (S j).dep, .int .i64 (S j).arr, .slice (la j) (S j).la.n (lac j), .slice (ca j) (S j).ca.n (cac j), .int .i64 (S j).most] 33)
                    go_upto_region 28 with fail
                    generalize wr.alloc (.cells #[.int .i64 (S j).id, .string (S j).fr, .string (S j).dst, .int .i64 (S j).dep, .int .i64 (S j).arr, .slice (la j) (S j).la.n (lac j), .slice (ca j) (S j).ca.n (cac j), .int .i64 (S j).most] 33) = wb2 at hbx hbox hboy ⊢
                    generalize wr.heap.size = yb at hbox ⊢
                    clear c0 c1 c2 c3 c4 c5 c6 c7 HR
                    have x0 := blk_cell hboy 0 _ rfl
                    have y0 := blk_cell hbox 0 _ rfl
                    go_cut [149] (fun v wx => v = .bool false ∧ Hid (Below wb2.heap.size wb2 wx))
                    case first =>
                      have hbp : Below wb2.heap.size wb2 (wb2.alloc (.cells #[.int .i64 (S k).id, .int .i64 (S j).id] 3)) := push (Below.refl _ _) _
                      have hnew := heap_alloc_new wb2 (.cells #[.int .i64 (S k).id, .int .i64 (S j).id] 3)
                      go_wp2_with fail
                      generalize wb2.alloc (.cells #[.int .i64 (S k).id, .int .i64 (S j).id] 3) = wn at hbp hnew ⊢
                      have hG : IntsAt wn (some ⟨wb2.heap.size, 0, none⟩) 2 (getI [(S k).id, (S j).id]) := fun i hi => by
                        refine ⟨_, 0, rfl, ?_⟩
                        rcases (show i = 0 ∨ i = 1 by omega) with rfl | rfl
                        · exact blk_cell hnew 0 _ rfl
                        · exact blk_cell hnew 1 _ rfl
                      refine (implFit_any (some ⟨g, 0, none⟩) _ N 2 lc 2 S (getI [(S k).id, (S j).id]) _ (by omega) (by omega) HS.out (HX3.out.below (after hbx hbp)) hG).mono ?_
                      rintro e w8 ⟨⟨b8, rfl, hi8⟩, hb8⟩
                      have hB8 := after hbp hb8
                      have y2 := blk_cell (blk_below hbox hB8) 2 _ rfl
                      have y4 := blk_cell (blk_below hbox hB8) 4 _ rfl
                      have HB8 : Hid (Below wb2.heap.size wb2 w8) := hB8
                      have HI8 : Hid (b8 = true → LegsOk N S 2 (getI [(S k).id, (S j).id])) := fun h => (hi8.1 h).2
                      clear hi8 hG hbp hnew hb8 hB8 hbx hboy hbox x0 y0
                      cases b8 with
                      | false =>
                        go_wp2
                        go_meet
                        exact ⟨rfl, HB8.out⟩
                      | true =>
                        have hfit := HI8.out rfl
                        by_cases ht : (S j).dst = tt
                        · have e1 : ((S j).dst.toList == tt.toList) = true := bytes_eq.2 ht
                          have e2 : decide ((S j).arr < A) = false := decide_eq_false (Int.not_lt.2 ((HK.out j hjl).2 _ rfl rfl hfit ht))
                          clear ht hfit
                          go_wp2
                          go_meet
                          exact ⟨rfl, HB8.out⟩
                        · have e1 : ((S j).dst.toList == tt.toList) = false := bytes_ne.2 ht
                          clear ht hfit
                          go_wp2
                          go_meet
                          exact ⟨rfl, HB8.out⟩
                    case rest =>
                    obtain ⟨rfl, HW8⟩ := hcut
                    go_wp2
                    go_roundw
                    case rel => exact ⟨j + 1, by omega, by go_num, after hbx HW8.out, blk_below hboy HW8.out⟩
                    case measure => simp [intOf]; omega
                  · clear HK
                    go_wp2
                    go_roundw
                    case rel => exact ⟨k + 1, by omega, by go_num, HR.out.1⟩
                    case measure => simp [intOf]; omega
          · go_wp2
            go_ret
            exact ⟨rfl, after HB3.out HR.out⟩

end Go.Proofs.Ythcjfoaejomfaaa

namespace Go.Proofs.Ythcjfoaejomfaaa
open Go.ChangeShapes Go.WideShapes Go.ChangeAt Go.RowKit Go.Deep

section
variable {H : Type} {enc : TypeId × Value → H} {P : Program} {w : World} {base : Nat} {spare : Nat → Bool} {held : Bool}

/-- How a list's datum tells its length. -/
def LenIs (d : DataW H) (n : Nat) : Prop := (d = .nil ∧ n = 0) ∨ ∃ els rest, d = .slice els rest ∧ els.length = n

theorem view_ints {t e fuel : Nat} {v : Value} {x : DataW H × List MemPlace} (ht : P.underlying t = some (.slice e)) (he : P.underlying e = some (.int .i64)) (hc : P.cellsOf e = 1)
    (h : DataW.trod enc P w base spare held fuel t [v] = some x) :
    ∃ ao n cap F, v = .slice ao n cap ∧ n ≤ cap ∧ cap ≤ maxLen ∧ (ao = none → n = 0 ∧ cap = 0) ∧ IntsAt w ao n F ∧ LenIs x.1 n := by
  rcases open_ints ht he hc h with ⟨hcs, hx⟩ | ⟨a, n, cap, zs, hcs, _, hl, hm, hz, hx, hcell, _⟩
  · simp at hcs
    subst hcs
    refine ⟨none, 0, 0, fun _ => 0, rfl, Nat.le_refl _, Nat.zero_le _, fun _ => ⟨rfl, rfl⟩, fun k hk => by omega, .inl ⟨by rw [hx], rfl⟩⟩
  · simp at hcs
    subst hcs
    have hzl : n ≤ zs.length := by rw [hz]; split <;> omega
    refine ⟨some a, n, cap, fun k => zs.getD k 0, rfl, hl, hm, (fun h => by cases h), (fun k hk => ?_), .inr ⟨_, _, by rw [hx], by simp [lits]; omega⟩⟩
    obtain ⟨b, off, rfl, hc2⟩ := ints_at hcell (by omega)
    exact ⟨b, off, rfl, hc2 k (by omega)⟩

theorem view_slots {t e fuel ti tb : Nat} {f0 f1 f2 : Field} {v : Value} {x : DataW H × List MemPlace} (ht : P.underlying t = some (.slice e)) (he : P.underlying e = some (.struct #[f0, f1, f2])) (hc : P.cellsOf e = 3)
    (t0 : f0.type = ti) (t1 : f1.type = tb) (t2 : f2.type = ti) (o0 : f0.offset = 0) (o1 : f1.offset = 1) (o2 : f2.offset = 2)
    (hi : P.underlying ti = some (.int .i64)) (hb : P.underlying tb = some .bool) (ci : P.cellsOf ti = 1) (cb : P.cellsOf tb = 1)
    (h : DataW.trod enc P w base spare held fuel t [v] = some x) :
    ∃ ao n cap A U V, v = .slice ao n cap ∧ n ≤ cap ∧ cap ≤ maxLen ∧ (ao = none → n = 0 ∧ cap = 0) ∧ SlotsAt w ao n A U V ∧ LenIs x.1 n := by
  rcases open_slice ht h with ⟨hcs, hx⟩ | ⟨a, n, cap, m, fl, D, Pl, hcs, _, hl, hm, hmm, hx, hcell⟩
  · simp at hcs
    subst hcs
    refine ⟨none, 0, 0, fun _ => 0, fun _ => false, fun _ => 0, rfl, Nat.le_refl _, Nat.zero_le _, fun _ => ⟨rfl, rfl⟩, fun k hk => by omega, .inl ⟨by rw [hx], rfl⟩⟩
  · simp at hcs
    subst hcs
    have hnm : n ≤ m := by rw [hmm]; split <;> omega
    by_cases hn0 : n = 0
    · subst hn0
      exact ⟨some a, 0, cap, fun _ => 0, fun _ => false, fun _ => 0, rfl, hl, hm, (fun h => by cases h), (fun k hk => by omega), .inr ⟨_, _, by rw [hx], by simp⟩⟩
    have hspot : a.spot = none := by
      obtain ⟨cs, hcl, _⟩ := hcell 0 (by omega)
      rw [hc] at hcl
      obtain ⟨_, hlen, hget⟩ := World.cells?_some hcl
      have g0 := hget 0 (by omega)
      rw [List.getElem?_eq_getElem (by omega)] at g0
      have := World.cell?_spot g0
      simpa [Addr.add] using this
    obtain ⟨b, off, spot⟩ := a
    simp only at hspot
    subst hspot
    have key : ∀ k, k < n → ∃ (y : Int × Bool × Int), w.cell? ⟨b, off + k * 3, none⟩ = some (.int .i64 y.1) ∧ w.cell? ⟨b, off + k * 3 + 1, none⟩ = some (.bool y.2.1) ∧ w.cell? ⟨b, off + k * 3 + 2, none⟩ = some (.int .i64 y.2.2) := by
      intro k hk
      obtain ⟨cs, hcl, htr⟩ := hcell k (by omega)
      rw [hc] at hcl
      obtain ⟨_, hlen, hget⟩ := World.cells?_some hcl
      obtain ⟨y0, y1, y2, n', _, _, h0, h1, h2⟩ := trod_struct3 he htr
      rw [t0, o0, ci] at h0
      rw [t1, o1, cb] at h1
      rw [t2, o2, ci] at h2
      match cs, hlen with
      | [p, q, r], _ =>
        obtain ⟨i0, e0, _, _⟩ := DataW.trod_int hi h0
        obtain ⟨i1, e1, _⟩ := DataW.trod_bool hb h1
        obtain ⟨i2, e2, _, _⟩ := DataW.trod_int hi h2
        simp at e0 e1 e2
        subst e0 e1 e2
        have g0 := hget 0 (by omega)
        have g1 := hget 1 (by omega)
        have g2 := hget 2 (by omega)
        simp only [List.getElem?_cons_zero, List.getElem?_cons_succ, Addr.add_lit, Nat.add_zero] at g0 g1 g2
        exact ⟨(i0, i1, i2), g0, g1, g2⟩
    obtain ⟨f, hf⟩ := choose_lt key
    exact ⟨some ⟨b, off, none⟩, n, cap, fun k => (f k).1, fun k => (f k).2.1, fun k => (f k).2.2, rfl, hl, hm, (fun h => by cases h), (fun k hk => ⟨b, off, rfl, hf k hk⟩), .inr ⟨_, _, by rw [hx], by simp⟩⟩

/-- The reach of a list: so many elements at most. -/
theorem len_reach {t e n : Nat} {d : DataW H} {bytes : Nat} (ht : P.underlying t = some (.slice e)) (hb : P.bytesOf e = bytes) (hd : LenIs d n) (hw : ∀ x ∈ DataW.weights P t d, x ≤ reachBytes) : n * bytes ≤ reachBytes := by
  rcases hd with ⟨_, rfl⟩ | ⟨els, rest, rfl, rfl⟩
  · omega
  · have := hw ((els.length + rest.length) * P.bytesOf e) (by simp [DataW.weights, ht])
    rw [hb] at this
    exact Nat.le_trans (Nat.mul_le_mul_right _ (Nat.le_add_right _ _)) this

end
end Go.Proofs.Ythcjfoaejomfaaa
