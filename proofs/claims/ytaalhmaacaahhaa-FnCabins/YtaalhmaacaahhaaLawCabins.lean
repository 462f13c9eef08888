/-
  OWN TEXT: the walk of laws.FnCabins: it returns true, and nothing that was there is written.
-/
import Derived.Test.YtaalhmaacaahhaaDrawG
import Derived.Test.YtaalhmaacaahhaaPlainR7
import Derived.Test.YtaalhmaacaahhaaRoomsI
import Derived.Test.YtaalhmaacaahhaaWholeI
import Derived.Deep.DeepCutAuto
namespace Go.Proofs.Ytaalhmaacaahhaa
open Go.RowKit

set_option maxHeartbeats 6400000 in
set_option maxRecDepth 100000 in
theorem lawCabins (ao0 : Option Addr) (n0 c0 : Nat) (ao1 : Option Addr) (n1 c1 : Nat) (w : World) (hn0 : n0 ≤ 1000000000000000) (hx0 : BytesAt w ao0 n0) (hn1 : n1 ≤ 1000000000000000) (hx1 : BytesAt w ao1 n1) :
    Calls Try.prog 7 #[.slice ao0 n0 c0, .slice ao1 n1 c1] w fun e w' => e = .returned (.bool true) ∧ Below w.heap.size w w' := by
  have hws : IntKind.i64.wrap ((n0 : Int) + (n1 : Int)) = (n0 : Int) + (n1 : Int) := by rw [IntKind.wrap_i64]; omega
  by_cases h20 : (1048576 : Int) < (n0 : Int) + (n1 : Int)
  · have d0 : decide ((1048576 : Int) < (n0 : Int) + (n1 : Int)) = true := decide_eq_true h20
    go_enter Try.func7, Try.ntmps7
    go_wp2
    go_ret
    exact ⟨rfl, Below.refl _ _⟩
  · have d0 : decide ((1048576 : Int) < (n0 : Int) + (n1 : Int)) = false := decide_eq_false h20
    go_enter Try.func7, Try.ntmps7
    go_wp2_with fail
    refine (drawWhole_any ao0 n0 c0 _ hx0).mono ?_
    rintro e w1 ⟨⟨vl, vs, x, cl, q, rfl, ⟨p, hp6, hop⟩, ⟨S, k, hk61, hos⟩⟩, hb1⟩
    obtain ⟨la, lc, rfl, _⟩ := own_form hop
    obtain ⟨sa, sc, rfl, hsc, _, hsn⟩ := own_form hos
    have HP : Hid (PairsAt w1 la p) := pairs_of_own rfl hop
    have HS : Hid (RoomsAt w1 sa k S) := rooms_of_own hos
    have HSN : Hid (sa = none → k = 0 ∧ sc = 0) := hsn
    clear hop hos hx0 hsn
    obtain ⟨ok, hok⟩ : ∃ z, z = wholeOk p k S x cl q := ⟨_, rfl⟩
    obtain ⟨ln, hln⟩ : ∃ z, z = wholeAt p k S x cl q := ⟨_, rfl⟩
    have HOK : Hid (ok = wholeOk p k S x cl q) := hok
    have HLN : Hid (ln = wholeAt p k S x cl q) := hln
    obtain ⟨m, hpm⟩ : ∃ m, m = p.n := ⟨_, rfl⟩
    have HPM : Hid (p.n = m) := hpm.symm
    rw [← hpm] at hp6 ⊢
    clear hok hln hpm
    go_wp2_with fail
    refine (implWhole_any la sa m lc k sc p S x cl q _ HPM.out (by omega) (by omega) hsc HP.out HS.out HSN.out).mono ?_
    rintro e w2 ⟨⟨v8, he2, ho8⟩, hb2⟩
    rw [← HOK.out, ← HLN.out] at he2
    subst he2
    have HP2 : Hid (PairsAt w2 la p) := HP.out.below hb2
    have HS2 : Hid (RoomsAt w2 sa k S) := HS.out.below hb2
    have hb2' := after hb1 hb2
    clear hb1 hb2 HP HS
    go_wp2_with fail
    refine (specWhole_any la sa m lc k sc p S x cl q _ HPM.out (by omega) (by omega) hsc HP2.out HS2.out HSN.out).mono ?_
    rintro e w3 ⟨⟨v11, he3, _⟩, hb3⟩
    rw [← HOK.out, ← HLN.out] at he3
    subst he3
    have HP3 : Hid (PairsAt w3 la p) := HP2.out.below hb3
    have ho83 := own_below hb3 ho8
    have hb3' := after hb2' hb3
    clear hb2' hb3 HP2 HS2 ho8
    cases ok with
    | false =>
      have HBB : Hid (Below w.heap.size w w3) := hb3'
      clear hb3' ho83
      go_wp2_with fail
      refine (drawBerths_any ao1 n1 c1 _ (hx1.below HBB.out)).mono ?_
      rintro e v1 ⟨⟨vl', vs', y, ct, u, hu5, rfl, ⟨p', hp6', hop'⟩, ⟨S', k', hk61', hos'⟩⟩, hc1⟩
      obtain ⟨la', lc', rfl, _⟩ := own_form hop'
      obtain ⟨sa', sc', rfl, hsc', _, hsn'⟩ := own_form hos'
      have HP' : Hid (PairsAt v1 la' p') := pairs_of_own rfl hop'
      have HS' : Hid (RoomsAt v1 sa' k' S') := rooms_of_own hos'
      have HSN' : Hid (sa' = none → k' = 0 ∧ sc' = 0) := hsn'
      have HB1' : Hid (Below w.heap.size w v1) := after HBB.out hc1
      clear hop' hos' hsn' hc1
      obtain ⟨ok', hok'⟩ : ∃ z, z = berthOk p' k' S' y ct (u : Int) := ⟨_, rfl⟩
      obtain ⟨ln', hln'⟩ : ∃ z, z = berthAt p' k' S' y ct (u : Int) := ⟨_, rfl⟩
      have HOK' : Hid (ok' = berthOk p' k' S' y ct (u : Int)) := hok'
      have HLN' : Hid (ln' = berthAt p' k' S' y ct (u : Int)) := hln'
      obtain ⟨m', hpm'⟩ : ∃ m', m' = p'.n := ⟨_, rfl⟩
      have HPM' : Hid (p'.n = m') := hpm'.symm
      rw [← hpm'] at hp6' ⊢
      clear hok' hln' hpm'
      go_wp2_with fail
      refine (implPlaceB_any la' sa' m' lc' k' sc' p' S' y ct (u : Int) _ HPM'.out (by omega) (by omega) hsc' HP'.out HS'.out HSN'.out).mono ?_
      rintro e v2 ⟨⟨vy, hy2, hoy⟩, hc2⟩
      rw [← HOK'.out, ← HLN'.out] at hy2
      subst hy2
      have HP2' : Hid (PairsAt v2 la' p') := HP'.out.below hc2
      have HS2' : Hid (RoomsAt v2 sa' k' S') := HS'.out.below hc2
      have HB2' : Hid (Below w.heap.size w v2) := after HB1'.out hc2
      clear hc2 HP' HS' HB1'
      go_wp2_with fail
      refine (specPlaceB_any la' sa' m' lc' k' sc' p' S' y ct (u : Int) _ HPM'.out (by omega) (by omega) hsc' HP2'.out HS2'.out HSN'.out).mono ?_
      rintro e v3 ⟨⟨vz, hy3, _⟩, hc3⟩
      rw [← HOK'.out, ← HLN'.out] at hy3
      subst hy3
      have HP3' : Hid (PairsAt v3 la' p') := HP2'.out.below hc3
      have HS3' : Hid (RoomsAt v3 sa' k' S') := HS2'.out.below hc3
      have hoy3 := own_below hc3 hoy
      have HB3' : Hid (Below w.heap.size w v3) := after HB2'.out hc3
      clear hc3 HP2' HS2' HB2' hoy
      cases ok' with
      | false =>
        go_wp2
        go_ret
        exact ⟨rfl, HB3'.out⟩
      | true =>
        obtain ⟨K', ⟨hG', hF'⟩, q1, q2, q3⟩ := berth_some HOK'.out.symm
        rw [q2, q3] at hoy3
        have HK' : Hid (BerthG p' k' S' y ct (u : Int) ∧ FirstOf p'.n (BerthP p' k' S' ct (u : Int)) K') := ⟨hG', hF'⟩
        have hK' : K' < m' := by have := hF'.1; rw [HPM'.out] at this; exact this
        obtain rfl : ln' = (K' : Int) := HLN'.out.trans q1
        clear q1 q2 q3 hG' hF' HLN' HOK'
        have HGD' : Hid _ := berth_good HK'.out.1 HK'.out.2
        obtain ⟨ay, cy, rfl, hcy, _⟩ := own_form hoy3
        have HY : Hid (RoomsAt v3 ay (k' + 1) (roomCat S' k' (fun _ => ⟨y, (K' : Int), (u : Int), false⟩))) := rooms_of_own hoy3
        clear hoy3
        go_wp2_with fail
        refine (specBerths_any la' sa' m' lc' k' sc' p' S' _ HPM'.out (by omega) (by omega) hsc' HP3'.out HS3'.out).mono ?_
        rintro e v4 ⟨⟨vw, hy4, how⟩, hc4⟩
        rw [roomsOk_yes HK'.out.1.1.1] at hy4
        subst hy4
        rw [berthsLen_yes HK'.out.1.1.1, HPM'.out] at how
        obtain ⟨aw, cw, rfl, hcw, _⟩ := own_form how
        have HP4' : Hid (PairsAt v4 la' p') := HP3'.out.below hc4
        have HY4 : Hid (RoomsAt v4 ay (k' + 1) (roomCat S' k' (fun _ => ⟨y, (K' : Int), (u : Int), false⟩))) := HY.out.below hc4
        have HB4' : Hid (Below w.heap.size w v4) := after HB3'.out hc4
        have HW4 : Hid (IntsAt v4 aw m' (leftR p' S' k')) := own_ints how
        clear hc4 HP3' HS3' HY HB3' how
        go_wp2_with fail
        refine (implBerths_any la' ay m' lc' (k' + 1) cy p' (roomCat S' k' (fun _ => ⟨y, (K' : Int), (u : Int), false⟩)) _ HPM'.out (by omega) (by omega) hcy HP4'.out HY4.out).mono ?_
        rintro e v5 ⟨⟨vi, hy5, hoi⟩, hc5⟩
        rw [roomsOk_yes HGD'.out.1] at hy5
        subst hy5
        rw [berthsLen_yes HGD'.out.1, HPM'.out] at hoi
        obtain ⟨ai, ci, rfl, hci, _⟩ := own_form hoi
        have HI5 : Hid (IntsAt v5 ai m' (leftR p' (roomCat S' k' (fun _ => ⟨y, (K' : Int), (u : Int), false⟩)) (k' + 1))) := own_ints hoi
        have HW5 : Hid (IntsAt v5 aw m' (leftR p' S' k')) := HW4.out.below hc5
        have HB5' : Hid (Below w.heap.size w v5) := after HB4'.out hc5
        clear hc5 HP4' HY4 HW4 HB4' hoi
        obtain ⟨bi, oi, rfl, hci5⟩ := HI5.out K' hK'
        obtain ⟨bw, ow, rfl, hcw5⟩ := HW5.out K' hK'
        rw [HGD'.out.2.1] at hci5
        obtain ⟨L, hL⟩ : ∃ L, L = leftR p' S' k' K' := ⟨_, rfl⟩
        have hL0 : 0 ≤ L - (u : Int) := by rw [hL]; exact HGD'.out.2.2
        have hL4 : L ≤ 4 := by rw [hL]; exact (leftR_bounds HK'.out.1.1.1.1 HK'.out.1.1.1.2.1 HK'.out.1.1.1.manys HK'.out.2.1).2
        rw [← hL] at hci5 hcw5
        have hwr' : IntKind.i64.wrap (L - (u : Int)) = L - (u : Int) := by rw [IntKind.wrap_i64]; omega
        have hli := World.block_lt_of_cell? v5 _ hci5
        have hlw := World.block_lt_of_cell? v5 _ hcw5
        have z1 : ∀ g : Grown v5, g.val.cell? ⟨bi, oi + K', none⟩ = some (.int .i64 (L - (u : Int))) := fun g => (g.bel.cell hli).trans hci5
        have z2 : ∀ g : Grown v5, g.val.cell? ⟨bw, ow + K', none⟩ = some (.int .i64 L) := fun g => (g.bel.cell hlw).trans hcw5
        have j1 : (0 : Int) ≤ (K' : Int) := by omega
        have j2 : (K' : Int) < (m' : Int) := by omega
        have d1 : decide ((u : Int) ≤ L) = true := decide_eq_true (by omega)
        have d2 : ((L - (u : Int)) == (L - (u : Int))) = true := by simp
        clear hL hL0 hL4 hci5 hcw5 hli hlw HI5 HW5 HGD' HK'
        go_upto_region 21 with fail
        refine wp_region_grow (by kernel_rfl) (by kernel_rfl) ?_
        repeat (first | go_big_quiet_skip | (go_big_quiet_want; go_big_quiet_op; go_big_quiet_on))
        refine wpQuiet_nil ?_
        rintro _ ⟨g, rfl⟩
        go_wp2
        go_ret
        exact ⟨rfl, after HB5'.out g.bel⟩
    | true =>
      obtain ⟨K, ⟨hG, hF⟩, q1, q2, q3⟩ := whole_some HOK.out.symm
      rw [q2, q3] at ho83
      have HK : Hid (WholeG p k S x cl q ∧ FirstOf p.n (WholeP p k S cl q) K) := ⟨hG, hF⟩
      have hK : K < m := by have := hF.1; rw [HPM.out] at this; exact this
      obtain rfl : ln = (K : Int) := HLN.out.trans q1
      clear q1 q2 q3 hG hF HLN HOK
      have HGD : Hid _ := whole_good HK.out.1 HK.out.2
      obtain ⟨a8, c8, rfl, hc8, _⟩ := own_form ho83
      have HX8 : Hid (RoomsAt w3 a8 (k + 1) (roomCat S k (fun _ => ⟨x, (K : Int), p.B K, true⟩))) := rooms_of_own ho83
      clear ho83
      go_wp2_with fail
      refine (implBerths_any la a8 m lc (k + 1) c8 p (roomCat S k (fun _ => ⟨x, (K : Int), p.B K, true⟩)) _ HPM.out (by omega) (by omega) hc8 HP3.out HX8.out).mono ?_
      rintro e w4 ⟨⟨v14, he4, ho14⟩, hb4⟩
      rw [roomsOk_yes HGD.out.1] at he4
      subst he4
      rw [berthsLen_yes HGD.out.1, HPM.out] at ho14
      obtain ⟨a14, c14, rfl, hc14, _⟩ := own_form ho14
      have HI4 : Hid (IntsAt w4 a14 m (leftR p (roomCat S k (fun _ => ⟨x, (K : Int), p.B K, true⟩)) (k + 1))) := own_ints ho14
      have HP4 : Hid (PairsAt w4 la p) := HP3.out.below hb4
      have HX4 : Hid (RoomsAt w4 a8 (k + 1) (roomCat S k (fun _ => ⟨x, (K : Int), p.B K, true⟩))) := HX8.out.below hb4
      have HB4 : Hid (Below w.heap.size w w4) := after hb3' hb4
      clear hb3' hb4 HP3 HX8 ho14
      obtain ⟨b2, o2, rfl, hc2⟩ := HI4.out K hK
      rw [HGD.out.2] at hc2
      obtain ⟨b3, o3, rfl, hc3, hc4⟩ := HP4.out K (by rw [HPM.out]; exact hK)
      rw [HK.out.2.2.1.1] at hc3
      have i1 : (0 : Int) ≤ (K : Int) := by omega
      have i2 : (K : Int) < (m : Int) := by omega
      clear hc4
      go_wp2_with (first | (go_at_call 39; refine Calls.mono (implRooms_any (some ⟨b3, o3, none⟩) a8 m lc (k + 1) c8 p (roomCat S k (fun _ => ⟨x, (K : Int), p.B K, true⟩)) _ HPM.out ?_ ?_ hc8 HP4.out HX4.out) ?_; (focus omega); (focus omega); rintro e w5 ⟨⟨zb, rfl, hzb⟩, hb5⟩; obtain rfl := hzb.2 HGD.out.1))
      have HBB : Hid (Below w.heap.size w w5) := after HB4.out hb5
      clear hb5 HB4 hc2 hc3 hzb i1 i2 HI4 HX4 HP4 HGD HK hK HSN hc8 hc14 hsc
      refine (drawBerths_any ao1 n1 c1 _ (hx1.below HBB.out)).mono ?_
      rintro e v1 ⟨⟨vl', vs', y, ct, u, hu5, rfl, ⟨p', hp6', hop'⟩, ⟨S', k', hk61', hos'⟩⟩, hc1⟩
      obtain ⟨la', lc', rfl, _⟩ := own_form hop'
      obtain ⟨sa', sc', rfl, hsc', _, hsn'⟩ := own_form hos'
      have HP' : Hid (PairsAt v1 la' p') := pairs_of_own rfl hop'
      have HS' : Hid (RoomsAt v1 sa' k' S') := rooms_of_own hos'
      have HSN' : Hid (sa' = none → k' = 0 ∧ sc' = 0) := hsn'
      have HB1' : Hid (Below w.heap.size w v1) := after HBB.out hc1
      clear hop' hos' hsn' hc1
      obtain ⟨ok', hok'⟩ : ∃ z, z = berthOk p' k' S' y ct (u : Int) := ⟨_, rfl⟩
      obtain ⟨ln', hln'⟩ : ∃ z, z = berthAt p' k' S' y ct (u : Int) := ⟨_, rfl⟩
      have HOK' : Hid (ok' = berthOk p' k' S' y ct (u : Int)) := hok'
      have HLN' : Hid (ln' = berthAt p' k' S' y ct (u : Int)) := hln'
      obtain ⟨m', hpm'⟩ : ∃ m', m' = p'.n := ⟨_, rfl⟩
      have HPM' : Hid (p'.n = m') := hpm'.symm
      rw [← hpm'] at hp6' ⊢
      clear hok' hln' hpm'
      go_wp2_with fail
      refine (implPlaceB_any la' sa' m' lc' k' sc' p' S' y ct (u : Int) _ HPM'.out (by omega) (by omega) hsc' HP'.out HS'.out HSN'.out).mono ?_
      rintro e v2 ⟨⟨vy, hy2, hoy⟩, hc2⟩
      rw [← HOK'.out, ← HLN'.out] at hy2
      subst hy2
      have HP2' : Hid (PairsAt v2 la' p') := HP'.out.below hc2
      have HS2' : Hid (RoomsAt v2 sa' k' S') := HS'.out.below hc2
      have HB2' : Hid (Below w.heap.size w v2) := after HB1'.out hc2
      clear hc2 HP' HS' HB1'
      go_wp2_with fail
      refine (specPlaceB_any la' sa' m' lc' k' sc' p' S' y ct (u : Int) _ HPM'.out (by omega) (by omega) hsc' HP2'.out HS2'.out HSN'.out).mono ?_
      rintro e v3 ⟨⟨vz, hy3, _⟩, hc3⟩
      rw [← HOK'.out, ← HLN'.out] at hy3
      subst hy3
      have HP3' : Hid (PairsAt v3 la' p') := HP2'.out.below hc3
      have HS3' : Hid (RoomsAt v3 sa' k' S') := HS2'.out.below hc3
      have hoy3 := own_below hc3 hoy
      have HB3' : Hid (Below w.heap.size w v3) := after HB2'.out hc3
      clear hc3 HP2' HS2' HB2' hoy
      cases ok' with
      | false =>
        go_wp2
        go_ret
        exact ⟨rfl, HB3'.out⟩
      | true =>
        obtain ⟨K', ⟨hG', hF'⟩, q1, q2, q3⟩ := berth_some HOK'.out.symm
        rw [q2, q3] at hoy3
        have HK' : Hid (BerthG p' k' S' y ct (u : Int) ∧ FirstOf p'.n (BerthP p' k' S' ct (u : Int)) K') := ⟨hG', hF'⟩
        have hK' : K' < m' := by have := hF'.1; rw [HPM'.out] at this; exact this
        obtain rfl : ln' = (K' : Int) := HLN'.out.trans q1
        clear q1 q2 q3 hG' hF' HLN' HOK'
        have HGD' : Hid _ := berth_good HK'.out.1 HK'.out.2
        obtain ⟨ay, cy, rfl, hcy, _⟩ := own_form hoy3
        have HY : Hid (RoomsAt v3 ay (k' + 1) (roomCat S' k' (fun _ => ⟨y, (K' : Int), (u : Int), false⟩))) := rooms_of_own hoy3
        clear hoy3
        go_wp2_with fail
        refine (specBerths_any la' sa' m' lc' k' sc' p' S' _ HPM'.out (by omega) (by omega) hsc' HP3'.out HS3'.out).mono ?_
        rintro e v4 ⟨⟨vw, hy4, how⟩, hc4⟩
        rw [roomsOk_yes HK'.out.1.1.1] at hy4
        subst hy4
        rw [berthsLen_yes HK'.out.1.1.1, HPM'.out] at how
        obtain ⟨aw, cw, rfl, hcw, _⟩ := own_form how
        have HP4' : Hid (PairsAt v4 la' p') := HP3'.out.below hc4
        have HY4 : Hid (RoomsAt v4 ay (k' + 1) (roomCat S' k' (fun _ => ⟨y, (K' : Int), (u : Int), false⟩))) := HY.out.below hc4
        have HB4' : Hid (Below w.heap.size w v4) := after HB3'.out hc4
        have HW4 : Hid (IntsAt v4 aw m' (leftR p' S' k')) := own_ints how
        clear hc4 HP3' HS3' HY HB3' how
        go_wp2_with fail
        refine (implBerths_any la' ay m' lc' (k' + 1) cy p' (roomCat S' k' (fun _ => ⟨y, (K' : Int), (u : Int), false⟩)) _ HPM'.out (by omega) (by omega) hcy HP4'.out HY4.out).mono ?_
        rintro e v5 ⟨⟨vi, hy5, hoi⟩, hc5⟩
        rw [roomsOk_yes HGD'.out.1] at hy5
        subst hy5
        rw [berthsLen_yes HGD'.out.1, HPM'.out] at hoi
        obtain ⟨ai, ci, rfl, hci, _⟩ := own_form hoi
        have HI5 : Hid (IntsAt v5 ai m' (leftR p' (roomCat S' k' (fun _ => ⟨y, (K' : Int), (u : Int), false⟩)) (k' + 1))) := own_ints hoi
        have HW5 : Hid (IntsAt v5 aw m' (leftR p' S' k')) := HW4.out.below hc5
        have HB5' : Hid (Below w.heap.size w v5) := after HB4'.out hc5
        clear hc5 HP4' HY4 HW4 HB4' hoi
        obtain ⟨bi, oi, rfl, hci5⟩ := HI5.out K' hK'
        obtain ⟨bw, ow, rfl, hcw5⟩ := HW5.out K' hK'
        rw [HGD'.out.2.1] at hci5
        obtain ⟨L, hL⟩ : ∃ L, L = leftR p' S' k' K' := ⟨_, rfl⟩
        have hL0 : 0 ≤ L - (u : Int) := by rw [hL]; exact HGD'.out.2.2
        have hL4 : L ≤ 4 := by rw [hL]; exact (leftR_bounds HK'.out.1.1.1.1 HK'.out.1.1.1.2.1 HK'.out.1.1.1.manys HK'.out.2.1).2
        rw [← hL] at hci5 hcw5
        have hwr' : IntKind.i64.wrap (L - (u : Int)) = L - (u : Int) := by rw [IntKind.wrap_i64]; omega
        have hli := World.block_lt_of_cell? v5 _ hci5
        have hlw := World.block_lt_of_cell? v5 _ hcw5
        have z1 : ∀ g : Grown v5, g.val.cell? ⟨bi, oi + K', none⟩ = some (.int .i64 (L - (u : Int))) := fun g => (g.bel.cell hli).trans hci5
        have z2 : ∀ g : Grown v5, g.val.cell? ⟨bw, ow + K', none⟩ = some (.int .i64 L) := fun g => (g.bel.cell hlw).trans hcw5
        have j1 : (0 : Int) ≤ (K' : Int) := by omega
        have j2 : (K' : Int) < (m' : Int) := by omega
        have d1 : decide ((u : Int) ≤ L) = true := decide_eq_true (by omega)
        have d2 : ((L - (u : Int)) == (L - (u : Int))) = true := by simp
        clear hL hL0 hL4 hci5 hcw5 hli hlw HI5 HW5 HGD' HK'
        go_upto_region 21 with fail
        refine wp_region_grow (by kernel_rfl) (by kernel_rfl) ?_
        repeat (first | go_big_quiet_skip | (go_big_quiet_want; go_big_quiet_op; go_big_quiet_on))
        refine wpQuiet_nil ?_
        rintro _ ⟨g, rfl⟩
        go_wp2
        go_ret
        exact ⟨rfl, after HB5'.out g.bel⟩

end Go.Proofs.Ytaalhmaacaahhaa
