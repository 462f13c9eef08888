/-
  OWN TEXT: EarlyT, FitI.
-/
import Derived.Deep.RegionWith
import Derived.Test.YthcjfoaejomfaaaB30
import Derived.Test.YthcjfoaejomfaaaB25
import Derived.Test.YthcjfoaejomfaaaB20
namespace Go.Proofs.Ythcjfoaejomfaaa
open Go.RowKit

set_option maxHeartbeats 2500000 in
set_option maxRecDepth 100000 in
theorem specRoute_any (b off N c : Nat) (S : Nat → Sail) (fr tt : ByteArray) (t0 : Int) (w : World) (hN : N ≤ 1048576) (hs : ShortAll N S 1048576) (hfr : fr.size ≤ 1000000000000000) (htt : tt.size ≤ 1000000000000000) (hx : SailsAt w (some ⟨b, off, none⟩) N S) :
    Calls Try.prog 6 #[.slice (some ⟨b, off, none⟩) N c, .string fr, .string tt, .int .i64 t0] w fun e w' => RouteOut e w w' N S fr tt t0 := by
  obtain ⟨j0, ji, jz0, jz1, jz2⟩ := info_parts Try.infoInt
  obtain ⟨i0, ii, iz0, iz1, iz2⟩ := info_parts Try.infoIntS
  go_enter Try.func6, Try.ntmps6
  go_wp2_with fail
  refine (specTab_any _ N c S _ hN hs hx).mono ?_
  rintro e w1 ⟨⟨b1, rfl, hi1⟩, hb1⟩
  cases b1 with
  | false =>
    have HN : Hid (¬ GoodTab N S) := fun h => by have := hi1.2 h; cases this
    clear hi1
    go_wp2
    exact bodyPost_ret (v := .tuple #[.slice none 0 0, .bool false]) (by simp [results, Try.results6, go_sem]) rfl ⟨none, none, 0, .inl (fun h => HN.out h.1), rfl, World.ownsRow_nil _ _ _ _, hb1⟩
  | true =>
    have HT : Hid (GoodTab N S) := hi1.1 rfl
    clear hi1
    by_cases g1 : IsName fr
    case neg =>
      have fg1 : decide (IsName fr) = false := decide_eq_false g1
      have HN : Hid (¬ IsName fr) := g1
      clear g1
      go_wp2_with (first | (go_at_call 19; refine (l1Name_is _ _ (by first | exact hfr | exact htt)).mono ?_; rintro e w' ⟨rfl, hw'⟩; have hw' := hw'.symm; subst hw') | (go_at_call 20; refine (l1In_is _ _ _ _).mono ?_; rintro e w' ⟨rfl, hw'⟩; have hw' := hw'.symm; subst hw'))
      exact bodyPost_ret (v := .tuple #[.slice none 0 0, .bool false]) (by simp [results, Try.results6, go_sem]) rfl ⟨none, none, 0, .inl (fun h => HN.out h.2.1.1), rfl, World.ownsRow_nil _ _ _ _, hb1⟩
    have fg1 : decide (IsName fr) = true := decide_eq_true g1
    by_cases g2 : IsName tt
    case neg =>
      have fg2 : decide (IsName tt) = false := decide_eq_false g2
      have HN : Hid (¬ IsName tt) := g2
      clear g1 g2
      go_wp2_with (first | (go_at_call 19; refine (l1Name_is _ _ (by first | exact hfr | exact htt)).mono ?_; rintro e w' ⟨rfl, hw'⟩; have hw' := hw'.symm; subst hw') | (go_at_call 20; refine (l1In_is _ _ _ _).mono ?_; rintro e w' ⟨rfl, hw'⟩; have hw' := hw'.symm; subst hw'))
      exact bodyPost_ret (v := .tuple #[.slice none 0 0, .bool false]) (by simp [results, Try.results6, go_sem]) rfl ⟨none, none, 0, .inl (fun h => HN.out h.2.1.2.1), rfl, World.ownsRow_nil _ _ _ _, hb1⟩
    have fg2 : decide (IsName tt) = true := decide_eq_true g2
    by_cases g3 : fr ≠ tt
    case neg =>
      have fg3 : (fr.toList == tt.toList) = true := bytes_eq.2 (by simpa using g3)
      have HN : Hid (¬ fr ≠ tt) := g3
      clear g1 g2 g3
      go_wp2_with (first | (go_at_call 19; refine (l1Name_is _ _ (by first | exact hfr | exact htt)).mono ?_; rintro e w' ⟨rfl, hw'⟩; have hw' := hw'.symm; subst hw') | (go_at_call 20; refine (l1In_is _ _ _ _).mono ?_; rintro e w' ⟨rfl, hw'⟩; have hw' := hw'.symm; subst hw'))
      exact bodyPost_ret (v := .tuple #[.slice none 0 0, .bool false]) (by simp [results, Try.results6, go_sem]) rfl ⟨none, none, 0, .inl (fun h => HN.out h.2.1.2.2), rfl, World.ownsRow_nil _ _ _ _, hb1⟩
    have fg3 : (fr.toList == tt.toList) = false := bytes_ne.2 g3
    by_cases g4 : In t0 0 10000
    case neg =>
      have fg4 : decide (In t0 0 10000) = false := decide_eq_false g4
      have HN : Hid (¬ In t0 0 10000) := g4
      clear g1 g2 g3 g4
      go_wp2_with (first | (go_at_call 19; refine (l1Name_is _ _ (by first | exact hfr | exact htt)).mono ?_; rintro e w' ⟨rfl, hw'⟩; have hw' := hw'.symm; subst hw') | (go_at_call 20; refine (l1In_is _ _ _ _).mono ?_; rintro e w' ⟨rfl, hw'⟩; have hw' := hw'.symm; subst hw'))
      exact bodyPost_ret (v := .tuple #[.slice none 0 0, .bool false]) (by simp [results, Try.results6, go_sem]) rfl ⟨none, none, 0, .inl (fun h => HN.out h.2.2), rfl, World.ownsRow_nil _ _ _ _, hb1⟩
    have fg4 : decide (In t0 0 10000) = true := decide_eq_true g4
    have HU : Hid (Unlike fr tt ∧ In t0 0 10000) := ⟨⟨g1, g2, g3⟩, g4⟩
    clear g1 g2 g3 g4
    have N6 : N ≤ 6 := HT.out.1
    have HR : Hid (Rising N S) := rising_of HT.out
    obtain ⟨la, ca, lc, cc, hin⟩ := sails_at hx
    have HX : Hid (SailsIn w b off N S la ca lc cc) := hin
    have HXA : Hid (SailsAt w (some ⟨b, off, none⟩) N S) := hx
    clear hin hx hs
    have hbx : Below w.heap.size w ((w1.alloc (.cells #[] 3)).alloc (.cells #[.slice (some ⟨w1.heap.size, 0, none⟩) 0 0] 26)) := push (push hb1 _) _
    have H1 : Hid (L1 N S fr t0 tt w ((w1.alloc (.cells #[] 3)).alloc (.cells #[.slice (some ⟨w1.heap.size, 0, none⟩) 0 0] 26)) 0 [[]] [] none 0 (.slice none 0 0) (.slice (some ⟨w1.heap.size + 1, 0, none⟩) 1 1)) := by
      refine ⟨⟨fun _ => .slice (some ⟨w1.heap.size, 0, none⟩) 0 0, ⟨by simp, .inr ⟨w1.heap.size + 1, 1, _, rfl, by have := hb1.size; omega, by simpa using heap_alloc_new (w1.alloc _) _, Nat.le_refl _, by decide, rfl, by simp⟩⟩, fun i p hp => ?_⟩, level_zero, fun q hq => (by cases hq), fun q hq => (by cases hq), fun q _ h1 h2 => absurd (List.length_eq_zero_iff.1 (by omega)) h2, World.ownsRow_nil _ _ _ _, fun p hp => (by cases hp), by simp, hbx⟩
      have hp' : p = [] := by
        have h := List.mem_of_getElem? hp
        simpa using h
      subst hp'
      exact ⟨by simp [ids, cellsI_nil], .inr ⟨w1.heap.size, 0, #[], rfl, hb1.size, blk_alloc (heap_alloc_new w1 _) _, Nat.le_refl _, Nat.zero_le _, rfl, by simp [ids, cellsI_nil]⟩⟩
    clear hbx
    go_wp2_with (first | (go_at_call 19; refine (l1Name_is _ _ (by first | exact hfr | exact htt)).mono ?_; rintro e w' ⟨rfl, hw'⟩; have hw' := hw'.symm; subst hw') | (go_at_call 20; refine (l1In_is _ _ _ _).mono ?_; rintro e w' ⟨rfl, hw'⟩; have hw' := hw'.symm; subst hw'))
    go_loopw [10, 11, 12, 13, 14, 16, 18, 19] (fun s10 s11 s12 s13 _ _ _ _ wn => ∃ (n : Nat) (rows seen : List (List Nat)) (bst : Option (List Nat)) (lv : Int), n ≤ 3 ∧ s13 = .int .i64 n ∧ s11 = .int .i64 lv ∧ L1 N S fr t0 tt w wn n rows seen bst lv s10 s12) (fun _ _ _ s13 _ _ _ _ _ => 3 - (intOf s13).toNat)
    case atStart => exact ⟨0, [[]], [], none, 0, by omega, rfl, rfl, H1.out⟩
    case round =>
      obtain ⟨wn, ewn⟩ : ∃ x, x = wr := ⟨_, rfl⟩
      subst ewn
      obtain ⟨n, rows, seen, bst, lv, hn3, rfl, rfl, hl1⟩ := hrel
      have HL1 : Hid (L1 N S fr t0 tt w wn n rows seen bst lv u10 u12) := hl1
      clear hl1 H1 fg1 fg2 fg3 fg4 hb1
      by_cases hlt : n < 3
      · have dn : decide ((n : Int) < 3) = true := decide_eq_true (by omega)
        obtain ⟨ra, rc, erow, _⟩ := (show ∃ ao c, u12 = .slice ao rows.length c ∧ True by
          obtain ⟨vs, h1, _⟩ := HL1.out.row
          obtain ⟨ao, c, e, _⟩ := own_form h1
          exact ⟨ao, c, e, trivial⟩)
        subst erow
        have hrows : rows.length ≤ 36 := by
          have := HL1.out.few
          have h2 : n = 0 ∨ n = 1 ∨ n = 2 := by omega
          rcases h2 with rfl | rfl | rfl <;> simp at this <;> omega
        have HL2 : Hid (L2 N S fr t0 tt w wn wn n rows 0 0 [] seen bst lv u10 (.slice none 0 0)) := l2_start HL1.out
        go_wp2
        go_loopw [10, 11, 14, 16, 18, 19, 51] (fun s10 s11 s14 _ _ _ s51 wi => ∃ (i : Nat) (next : List (List Nat)) (b2 : Option (List Nat)) (l2 : Int), i ≤ rows.length ∧ s51 = .int .i64 i ∧ s11 = .int .i64 l2 ∧ L2 N S fr t0 tt w wn wi n rows i 0 next seen b2 l2 s10 s14) (fun _ _ _ _ _ _ s51 _ => rows.length - (intOf s51).toNat)
        case atStart => exact ⟨0, [], bst, lv, Nat.zero_le _, rfl, rfl, HL2.out⟩
        case round =>
          clear HL2
          obtain ⟨wi, ewi⟩ : ∃ x, x = wr := ⟨_, rfl⟩
          subst ewi
          obtain ⟨i, next0, b20, l20, hir, rfl, rfl, hl2⟩ := hrel
          have HL2 : Hid (L2 N S fr t0 tt w wn wi n rows i 0 next0 seen b20 l20 u10 u14) := hl2
          clear hl2
          by_cases hir2 : i < rows.length
          · obtain ⟨r, hr⟩ : ∃ r, rows[i]? = some r := ⟨_, List.getElem?_eq_getElem hir2⟩
            have HRI : Hid (rows[i]? = some r) := hr
            obtain ⟨vs, hro, hrl⟩ := HL1.out.row
            obtain ⟨rg, erg, _, hrg⟩ := own_addr hro (by omega)
            subst erg
            have p0 := (HL2.out.bel.cell (p := ⟨rg, i, none⟩) hrg).trans (own_cell hro i (by omega) (by omega))
            obtain ⟨va, vc, ev, hvi, hvn⟩ := (hrl i r hr).form
            rw [ev] at p0
            have HPR : Hid (Path N S fr t0 r ∧ r.length = n) := (HL1.out.lev.all r).1 (List.mem_of_getElem? hr)
            have HVI : Hid (IntsAt wn va r.length (getI (ids S r))) := hvi
            have hr2 : r.length ≤ 2 := by have := HPR.out.2; omega
            have i1 : (i : Int) < (rows.length : Int) := by omega
            have di : decide ((i : Int) < (rows.length : Int)) = true := decide_eq_true i1
            clear hr hro hrl ev hvi
            go_wp2
            clear p0
            go_loopw [10, 11, 14, 18, 19, 57] (fun s10 s11 s14 _ _ s57 wk => ∃ (k : Nat) (next : List (List Nat)) (b2 : Option (List Nat)) (l2 : Int), k ≤ N ∧ s57 = .int .i64 k ∧ s11 = .int .i64 l2 ∧ L2 N S fr t0 tt w wn wk n rows i k next seen b2 l2 s10 s14) (fun _ _ _ _ _ s57 _ => N - (intOf s57).toNat)
            case atStart => exact ⟨0, next0, b20, l20, Nat.zero_le _, rfl, rfl, HL2.out⟩
            case round =>
              clear HL2
              obtain ⟨k, next, b2, l2, hkN, rfl, rfl, hl2⟩ := hrel
              have HL2 : Hid (L2 N S fr t0 tt w wn wr n rows i k next seen b2 l2 u10 u14) := hl2
              clear hl2
              by_cases hk : k < N
              · obtain ⟨h0, h1, h2, h3, h4, h5, h6, h7⟩ := HX.out k hk
                have hb := World.block_lt_of_cell? w _ h1
                have hbw : Below w.heap.size w wr := after HL1.out.bel HL2.out.bel
                have c0 := (hbw.cell (p := ⟨b, off + k * 8, none⟩) hb).trans h0
                have c1 := (hbw.cell (p := ⟨b, off + k * 8 + 1, none⟩) hb).trans h1
                have c2 := (hbw.cell (p := ⟨b, off + k * 8 + 2, none⟩) hb).trans h2
                have c3 := (hbw.cell (p := ⟨b, off + k * 8 + 3, none⟩) hb).trans h3
                have c4 := (hbw.cell (p := ⟨b, off + k * 8 + 4, none⟩) hb).trans h4
                have c5 := (hbw.cell (p := ⟨b, off + k * 8 + 5, none⟩) hb).trans h5
                have c6 := (hbw.cell (p := ⟨b, off + k * 8 + 6, none⟩) hb).trans h6
                have c7 := (hbw.cell (p := ⟨b, off + k * 8 + 7, none⟩) hb).trans h7
                clear h0 h1 h2 h3 h4 h5 h6 h7
                have hbox0 := heap_alloc_new wr (.cells #[.int .i64 (S k).id, .string (S k).fr, .string (S k).dst, .int .i64 (S k).dep, .int .i64 (S k).arr, .slice (la k) (S k).la.n (lc k), .slice (ca k) (S k).ca.n (cc k), .int .i64 (S k).most] 33)
                have hbW0 := push (Below.refl _ wr) (.cells #[.int .i64 (S k).id, .string (S k).fr, .string (S k).dst, .int .i64 (S k).dep, .int .i64 (S k).arr, .slice (la k) (S k).la.n (lc k), .slice (ca k) (S k).ca.n (cc k), .int .i64 (S k).most] 33)
                go_upto_region 16 with fail
                generalize hWg : wr.alloc (.cells #[.int .i64 (S k).id, .string (S k).fr, .string (S k).dst, .int .i64 (S k).dep, .int .i64 (S k).arr, .slice (la k) (S k).la.n (lc k), .slice (ca k) (S k).ca.n (cc k), .int .i64 (S k).most] 33) = W at hbox0 hbW0 ⊢
                clear hWg c0 c1 c2 c3 c4 c5 c6 c7
                have HVC : Hid (∀ w', Below W.heap.size W w' → ∀ ad, va = some ad → ∀ j u, (cellsI (ids S r))[j]? = some u → w'.cell? (ad.add j) = some u) := fun w' hw' => ints_cells (by rw [ids_length]; exact ((HVI.out.below HL2.out.bel).below hbW0).below hw')
                have HLEN : Hid ((cellsI (ids S r)).length = r.length * 1) := by rw [Hid, cellsI_length, ids_length, Nat.mul_one]
                have HXS : Hid (r.length = 0 → cellsI (ids S r) = []) := fun h => by have : r = [] := List.length_eq_zero_iff.1 h; subst this; rfl
                have q0 := blk_cell hbox0 0 _ rfl
                have hwrW : wr.heap.size < W.heap.size := blk_lt hbox0
                have QA : Hid (∀ w', Below W.heap.size W w' → w'.cell? ⟨wr.heap.size, 0, none⟩ = some (.int .i64 (S k).id)) := fun w' hw' => (hw'.cell (p := ⟨wr.heap.size, 0, none⟩) hwrW).trans q0
                go_cut [10, 11, 14, 18, 19, 57] (fun s10 s11 s14 s18 s19 s57 wx => s10 = u10 ∧ s11 = .int .i64 l2 ∧ s14 = u14 ∧ s18 = .pointer (some ⟨wr.heap.size, 0, none⟩) ∧ s57 = .int .i64 k ∧ LegRow wx wn.heap.size S s19 (r ++ [k]) ∧ Below W.heap.size W wx)
                case first =>
                  have hwn : wn.heap.size ≤ W.heap.size := Nat.le_trans HL2.out.bel.size hbW0.size
                  clear HL1 HL2 HX HXA HT HU HR HRI HPR HVI hbox0
                  go_region_law (first | (refine step_append_spec (by rfl) (.tmp 63) (.tmp 66) 26 (by rfl) W.heap.size 3 j0 (.int .i64 0) 8 Try.underlying26 ji jz0 jz1 jz2 rfl ao1 r.length e1 (cellsI (ids S r)) (by rfl) ?_ nilA HXS.out _ (.int .i64 (S k).id) (by rfl) ?_ rfl ?_ ?_ ?_ ?_; (focus (first | with_reducible exact srA | with_reducible exact srA.alloc _)); (focus (first | (simp [go_sem, Addr.add_lit]; done) | (refine World.grownBy.cell hgA ?_ (by simp); simp [go_sem, Addr.add_lit]))); (focus (unfold maxLen; omega)); (focus omega); (focus (have hszA := hbA.size; first | exact hszA | (simp; omega))); intro v2 w5 ho5 hfar; have hb5 : Below W.heap.size W w5 := hfar W (by (repeat (first | with_reducible exact hbA | with_reducible refine push ?_ _ | with_reducible refine Below.drew ?_))) (Nat.le_refl _); have HO5 : Hid (LegRow w5 wn.heap.size S v2 (r ++ [k])) := leg_of ho5 hwn) | (refine step_append_empty (by rfl) (.tmp 61) (.tmp 62) 26 (by rfl) 3 j0 (.int .i64 0) 1 8 Try.underlying26 ji jz0 jz1 jz2 rfl (by decide) _ (by rfl) va r.length vc (cellsI (ids S r)) (by rfl) hvn HLEN.out ?_ (cellsI_one _) ?_ ?_ ?_; (focus (exact HVC.out _ (by (repeat (first | with_reducible exact Below.refl _ _ | with_reducible refine Below.drew ?_ | with_reducible refine push ?_ _ | with_reducible refine after ?_ (grown_below hgA)))))); (focus (unfold maxLen; omega)); (focus omega); intro ao1 e1 wA hgA hcA1 hcA2 hrA; have hbA : Below W.heap.size W wA := (by (repeat (first | with_reducible exact Below.refl _ _ | with_reducible refine Below.drew ?_ | with_reducible refine push ?_ _ | with_reducible refine after ?_ (grown_below hgA)))); have srA : SpecRow wA W.heap.size 3 1 (.slice ao1 r.length e1) r.length (cellsI (ids S r)) := hrA.base (by simp <;> omega); have nilA := srA.nil; have qA := QA.out _ hbA))
                  all_goals (go_wp2; go_meet; exact ⟨rfl, rfl, rfl, rfl, rfl, HO5.out, hb5⟩)
                case rest =>
                  obtain ⟨rfl, rfl, rfl, rfl, rfl, hleg, hb5⟩ := hcut
                  obtain ⟨w5, ew5⟩ : ∃ y, y = wc := ⟨_, rfl⟩
                  subst ew5
                  have HLG : Hid (LegRow w5 wn.heap.size S u19 (r ++ [k])) := hleg
                  obtain ⟨xa, xc, ex, hxi, _⟩ := hleg.form
                  have hlen : (r ++ [k]).length = r.length + 1 := by simp
                  rw [hlen] at ex hxi
                  subst ex
                  have hb05 := after hbW0 hb5
                  have HL5 : Hid (L2 N S fr t0 tt w wn w5 n rows i k next seen b2 l2 u10 u14) := HL2.out.below hb05
                  have hbox5 := blk_below hbox0 hb5
                  have hbw5 : Below w.heap.size w w5 := after hbw hb05
                  have HXI : Hid (IntsAt w5 xa (r.length + 1) (getI (ids S (r ++ [k])))) := hxi
                  have GO : Hid (Path N S fr t0 (r ++ [k]) ↔ LegsOk N S (r.length + 1) (getI (ids S (r ++ [k]))) ∧ ∀ j, (r ++ [k]).head? = some j → (S j).fr = fr ∧ t0 ≤ (S j).dep) := goes_on HR.out HPR.out.1 hr2 hk
                  clear hleg hxi hlen hb05 hb5 hbox0 hbW0 hbw HL2 HVC HLEN HXS QA q0 hwrW
                  go_wp2_with fail
                  refine (l3Fit_any _ _ N (r.length + 1) c xc S (getI (ids S (r ++ [k]))) _ hN (by omega) (HXA.out.below hbw5) HXI.out).mono ?_
                  rintro e w6 ⟨⟨bf, rfl, hif⟩, hb6⟩
                  cases bf with
                  | false =>
                    have HNP : Hid (¬ Path N S fr t0 (r ++ [k])) := fun h => by have := hif.2 (GO.out.1 h).1; cases this
                    clear hif
                    go_wp2
                    go_roundw
                    case rel => exact ⟨k + 1, next, b2, l2, by omega, by go_num, rfl, l2_skip HL5.out hb6 HRI.out HNP.out⟩
                    case measure => simp [intOf]; omega
                  | true =>
                    have HFT : Hid (LegsOk N S (r.length + 1) (getI (ids S (r ++ [k])))) := hif.1 rfl
                    clear hif
                    obtain ⟨hd, hhd⟩ : ∃ h, (r ++ [k]).head? = some h := by cases r with
                      | nil => exact ⟨k, rfl⟩
                      | cons a r => exact ⟨a, rfl⟩
                    have hdN : hd < N := by
                      have h := List.mem_of_head? hhd
                      rcases List.mem_append.1 h with h | h
                      · exact path_lt HPR.out.1 hd h
                      · simp at h; omega
                    have HHD : Hid ((r ++ [k]).head? = some hd) := hhd
                    have hg0 : getI (ids S (r ++ [k])) 0 = (S hd).id := by
                      rw [getI_ids (by simp)]
                      rw [List.head?_eq_getElem?, List.getElem?_eq_getElem (by simp)] at hhd
                      have hh : (r ++ [k])[0]'(by simp) = hd := by simpa using hhd
                      rw [hh]
                    obtain ⟨xb, xo, exa, hx0⟩ := HXI.out 0 (by omega)
                    subst exa
                    rw [hg0, Nat.add_zero] at hx0
                    have hxb := World.block_lt_of_cell? w5 _ hx0
                    have x6 := (hb6.cell (p := ⟨xb, xo, none⟩) hxb).trans hx0
                    have hw6 := after hbw5 hb6
                    have FID : Hid (findIx S (S hd).id N = hd) := findIx_id HR.out hdN
                    obtain ⟨_, s1, _, s3, _⟩ := HX.out hd hdN
                    have hsb := World.block_lt_of_cell? w _ s1
                    have hd1 : (hd : Int) < (N : Int) := by omega
                    have hd0 : (0 : Int) ≤ (hd : Int) := by omega
                    clear hhd hg0
                    go_wp2_with fail
                    refine (l3At_any _ N c S (S hd).id _ hN (HXA.out.below hw6)).mono ?_
                    rintro e w7 ⟨hr7, hb7⟩
                    rcases hr7 with ⟨_, rfl⟩ | ⟨h7, rfl⟩
                    case inr => exfalso; have := FID.out; omega
                    rw [FID.out]
                    have hw7 := after hw6 hb7
                    have x7 := ((after hb6 hb7).cell (p := ⟨xb, xo, none⟩) hxb).trans hx0
                    have t1 := (hw7.cell (p := ⟨b, off + hd * 8 + 1, none⟩) hsb).trans s1
                    clear x6
                    by_cases hf : (S hd).fr = fr
                    case neg =>
                      have ef : ((S hd).fr.toList == fr.toList) = false := bytes_ne.2 hf
                      have HNP : Hid (¬ Path N S fr t0 (r ++ [k])) := fun h => hf ((GO.out.1 h).2 hd HHD.out).1
                      clear hf
                      go_wp2
                      go_roundw
                      case rel => exact ⟨k + 1, next, b2, l2, by omega, by go_num, rfl, l2_skip HL5.out (after hb6 hb7) HRI.out HNP.out⟩
                      case measure => simp [intOf]; omega
                    have ef : ((S hd).fr.toList == fr.toList) = true := bytes_eq.2 hf
                    have HF : Hid ((S hd).fr = fr) := hf
                    clear hf
                    go_wp2_with fail
                    refine (l3At_any _ N c S (S hd).id _ hN (HXA.out.below hw7)).mono ?_
                    rintro e w8 ⟨hr8, hb8⟩
                    rcases hr8 with ⟨_, rfl⟩ | ⟨h8, rfl⟩
                    case inr => exfalso; have := FID.out; omega
                    rw [FID.out]
                    have hw8 := after hw7 hb8
                    have h58 := after (after hb6 hb7) hb8
                    have t3 := (hw8.cell (p := ⟨b, off + hd * 8 + 3, none⟩) hsb).trans s3
                    clear x7 t1 ef
                    by_cases hdp : t0 ≤ (S hd).dep
                    case neg =>
                      have ed : decide ((S hd).dep < t0) = true := by simp; omega
                      have HNP : Hid (¬ Path N S fr t0 (r ++ [k])) := fun h => hdp ((GO.out.1 h).2 hd HHD.out).2
                      clear hdp
                      go_wp2
                      go_roundw
                      case rel => exact ⟨k + 1, next, b2, l2, by omega, by go_num, rfl, l2_skip HL5.out h58 HRI.out HNP.out⟩
                      case measure => simp [intOf]; omega
                    have ed : decide ((S hd).dep < t0) = false := by simp; omega
                    have HPA : Hid (Path N S fr t0 (r ++ [k])) := GO.out.2 ⟨HFT.out, fun j hj => by
                      rw [HHD.out] at hj
                      cases hj
                      exact ⟨HF.out, hdp⟩⟩
                    clear hdp
                    have HL8 : Hid (L2 N S fr t0 tt w wn w8 n rows i k next seen b2 l2 u10 u14) := HL5.out.below h58
                    have hnb := push (Below.refl _ w8) (.cells #[.slice (some ⟨xb, xo, none⟩) (r.length + 1) xc] 26)
                    obtain ⟨vs, hno, hnl⟩ := HL8.out.nxt
                    have OWN : Hid ((w8.alloc (.cells #[.slice (some ⟨xb, xo, none⟩) (r.length + 1) xc] 26)).ownsRow wn.heap.size 26 1 u14 next.length ((List.range next.length).map vs)) := own_below hnb hno
                    have LEGS : Hid (∀ i p, next[i]? = some p → LegRow (w8.alloc (.cells #[.slice (some ⟨xb, xo, none⟩) (r.length + 1) xc] 26)) wn.heap.size S (vs i) p) := fun i p hp => (hnl i p hp).below hnb
                    have LX : Hid (LegRow (w8.alloc (.cells #[.slice (some ⟨xb, xo, none⟩) (r.length + 1) xc] 26)) wn.heap.size S (.slice (some ⟨xb, xo, none⟩) (r.length + 1) xc) (r ++ [k])) := (HLG.out.below h58).below hnb
                    have HB8 : Hid ((w8.alloc (.cells #[.slice (some ⟨xb, xo, none⟩) (r.length + 1) xc] 26)).heap[wr.heap.size]? = _) := blk_alloc (blk_below hbox5 h58) _
                    have HBW : Hid (Below wn.heap.size wn (w8.alloc (.cells #[.slice (some ⟨xb, xo, none⟩) (r.length + 1) xc] 26))) := push HL8.out.bel _
                    have hsz8 := HBW.out.size
                    have NEWS : Hid (∀ ad, (some ⟨w8.heap.size, 0, none⟩ : Option Addr) = some ad → ∀ j u, [Value.slice (some ⟨xb, xo, none⟩) (r.length + 1) xc][j]? = some u → (w8.alloc (.cells #[.slice (some ⟨xb, xo, none⟩) (r.length + 1) xc] 26)).cell? (ad.add j) = some u) := fun ad e => by cases e; exact World.news_of_block (heap_alloc_new w8 _)
                    have ONE : Hid (∀ u ∈ [Value.slice (some ⟨xb, xo, none⟩) (r.length + 1) xc], u.oneCell' = true) := by intro u hu; simp at hu; subst hu; rfl
                    have BAT : Hid (LegRow (w8.alloc (.cells #[.slice (some ⟨xb, xo, none⟩) (r.length + 1) xc] 26)) w.heap.size S u10 (b2.getD [])) := HL8.out.bat.below hnb
                    have hfew := HL8.out.few
                    have BN : Hid ((b2.getD []).length = 0 ↔ b2 = none) := l2_bnil HL1.out HL8.out
                    have AH : Hid (∀ q, q ∈ seen ++ next → Ahead q (r ++ [k])) := l2_ahead HL1.out HL8.out HRI.out
                    have PL : Hid (placeOf S fr (r ++ [k]) = (S k).dst) := placeOf_snoc _ _ _ _
                    have TI : Hid (timeOf S t0 (r ++ [k]) = (S k).arr) := timeOf_snoc _ _ _ _
                    obtain ⟨ba, bc, eb, _, _⟩ := HL8.out.bat.form
                    subst eb
                    clear hno hnl hnb hx0 hw8 hw7 hw6 h58 hb6 hb7 hb8 s1 s3 HL5 hbox5 hbw5 HXI HFT HF
                    have hi36 : i * 6 + k ≤ 1000 := by omega
                    by_cases g1 : (S k).dst = tt
                    case neg =>
                      have e1 : ((S k).dst.toList == tt.toList) = false := bytes_ne.2 g1
                      have G1 : Hid (¬ (S k).dst = tt) := g1
                      clear g1
                      go_wp2_with (first | (at_builtin; refine wpList_append_any _ (by rfl) (.tmp 98) (.tmp 100) 52 (by rfl) wn.heap.size 26 i0 (.slice none 0 0) 1 24 Try.underlying52 ii iz0 iz1 iz2 rfl (by decide) _ next.length _ (by rfl) OWN.out (some ⟨w8.heap.size, 0, none⟩) 1 1 [.slice (some ⟨xb, xo, none⟩) (r.length + 1) xc] (by rfl) (fun h => (by cases h)) (by rfl) NEWS.out ONE.out (by unfold maxLen; omega) (by omega) hsz8 ?_; intro v' w9 ho9 hg9; have hbox9 := grown_blk hg9 HB8.out (box_apart HB8.out OWN.out (by decide)); have d2 := blk_cell hbox9 2 _ rfl; have d4 := blk_cell hbox9 4 _ rfl))
                      go_roundw
                      case rel => exact ⟨k + 1, next ++ [r ++ [k]], b2, l2, by omega, by go_num, rfl, l2_add HL1.out.lev HL8.out HRI.out HPA.out (rows_snoc OWN.out LEGS.out LX.out hg9 ho9) (by rw [← List.append_assoc]; exact bestIn_other HL8.out.best (by rw [PL.out]; exact G1.out)) (leg_grown BAT.out OWN.out hg9) HL8.out.least (HBW.out.grown hg9 hsz8 (fun j hj => (OWN.out.lt j hj).1))⟩
                      case measure => simp [intOf]; omega
                    have e1 : ((S k).dst.toList == tt.toList) = true := bytes_eq.2 g1
                    have G1 : Hid ((S k).dst = tt) := g1
                    clear g1
                    by_cases g2 : (b2.getD []).length = 0
                    case pos =>
                      have e2 : (((b2.getD []).length : Int) == 0) = true := by rw [g2]; rfl
                      have G2 : Hid (b2 = none) := BN.out.1 g2
                      clear g2
                      go_wp2_with (first | (at_builtin; refine wpList_append_any _ (by rfl) (.tmp 98) (.tmp 100) 52 (by rfl) wn.heap.size 26 i0 (.slice none 0 0) 1 24 Try.underlying52 ii iz0 iz1 iz2 rfl (by decide) _ next.length _ (by rfl) OWN.out (some ⟨w8.heap.size, 0, none⟩) 1 1 [.slice (some ⟨xb, xo, none⟩) (r.length + 1) xc] (by rfl) (fun h => (by cases h)) (by rfl) NEWS.out ONE.out (by unfold maxLen; omega) (by omega) hsz8 ?_; intro v' w9 ho9 hg9; have hbox9 := grown_blk hg9 HB8.out (box_apart HB8.out OWN.out (by decide)); have d2 := blk_cell hbox9 2 _ rfl; have d4 := blk_cell hbox9 4 _ rfl))
                      go_roundw
                      case rel => exact ⟨k + 1, next ++ [r ++ [k]], some (r ++ [k]), (S k).arr, by omega, by go_num, rfl, l2_add HL1.out.lev HL8.out HRI.out HPA.out (rows_snoc OWN.out LEGS.out LX.out hg9 ho9) (by rw [← List.append_assoc]; exact bestIn_first (by have h := HL8.out.best; rw [G2.out] at h; exact h) (by rw [PL.out]; exact G1.out)) (leg_grown (own_base LX.out HL1.out.bel.size) OWN.out hg9) (fun p hp => by cases hp; exact TI.out.symm) (HBW.out.grown hg9 hsz8 (fun j hj => (OWN.out.lt j hj).1))⟩
                      case measure => simp [intOf]; omega
                    have e2 : (((b2.getD []).length : Int) == 0) = false := beq_eq_false_iff_ne.2 (by omega)
                    obtain ⟨bp, hbp⟩ : ∃ bp, b2 = some bp := by cases h : b2 with
                      | none => exact absurd (BN.out.2 h) g2
                      | some bp => exact ⟨bp, rfl⟩
                    have HBP : Hid (b2 = some bp) := hbp
                    clear g2 hbp
                    by_cases g3 : (S k).arr < l2
                    case pos =>
                      have e3 : decide ((S k).arr < l2) = true := by simpa using g3
                      have G3 : Hid ((S k).arr < l2) := g3
                      clear g3
                      go_wp2_with (first | (at_builtin; refine wpList_append_any _ (by rfl) (.tmp 98) (.tmp 100) 52 (by rfl) wn.heap.size 26 i0 (.slice none 0 0) 1 24 Try.underlying52 ii iz0 iz1 iz2 rfl (by decide) _ next.length _ (by rfl) OWN.out (some ⟨w8.heap.size, 0, none⟩) 1 1 [.slice (some ⟨xb, xo, none⟩) (r.length + 1) xc] (by rfl) (fun h => (by cases h)) (by rfl) NEWS.out ONE.out (by unfold maxLen; omega) (by omega) hsz8 ?_; intro v' w9 ho9 hg9; have hbox9 := grown_blk hg9 HB8.out (box_apart HB8.out OWN.out (by decide)); have d2 := blk_cell hbox9 2 _ rfl; have d4 := blk_cell hbox9 4 _ rfl))
                      go_roundw
                      case rel => exact ⟨k + 1, next ++ [r ++ [k]], some (r ++ [k]), (S k).arr, by omega, by go_num, rfl, l2_add HL1.out.lev HL8.out HRI.out HPA.out (rows_snoc OWN.out LEGS.out LX.out hg9 ho9) (by rw [← List.append_assoc]; exact bestIn_better (by have h := HL8.out.best; rw [HBP.out] at h; exact h) (by rw [PL.out]; exact G1.out) (by rw [TI.out, ← HL8.out.least bp HBP.out]; exact G3.out)) (leg_grown (own_base LX.out HL1.out.bel.size) OWN.out hg9) (fun p hp => by cases hp; exact TI.out.symm) (HBW.out.grown hg9 hsz8 (fun j hj => (OWN.out.lt j hj).1))⟩
                      case measure => simp [intOf]; omega
                    have e3 : decide ((S k).arr < l2) = false := by simpa using g3
                    have G3 : Hid (¬ (S k).arr < l2) := g3
                    clear g3
                    go_wp2_with (first | (at_builtin; refine wpList_append_any _ (by rfl) (.tmp 98) (.tmp 100) 52 (by rfl) wn.heap.size 26 i0 (.slice none 0 0) 1 24 Try.underlying52 ii iz0 iz1 iz2 rfl (by decide) _ next.length _ (by rfl) OWN.out (some ⟨w8.heap.size, 0, none⟩) 1 1 [.slice (some ⟨xb, xo, none⟩) (r.length + 1) xc] (by rfl) (fun h => (by cases h)) (by rfl) NEWS.out ONE.out (by unfold maxLen; omega) (by omega) hsz8 ?_; intro v' w9 ho9 hg9; have hbox9 := grown_blk hg9 HB8.out (box_apart HB8.out OWN.out (by decide)); have d2 := blk_cell hbox9 2 _ rfl; have d4 := blk_cell hbox9 4 _ rfl))
                    go_roundw
                    case rel => exact ⟨k + 1, next ++ [r ++ [k]], b2, l2, by omega, by go_num, rfl, l2_add HL1.out.lev HL8.out HRI.out HPA.out (rows_snoc OWN.out LEGS.out LX.out hg9 ho9) (by rw [← List.append_assoc]; exact (by have h := HL8.out.best; rw [HBP.out] at h ⊢; exact bestIn_worse h AH.out (by rw [TI.out, ← HL8.out.least bp HBP.out]; have := G3.out; omega))) (leg_grown BAT.out OWN.out hg9) HL8.out.least (HBW.out.grown hg9 hsz8 (fun j hj => (OWN.out.lt j hj).1))⟩
                    case measure => simp [intOf]; omega
              · obtain rfl : k = N := by omega
                go_wp2
                go_roundw
                case rel => exact ⟨i + 1, next, b2, l2, by omega, by go_num, rfl, l2_row N6 HL2.out⟩
                case measure => simp [intOf]; omega
          · obtain rfl : i = rows.length := by omega
            go_wp2
            go_roundw
            case rel => exact ⟨n + 1, next0, seen ++ next0, b20, l20, by omega, by go_num, rfl, l2_end HL1.out HL2.out⟩
            case measure => simp [intOf]; omega
      · obtain rfl : n = 3 := by omega
        have dn : decide ((3 : Int) < 3) = false := rfl
        have HB : Hid (LegRow wn w.heap.size S u10 (bst.getD [])) := HL1.out.bat
        obtain ⟨ba, bc, eb, hbi, hbn⟩ := HL1.out.bat.form
        subst eb
        have HBI : Hid (IntsAt wn ba (bst.getD []).length (getI (ids S (bst.getD [])))) := hbi
        have BN : Hid ((bst.getD []).length = 0 ↔ bst = none) := by
          cases hb : bst with
          | none => simp [Hid]
          | some p =>
            have hp := HL1.out.best
            rw [hb] at hp
            have hne := (HL1.out.is p hp.1).2.2
            simp [Hid, hne]
        have HANS : Hid (AnsIs N S fr tt t0 bst) := by
          cases hb : bst with
          | none =>
            have h := HL1.out.best
            rw [hb] at h
            exact .inr (bestIn_none h HL1.out.all HU.out.1.2.2)
          | some p =>
            have h := HL1.out.best
            rw [hb] at h
            exact ⟨⟨HT.out, HU.out.1, HU.out.2⟩, bestIn_some h (fun q hq => ⟨(HL1.out.is q hq).1, (HL1.out.is q hq).2.1⟩) HL1.out.all HU.out.1.2.2⟩
        have hl3 : (bst.getD []).length ≤ 3 := by
          cases hb : bst with
          | none => simp
          | some p =>
            have hp := HL1.out.best
            rw [hb] at hp
            exact (HL1.out.is p hp.1).2.1
        have hb2 := push (Below.refl _ wn) (.cells #[] 3)
        have hbel2 := after HL1.out.bel hb2
        have hsz := hbel2.size
        have OWN : Hid ((wn.alloc (.cells #[] 3)).ownsRow w.heap.size 3 1 (.slice (some ⟨wn.heap.size, 0, none⟩) 0 0) 0 []) := ⟨by simp, .inr ⟨wn.heap.size, 0, #[], rfl, HL1.out.bel.size, heap_alloc_new wn _, Nat.le_refl _, Nat.zero_le _, rfl, by simp⟩⟩
        have HC : Hid (∀ ad, ba = some ad → ∀ j u, (cellsI (ids S (bst.getD [])))[j]? = some u → (wn.alloc (.cells #[] 3)).cell? (ad.add j) = some u) := ints_cells (by rw [ids_length]; exact HBI.out.below hb2)
        have HLEN : Hid ((cellsI (ids S (bst.getD []))).length = (bst.getD []).length * 1) := by rw [Hid, cellsI_length, ids_length, Nat.mul_one]
        have DL : ∀ c : Bool, decide (0 < (bst.getD []).length) = c → c = bst.isSome := by
          intro c hc
          subst hc
          cases hb : bst with
          | none => simp
          | some p =>
            have := BN.out
            rw [hb] at this
            have hne : p.length ≠ 0 := fun h => by have := this.1 h; cases this
            simp
            exact Nat.pos_of_ne_zero hne
        have DLH : Hid (∀ c : Bool, decide (0 < (bst.getD []).length) = c → c = bst.isSome) := DL
        clear DL hbi HBI HB hb2
        go_wp2_with (first | (at_builtin; refine wpList_append_any _ (by rfl) (.tmp 123) (.tmp 124) 26 (by rfl) w.heap.size 3 j0 (.int .i64 0) 1 8 Try.underlying26 ji jz0 jz1 jz2 rfl (by decide) _ 0 [] (by rfl) OWN.out ba (bst.getD []).length bc (cellsI (ids S (bst.getD []))) (by rfl) hbn HLEN.out HC.out (cellsI_one _) (by unfold maxLen; omega) (by omega) hsz ?_; intro v' w3 ho3 hg3))
        rw [Nat.zero_add, List.nil_append] at ho3
        obtain ⟨va3, vc3, e3, _⟩ := own_form ho3
        subst e3
        have HO3 : Hid (w3.ownsRow w.heap.size 3 1 (.slice va3 (bst.getD []).length vc3) (bst.getD []).length (cellsI (ids S (bst.getD [])))) := ho3
        have hbel3 : Below w.heap.size w w3 := hbel2.grown hg3 hsz (fun j hj => (OWN.out.lt j hj).1)
        clear ho3 hg3
        refine bodyPost_ret (v := .tuple #[.slice va3 (bst.getD []).length vc3, .bool (decide (0 < (bst.getD []).length))]) (by simp [results, Try.results6, go_sem]) rfl ⟨bst, va3, vc3, HANS.out, ?_, HO3.out, hbel3⟩
        rw [DLH.out _ rfl]

end Go.Proofs.Ythcjfoaejomfaaa

namespace Go.Proofs.Ythcjfoaejomfaaa
open Go.RowKit

/-- The way so far: k legs, the place and the time where it comes. -/
def WayIs (N : Nat) (S : Nat → Sail) (G : Nat → Int) (w : World) (B k : Nat) : Prop :=
  ∃ la lc ls pl t, w.heap[B]? = some (.cells #[.slice la k lc, .string pl, .int .i64 t] 50 (0, 0)) ∧ ls.length = k ∧ IntsAt w la k (getI ls) ∧ (la = none → k = 0 ∧ lc = 0) ∧
    (0 < k → pl = (S (findIx S (G (k - 1)) N)).dst ∧ t = (S (findIx S (G (k - 1)) N)).arr)

set_option maxHeartbeats 3200000 in
set_option maxRecDepth 100000 in
theorem implFit_any (ao bo : Option Addr) (N n c c' : Nat) (S : Nat → Sail) (G : Nat → Int) (w : World) (hN : N ≤ 1048576) (hn : n ≤ 1048576) (hs : ShortAll N S 1048576) (hx : SailsAt w ao N S) (hy : IntsAt w bo n G) :
    Calls Try.prog 8 #[.slice ao N c, .slice bo n c'] w fun e w' => SaysIf (GoodTab N S ∧ LegsOk N S n G) e ∧ Below w.heap.size w w' := by
  have HS : Hid (ShortAll N S 1048576) := hs
  clear hs
  go_enter Try.func8, Try.ntmps8
  go_wp2_with fail
  refine (implTab_any ao N c S _ hN HS.out hx).mono ?_
  rintro e w1 ⟨⟨b1, rfl, hi1⟩, hb1⟩
  cases b1 with
  | false =>
    have HN : Hid (¬ GoodTab N S) := fun h => by have := hi1.2 h; cases this
    clear hi1
    go_wp2
    go_ret
    exact ⟨says_no (fun h => HN.out h.1), hb1⟩
  | true =>
    have HT : Hid (GoodTab N S) := hi1.1 rfl
    clear hi1
    by_cases g3 : In (n : Int) 1 3
    case neg =>
      have d3 : decide (In (n : Int) 1 3) = false := decide_eq_false g3
      have HN : Hid (¬ LegsOk N S n G) := fun h => g3 ⟨by have := h.1; omega, by have := h.2.1; omega⟩
      clear g3
      go_wp2_with (first | (go_at_call 17; refine (within_is _ _ _ _).mono ?_; rintro e w' ⟨rfl, hw'⟩; have hw' := hw'.symm; subst hw'))
      go_ret
      exact ⟨says_no (fun h => HN.out h.2), hb1⟩
    have d3 : decide (In (n : Int) 1 3) = true := decide_eq_true g3
    have H3 : Hid (1 ≤ n ∧ n ≤ 3) := ⟨by have := g3.1; omega, by have := g3.2; omega⟩
    have hn3 : n ≤ 3 := H3.out.2
    clear g3
    go_wp2_with (first | (go_at_call 17; refine (within_is _ _ _ _).mono ?_; rintro e w' ⟨rfl, hw'⟩; have hw' := hw'.symm; subst hw'))
    have hb0 : Below w.heap.size w (w1.alloc (.cells #[.slice none 0 0, .string ⟨#[]⟩, .int .i64 0] 50)) := push hb1 _
    have hbx0 := heap_alloc_new w1 (.cells #[.slice none 0 0, .string ⟨#[]⟩, .int .i64 0] 50)
    have hB : w.heap.size ≤ w1.heap.size := hb1.size
    go_loopw [6, 7, 8, 9, 21] (fun _ _ _ _ i wr => ∃ k : Nat, k ≤ n ∧ i = .int .i64 k ∧ (∀ j, j < k → LegOk N S G j) ∧ WayIs N S G wr w1.heap.size k ∧ Below w.heap.size w wr) (fun _ _ _ _ i _ => n - (intOf i).toNat)
    case atStart => exact ⟨0, Nat.zero_le _, rfl, fun j hj => by omega, ⟨none, 0, [], ⟨#[]⟩, 0, hbx0, rfl, fun k hk => by omega, fun _ => ⟨rfl, rfl⟩, fun h => by omega⟩, hb0⟩
    case round =>
      clear hb0 hbx0 d3 hb1
      obtain ⟨k, hk, rfl, hall, hway, hbel⟩ := hrel
      have HA : Hid (∀ j, j < k → LegOk N S G j) := hall
      have HW : Hid (WayIs N S G wr w1.heap.size k) := hway
      clear hall hway
      by_cases hlt : k < n
      · obtain ⟨qb, qoff, rfl, hq⟩ := hy k hlt
        have hqb := World.block_lt_of_cell? w _ hq
        have p0 := (hbel.cell (p := ⟨qb, qoff + k, none⟩) hqb).trans hq
        clear hq
        go_wp2_with fail
        refine (findSailing_any ao N c S (G k) _ hN (hx.below hbel)).mono ?_
        rintro e w2 ⟨hr, hb2⟩
        obtain ⟨la, lc, ls, pl, t, hbox, hls, hints, hna, hpos⟩ := HW.out
        have hbox := blk_below hbox hb2
        have hints := hints.below hb2
        have hbel2 := after hbel hb2
        have HLS : Hid (ls.length = k) := hls
        have HPO : Hid (0 < k → pl = (S (findIx S (G (k - 1)) N)).dst ∧ t = (S (findIx S (G (k - 1)) N)).arr) := hpos
        clear hls hpos hb2 hbel p0 HW
        rcases hr with ⟨hf, rfl⟩ | ⟨hf, rfl⟩
        · obtain ⟨x, hxx⟩ : ∃ x, x = findIx S (G k) N := ⟨_, rfl⟩
          rw [← hxx] at hf ⊢
          have HX : Hid (x = findIx S (G k) N) := hxx
          clear hxx
          have x1 : (x : Int) < (N : Int) := by omega
          have x0 : (0 : Int) ≤ (x : Int) := by omega
          obtain ⟨sb, soff, sla, slc, sca, scc, rfl, h0, h1, h2, h3, h4, h5, h6, h7, _, _, _, _⟩ := hx x hf
          have hsb := World.block_lt_of_cell? w _ h1
          have hsb2 : sb < w2.heap.size := Nat.lt_of_lt_of_le hsb hbel2.size
          have s0 := (hbel2.cell (p := ⟨sb, soff + x * 8, none⟩) hsb).trans h0
          have s1 := (hbel2.cell (p := ⟨sb, soff + x * 8 + 1, none⟩) hsb).trans h1
          have s2 := (hbel2.cell (p := ⟨sb, soff + x * 8 + 2, none⟩) hsb).trans h2
          have s3 := (hbel2.cell (p := ⟨sb, soff + x * 8 + 3, none⟩) hsb).trans h3
          have s4 := (hbel2.cell (p := ⟨sb, soff + x * 8 + 4, none⟩) hsb).trans h4
          have s5 := (hbel2.cell (p := ⟨sb, soff + x * 8 + 5, none⟩) hsb).trans h5
          have s6 := (hbel2.cell (p := ⟨sb, soff + x * 8 + 6, none⟩) hsb).trans h6
          have s7 := (hbel2.cell (p := ⟨sb, soff + x * 8 + 7, none⟩) hsb).trans h7
          clear h0 h1 h2 h3 h4 h5 h6 h7
          have hBw : w1.heap.size < w2.heap.size := blk_lt hbox
          have g0 : ∀ g : Grown w2, g.val.cell? ⟨w1.heap.size, 0, none⟩ = some (.slice la k lc) := fun g => (g.bel.cell hBw).trans (blk_cell hbox 0 _ rfl)
          have g1 : ∀ g : Grown w2, g.val.cell? ⟨w1.heap.size, 1, none⟩ = some (.string pl) := fun g => (g.bel.cell hBw).trans (blk_cell hbox 1 _ rfl)
          have g2 : ∀ g : Grown w2, g.val.cell? ⟨w1.heap.size, 2, none⟩ = some (.int .i64 t) := fun g => (g.bel.cell hBw).trans (blk_cell hbox 2 _ rfl)
          have r0 : ∀ g : Grown w2, g.val.cell? ⟨sb, soff + x * 8, none⟩ = _ := fun g => (g.bel.cell hsb2).trans s0
          have r1 : ∀ g : Grown w2, g.val.cell? ⟨sb, soff + x * 8 + 1, none⟩ = _ := fun g => (g.bel.cell hsb2).trans s1
          have r2 : ∀ g : Grown w2, g.val.cell? ⟨sb, soff + x * 8 + 2, none⟩ = _ := fun g => (g.bel.cell hsb2).trans s2
          have r3 : ∀ g : Grown w2, g.val.cell? ⟨sb, soff + x * 8 + 3, none⟩ = _ := fun g => (g.bel.cell hsb2).trans s3
          have r4 : ∀ g : Grown w2, g.val.cell? ⟨sb, soff + x * 8 + 4, none⟩ = _ := fun g => (g.bel.cell hsb2).trans s4
          have r5 : ∀ g : Grown w2, g.val.cell? ⟨sb, soff + x * 8 + 5, none⟩ = _ := fun g => (g.bel.cell hsb2).trans s5
          have r6 : ∀ g : Grown w2, g.val.cell? ⟨sb, soff + x * 8 + 6, none⟩ = _ := fun g => (g.bel.cell hsb2).trans s6
          have r7 : ∀ g : Grown w2, g.val.cell? ⟨sb, soff + x * 8 + 7, none⟩ = _ := fun g => (g.bel.cell hsb2).trans s7
          go_upto_region 8 with fail
          go_cut [8, 21, 46] (fun j i v wx => j = .int .i64 x ∧ i = .int .i64 k ∧ Tells (LegOk N S G k) v ∧ Below w2.heap.size w2 wx)
          case first =>
            by_cases k0 : k = 0
            · subst k0
              refine wp_region_grow (by kernel_rfl) (by kernel_rfl) ?_
              repeat (first | go_big_quiet_skip | (go_big_quiet_want; go_big_quiet_op; go_big_quiet_on))
              refine wpQuiet_nil ?_
              rintro _ ⟨g, rfl⟩
              go_wp2
              go_meet
              exact ⟨rfl, rfl, tells_good ⟨by rw [← HX.out]; exact hf, fun h => by omega⟩, g.bel⟩
            · have d0 : decide (0 < k) = true := by simp; omega
              by_cases hcb : catchB pl t (S x).fr (S x).dep = true
              · refine wp_region_grow (by kernel_rfl) (by kernel_rfl) ?_
                repeat (first | go_big_quiet_skip | (go_big_quiet_want; go_big_quiet_op; first | go_big_quiet_on | (apply Exists.intro; refine ⟨fun g => ?_, ?_⟩; (focus (go_at_call 24; refine grown_call (v := .bool true) ((catches_is _ _ _ _ _ _ _ _ _ _ _ _ _ _ _ _ _ _).mono ?_); rintro e w4 ⟨rfl, hbb⟩; exact ⟨by rw [hcb], hbb⟩)); go_big_quiet_on)))
                refine wpQuiet_nil ?_
                rintro _ ⟨g, rfl⟩
                go_wp2
                go_meet
                exact ⟨rfl, rfl, tells_good ⟨by rw [← HX.out]; exact hf, fun h => by
                  have h1 := catchB_iff.1 hcb
                  have h2 := HPO.out h
                  rw [← HX.out]
                  exact ⟨by rw [← h2.1]; exact h1.1.symm, by rw [← h2.2]; exact h1.2⟩⟩, g.bel⟩
              · have hcb := Bool.eq_false_iff.2 hcb
                refine wp_region_grow (by kernel_rfl) (by kernel_rfl) ?_
                repeat (first | go_big_quiet_skip | (go_big_quiet_want; go_big_quiet_op; first | go_big_quiet_on | (apply Exists.intro; refine ⟨fun g => ?_, ?_⟩; (focus (go_at_call 24; refine grown_call (v := .bool false) ((catches_is _ _ _ _ _ _ _ _ _ _ _ _ _ _ _ _ _ _).mono ?_); rintro e w4 ⟨rfl, hbb⟩; exact ⟨by rw [hcb], hbb⟩)); go_big_quiet_on)))
                refine wpQuiet_nil ?_
                rintro _ ⟨g, rfl⟩
                go_wp2
                go_meet
                exact ⟨rfl, rfl, tells_bad (fun h => by
                  have h1 := h.2 (by omega)
                  have h2 := HPO.out (by omega)
                  rw [← HX.out] at h1
                  have h3 := catchB_iff.2 (show (S x).fr = pl ∧ t ≤ (S x).dep from ⟨by rw [h2.1]; exact h1.1.symm, by rw [h2.2]; exact h1.2⟩)
                  rw [hcb] at h3; cases h3), g.bel⟩
          case rest =>
            clear g0 g1 g2 r0 r1 r2 r3 r4 r5 r6 r7
            obtain ⟨rfl, rfl, ⟨tb, rfl, ht⟩, hb3⟩ := hcut
            have HTB : Hid (tb = false ↔ LegOk N S G k) := ht
            clear ht
            obtain ⟨w3, ew3⟩ : ∃ y, y = wc := ⟨_, rfl⟩
            subst ew3
            have hbel3 := after hbel2 hb3
            cases tb with
            | true =>
              clear s0 s1 s2 s3 s4 s5 s6 s7
              go_wp2
              go_ret
              exact ⟨says_no (fun h => by have := HTB.out.2 (h.2.2.2 k hlt); cases this), hbel3⟩
            | false =>
              have HK : Hid (LegOk N S G k) := HTB.out.1 rfl
              clear HTB
              have hbox3 := blk_below hbox hb3
              have s0 := (hb3.cell (p := ⟨sb, soff + x * 8, none⟩) hsb2).trans s0
              have s1 := (hb3.cell (p := ⟨sb, soff + x * 8 + 1, none⟩) hsb2).trans s1
              have s2 := (hb3.cell (p := ⟨sb, soff + x * 8 + 2, none⟩) hsb2).trans s2
              have s3 := (hb3.cell (p := ⟨sb, soff + x * 8 + 3, none⟩) hsb2).trans s3
              have s4 := (hb3.cell (p := ⟨sb, soff + x * 8 + 4, none⟩) hsb2).trans s4
              have s5 := (hb3.cell (p := ⟨sb, soff + x * 8 + 5, none⟩) hsb2).trans s5
              have s6 := (hb3.cell (p := ⟨sb, soff + x * 8 + 6, none⟩) hsb2).trans s6
              have s7 := (hb3.cell (p := ⟨sb, soff + x * 8 + 7, none⟩) hsb2).trans s7
              have b0 := blk_cell hbox3 0 _ rfl
              have b1 := blk_cell hbox3 1 _ rfl
              have b2 := blk_cell hbox3 2 _ rfl
              have hints3 := (hints.below hb3).below (Below.refl _ w3).drew
              have HB3 : Hid (w3.drew.heap[w1.heap.size]? = some (.cells #[.slice la k lc, .string pl, .int .i64 t] 50 (0, 0))) := hbox3
              clear hbox hbox3 hints
              go_upto_region 10 with fail
              go_region_with (first | (go_at_call 25; refine Calls.mono (with_any la k lc ls pl t _ _ _ _ _ _ _ _ _ _ _ _ _ HLS.out ?_ hints3 hna) ?_; (focus omega); rintro e w5 ⟨ao5, c5, rfl, ho5, hb5⟩; have z5 := blk_below HB3.out hb5; have o0 := blk_cell z5 0 _ rfl; have o1 := blk_cell z5 1 _ rfl; have o2 := blk_cell z5 2 _ rfl; have f0 := blk_free z5 0; have f1 := blk_free z5 1; have f2 := blk_free z5 2))
              all_goals
                have HO5 : Hid _ := ho5
                clear ho5
                go_wp2
                go_roundw
                case rel =>
                  refine ⟨k + 1, by omega, by go_num, fun j hj => ?_, ?_, ?_⟩
                  · by_cases e : j = k
                    · subst e; exact HK.out
                    · exact HA.out j (by omega)
                  · have own5 := own_set (own_set (own_set HO5.out (a := ⟨w1.heap.size, 0, none⟩) (blk_lt HB3.out) (.slice ao5 (k + 1) c5)) (a := ⟨w1.heap.size, 1, none⟩) (blk_lt HB3.out) (.string (S x).dst)) (a := ⟨w1.heap.size, 2, none⟩) (blk_lt HB3.out) (.int .i64 (S x).arr)
                    obtain ⟨_, _, e5, _, _, en5⟩ := own_form own5
                    simp only [Value.slice.injEq, true_and] at e5
                    obtain ⟨rfl, rfl⟩ := e5
                    exact ⟨ao5, c5, ls ++ [(S x).id], (S x).dst, (S x).arr, blk_set (blk_set (blk_set z5 0 _) 1 _) 2 _, by rw [List.length_append, HLS.out]; rfl, own_legs (by rw [List.length_append, HLS.out]; rfl) own5, fun h => absurd (en5 h).1 (by omega), fun _ => by
                      rw [Nat.add_sub_cancel, ← HX.out]; exact ⟨rfl, rfl⟩⟩
                  · exact (((after hbel3.drew hb5).setCell hB _).setCell hB _).setCell hB _
                case measure => simp [intOf]; omega
        · have HF : Hid (findIx S (G k) N = N) := hf
          clear hf
          go_upto_region 8 with fail
          refine wp_region_grow (by kernel_rfl) (by kernel_rfl) ?_
          repeat (first | go_big_quiet_skip | (go_big_quiet_want; go_big_quiet_op; go_big_quiet_on))
          refine wpQuiet_nil ?_
          rintro _ ⟨g, rfl⟩
          go_wp2
          go_ret
          exact ⟨says_no (fun h => by have := (h.2.2.2 k hlt).1; have := HF.out; omega), after hbel2 g.bel⟩
      · obtain rfl : k = n := by omega
        go_wp2
        go_ret
        exact ⟨says_yes ⟨HT.out, H3.out.1, H3.out.2, HA.out⟩, hbel⟩

end Go.Proofs.Ythcjfoaejomfaaa
