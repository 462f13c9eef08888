/-
  OWN TEXT: contracts of the program over seats: freeSeats, GoodSeats, putBehind at seats, TakeSeats.
-/
import Derived.Test.YtclcjnbjpelcjajSeatOf
import Derived.Test.YtclcjnbjpelcjajInfoSeat
import Derived.Test.YtclcjnbjpelcjajKitB
import Derived.Test.YtclcjnbjpelcjajKitG
import Derived.Test.YtclcjnbjpelcjajKitCp
namespace Go.Proofs.Ytclcjnbjpelcjaj
open Go.RowKit

theorem sits_mono (S : Nat → Seat) (i n : Nat) (hin : i ≤ n) (h : ∀ j, j < n → In (S j).many 1 20) : sits S i ≤ sits S n := by
  induction n with
  | zero => rw [show i = 0 by omega]; exact Int.le_refl _
  | succ n ih =>
    by_cases e : i = n + 1
    · rw [e]; exact Int.le_refl _
    · have := ih (by omega) (fun j hj => h j (by omega))
      have hn := h n (by omega)
      unfold In at hn
      have h3 : sits S (n + 1) = sits S n + (S n).many := rfl
      omega
theorem seatsWith_lt {S : Nat → Seat} {n : Nat} {x many : Int} {j : Nat} (h : j < n) : seatsWith S n x many j = S j := by unfold seatsWith seatCat; rw [if_pos h]
theorem sits_with (S : Nat → Seat) (n : Nat) (x many : Int) (i : Nat) (h : i ≤ n) : sits (seatsWith S n x many) i = sits S i := by
  induction i with
  | zero => rfl
  | succ i ih =>
    have e := ih (by omega)
    show sits (seatsWith S n x many) i + (seatsWith S n x many i).many = sits S i + (S i).many
    rw [e, seatsWith_lt (by omega)]
/-- Good with one more behind them, they are good. -/
theorem seatsOk_less {most : Int} {n : Nat} {S : Nat → Seat} {x many : Int} (h : SeatsOk most (n + 1) (seatsWith S n x many)) : SeatsOk most n S := by
  obtain ⟨h0, h1, h2, h3⟩ := h
  refine ⟨h0, by omega, fun i hi => ?_, ?_⟩
  · have := h2 i (by omega)
    rw [seatsWith_lt hi] at this
    refine ⟨this.1, fun ⟨j, hj, e⟩ => this.2.1 ⟨j, hj, ?_⟩, this.2.2⟩
    unfold whoT at e ⊢
    rw [seatsWith_lt (by omega)]; exact e
  · have := sits_mono (seatsWith S n x many) n (n + 1) (by omega) (fun j hj => (h2 j hj).2.2)
    rw [sits_with S n x many n (Nat.le_refl _)] at this
    omega
/-- What freeSeats answers. -/
def SeatsAns (most : Int) (n : Nat) (S : Nat → Seat) (e : Ending) : Prop :=
  (SeatsOk most n S ∧ e = .returned (.tuple #[.int .i64 (most - sits S n), .bool true])) ∨ (¬ SeatsOk most n S ∧ e = .returned (.tuple #[.int .i64 0, .bool false]))

set_option maxHeartbeats 3200000 in
set_option maxRecDepth 100000 in
theorem freeSeats_any (most : Int) (bo : Option Addr) (n c : Nat) (S : Nat → Seat) (w : World) (hn : n ≤ 2097152) (hc : n ≤ c) (hz : SeatsAt w bo n S) :
    Calls Try.prog 19 #[.int .i64 most, .slice bo n c] w fun e w' => SeatsAns most n S e ∧ Below w.heap.size w w' := by
  have HZ : Hid (SeatsAt w bo n S) := hz
  clear hz
  by_cases g0 : In most 0 500
  · have e0 : decide (In most 0 500) = true := decide_eq_true g0
    have H0 : Hid (In most 0 500) := g0
    clear g0
    by_cases h60 : n ≤ 60
    · have d0 : decide (60 < n) = false := by simp; omega
      go_enter Try.func19, Try.ntmps19
      go_wp2_with (first | (go_at_call 22; refine (within_is _ _ _ _).mono ?_; rintro e w' ⟨rfl, hw'⟩; have hw' := hw'.symm; subst hw'))
      go_loopw [6, 7, 8, 20] (fun v _ _ i wr => ∃ k : Nat, k ≤ n ∧ i = .int .i64 k ∧ v = .int .i64 (most - sits S k) ∧ (∀ j, j < k → In (S j).who 1 9999 ∧ ¬ Has (whoT S) j (S j).who ∧ In (S j).many 1 20) ∧ sits S k ≤ most ∧ Below w.heap.size w wr) (fun _ _ _ i _ => n - (intOf i).toNat)
      case atStart => exact ⟨0, Nat.zero_le _, rfl, by simp [sits], fun j hj => by omega, H0.out.1, Below.refl _ _⟩
      case round =>
        obtain ⟨i, hi, rfl, rfl, hall, hsum, hbel⟩ := hrel
        have HA : Hid (∀ j, j < i → In (S j).who 1 9999 ∧ ¬ Has (whoT S) j (S j).who ∧ In (S j).many 1 20) := hall
        have HS : Hid (sits S i ≤ most) := hsum
        clear hall hsum e0 d0
        by_cases hlt : i < n
        · obtain ⟨b, off, rfl, h0, h1⟩ := HZ.out i hlt
          have hb := World.block_lt_of_cell? w _ h0
          have c0 := (hbel.cell (p := ⟨b, off + i * 2, none⟩) hb).trans h0
          have c1 := (hbel.cell (p := ⟨b, off + i * 2 + 1, none⟩) hb).trans h1
          have hbox := heap_alloc_new wr (.cells #[.int .i64 (S i).who, .int .i64 (S i).many] 35)
          have hbx := push hbel (.cells #[.int .i64 (S i).who, .int .i64 (S i).many] 35)
          clear h0 h1
          go_upto_region 7 with fail
          generalize hW : wr.alloc (.cells #[.int .i64 (S i).who, .int .i64 (S i).many] 35) = W at hbox hbx ⊢
          clear hW
          have hsW : wr.heap.size < W.heap.size := blk_lt hbox
          have z0 : ∀ g : Grown W, g.val.cell? ⟨wr.heap.size, 0, none⟩ = some (.int .i64 (S i).who) := fun g => (g.bel.cell hsW).trans (blk_cell hbox 0 _ rfl)
          have z1 : ∀ g : Grown W, g.val.cell? ⟨wr.heap.size, 1, none⟩ = some (.int .i64 (S i).many) := fun g => (g.bel.cell hsW).trans (blk_cell hbox 1 _ rfl)
          have i1 : (0 : Int) ≤ (i : Int) := by omega
          have i2 : (i : Int) ≤ (c : Int) := by omega
          clear c0 c1 hbox hbel
          by_cases g1 : In (S i).who 1 9999
          · have e1 : decide (In (S i).who 1 9999) = true := decide_eq_true g1
            have H1 : Hid (In (S i).who 1 9999) := g1
            clear g1
            by_cases g2 : Has (whoT S) i (S i).who
            · have e2 : decide (0 ≤ ixAns (whoT S) (S i).who i) = true := decide_eq_true ((ixAns_has _ _ _).2 g2)
              have H2 : Hid (Has (whoT S) i (S i).who) := g2
              clear g2
              refine wp_region_grow (by kernel_rfl) (by kernel_rfl) ?_
              repeat (first | go_big_quiet_skip | (go_big_quiet_want; go_big_quiet_op; first | go_big_quiet_on | (apply Exists.intro; refine ⟨fun g => ?_, ?_⟩; (focus (first | (go_at_call 23; refine grown_call (v := .bool true) ((isBy_is _ _).mono ?_); rintro e w4 ⟨rfl, rfl⟩; exact ⟨by rw [e1], Below.refl _ _⟩) | (go_at_call 24; refine grown_call (v := .int .i64 (ixAns (whoT S) (S i).who i)) ((seatOf_any _ i c S (S i).who _ (by omega) ((HZ.out.upto (by omega)).below (after hbx g.bel))).mono ?_); rintro e w4 ⟨rfl, hbb⟩; exact ⟨rfl, hbb⟩))); go_big_quiet_on)))
              refine wpQuiet_nil ?_
              rintro _ ⟨g, rfl⟩
              go_wp2
              exact bodyPost_ret (v := .tuple #[.int .i64 0, .bool false]) (by simp [results, Try.results19, go_sem]) rfl ⟨.inr ⟨fun h => (h.2.2.1 i hlt).2.1 H2.out, rfl⟩, after hbx g.bel⟩
            · have e2 : decide (0 ≤ ixAns (whoT S) (S i).who i) = false := decide_eq_false (fun h => g2 ((ixAns_has _ _ _).1 h))
              have H2 : Hid (¬ Has (whoT S) i (S i).who) := g2
              clear g2
              by_cases g3 : In (S i).many 1 (if most - sits S i < 20 then most - sits S i else 20)
              · have e3 : decide (In (S i).many 1 (if most - sits S i < 20 then most - sits S i else 20)) = true := decide_eq_true g3
                have H3 : Hid (In (S i).many 1 20 ∧ sits S (i + 1) ≤ most) := by
                  have h3 : sits S (i + 1) = sits S i + (S i).many := rfl
                  unfold In at g3 ⊢
                  show (_ ∧ _) ∧ _
                  rw [h3]
                  split at g3 <;> omega
                clear g3
                have hwr : IntKind.i64.wrap (most - sits S i - (S i).many) = most - sits S (i + 1) := by
                  have h1 := sits_bounds S i (fun j hj => (HA.out j hj).2.2)
                  have h2 := H3.out.1
                  have h0 := H0.out
                  unfold In at h2 h0
                  have h3 : sits S (i + 1) = sits S i + (S i).many := rfl
                  rw [h3, IntKind.wrap_i64]; omega
                refine wp_region_grow (by kernel_rfl) (by kernel_rfl) ?_
                repeat (first | go_big_quiet_skip | (go_big_quiet_want; go_big_quiet_op; first | go_big_quiet_on | (apply Exists.intro; refine ⟨fun g => ?_, ?_⟩; (focus (first | (go_at_call 23; refine grown_call (v := .bool true) ((isBy_is _ _).mono ?_); rintro e w4 ⟨rfl, rfl⟩; exact ⟨by rw [e1], Below.refl _ _⟩) | (go_at_call 24; refine grown_call (v := .int .i64 (ixAns (whoT S) (S i).who i)) ((seatOf_any _ i c S (S i).who _ (by omega) ((HZ.out.upto (by omega)).below (after hbx g.bel))).mono ?_); rintro e w4 ⟨rfl, hbb⟩; exact ⟨rfl, hbb⟩) | (go_at_call 22; refine grown_call (v := .bool true) ((within_is _ _ _ _).mono ?_); rintro e w4 ⟨rfl, rfl⟩; exact ⟨by rw [e3], Below.refl _ _⟩))); go_big_quiet_on)))
                refine wpQuiet_nil ?_
                rintro _ ⟨g, rfl⟩
                have v1 := z1 g
                clear e3
                generalize (if most - sits S i < 20 then most - sits S i else 20) = mn
                go_wp2
                have HAN : Hid (∀ j, j < i + 1 → In (S j).who 1 9999 ∧ ¬ Has (whoT S) j (S j).who ∧ In (S j).many 1 20) := fun j hj => by
                  by_cases e : j = i
                  · subst e; exact ⟨H1.out, H2.out, H3.out.1⟩
                  · exact HA.out j (by omega)
                go_roundw
                case rel => exact ⟨i + 1, by omega, by go_num, rfl, HAN.out, H3.out.2, after hbx g.bel⟩
                case measure => simp [intOf]; omega
              · have e3 : decide (In (S i).many 1 (if most - sits S i < 20 then most - sits S i else 20)) = false := decide_eq_false g3
                have H3 : Hid (¬ SeatsOk most n S) := fun h => by
                  have h1 := (h.2.2.1 i hlt).2.2
                  have h2 := sits_mono S (i + 1) n (by omega) (fun j hj => (h.2.2.1 j hj).2.2)
                  have h4 := h.2.2.2
                  have h3 : sits S (i + 1) = sits S i + (S i).many := rfl
                  unfold In at g3 h1
                  split at g3 <;> omega
                clear g3
                refine wp_region_grow (by kernel_rfl) (by kernel_rfl) ?_
                repeat (first | go_big_quiet_skip | (go_big_quiet_want; go_big_quiet_op; first | go_big_quiet_on | (apply Exists.intro; refine ⟨fun g => ?_, ?_⟩; (focus (first | (go_at_call 23; refine grown_call (v := .bool true) ((isBy_is _ _).mono ?_); rintro e w4 ⟨rfl, rfl⟩; exact ⟨by rw [e1], Below.refl _ _⟩) | (go_at_call 24; refine grown_call (v := .int .i64 (ixAns (whoT S) (S i).who i)) ((seatOf_any _ i c S (S i).who _ (by omega) ((HZ.out.upto (by omega)).below (after hbx g.bel))).mono ?_); rintro e w4 ⟨rfl, hbb⟩; exact ⟨rfl, hbb⟩) | (go_at_call 22; refine grown_call (v := .bool false) ((within_is _ _ _ _).mono ?_); rintro e w4 ⟨rfl, rfl⟩; exact ⟨by rw [e3], Below.refl _ _⟩))); go_big_quiet_on)))
                refine wpQuiet_nil ?_
                rintro _ ⟨g, rfl⟩
                clear e3
                generalize (if most - sits S i < 20 then most - sits S i else 20) = mn
                go_wp2
                exact bodyPost_ret (v := .tuple #[.int .i64 0, .bool false]) (by simp [results, Try.results19, go_sem]) rfl ⟨.inr ⟨H3.out, rfl⟩, after hbx g.bel⟩
          · have e1 : decide (In (S i).who 1 9999) = false := decide_eq_false g1
            have H1 : Hid (¬ In (S i).who 1 9999) := g1
            clear g1
            refine wp_region_grow (by kernel_rfl) (by kernel_rfl) ?_
            repeat (first | go_big_quiet_skip | (go_big_quiet_want; go_big_quiet_op; first | go_big_quiet_on | (apply Exists.intro; refine ⟨fun g => ?_, ?_⟩; (focus (first | (go_at_call 23; refine grown_call (v := .bool false) ((isBy_is _ _).mono ?_); rintro e w4 ⟨rfl, rfl⟩; exact ⟨by rw [e1], Below.refl _ _⟩))); go_big_quiet_on)))
            refine wpQuiet_nil ?_
            rintro _ ⟨g, rfl⟩
            go_wp2
            exact bodyPost_ret (v := .tuple #[.int .i64 0, .bool false]) (by simp [results, Try.results19, go_sem]) rfl ⟨.inr ⟨fun h => H1.out (h.2.2.1 i hlt).1, rfl⟩, after hbx g.bel⟩
        · obtain rfl : i = n := by omega
          go_wp2
          exact bodyPost_ret (v := .tuple #[.int .i64 (most - sits S i), .bool true]) (by simp [results, Try.results19, go_sem]) rfl ⟨.inl ⟨⟨H0.out, h60, HA.out, HS.out⟩, rfl⟩, hbel⟩
    · have d0 : decide (60 < n) = true := by simp; omega
      go_enter Try.func19, Try.ntmps19
      go_wp2_with (first | (go_at_call 22; refine (within_is _ _ _ _).mono ?_; rintro e w' ⟨rfl, hw'⟩; have hw' := hw'.symm; subst hw'))
      exact bodyPost_ret (v := .tuple #[.int .i64 0, .bool false]) (by simp [results, Try.results19, go_sem]) rfl ⟨.inr ⟨fun h => h60 h.2.1, rfl⟩, Below.refl _ _⟩
  · have e0 : decide (In most 0 500) = false := decide_eq_false g0
    have H0 : Hid (¬ In most 0 500) := g0
    clear g0
    go_enter Try.func19, Try.ntmps19
    go_wp2_with (first | (go_at_call 22; refine (within_is _ _ _ _).mono ?_; rintro e w' ⟨rfl, hw'⟩; have hw' := hw'.symm; subst hw'))
    exact bodyPost_ret (v := .tuple #[.int .i64 0, .bool false]) (by simp [results, Try.results19, go_sem]) rfl ⟨.inr ⟨fun h => H0.out h.1, rfl⟩, Below.refl _ _⟩

set_option maxHeartbeats 3200000 in
set_option maxRecDepth 100000 in
theorem implSeats_any (most : Int) (bo : Option Addr) (n c : Nat) (S : Nat → Seat) (w : World) (hn : n ≤ 2097152) (hc : n ≤ c) (hz : SeatsAt w bo n S) :
    Calls Try.prog 8 #[.int .i64 most, .slice bo n c] w fun e w' => SaysIf (SeatsOk most n S) e ∧ Below w.heap.size w w' := by
  have HZ : Hid (SeatsAt w bo n S) := hz
  clear hz
  go_enter Try.func8, Try.ntmps8
  go_wp2_with fail
  refine (freeSeats_any most bo n c S _ hn hc HZ.out).mono ?_
  rintro e w1 ⟨hans, hb1⟩
  rcases hans with ⟨hok, rfl⟩ | ⟨hno, rfl⟩
  · have HOK : Hid (SeatsOk most n S) := hok
    clear hok
    go_wp2
    go_ret
    exact ⟨says_yes HOK.out, hb1⟩
  · have HNO : Hid (¬ SeatsOk most n S) := hno
    clear hno
    go_wp2
    go_ret
    exact ⟨says_no HNO.out, hb1⟩

set_option maxHeartbeats 3200000 in
set_option maxRecDepth 100000 in
theorem putSeat_any (bo : Option Addr) (n c : Nat) (S : Nat → Seat) (x many : Int) (w : World) (hn : n ≤ 1048576) (hz : SeatsAt w bo n S) (hnil : bo = none → n = 0 ∧ c = 0) :
    Calls Try.prog 21 #[.slice bo n c, .agg #[.int .i64 x, .int .i64 many]] w fun e w' => (∃ v, e = .returned v ∧ w'.ownsRow w.heap.size 35 2 v (n + 1) (seatList (seatsWith S n x many) (n + 1))) ∧ Below w.heap.size w w' := by
  obtain ⟨j0, ji, jz0, jz1, jz2⟩ := info_parts Try.infoSeat
  have HZ : Hid (SeatsAt w bo n S) := hz
  have HNI : Hid (bo = none → n = 0 ∧ c = 0) := hnil
  clear hz hnil
  have hwr : IntKind.i64.wrap ((n : Int) + 1) = ((n + 1 : Nat) : Int) := by rw [IntKind.wrap_i64]; omega
  have hinf : (Try.prog.info? 35).map (·.size) = some 2 := by rw [ji]; simp [jz1]
  have hb0 := push (Below.refl _ w) (.cells #[.int .i64 x, .int .i64 many] 35)
  have r0 := heap_alloc_new w (.cells #[.int .i64 x, .int .i64 many] 35)
  go_enter Try.func21, Try.ntmps21
  go_upto_region 2 with (first | (at_make; refine wpList_make_full _ rfl _ _ 25 rfl w.heap.size 35 j0 _ 2 Try.underlying25 ji jz0 jz1 .i64 .i64 _ _ (n + 1) rfl rfl (by simp) (by simp) (by rw [jz2]; omega) (by unfold maxLen; omega) (by simp) ?_; intro w1 hown1 hgrow1))
  have hb1 : Below w.heap.size w w1 := hb0.grown hgrow1 (by simp) (fun j hj => by cases hj)
  have r1 := grown_blk hgrow1 r0 (by simp)
  obtain ⟨cur, hcur, hsz⟩ := own_row hown1
  have HC : Hid (∀ ad, bo = some ad → ∀ j u, (seatList S n)[j]? = some u → w1.cell? (ad.add j) = some u) := seats_cells (HZ.out.below hb1)
  have HR1 : Hid (w1.heap[w.heap.size]? = some (.cells #[.int .i64 x, .int .i64 many] 35 (0, 0))) := r1

  have HB1 : Hid (Below w.heap.size w w1) := hb1
  clear hown1 hgrow1 r0 hb0 r1 hb1
  rw [World.size_alloc] at hcur
  obtain ⟨w2, hrun, hr2, hb2⟩ := copy_k (P := Try.prog) w1 25 25 35 (w.heap.size + 1) (n + 1) (n + 1) bo n c cur 35 (seatList S n) 2 Try.underlying25 hinf hcur (by omega) (seatList_length _ _) HNI.out HC.out (by rw [seatList_length, hsz]; omega) (seatList_one _ _)
  have rw2 := row_of_blk hr2 (N := (n + 1) * 2) (by simp [seatList_length, hsz]; omega)
  have bx2 : w2.heap[w.heap.size]? = some (.cells #[.int .i64 x, .int .i64 many] 35 (0, 0)) := (hb2.block _ (by omega)).trans HR1.out
  have o0 := blk_cell bx2 0 _ rfl
  have o1 := blk_cell bx2 1 _ rfl
  have q0 := rw2.cell (i := n * 2) (by omega)
  have q1 := rw2.cell (i := n * 2 + 1) (by omega)
  have f0 := rw2.frozen (n * 2)
  have f1 := rw2.frozen (n * 2 + 1)
  have i1 : (0 : Int) ≤ (n : Int) := by omega
  have i2 : (n : Int) < ((n + 1 : Nat) : Int) := by omega
  have HB2 : Hid (Below w.heap.size w w2) := HB1.out.trans (hb2.mono (by omega))
  have HRW : Hid (w2.rowIs (w.heap.size + 1) 35 ((n + 1) * 2) (fun j => (seatList S n ++ cur.toList.drop (seatList S n).length).getD j (.bool false))) := rw2
  clear hr2 hb2 rw2 bx2 hcur
  generalize List.getD (seatList S n ++ cur.toList.drop (seatList S n).length) (n * 2) (.bool false) = u0 at q0
  generalize List.getD (seatList S n ++ cur.toList.drop (seatList S n).length) (n * 2 + 1) (.bool false) = u1 at q1
  have HF : Hid (((w2.setCell ⟨w.heap.size + 1, n * 2, none⟩ (.int .i64 x)).setCell ⟨w.heap.size + 1, n * 2 + 1, none⟩ (.int .i64 many)).rowIs (w.heap.size + 1) 35 ((n + 1) * 2) (seatCell (seatsWith S n x many))) := by
    refine ((HRW.out.set (n * 2) _).set (n * 2 + 1) _).congr (fun j hj => ?_)
    have hn' : seatsWith S n x many n = ⟨x, many⟩ := by unfold seatsWith seatCat; rw [if_neg (Nat.lt_irrefl _)]
    by_cases h1 : j = n * 2 + 1
    · subst h1; rw [if_pos rfl, seatCell_1, hn']
    rw [if_neg h1]
    by_cases h0 : j = n * 2
    · subst h0; rw [if_pos rfl, seatCell_0, hn']
    rw [if_neg h0]
    have hlt : j < (seatList S n).length := by rw [seatList_length]; omega
    rw [List.getD_eq_getElem?_getD, List.getElem?_append_left hlt, List.getElem?_eq_getElem hlt, Option.getD_some]
    have := seatList_get (List.getElem?_eq_getElem hlt)
    rw [this.2]
    unfold seatCell seatsWith seatCat
    rw [if_pos (show j / 2 < n by omega)]
  go_wp2
  go_ret
  exact ⟨⟨_, rfl, own_of_row HF.out (by omega) (by unfold maxLen; omega)⟩, (HB2.out.setCell (by show w.heap.size ≤ w.heap.size + 1; omega) _).setCell (by show w.heap.size ≤ w.heap.size + 1; omega) _⟩

set_option maxHeartbeats 3200000 in
set_option maxRecDepth 100000 in
theorem implTakeS_any (most : Int) (bo : Option Addr) (n c : Nat) (S : Nat → Seat) (x many : Int) (w : World) (hn : n ≤ 1048576) (_hc : n ≤ c) (hz : SeatsAt w bo n S) (hnil : bo = none → n = 0 ∧ c = 0) :
    Calls Try.prog 11 #[.int .i64 most, .slice bo n c, .int .i64 x, .int .i64 many] w fun e w' => SeatsRes w' w.heap.size 35 most n S x many e ∧ Below w.heap.size w w' := by
  have HZ : Hid (SeatsAt w bo n S) := hz
  have HNI : Hid (bo = none → n = 0 ∧ c = 0) := hnil
  clear hz hnil
  go_enter Try.func11, Try.ntmps11
  go_wp2_with fail
  refine (putSeat_any bo n c S x many _ hn HZ.out HNI.out).mono ?_
  rintro e w1 ⟨⟨v, rfl, ho1⟩, hb1⟩
  obtain ⟨a1, c1, rfl, hc1, _⟩ := own_form ho1
  have HO1 : Hid (w1.ownsRow w.heap.size 35 2 (.slice a1 (n + 1) c1) (n + 1) (seatList (seatsWith S n x many) (n + 1))) := ho1
  clear ho1
  go_wp2_with fail
  refine (implSeats_any most a1 (n + 1) c1 (seatsWith S n x many) _ (by omega) hc1 (seats_of_own HO1.out)).mono ?_
  rintro e w7 ⟨⟨q, rfl, hq⟩, hb7⟩
  have bw7 := after hb1 hb7
  have HO7 : Hid (w7.ownsRow w.heap.size 35 2 (.slice a1 (n + 1) c1) (n + 1) (seatList (seatsWith S n x many) (n + 1))) := own_below hb7 HO1.out
  cases q with
  | false =>
    have HD2 : Hid (¬ SeatsOk most (n + 1) (seatsWith S n x many)) := fun h => by have := hq.2 h; cases this
    clear hq
    go_wp2
    exact bodyPost_ret (v := .tuple #[.slice none 0 0, .bool false]) (by simp [results, Try.results11, go_sem]) rfl ⟨seatsRes_no (fun h => HD2.out h.2), bw7⟩
  | true =>
    have HD2 : Hid (SeatsOk most (n + 1) (seatsWith S n x many)) := hq.1 rfl
    clear hq
    go_wp2
    exact bodyPost_ret (v := .tuple #[.slice a1 (n + 1) c1, .bool true]) (by simp [results, Try.results11, go_sem]) rfl ⟨seatsRes_yes ⟨seatsOk_less HD2.out, HD2.out⟩ HO7.out, bw7⟩

end Go.Proofs.Ytclcjnbjpelcjaj
