/-
  OWN TEXT: the contract of the program's placeRoom, so many berths.
-/
import Derived.Test.YtaalhmaacaahhaaFreeR
import Derived.Test.YtaalhmaacaahhaaPutRoom
namespace Go.Proofs.Ytaalhmaacaahhaa
open Go.RowKit

attribute [local go_sem ↓] Go.wp_at_zero Go.wp_at_succ

/-- Who asks may have a room. -/
def MayB (p : Pairs) (n : Nat) (S : Nat → Room) (x : Int) : Prop := RoomsS p n S ∧ ¬ Has (whoR S) n x ∧ In x 1 9999
/-- A cabin that may be had so. -/
def HadB (p : Pairs) (n : Nat) (S : Nat → Room) (cl q : Int) (j : Nat) : Prop := p.A j = cl ∧ (In q 1 (leftR p S n j))
/-- What placeRoom answers. -/
def PlaceB (w' : World) (base t : Nat) (p : Pairs) (n : Nat) (S : Nat → Room) (x cl q : Int) (e : Ending) : Prop :=
  (∃ k v, MayB p n S x ∧ FirstOf p.n (HadB p n S cl q) k ∧ e = .returned (.tuple #[v, .int .i64 (k : Int), .bool true]) ∧ w'.ownsRow base t 4 v (n + 1) (roomList (roomCat S n (fun _ => ⟨x, (k : Int), q, false⟩)) (n + 1))) ∨
  ((∀ k, ¬ (MayB p n S x ∧ FirstOf p.n (HadB p n S cl q) k)) ∧ e = .returned (.tuple #[.slice none 0 0, .int .i64 0, .bool false]))
theorem rec4B {w : World} {g t : Nat} {u0 u1 u2 u3 : Value} (h : w.heap[g]? = some (.cells #[u0, u1, u2, u3] t (0, 0))) (v0 v1 v2 v3 : Value) :
    ((((w.setCell ⟨g, 0, none⟩ v0).setCell ⟨g, 1, none⟩ v1).setCell ⟨g, 2, none⟩ v2).setCell ⟨g, 3, none⟩ v3).heap[g]? = some (.cells #[v0, v1, v2, v3] t (0, 0)) := by
  have := blk_set (blk_set (blk_set (blk_set h 0 v0) 1 v1) 2 v2) 3 v3
  simpa using this
theorem row6B {w : World} {g t : Nat} {F : Nat → Int} (h : w.heap[g]? = some (.cells #[.int .i64 (F 0), .int .i64 (F 1), .int .i64 (F 2), .int .i64 (F 3), .int .i64 (F 4), .int .i64 (F 5)] t (0, 0))) : w.rowIs g t 6 (fun k => .int .i64 (F k)) := by
  refine ⟨_, h, rfl, fun i hi => ?_⟩
  have : i = 0 ∨ i = 1 ∨ i = 2 ∨ i = 3 ∨ i = 4 ∨ i = 5 := by omega
  rcases this with rfl | rfl | rfl | rfl | rfl | rfl <;> rfl

set_option maxHeartbeats 6400000 in
set_option maxRecDepth 100000 in
theorem placeB_any (ao bo : Option Addr) (m mc n c : Nat) (p : Pairs) (S : Nat → Room) (x cl q : Int) (w : World) (hl : p.n = m) (hm : m ≤ 1048576) (hn : n ≤ 1048576) (hc : n ≤ c) (hx : PairsAt w ao p) (hz : RoomsAt w bo n S) (hnil : bo = none → n = 0 ∧ c = 0) :
    Calls Try.prog 111 #[.slice ao m mc, .slice bo n c, .int .i64 x, .int .i64 cl, .iface 181 (.agg #[.int .i64 q])] w fun e w' => PlaceB w' w.heap.size 174 p n S x cl q e ∧ Below w.heap.size w w' := by
  have HL : Hid (p.n = m) := hl
  have HX : Hid (PairsAt w ao p) := hx
  have HZ : Hid (RoomsAt w bo n S) := hz
  have HNI : Hid (bo = none → n = 0 ∧ c = 0) := hnil
  clear hl hx hz hnil
  have hmf : ∀ (fn : Fn) (first cap : Array Value) (w : World), (Instr.makeFunc fn first cap).run Try.prog w = .ok (.func fn first cap) w := fun _ _ _ _ => rfl
  have k1 := nilB
  have k3 := methB
  go_enter Try.func111, Try.ntmps111
  go_wp2_with fail
  refine (freeInCabins_any ao bo m mc n c p S _ HL.out hm hn hc HX.out HZ.out).mono ?_
  rintro e w1 ⟨hans, hb1⟩
  rcases hans with ⟨hok, rfl⟩ | ⟨hno, rfl⟩
  · have HR : Hid (RoomsS p n S) := rooms_iff.1 hok
    clear hok
    unfold six
    have hm6 : m ≤ 6 := by rw [← HL.out]; exact HR.out.1.1
    by_cases g1 : In x 1 9999
    · have e1 : decide (In x 1 9999) = true := decide_eq_true g1
      have H1 : Hid (In x 1 9999) := g1
      clear g1
      by_cases g2 : Has (whoR S) n x
      · have e2 : decide (0 ≤ ixAns (whoR S) x n) = true := decide_eq_true ((ixAns_has _ _ _).2 g2)
        have H2 : Hid (Has (whoR S) n x) := g2
        clear g2
        go_wp2_with (first | (go_at_call 155; refine (isBy_is _ _).mono ?_; rintro e w' ⟨rfl, hw'⟩; have hw' := hw'.symm; subst hw') | (go_at_call 160; refine (roomOf_any bo n c S x _ hn (HZ.out.below (push hb1 _))).mono ?_; rintro e w2 ⟨rfl, hb2⟩))
        exact bodyPost_ret (v := .tuple #[.slice none 0 0, .int .i64 0, .bool false]) (by simp [results, Try.results111, go_sem]) rfl ⟨.inr ⟨fun k h => h.1.2.1 H2.out, rfl⟩, after (push hb1 _) hb2⟩
      · have e2 : decide (0 ≤ ixAns (whoR S) x n) = false := decide_eq_false (fun h => g2 ((ixAns_has _ _ _).1 h))
        have H2 : Hid (¬ Has (whoR S) n x) := g2
        clear g2
        have HRW1 : Hid ((w1.alloc (.cells #[.int .i64 (freeR p S n 0), .int .i64 (freeR p S n 1), .int .i64 (freeR p S n 2), .int .i64 (freeR p S n 3), .int .i64 (freeR p S n 4), .int .i64 (freeR p S n 5)] 176)).rowIs w1.heap.size 176 6 (fun k => .int .i64 (freeR p S n k))) := row6B (heap_alloc_new w1 _)
        have HB1 : Hid (Below w.heap.size w (w1.alloc (.cells #[.int .i64 (freeR p S n 0), .int .i64 (freeR p S n 1), .int .i64 (freeR p S n 2), .int .i64 (freeR p S n 3), .int .i64 (freeR p S n 4), .int .i64 (freeR p S n 5)] 176))) := push hb1 _
        have hf0 : w.heap.size ≤ w1.heap.size := hb1.size
        go_upto_region 4 with (first | (go_at_call 155; refine (isBy_is _ _).mono ?_; rintro e w' ⟨rfl, hw'⟩; have hw' := hw'.symm; subst hw') | (go_at_call 160; refine (roomOf_any bo n c S x _ hn (HZ.out.below HB1.out)).mono ?_; rintro e w2 ⟨rfl, hb2⟩))
        have hrow2 := row_below HRW1.out hb2
        have hbw2 := after HB1.out hb2
        generalize w1.heap.size = f at hf0 hrow2 ⊢
        clear HRW1 HB1 hb2 hb1 e1 e2
        go_wp2
        go_loopw [15, 16, 17, 18, 40] (fun _ _ _ _ i wr => ∃ k : Nat, k ≤ m ∧ i = .int .i64 k ∧ (∀ j, j < k → ¬ HadB p n S cl q j) ∧ wr.rowIs f 176 6 (fun j => .int .i64 (freeR p S n j)) ∧ Below w.heap.size w wr) (fun _ _ _ _ i _ => m - (intOf i).toNat)
        case atStart => exact ⟨0, Nat.zero_le _, rfl, fun j hj => by omega, hrow2, hbw2⟩
        case round =>
          obtain ⟨k, hk, rfl, hall, hrow, hbel⟩ := hrel
          have HA : Hid (∀ j, j < k → ¬ HadB p n S cl q j) := hall
          clear hall hrow2 hbw2
          by_cases hlt : k < m
          · obtain ⟨b, off, rfl, h1, h2⟩ := HX.out k (by rw [HL.out]; exact hlt)
            have hb := World.block_lt_of_cell? w _ h1
            have c1 := (hbel.cell (p := ⟨b, off + k * 2, none⟩) hb).trans h1
            have c2 := (hbel.cell (p := ⟨b, off + k * 2 + 1, none⟩) hb).trans h2
            have b0 := heap_alloc_new wr (.cells #[.int .i64 (p.A k), .int .i64 (p.B k)] 85)
            have hbx := push hbel (.cells #[.int .i64 (p.A k), .int .i64 (p.B k)] 85)
            have hrx := row_below hrow (push (Below.refl _ wr) (.cells #[.int .i64 (p.A k), .int .i64 (p.B k)] 85))
            clear h1 h2
            go_upto_region 7 with fail
            generalize hW : wr.alloc (.cells #[.int .i64 (p.A k), .int .i64 (p.B k)] 85) = W at b0 hbx hrx ⊢
            clear hW
            have hsW : wr.heap.size < W.heap.size := blk_lt b0
            have hfW : f < W.heap.size := hrx.lt
            have hww : w.heap.size ≤ W.heap.size := hbx.size
            have HB0 : Hid (W.heap[wr.heap.size]? = some (.cells #[.int .i64 (p.A k), .int .i64 (p.B k)] 85 (0, 0))) := b0
            have HRX : Hid (W.rowIs f 176 6 (fun j => .int .i64 (freeR p S n j))) := hrx
            have HBX : Hid (Below w.heap.size w W) := hbx
            generalize wr.heap.size = cb at *
            have i1 : (0 : Int) ≤ (k : Int) := by omega
            have i3 : (k : Int) < 6 := by omega
            have keepS : Hid (∀ w', Below W.heap.size W w' → (w'.cell? ⟨cb, 0, none⟩ = some (.int .i64 (p.A k)) ∧ w'.cell? ⟨cb, 1, none⟩ = some (.int .i64 (p.B k)) ∧ w'.cell? ⟨f, k, none⟩ = some (.int .i64 (leftR p S n k)))) := fun w' h => ⟨blk_cell (blk_below HB0.out h) 0 _ rfl, blk_cell (blk_below HB0.out h) 1 _ rfl, by
              have := (row_below HRX.out h).cell (i := k) (by omega)
              rw [this, freeR_lt (by rw [HL.out]; exact hlt)]⟩
            obtain ⟨fb, hfb⟩ : ∃ fb, fb = decide (In q 1 (leftR p S n k)) := ⟨_, rfl⟩
            have HFB : Hid (fb = decide (In q 1 (leftR p S n k))) := hfb
            have hcon : Hid (∀ w0 : World, Calls Try.prog 226 #[.agg #[.int .i64 q], .agg #[.int .i64 (p.A k), .int .i64 (p.B k)], .int .i64 (leftR p S n k)] w0 fun e w' => e = .returned (.tuple #[.agg #[.int .i64 0, .int .i64 0, .int .i64 (q), .bool false], .bool fb]) ∧ Below w0.heap.size w0 w') := fun w0 => by rw [hfb]; exact roomInB_any _ _ _ _ w0
            clear c1 c2 b0 hbx hrx hrow hbel hfb
            go_cut [17, 18] (fun s17 s18 wc => ∃ B, s17 = .pointer (some ⟨B, 0, none⟩) ∧ s18 = .bool fb ∧ wc.heap[B]? = some (.cells #[.int .i64 0, .int .i64 0, .int .i64 (q), .bool false] 174 (0, 0)) ∧ W.heap.size ≤ B ∧ Below W.heap.size W wc)
            case first =>
              go_region_held3 (fun w' => w'.cell? ⟨cb, 0, none⟩ = some (.int .i64 (p.A k)) ∧ w'.cell? ⟨cb, 1, none⟩ = some (.int .i64 (p.B k)) ∧ w'.cell? ⟨f, k, none⟩ = some (.int .i64 (leftR p S n k)))
                ((refine keepS.out _ ?_; (repeat (first | exact Below.refl _ _ | refine Below.drew ?_ | refine push ?_ _ | refine setI ?_ (by omega) _ | refine after ?_ hb4))))
                (first | (go_at_call 226; refine Calls.mono (hcon.out _) ?_; rintro e w4 ⟨rfl, hb4⟩; have s4 : W.heap.size ≤ w4.heap.size := (by have := hb4.size; first | omega | (simp at this; omega)); (first | (have hby : w4.heap[W.heap.size]? = some (.cells #[.int .i64 0, .int .i64 0, .int .i64 0, .bool false] 174 (0, 0)) := blk_below (heap_alloc_new W.drew (.cells #[.int .i64 0, .int .i64 0, .int .i64 0, .bool false] 174)) hb4; have y0 := blk_cell hby 0 _ rfl; have y1 := blk_cell hby 1 _ rfl; have y2 := blk_cell hby 2 _ rfl; have y3 := blk_cell hby 3 _ rfl; have f0 := blk_free hby 0; have f1 := blk_free hby 1; have f2 := blk_free hby 2; have f3 := blk_free hby 3) | skip)))
              all_goals
                go_wp2
                go_meet
                first | exact ⟨_, rfl, rfl, heap_alloc_new w4 _, s4, (by (repeat (first | exact Below.refl _ _ | refine Below.drew ?_ | refine push ?_ _ | refine setI ?_ (by omega) _ | refine after ?_ hb4)))⟩ | exact ⟨_, rfl, rfl, rec4B hby _ _ _ _, Nat.le_refl _, (by (repeat (first | exact Below.refl _ _ | refine Below.drew ?_ | refine push ?_ _ | refine setI ?_ (by omega) _ | refine after ?_ hb4)))⟩
            case rest =>
            obtain ⟨B, rfl, rfl, hblk, hBW, hbW⟩ := hcut
            have hd0 := (keepS.out _ hbW).1
            by_cases g3 : p.A k = cl
            · have e3 : (p.A k == cl) = true := by simpa using g3
              have H3 : Hid (p.A k = cl) := g3
              clear g3
              cases fb with
              | true =>
                have h4 : In q 1 (leftR p S n k) := of_decide_eq_true HFB.out.symm
                have H4 : Hid (In q 1 (leftR p S n k)) := h4
                clear h4
                have o0 := blk_cell hblk 0 _ rfl
                have o1 := blk_cell hblk 1 _ rfl
                have o2 := blk_cell hblk 2 _ rfl
                have o3 := blk_cell hblk 3 _ rfl
                have f0 := blk_free hblk 0
                have f1 := blk_free hblk 1
                have HBF : Hid (Below w.heap.size w ((wc.setCell ⟨B, 0, none⟩ (.int .i64 x)).setCell ⟨B, 1, none⟩ (.int .i64 (k : Int)))) := ((after HBX.out hbW).setCell (by show w.heap.size ≤ B; omega) _).setCell (by show w.heap.size ≤ B; omega) _
                go_wp2_with (first | (go_at_call 161; refine Calls.mono (putRoom_any bo n c S ⟨x, (k : Int), q, false⟩ _ hn (HZ.out.below HBF.out) HNI.out) ?_; rintro e w5 ⟨⟨v, rfl, ho5⟩, hb5⟩))
                have hsz := HBF.out.size
                exact bodyPost_ret (v := .tuple #[v, .int .i64 (k : Int), .bool true]) (by simp [results, Try.results111, go_sem]) rfl ⟨.inl ⟨k, v, ⟨HR.out, H2.out, H1.out⟩, ⟨by rw [HL.out]; exact hlt, ⟨H3.out, H4.out⟩, HA.out⟩, rfl, own_base ho5 hsz⟩, after HBF.out hb5⟩
              | false =>
                have H4 : Hid (¬ HadB p n S cl q k) := fun h => of_decide_eq_false HFB.out.symm h.2
                go_wp2
                go_roundw
                case rel => exact ⟨k + 1, by omega, by go_num, fun j hj => by
                  by_cases e : j = k
                  · subst e; exact H4.out
                  · exact HA.out j (by omega), row_below HRX.out hbW, after HBX.out hbW⟩
                case measure => simp [intOf]; omega
            · have e3 : (p.A k == cl) = false := by simpa using g3
              have H4 : Hid (¬ HadB p n S cl q k) := fun h => g3 h.1
              clear g3
              go_wp2
              go_roundw
              case rel => exact ⟨k + 1, by omega, by go_num, fun j hj => by
                by_cases e : j = k
                · subst e; exact H4.out
                · exact HA.out j (by omega), row_below HRX.out hbW, after HBX.out hbW⟩
              case measure => simp [intOf]; omega
          · obtain rfl : k = m := by omega
            go_wp2
            exact bodyPost_ret (v := .tuple #[.slice none 0 0, .int .i64 0, .bool false]) (by simp [results, Try.results111, go_sem]) rfl ⟨.inr ⟨fun j h => HA.out j (by have := h.2.1; rw [HL.out] at this; exact this) h.2.2.1, rfl⟩, hbel⟩
    · have e1 : decide (In x 1 9999) = false := decide_eq_false g1
      have H1 : Hid (¬ In x 1 9999) := g1
      clear g1
      go_wp2_with (first | (go_at_call 155; refine (isBy_is _ _).mono ?_; rintro e w' ⟨rfl, hw'⟩; have hw' := hw'.symm; subst hw'))
      exact bodyPost_ret (v := .tuple #[.slice none 0 0, .int .i64 0, .bool false]) (by simp [results, Try.results111, go_sem]) rfl ⟨.inr ⟨fun k h => H1.out h.1.2.2, rfl⟩, push hb1 _⟩
  · have HR : Hid (¬ RoomsS p n S) := fun h => hno (rooms_iff.2 h)
    clear hno
    unfold six
    go_wp2
    exact bodyPost_ret (v := .tuple #[.slice none 0 0, .int .i64 0, .bool false]) (by simp [results, Try.results111, go_sem]) rfl ⟨.inr ⟨fun k h => HR.out h.1.1, rfl⟩, push hb1 _⟩

end Go.Proofs.Ytaalhmaacaahhaa
