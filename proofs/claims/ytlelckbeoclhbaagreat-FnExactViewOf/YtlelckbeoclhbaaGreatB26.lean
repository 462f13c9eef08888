/-
  OWN TEXT: KitCp, SeatsF, OffI, FreeP0.
-/
import Derived.Laws.CopyRow
import Derived.Deep.RegionHeld3
import Derived.Test.YtlelckbeoclhbaaGreatRows
import Derived.Test.YtlelckbeoclhbaaGreatB00
import Derived.Test.YtlelckbeoclhbaaGreatB22
import Derived.Test.YtlelckbeoclhbaaGreatB16
import Derived.Test.YtlelckbeoclhbaaGreatB02
import Derived.Test.YtlelckbeoclhbaaGreatB07
import Derived.Test.YtlelckbeoclhbaaGreatB21
import Derived.Test.YtlelckbeoclhbaaGreatB23
import Derived.Test.YtlelckbeoclhbaaGreatB24
import Derived.Test.YtlelckbeoclhbaaGreatB25
import Derived.Test.YtlelckbeoclhbaaGreatB11
set_option maxHeartbeats 12800000
set_option maxRecDepth 100000
namespace Go.Proofs.YtlelckbeoclhbaaGreat
open Go.RowKit
theorem run_copy_k {P : Program} (w : World) (dT sT ty elem : TypeId) (g dLen dCap : Nat) (sp : Option Addr) (sLen sCap : Nat) (cur : Array Value) (t : TypeId) (cs : List Value) (sz : Nat)
    (hu : P.underlying dT = some (.slice elem)) (hs : (P.info? elem).map (·.size) = some sz)
    (hg : w.heap[g]? = some (.cells cur t (0, 0))) (hle : sLen ≤ dLen) (hn : cs.length = sLen * sz) (hnil : sp = none → sLen = 0 ∧ sCap = 0)
    (hsrc : ∀ a, sp = some a → ∀ j v, cs[j]? = some v → w.cell? (a.add j) = some v) (hfit : cs.length ≤ cur.size) (h1 : ∀ v ∈ cs, v.oneCell' = true) :
    (Builtin.copy_ #[dT, sT] ty #[.slice (some ⟨g, 0, none⟩) dLen dCap, .slice sp sLen sCap]).run P w =
      .ok (goInt sLen) (w.setRow g (cs ++ cur.toList.drop cs.length).toArray) := by
  cases sp with
  | none =>
    obtain ⟨rfl, rfl⟩ := hnil rfl
    have e : cs = [] := List.eq_nil_of_length_eq_zero (by rw [hn]; omega)
    subst e
    rw [run_copy_nil (P := P) w dT sT ty elem ⟨g, 0, none⟩ dLen dCap hu (by rw [hs]; rfl)]
    simp only [List.nil_append, List.length_nil, List.drop_zero, Array.toArray_toList]
    rw [setRow_self w g cur t (0, 0) hg]
    rfl
  | some a =>
    have hl := run_loadCells_list (P := P) w a cs (hsrc a rfl)
    have hst := run_storeCells_at P g 0 t cs 0 cur w hg (by simpa using hfit) h1
    have hmin : Nat.min sLen dLen = sLen := Nat.min_eq_left hle
    cases hq : P.info? elem with
    | none => simp [hq] at hs
    | some i =>
      have hi : i.size = sz := by simpa [hq] using hs
      rw [hn] at hl
      simp [Builtin.copy_, run_underlying hu, Builtin.lenOf, Builtin.firstCells, sizeOf, typeInfo, hq, hi, hmin, hl, hst]
theorem copy_k {P : Program} (w : World) (dT sT elem : TypeId) (g dLen dCap : Nat) (sp : Option Addr) (sLen sCap : Nat) (cur : Array Value) (t : TypeId) (cs : List Value) (sz : Nat)
    (hu : P.underlying dT = some (.slice elem)) (hs : (P.info? elem).map (·.size) = some sz)
    (hg : w.heap[g]? = some (.cells cur t (0, 0))) (hle : sLen ≤ dLen) (hn : cs.length = sLen * sz) (hnil : sp = none → sLen = 0 ∧ sCap = 0)
    (hsrc : ∀ a, sp = some a → ∀ j v, cs[j]? = some v → w.cell? (a.add j) = some v) (hfit : cs.length ≤ cur.size) (h1 : ∀ v ∈ cs, v.oneCell' = true) :
    ∃ w', (∀ ty, (Builtin.copy_ #[dT, sT] ty #[.slice (some ⟨g, 0, none⟩) dLen dCap, .slice sp sLen sCap]).run P w = .ok (goInt sLen) w') ∧
      w'.heap[g]? = some (.cells (cs ++ cur.toList.drop cs.length).toArray t (0, 0)) ∧ Below g w w' :=
  ⟨_, fun ty => run_copy_k (P := P) w dT sT ty elem g dLen dCap sp sLen sCap cur t cs sz hu hs hg hle hn hnil hsrc hfit h1, setRow_heap w g _ _ t _ hg,
    ⟨rfl, rfl, rfl, by simp [World.setRow], fun k hk => setRow_other w g k _ (by omega)⟩⟩
theorem own_row {w : World} {base e size g n : Nat} {xs : List Value} (h : w.ownsRow base e size (.slice (some ⟨g, 0, none⟩) n n) n xs) : ∃ cur : Array Value, w.heap[g]? = some (.cells cur e (0, 0)) ∧ cur.size = n * size := by
  obtain ⟨_, h | ⟨g', cap, cur, e1, _, hh, _, _, hz, _⟩⟩ := h
  · cases h.1
  · simp only [Value.slice.injEq, Option.some.injEq, Addr.mk.injEq] at e1
    obtain ⟨⟨rfl, _, _⟩, _, rfl⟩ := e1
    exact ⟨cur, hh, hz⟩
theorem row_of_blk {w : World} {g t N : Nat} {xs : List Value} (h : w.heap[g]? = some (.cells xs.toArray t (0, 0))) (hN : xs.length = N) : w.rowIs g t N (fun j => xs.getD j (.bool false)) := by
  refine ⟨_, h, by simpa using hN, fun i hi => ?_⟩
  have : i < xs.length := by omega
  simp [List.getElem?_eq_getElem this]
end Go.Proofs.YtlelckbeoclhbaaGreat

namespace Go.Proofs.YtlelckbeoclhbaaGreat
open Go.RowKit
theorem sits_mono (S : Nat → Seat) (i n : Nat) (hin : i ≤ n) (h : ∀ j, j < n → In (S j).many 1 20) : sits S i ≤ sits S n := by
  induction n with
  | zero => rw [show i = 0 by omega]; exact Int.le_refl _
  | succ n ih =>
    by_cases e : i = n + 1
    · rw [e]; exact Int.le_refl _
    · have := ih (by omega) (fun j hj => h j (by omega))
      have hn := h n (by omega)
      unfold In at hn
      have h3 : sits S (n + 1) = sits S n + (S n).many := rfl
      omega
theorem seatsWith_lt {S : Nat → Seat} {n : Nat} {x many : Int} {j : Nat} (h : j < n) : seatsWith S n x many j = S j := by unfold seatsWith seatCat; rw [if_pos h]
theorem sits_with (S : Nat → Seat) (n : Nat) (x many : Int) (i : Nat) (h : i ≤ n) : sits (seatsWith S n x many) i = sits S i := by
  induction i with
  | zero => rfl
  | succ i ih =>
    have e := ih (by omega)
    show sits (seatsWith S n x many) i + (seatsWith S n x many i).many = sits S i + (S i).many
    rw [e, seatsWith_lt (by omega)]
theorem seatsOk_less {most : Int} {n : Nat} {S : Nat → Seat} {x many : Int} (h : SeatsOk most (n + 1) (seatsWith S n x many)) : SeatsOk most n S := by
  obtain ⟨h0, h1, h2, h3⟩ := h
  refine ⟨h0, by omega, fun i hi => ?_, ?_⟩
  · have := h2 i (by omega)
    rw [seatsWith_lt hi] at this
    refine ⟨this.1, fun ⟨j, hj, e⟩ => this.2.1 ⟨j, hj, ?_⟩, this.2.2⟩
    unfold whoT at e ⊢
    rw [seatsWith_lt (by omega)]; exact e
  · have := sits_mono (seatsWith S n x many) n (n + 1) (by omega) (fun j hj => (h2 j hj).2.2)
    rw [sits_with S n x many n (Nat.le_refl _)] at this
    omega
def SeatsAns (most : Int) (n : Nat) (S : Nat → Seat) (e : Ending) : Prop :=
  (SeatsOk most n S ∧ e = .returned (.tuple #[.int .i64 (most - sits S n), .bool true])) ∨ (¬ SeatsOk most n S ∧ e = .returned (.tuple #[.int .i64 0, .bool false]))
theorem freeSeats_any (most : Int) (bo : Option Addr) (n c : Nat) (S : Nat → Seat) (w : World) (hn : n ≤ 2097152) (hc : n ≤ c) (hz : SeatsAt w bo n S) :
    Calls Tryz.prog 123 #[.int .i64 most, .slice bo n c] w fun e w' => SeatsAns most n S e ∧ Below w.heap.size w w' := by
  have HZ : Hid (SeatsAt w bo n S) := hz
  clear hz
  by_cases g0 : In most 0 500
  · have e0 : decide (In most 0 500) = true := decide_eq_true g0
    have H0 : Hid (In most 0 500) := g0
    clear g0
    by_cases h60 : n ≤ 60
    · have d0 : decide (60 < n) = false := by simp; omega
      go_enter Tryz.func123, Tryz.ntmps123
      go_wp2_with (first | (go_at_call 143; refine (within_is _ _ _ _).mono ?_; rintro e w' ⟨rfl, hw'⟩; have hw' := hw'.symm; subst hw'))
      go_loopw [6, 7, 8, 20] (fun v _ _ i wr => ∃ k : Nat, k ≤ n ∧ i = .int .i64 k ∧ v = .int .i64 (most - sits S k) ∧ (∀ j, j < k → In (S j).who 1 9999 ∧ ¬ Has (whoT S) j (S j).who ∧ In (S j).many 1 20) ∧ sits S k ≤ most ∧ Below w.heap.size w wr) (fun _ _ _ i _ => n - (intOf i).toNat)
      case atStart => exact ⟨0, Nat.zero_le _, rfl, by simp [sits], fun j hj => by omega, H0.out.1, Below.refl _ _⟩
      case round =>
        obtain ⟨i, hi, rfl, rfl, hall, hsum, hbel⟩ := hrel
        have HA : Hid (∀ j, j < i → In (S j).who 1 9999 ∧ ¬ Has (whoT S) j (S j).who ∧ In (S j).many 1 20) := hall
        have HS : Hid (sits S i ≤ most) := hsum
        clear hall hsum e0 d0
        by_cases hlt : i < n
        · obtain ⟨b, off, rfl, h0, h1⟩ := HZ.out i hlt
          have hb := World.block_lt_of_cell? w _ h0
          have c0 := (hbel.cell (p := ⟨b, off + i * 2, none⟩) hb).trans h0
          have c1 := (hbel.cell (p := ⟨b, off + i * 2 + 1, none⟩) hb).trans h1
          have hbox := heap_alloc_new wr (.cells #[.int .i64 (S i).who, .int .i64 (S i).many] 126)
          have hbx := push hbel (.cells #[.int .i64 (S i).who, .int .i64 (S i).many] 126)
          clear h0 h1
          go_upto_region 7 with fail
          generalize hW : wr.alloc (.cells #[.int .i64 (S i).who, .int .i64 (S i).many] 126) = W at hbox hbx ⊢
          clear hW
          have hsW : wr.heap.size < W.heap.size := blk_lt hbox
          have z0 : ∀ g : Grown W, g.val.cell? ⟨wr.heap.size, 0, none⟩ = some (.int .i64 (S i).who) := fun g => (g.bel.cell hsW).trans (blk_cell hbox 0 _ rfl)
          have z1 : ∀ g : Grown W, g.val.cell? ⟨wr.heap.size, 1, none⟩ = some (.int .i64 (S i).many) := fun g => (g.bel.cell hsW).trans (blk_cell hbox 1 _ rfl)
          have i1 : (0 : Int) ≤ (i : Int) := by omega
          have i2 : (i : Int) ≤ (c : Int) := by omega
          clear c0 c1 hbox hbel
          by_cases g1 : In (S i).who 1 9999
          · have e1 : decide (In (S i).who 1 9999) = true := decide_eq_true g1
            have H1 : Hid (In (S i).who 1 9999) := g1
            clear g1
            by_cases g2 : Has (whoT S) i (S i).who
            · have e2 : decide (0 ≤ ixAns (whoT S) (S i).who i) = true := decide_eq_true ((ixAns_has _ _ _).2 g2)
              have H2 : Hid (Has (whoT S) i (S i).who) := g2
              clear g2
              refine wp_region_grow (by kernel_rfl) (by kernel_rfl) ?_
              repeat (first | go_big_quiet_skip | (go_big_quiet_want; go_big_quiet_op; first | go_big_quiet_on | (apply Exists.intro; refine ⟨fun g => ?_, ?_⟩; (focus (first | (go_at_call 146; refine grown_call (v := .bool true) ((isBy_is _ _).mono ?_); rintro e w4 ⟨rfl, rfl⟩; exact ⟨by rw [e1], Below.refl _ _⟩) | (go_at_call 154; refine grown_call (v := .int .i64 (ixAns (whoT S) (S i).who i)) ((seatOf_any _ i c S (S i).who _ (by omega) ((HZ.out.upto (by omega)).below (after hbx g.bel))).mono ?_); rintro e w4 ⟨rfl, hbb⟩; exact ⟨rfl, hbb⟩))); go_big_quiet_on)))
              refine wpQuiet_nil ?_
              rintro _ ⟨g, rfl⟩
              go_wp2
              exact bodyPost_ret (v := .tuple #[.int .i64 0, .bool false]) (by simp [results, Tryz.results123, go_sem]) rfl ⟨.inr ⟨fun h => (h.2.2.1 i hlt).2.1 H2.out, rfl⟩, after hbx g.bel⟩
            · have e2 : decide (0 ≤ ixAns (whoT S) (S i).who i) = false := decide_eq_false (fun h => g2 ((ixAns_has _ _ _).1 h))
              have H2 : Hid (¬ Has (whoT S) i (S i).who) := g2
              clear g2
              by_cases g3 : In (S i).many 1 (if most - sits S i < 20 then most - sits S i else 20)
              · have e3 : decide (In (S i).many 1 (if most - sits S i < 20 then most - sits S i else 20)) = true := decide_eq_true g3
                have H3 : Hid (In (S i).many 1 20 ∧ sits S (i + 1) ≤ most) := by
                  have h3 : sits S (i + 1) = sits S i + (S i).many := rfl
                  unfold In at g3 ⊢
                  show (_ ∧ _) ∧ _
                  rw [h3]
                  split at g3 <;> omega
                clear g3
                have hwr : IntKind.i64.wrap (most - sits S i - (S i).many) = most - sits S (i + 1) := by
                  have h1 := sits_bounds S i (fun j hj => (HA.out j hj).2.2)
                  have h2 := H3.out.1
                  have h0 := H0.out
                  unfold In at h2 h0
                  have h3 : sits S (i + 1) = sits S i + (S i).many := rfl
                  rw [h3, IntKind.wrap_i64]; omega
                refine wp_region_grow (by kernel_rfl) (by kernel_rfl) ?_
                repeat (first | go_big_quiet_skip | (go_big_quiet_want; go_big_quiet_op; first | go_big_quiet_on | (apply Exists.intro; refine ⟨fun g => ?_, ?_⟩; (focus (first | (go_at_call 146; refine grown_call (v := .bool true) ((isBy_is _ _).mono ?_); rintro e w4 ⟨rfl, rfl⟩; exact ⟨by rw [e1], Below.refl _ _⟩) | (go_at_call 154; refine grown_call (v := .int .i64 (ixAns (whoT S) (S i).who i)) ((seatOf_any _ i c S (S i).who _ (by omega) ((HZ.out.upto (by omega)).below (after hbx g.bel))).mono ?_); rintro e w4 ⟨rfl, hbb⟩; exact ⟨rfl, hbb⟩) | (go_at_call 143; refine grown_call (v := .bool true) ((within_is _ _ _ _).mono ?_); rintro e w4 ⟨rfl, rfl⟩; exact ⟨by rw [e3], Below.refl _ _⟩))); go_big_quiet_on)))
                refine wpQuiet_nil ?_
                rintro _ ⟨g, rfl⟩
                have v1 := z1 g
                clear e3
                generalize (if most - sits S i < 20 then most - sits S i else 20) = mn
                go_wp2
                have HAN : Hid (∀ j, j < i + 1 → In (S j).who 1 9999 ∧ ¬ Has (whoT S) j (S j).who ∧ In (S j).many 1 20) := fun j hj => by
                  by_cases e : j = i
                  · subst e; exact ⟨H1.out, H2.out, H3.out.1⟩
                  · exact HA.out j (by omega)
                go_roundw
                case rel => exact ⟨i + 1, by omega, by go_num, rfl, HAN.out, H3.out.2, after hbx g.bel⟩
                case measure => simp [intOf]; omega
              · have e3 : decide (In (S i).many 1 (if most - sits S i < 20 then most - sits S i else 20)) = false := decide_eq_false g3
                have H3 : Hid (¬ SeatsOk most n S) := fun h => by
                  have h1 := (h.2.2.1 i hlt).2.2
                  have h2 := sits_mono S (i + 1) n (by omega) (fun j hj => (h.2.2.1 j hj).2.2)
                  have h4 := h.2.2.2
                  have h3 : sits S (i + 1) = sits S i + (S i).many := rfl
                  unfold In at g3 h1
                  split at g3 <;> omega
                clear g3
                refine wp_region_grow (by kernel_rfl) (by kernel_rfl) ?_
                repeat (first | go_big_quiet_skip | (go_big_quiet_want; go_big_quiet_op; first | go_big_quiet_on | (apply Exists.intro; refine ⟨fun g => ?_, ?_⟩; (focus (first | (go_at_call 146; refine grown_call (v := .bool true) ((isBy_is _ _).mono ?_); rintro e w4 ⟨rfl, rfl⟩; exact ⟨by rw [e1], Below.refl _ _⟩) | (go_at_call 154; refine grown_call (v := .int .i64 (ixAns (whoT S) (S i).who i)) ((seatOf_any _ i c S (S i).who _ (by omega) ((HZ.out.upto (by omega)).below (after hbx g.bel))).mono ?_); rintro e w4 ⟨rfl, hbb⟩; exact ⟨rfl, hbb⟩) | (go_at_call 143; refine grown_call (v := .bool false) ((within_is _ _ _ _).mono ?_); rintro e w4 ⟨rfl, rfl⟩; exact ⟨by rw [e3], Below.refl _ _⟩))); go_big_quiet_on)))
                refine wpQuiet_nil ?_
                rintro _ ⟨g, rfl⟩
                clear e3
                generalize (if most - sits S i < 20 then most - sits S i else 20) = mn
                go_wp2
                exact bodyPost_ret (v := .tuple #[.int .i64 0, .bool false]) (by simp [results, Tryz.results123, go_sem]) rfl ⟨.inr ⟨H3.out, rfl⟩, after hbx g.bel⟩
          · have e1 : decide (In (S i).who 1 9999) = false := decide_eq_false g1
            have H1 : Hid (¬ In (S i).who 1 9999) := g1
            clear g1
            refine wp_region_grow (by kernel_rfl) (by kernel_rfl) ?_
            repeat (first | go_big_quiet_skip | (go_big_quiet_want; go_big_quiet_op; first | go_big_quiet_on | (apply Exists.intro; refine ⟨fun g => ?_, ?_⟩; (focus (first | (go_at_call 146; refine grown_call (v := .bool false) ((isBy_is _ _).mono ?_); rintro e w4 ⟨rfl, rfl⟩; exact ⟨by rw [e1], Below.refl _ _⟩))); go_big_quiet_on)))
            refine wpQuiet_nil ?_
            rintro _ ⟨g, rfl⟩
            go_wp2
            exact bodyPost_ret (v := .tuple #[.int .i64 0, .bool false]) (by simp [results, Tryz.results123, go_sem]) rfl ⟨.inr ⟨fun h => H1.out (h.2.2.1 i hlt).1, rfl⟩, after hbx g.bel⟩
        · obtain rfl : i = n := by omega
          go_wp2
          exact bodyPost_ret (v := .tuple #[.int .i64 (most - sits S i), .bool true]) (by simp [results, Tryz.results123, go_sem]) rfl ⟨.inl ⟨⟨H0.out, h60, HA.out, HS.out⟩, rfl⟩, hbel⟩
    · have d0 : decide (60 < n) = true := by simp; omega
      go_enter Tryz.func123, Tryz.ntmps123
      go_wp2_with (first | (go_at_call 143; refine (within_is _ _ _ _).mono ?_; rintro e w' ⟨rfl, hw'⟩; have hw' := hw'.symm; subst hw'))
      exact bodyPost_ret (v := .tuple #[.int .i64 0, .bool false]) (by simp [results, Tryz.results123, go_sem]) rfl ⟨.inr ⟨fun h => h60 h.2.1, rfl⟩, Below.refl _ _⟩
  · have e0 : decide (In most 0 500) = false := decide_eq_false g0
    have H0 : Hid (¬ In most 0 500) := g0
    clear g0
    go_enter Tryz.func123, Tryz.ntmps123
    go_wp2_with (first | (go_at_call 143; refine (within_is _ _ _ _).mono ?_; rintro e w' ⟨rfl, hw'⟩; have hw' := hw'.symm; subst hw'))
    exact bodyPost_ret (v := .tuple #[.int .i64 0, .bool false]) (by simp [results, Tryz.results123, go_sem]) rfl ⟨.inr ⟨fun h => H0.out h.1, rfl⟩, Below.refl _ _⟩
theorem implSeats_any (most : Int) (bo : Option Addr) (n c : Nat) (S : Nat → Seat) (w : World) (hn : n ≤ 2097152) (hc : n ≤ c) (hz : SeatsAt w bo n S) :
    Calls Tryz.prog 109 #[.int .i64 most, .slice bo n c] w fun e w' => SaysIf (SeatsOk most n S) e ∧ Below w.heap.size w w' := by
  have HZ : Hid (SeatsAt w bo n S) := hz
  clear hz
  go_enter Tryz.func109, Tryz.ntmps109
  go_wp2_with fail
  refine (freeSeats_any most bo n c S _ hn hc HZ.out).mono ?_
  rintro e w1 ⟨hans, hb1⟩
  rcases hans with ⟨hok, rfl⟩ | ⟨hno, rfl⟩
  · have HOK : Hid (SeatsOk most n S) := hok
    clear hok
    go_wp2
    go_ret
    exact ⟨says_yes HOK.out, hb1⟩
  · have HNO : Hid (¬ SeatsOk most n S) := hno
    clear hno
    go_wp2
    go_ret
    exact ⟨says_no HNO.out, hb1⟩
end Go.Proofs.YtlelckbeoclhbaaGreat

namespace Go.Proofs.YtlelckbeoclhbaaGreat
open Go.RowKit
theorem goodLoads_any (x : Off) (asa ald : Option Addr) (csa cld : Nat) (w : World) (hs : Off.Short x 1048576) (hsa : SailsAt w asa x.san x.sa) (hld : LoadsAt w ald x.ldn x.ld) :
    Calls Tryz.prog 62 #[.slice asa x.san csa, .slice ald x.ldn cld] w fun e w' => SaysIf (x.ldn = x.san ∧ ∀ k, k < x.san → LoadOk (x.sa k) (x.ld k)) e ∧ Below w.heap.size w w' := by
  have HSA : Hid (SailsAt w asa x.san x.sa) := hsa
  have HLD : Hid (LoadsAt w ald x.ldn x.ld) := hld
  have HSH : Hid (Off.Short x 1048576) := hs
  have n1 : x.san ≤ 1048576 := hs.1.1
  clear hsa hld hs
  by_cases g1 : x.ldn = x.san
  case neg =>
    have e1 : ((x.ldn : Int) != (x.san : Int)) = true := by simp; omega
    have HN : Hid (¬ (x.ldn = x.san ∧ ∀ k, k < x.san → LoadOk (x.sa k) (x.ld k))) := fun h => g1 h.1
    clear g1
    go_enter Tryz.func62, Tryz.ntmps62
    go_wp2
    go_ret
    exact ⟨says_no HN.out, Below.refl _ _⟩
  have e1 : ((x.ldn : Int) != (x.san : Int)) = false := by simp; omega
  have HE : Hid (x.ldn = x.san) := g1
  clear g1
  go_enter Tryz.func62, Tryz.ntmps62
  go_wp2
  clear e1
  go_loopw [5, 6, 7, 15] (fun _ _ _ i wr => ∃ k : Nat, k ≤ x.san ∧ i = .int .i64 k ∧ (∀ j, j < k → LoadOk (x.sa j) (x.ld j)) ∧ Below w.heap.size w wr) (fun _ _ _ i _ => x.san - (intOf i).toNat)
  case atStart => exact ⟨0, Nat.zero_le _, rfl, fun j hj => by omega, Below.refl _ _⟩
  case round =>
    obtain ⟨k, hk, rfl, hall, hbel⟩ := hrel
    have HA : Hid (∀ j, j < k → LoadOk (x.sa j) (x.ld j)) := hall
    clear hall
    by_cases hlt : k < x.san
    · obtain ⟨sb, so, la, lc, ca, cc, rfl, f0, f1, f2, f3, f4, f5, f6, f7, hla, hca, sla, sca⟩ := HSA.out k hlt
      obtain ⟨s, hsd⟩ : ∃ s, s = x.sa k := ⟨_, rfl⟩
      have hsh := HSH.out.1.2 k hlt
      rw [← hsd] at f0 f1 f2 f3 f4 f5 f6 f7 hla hca sla sca hsh
      have HSD : Hid (s = x.sa k) := hsd
      have lsb := World.block_lt_of_cell? w _ f0
      have c0 := (hbel.cell (p := ⟨sb, so + k * 8, none⟩) lsb).trans f0
      have c1 := (hbel.cell (p := ⟨sb, so + k * 8 + 1, none⟩) lsb).trans f1
      have c2 := (hbel.cell (p := ⟨sb, so + k * 8 + 2, none⟩) lsb).trans f2
      have c3 := (hbel.cell (p := ⟨sb, so + k * 8 + 3, none⟩) lsb).trans f3
      have c4 := (hbel.cell (p := ⟨sb, so + k * 8 + 4, none⟩) lsb).trans f4
      have c5 := (hbel.cell (p := ⟨sb, so + k * 8 + 5, none⟩) lsb).trans f5
      have c6 := (hbel.cell (p := ⟨sb, so + k * 8 + 6, none⟩) lsb).trans f6
      have c7 := (hbel.cell (p := ⟨sb, so + k * 8 + 7, none⟩) lsb).trans f7
      obtain ⟨C, hC, hI⟩ := HLD.out
      have hk2 : k < x.ldn := by have := HE.out; omega
      obtain ⟨lb, lo, rfl, hc⟩ := hC k hk2
      obtain ⟨l, hld⟩ : ∃ l, l = x.ld k := ⟨_, rfl⟩
      have hlh := HSH.out.2.1.2 k hk2
      obtain ⟨ast, cst, aro, cro, ase, cse, eC, hst, sst, hro, sro, hse, sse⟩ := hI k hk2
      rw [← hld] at eC hst sst hro sro hse sse hlh
      have HLL : Hid (l = x.ld k) := hld
      have llb : lb < w.heap.size := World.block_lt_of_cell? w _ (hc 0 (by decide))
      have d0 : ∀ o, (wr.alloc o).cell? ⟨lb, lo + k * 3, none⟩ = some (.slice ast l.stn cst) := fun o => ((push hbel o).cell (p := ⟨lb, lo + k * 3, none⟩) llb).trans (by have := hc 0 (by decide); rw [eC] at this; exact this)
      have d1 : ∀ o, (wr.alloc o).cell? ⟨lb, lo + k * 3 + 1, none⟩ = some (.slice aro l.ron cro) := fun o => ((push hbel o).cell (p := ⟨lb, lo + k * 3 + 1, none⟩) llb).trans (by have := hc 1 (by decide); rw [eC] at this; exact this)
      have d2 : ∀ o, (wr.alloc o).cell? ⟨lb, lo + k * 3 + 2, none⟩ = some (.slice ase l.sen cse) := fun o => ((push hbel o).cell (p := ⟨lb, lo + k * 3 + 2, none⟩) llb).trans (by have := hc 2 (by decide); rw [eC] at this; exact this)
      have HLA : Hid (PairsAt w la s.la) := hla
      have HCA : Hid (PairsAt w ca s.ca) := hca
      have HST : Hid (StaysAt w ast l.stn l.st ∧ l.stn ≤ cst) := ⟨hst, sst.1⟩
      have HRO : Hid (RoomsAt w aro l.ron l.ro ∧ l.ron ≤ cro) := ⟨hro, sro.1⟩
      have HSE : Hid (SeatsAt w ase l.sen l.se ∧ l.sen ≤ cse) := ⟨hse, sse.1⟩
      have HLH : Hid (Load.Short l 1048576) := hlh
      have HSS : Hid (s.la.n ≤ 1048576 ∧ s.ca.n ≤ 1048576) := ⟨hsh.2.2.1, hsh.2.2.2⟩
      have h0 : (0 : Int) ≤ (k : Int) := by omega
      have h1 : (k : Int) < (x.ldn : Int) := by omega
      clear hC hI hc eC hsd hld f0 f1 f2 f3 f4 f5 f6 f7 hla hca sla sca hst sst hro sro hse sse hlh hsh hk2
      have hbx := push (push hbel (.cells #[.int .i64 s.id, .string s.fr, .string s.dst, .int .i64 s.dep, .int .i64 s.arr, .slice la s.la.n lc, .slice ca s.ca.n cc, .int .i64 s.most] 54)) (.cells #[.slice ast l.stn cst, .slice aro l.ron cro, .slice ase l.sen cse] 62)
      have bS : ((wr.alloc (.cells #[.int .i64 s.id, .string s.fr, .string s.dst, .int .i64 s.dep, .int .i64 s.arr, .slice la s.la.n lc, .slice ca s.ca.n cc, .int .i64 s.most] 54)).alloc (.cells #[.slice ast l.stn cst, .slice aro l.ron cro, .slice ase l.sen cse] 62)).heap[wr.heap.size]? = some (.cells #[.int .i64 s.id, .string s.fr, .string s.dst, .int .i64 s.dep, .int .i64 s.arr, .slice la s.la.n lc, .slice ca s.ca.n cc, .int .i64 s.most] 54 (0, 0)) := blk_alloc (heap_alloc_new wr _) _
      have bL : ((wr.alloc (.cells #[.int .i64 s.id, .string s.fr, .string s.dst, .int .i64 s.dep, .int .i64 s.arr, .slice la s.la.n lc, .slice ca s.ca.n cc, .int .i64 s.most] 54)).alloc (.cells #[.slice ast l.stn cst, .slice aro l.ron cro, .slice ase l.sen cse] 62)).heap[wr.heap.size + 1]? = some (.cells #[.slice ast l.stn cst, .slice aro l.ron cro, .slice ase l.sen cse] 62 (0, 0)) := by simpa using heap_alloc_new (wr.alloc _) _
      have y5 := blk_cell bS 5 _ rfl
      have m0 := blk_cell bL 0 _ rfl
      go_wp2_with fail
      generalize hBx : wr.heap.size = Bx at bS bL y5 m0 ⊢
      generalize (wr.alloc (.cells #[.int .i64 s.id, .string s.fr, .string s.dst, .int .i64 s.dep, .int .i64 s.arr, .slice la s.la.n lc, .slice ca s.ca.n cc, .int .i64 s.most] 54)).alloc (.cells #[.slice ast l.stn cst, .slice aro l.ron cro, .slice ase l.sen cse] 62) = V at hbx bS bL y5 m0 ⊢
      clear hBx c0 c1 c2 c3 c4 c5 c6 c7 d0 d1 d2 y5 m0 hbel
      refine (implDeck_any la ast s.la.n lc l.stn cst s.la l.st _ rfl HSS.out.1 HLH.out.1 HST.out.2 (HLA.out.below hbx) (HST.out.1.below hbx)).mono ?_
      rintro e V0 ⟨⟨t0, rfl, ht0⟩, hbv⟩
      have HT0 : Hid (t0 = true ↔ DeckI s.la l.stn l.st) := ht0
      have bS' := blk_below bS hbv
      have bL' := blk_below bL hbv
      have hbx' := after hbx hbv
      clear bS bL hbx hbv ht0
      have bS := bS'
      have bL := bL'
      have hbx := hbx'
      clear bS' bL' hbx'
      cases t0 with
      | false =>
        have HN : Hid (¬ (x.ldn = x.san ∧ ∀ k, k < x.san → LoadOk (x.sa k) (x.ld k))) := fun h => by have h := h.2 k hlt; rw [← HSD.out, ← HLL.out] at h; have := HT0.out.2 ((deck_iff _ _ _).1 h.1); cases this
        go_wp2
        go_ret
        exact ⟨says_no HN.out, hbx⟩
      | true =>
      have HP0 : Hid (DeckI s.la l.stn l.st) := HT0.out.1 rfl
      clear HT0
      have y6 := blk_cell bS 6 _ rfl
      have m1 := blk_cell bL 1 _ rfl
      go_wp2_with fail
      clear y6 m1
      refine (implRooms_any ca aro s.ca.n cc l.ron cro s.ca l.ro _ rfl HSS.out.2 HLH.out.2.1 HRO.out.2 (HCA.out.below hbx) (HRO.out.1.below hbx)).mono ?_
      rintro e V1 ⟨⟨t1, rfl, ht1⟩, hbv⟩
      have HT1 : Hid (t1 = true ↔ RoomsS s.ca l.ron l.ro) := ht1
      have bS' := blk_below bS hbv
      have bL' := blk_below bL hbv
      have hbx' := after hbx hbv
      clear bS bL hbx hbv ht1
      have bS := bS'
      have bL := bL'
      have hbx := hbx'
      clear bS' bL' hbx'
      cases t1 with
      | false =>
        have HN : Hid (¬ (x.ldn = x.san ∧ ∀ k, k < x.san → LoadOk (x.sa k) (x.ld k))) := fun h => by have h := h.2 k hlt; rw [← HSD.out, ← HLL.out] at h; have := HT1.out.2 (h.2.1); cases this
        go_wp2
        go_ret
        exact ⟨says_no HN.out, hbx⟩
      | true =>
      have HP1 : Hid (RoomsS s.ca l.ron l.ro) := HT1.out.1 rfl
      clear HT1
      have m2 := blk_cell bL 2 _ rfl
      have y7 := blk_cell bS 7 _ rfl
      go_wp2_with fail
      clear y7 m2
      refine (implSeats_any s.most ase l.sen cse l.se _ (by have := HLH.out.2.2; omega) HSE.out.2 (HSE.out.1.below hbx)).mono ?_
      rintro e V2 ⟨⟨t2, rfl, ht2⟩, hbv⟩
      have HT2 : Hid (t2 = true ↔ SeatsOk s.most l.sen l.se) := ht2
      have bS' := blk_below bS hbv
      have bL' := blk_below bL hbv
      have hbx' := after hbx hbv
      clear bS bL hbx hbv ht2
      have bS := bS'
      have bL := bL'
      have hbx := hbx'
      clear bS' bL' hbx'
      cases t2 with
      | false =>
        have HN : Hid (¬ (x.ldn = x.san ∧ ∀ k, k < x.san → LoadOk (x.sa k) (x.ld k))) := fun h => by have h := h.2 k hlt; rw [← HSD.out, ← HLL.out] at h; have := HT2.out.2 (h.2.2); cases this
        go_wp2
        go_ret
        exact ⟨says_no HN.out, hbx⟩
      | true =>
      have HP2 : Hid (SeatsOk s.most l.sen l.se) := HT2.out.1 rfl
      clear HT2
      go_wp2
      go_roundw
      case rel => exact ⟨k + 1, by omega, by go_num, fun j hj => by
        by_cases e : j = k
        · subst e; rw [← HSD.out, ← HLL.out]; exact ⟨(deck_iff _ _ _).2 HP0.out, HP1.out, HP2.out⟩
        · exact HA.out j (by omega), hbx⟩
      case measure => simp [intOf]; omega
    · obtain rfl : k = x.san := by omega
      go_wp2
      go_ret
      exact ⟨says_yes ⟨HE.out, HA.out⟩, hbel⟩
theorem book_iff {x : Off} {i : Nat} : BookOk x i ↔ (x.bk i).name = i + 1 ∧ (In (x.bk i).who 1 9999 ∧ ¬ Has (whoB x.bk) i (x.bk i).who) ∧ BookG x.san x.sa (x.bk i) := by
  unfold BookOk BookG
  constructor
  · rintro ⟨h1, h2, h3, h4, h5, h6, h7, h8, h9⟩
    exact ⟨h1, ⟨h2, fun ⟨j, hj, e⟩ => h8 j hj e⟩, h3, h4, h5, h6, h9, h7⟩
  · rintro ⟨h1, ⟨h2, h8⟩, h3, h4, h5, h6, h9, h7⟩
    exact ⟨h1, h2, h3, h4, h5, h6, h7, fun j hj e => h8 ⟨j, hj, e⟩, h9⟩
theorem goodBookings_any (x : Off) (asa abk : Option Addr) (csa cbk : Nat) (w : World) (hs : Off.Short x 1048576) (hT : GoodTab x.san x.sa) (hsa : SailsAt w asa x.san x.sa) (hbk : BooksAt w abk x.bkn x.bk) (hcb : x.bkn ≤ cbk) :
    Calls Tryz.prog 63 #[.slice asa x.san csa, .slice abk x.bkn cbk] w fun e w' => SaysIf (x.bkn ≤ 30 ∧ ∀ i, i < x.bkn → BookOk x i) e ∧ Below w.heap.size w w' := by
  have HSA : Hid (SailsAt w asa x.san x.sa) := hsa
  have HSH : Hid (Off.Short x 1048576) := hs
  have HT : Hid (GoodTab x.san x.sa) := hT
  have n1 : x.san ≤ 1048576 := hs.1.1
  obtain ⟨C, hC, hI⟩ := hbk
  have HC : Hid (RecsAt w abk x.bkn 13 C) := hC
  have HI : Hid (∀ k, k < x.bkn → Book.Is w (C k) (x.bk k)) := hI
  clear hsa hs hT hC hI
  by_cases g1 : x.bkn ≤ 30
  case neg =>
    have e1 : decide ((30 : Int) < (x.bkn : Int)) = true := by simp; omega
    have HN : Hid (¬ (x.bkn ≤ 30 ∧ ∀ i, i < x.bkn → BookOk x i)) := fun h => g1 h.1
    clear g1
    go_enter Tryz.func63, Tryz.ntmps63
    go_wp2
    go_ret
    exact ⟨says_no HN.out, Below.refl _ _⟩
  have e1 : decide ((30 : Int) < (x.bkn : Int)) = false := by simp; omega
  go_enter Tryz.func63, Tryz.ntmps63
  go_wp2
  clear e1
  go_loopw [5, 6, 12] (fun _ _ i wr => ∃ k : Nat, k ≤ x.bkn ∧ i = .int .i64 k ∧ (∀ j, j < k → BookOk x j) ∧ Below w.heap.size w wr) (fun _ _ i _ => x.bkn - (intOf i).toNat)
  case atStart => exact ⟨0, Nat.zero_le _, rfl, fun j hj => by omega, Below.refl _ _⟩
  case round =>
    obtain ⟨k, hk, rfl, hall, hbel⟩ := hrel
    have HA : Hid (∀ j, j < k → BookOk x j) := hall
    clear hall
    by_cases hlt : k < x.bkn
    · obtain ⟨bb, bo, rfl, hc⟩ := HC.out k hlt
      obtain ⟨alg, clg, eC, hlg, _⟩ := HI.out k hlt
      obtain ⟨b, hb⟩ : ∃ b, b = x.bk k := ⟨_, rfl⟩
      rw [← hb] at eC hlg
      have HB : Hid (b = x.bk k) := hb
      have HLG : Hid (IntsAt w alg b.lgn b.lg) := hlg
      have HSB : Hid (Book.Short b 1048576) := by rw [hb]; exact HSH.out.2.2.2 k hlt
      have hltb : bb < w.heap.size := World.block_lt_of_cell? w _ (hc 0 (by decide))
      have c0 : wr.cell? ⟨bb, bo + k * 13, none⟩ = some (.int .i64 b.name) := (hbel.cell (p := ⟨bb, bo + k * 13, none⟩) hltb).trans (by have := hc 0 (by decide); rw [eC] at this; exact this)
      have c1 : wr.cell? ⟨bb, bo + k * 13 + 1, none⟩ = some (.int .i64 b.who) := (hbel.cell (p := ⟨bb, bo + k * 13 + 1, none⟩) hltb).trans (by have := hc 1 (by decide); rw [eC] at this; exact this)
      have c2 : wr.cell? ⟨bb, bo + k * 13 + 2, none⟩ = some (.string b.own) := (hbel.cell (p := ⟨bb, bo + k * 13 + 2, none⟩) hltb).trans (by have := hc 2 (by decide); rw [eC] at this; exact this)
      have c3 : wr.cell? ⟨bb, bo + k * 13 + 3, none⟩ = some (.slice alg b.lgn clg) := (hbel.cell (p := ⟨bb, bo + k * 13 + 3, none⟩) hltb).trans (by have := hc 3 (by decide); rw [eC] at this; exact this)
      have c4 : wr.cell? ⟨bb, bo + k * 13 + 4, none⟩ = some (.int .i64 b.pe) := (hbel.cell (p := ⟨bb, bo + k * 13 + 4, none⟩) hltb).trans (by have := hc 4 (by decide); rw [eC] at this; exact this)
      have c5 : wr.cell? ⟨bb, bo + k * 13 + 5, none⟩ = some (.int .i64 b.len) := (hbel.cell (p := ⟨bb, bo + k * 13 + 5, none⟩) hltb).trans (by have := hc 5 (by decide); rw [eC] at this; exact this)
      have c6 : wr.cell? ⟨bb, bo + k * 13 + 6, none⟩ = some (.int .i64 b.hei) := (hbel.cell (p := ⟨bb, bo + k * 13 + 6, none⟩) hltb).trans (by have := hc 6 (by decide); rw [eC] at this; exact this)
      have c7 : wr.cell? ⟨bb, bo + k * 13 + 7, none⟩ = some (.int .i64 b.cl) := (hbel.cell (p := ⟨bb, bo + k * 13 + 7, none⟩) hltb).trans (by have := hc 7 (by decide); rw [eC] at this; exact this)
      have c8 : wr.cell? ⟨bb, bo + k * 13 + 8, none⟩ = some (.bool b.all) := (hbel.cell (p := ⟨bb, bo + k * 13 + 8, none⟩) hltb).trans (by have := hc 8 (by decide); rw [eC] at this; exact this)
      have c9 : wr.cell? ⟨bb, bo + k * 13 + 9, none⟩ = some (.int .i64 b.be) := (hbel.cell (p := ⟨bb, bo + k * 13 + 9, none⟩) hltb).trans (by have := hc 9 (by decide); rw [eC] at this; exact this)
      have c10 : wr.cell? ⟨bb, bo + k * 13 + 10, none⟩ = some (.int .i64 b.state) := (hbel.cell (p := ⟨bb, bo + k * 13 + 10, none⟩) hltb).trans (by have := hc 10 (by decide); rw [eC] at this; exact this)
      have c11 : wr.cell? ⟨bb, bo + k * 13 + 11, none⟩ = some (.int .i64 b.unt) := (hbel.cell (p := ⟨bb, bo + k * 13 + 11, none⟩) hltb).trans (by have := hc 11 (by decide); rw [eC] at this; exact this)
      have c12 : wr.cell? ⟨bb, bo + k * 13 + 12, none⟩ = some (.int .i64 b.price) := (hbel.cell (p := ⟨bb, bo + k * 13 + 12, none⟩) hltb).trans (by have := hc 12 (by decide); rw [eC] at this; exact this)
      clear hc eC hb hlg
      have hbx := push hbel (.cells #[.int .i64 b.name, .int .i64 b.who, .string b.own, .slice alg b.lgn clg, .int .i64 b.pe, .int .i64 b.len, .int .i64 b.hei, .int .i64 b.cl, .bool b.all, .int .i64 b.be, .int .i64 b.state, .int .i64 b.unt, .int .i64 b.price] 72)
      have hbox := heap_alloc_new wr (.cells #[.int .i64 b.name, .int .i64 b.who, .string b.own, .slice alg b.lgn clg, .int .i64 b.pe, .int .i64 b.len, .int .i64 b.hei, .int .i64 b.cl, .bool b.all, .int .i64 b.be, .int .i64 b.state, .int .i64 b.unt, .int .i64 b.price] 72)
      go_upto_region 6 with fail
      generalize hBx : wr.heap.size = Bx at hbox ⊢
      generalize wr.alloc (.cells #[.int .i64 b.name, .int .i64 b.who, .string b.own, .slice alg b.lgn clg, .int .i64 b.pe, .int .i64 b.len, .int .i64 b.hei, .int .i64 b.cl, .bool b.all, .int .i64 b.be, .int .i64 b.state, .int .i64 b.unt, .int .i64 b.price] 72) = W at hbx hbox ⊢
      clear hBx c0 c1 c2 c3 c4 c5 c6 c7 c8 c9 c10 c11 c12
      have hBW : Bx < W.heap.size := blk_lt hbox
      have z0 : ∀ g : Grown W, g.val.cell? ⟨Bx, 0, none⟩ = some (.int .i64 b.name) := fun g => (g.bel.cell hBW).trans (blk_cell hbox 0 _ rfl)
      have z1 : ∀ g : Grown W, g.val.cell? ⟨Bx, 1, none⟩ = some (.int .i64 b.who) := fun g => (g.bel.cell hBW).trans (blk_cell hbox 1 _ rfl)
      have z2 : ∀ g : Grown W, g.val.cell? ⟨Bx, 2, none⟩ = some (.string b.own) := fun g => (g.bel.cell hBW).trans (blk_cell hbox 2 _ rfl)
      have z3 : ∀ g : Grown W, g.val.cell? ⟨Bx, 3, none⟩ = some (.slice alg b.lgn clg) := fun g => (g.bel.cell hBW).trans (blk_cell hbox 3 _ rfl)
      have z4 : ∀ g : Grown W, g.val.cell? ⟨Bx, 4, none⟩ = some (.int .i64 b.pe) := fun g => (g.bel.cell hBW).trans (blk_cell hbox 4 _ rfl)
      have z5 : ∀ g : Grown W, g.val.cell? ⟨Bx, 5, none⟩ = some (.int .i64 b.len) := fun g => (g.bel.cell hBW).trans (blk_cell hbox 5 _ rfl)
      have z6 : ∀ g : Grown W, g.val.cell? ⟨Bx, 6, none⟩ = some (.int .i64 b.hei) := fun g => (g.bel.cell hBW).trans (blk_cell hbox 6 _ rfl)
      have z7 : ∀ g : Grown W, g.val.cell? ⟨Bx, 7, none⟩ = some (.int .i64 b.cl) := fun g => (g.bel.cell hBW).trans (blk_cell hbox 7 _ rfl)
      have z8 : ∀ g : Grown W, g.val.cell? ⟨Bx, 8, none⟩ = some (.bool b.all) := fun g => (g.bel.cell hBW).trans (blk_cell hbox 8 _ rfl)
      have z9 : ∀ g : Grown W, g.val.cell? ⟨Bx, 9, none⟩ = some (.int .i64 b.be) := fun g => (g.bel.cell hBW).trans (blk_cell hbox 9 _ rfl)
      have z10 : ∀ g : Grown W, g.val.cell? ⟨Bx, 10, none⟩ = some (.int .i64 b.state) := fun g => (g.bel.cell hBW).trans (blk_cell hbox 10 _ rfl)
      have z11 : ∀ g : Grown W, g.val.cell? ⟨Bx, 11, none⟩ = some (.int .i64 b.unt) := fun g => (g.bel.cell hBW).trans (blk_cell hbox 11 _ rfl)
      have z12 : ∀ g : Grown W, g.val.cell? ⟨Bx, 12, none⟩ = some (.int .i64 b.price) := fun g => (g.bel.cell hBW).trans (blk_cell hbox 12 _ rfl)
      clear hbox
      have hwk : IntKind.i64.wrap ((k : Int) + 1) = (k : Int) + 1 := by rw [IntKind.wrap_i64]; omega
      have hk0 : (0 : Int) ≤ (k : Int) := by omega
      have hkc : (k : Int) ≤ (cbk : Int) := by omega
      have hkc2 : k ≤ cbk := by omega
      by_cases p1 : b.name = (k : Int) + 1
      case neg =>
        have e1 : (b.name != (k : Int) + 1) = true := by simpa using p1
        have HN : Hid (¬ (x.bkn ≤ 30 ∧ ∀ i, i < x.bkn → BookOk x i)) := fun h => p1 (by rw [HB.out]; exact (book_iff.1 (h.2 k hlt)).1)
        clear p1
        refine wp_region_grow (by kernel_rfl) (by kernel_rfl) ?_
        repeat (first | go_big_quiet_skip | (go_big_quiet_want; go_big_quiet_op; first | go_big_quiet_on))
        refine wpQuiet_nil ?_
        rintro _ ⟨g, rfl⟩
        go_wp2
        go_ret
        exact ⟨says_no HN.out, after hbx g.bel⟩
      have e1 : (b.name != (k : Int) + 1) = false := by simpa using p1
      have P1 : Hid (b.name = (k : Int) + 1) := p1
      clear p1
      by_cases p2 : In b.who 1 9999 ∧ ¬ Has (whoB x.bk) k b.who
      case neg =>
        have P2 : Hid (¬ (In b.who 1 9999 ∧ ¬ Has (whoB x.bk) k b.who)) := p2
        have HN : Hid (¬ (x.bkn ≤ 30 ∧ ∀ i, i < x.bkn → BookOk x i)) := fun h => p2 (by rw [HB.out]; exact (book_iff.1 (h.2 k hlt)).2.1)
        clear p2
        refine wp_region_grow (by kernel_rfl) (by kernel_rfl) ?_
        repeat (first | go_big_quiet_skip | (go_big_quiet_want; go_big_quiet_op; first | go_big_quiet_on | (apply Exists.intro; refine ⟨fun g => ?_, ?_⟩; (focus (go_at_call 110; refine grown_call (v := .bool false) ((isNewBy_any _ k cbk x.bk b.who _ (by omega) ⟨C, (HC.out.upto (by omega)).below (after hbx g.bel), fun j hj => (HI.out j (by omega)).below (after hbx g.bel)⟩).mono ?_); rintro e w2 ⟨⟨bb, rfl, hi⟩, hbb⟩; obtain rfl := Bool.eq_false_iff.2 (fun e => P2.out (hi.1 e)); exact ⟨rfl, hbb⟩)); go_big_quiet_on)))
        refine wpQuiet_nil ?_
        rintro _ ⟨g, rfl⟩
        go_wp2
        go_ret
        exact ⟨says_no HN.out, after hbx g.bel⟩
      have P2 : Hid (In b.who 1 9999 ∧ ¬ Has (whoB x.bk) k b.who) := p2
      clear p2
      by_cases p3 : BookG x.san x.sa b
      case neg =>
        have P3 : Hid (¬ BookG x.san x.sa b) := p3
        have HN : Hid (¬ (x.bkn ≤ 30 ∧ ∀ i, i < x.bkn → BookOk x i)) := fun h => p3 (by rw [HB.out]; exact (book_iff.1 (h.2 k hlt)).2.2)
        clear p3
        refine wp_region_grow (by kernel_rfl) (by kernel_rfl) ?_
        repeat (first | go_big_quiet_skip | (go_big_quiet_want; go_big_quiet_op; first | go_big_quiet_on | (apply Exists.intro; refine ⟨fun g => ?_, ?_⟩; (focus (go_at_call 110; refine grown_call (v := .bool true) ((isNewBy_any _ k cbk x.bk b.who _ (by omega) ⟨C, (HC.out.upto (by omega)).below (after hbx g.bel), fun j hj => (HI.out j (by omega)).below (after hbx g.bel)⟩).mono ?_); rintro e w2 ⟨⟨bb, rfl, hi⟩, hbb⟩; obtain rfl := hi.2 P2.out; exact ⟨rfl, hbb⟩)); go_big_quiet_on) | (apply Exists.intro; refine ⟨fun g => ?_, ?_⟩; (focus (go_at_call 111; refine grown_call (v := .bool false) ((goodBooking_any x.san x.sa asa csa b alg clg _ n1 HSH.out.1.2 HSB.out HT.out (HSA.out.below (after hbx g.bel)) (HLG.out.below (after hbx g.bel))).mono ?_); rintro e w2 ⟨⟨bb, rfl, hi⟩, hbb⟩; obtain rfl := Bool.eq_false_iff.2 (fun e => P3.out (hi.1 e)); exact ⟨rfl, hbb⟩)); go_big_quiet_on)))
        refine wpQuiet_nil ?_
        rintro _ ⟨g, rfl⟩
        go_wp2
        go_ret
        exact ⟨says_no HN.out, after hbx g.bel⟩
      have P3 : Hid (BookG x.san x.sa b) := p3
      have HK : Hid (BookOk x k) := book_iff.2 (by rw [← HB.out]; exact ⟨P1.out, P2.out, p3⟩)
      clear p3
      refine wp_region_grow (by kernel_rfl) (by kernel_rfl) ?_
      repeat (first | go_big_quiet_skip | (go_big_quiet_want; go_big_quiet_op; first | go_big_quiet_on | (apply Exists.intro; refine ⟨fun g => ?_, ?_⟩; (focus (go_at_call 110; refine grown_call (v := .bool true) ((isNewBy_any _ k cbk x.bk b.who _ (by omega) ⟨C, (HC.out.upto (by omega)).below (after hbx g.bel), fun j hj => (HI.out j (by omega)).below (after hbx g.bel)⟩).mono ?_); rintro e w2 ⟨⟨bb, rfl, hi⟩, hbb⟩; obtain rfl := hi.2 P2.out; exact ⟨rfl, hbb⟩)); go_big_quiet_on) | (apply Exists.intro; refine ⟨fun g => ?_, ?_⟩; (focus (go_at_call 111; refine grown_call (v := .bool true) ((goodBooking_any x.san x.sa asa csa b alg clg _ n1 HSH.out.1.2 HSB.out HT.out (HSA.out.below (after hbx g.bel)) (HLG.out.below (after hbx g.bel))).mono ?_); rintro e w2 ⟨⟨bb, rfl, hi⟩, hbb⟩; obtain rfl := hi.2 P3.out; exact ⟨rfl, hbb⟩)); go_big_quiet_on)))
      refine wpQuiet_nil ?_
      rintro _ ⟨g, rfl⟩
      go_wp2
      go_roundw
      case rel => exact ⟨k + 1, by omega, by go_num, fun j hj => by
        by_cases e : j = k
        · subst e; exact HK.out
        · exact HA.out j (by omega), after hbx g.bel⟩
      case measure => simp [intOf]; omega
    · obtain rfl : k = x.bkn := by omega
      go_wp2
      go_ret
      exact ⟨says_yes ⟨g1, HA.out⟩, hbel⟩
theorem implOff_raw (x : Off) (asa ald abk : Option Addr) (csa cld cbk : Nat) (w : World) (hs : Off.Short x 1048576) (hsa : SailsAt w asa x.san x.sa) (hld : LoadsAt w ald x.ldn x.ld) (hbk : BooksAt w abk x.bkn x.bk) (hcb : x.bkn ≤ cbk) :
    Calls Tryz.prog 25 #[.agg #[.slice asa x.san csa, .slice ald x.ldn cld, .slice abk x.bkn cbk]] w fun e w' => SaysIf (OffOk x) e ∧ Below w.heap.size w w' := by
  have HSA : Hid (SailsAt w asa x.san x.sa) := hsa
  have HLD : Hid (LoadsAt w ald x.ldn x.ld) := hld
  have HBK : Hid (BooksAt w abk x.bkn x.bk) := hbk
  have HSH : Hid (Off.Short x 1048576) := hs
  have n1 : x.san ≤ 1048576 := hs.1.1
  clear hsa hld hbk hs
  have hb0 : Below w.heap.size w (w.alloc (.cells #[.slice asa x.san csa, .slice ald x.ldn cld, .slice abk x.bkn cbk] 39)) := push (Below.refl _ _) _
  have bO := heap_alloc_new w (.cells #[.slice asa x.san csa, .slice ald x.ldn cld, .slice abk x.bkn cbk] 39)
  go_enter Tryz.func25, Tryz.ntmps25
  go_wp2_with fail
  generalize w.alloc (.cells #[.slice asa x.san csa, .slice ald x.ldn cld, .slice abk x.bkn cbk] 39) = V at hb0 bO ⊢
  refine (implTab_any asa x.san csa x.sa _ n1 HSH.out.1.2 (HSA.out.below hb0)).mono ?_
  rintro e V0 ⟨⟨t0, rfl, ht0⟩, hbv⟩
  have HT0 : Hid (t0 = true ↔ GoodTab x.san x.sa) := ht0
  have bO' := blk_below bO hbv
  have hb0' := after hb0 hbv
  clear bO hb0 hbv ht0
  have bO := bO'
  have hb0 := hb0'
  clear bO' hb0'
  have o0 := blk_cell bO 0 _ rfl
  have o1 := blk_cell bO 1 _ rfl
  have o2 := blk_cell bO 2 _ rfl
  cases t0 with
  | false =>
    have HN : Hid (¬ OffOk x) := fun h => by have := HT0.out.2 (h.1); cases this
    go_wp2
    go_ret
    exact ⟨says_no HN.out, hb0⟩
  | true =>
  have HP0 : Hid (GoodTab x.san x.sa) := HT0.out.1 rfl
  clear HT0
  go_wp2_with fail
  clear o0 o1 o2
  refine (goodLoads_any x asa ald csa cld _ HSH.out (HSA.out.below hb0) (HLD.out.below hb0)).mono ?_
  rintro e V1 ⟨⟨t1, rfl, ht1⟩, hbv⟩
  have HT1 : Hid (t1 = true ↔ x.ldn = x.san ∧ ∀ k, k < x.san → LoadOk (x.sa k) (x.ld k)) := ht1
  have bO' := blk_below bO hbv
  have hb0' := after hb0 hbv
  clear bO hb0 hbv ht1
  have bO := bO'
  have hb0 := hb0'
  clear bO' hb0'
  have o0 := blk_cell bO 0 _ rfl
  have o1 := blk_cell bO 1 _ rfl
  have o2 := blk_cell bO 2 _ rfl
  cases t1 with
  | false =>
    have HN : Hid (¬ OffOk x) := fun h => by have := HT1.out.2 (⟨h.2.1, h.2.2.2.1⟩); cases this
    go_wp2
    go_ret
    exact ⟨says_no HN.out, hb0⟩
  | true =>
  have HP1 : Hid (x.ldn = x.san ∧ ∀ k, k < x.san → LoadOk (x.sa k) (x.ld k)) := HT1.out.1 rfl
  clear HT1
  go_wp2_with fail
  clear o0 o1 o2
  refine (goodBookings_any x asa abk csa cbk _ HSH.out HP0.out (HSA.out.below hb0) (HBK.out.below hb0) hcb).mono ?_
  rintro e V2 ⟨⟨t2, rfl, ht2⟩, hbv⟩
  have HT2 : Hid (t2 = true ↔ x.bkn ≤ 30 ∧ ∀ i, i < x.bkn → BookOk x i) := ht2
  have bO' := blk_below bO hbv
  have hb0' := after hb0 hbv
  clear bO hb0 hbv ht2
  have bO := bO'
  have hb0 := hb0'
  clear bO' hb0'
  have o0 := blk_cell bO 0 _ rfl
  have o1 := blk_cell bO 1 _ rfl
  have o2 := blk_cell bO 2 _ rfl
  cases t2 with
  | false =>
    have HN : Hid (¬ OffOk x) := fun h => by have := HT2.out.2 (⟨h.2.2.1, h.2.2.2.2.1⟩); cases this
    go_wp2
    go_ret
    exact ⟨says_no HN.out, hb0⟩
  | true =>
  have HP2 : Hid (x.bkn ≤ 30 ∧ ∀ i, i < x.bkn → BookOk x i) := HT2.out.1 rfl
  clear HT2
  go_wp2
  clear o0 o1 o2
  obtain ⟨C, hC, hI⟩ := HBK.out
  have HC : Hid (RecsAt w abk x.bkn 13 C) := hC
  have HI : Hid (∀ k, k < x.bkn → Book.Is w (C k) (x.bk k)) := hI
  have HBO : Hid (V2.heap[w.heap.size]? = some (.cells #[.slice asa x.san csa, .slice ald x.ldn cld, .slice abk x.bkn cbk] 39 (0, 0))) := bO
  have HB0 : Hid (Below w.heap.size w V2) := hb0
  clear hC hI bO hb0
  go_loopw [3, 4, 28] (fun _ _ i wr => ∃ k : Nat, k ≤ x.san ∧ i = .int .i64 k ∧ (∀ j, j < k → Tallies x j) ∧ Below V2.heap.size V2 wr) (fun _ _ i _ => x.san - (intOf i).toNat)
  case atStart => exact ⟨0, Nat.zero_le _, rfl, fun j hj => by omega, Below.refl _ _⟩
  case round =>
    obtain ⟨k, hk, rfl, hall, hbel⟩ := hrel
    have HA : Hid (∀ j, j < k → Tallies x j) := hall
    clear hall
    by_cases hlt : k < x.san
    · have hbw := after HB0.out hbel
      obtain ⟨sb, so, la, lc, ca, cc, rfl, f0, f1, f2, f3, f4, f5, f6, f7, hla, hca, sla, sca⟩ := HSA.out k hlt
      obtain ⟨s, hsd⟩ : ∃ s, s = x.sa k := ⟨_, rfl⟩
      rw [← hsd] at f0 f1 f2 f3 f4 f5 f6 f7 hla hca sla sca
      have HSD : Hid (s = x.sa k) := hsd
      have lsb := World.block_lt_of_cell? w _ f0
      have c0 := (hbw.cell (p := ⟨sb, so + k * 8, none⟩) lsb).trans f0
      have c1 := (hbw.cell (p := ⟨sb, so + k * 8 + 1, none⟩) lsb).trans f1
      have c2 := (hbw.cell (p := ⟨sb, so + k * 8 + 2, none⟩) lsb).trans f2
      have c3 := (hbw.cell (p := ⟨sb, so + k * 8 + 3, none⟩) lsb).trans f3
      have c4 := (hbw.cell (p := ⟨sb, so + k * 8 + 4, none⟩) lsb).trans f4
      have c5 := (hbw.cell (p := ⟨sb, so + k * 8 + 5, none⟩) lsb).trans f5
      have c6 := (hbw.cell (p := ⟨sb, so + k * 8 + 6, none⟩) lsb).trans f6
      have c7 := (hbw.cell (p := ⟨sb, so + k * 8 + 7, none⟩) lsb).trans f7
      obtain ⟨D, hD, hJ⟩ := HLD.out
      have hk2 : k < x.ldn := by have := HP1.out.1; omega
      obtain ⟨lb, lo, rfl, hc⟩ := hD k hk2
      obtain ⟨l, hld⟩ : ∃ l, l = x.ld k := ⟨_, rfl⟩
      have hlh := HSH.out.2.1.2 k hk2
      obtain ⟨ast, cst, aro, cro, ase, cse, eC, hst, sst, hro, sro, hse, sse⟩ := hJ k hk2
      rw [← hld] at eC hst sst hro sro hse sse hlh
      have HLL : Hid (l = x.ld k) := hld
      have llb : lb < w.heap.size := World.block_lt_of_cell? w _ (hc 0 (by decide))
      have HD : Hid (∀ w', Below w.heap.size w w' → w'.cell? ⟨lb, lo + k * 3, none⟩ = some (.slice ast l.stn cst) ∧ w'.cell? ⟨lb, lo + k * 3 + 1, none⟩ = some (.slice aro l.ron cro) ∧ w'.cell? ⟨lb, lo + k * 3 + 2, none⟩ = some (.slice ase l.sen cse)) := fun w' h =>
        ⟨(h.cell (p := ⟨lb, lo + k * 3, none⟩) llb).trans (by have := hc 0 (by decide); rw [eC] at this; exact this), (h.cell (p := ⟨lb, lo + k * 3 + 1, none⟩) llb).trans (by have := hc 1 (by decide); rw [eC] at this; exact this), (h.cell (p := ⟨lb, lo + k * 3 + 2, none⟩) llb).trans (by have := hc 2 (by decide); rw [eC] at this; exact this)⟩
      have HCA : Hid (PairsAt w ca s.ca) := hca
      have HST : Hid (StaysAt w ast l.stn l.st) := hst
      have HRO : Hid (RoomsAt w aro l.ron l.ro) := hro
      have HSE : Hid (SeatsAt w ase l.sen l.se) := hse
      have HLH : Hid (Load.Short l 1048576) := hlh
      have hok := HP1.out.2 k hlt
      rw [← hsd, ← hld] at hok
      have HOK : Hid (LoadOk s l) := hok
      have h0 : (0 : Int) ≤ (k : Int) := by omega
      have h1 : (k : Int) < (x.ldn : Int) := by omega
      clear hD hJ hc eC hsd hld f0 f1 f2 f3 f4 f5 f6 f7 hla hca sla sca hst sst hro sro hse sse hlh hk2 hok
      have hbx := push hbel (.cells #[.int .i64 s.id, .string s.fr, .string s.dst, .int .i64 s.dep, .int .i64 s.arr, .slice la s.la.n lc, .slice ca s.ca.n cc, .int .i64 s.most] 54)
      have hbox := heap_alloc_new wr (.cells #[.int .i64 s.id, .string s.fr, .string s.dst, .int .i64 s.dep, .int .i64 s.arr, .slice la s.la.n lc, .slice ca s.ca.n cc, .int .i64 s.most] 54)
      go_upto_region 6 with fail
      generalize hBx : wr.heap.size = Bx at hbox ⊢
      generalize wr.alloc (.cells #[.int .i64 s.id, .string s.fr, .string s.dst, .int .i64 s.dep, .int .i64 s.arr, .slice la s.la.n lc, .slice ca s.ca.n cc, .int .i64 s.most] 54) = X at hbx hbox ⊢
      clear hBx c0 c1 c2 c3 c4 c5 c6 c7 hbel hbw
      have bO := blk_below HBO.out hbx
      have hbX := after HB0.out hbx
      have BW : Hid (∀ w', Below X.heap.size X w' → Below w.heap.size w w') := fun w' h => after hbX h
      have KS : Hid (∀ w', Below X.heap.size X w' → (w'.cell? ⟨Bx, 0, none⟩ = some (.int .i64 s.id) ∧ w'.cell? ⟨Bx, 1, none⟩ = some (.string s.fr) ∧ w'.cell? ⟨Bx, 2, none⟩ = some (.string s.dst) ∧ w'.cell? ⟨Bx, 3, none⟩ = some (.int .i64 s.dep) ∧ w'.cell? ⟨Bx, 4, none⟩ = some (.int .i64 s.arr) ∧ w'.cell? ⟨Bx, 5, none⟩ = some (.slice la s.la.n lc) ∧ w'.cell? ⟨Bx, 6, none⟩ = some (.slice ca s.ca.n cc) ∧ w'.cell? ⟨Bx, 7, none⟩ = some (.int .i64 s.most) ∧
          w'.cell? ⟨w.heap.size, 1, none⟩ = some (.slice (some ⟨lb, lo, none⟩) x.ldn cld) ∧ w'.cell? ⟨w.heap.size, 2, none⟩ = some (.slice abk x.bkn cbk) ∧
          w'.cell? ⟨lb, lo + k * 3, none⟩ = some (.slice ast l.stn cst) ∧ w'.cell? ⟨lb, lo + k * 3 + 1, none⟩ = some (.slice aro l.ron cro) ∧ w'.cell? ⟨lb, lo + k * 3 + 2, none⟩ = some (.slice ase l.sen cse))) := fun w' h => by
        have g1 := blk_below hbox h
        have g2 := blk_below bO h
        have g3 := HD.out w' (after hbX h)
        exact ⟨blk_cell g1 0 _ rfl, blk_cell g1 1 _ rfl, blk_cell g1 2 _ rfl, blk_cell g1 3 _ rfl, blk_cell g1 4 _ rfl, blk_cell g1 5 _ rfl, blk_cell g1 6 _ rfl, blk_cell g1 7 _ rfl, blk_cell g2 1 _ rfl, blk_cell g2 2 _ rfl, g3.1, g3.2.1, g3.2.2⟩
      obtain ⟨P, hP⟩ : ∃ P : Nat → Prop, P = fun i => OnB (x.bk i) s.id := ⟨_, rfl⟩
      have HC1 : Hid (∀ w', Below w.heap.size w w' → Calls Tryz.prog 65 #[.slice abk x.bkn cbk, .int .i64 s.id] w' fun e w2 => (∃ ao c, e = .returned (.slice ao (onL P x.bkn).length c) ∧ w2.ownsRow w.heap.size 72 13 (.slice ao (onL P x.bkn).length c) (onL P x.bkn).length (onRow C P x.bkn)) ∧ Below w'.heap.size w' w2) := fun w' h =>
        (bookingsOn_any abk x.bkn cbk x.bk C s.id w' HSH.out.2.2.1 HSH.out.2.2.2 (HC.out.below h) (fun j hj => (HI.out j hj).below h)).mono fun _ _ ⟨⟨ao, c, a, _, b⟩, d⟩ => by
          rw [hP]
          exact ⟨⟨ao, c, a, own_base b h.size⟩, d⟩
      have HC2 : Hid (∀ w' ao c, Below w.heap.size w w' → w'.ownsRow w.heap.size 72 13 (.slice ao (onL P x.bkn).length c) (onL P x.bkn).length (onRow C P x.bkn) → Calls Tryz.prog 64 #[.agg #[.int .i64 s.id, .string s.fr, .string s.dst, .int .i64 s.dep, .int .i64 s.arr, .slice la s.la.n lc, .slice ca s.ca.n cc, .int .i64 s.most], .agg #[.slice ast l.stn cst, .slice aro l.ron cro, .slice ase l.sen cse], .slice ao (onL P x.bkn).length c] w' fun e w2 => SaysIf (Tallies x k) e ∧ Below w'.heap.size w' w2) := fun w' ao c h ho => by
        have key : Just s l (onL P x.bkn).length (fun j => x.bk (onI P x.bkn j)) ↔ Tallies x k := by
          have := just_iff (o := x) (k := k) (by rw [← HSD.out, ← HLL.out]; exact HOK.out) (fun i hi => (HP2.out.2 i hi).2.2.2.2.1)
          rw [hP, HSD.out, HLL.out]
          exact this
        refine (holdsJust_any s l (onL P x.bkn).length (fun j => x.bk (onI P x.bkn j)) (fun j => C (onI P x.bkn j)) la ca ast aro ase ao lc cc cst cro cse c w' (Nat.le_trans (onL_le P _) HSH.out.2.2.1) HLH.out (rooms_cab HOK.out.2.1) (HCA.out.below h) (HST.out.below h) (HRO.out.below h) (HSE.out.below h) (RecsAt.of_own ho) (fun j hj => (HI.out _ (onI_is P x.bkn j hj).1).below h)).mono ?_
        rintro e w2 ⟨⟨b, rfl, hb⟩, hd⟩
        exact ⟨⟨b, rfl, by rw [hb, key]⟩, hd⟩
      clear hP bO hbox
      go_cut [28, 45] (fun i c wx => i = .int .i64 k ∧ Tells (Tallies x k) c ∧ Below w.heap.size w wx ∧ Below V2.heap.size V2 wx)
      case first =>
        go_region_held3 (fun w' => w'.cell? ⟨Bx, 0, none⟩ = some (.int .i64 s.id) ∧ w'.cell? ⟨Bx, 1, none⟩ = some (.string s.fr) ∧ w'.cell? ⟨Bx, 2, none⟩ = some (.string s.dst) ∧ w'.cell? ⟨Bx, 3, none⟩ = some (.int .i64 s.dep) ∧ w'.cell? ⟨Bx, 4, none⟩ = some (.int .i64 s.arr) ∧ w'.cell? ⟨Bx, 5, none⟩ = some (.slice la s.la.n lc) ∧ w'.cell? ⟨Bx, 6, none⟩ = some (.slice ca s.ca.n cc) ∧ w'.cell? ⟨Bx, 7, none⟩ = some (.int .i64 s.most) ∧
            w'.cell? ⟨w.heap.size, 1, none⟩ = some (.slice (some ⟨lb, lo, none⟩) x.ldn cld) ∧ w'.cell? ⟨w.heap.size, 2, none⟩ = some (.slice abk x.bkn cbk) ∧
            w'.cell? ⟨lb, lo + k * 3, none⟩ = some (.slice ast l.stn cst) ∧ w'.cell? ⟨lb, lo + k * 3 + 1, none⟩ = some (.slice aro l.ron cro) ∧ w'.cell? ⟨lb, lo + k * 3 + 2, none⟩ = some (.slice ase l.sen cse))
          ((refine KS.out _ ?_; exact (by repeat (first | exact Below.refl _ _ | refine Below.drew ?_ | refine after ?_ hb4 | refine after ?_ hb5))))
          (first
            | (go_at_call 65; refine Calls.mono (HC1.out _ (BW.out _ (by repeat (first | exact Below.refl _ _ | refine Below.drew ?_ | refine after ?_ hb4 | refine after ?_ hb5)))) ?_; rintro e w4 ⟨⟨ao4, c4, rfl, ho4⟩, hb4⟩)
            | (go_at_call 64; refine Calls.mono (HC2.out _ ao4 c4 (BW.out _ (by repeat (first | exact Below.refl _ _ | refine Below.drew ?_ | refine after ?_ hb4 | refine after ?_ hb5))) (own_below (w := w4) (by repeat (first | exact Below.refl _ _ | refine Below.drew ?_ | refine after ?_ hb5)) ho4)) ?_; rintro e w5 ⟨⟨t5, rfl, ht5⟩, hb5⟩))
        all_goals
          go_wp2
          go_meet
          refine ⟨rfl, ?_, BW.out _ (by repeat (first | exact Below.refl _ _ | refine Below.drew ?_ | refine after ?_ hb4 | refine after ?_ hb5)), after hbx (by repeat (first | exact Below.refl _ _ | refine Below.drew ?_ | refine after ?_ hb4 | refine after ?_ hb5))⟩
          cases t5 with
          | true => exact tells_good (ht5.1 rfl)
          | false => exact tells_bad (fun h => by have := ht5.2 h; cases this)
      case rest =>
        obtain ⟨rfl, ⟨t, rfl, ht⟩, hby, hbz⟩ := hcut
        have HT : Hid (t = false ↔ Tallies x k) := ht
        clear ht KS BW HC1 HC2 HD
        cases t with
        | true =>
          have HN : Hid (¬ OffOk x) := fun h => by have := HT.out.2 (h.2.2.2.2.2 k hlt); cases this
          go_wp2
          go_ret
          exact ⟨says_no HN.out, hby⟩
        | false =>
          have HK : Hid (Tallies x k) := HT.out.1 rfl
          clear HT
          go_wp2
          go_roundw
          case rel => exact ⟨k + 1, by omega, by go_num, fun j hj => by
            by_cases e : j = k
            · subst e; exact HK.out
            · exact HA.out j (by omega), hbz⟩
          case measure => simp [intOf]; omega
    · obtain rfl : k = x.san := by omega
      have HY : Hid (OffOk x) := ⟨HP0.out, HP1.out.1, HP2.out.1, HP1.out.2, HP2.out.2, HA.out⟩
      have hbw := after HB0.out hbel
      clear HA
      go_wp2
      go_ret
      exact ⟨says_yes HY.out, hbw⟩
end Go.Proofs.YtlelckbeoclhbaaGreat

namespace Go.Proofs.YtlelckbeoclhbaaGreat
open Go.RowKit
open Classical in
noncomputable def deckOk (p : Pairs) (n : Nat) (S : Nat → Stay) : Bool := decide (DeckI p n S)
noncomputable def freeLen (p : Pairs) (n : Nat) (S : Nat → Stay) : Nat := if deckOk p n S then p.n else 0
theorem deckOk_yes {p : Pairs} {n : Nat} {S : Nat → Stay} (h : DeckI p n S) : deckOk p n S = true := by unfold deckOk; simpa using h
theorem deckOk_no {p : Pairs} {n : Nat} {S : Nat → Stay} (h : ¬ DeckI p n S) : deckOk p n S = false := by unfold deckOk; simpa using h
theorem freeLen_yes {p : Pairs} {n : Nat} {S : Nat → Stay} (h : DeckI p n S) : freeLen p n S = p.n := by unfold freeLen; rw [deckOk_yes h]; rfl
theorem freeLen_no {p : Pairs} {n : Nat} {S : Nat → Stay} (h : ¬ DeckI p n S) : freeLen p n S = 0 := by unfold freeLen; rw [deckOk_no h]; rfl
theorem freeLen_le (p : Pairs) (n : Nat) (S : Nat → Stay) : freeLen p n S ≤ 4 := by
  by_cases h : DeckI p n S
  · rw [freeLen_yes h]; exact h.1.1
  · rw [freeLen_no h]; omega
def FreeRes (w' : World) (base : Nat) (p : Pairs) (n : Nat) (S : Nat → Stay) (e : Ending) : Prop :=
  ∃ v, e = .returned (.tuple #[v, .bool (deckOk p n S)]) ∧ w'.ownsRow base 3 1 v (freeLen p n S) (intList (left p S n) (freeLen p n S))
theorem freeRes_no {w : World} {base : Nat} {p : Pairs} {n : Nat} {S : Nat → Stay} (h : ¬ DeckI p n S) : FreeRes w base p n S (.returned (.tuple #[.slice none 0 0, .bool false])) :=
  ⟨_, by rw [deckOk_no h], by rw [freeLen_no h]; exact ⟨rfl, .inl ⟨rfl, rfl⟩⟩⟩
theorem freeRes_yes {w : World} {base m : Nat} {p : Pairs} {n : Nat} {S : Nat → Stay} {v : Value} (h : DeckI p n S) (hm : p.n = m) (ho : w.ownsRow base 3 1 v m (intList (left p S n) m)) : FreeRes w base p n S (.returned (.tuple #[v, .bool true])) :=
  ⟨_, by rw [deckOk_yes h], by rw [freeLen_yes h, hm]; exact ho⟩
end Go.Proofs.YtlelckbeoclhbaaGreat
