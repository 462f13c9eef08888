/-
  OWN TEXT: CmpI, KitG.
-/
import Derived.Deep.RegionHeld3
import Derived.Deep.DeepCutAuto
import Derived.BigQuiet
import Derived.Test.YthcjfoaejomfaaaB13
import Derived.Test.YthcjfoaejomfaaaB15
import Derived.Test.YthcjfoaejomfaaaB00
namespace Go.Proofs.Ythcjfoaejomfaaa
open Go.RowKit

def lexI : List Int → List Int → Prop
  | _, [] => False
  | [], _ :: _ => True
  | a :: p, b :: q => a < b ∨ (a = b ∧ lexI p q)
/-- A route: its legs' slice, its legs, where and when it comes. -/
structure Rt where
  v : Value
  ls : List Int
  pl : ByteArray
  t : Int
/-- It comes before. -/
def RBef (ta : Int) (xs : List Int) (tb : Int) (ys : List Int) : Prop :=
  ta < tb ∨ (ta = tb ∧ (xs.length < ys.length ∨ (xs.length = ys.length ∧ lexI xs ys)))

theorem compare_is (a b : Int) (w : World) : Calls Try.prog 47 #[.int .i64 a, .int .i64 b] w fun e w' => (∃ r : Int, e = .returned (.int .i64 r) ∧ -1 ≤ r ∧ r ≤ 1 ∧ (r < 0 ↔ a < b) ∧ (r = 0 ↔ a = b)) ∧ w' = w := by
  have nan : ∀ (x : Int) (w : World), Calls Try.prog 48 #[.int .i64 x] w fun e w' => e = .returned (.bool false) ∧ w' = w := by
    intro x w
    go_enter Try.func48, Try.ntmps48
    go_wp2
    go_ret
    exact ⟨rfl, rfl⟩
  have NAN : Hid (∀ (x : Int) (w : World), Calls Try.prog 48 #[.int .i64 x] w fun e w' => e = .returned (.bool false) ∧ w' = w) := nan
  clear nan
  by_cases h1 : a < b
  · have e1 : decide (a < b) = true := by simpa using h1
    go_enter Try.func47, Try.ntmps47
    go_wp2_with (first | (go_at_call 48; refine Calls.mono (NAN.out _ _) ?_; rintro e w' ⟨rfl, hw'⟩; have hw' := hw'.symm; subst hw'))
    go_ret
    exact ⟨⟨-1, rfl, by omega, by omega, ⟨fun _ => h1, fun _ => by omega⟩, ⟨fun h => by omega, fun h => by omega⟩⟩, rfl⟩
  · have e1 : decide (a < b) = false := by simpa using h1
    by_cases h2 : b < a
    · have e2 : decide (b < a) = true := by simpa using h2
      go_enter Try.func47, Try.ntmps47
      go_wp2_with (first | (go_at_call 48; refine Calls.mono (NAN.out _ _) ?_; rintro e w' ⟨rfl, hw'⟩; have hw' := hw'.symm; subst hw'))
      go_ret
      exact ⟨⟨1, rfl, by omega, by omega, ⟨fun h => by omega, fun h => by omega⟩, ⟨fun h => by omega, fun h => by omega⟩⟩, rfl⟩
    · have e2 : decide (b < a) = false := by simpa using h2
      go_enter Try.func47, Try.ntmps47
      go_wp2_with (first | (go_at_call 48; refine Calls.mono (NAN.out _ _) ?_; rintro e w' ⟨rfl, hw'⟩; have hw' := hw'.symm; subst hw'))
      go_ret
      exact ⟨⟨0, rfl, by omega, by omega, ⟨fun h => by omega, fun h => by omega⟩, ⟨fun _ => by omega, fun _ => rfl⟩⟩, rfl⟩

theorem lexI_drop {xs ys : List Int} : ∀ {k : Nat}, k ≤ xs.length → xs.length = ys.length → (∀ j, j < k → getI xs j = getI ys j) → (lexI xs ys ↔ lexI (xs.drop k) (ys.drop k)) := by
  intro k
  induction k generalizing xs ys with
  | zero => intro _ _ _; simp
  | succ k ih =>
    intro hk hl hall
    match xs, ys, hl with
    | [], _, _ => simp at hk
    | x :: xs, y :: ys, hl =>
      have h0 : x = y := by simpa [getI] using hall 0 (by omega)
      subst h0
      rw [List.drop_succ_cons, List.drop_succ_cons, ← ih (by simpa using hk) (by simpa using hl) (fun j hj => by simpa [getI] using hall (j + 1) (by omega))]
      constructor
      · rintro (h | ⟨_, h⟩)
        · omega
        · exact h
      · intro h; exact .inr ⟨rfl, h⟩
theorem lexI_at {xs ys : List Int} {k : Nat} (hk : k < xs.length) (hl : xs.length = ys.length) (hall : ∀ j, j < k → getI xs j = getI ys j) (hne : getI xs k ≠ getI ys k) : lexI xs ys ↔ getI xs k < getI ys k := by
  rw [lexI_drop (by omega) hl hall]
  have hk2 : k < ys.length := by omega
  rw [List.drop_eq_getElem_cons hk, List.drop_eq_getElem_cons hk2]
  have g1 : getI xs k = xs[k] := by simp [getI, List.getElem?_eq_getElem hk]
  have g2 : getI ys k = ys[k] := by simp [getI, List.getElem?_eq_getElem hk2]
  rw [g1, g2] at hne ⊢
  constructor
  · rintro (h | ⟨h, _⟩)
    · exact h
    · exact absurd h hne
  · intro h; exact .inl h
theorem lexI_same {xs ys : List Int} (hl : xs.length = ys.length) (hall : ∀ j, j < xs.length → getI xs j = getI ys j) : ¬ lexI xs ys := by
  rw [lexI_drop (Nat.le_refl _) hl hall, List.drop_eq_nil_of_le (Nat.le_refl _), List.drop_eq_nil_of_le (by omega)]
  simp [lexI]

set_option maxHeartbeats 800000 in
theorem compareL_is (la lb : Option Addr) (n m lc mc : Nat) (xs ys : List Int) (w : World) (hn : xs.length = n) (hm : ys.length = m) (hn3 : n ≤ 1048576) (hx : IntsAt w la n (getI xs)) (hy : IntsAt w lb m (getI ys)) :
    Calls Try.prog 43 #[.slice la n lc, .slice lb m mc] w fun e w' => (∃ r : Int, e = .returned (.int .i64 r) ∧ -1 ≤ r ∧ r ≤ 1 ∧ (n = m → (r < 0 ↔ lexI xs ys))) ∧ w' = w := by
  have HN : Hid (xs.length = n) := hn
  have HM : Hid (ys.length = m) := hm
  clear hn hm
  go_enter Try.func43, Try.ntmps43
  go_wp2
  go_loop [5, 6, 7, 8, 11] (fun _ _ _ _ i => ∃ k : Nat, k ≤ n ∧ k ≤ m ∧ i = .int .i64 k ∧ ∀ j, j < k → getI xs j = getI ys j) (fun _ _ _ _ i => n - (intOf i).toNat)
  case atStart => exact ⟨0, Nat.zero_le _, Nat.zero_le _, rfl, fun j hj => by omega⟩
  case round =>
    obtain ⟨k, hk, hk2, rfl, hall⟩ := hrel
    have HA : Hid (∀ j, j < k → getI xs j = getI ys j) := hall
    clear hall
    by_cases hlt : k < n
    · obtain ⟨b, off, rfl, hc⟩ := hx k hlt
      by_cases hlm : k < m
      · have dm : decide (m ≤ k) = false := by simp; omega
        obtain ⟨b2, off2, rfl, hd⟩ := hy k hlm
        go_wp2_with fail
        refine (compare_is _ _ _).mono ?_
        rintro e w' ⟨⟨r, rfl, r1, r2, r3, r4⟩, hw'⟩
        have hw' := hw'.symm
        subst hw'
        have R3 : Hid (r < 0 ↔ getI xs k < getI ys k) := r3
        have R4 : Hid (r = 0 ↔ getI xs k = getI ys k) := r4
        clear r3 r4
        by_cases hr : r = 0
        · have hne : (r == 0) = true := by simpa using hr
          have HE : Hid (getI xs k = getI ys k) := R4.out.1 hr
          clear hr R3 R4 r1 r2
          go_wp2
          go_round
          case rel => exact ⟨k + 1, by omega, by omega, by go_num, fun j hj => by
            by_cases e : j = k
            · subst e; exact HE.out
            · exact HA.out j (by omega)⟩
          case measure => simp [intOf]; omega
        · have hne : (r == 0) = false := by simpa using hr
          have HR : Hid (¬ r = 0) := hr
          have B1 : Hid (-1 ≤ r ∧ r ≤ 1) := ⟨r1, r2⟩
          clear hr r1 r2
          go_wp2
          go_ret
          exact ⟨⟨r, rfl, B1.out.1, B1.out.2, fun e => by
            rw [R3.out]
            exact (lexI_at (by rw [HN.out]; exact hlt) (by rw [HN.out, HM.out, e]) HA.out (fun h => HR.out (R4.out.2 h))).symm⟩, rfl⟩
      · have dm : decide (m ≤ k) = true := by simp; omega
        go_wp2
        go_ret
        exact ⟨⟨1, rfl, by omega, by omega, fun e => by omega⟩, rfl⟩
    · obtain rfl : k = n := by omega
      by_cases hkm : k < m
      · have dm : decide (k < m) = true := by simpa using hkm
        go_wp2
        go_ret
        exact ⟨⟨-1, rfl, by omega, by omega, fun e => by omega⟩, rfl⟩
      · have dm : decide (k < m) = false := by simpa using hkm
        go_wp2
        go_ret
        exact ⟨⟨0, rfl, by omega, by omega, fun e => ⟨fun h => by omega, fun h => absurd h (lexI_same (by rw [HN.out, HM.out, e]) (fun j hj => HA.out j (by rw [HN.out] at hj; exact hj)))⟩⟩, rfl⟩

/-- The first of three numbers that is not 0. -/
def orV (a b c : Int) : Int := if a = 0 then if b = 0 then c else b else a

set_option maxHeartbeats 800000 in
theorem or3_is (g : Nat) (a b c : Int) (w : World) (h0 : w.cell? ⟨g, 0, none⟩ = some (.int .i64 a)) (h1 : w.cell? ⟨g, 1, none⟩ = some (.int .i64 b)) (h2 : w.cell? ⟨g, 2, none⟩ = some (.int .i64 c)) :
    Calls Try.prog 42 #[.slice (some ⟨g, 0, none⟩) 3 3] w fun e w' => e = .returned (.int .i64 (orV a b c)) ∧ w' = w := by
  unfold orV
  by_cases ha : a = 0
  · subst ha
    by_cases hb : b = 0
    · subst hb
      rw [if_pos rfl, if_pos rfl]
      by_cases hc : c = 0
      · subst hc
        go_enter Try.func42, Try.ntmps42
        go_wp2
        go_loop [5, 8] (fun _ i => ∃ k : Nat, k ≤ 3 ∧ i = .int .i64 k) (fun _ i => 3 - (intOf i).toNat)
        case atStart => exact ⟨0, Nat.zero_le _, rfl⟩
        case round =>
          obtain ⟨k, hk, rfl⟩ := hrel
          have hk4 : k = 0 ∨ k = 1 ∨ k = 2 ∨ k = 3 := by omega
          rcases hk4 with rfl | rfl | rfl | rfl
          · go_wp2
            go_round
            case rel => exact ⟨1, by omega, rfl⟩
            case measure => simp [intOf]
          · go_wp2
            go_round
            case rel => exact ⟨2, by omega, rfl⟩
            case measure => simp [intOf]
          · go_wp2
            go_round
            case rel => exact ⟨3, by omega, rfl⟩
            case measure => simp [intOf]
          · go_wp2
            go_ret
            exact ⟨rfl, rfl⟩
      · have ec : (c == 0) = false := by simpa using hc
        go_enter Try.func42, Try.ntmps42
        go_wp2
        go_loop [5, 8] (fun _ i => ∃ k : Nat, k ≤ 2 ∧ i = .int .i64 k) (fun _ i => 3 - (intOf i).toNat)
        case atStart => exact ⟨0, Nat.zero_le _, rfl⟩
        case round =>
          obtain ⟨k, hk, rfl⟩ := hrel
          have hk4 : k = 0 ∨ k = 1 ∨ k = 2 := by omega
          rcases hk4 with rfl | rfl | rfl
          · go_wp2
            go_round
            case rel => exact ⟨1, by omega, rfl⟩
            case measure => simp [intOf]
          · go_wp2
            go_round
            case rel => exact ⟨2, by omega, rfl⟩
            case measure => simp [intOf]
          · go_wp2
            go_ret
            exact ⟨rfl, rfl⟩
    · rw [if_pos rfl, if_neg hb]
      have eb : (b == 0) = false := by simpa using hb
      go_enter Try.func42, Try.ntmps42
      go_wp2
      go_loop [5, 8] (fun _ i => ∃ k : Nat, k ≤ 1 ∧ i = .int .i64 k) (fun _ i => 3 - (intOf i).toNat)
      case atStart => exact ⟨0, Nat.zero_le _, rfl⟩
      case round =>
        obtain ⟨k, hk, rfl⟩ := hrel
        have hk4 : k = 0 ∨ k = 1 := by omega
        rcases hk4 with rfl | rfl
        · go_wp2
          go_round
          case rel => exact ⟨1, by omega, rfl⟩
          case measure => simp [intOf]
        · go_wp2
          go_ret
          exact ⟨rfl, rfl⟩
  · rw [if_neg ha]
    have ea : (a == 0) = false := by simpa using ha
    go_enter Try.func42, Try.ntmps42
    go_wp2
    go_loop [5, 8] (fun _ i => i = .int .i64 0) (fun _ i => 3 - (intOf i).toNat)
    case atStart => rfl
    case round =>
      subst hrel
      go_wp2
      go_ret
      exact ⟨rfl, rfl⟩

theorem or3_neg {ta tb : Int} {xs ys : List Int} {n m : Nat} {r : Int} (hn : xs.length = n) (hm : ys.length = m) (hr : n = m → (r < 0 ↔ lexI xs ys)) :
    orV (ta - tb) ((n : Int) - (m : Int)) r < 0 ↔ RBef ta xs tb ys := by
  unfold RBef orV
  rw [hn, hm]
  by_cases h1 : ta = tb
  · rw [if_pos (by omega)]
    by_cases h2 : n = m
    · rw [if_pos (by omega), hr h2]
      constructor
      · intro h; exact .inr ⟨h1, .inr ⟨h2, h⟩⟩
      · rintro (h | ⟨_, h | ⟨_, h⟩⟩)
        · omega
        · omega
        · exact h
    · rw [if_neg (by omega)]
      constructor
      · intro h; exact .inr ⟨h1, .inl (by omega)⟩
      · rintro (h | ⟨_, h | ⟨h, _⟩⟩)
        · omega
        · omega
        · omega
  · rw [if_neg (by omega)]
    constructor
    · intro h; exact .inl (by omega)
    · rintro (h | ⟨h, _⟩)
      · omega
      · omega

set_option maxHeartbeats 1600000 in
set_option maxRecDepth 100000 in
theorem comesFirst_any (la lb : Option Addr) (n m lc mc : Nat) (xs ys : List Int) (pa pb : ByteArray) (ta tb : Int) (w : World) (hn : xs.length = n) (hm : ys.length = m) (hn3 : n ≤ 1048576) (hm3 : m ≤ 1048576) (hx : IntsAt w la n (getI xs)) (hy : IntsAt w lb m (getI ys)) (a0 : 0 ≤ ta) (a1 : ta ≤ 10000) (b0 : 0 ≤ tb) (b1 : tb ≤ 10000) :
    Calls Try.prog 33 #[.agg #[.slice la n lc, .string pa, .int .i64 ta], .agg #[.slice lb m mc, .string pb, .int .i64 tb]] w fun e w' => SaysIf (RBef ta xs tb ys) e ∧ Below w.heap.size w w' := by
  have HN : Hid (xs.length = n) := hn
  have HM : Hid (ys.length = m) := hm
  clear hn hm
  go_enter Try.func33, Try.ntmps33
  go_upto_region 1 with fail
  have hA : ((w.alloc (.cells #[.slice la n lc, .string pa, .int .i64 ta] 50)).alloc (.cells #[.slice lb m mc, .string pb, .int .i64 tb] 50)).heap[w.heap.size]? = some (.cells #[.slice la n lc, .string pa, .int .i64 ta] 50 (0, 0)) := blk_alloc (heap_alloc_new w _) _
  have hB : ((w.alloc (.cells #[.slice la n lc, .string pa, .int .i64 ta] 50)).alloc (.cells #[.slice lb m mc, .string pb, .int .i64 tb] 50)).heap[w.heap.size + 1]? = some (.cells #[.slice lb m mc, .string pb, .int .i64 tb] 50 (0, 0)) := by simpa using heap_alloc_new (w.alloc _) _
  have hb0 : Below w.heap.size w ((w.alloc (.cells #[.slice la n lc, .string pa, .int .i64 ta] 50)).alloc (.cells #[.slice lb m mc, .string pb, .int .i64 tb] 50)) := push (push (Below.refl _ _) _) _
  generalize hW : (w.alloc (.cells #[.slice la n lc, .string pa, .int .i64 ta] 50)).alloc (.cells #[.slice lb m mc, .string pb, .int .i64 tb] 50) = W at hA hB hb0 ⊢
  clear hW
  have cc := compareL_is la lb n m lc mc xs ys W.drew HN.out HM.out hn3 (hx.below hb0.drew) (hy.below hb0.drew)
  have CC : Hid _ := cc
  have keepS : Hid (∀ w', Below W.heap.size W w' → w'.cell? ⟨w.heap.size, 0, none⟩ = some (.slice la n lc) ∧ w'.cell? ⟨w.heap.size, 2, none⟩ = some (.int .i64 ta) ∧ w'.cell? ⟨w.heap.size + 1, 0, none⟩ = some (.slice lb m mc) ∧ w'.cell? ⟨w.heap.size + 1, 2, none⟩ = some (.int .i64 tb)) :=
    fun w' hk => ⟨blk_cell (blk_below hA hk) 0 _ rfl, blk_cell (blk_below hA hk) 2 _ rfl, blk_cell (blk_below hB hk) 0 _ rfl, blk_cell (blk_below hB hk) 2 _ rfl⟩
  have q0 : W.cell? ⟨w.heap.size, 0, none⟩ = some (.slice la n lc) := blk_cell hA 0 _ rfl
  have q1 : W.cell? ⟨w.heap.size, 2, none⟩ = some (.int .i64 ta) := blk_cell hA 2 _ rfl
  have q2 : W.cell? ⟨w.heap.size + 1, 0, none⟩ = some (.slice lb m mc) := blk_cell hB 0 _ rfl
  have q3 : W.cell? ⟨w.heap.size + 1, 2, none⟩ = some (.int .i64 tb) := blk_cell hB 2 _ rfl
  have KD : Hid (Below W.heap.size W W.drew) := (Below.refl _ _).drew
  have KP : Hid (∀ o, Below W.heap.size W (W.alloc o)) := fun o => push (Below.refl _ _) _
  have KPD : Hid (∀ o, Below W.heap.size W (W.alloc o).drew) := fun o => (push (Below.refl _ _) _).drew
  have HB0 : Hid (Below w.heap.size w W) := hb0
  have w1 : IntKind.i64.wrap (ta - tb) = ta - tb := by rw [IntKind.wrap_i64]; omega
  have w2 : IntKind.i64.wrap ((n : Int) - (m : Int)) = (n : Int) - (m : Int) := by rw [IntKind.wrap_i64]; omega
  clear cc hA hB hb0 hx hy
  go_region_held3 (fun w' => w'.cell? ⟨w.heap.size, 0, none⟩ = some (.slice la n lc) ∧ w'.cell? ⟨w.heap.size, 2, none⟩ = some (.int .i64 ta) ∧ w'.cell? ⟨w.heap.size + 1, 0, none⟩ = some (.slice lb m mc) ∧ w'.cell? ⟨w.heap.size + 1, 2, none⟩ = some (.int .i64 tb))
    (first | with_reducible exact ⟨q0, q1, q2, q3⟩ | with_reducible exact keepS.out _ KD.out | with_reducible exact keepS.out _ (KP.out _) | with_reducible exact keepS.out _ (KPD.out _))
    (first | (go_at_call 43; refine Calls.mono CC.out ?_; rintro e w' ⟨⟨r, rfl, r1, r2, r3⟩, hw'⟩; have hw' := hw'.symm; subst hw'; have R3 : Hid (n = m → (r < 0 ↔ lexI xs ys)) := r3; clear r3) | (go_at_call 42; refine Calls.mono (or3_is _ (ta - tb) ((n : Int) - (m : Int)) r _ ?_ ?_ ?_) ?_; (focus simp [go_sem]); (focus simp [go_sem]); (focus simp [go_sem]); rintro e w' ⟨rfl, hw'⟩; have hw' := hw'.symm; subst hw'))
  have key := or3_neg (ta := ta) (tb := tb) (r := r) HN.out HM.out R3.out
  have KEY : Hid _ := key
  clear key
  generalize hq : orV (ta - tb) ((n : Int) - (m : Int)) r = q at KEY ⊢
  clear hq
  go_wp2
  go_ret
  exact ⟨⟨decide (q < 0), rfl, by rw [decide_eq_true_iff]; exact KEY.out⟩, after HB0.out (KPD.out _)⟩

end Go.Proofs.Ythcjfoaejomfaaa

namespace Go.Proofs.Ythcjfoaejomfaaa
open Go.RowKit

/-- A world that has grown out of W: nothing that was there is written. -/
structure Grown (W : World) where
  val : World
  bel : Below W.heap.size W val
instance (W : World) : Nonempty (Grown W) := ⟨⟨W, Below.refl _ _⟩⟩

theorem wp_region_grow {P : Program} {id : Nat} {Q : Exit → Act → World → Prop} {a : Act} {w : World} {l : List Oper} (hm : P.follows .mixedOrders = true) (hB : Region.lexB .any l.toArray = true)
    (h : wpQuiet P l.toArray (fun w' => ∃ g : Grown w, w' = g.val) (fun a' => ∀ w', (∃ g : Grown w, w' = g.val) → Q .normal a' w') l a) : (Code.region id l.toArray true).wp P Q a w :=
  wp_region_quiet (C := fun w' => ∃ g : Grown w, w' = g.val) hm hB ⟨⟨_, (Below.refl _ w).drew⟩, rfl⟩ (by simpa using h)

theorem grown_call {P : Program} {f : FuncId} {args : Array Value} {W : World} {g : Grown W} {v : Value}
    (h : Calls P f args g.val fun e w' => e = .returned v ∧ Below g.val.heap.size g.val w') : Calls P f args g.val fun e w'' => e = .returned v ∧ ∃ g' : Grown W, w'' = g'.val :=
  h.mono fun _ w' ⟨he, hb⟩ => ⟨he, ⟨w', after g.bel hb⟩, rfl⟩

end Go.Proofs.Ythcjfoaejomfaaa
