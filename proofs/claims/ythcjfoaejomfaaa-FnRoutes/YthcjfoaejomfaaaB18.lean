/-
  OWN TEXT: SinkI, PopI.
-/
import Derived.Deep.RegionLawGrows
import Derived.Test.YthcjfoaejomfaaaB17
namespace Go.Proofs.Ythcjfoaejomfaaa
open Go.RowKit

/-- The value v tells by true that P holds. -/
def SaysV (P : Prop) (v : Value) : Prop := ∃ b : Bool, v = .bool b ∧ (b = true ↔ P)
theorem saysV_yes {P : Prop} (h : P) : SaysV P (.bool true) := ⟨true, rfl, ⟨fun _ => h, fun _ => rfl⟩⟩
theorem saysV_no {P : Prop} (h : ¬ P) : SaysV P (.bool false) := ⟨false, rfl, ⟨fun e => (by cases e), fun p => absurd p h⟩⟩

/-- The call returned. -/
def Done (e : Ending) : Prop := ∃ v, e = .returned v
/-- The heap is one again. -/
def Sunk (w w' : World) (base g n cap : Nat) (H : Nat → Rt) : Prop := ∃ H', HeapAt w' base g n cap H' ∧ Heap RBefR n H' ∧ (∀ f, tot f H' n = tot f H n) ∧ Kept w w' (fun b => b = g)
/-- c is the one below a that comes first. -/
def BestKid (n : Nat) (H : Nat → Rt) (a c : Nat) : Prop := c < n ∧ (c - 1) / 2 = a ∧ 0 < c ∧ a < c ∧ ∀ i, 0 < i → i < n → (i - 1) / 2 = a → ¬ RBefR (H i) (H c)

set_option maxHeartbeats 3200000 in
set_option maxRecDepth 100000 in
theorem sink_any (base g n cap : Nat) (H : Nat → Rt) (w : World) (hn : n ≤ 1048576) (hh : HeapAt w base g n cap H) (hd : HeapDown RBefR n H 0) :
    Calls Try.prog 41 #[.slice (some ⟨g, 0, none⟩) n cap, .func (.func 33) #[] #[]] w fun e w' => Done e ∧ Sunk w w' base g n cap H := by
  have HD : Hid (HeapDown RBefR n H 0) := hd
  have HH0 : Hid (HeapAt w base g n cap H) := hh
  clear hd hh
  go_enter Try.func41, Try.ntmps41
  go_wp2
  go_loopw [4, 5] (fun s4 s5 wr => ∃ (a bl : Nat) (H' : Nat → Rt), s4 = .int .i64 a ∧ s5 = .int .i64 bl ∧ bl = 2 * a + 1 ∧ (a < n ∨ a = 0) ∧ HeapAt wr base g n cap H' ∧ HeapDown RBefR n H' a ∧ (∀ f, tot f H' n = tot f H n) ∧ Kept w wr (fun b => b = g)) (fun s4 _ _ => n - (intOf s4).toNat)
  case atStart => exact ⟨0, 1, H, rfl, rfl, rfl, .inr rfl, HH0.out, HD.out, fun f => rfl, Kept.refl _ _⟩
  case round =>
    obtain ⟨a, bl, H', rfl, rfl, hbl, han, hh, hdn, htot, hk⟩ := hrel
    have HH : Hid (HeapAt wr base g n cap H') := hh
    have HDN : Hid (HeapDown RBefR n H' a) := hdn
    have HT : Hid (∀ f, tot f H' n = tot f H n) := htot
    have HK : Hid (Kept w wr (fun b => b = g)) := hk
    have HBL : Hid (bl = 2 * a + 1) := hbl
    have hab : a < bl := by omega
    clear hh hdn htot hk hbl
    by_cases hlt : bl < n
    · have hgl := HH.out.lt
      have j1 : (bl : Int) < (n : Int) := by omega
      have j2 : (0 : Int) ≤ (bl : Int) := by omega
      have dl : decide (bl < n) = true := by simpa using hlt
      obtain ⟨y0', y1', y2'⟩ := HH.out.cells (i := bl) (by omega)
      have y0 : ∀ g' : Grown wr, g'.val.cell? ⟨g, bl * 3, none⟩ = _ := fun g' => (g'.bel.cell (p := ⟨g, bl * 3, none⟩) hgl.1).trans y0'
      have y1 : ∀ g' : Grown wr, g'.val.cell? ⟨g, bl * 3 + 1, none⟩ = _ := fun g' => (g'.bel.cell (p := ⟨g, bl * 3 + 1, none⟩) hgl.1).trans y1'
      have y2 : ∀ g' : Grown wr, g'.val.cell? ⟨g, bl * 3 + 2, none⟩ = _ := fun g' => (g'.bel.cell (p := ⟨g, bl * 3 + 2, none⟩) hgl.1).trans y2'
      clear y0' y1' y2'
      have k2 : ((bl : Int) + 1).toNat = bl + 1 := by omega
      have k4 : (0 : Int) ≤ (bl : Int) + 1 := by omega
      have k5 : IntKind.i64.wrap ((bl : Int) + 1) = (bl : Int) + 1 := by rw [IntKind.wrap_i64]; omega
      go_upto_region 2 with fail
      go_cut [4, 5, 27] (fun s4 s5 v wx => s4 = .int .i64 a ∧ s5 = .int .i64 bl ∧ SaysV (bl + 1 < n ∧ RBefR (H' (bl + 1)) (H' bl)) v ∧ Below wr.heap.size wr wx)
      case first =>
        by_cases h2 : bl + 1 < n
        · have k3 : (bl : Int) + 1 < (n : Int) := by omega
          have d2 : decide ((bl : Int) + 1 < (n : Int)) = true := by simpa using k3
          obtain ⟨x0', x1', x2'⟩ := HH.out.cells (i := bl + 1) (by omega)
          have x0 : ∀ g' : Grown wr, g'.val.cell? ⟨g, (bl + 1) * 3, none⟩ = _ := fun g' => (g'.bel.cell (p := ⟨g, (bl + 1) * 3, none⟩) hgl.1).trans x0'
          have x1 : ∀ g' : Grown wr, g'.val.cell? ⟨g, (bl + 1) * 3 + 1, none⟩ = _ := fun g' => (g'.bel.cell (p := ⟨g, (bl + 1) * 3 + 1, none⟩) hgl.1).trans x1'
          have x2 : ∀ g' : Grown wr, g'.val.cell? ⟨g, (bl + 1) * 3 + 2, none⟩ = _ := fun g' => (g'.bel.cell (p := ⟨g, (bl + 1) * 3 + 2, none⟩) hgl.1).trans x2'
          clear x0' x1' x2'
          by_cases hbf : RBefR (H' (bl + 1)) (H' bl)
          · have HBF : Hid (RBefR (H' (bl + 1)) (H' bl)) := hbf
            clear hbf
            refine wp_region_grow (by kernel_rfl) (by kernel_rfl) ?_
            repeat (first | go_big_quiet_skip | (go_big_quiet_want; go_big_quiet_op; first | go_big_quiet_on | (apply Exists.intro; refine ⟨fun g' => ?_, ?_⟩; (focus (go_at_call 33; refine grown_call (v := .bool true) ((comesFirst_rt _ _ _ ((HH.out.2 (bl + 1) (by omega)).below g'.bel) ((HH.out.2 bl (by omega)).below g'.bel)).mono ?_); rintro e w4 ⟨⟨bb, rfl, hi⟩, hbb⟩; obtain rfl := hi.2 HBF.out; exact ⟨rfl, hbb⟩)); go_big_quiet_on)))
            refine wpQuiet_nil ?_
            rintro _ ⟨g', rfl⟩
            go_wp2
            go_meet
            exact ⟨rfl, rfl, saysV_yes ⟨h2, HBF.out⟩, g'.bel⟩
          · have HBF : Hid (¬ RBefR (H' (bl + 1)) (H' bl)) := hbf
            clear hbf
            refine wp_region_grow (by kernel_rfl) (by kernel_rfl) ?_
            repeat (first | go_big_quiet_skip | (go_big_quiet_want; go_big_quiet_op; first | go_big_quiet_on | (apply Exists.intro; refine ⟨fun g' => ?_, ?_⟩; (focus (go_at_call 33; refine grown_call (v := .bool false) ((comesFirst_rt _ _ _ ((HH.out.2 (bl + 1) (by omega)).below g'.bel) ((HH.out.2 bl (by omega)).below g'.bel)).mono ?_); rintro e w4 ⟨⟨bb, rfl, hi⟩, hbb⟩; obtain rfl := Bool.eq_false_iff.2 (fun e => HBF.out (hi.1 e)); exact ⟨rfl, hbb⟩)); go_big_quiet_on)))
            refine wpQuiet_nil ?_
            rintro _ ⟨g', rfl⟩
            go_wp2
            go_meet
            exact ⟨rfl, rfl, saysV_no (fun h => HBF.out h.2), g'.bel⟩
        · have d2 : decide ((bl : Int) + 1 < (n : Int)) = false := by simp; omega
          refine wp_region_grow (by kernel_rfl) (by kernel_rfl) ?_
          repeat (first | go_big_quiet_skip | (go_big_quiet_want; go_big_quiet_op; go_big_quiet_on))
          refine wpQuiet_nil ?_
          rintro _ ⟨g', rfl⟩
          go_wp2
          go_meet
          exact ⟨rfl, rfl, saysV_no (fun h => h2 h.1), g'.bel⟩
      case rest =>
        obtain ⟨rfl, rfl, ⟨tb, rfl, ht⟩, hb3⟩ := hcut
        have HTB : Hid (tb = true ↔ bl + 1 < n ∧ RBefR (H' (bl + 1)) (H' bl)) := ht
        clear ht y0 y1 y2
        obtain ⟨w3, ew3⟩ : ∃ y, y = wc := ⟨_, rfl⟩
        subst ew3
        have HH3 : Hid (HeapAt w3 base g n cap H') := HH.out.below hb3
        have HK3 : Hid (Kept w w3 (fun b => b = g)) := HK.out.trans (Kept.of_below hb3)
        have hgl := HH3.out.lt
        clear hb3 HH HK
        go_upto_if 27 with fail
        go_cut [4, 5] (fun s4 s5 wx => s4 = .int .i64 a ∧ (∃ c : Nat, s5 = .int .i64 c ∧ BestKid n H' a c) ∧ wx = w3)
        case first =>
          cases tb with
          | true =>
            have HB1 : Hid (bl + 1 < n ∧ RBefR (H' (bl + 1)) (H' bl)) := HTB.out.1 rfl
            clear HTB
            go_wp2
            go_meet
            refine ⟨rfl, ⟨bl + 1, by go_num, ?_⟩, rfl⟩
            have e2 := HBL.out
            refine ⟨HB1.out.1, by omega, by omega, by omega, fun i i0 hi he => ?_⟩
            have h2 : i = bl ∨ i = bl + 1 := by omega
            rcases h2 with rfl | rfl
            · exact fun h => rbef_ord.asymm _ _ h HB1.out.2
            · exact rbef_irrefl _
          | false =>
            have HB1 : Hid (¬ (bl + 1 < n ∧ RBefR (H' (bl + 1)) (H' bl))) := fun h => by have := HTB.out.2 h; cases this
            clear HTB
            go_wp2
            go_meet
            refine ⟨rfl, ⟨bl, rfl, ?_⟩, rfl⟩
            have e2 := HBL.out
            refine ⟨hlt, by omega, by omega, by omega, fun i i0 hi he => ?_⟩
            have h2 : i = bl ∨ i = bl + 1 := by omega
            rcases h2 with rfl | rfl
            · exact rbef_irrefl _
            · exact fun h => HB1.out ⟨hi, h⟩
        case rest =>
          obtain ⟨rfl, ⟨c, rfl, hc⟩, hwc⟩ := hcut
          have hwc := hwc.symm
          subst hwc
          have HC : Hid (BestKid n H' a c) := hc
          have cn : c < n := hc.1
          have ac : a < c := hc.2.2.2.1
          clear hc HTB k2 k4 k5 j1 j2 dl hlt hab HBL
          have i1 : (c : Int) < (n : Int) := by omega
          have i2 : (0 : Int) ≤ (c : Int) := by omega
          have i3 : (a : Int) < (n : Int) := by omega
          have i4 : (0 : Int) ≤ (a : Int) := by omega
          obtain ⟨p0, p1, p2⟩ := HH3.out.cells (i := c) (by omega)
          obtain ⟨q0, q1, q2⟩ := HH3.out.cells (i := a) (by omega)
          have u0 : ∀ g' : Grown w3, g'.val.cell? ⟨g, c * 3, none⟩ = _ := fun g' => (g'.bel.cell (p := ⟨g, c * 3, none⟩) hgl.1).trans p0
          have u1 : ∀ g' : Grown w3, g'.val.cell? ⟨g, c * 3 + 1, none⟩ = _ := fun g' => (g'.bel.cell (p := ⟨g, c * 3 + 1, none⟩) hgl.1).trans p1
          have u2 : ∀ g' : Grown w3, g'.val.cell? ⟨g, c * 3 + 2, none⟩ = _ := fun g' => (g'.bel.cell (p := ⟨g, c * 3 + 2, none⟩) hgl.1).trans p2
          have v0 : ∀ g' : Grown w3, g'.val.cell? ⟨g, a * 3, none⟩ = _ := fun g' => (g'.bel.cell (p := ⟨g, a * 3, none⟩) hgl.1).trans q0
          have v1 : ∀ g' : Grown w3, g'.val.cell? ⟨g, a * 3 + 1, none⟩ = _ := fun g' => (g'.bel.cell (p := ⟨g, a * 3 + 1, none⟩) hgl.1).trans q1
          have v2 : ∀ g' : Grown w3, g'.val.cell? ⟨g, a * 3 + 2, none⟩ = _ := fun g' => (g'.bel.cell (p := ⟨g, a * 3 + 2, none⟩) hgl.1).trans q2
          clear p0 p1 p2 q0 q1 q2
          go_upto_region 4 with fail
          by_cases hlt2 : RBefR (H' c) (H' a)
          · have HL2 : Hid (RBefR (H' c) (H' a)) := hlt2
            clear hlt2
            refine wp_region_grow (by kernel_rfl) (by kernel_rfl) ?_
            repeat (first | go_big_quiet_skip | (go_big_quiet_want; go_big_quiet_op; first | go_big_quiet_on | (apply Exists.intro; refine ⟨fun g' => ?_, ?_⟩; (focus (go_at_call 33; refine grown_call (v := .bool true) ((comesFirst_rt _ _ _ ((HH3.out.2 c (by omega)).below g'.bel) ((HH3.out.2 a (by omega)).below g'.bel)).mono ?_); rintro e w4 ⟨⟨bb, rfl, hi⟩, hbb⟩; obtain rfl := hi.2 HL2.out; exact ⟨rfl, hbb⟩)); go_big_quiet_on)))
            refine wpQuiet_nil ?_
            rintro _ ⟨g', rfl⟩
            go_upto_region 5 with fail
            have HH4 : Hid (HeapAt g'.val base g n cap H') := HH3.out.below g'.bel
            have HK4 : Hid (Kept w g'.val (fun b => b = g)) := HK3.out.trans (Kept.of_below g'.bel)
            obtain ⟨w4, ew4⟩ : ∃ y, y = g'.val := ⟨_, rfl⟩
            rw [← ew4] at HH4 HK4 ⊢
            clear ew4 u0 u1 u2 v0 v1 v2
            obtain ⟨p0, p1, p2⟩ := HH4.out.cells (i := c) (by omega)
            obtain ⟨q0, q1, q2⟩ := HH4.out.cells (i := a) (by omega)
            obtain ⟨ca, cl, ec, _⟩ := (HH4.out.2 c (by omega)).form
            obtain ⟨aa, al, ea, _⟩ := (HH4.out.2 a (by omega)).form
            have EC : Hid ((H' c).v = .slice ca (H' c).ls.length cl) := ec
            have EA : Hid ((H' a).v = .slice aa (H' a).ls.length al) := ea
            rw [ec] at p0
            rw [ea] at q0
            clear ec ea
            have fc0 := HH4.out.free (c * 3)
            have fc1 := HH4.out.free (c * 3 + 1)
            have fc2 := HH4.out.free (c * 3 + 2)
            have fa0 := HH4.out.free (a * 3)
            have fa1 := HH4.out.free (a * 3 + 1)
            have fa2 := HH4.out.free (a * 3 + 2)
            have hca : c ≠ a := by omega
            go_cut [4, 5] (fun s4 s5 wx => s4 = .int .i64 a ∧ s5 = .int .i64 c ∧ wx = (((((((w4.setCell ⟨g, a * 3, none⟩ (.slice ca (H' c).ls.length cl)).setCell ⟨g, a * 3 + 1, none⟩ (.string (H' c).pl)).setCell ⟨g, a * 3 + 2, none⟩ (.int .i64 (H' c).t)).setCell ⟨g, c * 3, none⟩ (.slice aa (H' a).ls.length al)).setCell ⟨g, c * 3 + 1, none⟩ (.string (H' a).pl)).setCell ⟨g, c * 3 + 2, none⟩ (.int .i64 (H' a).t))).drew)
            case first =>
              clear HH3 HK3 HDN HT HL2 HC
              go_region
              all_goals (go_wp2; go_meet; exact ⟨rfl, rfl, rfl⟩)
            case rest =>
              obtain ⟨rfl, rfl, hwc⟩ := hcut
              have key := HH4.out.swp (i := a) (j := c) (by omega) cn
              unfold set3 at key
              rw [EC.out, EA.out] at key
              have k2 := (set3_kept w4 g (a * 3) (H' c).v (.string (H' c).pl) (.int .i64 (H' c).t)).trans (set3_kept _ g (c * 3) (H' a).v (.string (H' a).pl) (.int .i64 (H' a).t))
              unfold set3 at k2
              rw [EC.out, EA.out] at k2
              have KEY : Hid (HeapAt wc base g n cap (swp H' a c)) := by rw [hwc]; exact key.below (Below.refl _ _).drew
              have K2 : Hid (Kept w wc (fun b => b = g)) := by rw [hwc]; exact (HK4.out.trans k2).trans (Kept.of_below (Below.refl _ _).drew)
              clear key k2 hwc p0 p1 p2 q0 q1 q2 fc0 fc1 fc2 fa0 fa1 fa2
              go_wp2
              go_roundw
              case rel => exact ⟨c, 2 * c + 1, swp H' a c, rfl, by go_num, rfl, .inl cn, KEY.out, down_step rbef_ord HDN.out cn HC.out.2.2.1 HC.out.2.1 HL2.out HC.out.2.2.2.2, fun f => by rw [tot_swp f H' (by omega) cn (by omega)]; exact HT.out f, K2.out⟩
              case measure => simp [intOf]; omega
          · have HL2 : Hid (¬ RBefR (H' c) (H' a)) := hlt2
            clear hlt2
            refine wp_region_grow (by kernel_rfl) (by kernel_rfl) ?_
            repeat (first | go_big_quiet_skip | (go_big_quiet_want; go_big_quiet_op; first | go_big_quiet_on | (apply Exists.intro; refine ⟨fun g' => ?_, ?_⟩; (focus (go_at_call 33; refine grown_call (v := .bool false) ((comesFirst_rt _ _ _ ((HH3.out.2 c (by omega)).below g'.bel) ((HH3.out.2 a (by omega)).below g'.bel)).mono ?_); rintro e w4 ⟨⟨bb, rfl, hi⟩, hbb⟩; obtain rfl := Bool.eq_false_iff.2 (fun e => HL2.out (hi.1 e)); exact ⟨rfl, hbb⟩)); go_big_quiet_on)))
            refine wpQuiet_nil ?_
            rintro _ ⟨g', rfl⟩
            go_wp2
            exact bodyPost_end (results_none rfl _ _ _) rfl ⟨⟨_, rfl⟩, H', HH3.out.below g'.bel, down_done rbef_ord HDN.out (c := c) (fun _ => ⟨HC.out.2.1, HC.out.2.2.1, HL2.out⟩) (fun i i0 hi he => ⟨cn, HC.out.2.2.2.2 i i0 hi he⟩), HT.out, HK3.out.trans (Kept.of_below g'.bel)⟩
    · have dl : decide (bl < n) = false := by simpa using hlt
      go_wp2
      exact bodyPost_end (results_none rfl _ _ _) rfl ⟨⟨_, rfl⟩, H', HH.out, down_done rbef_ord HDN.out (c := n) (fun h => absurd h (Nat.lt_irrefl _)) (fun i i0 hi he => by have := HBL.out; omega), HT.out, HK.out⟩

end Go.Proofs.Ythcjfoaejomfaaa

namespace Go.Proofs.Ythcjfoaejomfaaa
open Go.RowKit

theorem own_cut {w : World} {base e g n cap : Nat} {f : Nat → Value} (h : w.ownsRow base e 3 (.slice (some ⟨g, 0, none⟩) (n + 1) cap) (n + 1) ((List.range ((n + 1) * 3)).map f)) : w.ownsRow base e 3 (.slice (some ⟨g, 0, none⟩) n cap) n ((List.range (n * 3)).map f) := by
  refine ⟨by simp, .inr ?_⟩
  rcases h.2 with ⟨e', _⟩ | ⟨g', cap', cur, e', hb, hg, hc, hm, hs, ht⟩
  · cases e'
  · simp only [Value.slice.injEq, Option.some.injEq, Addr.mk.injEq, and_true, true_and] at e'
    obtain ⟨rfl, rfl⟩ := e'
    refine ⟨g, cap, cur, rfl, hb, hg, by omega, hm, hs, ?_⟩
    apply List.ext_getElem?
    intro i
    have hi := congrArg (fun l => l[i]?) ht
    simp only [List.getElem?_take, List.getElem?_map] at hi ⊢
    by_cases h3 : i < n * 3
    · rw [if_pos h3]
      rw [if_pos (by omega), List.getElem?_range (by omega)] at hi
      rw [hi, List.getElem?_range h3]
    · rw [if_neg h3, List.getElem?_eq_none (by simpa using h3)]; rfl
theorem HeapAt.cut {w : World} {base g n cap : Nat} {H : Nat → Rt} (h : HeapAt w base g (n + 1) cap H) : HeapAt w base g n cap H :=
  ⟨own_cut h.1, fun i hi => h.2 i (by omega)⟩

/-- The first one is taken off the heap. -/
def Popped (w w' : World) (base g n cap : Nat) (H : Nat → Rt) : Prop := ∃ H', HeapAt w' base g n cap H' ∧ Heap RBefR n H' ∧ (∀ f, tot f H' n + f (H 0) = tot f H (n + 1)) ∧ Kept w w' (fun b => b = g)

set_option maxHeartbeats 1600000 in
set_option maxRecDepth 100000 in
theorem pop_any (base g n cap : Nat) (H : Nat → Rt) (w : World) (hn : n + 1 ≤ 1048576) (hh : HeapAt w base g (n + 1) cap H) (hp : Heap RBefR (n + 1) H) :
    Calls Try.prog 32 #[.slice (some ⟨g, 0, none⟩) (n + 1) cap, .func (.func 33) #[] #[]] w fun e w' => e = .returned (.tuple #[.agg #[(H 0).v, .string (H 0).pl, .int .i64 (H 0).t], .slice (some ⟨g, 0, none⟩) n cap]) ∧ Popped w w' base g n cap H := by
  have HP : Hid (Heap RBefR (n + 1) H) := hp
  have HH : Hid (HeapAt w base g (n + 1) cap H) := hh
  obtain ⟨p0, p1, p2⟩ := hh.cells (i := 0) (by omega)
  obtain ⟨q0, q1, q2⟩ := hh.cells (i := n) (by omega)
  have f0 := hh.free (0 * 3)
  have f1 := hh.free (0 * 3 + 1)
  have f2 := hh.free (0 * 3 + 2)
  have hgl := hh.lt
  obtain ⟨fa, fl, ef, _⟩ := (hh.2 0 (by omega)).form
  obtain ⟨na, nl, en, _⟩ := (hh.2 n (by omega)).form
  have EF : Hid ((H 0).v = .slice fa (H 0).ls.length fl) := ef
  have EN : Hid ((H n).v = .slice na (H n).ls.length nl) := en
  rw [ef] at p0
  rw [en] at q0
  rw [ef]
  clear ef en hp hh
  simp only [Nat.zero_mul, Nat.zero_add] at p0 p1 p2 f0 f1 f2
  have i1 : (0 : Int) < (n : Int) + 1 := by omega
  have i2 : (n : Int) < (n : Int) + 1 := by omega
  have i3 : (n : Int) ≤ (cap : Int) := by omega
  have hg1 := hgl.1
  go_enter Try.func32, Try.ntmps32
  go_wp2_with fail
  have h1 := (HH.out.upd 0 (HH.out.2 n (by omega))).cut
  unfold set3 at h1
  rw [EN.out] at h1
  simp only [Nat.zero_mul, Nat.zero_add] at h1
  have k1 := set3_kept w g 0 (.slice na (H n).ls.length nl) (.string (H n).pl) (.int .i64 (H n).t)
  unfold set3 at k1
  simp only [Nat.zero_add] at k1
  have hsz := k1.size
  have hsz2 : (((w.setCell ⟨g, 0, none⟩ (.slice na (H n).ls.length nl)).setCell ⟨g, 1, none⟩ (.string (H n).pl)).setCell ⟨g, 2, none⟩ (.int .i64 (H n).t)).heap.size = w.heap.size := by simp
  generalize hW : ((w.setCell ⟨g, 0, none⟩ (.slice na (H n).ls.length nl)).setCell ⟨g, 1, none⟩ (.string (H n).pl)).setCell ⟨g, 2, none⟩ (.int .i64 (H n).t) = W at h1 k1 hsz hsz2 ⊢
  clear hW
  have h2 := h1.below (push (push (Below.refl _ W) (.cells #[.slice none 0 0, .string ⟨#[]⟩, .int .i64 0] 50)) (.cells #[.slice fa (H 0).ls.length fl, .string (H 0).pl, .int .i64 (H 0).t] 50))
  have hr : ((W.alloc (.cells #[.slice none 0 0, .string ⟨#[]⟩, .int .i64 0] 50)).alloc (.cells #[.slice fa (H 0).ls.length fl, .string (H 0).pl, .int .i64 (H 0).t] 50)).heap[w.heap.size]? = some (.cells #[.slice none 0 0, .string ⟨#[]⟩, .int .i64 0] 50 (0, 0)) := by rw [← hsz2]; exact blk_alloc (heap_alloc_new W _) _
  have hx : ((W.alloc (.cells #[.slice none 0 0, .string ⟨#[]⟩, .int .i64 0] 50)).alloc (.cells #[.slice fa (H 0).ls.length fl, .string (H 0).pl, .int .i64 (H 0).t] 50)).heap[w.heap.size + 1]? = some (.cells #[.slice fa (H 0).ls.length fl, .string (H 0).pl, .int .i64 (H 0).t] 50 (0, 0)) := by rw [← hsz2]; simpa using heap_alloc_new (W.alloc _) _
  have k2 : Kept w ((W.alloc (.cells #[.slice none 0 0, .string ⟨#[]⟩, .int .i64 0] 50)).alloc (.cells #[.slice fa (H 0).ls.length fl, .string (H 0).pl, .int .i64 (H 0).t] 50)) (fun b => b = g) := k1.trans (Kept.of_below (push (push (Below.refl _ W) _) _))
  refine (sink_any base g n cap (upd H 0 (H n)) _ (by omega) h2 (heap_pop HP.out)).mono ?_
  rintro e w3 ⟨⟨v, rfl⟩, H', hh3, hp3, ht3, hk3⟩
  have HH3 : Hid (HeapAt w3 base g n cap H') := hh3
  have HP3 : Hid (Heap RBefR n H') := hp3
  have HT3 : Hid (∀ f, tot f H' n = tot f (upd H 0 (H n)) n) := ht3
  have HK3 : Hid (Kept w w3 (fun b => b = g)) := k2.trans hk3
  have hr3 := hk3.blk hr (by omega)
  have hx3 := hk3.blk hx (by omega)
  clear hh3 hp3 ht3 hk3 k2 hr hx h2 h1 k1 hsz hsz2 p0 p1 p2 q0 q1 q2 f0 f1 f2 HP
  have a0 := blk_cell hx3 0 _ rfl
  have a1 := blk_cell hx3 1 _ rfl
  have a2 := blk_cell hx3 2 _ rfl
  have r0 := blk_cell hr3 0 _ rfl
  have r1 := blk_cell hr3 1 _ rfl
  have r2 := blk_cell hr3 2 _ rfl
  have z0 := blk_free hr3 0
  have z1 := blk_free hr3 1
  have z2 := blk_free hr3 2
  go_wp2
  clear a0 a1 a2 r0 r1 r2 z0 z1 z2
  have rF := blk_set (blk_set (blk_set hr3 0 (.slice fa (H 0).ls.length fl)) 1 (.string (H 0).pl)) 2 (.int .i64 (H 0).t)
  have y0 := blk_cell rF 0 _ rfl
  have y1 := blk_cell rF 1 _ rfl
  have y2 := blk_cell rF 2 _ rfl
  have kF : Kept w3 (((w3.setCell ⟨w.heap.size, 0, none⟩ (.slice fa (H 0).ls.length fl)).setCell ⟨w.heap.size, 1, none⟩ (.string (H 0).pl)).setCell ⟨w.heap.size, 2, none⟩ (.int .i64 (H 0).t)) (fun b => b = w.heap.size) := set3_kept w3 w.heap.size 0 _ _ _
  refine bodyPost_ret (v := .tuple #[.agg #[.slice fa (H 0).ls.length fl, .string (H 0).pl, .int .i64 (H 0).t], .slice (some ⟨g, 0, none⟩) n cap]) (by simp [results, Try.results32, go_sem, y0, y1, y2]) rfl ⟨rfl, H', ⟨kF.own HH3.out.1 (fun g' hg' e => by simp [Value.ownBlock] at hg'; omega), fun i hi => ⟨kF.own (HH3.out.2 i hi).1 (fun g' hg' e => ?_), (HH3.out.2 i hi).2⟩⟩, HP3.out, fun f => ?_, ⟨kF.os.trans HK3.out.os, kF.tape.trans HK3.out.tape, kF.output.trans HK3.out.output, Nat.le_trans HK3.out.size kF.size, fun i hi hne => (kF.block i (Nat.lt_of_lt_of_le hi HK3.out.size) (by omega)).trans (HK3.out.block i hi hne)⟩⟩
  · rcases (HH3.out.2 i hi).1.2 with ⟨e1, _⟩ | ⟨g2, c2, cur, e1, _, hg2, _⟩
    · rw [e1] at hg'; simp [Value.ownBlock] at hg'
    · rw [e1] at hg'
      simp only [Value.ownBlock, Option.some.injEq] at hg'
      subst hg'
      rw [e, hr3] at hg2
      simp at hg2
  · rw [HT3.out f]
    by_cases n0 : n = 0
    · subst n0; simp [tot]
    · have := tot_upd f H 0 (H n) (n := n) (by omega)
      show _ = tot f H n + f (H n)
      exact this

end Go.Proofs.Ythcjfoaejomfaaa
