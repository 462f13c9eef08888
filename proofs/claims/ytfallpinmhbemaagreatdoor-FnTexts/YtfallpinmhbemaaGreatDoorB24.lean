/-
  OWN TEXT: SpecEn, KitDa, TakeS0, SpecDa, SpecDb.
-/
import Derived.Deep.DeepCutAuto
import Derived.Deep.RegionLawGrows
import Derived.Deep.AppendLies
import Derived.Test.YtfallpinmhbemaaGreatDoorB19
import Derived.Test.YtfallpinmhbemaaGreatDoorB20
import Derived.Test.YtfallpinmhbemaaGreatDoorB21
import Derived.Test.YtfallpinmhbemaaGreatDoorB22
import Derived.Test.YtfallpinmhbemaaGreatDoorB23
import Derived.Test.YtfallpinmhbemaaGreatDoorB17
import Derived.Test.YtfallpinmhbemaaGreatDoorB16
import Derived.Test.YtfallpinmhbemaaGreatDoorB14
import Derived.Test.YtfallpinmhbemaaGreatDoorB06
import Derived.Test.YtfallpinmhbemaaGreatDoorB10
import Derived.Test.YtfallpinmhbemaaGreatDoorB07
namespace Go.Proofs.YtfallpinmhbemaaGreatDoor
open Go.RowKit

/-- The price or refund that an operation on booking b answers. -/
def endPrice (x : Off) (b : Book) (y : OpD) : Int :=
  if y.kind = 4 then b.price
  else if y.kind = 5 then priceOf ⟨y.pe, y.len, y.hei, y.cl, y.all, y.be⟩ y.lgn
  else if y.kind = 6 then refundOf b.price ((x.sa (findIx x.sa (b.lg 0) x.san)).dep - y.now)
  else 0
/-- What l7End makes of an office, and what it answers. -/
def EndTo (x : Off) (bys : Int) (y : OpD) (m : Nat) (x2 : Off) (code name price : Int) : Prop :=
  (y.kind = 1 ∧ x2 = x ∧ code = 0 ∧ name = 0 ∧ price = priceOf ⟨y.pe, y.len, y.hei, y.cl, y.all, y.be⟩ y.lgn) ∨
  (y.kind = 9 ∧ x2 = x ∧ code = 0 ∧ name = 0 ∧ price = 0) ∨
  ((y.kind = 2 ∨ y.kind = 3) ∧ x.bkn = 30 ∧ x2 = x ∧ code = 8 ∧ name = 0 ∧ price = 0) ∨
  ((y.kind = 2 ∨ y.kind = 3) ∧ x.bkn < 30 ∧ x2 = { x with bkn := x.bkn + 1, bk := setB x.bk x.bkn (newBook x.bkn bys y) } ∧ code = 0 ∧ name = (x.bkn : Int) + 1 ∧ price = priceOf ⟨y.pe, y.len, y.hei, y.cl, y.all, y.be⟩ y.lgn) ∨
  (In y.kind 4 8 ∧ m < x.bkn ∧ x2 = { x with bk := setB x.bk m (endBook (x.bk m) bys y) } ∧ code = 0 ∧ name = y.name ∧ price = endPrice x (x.bk m) y)
/-- The rows of an answer. -/
def RowsAre (x : Off) (y : OpD) (base : Nat) (z : World) (v : Value) : Prop :=
  (y.kind = 9 → ∃ k, findIx x.sa (y.lg 0) x.san = k ∧ k < x.san ∧ z.ownsRow base 212 5 v (rowsL (x.ld k) x.bk (y.lg 0) x.bkn).length (rowList (nthR (rowsL (x.ld k) x.bk (y.lg 0) x.bkn)) (rowsL (x.ld k) x.bk (y.lg 0) x.bkn).length)) ∧ (y.kind ≠ 9 → v = .slice none 0 0)
theorem EndIs.mono {g base N csa cld : Nat} {asa ald : Option Addr} {T T' : Nat → Prop} {x' : Off} {code name price : Int} {RW RW' : World → Value → Prop} {L C A B D : Nat → Value} {w : World} {e : Ending} {w' : World} (h : EndIs g base N csa cld asa ald T x' code name price RW L C A B D w e w') (hT : ∀ b, T b → T' b) (hR : ∀ v, RW w' v → RW' w' v) : EndIs g base N csa cld asa ald T' x' code name price RW' L C A B D w e w' := by
  obtain ⟨a, b, c, d, h1, h2, h3, h4, h5⟩ := h
  exact ⟨a, b, c, d, h1, hR _ h2, h3, h4, h5.mono hT⟩
theorem opOk_pe {y : OpD} (h : OpOk y) : In y.pe 0 20 ∧ y.lgn ≤ 3 := by
  have h1 := h.2.2.2.2.1
  have h2 := h.2.2.2.1
  unfold PartyOkFor at h1
  unfold LegsOkFor at h2
  by_cases c : HasLegs y.kind
  · rw [if_pos c] at h1 h2
    have : In y.pe 1 20 := h1.1
    unfold In at this ⊢
    omega
  · rw [if_neg c] at h1 h2
    have : y.pe = 0 := h1.1
    refine ⟨by rw [this]; unfold In; omega, ?_⟩
    split at h2 <;> omega

theorem l7End_any (g base N R csa cld cbk clg m : Nat) (asa ald abk alg : Option Addr) (bys : Int) (y : OpD) (x : Off) (L C A B D E : Nat → Value) (w : World) (hq : w.heap[g]? = some (.cells #[.slice asa N csa, .slice ald N cld, .slice abk R cbk] 66 (0, 0))) (ho : OwnOff w base (.slice asa N csa) (.slice ald N cld) (.slice abk R cbk) N N R x L C A B D E) (hxb : x.bkn = R) (hxs : x.san = N) (hxl : x.ldn = N) (hbw : base ≤ w.heap.size) (hlg : IntsAt w alg y.lgn y.lg) (hsl : SliceOk alg y.lgn clg) (hlo : 0 < y.lgn → ∀ a, alg = some a → a.block < base)
    (hf : NoFault x y m) (hT : GoodTab x.san x.sa) (hR : R ≤ 30) (hs : Off.Short x 1048576) (hbl : ∀ i, i < R → LegsOk x.san x.sa (x.bk i).lgn (x.bk i).lg) :
    Calls Tryz.prog 123 #[.pointer (some ⟨g, 0, none⟩), .int .i64 bys, .agg #[.int .i64 y.kind, .string y.own, .int .i64 y.name, .slice alg y.lgn clg, .int .i64 y.pe, .int .i64 y.len, .int .i64 y.hei, .int .i64 y.cl, .bool y.all, .int .i64 y.be, .int .i64 y.unt, .int .i64 y.now]] w fun e w' => ∃ x2 code name price, EndTo x bys y m x2 code name price ∧ EndIs g base N csa cld asa ald (fun b => b = g ∨ (Value.slice abk R cbk).ownBlock = some b) x2 code name price (RowsAre x y w.heap.size) L C A B D w e w' := by
  obtain ⟨hpe, hln⟩ := opOk_pe hf.1
  have hN : N ≤ 6 := by rw [← hxs]; exact hT.1
  have hk := hf.1.1
  have nil : ∀ z v, y.kind ≠ 9 → v = Value.slice none 0 0 → RowsAre x y w.heap.size z v := fun z v h e => ⟨fun h' => absurd h' h, fun _ => e⟩
  by_cases hnamed : In y.kind 4 8
  · obtain ⟨hnm, hm, _⟩ := hf.2.2 hnamed
    rw [hxb] at hm
    have n9 : y.kind ≠ 9 := by unfold In at hnamed; omega
    have fin : ∀ {e w' price}, price = endPrice x (x.bk m) y → EndIs g base N csa cld asa ald (fun b => b = g ∨ (Value.slice abk R cbk).ownBlock = some b) { x with bk := setB x.bk m (endBook (x.bk m) bys y) } 0 y.name price (fun _ v => v = .slice none 0 0) L C A B D w e w' →
        ∃ x2 code name price, EndTo x bys y m x2 code name price ∧ EndIs g base N csa cld asa ald (fun b => b = g ∨ (Value.slice abk R cbk).ownBlock = some b) x2 code name price (RowsAre x y w.heap.size) L C A B D w e w' := fun hp h =>
      ⟨_, _, _, _, .inr (.inr (.inr (.inr ⟨hnamed, by rw [hxb]; exact hm, rfl, rfl, rfl, hp⟩))), h.mono (fun _ h => h) (fun v h => nil _ v n9 h)⟩
    have hc : y.kind = 4 ∨ y.kind = 5 ∨ y.kind = 6 ∨ y.kind = 7 ∨ y.kind = 8 := by unfold In at hnamed; omega
    rcases hc with hc | hc | hc | hc | hc
    · refine (l7End_4 g base N R csa cld cbk clg m asa ald abk alg bys y x L C A B D E w hq ho hxb hbw hc hpe hln hlg hsl hlo hnm hm (by omega)).mono (fun e w' h => fin ?_ h)
      unfold endPrice; rw [if_pos hc]
    · refine (l7End_5 g base N R csa cld cbk clg m asa ald abk alg bys y x L C A B D E w hq ho hxb hbw hc hpe hln hlg hsl hlo hnm hm (by omega)).mono (fun e w' h => fin ?_ h)
      unfold endPrice; rw [if_neg (by omega), if_pos hc]
    · have hL := hbl m hm
      have hfi := (hL.2.2 0 (by have := hL.1; omega)).1
      have hgs := (hT.2 _ hfi).1
      have hnow := hf.1.2.2.2.2.2.2
      refine (l7End_6 g base N R csa cld cbk clg m asa ald abk alg bys y x L C A B D E w hq ho hxb hbw hc hpe hln hlg hsl hlo hnm hm (by omega) (findIx x.sa ((x.bk m).lg 0) x.san) (by have := hL.1; omega) (by rw [hxs]) (by rw [hxs] at hfi ⊢; exact hfi) ?_ (by omega)).mono (fun e w' h => fin ?_ h)
      · have h1 : 0 ≤ (x.sa (findIx x.sa ((x.bk m).lg 0) x.san)).dep := hgs.2.2.2.2.1
        have h2 : (x.sa (findIx x.sa ((x.bk m).lg 0) x.san)).dep < (x.sa (findIx x.sa ((x.bk m).lg 0) x.san)).arr := hgs.2.2.2.2.2.1
        have h3 : (x.sa (findIx x.sa ((x.bk m).lg 0) x.san)).arr ≤ 10000 := hgs.2.2.2.2.2.2.1
        unfold NowOk In at hnow
        omega
      · unfold endPrice; rw [if_neg (by omega), if_neg (by omega), if_pos hc]
    · refine (l7End_7 g base N R csa cld cbk clg m asa ald abk alg bys y x L C A B D E w hq ho hxb hbw hc hpe hln hlg hsl hlo hnm hm (by omega)).mono (fun e w' h => fin ?_ h)
      unfold endPrice; rw [if_neg (by omega), if_neg (by omega), if_neg (by omega)]
    · refine (l7End_8 g base N R csa cld cbk clg m asa ald abk alg bys y x L C A B D E w hq ho hxb hbw hc hpe hln hlg hsl hlo hnm hm (by omega)).mono (fun e w' h => fin ?_ h)
      unfold endPrice; rw [if_neg (by omega), if_neg (by omega), if_neg (by omega)]
  · have hc : y.kind = 1 ∨ y.kind = 2 ∨ y.kind = 3 ∨ y.kind = 9 := by unfold In at hnamed hk; omega
    rcases hc with hc | hc | hc | hc
    · refine (l7End_1 g base N R csa cld cbk clg asa ald abk alg bys y x L C A B D E w hq ho hxb hbw hc hpe hln hlg hsl hlo).mono (fun e w' h => ?_)
      exact ⟨_, _, _, _, .inl ⟨hc, rfl, rfl, rfl, rfl⟩, h.mono (fun _ h => h.elim) (fun v h => nil _ v (by omega) h)⟩
    · by_cases h30 : R = 30
      · refine (l7End_2f g base N R csa cld cbk clg asa ald abk alg bys y x L C A B D E w hq ho hxb hbw hc hpe hln hlg hsl hlo h30).mono (fun e w' h => ?_)
        exact ⟨_, _, _, _, .inr (.inr (.inl ⟨.inl hc, by omega, rfl, rfl, rfl, rfl⟩)), h.mono (fun _ h => h.elim) (fun v h => nil _ v (by omega) h)⟩
      · refine (l7End_2 g base N R csa cld cbk clg asa ald abk alg bys y x L C A B D E w hq ho hxb hbw hc hpe hln hlg hsl hlo (by omega)).mono (fun e w' h => ?_)
        subst hxb
        exact ⟨_, _, _, _, .inr (.inr (.inr (.inl ⟨.inl hc, by omega, rfl, rfl, rfl, rfl⟩))), h.mono (fun _ h => h) (fun v h => nil _ v (by omega) h)⟩
    · by_cases h30 : R = 30
      · refine (l7End_3f g base N R csa cld cbk clg asa ald abk alg bys y x L C A B D E w hq ho hxb hbw hc hpe hln hlg hsl hlo h30).mono (fun e w' h => ?_)
        exact ⟨_, _, _, _, .inr (.inr (.inl ⟨.inr hc, by omega, rfl, rfl, rfl, rfl⟩)), h.mono (fun _ h => h.elim) (fun v h => nil _ v (by omega) h)⟩
      · refine (l7End_3 g base N R csa cld cbk clg asa ald abk alg bys y x L C A B D E w hq ho hxb hbw hc hpe hln hlg hsl hlo (by omega)).mono (fun e w' h => ?_)
        subst hxb
        exact ⟨_, _, _, _, .inr (.inr (.inr (.inl ⟨.inr hc, by omega, rfl, rfl, rfl, rfl⟩))), h.mono (fun _ h => h) (fun v h => nil _ v (by omega) h)⟩
    · have hl1 : 0 < y.lgn := by
        have := hf.1.2.2.2.1
        unfold LegsOkFor at this
        rw [if_neg (by unfold HasLegs; omega), if_pos hc] at this
        omega
      have hfk : findIx x.sa (y.lg 0) x.san < x.san := by
        have h1 := findIx_le x.sa (y.lg 0) x.san
        rcases Nat.lt_or_eq_of_le h1 with h | h
        · exact h
        · exact absurd (.inr ⟨hc, h⟩) hf.2.1
      refine (l7End_9 g base N R csa cld cbk clg asa ald abk alg bys y x L C A B D E w hq ho hxb hbw hc hpe hln hlg hsl hlo (findIx x.sa (y.lg 0) x.san) hl1 (by rw [hxs]) (by rw [hxs] at hfk ⊢; exact hfk) hs hxs hxl (by omega)).mono (fun e w' h => ?_)
      exact ⟨_, _, _, _, .inr (.inl ⟨hc, rfl, rfl, rfl, rfl⟩), h.mono (fun _ h => h.elim) (fun v h => ⟨fun _ => ⟨_, rfl, hfk, h⟩, fun h' => absurd hc h'⟩)⟩

end Go.Proofs.YtfallpinmhbemaaGreatDoor

namespace Go.Proofs.YtfallpinmhbemaaGreatDoor
open Go.RowKit

/-- What l7Do leaves: a code, the load behind the work, the office in its box, nothing else written. -/
def DoAns (g base N R k csa cld cbk : Nat) (asa ald abk : Option Addr) (v : Wk) (x : Off) (L C E : Nat → Value) (w : World) (e : Ending) (w' : World) : Prop :=
  ∃ code y A B D, e = .returned (.int .i64 code) ∧ WorkIs (x.sa k) v (x.ld k) code y ∧ OwnOff w' base (.slice asa N csa) (.slice ald N cld) (.slice abk R cbk) N N R { x with ld := setL x.ld k y } L C A B D E ∧
    w'.heap[g]? = some (.cells #[.slice asa N csa, .slice ald N cld, .slice abk R cbk] 66 (0, 0)) ∧ Kept w w' (fun b => (Value.slice ald N cld).ownBlock = some b)
section
variable {w z : World} {g gl base N R k csa cld cbk n : Nat} {asa abk : Option Addr} {v : Wk} {x : Off} {L C A B D E : Nat → Value} {u : Value}
theorem doSt {T : Nat → Stay} (ho : OwnOff w base (.slice asa N csa) (.slice (some ⟨gl, 0, none⟩) N cld) (.slice abk R cbk) N N R x L C A B D E) (hq : w.heap[g]? = some (.cells #[.slice asa N csa, .slice (some ⟨gl, 0, none⟩) N cld, .slice abk R cbk] 66 (0, 0))) (hbb : base ≤ w.heap.size) (hb : Below w.heap.size w z) (hown : z.ownsRow w.heap.size 186 4 u n (stayList T n)) (hw : WorkIs (x.sa k) v (x.ld k) 0 { x.ld k with stn := n, st := T }) :
    DoAns g base N R k csa cld cbk asa (some ⟨gl, 0, none⟩) abk v x L C E w (.returned (.int .i64 0)) (z.setCell ⟨gl, k * 3, none⟩ u) := by
  obtain ⟨cs, hgl⟩ := own_blockE ho.ld.row gl rfl
  have hne : g ≠ gl := fun e => by subst e; rw [hq] at hgl; simp at hgl
  have hk : Kept z (z.setCell ⟨gl, k * 3 + 0, none⟩ u) (fun b => (Value.slice (some ⟨gl, 0, none⟩) N cld).ownBlock = some b) := (Kept.refl z (fun b => (Value.slice (some ⟨gl, 0, none⟩) N cld).ownBlock = some b)).set (a := ⟨gl, k * 3 + 0, none⟩) (by rfl) u
  exact ⟨0, _, _, _, _, rfl, hw, (ho.below hb).putSt (k := k) (lim := w.heap.size) (fun i hi b e => ((ho.ld.st i hi).lt b e).2) hown hbb, hk.blk (blk_below hq hb) (fun e => hne (by simpa [Value.ownBlock] using e.symm)), (Kept.of_below hb).trans hk⟩
theorem doRo {T : Nat → Room} (ho : OwnOff w base (.slice asa N csa) (.slice (some ⟨gl, 0, none⟩) N cld) (.slice abk R cbk) N N R x L C A B D E) (hq : w.heap[g]? = some (.cells #[.slice asa N csa, .slice (some ⟨gl, 0, none⟩) N cld, .slice abk R cbk] 66 (0, 0))) (hbb : base ≤ w.heap.size) (hb : Below w.heap.size w z) (hown : z.ownsRow w.heap.size 190 4 u n (roomList T n)) (hw : WorkIs (x.sa k) v (x.ld k) 0 { x.ld k with ron := n, ro := T }) :
    DoAns g base N R k csa cld cbk asa (some ⟨gl, 0, none⟩) abk v x L C E w (.returned (.int .i64 0)) (z.setCell ⟨gl, k * 3 + 1, none⟩ u) := by
  obtain ⟨cs, hgl⟩ := own_blockE ho.ld.row gl rfl
  have hne : g ≠ gl := fun e => by subst e; rw [hq] at hgl; simp at hgl
  have hk : Kept z (z.setCell ⟨gl, k * 3 + 1, none⟩ u) (fun b => (Value.slice (some ⟨gl, 0, none⟩) N cld).ownBlock = some b) := (Kept.refl z (fun b => (Value.slice (some ⟨gl, 0, none⟩) N cld).ownBlock = some b)).set (a := ⟨gl, k * 3 + 1, none⟩) (by rfl) u
  exact ⟨0, _, _, _, _, rfl, hw, (ho.below hb).putRo (k := k) (lim := w.heap.size) (fun i hi b e => ((ho.ld.ro i hi).lt b e).2) hown hbb, hk.blk (blk_below hq hb) (fun e => hne (by simpa [Value.ownBlock] using e.symm)), (Kept.of_below hb).trans hk⟩
theorem doSe {T : Nat → Seat} (ho : OwnOff w base (.slice asa N csa) (.slice (some ⟨gl, 0, none⟩) N cld) (.slice abk R cbk) N N R x L C A B D E) (hq : w.heap[g]? = some (.cells #[.slice asa N csa, .slice (some ⟨gl, 0, none⟩) N cld, .slice abk R cbk] 66 (0, 0))) (hbb : base ≤ w.heap.size) (hb : Below w.heap.size w z) (hown : z.ownsRow w.heap.size 138 2 u n (seatList T n)) (hw : WorkIs (x.sa k) v (x.ld k) 0 { x.ld k with sen := n, se := T }) :
    DoAns g base N R k csa cld cbk asa (some ⟨gl, 0, none⟩) abk v x L C E w (.returned (.int .i64 0)) (z.setCell ⟨gl, k * 3 + 2, none⟩ u) := by
  obtain ⟨cs, hgl⟩ := own_blockE ho.ld.row gl rfl
  have hne : g ≠ gl := fun e => by subst e; rw [hq] at hgl; simp at hgl
  have hk : Kept z (z.setCell ⟨gl, k * 3 + 2, none⟩ u) (fun b => (Value.slice (some ⟨gl, 0, none⟩) N cld).ownBlock = some b) := (Kept.refl z (fun b => (Value.slice (some ⟨gl, 0, none⟩) N cld).ownBlock = some b)).set (a := ⟨gl, k * 3 + 2, none⟩) (by rfl) u
  exact ⟨0, _, _, _, _, rfl, hw, (ho.below hb).putSe (k := k) (lim := w.heap.size) (fun i hi b e => ((ho.ld.se i hi).lt b e).2) hown hbb, hk.blk (blk_below hq hb) (fun e => hne (by simpa [Value.ownBlock] using e.symm)), (Kept.of_below hb).trans hk⟩
theorem doNo {ald : Option Addr} {code : Int} (ho : OwnOff w base (.slice asa N csa) (.slice ald N cld) (.slice abk R cbk) N N R x L C A B D E) (hq : w.heap[g]? = some (.cells #[.slice asa N csa, .slice ald N cld, .slice abk R cbk] 66 (0, 0))) (hb : Below w.heap.size w z) (hw : WorkIs (x.sa k) v (x.ld k) code (x.ld k)) :
    DoAns g base N R k csa cld cbk asa ald abk v x L C E w (.returned (.int .i64 code)) z :=
  ⟨code, _, _, _, _, rfl, hw, by rw [setL_same]; exact ho.below hb, blk_below hq hb, Kept.of_below hb⟩
end

end Go.Proofs.YtfallpinmhbemaaGreatDoor

namespace Go.Proofs.YtfallpinmhbemaaGreatDoor
open Go.RowKit

/-- How many are kept of the first k when the one at r goes. -/
def cntW (r k : Nat) : Nat := if k ≤ r then k else k - 1

set_option maxHeartbeats 1600000 in
set_option maxRecDepth 100000 in
theorem l4Without_any (bo : Option Addr) (n c r : Nat) (S : Nat → Stay) (x : Int) (w : World) (hn : n ≤ 60) (hr : r < n) (hx : whoS S r = x) (ho : ∀ j, j < n → j ≠ r → whoS S j ≠ x) (hz : StaysAt w bo n S) :
    Calls Tryz.prog 139 #[.slice bo n c, .int .i64 x] w fun e w' => (∃ v, e = .returned v ∧ w'.ownsRow w.heap.size 186 4 v (n - 1) (stayList (without S r) (n - 1))) ∧ Below w.heap.size w w' := by
  obtain ⟨j0, ji, jz0, jz1, jz2⟩ := info_parts Tryz.infoStay
  have HZ : Hid (StaysAt w bo n S) := hz
  have HX : Hid (whoS S r = x) := hx
  have HO : Hid (∀ j, j < n → j ≠ r → whoS S j ≠ x) := ho
  clear hz hx ho
  go_enter Tryz.func139, Tryz.ntmps139
  go_wp2
  go_loopw [5, 7, 10] (fun v _ i wr => ∃ k : Nat, k ≤ n ∧ i = .int .i64 k ∧ wr.ownsRow w.heap.size 186 4 v (cntW r k) (stayList (without S r) (cntW r k)) ∧ Below w.heap.size w wr) (fun _ _ i _ => n - (intOf i).toNat)
  case atStart => exact ⟨0, Nat.zero_le _, rfl, ⟨rfl, .inl ⟨rfl, rfl⟩⟩, Below.refl _ _⟩
  case round =>
    obtain ⟨k, hk, rfl, hown, hbel⟩ := hrel
    by_cases hlt : k < n
    · obtain ⟨b, off, rfl, h0, h1, h2, h3⟩ := HZ.out k hlt
      have hb := World.block_lt_of_cell? w _ h0
      have c0 := (hbel.cell (p := ⟨b, off + k * 4, none⟩) hb).trans h0
      have c1 := (hbel.cell (p := ⟨b, off + k * 4 + 1, none⟩) hb).trans h1
      have c2 := (hbel.cell (p := ⟨b, off + k * 4 + 2, none⟩) hb).trans h2
      have c3 := (hbel.cell (p := ⟨b, off + k * 4 + 3, none⟩) hb).trans h3
      clear h0 h1 h2 h3
      by_cases he : k = r
      · have e1 : ((S k).who == x) = true := by rw [he]; simpa [whoS] using HX.out
        have e2 : ((S k).who != x) = false := by rw [he]; simpa [whoS] using HX.out
        have HC : Hid (cntW r (k + 1) = cntW r k) := by
          have a1 : cntW r (k + 1) = k + 1 - 1 := if_neg (by omega)
          have a2 : cntW r k = k := if_pos (by omega)
          show cntW r (k + 1) = cntW r k
          omega
        clear he
        go_wp2
        go_roundw
        case rel => exact ⟨k + 1, by omega, by go_num, by rw [HC.out]; exact own_below (push (Below.refl _ _) _) hown, push hbel _⟩
        case measure => simp [intOf]; omega
      · have hne := HO.out k hlt he
        have e1 : ((S k).who == x) = false := by simpa [whoS] using hne
        have e2 : ((S k).who != x) = true := by simpa [whoS] using hne
        have HC : Hid (cntW r (k + 1) = cntW r k + 1 ∧ without S r (cntW r k) = S k ∧ cntW r k ≤ 60) := by
          by_cases c : k ≤ r
          · have a1 : cntW r (k + 1) = k + 1 := if_pos (by omega)
            have a2 : cntW r k = k := if_pos c
            have a3 : without S r k = S k := if_pos (by omega)
            rw [a1, a2, a3]
            exact ⟨rfl, rfl, by omega⟩
          · have a1 : cntW r (k + 1) = k + 1 - 1 := if_neg (by omega)
            have a2 : cntW r k = k - 1 := if_neg c
            have a3 : without S r (k - 1) = S (k - 1 + 1) := if_neg (by omega)
            rw [a1, a2, a3]
            exact ⟨by omega, by rw [show k - 1 + 1 = k by omega], by omega⟩
        clear he hne
        have hsz := hbel.size
        have hcb := HC.out.2.2
        generalize hq : cntW r k = q at hown hcb
        have HQ : Hid (cntW r k = q) := hq
        clear hq
        have HN : Hid (∀ ad, (some ⟨wr.heap.size + 1, 0, none⟩ : Option Addr) = some ad → ∀ j u, [Value.int .i64 (S k).who, .int .i64 (S k).ln, .int .i64 (S k).len, .int .i64 (S k).hei][j]? = some u → ((wr.alloc (.cells #[.int .i64 (S k).who, .int .i64 (S k).ln, .int .i64 (S k).len, .int .i64 (S k).hei] 186)).alloc (.cells #[.int .i64 (S k).who, .int .i64 (S k).ln, .int .i64 (S k).len, .int .i64 (S k).hei] 186)).cell? (ad.add j) = some u) := by
          intro ad e
          cases e
          exact World.news_of_block (by simpa using heap_alloc_new (wr.alloc _) _)
        go_wp2_with (first | (at_builtin; refine wpList_append_any _ (by rfl) (.tmp 18) (.tmp 20) 133 (by rfl) w.heap.size 186 j0 (.agg #[.int .i64 0, .int .i64 0, .int .i64 0, .int .i64 0]) 4 32 Tryz.underlying133 ji jz0 jz1 jz2 rfl (by decide) _ q (stayList (without S r) q) (by rfl) ((hown.alloc _).alloc _) (some ⟨wr.heap.size + 1, 0, none⟩) 1 1 [.int .i64 (S k).who, .int .i64 (S k).ln, .int .i64 (S k).len, .int .i64 (S k).hei] (by rfl) (fun h => (by cases h)) (by rfl) HN.out (by intro u hu; simp at hu; rcases hu with rfl | rfl | rfl | rfl <;> rfl) (by unfold maxLen; omega) (by omega) (by simp; omega) ?_; intro v' w3 ho3 hg3))
        go_roundw
        case rel =>
          refine ⟨k + 1, by omega, by go_num, ?_, (push (push hbel _) _).grown hg3 (by simp; omega) (fun j hj => (hown.lt j hj).1)⟩
          obtain ⟨a1, a2, _⟩ := HC.out
          rw [a1, HQ.out, stayList_succ]
          rw [HQ.out] at a2
          rw [a2]
          exact ho3
        case measure => simp [intOf]; omega
    · obtain rfl : k = n := by omega
      have HC : Hid (cntW r k = k - 1) := if_neg (by omega)
      rw [HC.out] at hown
      go_wp2
      go_ret
      exact ⟨⟨_, rfl, hown⟩, hbel⟩

end Go.Proofs.YtfallpinmhbemaaGreatDoor

namespace Go.Proofs.YtfallpinmhbemaaGreatDoor
open Go.RowKit

set_option maxHeartbeats 25600000 in
set_option maxRecDepth 100000 in
theorem l7Do_a (g base N R k csa cld cbk : Nat) (asa ald abk : Option Addr) (leg who : Int) (p : Party) (x : Off) (L C A B D E : Nat → Value) (w : World) (hq : w.heap[g]? = some (.cells #[.slice asa N csa, .slice ald N cld, .slice abk R cbk] 66 (0, 0))) (ho : OwnOff w base (.slice asa N csa) (.slice ald N cld) (.slice abk R cbk) N N R x L C A B D E) (hN : N ≤ 1048576) (hk : findIx x.sa leg N = k) (hlt : k < N) (hok : LoadOk (x.sa k) (x.ld k)) (r : Nat) (hr : r < (x.ld k).stn) (hx : whoS (x.ld k).st r = who) (hone : ∀ j, j < (x.ld k).stn → j ≠ r → whoS (x.ld k).st j ≠ who) :
    Calls Tryz.prog 122 #[.pointer (some ⟨g, 0, none⟩), .agg #[.int .i64 leg, .int .i64 0, .bool true, .int .i64 who, .int .i64 p.pe, .int .i64 p.len, .int .i64 p.hei, .int .i64 p.cl, .bool p.all, .int .i64 p.be]] w fun e w' => DoAns g base N R k csa cld cbk asa ald abk ⟨leg, 0, true, who, p⟩ x L C E w e w' := by
  obtain ⟨gl, rfl, hbg, hlg⟩ := own_addr ho.ld.row (by omega)
  have HO : Hid (OwnOff w base (.slice asa N csa) (.slice (some ⟨gl, 0, none⟩) N cld) (.slice abk R cbk) N N R x L C A B D E) := ho
  have HK : Hid (findIx x.sa leg N = k) := hk
  have HOK : Hid (LoadOk (x.sa k) (x.ld k)) := hok
  have HBG : Hid (base ≤ w.heap.size) := by show base ≤ w.heap.size; omega
  have HQ : Hid (w.heap[g]? = some (.cells #[.slice asa N csa, .slice (some ⟨gl, 0, none⟩) N cld, .slice abk R cbk] 66 (0, 0))) := hq
  have HSAt : Hid (SailsAt w asa N x.sa) := ho.sa.at
  obtain ⟨cs, hgl⟩ := own_blockE ho.ld.row gl rfl
  obtain ⟨ast, cst, eA, m1, m2, m3⟩ := own_form (ho.ld.st k hlt)
  obtain ⟨aro, cro, eB, m4, m5, m6⟩ := own_form (ho.ld.ro k hlt)
  obtain ⟨ase, cse, eD, m7, m8, m9⟩ := own_form (ho.ld.se k hlt)
  have HST : Hid (w.ownsRow base 186 4 (.slice ast (x.ld k).stn cst) (x.ld k).stn (stayList (x.ld k).st (x.ld k).stn)) := by show w.ownsRow _ _ _ _ _ _; rw [← eA]; exact ho.ld.st k hlt
  have HRO : Hid (w.ownsRow base 190 4 (.slice aro (x.ld k).ron cro) (x.ld k).ron (roomList (x.ld k).ro (x.ld k).ron)) := by show w.ownsRow _ _ _ _ _ _; rw [← eB]; exact ho.ld.ro k hlt
  have HSE : Hid (w.ownsRow base 138 2 (.slice ase (x.ld k).sen cse) (x.ld k).sen (seatList (x.ld k).se (x.ld k).sen)) := by show w.ownsRow _ _ _ _ _ _; rw [← eD]; exact ho.ld.se k hlt
  have HL0 : Hid (w.cell? ⟨gl, k * 3, none⟩ = some (.slice ast (x.ld k).stn cst)) := by
    have h := own_cell ho.ld.row (k * 3 + 0) (by omega) rfl
    rw [recCell_at 3 _ k 0 (by decide)] at h
    rw [← eA]
    exact h
  have HL1 : Hid (w.cell? ⟨gl, k * 3 + 1, none⟩ = some (.slice aro (x.ld k).ron cro)) := by
    have h := own_cell ho.ld.row (k * 3 + 1) (by omega) rfl
    rw [recCell_at 3 _ k 1 (by decide)] at h
    rw [← eB]
    exact h
  have HL2 : Hid (w.cell? ⟨gl, k * 3 + 2, none⟩ = some (.slice ase (x.ld k).sen cse)) := by
    have h := own_cell ho.ld.row (k * 3 + 2) (by omega) rfl
    rw [recCell_at 3 _ k 2 (by decide)] at h
    rw [← eD]
    exact h
  have HNI : Hid ((ast = none → (x.ld k).stn = 0 ∧ cst = 0) ∧ (aro = none → (x.ld k).ron = 0 ∧ cro = 0) ∧ (ase = none → (x.ld k).sen = 0 ∧ cse = 0)) := ⟨m3, m6, m9⟩
  obtain ⟨s, hsd⟩ : ∃ s, s = x.sa k := ⟨_, rfl⟩
  obtain ⟨l, hld⟩ : ∃ l, l = x.ld k := ⟨_, rfl⟩
  rw [← hld] at HST HRO HSE HL0 HL1 HL2 HNI HOK
  rw [← hsd] at HOK
  have HSD : Hid (s = x.sa k) := hsd
  have HLD : Hid (l = x.ld k) := hld
  have HGL : Hid (w.heap[gl]? = some (.cells cs 136 (0, 0))) := hgl
  obtain ⟨sb0, so, la, lc, ca, cc, rfl, f0, f1, f2, f3, f4, f5, f6, f7, hla, hca, sla, sca⟩ := HSAt.out k hlt
  rw [← hsd] at f0 f1 f2 f3 f4 f5 f6 f7 hla hca sla sca
  have HPL : Hid (PairsAt w la s.la ∧ PairsAt w ca s.ca) := ⟨hla, hca⟩
  have HCS : Hid (∀ W, Below w.heap.size w W → W.cell? ⟨sb0, so + k * 8, none⟩ = some (.int .i64 s.id) ∧ W.cell? ⟨sb0, so + k * 8 + 1, none⟩ = some (.string s.fr) ∧ W.cell? ⟨sb0, so + k * 8 + 2, none⟩ = some (.string s.dst) ∧ W.cell? ⟨sb0, so + k * 8 + 3, none⟩ = some (.int .i64 s.dep) ∧ W.cell? ⟨sb0, so + k * 8 + 4, none⟩ = some (.int .i64 s.arr) ∧ W.cell? ⟨sb0, so + k * 8 + 5, none⟩ = some (.slice la s.la.n lc) ∧ W.cell? ⟨sb0, so + k * 8 + 6, none⟩ = some (.slice ca s.ca.n cc) ∧ W.cell? ⟨sb0, so + k * 8 + 7, none⟩ = some (.int .i64 s.most)) := fun W hb => by
    have lsb := World.block_lt_of_cell? w _ f0
    exact ⟨(hb.cell (p := ⟨sb0, so + k * 8, none⟩) lsb).trans f0, (hb.cell (p := ⟨sb0, so + k * 8 + 1, none⟩) lsb).trans f1, (hb.cell (p := ⟨sb0, so + k * 8 + 2, none⟩) lsb).trans f2, (hb.cell (p := ⟨sb0, so + k * 8 + 3, none⟩) lsb).trans f3, (hb.cell (p := ⟨sb0, so + k * 8 + 4, none⟩) lsb).trans f4, (hb.cell (p := ⟨sb0, so + k * 8 + 5, none⟩) lsb).trans f5, (hb.cell (p := ⟨sb0, so + k * 8 + 6, none⟩) lsb).trans f6, (hb.cell (p := ⟨sb0, so + k * 8 + 7, none⟩) lsb).trans f7⟩
  clear f0 f1 f2 f3 f4 f5 f6 f7 hla hca sla sca hsd hld hgl eA eB eD m1 m2 m3 m4 m5 m6 m7 m8 m9 hok hk hbg
  have i1 : (0 : Int) ≤ (k : Int) := by omega
  have i2 : (k : Int) < (N : Int) := by omega
  have hb0 : Below w.heap.size w (w.alloc (.cells #[.int .i64 leg, .int .i64 0, .bool true, .int .i64 who, .int .i64 p.pe, .int .i64 p.len, .int .i64 p.hei, .int .i64 p.cl, .bool p.all, .int .i64 p.be] 175)) := push (Below.refl _ _) _
  have b0 := heap_alloc_new w (.cells #[.int .i64 leg, .int .i64 0, .bool true, .int .i64 who, .int .i64 p.pe, .int .i64 p.len, .int .i64 p.hei, .int .i64 p.cl, .bool p.all, .int .i64 p.be] 175)
  go_enter Tryz.func122, Tryz.ntmps122
  go_upto_region 1 with fail
  generalize (w.alloc (.cells #[.int .i64 leg, .int .i64 0, .bool true, .int .i64 who, .int .i64 p.pe, .int .i64 p.len, .int .i64 p.hei, .int .i64 p.cl, .bool p.all, .int .i64 p.be] 175)) = W at hb0 b0 ⊢
  have z0 : ∀ G : Grown W, G.val.cell? ⟨g, 0, none⟩ = some (.slice (some ⟨sb0, so, none⟩) N csa) := fun G => blk_cell (blk_below HQ.out (after hb0 G.bel)) 0 _ rfl
  have z1 : ∀ G : Grown W, G.val.cell? ⟨w.heap.size, 0, none⟩ = some (.int .i64 leg) := fun G => blk_cell (blk_below b0 G.bel) 0 _ rfl
  refine wp_region_grow (by kernel_rfl) (by kernel_rfl) ?_
  repeat (first | go_big_quiet_skip | (go_big_quiet_want; go_big_quiet_op; first | go_big_quiet_on | (apply Exists.intro; refine ⟨fun G => ?_, ?_⟩; (focus (first | (go_at_call 110; refine grown_call (v := .int .i64 (k : Int)) ((l3At_any _ N csa x.sa leg _ hN (HSAt.out.below (after hb0 G.bel))).mono ?_); rintro e w2 ⟨he, hb2⟩; refine ⟨?_, hb2⟩; rw [HK.out] at he; rcases he with ⟨_, rfl⟩ | ⟨h, _⟩; rfl; omega))); go_big_quiet_on)))
  refine wpQuiet_nil ?_
  rintro _ ⟨G, rfl⟩
  clear z0 z1
  have hbG := after hb0 G.bel
  have bW := blk_below b0 G.bel
  obtain ⟨c0, c1, c2, c3, c4, c5, c6, c7⟩ := HCS.out G.val hbG
  have y0 := blk_cell (blk_below HQ.out hbG) 0 _ rfl
  have y1 : ∀ o, (G.val.alloc o).cell? ⟨g, 1, none⟩ = some (.slice (some ⟨gl, 0, none⟩) N cld) := fun o => blk_cell (blk_below HQ.out (push hbG o)) 1 _ rfl
  have y4 : ∀ o, (G.val.alloc o).cell? ⟨w.heap.size, 4, none⟩ = some (.int .i64 p.pe) := fun o => blk_cell (blk_alloc bW o) 4 _ rfl
  have y5 : ∀ o, (G.val.alloc o).cell? ⟨w.heap.size, 5, none⟩ = some (.int .i64 p.len) := fun o => blk_cell (blk_alloc bW o) 5 _ rfl
  have y6 : ∀ o, (G.val.alloc o).cell? ⟨w.heap.size, 6, none⟩ = some (.int .i64 p.hei) := fun o => blk_cell (blk_alloc bW o) 6 _ rfl
  have y7 : ∀ o, (G.val.alloc o).cell? ⟨w.heap.size, 7, none⟩ = some (.int .i64 p.cl) := fun o => blk_cell (blk_alloc bW o) 7 _ rfl
  have y8 : ∀ o, (G.val.alloc o).cell? ⟨w.heap.size, 8, none⟩ = some (.bool p.all) := fun o => blk_cell (blk_alloc bW o) 8 _ rfl
  have y9 : ∀ o, (G.val.alloc o).cell? ⟨w.heap.size, 9, none⟩ = some (.int .i64 p.be) := fun o => blk_cell (blk_alloc bW o) 9 _ rfl
  go_upto_region 8 with fail
  have hbX : Below w.heap.size w ((G.val.alloc (.cells #[.int .i64 s.id, .string s.fr, .string s.dst, .int .i64 s.dep, .int .i64 s.arr, .slice la s.la.n lc, .slice ca s.ca.n cc, .int .i64 s.most] 37)).alloc (.cells #[.int .i64 p.pe, .int .i64 p.len, .int .i64 p.hei, .int .i64 p.cl, .bool p.all, .int .i64 p.be] 25)) := push (push hbG _) _
  have bWX := blk_alloc (blk_alloc bW (.cells #[.int .i64 s.id, .string s.fr, .string s.dst, .int .i64 s.dep, .int .i64 s.arr, .slice la s.la.n lc, .slice ca s.ca.n cc, .int .i64 s.most] 37)) (.cells #[.int .i64 p.pe, .int .i64 p.len, .int .i64 p.hei, .int .i64 p.cl, .bool p.all, .int .i64 p.be] 25)
  have bSX := blk_alloc (heap_alloc_new G.val (.cells #[.int .i64 s.id, .string s.fr, .string s.dst, .int .i64 s.dep, .int .i64 s.arr, .slice la s.la.n lc, .slice ca s.ca.n cc, .int .i64 s.most] 37)) (.cells #[.int .i64 p.pe, .int .i64 p.len, .int .i64 p.hei, .int .i64 p.cl, .bool p.all, .int .i64 p.be] 25)
  have bPX := new2 G.val (.cells #[.int .i64 s.id, .string s.fr, .string s.dst, .int .i64 s.dep, .int .i64 s.arr, .slice la s.la.n lc, .slice ca s.ca.n cc, .int .i64 s.most] 37) (.cells #[.int .i64 p.pe, .int .i64 p.len, .int .i64 p.hei, .int .i64 p.cl, .bool p.all, .int .i64 p.be] 25)
  generalize hx0 : (G.val.alloc (.cells #[.int .i64 s.id, .string s.fr, .string s.dst, .int .i64 s.dep, .int .i64 s.arr, .slice la s.la.n lc, .slice ca s.ca.n cc, .int .i64 s.most] 37)).alloc (.cells #[.int .i64 p.pe, .int .i64 p.len, .int .i64 p.hei, .int .i64 p.cl, .bool p.all, .int .i64 p.be] 25) = X at hbX bWX bSX bPX ⊢
  generalize hsb : G.val.heap.size = sb at bSX bPX ⊢
  clear c0 c1 c2 c3 c4 c5 c6 c7 y0 y1 y4 y5 y6 y7 y8 y9 bW hbG hb0 b0 hx0 hsb G W
  have w1 := blk_cell bWX 1 _ rfl
  have w2 := blk_cell bWX 2 _ rfl
  have w3 := blk_cell bWX 3 _ rfl
  have L0 : X.cell? ⟨gl, k * 3, none⟩ = some (.slice ast l.stn cst) := (hbX.cell (p := ⟨gl, k * 3, none⟩) hlg).trans HL0.out
  have L1 : X.cell? ⟨gl, k * 3 + 1, none⟩ = some (.slice aro l.ron cro) := (hbX.cell (p := ⟨gl, k * 3 + 1, none⟩) hlg).trans HL1.out
  have L2 : X.cell? ⟨gl, k * 3 + 2, none⟩ = some (.slice ase l.sen cse) := (hbX.cell (p := ⟨gl, k * 3 + 2, none⟩) hlg).trans HL2.out
  have bG := blk_below HGL.out hbX
  have HR : Hid (r < l.stn ∧ whoS l.st r = who ∧ ∀ j, j < l.stn → j ≠ r → whoS l.st j ≠ who) := by rw [HLD.out]; exact ⟨hr, hx, hone⟩
  clear hr hx hone
  have HCC : Hid (∀ Z, Below X.heap.size X Z → Calls Tryz.prog 139 #[.slice ast l.stn cst, .int .i64 who] Z fun e w5 => (∃ av cv, e = .returned (.slice av (l.stn - 1) cv) ∧ Hid (w5.ownsRow X.heap.size 186 4 (.slice av (l.stn - 1) cv) (l.stn - 1) (stayList (without l.st r) (l.stn - 1)))) ∧ Below X.heap.size X w5) := fun Z hZ => by
    have hd := (deck_iff _ _ _).1 HOK.out.1
    refine (l4Without_any ast l.stn cst r l.st who Z hd.2.1 HR.out.1 HR.out.2.1 HR.out.2.2 ((stays_of_own HST.out).below (after hbX hZ))).mono ?_
    rintro e w5 ⟨⟨u, rfl, o1⟩, hb5⟩
    obtain ⟨av, cv, rfl, _⟩ := own_form o1
    exact ⟨⟨av, cv, rfl, own_base o1 hZ.size⟩, after hZ hb5⟩
  go_upto_region 9 with fail
  clear w1 w2 L1 L2
  go_region_law (first
    | (go_simp; go_at_call 139; (with_reducible refine Calls.mono (HCC.out _ ?_) ?_); (focus (repeat (first | exact Below.refl _ _ | refine Below.drew ?_ | refine push ?_ _))); rintro e w5 ⟨⟨av, cv, rfl, HO5⟩, hb5⟩; have q0 := (hb5.cell (p := ⟨gl, k * 3, none⟩) (blk_lt bG)).trans L0; have q1 := blk_free (blk_below bG hb5) (k * 3); dsimp only))
  all_goals
    have HF : Hid _ := doSt (k := k) (v := ⟨leg, 0, true, who, p⟩) HO.out HQ.out HBG.out (after hbX hb5) (own_base HO5.out hbX.size) (by rw [HLD.out]; exact .noStay r rfl rfl (by rw [← HLD.out]; exact HR.out.1) (by rw [← HLD.out]; exact HR.out.2.1))
    go_wp2
    go_ret
    exact HF.out

end Go.Proofs.YtfallpinmhbemaaGreatDoor

namespace Go.Proofs.YtfallpinmhbemaaGreatDoor
open Go.RowKit

set_option maxHeartbeats 25600000 in
set_option maxRecDepth 100000 in
theorem l7Do_b (g base N R k csa cld cbk : Nat) (asa ald abk : Option Addr) (leg who : Int) (p : Party) (x : Off) (L C A B D E : Nat → Value) (w : World) (hq : w.heap[g]? = some (.cells #[.slice asa N csa, .slice ald N cld, .slice abk R cbk] 66 (0, 0))) (ho : OwnOff w base (.slice asa N csa) (.slice ald N cld) (.slice abk R cbk) N N R x L C A B D E) (hN : N ≤ 1048576) (hk : findIx x.sa leg N = k) (hlt : k < N) (hok : LoadOk (x.sa k) (x.ld k)) (r : Nat) (hr : r < (x.ld k).ron) (hx : whoR (x.ld k).ro r = who) (hone : ∀ j, j < (x.ld k).ron → j ≠ r → whoR (x.ld k).ro j ≠ who) :
    Calls Tryz.prog 122 #[.pointer (some ⟨g, 0, none⟩), .agg #[.int .i64 leg, .int .i64 1, .bool true, .int .i64 who, .int .i64 p.pe, .int .i64 p.len, .int .i64 p.hei, .int .i64 p.cl, .bool p.all, .int .i64 p.be]] w fun e w' => DoAns g base N R k csa cld cbk asa ald abk ⟨leg, 1, true, who, p⟩ x L C E w e w' := by
  obtain ⟨j0, ji, jz0, jz1, jz2⟩ := info_parts Tryz.infoRoom
  obtain ⟨gl, rfl, hbg, hlg⟩ := own_addr ho.ld.row (by omega)
  have HO : Hid (OwnOff w base (.slice asa N csa) (.slice (some ⟨gl, 0, none⟩) N cld) (.slice abk R cbk) N N R x L C A B D E) := ho
  have HK : Hid (findIx x.sa leg N = k) := hk
  have HOK : Hid (LoadOk (x.sa k) (x.ld k)) := hok
  have HBG : Hid (base ≤ w.heap.size) := by show base ≤ w.heap.size; omega
  have HQ : Hid (w.heap[g]? = some (.cells #[.slice asa N csa, .slice (some ⟨gl, 0, none⟩) N cld, .slice abk R cbk] 66 (0, 0))) := hq
  have HSAt : Hid (SailsAt w asa N x.sa) := ho.sa.at
  obtain ⟨cs, hgl⟩ := own_blockE ho.ld.row gl rfl
  obtain ⟨ast, cst, eA, m1, m2, m3⟩ := own_form (ho.ld.st k hlt)
  obtain ⟨aro, cro, eB, m4, m5, m6⟩ := own_form (ho.ld.ro k hlt)
  obtain ⟨ase, cse, eD, m7, m8, m9⟩ := own_form (ho.ld.se k hlt)
  have HST : Hid (w.ownsRow base 186 4 (.slice ast (x.ld k).stn cst) (x.ld k).stn (stayList (x.ld k).st (x.ld k).stn)) := by show w.ownsRow _ _ _ _ _ _; rw [← eA]; exact ho.ld.st k hlt
  have HRO : Hid (w.ownsRow base 190 4 (.slice aro (x.ld k).ron cro) (x.ld k).ron (roomList (x.ld k).ro (x.ld k).ron)) := by show w.ownsRow _ _ _ _ _ _; rw [← eB]; exact ho.ld.ro k hlt
  have HSE : Hid (w.ownsRow base 138 2 (.slice ase (x.ld k).sen cse) (x.ld k).sen (seatList (x.ld k).se (x.ld k).sen)) := by show w.ownsRow _ _ _ _ _ _; rw [← eD]; exact ho.ld.se k hlt
  have HL0 : Hid (w.cell? ⟨gl, k * 3, none⟩ = some (.slice ast (x.ld k).stn cst)) := by
    have h := own_cell ho.ld.row (k * 3 + 0) (by omega) rfl
    rw [recCell_at 3 _ k 0 (by decide)] at h
    rw [← eA]
    exact h
  have HL1 : Hid (w.cell? ⟨gl, k * 3 + 1, none⟩ = some (.slice aro (x.ld k).ron cro)) := by
    have h := own_cell ho.ld.row (k * 3 + 1) (by omega) rfl
    rw [recCell_at 3 _ k 1 (by decide)] at h
    rw [← eB]
    exact h
  have HL2 : Hid (w.cell? ⟨gl, k * 3 + 2, none⟩ = some (.slice ase (x.ld k).sen cse)) := by
    have h := own_cell ho.ld.row (k * 3 + 2) (by omega) rfl
    rw [recCell_at 3 _ k 2 (by decide)] at h
    rw [← eD]
    exact h
  have HNI : Hid ((ast = none → (x.ld k).stn = 0 ∧ cst = 0) ∧ (aro = none → (x.ld k).ron = 0 ∧ cro = 0) ∧ (ase = none → (x.ld k).sen = 0 ∧ cse = 0)) := ⟨m3, m6, m9⟩
  obtain ⟨s, hsd⟩ : ∃ s, s = x.sa k := ⟨_, rfl⟩
  obtain ⟨l, hld⟩ : ∃ l, l = x.ld k := ⟨_, rfl⟩
  rw [← hld] at HST HRO HSE HL0 HL1 HL2 HNI HOK
  rw [← hsd] at HOK
  have HSD : Hid (s = x.sa k) := hsd
  have HLD : Hid (l = x.ld k) := hld
  have HGL : Hid (w.heap[gl]? = some (.cells cs 136 (0, 0))) := hgl
  obtain ⟨sb0, so, la, lc, ca, cc, rfl, f0, f1, f2, f3, f4, f5, f6, f7, hla, hca, sla, sca⟩ := HSAt.out k hlt
  rw [← hsd] at f0 f1 f2 f3 f4 f5 f6 f7 hla hca sla sca
  have HPL : Hid (PairsAt w la s.la ∧ PairsAt w ca s.ca) := ⟨hla, hca⟩
  have HCS : Hid (∀ W, Below w.heap.size w W → W.cell? ⟨sb0, so + k * 8, none⟩ = some (.int .i64 s.id) ∧ W.cell? ⟨sb0, so + k * 8 + 1, none⟩ = some (.string s.fr) ∧ W.cell? ⟨sb0, so + k * 8 + 2, none⟩ = some (.string s.dst) ∧ W.cell? ⟨sb0, so + k * 8 + 3, none⟩ = some (.int .i64 s.dep) ∧ W.cell? ⟨sb0, so + k * 8 + 4, none⟩ = some (.int .i64 s.arr) ∧ W.cell? ⟨sb0, so + k * 8 + 5, none⟩ = some (.slice la s.la.n lc) ∧ W.cell? ⟨sb0, so + k * 8 + 6, none⟩ = some (.slice ca s.ca.n cc) ∧ W.cell? ⟨sb0, so + k * 8 + 7, none⟩ = some (.int .i64 s.most)) := fun W hb => by
    have lsb := World.block_lt_of_cell? w _ f0
    exact ⟨(hb.cell (p := ⟨sb0, so + k * 8, none⟩) lsb).trans f0, (hb.cell (p := ⟨sb0, so + k * 8 + 1, none⟩) lsb).trans f1, (hb.cell (p := ⟨sb0, so + k * 8 + 2, none⟩) lsb).trans f2, (hb.cell (p := ⟨sb0, so + k * 8 + 3, none⟩) lsb).trans f3, (hb.cell (p := ⟨sb0, so + k * 8 + 4, none⟩) lsb).trans f4, (hb.cell (p := ⟨sb0, so + k * 8 + 5, none⟩) lsb).trans f5, (hb.cell (p := ⟨sb0, so + k * 8 + 6, none⟩) lsb).trans f6, (hb.cell (p := ⟨sb0, so + k * 8 + 7, none⟩) lsb).trans f7⟩
  clear f0 f1 f2 f3 f4 f5 f6 f7 hla hca sla sca hsd hld hgl eA eB eD m1 m2 m3 m4 m5 m6 m7 m8 m9 hok hk hbg
  have i1 : (0 : Int) ≤ (k : Int) := by omega
  have i2 : (k : Int) < (N : Int) := by omega
  have hb0 : Below w.heap.size w (w.alloc (.cells #[.int .i64 leg, .int .i64 1, .bool true, .int .i64 who, .int .i64 p.pe, .int .i64 p.len, .int .i64 p.hei, .int .i64 p.cl, .bool p.all, .int .i64 p.be] 175)) := push (Below.refl _ _) _
  have b0 := heap_alloc_new w (.cells #[.int .i64 leg, .int .i64 1, .bool true, .int .i64 who, .int .i64 p.pe, .int .i64 p.len, .int .i64 p.hei, .int .i64 p.cl, .bool p.all, .int .i64 p.be] 175)
  go_enter Tryz.func122, Tryz.ntmps122
  go_upto_region 1 with fail
  generalize (w.alloc (.cells #[.int .i64 leg, .int .i64 1, .bool true, .int .i64 who, .int .i64 p.pe, .int .i64 p.len, .int .i64 p.hei, .int .i64 p.cl, .bool p.all, .int .i64 p.be] 175)) = W at hb0 b0 ⊢
  have z0 : ∀ G : Grown W, G.val.cell? ⟨g, 0, none⟩ = some (.slice (some ⟨sb0, so, none⟩) N csa) := fun G => blk_cell (blk_below HQ.out (after hb0 G.bel)) 0 _ rfl
  have z1 : ∀ G : Grown W, G.val.cell? ⟨w.heap.size, 0, none⟩ = some (.int .i64 leg) := fun G => blk_cell (blk_below b0 G.bel) 0 _ rfl
  refine wp_region_grow (by kernel_rfl) (by kernel_rfl) ?_
  repeat (first | go_big_quiet_skip | (go_big_quiet_want; go_big_quiet_op; first | go_big_quiet_on | (apply Exists.intro; refine ⟨fun G => ?_, ?_⟩; (focus (first | (go_at_call 110; refine grown_call (v := .int .i64 (k : Int)) ((l3At_any _ N csa x.sa leg _ hN (HSAt.out.below (after hb0 G.bel))).mono ?_); rintro e w2 ⟨he, hb2⟩; refine ⟨?_, hb2⟩; rw [HK.out] at he; rcases he with ⟨_, rfl⟩ | ⟨h, _⟩; rfl; omega))); go_big_quiet_on)))
  refine wpQuiet_nil ?_
  rintro _ ⟨G, rfl⟩
  clear z0 z1
  have hbG := after hb0 G.bel
  have bW := blk_below b0 G.bel
  obtain ⟨c0, c1, c2, c3, c4, c5, c6, c7⟩ := HCS.out G.val hbG
  have y0 := blk_cell (blk_below HQ.out hbG) 0 _ rfl
  have y1 : ∀ o, (G.val.alloc o).cell? ⟨g, 1, none⟩ = some (.slice (some ⟨gl, 0, none⟩) N cld) := fun o => blk_cell (blk_below HQ.out (push hbG o)) 1 _ rfl
  have y4 : ∀ o, (G.val.alloc o).cell? ⟨w.heap.size, 4, none⟩ = some (.int .i64 p.pe) := fun o => blk_cell (blk_alloc bW o) 4 _ rfl
  have y5 : ∀ o, (G.val.alloc o).cell? ⟨w.heap.size, 5, none⟩ = some (.int .i64 p.len) := fun o => blk_cell (blk_alloc bW o) 5 _ rfl
  have y6 : ∀ o, (G.val.alloc o).cell? ⟨w.heap.size, 6, none⟩ = some (.int .i64 p.hei) := fun o => blk_cell (blk_alloc bW o) 6 _ rfl
  have y7 : ∀ o, (G.val.alloc o).cell? ⟨w.heap.size, 7, none⟩ = some (.int .i64 p.cl) := fun o => blk_cell (blk_alloc bW o) 7 _ rfl
  have y8 : ∀ o, (G.val.alloc o).cell? ⟨w.heap.size, 8, none⟩ = some (.bool p.all) := fun o => blk_cell (blk_alloc bW o) 8 _ rfl
  have y9 : ∀ o, (G.val.alloc o).cell? ⟨w.heap.size, 9, none⟩ = some (.int .i64 p.be) := fun o => blk_cell (blk_alloc bW o) 9 _ rfl
  go_upto_region 8 with fail
  have hbX : Below w.heap.size w ((G.val.alloc (.cells #[.int .i64 s.id, .string s.fr, .string s.dst, .int .i64 s.dep, .int .i64 s.arr, .slice la s.la.n lc, .slice ca s.ca.n cc, .int .i64 s.most] 37)).alloc (.cells #[.int .i64 p.pe, .int .i64 p.len, .int .i64 p.hei, .int .i64 p.cl, .bool p.all, .int .i64 p.be] 25)) := push (push hbG _) _
  have bWX := blk_alloc (blk_alloc bW (.cells #[.int .i64 s.id, .string s.fr, .string s.dst, .int .i64 s.dep, .int .i64 s.arr, .slice la s.la.n lc, .slice ca s.ca.n cc, .int .i64 s.most] 37)) (.cells #[.int .i64 p.pe, .int .i64 p.len, .int .i64 p.hei, .int .i64 p.cl, .bool p.all, .int .i64 p.be] 25)
  have bSX := blk_alloc (heap_alloc_new G.val (.cells #[.int .i64 s.id, .string s.fr, .string s.dst, .int .i64 s.dep, .int .i64 s.arr, .slice la s.la.n lc, .slice ca s.ca.n cc, .int .i64 s.most] 37)) (.cells #[.int .i64 p.pe, .int .i64 p.len, .int .i64 p.hei, .int .i64 p.cl, .bool p.all, .int .i64 p.be] 25)
  have bPX := new2 G.val (.cells #[.int .i64 s.id, .string s.fr, .string s.dst, .int .i64 s.dep, .int .i64 s.arr, .slice la s.la.n lc, .slice ca s.ca.n cc, .int .i64 s.most] 37) (.cells #[.int .i64 p.pe, .int .i64 p.len, .int .i64 p.hei, .int .i64 p.cl, .bool p.all, .int .i64 p.be] 25)
  generalize hx0 : (G.val.alloc (.cells #[.int .i64 s.id, .string s.fr, .string s.dst, .int .i64 s.dep, .int .i64 s.arr, .slice la s.la.n lc, .slice ca s.ca.n cc, .int .i64 s.most] 37)).alloc (.cells #[.int .i64 p.pe, .int .i64 p.len, .int .i64 p.hei, .int .i64 p.cl, .bool p.all, .int .i64 p.be] 25) = X at hbX bWX bSX bPX ⊢
  generalize hsb : G.val.heap.size = sb at bSX bPX ⊢
  clear c0 c1 c2 c3 c4 c5 c6 c7 y0 y1 y4 y5 y6 y7 y8 y9 bW hbG hb0 b0 hx0 hsb G W
  have w1 := blk_cell bWX 1 _ rfl
  have w2 := blk_cell bWX 2 _ rfl
  have w3 := blk_cell bWX 3 _ rfl
  have L0 : X.cell? ⟨gl, k * 3, none⟩ = some (.slice ast l.stn cst) := (hbX.cell (p := ⟨gl, k * 3, none⟩) hlg).trans HL0.out
  have L1 : X.cell? ⟨gl, k * 3 + 1, none⟩ = some (.slice aro l.ron cro) := (hbX.cell (p := ⟨gl, k * 3 + 1, none⟩) hlg).trans HL1.out
  have L2 : X.cell? ⟨gl, k * 3 + 2, none⟩ = some (.slice ase l.sen cse) := (hbX.cell (p := ⟨gl, k * 3 + 2, none⟩) hlg).trans HL2.out
  have bG := blk_below HGL.out hbX
  have HR : Hid (r < l.ron ∧ whoR l.ro r = who ∧ ∀ j, j < l.ron → j ≠ r → whoR l.ro j ≠ who) := by rw [HLD.out]; exact ⟨hr, hx, hone⟩
  clear hr hx hone
  have hn60 : l.ron ≤ 60 := HOK.out.2.1.2.1
  go_wp2
  go_loopw [9, 11, 106] (fun v _ i wr => ∃ q : Nat, q ≤ l.ron ∧ i = .int .i64 q ∧ wr.ownsRow X.heap.size 190 4 v (cntW r q) (roomList (outOf l.ro r) (cntW r q)) ∧ Below X.heap.size X wr) (fun _ _ i _ => l.ron - (intOf i).toNat)
  case atStart => exact ⟨0, Nat.zero_le _, rfl, ⟨rfl, .inl ⟨rfl, rfl⟩⟩, Below.refl _ _⟩
  case round =>
    obtain ⟨q, hq, rfl, hown, hbel⟩ := hrel
    by_cases hlq : q < l.ron
    · obtain ⟨b, off, rfl, h0, h1, h2, h3⟩ := (rooms_of_own HRO.out).below hbX q hlq
      have hb := World.block_lt_of_cell? X _ h0
      have c0 := (hbel.cell (p := ⟨b, off + q * 4, none⟩) hb).trans h0
      have c1 := (hbel.cell (p := ⟨b, off + q * 4 + 1, none⟩) hb).trans h1
      have c2 := (hbel.cell (p := ⟨b, off + q * 4 + 2, none⟩) hb).trans h2
      have c3 := (hbel.cell (p := ⟨b, off + q * 4 + 3, none⟩) hb).trans h3
      clear h0 h1 h2 h3
      have y3 : ∀ o, (wr.alloc o).cell? ⟨w.heap.size, 3, none⟩ = some (.int .i64 who) := fun o => blk_cell (blk_alloc (blk_below bWX hbel) o) 3 _ rfl
      by_cases he : q = r
      · have e1 : ((l.ro q).who == who) = true := by rw [he]; simpa [whoR] using HR.out.2.1
        have e2 : ((l.ro q).who != who) = false := by rw [he]; simpa [whoR] using HR.out.2.1
        have HC : Hid (cntW r (q + 1) = cntW r q) := by
          have a1 : cntW r (q + 1) = q + 1 - 1 := if_neg (by omega)
          have a2 : cntW r q = q := if_pos (by omega)
          show cntW r (q + 1) = cntW r q
          omega
        clear he
        go_wp2
        go_roundw
        case rel => exact ⟨q + 1, by omega, by go_num, by rw [HC.out]; exact own_below (push (Below.refl _ _) _) hown, push hbel _⟩
        case measure => simp [intOf]; omega
      · have hne := HR.out.2.2 q hlq he
        have e1 : ((l.ro q).who == who) = false := by simpa [whoR] using hne
        have e2 : ((l.ro q).who != who) = true := by simpa [whoR] using hne
        have HC : Hid (cntW r (q + 1) = cntW r q + 1 ∧ outOf l.ro r (cntW r q) = l.ro q ∧ cntW r q ≤ 60) := by
          by_cases c : q ≤ r
          · have a1 : cntW r (q + 1) = q + 1 := if_pos (by omega)
            have a2 : cntW r q = q := if_pos c
            have a3 : outOf l.ro r q = l.ro q := if_pos (by omega)
            rw [a1, a2, a3]
            exact ⟨rfl, rfl, by omega⟩
          · have a1 : cntW r (q + 1) = q + 1 - 1 := if_neg (by omega)
            have a2 : cntW r q = q - 1 := if_neg c
            have a3 : outOf l.ro r (q - 1) = l.ro (q - 1 + 1) := if_neg (by omega)
            rw [a1, a2, a3]
            exact ⟨by omega, by rw [show q - 1 + 1 = q by omega], by omega⟩
        clear he hne
        have hsz := hbel.size
        have hcb := HC.out.2.2
        generalize hqq : cntW r q = qq at hown hcb
        have HQQ : Hid (cntW r q = qq) := hqq
        clear hqq
        have HN : Hid (∀ ad, (some ⟨wr.heap.size + 1, 0, none⟩ : Option Addr) = some ad → ∀ j u, [Value.int .i64 (l.ro q).who, .int .i64 (l.ro q).cab, .int .i64 (l.ro q).many, .bool (l.ro q).all][j]? = some u → ((wr.alloc (.cells #[.int .i64 (l.ro q).who, .int .i64 (l.ro q).cab, .int .i64 (l.ro q).many, .bool (l.ro q).all] 190)).alloc (.cells #[.int .i64 (l.ro q).who, .int .i64 (l.ro q).cab, .int .i64 (l.ro q).many, .bool (l.ro q).all] 190)).cell? (ad.add j) = some u) := by
          intro ad e
          cases e
          exact World.news_of_block (by simpa using heap_alloc_new (wr.alloc _) _)
        go_wp2_with (first | (at_builtin; refine wpList_append_any _ (by rfl) (.tmp 115) (.tmp 117) 134 (by rfl) X.heap.size 190 j0 (.agg #[.int .i64 0, .int .i64 0, .int .i64 0, .bool false]) 4 32 Tryz.underlying134 ji jz0 jz1 jz2 rfl (by decide) _ qq (roomList (outOf l.ro r) qq) (by rfl) ((hown.alloc _).alloc _) (some ⟨wr.heap.size + 1, 0, none⟩) 1 1 [.int .i64 (l.ro q).who, .int .i64 (l.ro q).cab, .int .i64 (l.ro q).many, .bool (l.ro q).all] (by rfl) (fun h => (by cases h)) (by rfl) HN.out (by intro u hu; simp at hu; rcases hu with rfl | rfl | rfl | rfl <;> rfl) (by unfold maxLen; omega) (by omega) (by simp; omega) ?_; intro v' w3' ho3 hg3))
        go_roundw
        case rel =>
          refine ⟨q + 1, by omega, by go_num, ?_, (push (push hbel _) _).grown hg3 (by simp; omega) (fun j hj => (hown.lt j hj).1)⟩
          obtain ⟨a1, a2, _⟩ := HC.out
          rw [a1, HQQ.out, roomList_succ]
          rw [HQQ.out] at a2
          rw [a2]
          exact ho3
        case measure => simp [intOf]; omega
    · obtain rfl : q = l.ron := by omega
      have HC : Hid (cntW r l.ron = l.ron - 1) := if_neg (by have := HR.out.1; omega)
      rw [HC.out] at hown
      obtain ⟨av, cv, rfl, _⟩ := own_form hown
      have q0 := (hbel.cell (p := ⟨gl, k * 3 + 1, none⟩) (blk_lt bG)).trans L1
      have q1 := blk_free (blk_below bG hbel) (k * 3 + 1)
      have HF : Hid _ := doRo (k := k) (v := ⟨leg, 1, true, who, p⟩) HO.out HQ.out HBG.out (after hbX hbel) (own_base hown hbX.size) (by rw [HLD.out]; exact .noRoom r rfl rfl (by rw [← HLD.out]; exact HR.out.1) (by rw [← HLD.out]; exact HR.out.2.1))
      go_wp2
      go_ret
      exact HF.out

end Go.Proofs.YtfallpinmhbemaaGreatDoor
