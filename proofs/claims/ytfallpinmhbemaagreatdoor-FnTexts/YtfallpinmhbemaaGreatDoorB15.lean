/-
  OWN TEXT: PlainR7, PlainDo, SpecUs, SpecWk, PlainDw.
-/
import Derived.Test.YtfallpinmhbemaaGreatDoorB14
import Derived.Test.YtfallpinmhbemaaGreatDoorB05
import Derived.Test.YtfallpinmhbemaaGreatDoorB01
import Derived.Test.YtfallpinmhbemaaGreatDoorB12
import Derived.Test.YtfallpinmhbemaaGreatDoorB11
import Derived.Test.YtfallpinmhbemaaGreatDoorB09
namespace Go.Proofs.YtfallpinmhbemaaGreatDoor
open Go.RowKit

theorem roomCat_lt {S : Nat → Room} {n j : Nat} {r : Room} (h : j < n) : roomCat S n (fun _ => r) j = S j := by unfold roomCat; rw [if_pos h]
theorem roomCat_at {S : Nat → Room} {n : Nat} {r : Room} : roomCat S n (fun _ => r) n = r := by unfold roomCat; rw [if_neg (Nat.lt_irrefl _)]
theorem used_cat {S : Nat → Room} {n : Nat} {r : Room} {k : Nat} : ∀ i, i ≤ n → usedR (roomCat S n (fun _ => r)) k i = usedR S k i := by
  intro i
  induction i with
  | zero => intro _; rfl
  | succ i ih =>
    intro hi
    unfold usedR
    rw [ih (by omega), roomCat_lt (by omega)]
theorem left_cat {p : Pairs} {S : Nat → Room} {n : Nat} {r : Room} {k i : Nat} (h : i ≤ n) : leftR p (roomCat S n (fun _ => r)) i k = leftR p S i k := by
  unfold leftR; rw [used_cat i h]
theorem has_cat {S : Nat → Room} {n : Nat} {r : Room} {i : Nat} {x : Int} (h : i ≤ n) : Has (whoR (roomCat S n (fun _ => r))) i x ↔ Has (whoR S) i x := by
  unfold Has whoR
  constructor
  · rintro ⟨j, hj, e⟩; exact ⟨j, hj, by rw [roomCat_lt (by omega)] at e; exact e⟩
  · rintro ⟨j, hj, e⟩; exact ⟨j, hj, by rw [roomCat_lt (by omega)]; exact e⟩
theorem stands_congr {p : Pairs} {F G : Nat → Int} {r : Room} (h : ∀ k, F k = G k) : Stands p F r → Stands p G r := by
  unfold Stands
  rw [h]
  exact fun h => h
/-- One more that may stand there. -/
theorem rooms_more {p : Pairs} {n : Nat} {S : Nat → Room} {r : Room} (h : RoomsS p n S) (hw : In r.who 1 9999) (hh : ¬ Has (whoR S) n r.who) (hs : Stands p (leftR p S n) r) : RoomsS p (n + 1) (roomCat S n (fun _ => r)) := by
  have hf := rooms_few h
  obtain ⟨hg, _, hall⟩ := roomsI_of_S h
  refine roomsS_of_I ⟨hg, by omega, fun i hi => ?_⟩
  by_cases e : i = n
  · subst e
    rw [roomCat_at]
    exact ⟨hw, fun q => hh ((has_cat (Nat.le_refl _)).1 q), stands_congr (fun k => (left_cat (Nat.le_refl _)).symm) hs⟩
  · have hl : i < n := by omega
    rw [roomCat_lt hl]
    obtain ⟨a, b, c⟩ := hall i hl
    exact ⟨a, fun q => b ((has_cat (by omega)).1 q), stands_congr (fun k => (left_cat (by omega)).symm) c⟩
theorem left_more {p : Pairs} {n : Nat} {S : Nat → Room} {r : Room} {l : Nat} (h : r.cab = (l : Int)) : leftR p (roomCat S n (fun _ => r)) (n + 1) l = leftR p S n l - r.many := by
  rw [leftR_at p _ n l (by rw [roomCat_at]; exact h), roomCat_at, left_cat (Nat.le_refl _)]
/-- A cabin that is given whole is good and full. -/
theorem whole_good {p : Pairs} {n : Nat} {S : Nat → Room} {x cl q : Int} {k : Nat} (hg : WholeG p n S x cl q) (hf : FirstOf p.n (WholeP p n S cl q) k) :
    RoomsS p (n + 1) (roomCat S n (fun _ => ⟨x, (k : Int), p.B k, true⟩)) ∧ leftR p (roomCat S n (fun _ => ⟨x, (k : Int), p.B k, true⟩)) (n + 1) k = 0 := by
  have hl := hf.2.1.2.1
  constructor
  · refine rooms_more hg.1.1 hg.1.2.2.2 hg.1.2.2.1 ⟨?_, fun _ => ⟨?_, ?_⟩, fun h => by cases h⟩
    · have := hf.1
      unfold In
      show (0 : Int) ≤ (k : Int) ∧ (k : Int) ≤ (p.n : Int) - 1
      omega
    · exact hl
    · rfl
  · rw [left_more rfl, hl]
    show p.B k - p.B k = 0
    omega
/-- So are berths that are given. -/
theorem berth_good {p : Pairs} {n : Nat} {S : Nat → Room} {x cl q : Int} {k : Nat} (hg : BerthG p n S x cl q) (hf : FirstOf p.n (BerthP p n S cl q) k) :
    RoomsS p (n + 1) (roomCat S n (fun _ => ⟨x, (k : Int), q, false⟩)) ∧ leftR p (roomCat S n (fun _ => ⟨x, (k : Int), q, false⟩)) (n + 1) k = leftR p S n k - q ∧ 0 ≤ leftR p S n k - q := by
  have hl := hf.2.1.2
  refine ⟨?_, left_more rfl, by omega⟩
  refine rooms_more hg.1.1 hg.1.2.2.2 hg.1.2.2.1 ⟨?_, fun h => (by cases h), fun _ => ⟨hg.2.2.1, ?_⟩⟩
  · have := hf.1
    unfold In
    show (0 : Int) ≤ (k : Int) ∧ (k : Int) ≤ (p.n : Int) - 1
    omega
  · exact hl
theorem whole_some {p : Pairs} {n : Nat} {S : Nat → Room} {x cl q : Int} (h : wholeOk p n S x cl q = true) : ∃ k, (WholeG p n S x cl q ∧ FirstOf p.n (WholeP p n S cl q) k) ∧ wholeAt p n S x cl q = (k : Int) ∧ wholeLen p n S x cl q = n + 1 ∧ wholeRooms p n S x cl q = roomCat S n (fun _ => ⟨x, (k : Int), p.B k, true⟩) := by
  unfold wholeOk at h
  cases e : wholeIx p n S x cl q with
  | none => rw [e] at h; cases h
  | some k =>
    refine ⟨k, pickAt_some e, ?_, ?_, ?_⟩
    · unfold wholeAt; rw [e]; rfl
    · unfold wholeLen; rw [e]; rfl
    · unfold wholeRooms wholeAt; rw [e]; rfl
theorem berth_some {p : Pairs} {n : Nat} {S : Nat → Room} {x cl q : Int} (h : berthOk p n S x cl q = true) : ∃ k, (BerthG p n S x cl q ∧ FirstOf p.n (BerthP p n S cl q) k) ∧ berthAt p n S x cl q = (k : Int) ∧ berthLen p n S x cl q = n + 1 ∧ berthRooms p n S x cl q = roomCat S n (fun _ => ⟨x, (k : Int), q, false⟩) := by
  unfold berthOk at h
  cases e : berthIx p n S x cl q with
  | none => rw [e] at h; cases h
  | some k =>
    refine ⟨k, pickAt_some e, ?_, ?_, ?_⟩
    · unfold berthAt; rw [e]; rfl
    · unfold berthLen; rw [e]; rfl
    · unfold berthRooms berthAt; rw [e]; rfl

end Go.Proofs.YtfallpinmhbemaaGreatDoor

namespace Go.Proofs.YtfallpinmhbemaaGreatDoor
open Go.RowKit

def Load.noStay (x : Load) (r : Nat) : Load := { x with stn := x.stn - 1, st := without x.st r }
def Load.noRoom (x : Load) (r : Nat) : Load := { x with ron := x.ron - 1, ro := outOf x.ro r }
def Load.noSeat (x : Load) (r : Nat) : Load := { x with sen := x.sen - 1, se := outOf x.se r }
def Load.addStay (x : Load) (s : Stay) : Load := { x with stn := x.stn + 1, st := stayCat x.st x.stn (fun _ => s) }
def Load.addRoom (x : Load) (s : Room) : Load := { x with ron := x.ron + 1, ro := roomCat x.ro x.ron (fun _ => s) }
def Load.addSeat (x : Load) (s : Seat) : Load := { x with sen := x.sen + 1, se := seatCat x.se x.sen (fun _ => s) }

theorem LoadOk.noStay {s : Sail} {x : Load} {r : Nat} (h : LoadOk s x) (hr : r < x.stn) : LoadOk s (x.noStay r) := by
  obtain ⟨h1, h2, h3⟩ := h
  refine ⟨?_, h2, h3⟩
  show DeckS s.la (x.stn - 1) (without x.st r)
  have e : x.stn = x.stn - 1 + 1 := by omega
  rw [e] at h1
  exact (deck_iff _ _ _).2 (without_deck ((deck_iff _ _ _).1 h1) (by omega))
theorem LoadOk.noRoom {s : Sail} {x : Load} {r : Nat} (h : LoadOk s x) (hr : r < x.ron) : LoadOk s (x.noRoom r) := by
  obtain ⟨h1, h2, h3⟩ := h
  refine ⟨h1, ?_, h3⟩
  show RoomsS s.ca (x.ron - 1) (outOf x.ro r)
  have e : x.ron = x.ron - 1 + 1 := by omega
  rw [e] at h2
  exact out_rooms h2 (by omega)
theorem LoadOk.noSeat {s : Sail} {x : Load} {r : Nat} (h : LoadOk s x) (hr : r < x.sen) : LoadOk s (x.noSeat r) := by
  obtain ⟨h1, h2, h3⟩ := h
  refine ⟨h1, h2, ?_⟩
  show SeatsOk s.most (x.sen - 1) (outOf x.se r)
  have e : x.sen = x.sen - 1 + 1 := by omega
  rw [e] at h3
  exact out_seats h3 (by omega)
theorem LoadOk.addStay {s : Sail} {x : Load} {who len hei : Int} {k : Nat} (h : LoadOk s x) (hp : Places s.la x.stn x.st who len hei k) : LoadOk s (x.addStay ⟨who, (k : Int), len, hei⟩) :=
  ⟨(deck_iff _ _ _).2 (place_deck hp).1, h.2.1, h.2.2⟩
theorem LoadOk.addRoom {s : Sail} {x : Load} {r : Room} (h : LoadOk s x) (hw : In r.who 1 9999) (hh : ¬ Has (whoR x.ro) x.ron r.who) (hs : Stands s.ca (leftR s.ca x.ro x.ron) r) : LoadOk s (x.addRoom r) :=
  ⟨h.1, rooms_more h.2.1 hw hh hs, h.2.2⟩
theorem seatCat_lt {S : Nat → Seat} {n j : Nat} {r : Seat} (h : j < n) : seatCat S n (fun _ => r) j = S j := by unfold seatCat; rw [if_pos h]
theorem seatCat_at {S : Nat → Seat} {n : Nat} {r : Seat} : seatCat S n (fun _ => r) n = r := by unfold seatCat; rw [if_neg (Nat.lt_irrefl _)]
theorem seats_more {most : Int} {n : Nat} {S : Nat → Seat} {r : Seat} (h : SeatsOk most n S) (hn : n ≠ 60) (hw : In r.who 1 9999) (hm : In r.many 1 20) (hh : ¬ Has (whoT S) n r.who) (hs : sits S n + r.many ≤ most) : SeatsOk most (n + 1) (seatCat S n (fun _ => r)) := by
  obtain ⟨h0, h1, h2, h3⟩ := h
  have hc : ∀ i, i ≤ n → ∀ x, Has (whoT (seatCat S n (fun _ => r))) i x → Has (whoT S) i x := by
    rintro i hi x ⟨j, hj, e⟩
    refine ⟨j, hj, ?_⟩
    rw [← e]; unfold whoT; rw [seatCat_lt (by omega)]
  refine ⟨h0, by omega, fun i hi => ?_, ?_⟩
  · by_cases e : i = n
    · subst e
      rw [seatCat_at]
      exact ⟨hw, fun c => hh (hc i (Nat.le_refl _) _ c), hm⟩
    · rw [seatCat_lt (by omega)]
      obtain ⟨a, b, c⟩ := h2 i (by omega)
      exact ⟨a, fun d => b (hc i (by omega) _ d), c⟩
  · rw [sits, sits_congr n (fun j hj => seatCat_lt hj), seatCat_at]
    exact hs
theorem LoadOk.addSeat {s : Sail} {x : Load} {r : Seat} (h : LoadOk s x) (hn : x.sen ≠ 60) (hw : In r.who 1 9999) (hm : In r.many 1 20) (hh : ¬ Has (whoT x.se) x.sen r.who) (hs : sits x.se x.sen + r.many ≤ s.most) : LoadOk s (x.addSeat r) :=
  ⟨h.1, h.2.1, seats_more h.2.2 hn hw hm hh hs⟩

end Go.Proofs.YtfallpinmhbemaaGreatDoor

namespace Go.Proofs.YtfallpinmhbemaaGreatDoor
open Go.RowKit

/-- Whether a party uses a resource. -/
def usesP (len cl : Int) (r : Nat) : Bool := if r = 2 then true else if r = 0 then decide (0 < len) else decide (0 < cl)

set_option maxHeartbeats 800000 in
theorem l7Uses_any (pe len hei cl be : Int) (all : Bool) (r : Nat) (w : World) (hr : r < 3) :
    Calls Tryz.prog 138 #[.agg #[.int .i64 pe, .int .i64 len, .int .i64 hei, .int .i64 cl, .bool all, .int .i64 be], .int .i64 (r : Int)] w fun e w' => e = .returned (.bool (usesP len cl r)) ∧ Below w.heap.size w w' := by
  have b0 := heap_alloc_new w (.cells #[.int .i64 pe, .int .i64 len, .int .i64 hei, .int .i64 cl, .bool all, .int .i64 be] 25)
  have hb0 : Below w.heap.size w (w.alloc (.cells #[.int .i64 pe, .int .i64 len, .int .i64 hei, .int .i64 cl, .bool all, .int .i64 be] 25)) := push (Below.refl _ _) _
  have y1 := blk_cell b0 1 _ rfl
  have y3 := blk_cell b0 3 _ rfl
  have h3 : r = 0 ∨ r = 1 ∨ r = 2 := by omega
  clear b0
  rcases h3 with rfl | rfl | rfl
  · by_cases h : 0 < len
    · have HU : Hid (usesP len cl 0 = true) := decide_eq_true h
      have d1 : decide (0 < len) = true := decide_eq_true h
      go_enter Tryz.func138, Tryz.ntmps138
      go_wp2
      go_ret
      exact ⟨by rw [HU.out]; rfl, hb0⟩
    · have HU : Hid (usesP len cl 0 = false) := decide_eq_false h
      have d1 : decide (0 < len) = false := decide_eq_false h
      go_enter Tryz.func138, Tryz.ntmps138
      go_wp2
      go_ret
      exact ⟨by rw [HU.out]; rfl, hb0⟩
  · by_cases h : 0 < cl
    · have HU : Hid (usesP len cl 1 = true) := decide_eq_true h
      have d1 : decide (0 < cl) = true := decide_eq_true h
      go_enter Tryz.func138, Tryz.ntmps138
      go_wp2
      go_ret
      exact ⟨by rw [HU.out]; rfl, hb0⟩
    · have HU : Hid (usesP len cl 1 = false) := decide_eq_false h
      have d1 : decide (0 < cl) = false := decide_eq_false h
      go_enter Tryz.func138, Tryz.ntmps138
      go_wp2
      go_ret
      exact ⟨by rw [HU.out]; rfl, hb0⟩
  · go_enter Tryz.func138, Tryz.ntmps138
    go_wp2
    go_ret
    exact ⟨rfl, hb0⟩

end Go.Proofs.YtfallpinmhbemaaGreatDoor

namespace Go.Proofs.YtfallpinmhbemaaGreatDoor
open Go.RowKit

/-- One thing that is done to one resource of one sailing. -/
structure Wk where
  leg : Int
  res : Nat
  goes : Bool
  who : Int
  p : Party
def wkC (k : Wk) : List Value := [.int .i64 k.leg, .int .i64 (k.res : Int), .bool k.goes, .int .i64 k.who, .int .i64 k.p.pe, .int .i64 k.p.len, .int .i64 k.p.hei, .int .i64 k.p.cl, .bool k.p.all, .int .i64 k.p.be]
def wkRow (l : List Wk) : List Value := l.flatMap wkC
theorem wkRow_snoc (l : List Wk) (k : Wk) : wkRow (l ++ [k]) = wkRow l ++ wkC k := by simp [wkRow]
/-- The works of one leg at the first j resources. -/
def wksLeg (goes : Bool) (who : Int) (p : Party) (leg : Int) : Nat → List Wk
  | 0 => []
  | j + 1 => if usesP p.len p.cl j = true then wksLeg goes who p leg j ++ [⟨leg, j, goes, who, p⟩] else wksLeg goes who p leg j
/-- The works of the first k legs. -/
def wksTo (goes : Bool) (who : Int) (p : Party) (F : Nat → Int) : Nat → List Wk
  | 0 => []
  | k + 1 => wksTo goes who p F k ++ wksLeg goes who p (F k) 3
theorem wksLeg_len (goes : Bool) (who : Int) (p : Party) (leg : Int) : ∀ j, (wksLeg goes who p leg j).length ≤ j
  | 0 => Nat.le_refl _
  | j + 1 => by
    have ih := wksLeg_len goes who p leg j
    unfold wksLeg
    split
    · rw [List.length_append]; simp; omega
    · omega
theorem wksTo_len (goes : Bool) (who : Int) (p : Party) (F : Nat → Int) : ∀ k, (wksTo goes who p F k).length ≤ 3 * k
  | 0 => Nat.le_refl _
  | k + 1 => by
    have ih := wksTo_len goes who p F k
    have h := wksLeg_len goes who p (F k) 3
    unfold wksTo
    rw [List.length_append]
    omega
/-- What is told of each work: its leg is one of the legs. -/
theorem wksLeg_mem {goes : Bool} {who : Int} {p : Party} {leg : Int} : ∀ {j : Nat} {k : Wk}, k ∈ wksLeg goes who p leg j → k.leg = leg ∧ k.res < j ∧ k.goes = goes ∧ k.who = who ∧ k.p = p ∧ usesP p.len p.cl k.res = true
  | 0, k, h => by simp [wksLeg] at h
  | j + 1, k, h => by
    unfold wksLeg at h
    split at h
    · rename_i hu
      rcases List.mem_append.1 h with h | h
      · obtain ⟨a, b, c⟩ := wksLeg_mem h; exact ⟨a, by omega, c⟩
      · simp at h; subst h; exact ⟨rfl, Nat.lt_succ_self _, rfl, rfl, rfl, hu⟩
    · obtain ⟨a, b, c⟩ := wksLeg_mem h; exact ⟨a, by omega, c⟩
theorem wksTo_mem {goes : Bool} {who : Int} {p : Party} {F : Nat → Int} : ∀ {n : Nat} {k : Wk}, k ∈ wksTo goes who p F n → (∃ i, i < n ∧ k.leg = F i) ∧ k.res < 3 ∧ k.goes = goes ∧ k.who = who ∧ k.p = p ∧ usesP p.len p.cl k.res = true
  | 0, k, h => by simp [wksTo] at h
  | n + 1, k, h => by
    unfold wksTo at h
    rcases List.mem_append.1 h with h | h
    · obtain ⟨⟨i, hi, e⟩, c⟩ := wksTo_mem h; exact ⟨⟨i, by omega, e⟩, c⟩
    · obtain ⟨a, c⟩ := wksLeg_mem h; exact ⟨⟨n, Nat.lt_succ_self _, a⟩, c⟩
theorem Tryz.infoWork : (Tryz.prog.info? 175).map (fun i => (i.zero, i.size, i.bytes)) = some (some (.agg #[.int .i64 0, .int .i64 0, .bool false, .int .i64 0, .int .i64 0, .int .i64 0, .int .i64 0, .int .i64 0, .bool false, .int .i64 0]), 10, 80) := by kernel_rfl
/-- An own row of works. -/
def OwnWk (w : World) (base : Nat) (v : Value) (l : List Wk) : Prop := w.ownsRow base 175 10 v l.length (wkRow l)
theorem OwnWk.nil (w : World) (base : Nat) : OwnWk w base (.slice none 0 0) [] := World.ownsRow_nil _ _ _ _
/-- Which operations free what their booking had. -/
def FreesK (k : Int) : Prop := k = 5 ∨ k = 6 ∨ k = 8
instance (k : Int) : Decidable (FreesK k) := by unfold FreesK; exact inferInstance

/-- The works of an operation without a fault; m the place of the booking that it names. -/
def worksOf (x : Off) (bys : Int) (y : OpD) (m : Nat) : List Wk :=
  (if FreesK y.kind then wksTo true (x.bk m).who ⟨(x.bk m).pe, (x.bk m).len, (x.bk m).hei, (x.bk m).cl, (x.bk m).all, (x.bk m).be⟩ (x.bk m).lg (x.bk m).lgn else []) ++ (if HasLegs y.kind then wksTo false bys ⟨y.pe, y.len, y.hei, y.cl, y.all, y.be⟩ y.lg y.lgn else [])

set_option maxHeartbeats 25600000 in
set_option maxRecDepth 100000 in
theorem l7Works_any (asa ald abk alg : Option Addr) (N M R csa cld cbk clg m : Nat) (x : Off) (y : OpD) (bys : Int) (w : World) (hR : R ≤ 1048576) (hsb : BooksShort R x.bk 1048576) (hl : y.lgn ≤ 1048576) (hbk : BooksAt w abk R x.bk) (hlg : IntsAt w alg y.lgn y.lg) (hm : FreesK y.kind → y.name = (m : Int) + 1 ∧ m < R) :
    Calls Tryz.prog 121 #[.agg #[.slice asa N csa, .slice ald M cld, .slice abk R cbk], .int .i64 bys, .agg #[.int .i64 y.kind, .string y.own, .int .i64 y.name, .slice alg y.lgn clg, .int .i64 y.pe, .int .i64 y.len, .int .i64 y.hei, .int .i64 y.cl, .bool y.all, .int .i64 y.be, .int .i64 y.unt, .int .i64 y.now]] w fun e w' => ∃ v, e = .returned v ∧ OwnWk w' w.heap.size v (worksOf x bys y m) ∧ Below w.heap.size w w' := by
  obtain ⟨k0, ki, kz0, kz1, kz2⟩ := info_parts Tryz.infoWork
  have HBK : Hid (BooksAt w abk R x.bk) := hbk
  have HSB : Hid (BooksShort R x.bk 1048576) := hsb
  have HLW : Hid (IntsAt w alg y.lgn y.lg) := hlg
  clear hbk hsb hlg
  have hb0 : Below w.heap.size w ((w.alloc (.cells #[.slice asa N csa, .slice ald M cld, .slice abk R cbk] 66)).alloc (.cells #[.int .i64 y.kind, .string y.own, .int .i64 y.name, .slice alg y.lgn clg, .int .i64 y.pe, .int .i64 y.len, .int .i64 y.hei, .int .i64 y.cl, .bool y.all, .int .i64 y.be, .int .i64 y.unt, .int .i64 y.now] 27)) := push (push (Below.refl _ _) _) _
  have bF : ((w.alloc (.cells #[.slice asa N csa, .slice ald M cld, .slice abk R cbk] 66)).alloc (.cells #[.int .i64 y.kind, .string y.own, .int .i64 y.name, .slice alg y.lgn clg, .int .i64 y.pe, .int .i64 y.len, .int .i64 y.hei, .int .i64 y.cl, .bool y.all, .int .i64 y.be, .int .i64 y.unt, .int .i64 y.now] 27)).heap[w.heap.size]? = some (.cells #[.slice asa N csa, .slice ald M cld, .slice abk R cbk] 66 (0, 0)) := blk_alloc (heap_alloc_new w _) _
  have bO : ((w.alloc (.cells #[.slice asa N csa, .slice ald M cld, .slice abk R cbk] 66)).alloc (.cells #[.int .i64 y.kind, .string y.own, .int .i64 y.name, .slice alg y.lgn clg, .int .i64 y.pe, .int .i64 y.len, .int .i64 y.hei, .int .i64 y.cl, .bool y.all, .int .i64 y.be, .int .i64 y.unt, .int .i64 y.now] 27)).heap[w.heap.size + 1]? = some (.cells #[.int .i64 y.kind, .string y.own, .int .i64 y.name, .slice alg y.lgn clg, .int .i64 y.pe, .int .i64 y.len, .int .i64 y.hei, .int .i64 y.cl, .bool y.all, .int .i64 y.be, .int .i64 y.unt, .int .i64 y.now] 27 (0, 0)) := by simpa using heap_alloc_new (w.alloc (.cells #[.slice asa N csa, .slice ald M cld, .slice abk R cbk] 66)) _
  obtain ⟨oo, hoo⟩ : ∃ oo : Party, oo = ⟨y.pe, y.len, y.hei, y.cl, y.all, y.be⟩ := ⟨_, rfl⟩
  have HOO : Hid (oo = ⟨y.pe, y.len, y.hei, y.cl, y.all, y.be⟩) := hoo
  by_cases hF : FreesK y.kind
  · obtain ⟨hnm, hmR⟩ := hm hF
    obtain ⟨Cc, hrc, his⟩ := HBK.out
    obtain ⟨gb, off, habk, hc⟩ := hrc m hmR
    have HABK : Hid (abk = some ⟨gb, off, none⟩) := habk
    clear habk
    obtain ⟨blg, blc, hCt, g1, s1⟩ := his m hmR
    have hsh := HSB.out m hmR
    obtain ⟨b, hbd⟩ : ∃ b, b = x.bk m := ⟨_, rfl⟩
    rw [← hbd] at hCt g1 s1 hsh
    obtain ⟨pp, hpp⟩ : ∃ pp : Party, pp = ⟨b.pe, b.len, b.hei, b.cl, b.all, b.be⟩ := ⟨_, rfl⟩
    have HWK : Hid ((HasLegs y.kind → worksOf x bys y m = wksTo true b.who pp b.lg b.lgn ++ wksTo false bys oo y.lg y.lgn) ∧ (¬ HasLegs y.kind → worksOf x bys y m = wksTo true b.who pp b.lg b.lgn)) := by
      constructor
      · intro h; unfold worksOf; rw [if_pos hF, if_pos h, hpp, hbd, HOO.out]
      · intro h; unfold worksOf; rw [if_pos hF, if_neg h, hpp, hbd, List.append_nil]
    have hlb : b.lgn ≤ 1048576 := hsh.2
    have HL0 : Hid ((wksTo true b.who pp b.lg b.lgn).length ≤ 3145728) := by have h := wksTo_len true b.who pp b.lg b.lgn; show _ ≤ 3145728; omega
    rw [hCt] at hc
    have hgb := World.block_lt_of_cell? w _ (hc 0 (by decide))
    have HLBW : Hid (IntsAt w blg b.lgn b.lg) := g1
    have HBD : Hid (b = x.bk m) := hbd
    have hk : (y.kind == 5) = true ∨ ((y.kind == 5) = false ∧ (y.kind == 6) = true) ∨ ((y.kind == 5) = false ∧ (y.kind == 6) = false ∧ (y.kind == 8) = true) := by
      unfold FreesK at hF
      rcases hF with h | h | h <;> rw [h] <;> decide
    rw [hnm] at bO hb0 bF ⊢
    go_enter Tryz.func121, Tryz.ntmps121
    go_upto_region 2 with fail
    generalize (w.alloc (.cells #[.slice asa N csa, .slice ald M cld, .slice abk R cbk] 66)).alloc (.cells #[.int .i64 y.kind, .string y.own, .int .i64 ((m : Int) + 1), .slice alg y.lgn clg, .int .i64 y.pe, .int .i64 y.len, .int .i64 y.hei, .int .i64 y.cl, .bool y.all, .int .i64 y.be, .int .i64 y.unt, .int .i64 y.now] 27) = V at hb0 bF bO ⊢
    have f2 := blk_cell bF 2 _ rfl
    rw [HABK.out] at f2
    have o0 := blk_cell bO 0 _ rfl
    have o2 := blk_cell bO 2 _ rfl
    have c0 : V.cell? ⟨gb, off + m * 13, none⟩ = some (.int .i64 b.name) := (hb0.cell (p := ⟨gb, off + m * 13, none⟩) hgb).trans (hc 0 (by decide))
    have c1 : V.cell? ⟨gb, off + m * 13 + 1, none⟩ = some (.int .i64 b.who) := (hb0.cell (p := ⟨gb, off + m * 13 + 1, none⟩) hgb).trans (hc 1 (by decide))
    have c2 : V.cell? ⟨gb, off + m * 13 + 2, none⟩ = some (.string b.own) := (hb0.cell (p := ⟨gb, off + m * 13 + 2, none⟩) hgb).trans (hc 2 (by decide))
    have c3 : V.cell? ⟨gb, off + m * 13 + 3, none⟩ = some (.slice blg b.lgn blc) := (hb0.cell (p := ⟨gb, off + m * 13 + 3, none⟩) hgb).trans (hc 3 (by decide))
    have c4 : V.cell? ⟨gb, off + m * 13 + 4, none⟩ = some (.int .i64 b.pe) := (hb0.cell (p := ⟨gb, off + m * 13 + 4, none⟩) hgb).trans (hc 4 (by decide))
    have c5 : V.cell? ⟨gb, off + m * 13 + 5, none⟩ = some (.int .i64 b.len) := (hb0.cell (p := ⟨gb, off + m * 13 + 5, none⟩) hgb).trans (hc 5 (by decide))
    have c6 : V.cell? ⟨gb, off + m * 13 + 6, none⟩ = some (.int .i64 b.hei) := (hb0.cell (p := ⟨gb, off + m * 13 + 6, none⟩) hgb).trans (hc 6 (by decide))
    have c7 : V.cell? ⟨gb, off + m * 13 + 7, none⟩ = some (.int .i64 b.cl) := (hb0.cell (p := ⟨gb, off + m * 13 + 7, none⟩) hgb).trans (hc 7 (by decide))
    have c8 : V.cell? ⟨gb, off + m * 13 + 8, none⟩ = some (.bool b.all) := (hb0.cell (p := ⟨gb, off + m * 13 + 8, none⟩) hgb).trans (hc 8 (by decide))
    have c9 : V.cell? ⟨gb, off + m * 13 + 9, none⟩ = some (.int .i64 b.be) := (hb0.cell (p := ⟨gb, off + m * 13 + 9, none⟩) hgb).trans (hc 9 (by decide))
    have c10 : V.cell? ⟨gb, off + m * 13 + 10, none⟩ = some (.int .i64 b.state) := (hb0.cell (p := ⟨gb, off + m * 13 + 10, none⟩) hgb).trans (hc 10 (by decide))
    have c11 : V.cell? ⟨gb, off + m * 13 + 11, none⟩ = some (.int .i64 b.unt) := (hb0.cell (p := ⟨gb, off + m * 13 + 11, none⟩) hgb).trans (hc 11 (by decide))
    have c12 : V.cell? ⟨gb, off + m * 13 + 12, none⟩ = some (.int .i64 b.price) := (hb0.cell (p := ⟨gb, off + m * 13 + 12, none⟩) hgb).trans (hc 12 (by decide))
    have i0 : (0 : Int) ≤ (m : Int) := by omega
    have i1 : (m : Int) < (R : Int) := by omega
    have hwm : IntKind.i64.wrap ((m : Int) + 1 - 1) = (m : Int) := by rw [IntKind.wrap_i64]; omega
    have bX := heap_alloc_new V (.cells #[.int .i64 b.name, .int .i64 b.who, .string b.own, .slice blg b.lgn blc, .int .i64 b.pe, .int .i64 b.len, .int .i64 b.hei, .int .i64 b.cl, .bool b.all, .int .i64 b.be, .int .i64 b.state, .int .i64 b.unt, .int .i64 b.price] 131)
    have pX : Below V.heap.size V (V.alloc (.cells #[.int .i64 b.name, .int .i64 b.who, .string b.own, .slice blg b.lgn blc, .int .i64 b.pe, .int .i64 b.len, .int .i64 b.hei, .int .i64 b.cl, .bool b.all, .int .i64 b.be, .int .i64 b.state, .int .i64 b.unt, .int .i64 b.price] 131)) := push (Below.refl _ _) _
    clear hc hCt g1 s1 hsh hrc his hbd
    go_cut [27] (fun v wx => v = .bool true ∧ wx = V)
    case first =>
      rcases hk with h | ⟨h, h6⟩ | ⟨h, h6, h8⟩
      all_goals
        go_wp2
        go_meet
        exact ⟨rfl, rfl⟩
    case rest =>
    obtain ⟨rfl, hwx⟩ := hcut
    have hwx := hwx.symm
    subst hwx
    clear hk o0
    have HBO : Hid (V.heap[w.heap.size + 1]? = _) := bO
    go_upto_region 4 with fail
    have BO : Hid ((V.alloc (.cells #[.int .i64 b.name, .int .i64 b.who, .string b.own, .slice blg b.lgn blc, .int .i64 b.pe, .int .i64 b.len, .int .i64 b.hei, .int .i64 b.cl, .bool b.all, .int .i64 b.be, .int .i64 b.state, .int .i64 b.unt, .int .i64 b.price] 131)).heap[w.heap.size + 1]? = some (.cells #[.int .i64 y.kind, .string y.own, .int .i64 y.name, .slice alg y.lgn clg, .int .i64 oo.pe, .int .i64 oo.len, .int .i64 oo.hei, .int .i64 oo.cl, .bool oo.all, .int .i64 oo.be, .int .i64 y.unt, .int .i64 y.now] 27 (0, 0))) := by rw [HOO.out, hnm]; exact blk_alloc bO _
    have BX : Hid ((V.alloc (.cells #[.int .i64 b.name, .int .i64 b.who, .string b.own, .slice blg b.lgn blc, .int .i64 b.pe, .int .i64 b.len, .int .i64 b.hei, .int .i64 b.cl, .bool b.all, .int .i64 b.be, .int .i64 b.state, .int .i64 b.unt, .int .i64 b.price] 131)).heap[V.heap.size]? = some (.cells #[.int .i64 b.name, .int .i64 b.who, .string b.own, .slice blg b.lgn blc, .int .i64 pp.pe, .int .i64 pp.len, .int .i64 pp.hei, .int .i64 pp.cl, .bool pp.all, .int .i64 pp.be, .int .i64 b.state, .int .i64 b.unt, .int .i64 b.price] 131 (0, 0))) := by rw [hpp]; exact bX
    have HBW0 : Hid (Below w.heap.size w (V.alloc (.cells #[.int .i64 b.name, .int .i64 b.who, .string b.own, .slice blg b.lgn blc, .int .i64 b.pe, .int .i64 b.len, .int .i64 b.hei, .int .i64 b.cl, .bool b.all, .int .i64 b.be, .int .i64 b.state, .int .i64 b.unt, .int .i64 b.price] 131))) := after hb0 pX
    generalize V.heap.size = xb at BX bX ⊢
    generalize V.alloc (.cells #[.int .i64 b.name, .int .i64 b.who, .string b.own, .slice blg b.lgn blc, .int .i64 b.pe, .int .i64 b.len, .int .i64 b.hei, .int .i64 b.cl, .bool b.all, .int .i64 b.be, .int .i64 b.state, .int .i64 b.unt, .int .i64 b.price] 131) = W at bX pX BO BX HBW0 ⊢
    clear c0 c1 c2 c3 c4 c5 c6 c7 c8 c9 c10 c11 c12 f2 o2 bO bF hb0 pX HBO i0 i1 hwm
    have x3 := blk_cell bX 3 _ rfl
    have HLG : Hid (IntsAt W blg b.lgn b.lg) := HLBW.out.below HBW0.out
    have HLO : Hid (IntsAt W alg y.lgn y.lg) := HLW.out.below HBW0.out
    have HOW0 : Hid (OwnWk W W.heap.size (.slice none 0 0) []) := OwnWk.nil _ _
    have HB0 : Hid (Below W.heap.size W W) := Below.refl _ _
    have hL0 : ([] : List Wk).length ≤ 3145728 := Nat.zero_le _
    have hbase : W.heap.size ≤ W.heap.size := Nat.le_refl _
    clear bX hoo hpp
    go_wp2
    clear x3
    go_loopw [7, 10, 11, 38] (fun v _ _ i wr => ∃ k : Nat, k ≤ b.lgn ∧ i = .int .i64 k ∧ Hid (OwnWk wr W.heap.size v ([] ++ wksTo true b.who pp b.lg k)) ∧ Hid (Below W.heap.size W wr)) (fun _ _ _ i _ => b.lgn - (intOf i).toNat)
    case atStart => exact ⟨0, Nat.zero_le _, rfl, (by show OwnWk _ _ _ ([] ++ []); rw [List.append_nil]; exact HOW0.out), HB0.out⟩
    case round =>
      clear HOW0 HB0
      obtain ⟨k, hk, rfl, HOW, HBW⟩ := hrel
      by_cases hlt : k < b.lgn
      · obtain ⟨gb, go, hga, hgc⟩ := HLG.out k hlt
        subst hga
        have hc : wr.cell? ⟨gb, go + k, none⟩ = some (.int .i64 (b.lg k)) := (HBW.out.cell (p := ⟨gb, go + k, none⟩) (World.block_lt_of_cell? W _ hgc)).trans hgc
        obtain ⟨leg, hleg⟩ : ∃ leg, leg = b.lg k := ⟨_, rfl⟩
        rw [← hleg] at hc
        have HLEG : Hid (leg = b.lg k) := hleg
        have hll : ([] ++ wksTo true b.who pp b.lg k).length ≤ 3145728 + 3 * k := by have h1 := wksTo_len true b.who pp b.lg k; have h2 := hL0; rw [List.length_append]; omega
        obtain ⟨P, hP⟩ : ∃ P, P = [] ++ wksTo true b.who pp b.lg k := ⟨_, rfl⟩
        rw [← hP] at hll
        have HP : Hid (P = [] ++ wksTo true b.who pp b.lg k) := hP
        have HOP : Hid (OwnWk wr W.heap.size u7 P) := by rw [hP]; exact HOW.out
        clear hleg hP HOW hgc
        go_wp2
        clear hc
        obtain ⟨wo, hwo⟩ : ∃ z, z = wr := ⟨_, rfl⟩
        subst hwo
        go_loopw [7, 11] (fun v r wr => ∃ j : Nat, j ≤ 3 ∧ r = .int .i64 j ∧ Hid (OwnWk wr W.heap.size v (P ++ wksLeg true b.who pp leg j)) ∧ Hid (Below W.heap.size W wr)) (fun _ r _ => 3 - (intOf r).toNat)
        case atStart => exact ⟨0, Nat.zero_le _, rfl, (by show OwnWk _ _ _ (P ++ []); rw [List.append_nil]; exact HOP.out), HBW.out⟩
        case round =>
          clear HOP HBW
          obtain ⟨j, hj, rfl, HOJ, HBJ⟩ := hrel
          by_cases hj3 : j < 3
          · have bx := blk_below BX.out HBJ.out
            have y1 := blk_cell bx 1 _ rfl
            have y4 := blk_cell bx 4 _ rfl
            have y5 := blk_cell bx 5 _ rfl
            have y6 := blk_cell bx 6 _ rfl
            have y7 := blk_cell bx 7 _ rfl
            have y8 := blk_cell bx 8 _ rfl
            have y9 := blk_cell bx 9 _ rfl
            have hjl := wksLeg_len true b.who pp leg j
            obtain ⟨Q, hQ⟩ : ∃ Q, Q = P ++ wksLeg true b.who pp leg j := ⟨_, rfl⟩
            have hql : Q.length ≤ 3145731 + 3 * k := by rw [hQ, List.length_append]; omega
            rw [← hQ] at HOJ
            have HQ : Hid (Q = P ++ wksLeg true b.who pp leg j) := hQ
            clear hQ hjl
            have cu := l7Uses_any pp.pe pp.len pp.hei pp.cl pp.be pp.all j wr hj3
            obtain ⟨ub, hub⟩ : ∃ ub, ub = usesP pp.len pp.cl j := ⟨_, rfl⟩
            rw [← hub] at cu
            have HUB : Hid (usesP pp.len pp.cl j = ub) := hub.symm
            clear hub
            go_wp2_with fail
            refine cu.mono ?_
            clear cu
            rintro e w4 ⟨rfl, hb4⟩
            have HO4 : Hid (OwnWk w4 W.heap.size u7 Q) := own_below hb4 HOJ.out
            have HB4 : Hid (Below W.heap.size W w4) := after HBJ.out hb4
            clear HOJ HBJ hb4 y1 y4 y5 y6 y7 y8 y9 bx
            cases ub with
            | false =>
              have HF : Hid (OwnWk w4 W.heap.size u7 (P ++ wksLeg true b.who pp leg (j + 1))) := by
                have e : wksLeg true b.who pp leg (j + 1) = wksLeg true b.who pp leg j := by rw [wksLeg, if_neg (by rw [HUB.out]; decide)]
                rw [e, ← HQ.out]; exact HO4.out
              go_wp2
              go_roundw
              case rel => exact ⟨j + 1, by omega, by go_num, HF.out, HB4.out⟩
              case measure => simp [intOf]; omega
            | true =>
              have bx := blk_below BX.out HB4.out
              have y1 := blk_cell bx 1 _ rfl
              have y4 := blk_cell bx 4 _ rfl
              have y5 := blk_cell bx 5 _ rfl
              have y6 := blk_cell bx 6 _ rfl
              have y7 := blk_cell bx 7 _ rfl
              have y8 := blk_cell bx 8 _ rfl
              have y9 := blk_cell bx 9 _ rfl
              obtain ⟨qa, qc, hqv, _⟩ := own_form HO4.out
              have hqv : u7 = .slice qa Q.length qc := hqv
              subst hqv
              have HO5 : Hid (OwnWk (w4.alloc (.cells #[.int .i64 leg, .int .i64 (j : Int), .bool true, .int .i64 b.who, .int .i64 pp.pe, .int .i64 pp.len, .int .i64 pp.hei, .int .i64 pp.cl, .bool pp.all, .int .i64 pp.be] 175)) W.heap.size (.slice qa Q.length qc) Q) := own_below (push (Below.refl _ _) _) HO4.out
              have HB5 : Hid (Below W.heap.size W (w4.alloc (.cells #[.int .i64 leg, .int .i64 (j : Int), .bool true, .int .i64 b.who, .int .i64 pp.pe, .int .i64 pp.len, .int .i64 pp.hei, .int .i64 pp.cl, .bool pp.all, .int .i64 pp.be] 175))) := push HB4.out _
              have hsz : W.heap.size ≤ (w4.alloc (.cells #[.int .i64 leg, .int .i64 (j : Int), .bool true, .int .i64 b.who, .int .i64 pp.pe, .int .i64 pp.len, .int .i64 pp.hei, .int .i64 pp.cl, .bool pp.all, .int .i64 pp.be] 175)).heap.size := Nat.le_trans hbase HB5.out.size
              have HNW : Hid (∀ m u, ([.int .i64 leg, .int .i64 (j : Int), .bool true, .int .i64 b.who, .int .i64 pp.pe, .int .i64 pp.len, .int .i64 pp.hei, .int .i64 pp.cl, .bool pp.all, .int .i64 pp.be] : List Value)[m]? = some u → (w4.alloc (.cells #[.int .i64 leg, .int .i64 (j : Int), .bool true, .int .i64 b.who, .int .i64 pp.pe, .int .i64 pp.len, .int .i64 pp.hei, .int .i64 pp.cl, .bool pp.all, .int .i64 pp.be] 175)).cell? ((⟨w4.heap.size, 0, none⟩ : Addr).add m) = some u) := World.news_of_block (heap_alloc_new w4 _)
              clear HO4 bx
              go_wp2_with (first | (at_builtin; refine wpList_append_any _ (by rfl) (.tmp 50) (.tmp 58) 172 (by rfl) W.heap.size 175 k0 (.agg #[.int .i64 0, .int .i64 0, .bool false, .int .i64 0, .int .i64 0, .int .i64 0, .int .i64 0, .int .i64 0, .bool false, .int .i64 0]) 10 80 Tryz.underlying172 ki kz0 kz1 kz2 rfl (by decide) _ Q.length (wkRow Q) (by rfl) HO5.out (some ⟨w4.heap.size, 0, none⟩) 1 1 [.int .i64 leg, .int .i64 (j : Int), .bool true, .int .i64 b.who, .int .i64 pp.pe, .int .i64 pp.len, .int .i64 pp.hei, .int .i64 pp.cl, .bool pp.all, .int .i64 pp.be] (by rfl) (fun h => (by cases h)) (by rfl) (fun ad e => by cases e; exact HNW.out) (by intro u hu; simp at hu; rcases hu with rfl | rfl | rfl | rfl | rfl | rfl | rfl | rfl | rfl | rfl <;> rfl) (by unfold maxLen; omega) (by omega) hsz ?_; intro v9 w9 ho9 hg9))
              have HF : Hid (OwnWk w9 W.heap.size v9 (P ++ wksLeg true b.who pp leg (j + 1))) := by
                have e : P ++ wksLeg true b.who pp leg (j + 1) = Q ++ [⟨leg, j, true, b.who, pp⟩] := by rw [HQ.out, List.append_assoc]; congr 1; rw [wksLeg, if_pos HUB.out]
                show w9.ownsRow _ _ 10 v9 _ _
                rw [e, wkRow_snoc, List.length_append]
                exact ho9
              have HBF : Hid (Below W.heap.size W w9) := HB5.out.grown hg9 HB5.out.size (fun b hb => by have := (HO5.out.lt b hb).1; omega)
              clear y1 y4 y5 y6 y7 y8 y9 ho9 hg9 HO5 HB5 HNW
              go_wp2
              go_roundw
              case rel => exact ⟨j + 1, by omega, by go_num, HF.out, HBF.out⟩
              case measure => simp [intOf]; omega
          · obtain rfl : j = 3 := by omega
            have HF : Hid (OwnWk wr W.heap.size u7 ([] ++ wksTo true b.who pp b.lg (k + 1))) := by
              have e : [] ++ wksTo true b.who pp b.lg (k + 1) = P ++ wksLeg true b.who pp leg 3 := by rw [HP.out, HLEG.out, List.append_assoc]; rfl
              rw [e]; exact HOJ.out
            go_wp2
            go_roundw
            case rel => exact ⟨k + 1, by omega, by go_num, HF.out, HBJ.out⟩
            case measure => simp [intOf]; omega
      · obtain rfl : k = b.lgn := by omega
        have HOW1 : Hid (OwnWk wr W.heap.size _ (wksTo true b.who pp b.lg b.lgn)) := HOW
        have HB1 : Hid (Below W.heap.size W wr) := HBW
        clear HOW HBW hlt hk
        by_cases hL : HasLegs y.kind
        · have dL : decide (HasLegs y.kind) = true := decide_eq_true hL
          have HFIN : Hid (∀ (z : World) (v : Value), OwnWk z W.heap.size v ((wksTo true b.who pp b.lg b.lgn) ++ wksTo false bys oo y.lg y.lgn) → Below W.heap.size W z → OwnWk z w.heap.size v (worksOf x bys y m)) := fun z v h _ => by
            have e : worksOf x bys y m = (wksTo true b.who pp b.lg b.lgn) ++ wksTo false bys oo y.lg y.lgn := HWK.out.1 hL
            rw [e]; exact own_base h HBW0.out.size
          have bo0 := blk_below BO.out HB1.out
          have o0 := blk_cell bo0 0 _ rfl
          have o3 := blk_cell bo0 3 _ rfl
          go_wp2_with (first | (go_at_call 44; refine (l7Legs_is _ _).mono ?_; rintro e w' ⟨rfl, hw'⟩; have hw' := hw'.symm; subst hw'))
          clear o0 o3 bo0 hL dL
          have BX : Hid _ := BO
          have HLG : Hid (IntsAt W alg y.lgn y.lg) := HLO
          have HOW0 : Hid (OwnWk wr W.heap.size _ (wksTo true b.who pp b.lg b.lgn)) := HOW1
          have HB0 : Hid (Below W.heap.size W wr) := HB1
          have hL0 : ((wksTo true b.who pp b.lg b.lgn)).length ≤ 3145728 := HL0.out
          clear HOW1 HB1
          go_loopw [7, 13, 14, 67] (fun v _ _ i wr => ∃ k : Nat, k ≤ y.lgn ∧ i = .int .i64 k ∧ Hid (OwnWk wr W.heap.size v ((wksTo true b.who pp b.lg b.lgn) ++ wksTo false bys oo y.lg k)) ∧ Hid (Below W.heap.size W wr)) (fun _ _ _ i _ => y.lgn - (intOf i).toNat)
          case atStart => exact ⟨0, Nat.zero_le _, rfl, (by show OwnWk _ _ _ ((wksTo true b.who pp b.lg b.lgn) ++ []); rw [List.append_nil]; exact HOW0.out), HB0.out⟩
          case round =>
            clear HOW0 HB0
            obtain ⟨k, hk, rfl, HOW, HBW⟩ := hrel
            by_cases hlt : k < y.lgn
            · obtain ⟨gb, go, hga, hgc⟩ := HLG.out k hlt
              subst hga
              have hc : wr.cell? ⟨gb, go + k, none⟩ = some (.int .i64 (y.lg k)) := (HBW.out.cell (p := ⟨gb, go + k, none⟩) (World.block_lt_of_cell? W _ hgc)).trans hgc
              obtain ⟨leg, hleg⟩ : ∃ leg, leg = y.lg k := ⟨_, rfl⟩
              rw [← hleg] at hc
              have HLEG : Hid (leg = y.lg k) := hleg
              have hll : ((wksTo true b.who pp b.lg b.lgn) ++ wksTo false bys oo y.lg k).length ≤ 3145728 + 3 * k := by have h1 := wksTo_len false bys oo y.lg k; have h2 := hL0; rw [List.length_append]; omega
              obtain ⟨P, hP⟩ : ∃ P, P = (wksTo true b.who pp b.lg b.lgn) ++ wksTo false bys oo y.lg k := ⟨_, rfl⟩
              rw [← hP] at hll
              have HP : Hid (P = (wksTo true b.who pp b.lg b.lgn) ++ wksTo false bys oo y.lg k) := hP
              have HOP : Hid (OwnWk wr W.heap.size u7 P) := by rw [hP]; exact HOW.out
              clear hleg hP HOW hgc
              go_wp2
              clear hc
              obtain ⟨wo, hwo⟩ : ∃ z, z = wr := ⟨_, rfl⟩
              subst hwo
              go_loopw [7, 14] (fun v r wr => ∃ j : Nat, j ≤ 3 ∧ r = .int .i64 j ∧ Hid (OwnWk wr W.heap.size v (P ++ wksLeg false bys oo leg j)) ∧ Hid (Below W.heap.size W wr)) (fun _ r _ => 3 - (intOf r).toNat)
              case atStart => exact ⟨0, Nat.zero_le _, rfl, (by show OwnWk _ _ _ (P ++ []); rw [List.append_nil]; exact HOP.out), HBW.out⟩
              case round =>
                clear HOP HBW
                obtain ⟨j, hj, rfl, HOJ, HBJ⟩ := hrel
                by_cases hj3 : j < 3
                · have bx := blk_below BX.out HBJ.out
                  have y4 := blk_cell bx 4 _ rfl
                  have y5 := blk_cell bx 5 _ rfl
                  have y6 := blk_cell bx 6 _ rfl
                  have y7 := blk_cell bx 7 _ rfl
                  have y8 := blk_cell bx 8 _ rfl
                  have y9 := blk_cell bx 9 _ rfl
                  have hjl := wksLeg_len false bys oo leg j
                  obtain ⟨Q, hQ⟩ : ∃ Q, Q = P ++ wksLeg false bys oo leg j := ⟨_, rfl⟩
                  have hql : Q.length ≤ 3145731 + 3 * k := by rw [hQ, List.length_append]; omega
                  rw [← hQ] at HOJ
                  have HQ : Hid (Q = P ++ wksLeg false bys oo leg j) := hQ
                  clear hQ hjl
                  have cu := l7Uses_any oo.pe oo.len oo.hei oo.cl oo.be oo.all j wr hj3
                  obtain ⟨ub, hub⟩ : ∃ ub, ub = usesP oo.len oo.cl j := ⟨_, rfl⟩
                  rw [← hub] at cu
                  have HUB : Hid (usesP oo.len oo.cl j = ub) := hub.symm
                  clear hub
                  go_wp2_with fail
                  refine cu.mono ?_
                  clear cu
                  rintro e w4 ⟨rfl, hb4⟩
                  have HO4 : Hid (OwnWk w4 W.heap.size u7 Q) := own_below hb4 HOJ.out
                  have HB4 : Hid (Below W.heap.size W w4) := after HBJ.out hb4
                  clear HOJ HBJ hb4 y4 y5 y6 y7 y8 y9 bx
                  cases ub with
                  | false =>
                    have HF : Hid (OwnWk w4 W.heap.size u7 (P ++ wksLeg false bys oo leg (j + 1))) := by
                      have e : wksLeg false bys oo leg (j + 1) = wksLeg false bys oo leg j := by rw [wksLeg, if_neg (by rw [HUB.out]; decide)]
                      rw [e, ← HQ.out]; exact HO4.out
                    go_wp2
                    go_roundw
                    case rel => exact ⟨j + 1, by omega, by go_num, HF.out, HB4.out⟩
                    case measure => simp [intOf]; omega
                  | true =>
                    have bx := blk_below BX.out HB4.out
                    have y4 := blk_cell bx 4 _ rfl
                    have y5 := blk_cell bx 5 _ rfl
                    have y6 := blk_cell bx 6 _ rfl
                    have y7 := blk_cell bx 7 _ rfl
                    have y8 := blk_cell bx 8 _ rfl
                    have y9 := blk_cell bx 9 _ rfl
                    obtain ⟨qa, qc, hqv, _⟩ := own_form HO4.out
                    have hqv : u7 = .slice qa Q.length qc := hqv
                    subst hqv
                    have HO5 : Hid (OwnWk (w4.alloc (.cells #[.int .i64 leg, .int .i64 (j : Int), .bool false, .int .i64 bys, .int .i64 oo.pe, .int .i64 oo.len, .int .i64 oo.hei, .int .i64 oo.cl, .bool oo.all, .int .i64 oo.be] 175)) W.heap.size (.slice qa Q.length qc) Q) := own_below (push (Below.refl _ _) _) HO4.out
                    have HB5 : Hid (Below W.heap.size W (w4.alloc (.cells #[.int .i64 leg, .int .i64 (j : Int), .bool false, .int .i64 bys, .int .i64 oo.pe, .int .i64 oo.len, .int .i64 oo.hei, .int .i64 oo.cl, .bool oo.all, .int .i64 oo.be] 175))) := push HB4.out _
                    have hsz : W.heap.size ≤ (w4.alloc (.cells #[.int .i64 leg, .int .i64 (j : Int), .bool false, .int .i64 bys, .int .i64 oo.pe, .int .i64 oo.len, .int .i64 oo.hei, .int .i64 oo.cl, .bool oo.all, .int .i64 oo.be] 175)).heap.size := Nat.le_trans hbase HB5.out.size
                    have HNW : Hid (∀ m u, ([.int .i64 leg, .int .i64 (j : Int), .bool false, .int .i64 bys, .int .i64 oo.pe, .int .i64 oo.len, .int .i64 oo.hei, .int .i64 oo.cl, .bool oo.all, .int .i64 oo.be] : List Value)[m]? = some u → (w4.alloc (.cells #[.int .i64 leg, .int .i64 (j : Int), .bool false, .int .i64 bys, .int .i64 oo.pe, .int .i64 oo.len, .int .i64 oo.hei, .int .i64 oo.cl, .bool oo.all, .int .i64 oo.be] 175)).cell? ((⟨w4.heap.size, 0, none⟩ : Addr).add m) = some u) := World.news_of_block (heap_alloc_new w4 _)
                    clear HO4 bx
                    go_wp2_with (first | (at_builtin; refine wpList_append_any _ (by rfl) (.tmp 79) (.tmp 86) 172 (by rfl) W.heap.size 175 k0 (.agg #[.int .i64 0, .int .i64 0, .bool false, .int .i64 0, .int .i64 0, .int .i64 0, .int .i64 0, .int .i64 0, .bool false, .int .i64 0]) 10 80 Tryz.underlying172 ki kz0 kz1 kz2 rfl (by decide) _ Q.length (wkRow Q) (by rfl) HO5.out (some ⟨w4.heap.size, 0, none⟩) 1 1 [.int .i64 leg, .int .i64 (j : Int), .bool false, .int .i64 bys, .int .i64 oo.pe, .int .i64 oo.len, .int .i64 oo.hei, .int .i64 oo.cl, .bool oo.all, .int .i64 oo.be] (by rfl) (fun h => (by cases h)) (by rfl) (fun ad e => by cases e; exact HNW.out) (by intro u hu; simp at hu; rcases hu with rfl | rfl | rfl | rfl | rfl | rfl | rfl | rfl | rfl | rfl <;> rfl) (by unfold maxLen; omega) (by omega) hsz ?_; intro v9 w9 ho9 hg9))
                    have HF : Hid (OwnWk w9 W.heap.size v9 (P ++ wksLeg false bys oo leg (j + 1))) := by
                      have e : P ++ wksLeg false bys oo leg (j + 1) = Q ++ [⟨leg, j, false, bys, oo⟩] := by rw [HQ.out, List.append_assoc]; congr 1; rw [wksLeg, if_pos HUB.out]
                      show w9.ownsRow _ _ 10 v9 _ _
                      rw [e, wkRow_snoc, List.length_append]
                      exact ho9
                    have HBF : Hid (Below W.heap.size W w9) := HB5.out.grown hg9 HB5.out.size (fun b hb => by have := (HO5.out.lt b hb).1; omega)
                    clear y4 y5 y6 y7 y8 y9 ho9 hg9 HO5 HB5 HNW
                    go_wp2
                    go_roundw
                    case rel => exact ⟨j + 1, by omega, by go_num, HF.out, HBF.out⟩
                    case measure => simp [intOf]; omega
                · obtain rfl : j = 3 := by omega
                  have HF : Hid (OwnWk wr W.heap.size u7 ((wksTo true b.who pp b.lg b.lgn) ++ wksTo false bys oo y.lg (k + 1))) := by
                    have e : (wksTo true b.who pp b.lg b.lgn) ++ wksTo false bys oo y.lg (k + 1) = P ++ wksLeg false bys oo leg 3 := by rw [HP.out, HLEG.out, List.append_assoc]; rfl
                    rw [e]; exact HOJ.out
                  go_wp2
                  go_roundw
                  case rel => exact ⟨k + 1, by omega, by go_num, HF.out, HBJ.out⟩
                  case measure => simp [intOf]; omega
            · obtain rfl : k = y.lgn := by omega
              have HFO : Hid (OwnWk _ w.heap.size _ (worksOf x bys y m)) := HFIN.out _ _ HOW.out HBW.out
              have HFB : Hid (Below w.heap.size w _) := after HBW0.out HBW.out
              go_wp2
              go_ret
              exact ⟨_, rfl, HFO.out, HFB.out⟩
        · have dL : decide (HasLegs y.kind) = false := decide_eq_false hL
          have HFO : Hid (OwnWk wr w.heap.size u7 (worksOf x bys y m)) := by
            have e : worksOf x bys y m = (wksTo true b.who pp b.lg b.lgn) := HWK.out.2 hL
            rw [e]; exact own_base HOW1.out HBW0.out.size
          have HFB : Hid (Below w.heap.size w wr) := after HBW0.out HB1.out
          have bo0 := blk_below BO.out HB1.out
          have o0 := blk_cell bo0 0 _ rfl
          go_wp2_with (first | (go_at_call 44; refine (l7Legs_is _ _).mono ?_; rintro e w' ⟨rfl, hw'⟩; have hw' := hw'.symm; subst hw'))
          go_ret
          exact ⟨_, rfl, HFO.out, HFB.out⟩
  · have HWK : Hid ((HasLegs y.kind → worksOf x bys y m = ([] : List Wk) ++ wksTo false bys oo y.lg y.lgn) ∧ (¬ HasLegs y.kind → worksOf x bys y m = ([] : List Wk))) := by
      constructor
      · intro h; unfold worksOf; rw [if_neg hF, if_pos h, HOO.out]
      · intro h; unfold worksOf; rw [if_neg hF, if_neg h]; rfl
    have k5 : (y.kind == 5) = false := by rw [beq_eq_false_iff_ne]; intro h; exact hF (.inl h)
    have k6 : (y.kind == 6) = false := by rw [beq_eq_false_iff_ne]; intro h; exact hF (.inr (.inl h))
    have k8 : (y.kind == 8) = false := by rw [beq_eq_false_iff_ne]; intro h; exact hF (.inr (.inr h))
    have HL0 : Hid (([] : List Wk).length ≤ 3145728) := Nat.zero_le _
    go_enter Tryz.func121, Tryz.ntmps121
    go_upto_region 2 with fail
    have BO : Hid (((w.alloc (.cells #[.slice asa N csa, .slice ald M cld, .slice abk R cbk] 66)).alloc (.cells #[.int .i64 y.kind, .string y.own, .int .i64 y.name, .slice alg y.lgn clg, .int .i64 y.pe, .int .i64 y.len, .int .i64 y.hei, .int .i64 y.cl, .bool y.all, .int .i64 y.be, .int .i64 y.unt, .int .i64 y.now] 27)).heap[w.heap.size + 1]? = some (.cells #[.int .i64 y.kind, .string y.own, .int .i64 y.name, .slice alg y.lgn clg, .int .i64 oo.pe, .int .i64 oo.len, .int .i64 oo.hei, .int .i64 oo.cl, .bool oo.all, .int .i64 oo.be, .int .i64 y.unt, .int .i64 y.now] 27 (0, 0))) := by rw [HOO.out]; exact bO
    have HBW0 : Hid (Below w.heap.size w ((w.alloc (.cells #[.slice asa N csa, .slice ald M cld, .slice abk R cbk] 66)).alloc (.cells #[.int .i64 y.kind, .string y.own, .int .i64 y.name, .slice alg y.lgn clg, .int .i64 y.pe, .int .i64 y.len, .int .i64 y.hei, .int .i64 y.cl, .bool y.all, .int .i64 y.be, .int .i64 y.unt, .int .i64 y.now] 27))) := hb0
    generalize (w.alloc (.cells #[.slice asa N csa, .slice ald M cld, .slice abk R cbk] 66)).alloc (.cells #[.int .i64 y.kind, .string y.own, .int .i64 y.name, .slice alg y.lgn clg, .int .i64 y.pe, .int .i64 y.len, .int .i64 y.hei, .int .i64 y.cl, .bool y.all, .int .i64 y.be, .int .i64 y.unt, .int .i64 y.now] 27) = W at hb0 bF bO BO HBW0 ⊢
    have o0' := blk_cell bO 0 _ rfl
    have HLO : Hid (IntsAt W alg y.lgn y.lg) := HLW.out.below HBW0.out
    have HOW1 : Hid (OwnWk W W.heap.size (.slice none 0 0) ([] : List Wk)) := OwnWk.nil _ _
    have HB1 : Hid (Below W.heap.size W W) := Below.refl _ _
    have hbase : W.heap.size ≤ W.heap.size := Nat.le_refl _
    clear bF bO hb0 hF hoo hm
    go_upto_region 13 with fail
    clear o0' k5 k6 k8
    by_cases hL : HasLegs y.kind
    · have dL : decide (HasLegs y.kind) = true := decide_eq_true hL
      have HFIN : Hid (∀ (z : World) (v : Value), OwnWk z W.heap.size v (([] : List Wk) ++ wksTo false bys oo y.lg y.lgn) → Below W.heap.size W z → OwnWk z w.heap.size v (worksOf x bys y m)) := fun z v h _ => by
        have e : worksOf x bys y m = ([] : List Wk) ++ wksTo false bys oo y.lg y.lgn := HWK.out.1 hL
        rw [e]; exact own_base h HBW0.out.size
      have bo0 := blk_below BO.out HB1.out
      have o0 := blk_cell bo0 0 _ rfl
      have o3 := blk_cell bo0 3 _ rfl
      go_wp2_with (first | (go_at_call 44; refine (l7Legs_is _ _).mono ?_; rintro e w' ⟨rfl, hw'⟩; have hw' := hw'.symm; subst hw'))
      clear o0 o3 bo0 hL dL
      have BX : Hid _ := BO
      have HLG : Hid (IntsAt W alg y.lgn y.lg) := HLO
      have HOW0 : Hid (OwnWk W W.heap.size _ ([] : List Wk)) := HOW1
      have HB0 : Hid (Below W.heap.size W W) := HB1
      have hL0 : (([] : List Wk)).length ≤ 3145728 := HL0.out
      clear HOW1 HB1
      go_loopw [7, 13, 14, 67] (fun v _ _ i wr => ∃ k : Nat, k ≤ y.lgn ∧ i = .int .i64 k ∧ Hid (OwnWk wr W.heap.size v (([] : List Wk) ++ wksTo false bys oo y.lg k)) ∧ Hid (Below W.heap.size W wr)) (fun _ _ _ i _ => y.lgn - (intOf i).toNat)
      case atStart => exact ⟨0, Nat.zero_le _, rfl, (by show OwnWk _ _ _ (([] : List Wk) ++ []); rw [List.append_nil]; exact HOW0.out), HB0.out⟩
      case round =>
        clear HOW0 HB0
        obtain ⟨k, hk, rfl, HOW, HBW⟩ := hrel
        by_cases hlt : k < y.lgn
        · obtain ⟨gb, go, hga, hgc⟩ := HLG.out k hlt
          subst hga
          have hc : wr.cell? ⟨gb, go + k, none⟩ = some (.int .i64 (y.lg k)) := (HBW.out.cell (p := ⟨gb, go + k, none⟩) (World.block_lt_of_cell? W _ hgc)).trans hgc
          obtain ⟨leg, hleg⟩ : ∃ leg, leg = y.lg k := ⟨_, rfl⟩
          rw [← hleg] at hc
          have HLEG : Hid (leg = y.lg k) := hleg
          have hll : (([] : List Wk) ++ wksTo false bys oo y.lg k).length ≤ 3145728 + 3 * k := by have h1 := wksTo_len false bys oo y.lg k; have h2 := hL0; rw [List.length_append]; omega
          obtain ⟨P, hP⟩ : ∃ P, P = ([] : List Wk) ++ wksTo false bys oo y.lg k := ⟨_, rfl⟩
          rw [← hP] at hll
          have HP : Hid (P = ([] : List Wk) ++ wksTo false bys oo y.lg k) := hP
          have HOP : Hid (OwnWk wr W.heap.size u7 P) := by rw [hP]; exact HOW.out
          clear hleg hP HOW hgc
          go_wp2
          clear hc
          obtain ⟨wo, hwo⟩ : ∃ z, z = wr := ⟨_, rfl⟩
          subst hwo
          go_loopw [7, 14] (fun v r wr => ∃ j : Nat, j ≤ 3 ∧ r = .int .i64 j ∧ Hid (OwnWk wr W.heap.size v (P ++ wksLeg false bys oo leg j)) ∧ Hid (Below W.heap.size W wr)) (fun _ r _ => 3 - (intOf r).toNat)
          case atStart => exact ⟨0, Nat.zero_le _, rfl, (by show OwnWk _ _ _ (P ++ []); rw [List.append_nil]; exact HOP.out), HBW.out⟩
          case round =>
            clear HOP HBW
            obtain ⟨j, hj, rfl, HOJ, HBJ⟩ := hrel
            by_cases hj3 : j < 3
            · have bx := blk_below BX.out HBJ.out
              have y4 := blk_cell bx 4 _ rfl
              have y5 := blk_cell bx 5 _ rfl
              have y6 := blk_cell bx 6 _ rfl
              have y7 := blk_cell bx 7 _ rfl
              have y8 := blk_cell bx 8 _ rfl
              have y9 := blk_cell bx 9 _ rfl
              have hjl := wksLeg_len false bys oo leg j
              obtain ⟨Q, hQ⟩ : ∃ Q, Q = P ++ wksLeg false bys oo leg j := ⟨_, rfl⟩
              have hql : Q.length ≤ 3145731 + 3 * k := by rw [hQ, List.length_append]; omega
              rw [← hQ] at HOJ
              have HQ : Hid (Q = P ++ wksLeg false bys oo leg j) := hQ
              clear hQ hjl
              have cu := l7Uses_any oo.pe oo.len oo.hei oo.cl oo.be oo.all j wr hj3
              obtain ⟨ub, hub⟩ : ∃ ub, ub = usesP oo.len oo.cl j := ⟨_, rfl⟩
              rw [← hub] at cu
              have HUB : Hid (usesP oo.len oo.cl j = ub) := hub.symm
              clear hub
              go_wp2_with fail
              refine cu.mono ?_
              clear cu
              rintro e w4 ⟨rfl, hb4⟩
              have HO4 : Hid (OwnWk w4 W.heap.size u7 Q) := own_below hb4 HOJ.out
              have HB4 : Hid (Below W.heap.size W w4) := after HBJ.out hb4
              clear HOJ HBJ hb4 y4 y5 y6 y7 y8 y9 bx
              cases ub with
              | false =>
                have HF : Hid (OwnWk w4 W.heap.size u7 (P ++ wksLeg false bys oo leg (j + 1))) := by
                  have e : wksLeg false bys oo leg (j + 1) = wksLeg false bys oo leg j := by rw [wksLeg, if_neg (by rw [HUB.out]; decide)]
                  rw [e, ← HQ.out]; exact HO4.out
                go_wp2
                go_roundw
                case rel => exact ⟨j + 1, by omega, by go_num, HF.out, HB4.out⟩
                case measure => simp [intOf]; omega
              | true =>
                have bx := blk_below BX.out HB4.out
                have y4 := blk_cell bx 4 _ rfl
                have y5 := blk_cell bx 5 _ rfl
                have y6 := blk_cell bx 6 _ rfl
                have y7 := blk_cell bx 7 _ rfl
                have y8 := blk_cell bx 8 _ rfl
                have y9 := blk_cell bx 9 _ rfl
                obtain ⟨qa, qc, hqv, _⟩ := own_form HO4.out
                have hqv : u7 = .slice qa Q.length qc := hqv
                subst hqv
                have HO5 : Hid (OwnWk (w4.alloc (.cells #[.int .i64 leg, .int .i64 (j : Int), .bool false, .int .i64 bys, .int .i64 oo.pe, .int .i64 oo.len, .int .i64 oo.hei, .int .i64 oo.cl, .bool oo.all, .int .i64 oo.be] 175)) W.heap.size (.slice qa Q.length qc) Q) := own_below (push (Below.refl _ _) _) HO4.out
                have HB5 : Hid (Below W.heap.size W (w4.alloc (.cells #[.int .i64 leg, .int .i64 (j : Int), .bool false, .int .i64 bys, .int .i64 oo.pe, .int .i64 oo.len, .int .i64 oo.hei, .int .i64 oo.cl, .bool oo.all, .int .i64 oo.be] 175))) := push HB4.out _
                have hsz : W.heap.size ≤ (w4.alloc (.cells #[.int .i64 leg, .int .i64 (j : Int), .bool false, .int .i64 bys, .int .i64 oo.pe, .int .i64 oo.len, .int .i64 oo.hei, .int .i64 oo.cl, .bool oo.all, .int .i64 oo.be] 175)).heap.size := Nat.le_trans hbase HB5.out.size
                have HNW : Hid (∀ m u, ([.int .i64 leg, .int .i64 (j : Int), .bool false, .int .i64 bys, .int .i64 oo.pe, .int .i64 oo.len, .int .i64 oo.hei, .int .i64 oo.cl, .bool oo.all, .int .i64 oo.be] : List Value)[m]? = some u → (w4.alloc (.cells #[.int .i64 leg, .int .i64 (j : Int), .bool false, .int .i64 bys, .int .i64 oo.pe, .int .i64 oo.len, .int .i64 oo.hei, .int .i64 oo.cl, .bool oo.all, .int .i64 oo.be] 175)).cell? ((⟨w4.heap.size, 0, none⟩ : Addr).add m) = some u) := World.news_of_block (heap_alloc_new w4 _)
                clear HO4 bx
                go_wp2_with (first | (at_builtin; refine wpList_append_any _ (by rfl) (.tmp 79) (.tmp 86) 172 (by rfl) W.heap.size 175 k0 (.agg #[.int .i64 0, .int .i64 0, .bool false, .int .i64 0, .int .i64 0, .int .i64 0, .int .i64 0, .int .i64 0, .bool false, .int .i64 0]) 10 80 Tryz.underlying172 ki kz0 kz1 kz2 rfl (by decide) _ Q.length (wkRow Q) (by rfl) HO5.out (some ⟨w4.heap.size, 0, none⟩) 1 1 [.int .i64 leg, .int .i64 (j : Int), .bool false, .int .i64 bys, .int .i64 oo.pe, .int .i64 oo.len, .int .i64 oo.hei, .int .i64 oo.cl, .bool oo.all, .int .i64 oo.be] (by rfl) (fun h => (by cases h)) (by rfl) (fun ad e => by cases e; exact HNW.out) (by intro u hu; simp at hu; rcases hu with rfl | rfl | rfl | rfl | rfl | rfl | rfl | rfl | rfl | rfl <;> rfl) (by unfold maxLen; omega) (by omega) hsz ?_; intro v9 w9 ho9 hg9))
                have HF : Hid (OwnWk w9 W.heap.size v9 (P ++ wksLeg false bys oo leg (j + 1))) := by
                  have e : P ++ wksLeg false bys oo leg (j + 1) = Q ++ [⟨leg, j, false, bys, oo⟩] := by rw [HQ.out, List.append_assoc]; congr 1; rw [wksLeg, if_pos HUB.out]
                  show w9.ownsRow _ _ 10 v9 _ _
                  rw [e, wkRow_snoc, List.length_append]
                  exact ho9
                have HBF : Hid (Below W.heap.size W w9) := HB5.out.grown hg9 HB5.out.size (fun b hb => by have := (HO5.out.lt b hb).1; omega)
                clear y4 y5 y6 y7 y8 y9 ho9 hg9 HO5 HB5 HNW
                go_wp2
                go_roundw
                case rel => exact ⟨j + 1, by omega, by go_num, HF.out, HBF.out⟩
                case measure => simp [intOf]; omega
            · obtain rfl : j = 3 := by omega
              have HF : Hid (OwnWk wr W.heap.size u7 (([] : List Wk) ++ wksTo false bys oo y.lg (k + 1))) := by
                have e : ([] : List Wk) ++ wksTo false bys oo y.lg (k + 1) = P ++ wksLeg false bys oo leg 3 := by rw [HP.out, HLEG.out, List.append_assoc]; rfl
                rw [e]; exact HOJ.out
              go_wp2
              go_roundw
              case rel => exact ⟨k + 1, by omega, by go_num, HF.out, HBJ.out⟩
              case measure => simp [intOf]; omega
        · obtain rfl : k = y.lgn := by omega
          have HFO : Hid (OwnWk _ w.heap.size _ (worksOf x bys y m)) := HFIN.out _ _ HOW.out HBW.out
          have HFB : Hid (Below w.heap.size w _) := after HBW0.out HBW.out
          go_wp2
          go_ret
          exact ⟨_, rfl, HFO.out, HFB.out⟩
    · have dL : decide (HasLegs y.kind) = false := decide_eq_false hL
      have HFO : Hid (OwnWk W w.heap.size (.slice none 0 0) (worksOf x bys y m)) := by
        have e : worksOf x bys y m = ([] : List Wk) := HWK.out.2 hL
        rw [e]; exact own_base HOW1.out HBW0.out.size
      have HFB : Hid (Below w.heap.size w W) := after HBW0.out HB1.out
      have bo0 := blk_below BO.out HB1.out
      have o0 := blk_cell bo0 0 _ rfl
      go_wp2_with (first | (go_at_call 44; refine (l7Legs_is _ _).mono ?_; rintro e w' ⟨rfl, hw'⟩; have hw' := hw'.symm; subst hw'))
      go_ret
      exact ⟨_, rfl, HFO.out, HFB.out⟩

end Go.Proofs.YtfallpinmhbemaaGreatDoor

namespace Go.Proofs.YtfallpinmhbemaaGreatDoor
open Go.RowKit

/-- One is in the load, at that resource. -/
def hasAt (x : Load) (res : Nat) (who : Int) : Prop :=
  if res = 0 then Has (whoS x.st) x.stn who else if res = 1 then Has (whoR x.ro) x.ron who else Has (whoT x.se) x.sen who
/-- What a work that is done makes of a load. -/
inductive WorkOn (s : Sail) (w : Wk) (x : Load) : Load → Prop
  | noStay (r : Nat) (e : w.res = 0) (g : w.goes = true) (h : r < x.stn) (q : (x.st r).who = w.who) : WorkOn s w x (x.noStay r)
  | noRoom (r : Nat) (e : w.res = 1) (g : w.goes = true) (h : r < x.ron) (q : (x.ro r).who = w.who) : WorkOn s w x (x.noRoom r)
  | noSeat (r : Nat) (e : w.res = 2) (g : w.goes = true) (h : r < x.sen) (q : (x.se r).who = w.who) : WorkOn s w x (x.noSeat r)
  | addStay (k : Nat) (e : w.res = 0) (g : w.goes = false) (h : Places s.la x.stn x.st w.who w.p.len w.p.hei k) : WorkOn s w x (x.addStay ⟨w.who, (k : Int), w.p.len, w.p.hei⟩)
  | addRoom (r : Room) (e : w.res = 1) (g : w.goes = false) (q : r.who = w.who) (hw : In r.who 1 9999) (hh : ¬ Has (whoR x.ro) x.ron r.who) (hs : Stands s.ca (leftR s.ca x.ro x.ron) r) : WorkOn s w x (x.addRoom r)
  | addSeat (r : Seat) (e : w.res = 2) (g : w.goes = false) (q : r.who = w.who) (hn : x.sen ≠ 60) (hw : In r.who 1 9999) (hm : In r.many 1 20) (hh : ¬ Has (whoT x.se) x.sen r.who) (hs : sits x.se x.sen + r.many ≤ s.most) : WorkOn s w x (x.addSeat r)
theorem WorkOn.good {s : Sail} {w : Wk} {x x' : Load} (h : WorkOn s w x x') (hl : LoadOk s x) : LoadOk s x' := by
  cases h with
  | noStay r e g h q => exact hl.noStay h
  | noRoom r e g h q => exact hl.noRoom h
  | noSeat r e g h q => exact hl.noSeat h
  | addStay k e g h => exact hl.addStay h
  | addRoom r e g q hw hh hs => exact hl.addRoom hw hh hs
  | addSeat r e g q hn hw hm hh hs => exact hl.addSeat hn hw hm hh hs
/-- One more behind: another is there as before. -/
theorem has_more {F G : Nat → Int} {n : Nat} {x : Int} (h : ∀ j, j < n → G j = F j) (hx : G n ≠ x) : Has G (n + 1) x ↔ Has F n x := by
  constructor
  · rintro ⟨j, hj, e⟩
    by_cases c : j = n
    · subst c; exact absurd e hx
    · exact ⟨j, by omega, by rw [← h j (by omega)]; exact e⟩
  · rintro ⟨j, hj, e⟩
    exact ⟨j, by omega, by rw [h j hj]; exact e⟩
/-- A work leaves the others where they were. -/
theorem WorkOn.others {s : Sail} {w : Wk} {x x' : Load} (h : WorkOn s w x x') {res : Nat} {who : Int} (hr : res < 3) (hd : res ≠ w.res ∨ who ≠ w.who) : hasAt x' res who ↔ hasAt x res who := by
  obtain rfl | rfl | rfl : res = 0 ∨ res = 1 ∨ res = 2 := by omega
  all_goals
    cases h with
    | noStay r e g h q =>
      first
      | exact Iff.rfl
      | (have hne : (x.st r).who ≠ who := fun c => by rcases hd with d | d; exact d e.symm; exact d (by rw [← c, q])
         have := without_other (S := x.st) (n := x.stn - 1) (r := r) (by omega) hne
         rw [show x.stn - 1 + 1 = x.stn by omega] at this
         exact this)
    | noRoom r e g h q =>
      first
      | exact Iff.rfl
      | (have hne : whoR x.ro r ≠ who := fun c => by rcases hd with d | d; exact d e.symm; exact d (by rw [← c]; exact q)
         have := out_other (F := whoR x.ro) (n := x.ron - 1) (r := r) (by omega) hne
         rw [show x.ron - 1 + 1 = x.ron by omega, ← whoR_out] at this
         exact this)
    | noSeat r e g h q =>
      first
      | exact Iff.rfl
      | (have hne : whoT x.se r ≠ who := fun c => by rcases hd with d | d; exact d e.symm; exact d (by rw [← c]; exact q)
         have := out_other (F := whoT x.se) (n := x.sen - 1) (r := r) (by omega) hne
         rw [show x.sen - 1 + 1 = x.sen by omega, ← whoT_out] at this
         exact this)
    | addStay k e g h =>
      first
      | exact Iff.rfl
      | (have hne : w.who ≠ who := fun c => by rcases hd with d | d; exact d e.symm; exact d c.symm
         exact has_more (fun j hj => by unfold whoS Load.addStay; dsimp only; rw [cat_lt hj]) (by unfold whoS Load.addStay; dsimp only; rw [cat_n]; exact hne))
    | addRoom r e g q hw hh hs =>
      first
      | exact Iff.rfl
      | (have hne : r.who ≠ who := fun c => by rcases hd with d | d; exact d e.symm; exact d (by rw [← c, q])
         exact has_more (fun j hj => by unfold whoR Load.addRoom; dsimp only; rw [roomCat_lt hj]) (by unfold whoR Load.addRoom; dsimp only; rw [roomCat_at]; exact hne))
    | addSeat r e g q hn hw hm hh hs =>
      first
      | exact Iff.rfl
      | (have hne : r.who ≠ who := fun c => by rcases hd with d | d; exact d e.symm; exact d (by rw [← c, q])
         exact has_more (fun j hj => by unfold whoT Load.addSeat; dsimp only; rw [seatCat_lt hj]) (by unfold whoT Load.addSeat; dsimp only; rw [seatCat_at]; exact hne))

end Go.Proofs.YtfallpinmhbemaaGreatDoor
