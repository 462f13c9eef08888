/-
  OWN TEXT: KitB, KitBks, KitLds, KitOff, KitOwO.
-/
import Derived.Test.YtfallpinmhbemaaGreatDoorB00
import Derived.Test.YtfallpinmhbemaaGreatDoorB04
import Derived.Test.YtfallpinmhbemaaGreatDoorB02
import Derived.Test.YtfallpinmhbemaaGreatDoorB03
namespace Go.Proofs.YtfallpinmhbemaaGreatDoor
open Go.RowKit

theorem wpList_append_any {P : Program} (w : World) {ops : Array Oper} {rest : List Oper} {o : Oper} {a : Act} {Q : Exit → Act → World → Prop}
    (hg : o.guard = none) (s x : Operand) (t : TypeId) (hop : o.op = Op.call { callee := Callee.builtin Builtin.append, args := #[s, x], argTypes := #[t, t] })
    (base : Nat) (e : TypeId) (i : TypeInfo) (z : Value) (size bytes : Nat) (h1 : P.underlying t = some (.slice e)) (h2 : P.info? e = some i) (h3 : i.zero = some z) (h4 : i.size = size) (h5 : i.bytes = bytes) (h6 : z.cells.size = size) (h7 : 0 < size)
    (v : Value) (n : Nat) (xs : List Value) (hs : a.eval s = v) (h : w.ownsRow base e size v n xs)
    (sa : Option Addr) (m c : Nat) (news : List Value) (hx : a.eval x = .slice sa m c) (hnil : sa = none → m = 0 ∧ c = 0) (hn : news.length = m * size) (hc : ∀ ad, sa = some ad → ∀ j u, news[j]? = some u → w.cell? (ad.add j) = some u) (h1c : ∀ u ∈ news, u.oneCell' = true)
    (b1 : n + m ≤ maxLen) (b2 : (n + m) * bytes ≤ 140737488355328) (hbase : base ≤ w.heap.size)
    (hK : ∀ v' w', w'.ownsRow base e size v' (n + m) (xs ++ news) → w.grownBy w' v.ownBlock → wpList P ops Q rest (a.put o.dst v') w') :
    wpList P ops Q (o :: rest) a w := by
  cases sa with
  | none =>
    obtain ⟨rfl, rfl⟩ := hnil rfl
    have hnews : news = [] := List.eq_nil_of_length_eq_zero (by simpa using hn)
    subst hnews
    refine wpList_append_own_none hg s x t hop base e i size h1 h2 v n xs hs h hx (hK v w ?_ (World.grownBy.refl w _))
    rw [Nat.add_zero, List.append_nil]; exact h
  | some ad =>
    refine wpList_append_own w hg s x t hop base e i z size bytes h1 h2 h3 h4 h5 h6 h7 v n xs hs h ad m c news hx hn (hc ad rfl) h1c b1 b2 hbase ?_
    intro v' w' ho hgr _
    exact hK v' w' ho hgr

theorem ints_cells {w : World} {ao : Option Addr} {ls : List Int} (h : IntsAt w ao ls.length (getI ls)) : ∀ ad, ao = some ad → ∀ j u, (cellsI ls)[j]? = some u → w.cell? (ad.add j) = some u := by
  intro ad e j u hu
  obtain ⟨hj, rfl⟩ := intList_get _ _ _ _ hu
  obtain ⟨b, off, e2, hc⟩ := h j hj
  rw [e] at e2
  cases e2
  rw [Addr.add_lit]
  exact hc
theorem cellsI_length (ls : List Int) : (cellsI ls).length = ls.length := by unfold cellsI; exact intList_length _ _
theorem cellsI_one (ls : List Int) : ∀ u ∈ cellsI ls, u.oneCell' = true := intList_one _ _
theorem cellsI_append (a b : List Int) : cellsI (a ++ b) = cellsI a ++ cellsI b := by
  have key : ∀ l : List Int, cellsI l = l.map (fun x => .int .i64 x) := by
    intro l
    unfold cellsI intList getI
    apply List.ext_getElem?
    intro i
    by_cases hi : i < l.length
    · rw [List.getElem?_map, List.getElem?_range hi, List.getElem?_map, List.getElem?_eq_getElem hi]
      simp [List.getD_eq_getElem?_getD, List.getElem?_eq_getElem hi]
    · rw [List.getElem?_eq_none (by simpa using hi), List.getElem?_eq_none (by simpa using hi)]
  rw [key, key, key, List.map_append]
theorem own_legs {w : World} {base e c : Nat} {ao : Option Addr} {ls : List Int} {n : Nat} (hn : ls.length = n) (h : w.ownsRow base e 1 (.slice ao n c) n (cellsI ls)) : IntsAt w ao n (getI ls) := by
  subst hn
  exact own_ints h

end Go.Proofs.YtfallpinmhbemaaGreatDoor

namespace Go.Proofs.YtfallpinmhbemaaGreatDoor
open Go.RowKit

theorem own_notE {w : World} {base e size n : Nat} {v : Value} {xs : List Value} (h : w.ownsRow base e size v n xs) {b t : Nat} {cs : Array Value} (hb : w.heap[b]? = some (.cells cs t (0, 0))) (hne : e ≠ t) : ∀ g, v.ownBlock = some g → ¬ g = b := by
  rintro g hg rfl
  rcases h.2 with ⟨rfl, _⟩ | ⟨g', cap', cur, rfl, _, hg', _⟩
  · simp [Value.ownBlock] at hg
  · simp only [Value.ownBlock, Option.some.injEq] at hg
    subst hg
    rw [hg'] at hb
    simp only [Option.some.injEq, Obj.cells.injEq] at hb
    exact hne hb.2.1
/-- The cells of booking k; L the legs' slices. -/
def bkC (S : Nat → Book) (L : Nat → Value) (k : Nat) : List Value :=
  [.int .i64 (S k).name, .int .i64 (S k).who, .string (S k).own, L k, .int .i64 (S k).pe, .int .i64 (S k).len, .int .i64 (S k).hei, .int .i64 (S k).cl, .bool (S k).all, .int .i64 (S k).be, .int .i64 (S k).state, .int .i64 (S k).unt, .int .i64 (S k).price]
def bkRow (S : Nat → Book) (L : Nat → Value) (N : Nat) : List Value := (List.range (N * 13)).map (recCell 13 (bkC S L))
/-- Bookings that lie in memory of their own, from base on. -/
structure OwnBks (w : World) (base : Nat) (v : Value) (N : Nat) (S : Nat → Book) (L : Nat → Value) : Prop where
  row : w.ownsRow base 131 13 v N (bkRow S L N)
  legs : ∀ i, i < N → w.ownsRow base 3 1 (L i) (S i).lgn (intList (S i).lg (S i).lgn)
  apart : ∀ i j, i < j → j < N → ∀ b, (L i).ownBlock = some b → (L j).ownBlock ≠ some b
theorem rec_row_snoc (sz : Nat) (hsz : 0 < sz) (C C' : Nat → List Value) (k : Nat) (vs : List Value) (hv : vs.length = sz) (hC : ∀ i, i < k → C' i = C i) (hk : C' k = vs) :
    (List.range ((k + 1) * sz)).map (recCell sz C') = (List.range (k * sz)).map (recCell sz C) ++ vs := by
  apply List.ext_getElem?
  intro j
  have h1 : ((List.range (k * sz)).map (recCell sz C)).length = k * sz := by simp
  by_cases h : j < k * sz
  · have hq : j / sz < k := (Nat.div_lt_iff_lt_mul hsz).2 h
    rw [List.getElem?_append_left (by rw [h1]; exact h), List.getElem?_map, List.getElem?_map, List.getElem?_range h, List.getElem?_range (by rw [Nat.add_mul]; omega)]
    simp only [Option.map_some]
    unfold recCell
    rw [hC _ hq]
  · rw [List.getElem?_append_right (by rw [h1]; omega), h1, List.getElem?_map]
    by_cases h2 : j < (k + 1) * sz
    · rw [List.getElem?_range h2]
      simp only [Option.map_some]
      obtain ⟨i, rfl⟩ : ∃ i, j = k * sz + i := ⟨j - k * sz, by omega⟩
      have hi : i < sz := by rw [Nat.add_mul] at h2; omega
      rw [recCell_at sz C' k i hi, hk, Nat.add_sub_cancel_left, List.getD_eq_getElem?_getD, List.getElem?_eq_getElem (by omega)]
      rfl
    · rw [List.getElem?_eq_none (by simpa using h2), List.getElem?_eq_none (by rw [Nat.add_mul] at h2; omega)]
      rfl
theorem bkRow_snoc (S : Nat → Book) (L : Nat → Value) (k : Nat) (lv : Value) : bkRow S (atV L k lv) (k + 1) = bkRow S L k ++ bkC S (atV L k lv) k :=
  rec_row_snoc 13 (by decide) (bkC S L) (bkC S (atV L k lv)) k _ rfl (fun i hi => by unfold bkC; rw [atV_ne _ _ _ _ (by omega)]) rfl
section
variable {w w' : World} {base : Nat} {v : Value} {N : Nat} {S : Nat → Book} {L : Nat → Value}
theorem OwnBks.below (h : OwnBks w base v N S L) (hb : Below w.heap.size w w') : OwnBks w' base v N S L :=
  ⟨own_below hb h.row, fun i hi => own_below hb (h.legs i hi), h.apart⟩
theorem OwnBks.kept {T : Nat → Prop} (h : OwnBks w base v N S L) (hk : Kept w w' T) (hT : ∀ b, T b → base ≤ b → b < w.heap.size → False) : OwnBks w' base v N S L :=
  ⟨hk.own h.row (fun g hg s => hT g s (h.row.lt g hg).1 (h.row.lt g hg).2), fun i hi => hk.own (h.legs i hi) (fun g hg s => hT g s ((h.legs i hi).lt g hg).1 ((h.legs i hi).lt g hg).2), h.apart⟩
/-- Only blocks of another type are written. -/
theorem OwnBks.other {T : Nat → Prop} (h : OwnBks w base v N S L) (hk : Kept w w' T) (hT : ∀ b, T b → ∃ cs t, w.heap[b]? = some (.cells cs t (0, 0)) ∧ 131 ≠ t ∧ 3 ≠ t) : OwnBks w' base v N S L :=
  ⟨hk.own h.row (fun g hg s => by obtain ⟨cs, t, h1, h2, _⟩ := hT g s; exact own_notE h.row h1 h2 g hg rfl), fun i hi => hk.own (h.legs i hi) (fun g hg s => by obtain ⟨cs, t, h1, _, h2⟩ := hT g s; exact own_notE (h.legs i hi) h1 h2 g hg rfl), h.apart⟩
theorem OwnBks.lower {b1 b2 : Nat} (h : OwnBks w b1 v N S L) (hb : b2 ≤ b1) : OwnBks w b2 v N S L :=
  ⟨own_base h.row hb, fun i hi => own_base (h.legs i hi) hb, h.apart⟩
theorem OwnBks.nil (w : World) (base : Nat) (S : Nat → Book) (L : Nat → Value) : OwnBks w base (.slice none 0 0) 0 S L :=
  ⟨⟨rfl, .inl ⟨rfl, rfl⟩⟩, fun i hi => by omega, fun i j hi hj => by omega⟩
theorem OwnBks.is (h : OwnBks w base v N S L) {k : Nat} (hk : k < N) : Book.Is w (bkC S L k) (S k) := by
  obtain ⟨ra, rc, e, l1, l2, l3⟩ := own_form (h.legs k hk)
  have o := h.legs k hk
  rw [e] at o
  unfold maxLen at l2
  exact ⟨ra, rc, by unfold bkC; rw [e], own_ints o, ⟨l1, by omega, l3⟩⟩
theorem OwnBks.at {ao : Option Addr} {c : Nat} (h : OwnBks w base (.slice ao N c) N S L) : BooksAt w ao N S := by
  refine ⟨bkC S L, fun k hk => ?_, fun k hk => h.is hk⟩
  obtain ⟨g, rfl, _, _⟩ := own_addr h.row (by omega)
  refine ⟨g, 0, rfl, fun j hj => ?_⟩
  rw [Nat.zero_add, own_cell h.row (k * 13 + j) (by omega) rfl, recCell_at 13 _ k j hj]
theorem OwnBks.snoc {k : Nat} {v' lv : Value} {lim : Nat} (h : OwnBks w base v k S L) (hlim : ∀ i, i < k → ∀ b, (L i).ownBlock = some b → b < lim)
    (hl : w.ownsRow lim 3 1 lv (S k).lgn (intList (S k).lg (S k).lgn)) (hbl : base ≤ lim) (hg : w.grownBy w' v.ownBlock)
    (ho : w'.ownsRow base 131 13 v' (k + 1) (bkRow S L k ++ bkC S (atV L k lv) k)) : OwnBks w' base v' (k + 1) S (atV L k lv) := by
  have hk := kept_row hg
  refine ⟨by rw [bkRow_snoc]; exact ho, fun i hi => ?_, fun i j hij hj => ?_⟩
  · by_cases e : i = k
    · subst e; rw [atV_at]; exact hk.own (own_base hl hbl) (fun g hg1 hg2 => own_apart h.row (own_base hl hbl) (by decide) g hg2 hg1)
    · rw [atV_ne _ _ _ _ e]; exact hk.own (h.legs i (by omega)) (fun g hg1 hg2 => own_apart h.row (h.legs i (by omega)) (by decide) g hg2 hg1)
  · by_cases e : j = k
    · subst e
      rw [atV_at, atV_ne _ _ _ _ (by omega)]
      intro b h1 h3
      have a := hlim i hij b h1
      have c := (hl.lt b h3).1
      omega
    · rw [atV_ne _ _ _ _ e, atV_ne _ _ _ _ (by omega)]
      exact h.apart i j hij (by omega)
theorem OwnBks.congr {S' : Nat → Book} (h : OwnBks w base v N S L) (e : ∀ i, i < N → S i = S' i) : OwnBks w base v N S' L := by
  refine ⟨?_, fun i hi => by rw [← e i hi]; exact h.legs i hi, h.apart⟩
  have e2 : bkRow S' L N = bkRow S L N := List.map_congr_left fun j hj => by
    have hj' : j < N * 13 := by simpa using hj
    unfold recCell bkC
    rw [e (j / 13) (by omega)]
  rw [e2]
  exact h.row
end

end Go.Proofs.YtfallpinmhbemaaGreatDoor

namespace Go.Proofs.YtfallpinmhbemaaGreatDoor
open Go.RowKit

/-- The cells of load k; A, B, C its lists. -/
def ldC (A B C : Nat → Value) (k : Nat) : List Value := [A k, B k, C k]
def ldRow (A B C : Nat → Value) (N : Nat) : List Value := (List.range (N * 3)).map (recCell 3 (ldC A B C))
def FarV (N : Nat) (A : Nat → Value) : Prop := ∀ i j, i < N → j < N → i ≠ j → ∀ b, (A i).ownBlock = some b → (A j).ownBlock ≠ some b
/-- Loads that lie in memory of their own, from base on. -/
structure OwnLds (w : World) (base : Nat) (v : Value) (N : Nat) (S : Nat → Load) (A B C : Nat → Value) : Prop where
  row : w.ownsRow base 136 3 v N (ldRow A B C N)
  st : ∀ i, i < N → w.ownsRow base 186 4 (A i) (S i).stn (stayList (S i).st (S i).stn)
  ro : ∀ i, i < N → w.ownsRow base 190 4 (B i) (S i).ron (roomList (S i).ro (S i).ron)
  se : ∀ i, i < N → w.ownsRow base 138 2 (C i) (S i).sen (seatList (S i).se (S i).sen)
  far : FarV N A ∧ FarV N B ∧ FarV N C
section
variable {w w' : World} {base : Nat} {v : Value} {N : Nat} {S : Nat → Load} {A B C : Nat → Value}
theorem OwnLds.below (h : OwnLds w base v N S A B C) (hb : Below w.heap.size w w') : OwnLds w' base v N S A B C :=
  ⟨own_below hb h.row, fun i hi => own_below hb (h.st i hi), fun i hi => own_below hb (h.ro i hi), fun i hi => own_below hb (h.se i hi), h.far⟩
theorem OwnLds.other {T : Nat → Prop} (h : OwnLds w base v N S A B C) (hk : Kept w w' T) (hT : ∀ b, T b → ∃ cs t, w.heap[b]? = some (.cells cs t (0, 0)) ∧ 136 ≠ t ∧ 186 ≠ t ∧ 190 ≠ t ∧ 138 ≠ t) : OwnLds w' base v N S A B C :=
  ⟨hk.own h.row (fun g hg s => by obtain ⟨cs, t, h1, h2, _⟩ := hT g s; exact own_notE h.row h1 h2 g hg rfl), fun i hi => hk.own (h.st i hi) (fun g hg s => by obtain ⟨cs, t, h1, _, h2, _⟩ := hT g s; exact own_notE (h.st i hi) h1 h2 g hg rfl),
    fun i hi => hk.own (h.ro i hi) (fun g hg s => by obtain ⟨cs, t, h1, _, _, h2, _⟩ := hT g s; exact own_notE (h.ro i hi) h1 h2 g hg rfl), fun i hi => hk.own (h.se i hi) (fun g hg s => by obtain ⟨cs, t, h1, _, _, _, h2⟩ := hT g s; exact own_notE (h.se i hi) h1 h2 g hg rfl), h.far⟩
theorem OwnLds.lower {b1 b2 : Nat} (h : OwnLds w b1 v N S A B C) (hb : b2 ≤ b1) : OwnLds w b2 v N S A B C :=
  ⟨own_base h.row hb, fun i hi => own_base (h.st i hi) hb, fun i hi => own_base (h.ro i hi) hb, fun i hi => own_base (h.se i hi) hb, h.far⟩
theorem OwnLds.nil (w : World) (base : Nat) (S : Nat → Load) (A B C : Nat → Value) : OwnLds w base (.slice none 0 0) 0 S A B C :=
  ⟨⟨rfl, .inl ⟨rfl, rfl⟩⟩, fun i hi => by omega, fun i hi => by omega, fun i hi => by omega, fun i j hi => by omega, fun i j hi => by omega, fun i j hi => by omega⟩
theorem OwnLds.is (h : OwnLds w base v N S A B C) {k : Nat} (hk : k < N) : Load.Is w (ldC A B C k) (S k) := by
  obtain ⟨a1, c1, e1, x1, y1, z1⟩ := own_form (h.st k hk)
  obtain ⟨a2, c2, e2, x2, y2, z2⟩ := own_form (h.ro k hk)
  obtain ⟨a3, c3, e3, x3, y3, z3⟩ := own_form (h.se k hk)
  have o1 := h.st k hk
  have o2 := h.ro k hk
  have o3 := h.se k hk
  rw [e1] at o1
  rw [e2] at o2
  rw [e3] at o3
  unfold maxLen at y1 y2 y3
  exact ⟨a1, c1, a2, c2, a3, c3, by unfold ldC; rw [e1, e2, e3], stays_of_own o1, ⟨x1, by omega, z1⟩, rooms_of_own o2, ⟨x2, by omega, z2⟩, seats_of_own o3, ⟨x3, by omega, z3⟩⟩
theorem OwnLds.at {ao : Option Addr} {c : Nat} (h : OwnLds w base (.slice ao N c) N S A B C) : LoadsAt w ao N S := by
  refine ⟨ldC A B C, fun k hk => ?_, fun k hk => h.is hk⟩
  obtain ⟨g, rfl, _, _⟩ := own_addr h.row (by omega)
  refine ⟨g, 0, rfl, fun j hj => ?_⟩
  rw [Nat.zero_add, own_cell h.row (k * 3 + j) (by omega) rfl, recCell_at 3 _ k j hj]
theorem FarV.snoc {A : Nat → Value} {k lim : Nat} {a : Value} (h : FarV k A) (h1 : ∀ i, i < k → ∀ b, (A i).ownBlock = some b → b < lim) (h2 : ∀ b, a.ownBlock = some b → lim ≤ b) : FarV (k + 1) (atV A k a) := fun i j hi hj hne b e1 e2 => by
  by_cases ei : i = k
  · subst ei
    rw [atV_at] at e1
    rw [atV_ne _ _ _ _ (fun h => hne h.symm)] at e2
    have := h1 j (by omega) b e2
    have := h2 b e1
    omega
  · rw [atV_ne _ _ _ _ ei] at e1
    by_cases ej : j = k
    · subst ej
      rw [atV_at] at e2
      have := h1 i (by omega) b e1
      have := h2 b e2
      omega
    · rw [atV_ne _ _ _ _ ej] at e2
      exact h i j (by omega) (by omega) hne b e1 e2
theorem OwnLds.snoc {k : Nat} {v' a b c : Value} {lim : Nat} (h : OwnLds w base v k S A B C) (hlim : ∀ i, i < k → (∀ g, (A i).ownBlock = some g → g < lim) ∧ (∀ g, (B i).ownBlock = some g → g < lim) ∧ (∀ g, (C i).ownBlock = some g → g < lim))
    (h1 : w.ownsRow lim 186 4 a (S k).stn (stayList (S k).st (S k).stn)) (h2 : w.ownsRow lim 190 4 b (S k).ron (roomList (S k).ro (S k).ron)) (h3 : w.ownsRow lim 138 2 c (S k).sen (seatList (S k).se (S k).sen)) (hbl : base ≤ lim) (hg : w.grownBy w' v.ownBlock)
    (ho : w'.ownsRow base 136 3 v' (k + 1) (ldRow A B C k ++ [a, b, c])) : OwnLds w' base v' (k + 1) S (atV A k a) (atV B k b) (atV C k c) := by
  have hk := kept_row hg
  have far : ∀ {t sz n : Nat} {u : Value} {xs : List Value}, w.ownsRow base t sz u n xs → 136 ≠ t → w'.ownsRow base t sz u n xs := fun ho ht => hk.own ho (fun g hg1 hg2 => own_apart h.row ho ht g hg2 hg1)
  refine ⟨?_, fun i hi => ?_, fun i hi => ?_, fun i hi => ?_, h.far.1.snoc (fun i hi => (hlim i hi).1) (fun b e => (h1.lt b e).1), h.far.2.1.snoc (fun i hi => (hlim i hi).2.1) (fun b e => (h2.lt b e).1), h.far.2.2.snoc (fun i hi => (hlim i hi).2.2) (fun b e => (h3.lt b e).1)⟩
  · have e : ldRow (atV A k a) (atV B k b) (atV C k c) (k + 1) = ldRow A B C k ++ [a, b, c] := rec_row_snoc 3 (by decide) (ldC A B C) (ldC (atV A k a) (atV B k b) (atV C k c)) k _ rfl (fun i hi => by unfold ldC; rw [atV_ne _ _ _ _ (by omega), atV_ne _ _ _ _ (by omega), atV_ne _ _ _ _ (by omega)]) (by unfold ldC; rw [atV_at, atV_at, atV_at])
    rw [e]
    exact ho
  · by_cases e : i = k
    · subst e; rw [atV_at]; exact far (own_base h1 hbl) (by decide)
    · rw [atV_ne _ _ _ _ e]; exact far (h.st i (by omega)) (by decide)
  · by_cases e : i = k
    · subst e; rw [atV_at]; exact far (own_base h2 hbl) (by decide)
    · rw [atV_ne _ _ _ _ e]; exact far (h.ro i (by omega)) (by decide)
  · by_cases e : i = k
    · subst e; rw [atV_at]; exact far (own_base h3 hbl) (by decide)
    · rw [atV_ne _ _ _ _ e]; exact far (h.se i (by omega)) (by decide)
end

end Go.Proofs.YtfallpinmhbemaaGreatDoor

namespace Go.Proofs.YtfallpinmhbemaaGreatDoor
open Go.RowKit

/-- A copy of sailings whose memory lies from lo on, below hi. -/
structure SailsHi (w : World) (lo hi g N : Nat) (S : Nat → Sail) (l c : Nat → Nat) : Prop where
  made : SailsTo w 37 106 110 N lo g N S l c
  gh : g < hi
  lh : ∀ i, i < N → l i < hi ∧ c i < hi
theorem SailsHi.below {w w' : World} {lo hi g N : Nat} {S : Nat → Sail} {l c : Nat → Nat} (r : SailsHi w lo hi g N S l c) (hb : Below w.heap.size w w') : SailsHi w' lo hi g N S l c := ⟨r.made.below hb, r.gh, r.lh⟩
theorem SailsHi.wide {w : World} {lo hi lo' hi' g N : Nat} {S : Nat → Sail} {l c : Nat → Nat} (r : SailsHi w lo hi g N S l c) (h1 : lo' ≤ lo) (h2 : hi ≤ hi') : SailsHi w lo' hi' g N S l c :=
  ⟨⟨r.made.row, Nat.le_trans h1 r.made.lo, r.made.lanes, r.made.cabins, r.made.rise⟩, Nat.lt_of_lt_of_le r.gh h2, fun i hi => ⟨Nat.lt_of_lt_of_le (r.lh i hi).1 h2, Nat.lt_of_lt_of_le (r.lh i hi).2 h2⟩⟩
theorem SailsHi.kept {w w' : World} {lo hi g N : Nat} {S : Nat → Sail} {l c : Nat → Nat} {T : Nat → Prop} (r : SailsHi w lo hi g N S l c) (hk : Kept w w' T) (hT : ∀ b, T b → b < lo ∨ hi ≤ b) : SailsHi w' lo hi g N S l c := by
  have h0 := r.made.lo
  have h1 := r.gh
  refine ⟨⟨r.made.row.of_block (hk.block _ r.made.row.lt (fun s => by have := hT _ s; omega)), r.made.lo, fun i hi => ⟨(r.made.lanes i hi).1, ?_⟩, fun i hi => ⟨(r.made.cabins i hi).1, ?_⟩, r.made.rise⟩, r.gh, r.lh⟩
  · have h2 := (r.made.lanes i hi).1
    have h3 := (r.lh i hi).1
    exact (r.made.lanes i hi).2.of_block (hk.block _ (r.made.lanes i hi).2.lt (fun s => by have := hT _ s; omega))
  · have h2 := (r.made.lanes i hi).1
    have h4 := (r.made.cabins i hi).1
    have h3 := (r.lh i hi).2
    exact (r.made.cabins i hi).2.of_block (hk.block _ (r.made.cabins i hi).2.lt (fun s => by have := hT _ s; omega))
theorem SailsTo.high {w : World} {lo g N : Nat} {S : Nat → Sail} {l c : Nat → Nat} (r : SailsTo w 37 106 110 N lo g N S l c) : SailsHi w lo w.heap.size g N S l c :=
  ⟨r, r.row.lt, fun i hi => ⟨(r.lanes i hi).2.lt, (r.cabins i hi).2.lt⟩⟩

structure Off where
  san : Nat
  sa : Nat → Sail
  ldn : Nat
  ld : Nat → Load
  bkn : Nat
  bk : Nat → Book
/-- Cells that read as an office. -/
def Off.Is (w : World) (cs : List Value) (x : Off) : Prop :=
  ∃ asa csa ald cld abk cbk, cs = [.slice asa x.san csa, .slice ald x.ldn cld, .slice abk x.bkn cbk] ∧ SailsAt w asa x.san x.sa ∧ SliceOk asa x.san csa ∧ LoadsAt w ald x.ldn x.ld ∧ SliceOk ald x.ldn cld ∧ BooksAt w abk x.bkn x.bk ∧ SliceOk abk x.bkn cbk
theorem Off.Is.below {w w' : World} {cs : List Value} {x : Off} (h : Off.Is w cs x) (hb : Below w.heap.size w w') : Off.Is w' cs x := by
  obtain ⟨asa, csa, ald, cld, abk, cbk, e, h1, s1, h2, s2, h3, s3⟩ := h
  exact ⟨asa, csa, ald, cld, abk, cbk, e, h1.below hb, s1, h2.below hb, s2, h3.below hb, s3⟩
def Off.Short (x : Off) (B : Nat) : Prop := (x.san ≤ B ∧ ShortAll x.san x.sa B) ∧ (x.ldn ≤ B ∧ LoadsShort x.ldn x.ld B) ∧ (x.bkn ≤ B ∧ BooksShort x.bkn x.bk B)
/-- A copy whose memory lies from lo on, below hi: the sailings first, then the loads, then the bookings. -/
def Off.In (w : World) (lo hi : Nat) (cs : List Value) (x : Off) : Prop :=
  ∃ m1 m2 gsa l c gld C gbk E, cs = [whole gsa x.san, whole gld x.ldn, whole gbk x.bkn] ∧ (lo ≤ m1 ∧ m1 ≤ m2 ∧ m2 ≤ hi) ∧ SailsHi w lo m1 gsa x.san x.sa l c ∧ LoadsTo w x.ldn m1 m2 gld x.ldn x.ld C ∧ BooksTo w x.bkn m2 hi gbk x.bkn x.bk E
theorem Off.In.below {w w' : World} {lo hi : Nat} {cs : List Value} {x : Off} (h : Off.In w lo hi cs x) (hb : Below w.heap.size w w') : Off.In w' lo hi cs x := by
  obtain ⟨m1, m2, gsa, l, c, gld, C, gbk, E, e, hm, h1, h2, h3⟩ := h
  exact ⟨m1, m2, gsa, l, c, gld, C, gbk, E, e, hm, h1.below hb, h2.below hb, h3.below hb⟩
theorem Off.In.kept {w w' : World} {lo hi : Nat} {T : Nat → Prop} {cs : List Value} {x : Off} (h : Off.In w lo hi cs x) (hk : Kept w w' T) (hT : ∀ b, T b → b < lo ∨ hi ≤ b) : Off.In w' lo hi cs x := by
  obtain ⟨m1, m2, gsa, l, c, gld, C, gbk, E, e, hm, h1, h2, h3⟩ := h
  exact ⟨m1, m2, gsa, l, c, gld, C, gbk, E, e, hm, h1.kept hk (fun b s => by have := hT b s; omega), h2.kept hk (fun b s => by have := hT b s; omega), h3.kept hk (fun b s => by have := hT b s; omega)⟩
theorem Off.In.is {w : World} {lo hi : Nat} {cs : List Value} {x : Off} (h : Off.In w lo hi cs x) (hs : Off.Short x 1048576) : Off.Is w cs x := by
  obtain ⟨m1, m2, gsa, l, c, gld, C, gbk, E, e, hm, h1, h2, h3⟩ := h
  obtain ⟨⟨n1, s1⟩, ⟨n2, s2⟩, ⟨n3, s3⟩⟩ := hs
  exact ⟨some ⟨gsa, 0, none⟩, x.san, some ⟨gld, 0, none⟩, x.ldn, some ⟨gbk, 0, none⟩, x.bkn, e, h1.made.sails (fun i hi => (s1 i hi).2.2.1) (fun i hi => (s1 i hi).2.2.2), ⟨Nat.le_refl _, by omega, fun h => by cases h⟩, h2.at s2, ⟨Nat.le_refl _, by omega, fun h => by cases h⟩, h3.at s3, ⟨Nat.le_refl _, by omega, fun h => by cases h⟩⟩

end Go.Proofs.YtfallpinmhbemaaGreatDoor

namespace Go.Proofs.YtfallpinmhbemaaGreatDoor
open Go.RowKit

theorem sailRow_snoc (S : Nat → Sail) (L C : Nat → Value) (k : Nat) (lv cv : Value) :
    (List.range ((k + 1) * 8)).map (sailCell S (atV L k lv) (atV C k cv)) = (List.range (k * 8)).map (sailCell S L C) ++ [.int .i64 (S k).id, .string (S k).fr, .string (S k).dst, .int .i64 (S k).dep, .int .i64 (S k).arr, lv, cv, .int .i64 (S k).most] := by
  rw [show (k + 1) * 8 = k * 8 + 1 + 1 + 1 + 1 + 1 + 1 + 1 + 1 by omega, List.range_succ, List.range_succ, List.range_succ, List.range_succ, List.range_succ, List.range_succ, List.range_succ, List.range_succ]
  simp only [List.map_append, List.map_cons, List.map_nil, List.append_assoc, List.cons_append, List.nil_append]
  rw [sailCell_0, sailCell_1, show k * 8 + 1 + 1 = k * 8 + 2 by omega, sailCell_2, show k * 8 + 2 + 1 = k * 8 + 3 by omega, sailCell_3, show k * 8 + 3 + 1 = k * 8 + 4 by omega, sailCell_4, show k * 8 + 4 + 1 = k * 8 + 5 by omega, sailCell_5, show k * 8 + 5 + 1 = k * 8 + 6 by omega, sailCell_6, show k * 8 + 6 + 1 = k * 8 + 7 by omega, sailCell_7, atV_at, atV_at]
  congr 1
  refine List.map_congr_left fun j hj => ?_
  have hj' : j < k * 8 := by simpa using hj
  unfold sailCell
  rw [atV_ne _ _ _ _ (show j / 8 ≠ k by omega), atV_ne _ _ _ _ (show j / 8 ≠ k by omega)]
/-- One sailing more behind the others. -/
theorem OwnSails.snoc {w w' : World} {base k : Nat} {v v' : Value} {S : Nat → Sail} {L C : Nat → Value} {lv cv : Value} {lim : Nat} (h : OwnSails w base v k S L C) (hlim : ∀ i, i < k → (∀ b, (L i).ownBlock = some b → b < lim) ∧ (∀ b, (C i).ownBlock = some b → b < lim))
    (hl : w.ownsRow lim 106 2 lv (S k).la.n (pairRow (S k).la)) (hc : w.ownsRow lim 110 2 cv (S k).ca.n (pairRow (S k).ca)) (hbl : base ≤ lim) (hg : w.grownBy w' v.ownBlock)
    (ho : w'.ownsRow base 37 8 v' (k + 1) ((List.range (k * 8)).map (sailCell S L C) ++ [.int .i64 (S k).id, .string (S k).fr, .string (S k).dst, .int .i64 (S k).dep, .int .i64 (S k).arr, lv, cv, .int .i64 (S k).most])) :
    OwnSails w' base v' (k + 1) S (atV L k lv) (atV C k cv) := by
  have hk := kept_row hg
  refine ⟨by rw [sailRow_snoc]; exact ho, fun i hi => ?_, fun i hi => ?_, fun i j hij hj => ?_⟩
  · by_cases e : i = k
    · subst e; rw [atV_at]; exact hk.own (own_base hl hbl) (fun g hg1 hg2 => own_apart h.row (own_base hl hbl) (by decide) g hg2 hg1)
    · rw [atV_ne _ _ _ _ e]; exact hk.own (h.la i (by omega)) (fun g hg1 hg2 => own_apart h.row (h.la i (by omega)) (by decide) g hg2 hg1)
  · by_cases e : i = k
    · subst e; rw [atV_at]; exact hk.own (own_base hc hbl) (fun g hg1 hg2 => own_apart h.row (own_base hc hbl) (by decide) g hg2 hg1)
    · rw [atV_ne _ _ _ _ e]; exact hk.own (h.ca i (by omega)) (fun g hg1 hg2 => own_apart h.row (h.ca i (by omega)) (by decide) g hg2 hg1)
  · by_cases e : j = k
    · subst e
      rw [atV_at, atV_at, atV_ne _ _ _ _ (by omega), atV_ne _ _ _ _ (by omega)]
      refine ⟨fun b h1 h3 => ?_, fun b h1 h3 => ?_⟩
      · have a := (hlim i hij).1 b h1
        have c := (hl.lt b h3).1
        omega
      · have a := (hlim i hij).2 b h1
        have c := (hc.lt b h3).1
        omega
    · rw [atV_ne _ _ _ _ e, atV_ne _ _ _ _ e, atV_ne _ _ _ _ (by omega), atV_ne _ _ _ _ (by omega)]
      exact h.apart i j hij (by omega)
theorem OwnSails.keptRow {w w' : World} {base base2 k n : Nat} {v lv : Value} {S : Nat → Sail} {L C : Nat → Value} {xs : List Value} (h : OwnSails w base v k S L C) (hl : w.ownsRow base2 136 3 lv n xs) (hg : w.grownBy w' lv.ownBlock) : OwnSails w' base v k S L C := by
  have hk := kept_row hg
  exact ⟨hk.own h.row (fun g h1 h2 => own_apart hl h.row (by decide) g h2 h1), fun i hi => hk.own (h.la i hi) (fun g h1 h2 => own_apart hl (h.la i hi) (by decide) g h2 h1), fun i hi => hk.own (h.ca i hi) (fun g h1 h2 => own_apart hl (h.ca i hi) (by decide) g h2 h1), h.apart⟩
theorem off_at0 {w : World} {g t : Nat} {u0 u1 u2 : Value} (h : w.heap[g]? = some (.cells #[u0, u1, u2] t (0, 0))) (v : Value) : (w.setCell ⟨g, 0, none⟩ v).heap[g]? = some (.cells #[v, u1, u2] t (0, 0)) := by simpa using blk_set h 0 v
theorem off_at1 {w : World} {g t : Nat} {u0 u1 u2 : Value} (h : w.heap[g]? = some (.cells #[u0, u1, u2] t (0, 0))) (v : Value) : (w.setCell ⟨g, 1, none⟩ v).heap[g]? = some (.cells #[u0, v, u2] t (0, 0)) := by simpa using blk_set h 1 v
theorem off_at2 {w : World} {g t : Nat} {u0 u1 u2 : Value} (h : w.heap[g]? = some (.cells #[u0, u1, u2] t (0, 0))) (v : Value) : (w.setCell ⟨g, 2, none⟩ v).heap[g]? = some (.cells #[u0, u1, v] t (0, 0)) := by simpa using blk_set h 2 v
theorem own_blockE {w : World} {base e size n : Nat} {v : Value} {xs : List Value} (h : w.ownsRow base e size v n xs) : ∀ g, v.ownBlock = some g → ∃ cs, w.heap[g]? = some (.cells cs e (0, 0)) := fun g hg => by
  rcases h.2 with ⟨rfl, _⟩ | ⟨g', c, cur, rfl, _, hb, _⟩
  · cases hg
  · simp [Value.ownBlock] at hg
    subst hg
    exact ⟨cur, hb⟩
/-- Only blocks of another type are written. -/
theorem OwnSails.other {w w' : World} {base : Nat} {v : Value} {N : Nat} {S : Nat → Sail} {L C : Nat → Value} {T : Nat → Prop} (h : OwnSails w base v N S L C) (hk : Kept w w' T) (hT : ∀ b, T b → ∃ cs t, w.heap[b]? = some (.cells cs t (0, 0)) ∧ 37 ≠ t ∧ 106 ≠ t ∧ 110 ≠ t) : OwnSails w' base v N S L C :=
  ⟨hk.own h.row (fun g hg s => by obtain ⟨cs, t, h1, h2, _⟩ := hT g s; exact own_notE h.row h1 h2 g hg rfl), fun i hi => hk.own (h.la i hi) (fun g hg s => by obtain ⟨cs, t, h1, _, h2, _⟩ := hT g s; exact own_notE (h.la i hi) h1 h2 g hg rfl),
    fun i hi => hk.own (h.ca i hi) (fun g hg s => by obtain ⟨cs, t, h1, _, _, h2⟩ := hT g s; exact own_notE (h.ca i hi) h1 h2 g hg rfl), h.apart⟩
/-- The lists of an office in memory of their own: the first n1 sailings, n2 loads, n3 bookings. -/
structure OwnOff (w : World) (base : Nat) (v1 v2 v3 : Value) (n1 n2 n3 : Nat) (x : Off) (L C A B D E : Nat → Value) : Prop where
  sa : OwnSails w base v1 n1 x.sa L C
  ld : OwnLds w base v2 n2 x.ld A B D
  bk : OwnBks w base v3 n3 x.bk E
section
variable {w w' : World} {base : Nat} {v1 v2 v3 : Value} {n1 n2 n3 : Nat} {x : Off} {L C A B D E : Nat → Value}
theorem OwnOff.below (h : OwnOff w base v1 v2 v3 n1 n2 n3 x L C A B D E) (hb : Below w.heap.size w w') : OwnOff w' base v1 v2 v3 n1 n2 n3 x L C A B D E := ⟨h.sa.below hb, h.ld.below hb, h.bk.below hb⟩
theorem OwnOff.lower {b1 b2 : Nat} (h : OwnOff w b1 v1 v2 v3 n1 n2 n3 x L C A B D E) (hb : b2 ≤ b1) : OwnOff w b2 v1 v2 v3 n1 n2 n3 x L C A B D E := ⟨h.sa.base hb, h.ld.lower hb, h.bk.lower hb⟩
/-- A block of another type is written. -/
theorem OwnOff.box {g t : Nat} {cs : Array Value} (h : OwnOff w base v1 v2 v3 n1 n2 n3 x L C A B D E) (hk : Kept w w' (fun b => b = g)) (hg : w.heap[g]? = some (.cells cs t (0, 0))) (ht : 37 ≠ t ∧ 106 ≠ t ∧ 110 ≠ t ∧ 136 ≠ t ∧ 186 ≠ t ∧ 190 ≠ t ∧ 138 ≠ t ∧ 131 ≠ t ∧ 3 ≠ t) : OwnOff w' base v1 v2 v3 n1 n2 n3 x L C A B D E :=
  ⟨h.sa.other hk (fun b e => by have e : b = g := e; subst e; exact ⟨cs, t, hg, ht.1, ht.2.1, ht.2.2.1⟩), h.ld.other hk (fun b e => by have e : b = g := e; subst e; exact ⟨cs, t, hg, ht.2.2.2.1, ht.2.2.2.2.1, ht.2.2.2.2.2.1, ht.2.2.2.2.2.2.1⟩), h.bk.other hk (fun b e => by have e : b = g := e; subst e; exact ⟨cs, t, hg, ht.2.2.2.2.2.2.2.1, ht.2.2.2.2.2.2.2.2⟩)⟩
theorem OwnOff.load {v' a b c : Value} {k lim : Nat} (h : OwnOff w base v1 v2 v3 n1 k n3 x L C A B D E) (hlim : ∀ i, i < k → (∀ g, (A i).ownBlock = some g → g < lim) ∧ (∀ g, (B i).ownBlock = some g → g < lim) ∧ (∀ g, (D i).ownBlock = some g → g < lim))
    (h1 : w.ownsRow lim 186 4 a (x.ld k).stn (stayList (x.ld k).st (x.ld k).stn)) (h2 : w.ownsRow lim 190 4 b (x.ld k).ron (roomList (x.ld k).ro (x.ld k).ron)) (h3 : w.ownsRow lim 138 2 c (x.ld k).sen (seatList (x.ld k).se (x.ld k).sen)) (hbl : base ≤ lim) (hg : w.grownBy w' v2.ownBlock)
    (ho : w'.ownsRow base 136 3 v' (k + 1) (ldRow A B D k ++ [a, b, c])) : OwnOff w' base v1 v' v3 n1 (k + 1) n3 x L C (atV A k a) (atV B k b) (atV D k c) E :=
  ⟨h.sa.other (kept_row hg) (fun g e => by obtain ⟨cs, e2⟩ := own_blockE h.ld.row g e; exact ⟨cs, _, e2, by decide, by decide, by decide⟩), h.ld.snoc hlim h1 h2 h3 hbl hg ho, h.bk.other (kept_row hg) (fun g e => by obtain ⟨cs, e2⟩ := own_blockE h.ld.row g e; exact ⟨cs, _, e2, by decide, by decide⟩)⟩
theorem OwnOff.book {v' lv : Value} {k lim : Nat} (h : OwnOff w base v1 v2 v3 n1 n2 k x L C A B D E) (hlim : ∀ i, i < k → ∀ b, (E i).ownBlock = some b → b < lim)
    (hl : w.ownsRow lim 3 1 lv (x.bk k).lgn (intList (x.bk k).lg (x.bk k).lgn)) (hbl : base ≤ lim) (hg : w.grownBy w' v3.ownBlock)
    (ho : w'.ownsRow base 131 13 v' (k + 1) (bkRow x.bk E k ++ bkC x.bk (atV E k lv) k)) : OwnOff w' base v1 v2 v' n1 n2 (k + 1) x L C A B D (atV E k lv) :=
  ⟨h.sa.other (kept_row hg) (fun g e => by obtain ⟨cs, e2⟩ := own_blockE h.bk.row g e; exact ⟨cs, _, e2, by decide, by decide, by decide⟩), h.ld.other (kept_row hg) (fun g e => by obtain ⟨cs, e2⟩ := own_blockE h.bk.row g e; exact ⟨cs, _, e2, by decide, by decide, by decide, by decide⟩), h.bk.snoc hlim hl hbl hg ho⟩
theorem OwnOff.is {a1 a2 a3 : Option Addr} {c1 c2 c3 : Nat} (h : OwnOff w base (.slice a1 x.san c1) (.slice a2 x.ldn c2) (.slice a3 x.bkn c3) x.san x.ldn x.bkn x L C A B D E) : Off.Is w [.slice a1 x.san c1, .slice a2 x.ldn c2, .slice a3 x.bkn c3] x := by
  obtain ⟨_, _, e1, p1, q1, r1⟩ := own_form h.sa.row
  obtain ⟨_, _, e2, p2, q2, r2⟩ := own_form h.ld.row
  obtain ⟨_, _, e3, p3, q3, r3⟩ := own_form h.bk.row
  simp only [Value.slice.injEq] at e1 e2 e3
  obtain ⟨rfl, _, rfl⟩ := e1
  obtain ⟨rfl, _, rfl⟩ := e2
  obtain ⟨rfl, _, rfl⟩ := e3
  unfold maxLen at q1 q2 q3
  exact ⟨a1, c1, a2, c2, a3, c3, rfl, h.sa.at, ⟨p1, by omega, r1⟩, h.ld.at, ⟨p2, by omega, r2⟩, h.bk.at, ⟨p3, by omega, r3⟩⟩
end

end Go.Proofs.YtfallpinmhbemaaGreatDoor
