/-
  OWN TEXT: FreeL, LeftOn, PlainVw, RangeFit.
-/
import Derived.RangeFuncNested
import Derived.RangeFuncBound
import Derived.RangeFuncCalls
import Derived.RangeFuncLeaves
import Derived.Test.YtlelckbeoclhbaaGreatB26
import Derived.Test.YtlelckbeoclhbaaGreatB24
import Derived.Test.YtlelckbeoclhbaaGreatB25
import Derived.Test.YtlelckbeoclhbaaGreatB16
import Derived.Test.YtlelckbeoclhbaaGreatB08
import Derived.Test.YtlelckbeoclhbaaGreatB12
import Derived.Test.YtlelckbeoclhbaaGreatB00
set_option maxHeartbeats 12800000
set_option maxRecDepth 100000
namespace Go.Proofs.YtlelckbeoclhbaaGreat
open Go.RowKit
theorem four_ints {w : World} {f t m : Nat} {F G : Nat → Int} (h : w.heap[f]? = some (.cells #[.int .i64 (F 0), .int .i64 (F 1), .int .i64 (F 2), .int .i64 (F 3)] t (0, 0))) (hm : m ≤ 4) (hF : ∀ k, k < m → F k = G k) : IntsAt w (some ⟨f, 0, none⟩) m G := by
  intro k hk
  refine ⟨f, 0, rfl, ?_⟩
  rw [Nat.zero_add, ← hF k hk]
  have : k = 0 ∨ k = 1 ∨ k = 2 ∨ k = 3 := by omega
  rcases this with rfl | rfl | rfl | rfl
  · exact blk_cell h 0 _ rfl
  · exact blk_cell h 1 _ rfl
  · exact blk_cell h 2 _ rfl
  · exact blk_cell h 3 _ rfl
theorem implFree_any (ao bo : Option Addr) (m mc n c : Nat) (p : Pairs) (S : Nat → Stay) (w : World) (hl : p.n = m) (hm : m ≤ 1048576) (hn : n ≤ 1048576) (hc : n ≤ c) (hx : PairsAt w ao p) (hz : StaysAt w bo n S) :
    Calls Tryz.prog 121 #[.slice ao m mc, .slice bo n c] w fun e w' => FreeRes w' w.heap.size p n S e ∧ Below w.heap.size w w' := by
  have HX : Hid (PairsAt w ao p) := hx
  have HZ : Hid (StaysAt w bo n S) := hz
  have HL : Hid (p.n = m) := hl
  clear hx hz hl
  go_enter Tryz.func121, Tryz.ntmps121
  go_wp2_with fail
  refine (freeOnDeck_any ao bo m mc n c p S _ HL.out hm hn hc HX.out HZ.out).mono ?_
  rintro e w1 ⟨hans, hb1⟩
  unfold FreeAns four at hans
  rcases hans with ⟨hd, rfl⟩ | ⟨hd, rfl⟩
  · have HD : Hid (DeckI p n S) := hd
    have hm4 : m ≤ 4 := by rw [← HL.out]; exact hd.1.1
    clear hd
    have i1 : (0 : Int) ≤ (m : Int) := by omega
    have i2 : (m : Int) ≤ 4 := by omega
    have hb2 := push hb1 (.cells #[.int .i64 (freeAt p S n 0), .int .i64 (freeAt p S n 1), .int .i64 (freeAt p S n 2), .int .i64 (freeAt p S n 3)] 204)
    have HI : Hid (IntsAt (w1.alloc (.cells #[.int .i64 (freeAt p S n 0), .int .i64 (freeAt p S n 1), .int .i64 (freeAt p S n 2), .int .i64 (freeAt p S n 3)] 204)) (some ⟨w1.heap.size, 0, none⟩) m (left p S n)) := four_ints (heap_alloc_new w1 _) hm4 (fun k hk => if_pos (by rw [HL.out]; exact hk))
    go_wp2_with (first | (go_at_call 66; refine (cloneInts _ m _ (left p S n) _ hm HI.out).mono ?_; rintro e w2 ⟨⟨v, rfl, ho⟩, hb3⟩))
    exact bodyPost_ret (v := .tuple #[v, .bool true]) (by simp [results, Tryz.results121, go_sem]) rfl ⟨freeRes_yes HD.out HL.out (own_base ho hb2.size), after hb2 hb3⟩
  · have HD : Hid (¬ DeckI p n S) := hd
    clear hd
    go_wp2
    exact bodyPost_ret (v := .tuple #[.slice none 0 0, .bool false]) (by simp [results, Tryz.results121, go_sem]) rfl ⟨freeRes_no HD.out, push hb1 _⟩
end Go.Proofs.YtlelckbeoclhbaaGreat

namespace Go.Proofs.YtlelckbeoclhbaaGreat
open Go.RowKit Classical
def OnV (s : Sail) (l : Load) (base ti : Nat) (e : Ending) (w : World) : Prop :=
  ∃ v1 v2, e = .returned (.tuple #[v1, v2, .int .i64 (s.most - sits l.se l.sen)]) ∧ w.ownsRow base ti 1 v1 s.la.n (intList (left s.la l.st l.stn) s.la.n) ∧ w.ownsRow base ti 1 v2 s.ca.n (intList (leftR s.ca l.ro l.ron) s.ca.n) ∧ ∀ b, v1.ownBlock = some b → v2.ownBlock ≠ some b
theorem leftOn_any (s : Sail) (l : Load) (la ca ast aro ase : Option Addr) (lc cc cst cro cse : Nat) (w : World) (hp : LoadOk s l) (hss : s.la.n ≤ 1048576 ∧ s.ca.n ≤ 1048576) (hlh : Load.Short l 1048576) (hla : PairsAt w la s.la) (hca : PairsAt w ca s.ca)
    (hst : StaysAt w ast l.stn l.st ∧ l.stn ≤ cst) (hro : RoomsAt w aro l.ron l.ro ∧ l.ron ≤ cro) (hse : SeatsAt w ase l.sen l.se ∧ l.sen ≤ cse) :
    Calls Tryz.prog 68 #[.agg #[.int .i64 s.id, .string s.fr, .string s.dst, .int .i64 s.dep, .int .i64 s.arr, .slice la s.la.n lc, .slice ca s.ca.n cc, .int .i64 s.most], .agg #[.slice ast l.stn cst, .slice aro l.ron cro, .slice ase l.sen cse]] w fun e w' => OnV s l w.heap.size 3 e w' ∧ Below w.heap.size w w' := by
  have HP : Hid (LoadOk s l) := hp
  have HSS : Hid (s.la.n ≤ 1048576 ∧ s.ca.n ≤ 1048576) := hss
  have HLH : Hid (Load.Short l 1048576) := hlh
  have HLA : Hid (PairsAt w la s.la) := hla
  have HCA : Hid (PairsAt w ca s.ca) := hca
  have HST : Hid (StaysAt w ast l.stn l.st ∧ l.stn ≤ cst) := hst
  have HRO : Hid (RoomsAt w aro l.ron l.ro ∧ l.ron ≤ cro) := hro
  have HSE : Hid (SeatsAt w ase l.sen l.se ∧ l.sen ≤ cse) := hse
  clear hp hss hlh hla hca hst hro hse
  have hb3 : Below w.heap.size w ((w.alloc (.cells #[.int .i64 s.id, .string s.fr, .string s.dst, .int .i64 s.dep, .int .i64 s.arr, .slice la s.la.n lc, .slice ca s.ca.n cc, .int .i64 s.most] 54)).alloc (.cells #[.slice ast l.stn cst, .slice aro l.ron cro, .slice ase l.sen cse] 62)) := push (push (Below.refl _ _) _) _
  have bS : ((w.alloc (.cells #[.int .i64 s.id, .string s.fr, .string s.dst, .int .i64 s.dep, .int .i64 s.arr, .slice la s.la.n lc, .slice ca s.ca.n cc, .int .i64 s.most] 54)).alloc (.cells #[.slice ast l.stn cst, .slice aro l.ron cro, .slice ase l.sen cse] 62)).heap[w.heap.size]? = some (.cells #[.int .i64 s.id, .string s.fr, .string s.dst, .int .i64 s.dep, .int .i64 s.arr, .slice la s.la.n lc, .slice ca s.ca.n cc, .int .i64 s.most] 54 (0, 0)) := blk_alloc (heap_alloc_new w _) _
  have bL : ((w.alloc (.cells #[.int .i64 s.id, .string s.fr, .string s.dst, .int .i64 s.dep, .int .i64 s.arr, .slice la s.la.n lc, .slice ca s.ca.n cc, .int .i64 s.most] 54)).alloc (.cells #[.slice ast l.stn cst, .slice aro l.ron cro, .slice ase l.sen cse] 62)).heap[w.heap.size + 1]? = some (.cells #[.slice ast l.stn cst, .slice aro l.ron cro, .slice ase l.sen cse] 62 (0, 0)) := by simpa using heap_alloc_new (w.alloc _) _
  go_enter Tryz.func68, Tryz.ntmps68
  go_wp2_with fail
  generalize (w.alloc (.cells #[.int .i64 s.id, .string s.fr, .string s.dst, .int .i64 s.dep, .int .i64 s.arr, .slice la s.la.n lc, .slice ca s.ca.n cc, .int .i64 s.most] 54)).alloc (.cells #[.slice ast l.stn cst, .slice aro l.ron cro, .slice ase l.sen cse] 62) = V at hb3 bS bL ⊢
  refine (implFree_any la ast s.la.n lc l.stn cst s.la l.st _ rfl HSS.out.1 HLH.out.1 HST.out.2 (HLA.out.below hb3) (HST.out.1.below hb3)).mono ?_
  rintro e W1 ⟨⟨v1, rfl, ho1⟩, hbv⟩
  rw [freeLen_yes ((deck_iff _ _ _).1 HP.out.1)] at ho1
  rw [deckOk_yes ((deck_iff _ _ _).1 HP.out.1)]
  have HO1 : Hid (W1.ownsRow w.heap.size 3 1 v1 s.la.n (intList (left s.la l.st l.stn) s.la.n)) := own_base ho1 hb3.size
  have bS1 := blk_below bS hbv
  have bL1 := blk_below bL hbv
  have hb4 := after hb3 hbv
  clear bS bL hb3 hbv ho1
  have s6 := blk_cell bS1 6 _ rfl
  have l1 := blk_cell bL1 1 _ rfl
  go_wp2_with fail
  refine (implBerths_any ca aro s.ca.n cc l.ron cro s.ca l.ro _ rfl HSS.out.2 HLH.out.2.1 HRO.out.2 (HCA.out.below hb4) (HRO.out.1.below hb4)).mono ?_
  rintro e W2 ⟨⟨v2, rfl, ho2⟩, hbv⟩
  rw [berthsLen_yes HP.out.2.1] at ho2
  rw [roomsOk_yes HP.out.2.1]
  have HO2 : Hid (W2.ownsRow w.heap.size 3 1 v2 s.ca.n (intList (leftR s.ca l.ro l.ron) s.ca.n)) := own_base ho2 hb4.size
  have HAP : Hid (∀ b, v1.ownBlock = some b → v2.ownBlock ≠ some b) := fun b h1 h2 => by
    have a := (HO1.out.lt b h1).2
    have c := (ho2.lt b h2).1
    omega
  have HO3 : Hid (W2.ownsRow w.heap.size 3 1 v1 s.la.n (intList (left s.la l.st l.stn) s.la.n)) := own_below hbv HO1.out
  have bS2 := blk_below bS1 hbv
  have bL2 := blk_below bL1 hbv
  have hb5 := after hb4 hbv
  clear bS1 bL1 hb4 hbv s6 l1 ho2 HO1
  have s7 := blk_cell bS2 7 _ rfl
  have l2 := blk_cell bL2 2 _ rfl
  go_wp2_with fail
  refine (freeSeats_any s.most ase l.sen cse l.se _ (by have := HLH.out.2.2; omega) HSE.out.2 (HSE.out.1.below hb5)).mono ?_
  rintro e W3 ⟨he, hbv⟩
  have he2 : e = .returned (.tuple #[.int .i64 (s.most - sits l.se l.sen), .bool true]) := by
    rcases he with ⟨_, rfl⟩ | ⟨h, _⟩
    · rfl
    · exact absurd HP.out.2.2 h
  subst he2
  clear he s7 l2 bS2 bL2
  go_wp2
  exact bodyPost_ret (v := .tuple #[v1, v2, .int .i64 (s.most - sits l.se l.sen)]) (by simp [results, Tryz.results68, go_sem]) rfl ⟨⟨v1, v2, rfl, own_below hbv HO3.out, own_below hbv HO2.out, HAP.out⟩, after hb5 hbv⟩
end Go.Proofs.YtlelckbeoclhbaaGreat

namespace Go.Proofs.YtlelckbeoclhbaaGreat
open Go.RowKit Classical
noncomputable def viewW (x : Off) : ViewW where
  bn := x.bkn
  bk := x.bk
  N := x.san
  rn := fun i => (rowsL (x.ld i) x.bk (x.sa i).id x.bkn).length
  rf := fun i => nthR (rowsL (x.ld i) x.bk (x.sa i).id x.bkn)
  ln := fun i => (x.sa i).la.n
  lf := fun i => left (x.sa i).la (x.ld i).st (x.ld i).stn
  qn := fun i => (x.sa i).ca.n
  qf := fun i => leftR (x.sa i).ca (x.ld i).ro (x.ld i).ron
  pf := fun i => (x.sa i).most - sits (x.ld i).se (x.ld i).sen
def noView : ViewW := ⟨0, fun _ => ⟨0, 0, ⟨#[]⟩, 0, fun _ => 0, 0, 0, 0, 0, false, 0, 0, 0, 0⟩, 0, fun _ => 0, fun _ _ => ⟨0, ⟨#[]⟩, 0, 0, 0⟩, fun _ => 0, fun _ _ => 0, fun _ => 0, fun _ _ => 0, fun _ => 0⟩
noncomputable def viewA (x : Off) : ViewW := if OffOk x then viewW x else noView
theorem viewA_yes {x : Off} (h : OffOk x) : viewA x = viewW x := if_pos h
theorem viewA_no {x : Off} (h : ¬ OffOk x) : viewA x = noView := if_neg h
theorem viewW_short {x : Off} (h : OffOk x) (hs : Off.Short x 1048576) : VShort (viewW x) := by
  have h1 := h.2.2.1
  have h2 := h.1.1
  refine ⟨by show x.bkn ≤ 1000; omega, hs.2.2.2, by show x.san ≤ 1000; omega, fun i hi => ?_, fun i hi => (hs.1.2 i hi).2.2.1, fun i hi => (hs.1.2 i hi).2.2.2⟩
  have := rowsL_le (x.ld i) x.bk (x.sa i).id x.bkn
  show (rowsL (x.ld i) x.bk (x.sa i).id x.bkn).length ≤ 1048576
  omega
theorem viewA_short {x : Off} (hs : Off.Short x 1048576) : VShort (viewA x) := by
  by_cases h : OffOk x
  · rw [viewA_yes h]; exact viewW_short h hs
  · rw [viewA_no h]; exact ⟨Nat.zero_le _, fun i hi => absurd hi (Nat.not_lt_zero _), Nat.zero_le _, fun i hi => absurd hi (Nat.not_lt_zero _), fun i hi => absurd hi (Nat.not_lt_zero _), fun i hi => absurd hi (Nat.not_lt_zero _)⟩
theorem ids_up {x : Off} (h : OffOk x) : ∀ i j, i < j → j < x.san → (x.sa i).id < (x.sa j).id := by
  intro i j hij
  induction j with
  | zero => omega
  | succ j ih =>
    intro hj
    have h1 := (h.1.2 (j + 1) hj).2 (by omega)
    have h1 : (x.sa j).id < (x.sa (j + 1)).id := h1
    by_cases e : i = j
    · subst e; exact h1
    · have := ih (by omega) (by omega); omega
structure SVt (W0 u : World) (base : Nat) (V : ViewW) (k1 k2 k3 k4 sb st : Nat) (sc : Array Value) (vb vr vl vq vp ur ul uq up : Value) (E R L Q : Nat → Value) : Prop where
  vt : VTo u base W0.heap.size V k1 k2 k3 k4 vb vr vl vq vp E R L Q
  box : u.heap[W0.heap.size]? = some (.cells #[vb, ur, ul, uq, up] 33 (0, 0))
  sbx : u.heap[sb]? = some (.cells sc st (0, 0))
  bel : Below W0.heap.size W0 u
  lt : W0.heap.size < sb
section
variable {W0 u u' : World} {base : Nat} {V : ViewW} {k1 k2 k3 k4 sb st : Nat} {sc : Array Value} {vb vr vl vq vp ur ul uq up : Value} {E R L Q : Nat → Value}
theorem SVt.below (h : SVt W0 u base V k1 k2 k3 k4 sb st sc vb vr vl vq vp ur ul uq up E R L Q) (hb : Below u.heap.size u u') : SVt W0 u' base V k1 k2 k3 k4 sb st sc vb vr vl vq vp ur ul uq up E R L Q :=
  ⟨h.vt.below hb, blk_below h.box hb, blk_below h.sbx hb, h.bel.trans (hb.mono (blk_lt h.box |> Nat.le_of_lt)), h.lt⟩
theorem SVt.grow {v : Value} {e sz n : Nat} {xs : List Value} (h : SVt W0 u base V k1 k2 k3 k4 sb st sc vb vr vl vq vp ur ul uq up E R L Q) (ho : u.ownsRow W0.heap.size e sz v n xs) (hg : u.grownBy u' v.ownBlock) (h1 : e ≠ 33) (h2 : e ≠ st) :
    u'.heap[W0.heap.size]? = some (.cells #[vb, ur, ul, uq, up] 33 (0, 0)) ∧ u'.heap[sb]? = some (.cells sc st (0, 0)) ∧ Below W0.heap.size W0 u' :=
  ⟨(kept_row hg).blk h.box (fun q => own_notE ho h.box h1 _ q rfl), (kept_row hg).blk h.sbx (fun q => own_notE ho h.sbx h2 _ q rfl), h.bel.grown hg h.bel.size (fun j hj => (ho.lt j hj).1)⟩
theorem SVt.sto (h : SVt W0 u base V k1 k2 k3 k4 sb st sc vb vr vl vq vp ur ul uq up E R L Q) (i : Nat) (v : Value) :
    VTo (u.setCell ⟨W0.heap.size, i, none⟩ v) base W0.heap.size V k1 k2 k3 k4 vb vr vl vq vp E R L Q ∧ (u.setCell ⟨W0.heap.size, i, none⟩ v).heap[W0.heap.size]? = some (.cells (#[vb, ur, ul, uq, up].setIfInBounds i v) 33 (0, 0)) ∧ (u.setCell ⟨W0.heap.size, i, none⟩ v).heap[sb]? = some (.cells sc st (0, 0)) ∧ Below W0.heap.size W0 (u.setCell ⟨W0.heap.size, i, none⟩ v) := by
  have hk : Kept u (u.setCell ⟨W0.heap.size, i, none⟩ v) (fun b => b = W0.heap.size) := (Kept.refl u (fun b => b = W0.heap.size)).set (a := ⟨W0.heap.size, i, none⟩) rfl _
  refine ⟨h.vt.other hk (fun b e => ?_), blk_set h.box i v, hk.blk h.sbx (fun e => ?_), h.bel.setCell (p := ⟨W0.heap.size, i, none⟩) (Nat.le_refl _) _⟩
  · have e : b = W0.heap.size := e
    subst e
    exact ⟨_, _, h.box, by decide, by decide, by decide, by decide, by decide⟩
  · have e : sb = W0.heap.size := e
    have := h.lt
    omega
end
end Go.Proofs.YtlelckbeoclhbaaGreat

namespace Go.Proofs.YtlelckbeoclhbaaGreat
open Go.RowKit
section
variable {F : Fence} {n : Nat} {P : Program}
def SeqFit {α : Type} (F : Fence) (n : Nat) (P : Program) (g : Nat) (lb : Array Value) (encs : α → Array Value) (Kp : World → World → Prop) (Fit : Nat → α → Nat → World → Prop) (N : Nat) (w : World) : Prop :=
  ∀ (l : Nat) (J : List α → World → Prop) (W : World), Below w.heap.size w W → AbidesFrom W.heap.size J →
    (∀ pre x W0 W1, J pre W0 → Below W0.heap.size W0 W1 → J pre W1 → Fit pre.length x W0.heap.size W1 → YieldAt F (n - 1) P l (encs x) W1 fun e W' => e = .returned (.bool true) ∧ J (pre ++ [x]) W' ∧ Kp W1 W') →
    J [] W → CallsIn F n P g (#[.func (.yield l) #[] #[]] ++ lb) W fun e W' => (∃ v, e = .returned v) ∧ ∃ xs : List α, xs.length = N ∧ J xs W'
def fitPost {α : Type} (Kp : World → World → Prop) (I : List α → World → Prop) (xs : List α) (W : World) : Exit → Act → World → Prop
  | .normal, _, W' => KeepsOthers W W' ∧ Kp W W' ∧ I xs W'
  | _, _, _ => False
theorem range_fit {α : Type} {g : Operand} {ps : Array Tmp} {assign body : Code} {Q : Exit → Act → World → Prop} {a : Act} {w : World} (hro : F.round = none) (h1 : 1 ≤ n) {gf : Nat} {lb : Array Value} (hg : a.eval g = .func (.func gf) #[] lb) (hFg : F.fn gf)
    (eg : ∀ args w, (callFunc gf args).run P w = .ok (.enter gf args) w) {encs : α → Array Value} {Kp : World → World → Prop} {Fit : Nat → α → Nat → World → Prop} {N : Nat} {w0 : World} (hseq : SeqFit F (n - 1) P gf lb encs Kp Fit N w0)
    (hKt : ∀ {A B C : World}, Kp A B → Kp B C → Kp A C) (hKb : ∀ (W : World) (l : Nat) (o o' : Obj), w.heap.size ≤ l → W.heap[l]? = some o → o.isCells = false → o.isWalk = false → Kp W (W.putObj l o')) (hb0 : Below w0.heap.size w0 w) (hps : ∀ x, (encs x).size = ps.size)
    (I : List α → World → Prop) (I2 : List α → α → World → Prop) (Ax : List α → α → Act → World → Prop) (hI : OwnFrom w.heap.size I) (hAx : ∀ x a', OwnFrom w.heap.size (fun pre W => Ax pre x a' W)) (h0 : I [] w)
    (hfit : ∀ pre x W0 W1, I pre W0 → Below W0.heap.size W0 W1 → I pre W1 → Fit pre.length x W0.heap.size W1 → I2 pre x W1)
    (hassign : ∀ (l : Nat) (pre : List α) (x : α) (W : World) (K : Act → World → Prop), I2 pre x W → (∀ a' W', Ax pre x a' W' → KeepsOthers W W' → Kp W W' → K a' W') → assign.wpIn (F.inRound l) (n - 1 - 1) P (Exit.then K (fun _ _ _ => False)) { tmps := (ps.zip (encs x)).foldl (fun t (p, v) => t.setIfInBounds p v) a.tmps, defers := [] } W)
    (hbody : ∀ (l : Nat) (pre : List α) (x : α) (a' : Act) (W : World), Ax pre x a' W → body.wpIn (F.inRound l) (n - 1 - 1) P (fitPost Kp I (pre ++ [x]) W) a' W)
    (hdone : ∀ (D : Nat) (xs : List α) (W : World), w.heap.size ≤ D → xs.length = N → I xs W → W.heap[D]? = some (.deferred (some [])) → Q .normal { a with defers := { target := .collected D, args := #[] } :: a.defers } W) :
    (Code.rangeFunc g ps assign body).wpIn F n P Q a w := by
  refine wpIn_rangeFunc fun fn hfn => ?_
  rw [hro]
  obtain ⟨rec, hrec⟩ : ∃ rec : LoopState → Option Code → Loop, rec = fun st pe => { state := st, pending := pe, fn, tmps := a.tmps, params := ps, assign, body, defers := w.heap.size } := ⟨_, rfl⟩
  obtain ⟨V, hV⟩ : ∃ V, (w.alloc (.deferred (some []))).alloc (.loop (rec .ready none)) = V := ⟨_, rfl⟩
  have sV : V.heap.size = w.heap.size + 2 := by rw [← hV]; simp
  have lV : V.heap[w.heap.size + 1]? = some (.loop (rec .ready none)) := by
    have h := World.alloc_heap_new (w.alloc (.deferred (some []))) (.loop (rec .ready none))
    rw [World.size_alloc] at h
    rw [← hV]; exact h
  have dV : V.heap[w.heap.size]? = some (.deferred (some [])) := by rw [← hV]; exact (Below.heap_alloc _ _ _ (by simp)).trans (World.alloc_heap_new w _)
  have iV : I [] V := by rw [← hV]; exact hI.alloc _ (hI.alloc _ h0)
  have bV : Below w0.heap.size w0 V := by rw [← hV]; exact hb0.trans ((((Below.refl _ w).alloc (Nat.le_refl _) _).alloc (by simp) _).mono hb0.size)
  refine ⟨w.heap.size + 1, [{ target := .collected w.heap.size, args := #[] }], V, { target := .fn (.func gf) lb, args := #[.func (.yield (w.heap.size + 1)) #[] #[]] }, V, gf, #[.func (.yield (w.heap.size + 1)) #[] #[]] ++ lb, V, ?_, ?_, ?_, ?_, fun _ => h1, ?_⟩
  · rw [← hV, hrec]; exact run_enterLoop_outer _ _ _ _ _
  · simp only [resolve, hg]
    simp [go_sem]
  · intro f' hf'
    simp [Target.leads] at hf'
    subst hf'
    exact hFg
  · simp [invoke, go_sem, eg]
  · refine (hseq (w.heap.size + 1) (fun pre W => I pre W ∧ W.heap[w.heap.size + 1]? = some (.loop (rec .ready none)) ∧ W.heap[w.heap.size]? = some (.deferred (some []))) V bV (fun s A B row hs hg' hr => ?_) ?_ ⟨iV, lV, dV⟩).mono ?_
    · refine ⟨hI s A B row hs.1 hg' (fun r e => ?_), (grownBy_keeps hg' (fun r e => (hr r e).2) hs.2.1 rfl).trans hs.2.1, (grownBy_keeps hg' (fun r e => (hr r e).2) hs.2.2 rfl).trans hs.2.2⟩
      obtain ⟨hB, o, ho, hw⟩ := hr r e
      exact ⟨by omega, o, ho, Obj.not_cells_of_walk hw⟩
    · rintro pre x W0 W ⟨hi0, hl0, _⟩ hb01 ⟨hi, hl, hk⟩ hf
      have h2 : I2 pre x W := hfit pre x W0 W hi0 hb01 hi hf
      have hy := run_yield (P := P) (args := encs x) hl (by rw [hrec]; exact hps x)
      rw [hrec] at hy
      refine ⟨fn, _, assign, body, hy, roundIn_of_wpIn hfn (hassign _ pre x W _ h2 fun a' V1 hax hko hkp => ?_)⟩
      have hl1 := hko.same _ _ hl rfl
      have hk1 := hko.same _ _ hk rfl
      have hlt1 : w.heap.size + 1 < V1.heap.size := (Array.getElem?_eq_some_iff.1 hl1).1
      refine ⟨_, run_beginRound hl1 (by rw [hrec]), ?_⟩
      have hl2 : (V1.putObj (w.heap.size + 1) (.loop { rec .ready none with state := .busy })).heap[w.heap.size + 1]? = some (.loop { rec .ready none with state := .busy }) := World.putObj_heap_same hlt1
      have hk2 : (V1.putObj (w.heap.size + 1) (.loop { rec .ready none with state := .busy })).heap[w.heap.size]? = some (.deferred (some [])) := (World.putObj_heap_other (by omega)).trans hk1
      refine wpIn_mono (hbody _ pre x a' _ ((hAx x a').putObj _ hax (by omega) hl1 rfl)) ?_
      rintro e a3 W3 hp
      cases e with
      | normal =>
        obtain ⟨hk3, hkp3, hi3⟩ := hp
        have hl3 := hk3.same _ _ hl2 rfl
        have hr := run_endRound (P := P) none hl3
        refine ⟨_, _, hr, rfl, ⟨hI.putObj _ hi3 (by omega) hl3 rfl, ?_, ?_⟩, hKt (hKt (hKt hkp (hKb _ _ _ _ (by omega) hl1 rfl rfl)) hkp3) (hKb _ _ _ _ (by omega) hl3 rfl rfl)⟩
        · rw [hrec] at hl3 ⊢
          exact World.putObj_heap_same (Array.getElem?_eq_some_iff.1 hl3).1
        · exact (World.putObj_heap_other (by omega)).trans (hk3.same _ _ hk2 rfl)
      | ret => exact hp.elim
      | exit id => exact hp.elim
      | goto t => exact hp.elim
      | panic ch => exact hp.elim
      | outgrown => exact hp.elim
    · rintro e W2 ⟨⟨v, rfl⟩, xs, hS, hi, hl, hk⟩
      have hr := run_endLoop (P := P) hl (by rw [hrec]; simp)
      rw [hrec] at hr
      exact ⟨none, _, hr, hdone _ xs _ (Nat.le_refl _) hS (hI.putObj _ hi (by omega) hl rfl) ((World.putObj_heap_other (by omega)).trans hk)⟩
end
end Go.Proofs.YtlelckbeoclhbaaGreat
