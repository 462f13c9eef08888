/-
  OWN TEXT: FreeL, LeftOn, SightI, KitSee.
-/
import Derived.Shelf.Abstract
import Derived.WalkKit
import Derived.OwnWalkIn
import Derived.TacticsInMore
import Derived.LoopNIn
import Derived.LoopIn
import Derived.Deep.DeepCutAuto
import Derived.Deep.RegionHeld3
import Derived.Test.YtlelckbeoclhbaaGreatB26
import Derived.Test.YtlelckbeoclhbaaGreatB24
import Derived.Test.YtlelckbeoclhbaaGreatB25
import Derived.Test.YtlelckbeoclhbaaGreatB16
import Derived.Test.YtlelckbeoclhbaaGreatB41
import Derived.Test.YtlelckbeoclhbaaGreatB27
set_option maxHeartbeats 12800000
set_option maxRecDepth 100000
namespace Go.Proofs.YtlelckbeoclhbaaGreat
open Go.RowKit
theorem four_ints {w : World} {f t m : Nat} {F G : Nat → Int} (h : w.heap[f]? = some (.cells #[.int .i64 (F 0), .int .i64 (F 1), .int .i64 (F 2), .int .i64 (F 3)] t (0, 0))) (hm : m ≤ 4) (hF : ∀ k, k < m → F k = G k) : IntsAt w (some ⟨f, 0, none⟩) m G := by
  intro k hk
  refine ⟨f, 0, rfl, ?_⟩
  rw [Nat.zero_add, ← hF k hk]
  have : k = 0 ∨ k = 1 ∨ k = 2 ∨ k = 3 := by omega
  rcases this with rfl | rfl | rfl | rfl
  · exact blk_cell h 0 _ rfl
  · exact blk_cell h 1 _ rfl
  · exact blk_cell h 2 _ rfl
  · exact blk_cell h 3 _ rfl
theorem implFree_any (ao bo : Option Addr) (m mc n c : Nat) (p : Pairs) (S : Nat → Stay) (w : World) (hl : p.n = m) (hm : m ≤ 1048576) (hn : n ≤ 1048576) (hc : n ≤ c) (hx : PairsAt w ao p) (hz : StaysAt w bo n S) :
    Calls Tryz.prog 121 #[.slice ao m mc, .slice bo n c] w fun e w' => FreeRes w' w.heap.size p n S e ∧ Below w.heap.size w w' := by
  have HX : Hid (PairsAt w ao p) := hx
  have HZ : Hid (StaysAt w bo n S) := hz
  have HL : Hid (p.n = m) := hl
  clear hx hz hl
  go_enter Tryz.func121, Tryz.ntmps121
  go_wp2_with fail
  refine (freeOnDeck_any ao bo m mc n c p S _ HL.out hm hn hc HX.out HZ.out).mono ?_
  rintro e w1 ⟨hans, hb1⟩
  unfold FreeAns four at hans
  rcases hans with ⟨hd, rfl⟩ | ⟨hd, rfl⟩
  · have HD : Hid (DeckI p n S) := hd
    have hm4 : m ≤ 4 := by rw [← HL.out]; exact hd.1.1
    clear hd
    have i1 : (0 : Int) ≤ (m : Int) := by omega
    have i2 : (m : Int) ≤ 4 := by omega
    have hb2 := push hb1 (.cells #[.int .i64 (freeAt p S n 0), .int .i64 (freeAt p S n 1), .int .i64 (freeAt p S n 2), .int .i64 (freeAt p S n 3)] 204)
    have HI : Hid (IntsAt (w1.alloc (.cells #[.int .i64 (freeAt p S n 0), .int .i64 (freeAt p S n 1), .int .i64 (freeAt p S n 2), .int .i64 (freeAt p S n 3)] 204)) (some ⟨w1.heap.size, 0, none⟩) m (left p S n)) := four_ints (heap_alloc_new w1 _) hm4 (fun k hk => if_pos (by rw [HL.out]; exact hk))
    go_wp2_with (first | (go_at_call 66; refine (cloneInts _ m _ (left p S n) _ hm HI.out).mono ?_; rintro e w2 ⟨⟨v, rfl, ho⟩, hb3⟩))
    exact bodyPost_ret (v := .tuple #[v, .bool true]) (by simp [results, Tryz.results121, go_sem]) rfl ⟨freeRes_yes HD.out HL.out (own_base ho hb2.size), after hb2 hb3⟩
  · have HD : Hid (¬ DeckI p n S) := hd
    clear hd
    go_wp2
    exact bodyPost_ret (v := .tuple #[.slice none 0 0, .bool false]) (by simp [results, Tryz.results121, go_sem]) rfl ⟨freeRes_no HD.out, push hb1 _⟩
end Go.Proofs.YtlelckbeoclhbaaGreat

namespace Go.Proofs.YtlelckbeoclhbaaGreat
open Go.RowKit Classical
def OnV (s : Sail) (l : Load) (base ti : Nat) (e : Ending) (w : World) : Prop :=
  ∃ v1 v2, e = .returned (.tuple #[v1, v2, .int .i64 (s.most - sits l.se l.sen)]) ∧ w.ownsRow base ti 1 v1 s.la.n (intList (left s.la l.st l.stn) s.la.n) ∧ w.ownsRow base ti 1 v2 s.ca.n (intList (leftR s.ca l.ro l.ron) s.ca.n) ∧ ∀ b, v1.ownBlock = some b → v2.ownBlock ≠ some b
theorem leftOn_any (s : Sail) (l : Load) (la ca ast aro ase : Option Addr) (lc cc cst cro cse : Nat) (w : World) (hp : LoadOk s l) (hss : s.la.n ≤ 1048576 ∧ s.ca.n ≤ 1048576) (hlh : Load.Short l 1048576) (hla : PairsAt w la s.la) (hca : PairsAt w ca s.ca)
    (hst : StaysAt w ast l.stn l.st ∧ l.stn ≤ cst) (hro : RoomsAt w aro l.ron l.ro ∧ l.ron ≤ cro) (hse : SeatsAt w ase l.sen l.se ∧ l.sen ≤ cse) :
    Calls Tryz.prog 68 #[.agg #[.int .i64 s.id, .string s.fr, .string s.dst, .int .i64 s.dep, .int .i64 s.arr, .slice la s.la.n lc, .slice ca s.ca.n cc, .int .i64 s.most], .agg #[.slice ast l.stn cst, .slice aro l.ron cro, .slice ase l.sen cse]] w fun e w' => OnV s l w.heap.size 3 e w' ∧ Below w.heap.size w w' := by
  have HP : Hid (LoadOk s l) := hp
  have HSS : Hid (s.la.n ≤ 1048576 ∧ s.ca.n ≤ 1048576) := hss
  have HLH : Hid (Load.Short l 1048576) := hlh
  have HLA : Hid (PairsAt w la s.la) := hla
  have HCA : Hid (PairsAt w ca s.ca) := hca
  have HST : Hid (StaysAt w ast l.stn l.st ∧ l.stn ≤ cst) := hst
  have HRO : Hid (RoomsAt w aro l.ron l.ro ∧ l.ron ≤ cro) := hro
  have HSE : Hid (SeatsAt w ase l.sen l.se ∧ l.sen ≤ cse) := hse
  clear hp hss hlh hla hca hst hro hse
  have hb3 : Below w.heap.size w ((w.alloc (.cells #[.int .i64 s.id, .string s.fr, .string s.dst, .int .i64 s.dep, .int .i64 s.arr, .slice la s.la.n lc, .slice ca s.ca.n cc, .int .i64 s.most] 54)).alloc (.cells #[.slice ast l.stn cst, .slice aro l.ron cro, .slice ase l.sen cse] 62)) := push (push (Below.refl _ _) _) _
  have bS : ((w.alloc (.cells #[.int .i64 s.id, .string s.fr, .string s.dst, .int .i64 s.dep, .int .i64 s.arr, .slice la s.la.n lc, .slice ca s.ca.n cc, .int .i64 s.most] 54)).alloc (.cells #[.slice ast l.stn cst, .slice aro l.ron cro, .slice ase l.sen cse] 62)).heap[w.heap.size]? = some (.cells #[.int .i64 s.id, .string s.fr, .string s.dst, .int .i64 s.dep, .int .i64 s.arr, .slice la s.la.n lc, .slice ca s.ca.n cc, .int .i64 s.most] 54 (0, 0)) := blk_alloc (heap_alloc_new w _) _
  have bL : ((w.alloc (.cells #[.int .i64 s.id, .string s.fr, .string s.dst, .int .i64 s.dep, .int .i64 s.arr, .slice la s.la.n lc, .slice ca s.ca.n cc, .int .i64 s.most] 54)).alloc (.cells #[.slice ast l.stn cst, .slice aro l.ron cro, .slice ase l.sen cse] 62)).heap[w.heap.size + 1]? = some (.cells #[.slice ast l.stn cst, .slice aro l.ron cro, .slice ase l.sen cse] 62 (0, 0)) := by simpa using heap_alloc_new (w.alloc _) _
  go_enter Tryz.func68, Tryz.ntmps68
  go_wp2_with fail
  generalize (w.alloc (.cells #[.int .i64 s.id, .string s.fr, .string s.dst, .int .i64 s.dep, .int .i64 s.arr, .slice la s.la.n lc, .slice ca s.ca.n cc, .int .i64 s.most] 54)).alloc (.cells #[.slice ast l.stn cst, .slice aro l.ron cro, .slice ase l.sen cse] 62) = V at hb3 bS bL ⊢
  refine (implFree_any la ast s.la.n lc l.stn cst s.la l.st _ rfl HSS.out.1 HLH.out.1 HST.out.2 (HLA.out.below hb3) (HST.out.1.below hb3)).mono ?_
  rintro e W1 ⟨⟨v1, rfl, ho1⟩, hbv⟩
  rw [freeLen_yes ((deck_iff _ _ _).1 HP.out.1)] at ho1
  rw [deckOk_yes ((deck_iff _ _ _).1 HP.out.1)]
  have HO1 : Hid (W1.ownsRow w.heap.size 3 1 v1 s.la.n (intList (left s.la l.st l.stn) s.la.n)) := own_base ho1 hb3.size
  have bS1 := blk_below bS hbv
  have bL1 := blk_below bL hbv
  have hb4 := after hb3 hbv
  clear bS bL hb3 hbv ho1
  have s6 := blk_cell bS1 6 _ rfl
  have l1 := blk_cell bL1 1 _ rfl
  go_wp2_with fail
  refine (implBerths_any ca aro s.ca.n cc l.ron cro s.ca l.ro _ rfl HSS.out.2 HLH.out.2.1 HRO.out.2 (HCA.out.below hb4) (HRO.out.1.below hb4)).mono ?_
  rintro e W2 ⟨⟨v2, rfl, ho2⟩, hbv⟩
  rw [berthsLen_yes HP.out.2.1] at ho2
  rw [roomsOk_yes HP.out.2.1]
  have HO2 : Hid (W2.ownsRow w.heap.size 3 1 v2 s.ca.n (intList (leftR s.ca l.ro l.ron) s.ca.n)) := own_base ho2 hb4.size
  have HAP : Hid (∀ b, v1.ownBlock = some b → v2.ownBlock ≠ some b) := fun b h1 h2 => by
    have a := (HO1.out.lt b h1).2
    have c := (ho2.lt b h2).1
    omega
  have HO3 : Hid (W2.ownsRow w.heap.size 3 1 v1 s.la.n (intList (left s.la l.st l.stn) s.la.n)) := own_below hbv HO1.out
  have bS2 := blk_below bS1 hbv
  have bL2 := blk_below bL1 hbv
  have hb5 := after hb4 hbv
  clear bS1 bL1 hb4 hbv s6 l1 ho2 HO1
  have s7 := blk_cell bS2 7 _ rfl
  have l2 := blk_cell bL2 2 _ rfl
  go_wp2_with fail
  refine (freeSeats_any s.most ase l.sen cse l.se _ (by have := HLH.out.2.2; omega) HSE.out.2 (HSE.out.1.below hb5)).mono ?_
  rintro e W3 ⟨he, hbv⟩
  have he2 : e = .returned (.tuple #[.int .i64 (s.most - sits l.se l.sen), .bool true]) := by
    rcases he with ⟨_, rfl⟩ | ⟨h, _⟩
    · rfl
    · exact absurd HP.out.2.2 h
  subst he2
  clear he s7 l2 bS2 bL2
  go_wp2
  exact bodyPost_ret (v := .tuple #[v1, v2, .int .i64 (s.most - sits l.se l.sen)]) (by simp [results, Tryz.results68, go_sem]) rfl ⟨⟨v1, v2, rfl, own_below hbv HO3.out, own_below hbv HO2.out, HAP.out⟩, after hb5 hbv⟩
end Go.Proofs.YtlelckbeoclhbaaGreat

namespace Go.Proofs.YtlelckbeoclhbaaGreat
open Go.RowKit Go.Shelf Classical
abbrev SightV := Value × Value × Value × Int
def encS (v : SightV) : Array Value := #[.agg #[v.1, v.2.1, v.2.2.1, .int .i64 v.2.2.2]]
structure FitS (x : Off) (k : Nat) (v : SightV) (s0 : Nat) (W : World) : Prop where
  lt : k < x.san
  row : W.ownsRow s0 116 5 v.1 ((viewW x).rn k) (rowList ((viewW x).rf k) ((viewW x).rn k))
  lan : W.ownsRow s0 3 1 v.2.1 ((viewW x).ln k) (intList ((viewW x).lf k) ((viewW x).ln k))
  ber : W.ownsRow s0 3 1 v.2.2.1 ((viewW x).qn k) (intList ((viewW x).qf k) ((viewW x).qn k))
  far : ∀ b, v.2.1.ownBlock = some b → v.2.2.1.ownBlock ≠ some b
  peo : v.2.2.2 = (viewW x).pf k
def KpS (n0 ob : Nat) (W W' : World) : Prop := Below n0 W W' ∧ W'.heap[ob]? = W.heap[ob]?
theorem abides_below {J : List SightV → World → Prop} {B : Nat} (h : AbidesFrom B J) {pre : List SightV} {W W' : World} (hj : J pre W) (hb : Below W.heap.size W W') : J pre W' :=
  h pre W W' none hj ⟨hb.os, hb.tape, hb.output, hb.size, fun k hk _ => hb.block k hk⟩ (fun r e => by cases e)
attribute [local go_sem] Oper.semAt_some
theorem sights_fit (n : Nat) (x : Off) (asa ald abk : Option Addr) (csa cld cbk ob : Nat) (w v : World) (hok : OffOk x) (hs : Off.Short x 1048576) (hsa : SailsAt w asa x.san x.sa) (hld : LoadsAt w ald x.ldn x.ld) (hbk : BooksAt w abk x.bkn x.bk) (hbv : Below w.heap.size w v) (hb : v.heap[ob]? = some (.cells #[.slice asa x.san csa, .slice ald x.ldn cld, .slice abk x.bkn cbk] 39 (0, 0))) :
    SeqFit Fence.wide n Tryz.prog 67 #[.pointer (some ⟨ob, 0, none⟩)] encS (KpS w.heap.size ob) (FitS x) x.san v := fun l J W hW hJ hY h0 => by
  have HSH : Hid (Off.Short x 1048576) := hs
  have HSA : Hid (SailsAt w asa x.san x.sa) := hsa
  have HLD : Hid (LoadsAt w ald x.ldn x.ld) := hld
  have HBK : Hid (BooksAt w abk x.bkn x.bk) := hbk
  have HOK : Hid (OffOk x) := hok
  have hbn : x.bkn ≤ 30 := hok.2.2.1
  have hsn : x.san ≤ 6 := hok.1.1
  have HLN : Hid (x.ldn = x.san) := hok.2.1
  have HJ : Hid (AbidesFrom W.heap.size J) := hJ
  have HY : Hid _ := hY
  have bW := blk_below hb hW
  have hbW : Below w.heap.size w W := hbv.trans (hW.mono hbv.size)
  have x0 := blk_cell bW 0 _ rfl
  clear hs hsa hld hbk hok hY hJ hb hbv
  refine callsIn_of_wp Tryz.func67 rfl trivial ?_ rfl
  simp only [Tryz.ntmps67, List.size_toArray, List.length_cons, List.length_nil, Nat.reduceAdd, Nat.reduceSub, Array.replicate_succ, Array.replicate_zero, List.push_toArray, List.append_toArray, List.nil_append, List.cons_append]
  refine wpIn_wide.2 ?_
  go_wp2
  clear x0
  go_loopw [3, 4, 5, 6, 7, 11] (fun _ _ _ _ _ i wr => ∃ (k : Nat) (pre : List SightV), k ≤ x.san ∧ pre.length = k ∧ i = .int .i64 k ∧ Hid (J pre wr) ∧ Below w.heap.size w wr ∧ wr.heap[ob]? = some (.cells #[.slice asa x.san csa, .slice ald x.ldn cld, .slice abk x.bkn cbk] 39 (0, 0)) ∧ Hid (W.heap.size ≤ wr.heap.size)) (fun _ _ _ _ _ i _ => x.san - (intOf i).toNat)
  case atStart => exact ⟨0, [], Nat.zero_le _, rfl, rfl, h0, hbW, bW, Nat.le_refl _⟩
  case round =>
    clear h0 hbW bW
    obtain ⟨k, pre, hk, hpre, rfl, HJP, hbr, bO, HSZ⟩ := hrel
    by_cases hlt : k < x.san
    · --R
      obtain ⟨sgb, soff, la, lc, ca, cc, ea1, s0, s1, s2, s3, s4, s5, s6, s7, hla, hca, sla, sca⟩ := HSA.out k hlt
      subst ea1
      obtain ⟨CL, hCL, hIL⟩ := HLD.out
      obtain ⟨lb, lo, ea2, hcl⟩ := hCL k (by have := HLN.out; omega)
      subst ea2
      obtain ⟨ast, cst, aro, cro, ase, cse, eCL, hst, sst, hro, sro, hse, sse⟩ := hIL k (by have := HLN.out; omega)
      have hsb := World.block_lt_of_cell? w _ s1
      have llb : lb < w.heap.size := World.block_lt_of_cell? w _ (hcl 0 (by decide))
      have HLC : Hid (∀ u, Below w.heap.size w u → u.cell? ⟨lb, lo + k * 3, none⟩ = some (.slice ast (x.ld k).stn cst) ∧ u.cell? ⟨lb, lo + k * 3 + 1, none⟩ = some (.slice aro (x.ld k).ron cro) ∧ u.cell? ⟨lb, lo + k * 3 + 2, none⟩ = some (.slice ase (x.ld k).sen cse)) := fun u h =>
        ⟨(h.cell (p := ⟨lb, lo + k * 3, none⟩) llb).trans (by have := hcl 0 (by decide); rw [eCL] at this; exact this), (h.cell (p := ⟨lb, lo + k * 3 + 1, none⟩) llb).trans (by have := hcl 1 (by decide); rw [eCL] at this; exact this), (h.cell (p := ⟨lb, lo + k * 3 + 2, none⟩) llb).trans (by have := hcl 2 (by decide); rw [eCL] at this; exact this)⟩
      have HP : Hid (LoadOk (x.sa k) (x.ld k)) := HOK.out.2.2.2.1 k hlt
      have HRD : Hid (PairsAt w la (x.sa k).la ∧ PairsAt w ca (x.sa k).ca ∧ (StaysAt w ast (x.ld k).stn (x.ld k).st ∧ (x.ld k).stn ≤ cst) ∧ (RoomsAt w aro (x.ld k).ron (x.ld k).ro ∧ (x.ld k).ron ≤ cro) ∧ (SeatsAt w ase (x.ld k).sen (x.ld k).se ∧ (x.ld k).sen ≤ cse)) := ⟨hla, hca, ⟨hst, sst.1⟩, ⟨hro, sro.1⟩, hse, sse.1⟩
      have d0 := (hbr.cell (p := ⟨sgb, soff + k * 8, none⟩) hsb).trans s0
      have d1 := (hbr.cell (p := ⟨sgb, soff + k * 8 + 1, none⟩) hsb).trans s1
      have d2 := (hbr.cell (p := ⟨sgb, soff + k * 8 + 2, none⟩) hsb).trans s2
      have d3 := (hbr.cell (p := ⟨sgb, soff + k * 8 + 3, none⟩) hsb).trans s3
      have d4 := (hbr.cell (p := ⟨sgb, soff + k * 8 + 4, none⟩) hsb).trans s4
      have d5 := (hbr.cell (p := ⟨sgb, soff + k * 8 + 5, none⟩) hsb).trans s5
      have d6 := (hbr.cell (p := ⟨sgb, soff + k * 8 + 6, none⟩) hsb).trans s6
      have d7 := (hbr.cell (p := ⟨sgb, soff + k * 8 + 7, none⟩) hsb).trans s7
      have i1 : (k : Int) < (x.san : Int) := by omega
      have i2 : (k : Int) < (x.ldn : Int) := by have := HLN.out; omega
      have i0 : (0 : Int) ≤ (k : Int) := by omega
      have hb2 : Below w.heap.size w (wr.alloc (.cells #[.int .i64 (x.sa k).id, .string (x.sa k).fr, .string (x.sa k).dst, .int .i64 (x.sa k).dep, .int .i64 (x.sa k).arr, .slice la (x.sa k).la.n lc, .slice ca (x.sa k).ca.n cc, .int .i64 (x.sa k).most] 54)) := push hbr _
      have HB2 : Hid (Below wr.heap.size wr (wr.alloc (.cells #[.int .i64 (x.sa k).id, .string (x.sa k).fr, .string (x.sa k).dst, .int .i64 (x.sa k).dep, .int .i64 (x.sa k).arr, .slice la (x.sa k).la.n lc, .slice ca (x.sa k).ca.n cc, .int .i64 (x.sa k).most] 54))) := push (Below.refl _ _) _
      have bO2 := blk_alloc bO (.cells #[.int .i64 (x.sa k).id, .string (x.sa k).fr, .string (x.sa k).dst, .int .i64 (x.sa k).dep, .int .i64 (x.sa k).arr, .slice la (x.sa k).la.n lc, .slice ca (x.sa k).ca.n cc, .int .i64 (x.sa k).most] 54)
      have bS2 := heap_alloc_new wr (.cells #[.int .i64 (x.sa k).id, .string (x.sa k).fr, .string (x.sa k).dst, .int .i64 (x.sa k).dep, .int .i64 (x.sa k).arr, .slice la (x.sa k).la.n lc, .slice ca (x.sa k).ca.n cc, .int .i64 (x.sa k).most] 54)
      clear s0 s1 s2 s3 s4 s5 s6 s7 hla hca sla sca hst sst hro sro hse sse hCL hIL hcl eCL bO hbr
      go_upto_region 3 with fail
      generalize wr.alloc (.cells #[.int .i64 (x.sa k).id, .string (x.sa k).fr, .string (x.sa k).dst, .int .i64 (x.sa k).dep, .int .i64 (x.sa k).arr, .slice la (x.sa k).la.n lc, .slice ca (x.sa k).ca.n cc, .int .i64 (x.sa k).most] 54) = V2 at hb2 HB2 bO2 bS2 ⊢
      clear d0 d1 d2 d3 d4 d5 d6 d7
      obtain ⟨sb, hsbe⟩ : ∃ sb, sb = wr.heap.size := ⟨_, rfl⟩
      rw [← hsbe] at bS2 ⊢
      have HSBE : Hid (sb = wr.heap.size) := hsbe
      clear hsbe
      have KS : Hid (∀ w', Below V2.heap.size V2 w' → (w'.cell? ⟨ob, 1, none⟩ = some (.slice (some ⟨lb, lo, none⟩) x.ldn cld) ∧ w'.cell? ⟨sb, 0, none⟩ = some (.int .i64 (x.sa k).id) ∧ w'.cell? ⟨sb, 1, none⟩ = some (.string (x.sa k).fr) ∧ w'.cell? ⟨sb, 2, none⟩ = some (.string (x.sa k).dst) ∧ w'.cell? ⟨sb, 3, none⟩ = some (.int .i64 (x.sa k).dep) ∧ w'.cell? ⟨sb, 4, none⟩ = some (.int .i64 (x.sa k).arr) ∧ w'.cell? ⟨sb, 5, none⟩ = some (.slice la (x.sa k).la.n lc) ∧ w'.cell? ⟨sb, 6, none⟩ = some (.slice ca (x.sa k).ca.n cc) ∧ w'.cell? ⟨sb, 7, none⟩ = some (.int .i64 (x.sa k).most) ∧ w'.cell? ⟨lb, lo + k * 3, none⟩ = some (.slice ast (x.ld k).stn cst) ∧ w'.cell? ⟨lb, lo + k * 3 + 1, none⟩ = some (.slice aro (x.ld k).ron cro) ∧ w'.cell? ⟨lb, lo + k * 3 + 2, none⟩ = some (.slice ase (x.ld k).sen cse))) := fun w' h => by
        have g2 := blk_below bO2 h
        have g3 := blk_below bS2 h
        have g4 := HLC.out w' (hb2.trans (h.mono hb2.size))
        exact ⟨blk_cell g2 1 _ rfl, blk_cell g3 0 _ rfl, blk_cell g3 1 _ rfl, blk_cell g3 2 _ rfl, blk_cell g3 3 _ rfl, blk_cell g3 4 _ rfl, blk_cell g3 5 _ rfl, blk_cell g3 6 _ rfl, blk_cell g3 7 _ rfl, g4.1, g4.2.1, g4.2.2⟩
      have HC : Hid (∀ w', Below V2.heap.size V2 w' → Calls Tryz.prog 68 #[.agg #[.int .i64 (x.sa k).id, .string (x.sa k).fr, .string (x.sa k).dst, .int .i64 (x.sa k).dep, .int .i64 (x.sa k).arr, .slice la (x.sa k).la.n lc, .slice ca (x.sa k).ca.n cc, .int .i64 (x.sa k).most], .agg #[.slice ast (x.ld k).stn cst, .slice aro (x.ld k).ron cro, .slice ase (x.ld k).sen cse]] w' fun e w2 => OnV (x.sa k) (x.ld k) w'.heap.size 3 e w2 ∧ Below w'.heap.size w' w2) := fun w' h =>
        leftOn_any (x.sa k) (x.ld k) la ca ast aro ase lc cc cst cro cse w' HP.out ⟨(HSH.out.1.2 k hlt).2.2.1, (HSH.out.1.2 k hlt).2.2.2⟩ (HSH.out.2.1.2 k (by have := HLN.out; omega)) (HRD.out.1.below (after hb2 h)) (HRD.out.2.1.below (after hb2 h)) ⟨HRD.out.2.2.1.1.below (after hb2 h), HRD.out.2.2.1.2⟩ ⟨HRD.out.2.2.2.1.1.below (after hb2 h), HRD.out.2.2.2.1.2⟩ ⟨HRD.out.2.2.2.2.1.below (after hb2 h), HRD.out.2.2.2.2.2⟩
      go_region_held3 (fun w' => (w'.cell? ⟨ob, 1, none⟩ = some (.slice (some ⟨lb, lo, none⟩) x.ldn cld) ∧ w'.cell? ⟨sb, 0, none⟩ = some (.int .i64 (x.sa k).id) ∧ w'.cell? ⟨sb, 1, none⟩ = some (.string (x.sa k).fr) ∧ w'.cell? ⟨sb, 2, none⟩ = some (.string (x.sa k).dst) ∧ w'.cell? ⟨sb, 3, none⟩ = some (.int .i64 (x.sa k).dep) ∧ w'.cell? ⟨sb, 4, none⟩ = some (.int .i64 (x.sa k).arr) ∧ w'.cell? ⟨sb, 5, none⟩ = some (.slice la (x.sa k).la.n lc) ∧ w'.cell? ⟨sb, 6, none⟩ = some (.slice ca (x.sa k).ca.n cc) ∧ w'.cell? ⟨sb, 7, none⟩ = some (.int .i64 (x.sa k).most) ∧ w'.cell? ⟨lb, lo + k * 3, none⟩ = some (.slice ast (x.ld k).stn cst) ∧ w'.cell? ⟨lb, lo + k * 3 + 1, none⟩ = some (.slice aro (x.ld k).ron cro) ∧ w'.cell? ⟨lb, lo + k * 3 + 2, none⟩ = some (.slice ase (x.ld k).sen cse)))
        ((refine KS.out _ ?_; exact (by repeat (first | exact Below.refl _ _ | refine Below.drew ?_ | refine after ?_ hbb | refine push ?_ _))))
        (first | (go_at_call 68; refine Calls.mono (HC.out _ (by repeat (first | exact Below.refl _ _ | refine Below.drew ?_))) ?_; rintro e w9 ⟨⟨v1, v2, rfl, o1, o2, oa⟩, hbb⟩))
      obtain ⟨e1, f1, rfl, _⟩ := own_form o1
      obtain ⟨e2, f2, rfl, _⟩ := own_form o2
      have hv9 : Below V2.heap.size V2 w9 := after (Below.refl _ V2).drew hbb
      have HO1 : Hid (w9.ownsRow wr.heap.size 3 1 (.slice e1 (x.sa k).la.n f1) (x.sa k).la.n (intList (left (x.sa k).la (x.ld k).st (x.ld k).stn) (x.sa k).la.n)) := own_base o1 (after HB2.out (Below.refl _ V2).drew).size
      have HO2 : Hid (w9.ownsRow wr.heap.size 3 1 (.slice e2 (x.sa k).ca.n f2) (x.sa k).ca.n (intList (leftR (x.sa k).ca (x.ld k).ro (x.ld k).ron) (x.sa k).ca.n)) := own_base o2 (after HB2.out (Below.refl _ V2).drew).size
      have HAP : Hid (∀ b, (Value.slice e1 (x.sa k).la.n f1).ownBlock = some b → (Value.slice e2 (x.sa k).ca.n f2).ownBlock ≠ some b) := oa
      have bO9 := blk_below bO2 hv9
      have hb9 := after hb2 hv9
      have HB9 : Hid (Below wr.heap.size wr w9) := after HB2.out hv9
      clear o1 o2 oa hbb KS HC hb2 bO2 bS2 hv9 HB2 HSBE
      go_upto_region 4 with fail
      have z0 := blk_cell bO9 0 _ rfl
      have z1 := blk_cell bO9 1 _ rfl
      have z2 := blk_cell bO9 2 _ rfl
      refine (wpIn_wide (n := n)).1 ?_
      gi_wp2_with fail
      refine ⟨trivial, (fun h => absurd h (by decide)), callsIn_wide.2 (Calls.mono (rowsOf_raw x (some ⟨sgb, soff, none⟩) (some ⟨lb, lo, none⟩) abk csa cld cbk k w9 HSH.out (HSA.out.below hb9) (HLD.out.below hb9) (HBK.out.below hb9) hbn hlt HLN.out HP.out) ?_)⟩
      rintro e w10 ⟨⟨rv, rfl, hro⟩, hbx⟩
      obtain ⟨e3, f3, rfl, _⟩ := own_form hro
      have HBX : Hid (Below wr.heap.size wr w10) := after HB9.out hbx
      have bO10 := blk_below bO9 hbx
      have HF : Hid (FitS x k (.slice e3 (rowsL (x.ld k) x.bk (x.sa k).id x.bkn).length f3, .slice e1 (x.sa k).la.n f1, .slice e2 (x.sa k).ca.n f2, (x.sa k).most - sits (x.ld k).se (x.ld k).sen) wr.heap.size w10) := ⟨hlt, own_base hro HB9.out.size, own_below hbx HO1.out, own_below hbx HO2.out, HAP.out, rfl⟩
      have hb10 := after hb9 hbx
      have HJ1 : J pre w10 := abides_below HJ.out HJP.out HBX.out
      obtain ⟨yfn, ytmps, yassign, ybody, hyy, hRR⟩ := HY.out pre (.slice e3 (rowsL (x.ld k) x.bk (x.sa k).id x.bkn).length f3, .slice e1 (x.sa k).la.n f1, .slice e2 (x.sa k).ca.n f2, (x.sa k).most - sits (x.ld k).se (x.ld k).sen) wr w10 HJP.out HBX.out HJ1 (by rw [hpre]; exact HF.out)
      have HRR : Hid _ := hRR
      replace hyy : (Instr.yield l #[.agg #[.slice e3 (rowsL (x.ld k) x.bk (x.sa k).id x.bkn).length f3, .slice e1 (x.sa k).la.n f1, .slice e2 (x.sa k).ca.n f2, .int .i64 ((x.sa k).most - sits (x.ld k).se (x.ld k).sen)]]).run Tryz.prog w10 = .ok (.round l yfn ytmps yassign ybody) w10 := hyy
      clear hRR HJ1 z0 z1 z2 hro hbx hb9 HO1 HO2 HAP HF
      dsimp only
      gi_wp2
      refine ⟨(fun h => absurd h (by decide)), RoundIn.mono HRR.out ?_⟩
      rintro e W9 ⟨rfl, hJ9, hk9, ho9⟩
      have HJ9 : Hid (J (pre ++ [(.slice e3 (rowsL (x.ld k) x.bk (x.sa k).id x.bkn).length f3, .slice e1 (x.sa k).la.n f1, .slice e2 (x.sa k).ca.n f2, (x.sa k).most - sits (x.ld k).se (x.ld k).sen)]) W9) := hJ9
      have hw9 := hb10.trans hk9
      have bO9 := ho9.trans bO10
      have HS9 : Hid (W.heap.size ≤ W9.heap.size) := Nat.le_trans HSZ.out (Nat.le_trans HBX.out.size hk9.size)
      clear hJ9 hk9 ho9 HRR hyy HJP HB9 HBX hb10 bO10 HSZ HY
      gi_wp2
      go_wp2
      go_roundw
      case rel => exact ⟨k + 1, _, by omega, by rw [List.length_append, hpre]; rfl, by go_num, HJ9, hw9, bO9, HS9⟩
      case measure => simp [intOf]; omega
      --E
    · obtain rfl : k = x.san := by omega
      go_wp2
      go_end0
      exact ⟨⟨_, rfl⟩, pre, hpre, HJP.out⟩
end Go.Proofs.YtlelckbeoclhbaaGreat

namespace Go.Proofs.YtlelckbeoclhbaaGreat
open Go.RowKit Go.Shelf
theorem own_cellsB {w : World} {base e size n : Nat} {v : Value} {xs : List Value} (h : w.ownsRow base e size v n xs) {b : Nat} {o : Obj} (hv : v.ownBlock = some b) (hb : w.heap[b]? = some o) : o.isCells = true := by
  rcases h.2 with ⟨rfl, _⟩ | ⟨g', cap', cur, rfl, _, hg', _⟩
  · simp [Value.ownBlock] at hv
  · simp only [Value.ownBlock, Option.some.injEq] at hv
    subst hv
    rw [hg'] at hb; cases hb; rfl
section
variable {w w' : World} {base lim : Nat} {V : ViewW} {k1 k2 k3 k4 : Nat} {vb vr vl vq vp : Value} {E R L Q : Nat → Value}
theorem VTo.nocell {T : Nat → Prop} (h : VTo w base lim V k1 k2 k3 k4 vb vr vl vq vp E R L Q) (hk : Kept w w' T) (hT : ∀ b, T b → ∃ o : Obj, w.heap[b]? = some o ∧ o.isCells = false) : VTo w' base lim V k1 k2 k3 k4 vb vr vl vq vp E R L Q := by
  have far : ∀ {be e sz n : Nat} {v : Value} {xs : List Value}, w.ownsRow be e sz v n xs → ∀ b, v.ownBlock = some b → ¬ T b := fun ho b q1 q2 => by
    obtain ⟨o, h1, h2⟩ := hT b q2
    rw [own_cellsB ho q1 h1] at h2; cases h2
  exact ⟨⟨hk.own h.bks.row (far h.bks.row), fun i hi => hk.own (h.bks.legs i hi) (far (h.bks.legs i hi)), h.bks.apart⟩, h.bkl, h.rows.kept hk (far h.rows.row) (fun i hi => far (h.rows.each i hi)),
    h.lan.kept hk (far h.lan.row) (fun i hi => far (h.lan.each i hi)), h.ber.kept hk (far h.ber.row) (fun i hi => far (h.ber.each i hi)), hk.own h.peo (far h.peo), h.a1, h.a2, h.a3, h.a4, h.le⟩
end
structure SeeW (W0 : World) (base ob : Nat) (oc : Array Value) (x : Off) (vb : Value) (E : Nat → Value) (k : Nat) (ar al aq ap : Option Addr) (cr cl cq cp : Nat) (R L Q : Nat → Value) (W : World) : Prop where
  vt : VTo W base W0.heap.size (viewW x) k k k k vb (.slice ar k cr) (.slice al k cl) (.slice aq k cq) (.slice ap k cp) E R L Q
  box : W.heap[W0.heap.size]? = some (.cells #[vb, .slice ar k cr, .slice al k cl, .slice aq k cq, .slice ap k cp] 33 (0, 0))
  obx : W.heap[ob]? = some (.cells oc 39 (0, 0))
  bel : Below W0.heap.size W0 W
def SeeI (W0 : World) (base ob : Nat) (oc : Array Value) (x : Off) (vb : Value) (E : Nat → Value) (xs : List SightV) (W : World) : Prop :=
  ∃ ar al aq ap cr cl cq cp R L Q, SeeW W0 base ob oc x vb E xs.length ar al aq ap cr cl cq cp R L Q W
def SeeI2 (W0 : World) (base ob : Nat) (oc : Array Value) (x : Off) (vb : Value) (E : Nat → Value) (xs : List SightV) (v : SightV) (W : World) : Prop :=
  ∃ ar al aq ap cr cl cq cp R L Q s0, SeeW W0 base ob oc x vb E xs.length ar al aq ap cr cl cq cp R L Q W ∧ FitS x xs.length v s0 W ∧ W0.heap.size ≤ s0 ∧ (∀ i, i < xs.length → ∀ b, (R i).ownBlock = some b → b < s0) ∧ (∀ i, i < xs.length → ∀ b, (L i).ownBlock = some b → b < s0) ∧ (∀ i, i < xs.length → ∀ b, (Q i).ownBlock = some b → b < s0) ∧ ∀ b, (Value.slice ap xs.length cp).ownBlock = some b → b < s0
section
variable {W0 W W' : World} {base ob : Nat} {oc : Array Value} {x : Off} {vb : Value} {E : Nat → Value}
theorem SeeW.below {k : Nat} {ar al aq ap : Option Addr} {cr cl cq cp : Nat} {R L Q : Nat → Value} (h : SeeW W0 base ob oc x vb E k ar al aq ap cr cl cq cp R L Q W) (hb : Below W.heap.size W W') : SeeW W0 base ob oc x vb E k ar al aq ap cr cl cq cp R L Q W' :=
  ⟨h.vt.below hb, blk_below h.box hb, blk_below h.obx hb, h.bel.trans (hb.mono (Nat.le_of_lt (blk_lt h.box)))⟩
theorem SeeW.own {k : Nat} {ar al aq ap : Option Addr} {cr cl cq cp : Nat} {R L Q : Nat → Value} {row : Option Nat} (h : SeeW W0 base ob oc x vb E k ar al aq ap cr cl cq cp R L Q W) (hg : W.grownBy W' row) (hr : ∀ r, row = some r → W0.heap.size ≤ r ∧ ∃ o : Obj, W.heap[r]? = some o ∧ o.isCells = false) : SeeW W0 base ob oc x vb E k ar al aq ap cr cl cq cp R L Q W' := by
  have hk := kept_row hg
  have far : ∀ {b : Nat} {cs : Array Value} {t : Nat}, W.heap[b]? = some (.cells cs t (0, 0)) → ¬ row = some b := fun hb e => by
    obtain ⟨_, o, h1, h2⟩ := hr _ e
    rw [hb] at h1; cases h1; cases h2
  exact ⟨h.vt.nocell hk (fun b e => (hr b e).2), hk.blk h.box (far h.box), hk.blk h.obx (far h.obx), h.bel.grown hg h.bel.size (fun j hj => (hr j hj).1)⟩
theorem SeeI.ownFrom {B : Nat} (hB : W0.heap.size ≤ B) : OwnFrom B (SeeI W0 base ob oc x vb E) := by
  rintro xs A C row ⟨ar, al, aq, ap, cr, cl, cq, cp, R, L, Q, h⟩ hg hr
  exact ⟨ar, al, aq, ap, cr, cl, cq, cp, R, L, Q, h.own hg (fun r e => ⟨Nat.le_trans hB (hr r e).1, (hr r e).2⟩)⟩
theorem SeeI.fit {pre : List SightV} {v : SightV} {A C : World} (h : SeeI W0 base ob oc x vb E pre A) (hb : Below A.heap.size A C) (hf : FitS x pre.length v A.heap.size C) : SeeI2 W0 base ob oc x vb E pre v C := by
  obtain ⟨ar, al, aq, ap, cr, cl, cq, cp, R, L, Q, h⟩ := h
  exact ⟨ar, al, aq, ap, cr, cl, cq, cp, R, L, Q, A.heap.size, h.below hb, hf, Nat.le_of_lt (blk_lt h.box), fun i hi => h.vt.rowLt hi, fun i hi => h.vt.lanLt hi, fun i hi => h.vt.berLt hi, h.vt.peoLt⟩
end
structure RVt (A W0 u : World) (n0 base ob : Nat) (oc : Array Value) (V : ViewW) (k1 k2 k3 k4 sb : Nat) (sc : Array Value) (vb vr vl vq vp ur ul uq up : Value) (E R L Q : Nat → Value) : Prop where
  sv : SVt W0 u base V k1 k2 k3 k4 sb 78 sc vb vr vl vq vp ur ul uq up E R L Q
  obx : u.heap[ob]? = some (.cells oc 39 (0, 0))
  ko : KeepsOthers A u
  ba : Below n0 A u
  le : n0 ≤ W0.heap.size
  ne : ¬ ob = W0.heap.size
section
variable {A W0 u u' : World} {n0 base ob : Nat} {oc : Array Value} {V : ViewW} {k1 k2 k3 k4 sb : Nat} {sc : Array Value} {vb vr vl vq vp ur ul uq up : Value} {E R L Q : Nat → Value}
theorem RVt.alloc (h : RVt A W0 u n0 base ob oc V k1 k2 k3 k4 sb sc vb vr vl vq vp ur ul uq up E R L Q) (o : Obj) : RVt A W0 (u.alloc o) n0 base ob oc V k1 k2 k3 k4 sb sc vb vr vl vq vp ur ul uq up E R L Q :=
  ⟨h.sv.below (push (Below.refl _ _) _), blk_alloc h.obx _, h.ko.trans (KeepsOthers.alloc _ _), h.ba.alloc (by have h1 := blk_lt h.sv.box; have h2 := h.le; omega) _, h.le, h.ne⟩
theorem RVt.grow {v : Value} {e sz n : Nat} {xs : List Value} (h : RVt A W0 u n0 base ob oc V k1 k2 k3 k4 sb sc vb vr vl vq vp ur ul uq up E R L Q) (ho : u.ownsRow W0.heap.size e sz v n xs) (hg : u.grownBy u' v.ownBlock) (h1 : e ≠ 33) (h2 : e ≠ 78) (h3 : e ≠ 39) :
    (u'.heap[W0.heap.size]? = some (.cells #[vb, ur, ul, uq, up] 33 (0, 0)) ∧ u'.heap[sb]? = some (.cells sc 78 (0, 0)) ∧ Below W0.heap.size W0 u') ∧ u'.heap[ob]? = some (.cells oc 39 (0, 0)) ∧ KeepsOthers A u' ∧ Below n0 A u' :=
  ⟨h.sv.grow ho hg h1 h2, (kept_row hg).blk h.obx (fun q => own_notE ho h.obx h3 _ q rfl), h.ko.trans (KeepsOthers.of_grownBy hg (fun j o ej hj => own_cellsB ho ej hj)), h.ba.grown hg (by have h1 := blk_lt h.sv.box; have h2 := h.le; omega) (fun j hj => Nat.le_trans h.le (ho.lt j hj).1)⟩
theorem RVt.sto (h : RVt A W0 u n0 base ob oc V k1 k2 k3 k4 sb sc vb vr vl vq vp ur ul uq up E R L Q) (i : Nat) (v : Value) :
    VTo (u.setCell ⟨W0.heap.size, i, none⟩ v) base W0.heap.size V k1 k2 k3 k4 vb vr vl vq vp E R L Q ∧ (u.setCell ⟨W0.heap.size, i, none⟩ v).heap[W0.heap.size]? = some (.cells (#[vb, ur, ul, uq, up].setIfInBounds i v) 33 (0, 0)) ∧ (u.setCell ⟨W0.heap.size, i, none⟩ v).heap[sb]? = some (.cells sc 78 (0, 0)) ∧ Below W0.heap.size W0 (u.setCell ⟨W0.heap.size, i, none⟩ v) ∧
    (u.setCell ⟨W0.heap.size, i, none⟩ v).heap[ob]? = some (.cells oc 39 (0, 0)) ∧ KeepsOthers A (u.setCell ⟨W0.heap.size, i, none⟩ v) ∧ Below n0 A (u.setCell ⟨W0.heap.size, i, none⟩ v) := by
  obtain ⟨a1, a2, a3, a4⟩ := h.sv.sto i v
  have hk : Kept u (u.setCell ⟨W0.heap.size, i, none⟩ v) (fun b => b = W0.heap.size) := (Kept.refl u (fun b => b = W0.heap.size)).set (a := ⟨W0.heap.size, i, none⟩) rfl _
  exact ⟨a1, a2, a3, a4, hk.blk h.obx h.ne, h.ko.trans (KeepsOthers.setCell _ _ _), h.ba.setCell (p := ⟨W0.heap.size, i, none⟩) h.le _⟩
end
end Go.Proofs.YtlelckbeoclhbaaGreat
