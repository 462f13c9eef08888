/-
  OWN TEXT: ReadSI, SameN, LawTexts, Views, ViewCode.
-/
import Derived.Test.YtfallpinmhbemaaGreatDoorRows
import Derived.ProofKit
import Derived.OpenShut
import Derived.ChangeOld
import Derived.SizedLaws
import Derived.Deep.Slices
import Derived.Deep.Strs
import Derived.Lib.SmallJoins
import Derived.Test.YtfallpinmhbemaaGreatDoorB37
import Derived.Test.YtfallpinmhbemaaGreatDoorB00
import Derived.Test.YtfallpinmhbemaaGreatDoorB04
import Derived.Test.YtfallpinmhbemaaGreatDoorB28
import Derived.Test.YtfallpinmhbemaaGreatDoorB32
import Derived.Test.YtfallpinmhbemaaGreatDoorB34
namespace Go.Proofs.YtfallpinmhbemaaGreatDoor
open Go.RowKit

/-- What ReadSail answers: its lists in memory of its own. -/
structure SOut (s : ByteArray) (w w' : World) (y : Sail) (vl vc : Value) (ok : Bool) : Prop where
  ans : AnsS s y ok
  la : w'.ownsRow w.heap.size 106 2 vl y.la.n (pairRow y.la)
  ca : w'.ownsRow w.heap.size 110 2 vc y.ca.n (pairRow y.ca)
  bel : Below w.heap.size w w'
def SPost (s : ByteArray) (w : World) (e : Ending) (w' : World) : Prop := ∃ y vl vc ok, e = .returned (.tuple #[.agg #[.int .i64 y.id, .string y.fr, .string y.dst, .int .i64 y.dep, .int .i64 y.arr, vl, vc, .int .i64 y.most], .bool ok]) ∧ SOut s w w' y vl vc ok
theorem parts_tail {p : UInt8} {s q : ByteArray} {l : List ByteArray} (h : Parts p s l) (hq : q ∈ l.tail) : q.size + 1 ≤ s.size := by
  cases l with
  | nil => simp at hq
  | cons a r =>
    cases r with
    | nil => simp at hq
    | cons b r =>
      have h1 := h.list.2.1
      simp only [List.map_cons] at h1
      rw [join_two] at h1
      have h2 := joinL_le p (b.data.toList :: r.map (·.data.toList)) q.data.toList (by
        have hq : q ∈ b :: r := hq
        rw [← List.map_cons (f := fun x : ByteArray => x.data.toList)]
        exact List.mem_map.2 ⟨q, hq, rfl⟩)
      have h3 := congrArg List.length h1
      simp only [List.length_append, List.length_cons] at h3
      have e1 : q.data.toList.length = q.size := Array.length_toList
      have e2 : s.data.toList.length = s.size := Array.length_toList
      omega
theorem prd_few {s : ByteArray} {l m : List ByteArray} {i : Nat} (h : Parts 32 s l) (hs : s.size ≤ 1048576) (hm : PRd (wd l (i + 1)) m) : m.length ≤ 1048576 := by
  have h1 := hm.1
  have h2 : (wd l (i + 1)).size + 1 ≤ 1048576 := by
    unfold wd
    rw [List.getD_eq_getElem?_getD]
    cases hq : l[i + 1]? with
    | none => show 0 + 1 ≤ 1048576; omega
    | some q =>
      have : q ∈ l.tail := by
        refine List.mem_of_getElem? (i := i) ?_
        rw [List.getElem?_tail]
        exact hq
      have := parts_tail h this
      show q.size + 1 ≤ 1048576
      omega
  omega

set_option maxHeartbeats 3200000 in
set_option maxRecDepth 100000 in
theorem implReadS_any (s : ByteArray) (w : World) (hs : s.size ≤ 1048576) (hP : PowAt w) (hL : LineAt w) :
    Calls Tryz.prog 12 #[.string s] w fun e w' => SPost s w e w' := by
  have HT : Hid (PowAt w ∧ LineAt w) := ⟨hP, hL⟩
  have hgl : 4 < w.heap.size := by
    have h := hP
    unfold PowAt Lib.TabIs World.var? at h
    rw [Tryz.gPow] at h
    simp only [Option.bind_some] at h
    rcases Nat.lt_or_ge 4 w.heap.size with h' | h'
    · exact h'
    · rw [Array.getElem?_eq_none h'] at h; simp at h
  clear hP hL
  have hr := heap_alloc_new w (.cells #[.int .i64 0, .string ⟨#[]⟩, .string ⟨#[]⟩, .int .i64 0, .int .i64 0, .slice none 0 0, .slice none 0 0, .int .i64 0] 37)
  have hb0 : Below w.heap.size w (w.alloc (.cells #[.int .i64 0, .string ⟨#[]⟩, .string ⟨#[]⟩, .int .i64 0, .int .i64 0, .slice none 0 0, .slice none 0 0, .int .i64 0] 37)) := push (Below.refl _ _) _
  go_enter Tryz.func12, Tryz.ntmps12
  go_upto_region 1 with fail
  generalize w.alloc (.cells #[.int .i64 0, .string ⟨#[]⟩, .string ⟨#[]⟩, .int .i64 0, .int .i64 0, .slice none 0 0, .slice none 0 0, .int .i64 0] 37) = W at hr hb0 ⊢
  have hsz := hb0.size
  go_wp2_with fail
  refine (wordsIn_any s _ hs).mono ?_
  rintro e w1 ⟨b, l, rfl, hbb, HWP, hb1⟩
  have hB1 := after hb0 hb1
  have hr1 := blk_below hr hb1
  have HL : Hid (∀ q, q ∈ l → q.size ≤ 1048576) := fun q hq => by have := parts_le HWP.out.2.1 q hq; omega
  have hs1 := hb1.size
  go_wp2_with fail
  refine (sailingIn_any b l _ HL.out HWP.out.1 (HT.out.1.below hB1) (by omega)).mono ?_
  rintro e w2 ⟨x, rfl, hol, hoc, HRD, hk2⟩
  have hrb : ¬ w.heap.size = b := by have := blk_lt hr; omega
  have hr2 := hk2.blk hr1 hrb
  have hB2 : Below w.heap.size w w2 := Kept.below hB1 hB1.size hk2 (fun k e => by have e : k = b := e; omega)
  have hn1 : x.la.length ≤ 1048576 := prd_few (i := 6) HWP.out.2.1 hs HRD.out.2.1
  have hn2 : x.lc.length ≤ 1048576 := prd_few (i := 7) HWP.out.2.1 hs HRD.out.2.2
  have HNS : Hid (x.fr.size ≤ 1000000000000000 ∧ x.dst.size ≤ 1000000000000000) := by
    have e := HRD.out.1
    have e1 : x.fr = wd l 2 := congrArg Sail.fr e
    have e2 : x.dst = wd l 3 := congrArg Sail.dst e
    have w1 := wd_size HL.out 2
    have w2 := wd_size HL.out 3
    show x.fr.size ≤ _ ∧ x.dst.size ≤ _
    rw [e1, e2]
    omega
  have HBK : Hid (¬ (GoodSail x.d ∧ sailT x.d = s) → AnsS s Sail.zero false) := fun hn => ans_not HWP.out.2.1 HRD.out.2.1 HRD.out.2.2 (by rw [← HRD.out.1]; exact hn)
  have HO2 : Hid (w2.ownsRow w.heap.size 106 2 x.vl x.la.length (pairRow (prs x.la)) ∧ w2.ownsRow w.heap.size 110 2 x.vc x.lc.length (pairRow (prs x.lc))) := ⟨own_base hol hB1.size, own_base hoc hB1.size⟩
  obtain ⟨a1, c1, hv1, hvc1, hvm1, hvn1⟩ := own_form hol
  obtain ⟨a2, c2, hv2, hvc2, hvm2, hvn2⟩ := own_form hoc
  have HV : Hid (x.vl = .slice a1 x.la.length c1 ∧ x.vc = .slice a2 x.lc.length c2) := ⟨hv1, hv2⟩
  have ecs : x.cs = #[.int .i64 x.id, .string x.fr, .string x.dst, .int .i64 x.dep, .int .i64 x.arr, .slice a1 x.la.length c1, .slice a2 x.lc.length c2, .int .i64 x.most] := by unfold SRc.cs; rw [hv1, hv2]
  rw [ecs]
  clear hr hb0 hb1 hB1 hr1 hs1 HWP HL HRD hk2 hrb hol hoc hv1 hv2 ecs hbb hgl hvc1 hvm1 hvn1 hvc2 hvm2 hvn2
  have b3 := heap_alloc_new w2 (.cells #[.int .i64 x.id, .string x.fr, .string x.dst, .int .i64 x.dep, .int .i64 x.arr, .slice a1 x.la.length c1, .slice a2 x.lc.length c2, .int .i64 x.most] 37)
  have p3 : Below w2.heap.size w2 (w2.alloc (.cells #[.int .i64 x.id, .string x.fr, .string x.dst, .int .i64 x.dep, .int .i64 x.arr, .slice a1 x.la.length c1, .slice a2 x.lc.length c2, .int .i64 x.most] 37)) := push (Below.refl _ _) _
  go_upto_region 2 with fail
  generalize w2.alloc (.cells #[.int .i64 x.id, .string x.fr, .string x.dst, .int .i64 x.dep, .int .i64 x.arr, .slice a1 x.la.length c1, .slice a2 x.lc.length c2, .int .i64 x.most] 37) = W3 at b3 p3 ⊢
  have hB3 := after hB2 p3
  have hr3 := blk_below hr2 p3
  have HO3 : Hid (W3.ownsRow w.heap.size 106 2 (.slice a1 x.la.length c1) x.la.length (pairRow (prs x.la)) ∧ W3.ownsRow w.heap.size 110 2 (.slice a2 x.lc.length c2) x.lc.length (pairRow (prs x.lc))) := by
    have h := HO2.out
    rw [HV.out.1, HV.out.2] at h
    exact ⟨own_below p3 h.1, own_below p3 h.2⟩
  have hlt := blk_lt hr2
  have y0 := blk_cell b3 0 _ rfl
  have y1 := blk_cell b3 1 _ rfl
  have y2 := blk_cell b3 2 _ rfl
  have y3 := blk_cell b3 3 _ rfl
  have y4 := blk_cell b3 4 _ rfl
  have y5 := blk_cell b3 5 _ rfl
  have y6 := blk_cell b3 6 _ rfl
  have y7 := blk_cell b3 7 _ rfl
  have ct : Calls Tryz.prog 10 #[.agg #[.int .i64 x.id, .string x.fr, .string x.dst, .int .i64 x.dep, .int .i64 x.arr, .slice a1 x.la.length c1, .slice a2 x.lc.length c2, .int .i64 x.most]] W3 fun e w' => e = .returned (.tuple #[.string (stext x.d), .bool (goodS x.d)]) ∧ Below W3.heap.size W3 w' := implSText_any x.d a1 a2 c1 c2 W3 HNS.out.1 HNS.out.2 hn1 hn2 (pairs_of_own (p := prs x.la) HO3.out.1) (pairs_of_own (p := prs x.lc) HO3.out.2) (HT.out.1.below hB3) (HT.out.2.below hB3)
  generalize hT : stext x.d = T at ct
  generalize hH : goodS x.d = H at ct
  have HTH : Hid (stext x.d = T ∧ goodS x.d = H) := ⟨hT, hH⟩
  clear hT hH
  go_wp2_with fail
  refine ct.mono ?_
  clear ct
  rintro e w4 ⟨rfl, hb4⟩
  have hB4 := after hB3 hb4
  have hr4 := blk_below hr3 hb4
  have b4 := blk_below b3 hb4
  have HO4 : Hid (w4.ownsRow w.heap.size 106 2 (.slice a1 x.la.length c1) x.la.length (pairRow (prs x.la)) ∧ w4.ownsRow w.heap.size 110 2 (.slice a2 x.lc.length c2) x.lc.length (pairRow (prs x.lc))) := ⟨own_below hb4 HO3.out.1, own_below hb4 HO3.out.2⟩
  clear y0 y1 y2 y3 y4 y5 y6 y7 hB2 hB3 hr2 hr3 b3 p3 hb4 HO2 HO3
  have hne : ¬ w.heap.size = w2.heap.size := by omega
  have s0 := blk_cell hr4 0 _ rfl
  have g0 := blk_free hr4 0
  have s1 := blk_cell hr4 1 _ rfl
  have g1 := blk_free hr4 1
  have s2 := blk_cell hr4 2 _ rfl
  have g2 := blk_free hr4 2
  have s3 := blk_cell hr4 3 _ rfl
  have g3 := blk_free hr4 3
  have s4 := blk_cell hr4 4 _ rfl
  have g4 := blk_free hr4 4
  have s5 := blk_cell hr4 5 _ rfl
  have g5 := blk_free hr4 5
  have s6 := blk_cell hr4 6 _ rfl
  have g6 := blk_free hr4 6
  have s7 := blk_cell hr4 7 _ rfl
  have g7 := blk_free hr4 7
  by_cases hok : H = true ∧ T = s
  case neg =>
    have HNO : Hid (AnsS s Sail.zero false) := HBK.out (fun h => hok (by
      have h1 := stext_yes h.1
      rw [HTH.out.1, HTH.out.2] at h1
      exact ⟨h1.2, by rw [h1.1]; exact h.2⟩))
    have rF := box_8 hr4 (.int .i64 0) (.string ⟨#[]⟩) (.string ⟨#[]⟩) (.int .i64 0) (.int .i64 0) (.slice none 0 0) (.slice none 0 0) (.int .i64 0)
    have kF := keep_8 w4 w.heap.size (.int .i64 0) (.string ⟨#[]⟩) (.string ⟨#[]⟩) (.int .i64 0) (.int .i64 0) (.slice none 0 0) (.slice none 0 0) (.int .i64 0)
    have HFN : Hid (SOut s w _ Sail.zero (.slice none 0 0) (.slice none 0 0) false) := ⟨HNO.out, World.ownsRow_nil _ _ _ _, World.ownsRow_nil _ _ _ _, Kept.below hB4 hB4.size kF (fun k e => by have e : k = w.heap.size := e; omega)⟩
    clear kF
    go_upto_region 3 with fail
    go_cut [21] (fun v wx => v = .bool true ∧ wx = w4)
    case first =>
      cases H with
      | false =>
        go_wp2
        go_meet
        exact ⟨rfl, rfl⟩
      | true =>
        have hT : T ≠ s := fun e => hok ⟨rfl, e⟩
        have et : (T.toList == s.toList) = false := bytes_ne.2 hT
        clear hT hok
        go_wp2
        go_meet
        exact ⟨rfl, rfl⟩
    case rest =>
    obtain ⟨rfl, hwx⟩ := hcut
    have hwx := hwx.symm
    subst hwx
    clear hok
    go_wp2
    have t0 := blk_cell rF 0 _ rfl
    have t1 := blk_cell rF 1 _ rfl
    have t2 := blk_cell rF 2 _ rfl
    have t3 := blk_cell rF 3 _ rfl
    have t4 := blk_cell rF 4 _ rfl
    have t5 := blk_cell rF 5 _ rfl
    have t6 := blk_cell rF 6 _ rfl
    have t7 := blk_cell rF 7 _ rfl
    refine bodyPost_ret (v := .tuple #[.agg #[.int .i64 0, .string ⟨#[]⟩, .string ⟨#[]⟩, .int .i64 0, .int .i64 0, .slice none 0 0, .slice none 0 0, .int .i64 0], .bool false]) (by simp [results, Tryz.results12, go_sem, t0, t1, t2, t3, t4, t5, t6, t7]) rfl ?_
    exact ⟨Sail.zero, _, _, false, rfl, HFN.out⟩
  case pos =>
    obtain ⟨rfl, rfl⟩ := hok
    have HYES : Hid (AnsS T x.d true) := by
      have h1 : GoodSail x.d := (goodS_iff x.d).1 HTH.out.2
      have h2 := (stext_yes h1).1
      rw [HTH.out.1] at h2
      exact .inl ⟨rfl, h1, h2.symm⟩
    have et : (T.toList == T.toList) = true := by simp
    have p0 := blk_cell b4 0 _ rfl
    have p1 := blk_cell b4 1 _ rfl
    have p2 := blk_cell b4 2 _ rfl
    have p3 := blk_cell b4 3 _ rfl
    have p4 := blk_cell b4 4 _ rfl
    have p5 := blk_cell b4 5 _ rfl
    have p6 := blk_cell b4 6 _ rfl
    have p7 := blk_cell b4 7 _ rfl
    have rF := box_8 hr4 (.int .i64 x.id) (.string x.fr) (.string x.dst) (.int .i64 x.dep) (.int .i64 x.arr) (.slice a1 x.la.length c1) (.slice a2 x.lc.length c2) (.int .i64 x.most)
    have kF := keep_8 w4 w.heap.size (.int .i64 x.id) (.string x.fr) (.string x.dst) (.int .i64 x.dep) (.int .i64 x.arr) (.slice a1 x.la.length c1) (.slice a2 x.lc.length c2) (.int .i64 x.most)
    have HFY : Hid (SOut T w _ x.d (.slice a1 x.la.length c1) (.slice a2 x.lc.length c2) true) := ⟨HYES.out, kF.own HO4.out.1 (own_notT HO4.out.1 hr4 (by decide)), kF.own HO4.out.2 (own_notT HO4.out.2 hr4 (by decide)), Kept.below hB4 hB4.size kF (fun k e => by have e : k = w.heap.size := e; omega)⟩
    clear kF
    go_wp2
    have t0 := blk_cell rF 0 _ rfl
    have t1 := blk_cell rF 1 _ rfl
    have t2 := blk_cell rF 2 _ rfl
    have t3 := blk_cell rF 3 _ rfl
    have t4 := blk_cell rF 4 _ rfl
    have t5 := blk_cell rF 5 _ rfl
    have t6 := blk_cell rF 6 _ rfl
    have t7 := blk_cell rF 7 _ rfl
    refine bodyPost_ret (v := .tuple #[.agg #[.int .i64 x.id, .string x.fr, .string x.dst, .int .i64 x.dep, .int .i64 x.arr, .slice a1 x.la.length c1, .slice a2 x.lc.length c2, .int .i64 x.most], .bool true]) (by simp [results, Tryz.results12, go_sem, t0, t1, t2, t3, t4, t5, t6, t7]) rfl ?_
    exact ⟨x.d, _, _, true, rfl, HFY.out⟩

end Go.Proofs.YtfallpinmhbemaaGreatDoor

namespace Go.Proofs.YtfallpinmhbemaaGreatDoor
open Go.RowKit

theorem sameInts_same (ao bo : Option Addr) (n c1 c2 : Nat) (f : Nat → Int) (w : World) (hn : n ≤ 1048576) (hx : IntsAt w ao n f) (hy : IntsAt w bo n f) :
    Calls Tryz.prog 8 #[.slice ao n c1, .slice bo n c2] w fun e w' => e = .returned (.bool true) ∧ Below w.heap.size w w' := by
  go_enter Tryz.func8, Tryz.ntmps8
  go_wp2
  go_loopw [5, 13] (fun _ i wr => ∃ k : Nat, k ≤ n ∧ i = .int .i64 k ∧ Below w.heap.size w wr) (fun _ i _ => n - (intOf i).toNat)
  case atStart => exact ⟨0, Nat.zero_le _, rfl, Below.refl _ _⟩
  case round =>
    obtain ⟨k, hk, rfl, hbel⟩ := hrel
    by_cases hlt : k < n
    · obtain ⟨b, off, rfl, hc⟩ := hx k (by omega)
      obtain ⟨b2, off2, rfl, hd⟩ := hy k (by omega)
      have hc' : wr.cell? ⟨b, off + k, none⟩ = some (.int .i64 (f k)) := (hbel.cell (World.block_lt_of_cell? w _ hc)).trans hc
      have hd' : wr.cell? ⟨b2, off2 + k, none⟩ = some (.int .i64 (f k)) := (hbel.cell (World.block_lt_of_cell? w _ hd)).trans hd
      clear hc hd
      go_wp2
      go_quiet (fail)
      go_wp2
      go_roundw
      case rel => exact ⟨k + 1, by omega, by go_num, below_drewN hbel _⟩
      case measure => simp [intOf]; omega
    · go_wp2
      go_ret
      exact ⟨rfl, hbel⟩

end Go.Proofs.YtfallpinmhbemaaGreatDoor

namespace Go.Proofs.YtfallpinmhbemaaGreatDoor
open Go.RowKit

/-- The tables. -/
def TabsT (w : World) : Prop := FormsAt w ∧ PowAt w ∧ WordsAt w ∧ LineAt w
theorem TabsT.below {w w' : World} (h : TabsT w) (hb : Below w.heap.size w w') : TabsT w' := ⟨h.1.below hb, h.2.1.below hb, h.2.2.1.below hb, h.2.2.2.below hb⟩

set_option maxHeartbeats 12800000 in
set_option maxRecDepth 100000 in
theorem lawTexts (ao : Option Addr) (n c : Nat) (bo : Option Addr) (m d : Nat) (w : World) (hn : n ≤ 1000000000000000) (hx : BytesAt w ao n) (hm : m ≤ 1000000000000000) (hy : BytesAt w bo m) (hT : TabsT w) :
    Calls Tryz.prog 3 #[.slice ao n c, .slice bo m d] w fun e w' => e = .returned (.bool true) ∧ Below w.heap.size w w' := by
  have HX : Hid (BytesAt w ao n) := hx
  have HY : Hid (BytesAt w bo m) := hy
  have HT : Hid (TabsT w) := hT
  clear hx hy hT
  by_cases hsz : n + m ≤ 1048576
  case neg =>
    have hd : decide ((1048576 : Int) < (n : Int) + (m : Int)) = true := by simp; omega
    go_enter Tryz.func3, Tryz.ntmps3
    go_wp2
    go_ret
    exact ⟨rfl, Below.refl _ _⟩
  have hd : decide ((1048576 : Int) < (n : Int) + (m : Int)) = false := by simp; omega
  go_enter Tryz.func3, Tryz.ntmps3
  go_wp2_with fail
  refine (drawOpText_any ao n c w (by omega) HX.out).mono ?_
  rintro e w1 ⟨⟨y, ag, cg, rfl, hy1, hy2, hlg⟩, hb1⟩
  have hop : opCells y (.slice ag y.lgn cg) = #[.int .i64 y.kind, .string y.own, .int .i64 y.name, .slice ag y.lgn cg, .int .i64 y.pe, .int .i64 y.len, .int .i64 y.hei, .int .i64 y.cl, .bool y.all, .int .i64 y.be, .int .i64 y.unt, .int .i64 y.now] := rfl
  rw [hop]
  clear hop
  have hp1 : Below w1.heap.size w1 (w1.alloc (.cells #[.int .i64 y.kind, .string y.own, .int .i64 y.name, .slice ag y.lgn cg, .int .i64 y.pe, .int .i64 y.len, .int .i64 y.hei, .int .i64 y.cl, .bool y.all, .int .i64 y.be, .int .i64 y.unt, .int .i64 y.now] 27)) := push (Below.refl _ _) _
  have bP := heap_alloc_new w1 (.cells #[.int .i64 y.kind, .string y.own, .int .i64 y.name, .slice ag y.lgn cg, .int .i64 y.pe, .int .i64 y.len, .int .i64 y.hei, .int .i64 y.cl, .bool y.all, .int .i64 y.be, .int .i64 y.unt, .int .i64 y.now] 27)
  have HI : Hid (OpD.Is (w1.alloc (.cells #[.int .i64 y.kind, .string y.own, .int .i64 y.name, .slice ag y.lgn cg, .int .i64 y.pe, .int .i64 y.len, .int .i64 y.hei, .int .i64 y.cl, .bool y.all, .int .i64 y.be, .int .i64 y.unt, .int .i64 y.now] 27)) [.int .i64 y.kind, .string y.own, .int .i64 y.name, .slice ag y.lgn cg, .int .i64 y.pe, .int .i64 y.len, .int .i64 y.hei, .int .i64 y.cl, .bool y.all, .int .i64 y.be, .int .i64 y.unt, .int .i64 y.now] y) := ⟨ag, cg, rfl, (own_ints hlg.out).below hp1, own_ok hlg.out⟩
  have HB : Hid (Below w.heap.size w (w1.alloc (.cells #[.int .i64 y.kind, .string y.own, .int .i64 y.name, .slice ag y.lgn cg, .int .i64 y.pe, .int .i64 y.len, .int .i64 y.hei, .int .i64 y.cl, .bool y.all, .int .i64 y.be, .int .i64 y.unt, .int .i64 y.now] 27))) := after hb1 hp1
  clear hb1 hp1 hlg
  go_wp2_with fail
  generalize w1.alloc (.cells #[.int .i64 y.kind, .string y.own, .int .i64 y.name, .slice ag y.lgn cg, .int .i64 y.pe, .int .i64 y.len, .int .i64 y.hei, .int .i64 y.cl, .bool y.all, .int .i64 y.be, .int .i64 y.unt, .int .i64 y.now] 27) = v1 at bP HI HB ⊢
  generalize w1.heap.size = pb at bP ⊢
  have HT1 : Hid (TabsT v1) := HT.out.below HB.out
  refine (implText_any [.int .i64 y.kind, .string y.own, .int .i64 y.name, .slice ag y.lgn cg, .int .i64 y.pe, .int .i64 y.len, .int .i64 y.hei, .int .i64 y.cl, .bool y.all, .int .i64 y.be, .int .i64 y.unt, .int .i64 y.now] y v1 (by omega) HI.out (by omega) HT1.out.2.1 HT1.out.1 HT1.out.2.2.1).mono ?_
  rintro e w2 ⟨rfl, hb2⟩
  replace bP := blk_below bP hb2
  replace HI : Hid (OpD.Is w2 [.int .i64 y.kind, .string y.own, .int .i64 y.name, .slice ag y.lgn cg, .int .i64 y.pe, .int .i64 y.len, .int .i64 y.hei, .int .i64 y.cl, .bool y.all, .int .i64 y.be, .int .i64 y.unt, .int .i64 y.now] y) := HI.out.below hb2
  replace HB : Hid (Below w.heap.size w w2) := after HB.out hb2
  replace HT1 : Hid (TabsT w2) := HT1.out.below hb2
  clear hb2
  have k0 := blk_cell bP 0 _ rfl
  have k1 := blk_cell bP 1 _ rfl
  have k2 := blk_cell bP 2 _ rfl
  have k3 := blk_cell bP 3 _ rfl
  have k4 := blk_cell bP 4 _ rfl
  have k5 := blk_cell bP 5 _ rfl
  have k6 := blk_cell bP 6 _ rfl
  have k7 := blk_cell bP 7 _ rfl
  have k8 := blk_cell bP 8 _ rfl
  have k9 := blk_cell bP 9 _ rfl
  have k10 := blk_cell bP 10 _ rfl
  have k11 := blk_cell bP 11 _ rfl
  go_wp2_with fail
  refine (specText_any [.int .i64 y.kind, .string y.own, .int .i64 y.name, .slice ag y.lgn cg, .int .i64 y.pe, .int .i64 y.len, .int .i64 y.hei, .int .i64 y.cl, .bool y.all, .int .i64 y.be, .int .i64 y.unt, .int .i64 y.now] y w2 (by omega) HI.out (by omega)).mono ?_
  rintro e w3 ⟨rfl, hb3⟩
  clear k0 k1 k2 k3 k4 k5 k6 k7 k8 k9 k10 k11
  replace bP := blk_below bP hb3
  replace HI : Hid (OpD.Is w3 [.int .i64 y.kind, .string y.own, .int .i64 y.name, .slice ag y.lgn cg, .int .i64 y.pe, .int .i64 y.len, .int .i64 y.hei, .int .i64 y.cl, .bool y.all, .int .i64 y.be, .int .i64 y.unt, .int .i64 y.now] y) := HI.out.below hb3
  replace HB : Hid (Below w.heap.size w w3) := after HB.out hb3
  replace HT1 : Hid (TabsT w3) := HT1.out.below hb3
  clear hb3
  have HH : Hid ((HasText y ∧ textOf y = opT y ∧ hasT y = true) ∨ (textOf y = ⟨#[]⟩ ∧ hasT y = false)) := by
    by_cases hg : HasText y
    · exact .inl ⟨hg, textOf_yes hg⟩
    · exact .inr (textOf_not hg)
  generalize textOf y = tx at HH ⊢
  generalize hasT y = th at HH ⊢
  go_upto_if 47 with fail
  go_cut [] (fun wx => Hid (Below w.heap.size w wx))
  case first =>
    rcases HH.out with ⟨hg, e1, e2⟩ | ⟨e1, e2⟩
    · subst e1 e2
      have HG : Hid (HasText y) := hg
      clear hg HH
      have hsm : (opT y).size ≤ 1048576 := by have := opT_small HG.out; omega
      go_wp2_with fail
      refine (implRead_any (opT y) w3 hsm HT1.out.2.1 HT1.out.1 HT1.out.2.2.1).mono ?_
      rintro e w4 ⟨z, ok, rfl, hout⟩
      obtain ⟨rfl, hse⟩ := read_op hout HG.out
      have hbz := hout.bel
      have hoz := hout.own
      clear hout
      obtain ⟨zk, zo, zn, zv, zL, ⟨p1, p2, p3, p4, p5, p6⟩, zu, zw⟩ := z
      obtain ⟨e1, e2, e3, e4, e5, e6, e7, e8⟩ := hse
      dsimp only [OpR.d, OpD.p] at e1 e2 e3 e4 e5 e6 e7 e8
      simp only [Party.mk.injEq] at e6
      obtain ⟨rfl, rfl, rfl, rfl, rfl, rfl⟩ := e6
      subst e1 e2 e3 e7 e8
      dsimp only at hoz
      obtain ⟨av, cv, rfl, _, _, _⟩ := own_form hoz
      have HZ : Hid (IntsAt w4 av y.lgn y.lg) := fun j hj => by
        obtain ⟨b, off, ea, hc⟩ := own_legs rfl hoz j (by omega)
        exact ⟨b, off, ea, by rw [hc, e5 j hj]⟩
      rw [e4]
      have hcs : OpR.cs ⟨y.kind, y.own, y.name, .slice av y.lgn cv, zL, ⟨y.pe, y.len, y.hei, y.cl, y.all, y.be⟩, y.unt, y.now⟩ = #[.int .i64 y.kind, .string y.own, .int .i64 y.name, .slice av y.lgn cv, .int .i64 y.pe, .int .i64 y.len, .int .i64 y.hei, .int .i64 y.cl, .bool y.all, .int .i64 y.be, .int .i64 y.unt, .int .i64 y.now] := rfl
      rw [hcs]
      clear hcs e4 e5 hoz
      replace bP := blk_below bP hbz
      replace HB : Hid (Below w.heap.size w w4) := after HB.out hbz
      replace HI : Hid (OpD.Is w4 [.int .i64 y.kind, .string y.own, .int .i64 y.name, .slice ag y.lgn cg, .int .i64 y.pe, .int .i64 y.len, .int .i64 y.hei, .int .i64 y.cl, .bool y.all, .int .i64 y.be, .int .i64 y.unt, .int .i64 y.now] y) := HI.out.below hbz
      clear hbz
      have hp5 : Below w4.heap.size w4 (w4.alloc (.cells #[.int .i64 y.kind, .string y.own, .int .i64 y.name, .slice av y.lgn cv, .int .i64 y.pe, .int .i64 y.len, .int .i64 y.hei, .int .i64 y.cl, .bool y.all, .int .i64 y.be, .int .i64 y.unt, .int .i64 y.now] 27)) := push (Below.refl _ _) _
      have bZ := heap_alloc_new w4 (.cells #[.int .i64 y.kind, .string y.own, .int .i64 y.name, .slice av y.lgn cv, .int .i64 y.pe, .int .i64 y.len, .int .i64 y.hei, .int .i64 y.cl, .bool y.all, .int .i64 y.be, .int .i64 y.unt, .int .i64 y.now] 27)
      have bQ := blk_below bP hp5
      go_upto_region 10 with fail
      generalize w4.alloc (.cells #[.int .i64 y.kind, .string y.own, .int .i64 y.name, .slice av y.lgn cv, .int .i64 y.pe, .int .i64 y.len, .int .i64 y.hei, .int .i64 y.cl, .bool y.all, .int .i64 y.be, .int .i64 y.unt, .int .i64 y.now] 27) = v5 at hp5 bZ bQ ⊢
      generalize w4.heap.size = zb at bZ ⊢
      obtain ⟨ag', cg', hcs, hIi, _⟩ := HI.out
      have HP5 : Hid (IntsAt v5 ag y.lgn y.lg) := by
        simp only [List.cons.injEq, Value.slice.injEq] at hcs
        obtain ⟨_, _, _, ⟨rfl, _⟩, _⟩ := hcs
        exact hIi.below hp5
      have HZ5 : Hid (IntsAt v5 av y.lgn y.lg) := HZ.out.below hp5
      clear hcs hIi HZ HI
      have kz0 := blk_cell bZ 0 _ rfl
      have kq0 := blk_cell bQ 0 _ rfl
      have kz1 := blk_cell bZ 1 _ rfl
      have kq1 := blk_cell bQ 1 _ rfl
      have kz2 := blk_cell bZ 2 _ rfl
      have kq2 := blk_cell bQ 2 _ rfl
      have kz3 := blk_cell bZ 3 _ rfl
      have kq3 := blk_cell bQ 3 _ rfl
      go_wp2_with (first | (go_at_call 8; refine (sameInts_same av ag y.lgn cv cg y.lg _ (by omega) HZ5.out HP5.out).mono ?_; rintro e w6 ⟨rfl, hb6⟩; have bZ6 := blk_below bZ hb6; have bQ6 := blk_below bQ hb6; have HB6 : Hid (Below w.heap.size w w6) := after (after HB.out hp5) hb6; have kz4' := blk_cell bZ6 4 _ rfl; have kq4' := blk_cell bQ6 4 _ rfl; have kz5' := blk_cell bZ6 5 _ rfl; have kq5' := blk_cell bQ6 5 _ rfl; have kz6' := blk_cell bZ6 6 _ rfl; have kq6' := blk_cell bQ6 6 _ rfl; have kz7' := blk_cell bZ6 7 _ rfl; have kq7' := blk_cell bQ6 7 _ rfl; have kz8' := blk_cell bZ6 8 _ rfl; have kq8' := blk_cell bQ6 8 _ rfl; have kz9' := blk_cell bZ6 9 _ rfl; have kq9' := blk_cell bQ6 9 _ rfl; have kz10' := blk_cell bZ6 10 _ rfl; have kq10' := blk_cell bQ6 10 _ rfl; have kz11' := blk_cell bZ6 11 _ rfl; have kq11' := blk_cell bQ6 11 _ rfl))
      go_meet
      exact HB6
    · subst e1 e2
      go_wp2
      go_meet
      exact HB
  case rest =>
    have HBc : Hid (Below w.heap.size w wc) := hcut.out
    clear hcut HB HT1 HI HH bP
    go_wp2_with fail
    refine (drawSailText_any bo m d wc (by omega) (HY.out.below HBc.out)).mono ?_
    rintro e w1' ⟨⟨x, lo, co, c1, c2, rfl, HXs⟩, hb1⟩
    have hp1 : Below w1'.heap.size w1' (w1'.alloc (.cells #[.int .i64 x.id, .string x.fr, .string x.dst, .int .i64 x.dep, .int .i64 x.arr, .slice lo x.la.n c1, .slice co x.ca.n c2, .int .i64 x.most] 37)) := push (Below.refl _ _) _
    have bP := heap_alloc_new w1' (.cells #[.int .i64 x.id, .string x.fr, .string x.dst, .int .i64 x.dep, .int .i64 x.arr, .slice lo x.la.n c1, .slice co x.ca.n c2, .int .i64 x.most] 37)
    have HI : Hid (PairsAt (w1'.alloc (.cells #[.int .i64 x.id, .string x.fr, .string x.dst, .int .i64 x.dep, .int .i64 x.arr, .slice lo x.la.n c1, .slice co x.ca.n c2, .int .i64 x.most] 37)) lo x.la ∧ PairsAt (w1'.alloc (.cells #[.int .i64 x.id, .string x.fr, .string x.dst, .int .i64 x.dep, .int .i64 x.arr, .slice lo x.la.n c1, .slice co x.ca.n c2, .int .i64 x.most] 37)) co x.ca) := ⟨(pairs_of_own HXs.out.1).below hp1, (pairs_of_own HXs.out.2.1).below hp1⟩
    have HSH : Hid (ShortS x 100) := HXs.out.2.2
    have HB : Hid (Below w.heap.size w (w1'.alloc (.cells #[.int .i64 x.id, .string x.fr, .string x.dst, .int .i64 x.dep, .int .i64 x.arr, .slice lo x.la.n c1, .slice co x.ca.n c2, .int .i64 x.most] 37))) := after (after HBc.out hb1) hp1
    clear hb1 hp1 HXs HBc
    go_wp2_with fail
    generalize w1'.alloc (.cells #[.int .i64 x.id, .string x.fr, .string x.dst, .int .i64 x.dep, .int .i64 x.arr, .slice lo x.la.n c1, .slice co x.ca.n c2, .int .i64 x.most] 37) = v1' at bP HI HB ⊢
    generalize w1'.heap.size = sb at bP ⊢
    have HT1 : Hid (TabsT v1') := HT.out.below HB.out
    have hs1 := HSH.out.1
    have hs2 := HSH.out.2.1
    have hs3 := HSH.out.2.2.1
    have hs4 := HSH.out.2.2.2
    refine (implSText_any x lo co c1 c2 v1' (by omega) (by omega) (by omega) (by omega) HI.out.1 HI.out.2 HT1.out.2.1 HT1.out.2.2.2).mono ?_
    rintro e w2' ⟨rfl, hb2⟩
    replace bP := blk_below bP hb2
    replace HI : Hid (PairsAt w2' lo x.la ∧ PairsAt w2' co x.ca) := ⟨HI.out.1.below hb2, HI.out.2.below hb2⟩
    replace HB : Hid (Below w.heap.size w w2') := after HB.out hb2
    replace HT1 : Hid (TabsT w2') := HT1.out.below hb2
    clear hb2
    have k0 := blk_cell bP 0 _ rfl
    have k1 := blk_cell bP 1 _ rfl
    have k2 := blk_cell bP 2 _ rfl
    have k3 := blk_cell bP 3 _ rfl
    have k4 := blk_cell bP 4 _ rfl
    have k5 := blk_cell bP 5 _ rfl
    have k6 := blk_cell bP 6 _ rfl
    have k7 := blk_cell bP 7 _ rfl
    go_wp2_with fail
    refine (specSText_any x lo co c1 c2 w2' (by omega) (by omega) (by omega) (by omega) HI.out.1 HI.out.2).mono ?_
    rintro e w3' ⟨rfl, hb3⟩
    clear k0 k1 k2 k3 k4 k5 k6 k7 bP hs1 hs2 hs3 hs4
    replace HB : Hid (Below w.heap.size w w3') := after HB.out hb3
    replace HT1 : Hid (TabsT w3') := HT1.out.below hb3
    clear hb3 HI
    by_cases hg : GoodSail x
    · obtain ⟨e1, e2⟩ := stext_yes hg
      have HG : Hid (GoodSail x) := hg
      rw [e1, e2]
      clear e1 e2 hg
      have hsm : (sailT x).size ≤ 1048576 := by have := sailT_size HG.out; omega
      go_wp2_with fail
      refine (implReadS_any (sailT x) w3' hsm HT1.out.2.1 HT1.out.2.2.2).mono ?_
      rintro e w4' ⟨z, vl, vc, ok, rfl, hout⟩
      obtain ⟨l2, d1, rfl, _, _, _⟩ := own_form hout.la
      obtain ⟨o2, d2, rfl, _, _, _⟩ := own_form hout.ca
      rcases hout.ans with ⟨rfl, hgz, hez⟩ | ⟨_, _, hno⟩
      case inr => exact absurd rfl (hno x HG.out)
      have HGZ : Hid (GoodSail z ∧ sailT z = sailT x) := ⟨hgz, hez⟩
      have hr := sail_rng hgz
      have hla := (small_la hgz).1
      have hca := (small_ca hgz).1
      have hp5 : Below w4'.heap.size w4' (w4'.alloc (.cells #[.int .i64 z.id, .string z.fr, .string z.dst, .int .i64 z.dep, .int .i64 z.arr, .slice l2 z.la.n d1, .slice o2 z.ca.n d2, .int .i64 z.most] 37)) := push (Below.refl _ _) _
      have bZ := heap_alloc_new w4' (.cells #[.int .i64 z.id, .string z.fr, .string z.dst, .int .i64 z.dep, .int .i64 z.arr, .slice l2 z.la.n d1, .slice o2 z.ca.n d2, .int .i64 z.most] 37)
      have HIz : Hid (PairsAt (w4'.alloc (.cells #[.int .i64 z.id, .string z.fr, .string z.dst, .int .i64 z.dep, .int .i64 z.arr, .slice l2 z.la.n d1, .slice o2 z.ca.n d2, .int .i64 z.most] 37)) l2 z.la ∧ PairsAt (w4'.alloc (.cells #[.int .i64 z.id, .string z.fr, .string z.dst, .int .i64 z.dep, .int .i64 z.arr, .slice l2 z.la.n d1, .slice o2 z.ca.n d2, .int .i64 z.most] 37)) o2 z.ca) := ⟨(pairs_of_own hout.la).below hp5, (pairs_of_own hout.ca).below hp5⟩
      have HB5 : Hid (Below w.heap.size w (w4'.alloc (.cells #[.int .i64 z.id, .string z.fr, .string z.dst, .int .i64 z.dep, .int .i64 z.arr, .slice l2 z.la.n d1, .slice o2 z.ca.n d2, .int .i64 z.most] 37))) := after (after HB.out hout.bel) hp5
      have HT5 : Hid (TabsT (w4'.alloc (.cells #[.int .i64 z.id, .string z.fr, .string z.dst, .int .i64 z.dep, .int .i64 z.arr, .slice l2 z.la.n d1, .slice o2 z.ca.n d2, .int .i64 z.most] 37))) := HT.out.below HB5.out
      clear hout hgz hez hp5 HB HT1
      go_wp2_with fail
      refine (implSText_any z l2 o2 d1 d2 _ (by omega) (by omega) (by omega) (by omega) HIz.out.1 HIz.out.2 HT5.out.2.1 HT5.out.2.2.2).mono ?_
      rintro e w6 ⟨rfl, hb6⟩
      have HB6 : Hid (Below w.heap.size w w6) := after HB5.out hb6
      obtain ⟨e1, e2⟩ := stext_yes HGZ.out.1
      rw [e1, e2, HGZ.out.2]
      clear e1 e2 hb6 HB5 HT5 HIz bZ
      go_wp2
      go_ret
      exact ⟨rfl, HB6.out⟩
    · obtain ⟨e1, e2⟩ := stext_not hg
      rw [e1, e2]
      clear e1 e2 hg
      go_wp2
      go_ret
      exact ⟨rfl, HB.out⟩

end Go.Proofs.YtfallpinmhbemaaGreatDoor

namespace Go.Proofs.YtfallpinmhbemaaGreatDoor
open Go.ChangeShapes Go.WideShapes Go.ChangeAt Go.RowKit Go.Deep

section
variable {H : Type} {enc : TypeId × Value → H} {P : Program} {w : World} {base : Nat} {spare : Nat → Bool} {held : Bool}

/-- How a list's datum tells its length. -/
def LenIs (d : DataW H) (n : Nat) : Prop := (d = .nil ∧ n = 0) ∨ ∃ els rest, d = .slice els rest ∧ els.length = n

theorem view_ints {t e fuel : Nat} {v : Value} {x : DataW H × List MemPlace} (ht : P.underlying t = some (.slice e)) (he : P.underlying e = some (.int .i64)) (hc : P.cellsOf e = 1)
    (h : DataW.trod enc P w base spare held fuel t [v] = some x) :
    ∃ ao n cap F, v = .slice ao n cap ∧ n ≤ cap ∧ cap ≤ maxLen ∧ (ao = none → n = 0 ∧ cap = 0) ∧ IntsAt w ao n F ∧ LenIs x.1 n := by
  rcases open_ints ht he hc h with ⟨hcs, hx⟩ | ⟨a, n, cap, zs, hcs, _, hl, hm, hz, hx, hcell, _⟩
  · simp at hcs
    subst hcs
    refine ⟨none, 0, 0, fun _ => 0, rfl, Nat.le_refl _, Nat.zero_le _, fun _ => ⟨rfl, rfl⟩, fun k hk => by omega, .inl ⟨by rw [hx], rfl⟩⟩
  · simp at hcs
    subst hcs
    have hzl : n ≤ zs.length := by rw [hz]; split <;> omega
    refine ⟨some a, n, cap, fun k => zs.getD k 0, rfl, hl, hm, (fun h => by cases h), (fun k hk => ?_), .inr ⟨_, _, by rw [hx], by simp [lits]; omega⟩⟩
    obtain ⟨b, off, rfl, hc2⟩ := ints_at hcell (by omega)
    exact ⟨b, off, rfl, hc2 k (by omega)⟩

theorem view_slots {t e fuel ti tb : Nat} {f0 f1 f2 : Field} {v : Value} {x : DataW H × List MemPlace} (ht : P.underlying t = some (.slice e)) (he : P.underlying e = some (.struct #[f0, f1, f2])) (hc : P.cellsOf e = 3)
    (t0 : f0.type = ti) (t1 : f1.type = tb) (t2 : f2.type = ti) (o0 : f0.offset = 0) (o1 : f1.offset = 1) (o2 : f2.offset = 2)
    (hi : P.underlying ti = some (.int .i64)) (hb : P.underlying tb = some .bool) (ci : P.cellsOf ti = 1) (cb : P.cellsOf tb = 1)
    (h : DataW.trod enc P w base spare held fuel t [v] = some x) :
    ∃ ao n cap A U V, v = .slice ao n cap ∧ n ≤ cap ∧ cap ≤ maxLen ∧ (ao = none → n = 0 ∧ cap = 0) ∧ SlotsAt w ao n A U V ∧ LenIs x.1 n := by
  rcases open_slice ht h with ⟨hcs, hx⟩ | ⟨a, n, cap, m, fl, D, Pl, hcs, _, hl, hm, hmm, hx, hcell⟩
  · simp at hcs
    subst hcs
    refine ⟨none, 0, 0, fun _ => 0, fun _ => false, fun _ => 0, rfl, Nat.le_refl _, Nat.zero_le _, fun _ => ⟨rfl, rfl⟩, fun k hk => by omega, .inl ⟨by rw [hx], rfl⟩⟩
  · simp at hcs
    subst hcs
    have hnm : n ≤ m := by rw [hmm]; split <;> omega
    by_cases hn0 : n = 0
    · subst hn0
      exact ⟨some a, 0, cap, fun _ => 0, fun _ => false, fun _ => 0, rfl, hl, hm, (fun h => by cases h), (fun k hk => by omega), .inr ⟨_, _, by rw [hx], by simp⟩⟩
    have hspot : a.spot = none := by
      obtain ⟨cs, hcl, _⟩ := hcell 0 (by omega)
      rw [hc] at hcl
      obtain ⟨_, hlen, hget⟩ := World.cells?_some hcl
      have g0 := hget 0 (by omega)
      rw [List.getElem?_eq_getElem (by omega)] at g0
      have := World.cell?_spot g0
      simpa [Addr.add] using this
    obtain ⟨b, off, spot⟩ := a
    simp only at hspot
    subst hspot
    have key : ∀ k, k < n → ∃ (y : Int × Bool × Int), w.cell? ⟨b, off + k * 3, none⟩ = some (.int .i64 y.1) ∧ w.cell? ⟨b, off + k * 3 + 1, none⟩ = some (.bool y.2.1) ∧ w.cell? ⟨b, off + k * 3 + 2, none⟩ = some (.int .i64 y.2.2) := by
      intro k hk
      obtain ⟨cs, hcl, htr⟩ := hcell k (by omega)
      rw [hc] at hcl
      obtain ⟨_, hlen, hget⟩ := World.cells?_some hcl
      obtain ⟨y0, y1, y2, n', _, _, h0, h1, h2⟩ := trod_struct3 he htr
      rw [t0, o0, ci] at h0
      rw [t1, o1, cb] at h1
      rw [t2, o2, ci] at h2
      match cs, hlen with
      | [p, q, r], _ =>
        obtain ⟨i0, e0, _, _⟩ := DataW.trod_int hi h0
        obtain ⟨i1, e1, _⟩ := DataW.trod_bool hb h1
        obtain ⟨i2, e2, _, _⟩ := DataW.trod_int hi h2
        simp at e0 e1 e2
        subst e0 e1 e2
        have g0 := hget 0 (by omega)
        have g1 := hget 1 (by omega)
        have g2 := hget 2 (by omega)
        simp only [List.getElem?_cons_zero, List.getElem?_cons_succ, Addr.add_lit, Nat.add_zero] at g0 g1 g2
        exact ⟨(i0, i1, i2), g0, g1, g2⟩
    obtain ⟨f, hf⟩ := choose_lt key
    exact ⟨some ⟨b, off, none⟩, n, cap, fun k => (f k).1, fun k => (f k).2.1, fun k => (f k).2.2, rfl, hl, hm, (fun h => by cases h), (fun k hk => ⟨b, off, rfl, hf k hk⟩), .inr ⟨_, _, by rw [hx], by simp⟩⟩

/-- The reach of a list: so many elements at most. -/
theorem len_reach {t e n : Nat} {d : DataW H} {bytes : Nat} (ht : P.underlying t = some (.slice e)) (hb : P.bytesOf e = bytes) (hd : LenIs d n) (hw : ∀ x ∈ DataW.weights P t d, x ≤ reachBytes) : n * bytes ≤ reachBytes := by
  rcases hd with ⟨_, rfl⟩ | ⟨els, rest, rfl, rfl⟩
  · omega
  · have := hw ((els.length + rest.length) * P.bytesOf e) (by simp [DataW.weights, ht])
    rw [hb] at this
    exact Nat.le_trans (Nat.mul_le_mul_right _ (Nat.le_add_right _ _)) this

end
end Go.Proofs.YtfallpinmhbemaaGreatDoor

namespace Go.Proofs.YtfallpinmhbemaaGreatDoor
open Go.ChangeShapes Go.WideShapes Go.ChangeAt Go.RowKit Go.Deep Go.Joins

theorem Tryz.own : ownKnob Tryz.prog.godebug = none := by kernel_rfl
theorem Tryz.laidOut : laidOutB Tryz.prog = true := by kernel_rfl
theorem Tryz.cellsByte : Tryz.prog.cellsOf 5 = 1 := by kernel_rfl
theorem Tryz.bytesByte : Tryz.prog.bytesOf 5 = 1 := by kernel_rfl
theorem okWide_slice_is {P : Program} {t e : Nat} {w : World} {r : Reach} {base : Nat} {v : Value} (ht : P.underlying t = some (.slice e)) (h : Value.okWide P w r base t v) : v.cells.toList = [v] := by
  simp only [Value.okWide, ht, Cell.okWide] at h
  cases v <;> simp_all [Cell.ok, Value.cells]
theorem wf_u8_in {n : Int} (h : (Lit.int .u8 n).wf = true) : 0 ≤ n ∧ n ≤ 255 := by
  have h1 : IntKind.u8.min = 0 := rfl
  have h2 : IntKind.u8.max = 255 := rfl
  simp [Lit.wf] at h
  omega

set_option maxRecDepth 100000 in
theorem open_code {H : Type} {enc : TypeId × Value → H} {W : World} {base : Nat} {v : Value} {d : DataW H} {p : List MemPlace} (hv : Value.okWide Tryz.prog W .any base 22 v)
    (h : DataW.Trod enc Tryz.prog W 0 (fun _ => true) true 22 v d p) (hw : ∀ x ∈ DataW.weights Tryz.prog 22 d, x ≤ reachBytes) :
    ∃ ao n c, v = .slice ao n c ∧ n ≤ 1000000000000000 ∧ BytesAt W ao n := by
  obtain ⟨fuel, hf⟩ := h
  rw [okWide_slice_is Tryz.underlying22 hv] at hf
  rcases open_ints Tryz.underlying22 Tryz.underlying5 Tryz.cellsByte hf with ⟨hcs, hx⟩ | ⟨a, n, cap, zs, hcs, _, hl, hm, hz, hx, hcell, hwz⟩
  · simp at hcs
    subst hcs
    exact ⟨none, 0, 0, rfl, by omega, fun k hk => by omega⟩
  · simp at hcs
    subst hcs
    simp only [if_true] at hz
    have hr := len_reach (H := H) (n := n) Tryz.underlying22 Tryz.bytesByte (.inr ⟨lits .u8 (zs.take n), lits .u8 (zs.drop n), by simpa using congrArg Prod.fst hx, by simp [lits]; omega⟩) hw
    unfold reachBytes at hr
    refine ⟨some a, n, cap, rfl, by omega, fun k hk => ?_⟩
    obtain ⟨b, off, rfl, hc2⟩ := ints_at hcell (by omega)
    have hb := wf_u8_in (hwz (zs.getD k 0) (by rw [List.getD_eq_getElem?_getD, List.getElem?_eq_getElem (by omega)]; exact List.getElem_mem _))
    exact ⟨b, off, zs.getD k 0, rfl, hc2 k (by omega), hb.1, hb.2⟩

end Go.Proofs.YtfallpinmhbemaaGreatDoor
