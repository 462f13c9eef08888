/-
  OWN TEXT: ReadSI, SpecRs, MarkPq, LPair.
-/
import Derived.Deep.RegionHeld3
import Derived.Deep.AppendLies
import Derived.Deep.RegionLawGrows
import Derived.Deep.LoopGhost
import Derived.Test.YtfbooamjddnagaaDoorRows
import Derived.Test.YtfbooamjddnagaaDoorXSail07
import Derived.Test.YtfbooamjddnagaaDoorXSail06
import Derived.Test.YtfbooamjddnagaaDoorB02
namespace Go.Proofs.YtfbooamjddnagaaDoor
open Go.RowKit

/-- What ReadSail answers: its lists in memory of its own. -/
structure SOut (s : ByteArray) (w w' : World) (y : Sail) (vl vc : Value) (ok : Bool) : Prop where
  ans : AnsS s y ok
  la : w'.ownsRow w.heap.size 89 2 vl y.la.n (pairRow y.la)
  ca : w'.ownsRow w.heap.size 91 2 vc y.ca.n (pairRow y.ca)
  bel : Below w.heap.size w w'
def SPost (s : ByteArray) (w : World) (e : Ending) (w' : World) : Prop := ∃ y vl vc ok, e = .returned (.tuple #[.agg #[.int .i64 y.id, .string y.fr, .string y.dst, .int .i64 y.dep, .int .i64 y.arr, vl, vc, .int .i64 y.most], .bool ok]) ∧ SOut s w w' y vl vc ok
theorem parts_tail {p : UInt8} {s q : ByteArray} {l : List ByteArray} (h : Parts p s l) (hq : q ∈ l.tail) : q.size + 1 ≤ s.size := by
  cases l with
  | nil => simp at hq
  | cons a r =>
    cases r with
    | nil => simp at hq
    | cons b r =>
      have h1 := h.list.2.1
      simp only [List.map_cons] at h1
      rw [join_two] at h1
      have h2 := joinL_le p (b.data.toList :: r.map (·.data.toList)) q.data.toList (by
        have hq : q ∈ b :: r := hq
        rw [← List.map_cons (f := fun x : ByteArray => x.data.toList)]
        exact List.mem_map.2 ⟨q, hq, rfl⟩)
      have h3 := congrArg List.length h1
      simp only [List.length_append, List.length_cons] at h3
      have e1 : q.data.toList.length = q.size := Array.length_toList
      have e2 : s.data.toList.length = s.size := Array.length_toList
      omega
theorem prd_few {s : ByteArray} {l m : List ByteArray} {i : Nat} (h : Parts 32 s l) (hs : s.size ≤ 1048576) (hm : PRd (wd l (i + 1)) m) : m.length ≤ 1048576 := by
  have h1 := hm.1
  have h2 : (wd l (i + 1)).size + 1 ≤ 1048576 := by
    unfold wd
    rw [List.getD_eq_getElem?_getD]
    cases hq : l[i + 1]? with
    | none => show 0 + 1 ≤ 1048576; omega
    | some q =>
      have : q ∈ l.tail := by
        refine List.mem_of_getElem? (i := i) ?_
        rw [List.getElem?_tail]
        exact hq
      have := parts_tail h this
      show q.size + 1 ≤ 1048576
      omega
  omega

set_option maxHeartbeats 3200000 in
set_option maxRecDepth 100000 in
theorem implReadS_any (s : ByteArray) (w : World) (hs : s.size ≤ 1048576) (hP : PowAt w) (hL : LineAt w) :
    Calls Tryd.prog 22 #[.string s] w fun e w' => SPost s w e w' := by
  have HT : Hid (PowAt w ∧ LineAt w) := ⟨hP, hL⟩
  have hgl : 4 < w.heap.size := by
    have h := hP
    unfold PowAt Lib.TabIs World.var? at h
    rw [Tryd.gPow] at h
    simp only [Option.bind_some] at h
    rcases Nat.lt_or_ge 4 w.heap.size with h' | h'
    · exact h'
    · rw [Array.getElem?_eq_none h'] at h; simp at h
  clear hP hL
  have hr := heap_alloc_new w (.cells #[.int .i64 0, .string ⟨#[]⟩, .string ⟨#[]⟩, .int .i64 0, .int .i64 0, .slice none 0 0, .slice none 0 0, .int .i64 0] 49)
  have hb0 : Below w.heap.size w (w.alloc (.cells #[.int .i64 0, .string ⟨#[]⟩, .string ⟨#[]⟩, .int .i64 0, .int .i64 0, .slice none 0 0, .slice none 0 0, .int .i64 0] 49)) := push (Below.refl _ _) _
  go_enter Tryd.func22, Tryd.ntmps22
  go_upto_region 1 with fail
  generalize w.alloc (.cells #[.int .i64 0, .string ⟨#[]⟩, .string ⟨#[]⟩, .int .i64 0, .int .i64 0, .slice none 0 0, .slice none 0 0, .int .i64 0] 49) = W at hr hb0 ⊢
  have hsz := hb0.size
  go_wp2_with fail
  refine (wordsIn_any s _ hs).mono ?_
  rintro e w1 ⟨b, l, rfl, hbb, HWP, hb1⟩
  have hB1 := after hb0 hb1
  have hr1 := blk_below hr hb1
  have HL : Hid (∀ q, q ∈ l → q.size ≤ 1048576) := fun q hq => by have := parts_le HWP.out.2.1 q hq; omega
  have hs1 := hb1.size
  go_wp2_with fail
  refine (sailingIn_any b l _ HL.out HWP.out.1 (HT.out.1.below hB1) (by omega)).mono ?_
  rintro e w2 ⟨x, rfl, hol, hoc, HRD, hk2⟩
  have hrb : ¬ w.heap.size = b := by have := blk_lt hr; omega
  have hr2 := hk2.blk hr1 hrb
  have hB2 : Below w.heap.size w w2 := Kept.below hB1 hB1.size hk2 (fun k e => by have e : k = b := e; omega)
  have hn1 : x.la.length ≤ 1048576 := prd_few (i := 6) HWP.out.2.1 hs HRD.out.2.1
  have hn2 : x.lc.length ≤ 1048576 := prd_few (i := 7) HWP.out.2.1 hs HRD.out.2.2
  have HNS : Hid (x.fr.size ≤ 1000000000000000 ∧ x.dst.size ≤ 1000000000000000) := by
    have e := HRD.out.1
    have e1 : x.fr = wd l 2 := congrArg Sail.fr e
    have e2 : x.dst = wd l 3 := congrArg Sail.dst e
    have w1 := wd_size HL.out 2
    have w2 := wd_size HL.out 3
    show x.fr.size ≤ _ ∧ x.dst.size ≤ _
    rw [e1, e2]
    omega
  have HBK : Hid (¬ (GoodSail x.d ∧ sailT x.d = s) → AnsS s Sail.zero false) := fun hn => ans_not HWP.out.2.1 HRD.out.2.1 HRD.out.2.2 (by rw [← HRD.out.1]; exact hn)
  have HO2 : Hid (w2.ownsRow w.heap.size 89 2 x.vl x.la.length (pairRow (prs x.la)) ∧ w2.ownsRow w.heap.size 91 2 x.vc x.lc.length (pairRow (prs x.lc))) := ⟨own_base hol hB1.size, own_base hoc hB1.size⟩
  obtain ⟨a1, c1, hv1, hvc1, hvm1, hvn1⟩ := own_form hol
  obtain ⟨a2, c2, hv2, hvc2, hvm2, hvn2⟩ := own_form hoc
  have HV : Hid (x.vl = .slice a1 x.la.length c1 ∧ x.vc = .slice a2 x.lc.length c2) := ⟨hv1, hv2⟩
  have ecs : x.cs = #[.int .i64 x.id, .string x.fr, .string x.dst, .int .i64 x.dep, .int .i64 x.arr, .slice a1 x.la.length c1, .slice a2 x.lc.length c2, .int .i64 x.most] := by unfold SRc.cs; rw [hv1, hv2]
  rw [ecs]
  clear hr hb0 hb1 hB1 hr1 hs1 HWP HL HRD hk2 hrb hol hoc hv1 hv2 ecs hbb hgl hvc1 hvm1 hvn1 hvc2 hvm2 hvn2
  have b3 := heap_alloc_new w2 (.cells #[.int .i64 x.id, .string x.fr, .string x.dst, .int .i64 x.dep, .int .i64 x.arr, .slice a1 x.la.length c1, .slice a2 x.lc.length c2, .int .i64 x.most] 49)
  have p3 : Below w2.heap.size w2 (w2.alloc (.cells #[.int .i64 x.id, .string x.fr, .string x.dst, .int .i64 x.dep, .int .i64 x.arr, .slice a1 x.la.length c1, .slice a2 x.lc.length c2, .int .i64 x.most] 49)) := push (Below.refl _ _) _
  go_upto_region 2 with fail
  generalize w2.alloc (.cells #[.int .i64 x.id, .string x.fr, .string x.dst, .int .i64 x.dep, .int .i64 x.arr, .slice a1 x.la.length c1, .slice a2 x.lc.length c2, .int .i64 x.most] 49) = W3 at b3 p3 ⊢
  have hB3 := after hB2 p3
  have hr3 := blk_below hr2 p3
  have HO3 : Hid (W3.ownsRow w.heap.size 89 2 (.slice a1 x.la.length c1) x.la.length (pairRow (prs x.la)) ∧ W3.ownsRow w.heap.size 91 2 (.slice a2 x.lc.length c2) x.lc.length (pairRow (prs x.lc))) := by
    have h := HO2.out
    rw [HV.out.1, HV.out.2] at h
    exact ⟨own_below p3 h.1, own_below p3 h.2⟩
  have hlt := blk_lt hr2
  have y0 := blk_cell b3 0 _ rfl
  have y1 := blk_cell b3 1 _ rfl
  have y2 := blk_cell b3 2 _ rfl
  have y3 := blk_cell b3 3 _ rfl
  have y4 := blk_cell b3 4 _ rfl
  have y5 := blk_cell b3 5 _ rfl
  have y6 := blk_cell b3 6 _ rfl
  have y7 := blk_cell b3 7 _ rfl
  have ct : Calls Tryd.prog 19 #[.agg #[.int .i64 x.id, .string x.fr, .string x.dst, .int .i64 x.dep, .int .i64 x.arr, .slice a1 x.la.length c1, .slice a2 x.lc.length c2, .int .i64 x.most]] W3 fun e w' => e = .returned (.tuple #[.string (stext x.d), .bool (goodS x.d)]) ∧ Below W3.heap.size W3 w' := implSText_any x.d a1 a2 c1 c2 W3 HNS.out.1 HNS.out.2 hn1 hn2 (pairs_of_own (p := prs x.la) HO3.out.1) (pairs_of_own (p := prs x.lc) HO3.out.2) (HT.out.1.below hB3) (HT.out.2.below hB3)
  generalize hT : stext x.d = T at ct
  generalize hH : goodS x.d = H at ct
  have HTH : Hid (stext x.d = T ∧ goodS x.d = H) := ⟨hT, hH⟩
  clear hT hH
  go_wp2_with fail
  refine ct.mono ?_
  clear ct
  rintro e w4 ⟨rfl, hb4⟩
  have hB4 := after hB3 hb4
  have hr4 := blk_below hr3 hb4
  have b4 := blk_below b3 hb4
  have HO4 : Hid (w4.ownsRow w.heap.size 89 2 (.slice a1 x.la.length c1) x.la.length (pairRow (prs x.la)) ∧ w4.ownsRow w.heap.size 91 2 (.slice a2 x.lc.length c2) x.lc.length (pairRow (prs x.lc))) := ⟨own_below hb4 HO3.out.1, own_below hb4 HO3.out.2⟩
  clear y0 y1 y2 y3 y4 y5 y6 y7 hB2 hB3 hr2 hr3 b3 p3 hb4 HO2 HO3
  have hne : ¬ w.heap.size = w2.heap.size := by omega
  have s0 := blk_cell hr4 0 _ rfl
  have g0 := blk_free hr4 0
  have s1 := blk_cell hr4 1 _ rfl
  have g1 := blk_free hr4 1
  have s2 := blk_cell hr4 2 _ rfl
  have g2 := blk_free hr4 2
  have s3 := blk_cell hr4 3 _ rfl
  have g3 := blk_free hr4 3
  have s4 := blk_cell hr4 4 _ rfl
  have g4 := blk_free hr4 4
  have s5 := blk_cell hr4 5 _ rfl
  have g5 := blk_free hr4 5
  have s6 := blk_cell hr4 6 _ rfl
  have g6 := blk_free hr4 6
  have s7 := blk_cell hr4 7 _ rfl
  have g7 := blk_free hr4 7
  by_cases hok : H = true ∧ T = s
  case neg =>
    have HNO : Hid (AnsS s Sail.zero false) := HBK.out (fun h => hok (by
      have h1 := stext_yes h.1
      rw [HTH.out.1, HTH.out.2] at h1
      exact ⟨h1.2, by rw [h1.1]; exact h.2⟩))
    have rF := box_8 hr4 (.int .i64 0) (.string ⟨#[]⟩) (.string ⟨#[]⟩) (.int .i64 0) (.int .i64 0) (.slice none 0 0) (.slice none 0 0) (.int .i64 0)
    have kF := keep_8 w4 w.heap.size (.int .i64 0) (.string ⟨#[]⟩) (.string ⟨#[]⟩) (.int .i64 0) (.int .i64 0) (.slice none 0 0) (.slice none 0 0) (.int .i64 0)
    have HFN : Hid (SOut s w _ Sail.zero (.slice none 0 0) (.slice none 0 0) false) := ⟨HNO.out, World.ownsRow_nil _ _ _ _, World.ownsRow_nil _ _ _ _, Kept.below hB4 hB4.size kF (fun k e => by have e : k = w.heap.size := e; omega)⟩
    clear kF
    go_upto_region 3 with fail
    go_cut [21] (fun v wx => v = .bool true ∧ wx = w4)
    case first =>
      cases H with
      | false =>
        go_wp2
        go_meet
        exact ⟨rfl, rfl⟩
      | true =>
        have hT : T ≠ s := fun e => hok ⟨rfl, e⟩
        have et : (T.toList == s.toList) = false := bytes_ne.2 hT
        clear hT hok
        go_wp2
        go_meet
        exact ⟨rfl, rfl⟩
    case rest =>
    obtain ⟨rfl, hwx⟩ := hcut
    have hwx := hwx.symm
    subst hwx
    clear hok
    go_wp2
    have t0 := blk_cell rF 0 _ rfl
    have t1 := blk_cell rF 1 _ rfl
    have t2 := blk_cell rF 2 _ rfl
    have t3 := blk_cell rF 3 _ rfl
    have t4 := blk_cell rF 4 _ rfl
    have t5 := blk_cell rF 5 _ rfl
    have t6 := blk_cell rF 6 _ rfl
    have t7 := blk_cell rF 7 _ rfl
    refine bodyPost_ret (v := .tuple #[.agg #[.int .i64 0, .string ⟨#[]⟩, .string ⟨#[]⟩, .int .i64 0, .int .i64 0, .slice none 0 0, .slice none 0 0, .int .i64 0], .bool false]) (by simp [results, Tryd.results22, go_sem, t0, t1, t2, t3, t4, t5, t6, t7]) rfl ?_
    exact ⟨Sail.zero, _, _, false, rfl, HFN.out⟩
  case pos =>
    obtain ⟨rfl, rfl⟩ := hok
    have HYES : Hid (AnsS T x.d true) := by
      have h1 : GoodSail x.d := (goodS_iff x.d).1 HTH.out.2
      have h2 := (stext_yes h1).1
      rw [HTH.out.1] at h2
      exact .inl ⟨rfl, h1, h2.symm⟩
    have et : (T.toList == T.toList) = true := by simp
    have p0 := blk_cell b4 0 _ rfl
    have p1 := blk_cell b4 1 _ rfl
    have p2 := blk_cell b4 2 _ rfl
    have p3 := blk_cell b4 3 _ rfl
    have p4 := blk_cell b4 4 _ rfl
    have p5 := blk_cell b4 5 _ rfl
    have p6 := blk_cell b4 6 _ rfl
    have p7 := blk_cell b4 7 _ rfl
    have rF := box_8 hr4 (.int .i64 x.id) (.string x.fr) (.string x.dst) (.int .i64 x.dep) (.int .i64 x.arr) (.slice a1 x.la.length c1) (.slice a2 x.lc.length c2) (.int .i64 x.most)
    have kF := keep_8 w4 w.heap.size (.int .i64 x.id) (.string x.fr) (.string x.dst) (.int .i64 x.dep) (.int .i64 x.arr) (.slice a1 x.la.length c1) (.slice a2 x.lc.length c2) (.int .i64 x.most)
    have HFY : Hid (SOut T w _ x.d (.slice a1 x.la.length c1) (.slice a2 x.lc.length c2) true) := ⟨HYES.out, kF.own HO4.out.1 (own_notT HO4.out.1 hr4 (by decide)), kF.own HO4.out.2 (own_notT HO4.out.2 hr4 (by decide)), Kept.below hB4 hB4.size kF (fun k e => by have e : k = w.heap.size := e; omega)⟩
    clear kF
    go_wp2
    have t0 := blk_cell rF 0 _ rfl
    have t1 := blk_cell rF 1 _ rfl
    have t2 := blk_cell rF 2 _ rfl
    have t3 := blk_cell rF 3 _ rfl
    have t4 := blk_cell rF 4 _ rfl
    have t5 := blk_cell rF 5 _ rfl
    have t6 := blk_cell rF 6 _ rfl
    have t7 := blk_cell rF 7 _ rfl
    refine bodyPost_ret (v := .tuple #[.agg #[.int .i64 x.id, .string x.fr, .string x.dst, .int .i64 x.dep, .int .i64 x.arr, .slice a1 x.la.length c1, .slice a2 x.lc.length c2, .int .i64 x.most], .bool true]) (by simp [results, Tryd.results22, go_sem, t0, t1, t2, t3, t4, t5, t6, t7]) rfl ?_
    exact ⟨x.d, _, _, true, rfl, HFY.out⟩

end Go.Proofs.YtfbooamjddnagaaDoor

namespace Go.Proofs.YtfbooamjddnagaaDoor
open Go.RowKit

theorem own_block {w : World} {base e size n : Nat} {v : Value} {xs : List Value} (h : w.ownsRow base e size v n xs) : ∀ g, v.ownBlock = some g → ∃ cs, w.heap[g]? = some (.cells cs e (0, 0)) := fun g hg => by
  rcases h.2 with ⟨rfl, _⟩ | ⟨g', c, cur, rfl, _, hb, _⟩
  · cases hg
  · simp [Value.ownBlock] at hg
    subst hg
    exact ⟨cur, hb⟩
theorem PSt.kept {w wx wy : World} {v : Value} {p : Pairs} {k : Nat} {g : Nat → Nat} {S : Nat → Prop} (h : PSt w wx v p k g) (hk : Kept wx wy S) (hS : ∀ b, S b → ∃ cs t, wx.heap[b]? = some (.cells cs t (0, 0)) ∧ 3 ≠ t ∧ 22 ≠ t) : PSt w wy v p k g :=
  ⟨hk.own h.own (fun b hb hs => by obtain ⟨cs, t, h1, _, h3⟩ := hS b hs; exact own_notT h.own h1 h3 b hb rfl), fun i hi => hk.blk (h.el i hi) (fun hs => by
    obtain ⟨cs, t, h1, h2, _⟩ := hS _ hs
    rw [h.el i hi] at h1
    simp only [Option.some.injEq, Obj.cells.injEq] at h1
    exact h2 h1.2.1)⟩
/-- The sailing at hand in its box, beside the box of results and the words. -/
structure SSp (w wx : World) (rb ob : Nat) (x : SRc) (vw : Value) (l : List ByteArray) : Prop where
  r : wx.heap[rb]? = some (.cells #[.int .i64 0, .string ⟨#[]⟩, .string ⟨#[]⟩, .int .i64 0, .int .i64 0, .slice none 0 0, .slice none 0 0, .int .i64 0] 49 (0, 0))
  o : wx.heap[ob]? = some (.cells x.cs 49 (0, 0))
  ne : rb ≠ ob
  lo : w.heap.size ≤ rb ∧ w.heap.size ≤ ob
  ws : OwnT wx w.heap.size vw l
  la : wx.ownsRow w.heap.size 89 2 x.vl x.la.length (pairRow (prs x.la))
  ca : wx.ownsRow w.heap.size 91 2 x.vc x.lc.length (pairRow (prs x.lc))
  bel : Below w.heap.size w wx
section
variable {w wx wy : World} {rb ob : Nat} {x : SRc} {vw : Value} {l : List ByteArray}
theorem SSp.below (h : SSp w wx rb ob x vw l) (hb : Below wx.heap.size wx wy) : SSp w wy rb ob x vw l :=
  ⟨blk_below h.r hb, blk_below h.o hb, h.ne, h.lo, own_below hb h.ws, own_below hb h.la, own_below hb h.ca, after h.bel hb⟩
theorem SSp.store (h : SSp w wx rb ob x vw l) (i : Nat) (u : Value) (y : SRc) (hy : y.cs = x.cs.setIfInBounds i u) (hl : wx.ownsRow w.heap.size 89 2 y.vl y.la.length (pairRow (prs y.la))) (hc : wx.ownsRow w.heap.size 91 2 y.vc y.lc.length (pairRow (prs y.lc))) : SSp w (wx.setCell ⟨ob, i, none⟩ u) rb ob y vw l := by
  have hk : Kept wx (wx.setCell ⟨ob, i, none⟩ u) (fun g => g = ob) := (Kept.refl wx (fun g => g = ob)).set (a := ⟨ob, i, none⟩) rfl u
  refine ⟨hk.blk h.r h.ne, ?_, h.ne, h.lo, hk.own h.ws (own_notT h.ws h.o (by decide)), hk.own hl (own_notT hl h.o (by decide)), hk.own hc (own_notT hc h.o (by decide)), Kept.below h.bel h.bel.size hk (fun k e => by have e : k = ob := e; have := h.lo.2; omega)⟩
  rw [hy]
  exact blk_set h.o i u
/-- Behind a row that grew: lanes. -/
theorem SSp.lane {v' : Value} {m : List ByteArray} (h : SSp w wx rb ob x vw l) (hg : wx.grownBy wy x.vl.ownBlock) (ho : wy.ownsRow w.heap.size 89 2 v' m.length (pairRow (prs m))) : SSp w (wy.setCell ⟨ob, 5, none⟩ v') rb ob { x with vl := v', la := m } vw l := by
  have hk := kept_row hg
  have hB : ∀ b, x.vl.ownBlock = some b → ∃ cs, wx.heap[b]? = some (.cells cs 89 (0, 0)) := own_block h.la
  have hne : ∀ b cs t, wx.heap[b]? = some (.cells cs t (0, 0)) → 89 ≠ t → ¬ x.vl.ownBlock = some b := fun b cs t h1 h2 e => own_notT h.la h1 h2 b e rfl
  have hs : SSp w wy rb ob { x with vl := x.vl, la := x.la } vw l → True := fun _ => trivial
  have k1 := hk.blk h.r (hne _ _ _ h.r (by decide))
  have k2 := hk.blk h.o (hne _ _ _ h.o (by decide))
  have k3 := hk.own h.ws (fun g hg e => own_apart h.ws h.la (by decide) g hg e)
  have k4 := hk.own h.ca (fun g hg e => own_apart h.ca h.la (by decide) g hg e)
  have k5 := h.bel.grown hg h.bel.size (fun j hj => (World.ownsRow.lt h.la j hj).1)
  have hk2 : Kept wy (wy.setCell ⟨ob, 5, none⟩ v') (fun g => g = ob) := (Kept.refl wy (fun g => g = ob)).set (a := ⟨ob, 5, none⟩) rfl v'
  exact ⟨hk2.blk k1 h.ne, blk_set k2 5 v', h.ne, h.lo, hk2.own k3 (own_notT k3 k2 (by decide)), hk2.own ho (own_notT ho k2 (by decide)), hk2.own k4 (own_notT k4 k2 (by decide)), Kept.below k5 k5.size hk2 (fun k e => by have e : k = ob := e; have := h.lo.2; omega)⟩
theorem SSp.cab {v' : Value} {m : List ByteArray} (h : SSp w wx rb ob x vw l) (hg : wx.grownBy wy x.vc.ownBlock) (ho : wy.ownsRow w.heap.size 91 2 v' m.length (pairRow (prs m))) : SSp w (wy.setCell ⟨ob, 6, none⟩ v') rb ob { x with vc := v', lc := m } vw l := by
  have hk := kept_row hg
  have hne : ∀ b cs t, wx.heap[b]? = some (.cells cs t (0, 0)) → 91 ≠ t → ¬ x.vc.ownBlock = some b := fun b cs t h1 h2 e => own_notT h.ca h1 h2 b e rfl
  have k1 := hk.blk h.r (hne _ _ _ h.r (by decide))
  have k2 := hk.blk h.o (hne _ _ _ h.o (by decide))
  have k3 := hk.own h.ws (fun g hg e => own_apart h.ws h.ca (by decide) g hg e)
  have k4 := hk.own h.la (fun g hg e => own_apart h.la h.ca (by decide) g hg e)
  have k5 := h.bel.grown hg h.bel.size (fun j hj => (World.ownsRow.lt h.ca j hj).1)
  have hk2 : Kept wy (wy.setCell ⟨ob, 6, none⟩ v') (fun g => g = ob) := (Kept.refl wy (fun g => g = ob)).set (a := ⟨ob, 6, none⟩) rfl v'
  exact ⟨hk2.blk k1 h.ne, blk_set k2 6 v', h.ne, h.lo, hk2.own k3 (own_notT k3 k2 (by decide)), hk2.own k4 (own_notT k4 k2 (by decide)), hk2.own ho (own_notT ho k2 (by decide)), Kept.below k5 k5.size hk2 (fun k e => by have e : k = ob := e; have := h.lo.2; omega)⟩
end

set_option maxHeartbeats 25600000 in
set_option maxRecDepth 100000 in
theorem specReadS_any (s : ByteArray) (w : World) (hs : s.size ≤ 1048576) :
    Calls Tryd.prog 21 #[.string s] w fun e w' => SPost s w e w' := by
  have hr := heap_alloc_new w (.cells #[.int .i64 0, .string ⟨#[]⟩, .string ⟨#[]⟩, .int .i64 0, .int .i64 0, .slice none 0 0, .slice none 0 0, .int .i64 0] 49)
  have hb0 : Below w.heap.size w (w.alloc (.cells #[.int .i64 0, .string ⟨#[]⟩, .string ⟨#[]⟩, .int .i64 0, .int .i64 0, .slice none 0 0, .slice none 0 0, .int .i64 0] 49)) := push (Below.refl _ _) _
  go_enter Tryd.func21, Tryd.ntmps21
  go_upto_region 1 with fail
  generalize w.alloc (.cells #[.int .i64 0, .string ⟨#[]⟩, .string ⟨#[]⟩, .int .i64 0, .int .i64 0, .slice none 0 0, .slice none 0 0, .int .i64 0] 49) = W at hr hb0 ⊢
  have hsz := hb0.size
  go_wp2_with fail
  refine (l11Split_any s 32 _ hs).mono ?_
  rintro e w1 ⟨v, l, rfl, ho, HPL, hb⟩
  have hr1 := blk_below hr hb
  have hB1 := after hb0 hb
  have HL : Hid (∀ q, q ∈ l → q.size ≤ 1048576) := fun q hq => by have := parts_le HPL.out.1 q hq; omega
  have HPT : Hid (Parts 32 s l) := HPL.out.1
  have HO : Hid (OwnT w1 w.heap.size v l) := own_base ho hsz
  obtain ⟨va, vc, rfl, hvc, hvm, hvn⟩ := own_form ho
  clear hr hb0 ho hb HPL hvn hvm hsz
  by_cases h9 : l.length = 9
  case neg =>
    have d9 : ((l.length : Int) == 9) = false := by rw [beq_eq_false_iff_ne]; omega
    have d9' : (l.length == 9) = false := by rw [beq_eq_false_iff_ne]; exact h9
    have d9n : ((l.length : Int) != 9) = true := by rw [bne, d9]; rfl
    have d9m : (l.length != 9) = true := by rw [bne, d9']; rfl
    have d9p : ¬ (l.length : Int) = 9 := by omega
    have HNO : Hid (AnsS s Sail.zero false) := ans_short HPT.out h9
    have rF := box_8 hr1 (.int .i64 0) (.string ⟨#[]⟩) (.string ⟨#[]⟩) (.int .i64 0) (.int .i64 0) (.slice none 0 0) (.slice none 0 0) (.int .i64 0)
    have kF := keep_8 w1 w.heap.size (.int .i64 0) (.string ⟨#[]⟩) (.string ⟨#[]⟩) (.int .i64 0) (.int .i64 0) (.slice none 0 0) (.slice none 0 0) (.int .i64 0)
    have HFN : Hid (SOut s w _ Sail.zero (.slice none 0 0) (.slice none 0 0) false) := ⟨HNO.out, World.ownsRow_nil _ _ _ _, World.ownsRow_nil _ _ _ _, Kept.below hB1 hB1.size kF (fun k e => by have e : k = w.heap.size := e; omega)⟩
    have s0 := blk_cell hr1 0 _ rfl
    have g0 := blk_free hr1 0
    have s1 := blk_cell hr1 1 _ rfl
    have g1 := blk_free hr1 1
    have s2 := blk_cell hr1 2 _ rfl
    have g2 := blk_free hr1 2
    have s3 := blk_cell hr1 3 _ rfl
    have g3 := blk_free hr1 3
    have s4 := blk_cell hr1 4 _ rfl
    have g4 := blk_free hr1 4
    have s5 := blk_cell hr1 5 _ rfl
    have g5 := blk_free hr1 5
    have s6 := blk_cell hr1 6 _ rfl
    have g6 := blk_free hr1 6
    have s7 := blk_cell hr1 7 _ rfl
    have g7 := blk_free hr1 7
    clear kF
    go_wp2
    have t0 := blk_cell rF 0 _ rfl
    have t1 := blk_cell rF 1 _ rfl
    have t2 := blk_cell rF 2 _ rfl
    have t3 := blk_cell rF 3 _ rfl
    have t4 := blk_cell rF 4 _ rfl
    have t5 := blk_cell rF 5 _ rfl
    have t6 := blk_cell rF 6 _ rfl
    have t7 := blk_cell rF 7 _ rfl
    refine bodyPost_ret (v := .tuple #[.agg #[.int .i64 0, .string ⟨#[]⟩, .string ⟨#[]⟩, .int .i64 0, .int .i64 0, .slice none 0 0, .slice none 0 0, .int .i64 0], .bool false]) (by simp [results, Tryd.results21, go_sem, t0, t1, t2, t3, t4, t5, t6, t7]) rfl ?_
    exact ⟨Sail.zero, _, _, false, rfl, HFN.out⟩
  rw [h9] at hvc ⊢
  have HO9 : Hid (OwnT w1 w.heap.size (.slice va 9 vc) l) := by have h := HO.out; rw [h9] at h; exact h
  obtain ⟨g, hva, _, hg⟩ := own_addr (show w1.ownsRow w.heap.size 9 1 (.slice va 9 vc) 9 (l.map Value.string) by have h := HO9.out; unfold OwnT at h; rw [h9] at h; exact h) (by omega)
  subst hva
  have HC : Hid (∀ wx, OwnT wx w.heap.size (.slice (some ⟨g, 0, none⟩) 9 vc) l → ∀ i, i < 9 → wx.cell? ⟨g, i, none⟩ = some (.string (wd l i))) := fun wx h i hi => by
    have h1 := World.ownsRow.cellAt (show wx.ownsRow w.heap.size 9 1 (.slice (some ⟨g, 0, none⟩) 9 vc) 9 (l.map Value.string) by unfold OwnT at h; rw [h9] at h; exact h) i (by omega)
    rw [h1, List.getElem?_map]
    unfold wd
    rw [List.getD_eq_getElem?_getD, List.getElem?_eq_getElem (by omega)]
    rfl
  have H9 : Hid (l.length = 9) := h9
  clear HO h9 hg
  have HK : Hid (∀ w', Below w1.heap.size w1 w' → w'.cell? ⟨g, 1, none⟩ = some (.string (wd l 1)) ∧ w'.cell? ⟨g, 2, none⟩ = some (.string (wd l 2)) ∧ w'.cell? ⟨g, 3, none⟩ = some (.string (wd l 3)) ∧ w'.cell? ⟨g, 4, none⟩ = some (.string (wd l 4)) ∧ w'.cell? ⟨g, 5, none⟩ = some (.string (wd l 5)) ∧ w'.cell? ⟨g, 6, none⟩ = some (.string (wd l 6))) := fun w' hb => by
    have h := HC.out w' (own_below hb HO9.out)
    exact ⟨h 1 (by omega), h 2 (by omega), h 3 (by omega), h 4 (by omega), h 5 (by omega), h 6 (by omega)⟩
  obtain ⟨k1, k2, k3, k4, k5, k6⟩ := HK.out w1 (Below.refl _ _)
  have hlt := blk_lt hr1
  have HIN : Hid (∀ z, Below w1.heap.size w1 z → ∀ wx ob, wx = z.alloc (.cells #[.int .i64 (numOf (wd l 1)), .string (wd l 2), .string (wd l 3), .int .i64 (numOf (wd l 4)), .int .i64 (numOf (wd l 5)), .slice none 0 0, .slice none 0 0, .int .i64 (numOf (wd l 6))] 49) → ob = z.heap.size → SSp w wx w.heap.size ob ⟨numOf (wd l 1), wd l 2, wd l 3, numOf (wd l 4), numOf (wd l 5), (.slice none 0 0), (.slice none 0 0), [], [], numOf (wd l 6)⟩ (.slice (some ⟨g, 0, none⟩) 9 vc) l) := fun z hz wx ob e1 e2 => by
    subst e1 e2
    have hz2 := hz.size
    exact ⟨blk_alloc (blk_below hr1 hz) _, heap_alloc_new z _, by omega, ⟨Nat.le_refl _, by have := hB1.size; omega⟩, own_below (push (Below.refl _ _) _) (own_below hz HO9.out), World.ownsRow_nil _ _ _ _, World.ownsRow_nil _ _ _ _, push (after hB1 hz) _⟩
  have i9 : (9 : Int) ≤ 9 := by omega
  clear hr1 hB1 HO9
  go_upto_region 4 with fail
  go_cut [5] (fun u wx => ∃ ob, u = .pointer (some ⟨ob, 0, none⟩) ∧ Hid (SSp w wx w.heap.size ob ⟨numOf (wd l 1), wd l 2, wd l 3, numOf (wd l 4), numOf (wd l 5), (.slice none 0 0), (.slice none 0 0), [], [], numOf (wd l 6)⟩ (.slice (some ⟨g, 0, none⟩) 9 vc) l))
  case first =>
   as_aux_lemma =>
    go_region_held3 (fun w' => w'.cell? ⟨g, 1, none⟩ = some (.string (wd l 1)) ∧ w'.cell? ⟨g, 2, none⟩ = some (.string (wd l 2)) ∧ w'.cell? ⟨g, 3, none⟩ = some (.string (wd l 3)) ∧ w'.cell? ⟨g, 4, none⟩ = some (.string (wd l 4)) ∧ w'.cell? ⟨g, 5, none⟩ = some (.string (wd l 5)) ∧ w'.cell? ⟨g, 6, none⟩ = some (.string (wd l 6)))
      (first | (refine HK.out _ ?_; repeat (first | exact Below.refl _ _ | refine Below.drew ?_ | refine push ?_ _)))
      (first | (go_at_call 40; refine (l11Number_any _ _).mono ?_; rintro e w' ⟨rfl, hw'⟩; have hw' := hw'.symm; subst hw'))
    all_goals
      go_wp2
      go_meet
      first | exact ⟨_, rfl, (HIN.out w1 (Below.refl _ _) _ _ rfl rfl).below (Below.refl _ _).drew⟩ | exact ⟨_, rfl, HIN.out w1.drew (Below.refl _ _).drew _ _ rfl rfl⟩
  case rest =>
  obtain ⟨ob, rfl, HS0⟩ := hcut
  clear HK HIN k1 k2 k3 k4 k5 k6 hlt
  generalize w.heap.size = rb at HS0 ⊢
  generalize wc = W0 at HS0 ⊢
  have c7 := HC.out W0 HS0.out.ws 7 (by omega)
  go_wp2_with fail
  refine (l11ReadPairs_any (wd l 7) _ (wd_size HL.out 7)).mono ?_
  rintro e W0b ⟨vp1, pl, gp1, rfl, HPS, HR1, hb2⟩
  have HS0b : Hid (SSp w W0b rb ob ⟨numOf (wd l 1), wd l 2, wd l 3, numOf (wd l 4), numOf (wd l 5), (.slice none 0 0), (.slice none 0 0), [], [], numOf (wd l 6)⟩ (.slice (some ⟨g, 0, none⟩) 9 vc) l) := HS0.out.below hb2
  obtain ⟨pa1, pc1, rfl, hpc, _⟩ := own_form HPS.out.own
  have hpl1 : pl.length ≤ 1048576 := prd_few (i := 6) HPT.out hs HR1.out
  obtain ⟨j0, ji, jz0, jz1, jz2⟩ := info_parts Tryd.infoLane
  clear HS0 hb2 c7
  go_wp2
  go_loopw [7, 44] (fun _ i wr => ∃ (k : Nat) (vq : Value), k ≤ pl.length ∧ i = .int .i64 k ∧ Hid (SSp w wr rb ob ⟨numOf (wd l 1), wd l 2, wd l 3, numOf (wd l 4), numOf (wd l 5), vq, (.slice none 0 0), (pl.take k), [], numOf (wd l 6)⟩ (.slice (some ⟨g, 0, none⟩) 9 vc) l) ∧ Hid (PSt W0 wr (.slice pa1 pl.length pc1) (prs pl) pl.length gp1)) (fun _ i _ => pl.length - (intOf i).toNat)
  case atStart => exact ⟨0, _, Nat.zero_le _, rfl, HS0b.out, HPS.out⟩
  case round =>
    clear HS0b HPS
    obtain ⟨k, vq, hk, rfl, HS, HPR⟩ := hrel
    by_cases hlt : k < pl.length
    · obtain ⟨q, hpa, _, hq⟩ := own_addr HPR.out.own (by omega)
      subst hpa
      have hc : wr.cell? ⟨q, k, none⟩ = some (.slice (some ⟨gp1 k, 0, none⟩) 2 2) := own_cell HPR.out.own k (by omega) (by omega)
      have el := HPR.out.el k hlt
      have HAB := prs_at hlt
      have HSN : Hid (pairRow (prs (pl.take (k + 1))) = pairRow (prs (pl.take k)) ++ [.int .i64 ((prs pl).A k), .int .i64 ((prs pl).B k)]) := by rw [HAB.1, HAB.2, take_snoc_w hlt]; exact prs_snoc _ _
      have HLN : Hid ((pl.take (k + 1)).length = (pl.take k).length + 1) := by show (pl.take (k + 1)).length = (pl.take k).length + 1; rw [List.length_take, List.length_take]; omega
      have hkl : (pl.take k).length ≤ 1048576 := by rw [List.length_take]; omega
      obtain ⟨va, vd, hvq, _⟩ := own_form HS.out.la
      have hvq : vq = .slice va (pl.take k).length vd := hvq
      subst hvq
      have HSO : Hid (SSp w wr rb ob ⟨numOf (wd l 1), wd l 2, wd l 3, numOf (wd l 4), numOf (wd l 5), (.slice va (pl.take k).length vd), (.slice none 0 0), (pl.take k), [], numOf (wd l 6)⟩ (.slice (some ⟨g, 0, none⟩) 9 vc) l) := HS
      have h5 := blk_cell HS.out.o 5 _ rfl
      have hf5 := blk_free HS.out.o 5
      have h5a : (wr.alloc (.cells #[.int .i64 ((prs pl).A k), .int .i64 ((prs pl).B k)] 89)).cell? ⟨ob, 5, none⟩ = some (.slice va (pl.take k).length vd) := blk_cell (blk_alloc HS.out.o _) 5 _ rfl
      have hwz := HS.out.bel.size
      have HOW : Hid (wr.ownsRow w.heap.size 89 2 (.slice va (pl.take k).length vd) (pl.take k).length (pairRow (prs (pl.take k)))) := HS.out.la
      generalize hnk : (pl.take k).length = nk at h5 h5a HOW HLN hkl ⊢
      have HNK : Hid ((pl.take k).length = nk) := hnk
      clear hnk HS
      generalize (prs pl).A k = ca at el HSN h5a
      generalize (prs pl).B k = cb at el HSN h5a
      generalize gp1 k = gk at hc el
      have z0 := blk_cell el 0 _ rfl
      have z1 := blk_cell el 1 _ rfl
      clear HAB
      as_aux_lemma =>
       go_upto_region 8 with fail
       go_region_law (first
           | (refine step_append_lies _ (by rfl) (.tmp 49) (.tmp 57) 46 (by rfl) w.heap.size 89 j0 (.agg #[.int .i64 0, .int .i64 0]) 2 16 Tryd.underlying46 ji jz0 jz1 jz2 rfl (by decide) _ nk (pairRow (prs (pl.take k))) (by rfl) (own_below (show Below wr.heap.size wr _ from (by repeat (first | exact Below.refl _ _ | refine Below.drew ?_ | refine push ?_ _))) HOW.out) ⟨wr.heap.size, 0, none⟩ 1 1 [.int .i64 ca, .int .i64 cb] (by rfl) (by rfl) (World.news_of_block (heap_alloc_new wr _)) (by intro u hu; simp only [List.mem_cons, List.not_mem_nil, or_false] at hu; rcases hu with rfl | rfl <;> rfl) (by decide) (by unfold maxLen; omega) (by omega) (by simp; omega) _ rfl ?_; intro g9 cap9 w9 ho9 hg9 _ _; have b9 := (kept_row hg9).blk (blk_below HSO.out.o (show Below wr.heap.size wr _ from (by repeat (first | exact Below.refl _ _ | refine Below.drew ?_ | refine push ?_ _)))) (fun e => own_notT HOW.out HSO.out.o (by decide) ob e rfl); have n9 := blk_cell b9 5 _ rfl; have f9 := blk_free b9 5; have B9 : Hid (w9.heap[ob]? = some (.cells _ 49 (0, 0))) := b9; clear b9))
       all_goals
         have ho9' : w9.ownsRow w.heap.size 89 2 (.slice (some ⟨g9, 0, none⟩) (nk + 1) cap9) (pl.take (k + 1)).length (pairRow (prs (pl.take (k + 1)))) := by rw [HLN.out, HSN.out]; exact ho9
         have hs9 := HSO.out
         rw [HNK.out] at hs9
         have HT9 : Hid _ := SSp.lane (hs9.below (by repeat (first | exact Below.refl _ _ | refine Below.drew ?_ | refine push ?_ _))) hg9 ho9'
         have HP9 : Hid _ := ((HPR.out.below (by repeat (first | exact Below.refl _ _ | refine Below.drew ?_ | refine push ?_ _))).kept (kept_row hg9) (fun b hb => by obtain ⟨cs, h1⟩ := own_block HOW.out b hb; exact ⟨cs, 89, blk_below h1 (by repeat (first | exact Below.refl _ _ | refine Below.drew ?_ | refine push ?_ _)), by decide, by decide⟩)).kept ((Kept.refl w9 (fun g => g = ob)).set (a := ⟨ob, 5, none⟩) rfl (.slice (some ⟨g9, 0, none⟩) (nk + 1) cap9)) (fun b e => by have e : b = ob := e; subst e; exact ⟨_, 49, B9.out, by decide, by decide⟩)
         clear hs9 ho9' ho9 hg9 B9 n9 f9
         go_wp2
         go_roundw
         case rel => exact ⟨k + 1, _, by omega, by go_num, HT9.out, HP9.out⟩
         case measure => simp [intOf]; omega
    · obtain rfl : k = pl.length := by omega
      have HSE : Hid (SSp w wr rb ob ⟨numOf (wd l 1), wd l 2, wd l 3, numOf (wd l 4), numOf (wd l 5), vq, (.slice none 0 0), pl, [], numOf (wd l 6)⟩ (.slice (some ⟨g, 0, none⟩) 9 vc) l) := by have h := HS.out; rw [List.take_of_length_le (Nat.le_refl _)] at h; exact h
      obtain ⟨va1, vd1, hvq, _⟩ := own_form HSE.out.la
      have hvq : vq = .slice va1 pl.length vd1 := hvq
      subst hvq
      clear HS HPR hk hlt
      obtain ⟨W1, hW1⟩ : ∃ z, z = wr := ⟨_, rfl⟩
      subst hW1
      have c8 := HC.out W1 HSE.out.ws 8 (by omega)
      go_wp2_with fail
      refine (l11ReadPairs_any (wd l 8) _ (wd_size HL.out 8)).mono ?_
      rintro e W1b ⟨vp2, pk, gp2, rfl, HPS, HR2, hb2⟩
      have HSEb : Hid (SSp w W1b rb ob ⟨numOf (wd l 1), wd l 2, wd l 3, numOf (wd l 4), numOf (wd l 5), (.slice va1 pl.length vd1), (.slice none 0 0), pl, [], numOf (wd l 6)⟩ (.slice (some ⟨g, 0, none⟩) 9 vc) l) := HSE.out.below hb2
      obtain ⟨pa2, pc2, rfl, hpc, _⟩ := own_form HPS.out.own
      have hpl2 : pk.length ≤ 1048576 := prd_few (i := 7) HPT.out hs HR2.out
      obtain ⟨j0, ji, jz0, jz1, jz2⟩ := info_parts Tryd.infoCabin
      clear HSE hb2 c8
      go_wp2
      go_loopw [9, 66] (fun _ i wr => ∃ (k : Nat) (vq : Value), k ≤ pk.length ∧ i = .int .i64 k ∧ Hid (SSp w wr rb ob ⟨numOf (wd l 1), wd l 2, wd l 3, numOf (wd l 4), numOf (wd l 5), (.slice va1 pl.length vd1), vq, pl, (pk.take k), numOf (wd l 6)⟩ (.slice (some ⟨g, 0, none⟩) 9 vc) l) ∧ Hid (PSt W1 wr (.slice pa2 pk.length pc2) (prs pk) pk.length gp2)) (fun _ i _ => pk.length - (intOf i).toNat)
      case atStart => exact ⟨0, _, Nat.zero_le _, rfl, HSEb.out, HPS.out⟩
      case round =>
        clear HSEb HPS
        obtain ⟨k, vq, hk, rfl, HS, HPR⟩ := hrel
        by_cases hlt : k < pk.length
        · obtain ⟨q, hpa, _, hq⟩ := own_addr HPR.out.own (by omega)
          subst hpa
          have hc : wr.cell? ⟨q, k, none⟩ = some (.slice (some ⟨gp2 k, 0, none⟩) 2 2) := own_cell HPR.out.own k (by omega) (by omega)
          have el := HPR.out.el k hlt
          have HAB := prs_at hlt
          have HSN : Hid (pairRow (prs (pk.take (k + 1))) = pairRow (prs (pk.take k)) ++ [.int .i64 ((prs pk).A k), .int .i64 ((prs pk).B k)]) := by rw [HAB.1, HAB.2, take_snoc_w hlt]; exact prs_snoc _ _
          have HLN : Hid ((pk.take (k + 1)).length = (pk.take k).length + 1) := by show (pk.take (k + 1)).length = (pk.take k).length + 1; rw [List.length_take, List.length_take]; omega
          have hkl : (pk.take k).length ≤ 1048576 := by rw [List.length_take]; omega
          obtain ⟨va, vd, hvq, _⟩ := own_form HS.out.ca
          have hvq : vq = .slice va (pk.take k).length vd := hvq
          subst hvq
          have HSO : Hid (SSp w wr rb ob ⟨numOf (wd l 1), wd l 2, wd l 3, numOf (wd l 4), numOf (wd l 5), (.slice va1 pl.length vd1), (.slice va (pk.take k).length vd), pl, (pk.take k), numOf (wd l 6)⟩ (.slice (some ⟨g, 0, none⟩) 9 vc) l) := HS
          have h5 := blk_cell HS.out.o 6 _ rfl
          have hf5 := blk_free HS.out.o 6
          have h5a : (wr.alloc (.cells #[.int .i64 ((prs pk).A k), .int .i64 ((prs pk).B k)] 91)).cell? ⟨ob, 6, none⟩ = some (.slice va (pk.take k).length vd) := blk_cell (blk_alloc HS.out.o _) 6 _ rfl
          have hwz := HS.out.bel.size
          have HOW : Hid (wr.ownsRow w.heap.size 91 2 (.slice va (pk.take k).length vd) (pk.take k).length (pairRow (prs (pk.take k)))) := HS.out.ca
          generalize hnk : (pk.take k).length = nk at h5 h5a HOW HLN hkl ⊢
          have HNK : Hid ((pk.take k).length = nk) := hnk
          clear hnk HS
          generalize (prs pk).A k = ca at el HSN h5a
          generalize (prs pk).B k = cb at el HSN h5a
          generalize gp2 k = gk at hc el
          have z0 := blk_cell el 0 _ rfl
          have z1 := blk_cell el 1 _ rfl
          clear HAB
          as_aux_lemma =>
           go_upto_region 13 with fail
           go_region_law (first
               | (refine step_append_lies _ (by rfl) (.tmp 71) (.tmp 79) 47 (by rfl) w.heap.size 91 j0 (.agg #[.int .i64 0, .int .i64 0]) 2 16 Tryd.underlying47 ji jz0 jz1 jz2 rfl (by decide) _ nk (pairRow (prs (pk.take k))) (by rfl) (own_below (show Below wr.heap.size wr _ from (by repeat (first | exact Below.refl _ _ | refine Below.drew ?_ | refine push ?_ _))) HOW.out) ⟨wr.heap.size, 0, none⟩ 1 1 [.int .i64 ca, .int .i64 cb] (by rfl) (by rfl) (World.news_of_block (heap_alloc_new wr _)) (by intro u hu; simp only [List.mem_cons, List.not_mem_nil, or_false] at hu; rcases hu with rfl | rfl <;> rfl) (by decide) (by unfold maxLen; omega) (by omega) (by simp; omega) _ rfl ?_; intro g9 cap9 w9 ho9 hg9 _ _; have b9 := (kept_row hg9).blk (blk_below HSO.out.o (show Below wr.heap.size wr _ from (by repeat (first | exact Below.refl _ _ | refine Below.drew ?_ | refine push ?_ _)))) (fun e => own_notT HOW.out HSO.out.o (by decide) ob e rfl); have n9 := blk_cell b9 6 _ rfl; have f9 := blk_free b9 6; have B9 : Hid (w9.heap[ob]? = some (.cells _ 49 (0, 0))) := b9; clear b9))
           all_goals
             have ho9' : w9.ownsRow w.heap.size 91 2 (.slice (some ⟨g9, 0, none⟩) (nk + 1) cap9) (pk.take (k + 1)).length (pairRow (prs (pk.take (k + 1)))) := by rw [HLN.out, HSN.out]; exact ho9
             have hs9 := HSO.out
             rw [HNK.out] at hs9
             have HT9 : Hid _ := SSp.cab (hs9.below (by repeat (first | exact Below.refl _ _ | refine Below.drew ?_ | refine push ?_ _))) hg9 ho9'
             have HP9 : Hid _ := ((HPR.out.below (by repeat (first | exact Below.refl _ _ | refine Below.drew ?_ | refine push ?_ _))).kept (kept_row hg9) (fun b hb => by obtain ⟨cs, h1⟩ := own_block HOW.out b hb; exact ⟨cs, 91, blk_below h1 (by repeat (first | exact Below.refl _ _ | refine Below.drew ?_ | refine push ?_ _)), by decide, by decide⟩)).kept ((Kept.refl w9 (fun g => g = ob)).set (a := ⟨ob, 6, none⟩) rfl (.slice (some ⟨g9, 0, none⟩) (nk + 1) cap9)) (fun b e => by have e : b = ob := e; subst e; exact ⟨_, 49, B9.out, by decide, by decide⟩)
             clear hs9 ho9' ho9 hg9 B9 n9 f9
             go_wp2
             go_roundw
             case rel => exact ⟨k + 1, _, by omega, by go_num, HT9.out, HP9.out⟩
             case measure => simp [intOf]; omega
        · obtain rfl : k = pk.length := by omega
          have HSE : Hid (SSp w wr rb ob ⟨numOf (wd l 1), wd l 2, wd l 3, numOf (wd l 4), numOf (wd l 5), (.slice va1 pl.length vd1), vq, pl, pk, numOf (wd l 6)⟩ (.slice (some ⟨g, 0, none⟩) 9 vc) l) := by have h := HS.out; rw [List.take_of_length_le (Nat.le_refl _)] at h; exact h
          obtain ⟨va2, vd2, hvq, _⟩ := own_form HSE.out.ca
          have hvq : vq = .slice va2 pk.length vd2 := hvq
          subst hvq
          clear HS HPR hk hlt
          obtain ⟨W2, hW2⟩ : ∃ z, z = wr := ⟨_, rfl⟩
          subst hW2
          obtain ⟨D, hD⟩ : ∃ D : Sail, D = readS l pl pk := ⟨_, rfl⟩
          have b3 : W2.heap[ob]? = some (.cells #[.int .i64 D.id, .string D.fr, .string D.dst, .int .i64 D.dep, .int .i64 D.arr, .slice va1 pl.length vd1, .slice va2 pk.length vd2, .int .i64 D.most] 49 (0, 0)) := by rw [hD]; exact HSE.out.o
          have hr3 := HSE.out.r
          have hlo := HSE.out.lo
          have hB3 := HSE.out.bel
          have HO3 : Hid (W2.ownsRow w.heap.size 89 2 (.slice va1 pl.length vd1) D.la.n (pairRow D.la) ∧ W2.ownsRow w.heap.size 91 2 (.slice va2 pk.length vd2) D.ca.n (pairRow D.ca)) := by rw [hD]; exact ⟨HSE.out.la, HSE.out.ca⟩
          have E12 : Hid (D.la.n = pl.length ∧ D.ca.n = pk.length) := by rw [hD]; exact ⟨rfl, rfl⟩
          have HBK : Hid (¬ (GoodSail D ∧ sailT D = s) → AnsS s Sail.zero false) := fun hn => ans_not HPT.out HR1.out HR2.out (by rw [← hD]; exact hn)
          have HNS : Hid (D.fr.size ≤ 1000000000000000 ∧ D.dst.size ≤ 1000000000000000) := by
            have w1 := wd_size HL.out 2
            have w2 := wd_size HL.out 3
            rw [hD]
            exact ⟨by show (wd l 2).size ≤ _; omega, by show (wd l 3).size ≤ _; omega⟩
          have HPA : Hid (∀ w', Below W2.heap.size W2 w' → PairsAt w' va1 D.la ∧ PairsAt w' va2 D.ca) := fun w' hb => by
            have h1 := HO3.out.1
            have h2 := HO3.out.2
            rw [← E12.out.1] at h1
            rw [← E12.out.2] at h2
            exact ⟨(pairs_of_own h1).below hb, (pairs_of_own h2).below hb⟩
          clear HSE hD HL HPT HR1 HR2 HC H9 hvc
          have y0 := blk_cell b3 0 _ rfl
          have y1 := blk_cell b3 1 _ rfl
          have y2 := blk_cell b3 2 _ rfl
          have y3 := blk_cell b3 3 _ rfl
          have y4 := blk_cell b3 4 _ rfl
          have y5 := blk_cell b3 5 _ rfl
          have y6 := blk_cell b3 6 _ rfl
          have y7 := blk_cell b3 7 _ rfl
          go_wp2_with fail
          refine (specSailing_any D.id D.dep D.arr D.most D.fr D.dst va1 va2 pl.length pk.length vd1 vd2 D.la D.ca _ E12.out.1 E12.out.2 HNS.out.1 HNS.out.2 hpl1 hpl2 (HPA.out _ (Below.refl _ _)).1 (HPA.out _ (Below.refl _ _)).2).mono ?_
          rintro e w4 ⟨⟨q, rfl, hq⟩, hb4⟩
          have HQ : Hid (q = true ↔ GoodSail D) := hq
          have hB4 := after hB3 hb4
          have hr4 := blk_below hr3 hb4
          have b4 := blk_below b3 hb4
          have HO4 : Hid (w4.ownsRow w.heap.size 89 2 (.slice va1 pl.length vd1) D.la.n (pairRow D.la) ∧ w4.ownsRow w.heap.size 91 2 (.slice va2 pk.length vd2) D.ca.n (pairRow D.ca)) := ⟨own_below hb4 HO3.out.1, own_below hb4 HO3.out.2⟩
          have HPA4 : Hid (PairsAt w4 va1 D.la ∧ PairsAt w4 va2 D.ca) := HPA.out _ hb4
          clear y0 y1 y2 y3 y4 y5 y6 y7 hB3 hr3 b3 hb4 HO3 hq HPA
          cases q with
          | false =>
            have HNO : Hid (AnsS s Sail.zero false) := HBK.out (fun h => by have := HQ.out.2 h.1; cases this)
            obtain ⟨w5, h5⟩ : ∃ z, z = w4 := ⟨_, rfl⟩
            subst h5
            have hr5 := hr4
            have hB5 := hB4
            have rF := box_8 hr5 (.int .i64 0) (.string ⟨#[]⟩) (.string ⟨#[]⟩) (.int .i64 0) (.int .i64 0) (.slice none 0 0) (.slice none 0 0) (.int .i64 0)
            have kF := keep_8 w5 rb (.int .i64 0) (.string ⟨#[]⟩) (.string ⟨#[]⟩) (.int .i64 0) (.int .i64 0) (.slice none 0 0) (.slice none 0 0) (.int .i64 0)
            have HFN : Hid (SOut s w _ Sail.zero (.slice none 0 0) (.slice none 0 0) false) := ⟨HNO.out, World.ownsRow_nil _ _ _ _, World.ownsRow_nil _ _ _ _, Kept.below hB5 hB5.size kF (fun k e => by have e : k = rb := e; omega)⟩
            have s0 := blk_cell hr5 0 _ rfl
            have g0 := blk_free hr5 0
            have s1 := blk_cell hr5 1 _ rfl
            have g1 := blk_free hr5 1
            have s2 := blk_cell hr5 2 _ rfl
            have g2 := blk_free hr5 2
            have s3 := blk_cell hr5 3 _ rfl
            have g3 := blk_free hr5 3
            have s4 := blk_cell hr5 4 _ rfl
            have g4 := blk_free hr5 4
            have s5 := blk_cell hr5 5 _ rfl
            have g5 := blk_free hr5 5
            have s6 := blk_cell hr5 6 _ rfl
            have g6 := blk_free hr5 6
            have s7 := blk_cell hr5 7 _ rfl
            have g7 := blk_free hr5 7
            clear kF
            go_wp2
            have t0 := blk_cell rF 0 _ rfl
            have t1 := blk_cell rF 1 _ rfl
            have t2 := blk_cell rF 2 _ rfl
            have t3 := blk_cell rF 3 _ rfl
            have t4 := blk_cell rF 4 _ rfl
            have t5 := blk_cell rF 5 _ rfl
            have t6 := blk_cell rF 6 _ rfl
            have t7 := blk_cell rF 7 _ rfl
            refine bodyPost_ret (v := .tuple #[.agg #[.int .i64 0, .string ⟨#[]⟩, .string ⟨#[]⟩, .int .i64 0, .int .i64 0, .slice none 0 0, .slice none 0 0, .int .i64 0], .bool false]) (by simp [results, Tryd.results21, go_sem, t0, t1, t2, t3, t4, t5, t6, t7]) rfl ?_
            exact ⟨Sail.zero, _, _, false, rfl, HFN.out⟩
          | true =>
            have HG : Hid (GoodSail D) := by first | exact HQ.out.1 rfl | exact HQ.out.1 trivial
            have ct : Calls Tryd.prog 51 #[.agg #[.int .i64 D.id, .string D.fr, .string D.dst, .int .i64 D.dep, .int .i64 D.arr, .slice va1 pl.length vd1, .slice va2 pk.length vd2, .int .i64 D.most]] w4 fun e w' => e = .returned (.string (sailT D)) ∧ Below w4.heap.size w4 w' := by
              have h := l11Sail_any D va1 va2 vd1 vd2 w4 HG.out HPA4.out.1 HPA4.out.2
              rw [E12.out.1, E12.out.2] at h
              exact h
            obtain ⟨T, hT⟩ : ∃ T, T = sailT D := ⟨_, rfl⟩
            rw [← hT] at ct
            have HTT : Hid (T = sailT D) := hT
            clear hT
            have y0 := blk_cell b4 0 _ rfl
            have y1 := blk_cell b4 1 _ rfl
            have y2 := blk_cell b4 2 _ rfl
            have y3 := blk_cell b4 3 _ rfl
            have y4 := blk_cell b4 4 _ rfl
            have y5 := blk_cell b4 5 _ rfl
            have y6 := blk_cell b4 6 _ rfl
            have y7 := blk_cell b4 7 _ rfl
            go_wp2_with fail
            refine ct.mono ?_
            clear ct
            rintro e w5 ⟨rfl, hb5⟩
            have hB5 := after hB4 hb5
            have hr5 := blk_below hr4 hb5
            have b5 := blk_below b4 hb5
            have HO5 : Hid (w5.ownsRow w.heap.size 89 2 (.slice va1 pl.length vd1) D.la.n (pairRow D.la) ∧ w5.ownsRow w.heap.size 91 2 (.slice va2 pk.length vd2) D.ca.n (pairRow D.ca)) := ⟨own_below hb5 HO4.out.1, own_below hb5 HO4.out.2⟩
            clear y0 y1 y2 y3 y4 y5 y6 y7 hB4 hr4 b4 hb5 HO4 HPA4
            by_cases hts : T = s
            case neg =>
              have et : (T.toList == s.toList) = false := bytes_ne.2 hts
              have HNO : Hid (AnsS s Sail.zero false) := HBK.out (fun h => hts (by rw [HTT.out]; exact h.2))
              clear hts
              have rF := box_8 hr5 (.int .i64 0) (.string ⟨#[]⟩) (.string ⟨#[]⟩) (.int .i64 0) (.int .i64 0) (.slice none 0 0) (.slice none 0 0) (.int .i64 0)
              have kF := keep_8 w5 rb (.int .i64 0) (.string ⟨#[]⟩) (.string ⟨#[]⟩) (.int .i64 0) (.int .i64 0) (.slice none 0 0) (.slice none 0 0) (.int .i64 0)
              have HFN : Hid (SOut s w _ Sail.zero (.slice none 0 0) (.slice none 0 0) false) := ⟨HNO.out, World.ownsRow_nil _ _ _ _, World.ownsRow_nil _ _ _ _, Kept.below hB5 hB5.size kF (fun k e => by have e : k = rb := e; omega)⟩
              have s0 := blk_cell hr5 0 _ rfl
              have g0 := blk_free hr5 0
              have s1 := blk_cell hr5 1 _ rfl
              have g1 := blk_free hr5 1
              have s2 := blk_cell hr5 2 _ rfl
              have g2 := blk_free hr5 2
              have s3 := blk_cell hr5 3 _ rfl
              have g3 := blk_free hr5 3
              have s4 := blk_cell hr5 4 _ rfl
              have g4 := blk_free hr5 4
              have s5 := blk_cell hr5 5 _ rfl
              have g5 := blk_free hr5 5
              have s6 := blk_cell hr5 6 _ rfl
              have g6 := blk_free hr5 6
              have s7 := blk_cell hr5 7 _ rfl
              have g7 := blk_free hr5 7
              clear kF
              go_wp2
              have t0 := blk_cell rF 0 _ rfl
              have t1 := blk_cell rF 1 _ rfl
              have t2 := blk_cell rF 2 _ rfl
              have t3 := blk_cell rF 3 _ rfl
              have t4 := blk_cell rF 4 _ rfl
              have t5 := blk_cell rF 5 _ rfl
              have t6 := blk_cell rF 6 _ rfl
              have t7 := blk_cell rF 7 _ rfl
              refine bodyPost_ret (v := .tuple #[.agg #[.int .i64 0, .string ⟨#[]⟩, .string ⟨#[]⟩, .int .i64 0, .int .i64 0, .slice none 0 0, .slice none 0 0, .int .i64 0], .bool false]) (by simp [results, Tryd.results21, go_sem, t0, t1, t2, t3, t4, t5, t6, t7]) rfl ?_
              exact ⟨Sail.zero, _, _, false, rfl, HFN.out⟩
            case pos =>
              subst hts
              have et : (T.toList == T.toList) = true := by simp
              have HYES : Hid (AnsS T D true) := .inl ⟨rfl, HG.out, HTT.out.symm⟩
              have p0 := blk_cell b5 0 _ rfl
              have p1 := blk_cell b5 1 _ rfl
              have p2 := blk_cell b5 2 _ rfl
              have p3 := blk_cell b5 3 _ rfl
              have p4 := blk_cell b5 4 _ rfl
              have p5 := blk_cell b5 5 _ rfl
              have p6 := blk_cell b5 6 _ rfl
              have p7 := blk_cell b5 7 _ rfl
              have s0 := blk_cell hr5 0 _ rfl
              have g0 := blk_free hr5 0
              have s1 := blk_cell hr5 1 _ rfl
              have g1 := blk_free hr5 1
              have s2 := blk_cell hr5 2 _ rfl
              have g2 := blk_free hr5 2
              have s3 := blk_cell hr5 3 _ rfl
              have g3 := blk_free hr5 3
              have s4 := blk_cell hr5 4 _ rfl
              have g4 := blk_free hr5 4
              have s5 := blk_cell hr5 5 _ rfl
              have g5 := blk_free hr5 5
              have s6 := blk_cell hr5 6 _ rfl
              have g6 := blk_free hr5 6
              have s7 := blk_cell hr5 7 _ rfl
              have g7 := blk_free hr5 7
              have rF := box_8 hr5 (.int .i64 D.id) (.string D.fr) (.string D.dst) (.int .i64 D.dep) (.int .i64 D.arr) (.slice va1 pl.length vd1) (.slice va2 pk.length vd2) (.int .i64 D.most)
              have kF := keep_8 w5 rb (.int .i64 D.id) (.string D.fr) (.string D.dst) (.int .i64 D.dep) (.int .i64 D.arr) (.slice va1 pl.length vd1) (.slice va2 pk.length vd2) (.int .i64 D.most)
              have HFY : Hid (SOut T w _ D (.slice va1 pl.length vd1) (.slice va2 pk.length vd2) true) := ⟨HYES.out, kF.own HO5.out.1 (own_notT HO5.out.1 hr5 (by decide)), kF.own HO5.out.2 (own_notT HO5.out.2 hr5 (by decide)), Kept.below hB5 hB5.size kF (fun k e => by have e : k = rb := e; omega)⟩
              clear kF
              go_wp2
              have t0 := blk_cell rF 0 _ rfl
              have t1 := blk_cell rF 1 _ rfl
              have t2 := blk_cell rF 2 _ rfl
              have t3 := blk_cell rF 3 _ rfl
              have t4 := blk_cell rF 4 _ rfl
              have t5 := blk_cell rF 5 _ rfl
              have t6 := blk_cell rF 6 _ rfl
              have t7 := blk_cell rF 7 _ rfl
              refine bodyPost_ret (v := .tuple #[.agg #[.int .i64 D.id, .string D.fr, .string D.dst, .int .i64 D.dep, .int .i64 D.arr, .slice va1 pl.length vd1, .slice va2 pk.length vd2, .int .i64 D.most], .bool true]) (by simp [results, Tryd.results21, go_sem, t0, t1, t2, t3, t4, t5, t6, t7]) rfl ?_
              exact ⟨D, _, _, true, rfl, HFY.out⟩

end Go.Proofs.YtfbooamjddnagaaDoor

namespace Go.Proofs.YtfbooamjddnagaaDoor
open Go.RowKit

/-- Pairs as they are marked from k on. -/
def markP (k : Nat) (p : Pairs) : Pairs := ⟨p.n, fun i => (k + 2 * i : Nat), fun i => (k + 2 * i + 1 : Nat)⟩
theorem markP_cell (k : Nat) (p : Pairs) (j : Nat) : pairCell (markP k p) j = .int .i64 ((k + j : Nat) : Int) := by
  unfold pairCell markP
  by_cases h : j % 2 = 0
  · rw [if_pos h]; show Value.int .i64 ((k + 2 * (j / 2) : Nat) : Int) = _; rw [show k + 2 * (j / 2) = k + j by omega]
  · rw [if_neg h]; show Value.int .i64 ((k + 2 * (j / 2) + 1 : Nat) : Int) = _; rw [show k + 2 * (j / 2) + 1 = k + j by omega]

set_option maxHeartbeats 800000 in
theorem markLaneP (ao : Option Addr) (c base k0 : Nat) (p : Pairs) (w : World) (hn : p.n ≤ 1048576) (h1 : k0 ≤ 100000000000000) (ho : w.ownsRow base 89 2 (.slice ao p.n c) p.n (pairRow p)) :
    Calls Tryd.prog 60 #[.slice ao p.n c, .int .i64 (k0 : Int)] w fun e w' => e = .returned (.int .i64 ((k0 + 2 * p.n : Nat) : Int)) ∧ w'.ownsRow base 89 2 (.slice ao p.n c) p.n (pairRow (markP k0 p)) ∧ Kept w w' (fun b => (Value.slice ao p.n c).ownBlock = some b) := by
  obtain ⟨n, hnd⟩ : ∃ n, n = p.n := ⟨_, rfl⟩
  rw [← hnd] at hn ho ⊢
  have HND : Hid (n = p.n) := hnd
  clear hnd
  go_enter Tryd.func60, Tryd.ntmps60
  go_wp2
  go_loopw [1, 5] (fun q i wr => ∃ (t k : Nat), t ≤ n ∧ i = .int .i64 t ∧ q = .int .i64 k ∧ k = k0 + 2 * t ∧ wr.ownsRow base 89 2 (.slice ao n c) n ((List.range (n * 2)).map (fun j => if j < t * 2 then .int .i64 ((k0 + j : Nat) : Int) else pairCell p j)) ∧ Kept w wr (fun b => (Value.slice ao n c).ownBlock = some b)) (fun _ i _ => n - (intOf i).toNat)
  case atStart =>
    refine ⟨0, k0, Nat.zero_le _, rfl, rfl, by omega, ?_, Kept.refl _ _⟩
    have : (List.range (n * 2)).map (fun j => if j < 0 * 2 then .int .i64 ((k0 + j : Nat) : Int) else pairCell p j) = pairRow p := by
      unfold pairRow; rw [← HND.out]; exact List.map_congr_left (fun j _ => if_neg (by omega))
    rw [this]; exact ho
  case round =>
    clear ho
    obtain ⟨t, k, ht, rfl, rfl, hkk, hown, hk⟩ := hrel
    have HKK : Hid (k = k0 + 2 * t) := hkk
    have kb : k ≤ 200000000000000 := by omega
    clear hkk
    by_cases hlt : t < n
    · obtain ⟨g, rfl, _, _⟩ := own_addr hown (by omega)
      obtain ⟨v0, hc0⟩ : ∃ v, wr.cell? ⟨g, t * 2, none⟩ = some v := ⟨_, own_cell hown (t * 2) (by omega) rfl⟩
      obtain ⟨v1, hc1⟩ : ∃ v, wr.cell? ⟨g, t * 2 + 1, none⟩ = some v := ⟨_, own_cell hown (t * 2 + 1) (by omega) rfl⟩
      have hf0 := hown.frozenAt (t * 2)
      have hf1 := hown.frozenAt (t * 2 + 1)
      have HOW : Hid _ := hown
      have HKP : Hid _ := hk
      clear hown hk
      go_wp2
      go_roundw
      case rel =>
        refine ⟨t + 1, k + 2, by omega, by go_num, by go_num, by have := HKK.out; omega, own_congr (own_store (own_store HOW.out (t * 2) _) (t * 2 + 1) _) (fun j hj => ?_), (HKP.out.set (a := ⟨g, t * 2, none⟩) rfl _).set (a := ⟨g, t * 2 + 1, none⟩) rfl _⟩
        have e0 := HKK.out
        by_cases h1 : j = t * 2 + 1
        · rw [if_pos h1, if_pos (by omega)]; congr 1; subst h1; subst e0; omega
        · rw [if_neg h1]
          by_cases h0 : j = t * 2
          · rw [if_pos h0, if_pos (by omega)]; congr 1; subst h0; subst e0; omega
          · rw [if_neg h0]
            by_cases h2 : j < t * 2
            · rw [if_pos h2, if_pos (by omega)]
            · rw [if_neg h2, if_neg (by omega)]
      case measure => simp [intOf]; omega
    · obtain rfl : t = n := by omega
      have HOW : Hid _ := hown
      clear hown
      go_wp2
      go_ret
      refine ⟨by rw [HKK.out]; rfl, ?_, hk⟩
      have : pairRow (markP k0 p) = (List.range (t * 2)).map (fun j => if j < t * 2 then .int .i64 ((k0 + j : Nat) : Int) else pairCell p j) := by
        unfold pairRow
        rw [show (markP k0 p).n = t from HND.out.symm]
        refine List.map_congr_left (fun j hj => ?_)
        have hj' : j < t * 2 := by simpa using hj
        rw [if_pos hj', markP_cell]
      rw [this]; exact HOW.out

set_option maxHeartbeats 800000 in
theorem heldLaneP (ao : Option Addr) (c k0 : Nat) (p : Pairs) (w : World) (hn : p.n ≤ 1048576) (h1 : k0 ≤ 100000000000000) (hz : PairsAt w ao (markP k0 p)) :
    Calls Tryd.prog 62 #[.slice ao p.n c, .int .i64 (k0 : Int)] w fun e w' => e = .returned (.int .i64 ((k0 + 2 * p.n : Nat) : Int)) ∧ w' = w := by
  obtain ⟨n, hnd⟩ : ∃ n, n = p.n := ⟨_, rfl⟩
  have HZ : Hid (∀ j, j < n → ∃ b off, ao = some ⟨b, off, none⟩ ∧ w.cell? ⟨b, off + j * 2, none⟩ = some (.int .i64 ((k0 + 2 * j : Nat) : Int)) ∧ w.cell? ⟨b, off + j * 2 + 1, none⟩ = some (.int .i64 ((k0 + 2 * j + 1 : Nat) : Int))) := by rw [hnd]; exact hz
  rw [← hnd] at hn ⊢
  clear hnd hz
  go_enter Tryd.func62, Tryd.ntmps62
  go_wp2
  go_loopw [1, 5] (fun q i wr => ∃ (t k : Nat), t ≤ n ∧ i = .int .i64 t ∧ q = .int .i64 k ∧ k = k0 + 2 * t ∧ wr = w) (fun _ i _ => n - (intOf i).toNat)
  case atStart => exact ⟨0, k0, Nat.zero_le _, rfl, rfl, by omega, rfl⟩
  case round =>
    obtain ⟨t, k, ht, rfl, rfl, hkk, rfl⟩ := hrel
    have kb : k ≤ 200000000000000 := by omega
    by_cases hlt : t < n
    · obtain ⟨b, off, rfl, c0, c1⟩ := HZ.out t hlt
      rw [← hkk] at c0 c1
      have HKK : Hid (k = k0 + 2 * t) := hkk
      have c1 : wr.cell? ⟨b, off + t * 2 + 1, none⟩ = some (.int .i64 ((k : Int) + 1)) := by rw [c1]; rfl
      have i1 : (0 : Int) ≤ (t : Int) := by omega
      have i2 : (t : Int) < (n : Int) := by omega
      clear hkk
      go_wp2
      go_roundw
      case rel => exact ⟨t + 1, k + 2, by omega, by go_num, by go_num, by have := HKK.out; omega, trivial⟩
      case measure => simp [intOf]; omega
    · obtain rfl : t = n := by omega
      have HKK : Hid (k = k0 + 2 * t) := hkk
      clear hkk
      go_wp2
      go_ret
      exact ⟨by rw [HKK.out]; rfl, rfl⟩

set_option maxHeartbeats 800000 in
theorem markCabinP (ao : Option Addr) (c base k0 : Nat) (p : Pairs) (w : World) (hn : p.n ≤ 1048576) (h1 : k0 ≤ 100000000000000) (ho : w.ownsRow base 91 2 (.slice ao p.n c) p.n (pairRow p)) :
    Calls Tryd.prog 61 #[.slice ao p.n c, .int .i64 (k0 : Int)] w fun e w' => e = .returned (.int .i64 ((k0 + 2 * p.n : Nat) : Int)) ∧ w'.ownsRow base 91 2 (.slice ao p.n c) p.n (pairRow (markP k0 p)) ∧ Kept w w' (fun b => (Value.slice ao p.n c).ownBlock = some b) := by
  obtain ⟨n, hnd⟩ : ∃ n, n = p.n := ⟨_, rfl⟩
  rw [← hnd] at hn ho ⊢
  have HND : Hid (n = p.n) := hnd
  clear hnd
  go_enter Tryd.func61, Tryd.ntmps61
  go_wp2
  go_loopw [1, 5] (fun q i wr => ∃ (t k : Nat), t ≤ n ∧ i = .int .i64 t ∧ q = .int .i64 k ∧ k = k0 + 2 * t ∧ wr.ownsRow base 91 2 (.slice ao n c) n ((List.range (n * 2)).map (fun j => if j < t * 2 then .int .i64 ((k0 + j : Nat) : Int) else pairCell p j)) ∧ Kept w wr (fun b => (Value.slice ao n c).ownBlock = some b)) (fun _ i _ => n - (intOf i).toNat)
  case atStart =>
    refine ⟨0, k0, Nat.zero_le _, rfl, rfl, by omega, ?_, Kept.refl _ _⟩
    have : (List.range (n * 2)).map (fun j => if j < 0 * 2 then .int .i64 ((k0 + j : Nat) : Int) else pairCell p j) = pairRow p := by
      unfold pairRow; rw [← HND.out]; exact List.map_congr_left (fun j _ => if_neg (by omega))
    rw [this]; exact ho
  case round =>
    clear ho
    obtain ⟨t, k, ht, rfl, rfl, hkk, hown, hk⟩ := hrel
    have HKK : Hid (k = k0 + 2 * t) := hkk
    have kb : k ≤ 200000000000000 := by omega
    clear hkk
    by_cases hlt : t < n
    · obtain ⟨g, rfl, _, _⟩ := own_addr hown (by omega)
      obtain ⟨v0, hc0⟩ : ∃ v, wr.cell? ⟨g, t * 2, none⟩ = some v := ⟨_, own_cell hown (t * 2) (by omega) rfl⟩
      obtain ⟨v1, hc1⟩ : ∃ v, wr.cell? ⟨g, t * 2 + 1, none⟩ = some v := ⟨_, own_cell hown (t * 2 + 1) (by omega) rfl⟩
      have hf0 := hown.frozenAt (t * 2)
      have hf1 := hown.frozenAt (t * 2 + 1)
      have HOW : Hid _ := hown
      have HKP : Hid _ := hk
      clear hown hk
      go_wp2
      go_roundw
      case rel =>
        refine ⟨t + 1, k + 2, by omega, by go_num, by go_num, by have := HKK.out; omega, own_congr (own_store (own_store HOW.out (t * 2) _) (t * 2 + 1) _) (fun j hj => ?_), (HKP.out.set (a := ⟨g, t * 2, none⟩) rfl _).set (a := ⟨g, t * 2 + 1, none⟩) rfl _⟩
        have e0 := HKK.out
        by_cases h1 : j = t * 2 + 1
        · rw [if_pos h1, if_pos (by omega)]; congr 1; subst h1; subst e0; omega
        · rw [if_neg h1]
          by_cases h0 : j = t * 2
          · rw [if_pos h0, if_pos (by omega)]; congr 1; subst h0; subst e0; omega
          · rw [if_neg h0]
            by_cases h2 : j < t * 2
            · rw [if_pos h2, if_pos (by omega)]
            · rw [if_neg h2, if_neg (by omega)]
      case measure => simp [intOf]; omega
    · obtain rfl : t = n := by omega
      have HOW : Hid _ := hown
      clear hown
      go_wp2
      go_ret
      refine ⟨by rw [HKK.out]; rfl, ?_, hk⟩
      have : pairRow (markP k0 p) = (List.range (t * 2)).map (fun j => if j < t * 2 then .int .i64 ((k0 + j : Nat) : Int) else pairCell p j) := by
        unfold pairRow
        rw [show (markP k0 p).n = t from HND.out.symm]
        refine List.map_congr_left (fun j hj => ?_)
        have hj' : j < t * 2 := by simpa using hj
        rw [if_pos hj', markP_cell]
      rw [this]; exact HOW.out

set_option maxHeartbeats 800000 in
theorem heldCabinP (ao : Option Addr) (c k0 : Nat) (p : Pairs) (w : World) (hn : p.n ≤ 1048576) (h1 : k0 ≤ 100000000000000) (hz : PairsAt w ao (markP k0 p)) :
    Calls Tryd.prog 63 #[.slice ao p.n c, .int .i64 (k0 : Int)] w fun e w' => e = .returned (.int .i64 ((k0 + 2 * p.n : Nat) : Int)) ∧ w' = w := by
  obtain ⟨n, hnd⟩ : ∃ n, n = p.n := ⟨_, rfl⟩
  have HZ : Hid (∀ j, j < n → ∃ b off, ao = some ⟨b, off, none⟩ ∧ w.cell? ⟨b, off + j * 2, none⟩ = some (.int .i64 ((k0 + 2 * j : Nat) : Int)) ∧ w.cell? ⟨b, off + j * 2 + 1, none⟩ = some (.int .i64 ((k0 + 2 * j + 1 : Nat) : Int))) := by rw [hnd]; exact hz
  rw [← hnd] at hn ⊢
  clear hnd hz
  go_enter Tryd.func63, Tryd.ntmps63
  go_wp2
  go_loopw [1, 5] (fun q i wr => ∃ (t k : Nat), t ≤ n ∧ i = .int .i64 t ∧ q = .int .i64 k ∧ k = k0 + 2 * t ∧ wr = w) (fun _ i _ => n - (intOf i).toNat)
  case atStart => exact ⟨0, k0, Nat.zero_le _, rfl, rfl, by omega, rfl⟩
  case round =>
    obtain ⟨t, k, ht, rfl, rfl, hkk, rfl⟩ := hrel
    have kb : k ≤ 200000000000000 := by omega
    by_cases hlt : t < n
    · obtain ⟨b, off, rfl, c0, c1⟩ := HZ.out t hlt
      rw [← hkk] at c0 c1
      have HKK : Hid (k = k0 + 2 * t) := hkk
      have c1 : wr.cell? ⟨b, off + t * 2 + 1, none⟩ = some (.int .i64 ((k : Int) + 1)) := by rw [c1]; rfl
      have i1 : (0 : Int) ≤ (t : Int) := by omega
      have i2 : (t : Int) < (n : Int) := by omega
      clear hkk
      go_wp2
      go_roundw
      case rel => exact ⟨t + 1, k + 2, by omega, by go_num, by go_num, by have := HKK.out; omega, trivial⟩
      case measure => simp [intOf]; omega
    · obtain rfl : t = n := by omega
      have HKK : Hid (k = k0 + 2 * t) := hkk
      clear hkk
      go_wp2
      go_ret
      exact ⟨by rw [HKK.out]; rfl, rfl⟩

end Go.Proofs.YtfbooamjddnagaaDoor

namespace Go.Proofs.YtfbooamjddnagaaDoor
open Go.RowKit



set_option maxHeartbeats 400000 in
theorem toLane_any (a u : Int) (w : World) :
    Calls Tryd.prog 90 #[.agg #[.int .i64 a, .int .i64 u]] w fun e w' => e = .returned (.agg #[.int .i64 a, .int .i64 u]) ∧ Below w.heap.size w w' := by
  go_enter Tryd.func90, Tryd.ntmps90
  go_wp2
  exact bodyPost_ret (v := .agg #[.int .i64 a, .int .i64 u]) (by simp [results, Tryd.results90, go_sem]) rfl ⟨rfl, push (push (push (Below.refl _ _) _) _) _⟩

set_option maxHeartbeats 400000 in
theorem eqLane_same (a u : Int) (w : World) :
    Calls Tryd.prog 100 #[.agg #[.int .i64 a, .int .i64 u], .agg #[.int .i64 a, .int .i64 u]] w fun e w' => e = .returned (.bool true) ∧ Below w.heap.size w w' := by
  go_enter Tryd.func100, Tryd.ntmps100
  go_wp2
  go_ret
  exact ⟨rfl, push (push (Below.refl _ _) _) _⟩

set_option maxHeartbeats 400000 in
set_option maxRecDepth 100000 in
/-- toLaneS: a copy of the pairs in a new row. -/
theorem toLaneS_any (ao : Option Addr) (n cap : Nat) (l : Pairs) (w : World) (hl : l.n = n) (hn : n ≤ 1048576) (hz : PairsAt w ao l) :
    Calls Tryd.prog 52 #[.slice ao n cap] w fun e w' => ∃ g, e = .returned (.slice (some ⟨g, 0, none⟩) n n) ∧ w.heap.size ≤ g ∧
      w'.rowIs g 89 (n * 2) (pairCell l) ∧ Below w.heap.size w w' := by
  obtain ⟨i0, hi, hz0, hz1, hz2⟩ := info_parts Tryd.infoLane
  have HL : Hid (l.n = n) := hl
  clear hl
  go_enter Tryd.func52, Tryd.ntmps52
  go_wp2_with (first | (at_make; refine wpList_make_full _ rfl _ _ 46 rfl w.heap.size 89 i0 _ 2 Tryd.underlying46 hi hz0 hz1 .i64 .i64 _ _ n rfl rfl rfl rfl (by rw [hz2]; omega) (by unfold maxLen; omega) (Nat.le_refl _) ?_; intro w1 hown1 hgrow1))
  go_loopw [4] (fun i wr => ∃ k : Nat, k ≤ n ∧ i = .int .i64 k ∧ wr.rowIs w.heap.size 89 (n * 2) (pairCell (pairsTo k l)) ∧ Below w.heap.size w wr)
    (fun i _ => n - (intOf i).toNat)
  case atStart => exact ⟨0, Nat.zero_le _, rfl, (row_of_own hown1).congr (fun j hj => made_pairs n j hj), (Below.refl _ _).grown hgrow1 (Nat.le_refl _) (by simp)⟩
  case round =>
    obtain ⟨k, hk, rfl, hrow, hbel⟩ := hrel
    clear hown1 hgrow1
    by_cases hlt : k < n
    · obtain ⟨b, off, rfl, h1, h2⟩ := hz k (by rw [HL.out]; omega)
      have hb := World.block_lt_of_cell? w _ h1
      have c1 := (hbel.cell (p := ⟨b, off + k * 2, none⟩) hb).trans h1
      have c2 := (hbel.cell (p := ⟨b, off + k * 2 + 1, none⟩) hb).trans h2
      clear h1 h2
      go_wp2_with (first | (go_at_call 90; refine (toLane_any _ _ _).mono ?_; rintro e w2 ⟨rfl, hb2⟩; have hr2 := hrow.of_block (hb2.block _ hrow.lt); have o1 := hr2.cell (i := k * 2) (by omega); have o2 := hr2.cell (i := k * 2 + 1) (by omega); have f1 := hr2.frozen (k * 2); have f2 := hr2.frozen (k * 2 + 1)))
      go_roundw
      case rel =>
        refine ⟨k + 1, by omega, by go_num, ?_, ?_⟩
        · have := pair_set (k := k) (p' := pairsTo (k + 1) l) hr2 (fun i h => upto_step _ _ _ _ h) (fun i h => upto_step _ _ _ _ h)
          simp only [pairsTo, upto_lt _ _ (Nat.lt_succ_self k)] at this
          exact this
        · exact ((after hbel hb2).setCell (Nat.le_refl _) _).setCell (Nat.le_refl _) _
      case measure => simp [intOf]; omega
    · go_wp2
      go_ret
      exact ⟨_, rfl, Nat.le_refl _, hrow.congr (fun j hj => by unfold pairCell pairsTo; simp only; rw [upto_lt _ _ (by omega), upto_lt _ _ (by omega)]), hbel⟩

set_option maxHeartbeats 400000 in
set_option maxRecDepth 100000 in
/-- eqLaneS at two lists that are one. -/
theorem eqLaneS_same (ao bo : Option Addr) (n c1 c2 : Nat) (l : Pairs) (w : World) (hl : l.n = n) (hn : n ≤ 1048576) (hx : PairsAt w ao l) (hy : PairsAt w bo l) :
    Calls Tryd.prog 56 #[.slice ao n c1, .slice bo n c2] w fun e w' => e = .returned (.bool true) ∧ Below w.heap.size w w' := by
  have HL : Hid (l.n = n) := hl
  clear hl
  go_enter Tryd.func56, Tryd.ntmps56
  go_wp2
  go_loopw [5] (fun i wr => ∃ k : Nat, k ≤ n ∧ i = .int .i64 k ∧ Below w.heap.size w wr) (fun i _ => n - (intOf i).toNat)
  case atStart => exact ⟨0, Nat.zero_le _, rfl, Below.refl _ _⟩
  case round =>
    obtain ⟨k, hk, rfl, hbel⟩ := hrel
    by_cases hlt : k < n
    · obtain ⟨b, off, rfl, h1, h2⟩ := hx k (by rw [HL.out]; omega)
      obtain ⟨b2, off2, rfl, g1, g2⟩ := hy k (by rw [HL.out]; omega)
      have hb := World.block_lt_of_cell? w _ h1
      have hb2 := World.block_lt_of_cell? w _ g1
      have c1 := (hbel.cell (p := ⟨b, off + k * 2, none⟩) hb).trans h1
      have c2 := (hbel.cell (p := ⟨b, off + k * 2 + 1, none⟩) hb).trans h2
      have d1 := (hbel.cell (p := ⟨b2, off2 + k * 2, none⟩) hb2).trans g1
      have d2 := (hbel.cell (p := ⟨b2, off2 + k * 2 + 1, none⟩) hb2).trans g2
      clear h1 h2 g1 g2
      have hbw : b < wr.heap.size := Nat.lt_of_lt_of_le hb hbel.size
      have hbw2 : b2 < wr.heap.size := Nat.lt_of_lt_of_le hb2 hbel.size
      have i1 : (0 : Int) ≤ (k : Int) := by omega
      have i2 : (k : Int) < (n : Int) := by omega
      go_wp2
      go_region_held3 (fun w' => w'.cell? ⟨b, off + k * 2, none⟩ = some (.int .i64 (l.A k)) ∧ w'.cell? ⟨b, off + k * 2 + 1, none⟩ = some (.int .i64 (l.B k)) ∧ w'.cell? ⟨b2, off2 + k * 2, none⟩ = some (.int .i64 (l.A k)) ∧ w'.cell? ⟨b2, off2 + k * 2 + 1, none⟩ = some (.int .i64 (l.B k)))
        (first | exact ⟨c1, c2, d1, d2⟩ | exact ⟨(hbb.cell hbw).trans c1, (hbb.cell hbw).trans c2, (hbb.cell hbw2).trans d1, (hbb.cell hbw2).trans d2⟩)
        (first | (go_at_call 100; refine (eqLane_same _ _ _).mono ?_; rintro e w2 ⟨rfl, hbb⟩))
      go_wp2
      go_roundw
      case rel => exact ⟨k + 1, by omega, by go_num, after hbel.drew hbb⟩
      case measure => simp [intOf]; omega
    · go_wp2
      go_ret
      exact ⟨rfl, hbel⟩

set_option maxHeartbeats 400000 in
theorem szLaneS_any (ao : Option Addr) (n c : Nat) (L : Int) (w : World) (h0 : 0 ≤ L) (hL : L ≤ 1048576) (hn : n ≤ 1000000000000000) :
    Calls Tryd.prog 48 #[.slice ao n c, .int .i64 L] w fun e w' => ∃ r : Int, e = .returned (.int .i64 r) ∧ (r = -1 ∨ (0 ≤ r ∧ r ≤ L ∧ n ≤ 1048576)) ∧ Below w.heap.size w w' := by
  by_cases h : (n : Int) ≤ L
  · go_enter Tryd.func48, Tryd.ntmps48
    go_wp2
    go_ret
    exact ⟨_, rfl, .inr ⟨by omega, by omega, by omega⟩, Below.refl _ _⟩
  · go_enter Tryd.func48, Tryd.ntmps48
    go_wp2
    go_ret
    exact ⟨_, rfl, .inl rfl, Below.refl _ _⟩


set_option maxHeartbeats 400000 in
theorem toCabin_any (a u : Int) (w : World) :
    Calls Tryd.prog 91 #[.agg #[.int .i64 a, .int .i64 u]] w fun e w' => e = .returned (.agg #[.int .i64 a, .int .i64 u]) ∧ Below w.heap.size w w' := by
  go_enter Tryd.func91, Tryd.ntmps91
  go_wp2
  exact bodyPost_ret (v := .agg #[.int .i64 a, .int .i64 u]) (by simp [results, Tryd.results91, go_sem]) rfl ⟨rfl, push (push (push (Below.refl _ _) _) _) _⟩

set_option maxHeartbeats 400000 in
theorem eqCabin_same (a u : Int) (w : World) :
    Calls Tryd.prog 101 #[.agg #[.int .i64 a, .int .i64 u], .agg #[.int .i64 a, .int .i64 u]] w fun e w' => e = .returned (.bool true) ∧ Below w.heap.size w w' := by
  go_enter Tryd.func101, Tryd.ntmps101
  go_wp2
  go_ret
  exact ⟨rfl, push (push (Below.refl _ _) _) _⟩

set_option maxHeartbeats 400000 in
set_option maxRecDepth 100000 in
/-- toCabinS: a copy of the pairs in a new row. -/
theorem toCabinS_any (ao : Option Addr) (n cap : Nat) (l : Pairs) (w : World) (hl : l.n = n) (hn : n ≤ 1048576) (hz : PairsAt w ao l) :
    Calls Tryd.prog 53 #[.slice ao n cap] w fun e w' => ∃ g, e = .returned (.slice (some ⟨g, 0, none⟩) n n) ∧ w.heap.size ≤ g ∧
      w'.rowIs g 91 (n * 2) (pairCell l) ∧ Below w.heap.size w w' := by
  obtain ⟨i0, hi, hz0, hz1, hz2⟩ := info_parts Tryd.infoCabin
  have HL : Hid (l.n = n) := hl
  clear hl
  go_enter Tryd.func53, Tryd.ntmps53
  go_wp2_with (first | (at_make; refine wpList_make_full _ rfl _ _ 47 rfl w.heap.size 91 i0 _ 2 Tryd.underlying47 hi hz0 hz1 .i64 .i64 _ _ n rfl rfl rfl rfl (by rw [hz2]; omega) (by unfold maxLen; omega) (Nat.le_refl _) ?_; intro w1 hown1 hgrow1))
  go_loopw [4] (fun i wr => ∃ k : Nat, k ≤ n ∧ i = .int .i64 k ∧ wr.rowIs w.heap.size 91 (n * 2) (pairCell (pairsTo k l)) ∧ Below w.heap.size w wr)
    (fun i _ => n - (intOf i).toNat)
  case atStart => exact ⟨0, Nat.zero_le _, rfl, (row_of_own hown1).congr (fun j hj => made_pairs n j hj), (Below.refl _ _).grown hgrow1 (Nat.le_refl _) (by simp)⟩
  case round =>
    obtain ⟨k, hk, rfl, hrow, hbel⟩ := hrel
    clear hown1 hgrow1
    by_cases hlt : k < n
    · obtain ⟨b, off, rfl, h1, h2⟩ := hz k (by rw [HL.out]; omega)
      have hb := World.block_lt_of_cell? w _ h1
      have c1 := (hbel.cell (p := ⟨b, off + k * 2, none⟩) hb).trans h1
      have c2 := (hbel.cell (p := ⟨b, off + k * 2 + 1, none⟩) hb).trans h2
      clear h1 h2
      go_wp2_with (first | (go_at_call 91; refine (toCabin_any _ _ _).mono ?_; rintro e w2 ⟨rfl, hb2⟩; have hr2 := hrow.of_block (hb2.block _ hrow.lt); have o1 := hr2.cell (i := k * 2) (by omega); have o2 := hr2.cell (i := k * 2 + 1) (by omega); have f1 := hr2.frozen (k * 2); have f2 := hr2.frozen (k * 2 + 1)))
      go_roundw
      case rel =>
        refine ⟨k + 1, by omega, by go_num, ?_, ?_⟩
        · have := pair_set (k := k) (p' := pairsTo (k + 1) l) hr2 (fun i h => upto_step _ _ _ _ h) (fun i h => upto_step _ _ _ _ h)
          simp only [pairsTo, upto_lt _ _ (Nat.lt_succ_self k)] at this
          exact this
        · exact ((after hbel hb2).setCell (Nat.le_refl _) _).setCell (Nat.le_refl _) _
      case measure => simp [intOf]; omega
    · go_wp2
      go_ret
      exact ⟨_, rfl, Nat.le_refl _, hrow.congr (fun j hj => by unfold pairCell pairsTo; simp only; rw [upto_lt _ _ (by omega), upto_lt _ _ (by omega)]), hbel⟩

set_option maxHeartbeats 400000 in
set_option maxRecDepth 100000 in
/-- eqCabinS at two lists that are one. -/
theorem eqCabinS_same (ao bo : Option Addr) (n c1 c2 : Nat) (l : Pairs) (w : World) (hl : l.n = n) (hn : n ≤ 1048576) (hx : PairsAt w ao l) (hy : PairsAt w bo l) :
    Calls Tryd.prog 57 #[.slice ao n c1, .slice bo n c2] w fun e w' => e = .returned (.bool true) ∧ Below w.heap.size w w' := by
  have HL : Hid (l.n = n) := hl
  clear hl
  go_enter Tryd.func57, Tryd.ntmps57
  go_wp2
  go_loopw [5] (fun i wr => ∃ k : Nat, k ≤ n ∧ i = .int .i64 k ∧ Below w.heap.size w wr) (fun i _ => n - (intOf i).toNat)
  case atStart => exact ⟨0, Nat.zero_le _, rfl, Below.refl _ _⟩
  case round =>
    obtain ⟨k, hk, rfl, hbel⟩ := hrel
    by_cases hlt : k < n
    · obtain ⟨b, off, rfl, h1, h2⟩ := hx k (by rw [HL.out]; omega)
      obtain ⟨b2, off2, rfl, g1, g2⟩ := hy k (by rw [HL.out]; omega)
      have hb := World.block_lt_of_cell? w _ h1
      have hb2 := World.block_lt_of_cell? w _ g1
      have c1 := (hbel.cell (p := ⟨b, off + k * 2, none⟩) hb).trans h1
      have c2 := (hbel.cell (p := ⟨b, off + k * 2 + 1, none⟩) hb).trans h2
      have d1 := (hbel.cell (p := ⟨b2, off2 + k * 2, none⟩) hb2).trans g1
      have d2 := (hbel.cell (p := ⟨b2, off2 + k * 2 + 1, none⟩) hb2).trans g2
      clear h1 h2 g1 g2
      have hbw : b < wr.heap.size := Nat.lt_of_lt_of_le hb hbel.size
      have hbw2 : b2 < wr.heap.size := Nat.lt_of_lt_of_le hb2 hbel.size
      have i1 : (0 : Int) ≤ (k : Int) := by omega
      have i2 : (k : Int) < (n : Int) := by omega
      go_wp2
      go_region_held3 (fun w' => w'.cell? ⟨b, off + k * 2, none⟩ = some (.int .i64 (l.A k)) ∧ w'.cell? ⟨b, off + k * 2 + 1, none⟩ = some (.int .i64 (l.B k)) ∧ w'.cell? ⟨b2, off2 + k * 2, none⟩ = some (.int .i64 (l.A k)) ∧ w'.cell? ⟨b2, off2 + k * 2 + 1, none⟩ = some (.int .i64 (l.B k)))
        (first | exact ⟨c1, c2, d1, d2⟩ | exact ⟨(hbb.cell hbw).trans c1, (hbb.cell hbw).trans c2, (hbb.cell hbw2).trans d1, (hbb.cell hbw2).trans d2⟩)
        (first | (go_at_call 101; refine (eqCabin_same _ _ _).mono ?_; rintro e w2 ⟨rfl, hbb⟩))
      go_wp2
      go_roundw
      case rel => exact ⟨k + 1, by omega, by go_num, after hbel.drew hbb⟩
      case measure => simp [intOf]; omega
    · go_wp2
      go_ret
      exact ⟨rfl, hbel⟩

set_option maxHeartbeats 400000 in
theorem szCabinS_any (ao : Option Addr) (n c : Nat) (L : Int) (w : World) (h0 : 0 ≤ L) (hL : L ≤ 1048576) (hn : n ≤ 1000000000000000) :
    Calls Tryd.prog 49 #[.slice ao n c, .int .i64 L] w fun e w' => ∃ r : Int, e = .returned (.int .i64 r) ∧ (r = -1 ∨ (0 ≤ r ∧ r ≤ L ∧ n ≤ 1048576)) ∧ Below w.heap.size w w' := by
  by_cases h : (n : Int) ≤ L
  · go_enter Tryd.func49, Tryd.ntmps49
    go_wp2
    go_ret
    exact ⟨_, rfl, .inr ⟨by omega, by omega, by omega⟩, Below.refl _ _⟩
  · go_enter Tryd.func49, Tryd.ntmps49
    go_wp2
    go_ret
    exact ⟨_, rfl, .inl rfl, Below.refl _ _⟩

end Go.Proofs.YtfbooamjddnagaaDoor
