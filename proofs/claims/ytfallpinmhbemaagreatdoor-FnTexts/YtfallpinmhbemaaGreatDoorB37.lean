/-
  OWN TEXT: ReadI, ReadB, PlainRs, PairsR, SailInI.
-/
import Derived.Test.YtfallpinmhbemaaGreatDoorB36
import Derived.Test.YtfallpinmhbemaaGreatDoorB33
import Derived.Test.YtfallpinmhbemaaGreatDoorB03
namespace Go.Proofs.YtfallpinmhbemaaGreatDoor
open Go.RowKit

def noOp : OpR := ⟨0, ⟨#[]⟩, 0, .slice none 0 0, [], noParty, 0, 0⟩
/-- y and ok are the answer of a reader of s that read x. -/
def AnsOp (s : ByteArray) (x y : OpR) (ok : Bool) : Prop := (ok = true ∧ HasText x.d ∧ opT x.d = s ∧ y = x) ∨ (ok = false ∧ ¬ (HasText x.d ∧ opT x.d = s) ∧ y = noOp)
/-- What ReadOp answers: its operation in memory of its own. -/
structure ReadOut (s : ByteArray) (w w' : World) (y : OpR) (ok : Bool) : Prop where
  ans : ∃ x, AnsOp s x y ok ∧ ∀ z, HasText z → opT z = s → SameOp x.d z
  own : w'.ownsRow w.heap.size 3 1 y.v y.L.length (cellsI y.L)
  few : y.L.length ≤ 4194304
  bel : Below w.heap.size w w'
def ReadPost (s : ByteArray) (w : World) (e : Ending) (w' : World) : Prop := ∃ y ok, e = .returned (.tuple #[.agg y.cs, .bool ok]) ∧ ReadOut s w w' y ok
theorem legs_few {l : List ByteArray} {x : OpR} (h : OpRead l x) (hl : ∀ q, q ∈ l → q.size ≤ 1048576) : x.L.length ≤ 1048577 ∧ x.own.size ≤ 1048576 := by
  have hin1 : ∀ q, q ∈ wd1 l → q ∈ l := fun q hq => List.mem_of_mem_tail hq
  have hnx : ∀ (b : Bool) (L : List ByteArray), (∀ q, q ∈ L → q ∈ l) → ∀ q, q ∈ nx b L → q ∈ l := fun b L hL q hq => by
    unfold nx at hq
    split at hq
    · exact hL q (List.mem_of_mem_tail hq)
    · exact hL q hq
  have hh : ∀ L : List ByteArray, (∀ q, q ∈ L → q ∈ l) → (hd L).size ≤ 1048576 := fun L hL => by
    unfold hd
    cases L with
    | nil => exact Nat.zero_le _
    | cons q r => exact hl q (hL q (by simp))
  constructor
  · cases c : decide (0 < fLegs (kindOf (hd l))) with
    | true =>
      have h1 := (h.legs.1 c).1
      have h2 := hh (wd3 (kindOf (hd l)) l) (hnx _ _ (hnx _ _ hin1))
      omega
    | false => rw [h.legs.2 c]; simp
  · rw [h.own]
    split
    · exact hh _ (hnx _ _ hin1)
    · exact Nat.zero_le _

set_option maxHeartbeats 3200000 in
set_option maxRecDepth 100000 in
theorem implRead_any (s : ByteArray) (w : World) (hs : s.size ≤ 1048576) (hP : PowAt w) (hF : FormsAt w) (hW : WordsAt w) :
    Calls Tryz.prog 7 #[.string s] w fun e w' => ReadPost s w e w' := by
  have HT : Hid (PowAt w ∧ FormsAt w ∧ WordsAt w) := ⟨hP, hF, hW⟩
  have hgl : 4 < w.heap.size ∧ 0 < w.heap.size ∧ 1 < w.heap.size := ⟨by
    have h := hP
    unfold PowAt Lib.TabIs World.var? at h
    rw [Tryz.gPow] at h
    simp only [Option.bind_some] at h
    rcases Nat.lt_or_ge 4 w.heap.size with h' | h'
    · exact h'
    · rw [Array.getElem?_eq_none h'] at h; simp at h, hF.lt, hW.lt⟩
  clear hP hF hW
  have hr := heap_alloc_new w (.cells #[.int .i64 0, .string ⟨#[]⟩, .int .i64 0, .slice none 0 0, .int .i64 0, .int .i64 0, .int .i64 0, .int .i64 0, .bool false, .int .i64 0, .int .i64 0, .int .i64 0] 27)
  have hb0 : Below w.heap.size w (w.alloc (.cells #[.int .i64 0, .string ⟨#[]⟩, .int .i64 0, .slice none 0 0, .int .i64 0, .int .i64 0, .int .i64 0, .int .i64 0, .bool false, .int .i64 0, .int .i64 0, .int .i64 0] 27)) := push (Below.refl _ _) _
  go_enter Tryz.func7, Tryz.ntmps7
  go_upto_region 1 with fail
  generalize w.alloc (.cells #[.int .i64 0, .string ⟨#[]⟩, .int .i64 0, .slice none 0 0, .int .i64 0, .int .i64 0, .int .i64 0, .int .i64 0, .bool false, .int .i64 0, .int .i64 0, .int .i64 0] 27) = W at hr hb0 ⊢
  have hsz := hb0.size
  go_wp2_with fail
  refine (wordsIn_any s _ hs).mono ?_
  rintro e w1 ⟨b, l, rfl, hbb, HWP, hb1⟩
  have hB1 := after hb0 hb1
  have hr1 := blk_below hr hb1
  have HL : Hid (∀ q, q ∈ l → q.size ≤ 1048576) := fun q hq => by have := parts_le HWP.out.2.1 q hq; omega
  have hs1 := hb1.size
  go_wp2_with fail
  refine (opIn_any b l _ HL.out HWP.out.1 (HT.out.1.below hB1) (HT.out.2.1.below hB1) (HT.out.2.2.below hB1) (by omega) (by omega) (by omega)).mono ?_
  rintro e w2 ⟨x, rfl, hox, HRD, hk2⟩
  have hrb : ¬ w.heap.size = b := by have := blk_lt hr; omega
  have hr2 := hk2.blk hr1 hrb
  have hB2 : Below w.heap.size w w2 := Kept.below hB1 hB1.size hk2 (fun k e => by have e : k = b := e; omega)
  have HLF : Hid (x.L.length ≤ 1048577 ∧ x.own.size ≤ 1048576) := legs_few HRD.out HL.out
  have HBK : Hid (∀ z, HasText z → opT z = s → SameOp x.d z) := fun z hz e => read_back hz (by rw [e]; exact HWP.out.2.1) HRD.out
  have HO2 : Hid (w2.ownsRow w.heap.size 3 1 x.v x.L.length (cellsI x.L)) := own_base hox hB1.size
  obtain ⟨va, vc, hv, hvc, hvm, hvn⟩ := own_form hox
  have HV : Hid (x.v = .slice va x.L.length vc) := hv
  have ecs : x.cs = #[.int .i64 x.kind, .string x.own, .int .i64 x.name, .slice va x.L.length vc, .int .i64 x.p.pe, .int .i64 x.p.len, .int .i64 x.p.hei, .int .i64 x.p.cl, .bool x.p.all, .int .i64 x.p.be, .int .i64 x.unt, .int .i64 x.now] := by unfold OpR.cs; rw [hv]
  rw [ecs]
  have HECS : Hid (x.cs = #[.int .i64 x.kind, .string x.own, .int .i64 x.name, .slice va x.L.length vc, .int .i64 x.p.pe, .int .i64 x.p.len, .int .i64 x.p.hei, .int .i64 x.p.cl, .bool x.p.all, .int .i64 x.p.be, .int .i64 x.unt, .int .i64 x.now]) := ecs
  clear hr hb0 hb1 hB1 hr1 hs1 HWP HL HRD hk2 hrb hox hv ecs hbb hgl
  have b3 := heap_alloc_new w2 (.cells #[.int .i64 x.kind, .string x.own, .int .i64 x.name, .slice va x.L.length vc, .int .i64 x.p.pe, .int .i64 x.p.len, .int .i64 x.p.hei, .int .i64 x.p.cl, .bool x.p.all, .int .i64 x.p.be, .int .i64 x.unt, .int .i64 x.now] 27)
  have p3 : Below w2.heap.size w2 (w2.alloc (.cells #[.int .i64 x.kind, .string x.own, .int .i64 x.name, .slice va x.L.length vc, .int .i64 x.p.pe, .int .i64 x.p.len, .int .i64 x.p.hei, .int .i64 x.p.cl, .bool x.p.all, .int .i64 x.p.be, .int .i64 x.unt, .int .i64 x.now] 27)) := push (Below.refl _ _) _
  go_upto_region 2 with fail
  generalize w2.alloc (.cells #[.int .i64 x.kind, .string x.own, .int .i64 x.name, .slice va x.L.length vc, .int .i64 x.p.pe, .int .i64 x.p.len, .int .i64 x.p.hei, .int .i64 x.p.cl, .bool x.p.all, .int .i64 x.p.be, .int .i64 x.unt, .int .i64 x.now] 27) = W3 at b3 p3 ⊢
  have hB3 := after hB2 p3
  have hr3 := blk_below hr2 p3
  have HO3 : Hid (W3.ownsRow w.heap.size 3 1 x.v x.L.length (cellsI x.L)) := own_below p3 HO2.out
  have hlt := blk_lt hr2
  have HIS : Hid (OpD.Is W3 [.int .i64 x.kind, .string x.own, .int .i64 x.name, .slice va x.L.length vc, .int .i64 x.p.pe, .int .i64 x.p.len, .int .i64 x.p.hei, .int .i64 x.p.cl, .bool x.p.all, .int .i64 x.p.be, .int .i64 x.unt, .int .i64 x.now] x.d) := ⟨va, vc, rfl, own_ints (by have h := HO3.out; rw [HV.out] at h; exact h), ⟨hvc, hvm, hvn⟩⟩
  have y0 := blk_cell b3 0 _ rfl
  have y1 := blk_cell b3 1 _ rfl
  have y2 := blk_cell b3 2 _ rfl
  have y3 := blk_cell b3 3 _ rfl
  have y4 := blk_cell b3 4 _ rfl
  have y5 := blk_cell b3 5 _ rfl
  have y6 := blk_cell b3 6 _ rfl
  have y7 := blk_cell b3 7 _ rfl
  have y8 := blk_cell b3 8 _ rfl
  have y9 := blk_cell b3 9 _ rfl
  have y10 := blk_cell b3 10 _ rfl
  have y11 := blk_cell b3 11 _ rfl
  generalize hT : textOf x.d = T
  generalize hH : hasT x.d = H
  have ct := implText_any [.int .i64 x.kind, .string x.own, .int .i64 x.name, .slice va x.L.length vc, .int .i64 x.p.pe, .int .i64 x.p.len, .int .i64 x.p.hei, .int .i64 x.p.cl, .bool x.p.all, .int .i64 x.p.be, .int .i64 x.unt, .int .i64 x.now] x.d W3 (by have h := HLF.out.2; show x.own.size ≤ _; omega) HIS.out (by have h := HLF.out.1; show x.L.length ≤ _; omega) (HT.out.1.below hB3) (HT.out.2.1.below hB3) (HT.out.2.2.below hB3)
  rw [hT, hH] at ct
  have HTH : Hid (textOf x.d = T ∧ hasT x.d = H) := ⟨hT, hH⟩
  clear hT hH
  go_wp2_with fail
  refine ct.mono ?_
  clear ct
  rintro e w4 ⟨rfl, hb4⟩
  have hB4 := after hB3 hb4
  have hr4 := blk_below hr3 hb4
  have b4 := blk_below b3 hb4
  have HO4 : Hid (w4.ownsRow w.heap.size 3 1 x.v x.L.length (cellsI x.L)) := own_below hb4 HO3.out
  clear y0 y1 y2 y3 y4 y5 y6 y7 y8 y9 y10 y11 hB2 hB3 hr2 hr3 b3 p3 hb4 HO2 HO3 HIS
  have hne : ¬ w.heap.size = w2.heap.size := by omega
  have s0 := blk_cell hr4 0 _ rfl
  have g0 := blk_free hr4 0
  have s1 := blk_cell hr4 1 _ rfl
  have g1 := blk_free hr4 1
  have s2 := blk_cell hr4 2 _ rfl
  have g2 := blk_free hr4 2
  have s3 := blk_cell hr4 3 _ rfl
  have g3 := blk_free hr4 3
  have s4 := blk_cell hr4 4 _ rfl
  have g4 := blk_free hr4 4
  have s5 := blk_cell hr4 5 _ rfl
  have g5 := blk_free hr4 5
  have s6 := blk_cell hr4 6 _ rfl
  have g6 := blk_free hr4 6
  have s7 := blk_cell hr4 7 _ rfl
  have g7 := blk_free hr4 7
  have s8 := blk_cell hr4 8 _ rfl
  have g8 := blk_free hr4 8
  have s9 := blk_cell hr4 9 _ rfl
  have g9 := blk_free hr4 9
  have s10 := blk_cell hr4 10 _ rfl
  have g10 := blk_free hr4 10
  have s11 := blk_cell hr4 11 _ rfl
  have g11 := blk_free hr4 11
  by_cases hok : H = true ∧ T = s
  case neg =>
    have HNO : Hid (¬ (HasText x.d ∧ opT x.d = s)) := fun h => hok (by
      have h1 := textOf_yes h.1
      rw [HTH.out.1, HTH.out.2] at h1
      exact ⟨h1.2, by rw [h1.1]; exact h.2⟩)
    have rF := box_12 hr4 (.int .i64 0) (.string ⟨#[]⟩) (.int .i64 0) (.slice none 0 0) (.int .i64 0) (.int .i64 0) (.int .i64 0) (.int .i64 0) (.bool false) (.int .i64 0) (.int .i64 0) (.int .i64 0)
    have kF := keep_12 w4 w.heap.size (.int .i64 0) (.string ⟨#[]⟩) (.int .i64 0) (.slice none 0 0) (.int .i64 0) (.int .i64 0) (.int .i64 0) (.int .i64 0) (.bool false) (.int .i64 0) (.int .i64 0) (.int .i64 0)
    have HFN : Hid (ReadOut s w _ noOp false) := ⟨⟨x, .inr ⟨rfl, HNO.out, rfl⟩, HBK.out⟩, World.ownsRow_nil _ _ _ _, Nat.zero_le _, Kept.below hB4 hB4.size kF (fun k e => by have e : k = w.heap.size := e; omega)⟩
    clear kF
    go_upto_region 3 with fail
    go_cut [21] (fun v wx => v = .bool true ∧ wx = w4)
    case first =>
      cases H with
      | false =>
        go_wp2
        go_meet
        exact ⟨rfl, rfl⟩
      | true =>
        have hT : T ≠ s := fun e => hok ⟨rfl, e⟩
        have et : (T.toList == s.toList) = false := bytes_ne.2 hT
        clear hT hok
        go_wp2
        go_meet
        exact ⟨rfl, rfl⟩
    case rest =>
    obtain ⟨rfl, hwx⟩ := hcut
    have hwx := hwx.symm
    subst hwx
    clear hok
    go_wp2
    have t0 := blk_cell rF 0 _ rfl
    have t1 := blk_cell rF 1 _ rfl
    have t2 := blk_cell rF 2 _ rfl
    have t3 := blk_cell rF 3 _ rfl
    have t4 := blk_cell rF 4 _ rfl
    have t5 := blk_cell rF 5 _ rfl
    have t6 := blk_cell rF 6 _ rfl
    have t7 := blk_cell rF 7 _ rfl
    have t8 := blk_cell rF 8 _ rfl
    have t9 := blk_cell rF 9 _ rfl
    have t10 := blk_cell rF 10 _ rfl
    have t11 := blk_cell rF 11 _ rfl
    refine bodyPost_ret (v := .tuple #[.agg #[.int .i64 0, .string ⟨#[]⟩, .int .i64 0, .slice none 0 0, .int .i64 0, .int .i64 0, .int .i64 0, .int .i64 0, .bool false, .int .i64 0, .int .i64 0, .int .i64 0], .bool false]) (by simp [results, Tryz.results7, go_sem, t0, t1, t2, t3, t4, t5, t6, t7, t8, t9, t10, t11]) rfl ?_
    exact ⟨noOp, false, rfl, HFN.out⟩
  case pos =>
    obtain ⟨rfl, rfl⟩ := hok
    have HYES : Hid (HasText x.d ∧ opT x.d = T) := by
      have h1 : HasText x.d := (hasT_iff x.d).1 HTH.out.2
      have h2 := (textOf_yes h1).1
      rw [HTH.out.1] at h2
      exact ⟨h1, h2.symm⟩
    have et : (T.toList == T.toList) = true := by simp
    have p0 := blk_cell b4 0 _ rfl
    have p1 := blk_cell b4 1 _ rfl
    have p2 := blk_cell b4 2 _ rfl
    have p3 := blk_cell b4 3 _ rfl
    have p4 := blk_cell b4 4 _ rfl
    have p5 := blk_cell b4 5 _ rfl
    have p6 := blk_cell b4 6 _ rfl
    have p7 := blk_cell b4 7 _ rfl
    have p8 := blk_cell b4 8 _ rfl
    have p9 := blk_cell b4 9 _ rfl
    have p10 := blk_cell b4 10 _ rfl
    have p11 := blk_cell b4 11 _ rfl
    have rF := box_12 hr4 (.int .i64 x.kind) (.string x.own) (.int .i64 x.name) (.slice va x.L.length vc) (.int .i64 x.p.pe) (.int .i64 x.p.len) (.int .i64 x.p.hei) (.int .i64 x.p.cl) (.bool x.p.all) (.int .i64 x.p.be) (.int .i64 x.unt) (.int .i64 x.now)
    have kF := keep_12 w4 w.heap.size (.int .i64 x.kind) (.string x.own) (.int .i64 x.name) (.slice va x.L.length vc) (.int .i64 x.p.pe) (.int .i64 x.p.len) (.int .i64 x.p.hei) (.int .i64 x.p.cl) (.bool x.p.all) (.int .i64 x.p.be) (.int .i64 x.unt) (.int .i64 x.now)
    have HFY : Hid (ReadOut T w _ x true) := ⟨⟨x, .inl ⟨rfl, HYES.out.1, HYES.out.2, rfl⟩, HBK.out⟩, kF.own HO4.out (own_notT HO4.out hr4 (by decide)), by have := HLF.out.1; omega, Kept.below hB4 hB4.size kF (fun k e => by have e : k = w.heap.size := e; omega)⟩
    clear kF
    go_wp2
    have t0 := blk_cell rF 0 _ rfl
    have t1 := blk_cell rF 1 _ rfl
    have t2 := blk_cell rF 2 _ rfl
    have t3 := blk_cell rF 3 _ rfl
    have t4 := blk_cell rF 4 _ rfl
    have t5 := blk_cell rF 5 _ rfl
    have t6 := blk_cell rF 6 _ rfl
    have t7 := blk_cell rF 7 _ rfl
    have t8 := blk_cell rF 8 _ rfl
    have t9 := blk_cell rF 9 _ rfl
    have t10 := blk_cell rF 10 _ rfl
    have t11 := blk_cell rF 11 _ rfl
    refine bodyPost_ret (v := .tuple #[.agg #[.int .i64 x.kind, .string x.own, .int .i64 x.name, .slice va x.L.length vc, .int .i64 x.p.pe, .int .i64 x.p.len, .int .i64 x.p.hei, .int .i64 x.p.cl, .bool x.p.all, .int .i64 x.p.be, .int .i64 x.unt, .int .i64 x.now], .bool true]) (by simp [results, Tryz.results7, go_sem, t0, t1, t2, t3, t4, t5, t6, t7, t8, t9, t10, t11]) rfl ?_
    exact ⟨x, true, by rw [HECS.out], HFY.out⟩

end Go.Proofs.YtfallpinmhbemaaGreatDoor

namespace Go.Proofs.YtfallpinmhbemaaGreatDoor
open Go.RowKit

theorem is_same {w : World} {cs : List Value} {x y : OpD} (h : OpD.Is w cs x) (e : SameOp y x) : OpD.Is w cs y := by
  obtain ⟨k, o, n, ln, f, p1, p2, p3, p4, p5, p6, u, v⟩ := x
  obtain ⟨k', o', n', ln', f', q1, q2, q3, q4, q5, q6, u', v'⟩ := y
  obtain ⟨e1, e2, e3, e4, e5, e6, e7, e8⟩ := e
  dsimp only [OpD.p] at e1 e2 e3 e4 e5 e6 e7 e8
  simp only [Party.mk.injEq] at e6
  obtain ⟨rfl, rfl, rfl, rfl, rfl, rfl⟩ := e6
  subst e1 e2 e3 e4 e7 e8
  obtain ⟨ao, c, h1, h2, h3⟩ := h
  refine ⟨ao, c, h1, fun j hj => ?_, h3⟩
  obtain ⟨b, off, ea, hc⟩ := h2 j hj
  exact ⟨b, off, ea, by rw [hc]; dsimp only; rw [e5 j hj]⟩
theorem same_text {a b : OpD} (e : SameOp a b) (h : HasText b) : HasText a ∧ opT a = opT b := by
  obtain ⟨k, o, n, ln, f, p1, p2, p3, p4, p5, p6, u, v⟩ := b
  obtain ⟨k', o', n', ln', f', q1, q2, q3, q4, q5, q6, u', v'⟩ := a
  obtain ⟨e1, e2, e3, e4, e5, e6, e7, e8⟩ := e
  dsimp only [OpD.p] at e1 e2 e3 e4 e5 e6 e7 e8
  simp only [Party.mk.injEq] at e6
  obtain ⟨rfl, rfl, rfl, rfl, rfl, rfl⟩ := e6
  subst e1 e2 e3 e4 e7 e8
  have hl : legsT ln' f' = legsT ln' f := by
    unfold legsT
    congr 1
    refine List.map_congr_left fun i hi => ?_
    rw [e5 i (List.mem_range.1 hi)]
  refine ⟨⟨h.1, fun i hi => ?_⟩, ?_⟩
  · have := h.2 i hi
    dsimp only at this ⊢
    rw [e5 i hi]
    exact this
  · unfold opT opP6 opP5 opP4 opP3
    dsimp only
    rw [hl]
    rfl
theorem SameOp.symm {a b : OpD} (h : SameOp a b) : SameOp b a :=
  ⟨h.1.symm, h.2.1.symm, h.2.2.1.symm, h.2.2.2.1.symm, fun i hi => (h.2.2.2.2.1 i (by rw [← h.2.2.2.1]; exact hi)).symm, h.2.2.2.2.2.1.symm, h.2.2.2.2.2.2.1.symm, h.2.2.2.2.2.2.2.symm⟩
theorem read_same {s : ByteArray} {w1 v1 w2 v2 : World} {y1 y2 : OpR} {k1 k2 : Bool} (h1 : ReadOut s w1 v1 y1 k1) (h2 : ReadOut s w2 v2 y2 k2) : k1 = k2 ∧ SameOp y1.d y2.d := by
  obtain ⟨x1, a1, b1⟩ := h1.ans
  obtain ⟨x2, a2, b2⟩ := h2.ans
  rcases a1 with ⟨rfl, t1, s1, rfl⟩ | ⟨rfl, n1, rfl⟩
  · rcases a2 with ⟨rfl, t2, s2, rfl⟩ | ⟨rfl, n2, rfl⟩
    · exact ⟨rfl, b1 _ t2 s2⟩
    · have e := b2 _ t1 s1
      have h := same_text e t1
      exact absurd ⟨h.1, h.2.trans s1⟩ n2
  · rcases a2 with ⟨rfl, t2, s2, rfl⟩ | ⟨rfl, n2, rfl⟩
    · have e := b1 _ t2 s2
      have h := same_text e t2
      exact absurd ⟨h.1, h.2.trans s2⟩ n1
    · exact ⟨rfl, rfl, rfl, rfl, rfl, fun _ _ => rfl, rfl, rfl, rfl⟩
theorem read_short {s : ByteArray} {w v : World} {y : OpR} {k : Bool} (h : ReadOut s w v y k) : y.L.length ≤ 3 ∧ y.own.size ≤ 12 := by
  obtain ⟨x, a, _⟩ := h.ans
  rcases a with ⟨_, t, _, rfl⟩ | ⟨_, _, rfl⟩
  · have h1 := t.1.2.1
    have h2 := t.1.2.2.2.1
    constructor
    · change LegsOkFor y.kind y.L.length at h2
      unfold LegsOkFor at h2
      split at h2
      · exact h2.2
      · split at h2 <;> omega
    · change OwnerOk y.kind y.own at h1
      unfold OwnerOk at h1
      split at h1
      · exact h1.2.1
      · omega
  · exact ⟨Nat.zero_le _, Nat.zero_le _⟩

/-- An operation that has a text comes back from it. -/
theorem read_op {y : OpD} {w w' : World} {z : OpR} {ok : Bool} (h : ReadOut (opT y) w w' z ok) (hy : HasText y) : ok = true ∧ SameOp z.d y := by
  obtain ⟨x, a, b⟩ := h.ans
  have e := b y hy rfl
  have t := same_text e hy
  rcases a with ⟨rfl, _, _, rfl⟩ | ⟨_, n, _⟩
  · exact ⟨rfl, e⟩
  · exact absurd t n

end Go.Proofs.YtfallpinmhbemaaGreatDoor

namespace Go.Proofs.YtfallpinmhbemaaGreatDoor
open Go.RowKit

/-- The word at a place, empty where there is none. -/
def wd (W : List ByteArray) (i : Nat) : ByteArray := W.getD i ⟨#[]⟩
/-- Pairs that are read off their parts. -/
noncomputable def prs (l : List ByteArray) : Pairs := ⟨l.length, fun i => numOf (cutA 47 (wd l i)), fun i => numOf (cutB 47 (wd l i))⟩
/-- The parts of a list's text. -/
def PRd (s : ByteArray) (l : List ByteArray) : Prop := l.length ≤ s.size + 1 ∧ ((s = ⟨#[45]⟩ ∧ l = []) ∨ (s ≠ ⟨#[45]⟩ ∧ Parts 44 s l))
noncomputable def readS (W la lc : List ByteArray) : Sail := ⟨numOf (wd W 1), wd W 2, wd W 3, numOf (wd W 4), numOf (wd W 5), prs la, prs lc, numOf (wd W 6)⟩
def SameP (p q : Pairs) : Prop := p.n = q.n ∧ ∀ i, i < q.n → p.A i = q.A i ∧ p.B i = q.B i
structure SameSail (x y : Sail) : Prop where
  id : x.id = y.id
  fr : x.fr = y.fr
  dst : x.dst = y.dst
  dep : x.dep = y.dep
  arr : x.arr = y.arr
  most : x.most = y.most
  la : SameP x.la y.la
  ca : SameP x.ca y.ca
theorem SameP.symm {p q : Pairs} (h : SameP p q) : SameP q p := ⟨h.1.symm, fun i hi => by have := h.2 i (by rw [← h.1]; exact hi); exact ⟨this.1.symm, this.2.symm⟩⟩
theorem SameP.trans {p q r : Pairs} (h : SameP p q) (k : SameP q r) : SameP p r := ⟨h.1.trans k.1, fun i hi => by have h1 := h.2 i (by rw [k.1]; exact hi); have h2 := k.2 i hi; exact ⟨h1.1.trans h2.1, h1.2.trans h2.2⟩⟩
theorem SameSail.symm {x y : Sail} (h : SameSail x y) : SameSail y x := ⟨h.id.symm, h.fr.symm, h.dst.symm, h.dep.symm, h.arr.symm, h.most.symm, h.la.symm, h.ca.symm⟩
theorem SameSail.trans {x y z : Sail} (h : SameSail x y) (k : SameSail y z) : SameSail x z := ⟨h.id.trans k.id, h.fr.trans k.fr, h.dst.trans k.dst, h.dep.trans k.dep, h.arr.trans k.arr, h.most.trans k.most, h.la.trans k.la, h.ca.trans k.ca⟩
theorem SameP.good {p q : Pairs} {m : Nat} {a b c d : Int} (h : SameP p q) (k : GoodPairs q m a b c d) : GoodPairs p m a b c d := ⟨by rw [h.1]; exact k.1, fun i hi => by
  rw [h.1] at hi
  rw [(h.2 i hi).1, (h.2 i hi).2]
  exact k.2 i hi⟩
theorem SameP.text {p q : Pairs} (h : SameP p q) : pairsT p = pairsT q := by
  unfold pairsT
  rw [h.1]
  have e : (List.range q.n).map (fun i => pairT (p.A i) (p.B i)) = (List.range q.n).map (fun i => pairT (q.A i) (q.B i)) := List.map_congr_left fun i hi => by
    have := h.2 i (List.mem_range.1 hi)
    rw [this.1, this.2]
  rw [e]
theorem same_good {x z : Sail} (h : SameSail x z) (k : GoodSail z) : GoodSail x ∧ sailT x = sailT z := by
  constructor
  · obtain ⟨k1, k2, k3, k4, k5, k6, k7, k8, k9, k10⟩ := k
    exact ⟨by rw [h.id]; exact k1, by rw [h.fr]; exact k2, by rw [h.dst]; exact k3, by rw [h.fr, h.dst]; exact k4, by rw [h.dep]; exact k5, by rw [h.dep, h.arr]; exact k6, by rw [h.arr]; exact k7, h.la.good k8, h.ca.good k9, by rw [h.most]; exact k10⟩
  · unfold sailT sailP
    rw [h.id, h.fr, h.dst, h.dep, h.arr, h.most, h.la.text, h.ca.text]
theorem pair_back {a b : Int} (ha : In a 0 99999) (hb : In b 0 99999) : numOf (cutA 47 (pairT a b)) = a ∧ numOf (cutB 47 (pairT a b)) = b := by
  obtain ⟨k1, k2, _⟩ := cut_of (cut_at (p := 47) (s := pairT a b) (a := numT a) (b := numT b) (free_num nd47 ha.1) (by unfold pairT; rw [ByteArray.append_assoc]))
  rw [k1, k2]
  exact ⟨numOf_text ha, numOf_text hb⟩
theorem free_pair {q : UInt8} (h0 : ¬ Digit q) (h1 : q ≠ 47) {a b : Int} (ha : 0 ≤ a) (hb : 0 ≤ b) : Free q (pairT a b) := free_app (free_app (free_num h0 ha) (free_one h1)) (free_num h0 hb)
def Small9 (p : Pairs) : Prop := ∀ i, i < p.n → In (p.A i) 0 99999 ∧ In (p.B i) 0 99999
theorem parts_pairs {p : Pairs} (hn : 0 < p.n) (h : Small9 p) : Parts 44 (joinT coT ((List.range p.n).map (fun i => pairT (p.A i) (p.B i)))) ((List.range p.n).map (fun i => pairT (p.A i) (p.B i))) := by
  refine ⟨by intro e; have := congrArg List.length e; simp at this; omega, rfl, fun q hq => ?_⟩
  obtain ⟨i, hi, rfl⟩ := List.mem_map.1 hq
  have := h i (by simpa using hi)
  exact free_pair nd44 (by decide) this.1.1 this.2.1
theorem pairs_not {p : Pairs} (hn : 0 < p.n) (h : Small9 p) : joinT coT ((List.range p.n).map (fun i => pairT (p.A i) (p.B i))) ≠ ⟨#[45]⟩ := fun e => by
  have hp := parts_pairs hn h
  rw [e] at hp
  have hq : Parts 44 ⟨#[45]⟩ [⟨#[45]⟩] := ⟨by simp, joinT_one _ _, fun q hq => by simp at hq; rw [hq]; simp⟩
  have e2 := parts_one hp hq
  have h0 : ((List.range p.n).map (fun i => pairT (p.A i) (p.B i)))[0]? = some (pairT (p.A 0) (p.B 0)) := by
    rw [List.getElem?_map, List.getElem?_range hn]
    rfl
  rw [e2] at h0
  have e3 : (⟨#[45]⟩ : ByteArray) = pairT (p.A 0) (p.B 0) := by simpa using h0
  have : Free 45 (pairT (p.A 0) (p.B 0)) := free_pair (by unfold Digit; decide) (by decide) (h 0 hn).1.1 (h 0 hn).2.1
  rw [← e3] at this
  exact this (by simp)
/-- The parts of the pairs' text. -/
def partsP (p : Pairs) : List ByteArray := (List.range p.n).map (fun i => pairT (p.A i) (p.B i))
theorem prd_self {p : Pairs} (h : Small9 p) (hl : p.n ≤ (pairsT p).size + 1) : PRd (pairsT p) (partsP p) := by
  refine ⟨by unfold partsP; simpa using hl, ?_⟩
  by_cases c : p.n = 0
  · refine .inl ⟨by unfold pairsT; rw [if_pos c], by unfold partsP; rw [c]; rfl⟩
  · have e : pairsT p = joinT coT (partsP p) := by unfold pairsT; rw [if_neg c]; rfl
    rw [e]
    exact .inr ⟨pairs_not (by omega) h, parts_pairs (by omega) h⟩
theorem prd_back {p : Pairs} {l : List ByteArray} (h : Small9 p) (hr : PRd (pairsT p) l) : SameP (prs l) p := by
  by_cases c : p.n = 0
  · have e : pairsT p = ⟨#[45]⟩ := by unfold pairsT; rw [if_pos c]
    rcases hr.2 with ⟨_, rfl⟩ | ⟨n, _⟩
    · exact ⟨c.symm, fun i hi => by omega⟩
    · exact absurd e n
  · have e : pairsT p = joinT coT (partsP p) := by unfold pairsT; rw [if_neg c]; rfl
    rw [e] at hr
    rcases hr.2 with ⟨e2, _⟩ | ⟨_, hl⟩
    · exact absurd e2 (pairs_not (by omega) h)
    · have e2 := parts_one hl (parts_pairs (by omega) h)
      subst e2
      refine ⟨by simp [prs], fun i hi => ?_⟩
      have ew : wd ((List.range p.n).map (fun i => pairT (p.A i) (p.B i))) i = pairT (p.A i) (p.B i) := by
        unfold wd
        rw [List.getD_eq_getElem?_getD, List.getElem?_map, List.getElem?_range hi]
        rfl
      unfold prs
      dsimp only
      rw [ew]
      exact pair_back (h i hi).1 (h i hi).2
theorem good_9 {s : Sail} (h : GoodSail s) : Small9 s.la ∧ Small9 s.ca := by
  obtain ⟨_, _, _, _, _, _, _, h1, h2, _⟩ := h
  constructor
  · intro i hi
    have := h1.2 i hi
    unfold In at *
    omega
  · intro i hi
    have := h2.2 i hi
    unfold In at *
    omega
theorem free_pairs {q : UInt8} (h0 : ¬ Digit q) (h1 : q ≠ 47) (h2 : q ≠ 44) (h3 : q ≠ 45) {p : Pairs} (h : Small9 p) : Free q (pairsT p) := by
  unfold pairsT
  split
  · exact free_one h3
  · exact free_join (q := 44) h2 _ (fun x hx => by
      obtain ⟨i, hi, rfl⟩ := List.mem_map.1 hx
      have := h i (by simpa using hi)
      exact free_pair h0 h1 this.1.1 this.2.1)
theorem parts_sail {s : Sail} (h : GoodSail s) : Parts 32 (sailT s) (sailP s) := by
  refine ⟨by simp [sailP], rfl, fun p hp => ?_⟩
  have r := sail_rng h
  have n9 := good_9 h
  have n1 : Free 32 s.fr := free_name h.2.1 (by unfold Letter; decide)
  have n2 : Free 32 s.dst := free_name h.2.2.1 (by unfold Letter; decide)
  unfold sailP at hp
  simp only [List.mem_cons, List.not_mem_nil, or_false] at hp
  rcases hp with rfl | rfl | rfl | rfl | rfl | rfl | rfl | rfl | rfl
  · unfold sailW; decide
  · exact free_num nd32 r.1.1
  · exact n1
  · exact n2
  · exact free_num nd32 r.2.1.1
  · exact free_num nd32 r.2.2.1.1
  · exact free_num nd32 r.2.2.2.1.1
  · exact free_pairs nd32 (by decide) (by decide) (by decide) n9.1
  · exact free_pairs nd32 (by decide) (by decide) (by decide) n9.2
theorem sail_back {z : Sail} (h : GoodSail z) {W la lc : List ByteArray} (hW : Parts 32 (sailT z) W) (ha : PRd (wd W 7) la) (hc : PRd (wd W 8) lc) : SameSail (readS W la lc) z := by
  obtain rfl := parts_one hW (parts_sail h)
  have n9 := good_9 h
  have k := h
  unfold GoodSail In at k
  have ha' : PRd (pairsT z.la) la := ha
  have hc' : PRd (pairsT z.ca) lc := hc
  refine ⟨?_, rfl, rfl, ?_, ?_, ?_, prd_back n9.1 ha', prd_back n9.2 hc'⟩
  · show numOf (numT z.id) = z.id
    exact numOf_text ⟨by omega, by omega⟩
  · show numOf (numT z.dep) = z.dep
    exact numOf_text ⟨by omega, by omega⟩
  · show numOf (numT z.arr) = z.arr
    exact numOf_text ⟨by omega, by omega⟩
  · show numOf (numT z.most) = z.most
    exact numOf_text ⟨by omega, by omega⟩
theorem join_size (l : List ByteArray) : (joinT (oneT 44) l).size = (Lib.join (l.map (·.data.toList)) [44]).length := by
  unfold joinT oneT
  simp [ByteArray.size]
theorem join_len : ∀ l : List ByteArray, l.length ≤ (joinT (oneT 44) l).size + 1
  | [] => by simp
  | [a] => by simp
  | a :: b :: r => by
    have ih := join_len (b :: r)
    rw [join_size] at ih ⊢
    simp only [List.map_cons] at ih ⊢
    rw [join_two]
    simp at ih ⊢
    omega
theorem prd_len {s : ByteArray} {l : List ByteArray} (h : Parts 44 s l) : l.length ≤ s.size + 1 := by
  rw [← h.2.1]
  exact join_len l
theorem sails_one {y z : Sail} (hy : GoodSail y) (hz : GoodSail z) (e : sailT y = sailT z) : SameSail y z := by
  have n9 := good_9 hy
  have hl : ∀ p : Pairs, Small9 p → p.n ≤ (pairsT p).size + 1 := fun p hp => by
    by_cases c : p.n = 0
    · omega
    · have h1 := prd_len (parts_pairs (p := p) (by omega) hp)
      have e : pairsT p = joinT coT (partsP p) := by unfold pairsT; rw [if_neg c]; rfl
      rw [e]
      simpa [partsP] using h1
  have ha : PRd (wd (sailP y) 7) (partsP y.la) := prd_self n9.1 (hl _ n9.1)
  have hc : PRd (wd (sailP y) 8) (partsP y.ca) := prd_self n9.2 (hl _ n9.2)
  exact (sail_back hy (parts_sail hy) ha hc).symm.trans (sail_back hz (by rw [← e]; exact parts_sail hy) ha hc)
/-- y and ok are the answer of a reader of s. -/
def AnsS (s : ByteArray) (y : Sail) (ok : Bool) : Prop := (ok = true ∧ GoodSail y ∧ sailT y = s) ∨ (ok = false ∧ y = Sail.zero ∧ ∀ z, GoodSail z → sailT z ≠ s)
theorem ans_same {s : ByteArray} {y z : Sail} {a b : Bool} (h : AnsS s y a) (k : AnsS s z b) : a = b ∧ SameSail y z := by
  rcases h with ⟨rfl, h1, h2⟩ | ⟨rfl, rfl, h1⟩
  · rcases k with ⟨rfl, k1, k2⟩ | ⟨rfl, rfl, k1⟩
    · exact ⟨rfl, sails_one h1 k1 (h2.trans k2.symm)⟩
    · exact absurd h2 (k1 _ h1)
  · rcases k with ⟨rfl, k1, k2⟩ | ⟨rfl, rfl, k1⟩
    · exact absurd k2 (h1 _ k1)
    · exact ⟨rfl, rfl, rfl, rfl, rfl, rfl, rfl, ⟨rfl, fun _ _ => ⟨rfl, rfl⟩⟩, ⟨rfl, fun _ _ => ⟨rfl, rfl⟩⟩⟩
theorem ans_few {s : ByteArray} {y : Sail} {a : Bool} (h : AnsS s y a) : y.la.n ≤ 6 ∧ y.ca.n ≤ 6 ∧ y.fr.size ≤ 12 ∧ y.dst.size ≤ 12 := by
  rcases h with ⟨_, h1, _⟩ | ⟨_, rfl, _⟩
  · exact ⟨(small_la h1).1, (small_ca h1).1, (sail_rng h1).2.2.2.2.1, (sail_rng h1).2.2.2.2.2⟩
  · exact ⟨Nat.zero_le _, Nat.zero_le _, Nat.zero_le _, Nat.zero_le _⟩
/-- What was read and is no text's own: no good sailing has that text. -/
theorem ans_not {s : ByteArray} {W la lc : List ByteArray} (hW : Parts 32 s W) (ha : PRd (wd W 7) la) (hc : PRd (wd W 8) lc) (hn : ¬ (GoodSail (readS W la lc) ∧ sailT (readS W la lc) = s)) : AnsS s Sail.zero false :=
  .inr ⟨rfl, rfl, fun z hz e => by
    have h := same_good (sail_back hz (by rw [e]; exact hW) ha hc) hz
    exact hn ⟨h.1, h.2.trans e⟩⟩
theorem ans_short {s : ByteArray} {W : List ByteArray} (hW : Parts 32 s W) (h9 : W.length ≠ 9) : AnsS s Sail.zero false :=
  .inr ⟨rfl, rfl, fun z hz e => by
    have h := parts_one hW (by rw [← e]; exact parts_sail hz)
    rw [h] at h9
    exact h9 rfl⟩

end Go.Proofs.YtfallpinmhbemaaGreatDoor

namespace Go.Proofs.YtfallpinmhbemaaGreatDoor
open Go.RowKit

theorem wd_lt {l : List ByteArray} {x : ByteArray} {i : Nat} (h : i < l.length) : wd (l ++ [x]) i = wd l i := by
  unfold wd
  rw [List.getD_eq_getElem?_getD, List.getD_eq_getElem?_getD, List.getElem?_append_left h]
theorem wd_last (l : List ByteArray) (x : ByteArray) : wd (l ++ [x]) l.length = x := by
  unfold wd
  rw [List.getD_eq_getElem?_getD, List.getElem?_append_right (Nat.le_refl _)]
  simp
theorem prs_snoc (l : List ByteArray) (x : ByteArray) : pairRow (prs (l ++ [x])) = pairRow (prs l) ++ [.int .i64 (numOf (cutA 47 x)), .int .i64 (numOf (cutB 47 x))] := by
  unfold pairRow
  have e : (prs (l ++ [x])).n * 2 = (prs l).n * 2 + 1 + 1 := by simp [prs]; omega
  rw [e, List.range_succ, List.range_succ, List.map_append, List.map_append, List.append_assoc]
  congr 1
  · refine List.map_congr_left fun j hj => ?_
    have hj : j < l.length * 2 := by simpa [prs] using hj
    have h2 : j / 2 < l.length := by omega
    unfold pairCell prs
    dsimp only
    rw [wd_lt h2]
  · have e0 : (prs l).n = l.length := rfl
    have d0 : l.length * 2 / 2 = l.length := by omega
    have d1 : (l.length * 2 + 1) / 2 = l.length := by omega
    have m0 : l.length * 2 % 2 = 0 := by omega
    have m1 : ¬ (l.length * 2 + 1) % 2 = 0 := by omega
    simp only [List.map_cons, List.map_nil, e0]
    unfold pairCell
    rw [if_pos m0, if_neg m1, d0, d1]
    unfold prs
    dsimp only
    rw [wd_last]
    rfl
theorem take_snoc_w {l : List ByteArray} {k : Nat} (h : k < l.length) : l.take (k + 1) = l.take k ++ [l[k]'h] := by
  rw [List.take_add_one, List.getElem?_eq_getElem h]
  rfl

set_option maxRecDepth 100000 in
theorem inLane_any (s : ByteArray) (w : World) (hs : s.size ≤ 1000000000000) (hP : PowAt w) :
    Calls Tryz.prog 70 #[.string s] w fun e w' => e = .returned (.agg #[.int .i64 (numOf (cutA 47 s)), .int .i64 (numOf (cutB 47 s))]) ∧ Below w.heap.size w w' := by
  have HP : Hid (PowAt w) := hP
  have b0 := heap_alloc_new w (.cells #[.int .i64 0, .int .i64 0] 106)
  have hb0 : Below w.heap.size w (w.alloc (.cells #[.int .i64 0, .int .i64 0] 106)) := push (Below.refl _ _) _
  have HC : Hid (∀ W', PowAt W' → Calls Tryz.prog 93 #[.string s] W' fun e w' => e = .returned (.tuple #[.int .i64 (numOf (cutA 47 s)), .int .i64 (numOf (cutB 47 s))]) ∧ Below W'.heap.size W' w') := fun W' h => pairIn_any s W' hs h
  generalize numOf (cutA 47 s) = a at HC ⊢
  generalize numOf (cutB 47 s) = b at HC ⊢
  go_enter Tryz.func70, Tryz.ntmps70
  go_upto_region 1 with fail
  generalize w.alloc (.cells #[.int .i64 0, .int .i64 0] 106) = W at b0 hb0 ⊢
  have hsz := hb0.size
  have ci := HC.out W (HP.out.below hb0)
  go_wp2_with fail
  refine ci.mono ?_
  clear ci
  rintro e w2 ⟨rfl, hb2⟩
  have b2 := blk_below b0 hb2
  have hB2 := after hb0 hb2
  have y0 := blk_cell b2 0 _ rfl
  have y1 := blk_cell b2 1 _ rfl
  have g0 := blk_free b2 0
  have g1 := blk_free b2 1
  have rF := blk_set (blk_set b2 0 (.int .i64 a)) 1 (.int .i64 b)
  have HFB : Hid (Below w.heap.size w _) := Kept.below hB2 hB2.size (((Kept.refl w2 (fun g => g = w.heap.size)).set (a := ⟨w.heap.size, 0, none⟩) rfl (.int .i64 a)).set (a := ⟨w.heap.size, 1, none⟩) rfl (.int .i64 b)) (fun k e => by have e : k = w.heap.size := e; omega)
  clear b0 hb0 hb2 b2 hB2
  go_wp2
  have t0 := blk_cell rF 0 _ rfl
  have t1 := blk_cell rF 1 _ rfl
  exact bodyPost_ret (v := .agg #[.int .i64 a, .int .i64 b]) (by simp [results, Tryz.results70, go_sem, t0, t1]) rfl ⟨rfl, HFB.out⟩

set_option maxHeartbeats 1600000 in
set_option maxRecDepth 100000 in
theorem listLaneIn_any (s : ByteArray) (w : World) (hs : s.size ≤ 1048576) (hP : PowAt w) :
    Calls Tryz.prog 69 #[.string s, .func (.func 70) #[] #[]] w fun e w' => ∃ v l, e = .returned v ∧ w'.ownsRow w.heap.size 106 2 v l.length (pairRow (prs l)) ∧ Hid (PRd s l) ∧ Below w.heap.size w w' := by
  have HP : Hid (PowAt w) := hP
  clear hP
  obtain ⟨j0, ji, jz0, jz1, jz2⟩ := info_parts Tryz.infoLane
  by_cases h45 : s = ⟨#[45]⟩
  · have e45 : (s.toList == (⟨#[45]⟩ : ByteArray).toList) = true := bytes_eq.2 h45
    have HR : Hid (PRd s []) := ⟨by simp, .inl ⟨h45, rfl⟩⟩
    have e1 : s.toList = [45] := by rw [h45]; simp [ByteArray.toList_eq]
    clear h45
    go_enter Tryz.func69, Tryz.ntmps69
    go_wp2
    go_ret
    exact ⟨_, [], rfl, World.ownsRow_nil _ _ _ _, HR, Below.refl _ _⟩
  · have e45 : (s.toList == [45]) = false := by
      rw [beq_eq_false_iff_ne]
      intro e
      exact h45 (toList_inj (by rw [e]; simp [ByteArray.toList_eq]))
    have e1 : ¬ s.toList = [45] := by rwa [beq_eq_false_iff_ne] at e45
    have HNE : Hid (s ≠ ⟨#[45]⟩) := h45
    clear h45
    go_enter Tryz.func69, Tryz.ntmps69
    go_wp2_with fail
    refine (partsIn_any s 44 _ (by decide) hs).mono ?_
    rintro e w2 ⟨v, l, rfl, ho, hp, hb2⟩
    obtain ⟨pa, pc, rfl, hpc, hpm, hpn⟩ := own_form ho
    have HO : Hid (OwnT w2 w.heap.size (.slice pa l.length pc) l) := ho
    have HPT : Hid (Parts 44 s l ∧ l.length ≤ s.size + 1) := hp.out
    have hll : l.length ≤ 1048577 := by have := hp.out.2; omega
    have HSM : Hid (∀ q, q ∈ l → q.size ≤ 1000000000000) := fun q hq => by have := parts_le hp.out.1 q hq; omega
    clear ho hp
    go_wp2
    go_loopw [5, 7, 13] (fun v _ i wr => ∃ k : Nat, k ≤ l.length ∧ i = .int .i64 k ∧ Hid (wr.ownsRow w.heap.size 106 2 v k (pairRow (prs (l.take k)))) ∧ Hid (OwnT wr w.heap.size (.slice pa l.length pc) l) ∧ Below w.heap.size w wr)
      (fun _ _ i _ => l.length - (intOf i).toNat)
    case atStart => exact ⟨0, Nat.zero_le _, rfl, World.ownsRow_nil _ _ _ _, HO.out, hb2⟩
    case round =>
      clear HO
      obtain ⟨k, hk, rfl, HN, HO, hbel⟩ := hrel
      by_cases hlt : k < l.length
      · obtain ⟨g, hpa, _, hg⟩ := own_addr HO.out (by omega)
        subst hpa
        have hx : l[k]? = some (l[k]'hlt) := List.getElem?_eq_getElem hlt
        have hc : wr.cell? ⟨g, k, none⟩ = some (.string (l[k]'hlt)) := by rw [World.ownsRow.cellAt HO.out k (by omega), List.getElem?_map, hx]; rfl
        have HL : Hid (l.take (k + 1) = l.take k ++ [l[k]'hlt]) := take_snoc_w hlt
        have HXS : Hid ((l[k]'hlt).size ≤ 1000000000000) := HSM.out _ (List.getElem_mem hlt)
        generalize l[k]'hlt = x at hc HL HXS
        obtain ⟨va, vc, rfl, _⟩ := own_form HN.out
        have ci := inLane_any x wr HXS.out (HP.out.below hbel)
        have HSN : Hid (pairRow (prs (l.take (k + 1))) = pairRow (prs (l.take k)) ++ [.int .i64 (numOf (cutA 47 x)), .int .i64 (numOf (cutB 47 x))]) := by rw [HL.out]; exact prs_snoc _ _
        generalize numOf (cutA 47 x) = ca at ci HSN
        generalize numOf (cutB 47 x) = cb at ci HSN
        clear hx HL HXS
        go_wp2_with fail
        refine ci.mono ?_
        clear ci
        rintro e w3 ⟨rfl, hb3⟩
        have HN3 : Hid (World.ownsRow (w3.alloc (.cells #[.int .i64 ca, .int .i64 cb] 106)) w.heap.size 106 2 (.slice va k vc) k (pairRow (prs (l.take k)))) := own_below (push (Below.refl _ _) _) (own_below hb3 HN.out)
        have HO3 : Hid (OwnT (w3.alloc (.cells #[.int .i64 ca, .int .i64 cb] 106)) w.heap.size (.slice (some ⟨g, 0, none⟩) l.length pc) l) := own_below (push (Below.refl _ _) _) (own_below hb3 HO.out)
        have hb4 : Below w.heap.size w (w3.alloc (.cells #[.int .i64 ca, .int .i64 cb] 106)) := push (after hbel hb3) _
        have hsz := hb4.size
        clear HN HO hbel hb3 hc
        go_wp2_with (first | (at_builtin; refine wpList_append_any _ (by rfl) (.tmp 17) (.tmp 21) 34 (by rfl) w.heap.size 106 j0 (.agg #[.int .i64 0, .int .i64 0]) 2 16 Tryz.underlying34 ji jz0 jz1 jz2 rfl (by decide) _ k (pairRow (prs (l.take k))) (by rfl) HN3.out (some ⟨w3.heap.size, 0, none⟩) 1 1 [.int .i64 ca, .int .i64 cb] (by rfl) (fun h => by cases h) (by rfl) (fun ad h => by cases h; exact World.news_of_block (heap_alloc_new w3 _)) (by intro u hu; simp only [List.mem_cons, List.not_mem_nil, or_false] at hu; rcases hu with rfl | rfl <;> rfl) (by unfold maxLen; omega) (by omega) hsz ?_; intro v9 w9 ho9 hg9))
        have HN9 : Hid (World.ownsRow w9 w.heap.size 106 2 v9 (k + 1) (pairRow (prs (l.take (k + 1))))) := by
          rw [HSN.out]
          exact ho9
        have HO9 : Hid (OwnT w9 w.heap.size (.slice (some ⟨g, 0, none⟩) l.length pc) l) := (kept_row hg9).own HO3.out (fun g1 h1 e1 => own_apart HO3.out HN3.out (by decide) g1 h1 e1)
        have hb9 := hb4.grown hg9 hsz (fun j hj => (World.ownsRow.lt HN3.out j hj).1)
        clear HN3 HO3 hb4 ho9 hg9 hsz HSN
        go_roundw
        case rel => exact ⟨k + 1, by omega, by go_num, HN9.out, HO9.out, hb9⟩
        case measure => simp [intOf]; omega
      · obtain rfl : k = l.length := by omega
        have HF : Hid (PRd s l) := ⟨HPT.out.2, .inr ⟨HNE.out, HPT.out.1⟩⟩
        have hN := HN.out
        rw [List.take_of_length_le (Nat.le_refl _)] at hN
        have HN2 : Hid (wr.ownsRow w.heap.size 106 2 u5 l.length (pairRow (prs l))) := hN
        clear HN hN
        go_wp2
        go_ret
        exact ⟨_, _, rfl, HN2.out, HF, hbel⟩

set_option maxRecDepth 100000 in
theorem inCabin_any (s : ByteArray) (w : World) (hs : s.size ≤ 1000000000000) (hP : PowAt w) :
    Calls Tryz.prog 72 #[.string s] w fun e w' => e = .returned (.agg #[.int .i64 (numOf (cutA 47 s)), .int .i64 (numOf (cutB 47 s))]) ∧ Below w.heap.size w w' := by
  have HP : Hid (PowAt w) := hP
  have b0 := heap_alloc_new w (.cells #[.int .i64 0, .int .i64 0] 110)
  have hb0 : Below w.heap.size w (w.alloc (.cells #[.int .i64 0, .int .i64 0] 110)) := push (Below.refl _ _) _
  have HC : Hid (∀ W', PowAt W' → Calls Tryz.prog 93 #[.string s] W' fun e w' => e = .returned (.tuple #[.int .i64 (numOf (cutA 47 s)), .int .i64 (numOf (cutB 47 s))]) ∧ Below W'.heap.size W' w') := fun W' h => pairIn_any s W' hs h
  generalize numOf (cutA 47 s) = a at HC ⊢
  generalize numOf (cutB 47 s) = b at HC ⊢
  go_enter Tryz.func72, Tryz.ntmps72
  go_upto_region 1 with fail
  generalize w.alloc (.cells #[.int .i64 0, .int .i64 0] 110) = W at b0 hb0 ⊢
  have hsz := hb0.size
  have ci := HC.out W (HP.out.below hb0)
  go_wp2_with fail
  refine ci.mono ?_
  clear ci
  rintro e w2 ⟨rfl, hb2⟩
  have b2 := blk_below b0 hb2
  have hB2 := after hb0 hb2
  have y0 := blk_cell b2 0 _ rfl
  have y1 := blk_cell b2 1 _ rfl
  have g0 := blk_free b2 0
  have g1 := blk_free b2 1
  have rF := blk_set (blk_set b2 0 (.int .i64 a)) 1 (.int .i64 b)
  have HFB : Hid (Below w.heap.size w _) := Kept.below hB2 hB2.size (((Kept.refl w2 (fun g => g = w.heap.size)).set (a := ⟨w.heap.size, 0, none⟩) rfl (.int .i64 a)).set (a := ⟨w.heap.size, 1, none⟩) rfl (.int .i64 b)) (fun k e => by have e : k = w.heap.size := e; omega)
  clear b0 hb0 hb2 b2 hB2
  go_wp2
  have t0 := blk_cell rF 0 _ rfl
  have t1 := blk_cell rF 1 _ rfl
  exact bodyPost_ret (v := .agg #[.int .i64 a, .int .i64 b]) (by simp [results, Tryz.results72, go_sem, t0, t1]) rfl ⟨rfl, HFB.out⟩

set_option maxHeartbeats 1600000 in
set_option maxRecDepth 100000 in
theorem listCabinIn_any (s : ByteArray) (w : World) (hs : s.size ≤ 1048576) (hP : PowAt w) :
    Calls Tryz.prog 71 #[.string s, .func (.func 72) #[] #[]] w fun e w' => ∃ v l, e = .returned v ∧ w'.ownsRow w.heap.size 110 2 v l.length (pairRow (prs l)) ∧ Hid (PRd s l) ∧ Below w.heap.size w w' := by
  have HP : Hid (PowAt w) := hP
  clear hP
  obtain ⟨j0, ji, jz0, jz1, jz2⟩ := info_parts Tryz.infoCabin
  by_cases h45 : s = ⟨#[45]⟩
  · have e45 : (s.toList == (⟨#[45]⟩ : ByteArray).toList) = true := bytes_eq.2 h45
    have HR : Hid (PRd s []) := ⟨by simp, .inl ⟨h45, rfl⟩⟩
    have e1 : s.toList = [45] := by rw [h45]; simp [ByteArray.toList_eq]
    clear h45
    go_enter Tryz.func71, Tryz.ntmps71
    go_wp2
    go_ret
    exact ⟨_, [], rfl, World.ownsRow_nil _ _ _ _, HR, Below.refl _ _⟩
  · have e45 : (s.toList == [45]) = false := by
      rw [beq_eq_false_iff_ne]
      intro e
      exact h45 (toList_inj (by rw [e]; simp [ByteArray.toList_eq]))
    have e1 : ¬ s.toList = [45] := by rwa [beq_eq_false_iff_ne] at e45
    have HNE : Hid (s ≠ ⟨#[45]⟩) := h45
    clear h45
    go_enter Tryz.func71, Tryz.ntmps71
    go_wp2_with fail
    refine (partsIn_any s 44 _ (by decide) hs).mono ?_
    rintro e w2 ⟨v, l, rfl, ho, hp, hb2⟩
    obtain ⟨pa, pc, rfl, hpc, hpm, hpn⟩ := own_form ho
    have HO : Hid (OwnT w2 w.heap.size (.slice pa l.length pc) l) := ho
    have HPT : Hid (Parts 44 s l ∧ l.length ≤ s.size + 1) := hp.out
    have hll : l.length ≤ 1048577 := by have := hp.out.2; omega
    have HSM : Hid (∀ q, q ∈ l → q.size ≤ 1000000000000) := fun q hq => by have := parts_le hp.out.1 q hq; omega
    clear ho hp
    go_wp2
    go_loopw [5, 7, 13] (fun v _ i wr => ∃ k : Nat, k ≤ l.length ∧ i = .int .i64 k ∧ Hid (wr.ownsRow w.heap.size 110 2 v k (pairRow (prs (l.take k)))) ∧ Hid (OwnT wr w.heap.size (.slice pa l.length pc) l) ∧ Below w.heap.size w wr)
      (fun _ _ i _ => l.length - (intOf i).toNat)
    case atStart => exact ⟨0, Nat.zero_le _, rfl, World.ownsRow_nil _ _ _ _, HO.out, hb2⟩
    case round =>
      clear HO
      obtain ⟨k, hk, rfl, HN, HO, hbel⟩ := hrel
      by_cases hlt : k < l.length
      · obtain ⟨g, hpa, _, hg⟩ := own_addr HO.out (by omega)
        subst hpa
        have hx : l[k]? = some (l[k]'hlt) := List.getElem?_eq_getElem hlt
        have hc : wr.cell? ⟨g, k, none⟩ = some (.string (l[k]'hlt)) := by rw [World.ownsRow.cellAt HO.out k (by omega), List.getElem?_map, hx]; rfl
        have HL : Hid (l.take (k + 1) = l.take k ++ [l[k]'hlt]) := take_snoc_w hlt
        have HXS : Hid ((l[k]'hlt).size ≤ 1000000000000) := HSM.out _ (List.getElem_mem hlt)
        generalize l[k]'hlt = x at hc HL HXS
        obtain ⟨va, vc, rfl, _⟩ := own_form HN.out
        have ci := inCabin_any x wr HXS.out (HP.out.below hbel)
        have HSN : Hid (pairRow (prs (l.take (k + 1))) = pairRow (prs (l.take k)) ++ [.int .i64 (numOf (cutA 47 x)), .int .i64 (numOf (cutB 47 x))]) := by rw [HL.out]; exact prs_snoc _ _
        generalize numOf (cutA 47 x) = ca at ci HSN
        generalize numOf (cutB 47 x) = cb at ci HSN
        clear hx HL HXS
        go_wp2_with fail
        refine ci.mono ?_
        clear ci
        rintro e w3 ⟨rfl, hb3⟩
        have HN3 : Hid (World.ownsRow (w3.alloc (.cells #[.int .i64 ca, .int .i64 cb] 110)) w.heap.size 110 2 (.slice va k vc) k (pairRow (prs (l.take k)))) := own_below (push (Below.refl _ _) _) (own_below hb3 HN.out)
        have HO3 : Hid (OwnT (w3.alloc (.cells #[.int .i64 ca, .int .i64 cb] 110)) w.heap.size (.slice (some ⟨g, 0, none⟩) l.length pc) l) := own_below (push (Below.refl _ _) _) (own_below hb3 HO.out)
        have hb4 : Below w.heap.size w (w3.alloc (.cells #[.int .i64 ca, .int .i64 cb] 110)) := push (after hbel hb3) _
        have hsz := hb4.size
        clear HN HO hbel hb3 hc
        go_wp2_with (first | (at_builtin; refine wpList_append_any _ (by rfl) (.tmp 17) (.tmp 21) 35 (by rfl) w.heap.size 110 j0 (.agg #[.int .i64 0, .int .i64 0]) 2 16 Tryz.underlying35 ji jz0 jz1 jz2 rfl (by decide) _ k (pairRow (prs (l.take k))) (by rfl) HN3.out (some ⟨w3.heap.size, 0, none⟩) 1 1 [.int .i64 ca, .int .i64 cb] (by rfl) (fun h => by cases h) (by rfl) (fun ad h => by cases h; exact World.news_of_block (heap_alloc_new w3 _)) (by intro u hu; simp only [List.mem_cons, List.not_mem_nil, or_false] at hu; rcases hu with rfl | rfl <;> rfl) (by unfold maxLen; omega) (by omega) hsz ?_; intro v9 w9 ho9 hg9))
        have HN9 : Hid (World.ownsRow w9 w.heap.size 110 2 v9 (k + 1) (pairRow (prs (l.take (k + 1))))) := by
          rw [HSN.out]
          exact ho9
        have HO9 : Hid (OwnT w9 w.heap.size (.slice (some ⟨g, 0, none⟩) l.length pc) l) := (kept_row hg9).own HO3.out (fun g1 h1 e1 => own_apart HO3.out HN3.out (by decide) g1 h1 e1)
        have hb9 := hb4.grown hg9 hsz (fun j hj => (World.ownsRow.lt HN3.out j hj).1)
        clear HN3 HO3 hb4 ho9 hg9 hsz HSN
        go_roundw
        case rel => exact ⟨k + 1, by omega, by go_num, HN9.out, HO9.out, hb9⟩
        case measure => simp [intOf]; omega
      · obtain rfl : k = l.length := by omega
        have HF : Hid (PRd s l) := ⟨HPT.out.2, .inr ⟨HNE.out, HPT.out.1⟩⟩
        have hN := HN.out
        rw [List.take_of_length_le (Nat.le_refl _)] at hN
        have HN2 : Hid (wr.ownsRow w.heap.size 110 2 u5 l.length (pairRow (prs l))) := hN
        clear HN hN
        go_wp2
        go_ret
        exact ⟨_, _, rfl, HN2.out, HF, hbel⟩

end Go.Proofs.YtfallpinmhbemaaGreatDoor

namespace Go.Proofs.YtfallpinmhbemaaGreatDoor
open Go.RowKit

/-- A sailing as it is read, its lists as values and as parts. -/
structure SRc where
  id : Int
  fr : ByteArray
  dst : ByteArray
  dep : Int
  arr : Int
  vl : Value
  vc : Value
  la : List ByteArray
  lc : List ByteArray
  most : Int
def SRc.cs (x : SRc) : Array Value := #[.int .i64 x.id, .string x.fr, .string x.dst, .int .i64 x.dep, .int .i64 x.arr, x.vl, x.vc, .int .i64 x.most]
noncomputable def SRc.d (x : SRc) : Sail := ⟨x.id, x.fr, x.dst, x.dep, x.arr, prs x.la, prs x.lc, x.most⟩
theorem hd_drop (l : List ByteArray) (i : Nat) : hd (l.drop i) = wd l i := by
  unfold hd wd
  rw [List.headD_eq_head?_getD, List.head?_drop, List.getD_eq_getElem?_getD]
theorem next_at (b : Nat) (l : List ByteArray) (i : Nat) (w : World) (h : WSt w b (l.drop i)) :
    Calls Tryz.prog 51 #[.pointer (some ⟨b, 0, none⟩)] w fun e w' => e = .returned (.string (wd l i)) ∧ Hid (WSt w' b (l.drop (i + 1))) ∧ Kept w w' (fun k => k = b) := by
  have c := next_hd b (l.drop i) w h
  rw [hd_drop, List.tail_drop] at c
  exact c
theorem name_at (b : Nat) (l : List ByteArray) (i : Nat) (w : World) (h : WSt w b (l.drop i)) (hl : (wd l i).size ≤ 1048576) :
    Calls Tryz.prog 53 #[.pointer (some ⟨b, 0, none⟩)] w fun e w' => e = .returned (.string (wd l i)) ∧ Hid (WSt w' b (l.drop (i + 1))) ∧ Kept w w' (fun k => k = b) := by
  have c := name_hd b (l.drop i) w h (by rw [hd_drop]; exact hl)
  rw [hd_drop, List.tail_drop] at c
  exact c
theorem number_at (b : Nat) (l : List ByteArray) (i : Nat) (w : World) (h : WSt w b (l.drop i)) (hP : PowAt w) (hg : 4 ≠ b) :
    Calls Tryz.prog 52 #[.pointer (some ⟨b, 0, none⟩)] w fun e w' => e = .returned (.int .i64 (numOf (wd l i))) ∧ Hid (WSt w' b (l.drop (i + 1))) ∧ Kept w w' (fun k => k = b) := by
  have c := number_hd b (l.drop i) w h hP hg
  rw [hd_drop, List.tail_drop] at c
  exact c
theorem wd_size {l : List ByteArray} (hl : ∀ q, q ∈ l → q.size ≤ 1048576) (i : Nat) : (wd l i).size ≤ 1048576 := by
  unfold wd
  rw [List.getD_eq_getElem?_getD]
  cases h : l[i]? with
  | none => exact Nat.zero_le _
  | some q => exact hl q (List.mem_of_getElem? h)
/-- The sailing at hand in its box, beside the box of results and the words'. -/
structure SIn (w wx : World) (b rb ob : Nat) (x : SRc) (L : List ByteArray) : Prop where
  r : wx.heap[rb]? = some (.cells #[.int .i64 0, .string ⟨#[]⟩, .string ⟨#[]⟩, .int .i64 0, .int .i64 0, .slice none 0 0, .slice none 0 0, .int .i64 0] 37 (0, 0))
  o : wx.heap[ob]? = some (.cells x.cs 37 (0, 0))
  ws : WSt wx b L
  ne : rb ≠ ob
  lo : w.heap.size ≤ rb ∧ w.heap.size ≤ ob
  la : wx.ownsRow w.heap.size 106 2 x.vl x.la.length (pairRow (prs x.la))
  ca : wx.ownsRow w.heap.size 110 2 x.vc x.lc.length (pairRow (prs x.lc))
  kept : Kept w wx (fun g => g = b)
section
variable {w wx wy : World} {b rb ob : Nat} {x : SRc} {L L' : List ByteArray}
theorem SIn.below (h : SIn w wx b rb ob x L) (hb : Below wx.heap.size wx wy) : SIn w wy b rb ob x L :=
  ⟨blk_below h.r hb, blk_below h.o hb, h.ws.below hb, h.ne, h.lo, own_below hb h.la, own_below hb h.ca, h.kept.trans (Kept.of_below hb)⟩
theorem SIn.words (h : SIn w wx b rb ob x L) (hW : WSt wy b L') (hk : Kept wx wy (fun g => g = b)) : SIn w wy b rb ob x L' := by
  obtain ⟨_, _, h1, _⟩ := id h.ws
  exact ⟨hk.blk h.r (words_ne h.ws h.r (by decide)), hk.blk h.o (words_ne h.ws h.o (by decide)), hW, h.ne, h.lo, hk.own h.la (own_notT h.la h1 (by decide)), hk.own h.ca (own_notT h.ca h1 (by decide)), h.kept.trans hk⟩
theorem SIn.store (h : SIn w wx b rb ob x L) (i : Nat) (u : Value) (y : SRc) (hy : y.cs = x.cs.setIfInBounds i u) (hl : wx.ownsRow w.heap.size 106 2 y.vl y.la.length (pairRow (prs y.la))) (hc : wx.ownsRow w.heap.size 110 2 y.vc y.lc.length (pairRow (prs y.lc))) : SIn w (wx.setCell ⟨ob, i, none⟩ u) b rb ob y L := by
  have hk : Kept wx (wx.setCell ⟨ob, i, none⟩ u) (fun g => g = ob) := (Kept.refl wx (fun g => g = ob)).set (a := ⟨ob, i, none⟩) rfl u
  refine ⟨hk.blk h.r h.ne, ?_, ?_, h.ne, h.lo, hk.own hl (own_notT hl h.o (by decide)), hk.own hc (own_notT hc h.o (by decide)), ?_⟩
  · rw [hy]
    exact blk_set h.o i u
  · refine h.ws.kept hk (fun e => words_ne h.ws h.o (by decide) e.symm) (fun g cur hg e => ?_)
    have e : g = ob := e
    rw [e, h.o] at hg
    simp only [Option.some.injEq, Obj.cells.injEq] at hg
    exact absurd hg.2.1 (by decide)
  · refine ⟨h.kept.os, h.kept.tape, h.kept.output, by rw [World.size_setCell]; exact h.kept.size, fun g hg hn => ?_⟩
    rw [hk.block g (by have := h.kept.size; omega) (fun e => by have e : g = ob := e; have := h.lo.2; omega)]
    exact h.kept.block g hg hn
theorem SIn.done {z : World} (h : SIn w wx b rb ob x L) (hk : Kept wx z (fun g => g = rb)) : z.ownsRow w.heap.size 106 2 x.vl x.la.length (pairRow (prs x.la)) ∧ z.ownsRow w.heap.size 110 2 x.vc x.lc.length (pairRow (prs x.lc)) ∧ Kept w z (fun g => g = b) := by
  refine ⟨hk.own h.la (own_notT h.la h.r (by decide)), hk.own h.ca (own_notT h.ca h.r (by decide)), ⟨hk.os.trans h.kept.os, hk.tape.trans h.kept.tape, hk.output.trans h.kept.output, Nat.le_trans h.kept.size hk.size, fun g hg hn => ?_⟩⟩
  rw [hk.block g (by have := h.kept.size; omega) (fun e => by have e : g = rb := e; have := h.lo.1; omega)]
  exact h.kept.block g hg hn
end

set_option maxHeartbeats 6400000 in
set_option maxRecDepth 100000 in
theorem sailingIn_any (b : Nat) (l : List ByteArray) (w : World) (hl : ∀ q, q ∈ l → q.size ≤ 1048576) (h : WSt w b l) (hP : PowAt w) (hb1 : 4 ≠ b) :
    Calls Tryz.prog 28 #[.pointer (some ⟨b, 0, none⟩)] w fun e w' => ∃ x : SRc, e = .returned (.agg x.cs) ∧ w'.ownsRow w.heap.size 106 2 x.vl x.la.length (pairRow (prs x.la)) ∧ w'.ownsRow w.heap.size 110 2 x.vc x.lc.length (pairRow (prs x.lc)) ∧ Hid (x.d = readS l x.la x.lc ∧ PRd (wd l 7) x.la ∧ PRd (wd l 8) x.lc) ∧ Kept w w' (fun g => g = b) := by
  have HPB : Hid (∀ wx, Kept w wx (fun g => g = b) → PowAt wx) := fun wx hk => pow_kept (S := fun g => g = b) hP hk hb1
  have HSM : Hid (∀ i, (wd l i).size ≤ 1048576) := fun i => wd_size hl i
  have hr := heap_alloc_new w (.cells #[.int .i64 0, .string ⟨#[]⟩, .string ⟨#[]⟩, .int .i64 0, .int .i64 0, .slice none 0 0, .slice none 0 0, .int .i64 0] 37)
  have hb0 : Below w.heap.size w (w.alloc (.cells #[.int .i64 0, .string ⟨#[]⟩, .string ⟨#[]⟩, .int .i64 0, .int .i64 0, .slice none 0 0, .slice none 0 0, .int .i64 0] 37)) := push (Below.refl _ _) _
  have HWS : Hid (WSt (w.alloc (.cells #[.int .i64 0, .string ⟨#[]⟩, .string ⟨#[]⟩, .int .i64 0, .int .i64 0, .slice none 0 0, .slice none 0 0, .int .i64 0] 37)) b (l.drop 0)) := h.below hb0
  clear h hP hl
  go_enter Tryz.func28, Tryz.ntmps28
  go_upto_region 1 with fail
  generalize w.alloc (.cells #[.int .i64 0, .string ⟨#[]⟩, .string ⟨#[]⟩, .int .i64 0, .int .i64 0, .slice none 0 0, .slice none 0 0, .int .i64 0] 37) = W at hr hb0 HWS ⊢
  have hKW : Kept w W (fun g => g = b) := Kept.of_below hb0
  go_wp2_with fail
  refine (next_at b l 0 _ HWS.out).mono ?_
  rintro e w2 ⟨rfl, HW2, hk2⟩
  have hrb : ¬ w.heap.size = b := words_ne HWS.out hr (by decide)
  have hr2 := hk2.blk hr hrb
  have hK2 := hKW.trans hk2
  have hlt2 := blk_lt hr2
  clear hr hb0 HWS hKW hk2 hrb
  have b3 := heap_alloc_new w2 (.cells #[.int .i64 0, .string ⟨#[]⟩, .string ⟨#[]⟩, .int .i64 0, .int .i64 0, .slice none 0 0, .slice none 0 0, .int .i64 0] 37)
  have p3 : Below w2.heap.size w2 (w2.alloc (.cells #[.int .i64 0, .string ⟨#[]⟩, .string ⟨#[]⟩, .int .i64 0, .int .i64 0, .slice none 0 0, .slice none 0 0, .int .i64 0] 37)) := push (Below.refl _ _) _
  have HS0 : Hid (SIn w (w2.alloc (.cells #[.int .i64 0, .string ⟨#[]⟩, .string ⟨#[]⟩, .int .i64 0, .int .i64 0, .slice none 0 0, .slice none 0 0, .int .i64 0] 37)) b w.heap.size w2.heap.size ⟨0, ⟨#[]⟩, ⟨#[]⟩, 0, 0, .slice none 0 0, .slice none 0 0, [], [], 0⟩ (l.drop 1)) :=
    ⟨blk_below hr2 p3, b3, HW2.out.below p3, by omega, ⟨Nat.le_refl _, by omega⟩, World.ownsRow_nil _ _ _ _, World.ownsRow_nil _ _ _ _, hK2.trans (Kept.of_below p3)⟩
  clear hr2 hK2 b3 p3 HW2
  go_upto_region 3 with fail
  generalize w2.alloc (.cells #[.int .i64 0, .string ⟨#[]⟩, .string ⟨#[]⟩, .int .i64 0, .int .i64 0, .slice none 0 0, .slice none 0 0, .int .i64 0] 37) = W0 at HS0 ⊢
  generalize w2.heap.size = ob at HS0 hlt2 ⊢
  clear w2 W
  generalize w.heap.size = rb at HS0 hlt2 ⊢
  go_wp2_with fail
  refine (number_at b l 1 _ HS0.out.ws (HPB.out _ HS0.out.kept) hb1).mono ?_
  rintro e v0 ⟨rfl, HW, hk⟩
  have H5 : Hid (SIn w v0 b rb ob ⟨0, ⟨#[]⟩, ⟨#[]⟩, 0, 0, (.slice none 0 0), (.slice none 0 0), [], [], 0⟩ (l.drop 2)) := HS0.out.words HW.out hk
  have o5 := H5.out.o
  have x5 := blk_cell o5 0 _ rfl
  have g5 := blk_free o5 0
  have HS1 : Hid (SIn w (v0.setCell ⟨ob, 0, none⟩ (.int .i64 (numOf (wd l 1)))) b rb ob ⟨(numOf (wd l 1)), ⟨#[]⟩, ⟨#[]⟩, 0, 0, (.slice none 0 0), (.slice none 0 0), [], [], 0⟩ (l.drop 2)) := H5.out.store 0 (.int .i64 (numOf (wd l 1))) ⟨(numOf (wd l 1)), ⟨#[]⟩, ⟨#[]⟩, 0, 0, (.slice none 0 0), (.slice none 0 0), [], [], 0⟩ rfl H5.out.la H5.out.ca
  clear o5 H5 HW hk HS0
  go_upto_region 4 with fail
  generalize v0.setCell ⟨ob, 0, none⟩ (.int .i64 (numOf (wd l 1))) = W1 at HS1 ⊢
  clear x5 g5
  go_wp2_with fail
  refine (name_at b l 2 _ HS1.out.ws (HSM.out 2)).mono ?_
  rintro e v1 ⟨rfl, HW, hk⟩
  have H5 : Hid (SIn w v1 b rb ob ⟨(numOf (wd l 1)), ⟨#[]⟩, ⟨#[]⟩, 0, 0, (.slice none 0 0), (.slice none 0 0), [], [], 0⟩ (l.drop 3)) := HS1.out.words HW.out hk
  have o5 := H5.out.o
  have x5 := blk_cell o5 1 _ rfl
  have g5 := blk_free o5 1
  have HS2 : Hid (SIn w (v1.setCell ⟨ob, 1, none⟩ (.string (wd l 2))) b rb ob ⟨(numOf (wd l 1)), (wd l 2), ⟨#[]⟩, 0, 0, (.slice none 0 0), (.slice none 0 0), [], [], 0⟩ (l.drop 3)) := H5.out.store 1 (.string (wd l 2)) ⟨(numOf (wd l 1)), (wd l 2), ⟨#[]⟩, 0, 0, (.slice none 0 0), (.slice none 0 0), [], [], 0⟩ rfl H5.out.la H5.out.ca
  clear o5 H5 HW hk HS1
  go_upto_region 5 with fail
  generalize v1.setCell ⟨ob, 1, none⟩ (.string (wd l 2)) = W2 at HS2 ⊢
  clear x5 g5
  go_wp2_with fail
  refine (name_at b l 3 _ HS2.out.ws (HSM.out 3)).mono ?_
  rintro e v2 ⟨rfl, HW, hk⟩
  have H5 : Hid (SIn w v2 b rb ob ⟨(numOf (wd l 1)), (wd l 2), ⟨#[]⟩, 0, 0, (.slice none 0 0), (.slice none 0 0), [], [], 0⟩ (l.drop 4)) := HS2.out.words HW.out hk
  have o5 := H5.out.o
  have x5 := blk_cell o5 2 _ rfl
  have g5 := blk_free o5 2
  have HS3 : Hid (SIn w (v2.setCell ⟨ob, 2, none⟩ (.string (wd l 3))) b rb ob ⟨(numOf (wd l 1)), (wd l 2), (wd l 3), 0, 0, (.slice none 0 0), (.slice none 0 0), [], [], 0⟩ (l.drop 4)) := H5.out.store 2 (.string (wd l 3)) ⟨(numOf (wd l 1)), (wd l 2), (wd l 3), 0, 0, (.slice none 0 0), (.slice none 0 0), [], [], 0⟩ rfl H5.out.la H5.out.ca
  clear o5 H5 HW hk HS2
  go_upto_region 6 with fail
  generalize v2.setCell ⟨ob, 2, none⟩ (.string (wd l 3)) = W3 at HS3 ⊢
  clear x5 g5
  go_wp2_with fail
  refine (number_at b l 4 _ HS3.out.ws (HPB.out _ HS3.out.kept) hb1).mono ?_
  rintro e v3 ⟨rfl, HW, hk⟩
  have H5 : Hid (SIn w v3 b rb ob ⟨(numOf (wd l 1)), (wd l 2), (wd l 3), 0, 0, (.slice none 0 0), (.slice none 0 0), [], [], 0⟩ (l.drop 5)) := HS3.out.words HW.out hk
  have o5 := H5.out.o
  have x5 := blk_cell o5 3 _ rfl
  have g5 := blk_free o5 3
  have HS4 : Hid (SIn w (v3.setCell ⟨ob, 3, none⟩ (.int .i64 (numOf (wd l 4)))) b rb ob ⟨(numOf (wd l 1)), (wd l 2), (wd l 3), (numOf (wd l 4)), 0, (.slice none 0 0), (.slice none 0 0), [], [], 0⟩ (l.drop 5)) := H5.out.store 3 (.int .i64 (numOf (wd l 4))) ⟨(numOf (wd l 1)), (wd l 2), (wd l 3), (numOf (wd l 4)), 0, (.slice none 0 0), (.slice none 0 0), [], [], 0⟩ rfl H5.out.la H5.out.ca
  clear o5 H5 HW hk HS3
  go_upto_region 7 with fail
  generalize v3.setCell ⟨ob, 3, none⟩ (.int .i64 (numOf (wd l 4))) = W4 at HS4 ⊢
  clear x5 g5
  go_wp2_with fail
  refine (number_at b l 5 _ HS4.out.ws (HPB.out _ HS4.out.kept) hb1).mono ?_
  rintro e v4 ⟨rfl, HW, hk⟩
  have H5 : Hid (SIn w v4 b rb ob ⟨(numOf (wd l 1)), (wd l 2), (wd l 3), (numOf (wd l 4)), 0, (.slice none 0 0), (.slice none 0 0), [], [], 0⟩ (l.drop 6)) := HS4.out.words HW.out hk
  have o5 := H5.out.o
  have x5 := blk_cell o5 4 _ rfl
  have g5 := blk_free o5 4
  have HS5 : Hid (SIn w (v4.setCell ⟨ob, 4, none⟩ (.int .i64 (numOf (wd l 5)))) b rb ob ⟨(numOf (wd l 1)), (wd l 2), (wd l 3), (numOf (wd l 4)), (numOf (wd l 5)), (.slice none 0 0), (.slice none 0 0), [], [], 0⟩ (l.drop 6)) := H5.out.store 4 (.int .i64 (numOf (wd l 5))) ⟨(numOf (wd l 1)), (wd l 2), (wd l 3), (numOf (wd l 4)), (numOf (wd l 5)), (.slice none 0 0), (.slice none 0 0), [], [], 0⟩ rfl H5.out.la H5.out.ca
  clear o5 H5 HW hk HS4
  go_upto_region 8 with fail
  generalize v4.setCell ⟨ob, 4, none⟩ (.int .i64 (numOf (wd l 5))) = W5 at HS5 ⊢
  clear x5 g5
  go_wp2_with fail
  refine (number_at b l 6 _ HS5.out.ws (HPB.out _ HS5.out.kept) hb1).mono ?_
  rintro e v5 ⟨rfl, HW, hk⟩
  have H5 : Hid (SIn w v5 b rb ob ⟨(numOf (wd l 1)), (wd l 2), (wd l 3), (numOf (wd l 4)), (numOf (wd l 5)), (.slice none 0 0), (.slice none 0 0), [], [], 0⟩ (l.drop 7)) := HS5.out.words HW.out hk
  have o5 := H5.out.o
  have x5 := blk_cell o5 7 _ rfl
  have g5 := blk_free o5 7
  have HS6 : Hid (SIn w (v5.setCell ⟨ob, 7, none⟩ (.int .i64 (numOf (wd l 6)))) b rb ob ⟨(numOf (wd l 1)), (wd l 2), (wd l 3), (numOf (wd l 4)), (numOf (wd l 5)), (.slice none 0 0), (.slice none 0 0), [], [], (numOf (wd l 6))⟩ (l.drop 7)) := H5.out.store 7 (.int .i64 (numOf (wd l 6))) ⟨(numOf (wd l 1)), (wd l 2), (wd l 3), (numOf (wd l 4)), (numOf (wd l 5)), (.slice none 0 0), (.slice none 0 0), [], [], (numOf (wd l 6))⟩ rfl H5.out.la H5.out.ca
  clear o5 H5 HW hk HS5
  go_upto_region 9 with fail
  generalize v5.setCell ⟨ob, 7, none⟩ (.int .i64 (numOf (wd l 6))) = W6 at HS6 ⊢
  clear x5 g5
  go_wp2_with fail
  refine (next_at b l 7 _ HS6.out.ws).mono ?_
  rintro e z6 ⟨rfl, HW, hk⟩
  have H4 : Hid (SIn w z6 b rb ob ⟨(numOf (wd l 1)), (wd l 2), (wd l 3), (numOf (wd l 4)), (numOf (wd l 5)), (.slice none 0 0), (.slice none 0 0), [], [], (numOf (wd l 6))⟩ (l.drop 8)) := HS6.out.words HW.out hk
  clear HW hk HS6
  go_wp2_with fail
  refine (listLaneIn_any (wd l 7) _ (HSM.out 7) (HPB.out _ H4.out.kept)).mono ?_
  rintro e v6 ⟨vv, pl, rfl, ho, HRLane, hb5⟩
  have H5 : Hid (SIn w v6 b rb ob ⟨(numOf (wd l 1)), (wd l 2), (wd l 3), (numOf (wd l 4)), (numOf (wd l 5)), (.slice none 0 0), (.slice none 0 0), [], [], (numOf (wd l 6))⟩ (l.drop 8)) := H4.out.below hb5
  have HO5 : Hid (v6.ownsRow w.heap.size 106 2 vv pl.length (pairRow (prs pl))) := own_base ho H4.out.kept.size
  obtain ⟨a6, c6, rfl, _⟩ := own_form ho
  clear ho hb5 H4
  have o5 := H5.out.o
  have x5 := blk_cell o5 5 _ rfl
  have g5 := blk_free o5 5
  have HS7 : Hid (SIn w (v6.setCell ⟨ob, 5, none⟩ (.slice a6 pl.length c6)) b rb ob ⟨(numOf (wd l 1)), (wd l 2), (wd l 3), (numOf (wd l 4)), (numOf (wd l 5)), (.slice a6 pl.length c6), (.slice none 0 0), pl, [], (numOf (wd l 6))⟩ (l.drop 8)) := H5.out.store 5 (.slice a6 pl.length c6) ⟨(numOf (wd l 1)), (wd l 2), (wd l 3), (numOf (wd l 4)), (numOf (wd l 5)), (.slice a6 pl.length c6), (.slice none 0 0), pl, [], (numOf (wd l 6))⟩ rfl HO5.out H5.out.ca
  clear o5 H5 HO5
  go_upto_region 10 with fail
  generalize v6.setCell ⟨ob, 5, none⟩ (.slice a6 pl.length c6) = W7 at HS7 ⊢
  clear x5 g5
  go_wp2_with fail
  refine (next_at b l 8 _ HS7.out.ws).mono ?_
  rintro e z7 ⟨rfl, HW, hk⟩
  have H4 : Hid (SIn w z7 b rb ob ⟨(numOf (wd l 1)), (wd l 2), (wd l 3), (numOf (wd l 4)), (numOf (wd l 5)), (.slice a6 pl.length c6), (.slice none 0 0), pl, [], (numOf (wd l 6))⟩ (l.drop 9)) := HS7.out.words HW.out hk
  clear HW hk HS7
  go_wp2_with fail
  refine (listCabinIn_any (wd l 8) _ (HSM.out 8) (HPB.out _ H4.out.kept)).mono ?_
  rintro e v7 ⟨vv, pc, rfl, ho, HRCabin, hb5⟩
  have H5 : Hid (SIn w v7 b rb ob ⟨(numOf (wd l 1)), (wd l 2), (wd l 3), (numOf (wd l 4)), (numOf (wd l 5)), (.slice a6 pl.length c6), (.slice none 0 0), pl, [], (numOf (wd l 6))⟩ (l.drop 9)) := H4.out.below hb5
  have HO5 : Hid (v7.ownsRow w.heap.size 110 2 vv pc.length (pairRow (prs pc))) := own_base ho H4.out.kept.size
  obtain ⟨a7, c7, rfl, _⟩ := own_form ho
  clear ho hb5 H4
  have o5 := H5.out.o
  have x5 := blk_cell o5 6 _ rfl
  have g5 := blk_free o5 6
  have HS8 : Hid (SIn w (v7.setCell ⟨ob, 6, none⟩ (.slice a7 pc.length c7)) b rb ob ⟨(numOf (wd l 1)), (wd l 2), (wd l 3), (numOf (wd l 4)), (numOf (wd l 5)), (.slice a6 pl.length c6), (.slice a7 pc.length c7), pl, pc, (numOf (wd l 6))⟩ (l.drop 9)) := H5.out.store 6 (.slice a7 pc.length c7) ⟨(numOf (wd l 1)), (wd l 2), (wd l 3), (numOf (wd l 4)), (numOf (wd l 5)), (.slice a6 pl.length c6), (.slice a7 pc.length c7), pl, pc, (numOf (wd l 6))⟩ rfl H5.out.la HO5.out
  clear o5 H5 HO5
  go_upto_region 11 with fail
  generalize v7.setCell ⟨ob, 6, none⟩ (.slice a7 pc.length c7) = W8 at HS8 ⊢
  clear x5 g5
  have HRD : Hid (SRc.d ⟨(numOf (wd l 1)), (wd l 2), (wd l 3), (numOf (wd l 4)), (numOf (wd l 5)), (.slice a6 pl.length c6), (.slice a7 pc.length c7), pl, pc, (numOf (wd l 6))⟩ = readS l pl pc ∧ PRd (wd l 7) pl ∧ PRd (wd l 8) pc) := ⟨rfl, HRLane.out, HRCabin.out⟩
  have hr8 := HS8.out.r
  have ho8 : W8.heap[ob]? = some (.cells #[.int .i64 (numOf (wd l 1)), .string (wd l 2), .string (wd l 3), .int .i64 (numOf (wd l 4)), .int .i64 (numOf (wd l 5)), .slice a6 pl.length c6, .slice a7 pc.length c7, .int .i64 (numOf (wd l 6))] 37 (0, 0)) := HS8.out.o
  have s0 := blk_cell hr8 0 _ rfl
  have g0 := blk_free hr8 0
  have p0 := blk_cell ho8 0 _ rfl
  have s1 := blk_cell hr8 1 _ rfl
  have g1 := blk_free hr8 1
  have p1 := blk_cell ho8 1 _ rfl
  have s2 := blk_cell hr8 2 _ rfl
  have g2 := blk_free hr8 2
  have p2 := blk_cell ho8 2 _ rfl
  have s3 := blk_cell hr8 3 _ rfl
  have g3 := blk_free hr8 3
  have p3 := blk_cell ho8 3 _ rfl
  have s4 := blk_cell hr8 4 _ rfl
  have g4 := blk_free hr8 4
  have p4 := blk_cell ho8 4 _ rfl
  have s5 := blk_cell hr8 5 _ rfl
  have g5 := blk_free hr8 5
  have p5 := blk_cell ho8 5 _ rfl
  have s6 := blk_cell hr8 6 _ rfl
  have g6 := blk_free hr8 6
  have p6 := blk_cell ho8 6 _ rfl
  have s7 := blk_cell hr8 7 _ rfl
  have g7 := blk_free hr8 7
  have p7 := blk_cell ho8 7 _ rfl
  have rF := box_8 hr8 (.int .i64 (numOf (wd l 1))) (.string (wd l 2)) (.string (wd l 3)) (.int .i64 (numOf (wd l 4))) (.int .i64 (numOf (wd l 5))) (.slice a6 pl.length c6) (.slice a7 pc.length c7) (.int .i64 (numOf (wd l 6)))
  have HFD : Hid _ := HS8.out.done (keep_8 W8 rb (.int .i64 (numOf (wd l 1))) (.string (wd l 2)) (.string (wd l 3)) (.int .i64 (numOf (wd l 4))) (.int .i64 (numOf (wd l 5))) (.slice a6 pl.length c6) (.slice a7 pc.length c7) (.int .i64 (numOf (wd l 6))))
  clear hr8 ho8
  go_wp2
  have t0 := blk_cell rF 0 _ rfl
  have t1 := blk_cell rF 1 _ rfl
  have t2 := blk_cell rF 2 _ rfl
  have t3 := blk_cell rF 3 _ rfl
  have t4 := blk_cell rF 4 _ rfl
  have t5 := blk_cell rF 5 _ rfl
  have t6 := blk_cell rF 6 _ rfl
  have t7 := blk_cell rF 7 _ rfl
  refine bodyPost_ret (v := .agg #[.int .i64 (numOf (wd l 1)), .string (wd l 2), .string (wd l 3), .int .i64 (numOf (wd l 4)), .int .i64 (numOf (wd l 5)), .slice a6 pl.length c6, .slice a7 pc.length c7, .int .i64 (numOf (wd l 6))]) (by simp [results, Tryz.results28, go_sem, t0, t1, t2, t3, t4, t5, t6, t7]) rfl ?_
  exact ⟨⟨(numOf (wd l 1)), (wd l 2), (wd l 3), (numOf (wd l 4)), (numOf (wd l 5)), (.slice a6 pl.length c6), (.slice a7 pc.length c7), pl, pc, (numOf (wd l 6))⟩, rfl, HFD.out.1, HFD.out.2.1, HRD, HFD.out.2.2⟩

end Go.Proofs.YtfallpinmhbemaaGreatDoor
