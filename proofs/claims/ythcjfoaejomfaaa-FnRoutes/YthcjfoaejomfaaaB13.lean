/-
  OWN TEXT: KitB, DrawV.
-/
import Derived.Deep.AppendLies
import Derived.Deep.RegionLawGrows
import Derived.Deep.DeepCutAuto
import Derived.Deep.CutBlock
import Derived.Test.YthcjfoaejomfaaaB00
import Derived.Test.YthcjfoaejomfaaaB12
import Derived.Test.YthcjfoaejomfaaaB08
import Derived.Test.YthcjfoaejomfaaaB09
import Derived.Test.YthcjfoaejomfaaaB11
namespace Go.Proofs.Ythcjfoaejomfaaa
open Go.RowKit

theorem wpList_append_any {P : Program} (w : World) {ops : Array Oper} {rest : List Oper} {o : Oper} {a : Act} {Q : Exit → Act → World → Prop}
    (hg : o.guard = none) (s x : Operand) (t : TypeId) (hop : o.op = Op.call { callee := Callee.builtin Builtin.append, args := #[s, x], argTypes := #[t, t] })
    (base : Nat) (e : TypeId) (i : TypeInfo) (z : Value) (size bytes : Nat) (h1 : P.underlying t = some (.slice e)) (h2 : P.info? e = some i) (h3 : i.zero = some z) (h4 : i.size = size) (h5 : i.bytes = bytes) (h6 : z.cells.size = size) (h7 : 0 < size)
    (v : Value) (n : Nat) (xs : List Value) (hs : a.eval s = v) (h : w.ownsRow base e size v n xs)
    (sa : Option Addr) (m c : Nat) (news : List Value) (hx : a.eval x = .slice sa m c) (hnil : sa = none → m = 0 ∧ c = 0) (hn : news.length = m * size) (hc : ∀ ad, sa = some ad → ∀ j u, news[j]? = some u → w.cell? (ad.add j) = some u) (h1c : ∀ u ∈ news, u.oneCell' = true)
    (b1 : n + m ≤ maxLen) (b2 : (n + m) * bytes ≤ 140737488355328) (hbase : base ≤ w.heap.size)
    (hK : ∀ v' w', w'.ownsRow base e size v' (n + m) (xs ++ news) → w.grownBy w' v.ownBlock → wpList P ops Q rest (a.put o.dst v') w') :
    wpList P ops Q (o :: rest) a w := by
  cases sa with
  | none =>
    obtain ⟨rfl, rfl⟩ := hnil rfl
    have hnews : news = [] := List.eq_nil_of_length_eq_zero (by simpa using hn)
    subst hnews
    refine wpList_append_own_none hg s x t hop base e i size h1 h2 v n xs hs h hx (hK v w ?_ (World.grownBy.refl w _))
    rw [Nat.add_zero, List.append_nil]; exact h
  | some ad =>
    refine wpList_append_own w hg s x t hop base e i z size bytes h1 h2 h3 h4 h5 h6 h7 v n xs hs h ad m c news hx hn (hc ad rfl) h1c b1 b2 hbase ?_
    intro v' w' ho hgr _
    exact hK v' w' ho hgr

theorem ints_cells {w : World} {ao : Option Addr} {ls : List Int} (h : IntsAt w ao ls.length (getI ls)) : ∀ ad, ao = some ad → ∀ j u, (cellsI ls)[j]? = some u → w.cell? (ad.add j) = some u := by
  intro ad e j u hu
  obtain ⟨hj, rfl⟩ := intList_get _ _ _ _ hu
  obtain ⟨b, off, e2, hc⟩ := h j hj
  rw [e] at e2
  cases e2
  rw [Addr.add_lit]
  exact hc
theorem cellsI_length (ls : List Int) : (cellsI ls).length = ls.length := by unfold cellsI; exact intList_length _ _
theorem cellsI_one (ls : List Int) : ∀ u ∈ cellsI ls, u.oneCell' = true := intList_one _ _
theorem cellsI_append (a b : List Int) : cellsI (a ++ b) = cellsI a ++ cellsI b := by
  have key : ∀ l : List Int, cellsI l = l.map (fun x => .int .i64 x) := by
    intro l
    unfold cellsI intList getI
    apply List.ext_getElem?
    intro i
    by_cases hi : i < l.length
    · rw [List.getElem?_map, List.getElem?_range hi, List.getElem?_map, List.getElem?_eq_getElem hi]
      simp [List.getD_eq_getElem?_getD, List.getElem?_eq_getElem hi]
    · rw [List.getElem?_eq_none (by simpa using hi), List.getElem?_eq_none (by simpa using hi)]
  rw [key, key, key, List.map_append]
theorem own_legs {w : World} {base e c : Nat} {ao : Option Addr} {ls : List Int} {n : Nat} (hn : ls.length = n) (h : w.ownsRow base e 1 (.slice ao n c) n (cellsI ls)) : IntsAt w ao n (getI ls) := by
  subst hn
  exact own_ints h

end Go.Proofs.Ythcjfoaejomfaaa

namespace Go.Proofs.Ythcjfoaejomfaaa
open Go.RowKit

theorem oslo_short (id : Int) : ShortS ⟨id, ⟨#[79, 115, 108, 111]⟩, ⟨#[75, 105, 101, 108]⟩, 5, 9, noP, noP, 9⟩ 100 := ⟨by show (4 : Nat) ≤ 100; omega, by show (4 : Nat) ≤ 100; omega, by show (0 : Nat) ≤ 100; omega, by show (0 : Nat) ≤ 100; omega⟩
theorem sailingC (cb : Nat) (ao : Option Addr) (n c a : Nat) (id : Int) (w : World) (ha : a ≤ 100000000000000) (hn : n ≤ 1048576) (h : CurX w cb ao n c a) :
    Calls Try.prog 27 #[.pointer (some ⟨cb, 0, none⟩), .int .i64 id] w fun e w' => (∃ (x : Sail) (vl vc : Value), e = .returned (.agg #[.int .i64 x.id, .string x.fr, .string x.dst, .int .i64 x.dep, .int .i64 x.arr, vl, vc, .int .i64 x.most]) ∧ Hid (w'.ownsRow w.heap.size 70 2 vl x.la.n (pairRow x.la) ∧ w'.ownsRow w.heap.size 72 2 vc x.ca.n (pairRow x.ca) ∧ ShortS x 100)) ∧ CurX w' cb ao n c (a + 10000000000000) ∧ Kept w w' (fun b => b = cb) := by
  obtain ⟨p, s, hp, hc⟩ := h
  exact (sailing_any cb ao n c p s id w (by omega) hn hc).mono fun e w' ⟨h1, h2, h3⟩ => ⟨h1, h2.more (by omega), h3⟩

set_option maxHeartbeats 25600000 in
set_option maxRecDepth 100000 in
theorem timetable_any (cb : Nat) (ao : Option Addr) (n c a : Nat) (w : World) (ha : a ≤ 1000000000) (hn : n ≤ 1048576) (hcb : cb < w.heap.size) (HCL : Hid (CodeLow w ao n)) (h : CurX w cb ao n c a) :
    Calls Try.prog 10 #[.pointer (some ⟨cb, 0, none⟩)] w fun e w' => ∃ v N S L C, e = .returned v ∧ (0 < N ∧ N ≤ 7) ∧ Hid (LSit w w' cb ao n c 90000000000000 v N S L C) := by
  have h0 : LSit w w cb ao n c a (.slice none 0 0) 0 (fun _ => ⟨0, ⟨#[]⟩, ⟨#[]⟩, 0, 0, noP, noP, 0⟩) (fun _ => .slice none 0 0) (fun _ => .slice none 0 0) := ⟨h, Kept.refl _ _, LieSails.nil _ _ _ _ _, fun i hi => by omega⟩
  obtain ⟨S0, L0, C0, H0⟩ : ∃ S L C, Hid (LSit w w cb ao n c a (.slice none 0 0) 0 S L C) := ⟨_, _, _, h0⟩
  clear h0 h
  go_enter Try.func10, Try.ntmps10
  go_wp2_with fail
  refine (pickC cb ao n c a 5 _ (by omega) (by omega) (by omega) H0.out.cur).mono ?_
  rintro e w1 ⟨⟨n0, rfl, hn0⟩, hc1, hk1⟩
  have H1 : Hid _ := H0.out.on hcb hc1 hk1
  clear H0 hc1 hk1
  have hw0 : IntKind.i64.wrap (1 + (n0 : Int)) = ((1 + n0 : Nat) : Int) := by rw [IntKind.wrap_i64]; omega
  go_wp2_with fail
  refine (oneC cb ao n c (a + 1) 24 _ (by omega) (by omega) (by omega) H1.out.cur).mono ?_
  rintro e w2 ⟨⟨b, rfl⟩, hc2, hk2⟩
  have H2 : Hid _ := H1.out.on hcb hc2 hk2
  clear H1 hc2 hk2
  go_upto_if 11 with fail
  go_cut [5] (fun vn wx => ∃ m : Nat, vn = .int .i64 m ∧ (0 < m ∧ m ≤ 7) ∧ Hid (LSit w wx cb ao n c (a + 3) (.slice none 0 0) 0 S0 L0 C0))
  case first =>
    cases b with
    | true =>
      go_wp2_with fail
      refine (pickC cb ao n c (a + 1 + 1) 2 _ (by omega) (by omega) (by omega) H2.out.cur).mono ?_
      rintro e w3 ⟨⟨n1, rfl, hn1⟩, hc3, hk3⟩
      have H3 : Hid _ := H2.out.on hcb hc3 hk3
      have hw1 : IntKind.i64.wrap (6 + (n1 : Int)) = ((6 + n1 : Nat) : Int) := by rw [IntKind.wrap_i64]; omega
      clear H2 hc3 hk3
      go_wp2
      go_meet
      exact ⟨6 + n1, rfl, by omega, H3.out⟩
    | false =>
      go_wp2
      go_meet
      exact ⟨1 + n0, rfl, by omega, H2.out.more (by omega)⟩
  case rest =>
  obtain ⟨m0, rfl, hm0, H3⟩ := hcut
  clear H2 hw0
  obtain ⟨A0, hA0⟩ : ∃ A0, A0 = a + 3 := ⟨_, rfl⟩
  rw [← hA0] at H3
  have hA1 : A0 ≤ 2000000000 := by omega
  clear hA0
  go_wp2_with fail
  go_loopw [3, 4, 5] (fun vl vi vn wr => ∃ (k N : Nat) (idv : Int) (S : Nat → Sail) (L C : Nat → Value), vn = .int .i64 k ∧ vi = .int .i64 idv ∧ (0 < N + k ∧ N + k ≤ 7) ∧ Hid (LSit w wr cb ao n c (A0 + N * 10000000000100) vl N S L C)) (fun _ _ vn _ => (intOf vn).toNat)
  case atStart => exact ⟨m0, 0, 0, S0, L0, C0, rfl, rfl, by omega, H3.out.more (by omega)⟩
  case round =>
    clear H3
    clear S0 L0 C0
    obtain ⟨k, N, idv, S, L, C, rfl, rfl, hNk, HR⟩ := hrel
    obtain ⟨A, hA⟩ : ∃ A, A = A0 + N * 10000000000100 := ⟨_, rfl⟩
    rw [← hA] at HR
    have hA2 : A ≤ 80000000000000 := by omega
    obtain ⟨lo, lc, rfl, _⟩ := own_form HR.out.lie.row
    by_cases hk0 : 0 < k
    · have dk : decide ((0 : Int) < (k : Int)) = true := by simp; omega
      go_wp2_with fail
      refine (pickC cb ao n c A 3 _ (by omega) (by omega) (by omega) HR.out.cur).mono ?_
      rintro e w3 ⟨⟨r3, rfl, hr3⟩, hc3, hk3⟩
      have H3 : Hid _ := HR.out.on hcb hc3 hk3
      clear HR hc3 hk3
      go_wp2_with fail
      refine (sailingC cb ao n c (A + 1) _ _ (by omega) hn H3.out.cur).mono ?_
      rintro e w4 ⟨⟨x, vl, vc, rfl, HX⟩, hc4, hk4⟩
      obtain ⟨la, lac, rfl, _⟩ := own_form HX.out.1
      obtain ⟨ca, cac, rfl, _⟩ := own_form HX.out.2.1
      have H4 : Hid _ := H3.out.on hcb hc4 hk4
      have hs34 := H3.out.kept.size
      have HL4 : Hid (w4.ownsRow w.heap.size 70 2 (.slice la x.la.n lac) x.la.n (pairRow x.la) ∧ w4.ownsRow w.heap.size 72 2 (.slice ca x.ca.n cac) x.ca.n (pairRow x.ca) ∧ ShortS x 100) := ⟨own_base HX.out.1 hs34, own_base HX.out.2.1 hs34, HX.out.2.2⟩
      clear H3 hc4 hk4 HX hs34
      have hbx := heap_alloc_new w4 (.cells #[.int .i64 x.id, .string x.fr, .string x.dst, .int .i64 x.dep, .int .i64 x.arr, .slice la x.la.n lac, .slice ca x.ca.n cac, .int .i64 x.most] 33)
      have hpx : Below w4.heap.size w4 (w4.alloc (.cells #[.int .i64 x.id, .string x.fr, .string x.dst, .int .i64 x.dep, .int .i64 x.arr, .slice la x.la.n lac, .slice ca x.ca.n cac, .int .i64 x.most] 33)) := push (Below.refl _ _) _
      go_upto_region 10 with fail
      generalize w4.alloc (.cells #[.int .i64 x.id, .string x.fr, .string x.dst, .int .i64 x.dep, .int .i64 x.arr, .slice la x.la.n lac, .slice ca x.ca.n cac, .int .i64 x.most] 33) = w5 at hbx hpx ⊢
      have HB : Hid (BSit w w5 w4.heap.size cb ao n c (A + 1 + 10000000000000) (.slice lo N lc) N S L C x (.slice la x.la.n lac) (.slice ca x.ca.n cac)) := ⟨H4.out.below hpx, H4.out.kept.size, hbx, fun g hg => by have := (H4.out.lie.row.lt g hg).2; omega, own_below hpx HL4.out.1, own_below hpx HL4.out.2.1, HL4.out.2.2⟩
      clear H4 HL4 hbx hpx
      generalize w4.heap.size = xb at HB ⊢
      obtain ⟨B, hB⟩ : ∃ B, B = A + 1 + 10000000000000 := ⟨_, rfl⟩
      rw [← hB] at HB
      have hB2 : B ≤ 92000000000000 := by omega
      have hB3 : B = A0 + N * 10000000000100 + 10000000000001 := by omega
      clear hA2 hA hB
      have m0 := blk_cell HB.out.box 0 _ rfl
      have m1 := blk_cell HB.out.box 1 _ rfl
      have m2 := blk_cell HB.out.box 2 _ rfl
      have m3 := blk_cell HB.out.box 3 _ rfl
      have m4 := blk_cell HB.out.box 4 _ rfl
      have m5 := blk_cell HB.out.box 5 _ rfl
      have m6 := blk_cell HB.out.box 6 _ rfl
      have m7 := blk_cell HB.out.box 7 _ rfl
      go_cut [34] (fun v wx => ∃ b : Bool, v = .bool b ∧ Hid (BSit w wx xb cb ao n c (B + 1) (.slice lo N lc) N S L C x (.slice la x.la.n lac) (.slice ca x.ca.n cac)))
      case first =>
        go_wp2_with fail
        refine (specSailing_any _ _ _ _ _ _ _ _ _ _ _ _ x.la x.ca _ rfl rfl (by have := HB.out.sx.1; omega) (by have := HB.out.sx.2.1; omega) (by have := HB.out.sx.2.2.1; omega) (by have := HB.out.sx.2.2.2; omega) (pairs_of_own HB.out.la) (pairs_of_own HB.out.ca)).mono ?_
        rintro e w6 ⟨⟨g6, rfl, _⟩, hb6⟩
        have HB6 : Hid _ := HB.out.below hb6
        clear HB hb6 m0 m1 m2 m3 m4 m5 m6 m7
        cases g6 with
        | true =>
          go_wp2
          go_meet
          exact ⟨_, rfl, HB6.out.more (by omega)⟩
        | false =>
          go_wp2_with fail
          refine (oneC cb ao n c B 6 _ (by omega) (by omega) (by omega) HB6.out.l.cur).mono ?_
          rintro e w7 ⟨⟨b7, rfl⟩, hc7, hk7⟩
          have HB7 : Hid _ := HB6.out.on hcb hc7 hk7
          clear HB6 hc7 hk7
          go_wp2
          go_meet
          exact ⟨_, rfl, HB7.out⟩
      case rest =>
      obtain ⟨b8, rfl, HB8⟩ := hcut
      clear HB m0 m1 m2 m3 m4 m5 m6 m7
      go_upto_if 34 with fail
      go_cut [] (fun wx => ∃ y wl wc, Hid (BSit w wx xb cb ao n c (B + 1) (.slice lo N lc) N S L C y wl wc))
      case first =>
        cases b8 with
        | true =>
          have m0 := blk_cell HB8.out.box 0 _ rfl
          have m1 := blk_cell HB8.out.box 1 _ rfl
          have m2 := blk_cell HB8.out.box 2 _ rfl
          have m3 := blk_cell HB8.out.box 3 _ rfl
          have m4 := blk_cell HB8.out.box 4 _ rfl
          have m5 := blk_cell HB8.out.box 5 _ rfl
          have m6 := blk_cell HB8.out.box 6 _ rfl
          have m7 := blk_cell HB8.out.box 7 _ rfl
          have f0 := blk_free HB8.out.box 0
          have f1 := blk_free HB8.out.box 1
          have f2 := blk_free HB8.out.box 2
          have f3 := blk_free HB8.out.box 3
          have f4 := blk_free HB8.out.box 4
          have f5 := blk_free HB8.out.box 5
          have f6 := blk_free HB8.out.box 6
          have f7 := blk_free HB8.out.box 7
          go_wp2
          go_meet
          exact ⟨⟨_, ⟨#[79, 115, 108, 111]⟩, ⟨#[75, 105, 101, 108]⟩, 5, 9, noP, noP, 9⟩, _, _, HB8.out.whole hcb HCL.out rfl (show World.ownsRow _ _ _ 2 _ 0 [] from World.ownsRow_nil _ _ _ _) (show World.ownsRow _ _ _ 2 _ 0 [] from World.ownsRow_nil _ _ _ _) (oslo_short _)⟩
        | false =>
          go_wp2
          go_meet
          exact ⟨_, _, _, HB8.out⟩
      case rest =>
      obtain ⟨y, wl, wc', HY⟩ := hcut
      clear HB8
      go_upto_region 12 with fail
      go_cut [43] (fun v wx => ∃ b : Bool, v = .bool b ∧ (b = true → 0 < N) ∧ Hid (BSit w wx xb cb ao n c (B + 2) (.slice lo N lc) N S L C y wl wc'))
      case first =>
        by_cases hN0 : N = 0
        · have dN : decide ((0 : Int) < (N : Int)) = false := by simp; omega
          go_wp2
          go_meet
          exact ⟨false, rfl, fun e => (by cases e), HY.out.more (by omega)⟩
        · have dN : decide ((0 : Int) < (N : Int)) = true := by simp; omega
          go_wp2_with fail
          refine (oneC cb ao n c (B + 1) 2 _ (by omega) (by omega) (by omega) HY.out.l.cur).mono ?_
          rintro e w7 ⟨⟨b7, rfl⟩, hc7, hk7⟩
          have HB7 : Hid _ := HY.out.on hcb hc7 hk7
          clear HY hc7 hk7
          go_wp2
          go_meet
          exact ⟨_, rfl, fun _ => by omega, HB7.out⟩
      case rest =>
      obtain ⟨b9, rfl, hb9, HY9⟩ := hcut
      clear HY
      go_upto_if 43 with fail
      go_cut [] (fun wx => ∃ y wl wc, Hid (BSit w wx xb cb ao n c (B + 2) (.slice lo N lc) N S L C y wl wc))
      case first =>
        cases b9 with
        | false =>
          go_wp2
          go_meet
          exact ⟨_, _, _, HY9.out⟩
        | true =>
          obtain ⟨M, rfl⟩ : ∃ M, N = M + 1 := ⟨N - 1, by have := hb9 rfl; omega⟩
          obtain ⟨g, rfl, _, _⟩ := own_addr HY9.out.l.lie.row (by omega)
          have hwM : IntKind.i64.wrap ((((M + 1 : Nat)) : Int) - 1) = (M : Int) := by rw [IntKind.wrap_i64]; omega
          have hwM2 : IntKind.i64.wrap (M : Int) = (M : Int) := by rw [IntKind.wrap_i64]; omega
          have hwM3 : (0 : Int) ≤ (M : Int) := by omega
          have hwM4 : (M : Int) < (M : Int) + 1 := by omega
          have hsM := HY9.out.l.short M (by omega)
          clear hb9
          have m1 := blk_cell HY9.out.box 1 _ rfl
          have f1 := blk_free HY9.out.box 1
          have l2 := (own_cell HY9.out.l.lie.row (M * 8 + 2) (by omega) rfl).trans (congrArg some (sailCell_2 S L C M))
          have HY1 : Hid _ := HY9.out.fr hcb HCL.out (S M).dst hsM.2.1
          go_upto_region 14 with fail
          generalize World.setCell _ _ _ = v1 at HY1 ⊢
          obtain ⟨y1, hy1⟩ : ∃ z, z = { y with fr := (S M).dst } := ⟨_, rfl⟩
          rw [← hy1] at HY1
          clear HY9 hy1 m1 f1 l2
          have m3 := blk_cell HY1.out.box 3 _ rfl
          have f3 := blk_free HY1.out.box 3
          have l4 := (own_cell HY1.out.l.lie.row (M * 8 + 4) (by omega) rfl).trans (congrArg some (sailCell_4 S L C M))
          go_cut [] (fun wx => ∃ y wl wc, Hid (BSit w wx xb cb ao n c (B + 2) (.slice (some ⟨g, 0, none⟩) (M + 1) lc) (M + 1) S L C y wl wc))
          case first =>
            go_region
            all_goals
              go_wp2
              go_meet
              first | exact ⟨_, _, _, HY1.out.dep hcb HCL.out _⟩ | exact ⟨_, _, _, (HY1.out.dep hcb HCL.out _).below (Below.refl _ _).drew⟩
          case rest =>
          obtain ⟨y2, wl2, wc2, HY2⟩ := hcut
          clear HY1 m3 f3 l4
          have m4 := blk_cell HY2.out.box 4 _ rfl
          have f4 := blk_free HY2.out.box 4
          have l4 := (own_cell HY2.out.l.lie.row (M * 8 + 4) (by omega) rfl).trans (congrArg some (sailCell_4 S L C M))
          go_upto_region 15 with fail
          go_cut [] (fun wx => ∃ y wl wc, Hid (BSit w wx xb cb ao n c (B + 2) (.slice (some ⟨g, 0, none⟩) (M + 1) lc) (M + 1) S L C y wl wc))
          case first =>
            go_region
            all_goals
              go_wp2
              go_meet
              first | exact ⟨_, _, _, HY2.out.arr hcb HCL.out _⟩ | exact ⟨_, _, _, (HY2.out.arr hcb HCL.out _).below (Below.refl _ _).drew⟩
          case rest =>
          obtain ⟨y3, wl3, wc3, HY3⟩ := hcut
          clear HY2 m4 f4 l4
          have m1 := blk_cell HY3.out.box 1 _ rfl
          have f1 := blk_free HY3.out.box 1
          have m2 := blk_cell HY3.out.box 2 _ rfl
          have f2 := blk_free HY3.out.box 2
          have HY4 : Hid _ := HY3.out.to hcb HCL.out ⟨#[90, 117, 103]⟩ (by show (3 : Nat) ≤ 100; omega)
          go_wp2
          all_goals
            go_meet
            first | exact ⟨_, _, _, HY4.out⟩ | exact ⟨_, _, _, HY3.out⟩
      case rest =>
      obtain ⟨y9, wl9, wc9, HY9'⟩ := hcut
      clear HY9 hb9
      obtain ⟨wla, wlc, rfl, _⟩ := own_form HY9'.out.la
      obtain ⟨wca, wcc, rfl, _⟩ := own_form HY9'.out.ca
      have m0 := blk_cell HY9'.out.box 0 _ rfl
      have m1 := blk_cell HY9'.out.box 1 _ rfl
      have m2 := blk_cell HY9'.out.box 2 _ rfl
      have m3 := blk_cell HY9'.out.box 3 _ rfl
      have m4 := blk_cell HY9'.out.box 4 _ rfl
      have m5 := blk_cell HY9'.out.box 5 _ rfl
      have m6 := blk_cell HY9'.out.box 6 _ rfl
      have m7 := blk_cell HY9'.out.box 7 _ rfl
      obtain ⟨j0, ji, jz0, jz1, jz2⟩ := info_parts Try.infoSailing
      have HX : Hid (BSit w (wc.alloc (.cells #[.int .i64 y9.id, .string y9.fr, .string y9.dst, .int .i64 y9.dep, .int .i64 y9.arr, .slice wla y9.la.n wlc, .slice wca y9.ca.n wcc, .int .i64 y9.most] 33)) xb cb ao n c (B + 2) (.slice lo N lc) N S L C y9 (.slice wla y9.la.n wlc) (.slice wca y9.ca.n wcc)) := HY9'.out.below (push (Below.refl _ _) _)
      have hszX := HX.out.l.kept.size
      clear HY9'
      go_wp2_with (first | (at_builtin; refine wpList_append_any _ (by rfl) (.tmp 80) (.tmp 82) 23 (by rfl) w.heap.size 33 j0 (.agg #[.int .i64 0, .string ⟨#[]⟩, .string ⟨#[]⟩, .int .i64 0, .int .i64 0, .slice none 0 0, .slice none 0 0, .int .i64 0]) 8 112 Try.underlying23 ji jz0 jz1 jz2 rfl (by decide) _ N _ (by rfl) HX.out.l.lie.row (some ⟨wc.heap.size, 0, none⟩) 1 1 [.int .i64 y9.id, .string y9.fr, .string y9.dst, .int .i64 y9.dep, .int .i64 y9.arr, .slice wla y9.la.n wlc, .slice wca y9.ca.n wcc, .int .i64 y9.most] (by rfl) (fun h => by cases h) (by rfl) (fun ad h => by cases h; exact World.news_of_block (heap_alloc_new wc _)) (by intro u hu; simp only [List.mem_cons, List.not_mem_nil, or_false] at hu; rcases hu with rfl | rfl | rfl | rfl | rfl | rfl | rfl | rfl <;> rfl) (by unfold maxLen; omega) (by omega) hszX ?_; intro v9 w9 ho9 hg9; obtain ⟨a9, c9, rfl, _⟩ := own_form ho9))
      have HN : Hid _ := HX.out.snoc hcb HCL.out hg9 ho9
      go_roundw
      case rel => exact ⟨k - 1, N + 1, _, _, _, _, by go_num, rfl, by omega, HN.out.more (by omega)⟩
      case measure => simp [intOf]; omega
    · obtain rfl : k = 0 := by omega
      go_wp2
      exact bodyPost_ret (v := .slice lo N lc) (by simp [results, Try.results10, go_sem]) rfl ⟨_, N, S, L, C, rfl, by omega, HR.out.more (by omega)⟩

end Go.Proofs.Ythcjfoaejomfaaa
