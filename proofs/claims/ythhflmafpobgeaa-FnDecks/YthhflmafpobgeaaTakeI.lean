/-
  OWN TEXT: the contract of the program's TakeOff.
-/
import Derived.Test.YthhflmafpobgeaaDeckI
import Derived.Test.YthhflmafpobgeaaPlainP
import Derived.Test.YthhflmafpobgeaaConcatStay
namespace Go.Proofs.Ythhflmafpobgeaa
open Go.RowKit

set_option maxHeartbeats 3200000 in
set_option maxRecDepth 100000 in
theorem implTake_any (ao bo : Option Addr) (m mc n c : Nat) (p : Pairs) (S : Nat → Stay) (x : Int) (w : World) (hl : p.n = m) (hm : m ≤ 1048576) (hn : n ≤ 1048576) (hc : n ≤ c) (hx : PairsAt w ao p) (hz : StaysAt w bo n S) :
    Calls Try.prog 32 #[.slice ao m mc, .slice bo n c, .int .i64 x] w fun e w' => TakeRes w' w.heap.size 72 p n S x e ∧ Below w.heap.size w w' := by
  have HX : Hid (PairsAt w ao p) := hx
  have HZ : Hid (StaysAt w bo n S) := hz
  have HL : Hid (p.n = m) := hl
  clear hx hz hl
  go_enter Try.func32, Try.ntmps32
  go_wp2_with fail
  refine (implDeck_any ao bo m mc n c p S _ HL.out hm hn hc HX.out HZ.out).mono ?_
  rintro e w1 ⟨⟨q, rfl, hq⟩, hb1⟩
  cases q with
  | false =>
    have HD : Hid (¬ DeckI p n S) := fun h => by have := hq.2 h; cases this
    clear hq
    go_wp2
    exact bodyPost_ret (v := .tuple #[.slice none 0 0, .bool false]) (by simp [results, Try.results32, go_sem]) rfl ⟨takeRes_no (fun h => HD.out h.1), hb1⟩
  | true =>
    have HD : Hid (DeckI p n S) := hq.1 rfl
    clear hq
    go_wp2_with fail
    refine (stayOf_any bo n c S x _ hn (HZ.out.below hb1)).mono ?_
    rintro e w2 ⟨rfl, hb2⟩
    have bw2 := after hb1 hb2
    clear hb1 hb2
    by_cases hh : Has (whoS S) n x
    · obtain ⟨ea, hr⟩ := ixAns_yes hh
      have HH : Hid (Has (whoS S) n x) := hh
      rw [ea]
      obtain ⟨r, hr'⟩ : ∃ r, r = ixOf (whoS S) x n := ⟨_, rfl⟩
      rw [← hr'] at hr ⊢
      have HR : Hid (r = ixOf (whoS S) x n) := hr'
      obtain ⟨b, off, rfl, g0, _⟩ := HZ.out r hr
      clear hh ea hr' g0
      have HC : Hid (∀ lb w' ad cc j, j = n - (r + 1) → w'.heap[lb]? = some (.cells #[.slice (some ⟨b, off, none⟩) r c, .slice (some ad) j cc] 65 (0, 0)) → Below w.heap.size w w' → StaysAt w (some ad) j (fun i => S (r + 1 + i)) →
          Calls Try.prog 93 #[.slice (some ⟨lb, 0, none⟩) 2 2] w' fun e w'' => (∃ v, e = .returned v ∧ w''.ownsRow w'.heap.size 72 4 v (n - 1) (stayList (without S r) (n - 1))) ∧ Below w'.heap.size w' w'') := by
        intro lb w' ad cc j hj hlb hb hs
        subst hj
        have := concatStay lb (some ⟨b, off, none⟩) (some ad) r (n - (r + 1)) c cc S (fun i => S (r + 1 + i)) w' (by omega) (by omega) hlb ((HZ.out.below hb).upto (by omega)) (hs.below hb) (fun h => by cases h) (fun h => by cases h)
        rw [cat_without, show r + (n - (r + 1)) = n - 1 by omega] at this
        exact this
      have HT : Hid (StaysAt w (some ⟨b, off + (r + 1) * 4, none⟩) (n - (r + 1)) (fun i => S (r + 1 + i))) := by
        intro k hk
        obtain ⟨b', off', e, h0, h1, h2, h3⟩ := HZ.out (r + 1 + k) (by omega)
        simp only [Option.some.injEq, Addr.mk.injEq, and_true] at e
        obtain ⟨rfl, rfl⟩ := e
        refine ⟨b, off + (r + 1) * 4, rfl, ?_, ?_, ?_, ?_⟩
        · rw [show off + (r + 1) * 4 + k * 4 = off + (r + 1 + k) * 4 by omega]; exact h0
        · rw [show off + (r + 1) * 4 + k * 4 = off + (r + 1 + k) * 4 by omega]; exact h1
        · rw [show off + (r + 1) * 4 + k * 4 = off + (r + 1 + k) * 4 by omega]; exact h2
        · rw [show off + (r + 1) * 4 + k * 4 = off + (r + 1 + k) * 4 by omega]; exact h3
      have i1 : (0 : Int) ≤ (r : Int) := by omega
      have i2 : (r : Int) ≤ (c : Int) := by omega
      have i3 : (0 : Int) ≤ (r : Int) + 1 := by omega
      have i4 : (r : Int) + 1 ≤ (n : Int) := by omega
      have i5 : decide ((r : Int) < 0) = false := by simp
      have i6 : (n : Int) ≤ (c : Int) := by omega
      have HN : Hid (n ≤ c ∧ r < n) := ⟨hc, hr⟩
      have k1 : ((r : Int) + 1).toNat = r + 1 := by omega
      have k2 : IntKind.i64.wrap ((r : Int) + 1) = (r : Int) + 1 := by rw [IntKind.wrap_i64]; omega
      go_upto_region 6 with fail
      by_cases hcr : c = r + 1
      · subst hcr
        obtain rfl : n = r + 1 := by have := HN.out; omega
        have H0 : Hid (StaysAt w (some ⟨b, off, none⟩) 0 (fun i => S (r + 1 + i))) := fun k hk => absurd hk (Nat.not_lt_zero _)
        have HJ : Hid (0 = r + 1 - (r + 1)) := by show 0 = r + 1 - (r + 1); omega
        have HB : Hid (∀ o, Below w.heap.size w (w2.alloc o).drew) := fun o => (push bw2 o).drew
        go_region_with (first | (go_at_call 93; refine Calls.mono (HC.out _ _ _ _ 0 HJ.out (blk_drew (heap_alloc_new w2 _)) (HB.out _) H0.out) ?_; rintro e w3 ⟨⟨v, rfl, ho⟩, hb3⟩))
        go_wp2
        exact bodyPost_ret (v := .tuple #[v, .bool true]) (by simp [results, Try.results32, go_sem]) rfl ⟨takeRes_yes HD.out HH.out (by rw [← HR.out]; exact own_base ho (HB.out _).size), after (HB.out _) hb3⟩
      · have HJ : Hid (n - (r + 1) = n - (r + 1)) := rfl
        have hcr' : (c = r + 1) = False := eq_false hcr
        have HB : Hid (∀ o, Below w.heap.size w (w2.alloc o).drew) := fun o => (push bw2 o).drew
        go_region_with (first | (go_at_call 93; refine Calls.mono (HC.out _ _ _ _ _ HJ.out (blk_drew (heap_alloc_new w2 _)) (HB.out _) HT.out) ?_; rintro e w3 ⟨⟨v, rfl, ho⟩, hb3⟩))
        go_wp2
        exact bodyPost_ret (v := .tuple #[v, .bool true]) (by simp [results, Try.results32, go_sem]) rfl ⟨takeRes_yes HD.out HH.out (by rw [← HR.out]; exact own_base ho (HB.out _).size), after (HB.out _) hb3⟩
    · have ea := ixAns_no hh
      have HH : Hid (¬ Has (whoS S) n x) := hh
      rw [ea]
      clear hh
      go_wp2
      exact bodyPost_ret (v := .tuple #[.slice none 0 0, .bool false]) (by simp [results, Try.results32, go_sem]) rfl ⟨takeRes_no (fun h => HH.out h.2), bw2⟩

end Go.Proofs.Ythhflmafpobgeaa
