/-
  OWN TEXT: FirstI, InI.
-/
import Derived.Test.YthcjfoaejomfaaaRows
import Derived.Deep.RegionHeld3
import Derived.Deep.LoopGhost
import Derived.Deep.DeepCutAuto
import Derived.Test.YthcjfoaejomfaaaB17
import Derived.Test.YthcjfoaejomfaaaB19
import Derived.Test.YthcjfoaejomfaaaB20
import Derived.Test.YthcjfoaejomfaaaB10
namespace Go.Proofs.Ythcjfoaejomfaaa
open Go.RowKit

/-- What firstRoute answers. -/
def FirstOut (e : Ending) (w w' : World) (N : Nat) (S : Nat → Sail) (fr : ByteArray) (t0 : Int) (tt : ByteArray) : Prop :=
  ((∃ p ao c, Best N S fr t0 tt p ∧ e = .returned (.tuple #[.slice ao p.length c, .bool true]) ∧ w'.ownsRow w.heap.size 3 1 (.slice ao p.length c) p.length (cellsI (ids S p))) ∨
    ((∀ q, ¬ Goal N S fr t0 tt q) ∧ e = .returned (.tuple #[.slice none 0 0, .bool false]))) ∧ Below w.heap.size w w'

theorem catch_path {N : Nat} {S : Nat → Sail} {fr : ByteArray} {t0 : Int} {p : List Nat} {k : Nat} (hp : Path N S fr t0 p) : catchB (placeOf S fr p) (timeOf S t0 p) (S k).fr (S k).dep = true ∧ k < N ↔ Path N S fr t0 (p ++ [k]) := by
  rw [catchB_iff]
  exact ⟨fun h => .snoc hp h.2 h.1.1 h.1.2, fun h => ⟨⟨h.last.2.2.1, h.last.2.2.2⟩, h.last.2.1⟩⟩

theorem rt_box {w w' : World} {base B : Nat} {cs : Array Value} {r : Rt} (h : w.heap[B]? = some (.cells cs 50 (0, 0))) (hk : Kept w w' (fun b => b = B)) (hr : RtOk w base r) : RtOk w' base r := by
  refine ⟨hk.own hr.1 (fun g' hg' e => ?_), hr.2⟩
  rcases hr.1.2 with ⟨e1, _⟩ | ⟨g2, c2, cur, e1, _, hg2, _⟩
  · rw [e1] at hg'; simp [Value.ownBlock] at hg'
  · rw [e1] at hg'
    simp only [Value.ownBlock, Option.some.injEq] at hg'
    subst hg'
    rw [e, h] at hg2
    simp at hg2
theorem heap_box {w w' : World} {base B g n cap : Nat} {cs : Array Value} {H : Nat → Rt} (h : w.heap[B]? = some (.cells cs 50 (0, 0))) (hk : Kept w w' (fun b => b = B)) (hne : B ≠ g) (hh : HeapAt w base g n cap H) : HeapAt w' base g n cap H :=
  ⟨hk.own hh.1 (fun g' hg' e => by simp [Value.ownBlock] at hg'; omega), fun i hi => rt_box h hk (hh.2 i hi)⟩
/-- The routes that are put onto the heap, one for each sailing that is caught. -/
structure Inner (N : Nat) (S : Nat → Sail) (fr : ByteArray) (t0 : Int) (n : Nat) (H' : Nat → Rt) (p : List Nat) (K : Nat → Nat) (j n2 : Nat) (H2 : Nat → Rt) : Prop where
  old : ∀ i, i < n → ∃ x, x < n2 ∧ H2 x = H' i
  new : ∀ x, x < n2 → (∃ i, i < n ∧ H2 x = H' i) ∨ ∃ q, q < j ∧ Is N S fr t0 (H2 x) (p ++ [K q])
  has : ∀ q, q < j → ∃ x, x < n2 ∧ Is N S fr t0 (H2 x) (p ++ [K q])
theorem Inner.step {N : Nat} {S : Nat → Sail} {fr : ByteArray} {t0 : Int} {n : Nat} {H' : Nat → Rt} {p : List Nat} {K : Nat → Nat} {j n2 : Nat} {H2 H3 : Nat → Rt} {r : Rt} (h : Inner N S fr t0 n H' p K j n2 H2)
    (ht : ∀ f, tot f H3 (n2 + 1) = tot f H2 n2 + f r) (hr : Is N S fr t0 r (p ++ [K j])) : Inner N S fr t0 n H' p K (j + 1) (n2 + 1) H3 := by
  refine ⟨fun i hi => ?_, fun x hx => ?_, fun q hq => ?_⟩
  · obtain ⟨x, hx, e⟩ := h.old i hi
    obtain ⟨y, hy, e2⟩ := push_old ht x hx
    exact ⟨y, hy, e2.trans e⟩
  · rcases push_new ht x hx with e | ⟨i, hi, e⟩
    · exact .inr ⟨j, by omega, by rw [e]; exact hr⟩
    · rw [e]
      rcases h.new i hi with h1 | ⟨q, hq, h1⟩
      · exact .inl h1
      · exact .inr ⟨q, by omega, h1⟩
  · by_cases e : q = j
    · subst e
      obtain ⟨x, hx, e2⟩ := push_has ht
      exact ⟨x, hx, by rw [e2]; exact hr⟩
    · obtain ⟨x, hx, h1⟩ := h.has q (by omega)
      obtain ⟨y, hy, e2⟩ := push_old ht x hx
      exact ⟨y, hy, by rw [e2]; exact h1⟩

set_option maxHeartbeats 6400000 in
set_option maxRecDepth 100000 in
theorem first_any (b off N c : Nat) (S : Nat → Sail) (la ca : Nat → Option Addr) (lc cc : Nat → Nat) (fr tt : ByteArray) (t0 : Int) (w : World) (hN : N ≤ 6) (hx : SailsIn w b off N S la ca lc cc)
    (hr : Rising N S) (hd : ∀ k, k < N → 0 ≤ (S k).dep ∧ (S k).dep < (S k).arr ∧ (S k).arr ≤ 10000) (h0 : 0 ≤ t0) (h1 : t0 ≤ 10000) :
    Calls Try.prog 18 #[.slice (some ⟨b, off, none⟩) N c, .agg #[.slice none 0 0, .string fr, .int .i64 t0], .string tt] w fun e w' => FirstOut e w w' N S fr t0 tt := by
  have HR : Hid (Rising N S) := hr
  have HD : Hid (∀ k, k < N → 0 ≤ (S k).dep ∧ (S k).dep < (S k).arr ∧ (S k).arr ≤ 10000) := hd
  have HX : Hid (SailsIn w b off N S la ca lc cc) := hx
  clear hr hd hx
  have hbx : Below w.heap.size w ((w.alloc (.cells #[.slice none 0 0, .string fr, .int .i64 t0] 50)).alloc (.cells #[.slice none 0 0, .string fr, .int .i64 t0] 50)) := push (push (Below.refl _ _) _) _
  have hh0 : HeapAt ((w.alloc (.cells #[.slice none 0 0, .string fr, .int .i64 t0] 50)).alloc (.cells #[.slice none 0 0, .string fr, .int .i64 t0] 50)) w.heap.size (w.heap.size + 1) 1 1 (fun _ => ⟨.slice none 0 0, [], fr, t0⟩) := by
    refine ⟨⟨by simp [rtList], .inr ⟨w.heap.size + 1, 1, _, rfl, by omega, by simpa using heap_alloc_new (w.alloc _) _, Nat.le_refl _, by decide, rfl, by simp [rtList, List.range_succ, rtCell]⟩⟩, fun i hi => ⟨World.ownsRow_nil _ _ _ _, by simp, h0, h1⟩⟩
  have HH0 : Hid _ := hh0
  have HBX : Hid _ := hbx
  clear hh0 hbx
  go_enter Try.func18, Try.ntmps18
  go_wp2
  go_loopg [8, 9, 11] 343 (fun gh s8 _ _ wr => ∃ (g n cap : Nat) (H : Nat → Rt), s8 = .slice (some ⟨g, 0, none⟩) n cap ∧ gh = tot wt H n ∧ tot wt H n ≤ 343 ∧ HeapAt wr w.heap.size g n cap H ∧ Heap RBefR n H ∧ SearchH N S fr t0 tt n H ∧ Below w.heap.size w wr)
  case atStart => exact ⟨w.heap.size + 1, 1, 1, _, rfl, rfl, by simp [tot, wt], HH0.out, fun i i0 hi => by omega, ⟨fun i hi => ⟨[], .nil, by simp, rfl, rfl, rfl⟩, fun q hq => ⟨0, [], q, by omega, ⟨.nil, by simp, rfl, rfl, rfl⟩, by simp⟩⟩, HBX.out⟩
  case round =>
    obtain ⟨g, n', cap, H, rfl, rfl, hw343, hh, hheap, hs, hbel⟩ := hrel
    obtain ⟨wo, ewo⟩ : ∃ x, x = wr := ⟨_, rfl⟩
    subst ewo
    have HH : Hid (HeapAt wo w.heap.size g n' cap H) := hh
    have HP : Hid (Heap RBefR n' H) := hheap
    have HS : Hid (SearchH N S fr t0 tt n' H) := hs
    have hn343 : n' ≤ 343 := by have := tot_ge wt H wt_pos n'; omega
    have HW : Hid (tot wt H n' ≤ 343) := hw343
    clear hh hheap hs hw343 HH0 HBX
    cases n' with
    | zero =>
      go_wp2
      exact bodyPost_ret (v := .tuple #[.slice none 0 0, .bool false]) (by simp [results, Try.results18, go_sem]) rfl ⟨.inr ⟨searchH_end HS.out, rfl⟩, hbel⟩
    | succ n =>
      have d0 : decide ((0 : Int) < (n : Int) + 1) = true := decide_eq_true (by omega)
      have hgl := HH.out.lt
      go_wp2_with fail
      have hb1 := push (Below.refl _ wo) (.cells #[.slice none 0 0, .string ⟨#[]⟩, .int .i64 0] 50)
      have hbx1 := heap_alloc_new wo (.cells #[.slice none 0 0, .string ⟨#[]⟩, .int .i64 0] 50)
      have HH1 : Hid (HeapAt (wo.alloc (.cells #[.slice none 0 0, .string ⟨#[]⟩, .int .i64 0] 50)) w.heap.size g (n + 1) cap H) := HH.out.below hb1
      refine (pop_any w.heap.size g n cap H _ (by omega) HH1.out HP.out).mono ?_
      rintro e w2 ⟨rfl, H', hh2, hp2, ht2, hk2⟩
      obtain ⟨a0, c0, ea, hints0, hna⟩ := (HH.out.2 0 (by omega)).form
      obtain ⟨p, hisp⟩ := HS.out.is 0 (by omega)
      have IS : Hid (Is N S fr t0 (H 0) p) := hisp
      have EA : Hid ((H 0).v = .slice a0 (H 0).ls.length c0) := ea
      have RT2 : Hid (RtOk w2 w.heap.size (H 0)) := rt_kept HH1.out hk2 (HH1.out.2 0 (by omega))
      have HH2 : Hid (HeapAt w2 w.heap.size g n cap H') := hh2
      have HP2 : Hid (Heap RBefR n H') := hp2
      have HT2 : Hid (∀ f, tot f H' n + f (H 0) = tot f H (n + 1)) := ht2
      have hbx2 := hk2.blk hbx1 (by omega)
      have hbel2 : Below w.heap.size w w2 := Kept.below (push hbel _) (Nat.le_trans hbel.size (by simp)) hk2 (fun k hk => by omega)
      rw [ea]
      clear ea hh2 hp2 ht2 hk2 hisp hints0 HH1 hb1 hbx1
      have o0 := blk_cell hbx2 0 _ rfl
      have o1 := blk_cell hbx2 1 _ rfl
      have o2 := blk_cell hbx2 2 _ rfl
      have f0 := blk_free hbx2 0
      have f1 := blk_free hbx2 1
      have f2 := blk_free hbx2 2
      have K3 : Hid (Kept w2 (((w2.setCell ⟨wo.heap.size, 0, none⟩ (.slice a0 (H 0).ls.length c0)).setCell ⟨wo.heap.size, 1, none⟩ (.string (H 0).pl)).setCell ⟨wo.heap.size, 2, none⟩ (.int .i64 (H 0).t)) (fun b => b = wo.heap.size)) := set3_kept w2 wo.heap.size 0 _ _ _
      have B3 : Hid ((((w2.setCell ⟨wo.heap.size, 0, none⟩ (.slice a0 (H 0).ls.length c0)).setCell ⟨wo.heap.size, 1, none⟩ (.string (H 0).pl)).setCell ⟨wo.heap.size, 2, none⟩ (.int .i64 (H 0).t)).heap[wo.heap.size]? = some (.cells #[.slice a0 (H 0).ls.length c0, .string (H 0).pl, .int .i64 (H 0).t] 50 (0, 0))) := blk_set (blk_set (blk_set hbx2 0 _) 1 _) 2 _
      have HH3 : Hid (HeapAt (((w2.setCell ⟨wo.heap.size, 0, none⟩ (.slice a0 (H 0).ls.length c0)).setCell ⟨wo.heap.size, 1, none⟩ (.string (H 0).pl)).setCell ⟨wo.heap.size, 2, none⟩ (.int .i64 (H 0).t)) w.heap.size g n cap H') := heap_box hbx2 K3.out (by omega) HH2.out
      have RT3 : Hid (RtOk (((w2.setCell ⟨wo.heap.size, 0, none⟩ (.slice a0 (H 0).ls.length c0)).setCell ⟨wo.heap.size, 1, none⟩ (.string (H 0).pl)).setCell ⟨wo.heap.size, 2, none⟩ (.int .i64 (H 0).t)) w.heap.size (H 0)) := rt_box hbx2 K3.out RT2.out
      have hbel3 : Below w.heap.size w (((w2.setCell ⟨wo.heap.size, 0, none⟩ (.slice a0 (H 0).ls.length c0)).setCell ⟨wo.heap.size, 1, none⟩ (.string (H 0).pl)).setCell ⟨wo.heap.size, 2, none⟩ (.int .i64 (H 0).t)) := Kept.below hbel2 hbel2.size K3.out (fun k hk => by have := hbel.size; omega)
      go_upto_region 5 with fail
      generalize hW3 : ((w2.setCell ⟨wo.heap.size, 0, none⟩ (.slice a0 (H 0).ls.length c0)).setCell ⟨wo.heap.size, 1, none⟩ (.string (H 0).pl)).setCell ⟨wo.heap.size, 2, none⟩ (.int .i64 (H 0).t) = w3 at K3 B3 HH3 RT3 hbel3 ⊢
      clear hW3 K3 o0 o1 o2 f0 f1 f2 hbx2 HH2 RT2 hbel2
      have b0 := blk_cell B3.out 0 _ rfl
      have b1 := blk_cell B3.out 1 _ rfl
      have b2 := blk_cell B3.out 2 _ rfl
      have HLN : Hid ((H 0).ls.length = p.length) := by rw [IS.out.2.2.1, ids_length]; rfl
      by_cases htt : (H 0).pl = tt
      · have e1 : ((H 0).pl.toList == tt.toList) = true := bytes_eq.2 htt
        have HB : Hid (Best N S fr t0 tt p) := searchH_found (fun k hk => (HD.out k hk).2.1) HR.out HS.out HP.out IS.out (by rw [← IS.out.2.2.2.1]; exact htt)
        clear htt
        go_wp2
        refine bodyPost_ret (v := .tuple #[.slice a0 (H 0).ls.length c0, .bool true]) (by simp [results, Try.results18, go_sem]) rfl ⟨.inl ⟨p, a0, c0, HB.out, by rw [HLN.out], ?_⟩, hbel3⟩
        have := RT3.out.1
        rw [EA.out, HLN.out, IS.out.2.2.1] at this
        exact this
      · have e1 : ((H 0).pl.toList == tt.toList) = false := bytes_ne.2 htt
        have HPL : Hid (placeOf S fr p ≠ tt) := by rw [← IS.out.2.2.2.1]; exact htt
        clear htt
        by_cases h3 : (H 0).ls.length = 3
        · have e3 : (((H 0).ls.length : Int) == 3) = true := by simp; omega
          have HL3 : Hid (p.length = 3) := by rw [← HLN.out]; exact h3
          clear h3
          go_wp2
          go_roundg (tot wt H' n)
          case measure => have := HT2.out wt; have := wt_pos (H 0); omega
          case rel => exact ⟨g, n, cap, H', rfl, rfl, by have := HT2.out wt; have := HW.out; omega, HH3.out, HP2.out, searchH_next HR.out HS.out IS.out HPL.out (pop_old HT2.out) (fun x hx => by obtain ⟨i, hi, e⟩ := pop_new HT2.out x hx; exact .inl ⟨i, hi, e.symm⟩) (fun h => by have := HL3.out; omega), hbel3⟩
        · have e3 : (((H 0).ls.length : Int) == 3) = false := by simp; omega
          have hl3 : (H 0).ls.length < 3 := by have := IS.out.2.1; have := HLN.out; omega
          clear h3
          go_wp2_with fail
          refine (those_any b off N c S la ca lc cc a0 (H 0).ls.length c0 (H 0).pl (H 0).t _ (by omega) (HX.out.below hbel3)).mono ?_
          rintro e w4 ⟨ro, m, rc, K, rfl, hca, ho4, hb4⟩
          have HCA : Hid (Caught S (H 0).pl (H 0).t N m K) := hca
          have hmN : m ≤ N := hca.1
          have B4 : Hid (w4.heap[wo.heap.size]? = some (.cells #[.slice a0 (H 0).ls.length c0, .string (H 0).pl, .int .i64 (H 0).t] 50 (0, 0))) := blk_below B3.out hb4
          have HH4 : Hid (HeapAt w4 w.heap.size g n cap H') := HH3.out.below hb4
          have RT4 : Hid (RtOk w4 w.heap.size (H 0)) := RT3.out.below hb4
          have OW4 : Hid (w4.ownsRow 0 33 8 (.slice ro m rc) m ((List.range (m * 8)).map (rowOf S la ca lc cc K))) := own_base ho4 (Nat.zero_le _)
          have hbel4 := after hbel3 hb4
          have hgw : g ≠ wo.heap.size := by omega
          have HWT : Hid (wt (H 0) = 7 * 7 ^ (2 - (H 0).ls.length)) := by
            unfold wt Hid
            rw [show 3 - (H 0).ls.length = (2 - (H 0).ls.length) + 1 by omega, Nat.pow_succ, Nat.mul_comm]
          obtain ⟨W7, hW7⟩ : ∃ x, x = 7 ^ (2 - (H 0).ls.length) := ⟨_, rfl⟩
          have HW7 : Hid (W7 = 7 ^ (2 - (H 0).ls.length)) := hW7
          have h7 : 1 ≤ W7 := by rw [hW7]; exact Nat.one_le_pow _ _ (by decide)
          clear hW7 hca ho4 hb4 B3 HH3 RT3 hbel3 b0 b1 b2
          go_wp2
          go_loopw [8, 11, 37] (fun s8 _ i wr => ∃ (j g2 cap2 : Nat) (H2 : Nat → Rt), j ≤ m ∧ s8 = .slice (some ⟨g2, 0, none⟩) (n + j) cap2 ∧ i = .int .i64 j ∧ HeapAt wr w.heap.size g2 (n + j) cap2 H2 ∧ Heap RBefR (n + j) H2 ∧ Inner N S fr t0 n H' p K j (n + j) H2 ∧ tot wt H2 (n + j) = tot wt H' n + j * W7 ∧
            wr.heap[wo.heap.size]? = some (.cells #[.slice a0 (H 0).ls.length c0, .string (H 0).pl, .int .i64 (H 0).t] 50 (0, 0)) ∧ RtOk wr w.heap.size (H 0) ∧ wr.ownsRow 0 33 8 (.slice ro m rc) m ((List.range (m * 8)).map (rowOf S la ca lc cc K)) ∧ g2 ≠ wo.heap.size ∧ Below w.heap.size w wr) (fun _ _ i _ => m - (intOf i).toNat)
          case atStart => exact ⟨0, g, cap, H', Nat.zero_le _, rfl, rfl, HH4.out, HP2.out, ⟨fun i hi => ⟨i, hi, rfl⟩, fun x hx => .inl ⟨x, hx, rfl⟩, fun q hq => by omega⟩, by simp, B4.out, RT4.out, OW4.out, hgw, hbel4⟩
          case round =>
            obtain ⟨j, g2, cap2, H2, hjm, rfl, rfl, hh, hp, hin, htot, hbx, hrt, how, hg2, hbq⟩ := hrel
            have HHq : Hid (HeapAt wr w.heap.size g2 (n + j) cap2 H2) := hh
            have HPq : Hid (Heap RBefR (n + j) H2) := hp
            have HIN : Hid (Inner N S fr t0 n H' p K j (n + j) H2) := hin
            have HTQ : Hid (tot wt H2 (n + j) = tot wt H' n + j * W7) := htot
            have HRT : Hid (RtOk wr w.heap.size (H 0)) := hrt
            have OWq : Hid (wr.ownsRow 0 33 8 (.slice ro m rc) m ((List.range (m * 8)).map (rowOf S la ca lc cc K))) := how
            clear hh hp hin htot hrt how B4 HH4 RT4 OW4 hbel4 hgw
            by_cases hlt : j < m
            · obtain ⟨rg, rfl, _, hrg⟩ := own_addr OWq.out (by omega)
              have c0' : wr.cell? ⟨rg, j * 8, none⟩ = some (.int .i64 (S (K j)).id) := by rw [own_cell OWq.out (j * 8) (by omega) rfl]; unfold rowOf; rw [sailCell_0]
              have c1 : wr.cell? ⟨rg, j * 8 + 1, none⟩ = some (.string (S (K j)).fr) := by rw [own_cell OWq.out (j * 8 + 1) (by omega) rfl]; unfold rowOf; rw [sailCell_1]
              have c2 : wr.cell? ⟨rg, j * 8 + 2, none⟩ = some (.string (S (K j)).dst) := by rw [own_cell OWq.out (j * 8 + 2) (by omega) rfl]; unfold rowOf; rw [sailCell_2]
              have c3 : wr.cell? ⟨rg, j * 8 + 3, none⟩ = some (.int .i64 (S (K j)).dep) := by rw [own_cell OWq.out (j * 8 + 3) (by omega) rfl]; unfold rowOf; rw [sailCell_3]
              have c4 : wr.cell? ⟨rg, j * 8 + 4, none⟩ = some (.int .i64 (S (K j)).arr) := by rw [own_cell OWq.out (j * 8 + 4) (by omega) rfl]; unfold rowOf; rw [sailCell_4]
              have c5' : wr.cell? ⟨rg, j * 8 + 5, none⟩ = some (.slice (la (K j)) (S (K j)).la.n (lc (K j))) := by rw [own_cell OWq.out (j * 8 + 5) (by omega) rfl]; unfold rowOf; rw [sailCell_5]
              have c6 : wr.cell? ⟨rg, j * 8 + 6, none⟩ = some (.slice (ca (K j)) (S (K j)).ca.n (cc (K j))) := by rw [own_cell OWq.out (j * 8 + 6) (by omega) rfl]; unfold rowOf; rw [sailCell_6]
              have c7 : wr.cell? ⟨rg, j * 8 + 7, none⟩ = some (.int .i64 (S (K j)).most) := by rw [own_cell OWq.out (j * 8 + 7) (by omega) rfl]; unfold rowOf; rw [sailCell_7]
              have hkj := HCA.out.2.1 j hlt
              have HKJ : Hid (K j < N ∧ catchB (H 0).pl (H 0).t (S (K j)).fr (S (K j)).dep = true) := hkj
              have hwo : wo.heap.size < wr.heap.size := blk_lt hbx
              have b0 := blk_cell hbx 0 _ rfl
              have b1 := blk_cell hbx 1 _ rfl
              have b2 := blk_cell hbx 2 _ rfl
              have hb5 := push (Below.refl _ wr) (.cells #[.int .i64 (S (K j)).id, .string (S (K j)).fr, .string (S (K j)).dst, .int .i64 (S (K j)).dep, .int .i64 (S (K j)).arr, .slice (la (K j)) (S (K j)).la.n (lc (K j)), .slice (ca (K j)) (S (K j)).ca.n (cc (K j)), .int .i64 (S (K j)).most] 33)
              obtain ⟨a0', c0'', ea', hints, _⟩ := (HRT.out.below hb5).form
              rw [EA.out] at ea'
              simp only [Value.slice.injEq, true_and] at ea'
              obtain ⟨rfl, rfl⟩ := ea'
              have HINT : Hid _ := hints
              clear hints hkj
              go_wp2_with fail
              refine Calls.mono (with_any a0 (H 0).ls.length c0 (H 0).ls (H 0).pl (H 0).t (S (K j)).id (S (K j)).dep (S (K j)).arr (S (K j)).most (S (K j)).fr (S (K j)).dst _ _ _ _ _ _ _ rfl (by omega) HINT.out hna) ?_
              rintro e w5 ⟨ao5, c5, rfl, ho5, hb6⟩
              have hb7 := after hb5 hb6
              have hbel5 := after hbq hb7
              have HH5 : Hid (HeapAt w5 w.heap.size g2 (n + j) cap2 H2) := HHq.out.below hb7
              have RT5 : Hid (RtOk w5 w.heap.size ⟨.slice ao5 ((H 0).ls.length + 1) c5, (H 0).ls ++ [(S (K j)).id], (S (K j)).dst, (S (K j)).arr⟩) := by
                refine ⟨?_, ?_, ?_, ?_⟩
                · have e := own_base ho5 (show w.heap.size ≤ _ from Nat.le_trans hbq.size hb5.size)
                  show w5.ownsRow w.heap.size _ 1 (.slice ao5 ((H 0).ls.length + 1) c5) ((H 0).ls ++ [(S (K j)).id]).length (cellsI ((H 0).ls ++ [(S (K j)).id]))
                  rw [List.length_append]
                  exact e
                · show ((H 0).ls ++ [(S (K j)).id]).length ≤ 3
                  rw [List.length_append]
                  show (H 0).ls.length + 1 ≤ 3
                  omega
                · have := HD.out (K j) HKJ.out.1; show 0 ≤ (S (K j)).arr; omega
                · have := HD.out (K j) HKJ.out.1; show (S (K j)).arr ≤ 10000; omega
              have RH5 : Hid (RtOk w5 w.heap.size (H 0)) := HRT.out.below hb7
              have B5 : Hid (w5.heap[wo.heap.size]? = some (.cells #[.slice a0 (H 0).ls.length c0, .string (H 0).pl, .int .i64 (H 0).t] 50 (0, 0))) := blk_below hbx hb7
              have OW5 : Hid (w5.ownsRow 0 33 8 (.slice (some ⟨rg, 0, none⟩) m rc) m ((List.range (m * 8)).map (rowOf S la ca lc cc K))) := own_below hb7 OWq.out
              clear ho5 hb6 hb7 hb5 b0 b1 b2 c0' c1 c2 c3 c4 c5' c6 c7 HINT HRT OWq HHq hbx hbq
              go_wp2_with fail
              refine Calls.mono (push_any w.heap.size g2 (n + j) cap2 H2 ⟨.slice ao5 ((H 0).ls.length + 1) c5, (H 0).ls ++ [(S (K j)).id], (S (K j)).dst, (S (K j)).arr⟩ _ (by omega) HH5.out HPq.out RT5.out) ?_
              rintro e w6 ⟨g6, cap6, H6, rfl, hh6, hp6, ht6, hk6, hg6⟩
              have HH6 : Hid (HeapAt w6 w.heap.size g6 (n + j + 1) cap6 H6) := hh6
              have HP6 : Hid (Heap RBefR (n + j + 1) H6) := hp6
              have HT6 : Hid (∀ f, tot f H6 (n + j + 1) = tot f H2 (n + j) + f ⟨.slice ao5 ((H 0).ls.length + 1) c5, (H 0).ls ++ [(S (K j)).id], (S (K j)).dst, (S (K j)).arr⟩) := ht6
              have B6 : Hid (w6.heap[wo.heap.size]? = some (.cells #[.slice a0 (H 0).ls.length c0, .string (H 0).pl, .int .i64 (H 0).t] 50 (0, 0))) := hk6.blk B5.out (fun h => hg2 h.symm)
              have RH6 : Hid (RtOk w6 w.heap.size (H 0)) := rt_kept HH5.out hk6 RH5.out
              have OW6 : Hid (w6.ownsRow 0 33 8 (.slice (some ⟨rg, 0, none⟩) m rc) m ((List.range (m * 8)).map (rowOf S la ca lc cc K))) := hk6.own OW5.out (fun g' hg' e => own_apart OW5.out HH5.out.1 (by decide) g' hg' (by simp [Value.ownBlock, e]))
              have hbel6 : Below w.heap.size w w6 := Kept.below hbel5 hbel5.size hk6 (fun k hk => by have := HH5.out.lt; omega)
              have hg6' : g6 ≠ wo.heap.size := by have := blk_lt B5.out; omega
              clear hh6 hp6 ht6 hk6 hg6 HH5 RT5 RH5 B5 OW5 hbel5
              go_wp2
              go_roundw
              case rel =>
                refine ⟨j + 1, g6, cap6, H6, by omega, rfl, by go_num, HH6.out, HP6.out, HIN.out.step HT6.out ?_, ?_, B6.out, RH6.out, OW6.out, hg6', hbel6⟩
                · have hpath := (catch_path IS.out.1 (k := K j)).1 ⟨by rw [← IS.out.2.2.2.1, ← IS.out.2.2.2.2]; exact HKJ.out.2, HKJ.out.1⟩
                  refine ⟨hpath, ?_, ?_, ?_, ?_⟩
                  · rw [List.length_append]; have := HLN.out; show p.length + 1 ≤ 3; omega
                  · show (H 0).ls ++ [(S (K j)).id] = _; rw [ids_snoc, IS.out.2.2.1]
                  · exact (placeOf_snoc _ _ _ _).symm
                  · exact (timeOf_snoc _ _ _ _).symm
                · have h1 := HT6.out wt
                  have h2 := HTQ.out
                  have h3 : wt ⟨.slice ao5 ((H 0).ls.length + 1) c5, (H 0).ls ++ [(S (K j)).id], (S (K j)).dst, (S (K j)).arr⟩ = W7 := by
                    rw [HW7.out]
                    unfold wt
                    simp only [List.length_append, List.length_singleton]
                    congr 1
                    omega
                  rw [h3, h2] at h1
                  show tot wt H6 (n + j + 1) = _
                  rw [h1, Nat.add_mul]
                  omega
              case measure => simp [intOf]; omega
            · obtain rfl : j = m := by omega
              go_wp2
              go_roundg (tot wt H2 (n + j))
              case measure =>
                have h1 := HT2.out wt
                have h2 := HTQ.out
                have h3 := HWT.out
                rw [← HW7.out] at h3
                have h4 : j * W7 ≤ 6 * W7 := Nat.mul_le_mul_right _ (by omega)
                omega
              case rel =>
                refine ⟨g2, n + j, cap2, H2, rfl, rfl, ?_, HHq.out, HPq.out, searchH_next HR.out HS.out IS.out HPL.out ?_ ?_ ?_, hbq⟩
                · have h1 := HT2.out wt
                  have h2 := HTQ.out
                  have h3 := HWT.out
                  have h5 := HW.out
                  rw [← HW7.out] at h3
                  have h4 : j * W7 ≤ 6 * W7 := Nat.mul_le_mul_right _ (by omega)
                  omega
                · intro i hi
                  rcases pop_old HT2.out i hi with h | ⟨x, hx, e⟩
                  · exact .inl h
                  · obtain ⟨y, hy, e2⟩ := HIN.out.old x hx
                    exact .inr ⟨y, hy, e2.trans e⟩
                · intro x hx
                  rcases HIN.out.new x hx with ⟨i, hi, e⟩ | ⟨q, _, h⟩
                  · obtain ⟨i2, hi2, e2⟩ := pop_new HT2.out i hi
                    exact .inl ⟨i2, hi2, e.trans e2.symm⟩
                  · exact .inr ⟨K q, h⟩
                · intro _ k hk
                  have hc := (catch_path IS.out.1 (k := k)).2 hk
                  rw [← IS.out.2.2.2.1, ← IS.out.2.2.2.2] at hc
                  obtain ⟨q, hq, e⟩ := HCA.out.2.2 k hc.2 hc.1
                  obtain ⟨x, hx, h⟩ := HIN.out.has q hq
                  exact ⟨x, hx, by rw [← e]; exact h⟩

end Go.Proofs.Ythcjfoaejomfaaa

namespace Go.Proofs.Ythcjfoaejomfaaa
open Go.RowKit

theorem within_yes (x lo hi : Int) (w : World) (h : In x lo hi) :
    Calls Try.prog 17 #[.int .i64 x, .int .i64 lo, .int .i64 hi] w fun e w' => e = .returned (.bool true) ∧ w' = w := by
  have e1 : decide (lo ≤ x) = true := by simpa using h.1
  have e2 : decide (x ≤ hi) = true := by simpa using h.2
  clear h
  go_enter Try.func17, Try.ntmps17
  go_wp2
  go_ret
  exact ⟨rfl, rfl⟩
theorem within_no (x lo hi : Int) (w : World) (h : ¬ In x lo hi) :
    Calls Try.prog 17 #[.int .i64 x, .int .i64 lo, .int .i64 hi] w fun e w' => e = .returned (.bool false) ∧ w' = w := by
  by_cases h1 : lo ≤ x
  · have e1 : decide (lo ≤ x) = true := by simpa using h1
    have e2 : decide (x ≤ hi) = false := by simp; exact Int.not_le.1 (fun h2 => h ⟨h1, h2⟩)
    clear h h1
    go_enter Try.func17, Try.ntmps17
    go_wp2
    go_ret
    exact ⟨rfl, rfl⟩
  · have e1 : decide (lo ≤ x) = false := by simpa using h1
    clear h h1
    go_enter Try.func17, Try.ntmps17
    go_wp2
    go_ret
    exact ⟨rfl, rfl⟩
/-- isWithin in one word: it answers whether x lies there, and the world is as it was. -/
theorem within_is (x lo hi : Int) (w : World) :
    Calls Try.prog 17 #[.int .i64 x, .int .i64 lo, .int .i64 hi] w fun e w' => e = .returned (.bool (decide (In x lo hi))) ∧ w' = w := by
  by_cases h : In x lo hi
  · rw [decide_eq_true h]; exact within_yes x lo hi w h
  · rw [decide_eq_false h]; exact within_no x lo hi w h

end Go.Proofs.Ythcjfoaejomfaaa
