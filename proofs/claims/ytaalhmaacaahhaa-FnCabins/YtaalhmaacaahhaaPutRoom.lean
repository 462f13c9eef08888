/-
  OWN TEXT: the contract of the program's putBehind at rooms.
-/
import Derived.Test.YtaalhmaacaahhaaKitRoom
import Derived.Test.YtaalhmaacaahhaaInfoRoom
import Derived.Test.YtaalhmaacaahhaaKitB
import Derived.Test.YtaalhmaacaahhaaKitCp
import Derived.Deep.DeepCutAuto
namespace Go.Proofs.Ytaalhmaacaahhaa
open Go.RowKit

set_option maxHeartbeats 3200000 in
set_option maxRecDepth 100000 in
theorem putRoom_any (bo : Option Addr) (n c : Nat) (S : Nat → Room) (r : Room) (w : World) (hn : n ≤ 1048576) (hz : RoomsAt w bo n S) (hnil : bo = none → n = 0 ∧ c = 0) :
    Calls Try.prog 161 #[.slice bo n c, .agg #[.int .i64 r.who, .int .i64 r.cab, .int .i64 r.many, .bool r.all]] w fun e w' => (∃ v, e = .returned v ∧ w'.ownsRow w.heap.size 174 4 v (n + 1) (roomList (roomCat S n (fun _ => r)) (n + 1))) ∧ Below w.heap.size w w' := by
  obtain ⟨j0, ji, jz0, jz1, jz2⟩ := info_parts Try.infoRoom
  have HZ : Hid (RoomsAt w bo n S) := hz
  have HNI : Hid (bo = none → n = 0 ∧ c = 0) := hnil
  clear hz hnil
  have hwr : IntKind.i64.wrap ((n : Int) + 1) = ((n + 1 : Nat) : Int) := by rw [IntKind.wrap_i64]; omega
  have hinf : (Try.prog.info? 174).map (·.size) = some 4 := by rw [ji]; simp [jz1]
  have hb0 := push (Below.refl _ w) (.cells #[.int .i64 r.who, .int .i64 r.cab, .int .i64 r.many, .bool r.all] 174)
  have r0 := heap_alloc_new w (.cells #[.int .i64 r.who, .int .i64 r.cab, .int .i64 r.many, .bool r.all] 174)
  go_enter Try.func161, Try.ntmps161
  go_upto_region 2 with (first | (at_make; refine wpList_make_full _ rfl _ _ 78 rfl w.heap.size 174 j0 _ 4 Try.underlying78 ji jz0 jz1 .i64 .i64 _ _ (n + 1) rfl rfl (by simp) (by simp) (by rw [jz2]; omega) (by unfold maxLen; omega) (by simp) ?_; intro w1 hown1 hgrow1))
  have hb1 : Below w.heap.size w w1 := hb0.grown hgrow1 (by simp) (fun j hj => by cases hj)
  have r1 := grown_blk hgrow1 r0 (by simp)
  obtain ⟨cur, hcur, hsz⟩ := own_row hown1
  have HC : Hid (∀ ad, bo = some ad → ∀ j u, (roomList S n)[j]? = some u → w1.cell? (ad.add j) = some u) := rooms_cells (HZ.out.below hb1)
  have HR1 : Hid (w1.heap[w.heap.size]? = some (.cells #[.int .i64 r.who, .int .i64 r.cab, .int .i64 r.many, .bool r.all] 174 (0, 0))) := r1

  have HB1 : Hid (Below w.heap.size w w1) := hb1
  clear hown1 hgrow1 r0 hb0 r1 hb1
  rw [World.size_alloc] at hcur
  obtain ⟨w2, hrun, hr2, hb2⟩ := copy_k (P := Try.prog) w1 78 78 174 (w.heap.size + 1) (n + 1) (n + 1) bo n c cur 174 (roomList S n) 4 Try.underlying78 hinf hcur (by omega) (roomList_length _ _) HNI.out HC.out (by rw [roomList_length, hsz]; omega) (roomList_one _ _)
  have rw2 := row_of_blk hr2 (N := (n + 1) * 4) (by simp [roomList_length, hsz]; omega)
  have bx2 : w2.heap[w.heap.size]? = some (.cells #[.int .i64 r.who, .int .i64 r.cab, .int .i64 r.many, .bool r.all] 174 (0, 0)) := (hb2.block _ (by omega)).trans HR1.out
  have o0 := blk_cell bx2 0 _ rfl
  have o1 := blk_cell bx2 1 _ rfl
  have o2 := blk_cell bx2 2 _ rfl
  have o3 := blk_cell bx2 3 _ rfl
  have q0 := rw2.cell (i := n * 4) (by omega)
  have q1 := rw2.cell (i := n * 4 + 1) (by omega)
  have q2 := rw2.cell (i := n * 4 + 2) (by omega)
  have q3 := rw2.cell (i := n * 4 + 3) (by omega)
  have f0 := rw2.frozen (n * 4)
  have f1 := rw2.frozen (n * 4 + 1)
  have f2 := rw2.frozen (n * 4 + 2)
  have f3 := rw2.frozen (n * 4 + 3)
  have i1 : (0 : Int) ≤ (n : Int) := by omega
  have i2 : (n : Int) < ((n + 1 : Nat) : Int) := by omega
  have HB2 : Hid (Below w.heap.size w w2) := HB1.out.trans (hb2.mono (by omega))
  have HRW : Hid (w2.rowIs (w.heap.size + 1) 174 ((n + 1) * 4) (fun j => (roomList S n ++ cur.toList.drop (roomList S n).length).getD j (.bool false))) := rw2
  clear hr2 hb2 rw2 bx2 hcur
  generalize List.getD (roomList S n ++ cur.toList.drop (roomList S n).length) (n * 4) (.bool false) = u0 at q0
  generalize List.getD (roomList S n ++ cur.toList.drop (roomList S n).length) (n * 4 + 1) (.bool false) = u1 at q1
  generalize List.getD (roomList S n ++ cur.toList.drop (roomList S n).length) (n * 4 + 2) (.bool false) = u2 at q2
  generalize List.getD (roomList S n ++ cur.toList.drop (roomList S n).length) (n * 4 + 3) (.bool false) = u3 at q3
  have HF : Hid (((((w2.setCell ⟨w.heap.size + 1, n * 4, none⟩ (.int .i64 r.who)).setCell ⟨w.heap.size + 1, n * 4 + 1, none⟩ (.int .i64 r.cab)).setCell ⟨w.heap.size + 1, n * 4 + 2, none⟩ (.int .i64 r.many)).setCell ⟨w.heap.size + 1, n * 4 + 3, none⟩ (.bool r.all)).rowIs (w.heap.size + 1) 174 ((n + 1) * 4) (roomCell (roomCat S n (fun _ => r)))) := by
    refine ((((HRW.out.set (n * 4) _).set (n * 4 + 1) _).set (n * 4 + 2) _).set (n * 4 + 3) _).congr (fun j hj => ?_)
    have hn' : roomCat S n (fun _ => r) n = r := by unfold roomCat; rw [if_neg (Nat.lt_irrefl _)]
    by_cases h3 : j = n * 4 + 3
    · subst h3; rw [if_pos rfl, roomCell_3, hn']
    rw [if_neg h3]
    by_cases h2 : j = n * 4 + 2
    · subst h2; rw [if_pos rfl, roomCell_2, hn']
    rw [if_neg h2]
    by_cases h1 : j = n * 4 + 1
    · subst h1; rw [if_pos rfl, roomCell_1, hn']
    rw [if_neg h1]
    by_cases h0 : j = n * 4
    · subst h0; rw [if_pos rfl, roomCell_0, hn']
    rw [if_neg h0]
    have hlt : j < (roomList S n).length := by rw [roomList_length]; omega
    rw [List.getD_eq_getElem?_getD, List.getElem?_append_left hlt, List.getElem?_eq_getElem hlt, Option.getD_some]
    have := roomList_get (List.getElem?_eq_getElem hlt)
    rw [this.2]
    unfold roomCell roomCat
    rw [if_pos (show j / 4 < n by omega)]
  go_wp2
  go_ret
  exact ⟨⟨_, rfl, own_of_row HF.out (by omega) (by unfold maxLen; omega)⟩, (((HB2.out.setCell (by show w.heap.size ≤ w.heap.size + 1; omega) _).setCell (by show w.heap.size ≤ w.heap.size + 1; omega) _).setCell (by show w.heap.size ≤ w.heap.size + 1; omega) _).setCell (by show w.heap.size ≤ w.heap.size + 1; omega) _⟩

end Go.Proofs.Ytaalhmaacaahhaa
