/-
  OWN TEXT: the walk of laws.FnExactPutRecord: it returns true, and nothing that was there is written.
-/
import Derived.Test.YteniifnhbogbkaeSpecPut
import Derived.Test.YteniifnhbogbkaeImplPut
import Derived.Test.YteniifnhbogbkaeArena
import Derived.Test.YteniifnhbogbkaeMarkSlots
namespace Go.Proofs.Yteniifnhbogbkae
open Go.RowKit

theorem own_row1 {w : World} {g e m base : Nat} {f : Nat → Value} (h : w.rowIs g e m f) (hb : base ≤ g) (hm : m ≤ maxLen) : w.ownsRow base e 1 (.slice (some ⟨g, 0, none⟩) m m) m ((List.range m).map f) := by
  have := own_of_row (size := 1) (n := m) (base := base) (by rw [Nat.mul_one]; exact h) hb hm
  rw [Nat.mul_one] at this
  exact this

set_option maxHeartbeats 400000 in
theorem eqHandle_same (x a : Int) (w : World) : Calls Try.prog 18 #[.agg #[.int .i64 x, .int .i64 a], .agg #[.int .i64 x, .int .i64 a]] w fun e w' => e = .returned (.bool true) ∧ Below w.heap.size w w' := by
  go_enter Try.func18, Try.ntmps18
  go_wp2
  go_ret
  exact ⟨rfl, push (push (Below.refl _ _) _) _⟩

set_option maxHeartbeats 6400000 in
set_option maxRecDepth 100000 in
theorem lawPutRecord (ao bo : Option Addr) (n m c1 c2 : Nat) (A : Nat → Int) (U : Nat → Bool) (V F : Nat → Int) (u : Int) (w : World) (hn : n ≤ 1000000000000000) (hm : m ≤ 1000000000000000)
    (hx : SlotsAt w ao n A U V) (hy : IntsAt w bo m F) :
    Calls Try.prog 5 #[.agg #[.slice ao n c1, .slice bo m c2], .int .i64 u] w fun e w' => e = .returned (.bool true) ∧ Below w.heap.size w w' := by
  have h0 : Below w.heap.size w (w.alloc (.cells #[.slice ao n c1, .slice bo m c2] 34)) := push (Below.refl _ _) _
  have hA0 := heap_alloc_new w (.cells #[.slice ao n c1, .slice bo m c2] 34)
  by_cases hs : n + m ≤ 1048576
  · go_enter Try.func5, Try.ntmps5
    go_wp2_with fail
    refine (szArena_fits ao bo n m c1 c2 _ _ (by omega) (by omega)).mono ?_
    rintro e w1 ⟨rfl, hb1⟩
    have bw_1 := after h0 hb1
    have A_2 := blk_below hA0 hb1
    clear h0 hA0
    clear hb1
    have q_3 := blk_cell A_2 0 _ rfl
    have q_4 := blk_cell A_2 1 _ rfl
    go_wp2_with fail
    refine (toArena_any ao bo n m c1 c2 A U V F _ (by omega) (by omega) (hx.below bw_1) (hy.below bw_1)).mono ?_
    rintro e w2 ⟨g2, h2, rfl, _, _, _, hr2, hf2, hb2⟩
    have bw_5 := after bw_1 hb2
    have A_6 := blk_below A_2 hb2
    clear bw_1 A_2
    clear hb2
    clear q_3 q_4
    go_wp2_with fail
    refine (specPut_any _ _ n m n m A U V F u _ (by omega) (by omega) (Nat.le_refl _) (by omega) (by intro h; cases h) (by intro h; cases h) (SlotsAt.of_row hr2) (IntsAt.of_row hf2)).mono ?_
    rintro e w4 ⟨aw, bw, ew, fw, o, rfl, hW4, hans, hb4⟩
    have bw_7 := after bw_5 hb4
    have A_8 := blk_below A_6 hb4
    clear bw_5 A_6
    have hN4 : w.heap.size < w4.heap.size := blk_lt A_8
    have hsz := put_size hans
    have HAN : Hid (AnswersH (Good n m A U V F) (putOut n m A U V F u) o) := hans
    have rWa := hW4.1
    have rWb := hW4.2
    clear hr2 hf2 hW4 hans hb4
    have bw_9 := push bw_7 (.cells #[.slice aw o.1.n ew, .slice bw o.1.m fw] 39)
    have A_10 := blk_alloc A_8 (.cells #[.slice aw o.1.n ew, .slice bw o.1.m fw] 39)
    have rW1_11 := rWa.alloc (.cells #[.slice aw o.1.n ew, .slice bw o.1.m fw] 39)
    have rW2_12 := rWb.alloc (.cells #[.slice aw o.1.n ew, .slice bw o.1.m fw] 39)
    clear bw_7 A_8 rWa rWb
    have W_13 := heap_alloc_new w4 (.cells #[.slice aw o.1.n ew, .slice bw o.1.m fw] 39)
    have hsz4 : (w4.alloc (.cells #[.slice aw o.1.n ew, .slice bw o.1.m fw] 39)).heap.size = w4.heap.size + 1 := by simp
    have bw_14 := push bw_9 (.cells #[.int .i64 o.2.1, .int .i64 o.2.2] 44)
    have A_15 := blk_alloc A_10 (.cells #[.int .i64 o.2.1, .int .i64 o.2.2] 44)
    have rW1_16 := rW1_11.alloc (.cells #[.int .i64 o.2.1, .int .i64 o.2.2] 44)
    have rW2_17 := rW2_12.alloc (.cells #[.int .i64 o.2.1, .int .i64 o.2.2] 44)
    have W_18 := blk_alloc W_13 (.cells #[.int .i64 o.2.1, .int .i64 o.2.2] 44)
    clear bw_9 A_10 rW1_11 rW2_12 W_13
    have hV0 : ((w4.alloc (.cells #[.slice aw o.1.n ew, .slice bw o.1.m fw] 39)).alloc (.cells #[.int .i64 o.2.1, .int .i64 o.2.2] 44)).heap[w4.heap.size + 1]? = some (.cells #[.int .i64 o.2.1, .int .i64 o.2.2] 44 (0, 0)) := by simpa using heap_alloc_new (w4.alloc (.cells #[.slice aw o.1.n ew, .slice bw o.1.m fw] 39)) (.cells #[.int .i64 o.2.1, .int .i64 o.2.2] 44)
    have hsz5 : ((w4.alloc (.cells #[.slice aw o.1.n ew, .slice bw o.1.m fw] 39)).alloc (.cells #[.int .i64 o.2.1, .int .i64 o.2.2] 44)).heap.size = w4.heap.size + 1 + 1 := by simp
    have hL : RowUnder (.slice aw o.1.n ew) o.1.n ((w4.alloc (.cells #[.slice aw o.1.n ew, .slice bw o.1.m fw] 39)).alloc (.cells #[.int .i64 o.2.1, .int .i64 o.2.2] 44)).heap.size ∧ RowUnder (.slice bw o.1.m fw) o.1.m ((w4.alloc (.cells #[.slice aw o.1.n ew, .slice bw o.1.m fw] 39)).alloc (.cells #[.int .i64 o.2.1, .int .i64 o.2.2] 44)).heap.size := ⟨rW1_16.lt, rW2_17.lt⟩
    have q_19 := blk_cell A_15 0 _ rfl
    have q_20 := blk_cell A_15 1 _ rfl
    go_wp2_with fail
    generalize ((w4.alloc (.cells #[.slice aw o.1.n ew, .slice bw o.1.m fw] 39)).alloc (.cells #[.int .i64 o.2.1, .int .i64 o.2.2] 44)) = w5 at *
    have HL : Hid (RowUnder (.slice aw o.1.n ew) o.1.n w5.heap.size ∧ RowUnder (.slice bw o.1.m fw) o.1.m w5.heap.size) := hL
    clear hL hsz4
    have HI : Hid (w.heap.size < w4.heap.size ∧ w5.heap.size = w4.heap.size + 1 + 1) := ⟨hN4, hsz5⟩
    clear hsz5 hN4
    refine (toArena_any ao bo n m c1 c2 A U V F _ (by omega) (by omega) (hx.below bw_14) (hy.below bw_14)).mono ?_
    rintro e w6 ⟨g3, h3, rfl, hg3, hh3, _, hr, hf, hb6⟩
    have bw_21 := after bw_14 hb6
    have A_22 := blk_below A_15 hb6
    have rW1_23 := rW1_16.below hb6
    have rW2_24 := rW2_17.below hb6
    have W_25 := blk_below W_18 hb6
    have V_26 := blk_below hV0 hb6
    clear bw_14 A_15 rW1_16 rW2_17 W_18 hV0
    clear q_19 q_20
    have HJ : Hid (w5.heap.size ≤ g3 ∧ w5.heap.size ≤ h3 ∧ g3 < w6.heap.size ∧ h3 < w6.heap.size) := ⟨hg3, hh3, hr.lt, hf.lt⟩
    clear hg3 hh3 hb6
    have bw_27 := push bw_21 (.cells #[.slice (some ⟨g3, 0, none⟩) n n, .slice (some ⟨h3, 0, none⟩) m m] 39)
    have A_28 := blk_alloc A_22 (.cells #[.slice (some ⟨g3, 0, none⟩) n n, .slice (some ⟨h3, 0, none⟩) m m] 39)
    have rW1_29 := rW1_23.alloc (.cells #[.slice (some ⟨g3, 0, none⟩) n n, .slice (some ⟨h3, 0, none⟩) m m] 39)
    have rW2_30 := rW2_24.alloc (.cells #[.slice (some ⟨g3, 0, none⟩) n n, .slice (some ⟨h3, 0, none⟩) m m] 39)
    have W_31 := blk_alloc W_25 (.cells #[.slice (some ⟨g3, 0, none⟩) n n, .slice (some ⟨h3, 0, none⟩) m m] 39)
    have V_32 := blk_alloc V_26 (.cells #[.slice (some ⟨g3, 0, none⟩) n n, .slice (some ⟨h3, 0, none⟩) m m] 39)
    have rX1_33 := hr.alloc (.cells #[.slice (some ⟨g3, 0, none⟩) n n, .slice (some ⟨h3, 0, none⟩) m m] 39)
    have rX2_34 := hf.alloc (.cells #[.slice (some ⟨g3, 0, none⟩) n n, .slice (some ⟨h3, 0, none⟩) m m] 39)
    clear bw_21 A_22 rW1_23 rW2_24 W_25 V_26 hr hf
    have X_35 := heap_alloc_new w6 (.cells #[.slice (some ⟨g3, 0, none⟩) n n, .slice (some ⟨h3, 0, none⟩) m m] 39)
    have q_36 := blk_cell X_35 0 _ rfl
    have q_37 := blk_cell X_35 1 _ rfl
    go_wp2_with fail
    have hz7 : (w6.alloc (.cells #[.slice (some ⟨g3, 0, none⟩) n n, .slice (some ⟨h3, 0, none⟩) m m] 39)).heap.size = w6.heap.size + 1 := by simp
    generalize w6.alloc (.cells #[.slice (some ⟨g3, 0, none⟩) n n, .slice (some ⟨h3, 0, none⟩) m m] 39) = w7 at *
    have HZ7 : Hid (w7.heap.size = w6.heap.size + 1) := hz7
    clear hz7
    refine (implPut_any _ _ n m n m A U V F u _ (by omega) (by omega) (by intro h; cases h) (SlotsAt.of_row rX1_33) (IntsAt.of_row rX2_34)).mono ?_
    rintro e w9 ⟨ag, bg, eg, fg, o1, rfl, hG9, hans1, hb9⟩
    obtain rfl : o = o1 := (answersH_one (good_iff n m A U V F) HAN.out hans1).symm
    have bw_38 := after bw_27 hb9
    have A_39 := blk_below A_28 hb9
    have rW1_40 := rW1_29.below hb9
    have rW2_41 := rW2_30.below hb9
    have W_42 := blk_below W_31 hb9
    have V_43 := blk_below V_32 hb9
    have rX1_44 := row_below rX1_33 hb9
    have rX2_45 := row_below rX2_34 hb9
    have X_46 := blk_below X_35 hb9
    clear bw_27 A_28 rW1_29 rW2_30 W_31 V_32 rX1_33 rX2_34 X_35
    clear q_36 q_37
    have rGa := hG9.1
    have rGb := hG9.2
    clear hG9 hans1
    have hz9 := hb9.size
    clear hb9
    have bw_47 := push bw_38 (.cells #[.slice ag o.1.n eg, .slice bg o.1.m fg] 39)
    have A_48 := blk_alloc A_39 (.cells #[.slice ag o.1.n eg, .slice bg o.1.m fg] 39)
    have rW1_49 := rW1_40.alloc (.cells #[.slice ag o.1.n eg, .slice bg o.1.m fg] 39)
    have rW2_50 := rW2_41.alloc (.cells #[.slice ag o.1.n eg, .slice bg o.1.m fg] 39)
    have W_51 := blk_alloc W_42 (.cells #[.slice ag o.1.n eg, .slice bg o.1.m fg] 39)
    have V_52 := blk_alloc V_43 (.cells #[.slice ag o.1.n eg, .slice bg o.1.m fg] 39)
    have rX1_53 := rX1_44.alloc (.cells #[.slice ag o.1.n eg, .slice bg o.1.m fg] 39)
    have rX2_54 := rX2_45.alloc (.cells #[.slice ag o.1.n eg, .slice bg o.1.m fg] 39)
    have X_55 := blk_alloc X_46 (.cells #[.slice ag o.1.n eg, .slice bg o.1.m fg] 39)
    have rG1_56 := rGa.alloc (.cells #[.slice ag o.1.n eg, .slice bg o.1.m fg] 39)
    have rG2_57 := rGb.alloc (.cells #[.slice ag o.1.n eg, .slice bg o.1.m fg] 39)
    clear bw_38 A_39 rW1_40 rW2_41 W_42 V_43 rX1_44 rX2_45 X_46 rGa rGb
    have G_58 := heap_alloc_new w9 (.cells #[.slice ag o.1.n eg, .slice bg o.1.m fg] 39)
    have bw_59 := push bw_47 (.cells #[.int .i64 o.2.1, .int .i64 o.2.2] 44)
    have A_60 := blk_alloc A_48 (.cells #[.int .i64 o.2.1, .int .i64 o.2.2] 44)
    have rW1_61 := rW1_49.alloc (.cells #[.int .i64 o.2.1, .int .i64 o.2.2] 44)
    have rW2_62 := rW2_50.alloc (.cells #[.int .i64 o.2.1, .int .i64 o.2.2] 44)
    have W_63 := blk_alloc W_51 (.cells #[.int .i64 o.2.1, .int .i64 o.2.2] 44)
    have V_64 := blk_alloc V_52 (.cells #[.int .i64 o.2.1, .int .i64 o.2.2] 44)
    have rX1_65 := rX1_53.alloc (.cells #[.int .i64 o.2.1, .int .i64 o.2.2] 44)
    have rX2_66 := rX2_54.alloc (.cells #[.int .i64 o.2.1, .int .i64 o.2.2] 44)
    have X_67 := blk_alloc X_55 (.cells #[.int .i64 o.2.1, .int .i64 o.2.2] 44)
    have rG1_68 := rG1_56.alloc (.cells #[.int .i64 o.2.1, .int .i64 o.2.2] 44)
    have rG2_69 := rG2_57.alloc (.cells #[.int .i64 o.2.1, .int .i64 o.2.2] 44)
    have G_70 := blk_alloc G_58 (.cells #[.int .i64 o.2.1, .int .i64 o.2.2] 44)
    clear bw_47 A_48 rW1_49 rW2_50 W_51 V_52 rX1_53 rX2_54 X_55 rG1_56 rG2_57 G_58
    have hQ0 : ((w9.alloc (.cells #[.slice ag o.1.n eg, .slice bg o.1.m fg] 39)).alloc (.cells #[.int .i64 o.2.1, .int .i64 o.2.2] 44)).heap[w9.heap.size + 1]? = some (.cells #[.int .i64 o.2.1, .int .i64 o.2.2] 44 (0, 0)) := by simpa using heap_alloc_new (w9.alloc (.cells #[.slice ag o.1.n eg, .slice bg o.1.m fg] 39)) (.cells #[.int .i64 o.2.1, .int .i64 o.2.2] 44)
    have HK : Hid ((∀ b, headOf ag b → w7.heap.size ≤ b) ∧ (∀ b, headOf bg b → w7.heap.size ≤ b) ∧ w7.heap.size ≤ w9.heap.size ∧ ¬ headOf ag w9.heap.size ∧ ¬ headOf bg w9.heap.size ∧ ¬ headOf ag (w9.heap.size + 1) ∧ ¬ headOf bg (w9.heap.size + 1)) :=
      ⟨fun b hb => (head_ge rG1_68 b hb).1, fun b hb => (head_ge rG2_69 b hb).1, hz9, box_apart G_70 rG1_68 (by decide), box_apart G_70 rG2_69 (by decide), box_apart hQ0 rG1_68 (by decide), box_apart hQ0 rG2_69 (by decide)⟩
    clear hz9
    have q_71 := blk_cell G_70 0 _ rfl
    have q_72 := blk_cell G_70 1 _ rfl
    have q_73 := blk_cell W_63 0 _ rfl
    have q_74 := blk_cell W_63 1 _ rfl
    have q_75 := blk_cell hQ0 0 _ rfl
    have q_76 := blk_cell hQ0 1 _ rfl
    have q_77 := blk_cell V_64 0 _ rfl
    have q_78 := blk_cell V_64 1 _ rfl
    go_wp2_with fail
    generalize (w9.alloc (.cells #[.slice ag o.1.n eg, .slice bg o.1.m fg] 39)).alloc (.cells #[.int .i64 o.2.1, .int .i64 o.2.2] 44) = w10 at *
    refine (eqArena_same ag bg aw bw o.1.n o.1.m _ _ _ _ o.1.A o.1.U o.1.V o.1.F _ (by omega) (by omega) (own_slots rG1_68) (own_ints rG2_69) rW1_61.slots rW2_62.ints).mono ?_
    rintro e w11 ⟨rfl, hb11⟩
    have bw_79 := after bw_59 hb11
    have A_80 := blk_below A_60 hb11
    have rW1_81 := rW1_61.below hb11
    have rW2_82 := rW2_62.below hb11
    have W_83 := blk_below W_63 hb11
    have V_84 := blk_below V_64 hb11
    have rX1_85 := row_below rX1_65 hb11
    have rX2_86 := row_below rX2_66 hb11
    have X_87 := blk_below X_67 hb11
    have rG1_88 := own_below hb11 rG1_68
    have rG2_89 := own_below hb11 rG2_69
    have G_90 := blk_below G_70 hb11
    have Q_91 := blk_below hQ0 hb11
    clear bw_59 A_60 rW1_61 rW2_62 W_63 V_64 rX1_65 rX2_66 X_67 rG1_68 rG2_69 G_70 hQ0
    clear hb11
    clear q_71 q_72 q_73 q_74 q_75 q_76 q_77 q_78
    have q_92 := blk_cell Q_91 0 _ rfl
    have q_93 := blk_cell Q_91 1 _ rfl
    have q_94 := blk_cell V_84 0 _ rfl
    have q_95 := blk_cell V_84 1 _ rfl
    go_wp2_with fail
    refine (eqHandle_same _ _ _).mono ?_
    rintro e w11b ⟨rfl, hb11b⟩
    have bw_96 := after bw_79 hb11b
    have A_97 := blk_below A_80 hb11b
    have rW1_98 := rW1_81.below hb11b
    have rW2_99 := rW2_82.below hb11b
    have W_100 := blk_below W_83 hb11b
    have V_101 := blk_below V_84 hb11b
    have rX1_102 := row_below rX1_85 hb11b
    have rX2_103 := row_below rX2_86 hb11b
    have X_104 := blk_below X_87 hb11b
    have rG1_105 := own_below hb11b rG1_88
    have rG2_106 := own_below hb11b rG2_89
    have G_107 := blk_below G_90 hb11b
    have Q_108 := blk_below Q_91 hb11b
    clear bw_79 A_80 rW1_81 rW2_82 W_83 V_84 rX1_85 rX2_86 X_87 rG1_88 rG2_89 G_90 Q_91
    clear hb11b
    clear q_92 q_93 q_94 q_95
    go_wp2
    have bw_111 := bw_96.drew
    have A_112 := blk_drew A_97
    have rW1_113 := rW1_98.drew
    have rW2_114 := rW2_99.drew
    have W_115 := blk_drew W_100
    have V_116 := blk_drew V_101
    have rX1_117 := rX1_102.drew
    have rX2_118 := rX2_103.drew
    have X_119 := blk_drew X_104
    have rG1_120 := rG1_105.drew
    have rG2_121 := rG2_106.drew
    have G_122 := blk_drew G_107
    have Q_123 := blk_drew Q_108
    clear bw_96 A_97 rW1_98 rW2_99 W_100 V_101 rX1_102 rX2_103 X_104 rG1_105 rG2_106 G_107 Q_108
    go_region_held3 (fun w' => w'.cell? ⟨w.heap.size, 0, none⟩ = some (.slice ao n c1) ∧ w'.cell? ⟨w.heap.size, 1, none⟩ = some (.slice bo m c2) ∧ w'.cell? ⟨w6.heap.size, 0, none⟩ = some (.slice (some ⟨g3, 0, none⟩) n n) ∧ w'.cell? ⟨w6.heap.size, 1, none⟩ = some (.slice (some ⟨h3, 0, none⟩) m m))
      (first | exact ⟨blk_cell (blk_below (blk_below A_112 hb12) hb13) 0 _ rfl, blk_cell (blk_below (blk_below A_112 hb12) hb13) 1 _ rfl, blk_cell (blk_below (blk_below X_119 hb12) hb13) 0 _ rfl, blk_cell (blk_below (blk_below X_119 hb12) hb13) 1 _ rfl⟩ | exact ⟨blk_cell (blk_below A_112 hb12) 0 _ rfl, blk_cell (blk_below A_112 hb12) 1 _ rfl, blk_cell (blk_below X_119 hb12) 0 _ rfl, blk_cell (blk_below X_119 hb12) 1 _ rfl⟩ | exact ⟨blk_cell A_112 0 _ rfl, blk_cell A_112 1 _ rfl, blk_cell X_119 0 _ rfl, blk_cell X_119 1 _ rfl⟩)
      (first | (go_at_call 13; refine (toArena_any ao bo n m c1 c2 A U V F _ (by omega) (by omega) (hx.below bw_111) (hy.below bw_111)).mono ?_; rintro e w12 ⟨g12, h12, rfl, _, _, _, hr12, hf12, hb12⟩) | (go_at_call 15; refine (eqArena_same _ _ _ _ n m n m n m A U V F _ (by omega) (by omega) (SlotsAt.of_row (row_below rX1_117 hb12)) (IntsAt.of_row (row_below rX2_118 hb12)) (SlotsAt.of_row hr12) (IntsAt.of_row hf12)).mono ?_; rintro e w13 ⟨rfl, hb13⟩))
    have bw_124 := after bw_111 hb12
    have A_125 := blk_below A_112 hb12
    have rW1_126 := rW1_113.below hb12
    have rW2_127 := rW2_114.below hb12
    have W_128 := blk_below W_115 hb12
    have V_129 := blk_below V_116 hb12
    have rX1_130 := row_below rX1_117 hb12
    have rX2_131 := row_below rX2_118 hb12
    have X_132 := blk_below X_119 hb12
    have rG1_133 := own_below hb12 rG1_120
    have rG2_134 := own_below hb12 rG2_121
    have G_135 := blk_below G_122 hb12
    have Q_136 := blk_below Q_123 hb12
    clear bw_111 A_112 rW1_113 rW2_114 W_115 V_116 rX1_117 rX2_118 X_119 rG1_120 rG2_121 G_122 Q_123
    have bw_137 := after bw_124 hb13
    have A_138 := blk_below A_125 hb13
    have rW1_139 := rW1_126.below hb13
    have rW2_140 := rW2_127.below hb13
    have W_141 := blk_below W_128 hb13
    have V_142 := blk_below V_129 hb13
    have rX1_143 := row_below rX1_130 hb13
    have rX2_144 := row_below rX2_131 hb13
    have X_145 := blk_below X_132 hb13
    have rG1_146 := own_below hb13 rG1_133
    have rG2_147 := own_below hb13 rG2_134
    have G_148 := blk_below G_135 hb13
    have Q_149 := blk_below Q_136 hb13
    clear bw_124 A_125 rW1_126 rW2_127 W_128 V_129 rX1_130 rX2_131 X_132 rG1_133 rG2_134 G_135 Q_136
    clear hr12 hf12 hb12 hb13
    have q_150 := blk_cell X_145 0 _ rfl
    have q_151 := blk_cell X_145 1 _ rfl
    go_wp2_with fail
    refine (markArena_own _ _ n m n m 0 0 A U V F 1 _ hs (by omega) (by omega) (own_of_row rX1_143 (Nat.zero_le _) (by unfold maxLen; omega)) (own_row1 rX2_144 (Nat.zero_le _) (by unfold maxLen; omega))).mono ?_
    rintro e w14 ⟨rfl, _, _, hk14⟩
    clear q_150 q_151
    have HX : Hid (∀ b, headsOf (some ⟨g3, 0, none⟩) (some ⟨h3, 0, none⟩) b → w5.heap.size ≤ b ∧ b < w6.heap.size) := by
      rintro b (⟨g', e1, e2⟩ | ⟨g', e1, e2⟩)
      · simp only [Option.some.injEq, Addr.mk.injEq, and_true] at e1; have := HJ.out; have := HI.out; omega
      · simp only [Option.some.injEq, Addr.mk.injEq, and_true] at e1; have := HJ.out; have := HI.out; omega
    clear X_145
    clear rX1_143 rX2_144
    have bw_152 := Kept.below bw_137 bw_137.size hk14 (fun b h => by have := HX.out _ h; have := HI.out; have := HJ.out; have := HZ7.out; omega)
    have A_153 := hk14.blk A_138 (fun h => by have := HX.out _ h; have := HI.out; have := HJ.out; have := HZ7.out; have := HK.out.2.2.1; omega)
    have rW1_154 := rW1_139.stays hk14 HL.out.1 (fun b h => by have := HX.out _ h; have := HI.out; have := HJ.out; have := HZ7.out; omega)
    have rW2_155 := rW2_140.stays hk14 HL.out.2 (fun b h => by have := HX.out _ h; have := HI.out; have := HJ.out; have := HZ7.out; omega)
    have W_156 := hk14.blk W_141 (fun h => by have := HX.out _ h; have := HI.out; have := HJ.out; have := HZ7.out; have := HK.out.2.2.1; omega)
    have V_157 := hk14.blk V_142 (fun h => by have := HX.out _ h; have := HI.out; have := HJ.out; have := HZ7.out; have := HK.out.2.2.1; omega)
    have rG1_158 := hk14.own rG1_146 (fun b hb h => by have := HX.out _ h; have := HK.out.1 b (own_head rfl rG1_146 hb); have := HJ.out; have := HZ7.out; omega)
    have rG2_159 := hk14.own rG2_147 (fun b hb h => by have := HX.out _ h; have := HK.out.2.1 b (own_head rfl rG2_147 hb); have := HJ.out; have := HZ7.out; omega)
    have G_160 := hk14.blk G_148 (fun h => by have := HX.out _ h; have := HI.out; have := HJ.out; have := HZ7.out; have := HK.out.2.2.1; omega)
    have Q_161 := hk14.blk Q_149 (fun h => by have := HX.out _ h; have := HI.out; have := HJ.out; have := HZ7.out; have := HK.out.2.2.1; omega)
    clear bw_137 A_138 rW1_139 rW2_140 W_141 V_142 rG1_146 rG2_147 G_148 Q_149 hk14 HX
    have e0 : decide ((1 : Int) + 3 * (n : Int) + (m : Int) < 0) = false := by simp; omega
    have q_162 := blk_cell G_160 0 _ rfl
    have q_163 := blk_cell G_160 1 _ rfl
    have q_164 := blk_cell W_156 0 _ rfl
    have q_165 := blk_cell W_156 1 _ rfl
    have q_166 := blk_cell Q_161 0 _ rfl
    have q_167 := blk_cell Q_161 1 _ rfl
    have q_168 := blk_cell V_157 0 _ rfl
    have q_169 := blk_cell V_157 1 _ rfl
    go_wp2_with fail
    refine (eqArena_same ag bg aw bw o.1.n o.1.m _ _ _ _ o.1.A o.1.U o.1.V o.1.F _ (by omega) (by omega) (own_slots rG1_158) (own_ints rG2_159) rW1_154.slots rW2_155.ints).mono ?_
    rintro e w15 ⟨rfl, hb15⟩
    have bw_170 := after bw_152 hb15
    have A_171 := blk_below A_153 hb15
    have rW1_172 := rW1_154.below hb15
    have rW2_173 := rW2_155.below hb15
    have W_174 := blk_below W_156 hb15
    have V_175 := blk_below V_157 hb15
    have rG1_176 := own_below hb15 rG1_158
    have rG2_177 := own_below hb15 rG2_159
    have G_178 := blk_below G_160 hb15
    have Q_179 := blk_below Q_161 hb15
    clear bw_152 A_153 rW1_154 rW2_155 W_156 V_157 rG1_158 rG2_159 G_160 Q_161
    clear hb15
    clear q_162 q_163 q_164 q_165 q_166 q_167 q_168 q_169
    have q_180 := blk_cell Q_179 0 _ rfl
    have q_181 := blk_cell Q_179 1 _ rfl
    have q_182 := blk_cell V_175 0 _ rfl
    have q_183 := blk_cell V_175 1 _ rfl
    go_wp2_with fail
    refine (eqHandle_same _ _ _).mono ?_
    rintro e w15b ⟨rfl, hb15b⟩
    have bw_184 := after bw_170 hb15b
    have A_185 := blk_below A_171 hb15b
    have rW1_186 := rW1_172.below hb15b
    have rW2_187 := rW2_173.below hb15b
    have W_188 := blk_below W_174 hb15b
    have V_189 := blk_below V_175 hb15b
    have rG1_190 := own_below hb15b rG1_176
    have rG2_191 := own_below hb15b rG2_177
    have G_192 := blk_below G_178 hb15b
    have Q_193 := blk_below Q_179 hb15b
    clear bw_170 A_171 rW1_172 rW2_173 W_174 V_175 rG1_176 rG2_177 G_178 Q_179
    clear hb15b
    clear q_180 q_181 q_182 q_183
    have q_194 := blk_cell G_192 0 _ rfl
    have q_195 := blk_cell G_192 1 _ rfl
    go_wp2_with fail
    refine (markArena_own ag bg o.1.n o.1.m _ _ _ _ o.1.A o.1.U o.1.V o.1.F 1 _ hsz (by omega) (by omega) rG1_190 rG2_191).mono ?_
    rintro e w16 ⟨rfl, rGm, rGn, hk16⟩
    clear q_194 q_195
    have HX : Hid (∀ b, headsOf ag bg b → w7.heap.size ≤ b) := by
      rintro b (h | h)
      · exact HK.out.1 b h
      · exact HK.out.2.1 b h
    clear rG1_190 rG2_191
    have bw_196 := Kept.below bw_184 bw_184.size hk16 (fun b h => by have := HX.out _ h; have := HI.out; have := HJ.out; have := HZ7.out; omega)
    have A_197 := hk16.blk A_185 (fun h => by have := HX.out _ h; have := HI.out; have := HJ.out; have := HZ7.out; omega)
    have rW1_198 := rW1_186.stays hk16 HL.out.1 (fun b h => by have := HX.out _ h; have := HI.out; have := HJ.out; have := HZ7.out; omega)
    have rW2_199 := rW2_187.stays hk16 HL.out.2 (fun b h => by have := HX.out _ h; have := HI.out; have := HJ.out; have := HZ7.out; omega)
    have W_200 := hk16.blk W_188 (fun h => by have := HX.out _ h; have := HI.out; have := HJ.out; have := HZ7.out; omega)
    have V_201 := hk16.blk V_189 (fun h => by have := HX.out _ h; have := HI.out; have := HJ.out; have := HZ7.out; omega)
    have G_202 := hk16.blk G_192 (fun h => by rcases h with h | h; exact HK.out.2.2.2.1 h; exact HK.out.2.2.2.2.1 h)
    have Q_203 := hk16.blk Q_193 (fun h => by rcases h with h | h; exact HK.out.2.2.2.2.2.1 h; exact HK.out.2.2.2.2.2.2 h)
    clear bw_184 A_185 rW1_186 rW2_187 W_188 V_189 G_192 Q_193 hk16 HX
    have q_204 := blk_cell G_202 0 _ rfl
    have q_205 := blk_cell G_202 1 _ rfl
    go_wp2_with fail
    refine (heldArena_yes ag bg o.1.n o.1.m _ _ 1 _ hsz (by omega) (by omega) (own_slots rGm) (own_ints rGn)).mono ?_
    rintro e w17 ⟨rfl, hb17⟩
    have bw_206 := after bw_196 hb17
    have A_207 := blk_below A_197 hb17
    have rW1_208 := rW1_198.below hb17
    have rW2_209 := rW2_199.below hb17
    have W_210 := blk_below W_200 hb17
    have V_211 := blk_below V_201 hb17
    have G_212 := blk_below G_202 hb17
    have Q_213 := blk_below Q_203 hb17
    have rG1_214 := own_below hb17 rGm
    have rG2_215 := own_below hb17 rGn
    clear bw_196 A_197 rW1_198 rW2_199 W_200 V_201 G_202 Q_203 rGm rGn
    clear hb17
    clear q_204 q_205
    have q_216 := blk_cell A_207 0 _ rfl
    have q_217 := blk_cell A_207 1 _ rfl
    go_wp2_with fail
    refine (toArena_any ao bo n m c1 c2 A U V F _ (by omega) (by omega) (hx.below bw_206) (hy.below bw_206)).mono ?_
    rintro e w18 ⟨g18, h18, rfl, _, _, _, hr18, hf18, hb18⟩
    have bw_218 := after bw_206 hb18
    have A_219 := blk_below A_207 hb18
    have rW1_220 := rW1_208.below hb18
    have rW2_221 := rW2_209.below hb18
    have W_222 := blk_below W_210 hb18
    have V_223 := blk_below V_211 hb18
    have G_224 := blk_below G_212 hb18
    have Q_225 := blk_below Q_213 hb18
    have rG1_226 := own_below hb18 rG1_214
    have rG2_227 := own_below hb18 rG2_215
    clear bw_206 A_207 rW1_208 rW2_209 W_210 V_211 G_212 Q_213 rG1_214 rG2_215
    clear hb18
    clear q_216 q_217
    go_wp2_with fail
    refine (implPut_any _ _ n m n m A U V F u _ (by omega) (by omega) (by intro h; cases h) (SlotsAt.of_row hr18) (IntsAt.of_row hf18)).mono ?_
    rintro e w20 ⟨ak, bk, ek, fk, o2, rfl, hK20, hans2, hb20⟩
    obtain rfl : o = o2 := (answersH_one (good_iff n m A U V F) HAN.out hans2).symm
    have bw_228 := after bw_218 hb20
    have A_229 := blk_below A_219 hb20
    have rW1_230 := rW1_220.below hb20
    have rW2_231 := rW2_221.below hb20
    have W_232 := blk_below W_222 hb20
    have V_233 := blk_below V_223 hb20
    have G_234 := blk_below G_224 hb20
    have Q_235 := blk_below Q_225 hb20
    have rG1_236 := own_below hb20 rG1_226
    have rG2_237 := own_below hb20 rG2_227
    clear bw_218 A_219 rW1_220 rW2_221 W_222 V_223 G_224 Q_225 rG1_226 rG2_227
    have rKa := hK20.1
    have rKb := hK20.2
    clear hK20 hans2 hr18 hf18 hb20
    have bw_238 := push bw_228 (.cells #[.slice ak o.1.n ek, .slice bk o.1.m fk] 39)
    have A_239 := blk_alloc A_229 (.cells #[.slice ak o.1.n ek, .slice bk o.1.m fk] 39)
    have rW1_240 := rW1_230.alloc (.cells #[.slice ak o.1.n ek, .slice bk o.1.m fk] 39)
    have rW2_241 := rW2_231.alloc (.cells #[.slice ak o.1.n ek, .slice bk o.1.m fk] 39)
    have W_242 := blk_alloc W_232 (.cells #[.slice ak o.1.n ek, .slice bk o.1.m fk] 39)
    have V_243 := blk_alloc V_233 (.cells #[.slice ak o.1.n ek, .slice bk o.1.m fk] 39)
    have G_244 := blk_alloc G_234 (.cells #[.slice ak o.1.n ek, .slice bk o.1.m fk] 39)
    have Q_245 := blk_alloc Q_235 (.cells #[.slice ak o.1.n ek, .slice bk o.1.m fk] 39)
    have rG1_246 := rG1_236.alloc (.cells #[.slice ak o.1.n ek, .slice bk o.1.m fk] 39)
    have rG2_247 := rG2_237.alloc (.cells #[.slice ak o.1.n ek, .slice bk o.1.m fk] 39)
    have rK1_248 := rKa.alloc (.cells #[.slice ak o.1.n ek, .slice bk o.1.m fk] 39)
    have rK2_249 := rKb.alloc (.cells #[.slice ak o.1.n ek, .slice bk o.1.m fk] 39)
    clear bw_228 A_229 rW1_230 rW2_231 W_232 V_233 G_234 Q_235 rG1_236 rG2_237 rKa rKb
    have K_250 := heap_alloc_new w20 (.cells #[.slice ak o.1.n ek, .slice bk o.1.m fk] 39)
    have bw_251 := push bw_238 (.cells #[.int .i64 o.2.1, .int .i64 o.2.2] 44)
    have A_252 := blk_alloc A_239 (.cells #[.int .i64 o.2.1, .int .i64 o.2.2] 44)
    have rW1_253 := rW1_240.alloc (.cells #[.int .i64 o.2.1, .int .i64 o.2.2] 44)
    have rW2_254 := rW2_241.alloc (.cells #[.int .i64 o.2.1, .int .i64 o.2.2] 44)
    have W_255 := blk_alloc W_242 (.cells #[.int .i64 o.2.1, .int .i64 o.2.2] 44)
    have V_256 := blk_alloc V_243 (.cells #[.int .i64 o.2.1, .int .i64 o.2.2] 44)
    have G_257 := blk_alloc G_244 (.cells #[.int .i64 o.2.1, .int .i64 o.2.2] 44)
    have Q_258 := blk_alloc Q_245 (.cells #[.int .i64 o.2.1, .int .i64 o.2.2] 44)
    have rG1_259 := rG1_246.alloc (.cells #[.int .i64 o.2.1, .int .i64 o.2.2] 44)
    have rG2_260 := rG2_247.alloc (.cells #[.int .i64 o.2.1, .int .i64 o.2.2] 44)
    have rK1_261 := rK1_248.alloc (.cells #[.int .i64 o.2.1, .int .i64 o.2.2] 44)
    have rK2_262 := rK2_249.alloc (.cells #[.int .i64 o.2.1, .int .i64 o.2.2] 44)
    have K_263 := blk_alloc K_250 (.cells #[.int .i64 o.2.1, .int .i64 o.2.2] 44)
    clear bw_238 A_239 rW1_240 rW2_241 W_242 V_243 G_244 Q_245 rG1_246 rG2_247 rK1_248 rK2_249 K_250
    have hJ0 : ((w20.alloc (.cells #[.slice ak o.1.n ek, .slice bk o.1.m fk] 39)).alloc (.cells #[.int .i64 o.2.1, .int .i64 o.2.2] 44)).heap[w20.heap.size + 1]? = some (.cells #[.int .i64 o.2.1, .int .i64 o.2.2] 44 (0, 0)) := by simpa using heap_alloc_new (w20.alloc (.cells #[.slice ak o.1.n ek, .slice bk o.1.m fk] 39)) (.cells #[.int .i64 o.2.1, .int .i64 o.2.2] 44)
    have q_264 := blk_cell K_263 0 _ rfl
    have q_265 := blk_cell K_263 1 _ rfl
    have q_266 := blk_cell W_255 0 _ rfl
    have q_267 := blk_cell W_255 1 _ rfl
    have q_268 := blk_cell hJ0 0 _ rfl
    have q_269 := blk_cell hJ0 1 _ rfl
    have q_270 := blk_cell V_256 0 _ rfl
    have q_271 := blk_cell V_256 1 _ rfl
    go_wp2_with fail
    generalize (w20.alloc (.cells #[.slice ak o.1.n ek, .slice bk o.1.m fk] 39)).alloc (.cells #[.int .i64 o.2.1, .int .i64 o.2.2] 44) = w21 at *
    refine (eqArena_same ak bk aw bw o.1.n o.1.m _ _ _ _ o.1.A o.1.U o.1.V o.1.F _ (by omega) (by omega) (own_slots rK1_261) (own_ints rK2_262) rW1_253.slots rW2_254.ints).mono ?_
    rintro e w22 ⟨rfl, hb22⟩
    have bw_272 := after bw_251 hb22
    have A_273 := blk_below A_252 hb22
    have rW1_274 := rW1_253.below hb22
    have rW2_275 := rW2_254.below hb22
    have W_276 := blk_below W_255 hb22
    have V_277 := blk_below V_256 hb22
    have G_278 := blk_below G_257 hb22
    have Q_279 := blk_below Q_258 hb22
    have rG1_280 := own_below hb22 rG1_259
    have rG2_281 := own_below hb22 rG2_260
    have rK1_282 := own_below hb22 rK1_261
    have rK2_283 := own_below hb22 rK2_262
    have K_284 := blk_below K_263 hb22
    have J_285 := blk_below hJ0 hb22
    clear bw_251 A_252 rW1_253 rW2_254 W_255 V_256 G_257 Q_258 rG1_259 rG2_260 rK1_261 rK2_262 K_263 hJ0
    clear hb22
    clear q_264 q_265 q_266 q_267 q_268 q_269 q_270 q_271
    have q_286 := blk_cell J_285 0 _ rfl
    have q_287 := blk_cell J_285 1 _ rfl
    have q_288 := blk_cell V_277 0 _ rfl
    have q_289 := blk_cell V_277 1 _ rfl
    go_wp2_with fail
    refine (eqHandle_same _ _ _).mono ?_
    rintro e w22b ⟨rfl, hb22b⟩
    have bw_290 := after bw_272 hb22b
    have A_291 := blk_below A_273 hb22b
    have rW1_292 := rW1_274.below hb22b
    have rW2_293 := rW2_275.below hb22b
    have W_294 := blk_below W_276 hb22b
    have V_295 := blk_below V_277 hb22b
    have G_296 := blk_below G_278 hb22b
    have Q_297 := blk_below Q_279 hb22b
    have rG1_298 := own_below hb22b rG1_280
    have rG2_299 := own_below hb22b rG2_281
    have rK1_300 := own_below hb22b rK1_282
    have rK2_301 := own_below hb22b rK2_283
    have K_302 := blk_below K_284 hb22b
    have J_303 := blk_below J_285 hb22b
    clear bw_272 A_273 rW1_274 rW2_275 W_276 V_277 G_278 Q_279 rG1_280 rG2_281 rK1_282 rK2_283 K_284 J_285
    clear hb22b
    clear q_286 q_287 q_288 q_289
    have q_304 := blk_cell G_296 0 _ rfl
    have q_305 := blk_cell G_296 1 _ rfl
    go_wp2_with fail
    refine (heldArena_yes ag bg o.1.n o.1.m _ _ 1 _ hsz (by omega) (by omega) (own_slots rG1_298) (own_ints rG2_299)).mono ?_
    rintro e w23 ⟨rfl, hb23⟩
    go_wp2
    go_ret
    exact ⟨rfl, after bw_290 hb23⟩
  · go_enter Try.func5, Try.ntmps5
    go_wp2_with (first | (go_at_call 11; refine (szArena_over ao bo n m c1 c2 _ _ (by omega) (by omega) hn hm (by omega)).mono ?_; rintro e w1 ⟨rfl, hb1⟩))
    go_ret
    exact ⟨rfl, after h0 hb1⟩

end Go.Proofs.Yteniifnhbogbkae
