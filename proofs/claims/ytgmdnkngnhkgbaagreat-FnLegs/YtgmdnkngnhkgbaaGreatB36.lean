import Derived.Test.YtgmdnkngnhkgbaaGreatB26
namespace Go.Proofs.YtgmdnkngnhkgbaaGreat
open Go.RowKit
open Go.Value (int)
open Go.IntKind (i64)
set_option maxHeartbeats 64000000
set_option maxRecDepth 1000000
attribute [local go_sem ↓] Go.wp_at_zero Go.wp_at_succ
theorem setI {W w:World}{b i:Nat}(h:Below W.heap.size W w)(a:W.heap.size<=b)(u:Value):Below W.heap.size W (w.setCell ⟨b,i,none⟩ u):=h.setCell a u
def six (F:Nat->Int):Value:=.agg #[int i64 (F 0),int i64 (F 1),int i64 (F 2),int i64 (F 3),int i64 (F 4),int i64 (F 5)]
theorem zci (Q:Option Addr)(n c:Nat)(p:zP)(F:Nat->Int)(x cab many:Int)(all:Bool)(w:World)(hl:p.n=n)(N:zdj p)(V:zT w Q p) :
  Calls Tryz.prog 105 #[.slice Q n c,.agg #[int i64 (F 0),int i64 (F 1),int i64 (F 2),int i64 (F 3),int i64 (F 4),int i64 (F 5)],.agg #[int i64 x,int i64 cab,int i64 many,.bool all]] w fun e w'=>SaysIf (QA p F ⟨x,cab,many,all⟩) e/\Below w.heap.size w w':=by
 have s:=hI hl;have X:=hI N;have a2:n<=6:=by rw[← hl];exact N.1
 clear hl N;have a1:∀ (R:Fn) (first cap:Array Value) (w:World),(Instr.makeFunc R first cap).run Tryz.prog w=.ok (.func R first cap) w:=fun _ _ _ _=>rfl
 have k1:=nilB;have k2:=nilW;have k3:=methB;have k4:=methW;go_enter Tryz.func105,Tryz.ntmps105;go_upto_region 1 with fail;have I:((w.alloc (.cells #[int i64 (F 0),int i64 (F 1),int i64 (F 2),int i64 (F 3),int i64 (F 4),int i64 (F 5)] 131)).alloc (.cells #[int i64 x,int i64 cab,int i64 many,.bool all] 93)).heap[w.heap.size]?=some (.cells #[int i64 (F 0),int i64 (F 1),int i64 (F 2),int i64 (F 3),int i64 (F 4),int i64 (F 5)] 131 (0,0)):=zc (heap_alloc_new w _) _;have b1:((w.alloc (.cells #[int i64 (F 0),int i64 (F 1),int i64 (F 2),int i64 (F 3),int i64 (F 4),int i64 (F 5)] 131)).alloc (.cells #[int i64 x,int i64 cab,int i64 many,.bool all] 93)).heap[w.heap.size+1]?=some (.cells #[int i64 x,int i64 cab,int i64 many,.bool all] 93 (0,0)):=by simpa using heap_alloc_new (w.alloc _) _
 have j:Below w.heap.size w ((w.alloc (.cells #[int i64 (F 0),int i64 (F 1),int i64 (F 2),int i64 (F 3),int i64 (F 4),int i64 (F 5)] 131)).alloc (.cells #[int i64 x,int i64 cab,int i64 many,.bool all] 93)):=zl (zl bZ _) _;generalize (w.alloc (.cells #[int i64 (F 0),int i64 (F 1),int i64 (F 2),int i64 (F 3),int i64 (F 4),int i64 (F 5)] 131)).alloc (.cells #[int i64 x,int i64 cab,int i64 many,.bool all] 93)=W at I b1 j ⊢;have a5:IntKind.i64.wrap ((n:Int) - 1)=(n:Int) - 1:=by rw[IntKind.wrap_i64];omega
 have z1:=za b1 1 _ rfl
 by_cases h3:In cab 0 ((n:Int) - 1)
 ·have Y:decide (In cab 0 ((n:Int) - 1))=true:=decide_eq_true h3
  have E:=hI h3;obtain⟨m,rfl⟩:∃ m:Nat,cab=m:=⟨cab.toNat,by unfold In at h3;omega⟩
  have U:m<n:=by unfold In at h3;omega
  clear h3;obtain⟨b,off,rfl,K,S⟩:=V m (by rw[s.out];exact U)
  have T:=World.block_lt_of_cell? w _ K;have i1:(0:Int)<=(m:Int):=by omega
  have i2:(m:Int)<(n:Int):=by omega
  have i3:(m:Int)<6:=by omega
  have i4:m<6:=by omega
  have k:=hI j;have g:Hid (∀ w',Below W.heap.size W w'->(w'.cell? ⟨w.heap.size+1,0,none⟩=some (int i64 x)/\w'.cell? ⟨w.heap.size+1,1,none⟩=some (int i64 (m:Int))/\w'.cell? ⟨w.heap.size+1,2,none⟩=some (int i64 many)/\w'.cell? ⟨w.heap.size+1,3,none⟩=some (.bool all)/\w'.cell? ⟨b,off+m*2,none⟩=some (int i64 (p.A m))/\w'.cell? ⟨b,off+m*2+1,none⟩=some (int i64 (p.B m))/\w'.cell? ⟨w.heap.size,m,none⟩=some (int i64 (F m)))):=fun w' h=>by
   have G:=zb b1 h;have r:=zb I h;refine⟨za G 0 _ rfl,za G 1 _ rfl,za G 2 _ rfl,za G 3 _ rfl,((zf j h).cell (p:=⟨b,off+m*2,none⟩) T).trans K,((zf j h).cell (p:=⟨b,off+m*2+1,none⟩) T).trans S,?_⟩;have:m=0∨m=1∨m=2∨m=3∨m=4∨m=5:=by omega
   rcases this with rfl|rfl|rfl|rfl|rfl|rfl
   ·exact za r 0 _ rfl
   ·exact za r 1 _ rfl
   ·exact za r 2 _ rfl
   ·exact za r 3 _ rfl
   ·exact za r 4 _ rfl
   ·exact za r 5 _ rfl
  have a3:w.heap.size+1<W.heap.size:=zQ b1;clear K S I b1 j V
  cases all with
  | false =>
   go_upto_region 3 with(first|(go_at_call 74;refine sC (zM _ _ _ _) ?_))
   go_cut [7,8] (fun O P wc=>∃ B,O=.pointer (some ⟨B,0,none⟩)/\P=.bool (decide (In many 1 (F m)))/\wc.cell? ⟨B,2,none⟩=some (int i64 many)/\Below W.heap.size W wc)
   case first =>
    go_region_held3 (fun w'=>w'.cell? ⟨w.heap.size+1,0,none⟩=some (int i64 x)/\w'.cell? ⟨w.heap.size+1,1,none⟩=some (int i64 (m:Int))/\w'.cell? ⟨w.heap.size+1,2,none⟩=some (int i64 many)/\w'.cell? ⟨w.heap.size+1,3,none⟩=some (.bool false)/\w'.cell? ⟨b,off+m*2,none⟩=some (int i64 (p.A m))/\w'.cell? ⟨b,off+m*2+1,none⟩=some (int i64 (p.B m))/\w'.cell? ⟨w.heap.size,m,none⟩=some (int i64 (F m)))
     ((refine g.out _ ?_;(repeat(first|exact bZ|refine Below.drew ?_|refine zl ?_ _|refine setI ?_ (by omega) _|refine zf ?_ d|refine zf ?_ f))))
     (first|(go_at_call 120;refine(zfH _ _ _ _ _).mono ?_;rintro e l ⟨rfl,f⟩;have s3:W.heap.size<=l.heap.size:=(by have:=f.size;first|omega|(simp at this;omega));(first|(have q:l.heap[W.heap.size]?=some (.cells #[int i64 0,int i64 0,int i64 0,.bool false] 93 (0,0)):=zb (heap_alloc_new W.drew (.cells #[int i64 0,int i64 0,int i64 0,.bool false] 93)) f)|skip))|(go_at_call 156;refine(zgo _ _ _ _ _).mono ?_;rintro e y ⟨rfl,d⟩;(first|(have a:y.heap[W.heap.size]?=some (.cells #[int i64 0,int i64 0,int i64 0,.bool false] 93 (0,0)):=zb q d;have z:=za a 0 _ rfl;have A:=za a 1 _ rfl;have C:=za a 2 _ rfl;have D:=za a 3 _ rfl;have t:=ze a 0;have u:=ze a 1;have v:=ze a 2;have f3:=ze a 3)|(have a:=zb (heap_alloc_new l (.cells #[int i64 0,int i64 0,int i64 0,.bool false] 93)) d;have z:=za a 0 _ rfl;have A:=za a 1 _ rfl;have C:=za a 2 _ rfl;have D:=za a 3 _ rfl;have t:=ze a 0;have u:=ze a 1;have v:=ze a 2;have f3:=ze a 3)|(have a:=zb (heap_alloc_new l.drew (.cells #[int i64 0,int i64 0,int i64 0,.bool false] 93)) d;have z:=za a 0 _ rfl;have A:=za a 1 _ rfl;have C:=za a 2 _ rfl;have D:=za a 3 _ rfl;have t:=ze a 0;have u:=ze a 1;have v:=ze a 2;have f3:=ze a 3)|skip)))
    all_goals
     go_wp2;go_meet;exact⟨_,rfl,rfl,(by first|exact za (heap_alloc_new y _) 2 _ rfl|exact za (zt (zt (zt (zt a 0 _) 1 _) 2 _) 3 _) 2 _ rfl),(by(repeat(first|exact bZ|refine Below.drew ?_|refine zl ?_ _|refine setI ?_ (by omega) _|refine zf ?_ d|refine zf ?_ f)))⟩
   case rest =>
   obtain⟨B,rfl,rfl,L,i⟩:=hcut;have M:=(g.out _ i).2.2.1
   by_cases g5:In many 1 (F m)
   ·have J:decide (In many 1 (F m))=true:=decide_eq_true g5
    have o:=hI g5;clear g5;go_wp2;go_ret;exact⟨zI ⟨by rw[s.out];exact E.out,fun h=>(by cases h),fun _=>o.out⟩,zf k.out i⟩
   ·have J:decide (In many 1 (F m))=false:=decide_eq_false g5
    have o:=hI g5;clear g5;go_wp2;go_ret;exact⟨zk (fun h=>o.out (h.2.2 rfl)),zf k.out i⟩
  | true =>
   have a0:(0:Int)<=p.B m:=by have:=(X.out.2 m (by rw[s.out];exact U)).2;unfold In at this;omega
   go_upto_region 3 with(first|(go_at_call 74;refine sC (zM _ _ _ _) ?_))
   go_cut [7,8] (fun O P wc=>∃ B,O=.pointer (some ⟨B,0,none⟩)/\P=.bool (decide (F m=p.B m))/\wc.cell? ⟨B,2,none⟩=some (int i64 (p.B m))/\Below W.heap.size W wc)
   case first =>
    go_region_held3 (fun w'=>w'.cell? ⟨w.heap.size+1,0,none⟩=some (int i64 x)/\w'.cell? ⟨w.heap.size+1,1,none⟩=some (int i64 (m:Int))/\w'.cell? ⟨w.heap.size+1,2,none⟩=some (int i64 many)/\w'.cell? ⟨w.heap.size+1,3,none⟩=some (.bool true)/\w'.cell? ⟨b,off+m*2,none⟩=some (int i64 (p.A m))/\w'.cell? ⟨b,off+m*2+1,none⟩=some (int i64 (p.B m))/\w'.cell? ⟨w.heap.size,m,none⟩=some (int i64 (F m)))
     ((refine g.out _ ?_;(repeat(first|exact bZ|refine Below.drew ?_|refine zl ?_ _|refine setI ?_ (by omega) _|refine zf ?_ d|refine zf ?_ f))))
     (first|(go_at_call 120;refine(zfH _ _ _ _ _).mono ?_;rintro e l ⟨rfl,f⟩;have s3:W.heap.size<=l.heap.size:=(by have:=f.size;first|omega|(simp at this;omega));(first|(have q:l.heap[W.heap.size]?=some (.cells #[int i64 0,int i64 0,int i64 0,.bool false] 93 (0,0)):=zb (heap_alloc_new W.drew (.cells #[int i64 0,int i64 0,int i64 0,.bool false] 93)) f)|skip))|(go_at_call 155;refine(zgp _ _ _ _ _).mono ?_;rintro e y ⟨rfl,d⟩;(first|(have a:y.heap[W.heap.size]?=some (.cells #[int i64 0,int i64 0,int i64 0,.bool false] 93 (0,0)):=zb q d;have z:=za a 0 _ rfl;have A:=za a 1 _ rfl;have C:=za a 2 _ rfl;have D:=za a 3 _ rfl;have t:=ze a 0;have u:=ze a 1;have v:=ze a 2;have f3:=ze a 3)|(have a:=zb (heap_alloc_new l (.cells #[int i64 0,int i64 0,int i64 0,.bool false] 93)) d;have z:=za a 0 _ rfl;have A:=za a 1 _ rfl;have C:=za a 2 _ rfl;have D:=za a 3 _ rfl;have t:=ze a 0;have u:=ze a 1;have v:=ze a 2;have f3:=ze a 3)|(have a:=zb (heap_alloc_new l.drew (.cells #[int i64 0,int i64 0,int i64 0,.bool false] 93)) d;have z:=za a 0 _ rfl;have A:=za a 1 _ rfl;have C:=za a 2 _ rfl;have D:=za a 3 _ rfl;have t:=ze a 0;have u:=ze a 1;have v:=ze a 2;have f3:=ze a 3)|skip)))
    all_goals
     go_wp2;go_meet;exact⟨_,rfl,rfl,(by first|exact za (heap_alloc_new y _) 2 _ rfl|exact za (zt (zt (zt (zt a 0 _) 1 _) 2 _) 3 _) 2 _ rfl),(by(repeat(first|exact bZ|refine Below.drew ?_|refine zl ?_ _|refine setI ?_ (by omega) _|refine zf ?_ d|refine zf ?_ f)))⟩
   case rest =>
   obtain⟨B,rfl,rfl,L,i⟩:=hcut;have M:=(g.out _ i).2.2.1
   by_cases g5:F m=p.B m
   ·have J:decide (F m=p.B m)=true:=decide_eq_true g5
    have o:=hI g5;clear g5
    by_cases g6:many=p.B m
    ·have Z:(p.B m == many)=true:=by simpa using g6.symm
     have H:=hI g6;clear g6;go_wp2;go_ret;exact⟨zI ⟨by rw[s.out];exact E.out,fun _=>⟨o.out,H.out⟩,fun h=>(by cases h)⟩,zf k.out i⟩
    ·have Z:(p.B m == many)=false:=by simp;exact fun h=>g6 h.symm
     have H:=hI g6;clear g6;go_wp2;go_ret;exact⟨zk (fun h=>H.out (h.2.1 rfl).2),zf k.out i⟩
   ·have J:decide (F m=p.B m)=false:=decide_eq_false g5
    have o:=hI g5;clear g5;go_wp2;go_ret;exact⟨zk (fun h=>o.out (h.2.1 rfl).1),zf k.out i⟩
 ·have Y:decide (In cab 0 ((n:Int) - 1))=false:=decide_eq_false h3
  have E:=hI h3;clear h3;go_wp2_with (first|(go_at_call 74;refine sC (zM _ _ _ _) ?_))
  go_ret;exact⟨zk (fun h=>E.out (by have:=h.1;rw[s.out] at this;exact this)),j⟩
end Go.Proofs.YtgmdnkngnhkgbaaGreat
