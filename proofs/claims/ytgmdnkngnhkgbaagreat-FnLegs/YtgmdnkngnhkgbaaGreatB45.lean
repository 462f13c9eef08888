import Derived.Test.YtgmdnkngnhkgbaaGreatB19
import Derived.Test.YtgmdnkngnhkgbaaGreatB20
import Derived.Test.YtgmdnkngnhkgbaaGreatB21
import Derived.Test.YtgmdnkngnhkgbaaGreatB38
namespace Go.Proofs.YtgmdnkngnhkgbaaGreat
open Go.RowKit
open Go.Value (int)
open Go.IntKind (i64)
set_option maxHeartbeats 64000000
set_option maxRecDepth 1000000
theorem zgd (kind:Int)(own:ByteArray)(name:Int)(a:Option Addr)(lgn b:Nat)(lg:Nat->Int)(pe len hei cl:Int)(all:Bool)(be unt now:Int)(w:World)(c:¬ In kind 1 9) :
  Calls Tryz.prog 122 #[.agg #[int i64 kind,.string own,int i64 name,.slice a lgn b,int i64 pe,int i64 len,int i64 hei,int i64 cl,.bool all,int i64 be,int i64 unt,int i64 now]] w fun e w'=>e=.returned (.bool (decide (QZ ⟨kind,own,name,lgn,lg,pe,len,hei,cl,all,be,unt,now⟩)))/\Below w.heap.size w w':=by
 rw[decide_eq_false (show ¬ QZ ⟨kind,own,name,lgn,lg,pe,len,hei,cl,all,be,unt,now⟩ from fun h=>c h.1)]
 have x9:decide (In kind 1 9)=false:=decide_eq_false c;clear c;go_enter Tryz.func122,Tryz.ntmps122;go_wp2_with (first|(go_at_call 45;refine sC (zo _ _ _ _) ?_))
 go_ret;exact⟨rfl,zl bZ _⟩
theorem zgP (cs:List Value)(x:OpD)(w:World)(c:x.own.size<=1000000000000000)(h:OpD.Is w cs x) :
  Calls Tryz.prog 122 #[.agg cs.toArray] w fun e w'=>e=.returned (.bool (decide (QZ x)))/\Below w.heap.size w w':=by
 obtain⟨a,b,rfl,_,_⟩:=h;obtain⟨kind,own,name,lgn,lg,pe,len,hei,cl,all,be,unt,now⟩:=x
 by_cases k9:In kind 1 9
 ·have d:kind=1∨kind=2∨kind=3∨kind=4∨kind=5∨kind=6∨kind=7∨kind=8∨kind=9:=by unfold In at k9;omega
  rcases d with rfl|rfl|rfl|rfl|rfl|rfl|rfl|rfl|rfl
  ·exact specOp_1 own name a lgn b lg pe len hei cl all be unt now w c
  ·exact specOp_2 own name a lgn b lg pe len hei cl all be unt now w c
  ·exact specOp_3 own name a lgn b lg pe len hei cl all be unt now w c
  ·exact specOp_4 own name a lgn b lg pe len hei cl all be unt now w c
  ·exact specOp_5 own name a lgn b lg pe len hei cl all be unt now w c
  ·exact specOp_6 own name a lgn b lg pe len hei cl all be unt now w c
  ·exact specOp_7 own name a lgn b lg pe len hei cl all be unt now w c
  ·exact specOp_8 own name a lgn b lg pe len hei cl all be unt now w c
  ·exact specOp_9 own name a lgn b lg pe len hei cl all be unt now w c
 ·exact zgd kind own name a lgn b lg pe len hei cl all be unt now w k9
def Qf (N:Nat)(x:Off)(y:OpD):Prop:=(zO y.kind/\¬ Qz N x.sa y.lgn y.lg)∨(y.kind=9/\zH x.sa (y.lg 0) N=N)
def ZE (N R m:Nat)(x:Off)(y:OpD)(code:Int):Prop :=
 (¬ QZ y->code=1)/\(QZ y->Qf N x y->code=2)/\(QZ y->¬ Qf N x y->In y.kind 4 8->zbR R m x y code)/\(QZ y->¬ Qf N x y->¬ In y.kind 4 8->code=0)
theorem zge (b t s k:Option Addr)(N M R d A z j m:Nat)(x:Off)(y:OpD)(w:World)(hN:N<=1048576)(hR:R<=1048576)(hl:y.lgn<=1048576)(ho:y.own.size<=1000000000000000)(hz:SailsAt w b N x.sa)(a5:qK w s R x.bk)(a2:OpD.Is w [int i64 y.kind,.string y.own,int i64 y.name,.slice k y.lgn j,int i64 y.pe,int i64 y.len,int i64 y.hei,int i64 y.cl,.bool y.all,int i64 y.be,int i64 y.unt,int i64 y.now] y)(hm:QZ y->In y.kind 4 8->y.name=(m:Int)+1/\m<=1048576) :
  Calls Tryz.prog 116 #[.agg #[.slice b N d,.slice t M A,.slice s R z],.agg #[int i64 y.kind,.string y.own,int i64 y.name,.slice k y.lgn j,int i64 y.pe,int i64 y.len,int i64 y.hei,int i64 y.cl,.bool y.all,int i64 y.be,int i64 y.unt,int i64 y.now]] w fun e w'=>(∃ code:Int,e=.returned (int i64 code)/\ZE N R m x y code)/\Below w.heap.size w w':=by
 have HM:=hI hm;clear hm;have Y:=hI a5;have HZ:=hI hz;have b0:=hI a2;have a3:Hid (zX w k y.lgn y.lg):=by
  obtain⟨a,c,e,h,_⟩:=a2;simp only[List.cons.injEq,Value.slice.injEq] at e;obtain⟨_,_,_,⟨rfl,_,_⟩,_⟩:=e;exact h
 clear a5 hz a2;have S:Below w.heap.size w ((w.alloc (.cells #[.slice b N d,.slice t M A,.slice s R z] 27)).alloc (.cells #[int i64 y.kind,.string y.own,int i64 y.name,.slice k y.lgn j,int i64 y.pe,int i64 y.len,int i64 y.hei,int i64 y.cl,.bool y.all,int i64 y.be,int i64 y.unt,int i64 y.now] 120)):=zl (zl bZ _) _;have bF:((w.alloc (.cells #[.slice b N d,.slice t M A,.slice s R z] 27)).alloc (.cells #[int i64 y.kind,.string y.own,int i64 y.name,.slice k y.lgn j,int i64 y.pe,int i64 y.len,int i64 y.hei,int i64 y.cl,.bool y.all,int i64 y.be,int i64 y.unt,int i64 y.now] 120)).heap[w.heap.size]?=some (.cells #[.slice b N d,.slice t M A,.slice s R z] 27 (0,0)):=zc (heap_alloc_new w _) _;have bO:((w.alloc (.cells #[.slice b N d,.slice t M A,.slice s R z] 27)).alloc (.cells #[int i64 y.kind,.string y.own,int i64 y.name,.slice k y.lgn j,int i64 y.pe,int i64 y.len,int i64 y.hei,int i64 y.cl,.bool y.all,int i64 y.be,int i64 y.unt,int i64 y.now] 120)).heap[w.heap.size+1]?=some (.cells #[int i64 y.kind,.string y.own,int i64 y.name,.slice k y.lgn j,int i64 y.pe,int i64 y.len,int i64 y.hei,int i64 y.cl,.bool y.all,int i64 y.be,int i64 y.unt,int i64 y.now] 120 (0,0)):=by simpa using heap_alloc_new (w.alloc (.cells #[.slice b N d,.slice t M A,.slice s R z] 27)) _
 go_enter Tryz.func116,Tryz.ntmps116;go_upto_region 1 with fail;generalize (w.alloc (.cells #[.slice b N d,.slice t M A,.slice s R z] 27)).alloc (.cells #[int i64 y.kind,.string y.own,int i64 y.name,.slice k y.lgn j,int i64 y.pe,int i64 y.len,int i64 y.hei,int i64 y.cl,.bool y.all,int i64 y.be,int i64 y.unt,int i64 y.now] 120)=V at S bF bO ⊢;obtain⟨o0,o1,o2,o3,o4,o5,o6,o7,o8,o9,b6,b7⟩:=ce12 bO;obtain⟨q,hq⟩:∃ q:Bool,q=decide (QZ y):=⟨_,rfl⟩;have cg:=zgP [int i64 y.kind,.string y.own,int i64 y.name,.slice k y.lgn j,int i64 y.pe,int i64 y.len,int i64 y.hei,int i64 y.cl,.bool y.all,int i64 y.be,int i64 y.unt,int i64 y.now] y V ho (b0.out.below S);rw[← hq] at cg;have HQ:Hid (q=true↔QZ y):=by rw[hq];exact decide_eq_true_iff
 clear hq;go_wp2_with fail;refine cg.mono ?_;clear cg;rintro e H ⟨rfl,T⟩;have G:=zb bO T;have I:=zb bF T;have B:=hI (zf S T);clear o0 o1 o2 o3 o4 o5 o6 o7 o8 o9 b6 b7 bO bF S T
 cases q with
 | false =>
  have W:¬ QZ y:=fun h=>by have:=HQ.out.2 h;cases this
  have C:Hid (ZE N R m x y 1):=⟨fun _=>rfl,fun h=>absurd h W,fun h=>absurd h W,fun h=>absurd h W⟩
  clear W;go_wp2;go_ret;exact⟨⟨1,rfl,C.out⟩,B.out⟩
 | true =>
  have p:Hid (QZ y):=by first|exact HQ.out.1 rfl|exact HQ.out.1 trivial
  have o0:=za G 0 _ rfl;have o3:=za G 3 _ rfl;have f0:=za I 0 _ rfl
  by_cases hL:zO y.kind
  ·have dL:decide (zO y.kind)=true:=decide_eq_true hL
   have k9:(y.kind == 9)=false:=by rw[beq_eq_false_iff_ne];unfold zO at hL;omega
   go_wp2_with (go_at_call 99;refine sC (zL _ _) ?_);refine(zcF b k N y.lgn d j x.sa y.lg _ hN hl (HZ.out.below B.out) (a3.out.below B.out)).mono ?_;rintro e w2 ⟨⟨r,rfl,hr⟩,U⟩;have i:=zb G U;have l:=zb I U;have o:=hI (zf B.out U);have Z:=hI hr;clear o0 o3 f0 G I B U hr dL
   cases r with
   | false =>
    have C:Hid (ZE N R m x y 2):=by
     have Q:Qf N x y:=.inl ⟨hL,fun h=>by have:=Z.out.2 h;cases this⟩
     exact⟨fun h=>absurd p.out h,fun _ _=>rfl,fun _ h=>absurd Q h,fun _ h=>absurd Q h⟩
    clear hL;go_wp2;go_ret;exact⟨⟨2,rfl,C.out⟩,o.out⟩
   | true =>
    have D:Hid (¬ Qf N x y):=by
     rintro(⟨_,h⟩|⟨h,_⟩)
     ·exact h (by first|exact Z.out.1 rfl|exact Z.out.1 trivial)
     ·unfold zO at hL;omega
    clear hL;have u0:∀ h:zv w2,h.val.cell? ⟨w.heap.size+1,0,none⟩=some (int i64 y.kind):=fun h=>za (zb i h.bel) 0 _ rfl
    have u3:∀ h:zv w2,h.val.cell? ⟨w.heap.size+1,3,none⟩=some (.slice k y.lgn j):=fun h=>za (zb i h.bel) 3 _ rfl
    have v0:∀ h:zv w2,h.val.cell? ⟨w.heap.size,0,none⟩=some (.slice b N d):=fun h=>za (zb l h.bel) 0 _ rfl
    go_upto_region 5 with fail;refine zg (by kernel_rfl) (by kernel_rfl) ?_
    repeat(first|go_big_quiet_skip|(go_big_quiet_want;go_big_quiet_op;first|go_big_quiet_on))
    refine wpQuiet_nil ?_;rintro _ ⟨g,rfl⟩;have n:=zb i g.bel;have u:=zb l g.bel;have f:=hI (zf o.out g.bel);generalize g.val=w3 at n u f ⊢;clear u0 u3 v0 i l o
    by_cases hn:In y.kind 4 8
    ·have K:decide (In y.kind 4 8)=true:=decide_eq_true hn
     obtain⟨p0,p1,p2,p3,p4,p5,p6,p7,p8,p9,a7,a8⟩:=ce12 n;obtain⟨s0,s1,s2⟩:=ce3 u;have E:=hI (HM.out p.out hn);go_wp2_with (go_at_call 100;refine sC (zF _ _) ?_);refine(QD b t s k N M R d A z j m x y w3 hR E.out.2 E.out.1 (Y.out.below f.out)).mono ?_;rintro e w4 ⟨⟨code,rfl,F⟩,L⟩;have C:Hid (ZE N R m x y code):=⟨fun h=>absurd p.out h,fun _ h=>absurd h D.out,fun _ _ _=>F,fun _ _ h=>absurd hn h⟩
     have J:=hI (zf f.out L);clear F;go_wp2;go_ret;exact⟨⟨code,rfl,C.out⟩,J.out⟩
    ·have K:decide (In y.kind 4 8)=false:=decide_eq_false hn
     have p0:=za n 0 _ rfl;have C:Hid (ZE N R m x y 0):=⟨fun h=>absurd p.out h,fun _ h=>absurd h D.out,fun _ _ h=>absurd h hn,fun _ _ _=>rfl⟩
     go_wp2_with (go_at_call 100;refine sC (zF _ _) ?_);go_ret;exact⟨⟨0,rfl,C.out⟩,f.out⟩
  ·have dL:decide (zO y.kind)=false:=decide_eq_false hL
   have i:=G;have l:=I;have o:=hI B
   by_cases h9:y.kind=9
   ·have a6:y.lgn=1:=by
     have h:=p.out.2.2.2.1;unfold zY at h;rw[if_neg hL,if_pos h9] at h;exact h
    have k9:(y.kind == 9)=true:=by rw[beq_iff_eq];exact h9
    have H9:=hI h9;obtain⟨gb,go,b5,a1⟩:=a3.out 0 (by omega)
    subst b5;have i0:(0:Int)<(y.lgn:Int):=by omega
    have b9:0<y.lgn:=by omega
    have z0:∀ h:zv H,h.val.cell? ⟨gb,go,none⟩=some (int i64 (y.lg 0)):=fun h=>((zf B.out h.bel).cell (World.block_lt_of_cell? w _ a1)).trans a1
    clear G I B a1;have a9:=hI hL;have b8:=hI a6;clear hL h9 a6;obtain⟨fi,a0⟩:∃ fi,fi=zH x.sa (y.lg 0) N:=⟨_,rfl⟩;have P:=hI a0
    by_cases hfx:fi<N
    ·have D:Hid (¬ Qf N x y):=by
      rintro(⟨h,_⟩|⟨_,h⟩)
      ·exact a9.out h
      ·have e:=P.out;omega
     have X:Hid (∀ g:zv H,Calls Tryz.prog 87 #[.slice b N d,int i64 (y.lg 0)] g.val fun e O=>e=.returned (int i64 (fi:Int))/\∃ g':zv H,O=g'.val):=fun g=>zh (v:=int i64 (fi:Int)) ((Zr b N d x.sa (y.lg 0) g.val hN (HZ.out.below (zf o.out g.bel))).mono fun e O ⟨h,Q⟩=>by
      rw[← P.out] at h
      rcases h with⟨_,h⟩|⟨h,_⟩
      ·exact⟨h,Q⟩
      ·omega)
     have d9:decide ((fi:Int)<0)=false:=decide_eq_false (by omega)
     clear a0;go_upto_region 5 with(go_at_call 99;refine sC (zL _ _) ?_);clear o0 o3 f0 dL;have u0:∀ h:zv H,h.val.cell? ⟨w.heap.size+1,0,none⟩=some (int i64 y.kind):=fun h=>za (zb i h.bel) 0 _ rfl
     have u3:∀ h:zv H,h.val.cell? ⟨w.heap.size+1,3,none⟩=some (.slice (some ⟨gb,go,none⟩) y.lgn j):=fun h=>za (zb i h.bel) 3 _ rfl
     have v0:∀ h:zv H,h.val.cell? ⟨w.heap.size,0,none⟩=some (.slice b N d):=fun h=>za (zb l h.bel) 0 _ rfl
     refine zg (by kernel_rfl) (by kernel_rfl) ?_
     repeat(first|go_big_quiet_skip|(go_big_quiet_want;go_big_quiet_op;first|go_big_quiet_on|(apply Exists.intro;refine⟨fun g=>?_,?_⟩;(focus(go_at_call 87;exact X.out g));go_big_quiet_on)))
     refine wpQuiet_nil ?_;rintro _ ⟨g,rfl⟩;have n:=zb i g.bel;have u:=zb l g.bel;have f:=hI (zf o.out g.bel);generalize g.val=w3 at n u f ⊢;clear u0 u3 v0 z0 i l o
     by_cases hn:In y.kind 4 8
     ·have K:decide (In y.kind 4 8)=true:=decide_eq_true hn
      obtain⟨p0,p1,p2,p3,p4,p5,p6,p7,p8,p9,a7,a8⟩:=ce12 n;obtain⟨s0,s1,s2⟩:=ce3 u;have E:=hI (HM.out p.out hn);go_wp2_with (go_at_call 100;refine sC (zF _ _) ?_);refine(QD b t s (some ⟨gb,go,none⟩) N M R d A z j m x y w3 hR E.out.2 E.out.1 (Y.out.below f.out)).mono ?_;rintro e w4 ⟨⟨code,rfl,F⟩,L⟩;have C:Hid (ZE N R m x y code):=⟨fun h=>absurd p.out h,fun _ h=>absurd h D.out,fun _ _ _=>F,fun _ _ h=>absurd hn h⟩
      have J:=hI (zf f.out L);clear F;go_wp2;go_ret;exact⟨⟨code,rfl,C.out⟩,J.out⟩
     ·have K:decide (In y.kind 4 8)=false:=decide_eq_false hn
      have p0:=za n 0 _ rfl;have C:Hid (ZE N R m x y 0):=⟨fun h=>absurd p.out h,fun _ h=>absurd h D.out,fun _ _ h=>absurd h hn,fun _ _ _=>rfl⟩
      go_wp2_with (go_at_call 100;refine sC (zF _ _) ?_);go_ret;exact⟨⟨0,rfl,C.out⟩,f.out⟩
    ·have C:Hid (ZE N R m x y 2):=by
      have Q:Qf N x y:=.inr ⟨H9.out,by
       have e:=P.out;have h2:=zay x.sa (y.lg 0) N
       omega⟩
      exact⟨fun h=>absurd p.out h,fun _ _=>rfl,fun _ h=>absurd Q h,fun _ h=>absurd Q h⟩
     have X:Hid (∀ g:zv H,Calls Tryz.prog 87 #[.slice b N d,int i64 (y.lg 0)] g.val fun e O=>e=.returned (int i64 (-1))/\∃ g':zv H,O=g'.val):=fun g=>zh (v:=int i64 (-1)) ((Zr b N d x.sa (y.lg 0) g.val hN (HZ.out.below (zf o.out g.bel))).mono fun e O ⟨h,Q⟩=>by
      rw[← P.out] at h
      rcases h with⟨h,_⟩|⟨_,h⟩
      ·omega
      ·exact⟨h,Q⟩)
     clear a0;go_upto_region 5 with(go_at_call 99;refine sC (zL _ _) ?_);clear o0 o3 f0 dL;have u0:∀ h:zv H,h.val.cell? ⟨w.heap.size+1,0,none⟩=some (int i64 y.kind):=fun h=>za (zb i h.bel) 0 _ rfl
     have u3:∀ h:zv H,h.val.cell? ⟨w.heap.size+1,3,none⟩=some (.slice (some ⟨gb,go,none⟩) y.lgn j):=fun h=>za (zb i h.bel) 3 _ rfl
     have v0:∀ h:zv H,h.val.cell? ⟨w.heap.size,0,none⟩=some (.slice b N d):=fun h=>za (zb l h.bel) 0 _ rfl
     refine zg (by kernel_rfl) (by kernel_rfl) ?_
     repeat(first|go_big_quiet_skip|(go_big_quiet_want;go_big_quiet_op;first|go_big_quiet_on|(apply Exists.intro;refine⟨fun g=>?_,?_⟩;(focus(go_at_call 87;exact X.out g));go_big_quiet_on)))
     refine wpQuiet_nil ?_;rintro _ ⟨g,rfl⟩;have n:=zb i g.bel;have u:=zb l g.bel;have f:=hI (zf o.out g.bel);generalize g.val=w3 at n u f ⊢;clear u0 u3 v0 z0 i l o;go_wp2;go_ret;exact⟨⟨2,rfl,C.out⟩,f.out⟩
   ·have k9:(y.kind == 9)=false:=by rw[beq_eq_false_iff_ne];exact h9
    have D:Hid (¬ Qf N x y):=by
     rintro(⟨h,_⟩|⟨h,_⟩)
     ·exact hL h
     ·exact h9 h
    clear hL h9 G I B;go_upto_region 5 with(go_at_call 99;refine sC (zL _ _) ?_);clear o0 o3 f0 dL;have u0:∀ h:zv H,h.val.cell? ⟨w.heap.size+1,0,none⟩=some (int i64 y.kind):=fun h=>za (zb i h.bel) 0 _ rfl
    have u3:∀ h:zv H,h.val.cell? ⟨w.heap.size+1,3,none⟩=some (.slice k y.lgn j):=fun h=>za (zb i h.bel) 3 _ rfl
    have v0:∀ h:zv H,h.val.cell? ⟨w.heap.size,0,none⟩=some (.slice b N d):=fun h=>za (zb l h.bel) 0 _ rfl
    refine zg (by kernel_rfl) (by kernel_rfl) ?_
    repeat(first|go_big_quiet_skip|(go_big_quiet_want;go_big_quiet_op;first|go_big_quiet_on))
    refine wpQuiet_nil ?_;rintro _ ⟨g,rfl⟩;have n:=zb i g.bel;have u:=zb l g.bel;have f:=hI (zf o.out g.bel);generalize g.val=w3 at n u f ⊢;clear u0 u3 v0 i l o
    by_cases hn:In y.kind 4 8
    ·have K:decide (In y.kind 4 8)=true:=decide_eq_true hn
     obtain⟨p0,p1,p2,p3,p4,p5,p6,p7,p8,p9,a7,a8⟩:=ce12 n;obtain⟨s0,s1,s2⟩:=ce3 u;have E:=hI (HM.out p.out hn);go_wp2_with (go_at_call 100;refine sC (zF _ _) ?_);refine(QD b t s k N M R d A z j m x y w3 hR E.out.2 E.out.1 (Y.out.below f.out)).mono ?_;rintro e w4 ⟨⟨code,rfl,F⟩,L⟩;have C:Hid (ZE N R m x y code):=⟨fun h=>absurd p.out h,fun _ h=>absurd h D.out,fun _ _ _=>F,fun _ _ h=>absurd hn h⟩
     have J:=hI (zf f.out L);clear F;go_wp2;go_ret;exact⟨⟨code,rfl,C.out⟩,J.out⟩
    ·have K:decide (In y.kind 4 8)=false:=decide_eq_false hn
     have p0:=za n 0 _ rfl;have C:Hid (ZE N R m x y 0):=⟨fun h=>absurd p.out h,fun _ h=>absurd h D.out,fun _ _ h=>absurd h hn,fun _ _ _=>rfl⟩
     go_wp2_with (go_at_call 100;refine sC (zF _ _) ?_);go_ret;exact⟨⟨0,rfl,C.out⟩,f.out⟩
theorem l7Do_g (g base N R k a6 b7 e5:Nat)(e4 e3 e2:Option Addr)(leg who:Int)(p:ZO)(x:Off)(L C A B D E:Nat->Value)(w:World)(hq:w.heap[g]?=some (.cells #[.slice e4 N a6,.slice e3 N b7,.slice e2 R e5] 27 (0,0)))(ho:zy w base (.slice e4 N a6) (.slice e3 N b7) (.slice e2 R e5) N N R x L C A B D E)(hN:N<=1048576)(hk:zH x.sa leg N=k)(U:k<N)(g4:zV (x.sa k) (x.ld k))(hp:In p.pe 0 20) :
  Calls Tryz.prog 118 #[.pointer (some ⟨g,0,none⟩),.agg #[int i64 leg,int i64 2,.bool false,int i64 who,int i64 p.pe,int i64 p.len,int i64 p.hei,int i64 p.cl,.bool p.all,int i64 p.be]] w fun e w'=>zcl g base N R k a6 b7 e5 e4 e3 e2 ⟨leg,2,false,who,p⟩ x L C E w e w':=by
 obtain⟨i0,ii,d0,d5,d6⟩:=info_parts Tryz.infoSeat;obtain⟨F,rfl,h5,c8⟩:=own_addr ho.ld.row (by omega)
 have HO:=hI ho;have HK:=hI hk;have I:=hI g4;have g8:Hid (base<=w.heap.size):=by show base<=w.heap.size;omega
 have HQ:=hI hq;have d7:=hI ho.sa.at;obtain⟨cs,g3⟩:=zG ho.ld.row F rfl;obtain⟨b6,b9,eA,m1,m2,m3⟩:=zr (ho.ld.st k U);obtain⟨b5,b8,eB,m4,m5,m6⟩:=zr (ho.ld.ro k U);obtain⟨b,d,eD,m7,m8,m9⟩:=zr (ho.ld.se k U);have h2:Hid (w.ownsRow base 84 4 (.slice b6 (x.ld k).stn b9) (x.ld k).stn (zN (x.ld k).st (x.ld k).stn)):=by show w.ownsRow _ _ _ _ _ _;rw[← eA];exact ho.ld.st k U
 have h1:Hid (w.ownsRow base 93 4 (.slice b5 (x.ld k).ron b8) (x.ld k).ron (zK (x.ld k).ro (x.ld k).ron)):=by show w.ownsRow _ _ _ _ _ _;rw[← eB];exact ho.ld.ro k U
 have a3:Hid (w.ownsRow base 99 2 (.slice b (x.ld k).sen d) (x.ld k).sen (zJ (x.ld k).se (x.ld k).sen)):=by show w.ownsRow _ _ _ _ _ _;rw[← eD];exact ho.ld.se k U
 have f8:Hid (w.cell? ⟨F,k*3,none⟩=some (.slice b6 (x.ld k).stn b9)):=by
  have h:=zx ho.ld.row (k*3+0) (by omega) rfl
  rw[zz 3 _ k 0 (by decide)] at h
  rw[← eA];exact h
 have f9:Hid (w.cell? ⟨F,k*3+1,none⟩=some (.slice b5 (x.ld k).ron b8)):=by
  have h:=zx ho.ld.row (k*3+1) (by omega) rfl
  rw[zz 3 _ k 1 (by decide)] at h
  rw[← eB];exact h
 have d9:Hid (w.cell? ⟨F,k*3+2,none⟩=some (.slice b (x.ld k).sen d)):=by
  have h:=zx ho.ld.row (k*3+2) (by omega) rfl
  rw[zz 3 _ k 2 (by decide)] at h
  rw[← eD];exact h
 have g0:Hid ((b6=none->(x.ld k).stn=0/\b9=0)/\(b5=none->(x.ld k).ron=0/\b8=0)/\(b=none->(x.ld k).sen=0/\d=0)):=⟨m3,m6,m9⟩;obtain⟨s,c9⟩:∃ s,s=x.sa k:=⟨_,rfl⟩;obtain⟨l,e8⟩:∃ l,l=x.ld k:=⟨_,rfl⟩;rw[← e8] at h2 h1 a3 f8 f9 d9 g0 I;rw[← c9] at I;have e1:=hI c9;have a2:=hI e8;have h0:=hI g3;obtain⟨a,P,la,lc,ca,cc,rfl,f0,f1,f2,f3,f4,f5,f6,f7,e7,e6,g7,g6⟩:=d7.out k U;rw[← c9] at f0 f1 f2 f3 f4 f5 f6 f7 e7 e6 g7 g6;have i6:Hid (zT w la s.la/\zT w ca s.ca):=⟨e7,e6⟩;have g9:Hid (∀ W,Below w.heap.size w W->W.cell? ⟨a,P+k*8,none⟩=some (int i64 s.id)/\W.cell? ⟨a,P+k*8+1,none⟩=some (.string s.fr)/\W.cell? ⟨a,P+k*8+2,none⟩=some (.string s.dst)/\W.cell? ⟨a,P+k*8+3,none⟩=some (int i64 s.dep)/\W.cell? ⟨a,P+k*8+4,none⟩=some (int i64 s.arr)/\W.cell? ⟨a,P+k*8+5,none⟩=some (.slice la s.la.n lc)/\W.cell? ⟨a,P+k*8+6,none⟩=some (.slice ca s.ca.n cc)/\W.cell? ⟨a,P+k*8+7,none⟩=some (int i64 s.most)):=fun W hb=>by
  have O:=World.block_lt_of_cell? w _ f0;exact⟨(hb.cell (p:=⟨a,P+k*8,none⟩) O).trans f0,(hb.cell (p:=⟨a,P+k*8+1,none⟩) O).trans f1,(hb.cell (p:=⟨a,P+k*8+2,none⟩) O).trans f2,(hb.cell (p:=⟨a,P+k*8+3,none⟩) O).trans f3,(hb.cell (p:=⟨a,P+k*8+4,none⟩) O).trans f4,(hb.cell (p:=⟨a,P+k*8+5,none⟩) O).trans f5,(hb.cell (p:=⟨a,P+k*8+6,none⟩) O).trans f6,(hb.cell (p:=⟨a,P+k*8+7,none⟩) O).trans f7⟩
 clear f0 f1 f2 f3 f4 f5 f6 f7 e7 e6 g7 g6 c9 e8 g3 eA eB eD m1 m2 m3 m4 m5 m6 m7 m8 m9 g4 hk h5;have i1:(0:Int)<=(k:Int):=by omega
 have i2:(k:Int)<(N:Int):=by omega
 have a7:Below w.heap.size w (w.alloc (.cells #[int i64 leg,int i64 2,.bool false,int i64 who,int i64 p.pe,int i64 p.len,int i64 p.hei,int i64 p.cl,.bool p.all,int i64 p.be] 169)):=zl bZ _;have b0:=heap_alloc_new w (.cells #[int i64 leg,int i64 2,.bool false,int i64 who,int i64 p.pe,int i64 p.len,int i64 p.hei,int i64 p.cl,.bool p.all,int i64 p.be] 169);go_enter Tryz.func118,Tryz.ntmps118;go_upto_region 1 with fail;generalize (w.alloc (.cells #[int i64 leg,int i64 2,.bool false,int i64 who,int i64 p.pe,int i64 p.len,int i64 p.hei,int i64 p.cl,.bool p.all,int i64 p.be] 169))=W at a7 b0 ⊢;have z0:∀ G:zv W,G.val.cell? ⟨g,0,none⟩=some (.slice (some ⟨a,P,none⟩) N a6):=fun G=>za (zb HQ.out (zf a7 G.bel)) 0 _ rfl
 have z1:∀ G:zv W,G.val.cell? ⟨w.heap.size,0,none⟩=some (int i64 leg):=fun G=>za (zb b0 G.bel) 0 _ rfl
 refine zg (by kernel_rfl) (by kernel_rfl) ?_
 repeat(first|go_big_quiet_skip|(go_big_quiet_want;go_big_quiet_op;first|go_big_quiet_on|(apply Exists.intro;refine⟨fun G=>?_,?_⟩;(focus(first|(go_at_call 87;refine zh (v:=int i64 (k:Int)) ((Zr _ N a6 x.sa leg _ hN (d7.out.below (zf a7 G.bel))).mono ?_);rintro e w2 ⟨he,Q⟩;refine⟨?_,Q⟩;rw[HK.out] at he;rcases he with⟨_,rfl⟩|⟨h,_⟩;rfl;omega)));go_big_quiet_on)))
 refine wpQuiet_nil ?_;rintro _ ⟨G,rfl⟩;clear z0 z1;have a8:=zf a7 G.bel;have bW:=zb b0 G.bel;obtain⟨c0,c1,c2,c3,c4,c5,c6,c7⟩:=g9.out G.val a8;have y0:=za (zb HQ.out a8) 0 _ rfl;have y1:∀ o,(G.val.alloc o).cell? ⟨g,1,none⟩=some (.slice (some ⟨F,0,none⟩) N b7):=fun o=>za (zb HQ.out (zl a8 o)) 1 _ rfl
 have y4:∀ o,(G.val.alloc o).cell? ⟨w.heap.size,4,none⟩=some (int i64 p.pe):=fun o=>za (zc bW o) 4 _ rfl
 have y5:∀ o,(G.val.alloc o).cell? ⟨w.heap.size,5,none⟩=some (int i64 p.len):=fun o=>za (zc bW o) 5 _ rfl
 have y6:∀ o,(G.val.alloc o).cell? ⟨w.heap.size,6,none⟩=some (int i64 p.hei):=fun o=>za (zc bW o) 6 _ rfl
 have y7:∀ o,(G.val.alloc o).cell? ⟨w.heap.size,7,none⟩=some (int i64 p.cl):=fun o=>za (zc bW o) 7 _ rfl
 have y8:∀ o,(G.val.alloc o).cell? ⟨w.heap.size,8,none⟩=some (.bool p.all):=fun o=>za (zc bW o) 8 _ rfl
 have y9:∀ o,(G.val.alloc o).cell? ⟨w.heap.size,9,none⟩=some (int i64 p.be):=fun o=>za (zc bW o) 9 _ rfl
 go_upto_region 8 with fail;have i:Below w.heap.size w ((G.val.alloc (.cells #[int i64 s.id,.string s.fr,.string s.dst,int i64 s.dep,int i64 s.arr,.slice la s.la.n lc,.slice ca s.ca.n cc,int i64 s.most] 33)).alloc (.cells #[int i64 p.pe,int i64 p.len,int i64 p.hei,int i64 p.cl,.bool p.all,int i64 p.be] 41)):=zl (zl a8 _) _;have r:=zc (zc bW (.cells #[int i64 s.id,.string s.fr,.string s.dst,int i64 s.dep,int i64 s.arr,.slice la s.la.n lc,.slice ca s.ca.n cc,int i64 s.most] 33)) (.cells #[int i64 p.pe,int i64 p.len,int i64 p.hei,int i64 p.cl,.bool p.all,int i64 p.be] 41);have Z:=zc (heap_alloc_new G.val (.cells #[int i64 s.id,.string s.fr,.string s.dst,int i64 s.dep,int i64 s.arr,.slice la s.la.n lc,.slice ca s.ca.n cc,int i64 s.most] 33)) (.cells #[int i64 p.pe,int i64 p.len,int i64 p.hei,int i64 p.cl,.bool p.all,int i64 p.be] 41);have y:=zbZ G.val (.cells #[int i64 s.id,.string s.fr,.string s.dst,int i64 s.dep,int i64 s.arr,.slice la s.la.n lc,.slice ca s.ca.n cc,int i64 s.most] 33) (.cells #[int i64 p.pe,int i64 p.len,int i64 p.hei,int i64 p.cl,.bool p.all,int i64 p.be] 41);generalize hx0:(G.val.alloc (.cells #[int i64 s.id,.string s.fr,.string s.dst,int i64 s.dep,int i64 s.arr,.slice la s.la.n lc,.slice ca s.ca.n cc,int i64 s.most] 33)).alloc (.cells #[int i64 p.pe,int i64 p.len,int i64 p.hei,int i64 p.cl,.bool p.all,int i64 p.be] 41)=X at i r Z y ⊢;generalize hsb:G.val.heap.size=sb at Z y ⊢;clear c0 c1 c2 c3 c4 c5 c6 c7 y0 y1 y4 y5 y6 y7 y8 y9 bW a8 a7 b0 hx0 hsb G W;have w1:=za r 1 _ rfl;have w2:=za r 2 _ rfl;have w3:=za r 3 _ rfl;have L0:X.cell? ⟨F,k*3,none⟩=some (.slice b6 l.stn b9):=(i.cell (p:=⟨F,k*3,none⟩) c8).trans f8.out;have L1:X.cell? ⟨F,k*3+1,none⟩=some (.slice b5 l.ron b8):=(i.cell (p:=⟨F,k*3+1,none⟩) c8).trans f9.out;have L2:X.cell? ⟨F,k*3+2,none⟩=some (.slice b l.sen d):=(i.cell (p:=⟨F,k*3+2,none⟩) c8).trans d9.out;have bG:=zb h0.out i;unfold In at hp;have V:l.sen<=60:=I.out.2.2.2.1;have g5:=zaY l.se l.sen (fun j hj=>(I.out.2.2.2.2.1 j hj).2.2)
 obtain⟨q,e9⟩:∃ q,q=ZD l.se l.sen:=⟨_,rfl⟩;rw[← e9] at g5;have a5:=hI e9;clear e9;have i7:IntKind.i64.wrap (q+p.pe)=q+p.pe:=by rw[IntKind.wrap_i64];omega
 have s6:∀ G:zv X,G.val.cell? ⟨F,k*3+2,none⟩=some (.slice b l.sen d):=fun G=>(G.bel.cell (p:=⟨F,k*3+2,none⟩) (zQ bG)).trans L2
 have s7:∀ G:zv X,G.val.cell? ⟨sb,7,none⟩=some (int i64 s.most):=fun G=>za (zb Z G.bel) 7 _ rfl
 have p0:∀ G:zv X,G.val.cell? ⟨sb+1,0,none⟩=some (int i64 p.pe):=fun G=>za (zb y G.bel) 0 _ rfl
 go_upto_region 5 with fail
 by_cases h60:l.sen=60
 ·have h3:(l.sen == 60)=true:=by simpa using h60
  have h4:((l.sen:Int) == 60)=true:=by simp;omega
  have d8:=hI h60;clear h60;refine zg (by kernel_rfl) (by kernel_rfl) ?_
  repeat(first|go_big_quiet_skip|(go_big_quiet_want;go_big_quiet_op;first|go_big_quiet_on|(apply Exists.intro;refine⟨fun G=>?_,?_⟩;(focus(first|(go_at_call 52;refine zh (v:=int i64 q) ((zao b l.sen d l.se _ V (fun j hj=>(I.out.2.2.2.2.1 j hj).2.2) ((ZK a3.out).below (zf i G.bel))).mono ?_);rintro e w2 ⟨rfl,Q⟩;exact⟨by rw[a5.out],Q⟩)));go_big_quiet_on)))
  refine wpQuiet_nil ?_;rintro _ ⟨G,rfl⟩;have m:=zf i G.bel;have a0:=zb r G.bel;have Y:=zb y G.bel;have J:=zb bG G.bel;clear w1 w2 w3 L0 L1 L2 s6 s7 p0;generalize G.val=H at m a0 Y J ⊢;clear i r Z y bG G X;have HF:Hid _:=doNo (k:=k) (code:=7) (v:=⟨leg,2,false,who,p⟩) HO.out HQ.out m (by
   refine .seats rfl rfl ?_;rw[← e1.out,← a2.out];exact .inl d8.out)
  go_wp2;go_ret;exact HF.out
 have h3:(l.sen == 60)=false:=by simpa using h60
 have h4:((l.sen:Int) == 60)=false:=by simp;omega
 have d8:=hI h60;clear h60
 by_cases hm:s.most<q+p.pe
 ·have d1:decide (s.most<q+p.pe)=true:=decide_eq_true hm
  have HM:=hI hm;clear hm;refine zg (by kernel_rfl) (by kernel_rfl) ?_
  repeat(first|go_big_quiet_skip|(go_big_quiet_want;go_big_quiet_op;first|go_big_quiet_on|(apply Exists.intro;refine⟨fun G=>?_,?_⟩;(focus(first|(go_at_call 52;refine zh (v:=int i64 q) ((zao b l.sen d l.se _ V (fun j hj=>(I.out.2.2.2.2.1 j hj).2.2) ((ZK a3.out).below (zf i G.bel))).mono ?_);rintro e w2 ⟨rfl,Q⟩;exact⟨by rw[a5.out],Q⟩)));go_big_quiet_on)))
  refine wpQuiet_nil ?_;rintro _ ⟨G,rfl⟩;have m:=zf i G.bel;have a0:=zb r G.bel;have Y:=zb y G.bel;have J:=zb bG G.bel;clear w1 w2 w3 L0 L1 L2 s6 s7 p0;generalize G.val=H at m a0 Y J ⊢;clear i r Z y bG G X;have HF:Hid _:=doNo (k:=k) (code:=7) (v:=⟨leg,2,false,who,p⟩) HO.out HQ.out m (by
   refine .seats rfl rfl ?_;rw[← e1.out,← a2.out];exact .inr (by rw[← a5.out];exact HM.out))
  go_wp2;go_ret;exact HF.out
 have d1:decide (s.most<q+p.pe)=false:=decide_eq_false hm;have HM:=hI hm;clear hm;refine zg (by kernel_rfl) (by kernel_rfl) ?_
 repeat(first|go_big_quiet_skip|(go_big_quiet_want;go_big_quiet_op;first|go_big_quiet_on|(apply Exists.intro;refine⟨fun G=>?_,?_⟩;(focus(first|(go_at_call 52;refine zh (v:=int i64 q) ((zao b l.sen d l.se _ V (fun j hj=>(I.out.2.2.2.2.1 j hj).2.2) ((ZK a3.out).below (zf i G.bel))).mono ?_);rintro e w2 ⟨rfl,Q⟩;exact⟨by rw[a5.out],Q⟩)));go_big_quiet_on)))
 refine wpQuiet_nil ?_;rintro _ ⟨G,rfl⟩;have m:=zf i G.bel;have a0:=zb r G.bel;have Y:=zb y G.bel;have J:=zb bG G.bel;clear w1 w2 w3 L0 L1 L2 s6 s7 p0;generalize G.val=H at m a0 Y J ⊢;clear i r Z y bG G X;go_upto_region 7 with fail;have HN:=hI g0.out.2.2;have e0:Hid (∀ z,Below H.heap.size H z->qx z b l.sen l.se):=fun z h=>(ZK a3.out).below (zf m h)
 have V:l.sen<=60:=I.out.2.2.2.1;have g1:H.cell? ⟨F,k*3+2,none⟩=some (.slice b l.sen d):=(m.cell (p:=⟨F,k*3+2,none⟩) c8).trans d9.out;have KS:Hid (∀ z,Below H.heap.size H z->(z.cell? ⟨w.heap.size,3,none⟩=some (int i64 who)/\z.cell? ⟨sb+1,0,none⟩=some (int i64 p.pe))/\z.cell? ⟨F,k*3+2,none⟩=some (.slice b l.sen d)):=fun z h=>⟨⟨za (zb a0 h) 3 _ rfl,za (zb Y h) 0 _ rfl⟩,(h.cell (p:=⟨F,k*3+2,none⟩) (zQ J)).trans g1⟩
 refine qt 16 17 (fun w'=>(w'.cell? ⟨w.heap.size,3,none⟩=some (int i64 who)/\w'.cell? ⟨sb+1,0,none⟩=some (int i64 p.pe))/\w'.cell? ⟨F,k*3+2,none⟩=some (.slice b l.sen d)) rfl (by kernel_rfl) (KS.out _ (Below.drew bZ)) (fun hS=>?_)
 simp only[List.replicate_succ,List.replicate_zero]
 (refine tkL 0 (v:=?_) rfl (by kernel_rfl) (fun _ _ _ h=>h) rfl (by assumption) ?_ ?_;rotate_left;(focus(intro w' h;(try dsimp only at h);go_simp;try with_reducible rfl));simp only[Act.put,sB,sZ,sS])
 (refine tkL 2 (v:=?_) rfl (by kernel_rfl) (fun _ _ _ h=>h) rfl (by assumption) ?_ ?_;rotate_left;(focus(intro w' h;(try dsimp only at h);go_simp;try with_reducible rfl));simp only[Act.put,sB,sZ,sS])
 (refine tkL 3 (v:=?_) rfl (by kernel_rfl) (fun _ _ _ h=>h) rfl (by assumption) ?_ ?_;rotate_left;(focus(intro w' h;(try dsimp only at h);go_simp;try with_reducible rfl));simp only[Act.put,sB,sZ,sS])
 (refine tkL 4 (v:=?_) rfl (by kernel_rfl) (fun _ _ _ h=>h) rfl (by assumption) ?_ ?_;rotate_left;(focus(intro w' h;(try dsimp only at h);go_simp;try with_reducible rfl));simp only[Act.put,sB,sZ,sS])
 (refine tkL 5 (v:=?_) rfl (by kernel_rfl) (fun _ _ _ h=>h) rfl (by assumption) ?_ ?_;rotate_left;(focus(intro w' h;(try dsimp only at h);go_simp;try with_reducible rfl));simp only[Act.put,sB,sZ,sS])
 (refine tkL 7 (v:=?_) rfl (by kernel_rfl) (fun _ _ _ h=>h) rfl (by assumption) ?_ ?_;rotate_left;(focus(intro w' h;(try dsimp only at h);go_simp;try with_reducible rfl));simp only[Act.put,sB,sZ,sS])
 (refine tkL 8 (v:=?_) rfl (by kernel_rfl) (fun _ _ _ h=>h) rfl (by assumption) ?_ ?_;rotate_left;(focus(intro w' h;(try dsimp only at h);go_simp;try with_reducible rfl));simp only[Act.put,sB,sZ,sS])
 (refine tkL 9 (v:=?_) rfl (by kernel_rfl) (fun _ _ _ h=>h) rfl (by assumption) ?_ ?_;rotate_left;(focus(intro w' h;(try dsimp only at h);go_simp;try with_reducible rfl));simp only[Act.put,sB,sZ,sS])
 (refine tkL 10 (v:=?_) rfl (by kernel_rfl) (fun _ _ _ h=>h) rfl (by assumption) ?_ ?_;rotate_left;(focus(intro w' h;(try dsimp only at h);go_simp;try with_reducible rfl));simp only[Act.put,sB,sZ,sS])
 (refine tkL 11 (v:=?_) rfl (by kernel_rfl) (fun _ _ _ h=>h) rfl (by assumption) ?_ ?_;rotate_left;(focus(intro w' h;(try dsimp only at h);go_simp;try with_reducible rfl));simp only[Act.put,sB,sZ,sS])
 refine zj (rs:=[1,12]) (by kernel_rfl) (by simp) ?_
 refine zd.consL rfl (fun K f=>?_) (zd.consL rfl (fun K f=>?_) zd.nil)
 focus
  go_simp;refine f.out _ _ (KS.out _ (by repeat(first|exact c.out|exact bZ|refine Below.drew ?_|refine zl ?_ _))) (fun hS=>?_)
  clear f K;simp only[sZ,sS];refine zj (rs:=[6,12]) (by kernel_rfl) (by simp) ?_
  refine zd.consL rfl (fun K f=>?_) (zd.consL rfl (fun K f=>?_) zd.nil)
  focus
   refine zD (by rfl) (.tmp 60) (.tmp 64) 53 (by rfl) 99 i0 (.agg #[int i64 0,int i64 0]) 2 16 Tryz.underlying53 ii d0 d5 d6 rfl (by decide) H.heap.size _ (by rfl) (by first|exact Nat.le_refl _|omega|(simp;done)|(simp;omega)) (by repeat(first|((with_reducible refine qI _ _ _ ?_);(first|rfl|(simp;done)))|with_reducible refine zE ?_|with_reducible refine zc ?_ _)) b l.sen d (zJ l.se l.sen) (by rfl) HN.out (ZS _ _) (zae (e0.out _ (by repeat(first|exact bZ|refine Below.drew ?_|refine zl ?_ _)))) (QK _ _) (by unfold maxLen;omega) (by omega) ?_;intro p1 q1 u1 S a1 M;clear M;have c:Hid (Below H.heap.size H u1):=(by show Below _ _ _;refine zf ?_ (zm S);exact(by repeat(first|exact bZ|refine Below.drew ?_|refine zl ?_ _)));refine f.out _ _ (KS.out _ c.out) (fun hS=>?_)
   clear f K;simp only[Act.put,sB,sZ,sS];refine zj (rs:=[12]) (by kernel_rfl) (by simp) ?_
   refine zd.consL rfl (fun K f=>?_) zd.nil
   focus
    go_simp;refine f.out _ _ (KS.out _ (by repeat(first|exact c.out|exact bZ|refine Below.drew ?_|refine zl ?_ _))) (fun hS=>?_)
    clear f K;simp only[sZ,sS]
  rotate_left 1
  focus
   go_simp;refine f.out _ _ (KS.out _ (by repeat(first|exact c.out|exact bZ|refine Below.drew ?_|refine zl ?_ _))) (fun hS=>?_)
   clear f K;simp only[sZ,sS];refine zj (rs:=[6]) (by kernel_rfl) (by simp) ?_
   refine zd.consL rfl (fun K f=>?_) zd.nil
   focus
    refine zD (by rfl) (.tmp 60) (.tmp 64) 53 (by rfl) 99 i0 (.agg #[int i64 0,int i64 0]) 2 16 Tryz.underlying53 ii d0 d5 d6 rfl (by decide) H.heap.size _ (by rfl) (by first|exact Nat.le_refl _|omega|(simp;done)|(simp;omega)) (by repeat(first|((with_reducible refine qI _ _ _ ?_);(first|rfl|(simp;done)))|with_reducible refine zE ?_|with_reducible refine zc ?_ _)) b l.sen d (zJ l.se l.sen) (by rfl) HN.out (ZS _ _) (zae (e0.out _ (by repeat(first|exact bZ|refine Below.drew ?_|refine zl ?_ _)))) (QK _ _) (by unfold maxLen;omega) (by omega) ?_;intro p1 q1 u1 S a1 M;clear M;have c:Hid (Below H.heap.size H u1):=(by show Below _ _ _;refine zf ?_ (zm S);exact(by repeat(first|exact bZ|refine Below.drew ?_|refine zl ?_ _)));refine f.out _ _ (KS.out _ c.out) (fun hS=>?_)
    clear f K;simp only[Act.put,sB,sZ,sS]
 rotate_left 2
 focus
  go_simp;refine f.out _ _ (KS.out _ (by repeat(first|exact c.out|exact bZ|refine Below.drew ?_|refine zl ?_ _))) (fun hS=>?_)
  clear f K;simp only[sZ,sS];refine zj (rs:=[1]) (by kernel_rfl) (by simp) ?_
  refine zd.consL rfl (fun K f=>?_) zd.nil
  focus
   go_simp;refine f.out _ _ (KS.out _ (by repeat(first|exact c.out|exact bZ|refine Below.drew ?_|refine zl ?_ _))) (fun hS=>?_)
   clear f K;simp only[sZ,sS];refine zj (rs:=[6]) (by kernel_rfl) (by simp) ?_
   refine zd.consL rfl (fun K f=>?_) zd.nil
   focus
    refine zD (by rfl) (.tmp 60) (.tmp 64) 53 (by rfl) 99 i0 (.agg #[int i64 0,int i64 0]) 2 16 Tryz.underlying53 ii d0 d5 d6 rfl (by decide) H.heap.size _ (by rfl) (by first|exact Nat.le_refl _|omega|(simp;done)|(simp;omega)) (by repeat(first|((with_reducible refine qI _ _ _ ?_);(first|rfl|(simp;done)))|with_reducible refine zE ?_|with_reducible refine zc ?_ _)) b l.sen d (zJ l.se l.sen) (by rfl) HN.out (ZS _ _) (zae (e0.out _ (by repeat(first|exact bZ|refine Below.drew ?_|refine zl ?_ _)))) (QK _ _) (by unfold maxLen;omega) (by omega) ?_;intro p1 q1 u1 S a1 M;clear M;have c:Hid (Below H.heap.size H u1):=(by show Below _ _ _;refine zf ?_ (zm S);exact(by repeat(first|exact bZ|refine Below.drew ?_|refine zl ?_ _)));refine f.out _ _ (KS.out _ c.out) (fun hS=>?_)
    clear f K;simp only[Act.put,sB,sZ,sS]
 all_goals
  refine zj (rs:=[13]) (by kernel_rfl) (by simp) ?_
  refine zd.consL rfl (fun K f=>?_) zd.nil
  refine step_append_lies _ (by rfl) (.tmp 65) (.tmp 71) 53 (by rfl) H.heap.size 99 i0 (.agg #[int i64 0,int i64 0]) 2 16 Tryz.underlying53 ii d0 d5 d6 rfl (by decide) _ l.sen (zJ l.se l.sen) (by rfl) (by first|exact a1|exact a1.alloc _|exact zp (zl bZ _) a1) _ 1 1 [int i64 who,int i64 p.pe] (by rfl) (by rfl) (by refine World.news_of_block (cs:=#[int i64 who,int i64 p.pe]) (t:=99) (fr:=(0,0)) ?_;exact(by repeat(first|((with_reducible refine qI _ _ _ ?_);(first|rfl|(simp;done)))|with_reducible refine zE ?_|with_reducible refine zc ?_ _|with_reducible refine zb ?_ (zm S)))) (by intro u hu;simp at hu;rcases hu with rfl|rfl <;> rfl) (by decide) (by unfold maxLen;omega) (by omega) (by first|exact c.out.size|(have:=c.out.size;simp;omega)) _ rfl ?_;intro g2 i3 u2 h9 h6 i4 i5;refine(fun (a9:Hid (Below H.heap.size H u2))=>?_) (Below.grown ?_ h6 ?_ (fun j hj=>(a1.lt j hj).1));rotate_left;(focus(repeat(first|exact bZ|refine Below.drew ?_|refine zl ?_ _|refine zf ?_ (zm S))));(focus(first|exact c.out.size|(have:=c.out.size;simp;omega)));have q0:=(a9.out.cell (p:=⟨F,k*3+2,none⟩) (zQ J)).trans g1;have q1:=ze (zb J a9.out) (k*3+2);refine f.out _ _ (KS.out _ a9.out) (fun hS=>?_)
  clear f K;simp only[Act.put,sB,sZ,sS]
  (refine tkL 14 (v:=?_) rfl (by kernel_rfl) (fun _ _ _ h=>h) rfl (by assumption) ?_ ?_;rotate_left;(focus(intro w' h;(try dsimp only at h);go_simp;try with_reducible rfl));simp only[Act.put,sB,sZ,sS])
  (refine tkL 15 (v:=?_) rfl (by kernel_rfl) (fun _ _ _ h=>h) rfl (by assumption) ?_ ?_;rotate_left;(focus(intro w' h;(try dsimp only at h);go_simp;try with_reducible rfl));simp only[Act.put,sB,sZ,sS])
  refine zj (rs:=[16]) (by kernel_rfl) (by simp) ?_
  refine zd.lastL rfl (fun K f=>?_)
  go_simp;refine f.out _ _ ?_;clear f K;refine qd (by kernel_rfl) ?_ _
  have HF:Hid _:=doSe (k:=k) (n:=l.sen+1) (T:=Qy l.se l.sen (fun _=>⟨who,p.pe⟩)) (v:=⟨leg,2,false,who,p⟩) HO.out HQ.out g8.out (zf m a9.out) (zC (by rw[zeP,ZT,show zJ (fun _=>(⟨who,p.pe⟩:Qo)) 0=[] from rfl,List.nil_append];exact h9) m.size) (by rw[a2.out];refine .addSeat rfl rfl (by rw[← a2.out];exact d8.out) ?_;rw[← e1.out,← a2.out,← a5.out];have:=HM.out;show q+p.pe<=s.most;omega)
  go_wp2;go_ret;exact HF.out
end Go.Proofs.YtgmdnkngnhkgbaaGreat
