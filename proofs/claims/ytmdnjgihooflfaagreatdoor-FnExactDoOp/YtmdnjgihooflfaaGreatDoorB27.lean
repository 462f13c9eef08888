/-
  OWN TEXT: SpecFe, SpecLp, SpecEa, SpecEb, SpecFf, SpecEc, SpecEd.
-/
import Derived.Deep.DeepCutAuto
import Derived.Test.YtmdnjgihooflfaaGreatDoorKitCo
import Derived.Deep.RegionLawGrows
import Derived.Deep.RegionHeld3
import Derived.Deep.AppendLies
import Derived.Great.Walk
import Derived.Test.YtmdnjgihooflfaaGreatDoorB26
namespace Go.Proofs.YtmdnjgihooflfaaGreatDoor
open Go.RowKit
open Go.Value (int)
open Go.IntKind (i64)
open Tryz
set_option maxHeartbeats 64000000
set_option maxRecDepth 100000
theorem zje (cl:Int)(all:Bool)(be:Int)(w:World) :
  Calls prog 226 #[cl,all,be] w λe w'=>e=.returned (Zs cl all be)/\Below w.heap.size w w':=by
 obtain⟨V,f⟩:∃ V,V=Zs cl all be:=⟨_,rfl⟩;rw[← f];have b:=hI f;clear f
 by_cases h1:In cl 1 3
 ·have j:=Jd h1
  have c:=hI h1
  cases all with
  | true =>
   by_cases h2:be=0
   ·subst h2
    have h3:cl=1∨cl=2∨cl=3:=by unfold In at h1;omega
    clear h1
    rcases h3 with rfl|rfl|rfl
    ·have a:Hid (V=90):=by show V=90;rw[b.out];exact Jf ⟨c,.inl ⟨rfl,rfl⟩⟩
     rw[a.out];go_enter func226,ntmps226;go_wp2_with (first|(go_at_call 148;refine sC (zt _ _ _ _) ?_))
     go_ret;exact⟨rfl,zk bZ _⟩
    ·have a:Hid (V=150):=by show V=150;rw[b.out];exact Jf ⟨c,.inl ⟨rfl,rfl⟩⟩
     rw[a.out];go_enter func226,ntmps226;go_wp2_with (first|(go_at_call 148;refine sC (zt _ _ _ _) ?_))
     go_ret;exact⟨rfl,zk bZ _⟩
    ·have a:Hid (V=240):=by show V=240;rw[b.out];exact Jf ⟨c,.inl ⟨rfl,rfl⟩⟩
     rw[a.out];go_enter func226,ntmps226;go_wp2_with (first|(go_at_call 148;refine sC (zt _ _ _ _) ?_))
     go_ret;exact⟨rfl,zk bZ _⟩
   ·have g:(be == 0)=false:=by simpa using h2
    have e3:(be != 0)=true:=by simpa using h2
    have a:Hid (V=0):=by rw[b.out];exact Je (λh=>by rcases h.2 with h|h;exact h2 h.2;cases h.1)
    rw[a.out];clear h1 h2;go_enter func226,ntmps226;go_wp2_with (first|(go_at_call 148;refine sC (zt _ _ _ _) ?_))
    go_ret;exact⟨rfl,bZ⟩
  | false =>
   by_cases h2:In be 1 4
   ·have g:=Jd h2
    have d:=hI h2;have h3:cl=1∨cl=2∨cl=3:=by unfold In at h1;omega
    have h4:_/\_:=h2;clear h1 h2
    rcases h3 with rfl|rfl|rfl
    ·have a:Hid (V=30*be):=by show V=_;rw[b.out];unfold Zs;rw[Jf ⟨c.out,.inr ⟨rfl,d.out⟩⟩];rfl
     rw[a.out];have i:IntKind.i64.wrap (30*be)=30*be:=by rw[Jk];omega
     go_enter func226,ntmps226;go_wp2_with (first|(go_at_call 148;refine sC (zt _ _ _ _) ?_))
     go_ret;exact⟨rfl,zk bZ _⟩
    ·have a:Hid (V=50*be):=by show V=_;rw[b.out];unfold Zs;rw[Jf ⟨c.out,.inr ⟨rfl,d.out⟩⟩];rfl
     rw[a.out];have i:IntKind.i64.wrap (50*be)=50*be:=by rw[Jk];omega
     go_enter func226,ntmps226;go_wp2_with (first|(go_at_call 148;refine sC (zt _ _ _ _) ?_))
     go_ret;exact⟨rfl,zk bZ _⟩
    ·have a:Hid (V=80*be):=by show V=_;rw[b.out];unfold Zs;rw[Jf ⟨c.out,.inr ⟨rfl,d.out⟩⟩];rfl
     rw[a.out];have i:IntKind.i64.wrap (80*be)=80*be:=by rw[Jk];omega
     go_enter func226,ntmps226;go_wp2_with (first|(go_at_call 148;refine sC (zt _ _ _ _) ?_))
     go_ret;exact⟨rfl,zk bZ _⟩
   ·have g:=Jc h2
    have a:Hid (V=0):=by rw[b.out];exact Je (λh=>by rcases h.2 with h|h;cases h.1;exact h2 h.2)
    rw[a.out];clear h1 h2;go_enter func226,ntmps226;go_wp2_with (first|(go_at_call 148;refine sC (zt _ _ _ _) ?_))
    go_ret;exact⟨rfl,bZ⟩
 ·have j:=Jc h1
  have a:Hid (V=0):=by rw[b.out];exact Je (λh=>h1 h.1)
  rw[a.out];clear h1
  cases all with
  | true =>
   go_enter func226,ntmps226;go_wp2_with (first|(go_at_call 148;refine sC (zt _ _ _ _) ?_))
   go_ret;exact⟨rfl,bZ⟩
  | false =>
   go_enter func226,ntmps226;go_wp2_with (first|(go_at_call 148;refine sC (zt _ _ _ _) ?_))
   go_ret;exact⟨rfl,bZ⟩
theorem Zy (pe len hei cl:Int)(all:Bool)(be legs:Int)(w:World)(y:In pe 0 20)(t:In legs 0 3) :
  Calls prog 169 #[.agg #[pe,len,hei,cl,all,be],legs] w λe w'=>e=.returned (zE ⟨pe,len,hei,cl,all,be⟩ legs)/\Below w.heap.size w w':=by
 obtain⟨V,q⟩:∃ V,V=zE ⟨pe,len,hei,cl,all,be⟩ legs:=⟨_,rfl⟩;rw[← q];obtain⟨b,h⟩:∃ c,c=Ql len hei:=⟨_,rfl⟩;obtain⟨j,f⟩:∃ c,c=Zs cl all be:=⟨_,rfl⟩;have s:Hid (V=zdb pe legs (legs*(40*pe+b+j))):=by show V=_;rw[q,h,f];rfl
 have b1:0<=b/\b<=500:=by rw[h];exact zbV len hei
 have b2:0<=j/\j<=320:=by rw[f];exact zbf cl all be
 have p:=hI h;have o:=hI f;unfold In at y t;have z:IntKind.i64.wrap (40*pe)=40*pe:=by rw[Jk];omega
 have A:IntKind.i64.wrap (40*pe+b)=40*pe+b:=by rw[Jk];omega
 have B:IntKind.i64.wrap (40*pe+b+j)=40*pe+b+j:=by rw[Jk];omega
 obtain⟨M,n⟩:∃ M,M=legs*(40*pe+b+j):=⟨_,rfl⟩;have m:0<=M/\M<=10000:=by
  have h3:legs=0∨legs=1∨legs=2∨legs=3:=by omega
  rw[n]
  rcases h3 with rfl|rfl|rfl|rfl <;> omega
 have C:IntKind.i64.wrap (legs*(40*pe+b+j))=M:=by rw[← n,Jk];omega
 have d:Hid (V=zdb pe legs M):=by show V=_;rw[s.out,n]
 have x:=hI t;clear q h f s n;have q1:Int.tdiv M 20=M / 20:=by rw[Int.tdiv_eq_ediv_of_nonneg m.1]
 have q2:Int.tdiv M 10=M / 10:=by rw[Int.tdiv_eq_ediv_of_nonneg m.1]
 have D:IntKind.i64.wrap (M / 20)=M / 20:=by rw[Jk];omega
 have E:IntKind.i64.wrap (M - M / 20)=M - M / 20:=by rw[Jk];omega
 have F:IntKind.i64.wrap (M / 10)=M / 10:=by rw[Jk];omega
 have G:IntKind.i64.wrap (M - M / 10)=M - M / 10:=by rw[Jk];omega
 have q3:Int.tdiv (M - M / 20) 10=(M - M / 20) / 10:=by rw[Int.tdiv_eq_ediv_of_nonneg (by omega)]
 have H:IntKind.i64.wrap ((M - M / 20) / 10)=(M - M / 20) / 10:=by rw[Jk];omega
 have I:IntKind.i64.wrap (M - M / 20 - (M - M / 20) / 10)=M - M / 20 - (M - M / 20) / 10:=by rw[Jk];omega
 go_enter func169,ntmps169;go_upto_region 1 with fail;have a:Below _ w (w.alloc (.cells #[pe,len,hei,cl,all,be] 45)):=zk bZ _;have i:=Jb w (.cells #[pe,len,hei,cl,all,be] 45);generalize w.alloc _=W at a i ⊢;have l:=zM i;have u:∀ g:zn W,g.val.cell? _=some (.int _ pe):=λg=>(g.bel.cell l).trans (za i 0 _ rfl)
 have N:∀ g:zn W,g.val.cell? _=some (.int _ len):=λg=>(g.bel.cell l).trans (za i 1 _ rfl)
 have O:∀ g:zn W,g.val.cell? _=some (.int _ hei):=λg=>(g.bel.cell l).trans (za i 2 _ rfl)
 have P:∀ g:zn W,g.val.cell? _=some (.int _ cl):=λg=>(g.bel.cell l).trans (za i 3 _ rfl)
 have Q:∀ g:zn W,g.val.cell? _=some (.bool all):=λg=>(g.bel.cell l).trans (za i 4 _ rfl)
 have R:∀ g:zn W,g.val.cell? _=some (.int _ be):=λg=>(g.bel.cell l).trans (za i 5 _ rfl)
 refine zh (by kernel_rfl) (by kernel_rfl) ?_
 repeat(first|go_big_quiet_skip|(go_big_quiet_want;go_big_quiet_op;first|go_big_quiet_on|(apply Jg;refine⟨λg=>?_,?_⟩;(focus(first|(go_at_call 225;refine zf (v:=int i64 b) ((znV _ _ _).mono ?_);rintro e J ⟨rfl,rfl⟩;exact⟨by rw[p.out],bZ⟩)|(go_at_call 226;refine zf (v:=int i64 j) ((zje _ _ _ _).mono ?_);rintro e J ⟨rfl,r⟩;exact⟨by rw[o.out],r⟩)));go_big_quiet_on)))
 refine Jl ?_;rintro _ ⟨g,rfl⟩;have y0:=u g;clear u N O P Q R
 by_cases k1:8<=pe
 ·have K:=Jd k1
  by_cases k2:legs=3
  ·subst k2
   have k:Hid (V=M - M / 20 - (M - M / 20) / 10):=by show V=_;rw[d.out];unfold zdb;rw[Jf k1,Jf rfl]
   clear k1;go_wp2;go_ret;exact⟨by rw[k.out];rfl,ze a g.bel⟩
  ·have L:(legs == 3)=false:=by simpa using k2
   have k:Hid (V=M - M / 20):=by show V=_;rw[d.out];unfold zdb;rw[Jf k1,Je k2]
   clear k1 k2;go_wp2;go_ret;exact⟨by rw[k.out];rfl,ze a g.bel⟩
 ·have K:=Jc k1
  by_cases k2:legs=3
  ·subst k2
   have k:Hid (V=M - M / 10):=by show V=_;rw[d.out];unfold zdb;rw[Je k1,Jf rfl]
   clear k1;go_wp2;go_ret;exact⟨by rw[k.out];rfl,ze a g.bel⟩
  ·have L:(legs == 3)=false:=by simpa using k2
   have k:Hid (V=M):=by show V=_;rw[d.out];unfold zdb;rw[Je k1,Je k2]
   clear k1 k2;go_wp2;go_ret;exact⟨by rw[k.out];rfl,ze a g.bel⟩
theorem l7End_4 (g base N R T S s u m:Nat)(O M K d:Option Addr)(F:Int)(y:OpD)(x:Off)(L C A B D E:Nat->Value)(w:World)(hq:w.heap[g]?=some (.cells #[(O,N,T),(M,N,S),(K,R,s)] 38 (0,0)))(ho:zF w base (O,N,T) (M,N,S) (K,R,s) N N R x L C A B D E)(b8:x.bkn=R)(b1:base<=w.heap.size)(Y:y.kind=4)(e5:In y.pe 0 20)(g0:y.lgn<=3)(b3:zT w d y.lgn y.lg)(b7:qj d y.lgn u)(b4:0<y.lgn->∀ a,d=some a->a.block<base)(b5:y.name=(m:Int)+1)(hm:m<R)(l:R<=1048576) :
  Calls prog 93 #[.pointer (some (g,0)),F,.agg (y,d,u)] w λe w'=>zdm g base N T S O M (λb=>b=g∨(Value.slice K R s).ownBlock=some b) { x with bk:=zah x.bk m (qx (x.bk m) F y) } 0 y.name ((x.bk m).price) (λ_ v=>v=.slice none 0 0) L C A B D w e w':=by
 rw[Y,b5];have HO:=hI ho;have HQ:=hI hq;have c9:=hI Y;have d2:=hI b8;have f4:=hI b1;have f6:=hI b3;have f9:=hI b7;have f7:=hI b4;obtain⟨gb,rfl,b0,d9⟩:=qh ho.bk.row (by omega)
 obtain⟨cs,b2⟩:=zA ho.bk.row gb rfl;obtain⟨d5,d4,eE,q1,q2,q3⟩:=zp (ho.bk.legs m hm);obtain⟨b,U⟩:∃ b,b=x.bk m:=⟨_,rfl⟩;have f1:=hI U;have a1:=hI b2;have I:Hid (∀ V,Below _ w V->∀ j v,(bkC _ E m)[j]?=some v->V.cell? _=some v):=λV hV j v hv=>by
  have hj:j<13:=by
   have h:=(List.getElem?_eq_some_iff.1 hv).1;exact h
  have h:=zs ho.bk.row (m*13+j) (by omega) rfl
  rw[zC 13 _ m j hj,List.getD_eq_getElem?_getD,hv] at h;exact(hV.cell d9).trans h
 have f5:Hid (E m=.slice d5 b.lgn d4):=by rw[U];exact eE
 have i1:(0:Int)<=(m:Int):=by omega
 have i2:(m:Int)<(R:Int):=by omega
 have g1:IntKind.i64.wrap ((m:Int)+1 - 1)=(m:Int):=by rw[Jk];omega
 have HM:=hI hm;have f2:=hI b0;clear b2 eE q1 q2 q3 U b0;clear ho hq Y b8 b1 b3 b7 b4 b5 hm;obtain⟨pr,Z⟩:∃ pr,pr=zE ⟨y.pe,y.len,y.hei,y.cl,y.all,y.be⟩ (y.lgn:Int):=⟨_,rfl⟩;have f8:=hI Z;have c:Below _ w ((w.alloc (.cells #[int i64 4,y.own,int i64 ((m:Int)+1),(d,y.lgn,u),y.pe,y.len,y.hei,y.cl,y.all,y.be,y.unt,y.now] 47)).alloc (.cells #[(),(),(),True] 41)):=zk (zk bZ _) _;have q:=zd (Jb w (.cells #[int i64 4,y.own,int i64 ((m:Int)+1),(d,y.lgn,u),y.pe,y.len,y.hei,y.cl,y.all,y.be,y.unt,y.now] 47)) (.cells #[(),(),(),True] 41);have t:=zfT w (.cells #[int i64 4,y.own,int i64 ((m:Int)+1),(d,y.lgn,u),y.pe,y.len,y.hei,y.cl,y.all,y.be,y.unt,y.now] 47) (.cells #[(),(),(),True] 41);go_enter func93,ntmps93;go_wp2_with fail;generalize ((w.alloc _).alloc _)=W at c q t ⊢;refine(Zy _ _ _ _ _ _ _ _ e5 (by unfold In;omega)).mono ?_
 rintro e V ⟨rfl,H⟩;rw[← Z];clear Z;replace c:=ze c H;replace q:=zb q H;replace t:=zb t H;clear H W;have o0:=za q 0 _ rfl;have n2:∀ G:zn V,G.val.cell? _=some (.slice _ R s):=λG=>za (zb HQ (ze c G.bel)) 2 _ rfl
 have m2:∀ G:zn V,G.val.cell? _=some (.int _ _):=λG=>za (zb q G.bel) 2 _ rfl
 go_upto_region 17 with fail;refine zh (by kernel_rfl) (by kernel_rfl) ?_
 repeat(first|go_big_quiet_skip|(go_big_quiet_want;go_big_quiet_op;first|go_big_quiet_on|fail))
 refine Jl ?_;rintro _ ⟨G,rfl⟩;replace c:=ze c G.bel;replace q:=zb q G.bel;replace t:=zb t G.bel;have e6:=zM t;have o2:=za q 2 _ rfl;clear o0 n2 m2;have o0:∀ o,(G.val.alloc o).cell? _=some (.int _ 4):=λo=>za (zd q o) 0 _ rfl
 go_upto_region 20 with fail;replace c:=zk c (.cells #[(),int i64 ((m:Int)+1),(),True] 41);replace q:=zd q (.cells #[(),int i64 ((m:Int)+1),(),True] 41);replace t:=zd t (.cells #[(),int i64 ((m:Int)+1),(),True] 41);have bT:=Jb G.val (.cells #[(),int i64 ((m:Int)+1),(),True] 41);generalize G.val.alloc _=X at c q t bT ⊢;generalize G.val.heap.size=tb at bT e6 ⊢;clear o0 o2 G V;have Q:=zb a1 c;have e7:=I X c 10 _ rfl;have e8:=I X c 11 _ rfl;have e9:=I X c 12 _ rfl;have d6:=zg Q (m*13+10);have d7:=zg Q (m*13+11);obtain⟨t0,t1,t2,t3⟩:=ce4 bT;go_upto_region 23 with fail;have J:Hid (qx (x.bk m) F y={ x.bk m with state:=2,unt:=0 }):=by show _=_;simp[qx,c9.out]
 have n:zx X ((X.setCell _ (int i64 2)).setCell _ ()) _:=(((zx.refl X (λb=>b=gb)).set (a:=(gb,m*13+10)) rfl _).set (a:=(gb,m*13+11)) rfl _)
 have p:Hid (((X.setCell (gb,m*13+10) (int i64 2)).setCell (gb,m*13+11) ()).ownsRow base 150 13 (some (gb,0),R,s) R (zbg (zah x.bk m (qx (x.bk m) F y)) (atV E m (E m)) R)):=by
  refine qR (zL (zL ((HO.below c).bk.row) _ _) _ _) (λj _=>zfd 13 (by decide) (k:=m) (C:=bkC x.bk E) (f:=λi=>if i=_ then _ else if i=_ then _ else _) (λr hr=>?_) (λj hj=>?_) (λi hi=>?_) j)
  ·have l:=zC 13 (bkC x.bk E) m r hr
   unfold bkC;rw[ZL,qu,J.out];unfold bkC at l;have b6:r=0∨r=1∨r=2∨r=3∨r=4∨r=5∨r=6∨r=7∨r=8∨r=9∨r=10∨r=11∨r=12:=by omega
   rcases b6 with rfl|rfl|rfl|rfl|rfl|rfl|rfl|rfl|rfl|rfl|rfl|rfl|rfl
   ·rw[Je (by omega),Je (by omega),l];rfl
   ·rw[Je (by omega),Je (by omega),l];rfl
   ·rw[Je (by omega),Je (by omega),l];rfl
   ·rw[Je (by omega),Je (by omega),l];rfl
   ·rw[Je (by omega),Je (by omega),l];rfl
   ·rw[Je (by omega),Je (by omega),l];rfl
   ·rw[Je (by omega),Je (by omega),l];rfl
   ·rw[Je (by omega),Je (by omega),l];rfl
   ·rw[Je (by omega),Je (by omega),l];rfl
   ·rw[Je (by omega),Je (by omega),l];rfl
   ·rw[Je (by omega),Jf rfl];rfl
   ·rw[Jf rfl];rfl
   ·rw[Je (by omega),Je (by omega),l];rfl
  ·rw[Je (by omega),Je (by omega)]
  ·unfold bkC
   rw[zaf _ _ _ hi,qf _ _ _ _ hi]
 have a5:=hI ((HO.below c).putBk n p (by rw[J.out];exact(HO.below c).bk.legs m HM) (HO.bk.far_same HM))
 have e4:g≠gb:=λe=>by have h:=a1.out;rw[← e,HQ.out] at h;simp at h
 have a6:=hI (n.blk (zb HQ c) e4);have z:=n.blk bT (by show _;omega)
 have a7:=n.blk t (by show _;omega)
 have a3:Hid (zx w _ (λb=>b=g∨(Value.slice (some (gb,0)) R s).ownBlock=some b)):=(zx.of_below c).trans (n.mono (λb e=>.inr (by rw[show _ from e];rfl)))
 have f0:((X.setCell (gb,m*13+10) (int i64 2)).setCell (gb,m*13+11) ()).cell? (gb,m*13+12)=some (x.bk m).price:=by
  have h:=zs p (m*13+12) (by have:=HM;omega) rfl
  rw[zC 13 _ m 12 (by decide)] at h
  unfold bkC at h;rw[ZL,J.out] at h;exact h
 generalize ((X.setCell _ _).setCell _ _)=Z1 at n p a5 a6 z a7 a3 f0 ⊢;clear n p bT t q Q t0 t1 t2 t3 e7 e8 e9 d6 d7;have a9:w.heap.size+1≠tb:=by omega
 obtain⟨d1,d8,d0,P,d3⟩:=zgr a3 a5 a6 a7 z a9 (by omega) ((x.bk m).price) rfl
 obtain⟨a4,a8,a2,bF⟩:=zbC d0 d1 d8 P (by omega) () (int i64 ((m:Int)+1)) ((x.bk m).price) True rfl
 obtain⟨t0,t1,t2,t3⟩:=ce4 d3;have s2:=za z 2 _ rfl;have s3:=zg z 2;obtain⟨v0,v1,v2,v3⟩:=ce4 P;obtain⟨e0,e1,e2,e3⟩:=fe4 P;have a0:=hI a4;have c0:=hI a8;have b9:=hI a2;clear a4 a8 a2;go_wp2;obtain⟨x0,x1,x2,x3⟩:=ce4 bF;refine Jj (v:=.agg #[(),int i64 ((m:Int)+1),((x.bk m).price),True]) (by simp[results,results93,go_sem,x0,x1,x2,x3]) rfl ?_
 have l:=d2;subst l;exact⟨_,_,_,_,rfl,rfl,a0,c0,b9⟩
theorem l7End_5 (g base N R a4 a3 H J m:Nat)(Z U b2 p:Option Addr)(l:Int)(y:OpD)(x:Off)(L C A B D E:Nat->Value)(w:World)(hq:w.heap[g]?=some (.cells #[(Z,N,a4),(U,N,a3),(b2,R,H)] 38 (0,0)))(ho:zF w base (Z,N,a4) (U,N,a3) (b2,R,H) N N R x L C A B D E)(g7:x.bkn=R)(e9:base<=w.heap.size)(b6:y.kind=5)(j5:In y.pe 0 20)(l9:y.lgn<=3)(g1:zT w p y.lgn y.lg)(g5:qj p y.lgn J)(g2:0<y.lgn->∀ a,p=some a->a.block<base)(g3:y.name=(m:Int)+1)(hm:m<R)(n:R<=1048576) :
  Calls prog 93 #[.pointer (some (g,0)),l,.agg (y,p,J)] w λe w'=>zdm g base N a4 a3 Z U (λb=>b=g∨(Value.slice b2 R H).ownBlock=some b) { x with bk:=zah x.bk m (qx (x.bk m) l y) } 0 y.name (zE ⟨y.pe,y.len,y.hei,y.cl,y.all,y.be⟩ (y.lgn:Int)) (λ_ v=>v=.slice none 0 0) L C A B D w e w':=by
 obtain⟨n0,ni,j8,j9,k0⟩:=info_parts Tryz.infoInt;rw[b6,g3];have HO:=hI ho;have HQ:=hI hq;have h5:=hI b6;have i6:=hI g7;have g9:=hI e9;have h7:=hI g1;have i5:=hI g5;have i0:=hI g2;obtain⟨gb,rfl,e8,j2⟩:=qh ho.bk.row (by omega)
 obtain⟨cs,f2⟩:=zA ho.bk.row gb rfl;obtain⟨i9,i8,eE,q1,q2,q3⟩:=zp (ho.bk.legs m hm);obtain⟨b,b5⟩:∃ b,b=x.bk m:=⟨_,rfl⟩;have l6:=hI b5;have c9:=hI f2;have h4:Hid (∀ V,Below _ w V->∀ j v,(bkC _ E m)[j]?=some v->V.cell? _=some v):=λV hV j v hv=>by
  have hj:j<13:=by
   have h:=(List.getElem?_eq_some_iff.1 hv).1;exact h
  have h:=zs ho.bk.row (m*13+j) (by omega) rfl
  rw[zC 13 _ m j hj,List.getD_eq_getElem?_getD,hv] at h;exact(hV.cell j2).trans h
 have l7:Hid (E m=.slice i9 b.lgn i8):=by rw[b5];exact eE
 have i1:(0:Int)<=(m:Int):=by omega
 have i2:(m:Int)<(R:Int):=by omega
 have m1:IntKind.i64.wrap ((m:Int)+1 - 1)=(m:Int):=by rw[Jk];omega
 have HM:=hI hm;have g8:=hI e8;clear f2 eE q1 q2 q3 b5 e8;clear ho hq b6 g7 e9 g1 g5 g2 g3 hm;obtain⟨pr,b8⟩:∃ pr,pr=zE ⟨y.pe,y.len,y.hei,y.cl,y.all,y.be⟩ (y.lgn:Int):=⟨_,rfl⟩;have d6:=hI b8;have c:Below _ w ((w.alloc (.cells #[int i64 5,y.own,int i64 ((m:Int)+1),(p,y.lgn,J),y.pe,y.len,y.hei,y.cl,y.all,y.be,y.unt,y.now] 47)).alloc (.cells #[(),(),(),True] 41)):=zk (zk bZ _) _;have M:=zd (Jb w (.cells #[int i64 5,y.own,int i64 ((m:Int)+1),(p,y.lgn,J),y.pe,y.len,y.hei,y.cl,y.all,y.be,y.unt,y.now] 47)) (.cells #[(),(),(),True] 41);have Q:=zfT w (.cells #[int i64 5,y.own,int i64 ((m:Int)+1),(p,y.lgn,J),y.pe,y.len,y.hei,y.cl,y.all,y.be,y.unt,y.now] 47) (.cells #[(),(),(),True] 41);go_enter func93,ntmps93;go_wp2_with fail;generalize ((w.alloc _).alloc _)=W at c M Q ⊢;refine(Zy _ _ _ _ _ _ _ _ j5 (by unfold In;omega)).mono ?_
 rintro e V ⟨rfl,a5⟩;rw[← b8];clear b8;replace c:=ze c a5;replace M:=zb M a5;replace Q:=zb Q a5;clear a5 W;have o0:=za M 0 _ rfl;have n2:∀ G:zn V,G.val.cell? _=some (.slice _ R H):=λG=>za (zb HQ (ze c G.bel)) 2 _ rfl
 have m2:∀ G:zn V,G.val.cell? _=some (.int _ _):=λG=>za (zb M G.bel) 2 _ rfl
 go_upto_region 17 with fail;refine zh (by kernel_rfl) (by kernel_rfl) ?_
 repeat(first|go_big_quiet_skip|(go_big_quiet_want;go_big_quiet_op;first|go_big_quiet_on|fail))
 refine Jl ?_;rintro _ ⟨G,rfl⟩;replace c:=ze c G.bel;replace M:=zb M G.bel;replace Q:=zb Q G.bel;have j6:=zM Q;have o2:=za M 2 _ rfl;clear o0 n2 m2;have o0:∀ o,(G.val.alloc o).cell? _=some (.int _ 5):=λo=>za (zd M o) 0 _ rfl
 go_upto_region 20 with fail;replace c:=zk c (.cells #[(),int i64 ((m:Int)+1),(),True] 41);replace M:=zd M (.cells #[(),int i64 ((m:Int)+1),(),True] 41);replace Q:=zd Q (.cells #[(),int i64 ((m:Int)+1),(),True] 41);have bT:=Jb G.val (.cells #[(),int i64 ((m:Int)+1),(),True] 41);generalize G.val.alloc _=X at c M Q bT ⊢;generalize G.val.heap.size=tb at bT j6 ⊢;clear o0 o2 G V;have e4:=zb c9 c;have k1:=h4 X c 1 _ rfl;have f1:=zg e4 (m*13+1);go_upto_region 26 with fail;have q:zx X (X.setCell _ l) _:=((zx.refl X (λb=>b=gb)).set (a:=(gb,m*13+1)) rfl _)
 have a8:Hid ((X.setCell (gb,m*13+1) l).ownsRow base 150 13 (some (gb,0),R,H) R (zbg (zah x.bk m { x.bk m with who:=l }) (atV E m (E m)) R)):=by
  refine qR (zL ((HO.below c).bk.row) _ _) (λj _=>zfd 13 (by decide) (k:=m) (C:=bkC x.bk E) (f:=λi=>if i=_ then _ else _) (λr hr=>?_) (λj hj=>?_) (λi hi=>?_) j)
  ·have n:=zC 13 (bkC x.bk E) m r hr
   unfold bkC;rw[ZL,qu];unfold bkC at n;have T:r=0∨r=1∨r=2∨r=3∨r=4∨r=5∨r=6∨r=7∨r=8∨r=9∨r=10∨r=11∨r=12:=by omega
   rcases T with rfl|rfl|rfl|rfl|rfl|rfl|rfl|rfl|rfl|rfl|rfl|rfl|rfl
   ·rw[Je (by omega),n];rfl
   ·rw[Jf (by omega)];rfl
   ·rw[Je (by omega),n];rfl
   ·rw[Je (by omega),n];rfl
   ·rw[Je (by omega),n];rfl
   ·rw[Je (by omega),n];rfl
   ·rw[Je (by omega),n];rfl
   ·rw[Je (by omega),n];rfl
   ·rw[Je (by omega),n];rfl
   ·rw[Je (by omega),n];rfl
   ·rw[Je (by omega),n];rfl
   ·rw[Je (by omega),n];rfl
   ·rw[Je (by omega),n];rfl
  ·rw[Je (by omega)]
  ·unfold bkC
   rw[zaf _ _ _ hi,qf _ _ _ _ hi]
 have O:=hI ((HO.below c).putBk q a8 ((HO.below c).bk.legs m HM) (HO.bk.far_same HM));have g0:g≠gb:=λe=>by have h:=c9.out;rw[← e,HQ.out] at h;simp at h
 have j4:=c.size;have qQ:=q.blk (zb HQ c) g0;have e5:=q.blk bT (by show _;omega)
 have d9:=q.blk Q (by show _;omega)
 have b4:=q.blk M (by show _;omega)
 have d2:Hid (zx w _ (λb=>b=g∨(Value.slice (some (gb,0)) R H).ownBlock=some b)):=(zx.of_below c).trans (q.mono (λb e=>.inr (by rw[show _ from e];rfl)))
 have j3:∀ z,Below X.heap.size X z->True:=λ_ _=>trivial
 have d3:=hI (ints_off q (h7.below c) i0 g8);have g4:=q.size;generalize (X.setCell _ _)=Y at q a8 O qQ e5 d9 b4 d2 d3 g4 ⊢;clear bT Q M k1 f1 e4 a8 q j3;have k2:∀ o,(Y.alloc o).cell? _=some (.slice p _ J):=λo=>za (zd b4 o) 3 _ rfl
 have b7:(Y.alloc _).ownsRow _ 3 1 _ 0 []:=⟨rfl,.inr ⟨_,0,#[],rfl,Jr _,Jb Y _,Jr _,Jq _,rfl,rfl⟩⟩;have h0:Hid (∀ ad,p=some ad->∀ j u,_->(Y.alloc (.cells #[] 3)).cell? _=_):=QY (d3.below (zk bZ _));obtain⟨l8,a7⟩:=zA O.bk.row gb rfl;have F:Hid (∀ V,Below _ Y V->∀ j v,(bkC (zah _ m _) _ m)[j]?=some v->V.cell? _=some v):=λV hV j v hv=>by
  have hj:j<13:=by
   have h:=(List.getElem?_eq_some_iff.1 hv).1;exact h
  have h:=zs O.bk.row (m*13+j) (by have:=HM;omega) rfl
  rw[zC 13 _ m j hj,List.getD_eq_getElem?_getD,hv] at h;exact(hV.cell (zM a7)).trans h
 have P:w.heap.size≠gb:=by omega
 go_upto_region 29 with(first|(at_builtin;refine zv _ rfl _ _ 27 rfl _ 3 n0 _ 1 8 underlying27 ni j8 j9 k0 rfl (by decide) _ 0 [] (by rfl) b7 p _ J _ rfl i5.2.2 (by rw[Zn,Nat.mul_one]) h0 (Qd _ _) (by unfold maxLen;omega) (by omega) (by simp) ?_;intro v4 s S f0;obtain⟨av,cv,g6,_⟩:=zp S;rw[Nat.zero_add] at g6;subst g6;have d:=(zk (Ji _ Y) _).grown f0 (by simp) (λj hj=>(b7.lt j hj).1);have I:=zb b4 d;have t:=zb a7 d;have k3:=F s d 3 _ rfl;have f3:=zg t (m*13+3);have k4:=F s d 4 _ rfl;have f4:=zg t (m*13+4);have k5:=F s d 5 _ rfl;have f5:=zg t (m*13+5);have k6:=F s d 6 _ rfl;have f6:=zg t (m*13+6);have k7:=F s d 7 _ rfl;have f7:=zg t (m*13+7);have k8:=F s d 8 _ rfl;have f8:=zg t (m*13+8);have k9:=F s d 9 _ rfl;have f9:=zg t (m*13+9);have j7:=F s d 12 _ rfl;have j0:=zg t (m*13+12);have l0:∀ v,(s.setCell _ v).cell? _=some (.int _ _):=λv=>za (zD I (m*13+3) v P) 4 _ rfl;have l1:∀ v,(s.setCell _ v).cell? _=some (.int _ _):=λv=>za (zD I (m*13+3) v P) 5 _ rfl;have l2:∀ v,(s.setCell _ v).cell? _=some (.int _ _):=λv=>za (zD I (m*13+3) v P) 6 _ rfl;have l3:∀ v,(s.setCell _ v).cell? _=some (.int _ _):=λv=>za (zD I (m*13+3) v P) 7 _ rfl;have l4:∀ v,(s.setCell _ v).cell? _=some (.bool _):=λv=>za (zD I (m*13+3) v P) 8 _ rfl;have l5:∀ v,(s.setCell _ v).cell? _=some (.int _ _):=λv=>za (zD I (m*13+3) v P) 9 _ rfl))
 have d4:Hid (qx (x.bk m) l y={ x.bk m with who:=l,lgn:=y.lgn,lg:=y.lg,pe:=y.pe,len:=y.len,hei:=y.hei,cl:=y.cl,all:=y.all,be:=y.be,price:=zE ⟨y.pe,y.len,y.hei,y.cl,y.all,y.be⟩ y.lgn }):=by show _=_;simp[qx,h5.out]
 have K:zx s ((((((((s.setCell _ (av,y.lgn,cv)).setCell _ y.pe).setCell _ y.len).setCell _ y.hei).setCell _ y.cl).setCell _ y.all).setCell _ y.be).setCell _ pr) _:=(((((((((zx.refl s (λb=>b=gb)).set (a:=(gb,m*13+3)) rfl _).set (a:=(gb,m*13+4)) rfl _).set (a:=(gb,m*13+4+1)) rfl _).set (a:=(gb,m*13+4+2)) rfl _).set (a:=(gb,m*13+4+3)) rfl _).set (a:=(gb,m*13+4+4)) rfl _).set (a:=(gb,m*13+4+5)) rfl _).set (a:=(gb,m*13+12)) rfl _)
 have a9:Hid (((((((((s.setCell (gb,m*13+3) (av,y.lgn,cv)).setCell (gb,m*13+4) y.pe).setCell (gb,m*13+4+1) y.len).setCell (gb,m*13+4+2) y.hei).setCell (gb,m*13+4+3) y.cl).setCell (gb,m*13+4+4) y.all).setCell (gb,m*13+4+5) y.be).setCell (gb,m*13+12) pr).ownsRow base 150 13 (some (gb,0),R,H) R (zbg (zah (zah x.bk m { x.bk m with who:=l }) m (qx (x.bk m) l y)) (atV (atV E m (E m)) m (av,y.lgn,cv)) R)):=by
  refine qR (zL (zL (zL (zL (zL (zL (zL (zL ((O.below d).bk.row) _ _) _ _) _ _) _ _) _ _) _ _) _ _) _ _) (λj _=>zfd 13 (by decide) (k:=m) (C:=bkC (zah x.bk m { x.bk m with who:=l }) (atV E m (E m))) (f:=λi=>if i=_ then _ else if i=_ then _ else if i=_ then _ else if i=_ then _ else if i=_ then _ else if i=_ then _ else if i=_ then _ else if i=_ then _ else zZ 13 (bkC (zah _ m { x.bk m with who:=l }) _) i) (λr hr=>?_) (λj hj=>?_) (λi hi=>?_) j)
  ·have n:=zC 13 (bkC (zah x.bk m { x.bk m with who:=l }) (atV E m (E m))) m r hr
   unfold bkC;rw[ZL,qu,d4.out];unfold bkC at n;have T:r=0∨r=1∨r=2∨r=3∨r=4∨r=5∨r=6∨r=7∨r=8∨r=9∨r=10∨r=11∨r=12:=by omega
   rcases T with rfl|rfl|rfl|rfl|rfl|rfl|rfl|rfl|rfl|rfl|rfl|rfl|rfl
   ·rw[Je (by omega),Je (by omega),Je (by omega),Je (by omega),Je (by omega),Je (by omega),Je (by omega),Je (by omega),n,ZL];rfl
   ·rw[Je (by omega),Je (by omega),Je (by omega),Je (by omega),Je (by omega),Je (by omega),Je (by omega),Je (by omega),n,ZL];rfl
   ·rw[Je (by omega),Je (by omega),Je (by omega),Je (by omega),Je (by omega),Je (by omega),Je (by omega),Je (by omega),n,ZL];rfl
   ·rw[Je (by omega),Je (by omega),Je (by omega),Je (by omega),Je (by omega),Je (by omega),Je (by omega),Jf (by omega)];rfl
   ·rw[Je (by omega),Je (by omega),Je (by omega),Je (by omega),Je (by omega),Je (by omega),Jf (by omega)];rfl
   ·rw[Je (by omega),Je (by omega),Je (by omega),Je (by omega),Je (by omega),Jf (by omega)];rfl
   ·rw[Je (by omega),Je (by omega),Je (by omega),Je (by omega),Jf (by omega)];rfl
   ·rw[Je (by omega),Je (by omega),Je (by omega),Jf (by omega)];rfl
   ·rw[Je (by omega),Je (by omega),Jf (by omega)];rfl
   ·rw[Je (by omega),Jf (by omega)];rfl
   ·rw[Je (by omega),Je (by omega),Je (by omega),Je (by omega),Je (by omega),Je (by omega),Je (by omega),Je (by omega),n,ZL];rfl
   ·rw[Je (by omega),Je (by omega),Je (by omega),Je (by omega),Je (by omega),Je (by omega),Je (by omega),Je (by omega),n,ZL];rfl
   ·rw[Jf (by omega),d6.out];rfl
  ·rw[Je (by omega),Je (by omega),Je (by omega),Je (by omega),Je (by omega),Je (by omega),Je (by omega),Je (by omega)]
  ·unfold bkC
   rw[zaf _ _ _ hi,qf _ _ _ _ hi]
 have b0:=hI ((O.below d).putBk K a9 (by rw[d4.out];refine zu ?_ (Jp g9 (Jp j4 g4));rw[Nat.zero_add,List.nil_append] at S;exact S) (λi hi m0 b h1 h2=>by have a1:=((O.bk.legs i hi).lt b h1).2;have a2:=(S.lt b h2).1;omega))
 have b1:Hid (zF ((((((((s.setCell (gb,m*13+3) (av,y.lgn,cv)).setCell (gb,m*13+4) y.pe).setCell (gb,m*13+4+1) y.len).setCell (gb,m*13+4+2) y.hei).setCell (gb,m*13+4+3) y.cl).setCell (gb,m*13+4+4) y.all).setCell (gb,m*13+4+5) y.be).setCell (gb,m*13+12) pr) base (Z,N,a4) (U,N,a3) (some (gb,0),R,H) N N R { x with bk:=zah x.bk m (qx (x.bk m) l y) } L C A B D (atV (atV E m (E m)) m (av,y.lgn,cv))):=by have h:=b0;rw[setB_setB] at h;exact h
 have d7:=K.blk (zb qQ d) g0;have a0:=K.blk (zb e5 d) (by show _;omega)
 have d8:=K.blk (zb d9 d) (by show _;omega)
 have d1:=(d2.trans (zx.of_below d)).trans (K.mono (λb e=>.inr (by rw[show _ from e];rfl)))
 generalize ((((((((s.setCell _ _).setCell _ _).setCell _ _).setCell _ _).setCell _ _).setCell _ _).setCell _ _).setCell _ _)=Z1 at b1 d7 a0 d8 d1 K a9 b0 ⊢;have i4:=b1;clear K a9 b0 b1;clear k3 f3;clear k4 f4;clear k5 f5;clear k6 f6;clear k7 f7;clear k8 f8;clear k9 f9;clear j7 j0;clear k2 l0 l1 l2 l3 l4 l5 b7 S f0 I t d;have e7:w.heap.size+1≠tb:=by omega
 obtain⟨i3,j1,h6,b3,i7⟩:=zgr d1 i4 d7 d8 a0 e7 (by omega) (pr) rfl
 obtain⟨d5,e6,d0,bF⟩:=zbC h6 i3 j1 b3 (by omega) () (int i64 ((m:Int)+1)) (pr) True rfl
 obtain⟨t0,t1,t2,t3⟩:=ce4 i7;have s2:=za a0 2 _ rfl;have s3:=zg a0 2;obtain⟨v0,v1,v2,v3⟩:=ce4 b3;obtain⟨e0,e1,e2,e3⟩:=fe4 b3;have a6:=hI d5;have c0:=hI e6;have b9:=hI d0;clear d5 e6 d0;go_wp2;obtain⟨x0,x1,x2,x3⟩:=ce4 bF;refine Jj (v:=.agg #[(),int i64 ((m:Int)+1),(pr),True]) (by simp[results,results93,go_sem,x0,x1,x2,x3]) rfl ?_
 have n:=i6;subst n;rw[d6.out] at a6 c0 b9 ⊢;exact⟨_,_,_,_,rfl,rfl,a6,c0,b9⟩
theorem zjf (x y:Int)(w:World) :
  Calls prog 171 #[x,y] w λe w'=>e=.returned (Z6 x y)/\w'=w:=by
 obtain⟨V,d⟩:∃ V,V=Z6 x y:=⟨_,rfl⟩;rw[← d];have b:=hI d;clear d
 by_cases h1:In x 0 1000000
 ·have f:=Jd h1
  by_cases h2:In y (-10000) 10000
  ·have g:=Jd h2
   have k:=h1.1;have l:=h1.2;have c:Hid (_/\_):=⟨h1,h2⟩;clear h1 h2
   by_cases h3:100<=y
   ·have i:=Jd h3
    have a:Hid (V=x):=by show V=x;rw[b.out];unfold Z6;rw[Jf c.out,Jf h3]
    rw[a.out];clear h3;go_enter func171,ntmps171;go_wp2_with (first|(go_at_call 148;refine sC (zt _ _ _ _) ?_))
    go_ret;exact⟨rfl,rfl⟩
   ·have i:=Jc h3
    by_cases h4:20<=y
    ·have j:=Jd h4
     have a:Hid (V=x / 2):=by show V=_;rw[b.out];unfold Z6;rw[Jf c.out,Je h3,Jf h4]
     have hq:Int.tdiv x 2=x / 2:=by rw[Int.tdiv_eq_ediv_of_nonneg k]
     have m:IntKind.i64.wrap (x / 2)=x / 2:=by rw[Jk];omega
     rw[a.out];clear h3 h4;go_enter func171,ntmps171;go_wp2_with (first|(go_at_call 148;refine sC (zt _ _ _ _) ?_))
     go_ret;exact⟨rfl,rfl⟩
    ·have j:=Jc h4
     have a:Hid (V=0):=by show V=0;rw[b.out];unfold Z6;rw[Jf c.out,Je h3,Je h4]
     rw[a.out];clear h3 h4;go_enter func171,ntmps171;go_wp2_with (first|(go_at_call 148;refine sC (zt _ _ _ _) ?_))
     go_ret;exact⟨rfl,rfl⟩
  ·have g:=Jc h2
   have a:Hid (V=0):=by rw[b.out];exact Je (λh=>h2 h.2)
   rw[a.out];clear h1 h2;go_enter func171,ntmps171;go_wp2_with (first|(go_at_call 148;refine sC (zt _ _ _ _) ?_))
   go_ret;exact⟨rfl,rfl⟩
 ·have f:=Jc h1
  have a:Hid (V=0):=by rw[b.out];exact Je (λh=>h1 h.1)
  rw[a.out];clear h1;go_enter func171,ntmps171;go_wp2_with (first|(go_at_call 148;refine sC (zt _ _ _ _) ?_))
  go_ret;exact⟨rfl,rfl⟩
theorem l7End_6 (g base N R H b3 F K m:Nat)(b0 a9 a8 p:Option Addr)(T:Int)(y:OpD)(x:Off)(L C A B D E:Nat->Value)(w:World)(hq:w.heap[g]?=some (.cells #[.slice b0 N H,.slice a9 N b3,.slice a8 R F] 38 (0,0)))(ho:zF w base (.slice b0 N H) (.slice a9 N b3) (.slice a8 R F) N N R x L C A B D E)(f6:x.bkn=R)(d9:base<=w.heap.size)(b6:y.kind=6)(h7:In y.pe 0 20)(j8:y.lgn<=3)(f0:zT w p y.lgn y.lg)(f5:qj p y.lgn K)(f1:0<y.lgn->∀ a,p=some a->a.block<base)(f2:y.name=(m:Int)+1)(hm:m<R)(q:R<=1048576)(n:Nat)(e9:0<(x.bk m).lgn)(e7:zW x.sa ((x.bk m).lg 0) N=n)(e8:n<N)(e5:-1000000000<=(x.sa n).dep - y.now/\(x.sa n).dep - y.now<=1000000000)(hN:N<=1048576) :
  Calls prog 93 #[.pointer (some ⟨g,0,none⟩),int i64 T,.agg #[int i64 y.kind,.string y.own,int i64 y.name,.slice p y.lgn K,int i64 y.pe,int i64 y.len,int i64 y.hei,int i64 y.cl,.bool y.all,int i64 y.be,int i64 y.unt,int i64 y.now]] w λe w'=>zdm g base N H b3 b0 a9 (λb=>b=g∨(Value.slice a8 R F).ownBlock=some b) { x with bk:=zah x.bk m (qx (x.bk m) T y) } 0 y.name (Z6 (x.bk m).price ((x.sa n).dep - y.now)) (λ_ v=>v=.slice none 0 0) L C A B D w e w':=by
 rw[b6,f2];have HO:=hI ho;have HQ:=hI hq;have g4:=hI b6;have g8:=hI f6;have j1:=hI d9;have j2:=hI f0;have j5:=hI f5;have j3:=hI f1;obtain⟨gb,rfl,d8,b4⟩:=qh ho.bk.row (by omega)
 obtain⟨cs,e6⟩:=zA ho.bk.row gb rfl;obtain⟨d4,S,eE,q1,q2,q3⟩:=zp (ho.bk.legs m hm);obtain⟨b,b5⟩:∃ b,b=x.bk m:=⟨_,rfl⟩;have g0:=hI b5;have c0:=hI e6;have a0:Hid (∀ V,Below _ w V->∀ j v,(bkC _ E m)[j]?=some v->V.cell? _=some v):=λV hV j v hv=>by
  have hj:j<13:=by
   have h:=(List.getElem?_eq_some_iff.1 hv).1;exact h
  have h:=zs ho.bk.row (m*13+j) (by omega) rfl
  rw[zC 13 _ m j hj,List.getD_eq_getElem?_getD,hv] at h;exact(hV.cell b4).trans h
 have g2:Hid (E m=.slice d4 b.lgn S):=by rw[b5];exact eE
 have i1:(0:Int)<=(m:Int):=by omega
 have i2:(m:Int)<(R:Int):=by omega
 have k1:IntKind.i64.wrap ((m:Int)+1 - 1)=(m:Int):=by rw[Jk];omega
 have HM:=hI hm;have j0:=hI d8;clear e6 eE q1 q2 q3 b5 d8;have M:=hI e9;have O:=hI e8;have f7:=hI e5;have f8:=hI hN;have f9:=hI e7;clear e9 e7 e8 e5 hN;clear ho hq b6 f6 d9 f0 f5 f1 f2 hm;obtain⟨pr,b7⟩:∃ pr,pr=zE ⟨y.pe,y.len,y.hei,y.cl,y.all,y.be⟩ (y.lgn:Int):=⟨_,rfl⟩;have j4:=hI b7;have c:Below _ w ((w.alloc (.cells #[int i64 6,.string y.own,int i64 ((m:Int)+1),.slice p y.lgn K,int i64 y.pe,int i64 y.len,int i64 y.hei,int i64 y.cl,.bool y.all,int i64 y.be,int i64 y.unt,int i64 y.now] 47)).alloc (.cells #[int i64 0,int i64 0,int i64 0,.slice none 0 0] 41)):=zk (zk bZ _) _;have t:=zd (Jb w (.cells #[int i64 6,.string y.own,int i64 ((m:Int)+1),.slice p y.lgn K,int i64 y.pe,int i64 y.len,int i64 y.hei,int i64 y.cl,.bool y.all,int i64 y.be,int i64 y.unt,int i64 y.now] 47)) (.cells #[int i64 0,int i64 0,int i64 0,.slice none 0 0] 41);have J:=zfT w (.cells #[int i64 6,.string y.own,int i64 ((m:Int)+1),.slice p y.lgn K,int i64 y.pe,int i64 y.len,int i64 y.hei,int i64 y.cl,.bool y.all,int i64 y.be,int i64 y.unt,int i64 y.now] 47) (.cells #[int i64 0,int i64 0,int i64 0,.slice none 0 0] 41);go_enter func93,ntmps93;go_wp2_with fail;generalize ((w.alloc _).alloc _)=W at c t J ⊢;refine(Zy _ _ _ _ _ _ _ _ h7 (by unfold In;omega)).mono ?_
 rintro e V ⟨rfl,U⟩;rw[← b7];clear b7;replace c:=ze c U;replace t:=zb t U;replace J:=zb J U;clear U W;have o0:=za t 0 _ rfl;have n2:∀ G:zn V,G.val.cell? _=some (.slice _ R F):=λG=>za (zb HQ.out (ze c G.bel)) 2 _ rfl
 have m2:∀ G:zn V,G.val.cell? _=some (.int _ _):=λG=>za (zb t G.bel) 2 _ rfl
 go_upto_region 17 with fail;refine zh (by kernel_rfl) (by kernel_rfl) ?_
 repeat(first|go_big_quiet_skip|(go_big_quiet_want;go_big_quiet_op;first|go_big_quiet_on|fail))
 refine Jl ?_;rintro _ ⟨G,rfl⟩;replace c:=ze c G.bel;replace t:=zb t G.bel;replace J:=zb J G.bel;have i0:=zM J;have o2:=za t 2 _ rfl;clear o0 n2 m2;have o0:∀ o,(G.val.alloc o).cell? _=some (.int _ 6):=λo=>za (zd t o) 0 _ rfl
 go_upto_region 20 with fail;replace c:=zk c (.cells #[int i64 0,int i64 ((m:Int)+1),int i64 0,.slice none 0 0] 41);replace t:=zd t (.cells #[int i64 0,int i64 ((m:Int)+1),int i64 0,.slice none 0 0] 41);replace J:=zd J (.cells #[int i64 0,int i64 ((m:Int)+1),int i64 0,.slice none 0 0] 41);have bT:=Jb G.val (.cells #[int i64 0,int i64 ((m:Int)+1),int i64 0,.slice none 0 0] 41);generalize G.val.alloc _=X at c t J bT ⊢;generalize G.val.heap.size=tb at bT i0 ⊢;clear o0 o2 G V;have b2:=zb c0.out c;have i7:=a0.out X c 10 _ rfl;have i8:=a0.out X c 11 _ rfl;have i9:=a0.out X c 12 _ rfl;have h0:=zg b2 (m*13+10);have h4:=zg b2 (m*13+11);obtain⟨t0,t1,t2,t3⟩:=ce4 bT;go_upto_region 33 with fail;have P:Hid (qx (x.bk m) T y={ x.bk m with state:=3,unt:=0 }):=by show _=_;simp[qx,g4.out]
 have l:zx X ((X.setCell _ (int i64 3)).setCell _ (int i64 0)) _:=(((zx.refl X (λb=>b=gb)).set (a:=⟨gb,m*13+10,none⟩) rfl _).set (a:=⟨gb,m*13+11,none⟩) rfl _)
 have s:Hid (((X.setCell ⟨gb,m*13+10,none⟩ (int i64 3)).setCell ⟨gb,m*13+11,none⟩ (int i64 0)).ownsRow base 150 13 (.slice (some ⟨gb,0,none⟩) R F) R (zbg (zah x.bk m (qx (x.bk m) T y)) (atV E m (E m)) R)):=by
  refine qR (zL (zL ((HO.out.below c).bk.row) _ _) _ _) (λj _=>zfd 13 (by decide) (k:=m) (C:=bkC x.bk E) (f:=λi=>if i=_ then _ else if i=_ then _ else _) (λr hr=>?_) (λj hj=>?_) (λi hi=>?_) j)
  ·have q:=zC 13 (bkC x.bk E) m r hr
   unfold bkC;rw[ZL,qu,P.out];unfold bkC at q;have f4:r=0∨r=1∨r=2∨r=3∨r=4∨r=5∨r=6∨r=7∨r=8∨r=9∨r=10∨r=11∨r=12:=by omega
   rcases f4 with rfl|rfl|rfl|rfl|rfl|rfl|rfl|rfl|rfl|rfl|rfl|rfl|rfl
   ·rw[Je (by omega),Je (by omega),q];rfl
   ·rw[Je (by omega),Je (by omega),q];rfl
   ·rw[Je (by omega),Je (by omega),q];rfl
   ·rw[Je (by omega),Je (by omega),q];rfl
   ·rw[Je (by omega),Je (by omega),q];rfl
   ·rw[Je (by omega),Je (by omega),q];rfl
   ·rw[Je (by omega),Je (by omega),q];rfl
   ·rw[Je (by omega),Je (by omega),q];rfl
   ·rw[Je (by omega),Je (by omega),q];rfl
   ·rw[Je (by omega),Je (by omega),q];rfl
   ·rw[Je (by omega),Jf rfl];rfl
   ·rw[Jf rfl];rfl
   ·rw[Je (by omega),Je (by omega),q];rfl
  ·rw[Je (by omega),Je (by omega)]
  ·unfold bkC
   rw[zaf _ _ _ hi,qf _ _ _ _ hi]
 have u:=hI ((HO.out.below c).putBk l s.out (by rw[P.out];exact(HO.out.below c).bk.legs m HM.out) (HO.out.bk.far_same HM.out))
 have h6:g≠gb:=λe=>by have h:=c0.out;rw[← e,HQ.out] at h;simp at h
 have a7:=hI (l.blk (zb HQ.out c) h6);have Q:=l.blk bT (by show _;omega)
 have d2:=l.blk J (by show _;omega)
 have d3:=l.blk t (by show _;omega)
 have d0:Hid (zx w _ (λb=>b=g∨(Value.slice (some ⟨gb,0,none⟩) R F).ownBlock=some b)):=(zx.of_below c).trans (l.mono (λb e=>.inr (by rw[show _ from e];rfl)))
 have Y:((X.setCell ⟨gb,m*13+10,none⟩ (int i64 3)).setCell ⟨gb,m*13+11,none⟩ (int i64 0)).cell? ⟨gb,m*13+12,none⟩=some (int i64 (x.bk m).price):=by
  have h:=zs s.out (m*13+12) (by have:=HM.out;omega) rfl
  rw[zC 13 _ m 12 (by decide)] at h
  unfold bkC at h;rw[ZL,P.out] at h;exact h
 generalize ((X.setCell _ _).setCell _ _)=Z1 at d3 l s u a7 Q d2 d0 Y ⊢;clear l s bT J t b2 t0 t1 t2 t3 i7 i8 i9 h0 h4;have d7:w.heap.size+1≠tb:=by omega
 have I:E m=.slice d4 (x.bk m).lgn S:=by rw[← g0.out];exact g2.out
 have hL:=u.out.bk.legs m HM.out;dsimp only at hL;rw[qu,ZL,P.out,I] at hL;dsimp only at hL;obtain⟨lb,rfl,k3,k4⟩:=qh hL M.out;obtain⟨k2,lo',d5,e4⟩:=zbo hL 0 M.out;have y3:Z1.cell? ⟨lb,0,none⟩=some (int i64 ((x.bk m).lg 0)):=by
  cases d5
  exact e4
 have z3:Z1.cell? ⟨gb,m*13+3,none⟩=some (.slice (some ⟨lb,0,none⟩) (x.bk m).lgn S):=by
  have h:=zs u.out.bk.row (m*13+3) (by have:=HM.out;omega) rfl
  rw[zC 13 _ m 3 (by decide)] at h
  unfold bkC at h;rw[qu,I] at h;exact h
 obtain⟨b8,so,la,lc,ca,cc,rfl,s0,s1,s2,s3,s4,s5,s6,s7,_⟩:=u.out.sa.at n O.out;have zq:=za a7.out 0 _ rfl;have j6:=zM HQ.out;have j9:b8<w.heap.size:=by
  obtain⟨gs,e,_,h2⟩:=qh HO.out.sa.row (by have:=O.out;omega)
  cases e
  exact h2
 have j7:=by
  have h:=HO.out.bk.legs m HM.out;rw[I] at h;exact(h.lt lb rfl).2
 have i3:(0:Int)<=(n:Int):=by omega
 have i4:(n:Int)<(N:Int):=by have:=O.out;omega
 have i5:(0:Int)<((x.bk m).lgn:Int):=by have:=M.out;omega
 have i6:=M.out;have k0:IntKind.i64.wrap ((x.sa n).dep - y.now)=(x.sa n).dep - y.now:=by rw[Jk];have:=f7.out;omega
 have g7:=hI u.out.sa.at;have KS:Hid (∀ z,Below _ Z1 z->_/\_/\z.cell? _=some (.slice _ N H)/\_/\z.cell? _=some (.int _ (x.sa n).dep)/\z.cell? _=some (.int _ _)):=λz h=>⟨(h.cell (Ja _ _ Y)).trans Y,(h.cell (Ja _ _ z3)).trans z3,(h.cell (Ja _ _ zq)).trans zq,(h.cell (Ja _ _ y3)).trans y3,(h.cell (Ja _ _ s3)).trans s3,za (zb d3 h) 11 _ rfl⟩
 have KT:Hid (∀ z,Below _ Z1 z->∀ v Z,Z=z.setCell ⟨tb,2,none⟩ v->Z.cell? _=_/\Z.cell? _=_/\Z.cell? _=_/\Z.cell? _=_/\Z.cell? _=_/\Z.cell? _=_):=λz h v Z e=>by
  subst e;obtain⟨a1,a2,a3,a4,a5,a6⟩:=KS.out z h;have hk:=(zx.refl z (λb=>b=tb)).set (a:=⟨tb,2,none⟩) rfl v
  exact⟨QV hk a1 (by show _;dsimp only;omega),QV hk a2 (by show _;dsimp only;omega),QV hk a3 (by show _;dsimp only;omega),QV hk a4 (by show _;dsimp only;omega),QV hk a5 (by show _;dsimp only;omega),QV hk a6 (by show _;dsimp only;omega)⟩
 clear s0 s1 s2 s3 s4 s5 s6 s7 y3 z3 Y zq hL d5 e4;go_region_held3 (λw'=>w'.cell? ⟨gb,m*13+12,none⟩=some (int i64 (x.bk m).price)/\w'.cell? ⟨gb,m*13+3,none⟩=some (.slice (some ⟨lb,0,none⟩) (x.bk m).lgn S)/\w'.cell? ⟨g,0,none⟩=some (.slice (some ⟨b8,so,none⟩) N H)/\w'.cell? ⟨lb,0,none⟩=some (int i64 ((x.bk m).lg 0))/\w'.cell? ⟨b8,so+n*8+3,none⟩=some (int i64 (x.sa n).dep)/\w'.cell? ⟨w.heap.size,11,none⟩=some (int i64 y.now))
  (first|(with_reducible exact KT.out _ d.out _ _ rfl)|(refine KS.out _ ?_;repeat(first|exact d.out|exact bZ|refine Jh ?_|refine zk ?_ _)))
  (first
   | (go_simp;go_at_call 161;(with_reducible refine Jm (Q9 _ N H _ _ _ f8.out (g7.out.below ?_)) ?_);(focus(repeat(first | exact bZ | refine Jh ?_ | refine zk ?_ _)));rintro e u2 ⟨he,b4⟩;have d:=hI (ze (Jh bZ) b4);rw[f9.out] at he;rcases he with⟨_,rfl⟩ | ⟨h,_⟩;rotate_left;(focus(have:=O.out;omega));have q0:=za (zb Q d.out) 2 _ rfl;have q1:=zg (zb Q d.out) 2;dsimp only)
   | (go_simp;go_at_call 171;(with_reducible refine Jm (zjf _ _ _) ?_);rintro e u3 ⟨rfl,rfl⟩;dsimp only))
 obtain⟨g6,h5,g5,b1,g9⟩:=zgr (d0.out.trans (zx.of_below d.out)) (u.out.below d.out) (zb a7.out d.out) (zb d2 d.out) (zb Q d.out) d7 (by omega) (int i64 (Z6 (x.bk m).price ((x.sa n).dep - y.now))) rfl
 obtain⟨d1,d6,c9,bF⟩:=zbC g5 g6 h5 b1 (by omega) (int i64 0) (int i64 ((m:Int)+1)) (int i64 (Z6 (x.bk m).price ((x.sa n).dep - y.now))) (.slice none 0 0) rfl
 obtain⟨t0,t1,t2,t3⟩:=ce4 g9;obtain⟨v0,v1,v2,v3⟩:=ce4 b1;obtain⟨e0,e1,e2,e3⟩:=fe4 b1;have b9:=hI d1;have g3:=hI d6;have g1:=hI c9;clear d1 d6 c9;go_wp2;obtain⟨x0,x1,x2,x3⟩:=ce4 bF;refine Jj (v:=.agg #[int i64 0,int i64 ((m:Int)+1),int i64 (Z6 (x.bk m).price ((x.sa n).dep - y.now)),.slice none 0 0]) (by simp[results,results93,go_sem,x0,x1,x2,x3]) rfl ?_
 have q:=g8.out;subst q;exact⟨_,_,_,_,rfl,rfl,b9.out,g3.out,g1.out⟩
theorem l7End_7 (g base N R O M q u m:Nat)(K J I l:Option Addr)(F:Int)(y:OpD)(x:Off)(L C A B D E:Nat->Value)(w:World)(hq:w.heap[g]?=some (.cells #[(K,N,O),(J,N,M),(I,R,q)] 38 (0,0)))(T:zF w base (K,N,O) (J,N,M) (I,R,q) N N R x L C A B D E)(b6:x.bkn=R)(a9:base<=w.heap.size)(Q:y.kind=7)(d4:In y.pe 0 20)(f0:y.lgn<=3)(b1:zT w l y.lgn y.lg)(b5:qj l y.lgn u)(b2:0<y.lgn->∀ a,l=some a->a.block<base)(b3:y.name=(m:Int)+1)(hm:m<R)(d:R<=1048576) :
  Calls prog 93 #[.pointer (some (g,0)),F,.agg (y,l,u)] w λe w'=>zdm g base N O M K J (λb=>b=g∨(Value.slice I R q).ownBlock=some b) { x with bk:=zah x.bk m (qx (x.bk m) F y) } 0 y.name (0) (λ_ v=>v=.slice none 0 0) L C A B D w e w':=by
 rw[Q,b3];have HO:=hI T;have HQ:=hI hq;have c0:=hI Q;have c9:=hI b6;have e4:=hI a9;have e6:=hI b1;have e9:=hI b5;have e7:=hI b2;obtain⟨gb,rfl,a8,d2⟩:=qh T.bk.row (by omega)
 obtain⟨cs,b0⟩:=zA T.bk.row gb rfl;obtain⟨d1,d0,eE,q1,q2,q3⟩:=zp (T.bk.legs m hm);obtain⟨b,P⟩:∃ b,b=x.bk m:=⟨_,rfl⟩;have d8:=hI P;have Y:=hI b0;have b7:Hid (∀ V,Below _ w V->∀ j v,(bkC _ E m)[j]?=some v->V.cell? _=some v):=λV hV j v hv=>by
  have hj:j<13:=by
   have h:=(List.getElem?_eq_some_iff.1 hv).1;exact h
  have h:=zs T.bk.row (m*13+j) (by omega) rfl
  rw[zC 13 _ m j hj,List.getD_eq_getElem?_getD,hv] at h;exact(hV.cell d2).trans h
 have e5:Hid (E m=.slice d1 b.lgn d0):=by rw[P];exact eE
 have i1:(0:Int)<=(m:Int):=by omega
 have i2:(m:Int)<(R:Int):=by omega
 have f1:IntKind.i64.wrap ((m:Int)+1 - 1)=(m:Int):=by rw[Jk];omega
 have HM:=hI hm;have d9:=hI a8;clear b0 eE q1 q2 q3 P a8;clear T hq Q b6 a9 b1 b5 b2 b3 hm;obtain⟨pr,S⟩:∃ pr,pr=zE ⟨y.pe,y.len,y.hei,y.cl,y.all,y.be⟩ (y.lgn:Int):=⟨_,rfl⟩;have e8:=hI S;have c:Below _ w ((w.alloc (.cells #[int i64 7,y.own,int i64 ((m:Int)+1),(l,y.lgn,u),y.pe,y.len,y.hei,y.cl,y.all,y.be,y.unt,y.now] 47)).alloc (.cells #[(),(),(),True] 41)):=zk (zk bZ _) _;have p:=zd (Jb w (.cells #[int i64 7,y.own,int i64 ((m:Int)+1),(l,y.lgn,u),y.pe,y.len,y.hei,y.cl,y.all,y.be,y.unt,y.now] 47)) (.cells #[(),(),(),True] 41);have t:=zfT w (.cells #[int i64 7,y.own,int i64 ((m:Int)+1),(l,y.lgn,u),y.pe,y.len,y.hei,y.cl,y.all,y.be,y.unt,y.now] 47) (.cells #[(),(),(),True] 41);go_enter func93,ntmps93;go_wp2_with fail;generalize ((w.alloc _).alloc _)=W at c p t ⊢;refine(Zy _ _ _ _ _ _ _ _ d4 (by unfold In;omega)).mono ?_
 rintro e V ⟨rfl,H⟩;rw[← S];clear S;replace c:=ze c H;replace p:=zb p H;replace t:=zb t H;clear H W;have o0:=za p 0 _ rfl;have n2:∀ G:zn V,G.val.cell? _=some (.slice _ R q):=λG=>za (zb HQ (ze c G.bel)) 2 _ rfl
 have m2:∀ G:zn V,G.val.cell? _=some (.int _ _):=λG=>za (zb p G.bel) 2 _ rfl
 go_upto_region 17 with fail;refine zh (by kernel_rfl) (by kernel_rfl) ?_
 repeat(first|go_big_quiet_skip|(go_big_quiet_want;go_big_quiet_op;first|go_big_quiet_on|fail))
 refine Jl ?_;rintro _ ⟨G,rfl⟩;replace c:=ze c G.bel;replace p:=zb p G.bel;replace t:=zb t G.bel;have d5:=zM t;have o2:=za p 2 _ rfl;clear o0 n2 m2;have o0:∀ o,(G.val.alloc o).cell? _=some (.int _ 7):=λo=>za (zd p o) 0 _ rfl
 go_upto_region 20 with fail;replace c:=zk c (.cells #[(),int i64 ((m:Int)+1),(),True] 41);replace p:=zd p (.cells #[(),int i64 ((m:Int)+1),(),True] 41);replace t:=zd t (.cells #[(),int i64 ((m:Int)+1),(),True] 41);have bT:=Jb G.val (.cells #[(),int i64 ((m:Int)+1),(),True] 41);generalize G.val.alloc _=X at c p t bT ⊢;generalize G.val.heap.size=tb at bT d5 ⊢;clear o0 o2 G V;have a5:=zb Y c;have k2:=b7 X c 2 _ rfl;have f2:=zg a5 (m*13+2);obtain⟨t0,t1,t2,t3⟩:=ce4 bT;have d6:=za p 1 _ rfl;go_upto_region 38 with fail;have a1:Hid (qx (x.bk m) F y={ x.bk m with own:=y.own }):=by show _=_;simp[qx,c0.out]
 have n:zx X (X.setCell _ y.own) _:=((zx.refl X (λb=>b=gb)).set (a:=(gb,m*13+2)) rfl _)
 have s:Hid ((X.setCell (gb,m*13+2) y.own).ownsRow base 150 13 (some (gb,0),R,q) R (zbg (zah x.bk m (qx (x.bk m) F y)) (atV E m (E m)) R)):=by
  refine qR (zL ((HO.below c).bk.row) _ _) (λj _=>zfd 13 (by decide) (k:=m) (C:=bkC x.bk E) (f:=λi=>if i=_ then _ else _) (λr hr=>?_) (λj hj=>?_) (λi hi=>?_) j)
  ·have d:=zC 13 (bkC x.bk E) m r hr
   unfold bkC;rw[ZL,qu,a1.out];unfold bkC at d;have b4:r=0∨r=1∨r=2∨r=3∨r=4∨r=5∨r=6∨r=7∨r=8∨r=9∨r=10∨r=11∨r=12:=by omega
   rcases b4 with rfl|rfl|rfl|rfl|rfl|rfl|rfl|rfl|rfl|rfl|rfl|rfl|rfl
   ·rw[Je (by omega),d];rfl
   ·rw[Je (by omega),d];rfl
   ·rw[Jf rfl];rfl
   ·rw[Je (by omega),d];rfl
   ·rw[Je (by omega),d];rfl
   ·rw[Je (by omega),d];rfl
   ·rw[Je (by omega),d];rfl
   ·rw[Je (by omega),d];rfl
   ·rw[Je (by omega),d];rfl
   ·rw[Je (by omega),d];rfl
   ·rw[Je (by omega),d];rfl
   ·rw[Je (by omega),d];rfl
   ·rw[Je (by omega),d];rfl
  ·rw[Je (by omega)]
  ·unfold bkC
   rw[zaf _ _ _ hi,qf _ _ _ _ hi]
 have a3:=hI ((HO.below c).putBk n s (by rw[a1.out];exact(HO.below c).bk.legs m HM) (HO.bk.far_same HM))
 have d3:g≠gb:=λe=>by have h:=Y.out;rw[← e,HQ.out] at h;simp at h
 have a4:=hI (n.blk (zb HQ c) d3);have a6:=n.blk bT (by show _;omega)
 have z:=n.blk t (by show _;omega)
 have a0:Hid (zx w _ (λb=>b=g∨(Value.slice (some (gb,0)) R q).ownBlock=some b)):=(zx.of_below c).trans (n.mono (λb e=>.inr (by rw[show _ from e];rfl)))
 generalize (X.setCell _ _)=Z1 at n s a3 a4 a6 z a0 ⊢;clear n s bT t d6 p a5 t0 t1 t2 t3 k2 f2;have d7:w.heap.size+1≠tb:=by omega
 obtain⟨a2,a7,Z,bF⟩:=zbC a0 a3 a4 z (by omega) () (int i64 ((m:Int)+1)) () True rfl
 obtain⟨t0,t1,t2,t3⟩:=ce4 a6;obtain⟨v0,v1,v2,v3⟩:=ce4 z;obtain⟨e0,e1,e2,e3⟩:=fe4 z;have U:=hI a2;have b9:=hI a7;have b8:=hI Z;clear a2 a7 Z;go_wp2;obtain⟨x0,x1,x2,x3⟩:=ce4 bF;refine Jj (v:=.agg #[int i64 0,int i64 ((m:Int)+1),int i64 (0),.slice none 0 0]) (by simp[results,results93,go_sem,x0,x1,x2,x3]) rfl ?_
 have d:=c9;subst d;exact⟨_,_,_,_,rfl,rfl,U,b9,b8⟩
end Go.Proofs.YtmdnjgihooflfaaGreatDoor
