/-
  OWN TEXT: SpecDb, SpecDc, SpecDd, SpecDe, SpecDf, SpecSe, SpecDg.
-/
import Derived.Deep.DeepCutAuto
import Derived.Deep.RegionLawGrows
import Derived.Deep.AppendLies
import Derived.Deep.LoopGhost
import Derived.Test.YtmdnjgihooflfaaGreatDoorB29
namespace Go.Proofs.YtmdnjgihooflfaaGreatDoor
open Go.RowKit
open Go.Value (int)
open Go.IntKind (i64)
open Tryz
set_option maxHeartbeats 64000000
set_option maxRecDepth 100000
theorem l7Do_b (g base N R k I M a4:Nat)(a0 Z Y:Option Addr)(leg who:Int)(p:Qh)(x:Off)(L C A B D E:Nat->Value)(w:World)(hq:w.heap[g]?=some (.cells #[(a0,N,I),(Z,N,M),(Y,R,a4)] 38 (0,0)))(F:zF w base (a0,N,I) (Z,N,M) (Y,R,a4) N N R x L C A B D E)(hN:N<=1048576)(hk:zW x.sa leg N=k)(n:k<N)(d4:qm (x.sa k) (x.ld k))(r:Nat)(hr:r<(x.ld k).ron)(hx:ZV (x.ld k).ro r=who)(T:∀ j,j<(x.ld k).ron->j≠r->ZV (x.ld k).ro j≠who) :
  Calls prog 92 #[.pointer (some (g,0)),.agg #[leg,int i64 1,.bool true,who,p.pe,p.len,p.hei,p.cl,p.all,p.be]] w λe w'=>zfW g base N R k I M a4 a0 Z Y ⟨leg,1,true,who,p⟩ x L C E w e w':=by
 obtain⟨j0,ji,f8,f9,g0⟩:=info_parts Tryz.infoRoom;obtain⟨gl,rfl,e6,a8⟩:=qh F.ld.row (by omega)
 have HO:=hI F;have HK:=hI hk;have U:=hI d4;have d7:Hid (base<=w.heap.size):=by show base<=w.heap.size;omega
 have HQ:=hI hq;have P:=hI F.sa.at;obtain⟨cs,d3⟩:=zA F.ld.row gl rfl;obtain⟨b8,d2,eA,m1,m2,m3⟩:=zp (F.ld.st k n);obtain⟨b6,d0,eB,m4,m5,m6⟩:=zp (F.ld.ro k n);obtain⟨b7,d1,eD,m7,m8,m9⟩:=zp (F.ld.se k n);have e4:Hid (w.ownsRow base 220 4 (b8,(x.ld k).stn,d2) (x.ld k).stn (zy (x.ld k).st (x.ld k).stn)):=by show w.ownsRow _ _ _ _ _ _;rw[← eA];exact F.ld.st k n
 have b5:Hid (w.ownsRow base 228 4 (b6,(x.ld k).ron,d0) (x.ld k).ron (zw (x.ld k).ro (x.ld k).ron)):=by show w.ownsRow _ _ _ _ _ _;rw[← eB];exact F.ld.ro k n
 have e3:Hid (w.ownsRow base 234 2 (b7,(x.ld k).sen,d1) (x.ld k).sen (zB (x.ld k).se (x.ld k).sen)):=by show w.ownsRow _ _ _ _ _ _;rw[← eD];exact F.ld.se k n
 have b1:Hid (w.cell? (gl,k*3)=some (b8,(x.ld k).stn,d2)):=by
  have h:=zs F.ld.row (k*3+0) (by omega) rfl
  rw[zC 3 _ k 0 (by decide)] at h
  rw[← eA];exact h
 have b2:Hid (w.cell? (gl,k*3+1)=some (b6,(x.ld k).ron,d0)):=by
  have h:=zs F.ld.row (k*3+1) (by omega) rfl
  rw[zC 3 _ k 1 (by decide)] at h
  rw[← eB];exact h
 have b3:Hid (w.cell? (gl,k*3+2)=some (b7,(x.ld k).sen,d1)):=by
  have h:=zs F.ld.row (k*3+2) (by omega) rfl
  rw[zC 3 _ k 2 (by decide)] at h
  rw[← eD];exact h
 have e0:Hid (_/\_/\_):=⟨m3,m6,m9⟩;obtain⟨s,O⟩:∃ s,s=x.sa k:=⟨_,rfl⟩;obtain⟨l,a7⟩:∃ l,l=x.ld k:=⟨_,rfl⟩;rw[← a7] at e4 b5 e3 b1 b2 b3 e0 U;rw[← O] at U;have g3:=hI O;have K:=hI a7;have d9:=hI d3;obtain⟨t,so,la,lc,ca,cc,rfl,f0,f1,f2,f3,f4,f5,f6,f7,a6,a5,d6,d5⟩:=P k n;rw[← O] at f0 f1 f2 f3 f4 f5 f6 f7 a6 a5 d6 d5;have g2:Hid (_/\_):=⟨a6,a5⟩;have d8:Hid (∀ W,Below _ w W->_/\_/\_/\_/\_/\_/\_/\_):=λW y=>by
  have m:=Ja w _ f0;exact⟨(y.cell m).trans f0,(y.cell (p:=⟨t,_+1,_⟩) m).trans f1,(y.cell (p:=⟨t,_+2,_⟩) m).trans f2,(y.cell (p:=⟨t,_+3,_⟩) m).trans f3,(y.cell (p:=⟨t,_+4,_⟩) m).trans f4,(y.cell (p:=⟨t,_+5,_⟩) m).trans f5,(y.cell (p:=⟨t,_+6,_⟩) m).trans f6,(y.cell (p:=⟨t,_+7,_⟩) m).trans f7⟩
 clear f0 f1 f2 f3 f4 f5 f6 f7 a6 a5 d6 d5 O a7 d3 eA eB eD m1 m2 m3 m4 m5 m6 m7 m8 m9 d4 hk e6;have i1:(0:Int)<=(k:Int):=by omega
 have i2:(k:Int)<(N:Int):=by omega
 have z:Below _ w (w.alloc (.cells #[leg,int i64 1,.bool true,who,p.pe,p.len,p.hei,p.cl,p.all,p.be] 159)):=zk bZ _;have b0:=zoP z;go_enter func92,ntmps92;go_upto_region 1 with fail;generalize (w.alloc _)=W at z b0 ⊢;have z0:∀ G:zn W,G.val.cell? _=some (.slice _ N I):=λG=>za (zb HQ (ze z G.bel)) 0 _ rfl
 have z1:∀ G:zn W,G.val.cell? _=some (.int _ leg):=λG=>za (zb b0 G.bel) 0 _ rfl
 refine zh (by kernel_rfl) (by kernel_rfl) ?_
 repeat(first|go_big_quiet_skip|(go_big_quiet_want;go_big_quiet_op;first|go_big_quiet_on|(apply Jg;refine⟨λG=>?_,?_⟩;(focus(first|(go_at_call 161;refine zf (v:=int i64 (k:Int)) ((Q9 _ N I _ leg _ hN (P.below (ze z G.bel))).mono ?_);rintro e w2 ⟨S,e5⟩;refine⟨?_,e5⟩;rw[HK.out] at S;rcases S with⟨_,rfl⟩|⟨h,_⟩;rfl;omega)));go_big_quiet_on)))
 refine Jl ?_;rintro _ ⟨G,rfl⟩;clear z0 z1;have J:=ze z G.bel;have Q:=zb b0 G.bel;obtain⟨c0,c1,c2,c3,c4,c5,c6,c7⟩:=d8 _ J;have y0:=za (zb HQ J) 0 _ rfl;have y1:∀ o,(G.val.alloc o).cell? _=some (.slice _ N M):=λo=>za (zb HQ (zk J o)) 1 _ rfl
 have y4:∀ o,(G.val.alloc o).cell? _=some (.int _ _):=λo=>za (zd Q o) 4 _ rfl
 have y5:∀ o,(G.val.alloc o).cell? _=some (.int _ _):=λo=>za (zd Q o) 5 _ rfl
 have y6:∀ o,(G.val.alloc o).cell? _=some (.int _ _):=λo=>za (zd Q o) 6 _ rfl
 have y7:∀ o,(G.val.alloc o).cell? _=some (.int _ _):=λo=>za (zd Q o) 7 _ rfl
 have y8:∀ o,(G.val.alloc o).cell? _=some (.bool _):=λo=>za (zd Q o) 8 _ rfl
 have y9:∀ o,(G.val.alloc o).cell? _=some (.int _ _):=λo=>za (zd Q o) 9 _ rfl
 go_upto_region 8 with fail;have f:Below _ w ((G.val.alloc (.cells (s,la,lc,ca,cc) 140)).alloc (.cells #[p.pe,p.len,p.hei,p.cl,p.all,p.be] 45)):=zk (zk J _) _;have H:=zd (zd Q (.cells (s,la,lc,ca,cc) 140)) (.cells #[p.pe,p.len,p.hei,p.cl,p.all,p.be] 45);have c9:=zd (Jb G.val (.cells (s,la,lc,ca,cc) 140)) (.cells #[p.pe,p.len,p.hei,p.cl,p.all,p.be] 45);have b9:=zfT G.val (.cells (s,la,lc,ca,cc) 140) (.cells #[p.pe,p.len,p.hei,p.cl,p.all,p.be] 45);generalize hx0:(G.val.alloc _).alloc _=X at f H c9 b9 ⊢;generalize hsb:G.val.heap.size=sb at c9 b9 ⊢;clear c0 c1 c2 c3 c4 c5 c6 c7 y0 y1 y4 y5 y6 y7 y8 y9 Q J z b0 hx0 hsb G W;have w1:=za H 1 _ rfl;have w2:=za H 2 _ rfl;have w3:=za H 3 _ rfl;have L0:=(f.cell a8).trans b1;have L1:=(f.cell a8).trans b2;have L2:=(f.cell a8).trans b3;have bG:=zb d9 f;have HR:Hid (r<l.ron/\ZV l.ro r=who/\∀ j,j<l.ron->j≠r->ZV l.ro j≠who):=by rw[K.out];exact⟨hr,hx,T⟩
 clear hr hx T;have g1:=U.2.1.2.1;go_wp2;go_loopw [9,11,106] (λv _ i wr=>∃ q,q<=l.ron/\i=int i64 q/\wr.ownsRow X.heap.size 228 4 v (zaY r q) (zw (Z7 l.ro r) (zaY r q))/\Below X.heap.size X wr) (λ_ _ i _=>l.ron - (intOf i).toNat)
 case atStart=>exact⟨0,Jq _,rfl,⟨rfl,.inl ⟨rfl,rfl⟩⟩,bZ⟩
 case round =>
  obtain⟨q,hq,rfl,d,a⟩:=hrel
  by_cases hlq:q<l.ron
  ·obtain⟨b,off,rfl,h0,h1,h2,h3⟩:=(QR b5).below f q hlq
   have y:=Ja X _ h0;have c0:=(a.cell y).trans h0;have c1:=(a.cell (p:=⟨b,_+1,_⟩) y).trans h1;have c2:=(a.cell (p:=⟨b,_+2,_⟩) y).trans h2;have c3:=(a.cell (p:=⟨b,_+3,_⟩) y).trans h3;clear h0 h1 h2 h3;have y3:∀ o,(wr.alloc o).cell? _=some (.int _ who):=λo=>za (zd (zb H a) o) 3 _ rfl
   by_cases S:q=r
   ·have e1:((l.ro q).who == who)=true:=by rw[S];simpa [ZV] using HR.2.1
    have e2:((l.ro q).who != who)=false:=by rw[S];simpa [ZV] using HR.2.1
    have HC:Hid (zaY r (q+1)=zaY r q):=by
     have a1:zaY r _=q+1 - 1:=Je (by omega)
     have V:zaY r q=q:=Jf (by omega)
     show _=_
     omega
    clear S;go_wp2;go_roundw
    case rel=>exact⟨q+1,by omega,by go_num,by rw[HC.out];exact zo (zk bZ _) d,zk a _⟩
    case measure=>simp[intOf];omega
   ·have a9:=HR.2.2 q hlq S
    have e1:((l.ro q).who == who)=false:=by simpa [ZV] using a9
    have e2:((l.ro q).who != who)=true:=by simpa [ZV] using a9
    have HC:Hid (zaY r (q+1)=zaY r q+1/\Z7 l.ro r (zaY r q)=l.ro q/\zaY r q<=60):=by
     by_cases c:q<=r
     ·have a1:zaY r _=q+1:=Jf (by omega)
      have V:zaY r q=q:=Jf c;have a3:Z7 _ r q=l.ro q:=Jf (by omega)
      rw[a1,V,a3];exact⟨rfl,rfl,by omega⟩
     ·have a1:zaY r _=q+1 - 1:=Je (by omega)
      have V:zaY r q=_:=Je c;have a3:Z7 _ r _=l.ro (q - 1+1):=Je (by omega)
      rw[a1,V,a3];exact⟨by omega,by rw[show q - 1+1=q by omega],by omega⟩
    clear S a9;have g4:=a.size;have e7:=HC.2.2;generalize hqq:zaY r q=qq at d e7;have b4:=hI hqq;clear hqq;have HN:Hid (∀ ad,(some (wr.heap.size+1,0):Option Addr)=some ad->∀ j u,[Value.int .i64 (l.ro q).who,int i64 (l.ro q).cab,int i64 (l.ro q).many,.bool (l.ro q).all][j]?=some u->((wr.alloc (.cells #[(l.ro q).who,(l.ro q).cab,(l.ro q).many,(l.ro q).all] 228)).alloc (.cells #[(l.ro q).who,(l.ro q).cab,(l.ro q).many,(l.ro q).all] 228)).cell? (ad.add j)=some u):=by
     intro ad e
     cases e
     exact Jo (by simpa using Jb (wr.alloc _) _)
    go_wp2_with (first|(at_builtin;refine zv _ rfl _ _ 142 rfl _ 228 j0 _ 4 32 underlying142 ji f8 f9 g0 rfl (by decide) _ qq _ (by rfl) ((d.alloc _).alloc _) _ 1 1 _ rfl (λh=>(by cases h)) rfl HN (by intro u hu;simp at hu;rcases hu with rfl|rfl|rfl|rfl <;> rfl) (by unfold maxLen;omega) (by omega) (by simp;omega) ?_;intro v' g5 e9 e8))
    go_roundw
    case rel =>
     refine⟨q+1,by omega,by go_num,?_,(zk (zk a _) _).grown e8 (by simp;omega) (λj hj=>(d.lt j hj).1)⟩
     obtain⟨a1,V,_⟩:=HC;rw[a1,b4.out,Q6];rw[b4.out] at V;rw[V];exact e9
    case measure=>simp[intOf];omega
  ·obtain rfl:q=l.ron:=by omega
   have HC:Hid (zaY r _=l.ron - 1):=Je (by have:=HR.1;omega)
   rw[HC.out] at d;obtain⟨av,cv,rfl,_⟩:=zp d;have q0:=(a.cell (zM bG)).trans L1;have q1:=zg (zb bG a) (k*3+1);have HF:Hid _:=doRo (v:=⟨leg,1,_,who,p⟩) HO HQ d7 (ze f a) (zu d f.size) (by rw[K.out];exact .noRoom r rfl rfl (by rw[← K.out];exact HR.1) (by rw[← K.out];exact HR.2.1))
   go_wp2;go_ret;exact HF
theorem l7Do_c (g base N R k H M a4:Nat)(a0 Z Y:Option Addr)(leg who:Int)(p:Qh)(x:Off)(L C A B D E:Nat->Value)(w:World)(hq:w.heap[g]?=some (.cells #[(a0,N,H),(Z,N,M),(Y,R,a4)] 38 (0,0)))(z:zF w base (a0,N,H) (Z,N,M) (Y,R,a4) N N R x L C A B D E)(hN:N<=1048576)(hk:zW x.sa leg N=k)(n:k<N)(d4:qm (x.sa k) (x.ld k))(r:Nat)(hr:r<(x.ld k).sen)(hx:zag (x.ld k).se r=who)(T:∀ j,j<(x.ld k).sen->j≠r->zag (x.ld k).se j≠who) :
  Calls prog 92 #[.pointer (some (g,0)),.agg #[leg,int i64 2,.bool true,who,p.pe,p.len,p.hei,p.cl,p.all,p.be]] w λe w'=>zfW g base N R k H M a4 a0 Z Y ⟨leg,2,true,who,p⟩ x L C E w e w':=by
 obtain⟨j0,ji,f8,f9,g0⟩:=info_parts Tryz.infoSeat;obtain⟨gl,rfl,e6,a8⟩:=qh z.ld.row (by omega)
 have HO:=hI z;have HK:=hI hk;have U:=hI d4;have d7:Hid (base<=w.heap.size):=by show base<=w.heap.size;omega
 have HQ:=hI hq;have P:=hI z.sa.at;obtain⟨cs,d3⟩:=zA z.ld.row gl rfl;obtain⟨b8,d2,eA,m1,m2,m3⟩:=zp (z.ld.st k n);obtain⟨b6,d0,eB,m4,m5,m6⟩:=zp (z.ld.ro k n);obtain⟨b7,d1,eD,m7,m8,m9⟩:=zp (z.ld.se k n);have e4:Hid (w.ownsRow base 220 4 (b8,(x.ld k).stn,d2) (x.ld k).stn (zy (x.ld k).st (x.ld k).stn)):=by show w.ownsRow _ _ _ _ _ _;rw[← eA];exact z.ld.st k n
 have e3:Hid (w.ownsRow base 228 4 (b6,(x.ld k).ron,d0) (x.ld k).ron (zw (x.ld k).ro (x.ld k).ron)):=by show w.ownsRow _ _ _ _ _ _;rw[← eB];exact z.ld.ro k n
 have b5:Hid (w.ownsRow base 234 2 (b7,(x.ld k).sen,d1) (x.ld k).sen (zB (x.ld k).se (x.ld k).sen)):=by show w.ownsRow _ _ _ _ _ _;rw[← eD];exact z.ld.se k n
 have b1:Hid (w.cell? (gl,k*3)=some (b8,(x.ld k).stn,d2)):=by
  have h:=zs z.ld.row (k*3+0) (by omega) rfl
  rw[zC 3 _ k 0 (by decide)] at h
  rw[← eA];exact h
 have b2:Hid (w.cell? (gl,k*3+1)=some (b6,(x.ld k).ron,d0)):=by
  have h:=zs z.ld.row (k*3+1) (by omega) rfl
  rw[zC 3 _ k 1 (by decide)] at h
  rw[← eB];exact h
 have b3:Hid (w.cell? (gl,k*3+2)=some (b7,(x.ld k).sen,d1)):=by
  have h:=zs z.ld.row (k*3+2) (by omega) rfl
  rw[zC 3 _ k 2 (by decide)] at h
  rw[← eD];exact h
 have e0:Hid (_/\_/\_):=⟨m3,m6,m9⟩;obtain⟨s,O⟩:∃ s,s=x.sa k:=⟨_,rfl⟩;obtain⟨l,a7⟩:∃ l,l=x.ld k:=⟨_,rfl⟩;rw[← a7] at e4 e3 b5 b1 b2 b3 e0 U;rw[← O] at U;have g3:=hI O;have K:=hI a7;have d9:=hI d3;obtain⟨t,so,la,lc,ca,cc,rfl,f0,f1,f2,f3,f4,f5,f6,f7,a6,a5,d6,d5⟩:=P k n;rw[← O] at f0 f1 f2 f3 f4 f5 f6 f7 a6 a5 d6 d5;have g2:Hid (_/\_):=⟨a6,a5⟩;have d8:Hid (∀ W,Below _ w W->_/\_/\_/\_/\_/\_/\_/\_):=λW I=>by
  have m:=Ja w _ f0;exact⟨(I.cell m).trans f0,(I.cell (p:=⟨t,_+1,_⟩) m).trans f1,(I.cell (p:=⟨t,_+2,_⟩) m).trans f2,(I.cell (p:=⟨t,_+3,_⟩) m).trans f3,(I.cell (p:=⟨t,_+4,_⟩) m).trans f4,(I.cell (p:=⟨t,_+5,_⟩) m).trans f5,(I.cell (p:=⟨t,_+6,_⟩) m).trans f6,(I.cell (p:=⟨t,_+7,_⟩) m).trans f7⟩
 clear f0 f1 f2 f3 f4 f5 f6 f7 a6 a5 d6 d5 O a7 d3 eA eB eD m1 m2 m3 m4 m5 m6 m7 m8 m9 d4 hk e6;have i1:(0:Int)<=(k:Int):=by omega
 have i2:(k:Int)<(N:Int):=by omega
 have y:Below _ w (w.alloc (.cells #[leg,int i64 2,.bool true,who,p.pe,p.len,p.hei,p.cl,p.all,p.be] 159)):=zk bZ _;have b0:=zoP y;go_enter func92,ntmps92;go_upto_region 1 with fail;generalize (w.alloc _)=W at y b0 ⊢;have z0:∀ G:zn W,G.val.cell? _=some (.slice _ N H):=λG=>za (zb HQ (ze y G.bel)) 0 _ rfl
 have z1:∀ G:zn W,G.val.cell? _=some (.int _ leg):=λG=>za (zb b0 G.bel) 0 _ rfl
 refine zh (by kernel_rfl) (by kernel_rfl) ?_
 repeat(first|go_big_quiet_skip|(go_big_quiet_want;go_big_quiet_op;first|go_big_quiet_on|(apply Jg;refine⟨λG=>?_,?_⟩;(focus(first|(go_at_call 161;refine zf (v:=int i64 (k:Int)) ((Q9 _ N H _ leg _ hN (P.below (ze y G.bel))).mono ?_);rintro e w2 ⟨S,e5⟩;refine⟨?_,e5⟩;rw[HK.out] at S;rcases S with⟨_,rfl⟩|⟨h,_⟩;rfl;omega)));go_big_quiet_on)))
 refine Jl ?_;rintro _ ⟨G,rfl⟩;clear z0 z1;have J:=ze y G.bel;have Q:=zb b0 G.bel;obtain⟨c0,c1,c2,c3,c4,c5,c6,c7⟩:=d8 _ J;have y0:=za (zb HQ J) 0 _ rfl;have y1:∀ o,(G.val.alloc o).cell? _=some (.slice _ N M):=λo=>za (zb HQ (zk J o)) 1 _ rfl
 have y4:∀ o,(G.val.alloc o).cell? _=some (.int _ _):=λo=>za (zd Q o) 4 _ rfl
 have y5:∀ o,(G.val.alloc o).cell? _=some (.int _ _):=λo=>za (zd Q o) 5 _ rfl
 have y6:∀ o,(G.val.alloc o).cell? _=some (.int _ _):=λo=>za (zd Q o) 6 _ rfl
 have y7:∀ o,(G.val.alloc o).cell? _=some (.int _ _):=λo=>za (zd Q o) 7 _ rfl
 have y8:∀ o,(G.val.alloc o).cell? _=some (.bool _):=λo=>za (zd Q o) 8 _ rfl
 have y9:∀ o,(G.val.alloc o).cell? _=some (.int _ _):=λo=>za (zd Q o) 9 _ rfl
 go_upto_region 8 with fail;have f:Below _ w ((G.val.alloc (.cells (s,la,lc,ca,cc) 140)).alloc (.cells #[p.pe,p.len,p.hei,p.cl,p.all,p.be] 45)):=zk (zk J _) _;have F:=zd (zd Q (.cells (s,la,lc,ca,cc) 140)) (.cells #[p.pe,p.len,p.hei,p.cl,p.all,p.be] 45);have c9:=zd (Jb G.val (.cells (s,la,lc,ca,cc) 140)) (.cells #[p.pe,p.len,p.hei,p.cl,p.all,p.be] 45);have b9:=zfT G.val (.cells (s,la,lc,ca,cc) 140) (.cells #[p.pe,p.len,p.hei,p.cl,p.all,p.be] 45);generalize hx0:(G.val.alloc _).alloc _=X at f F c9 b9 ⊢;generalize hsb:G.val.heap.size=sb at c9 b9 ⊢;clear c0 c1 c2 c3 c4 c5 c6 c7 y0 y1 y4 y5 y6 y7 y8 y9 Q J y b0 hx0 hsb G W;have w1:=za F 1 _ rfl;have w2:=za F 2 _ rfl;have w3:=za F 3 _ rfl;have L0:=(f.cell a8).trans b1;have L1:=(f.cell a8).trans b2;have L2:=(f.cell a8).trans b3;have bG:=zb d9 f;have HR:Hid (r<l.sen/\zag l.se r=who/\∀ j,j<l.sen->j≠r->zag l.se j≠who):=by rw[K.out];exact⟨hr,hx,T⟩
 clear hr hx T;have g1:=U.2.2.2.1;go_wp2;go_loopw [12,14,132] (λv _ i wr=>∃ q,q<=l.sen/\i=int i64 q/\wr.ownsRow X.heap.size 234 2 v (zaY r q) (zB (Z7 l.se r) (zaY r q))/\Below X.heap.size X wr) (λ_ _ i _=>l.sen - (intOf i).toNat)
 case atStart=>exact⟨0,Jq _,rfl,⟨rfl,.inl ⟨rfl,rfl⟩⟩,bZ⟩
 case round =>
  obtain⟨q,hq,rfl,d,a⟩:=hrel
  by_cases hlq:q<l.sen
  ·obtain⟨b,off,rfl,h0,h1⟩:=(QS b5).below f q hlq
   have I:=Ja X _ h0;have c0:=(a.cell I).trans h0;have c1:=(a.cell (p:=⟨b,_+1,_⟩) I).trans h1;clear h0 h1;have y3:∀ o,(wr.alloc o).cell? _=some (.int _ who):=λo=>za (zd (zb F a) o) 3 _ rfl
   by_cases S:q=r
   ·have e1:((l.se q).who == who)=true:=by rw[S];simpa [zag] using HR.2.1
    have e2:((l.se q).who != who)=false:=by rw[S];simpa [zag] using HR.2.1
    have HC:Hid (zaY r (q+1)=zaY r q):=by
     have a1:zaY r _=q+1 - 1:=Je (by omega)
     have V:zaY r q=q:=Jf (by omega)
     show _=_
     omega
    clear S;go_wp2;go_roundw
    case rel=>exact⟨q+1,by omega,by go_num,by rw[HC.out];exact zo (zk bZ _) d,zk a _⟩
    case measure=>simp[intOf];omega
   ·have a9:=HR.2.2 q hlq S
    have e1:((l.se q).who == who)=false:=by simpa [zag] using a9
    have e2:((l.se q).who != who)=true:=by simpa [zag] using a9
    have HC:Hid (zaY r (q+1)=zaY r q+1/\Z7 l.se r (zaY r q)=l.se q/\zaY r q<=60):=by
     by_cases c:q<=r
     ·have a1:zaY r _=q+1:=Jf (by omega)
      have V:zaY r q=q:=Jf c;have a3:Z7 _ r q=l.se q:=Jf (by omega)
      rw[a1,V,a3];exact⟨rfl,rfl,by omega⟩
     ·have a1:zaY r _=q+1 - 1:=Je (by omega)
      have V:zaY r q=_:=Je c;have a3:Z7 _ r _=l.se (q - 1+1):=Je (by omega)
      rw[a1,V,a3];exact⟨by omega,by rw[show q - 1+1=q by omega],by omega⟩
    clear S a9;have g4:=a.size;have e7:=HC.2.2;generalize hqq:zaY r q=qq at d e7;have b4:=hI hqq;clear hqq;have HN:Hid (∀ ad,(some (wr.heap.size+1,0):Option Addr)=some ad->∀ j u,[Value.int .i64 (l.se q).who,int i64 (l.se q).many][j]?=some u->((wr.alloc (.cells #[(l.se q).who,(l.se q).many] 234)).alloc (.cells #[(l.se q).who,(l.se q).many] 234)).cell? (ad.add j)=some u):=by
     intro ad e
     cases e
     exact Jo (by simpa using Jb (wr.alloc _) _)
    go_wp2_with (first|(at_builtin;refine zv _ rfl _ _ 143 rfl _ 234 j0 _ 2 16 underlying143 ji f8 f9 g0 rfl (by decide) _ qq _ (by rfl) ((d.alloc _).alloc _) _ 1 1 _ rfl (λh=>(by cases h)) rfl HN (by intro u hu;simp at hu;rcases hu with rfl|rfl <;> rfl) (by unfold maxLen;omega) (by omega) (by simp;omega) ?_;intro v' g5 e9 e8))
    go_roundw
    case rel =>
     refine⟨q+1,by omega,by go_num,?_,(zk (zk a _) _).grown e8 (by simp;omega) (λj hj=>(d.lt j hj).1)⟩
     obtain⟨a1,V,_⟩:=HC;rw[a1,b4.out,zax];rw[b4.out] at V;rw[V];exact e9
    case measure=>simp[intOf];omega
  ·obtain rfl:q=l.sen:=by omega
   have HC:Hid (zaY r _=l.sen - 1):=Je (by have:=HR.1;omega)
   rw[HC.out] at d;obtain⟨av,cv,rfl,_⟩:=zp d;have q0:=(a.cell (zM bG)).trans L2;have q1:=zg (zb bG a) (k*3+2);have HF:Hid _:=doSe (v:=⟨leg,2,_,who,p⟩) HO HQ d7 (ze f a) (zu d f.size) (by rw[K.out];exact .noSeat r rfl rfl (by rw[← K.out];exact HR.1) (by rw[← K.out];exact HR.2.1))
   go_wp2;go_ret;exact HF
theorem l7Do_d (g base N R k Q a1 b7:Nat)(b5 b4 b3:Option Addr)(leg who:Int)(p:Qh)(x:Off)(L C A B D E:Nat->Value)(w:World)(hq:w.heap[g]?=some (.cells #[(b5,N,Q),(b4,N,a1),(b3,R,b7)] 38 (0,0)))(M:zF w base (b5,N,Q) (b4,N,a1) (b3,R,b7) N N R x L C A B D E)(hN:N<=1048576)(hk:zW x.sa leg N=k)(q:k<N)(e2:qm (x.sa k) (x.ld k)) :
  Calls prog 92 #[.pointer (some (g,0)),.agg #[leg,(),.bool false,who,p.pe,p.len,p.hei,p.cl,p.all,p.be]] w λe w'=>zfW g base N R k Q a1 b7 b5 b4 b3 ⟨leg,0,false,who,p⟩ x L C E w e w':=by
 obtain⟨i0,ii,a3,a4,a5⟩:=info_parts Tryz.infoStay;obtain⟨gl,rfl,g3,e0⟩:=qh M.ld.row (by omega)
 have HO:=hI M;have HK:=hI hk;have Y:=hI e2;have e6:Hid (base<=w.heap.size):=by show base<=w.heap.size;omega
 have HQ:=hI hq;have a6:=hI M.sa.at;obtain⟨cs,d9⟩:=zA M.ld.row gl rfl;obtain⟨f,H,eA,m1,m2,m3⟩:=zp (M.ld.st k q);obtain⟨d4,d7,eB,m4,m5,m6⟩:=zp (M.ld.ro k q);obtain⟨d5,d8,eD,m7,m8,m9⟩:=zp (M.ld.se k q);have b2:Hid (w.ownsRow base 220 4 (f,(x.ld k).stn,H) (x.ld k).stn (zy (x.ld k).st (x.ld k).stn)):=by show w.ownsRow _ _ _ _ _ _;rw[← eA];exact M.ld.st k q
 have g0:Hid (w.ownsRow base 228 4 (d4,(x.ld k).ron,d7) (x.ld k).ron (zw (x.ld k).ro (x.ld k).ron)):=by show w.ownsRow _ _ _ _ _ _;rw[← eB];exact M.ld.ro k q
 have g1:Hid (w.ownsRow base 234 2 (d5,(x.ld k).sen,d8) (x.ld k).sen (zB (x.ld k).se (x.ld k).sen)):=by show w.ownsRow _ _ _ _ _ _;rw[← eD];exact M.ld.se k q
 have a7:Hid (w.cell? (gl,k*3)=some (f,(x.ld k).stn,H)):=by
  have h:=zs M.ld.row (k*3+0) (by omega) rfl
  rw[zC 3 _ k 0 (by decide)] at h
  rw[← eA];exact h
 have e9:Hid (w.cell? (gl,k*3+1)=some (d4,(x.ld k).ron,d7)):=by
  have h:=zs M.ld.row (k*3+1) (by omega) rfl
  rw[zC 3 _ k 1 (by decide)] at h
  rw[← eB];exact h
 have f8:Hid (w.cell? (gl,k*3+2)=some (d5,(x.ld k).sen,d8)):=by
  have h:=zs M.ld.row (k*3+2) (by omega) rfl
  rw[zC 3 _ k 2 (by decide)] at h
  rw[← eD];exact h
 have d1:Hid (_/\_/\_):=⟨m3,m6,m9⟩;obtain⟨s,a2⟩:∃ s,s=x.sa k:=⟨_,rfl⟩;obtain⟨l,d0⟩:∃ l,l=x.ld k:=⟨_,rfl⟩;rw[← d0] at b2 g0 g1 a7 e9 f8 d1 Y;rw[← a2] at Y;have d2:=hI a2;have a8:=hI d0;have e8:=hI d9;obtain⟨y,so,la,lc,ca,cc,rfl,f0,f1,f2,f3,f4,f5,f6,f7,c9,b9,e5,e4⟩:=a6 k q;rw[← a2] at f0 f1 f2 f3 f4 f5 f6 f7 c9 b9 e5 e4;have f9:Hid (_/\_):=⟨c9,b9⟩;have e7:Hid (∀ W,Below _ w W->_/\_/\_/\_/\_/\_/\_/\_):=λW hb=>by
  have d:=Ja w _ f0;exact⟨(hb.cell d).trans f0,(hb.cell (p:=⟨y,_+1,_⟩) d).trans f1,(hb.cell (p:=⟨y,_+2,_⟩) d).trans f2,(hb.cell (p:=⟨y,_+3,_⟩) d).trans f3,(hb.cell (p:=⟨y,_+4,_⟩) d).trans f4,(hb.cell (p:=⟨y,_+5,_⟩) d).trans f5,(hb.cell (p:=⟨y,_+6,_⟩) d).trans f6,(hb.cell (p:=⟨y,_+7,_⟩) d).trans f7⟩
 clear f0 f1 f2 f3 f4 f5 f6 f7 c9 b9 e5 e4 a2 d0 d9 eA eB eD m1 m2 m3 m4 m5 m6 m7 m8 m9 e2 hk g3;have i1:(0:Int)<=(k:Int):=by omega
 have i2:(k:Int)<(N:Int):=by omega
 have I:Below _ w (w.alloc (.cells #[leg,(),.bool false,who,p.pe,p.len,p.hei,p.cl,p.all,p.be] 159)):=zk bZ _;have b0:=zoP I;go_enter func92,ntmps92;go_upto_region 1 with fail;generalize (w.alloc _)=W at I b0 ⊢;have z0:∀ G:zn W,G.val.cell? _=some (.slice _ N Q):=λG=>za (zb HQ (ze I G.bel)) 0 _ rfl
 have z1:∀ G:zn W,G.val.cell? _=some (.int _ leg):=λG=>za (zb b0 G.bel) 0 _ rfl
 refine zh (by kernel_rfl) (by kernel_rfl) ?_
 repeat(first|go_big_quiet_skip|(go_big_quiet_want;go_big_quiet_op;first|go_big_quiet_on|(apply Jg;refine⟨λG=>?_,?_⟩;(focus(first|(go_at_call 161;refine zf (v:=int i64 (k:Int)) ((Q9 _ N Q _ leg _ hN (a6.below (ze I G.bel))).mono ?_);rintro e w2 ⟨he,b8⟩;refine⟨?_,b8⟩;rw[HK.out] at he;rcases he with⟨_,rfl⟩|⟨h,_⟩;rfl;omega)));go_big_quiet_on)))
 refine Jl ?_;rintro _ ⟨G,rfl⟩;clear z0 z1;have S:=ze I G.bel;have bW:=zb b0 G.bel;obtain⟨c0,c1,c2,c3,c4,c5,c6,c7⟩:=e7 _ S;have y0:=za (zb HQ S) 0 _ rfl;have y1:∀ o,(G.val.alloc o).cell? _=some (.slice _ N a1):=λo=>za (zb HQ (zk S o)) 1 _ rfl
 have y4:∀ o,(G.val.alloc o).cell? _=some (.int _ _):=λo=>za (zd bW o) 4 _ rfl
 have y5:∀ o,(G.val.alloc o).cell? _=some (.int _ _):=λo=>za (zd bW o) 5 _ rfl
 have y6:∀ o,(G.val.alloc o).cell? _=some (.int _ _):=λo=>za (zd bW o) 6 _ rfl
 have y7:∀ o,(G.val.alloc o).cell? _=some (.int _ _):=λo=>za (zd bW o) 7 _ rfl
 have y8:∀ o,(G.val.alloc o).cell? _=some (.bool _):=λo=>za (zd bW o) 8 _ rfl
 have y9:∀ o,(G.val.alloc o).cell? _=some (.int _ _):=λo=>za (zd bW o) 9 _ rfl
 go_upto_region 8 with fail;have i:Below _ w ((G.val.alloc (.cells (s,la,lc,ca,cc) 140)).alloc (.cells #[p.pe,p.len,p.hei,p.cl,p.all,p.be] 45)):=zk (zk S _) _;have P:=zd (zd bW (.cells (s,la,lc,ca,cc) 140)) (.cells #[p.pe,p.len,p.hei,p.cl,p.all,p.be] 45);have a0:=zd (Jb G.val (.cells (s,la,lc,ca,cc) 140)) (.cells #[p.pe,p.len,p.hei,p.cl,p.all,p.be] 45);have F:=zfT G.val (.cells (s,la,lc,ca,cc) 140) (.cells #[p.pe,p.len,p.hei,p.cl,p.all,p.be] 45);generalize hx0:(G.val.alloc _).alloc _=X at i P a0 F ⊢;generalize hsb:G.val.heap.size=sb at a0 F ⊢;clear c0 c1 c2 c3 c4 c5 c6 c7 y0 y1 y4 y5 y6 y7 y8 y9 bW S I b0 hx0 hsb G W;have w1:=za P 1 _ rfl;have w2:=za P 2 _ rfl;have L0:=(i.cell e0).trans a7;have bG:=zb e8 i;obtain⟨r,e3⟩:=zkx s.la l.stn l.st p.len p.hei;have b1:=hI e3;clear e3;have s5:∀ G:zn X,G.val.cell? _=some (.slice la _ lc):=λG=>za (zb a0 G.bel) 5 _ rfl
 have s6:∀ G:zn X,_:=λG=>(G.bel.cell (zM bG)).trans L0
 have p1:∀ G:zn X,G.val.cell? _=some (.int _ _):=λG=>za (zb F G.bel) 1 _ rfl
 have p2:∀ G:zn X,G.val.cell? _=some (.int _ _):=λG=>za (zb F G.bel) 2 _ rfl
 go_upto_region 29 with fail;refine zh (by kernel_rfl) (by kernel_rfl) ?_
 repeat(first|go_big_quiet_skip|(go_big_quiet_want;go_big_quiet_op;first|go_big_quiet_on|(apply Jg;refine⟨λG=>?_,?_⟩;(focus(first|(go_at_call 166;refine zf (v:=int i64 r) ((zlV la f _ lc _ H _ _ _ _ _ rfl ((QO _ _ _).1 Y.1) (f9.1.below (ze i G.bel)) ((zbK b2).below (ze i G.bel))).mono ?_);rintro e w2 ⟨⟨r',rfl,o1⟩,b8⟩;exact⟨by rw[zcP o1 b1.out],b8⟩)));go_big_quiet_on)))
 refine Jl ?_;rintro _ ⟨G,rfl⟩;have J:=ze i G.bel;have d6:=zb P G.bel;have b6:=zb F G.bel;have Z:=zb bG G.bel;clear w1 w2 L0 s5 s6 p1 p2;generalize G.val=w5 at J d6 b6 Z ⊢;clear i P a0 F bG G X
 by_cases hr:r<0
 ·have e1:=Jd hr
  have HF:Hid _:=doNo (v:=⟨leg,0,_,who,p⟩) HO HQ J (by
   refine .deck rfl rfl ?_;rw[← d2.out,← a8.out]
   rcases b1 with⟨j,h,_⟩|⟨h,h2⟩
   ·omega
   ·exact .inr ⟨rfl,h2⟩)
  go_wp2;go_ret;exact HF
 obtain⟨m,rfl⟩:∃ m:Nat,r=(m:Int):=⟨r.toNat,by omega⟩
 have e1:=Jc hr;clear hr;go_upto_region 32 with fail;have HN:=hI d1.1;have a9:Hid (∀ z,_->qw z f _ _):=λz h=>(zbK b2).below (ze J h)
 have g9:=((QO _ _ _).1 Y.1).2.1;have d3:=(J.cell e0).trans a7;have U:Hid (∀ z,Below _ w5 z->(z.cell? _=some (.int _ who)/\z.cell? _=some (.int _ _)/\z.cell? _=some (.int _ _))/\_):=λz h=>⟨⟨za (zb d6 h) 3 _ rfl,za (zb b6 h) 1 _ rfl,za (zb b6 h) 2 _ rfl⟩,(h.cell (zM Z)).trans d3⟩
 refine qg 19 20 (λw'=>(w'.cell? _=_/\w'.cell? _=_/\w'.cell? _=_)/\w'.cell? _=_) rfl (by kernel_rfl) (U _ (Jh bZ)) (λhS=>?_)
 simp only[List.replicate_succ,List.replicate_zero]
 (refine tFL 0 (v:=?_) rfl (by kernel_rfl) (λ_ _ _ h=>h) rfl (by assumption) ?_ ?_;rotate_left;(focus(intro w' h;(try dsimp only at h);go_simp;try with_reducible rfl));simp only[Act.put,sB,sZ,sS])
 iterate 4 (refine tFL 2 (v:=?_) rfl (by kernel_rfl) (λ_ _ _ h=>h) rfl (by assumption) ?_ ?_;rotate_left;(focus(intro w' h;(try dsimp only at h);go_simp;try with_reducible rfl));simp only[Act.put,sB,sZ,sS])
 iterate 8 (refine tFL 7 (v:=?_) rfl (by kernel_rfl) (λ_ _ _ h=>h) rfl (by assumption) ?_ ?_;rotate_left;(focus(intro w' h;(try dsimp only at h);go_simp;try with_reducible rfl));simp only[Act.put,sB,sZ,sS])
 refine zj (rs:=[1,15]) (by kernel_rfl) (by simp) ?_
 refine zc.consL rfl (λK b=>?_) (zc.consL rfl (λK b=>?_) zc.nil)
 focus
  go_simp;refine b _ _ (U _ (by repeat(first|exact a|exact bZ|refine Jh ?_|refine zk ?_ _))) (λhS=>?_)
  clear b K;simp only[sZ,sS];refine zj (rs:=[6,15]) (by kernel_rfl) (by simp) ?_
  refine zc.consL rfl (λK b=>?_) (zc.consL rfl (λK b=>?_) zc.nil)
  focus
   refine zP rfl _ _ 141 rfl 220 i0 _ 4 32 underlying141 ii a3 a4 a5 rfl (by decide) _ _ rfl (by first|exact Jr _|omega|(simp;done)|(simp;omega)) (by repeat(first|((with_reducible refine Qa _ _ _ ?_);(first|rfl|(simp;done)))|with_reducible refine zK ?_|with_reducible refine zd ?_ _)) f _ H _ rfl HN (ZR _ _) (zal (a9 _ (by repeat(first|exact bZ|refine Jh ?_|refine zk ?_ _)))) (QQ _ _) (by unfold maxLen;omega) (by omega) ?_;intro p1 q1 u1 n O c;clear c;have a:Hid (Below _ w5 u1):=(by show Below _ _ _;refine ze ?_ (zr n);exact(by repeat(first|exact bZ|refine Jh ?_|refine zk ?_ _)));refine b _ _ (U _ a) (λhS=>?_)
   clear b K;simp only[Act.put,sB,sZ,sS];refine zj (rs:=[15]) (by kernel_rfl) (by simp) ?_
   refine zc.consL rfl (λK b=>?_) zc.nil
   focus
    go_simp;refine b _ _ (U _ (by repeat(first|exact a|exact bZ|refine Jh ?_|refine zk ?_ _))) (λhS=>?_)
    clear b K;simp only[sZ,sS]
  rotate_left 1
  focus
   go_simp;refine b _ _ (U _ (by repeat(first|exact a|exact bZ|refine Jh ?_|refine zk ?_ _))) (λhS=>?_)
   clear b K;simp only[sZ,sS];refine zj (rs:=[6]) (by kernel_rfl) (by simp) ?_
   refine zc.consL rfl (λK b=>?_) zc.nil
   focus
    refine zP rfl _ _ 141 rfl 220 i0 _ 4 32 underlying141 ii a3 a4 a5 rfl (by decide) _ _ rfl (by first|exact Jr _|omega|(simp;done)|(simp;omega)) (by repeat(first|((with_reducible refine Qa _ _ _ ?_);(first|rfl|(simp;done)))|with_reducible refine zK ?_|with_reducible refine zd ?_ _)) f _ H _ rfl HN (ZR _ _) (zal (a9 _ (by repeat(first|exact bZ|refine Jh ?_|refine zk ?_ _)))) (QQ _ _) (by unfold maxLen;omega) (by omega) ?_;intro p1 q1 u1 n O c;clear c;have a:Hid (Below _ w5 u1):=(by show Below _ _ _;refine ze ?_ (zr n);exact(by repeat(first|exact bZ|refine Jh ?_|refine zk ?_ _)));refine b _ _ (U _ a) (λhS=>?_)
    clear b K;simp only[Act.put,sB,sZ,sS]
 rotate_left 2
 focus
  go_simp;refine b _ _ (U _ (by repeat(first|exact a|exact bZ|refine Jh ?_|refine zk ?_ _))) (λhS=>?_)
  clear b K;simp only[sZ,sS];refine zj (rs:=[1]) (by kernel_rfl) (by simp) ?_
  refine zc.consL rfl (λK b=>?_) zc.nil
  focus
   go_simp;refine b _ _ (U _ (by repeat(first|exact a|exact bZ|refine Jh ?_|refine zk ?_ _))) (λhS=>?_)
   clear b K;simp only[sZ,sS];refine zj (rs:=[6]) (by kernel_rfl) (by simp) ?_
   refine zc.consL rfl (λK b=>?_) zc.nil
   focus
    refine zP rfl _ _ 141 rfl 220 i0 _ 4 32 underlying141 ii a3 a4 a5 rfl (by decide) w5.heap.size _ rfl (by first|exact Jr _|omega|(simp;done)|(simp;omega)) (by repeat(first|((with_reducible refine Qa _ _ _ ?_);(first|rfl|(simp;done)))|with_reducible refine zK ?_|with_reducible refine zd ?_ _)) f _ H _ rfl HN (ZR _ _) (zal (a9 _ (by repeat(first|exact bZ|refine Jh ?_|refine zk ?_ _)))) (QQ _ _) (by unfold maxLen;omega) (by omega) ?_;intro p1 q1 u1 n O c;clear c;have a:Hid (Below _ w5 u1):=(by show Below _ _ _;refine ze ?_ (zr n);exact(by repeat(first|exact bZ|refine Jh ?_|refine zk ?_ _)));refine b _ _ (U _ a) (λhS=>?_)
    clear b K;simp only[Act.put,sB,sZ,sS]
 all_goals
  refine zj (rs:=[16]) (by kernel_rfl) (by simp) ?_
  refine zc.consL rfl (λK b=>?_) zc.nil
  refine step_append_lies _ rfl (.tmp 173) _ 141 rfl _ 220 i0 _ 4 32 underlying141 ii a3 a4 a5 rfl (by decide) _ _ _ rfl (by first|exact O|exact O.alloc _|exact zo (zk bZ _) O) _ 1 1 [.int _ who,.int _ _,.int _ _,.int _ _] rfl rfl (by refine Jo (cs:=#[_,_,_,_]) (t:=220) (fr:=(0,0)) ?_;exact(by repeat(first|((with_reducible refine Qa _ _ _ ?_);(first|rfl|(simp;done)))|with_reducible refine zK ?_|with_reducible refine zd ?_ _|with_reducible refine zb ?_ (zr n)))) (by intro u hu;simp at hu;rcases hu with rfl|rfl|rfl|rfl <;> rfl) (by decide) (by unfold maxLen;omega) (by omega) (by first|exact a.size|(have:=a.size;simp;omega)) _ rfl ?_;intro g2 g6 u2 g5 g4 g7 g8;refine(λ(V:Hid (Below w5.heap.size w5 u2))=>?_) (Below.grown ?_ g4 ?_ (λj hj=>(O.lt j hj).1));rotate_left;(focus(repeat(first|exact bZ|refine Jh ?_|refine zk ?_ _|refine ze ?_ (zr n))));(focus(first|exact a.size|(have:=a.size;simp;omega)));have q0:=(V.cell (zM Z)).trans d3;have q1:=zg (zb Z V) (k*3);refine b _ _ (U _ V) (λhS=>?_)
  clear b K;simp only[Act.put,sB,sZ,sS]
  iterate 2 (refine tFL 17 (v:=?_) rfl (by kernel_rfl) (λ_ _ _ h=>h) rfl (by assumption) ?_ ?_;rotate_left;(focus(intro w' h;(try dsimp only at h);go_simp;try with_reducible rfl));simp only[Act.put,sB,sZ,sS])
  refine zj (rs:=[19]) (by kernel_rfl) (by simp) ?_
  refine zc.lastL rfl (λK b=>?_)
  go_simp;refine b _ _ ?_;clear b K;refine zX (by kernel_rfl) ?_ _
  have HF:Hid _:=doSt (T:=QI _ l.stn (λ_=>⟨who,_,_,_⟩)) (v:=⟨leg,0,_,who,p⟩) HO HQ e6 (ze J V) (zu (by rw[zfy,zaw,show zy _ 0=[] from rfl,List.nil_append];exact g5) J.size) (by rw[a8.out];exact .addStay m rfl rfl (by rw[← d2.out,← a8.out];exact b1))
  go_wp2;go_ret;exact HF
theorem l7Do_e (g base N R k a0 a8 d5:Nat)(d0 c9 b9:Option Addr)(leg who:Int)(pe len hei cl be:Int)(x:Off)(L C A B D E:Nat->Value)(w:World)(hq:w.heap[g]?=some (.cells #[.slice d0 N a0,.slice c9 N a8,.slice b9 R d5] 38 (0,0)))(S:zF w base (.slice d0 N a0) (.slice c9 N a8) (.slice b9 R d5) N N R x L C A B D E)(hN:N<=1048576)(hk:zW x.sa leg N=k)(I:k<N)(f9:qm (x.sa k) (x.ld k)) :
  Calls prog 92 #[.pointer (some ⟨g,0,none⟩),.agg #[int i64 leg,int i64 1,.bool false,int i64 who,int i64 pe,int i64 len,int i64 hei,int i64 cl,.bool true,int i64 be]] w λe w'=>zfW g base N R k a0 a8 d5 d0 c9 b9 ⟨leg,1,false,who,⟨pe,len,hei,cl,true,be⟩⟩ x L C E w e w':=by
 obtain⟨i0,ii,b1,b2,b3⟩:=info_parts Tryz.infoRoom;obtain⟨gl,rfl,h4,a3⟩:=qh S.ld.row (by omega)
 have HO:=hI S;have HK:=hI hk;have V:=hI f9;have g5:Hid (base<=w.heap.size):=by show base<=w.heap.size;omega
 have HQ:=hI hq;have b4:=hI S.sa.at;obtain⟨cs,f8⟩:=zA S.ld.row gl rfl;obtain⟨e7,e9,eA,m1,m2,m3⟩:=zp (S.ld.st k I);obtain⟨i,F,eB,m4,m5,m6⟩:=zp (S.ld.ro k I);obtain⟨e6,e8,eD,m7,m8,m9⟩:=zp (S.ld.se k I);have h0:Hid (w.ownsRow base 220 4 (.slice e7 (x.ld k).stn e9) (x.ld k).stn (zy (x.ld k).st (x.ld k).stn)):=by show w.ownsRow _ _ _ _ _ _;rw[← eA];exact S.ld.st k I
 have a7:Hid (w.ownsRow base 228 4 (.slice i (x.ld k).ron F) (x.ld k).ron (zw (x.ld k).ro (x.ld k).ron)):=by show w.ownsRow _ _ _ _ _ _;rw[← eB];exact S.ld.ro k I
 have g9:Hid (w.ownsRow base 234 2 (.slice e6 (x.ld k).sen e8) (x.ld k).sen (zB (x.ld k).se (x.ld k).sen)):=by show w.ownsRow _ _ _ _ _ _;rw[← eD];exact S.ld.se k I
 have e0:Hid (w.cell? ⟨gl,k*3,none⟩=some (.slice e7 (x.ld k).stn e9)):=by
  have h:=zs S.ld.row (k*3+0) (by omega) rfl
  rw[zC 3 _ k 0 (by decide)] at h
  rw[← eA];exact h
 have a5:Hid (w.cell? ⟨gl,k*3+1,none⟩=some (.slice i (x.ld k).ron F)):=by
  have h:=zs S.ld.row (k*3+1) (by omega) rfl
  rw[zC 3 _ k 1 (by decide)] at h
  rw[← eB];exact h
 have e2:Hid (w.cell? ⟨gl,k*3+2,none⟩=some (.slice e6 (x.ld k).sen e8)):=by
  have h:=zs S.ld.row (k*3+2) (by omega) rfl
  rw[zC 3 _ k 2 (by decide)] at h
  rw[← eD];exact h
 have e4:Hid (_/\_/\_):=⟨m3,m6,m9⟩;obtain⟨s,a9⟩:∃ s,s=x.sa k:=⟨_,rfl⟩;obtain⟨l,d9⟩:∃ l,l=x.ld k:=⟨_,rfl⟩;rw[← d9] at h0 a7 g9 e0 a5 e2 e4 V;rw[← a9] at V;have b8:=hI a9;have b5:=hI d9;have g7:=hI f8;obtain⟨J,so,la,lc,ca,cc,rfl,f0,f1,f2,f3,f4,f5,f6,f7,d8,d7,g4,g3⟩:=b4.out k I;rw[← a9] at f0 f1 f2 f3 f4 f5 f6 f7 d8 d7 g4 g3;have b7:Hid (_/\_):=⟨d8,d7⟩;have g6:Hid (∀ W,Below _ w W->_/\_/\_/\_/\_/\_/\_/\_):=λW hb=>by
  have q:=Ja w _ f0;exact⟨(hb.cell q).trans f0,(hb.cell (p:=⟨J,_+1,_⟩) q).trans f1,(hb.cell (p:=⟨J,_+2,_⟩) q).trans f2,(hb.cell (p:=⟨J,_+3,_⟩) q).trans f3,(hb.cell (p:=⟨J,_+4,_⟩) q).trans f4,(hb.cell (p:=⟨J,_+5,_⟩) q).trans f5,(hb.cell (p:=⟨J,_+6,_⟩) q).trans f6,(hb.cell (p:=⟨J,_+7,_⟩) q).trans f7⟩
 clear f0 f1 f2 f3 f4 f5 f6 f7 d8 d7 g4 g3 a9 d9 f8 eA eB eD m1 m2 m3 m4 m5 m6 m7 m8 m9 f9 hk h4;have i1:(0:Int)<=(k:Int):=by omega
 have i2:(k:Int)<(N:Int):=by omega
 have Q:Below _ w (w.alloc (.cells #[int i64 leg,int i64 1,.bool false,int i64 who,int i64 pe,int i64 len,int i64 hei,int i64 cl,.bool true,int i64 be] 159)):=zk bZ _;have b0:=zoP Q;go_enter func92,ntmps92;go_upto_region 1 with fail;generalize (w.alloc _)=W at Q b0 ⊢;have z0:∀ G:zn W,G.val.cell? _=some (.slice _ N a0):=λG=>za (zb HQ.out (ze Q G.bel)) 0 _ rfl
 have z1:∀ G:zn W,G.val.cell? _=some (.int _ leg):=λG=>za (zb b0 G.bel) 0 _ rfl
 refine zh (by kernel_rfl) (by kernel_rfl) ?_
 repeat(first|go_big_quiet_skip|(go_big_quiet_want;go_big_quiet_op;first|go_big_quiet_on|(apply Jg;refine⟨λG=>?_,?_⟩;(focus(first|(go_at_call 161;refine zf (v:=int i64 (k:Int)) ((Q9 _ N a0 _ leg _ hN (b4.out.below (ze Q G.bel))).mono ?_);rintro e w2 ⟨he,a1⟩;refine⟨?_,a1⟩;rw[HK.out] at he;rcases he with⟨_,rfl⟩|⟨h,_⟩;rfl;omega)));go_big_quiet_on)))
 refine Jl ?_;rintro _ ⟨G,rfl⟩;clear z0 z1;have a2:=ze Q G.bel;have bW:=zb b0 G.bel;obtain⟨c0,c1,c2,c3,c4,c5,c6,c7⟩:=g6.out _ a2;have y0:=za (zb HQ.out a2) 0 _ rfl;have y1:∀ o,(G.val.alloc o).cell? _=some (.slice _ N a8):=λo=>za (zb HQ.out (zk a2 o)) 1 _ rfl
 have y4:∀ o,(G.val.alloc o).cell? _=some (.int _ pe):=λo=>za (zd bW o) 4 _ rfl
 have y5:∀ o,(G.val.alloc o).cell? _=some (.int _ len):=λo=>za (zd bW o) 5 _ rfl
 have y6:∀ o,(G.val.alloc o).cell? _=some (.int _ hei):=λo=>za (zd bW o) 6 _ rfl
 have y7:∀ o,(G.val.alloc o).cell? _=some (.int _ cl):=λo=>za (zd bW o) 7 _ rfl
 have y8:∀ o,(G.val.alloc o).cell? _=some (.bool _):=λo=>za (zd bW o) 8 _ rfl
 have y9:∀ o,(G.val.alloc o).cell? _=some (.int _ be):=λo=>za (zd bW o) 9 _ rfl
 go_upto_region 8 with fail;have f:Below _ w ((G.val.alloc (.cells #[int i64 s.id,.string s.fr,.string s.dst,int i64 s.dep,int i64 s.arr,.slice la s.la.n lc,.slice ca s.ca.n cc,int i64 s.most] 140)).alloc (.cells #[int i64 pe,int i64 len,int i64 hei,int i64 cl,.bool true,int i64 be] 45)):=zk (zk a2 _) _;have P:=zd (zd bW (.cells #[int i64 s.id,.string s.fr,.string s.dst,int i64 s.dep,int i64 s.arr,.slice la s.la.n lc,.slice ca s.ca.n cc,int i64 s.most] 140)) (.cells #[int i64 pe,int i64 len,int i64 hei,int i64 cl,.bool true,int i64 be] 45);have Y:=zd (Jb G.val (.cells #[int i64 s.id,.string s.fr,.string s.dst,int i64 s.dep,int i64 s.arr,.slice la s.la.n lc,.slice ca s.ca.n cc,int i64 s.most] 140)) (.cells #[int i64 pe,int i64 len,int i64 hei,int i64 cl,.bool true,int i64 be] 45);have M:=zfT G.val (.cells #[int i64 s.id,.string s.fr,.string s.dst,int i64 s.dep,int i64 s.arr,.slice la s.la.n lc,.slice ca s.ca.n cc,int i64 s.most] 140) (.cells #[int i64 pe,int i64 len,int i64 hei,int i64 cl,.bool true,int i64 be] 45);generalize hx0:(G.val.alloc _).alloc _=X at f P Y M ⊢;generalize hsb:G.val.heap.size=sb at Y M ⊢;clear c0 c1 c2 c3 c4 c5 c6 c7 y0 y1 y4 y5 y6 y7 y8 y9 bW a2 Q b0 hx0 hsb G W;have w1:=za P 1 _ rfl;have w2:=za P 2 _ rfl;have w3:=za P 3 _ rfl;have L0:=(f.cell a3).trans e0.out;have L1:=(f.cell a3).trans a5.out;have L2:=(f.cell a3).trans e2.out;have bG:=zb g7.out f;obtain⟨rb,g1⟩:=ziM l.ron s.ca.n (zbN s.ca l.ron l.ro cl be);have g8:=hI g1;clear g1;have s5:∀ G:zn X,G.val.cell? _=some (.slice ca _ cc):=λG=>za (zb Y G.bel) 6 _ rfl
 have s6:∀ G:zn X,_:=λG=>(G.bel.cell (zM bG)).trans L1
 have p1:∀ G:zn X,G.val.cell? _=some (.int _ cl):=λG=>za (zb M G.bel) 3 _ rfl
 have p2:∀ G:zn X,G.val.cell? _=some (.int _ be):=λG=>za (zb M G.bel) 5 _ rfl
 go_upto_region 34 with fail;refine zh (by kernel_rfl) (by kernel_rfl) ?_
 repeat(first|go_big_quiet_skip|(go_big_quiet_want;go_big_quiet_op;first|go_big_quiet_on|(apply Jg;refine⟨λG=>?_,?_⟩;(focus(first|(go_at_call 167;refine zf (v:=int i64 rb) ((zfH ca i _ cc _ F _ _ cl be _ rfl V.out.2.1 (b7.out.2.below (ze f G.bel)) ((QR a7.out).below (ze f G.bel))).mono ?_);rintro e w2 ⟨⟨r',rfl,o1⟩,a1⟩;exact⟨by rw[zcO o1 g8.out],a1⟩)));go_big_quiet_on)))
 refine Jl ?_;rintro _ ⟨G,rfl⟩;have c:=ze f G.bel;have Z:=zb P G.bel;have O:=zb Y G.bel;have d:=zb M G.bel;have y:=zb bG G.bel;clear w1 w2 w3 L0 L1 L2 s5 s6 p1 p2;generalize G.val=W5 at c Z O d y ⊢;clear f P Y M bG G X;have r4:=za d 4 _ rfl;have r5:=za d 5 _ rfl;obtain⟨r,g0⟩:=ziM l.ron s.ca.n (zbD s.ca l.ron l.ro cl pe);have a6:=hI g0;clear g0;have s5:∀ G:zn W5,G.val.cell? _=some (.slice ca _ cc):=λG=>za (zb O G.bel) 6 _ rfl
 have s6:∀ G:zn W5,_:=λG=>((ze c G.bel).cell a3).trans a5.out
 have p1:∀ G:zn W5,G.val.cell? _=some (.int _ cl):=λG=>za (zb d G.bel) 3 _ rfl
 have p2:∀ G:zn W5,G.val.cell? _=some (.int _ pe):=λG=>za (zb d G.bel) 0 _ rfl
 go_upto_region 37 with fail;refine zh (by kernel_rfl) (by kernel_rfl) ?_
 repeat(first|go_big_quiet_skip|(go_big_quiet_want;go_big_quiet_op;first|go_big_quiet_on|(apply Jg;refine⟨λG=>?_,?_⟩;(focus(first|(go_at_call 168;refine zf (v:=int i64 r) ((zlW ca i _ cc _ F _ _ cl pe _ rfl V.out.2.1 (b7.out.2.below (ze c G.bel)) ((QR a7.out).below (ze c G.bel))).mono ?_);rintro e w2 ⟨⟨r',rfl,o1⟩,a1⟩;exact⟨by rw[zcO o1 a6.out],a1⟩)));go_big_quiet_on)))
 refine Jl ?_;rintro _ ⟨G,rfl⟩;have d6:=ze c G.bel;have d4:=zb Z G.bel;have d3:=zb O G.bel;have d2:=zb d G.bel;have d1:=zb y G.bel;clear s5 s6 p1 p2 r4 r5;generalize G.val=w5 at d6 d4 d3 d2 d1 ⊢;clear c Z O d y G W5;have c:=d6;have Z:=d4;have O:=d3;have d:=d2;have y:=d1;clear d6 d4 d3 d2 d1;have r4:=za d 4 _ rfl
 by_cases hr:r<0
 ·have e1:=Jd hr
  have HF:Hid _:=doNo (v:=⟨leg,1,_,who,⟨pe,len,hei,cl,_,be⟩⟩) HO.out HQ.out c (by
   refine .whole rfl rfl rfl ?_;rw[← b8.out,← b5.out]
   rcases a6.out with⟨j,h,_⟩|⟨h,h2⟩
   ·omega
   ·exact .inr ⟨rfl,h2⟩)
  go_wp2;go_ret;exact HF.out
 obtain⟨m,rfl⟩:∃ m:Nat,r=(m:Int):=⟨r.toNat,by omega⟩
 have e1:=Jc hr;clear hr;have e3:=hI (rIx_at a6.out).2.1;obtain⟨cb,co,rfl,k1,k2⟩:=b7.out.2 m e3.out;have h5:=Ja w _ k1;have y2:=(c.cell (p:=⟨cb,_+1,_⟩) h5).trans k2;have j1:(0:Int)<=(m:Int):=by omega
 have j2:(m:Int)<(s.ca.n:Int):=by have:=e3.out;omega
 have r6:=za O 6 _ rfl;clear k1 k2;go_upto_region 42 with fail;have HN:=hI e4.out.2.1;have b6:Hid (∀ z,_->qp z i _ _):=λz h=>(QR a7.out).below (ze c h)
 have i6:=V.out.2.1.2.1;have e5:=(c.cell a3).trans a5.out;have KS:Hid (∀ z,Below _ w5 z->(z.cell? _=some (.int _ who)/\z.cell? _=some (.bool _))/\_):=λz h=>⟨⟨za (zb Z h) 3 _ rfl,za (zb d h) 4 _ rfl⟩,(h.cell (zM y)).trans e5⟩
 refine qg 18 19 (λw'=>(w'.cell? _=_/\w'.cell? _=_)/\w'.cell? _=_) rfl (by kernel_rfl) (KS.out _ (Jh bZ)) (λhS=>?_)
 simp only[List.replicate_succ,List.replicate_zero]
 (refine tkL 0 (v:=?_) rfl (by kernel_rfl) (λ_ _ _ h=>h) rfl (by assumption) ?_ ?_;rotate_left;(focus(intro w' h;(try dsimp only at h);go_simp;try with_reducible rfl));simp only[Act.put,sB,sZ,sS])
 (refine tkL 2 (v:=?_) rfl (by kernel_rfl) (λ_ _ _ h=>h) rfl (by assumption) ?_ ?_;rotate_left;(focus(intro w' h;(try dsimp only at h);go_simp;try with_reducible rfl));simp only[Act.put,sB,sZ,sS])
 (refine tkL 3 (v:=?_) rfl (by kernel_rfl) (λ_ _ _ h=>h) rfl (by assumption) ?_ ?_;rotate_left;(focus(intro w' h;(try dsimp only at h);go_simp;try with_reducible rfl));simp only[Act.put,sB,sZ,sS])
 (refine tkL 4 (v:=?_) rfl (by kernel_rfl) (λ_ _ _ h=>h) rfl (by assumption) ?_ ?_;rotate_left;(focus(intro w' h;(try dsimp only at h);go_simp;try with_reducible rfl));simp only[Act.put,sB,sZ,sS])
 (refine tkL 5 (v:=?_) rfl (by kernel_rfl) (λ_ _ _ h=>h) rfl (by assumption) ?_ ?_;rotate_left;(focus(intro w' h;(try dsimp only at h);go_simp;try with_reducible rfl));simp only[Act.put,sB,sZ,sS])
 (refine tkL 7 (v:=?_) rfl (by kernel_rfl) (λ_ _ _ h=>h) rfl (by assumption) ?_ ?_;rotate_left;(focus(intro w' h;(try dsimp only at h);go_simp;try with_reducible rfl));simp only[Act.put,sB,sZ,sS])
 (refine tkL 8 (v:=?_) rfl (by kernel_rfl) (λ_ _ _ h=>h) rfl (by assumption) ?_ ?_;rotate_left;(focus(intro w' h;(try dsimp only at h);go_simp;try with_reducible rfl));simp only[Act.put,sB,sZ,sS])
 (refine tkL 9 (v:=?_) rfl (by kernel_rfl) (λ_ _ _ h=>h) rfl (by assumption) ?_ ?_;rotate_left;(focus(intro w' h;(try dsimp only at h);go_simp;try with_reducible rfl));simp only[Act.put,sB,sZ,sS])
 (refine tkL 10 (v:=?_) rfl (by kernel_rfl) (λ_ _ _ h=>h) rfl (by assumption) ?_ ?_;rotate_left;(focus(intro w' h;(try dsimp only at h);go_simp;try with_reducible rfl));simp only[Act.put,sB,sZ,sS])
 (refine tkL 11 (v:=?_) rfl (by kernel_rfl) (λ_ _ _ h=>h) rfl (by assumption) ?_ ?_;rotate_left;(focus(intro w' h;(try dsimp only at h);go_simp;try with_reducible rfl));simp only[Act.put,sB,sZ,sS])
 (refine tkL 12 (v:=?_) rfl (by kernel_rfl) (λ_ _ _ h=>h) rfl (by assumption) ?_ ?_;rotate_left;(focus(intro w' h;(try dsimp only at h);go_simp;try with_reducible rfl));simp only[Act.put,sB,sZ,sS])
 (refine tkL 13 (v:=?_) rfl (by kernel_rfl) (λ_ _ _ h=>h) rfl (by assumption) ?_ ?_;rotate_left;(focus(intro w' h;(try dsimp only at h);go_simp;try with_reducible rfl));simp only[Act.put,sB,sZ,sS])
 refine zj (rs:=[1,14]) (by kernel_rfl) (by simp) ?_
 refine zc.consL rfl (λK b=>?_) (zc.consL rfl (λK b=>?_) zc.nil)
 focus
  go_simp;refine b.out _ _ (KS.out _ (by repeat(first|exact a.out|exact bZ|refine Jh ?_|refine zk ?_ _))) (λhS=>?_)
  clear b K;simp only[sZ,sS];refine zj (rs:=[6,14]) (by kernel_rfl) (by simp) ?_
  refine zc.consL rfl (λK b=>?_) (zc.consL rfl (λK b=>?_) zc.nil)
  focus
   refine zP rfl _ _ 142 rfl 228 i0 _ 4 32 underlying142 ii b1 b2 b3 rfl (by decide) _ _ rfl (by first|exact Jr _|omega|(simp;done)|(simp;omega)) (by repeat(first|((with_reducible refine Qa _ _ _ ?_);(first|rfl|(simp;done)))|with_reducible refine zK ?_|with_reducible refine zd ?_ _)) i _ F _ rfl HN.out (qK _ _) (Qv (b6.out _ (by repeat(first|exact bZ|refine Jh ?_|refine zk ?_ _)))) (Z5 _ _) (by unfold maxLen;omega) (by omega) ?_;intro p1 q1 u1 H U n;clear n;have a:Hid (Below _ w5 u1):=(by show Below _ _ _;refine ze ?_ (zr H);exact(by repeat(first|exact bZ|refine Jh ?_|refine zk ?_ _)));refine b.out _ _ (KS.out _ a.out) (λhS=>?_)
   clear b K;simp only[Act.put,sB,sZ,sS];refine zj (rs:=[14]) (by kernel_rfl) (by simp) ?_
   refine zc.consL rfl (λK b=>?_) zc.nil
   focus
    go_simp;refine b.out _ _ (KS.out _ (by repeat(first|exact a.out|exact bZ|refine Jh ?_|refine zk ?_ _))) (λhS=>?_)
    clear b K;simp only[sZ,sS]
  rotate_left 1
  focus
   go_simp;refine b.out _ _ (KS.out _ (by repeat(first|exact a.out|exact bZ|refine Jh ?_|refine zk ?_ _))) (λhS=>?_)
   clear b K;simp only[sZ,sS];refine zj (rs:=[6]) (by kernel_rfl) (by simp) ?_
   refine zc.consL rfl (λK b=>?_) zc.nil
   focus
    refine zP rfl _ _ 142 rfl 228 i0 _ 4 32 underlying142 ii b1 b2 b3 rfl (by decide) _ _ rfl (by first|exact Jr _|omega|(simp;done)|(simp;omega)) (by repeat(first|((with_reducible refine Qa _ _ _ ?_);(first|rfl|(simp;done)))|with_reducible refine zK ?_|with_reducible refine zd ?_ _)) i _ F _ rfl HN.out (qK _ _) (Qv (b6.out _ (by repeat(first|exact bZ|refine Jh ?_|refine zk ?_ _)))) (Z5 _ _) (by unfold maxLen;omega) (by omega) ?_;intro p1 q1 u1 H U n;clear n;have a:Hid (Below _ w5 u1):=(by show Below _ _ _;refine ze ?_ (zr H);exact(by repeat(first|exact bZ|refine Jh ?_|refine zk ?_ _)));refine b.out _ _ (KS.out _ a.out) (λhS=>?_)
    clear b K;simp only[Act.put,sB,sZ,sS]
 rotate_left 2
 focus
  go_simp;refine b.out _ _ (KS.out _ (by repeat(first|exact a.out|exact bZ|refine Jh ?_|refine zk ?_ _))) (λhS=>?_)
  clear b K;simp only[sZ,sS];refine zj (rs:=[1]) (by kernel_rfl) (by simp) ?_
  refine zc.consL rfl (λK b=>?_) zc.nil
  focus
   go_simp;refine b.out _ _ (KS.out _ (by repeat(first|exact a.out|exact bZ|refine Jh ?_|refine zk ?_ _))) (λhS=>?_)
   clear b K;simp only[sZ,sS];refine zj (rs:=[6]) (by kernel_rfl) (by simp) ?_
   refine zc.consL rfl (λK b=>?_) zc.nil
   focus
    refine zP rfl _ _ 142 rfl 228 i0 _ 4 32 underlying142 ii b1 b2 b3 rfl (by decide) w5.heap.size _ rfl (by first|exact Jr _|omega|(simp;done)|(simp;omega)) (by repeat(first|((with_reducible refine Qa _ _ _ ?_);(first|rfl|(simp;done)))|with_reducible refine zK ?_|with_reducible refine zd ?_ _)) i _ F _ rfl HN.out (qK _ _) (Qv (b6.out _ (by repeat(first|exact bZ|refine Jh ?_|refine zk ?_ _)))) (Z5 _ _) (by unfold maxLen;omega) (by omega) ?_;intro p1 q1 u1 H U n;clear n;have a:Hid (Below _ w5 u1):=(by show Below _ _ _;refine ze ?_ (zr H);exact(by repeat(first|exact bZ|refine Jh ?_|refine zk ?_ _)));refine b.out _ _ (KS.out _ a.out) (λhS=>?_)
    clear b K;simp only[Act.put,sB,sZ,sS]
 all_goals
  refine zj (rs:=[15]) (by kernel_rfl) (by simp) ?_
  refine zc.consL rfl (λK b=>?_) zc.nil
  refine step_append_lies _ rfl (.tmp 232) _ 142 rfl _ 228 i0 _ 4 32 underlying142 ii b1 b2 b3 rfl (by decide) _ _ _ rfl (by first|exact U|exact U.alloc _|exact zo (zk bZ _) U) _ 1 1 [.int _ who,.int _ _,.int _ _,.bool _] rfl rfl (by refine Jo (cs:=#[_,_,_,_]) (t:=228) (fr:=(0,0)) ?_;exact(by repeat(first|((with_reducible refine Qa _ _ _ ?_);(first|rfl|(simp;done)))|with_reducible refine zK ?_|with_reducible refine zd ?_ _|with_reducible refine zb ?_ (zr H)))) (by intro u hu;simp at hu;rcases hu with rfl|rfl|rfl|rfl <;> rfl) (by decide) (by unfold maxLen;omega) (by omega) (by first|exact a.out.size|(have:=a.out.size;simp;omega)) _ rfl ?_;intro g2 i3 u2 h7 h6 i4 i5;refine(λ(a4:Hid (Below w5.heap.size w5 u2))=>?_) (Below.grown ?_ h6 ?_ (λj hj=>(U.lt j hj).1));rotate_left;(focus(repeat(first|exact bZ|refine Jh ?_|refine zk ?_ _|refine ze ?_ (zr H))));(focus(first|exact a.out.size|(have:=a.out.size;simp;omega)));have q0:=(a4.out.cell (zM y)).trans e5;have q1:=zg (zb y a4.out) (k*3+1);refine b.out _ _ (KS.out _ a4.out) (λhS=>?_)
  clear b K;simp only[Act.put,sB,sZ,sS]
  (refine tkL 16 (v:=?_) rfl (by kernel_rfl) (λ_ _ _ h=>h) rfl (by assumption) ?_ ?_;rotate_left;(focus(intro w' h;(try dsimp only at h);go_simp;try with_reducible rfl));simp only[Act.put,sB,sZ,sS])
  (refine tkL 17 (v:=?_) rfl (by kernel_rfl) (λ_ _ _ h=>h) rfl (by assumption) ?_ ?_;rotate_left;(focus(intro w' h;(try dsimp only at h);go_simp;try with_reducible rfl));simp only[Act.put,sB,sZ,sS])
  refine zj (rs:=[18]) (by kernel_rfl) (by simp) ?_
  refine zc.lastL rfl (λK b=>?_)
  go_simp;refine b.out _ _ ?_;clear b K;refine zX (by kernel_rfl) ?_ _
  have HF:Hid _:=doRo (T:=ZE _ l.ron (λ_=>⟨who,_,_,_⟩)) (v:=⟨leg,1,_,who,⟨pe,len,hei,cl,_,be⟩⟩) HO.out HQ.out g5.out (ze c a4.out) (zu (by rw[zfA,Q6,show zw _ 0=[] from rfl,List.nil_append];exact h7) c.size) (by rw[b5.out,b8.out];exact .addWhole m rfl rfl rfl (by rw[← b8.out,← b5.out];exact a6.out))
  go_wp2;go_ret;exact HF.out
theorem l7Do_f (g base N R k V a3 b9:Nat)(b7 b6 b5:Option Addr)(leg who:Int)(pe len hei cl be:Int)(x:Off)(L C A B D E:Nat->Value)(w:World)(hq:w.heap[g]?=some (.cells #[(b7,N,V),(b6,N,a3),(b5,R,b9)] 38 (0,0)))(O:zF w base (b7,N,V) (b6,N,a3) (b5,R,b9) N N R x L C A B D E)(hN:N<=1048576)(hk:zW x.sa leg N=k)(y:k<N)(e6:qm (x.sa k) (x.ld k)) :
  Calls prog 92 #[.pointer (some (g,0)),.agg #[leg,int i64 1,.bool false,who,pe,len,hei,cl,.bool false,be]] w λe w'=>zfW g base N R k V a3 b9 b7 b6 b5 ⟨leg,1,false,who,⟨pe,len,hei,cl,false,be⟩⟩ x L C E w e w':=by
 obtain⟨i0,ii,a6,a7,a8⟩:=info_parts Tryz.infoRoom;obtain⟨gl,rfl,g7,a4⟩:=qh O.ld.row (by omega)
 have HO:=hI O;have HK:=hI hk;have a1:=hI e6;have g0:Hid (base<=w.heap.size):=by show base<=w.heap.size;omega
 have HQ:=hI hq;have a9:=hI O.sa.at;obtain⟨cs,e5⟩:=zA O.ld.row gl rfl;obtain⟨e0,e4,eA,m1,m2,m3⟩:=zp (O.ld.st k y);obtain⟨i,J,eB,m4,m5,m6⟩:=zp (O.ld.ro k y);obtain⟨d9,e3,eD,m7,m8,m9⟩:=zp (O.ld.se k y);have g6:Hid (w.ownsRow base 220 4 (e0,(x.ld k).stn,e4) (x.ld k).stn (zy (x.ld k).st (x.ld k).stn)):=by show w.ownsRow _ _ _ _ _ _;rw[← eA];exact O.ld.st k y
 have b4:Hid (w.ownsRow base 228 4 (i,(x.ld k).ron,J) (x.ld k).ron (zw (x.ld k).ro (x.ld k).ron)):=by show w.ownsRow _ _ _ _ _ _;rw[← eB];exact O.ld.ro k y
 have g5:Hid (w.ownsRow base 234 2 (d9,(x.ld k).sen,e3) (x.ld k).sen (zB (x.ld k).se (x.ld k).sen)):=by show w.ownsRow _ _ _ _ _ _;rw[← eD];exact O.ld.se k y
 have d3:Hid (w.cell? (gl,k*3)=some (e0,(x.ld k).stn,e4)):=by
  have h:=zs O.ld.row (k*3+0) (by omega) rfl
  rw[zC 3 _ k 0 (by decide)] at h
  rw[← eA];exact h
 have b1:Hid (w.cell? (gl,k*3+1)=some (i,(x.ld k).ron,J)):=by
  have h:=zs O.ld.row (k*3+1) (by omega) rfl
  rw[zC 3 _ k 1 (by decide)] at h
  rw[← eB];exact h
 have d4:Hid (w.cell? (gl,k*3+2)=some (d9,(x.ld k).sen,e3)):=by
  have h:=zs O.ld.row (k*3+2) (by omega) rfl
  rw[zC 3 _ k 2 (by decide)] at h
  rw[← eD];exact h
 have d5:Hid (_/\_/\_):=⟨m3,m6,m9⟩;obtain⟨s,a5⟩:∃ s,s=x.sa k:=⟨_,rfl⟩;obtain⟨l,d2⟩:∃ l,l=x.ld k:=⟨_,rfl⟩;rw[← d2] at g6 b4 g5 d3 b1 d4 d5 a1;rw[← a5] at a1;have d7:=hI a5;have b2:=hI d2;have g3:=hI e5;obtain⟨F,so,la,lc,ca,cc,rfl,f0,f1,f2,f3,f4,f5,f6,f7,d1,d0,f9,f8⟩:=a9 k y;rw[← a5] at f0 f1 f2 f3 f4 f5 f6 f7 d1 d0 f9 f8;have g4:Hid (_/\_):=⟨d1,d0⟩;have g1:Hid (∀ W,Below _ w W->_/\_/\_/\_/\_/\_/\_/\_):=λW hb=>by
  have f:=Ja w _ f0;exact⟨(hb.cell f).trans f0,(hb.cell (p:=⟨F,_+1,_⟩) f).trans f1,(hb.cell (p:=⟨F,_+2,_⟩) f).trans f2,(hb.cell (p:=⟨F,_+3,_⟩) f).trans f3,(hb.cell (p:=⟨F,_+4,_⟩) f).trans f4,(hb.cell (p:=⟨F,_+5,_⟩) f).trans f5,(hb.cell (p:=⟨F,_+6,_⟩) f).trans f6,(hb.cell (p:=⟨F,_+7,_⟩) f).trans f7⟩
 clear f0 f1 f2 f3 f4 f5 f6 f7 d1 d0 f9 f8 a5 d2 e5 eA eB eD m1 m2 m3 m4 m5 m6 m7 m8 m9 e6 hk g7;have i1:(0:Int)<=(k:Int):=by omega
 have i2:(k:Int)<(N:Int):=by omega
 have M:Below _ w (w.alloc (.cells #[leg,int i64 1,.bool false,who,pe,len,hei,cl,.bool false,be] 159)):=zk bZ _;have b0:=zoP M;go_enter func92,ntmps92;go_upto_region 1 with fail;generalize (w.alloc _)=W at M b0 ⊢;have z0:∀ G:zn W,G.val.cell? _=some (.slice _ N V):=λG=>za (zb HQ (ze M G.bel)) 0 _ rfl
 have z1:∀ G:zn W,G.val.cell? _=some (.int _ leg):=λG=>za (zb b0 G.bel) 0 _ rfl
 refine zh (by kernel_rfl) (by kernel_rfl) ?_
 repeat(first|go_big_quiet_skip|(go_big_quiet_want;go_big_quiet_op;first|go_big_quiet_on|(apply Jg;refine⟨λG=>?_,?_⟩;(focus(first|(go_at_call 161;refine zf (v:=int i64 (k:Int)) ((Q9 _ N V _ leg _ hN (a9.below (ze M G.bel))).mono ?_);rintro e w2 ⟨he,c9⟩;refine⟨?_,c9⟩;rw[HK.out] at he;rcases he with⟨_,rfl⟩|⟨h,_⟩;rfl;omega)));go_big_quiet_on)))
 refine Jl ?_;rintro _ ⟨G,rfl⟩;clear z0 z1;have Y:=ze M G.bel;have bW:=zb b0 G.bel;obtain⟨c0,c1,c2,c3,c4,c5,c6,c7⟩:=g1 _ Y;have y0:=za (zb HQ Y) 0 _ rfl;have y1:∀ o,(G.val.alloc o).cell? _=some (.slice _ N a3):=λo=>za (zb HQ (zk Y o)) 1 _ rfl
 have y4:∀ o,(G.val.alloc o).cell? _=some (.int _ pe):=λo=>za (zd bW o) 4 _ rfl
 have y5:∀ o,(G.val.alloc o).cell? _=some (.int _ len):=λo=>za (zd bW o) 5 _ rfl
 have y6:∀ o,(G.val.alloc o).cell? _=some (.int _ hei):=λo=>za (zd bW o) 6 _ rfl
 have y7:∀ o,(G.val.alloc o).cell? _=some (.int _ cl):=λo=>za (zd bW o) 7 _ rfl
 have y8:∀ o,(G.val.alloc o).cell? _=some (.bool _):=λo=>za (zd bW o) 8 _ rfl
 have y9:∀ o,(G.val.alloc o).cell? _=some (.int _ be):=λo=>za (zd bW o) 9 _ rfl
 go_upto_region 8 with fail;have c:Below _ w ((G.val.alloc (.cells (s,la,lc,ca,cc) 140)).alloc (.cells #[pe,len,hei,cl,.bool false,be] 45)):=zk (zk Y _) _;have I:=zd (zd bW (.cells (s,la,lc,ca,cc) 140)) (.cells #[pe,len,hei,cl,.bool false,be] 45);have U:=zd (Jb G.val (.cells (s,la,lc,ca,cc) 140)) (.cells #[pe,len,hei,cl,.bool false,be] 45);have H:=zfT G.val (.cells (s,la,lc,ca,cc) 140) (.cells #[pe,len,hei,cl,.bool false,be] 45);generalize hx0:(G.val.alloc _).alloc _=X at c I U H ⊢;generalize hsb:G.val.heap.size=sb at U H ⊢;clear c0 c1 c2 c3 c4 c5 c6 c7 y0 y1 y4 y5 y6 y7 y8 y9 bW Y M b0 hx0 hsb G W;have w1:=za I 1 _ rfl;have w2:=za I 2 _ rfl;have w3:=za I 3 _ rfl;have L0:=(c.cell a4).trans d3;have L1:=(c.cell a4).trans b1;have L2:=(c.cell a4).trans d4;have bG:=zb g3 c;obtain⟨rb,e8⟩:=ziM l.ron s.ca.n (zbN s.ca l.ron l.ro cl be);have a2:=hI e8;clear e8;have s5:∀ G:zn X,G.val.cell? _=some (.slice ca _ cc):=λG=>za (zb U G.bel) 6 _ rfl
 have s6:∀ G:zn X,_:=λG=>(G.bel.cell (zM bG)).trans L1
 have p1:∀ G:zn X,G.val.cell? _=some (.int _ cl):=λG=>za (zb H G.bel) 3 _ rfl
 have p2:∀ G:zn X,G.val.cell? _=some (.int _ be):=λG=>za (zb H G.bel) 5 _ rfl
 go_upto_region 34 with fail;refine zh (by kernel_rfl) (by kernel_rfl) ?_
 repeat(first|go_big_quiet_skip|(go_big_quiet_want;go_big_quiet_op;first|go_big_quiet_on|(apply Jg;refine⟨λG=>?_,?_⟩;(focus(first|(go_at_call 167;refine zf (v:=int i64 rb) ((zfH ca i _ cc _ J _ _ cl be _ rfl a1.2.1 (g4.2.below (ze c G.bel)) ((QR b4).below (ze c G.bel))).mono ?_);rintro e w2 ⟨⟨r',rfl,o1⟩,c9⟩;exact⟨by rw[zcO o1 a2.out],c9⟩)));go_big_quiet_on)))
 refine Jl ?_;rintro _ ⟨G,rfl⟩;have n:=ze c G.bel;have b8:=zb I G.bel;have e2:=zb U G.bel;have S:=zb H G.bel;have Q:=zb bG G.bel;clear w1 w2 w3 L0 L1 L2 s5 s6 p1 p2;generalize G.val=W5 at n b8 e2 S Q ⊢;clear c I U H bG G X;have r4:=za S 4 _ rfl;have r5:=za S 5 _ rfl;obtain⟨r,e7⟩:∃ r,r=rb:=⟨_,rfl⟩;rw[← e7] at a2 ⊢;have d6:=a2;clear a2 e7 rb;obtain⟨w5,e9⟩:∃ w5,w5=W5:=⟨_,rfl⟩;rw[← e9] at n b8 e2 S Q r4 r5 ⊢;clear e9 W5
 by_cases hr:r<0
 ·have e1:=Jd hr
  have HF:Hid _:=doNo (v:=⟨leg,1,_,who,⟨pe,len,hei,cl,_,be⟩⟩) HO HQ n (by
   refine .berth rfl rfl rfl ?_;rw[← d7.out,← b2.out]
   rcases d6 with⟨j,h,_⟩|⟨h,h2⟩
   ·omega
   ·exact .inr ⟨rfl,h2⟩)
  go_wp2;go_ret;exact HF
 obtain⟨m,rfl⟩:∃ m:Nat,r=(m:Int):=⟨r.toNat,by omega⟩
 have e1:=Jc hr;clear hr;go_upto_region 42 with fail;have HN:=hI d5.2.1;have b3:Hid (∀ z,_->qp z i _ _):=λz h=>(QR b4).below (ze n h)
 have h6:=a1.2.1.2.1;have d8:=(n.cell a4).trans b1;have Z:Hid (∀ z,Below _ w5 z->(z.cell? _=some (.int _ who)/\z.cell? _=some (.bool _))/\_):=λz h=>⟨⟨za (zb b8 h) 3 _ rfl,za (zb S h) 4 _ rfl⟩,(h.cell (zM Q)).trans d8⟩
 refine qg 18 19 (λw'=>(w'.cell? _=_/\w'.cell? _=_)/\w'.cell? _=_) rfl (by kernel_rfl) (Z _ (Jh bZ)) (λhS=>?_)
 simp only[List.replicate_succ,List.replicate_zero]
 (refine tFL 0 (v:=?_) rfl (by kernel_rfl) (λ_ _ _ h=>h) rfl (by assumption) ?_ ?_;rotate_left;(focus(intro w' h;(try dsimp only at h);go_simp;try with_reducible rfl));simp only[Act.put,sB,sZ,sS])
 iterate 4 (refine tFL 2 (v:=?_) rfl (by kernel_rfl) (λ_ _ _ h=>h) rfl (by assumption) ?_ ?_;rotate_left;(focus(intro w' h;(try dsimp only at h);go_simp;try with_reducible rfl));simp only[Act.put,sB,sZ,sS])
 iterate 7 (refine tFL 7 (v:=?_) rfl (by kernel_rfl) (λ_ _ _ h=>h) rfl (by assumption) ?_ ?_;rotate_left;(focus(intro w' h;(try dsimp only at h);go_simp;try with_reducible rfl));simp only[Act.put,sB,sZ,sS])
 refine zj (rs:=[1,14]) (by kernel_rfl) (by simp) ?_
 refine zc.consL rfl (λK b=>?_) (zc.consL rfl (λK b=>?_) zc.nil)
 focus
  go_simp;refine b _ _ (Z _ (by repeat(first|exact a|exact bZ|refine Jh ?_|refine zk ?_ _))) (λhS=>?_)
  clear b K;simp only[sZ,sS];refine zj (rs:=[6,14]) (by kernel_rfl) (by simp) ?_
  refine zc.consL rfl (λK b=>?_) (zc.consL rfl (λK b=>?_) zc.nil)
  focus
   refine zP rfl _ _ 142 rfl 228 i0 _ 4 32 underlying142 ii a6 a7 a8 rfl (by decide) _ _ rfl (by first|exact Jr _|omega|(simp;done)|(simp;omega)) (by repeat(first|((with_reducible refine Qa _ _ _ ?_);(first|rfl|(simp;done)))|with_reducible refine zK ?_|with_reducible refine zd ?_ _)) i _ J _ rfl HN (qK _ _) (Qv (b3 _ (by repeat(first|exact bZ|refine Jh ?_|refine zk ?_ _)))) (Z5 _ _) (by unfold maxLen;omega) (by omega) ?_;intro p1 q1 u1 q P d;clear d;have a:Hid (Below _ w5 u1):=(by show Below _ _ _;refine ze ?_ (zr q);exact(by repeat(first|exact bZ|refine Jh ?_|refine zk ?_ _)));refine b _ _ (Z _ a) (λhS=>?_)
   clear b K;simp only[Act.put,sB,sZ,sS];refine zj (rs:=[14]) (by kernel_rfl) (by simp) ?_
   refine zc.consL rfl (λK b=>?_) zc.nil
   focus
    go_simp;refine b _ _ (Z _ (by repeat(first|exact a|exact bZ|refine Jh ?_|refine zk ?_ _))) (λhS=>?_)
    clear b K;simp only[sZ,sS]
  rotate_left 1
  focus
   go_simp;refine b _ _ (Z _ (by repeat(first|exact a|exact bZ|refine Jh ?_|refine zk ?_ _))) (λhS=>?_)
   clear b K;simp only[sZ,sS];refine zj (rs:=[6]) (by kernel_rfl) (by simp) ?_
   refine zc.consL rfl (λK b=>?_) zc.nil
   focus
    refine zP rfl _ _ 142 rfl 228 i0 _ 4 32 underlying142 ii a6 a7 a8 rfl (by decide) _ _ rfl (by first|exact Jr _|omega|(simp;done)|(simp;omega)) (by repeat(first|((with_reducible refine Qa _ _ _ ?_);(first|rfl|(simp;done)))|with_reducible refine zK ?_|with_reducible refine zd ?_ _)) i _ J _ rfl HN (qK _ _) (Qv (b3 _ (by repeat(first|exact bZ|refine Jh ?_|refine zk ?_ _)))) (Z5 _ _) (by unfold maxLen;omega) (by omega) ?_;intro p1 q1 u1 q P d;clear d;have a:Hid (Below _ w5 u1):=(by show Below _ _ _;refine ze ?_ (zr q);exact(by repeat(first|exact bZ|refine Jh ?_|refine zk ?_ _)));refine b _ _ (Z _ a) (λhS=>?_)
    clear b K;simp only[Act.put,sB,sZ,sS]
 rotate_left 2
 focus
  go_simp;refine b _ _ (Z _ (by repeat(first|exact a|exact bZ|refine Jh ?_|refine zk ?_ _))) (λhS=>?_)
  clear b K;simp only[sZ,sS];refine zj (rs:=[1]) (by kernel_rfl) (by simp) ?_
  refine zc.consL rfl (λK b=>?_) zc.nil
  focus
   go_simp;refine b _ _ (Z _ (by repeat(first|exact a|exact bZ|refine Jh ?_|refine zk ?_ _))) (λhS=>?_)
   clear b K;simp only[sZ,sS];refine zj (rs:=[6]) (by kernel_rfl) (by simp) ?_
   refine zc.consL rfl (λK b=>?_) zc.nil
   focus
    refine zP rfl _ _ 142 rfl 228 i0 _ 4 32 underlying142 ii a6 a7 a8 rfl (by decide) w5.heap.size _ rfl (by first|exact Jr _|omega|(simp;done)|(simp;omega)) (by repeat(first|((with_reducible refine Qa _ _ _ ?_);(first|rfl|(simp;done)))|with_reducible refine zK ?_|with_reducible refine zd ?_ _)) i _ J _ rfl HN (qK _ _) (Qv (b3 _ (by repeat(first|exact bZ|refine Jh ?_|refine zk ?_ _)))) (Z5 _ _) (by unfold maxLen;omega) (by omega) ?_;intro p1 q1 u1 q P d;clear d;have a:Hid (Below _ w5 u1):=(by show Below _ _ _;refine ze ?_ (zr q);exact(by repeat(first|exact bZ|refine Jh ?_|refine zk ?_ _)));refine b _ _ (Z _ a) (λhS=>?_)
    clear b K;simp only[Act.put,sB,sZ,sS]
 all_goals
  refine zj (rs:=[15]) (by kernel_rfl) (by simp) ?_
  refine zc.consL rfl (λK b=>?_) zc.nil
  refine step_append_lies _ rfl (.tmp 232) _ 142 rfl _ 228 i0 _ 4 32 underlying142 ii a6 a7 a8 rfl (by decide) _ _ _ rfl (by first|exact P|exact P.alloc _|exact zo (zk bZ _) P) _ 1 1 [.int _ who,.int _ _,.int _ _,.bool _] rfl rfl (by refine Jo (cs:=#[_,_,_,_]) (t:=228) (fr:=(0,0)) ?_;exact(by repeat(first|((with_reducible refine Qa _ _ _ ?_);(first|rfl|(simp;done)))|with_reducible refine zK ?_|with_reducible refine zd ?_ _|with_reducible refine zb ?_ (zr q)))) (by intro u hu;simp at hu;rcases hu with rfl|rfl|rfl|rfl <;> rfl) (by decide) (by unfold maxLen;omega) (by omega) (by first|exact a.out.size|(have:=a.out.size;simp;omega)) _ rfl ?_;intro g2 h0 u2 g9 g8 h4 h5;refine(λ(a0:Hid (Below w5.heap.size w5 u2))=>?_) (Below.grown ?_ g8 ?_ (λj hj=>(P.lt j hj).1));rotate_left;(focus(repeat(first|exact bZ|refine Jh ?_|refine zk ?_ _|refine ze ?_ (zr q))));(focus(first|exact a.out.size|(have:=a.out.size;simp;omega)));have q0:=(a0.out.cell (zM Q)).trans d8;have q1:=zg (zb Q a0.out) (k*3+1);refine b.out _ _ (Z.out _ a0.out) (λhS=>?_)
  clear b K;simp only[Act.put,sB,sZ,sS]
  iterate 2 (refine tFL 16 (v:=?_) rfl (by kernel_rfl) (λ_ _ _ h=>h) rfl (by assumption) ?_ ?_;rotate_left;(focus(intro w' h;(try dsimp only at h);go_simp;try with_reducible rfl));simp only[Act.put,sB,sZ,sS])
  refine zj (rs:=[18]) (by kernel_rfl) (by simp) ?_
  refine zc.lastL rfl (λK b=>?_)
  go_simp;refine b _ _ ?_;clear b K;refine zX (by kernel_rfl) ?_ _
  have HF:Hid _:=doRo (T:=ZE _ l.ron (λ_=>⟨who,_,be,_⟩)) (v:=⟨leg,1,_,who,⟨pe,len,hei,cl,_,be⟩⟩) HO HQ g0 (ze n a0) (zu (by rw[zfA,Q6,show zw _ 0=[] from rfl,List.nil_append];exact g9) n.size) (by rw[b2.out];exact .addBerth m rfl rfl rfl (by rw[← d7.out,← b2.out];exact d6))
  go_wp2;go_ret;exact HF
theorem zfv (l:Option Addr)(n c:Nat)(S:Nat->Qe)(x:Int)(w:World)(hn:n<=1048576)(s:qE w l n S) :
  Calls prog 154 #[(l,n,c),x] w λe w'=>qX (Has (zag S) n x) e/\Below w.heap.size w w':=by
 go_enter func154,ntmps154;go_wp2;go_loopw [6,9] (λ_ i wr=>∃ k,k<=n/\i=int i64 k/\(∀ j,j<k->zag S j≠x)/\Below w.heap.size w wr) (λ_ i _=>n - (intOf i).toNat)
 case atStart=>exact⟨0,Jq _,rfl,λj r=>by omega,bZ⟩
 case round =>
  obtain⟨k,hk,rfl,d,a⟩:=hrel;have h:=hI d;clear d
  by_cases hlt2:k<n
  ·obtain⟨b,off,rfl,g,h1⟩:=s k hlt2
   have m:=Ja w _ g;have c0:=(a.cell m).trans g;have c1:=(a.cell (p:=⟨b,_+1,_⟩) m).trans h1;clear g h1
   by_cases he:zag S k=x
   ·have q:((S k).who == x)=true:=by unfold zag at he;simpa using he
    have f:Hid (Has _ n x):=⟨k,hlt2,he⟩;clear he;go_wp2;go_ret;exact⟨zR f,zk a _⟩
   ·have q:((S k).who == x)=false:=by unfold zag at he;simpa using he
    have o:=hI he;clear he;go_wp2;go_roundw
    case rel=>exact⟨k+1,by omega,by go_num,λj r=>by
     by_cases e:j=k
     ·subst e;exact o
     ·exact h j (by omega),zk a _⟩
    case measure=>simp[intOf];omega
  ·obtain rfl:k=n:=by omega
   have f:=hI (zdp h);go_wp2;go_ret;exact⟨zl f,a⟩
theorem zcY (bo:Option Addr)(n c:Nat)(S:Nat->Qe)(w:World)(hn:n<=60)(h:∀ j,j<n->In (S j).many 1 20)(m:qE w bo n S) :
  Calls prog 155 #[(bo,n,c)] w λe w'=>e=.returned (QN S n)/\Below w.heap.size w w':=by
 have f:=hI h;clear h;go_enter func155,ntmps155;go_wp2;go_loopw [3,5,8] (λv _ i wr=>∃ k,k<=n/\i=int i64 k/\v=int i64 (QN S k)/\Below w.heap.size w wr) (λ_ _ i _=>n - (intOf i).toNat)
 case atStart=>exact⟨0,Jq _,rfl,rfl,bZ⟩
 case round =>
  obtain⟨k,hk,rfl,rfl,a⟩:=hrel
  by_cases hlt:k<n
  ·obtain⟨b,off,rfl,d,h1⟩:=m k hlt
   have g:=Ja w _ d;have c0:=(a.cell g).trans d;have c1:=(a.cell (p:=⟨b,_+1,_⟩) g).trans h1;clear d h1;have l:IntKind.i64.wrap (QN S k+(S k).many)=QN S (k+1):=by
    have h1:=zek S k (λj hj=>f j (by omega))
    have h2:=f k hlt;unfold In at h2;have h3:QN S (k+1)=_+_:=rfl;rw[h3,Jk];omega
   go_wp2;go_roundw
   case rel=>exact⟨_,by omega,by go_num,rfl,zk a _⟩
   case measure=>simp[intOf];omega
  ·obtain rfl:k=n:=by omega
   go_wp2;go_ret;exact⟨rfl,a⟩
theorem zji (most:Int)(bo:Option Addr)(n c:Nat)(S:Nat->Qe)(w:World)(hn:n<=2097152)(hc:n<=c)(L:qE w bo n S) :
  Calls prog 84 #[most,(bo,n,c)] w λe w'=>qX (Qx most n S) e/\Below w.heap.size w w':=by
 have t:=hI L;clear L
 by_cases g0:In most 0 500
 ·have J:=Jd g0
  have z:=hI g0;clear g0
  by_cases h60:n<=60
  ·have I:decide (60<n)=false:=by simp;omega
   go_enter func84,ntmps84;go_wp2_with (first|(go_at_call 148;refine sC (zt _ _ _ _) ?_))
   go_loopw [5,6,17] (λ_ _ i wr=>∃ k,k<=n/\i=int i64 k/\(∀ j,j<k->In (S j).who 1 9999/\¬ Has (zag S) j (S j).who/\In (S j).many 1 20)/\Below w.heap.size w wr) (λ_ _ i _=>n - (intOf i).toNat)
   case atStart=>exact⟨0,Jq _,rfl,λj H=>by omega,bZ⟩
   case round =>
    obtain⟨i,s,rfl,m,a⟩:=hrel;have C:=hI m;clear m J I
    by_cases hlt:i<n
    ·obtain⟨b,off,rfl,F,h1⟩:=t i hlt
     have K:=Ja w _ F;have M:=(a.cell K).trans F;have c1:=(a.cell (p:=⟨b,_+1,_⟩) K).trans h1;have d:=Jb wr (.cells #[(S i).who,(S i).many] 234);have f:=zk a (.cells #[(S i).who,(S i).many] 234);clear F h1;go_upto_region 6 with fail;generalize hW:wr.alloc _=W at d f ⊢;clear hW;have y:=zM d;have z0:∀ g:zn W,g.val.cell? _=some (.int _ _):=λg=>(g.bel.cell y).trans (za d 0 _ rfl)
     have z1:∀ g:zn W,g.val.cell? _=some (.int _ _):=λg=>(g.bel.cell y).trans (za d 1 _ rfl)
     have i1:(0:Int)<=(i:Int):=by omega
     have i2:(i:Int)<=(c:Int):=by omega
     clear M c1 d a
     by_cases g1:In (S i).who 1 9999
     ·have u:=Jd g1
      have A:=hI g1;clear g1
      by_cases g2:Has (zag S) i (S i).who
      ·have r:=hI g2
       clear g2;refine zh (by kernel_rfl) (by kernel_rfl) ?_
       repeat(first|go_big_quiet_skip|(go_big_quiet_want;go_big_quiet_op;first|go_big_quiet_on|(apply Jg;refine⟨λg=>?_,?_⟩;(focus(first|(go_at_call 89;refine zf (v:=.bool true) ((Qz _ _).mono ?_);rintro e o ⟨rfl,rfl⟩;exact⟨by rw[u],bZ⟩)|(go_at_call 154;refine zf (v:=.bool true) ((zfv _ i c S _ _ (by omega) ((t.upto (by omega)).below (ze f g.bel))).mono ?_);rintro e o ⟨⟨bb,rfl,s⟩,l⟩;obtain rfl:=s.2 r;exact⟨rfl,l⟩)));go_big_quiet_on)))
       refine Jl ?_;rintro _ ⟨g,rfl⟩;go_wp2;go_ret;exact⟨zl (λh=>(h.2.2.1 i hlt).2.1 r),ze f g.bel⟩
      ·have r:=hI g2
       clear g2
       by_cases g3:In (S i).many 1 20
       ·have E:=Jd g3
        have B:=hI g3;clear g3;refine zh (by kernel_rfl) (by kernel_rfl) ?_
        repeat(first|go_big_quiet_skip|(go_big_quiet_want;go_big_quiet_op;first|go_big_quiet_on|(apply Jg;refine⟨λg=>?_,?_⟩;(focus(first|(go_at_call 89;refine zf (v:=.bool true) ((Qz _ _).mono ?_);rintro e o ⟨rfl,rfl⟩;exact⟨by rw[u],bZ⟩)|(go_at_call 154;refine zf (v:=.bool false) ((zfv _ i c S _ _ (by omega) ((t.upto (by omega)).below (ze f g.bel))).mono ?_);rintro e o ⟨⟨bb,rfl,s⟩,l⟩;obtain rfl:=Bool.eq_false_iff.2 (λe=>r (s.1 e));exact⟨rfl,l⟩)|(go_at_call 148;refine zf (v:=.bool true) ((zt _ _ _ _).mono ?_);rintro e o ⟨rfl,rfl⟩;exact⟨by rw[E],bZ⟩)));go_big_quiet_on)))
        refine Jl ?_;rintro _ ⟨g,rfl⟩;go_wp2;have D:Hid (∀ j,j<i+1->In (S j).who 1 9999/\¬ Has _ j (S j).who/\In (S j).many 1 20):=λj H=>by
         by_cases e:j=i
         ·subst e;exact⟨A,r,B⟩
         ·exact C j (by omega)
        go_roundw
        case rel=>exact⟨_,by omega,by go_num,D,ze f g.bel⟩
        case measure=>simp[intOf];omega
       ·have E:=Jc g3
        have B:=hI g3;clear g3;refine zh (by kernel_rfl) (by kernel_rfl) ?_
        repeat(first|go_big_quiet_skip|(go_big_quiet_want;go_big_quiet_op;first|go_big_quiet_on|(apply Jg;refine⟨λg=>?_,?_⟩;(focus(first|(go_at_call 89;refine zf (v:=.bool true) ((Qz _ _).mono ?_);rintro e o ⟨rfl,rfl⟩;exact⟨by rw[u],bZ⟩)|(go_at_call 154;refine zf (v:=.bool false) ((zfv _ i c S _ _ (by omega) ((t.upto (by omega)).below (ze f g.bel))).mono ?_);rintro e o ⟨⟨bb,rfl,s⟩,l⟩;obtain rfl:=Bool.eq_false_iff.2 (λe=>r (s.1 e));exact⟨rfl,l⟩)|(go_at_call 148;refine zf (v:=.bool false) ((zt _ _ _ _).mono ?_);rintro e o ⟨rfl,rfl⟩;exact⟨by rw[E],bZ⟩)));go_big_quiet_on)))
        refine Jl ?_;rintro _ ⟨g,rfl⟩;go_wp2;go_ret;exact⟨zl (λh=>B (h.2.2.1 i hlt).2.2),ze f g.bel⟩
     ·have u:=Jc g1
      have A:=hI g1;clear g1;refine zh (by kernel_rfl) (by kernel_rfl) ?_
      repeat(first|go_big_quiet_skip|(go_big_quiet_want;go_big_quiet_op;first|go_big_quiet_on|(apply Jg;refine⟨λg=>?_,?_⟩;(focus(first|(go_at_call 89;refine zf (v:=.bool false) ((Qz _ _).mono ?_);rintro e o ⟨rfl,rfl⟩;exact⟨by rw[u],bZ⟩)));go_big_quiet_on)))
      refine Jl ?_;rintro _ ⟨g,rfl⟩;go_wp2;go_ret;exact⟨zl (λh=>A (h.2.2.1 i hlt).1),ze f g.bel⟩
    ·obtain rfl:i=n:=by omega
     go_wp2_with fail;refine(zcY bo i c S _ h60 (λj H=>(C j H).2.2) (t.below a)).mono ?_
     rintro e w2 ⟨rfl,G⟩;have x:=ze a G
     by_cases hle:QN S i<=most
     ·have N:=Jd hle
      have q:=hI hle;clear hle;go_wp2;go_ret;exact⟨zR ⟨z,h60,C,q⟩,x⟩
     ·have N:=Jc hle
      have q:=hI hle;clear hle;go_wp2;go_ret;exact⟨zl (λh=>by have:=q.out;have:=h.2.2.2;omega),x⟩
  ·have I:decide (60<n)=true:=by simp;omega
   go_enter func84,ntmps84;go_wp2_with (first|(go_at_call 148;refine sC (zt _ _ _ _) ?_))
   go_ret;exact⟨zl (λh=>h60 h.2.1),bZ⟩
 ·have J:=Jc g0
  have z:=hI g0;clear g0;go_enter func84,ntmps84;go_wp2_with (first|(go_at_call 148;refine sC (zt _ _ _ _) ?_))
  go_ret;exact⟨zl (λh=>z h.1),bZ⟩
theorem l7Do_g (g base N R k a3 a6 d0:Nat)(c9 b9 b8:Option Addr)(leg who:Int)(p:Qh)(x:Off)(L C A B D E:Nat->Value)(w:World)(hq:w.heap[g]?=some (.cells #[(c9,N,a3),(b9,N,a6),(b8,R,d0)] 38 (0,0)))(Y:zF w base (c9,N,a3) (b9,N,a6) (b8,R,d0) N N R x L C A B D E)(hN:N<=1048576)(hk:zW x.sa leg N=k)(M:k<N)(e5:qm (x.sa k) (x.ld k))(hp:In p.pe 0 20) :
  Calls prog 92 #[.pointer (some (g,0)),.agg #[leg,int i64 2,.bool false,who,p.pe,p.len,p.hei,p.cl,p.all,p.be]] w λe w'=>zfW g base N R k a3 a6 d0 c9 b9 b8 ⟨leg,2,false,who,p⟩ x L C E w e w':=by
 obtain⟨i0,ii,a9,b1,b2⟩:=info_parts Tryz.infoSeat;obtain⟨gl,rfl,g5,a7⟩:=qh Y.ld.row (by omega)
 have HO:=hI Y;have HK:=hI hk;have n:=hI e5;have e9:Hid (base<=w.heap.size):=by show base<=w.heap.size;omega
 have HQ:=hI hq;have b3:=hI Y.sa.at;obtain⟨cs,e4⟩:=zA Y.ld.row gl rfl;obtain⟨e1,e3,eA,m1,m2,m3⟩:=zp (Y.ld.st k M);obtain⟨e0,e2,eB,m4,m5,m6⟩:=zp (Y.ld.ro k M);obtain⟨i,y,eD,m7,m8,m9⟩:=zp (Y.ld.se k M);have g1:Hid (w.ownsRow base 220 4 (e1,(x.ld k).stn,e3) (x.ld k).stn (zy (x.ld k).st (x.ld k).stn)):=by show w.ownsRow _ _ _ _ _ _;rw[← eA];exact Y.ld.st k M
 have g0:Hid (w.ownsRow base 228 4 (e0,(x.ld k).ron,e2) (x.ld k).ron (zw (x.ld k).ro (x.ld k).ron)):=by show w.ownsRow _ _ _ _ _ _;rw[← eB];exact Y.ld.ro k M
 have a1:Hid (w.ownsRow base 234 2 (i,(x.ld k).sen,y) (x.ld k).sen (zB (x.ld k).se (x.ld k).sen)):=by show w.ownsRow _ _ _ _ _ _;rw[← eD];exact Y.ld.se k M
 have d6:Hid (w.cell? (gl,k*3)=some (e1,(x.ld k).stn,e3)):=by
  have h:=zs Y.ld.row (k*3+0) (by omega) rfl
  rw[zC 3 _ k 0 (by decide)] at h
  rw[← eA];exact h
 have d7:Hid (w.cell? (gl,k*3+1)=some (e0,(x.ld k).ron,e2)):=by
  have h:=zs Y.ld.row (k*3+1) (by omega) rfl
  rw[zC 3 _ k 1 (by decide)] at h
  rw[← eB];exact h
 have b5:Hid (w.cell? (gl,k*3+2)=some (i,(x.ld k).sen,y)):=by
  have h:=zs Y.ld.row (k*3+2) (by omega) rfl
  rw[zC 3 _ k 2 (by decide)] at h
  rw[← eD];exact h
 have d8:Hid (_/\_/\_):=⟨m3,m6,m9⟩;obtain⟨s,a8⟩:∃ s,s=x.sa k:=⟨_,rfl⟩;obtain⟨l,d4⟩:∃ l,l=x.ld k:=⟨_,rfl⟩;rw[← d4] at g1 g0 a1 d6 d7 b5 d8 n;rw[← a8] at n;have b7:=hI a8;have a0:=hI d4;have f9:=hI e4;obtain⟨O,so,la,lc,ca,cc,rfl,f0,f1,f2,f3,f4,f5,f6,f7,d3,d2,e8,e7⟩:=b3 k M;rw[← a8] at f0 f1 f2 f3 f4 f5 f6 f7 d3 d2 e8 e7;have h4:Hid (_/\_):=⟨d3,d2⟩;have f8:Hid (∀ W,Below _ w W->_/\_/\_/\_/\_/\_/\_/\_):=λW hb=>by
  have H:=Ja w _ f0;exact⟨(hb.cell H).trans f0,(hb.cell (p:=⟨O,_+1,_⟩) H).trans f1,(hb.cell (p:=⟨O,_+2,_⟩) H).trans f2,(hb.cell (p:=⟨O,_+3,_⟩) H).trans f3,(hb.cell (p:=⟨O,_+4,_⟩) H).trans f4,(hb.cell (p:=⟨O,_+5,_⟩) H).trans f5,(hb.cell (p:=⟨O,_+6,_⟩) H).trans f6,(hb.cell (p:=⟨O,_+7,_⟩) H).trans f7⟩
 clear f0 f1 f2 f3 f4 f5 f6 f7 d3 d2 e8 e7 a8 d4 e4 eA eB eD m1 m2 m3 m4 m5 m6 m7 m8 m9 e5 hk g5;have i1:(0:Int)<=(k:Int):=by omega
 have i2:(k:Int)<(N:Int):=by omega
 have V:Below _ w (w.alloc (.cells #[leg,int i64 2,.bool false,who,p.pe,p.len,p.hei,p.cl,p.all,p.be] 159)):=zk bZ _;have b0:=zoP V;go_enter func92,ntmps92;go_upto_region 1 with fail;generalize (w.alloc _)=W at V b0 ⊢;have z0:∀ G:zn W,G.val.cell? _=some (.slice _ N a3):=λG=>za (zb HQ (ze V G.bel)) 0 _ rfl
 have z1:∀ G:zn W,G.val.cell? _=some (.int _ leg):=λG=>za (zb b0 G.bel) 0 _ rfl
 refine zh (by kernel_rfl) (by kernel_rfl) ?_
 repeat(first|go_big_quiet_skip|(go_big_quiet_want;go_big_quiet_op;first|go_big_quiet_on|(apply Jg;refine⟨λG=>?_,?_⟩;(focus(first|(go_at_call 161;refine zf (v:=int i64 (k:Int)) ((Q9 _ N a3 _ leg _ hN (b3.below (ze V G.bel))).mono ?_);rintro e w2 ⟨he,I⟩;refine⟨?_,I⟩;rw[HK.out] at he;rcases he with⟨_,rfl⟩|⟨h,_⟩;rfl;omega)));go_big_quiet_on)))
 refine Jl ?_;rintro _ ⟨G,rfl⟩;clear z0 z1;have a4:=ze V G.bel;have bW:=zb b0 G.bel;obtain⟨c0,c1,c2,c3,c4,c5,c6,c7⟩:=f8 _ a4;have y0:=za (zb HQ a4) 0 _ rfl;have y1:∀ o,(G.val.alloc o).cell? _=some (.slice _ N a6):=λo=>za (zb HQ (zk a4 o)) 1 _ rfl
 have y4:∀ o,(G.val.alloc o).cell? _=some (.int _ _):=λo=>za (zd bW o) 4 _ rfl
 have y5:∀ o,(G.val.alloc o).cell? _=some (.int _ _):=λo=>za (zd bW o) 5 _ rfl
 have y6:∀ o,(G.val.alloc o).cell? _=some (.int _ _):=λo=>za (zd bW o) 6 _ rfl
 have y7:∀ o,(G.val.alloc o).cell? _=some (.int _ _):=λo=>za (zd bW o) 7 _ rfl
 have y8:∀ o,(G.val.alloc o).cell? _=some (.bool _):=λo=>za (zd bW o) 8 _ rfl
 have y9:∀ o,(G.val.alloc o).cell? _=some (.int _ _):=λo=>za (zd bW o) 9 _ rfl
 go_upto_region 8 with fail;have c:Below _ w ((G.val.alloc (.cells (s,la,lc,ca,cc) 140)).alloc (.cells #[p.pe,p.len,p.hei,p.cl,p.all,p.be] 45)):=zk (zk a4 _) _;have f:=zd (zd bW (.cells (s,la,lc,ca,cc) 140)) (.cells #[p.pe,p.len,p.hei,p.cl,p.all,p.be] 45);have S:=zd (Jb G.val (.cells (s,la,lc,ca,cc) 140)) (.cells #[p.pe,p.len,p.hei,p.cl,p.all,p.be] 45);have m:=zfT G.val (.cells (s,la,lc,ca,cc) 140) (.cells #[p.pe,p.len,p.hei,p.cl,p.all,p.be] 45);generalize hx0:(G.val.alloc _).alloc _=X at c f S m ⊢;generalize hsb:G.val.heap.size=sb at S m ⊢;clear c0 c1 c2 c3 c4 c5 c6 c7 y0 y1 y4 y5 y6 y7 y8 y9 bW a4 V b0 hx0 hsb G W;have w1:=za f 1 _ rfl;have w2:=za f 2 _ rfl;have w3:=za f 3 _ rfl;have L0:=(c.cell a7).trans d6;have L1:=(c.cell a7).trans d7;have L2:=(c.cell a7).trans b5;have bG:=zb f9 c;unfold In at hp;have P:=n.2.2.2.1;have e6:=zek _ _ (λj hj=>(n.2.2.2.2.1 j hj).2.2)
 obtain⟨q,d5⟩:∃ q,q=QN l.se l.sen:=⟨_,rfl⟩;rw[← d5] at e6;have a2:=hI d5;clear d5;have h5:IntKind.i64.wrap (q+p.pe)=q+p.pe:=by rw[Jk];omega
 have s6:∀ G:zn X,_:=λG=>(G.bel.cell (zM bG)).trans L2
 have s7:∀ G:zn X,G.val.cell? _=some (.int _ _):=λG=>za (zb S G.bel) 7 _ rfl
 have p0:∀ G:zn X,G.val.cell? _=some (.int _ _):=λG=>za (zb m G.bel) 0 _ rfl
 go_upto_region 5 with fail
 by_cases h60:l.sen=60
 ·have g3:(l.sen == 60)=true:=by simpa using h60
  have g4:((l.sen:Int) == 60)=true:=by simp;omega
  have b4:=hI h60;clear h60;refine zh (by kernel_rfl) (by kernel_rfl) ?_
  repeat(first|go_big_quiet_skip|(go_big_quiet_want;go_big_quiet_op;first|go_big_quiet_on|(apply Jg;refine⟨λG=>?_,?_⟩;(focus(first|(go_at_call 155;refine zf (v:=int i64 q) ((zcY i l.sen y l.se _ P (λj hj=>(n.2.2.2.2.1 j hj).2.2) ((QS a1).below (ze c G.bel))).mono ?_);rintro e w2 ⟨rfl,I⟩;exact⟨by rw[a2.out],I⟩)));go_big_quiet_on)))
  refine Jl ?_;rintro _ ⟨G,rfl⟩;have d:=ze c G.bel;have U:=zb f G.bel;have Q:=zb m G.bel;have r:=zb bG G.bel;clear w1 w2 w3 L0 L1 L2 s6 s7 p0;generalize G.val=w5 at d U Q r ⊢;clear c f S m bG G X;have HF:Hid _:=doNo (v:=⟨leg,2,_,who,p⟩) HO HQ d (by
   refine .seats rfl rfl ?_;rw[← b7.out,← a0.out];exact .inl b4)
  go_wp2;go_ret;exact HF
 have g3:(l.sen == 60)=false:=by simpa using h60
 have g4:((l.sen:Int) == 60)=false:=by simp;omega
 have b4:=hI h60;clear h60
 by_cases hm:s.most<q+p.pe
 ·have d1:=Jd hm
  have HM:=hI hm;clear hm;refine zh (by kernel_rfl) (by kernel_rfl) ?_
  repeat(first|go_big_quiet_skip|(go_big_quiet_want;go_big_quiet_op;first|go_big_quiet_on|(apply Jg;refine⟨λG=>?_,?_⟩;(focus(first|(go_at_call 155;refine zf (v:=int i64 q) ((zcY i _ y _ _ P (λj hj=>(n.2.2.2.2.1 j hj).2.2) ((QS a1).below (ze c G.bel))).mono ?_);rintro e w2 ⟨rfl,I⟩;exact⟨by rw[a2.out],I⟩)));go_big_quiet_on)))
  refine Jl ?_;rintro _ ⟨G,rfl⟩;have d:=ze c G.bel;have U:=zb f G.bel;have Q:=zb m G.bel;have r:=zb bG G.bel;clear w1 w2 w3 L0 L1 L2 s6 s7 p0;generalize G.val=w5 at d U Q r ⊢;clear c f S m bG G X;have HF:Hid _:=doNo (v:=⟨leg,2,_,who,p⟩) HO HQ d (by
   refine .seats rfl rfl ?_;rw[← b7.out,← a0.out];exact .inr (by rw[← a2.out];exact HM))
  go_wp2;go_ret;exact HF
 have d1:=Jc hm;have HM:=hI hm;clear hm;refine zh (by kernel_rfl) (by kernel_rfl) ?_
 repeat(first|go_big_quiet_skip|(go_big_quiet_want;go_big_quiet_op;first|go_big_quiet_on|(apply Jg;refine⟨λG=>?_,?_⟩;(focus(first|(go_at_call 155;refine zf (v:=int i64 q) ((zcY i _ y _ _ P (λj hj=>(n.2.2.2.2.1 j hj).2.2) ((QS a1).below (ze c G.bel))).mono ?_);rintro e w2 ⟨rfl,I⟩;exact⟨by rw[a2.out],I⟩)));go_big_quiet_on)))
 refine Jl ?_;rintro _ ⟨G,rfl⟩;have d:=ze c G.bel;have U:=zb f G.bel;have Q:=zb m G.bel;have r:=zb bG G.bel;clear w1 w2 w3 L0 L1 L2 s6 s7 p0;generalize G.val=w5 at d U Q r ⊢;clear c f S m bG G X;go_upto_region 7 with fail;have HN:=hI d8.2.2;have b6:Hid (∀ z,_->qE z i _ _):=λz h=>(QS a1).below (ze d h)
 have P:=n.2.2.2.1;have d9:=(d.cell a7).trans b5;have KS:Hid (∀ z,Below _ w5 z->(z.cell? _=some (.int _ who)/\z.cell? _=some (.int _ _))/\_):=λz h=>⟨⟨za (zb U h) 3 _ rfl,za (zb Q h) 0 _ rfl⟩,(h.cell (zM r)).trans d9⟩
 refine qg 16 17 (λw'=>(w'.cell? _=_/\w'.cell? _=_)/\w'.cell? _=_) rfl (by kernel_rfl) (KS _ (Jh bZ)) (λhS=>?_)
 simp only[List.replicate_succ,List.replicate_zero]
 (refine tFL 0 (v:=?_) rfl (by kernel_rfl) (λ_ _ _ h=>h) rfl (by assumption) ?_ ?_;rotate_left;(focus(intro w' h;(try dsimp only at h);go_simp;try with_reducible rfl));simp only[Act.put,sB,sZ,sS])
 iterate 4 (refine tFL 2 (v:=?_) rfl (by kernel_rfl) (λ_ _ _ h=>h) rfl (by assumption) ?_ ?_;rotate_left;(focus(intro w' h;(try dsimp only at h);go_simp;try with_reducible rfl));simp only[Act.put,sB,sZ,sS])
 iterate 5 (refine tFL 7 (v:=?_) rfl (by kernel_rfl) (λ_ _ _ h=>h) rfl (by assumption) ?_ ?_;rotate_left;(focus(intro w' h;(try dsimp only at h);go_simp;try with_reducible rfl));simp only[Act.put,sB,sZ,sS])
 refine zj (rs:=[1,12]) (by kernel_rfl) (by simp) ?_
 refine zc.consL rfl (λK b=>?_) (zc.consL rfl (λK b=>?_) zc.nil)
 focus
  go_simp;refine b _ _ (KS _ (by repeat(first|exact a|exact bZ|refine Jh ?_|refine zk ?_ _))) (λhS=>?_)
  clear b K;simp only[sZ,sS];refine zj (rs:=[6,12]) (by kernel_rfl) (by simp) ?_
  refine zc.consL rfl (λK b=>?_) (zc.consL rfl (λK b=>?_) zc.nil)
  focus
   refine zP rfl _ _ 143 rfl 234 i0 _ 2 16 underlying143 ii a9 b1 b2 rfl (by decide) _ _ rfl (by first|exact Jr _|omega|(simp;done)|(simp;omega)) (by repeat(first|((with_reducible refine Qa _ _ _ ?_);(first|rfl|(simp;done)))|with_reducible refine zK ?_|with_reducible refine zd ?_ _)) i _ y _ rfl HN (Zo _ _) (zaP (b6 _ (by repeat(first|exact bZ|refine Jh ?_|refine zk ?_ _)))) (zar _ _) (by unfold maxLen;omega) (by omega) ?_;intro p1 q1 u1 J Z F;clear F;have a:Hid (Below _ w5 u1):=(by show Below _ _ _;refine ze ?_ (zr J);exact(by repeat(first|exact bZ|refine Jh ?_|refine zk ?_ _)));refine b _ _ (KS _ a) (λhS=>?_)
   clear b K;simp only[Act.put,sB,sZ,sS];refine zj (rs:=[12]) (by kernel_rfl) (by simp) ?_
   refine zc.consL rfl (λK b=>?_) zc.nil
   focus
    go_simp;refine b _ _ (KS _ (by repeat(first|exact a|exact bZ|refine Jh ?_|refine zk ?_ _))) (λhS=>?_)
    clear b K;simp only[sZ,sS]
  rotate_left 1
  focus
   go_simp;refine b _ _ (KS _ (by repeat(first|exact a|exact bZ|refine Jh ?_|refine zk ?_ _))) (λhS=>?_)
   clear b K;simp only[sZ,sS];refine zj (rs:=[6]) (by kernel_rfl) (by simp) ?_
   refine zc.consL rfl (λK b=>?_) zc.nil
   focus
    refine zP rfl _ _ 143 rfl 234 i0 _ 2 16 underlying143 ii a9 b1 b2 rfl (by decide) _ _ rfl (by first|exact Jr _|omega|(simp;done)|(simp;omega)) (by repeat(first|((with_reducible refine Qa _ _ _ ?_);(first|rfl|(simp;done)))|with_reducible refine zK ?_|with_reducible refine zd ?_ _)) i _ y _ rfl HN (Zo _ _) (zaP (b6 _ (by repeat(first|exact bZ|refine Jh ?_|refine zk ?_ _)))) (zar _ _) (by unfold maxLen;omega) (by omega) ?_;intro p1 q1 u1 J Z F;clear F;have a:Hid (Below _ w5 u1):=(by show Below _ _ _;refine ze ?_ (zr J);exact(by repeat(first|exact bZ|refine Jh ?_|refine zk ?_ _)));refine b _ _ (KS _ a) (λhS=>?_)
    clear b K;simp only[Act.put,sB,sZ,sS]
 rotate_left 2
 focus
  go_simp;refine b _ _ (KS _ (by repeat(first|exact a|exact bZ|refine Jh ?_|refine zk ?_ _))) (λhS=>?_)
  clear b K;simp only[sZ,sS];refine zj (rs:=[1]) (by kernel_rfl) (by simp) ?_
  refine zc.consL rfl (λK b=>?_) zc.nil
  focus
   go_simp;refine b _ _ (KS _ (by repeat(first|exact a|exact bZ|refine Jh ?_|refine zk ?_ _))) (λhS=>?_)
   clear b K;simp only[sZ,sS];refine zj (rs:=[6]) (by kernel_rfl) (by simp) ?_
   refine zc.consL rfl (λK b=>?_) zc.nil
   focus
    refine zP rfl _ _ 143 rfl 234 i0 _ 2 16 underlying143 ii a9 b1 b2 rfl (by decide) w5.heap.size _ rfl (by first|exact Jr _|omega|(simp;done)|(simp;omega)) (by repeat(first|((with_reducible refine Qa _ _ _ ?_);(first|rfl|(simp;done)))|with_reducible refine zK ?_|with_reducible refine zd ?_ _)) i _ y _ rfl HN (Zo _ _) (zaP (b6 _ (by repeat(first|exact bZ|refine Jh ?_|refine zk ?_ _)))) (zar _ _) (by unfold maxLen;omega) (by omega) ?_;intro p1 q1 u1 J Z F;clear F;have a:Hid (Below _ w5 u1):=(by show Below _ _ _;refine ze ?_ (zr J);exact(by repeat(first|exact bZ|refine Jh ?_|refine zk ?_ _)));refine b _ _ (KS _ a) (λhS=>?_)
    clear b K;simp only[Act.put,sB,sZ,sS]
 all_goals
  refine zj (rs:=[13]) (by kernel_rfl) (by simp) ?_
  refine zc.consL rfl (λK b=>?_) zc.nil
  refine step_append_lies _ rfl (.tmp 65) _ 143 rfl _ 234 i0 _ 2 16 underlying143 ii a9 b1 b2 rfl (by decide) _ _ _ rfl (by first|exact Z|exact Z.alloc _|exact zo (zk bZ _) Z) _ 1 1 [.int _ who,.int _ _] rfl rfl (by refine Jo (cs:=#[_,_]) (t:=234) (fr:=(0,0)) ?_;exact(by repeat(first|((with_reducible refine Qa _ _ _ ?_);(first|rfl|(simp;done)))|with_reducible refine zK ?_|with_reducible refine zd ?_ _|with_reducible refine zb ?_ (zr J)))) (by intro u hu;simp at hu;rcases hu with rfl|rfl <;> rfl) (by decide) (by unfold maxLen;omega) (by omega) (by first|exact a.size|(have:=a.size;simp;omega)) _ rfl ?_;intro g2 g8 u2 g7 g6 g9 h0;refine(λ(a5:Hid (Below w5.heap.size w5 u2))=>?_) (Below.grown ?_ g6 ?_ (λj hj=>(Z.lt j hj).1));rotate_left;(focus(repeat(first|exact bZ|refine Jh ?_|refine zk ?_ _|refine ze ?_ (zr J))));(focus(first|exact a.size|(have:=a.size;simp;omega)));have q0:=(a5.cell (zM r)).trans d9;have q1:=zg (zb r a5) (k*3+2);refine b _ _ (KS _ a5) (λhS=>?_)
  clear b K;simp only[Act.put,sB,sZ,sS]
  iterate 2 (refine tFL 14 (v:=?_) rfl (by kernel_rfl) (λ_ _ _ h=>h) rfl (by assumption) ?_ ?_;rotate_left;(focus(intro w' h;(try dsimp only at h);go_simp;try with_reducible rfl));simp only[Act.put,sB,sZ,sS])
  refine zj (rs:=[16]) (by kernel_rfl) (by simp) ?_
  refine zc.lastL rfl (λK b=>?_)
  go_simp;refine b _ _ ?_;clear b K;refine zX (by kernel_rfl) ?_ _
  have HF:Hid _:=doSe (T:=zam _ l.sen (λ_=>⟨who,_⟩)) (v:=⟨leg,2,_,who,p⟩) HO.out HQ.out e9.out (ze d a5.out) (zu (by rw[zjK,zax,show zB _ 0=[] from rfl,List.nil_append];exact g7) d.size) (by rw[a0.out];refine .addSeat rfl rfl (by rw[← a0.out];exact b4.out) ?_;rw[← b7.out,← a0.out,← a2.out];have:=HM.out;show q+p.pe<=s.most;omega)
  go_wp2;go_ret;exact HF
end Go.Proofs.YtmdnjgihooflfaaGreatDoor
