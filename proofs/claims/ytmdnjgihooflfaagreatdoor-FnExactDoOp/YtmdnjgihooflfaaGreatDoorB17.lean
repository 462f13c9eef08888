import Derived.Test.YtmdnjgihooflfaaGreatDoorB08
import Derived.Test.YtmdnjgihooflfaaGreatDoorB07
import Derived.Test.YtmdnjgihooflfaaGreatDoorB09
import Derived.Test.YtmdnjgihooflfaaGreatDoorB10
import Derived.Test.YtmdnjgihooflfaaGreatDoorB11
namespace Go.Proofs.YtmdnjgihooflfaaGreatDoor
open Go.RowKit
open Go.Value (int)
open Go.IntKind (i64)
open _root_.Go.Proofs.Tryz
set_option maxHeartbeats 64000000
set_option maxRecDepth 1000000
variable{H:Type}{base:Nat}
theorem kx (g base N R a3 a0 F M m:Nat)(U T b1 q:Option Addr)(l:Int)(y:qD)(x:zY)(L C A B D E:Nat->Value)(w:World)(hq:w.heap[g]?=some (.cells #[(U,N,a3),(T,N,a0),(b1,R,F)] 38 (0,0)))(ho:zz w base (U,N,a3) (T,N,a0) (b1,R,F) N N R x L C A B D E)(g6:x.g=R)(e8:base<=w.heap.size)(b5:y.d=5)(j4:In y.v 0 20)(l8:y.c<=3)(g0:zS w q y.c y.J)(g4:qm q y.c M)(g1:0<y.c->∀ a,q=some a->a.block<base)(g2:y.k=(m:Int)+1)(hm:m<R)(n:R<=1048576) :
  Calls prog 93 #[.pointer (some (g,0)),l,.agg (y,q,M)] w λe w'=>Ct g base N a3 a0 U T (λb=>b=g∨(Value.slice b1 R F).ownBlock=some b) { x with u:=Qq x.u m (Zd (x.u m) l y) } 0 y.k (zP ⟨y.v,y.f,y.j,y.w,y.h,y.x⟩ (y.c:Int)) (λ_ v=>v=.slice none 0 0) L C A B D w e w':=by
 obtain⟨n0,ni,j7,j8,j9⟩:=info_parts Tryz.infoInt;rw[b5,g2];have HO:=hI ho;have HQ:=hI hq;have h4:=hI b5;have i5:=hI g6;have g8:=hI e8;have h6:=hI g0;have i4:=hI g4;have h7:=hI g1;obtain⟨gb,rfl,e7,j1⟩:=qr ho.u.row oM;obtain⟨cs,f0⟩:=zC ho.u.row gb rfl;obtain⟨i8,i7,eE,q1,q2,q3⟩:=zn (ho.u.j4 m hm);obtain⟨b,b4⟩:=nM (x.u m);have l5:=hI b4;have c0:=hI f0;have h0:Hid (∀ V,Below _ w V->∀ j v,(AM _ E m)[j]?=some v->V.cell? _=some v):=λV hV j v hv=>by
  have hj:j<13:=by
   have h:=(List.getElem?_eq_some_iff.1 hv).1;exact h
  have h:=zs ho.u.row (m*13+j) oM rfl;rw[zO 13 _ m j hj,List.getD_eq_getElem?_getD,hv] at h;exact tR hV h j1
 have l6:Hid (E m=.slice i8 b.c i7):=by rw[b4];exact eE
 have i1:(0:Int)<=(m:Int):=by omega
 have i2:(m:Int)<(R:Int):=oM;have m0:IntKind.i64.wrap ((m:Int)+1 - 1)=(m:Int):=by rw[Jk];omega
 have HM:=hI hm;have g7:=hI e7;clear f0 eE q1 q2 q3 b4 e7;clear ho hq b5 g6 e8 g0 g4 g1 g2 hm;obtain⟨pr,b7⟩:=nM (zP ⟨y.v,y.f,y.j,y.w,y.h,y.x⟩ (y.c:Int));have d5:=hI b7;have c:Below _ w ((w.alloc (.cells #[int i64 5,y.j1,int i64 ((m:Int)+1),(q,y.c,M),y.v,y.f,y.j,y.w,y.h,y.x,y.y,y.D] 47)).alloc (.cells #[(),(),(),True] 41)):=zd (zd bZ _) _;have J:=zg (Jb w (.cells #[int i64 5,y.j1,int i64 ((m:Int)+1),(q,y.c,M),y.v,y.f,y.j,y.w,y.h,y.x,y.y,y.D] 47)) (.cells #[(),(),(),True] 41);have P:=EB w (.cells #[int i64 5,y.j1,int i64 ((m:Int)+1),(q,y.c,M),y.v,y.f,y.j,y.w,y.h,y.x,y.y,y.D] 47) (.cells #[(),(),(),True] 41);go_enter func93,ntmps93;go_wp2_with fail;generalize ((w.alloc _).alloc _)=W at c J P ⊢;refine(Z6 _ _ _ _ _ _ _ _ j4 (by unfold In;omega)).mono ?_
 rintro e V ⟨rfl,a4⟩;rw[← b7];clear b7;replace c:=zb c a4;replace J:=za J a4;replace P:=za P a4;clear a4 W;have o0:=bC J 0;have n2:∀ G:zy V,G.val.cell? _=some (.slice _ R F):=λG=>bC (za HQ (zb c G.o)) 2
 have m2:∀ G:zy V,G.val.cell? _=some (.int _ _):=λG=>bC (za J G.o) 2
 go_upto_region 17 with fail;refine ze kR kR ?_
 repeat(first|go_big_quiet_skip|(go_big_quiet_want;go_big_quiet_op;first|go_big_quiet_on|fail))
 refine Jl ?_;rintro _ ⟨G,rfl⟩;replace c:=zb c G.o;replace J:=za J G.o;replace P:=za P G.o;have j5:=zD P;have o2:=bC J 2;clear o0 n2 m2;have o0:=aC J 0;go_upto_region 20 with fail;replace c:=zd c (.cells #[(),int i64 ((m:Int)+1),(),True] 41);replace J:=zg J (.cells #[(),int i64 ((m:Int)+1),(),True] 41);replace P:=zg P (.cells #[(),int i64 ((m:Int)+1),(),True] 41);have bT:=Jb G.val (.cells #[(),int i64 ((m:Int)+1),(),True] 41);generalize G.val.alloc _=X at c J P bT ⊢;generalize G.val.heap.size=tb at bT j5 ⊢;clear o0 o2 G V;have d9:=za c0 c;have k1:=h0 X c 1 _ rfl;have f1:=zc d9 (m*13+1);go_upto_region 26 with fail;have o:zl X (X.setCell _ l) _:=((zl.refl X (λb=>b=gb)).set (a:=(gb,m*13+1)) rfl _)
 have a7:Hid ((X.setCell (gb,m*13+1) l).ownsRow base 150 13 (some (gb,0),R,F) R (AQ (Qq x.u m { x.u m with e:=l }) (AP E m (E m)) R)):=by
  refine qX (zI ((HO.j0 c).u.row) _ _) (λj _=>Fu 13 dC (k:=m) (C:=AM x.u E) (f:=λi=>if i=_ then _ else _) (λr hr=>?_) (λj hj=>?_) (λi hi=>?_) j)
  ·have n:=zO 13 (AM x.u E) m r hr
   unfold AM;rw[ZS,qg];unfold AM at n;have S:r=0∨r=1∨r=2∨r=3∨r=4∨r=5∨r=6∨r=7∨r=8∨r=9∨r=10∨r=11∨r=12:=oM
   rcases S with rfl|rfl|rfl|rfl|rfl|rfl|rfl|rfl|rfl|rfl|rfl|rfl|rfl
   ·rw[Je oM,n];rfl
   ·rw[Jf oM];rfl
   ·rw[Je oM,n];rfl
   ·rw[Je oM,n];rfl
   ·rw[Je oM,n];rfl
   ·rw[Je oM,n];rfl
   ·rw[Je oM,n];rfl
   ·rw[Je oM,n];rfl
   ·rw[Je oM,n];rfl
   ·rw[Je oM,n];rfl
   ·rw[Je oM,n];rfl
   ·rw[Je oM,n];rfl
   ·rw[Je oM,n];rfl
  ·rw[Je oM]
  ·unfold AM
   rw[Au _ _ _ hi,zV _ _ _ _ hi]
 have K:=hI ((HO.j0 c).k4 o a7 ((HO.j0 c).u.j4 m HM) (HO.u.far_same HM));have f2:g≠gb:=λe=>by have h:=c0.out;rw[← e,HQ.out] at h;simp at h
 have j3:=c.size;have qQ:=o.blk (za HQ c) f2;have e4:=o.blk bT (by show _;omega)
 have d8:=o.blk P (by show _;omega)
 have b3:=o.blk J (by show _;omega)
 have d1:Hid (zl w _ (λb=>b=g∨(Value.slice (some (gb,0)) R F).ownBlock=some b)):=(zl.of_below c).trans (o.mono (λb e=>.inr (by rw[show _ from e];rfl)))
 have j2:∀ z,Below X X z->True:=λ_ _=>trivial
 have d2:=hI (fq o (h6.j0 c) h7 g7);have g3:=o.size;generalize (X.setCell _ _)=Y at o a7 K qQ e4 d8 b3 d1 d2 g3 ⊢;clear bT P J k1 f1 d9 a7 o j2;have k0:=aC b3 3;have b6:(Y.alloc _).ownsRow _ 3 1 _ 0 []:=⟨rfl,.inr ⟨_,0,#[],rfl,Jr _,Jb Y _,Jr _,Jq _,rfl,rfl⟩⟩;have g9:Hid (∀ ad,q=some ad->∀ j u,_->(Y.alloc (.cells #[] 3)).cell? _=_):=Ci (d2.j0 (zd bZ _));obtain⟨l7,a6⟩:=zC K.u.row gb rfl;have t:Hid (∀ V,Below _ Y V->∀ j v,(AM (Qq _ m _) _ m)[j]?=some v->V.cell? _=some v):=λV hV j v hv=>by
  have hj:j<13:=by
   have h:=(List.getElem?_eq_some_iff.1 hv).1;exact h
  have h:=zs K.u.row (m*13+j) (by have:=HM;omega) rfl
  rw[zO 13 _ m j hj,List.getD_eq_getElem?_getD,hv] at h;exact(hV.cell (zD a6)).trans h
 have O:w.heap.size≠gb:=oM;go_upto_region 29 with(first|(at_builtin;refine zu _ rfl _ _ 27 rfl _ 3 n0 _ 1 8 underlying27 ni j7 j8 j9 rfl dC _ 0 [] (by rfl) b6 q _ M _ rfl i4.2.2 (by rw[Qy,Nat.mul_one]) g9 (Az _ _) (by unfold maxLen;omega) oM sM ?_;intro v4 p Q e9;obtain⟨av,cv,g5,_⟩:=zn Q;rw[Nat.zero_add] at g5;subst g5;have d:=(zd (Ji _ Y) _).grown e9 sM (λj hj=>(b6.lt j hj).1);have H:=za b3 d;have s:=za a6 d;have k3:=t p d 3 _ rfl;have f3:=zc s (m*13+3);have k4:=t p d 4 _ rfl;have f4:=zc s (m*13+4);have k5:=t p d 5 _ rfl;have f5:=zc s (m*13+5);have k6:=t p d 6 _ rfl;have f6:=zc s (m*13+6);have k7:=t p d 7 _ rfl;have f7:=zc s (m*13+7);have k8:=t p d 8 _ rfl;have f8:=zc s (m*13+8);have k9:=t p d 9 _ rfl;have f9:=zc s (m*13+9);have j6:=t p d 12 _ rfl;have i9:=zc s (m*13+12);have k2:∀ v,(p.setCell _ v).cell? _=some (.int _ _):=λv=>bC (zG H (m*13+3) v O) 4;have l0:∀ v,(p.setCell _ v).cell? _=some (.int _ _):=λv=>bC (zG H (m*13+3) v O) 5;have l1:∀ v,(p.setCell _ v).cell? _=some (.int _ _):=λv=>bC (zG H (m*13+3) v O) 6;have l2:∀ v,(p.setCell _ v).cell? _=some (.int _ _):=λv=>bC (zG H (m*13+3) v O) 7;have l3:∀ v,(p.setCell _ v).cell? _=some (.bool _):=λv=>bC (zG H (m*13+3) v O) 8;have l4:∀ v,(p.setCell _ v).cell? _=some (.int _ _):=λv=>bC (zG H (m*13+3) v O) 9))
 have d3:Hid (Zd (x.u m) l y={ x.u m with e:=l,c:=y.c,J:=y.J,v:=y.v,f:=y.f,j:=y.j,w:=y.w,h:=y.h,x:=y.x,j2:=zP ⟨y.v,y.f,y.j,y.w,y.h,y.x⟩ y.c }):=by show _=_;simp[Zd,h4.out]
 have I:zl p ((((((((p.setCell _ (av,y.c,cv)).setCell _ y.v).setCell _ y.f).setCell _ y.j).setCell _ y.w).setCell _ y.h).setCell _ y.x).setCell _ pr) _:=(((((((((zl.refl p (λb=>b=gb)).set (a:=(gb,m*13+3)) rfl _).set (a:=(gb,m*13+4)) rfl _).set (a:=(gb,m*13+4+1)) rfl _).set (a:=(gb,m*13+4+2)) rfl _).set (a:=(gb,m*13+4+3)) rfl _).set (a:=(gb,m*13+4+4)) rfl _).set (a:=(gb,m*13+4+5)) rfl _).set (a:=(gb,m*13+12)) rfl _)
 have a8:Hid (((((((((p.setCell (gb,m*13+3) (av,y.c,cv)).setCell (gb,m*13+4) y.v).setCell (gb,m*13+4+1) y.f).setCell (gb,m*13+4+2) y.j).setCell (gb,m*13+4+3) y.w).setCell (gb,m*13+4+4) y.h).setCell (gb,m*13+4+5) y.x).setCell (gb,m*13+12) pr).ownsRow base 150 13 (some (gb,0),R,F) R (AQ (Qq (Qq x.u m { x.u m with e:=l }) m (Zd (x.u m) l y)) (AP (AP E m (E m)) m (av,y.c,cv)) R)):=by
  refine qX (zI (zI (zI (zI (zI (zI (zI (zI ((K.j0 d).u.row) _ _) _ _) _ _) _ _) _ _) _ _) _ _) _ _) (λj _=>Fu 13 dC (k:=m) (C:=AM (Qq x.u m { x.u m with e:=l }) (AP E m (E m))) (f:=λi=>if i=_ then _ else if i=_ then _ else if i=_ then _ else if i=_ then _ else if i=_ then _ else if i=_ then _ else if i=_ then _ else if i=_ then _ else qd 13 (AM (Qq _ m { x.u m with e:=l }) _) i) (λr hr=>?_) (λj hj=>?_) (λi hi=>?_) j)
  ·have n:=zO 13 (AM (Qq x.u m { x.u m with e:=l }) (AP E m (E m))) m r hr
   unfold AM;rw[ZS,qg,d3.out];unfold AM at n;have S:r=0∨r=1∨r=2∨r=3∨r=4∨r=5∨r=6∨r=7∨r=8∨r=9∨r=10∨r=11∨r=12:=oM
   rcases S with rfl|rfl|rfl|rfl|rfl|rfl|rfl|rfl|rfl|rfl|rfl|rfl|rfl
   ·rw[Je oM,Je oM,Je oM,Je oM,Je oM,Je oM,Je oM,Je oM,n,ZS];rfl
   ·rw[Je oM,Je oM,Je oM,Je oM,Je oM,Je oM,Je oM,Je oM,n,ZS];rfl
   ·rw[Je oM,Je oM,Je oM,Je oM,Je oM,Je oM,Je oM,Je oM,n,ZS];rfl
   ·rw[Je oM,Je oM,Je oM,Je oM,Je oM,Je oM,Je oM,Jf oM];rfl
   ·rw[Je oM,Je oM,Je oM,Je oM,Je oM,Je oM,Jf oM];rfl
   ·rw[Je oM,Je oM,Je oM,Je oM,Je oM,Jf oM];rfl
   ·rw[Je oM,Je oM,Je oM,Je oM,Jf oM];rfl
   ·rw[Je oM,Je oM,Je oM,Jf oM];rfl
   ·rw[Je oM,Je oM,Jf oM];rfl
   ·rw[Je oM,Jf oM];rfl
   ·rw[Je oM,Je oM,Je oM,Je oM,Je oM,Je oM,Je oM,Je oM,n,ZS];rfl
   ·rw[Je oM,Je oM,Je oM,Je oM,Je oM,Je oM,Je oM,Je oM,n,ZS];rfl
   ·rw[Jf oM,d5.out];rfl
  ·rw[Je oM,Je oM,Je oM,Je oM,Je oM,Je oM,Je oM,Je oM]
  ·unfold AM
   rw[Au _ _ _ hi,zV _ _ _ _ hi]
 have a9:=hI ((K.j0 d).k4 I a8 (by rw[d3.out];refine zo ?_ (Jp g8 (Jp j3 g3));rw[Nat.zero_add,List.nil_append] at Q;exact Q) (λi hi l9 b h1 h2=>by have a1:=((K.u.j4 i hi).lt b h1).2;have a2:=(Q.lt b h2).1;omega))
 have b0:Hid (zz ((((((((p.setCell (gb,m*13+3) (av,y.c,cv)).setCell (gb,m*13+4) y.v).setCell (gb,m*13+4+1) y.f).setCell (gb,m*13+4+2) y.j).setCell (gb,m*13+4+3) y.w).setCell (gb,m*13+4+4) y.h).setCell (gb,m*13+4+5) y.x).setCell (gb,m*13+12) pr) base (U,N,a3) (T,N,a0) (some (gb,0),R,F) N N R { x with u:=Qq x.u m (Zd (x.u m) l y) } L C A B D (AP (AP E m (E m)) m (av,y.c,cv))):=by have h:=a9;rw[TH] at h;exact h
 have d6:=I.blk (za qQ d) f2;have Z:=I.blk (za e4 d) (by show _;omega)
 have d7:=I.blk (za d8 d) (by show _;omega)
 have d0:=(d1.trans (zl.of_below d)).trans (I.mono (λb e=>.inr (by rw[show _ from e];rfl)))
 generalize ((((((((p.setCell _ _).setCell _ _).setCell _ _).setCell _ _).setCell _ _).setCell _ _).setCell _ _).setCell _ _)=Z1 at b0 d6 Z d7 d0 I a8 a9 ⊢;have i3:=b0;clear I a8 a9 b0;clear k3 f3;clear k4 f4;clear k5 f5;clear k6 f6;clear k7 f7;clear k8 f8;clear k9 f9;clear j6 i9;clear k0 k2 l0 l1 l2 l3 l4 b6 Q e9 H s d;have e6:w.heap.size+1≠tb:=oM;obtain⟨i0,j0,h5,b2,i6⟩:=Hf d0 i3 d6 d7 Z e6 oM (pr) rfl;obtain⟨d4,e5,c9,bF⟩:=BY h5 i0 j0 b2 oM () (int i64 ((m:Int)+1)) (pr) True rfl;obtain⟨t0,t1,t2,t3⟩:=Qk i6;have s2:=bC Z 2;have s3:=zc Z 2;obtain⟨v0,v1,v2,v3⟩:=Qk b2;obtain⟨e0,e1,e2,e3⟩:=EV b2;have a5:=hI d4;have b9:=hI e5;have b8:=hI c9;clear d4 e5 c9;go_wp2;obtain⟨x0,x1,x2,x3⟩:=Qk bF;refine Jj (v:=.agg #[(),int i64 ((m:Int)+1),(pr),True]) (by simp[results,results93,go_sem,x0,x1,x2,x3]) rfl ?_
 have n:=i5;subst n;rw[d5.out] at a5 b9 b8 ⊢;exact⟨_,_,_,_,rfl,rfl,a5,b9,b8⟩
theorem mz (g base N R k Y a5 d2:Nat)(b8 b7 b6:Option Addr)(leg who:Int)(pe len hei cl be:Int)(x:zY)(L C A B D E:Nat->Value)(w:World)(hq:w.heap[g]?=some (.cells #[(b8,N,Y),(b7,N,a5),(b6,R,d2)] 38 (0,0)))(P:zz w base (b8,N,Y) (b7,N,a5) (b6,R,d2) N N R x L C A B D E)(hN:N<=1048576)(hk:zX x.G leg N=k)(H:k<N)(e9:qf (x.G k) (x.F k)) :
  Calls prog 92 #[.pointer (some (g,0)),.agg #[leg,int i64 1,.bool false,who,pe,len,hei,cl,.bool true,be]] w λe w'=>IS g base N R k Y a5 d2 b8 b7 b6 ⟨leg,1,false,who,⟨pe,len,hei,cl,true,be⟩⟩ x L C E w e w':=by
 obtain⟨i0,ii,a7,a8,a9⟩:=info_parts Tryz.infoRoom;obtain⟨gl,rfl,g9,d7⟩:=qr P.F.row oM;have HO:=hI P;have HK:=hI hk;have S:=hI e9;have g3:Hid (base<=w.heap.size):=by show base<=w.heap.size;omega
 have HQ:=hI hq;have b1:=hI P.G.at;obtain⟨cs,e8⟩:=zC P.F.row gl rfl;obtain⟨e5,e7,eA,m1,m2,m3⟩:=zn (P.F.K k H);obtain⟨f,q,eB,m4,m5,m6⟩:=zn (P.F.I k H);obtain⟨e4,e6,eD,m7,m8,m9⟩:=zn (P.F.L k H);have g8:Hid (w.ownsRow base 220 4 (e5,(x.F k).r,e7) (x.F k).r (zH (x.F k).K (x.F k).r)):=by show w.ownsRow _ _ _ _ _ _;rw[← eA];exact P.F.K k H
 have a4:Hid (w.ownsRow base 228 4 (f,(x.F k).m,q) (x.F k).m (zF (x.F k).I (x.F k).m)):=by show w.ownsRow _ _ _ _ _ _;rw[← eB];exact P.F.I k H
 have g7:Hid (w.ownsRow base 234 2 (e4,(x.F k).t,e6) (x.F k).t (zL (x.F k).L (x.F k).t)):=by show w.ownsRow _ _ _ _ _ _;rw[← eD];exact P.F.L k H
 have d8:Hid (w.cell? (gl,k*3)=some (e5,(x.F k).r,e7)):=by
  have h:=zs P.F.row (k*3+0) oM rfl;rw[zO 3 _ k 0 dC] at h;rw[← eA];exact h
 have a2:Hid (w.cell? (gl,k*3+1)=some (f,(x.F k).m,q)):=by
  have h:=zs P.F.row (k*3+1) oM rfl;rw[zO 3 _ k 1 dC] at h;rw[← eB];exact h
 have d9:Hid (w.cell? (gl,k*3+2)=some (e4,(x.F k).t,e6)):=by
  have h:=zs P.F.row (k*3+2) oM rfl;rw[zO 3 _ k 2 dC] at h;rw[← eD];exact h
 have e2:Hid (_/\_/\_):=⟨m3,m6,m9⟩;obtain⟨s,a6⟩:=nM (x.G k);obtain⟨l,d6⟩:=nM (x.F k);rw[← d6] at g8 a4 g7 d8 a2 d9 e2 S;rw[← a6] at S;have b5:=hI a6;have b2:=hI d6;have g5:=hI e8;obtain⟨i5,so,la,lc,ca,cc,rfl,f0,f1,f2,f3,f4,f5,f6,f7,d5,d4,g1,g0⟩:=b1.out k H;rw[← a6] at f0 f1 f2 f3 f4 f5 f6 f7 d5 d4 g1 g0;have b4:Hid (_/\_):=⟨d5,d4⟩;have g4:Hid (∀ W,Below _ w W->_/\_/\_/\_/\_/\_/\_/\_):=λW hb=>by
  have n:=Ja w _ f0;exact⟨tR hb f0 n,tR hb f1 n,tR hb f2 n,tR hb f3 n,tR hb f4 n,tR hb f5 n,tR hb f6 n,tR hb f7 n⟩
 clear f0 f1 f2 f3 f4 f5 f6 f7 d5 d4 g1 g0 a6 d6 e8 eA eB eD m1 m2 m3 m4 m5 m6 m7 m8 m9 e9 hk g9;have i1:=n0 k;have i2:(k:Int)<(N:Int):=oM;have O:Below _ w (w.alloc (.cells #[leg,int i64 1,.bool false,who,pe,len,hei,cl,.bool true,be] 159)):=zd bZ _;have b0:=Qc O;go_enter func92,ntmps92;go_upto_region 1 with fail;generalize (w.alloc _)=W at O b0 ⊢;have z0:∀ G:zy W,G.val.cell? _=some (.slice _ N Y):=λG=>bC (za HQ.out (zb O G.o)) 0
 have z1:∀ G:zy W,G.val.cell? _=some (.int _ leg):=λG=>bC (za b0 G.o) 0
 refine ze kR kR ?_
 repeat(go_big_quiet_step ((rename_i G;first|(go_at_call 161;refine zr (v:=int i64 (k:Int)) ((BB _ N Y _ leg _ hN (b1.j0 (zb O G.o))).mono ?_);rintro e w2 ⟨he,Z⟩;refine⟨?_,Z⟩;rw[HK.out] at he;rcases he with⟨_,rfl⟩|⟨h,_⟩;rfl;omega))))
 refine Jl ?_;rintro _ ⟨G,rfl⟩;clear z0 z1;have a0:=zb O G.o;have bW:=za b0 G.o;obtain⟨c0,c1,c2,c3,c4,c5,c6,c7⟩:=g4.out _ a0;have y0:=bC (za HQ.out a0) 0;have y1:∀ o,(G.val.alloc o).cell? _=some (.slice _ N a5):=λo=>bC (za HQ.out (zd a0 o)) 1
 have y4:=aC bW 4;have y5:=aC bW 5;have y6:=aC bW 6;have y7:=aC bW 7;have y8:=aC bW 8;have y9:=aC bW 9;go_upto_region 8 with fail;have y:Below _ w ((G.val.alloc (.cells (s,la,lc,ca,cc) 140)).alloc (.cells #[pe,len,hei,cl,.bool true,be] 45)):=zd (zd a0 _) _;have M:=zg (zg bW (.cells (s,la,lc,ca,cc) 140)) (.cells #[pe,len,hei,cl,.bool true,be] 45);have U:=zg (Jb G.val (.cells (s,la,lc,ca,cc) 140)) (.cells #[pe,len,hei,cl,.bool true,be] 45);have I:=EB G.val (.cells (s,la,lc,ca,cc) 140) (.cells #[pe,len,hei,cl,.bool true,be] 45);generalize hx0:(G.val.alloc _).alloc _=X at y M U I ⊢;generalize hsb:G.val.heap.size=sb at U I ⊢;clear c0 c1 c2 c3 c4 c5 c6 c7 y0 y1 y4 y5 y6 y7 y8 y9 bW a0 O b0 hx0 hsb G W;have w1:=bC M 1;have w2:=bC M 2;have w3:=bC M 3;obtain⟨L0,L1,L2⟩:=tR3 y d8.out a2.out d9.out d7;have bG:=za g5.out y;obtain⟨rb,f9⟩:=Ll l.m s.M.n (BM s.M l.m l.I cl be);have g6:=hI f9;clear f9;have s5:∀ G:zy X,G.val.cell? _=some (.slice ca _ cc):=λG=>bC (za U G.o) 6
 have s6:=gT L1 (zD bG);have p1:∀ G:zy X,G.val.cell? _=some (.int _ cl):=λG=>bC (za I G.o) 3
 have p2:∀ G:zy X,G.val.cell? _=some (.int _ be):=λG=>bC (za I G.o) 5
 go_upto_region 34 with fail;refine ze kR kR ?_
 repeat(go_big_quiet_step ((rename_i G;first|(go_at_call 167;refine zr (v:=int i64 rb) ((GI ca f _ cc _ q _ _ cl be _ rfl S.2.1 (b4.2.j0 (zb y G.o)) ((Aj a4.out).j0 (zb y G.o))).mono ?_);rintro e w2 ⟨⟨r',rfl,o1⟩,Z⟩;exact⟨by rw[CF o1 g6.out],Z⟩))))
 refine Jl ?_;rintro _ ⟨G,rfl⟩;have b:=zb y G.o;have V:=za M G.o;have J:=za U G.o;have c:=za I G.o;have p:=za bG G.o;clear w1 w2 w3 L0 L1 L2 s5 s6 p1 p2;generalize G.val=W5 at b V J c p ⊢;clear y M U I bG G X;have r4:=bC c 4;have r5:=bC c 5;obtain⟨r,f8⟩:=Ll l.m s.M.n (BL s.M l.m l.I cl pe);have a3:=hI f8;clear f8;have s5:∀ G:zy W5,G.val.cell? _=some (.slice ca _ cc):=λG=>bC (za J G.o) 6
 have s6:=gW b a2.out d7;have p1:∀ G:zy W5,G.val.cell? _=some (.int _ cl):=λG=>bC (za c G.o) 3
 have p2:∀ G:zy W5,G.val.cell? _=some (.int _ pe):=λG=>bC (za c G.o) 0
 go_upto_region 37 with fail;refine ze kR kR ?_
 repeat(go_big_quiet_step ((rename_i G;first|(go_at_call 168;refine zr (v:=int i64 r) ((PL ca f _ cc _ q _ _ cl pe _ rfl S.2.1 (b4.2.j0 (zb b G.o)) ((Aj a4.out).j0 (zb b G.o))).mono ?_);rintro e w2 ⟨⟨r',rfl,o1⟩,Z⟩;exact⟨by rw[CF o1 a3.out],Z⟩))))
 refine Jl ?_;rintro _ ⟨G,rfl⟩;have d3:=zb b G.o;have d1:=za V G.o;have d0:=za J G.o;have c9:=za c G.o;have b9:=za p G.o;clear s5 s6 p1 p2 r4 r5;generalize G.val=w5 at d3 d1 d0 c9 b9 ⊢;clear b V J c p G W5;have b:=d3;have V:=d1;have J:=d0;have c:=c9;have p:=b9;clear d3 d1 d0 c9 b9;have r4:=bC c 4
 by_cases hr:r<0
 ·have e1:=Jd hr
  have HF:Hid _:=iv (v:=⟨leg,1,_,who,⟨pe,len,hei,cl,_,be⟩⟩) HO.out HQ.out b (by
   refine .allof rfl rfl rfl ?_;rw[← b5.out,← b2.out]
   rcases a3.out with⟨j,h,_⟩|⟨h,h2⟩
   ·omega
   ·exact .inr ⟨rfl,h2⟩)
  go_wp2;go_ret;exact HF.out
 obtain⟨m,rfl⟩:∃ m:Nat,r=(m:Int):=⟨r.toNat,by omega⟩
 have e1:=Jc hr;clear hr;have e0:=hI (Sk a3.out).2.1;obtain⟨cb,co,rfl,k1,k2⟩:=b4.2 m e0.out;have h0:=Ja w _ k1;have y2:=tR b k2 h0;have j1:=n0 m;have j2:(m:Int)<(s.M.n:Int):=by have:=e0.out;omega
 have r6:=bC J 6;clear k1 k2;go_upto_region 42 with fail;have HN:=hI e2.2.1;have b3:Hid (∀ z,_->qn z f _ _):=λz h=>(Aj a4.out).j0 (zb b h)
 have i4:=S.2.1.2.1;have e3:=tR b a2.out d7;have KS:Hid (∀ z,Below _ w5 z->(z.cell? _=some (.int _ who)/\z.cell? _=some (.bool _))/\_):=λz h=>⟨⟨bC (za V h) 3,bC (za c h) 4⟩,(h.cell (zD p)).trans e3⟩
 refine qt 18 19 (λw'=>(w'.cell? _=_/\w'.cell? _=_)/\w'.cell? _=_) rfl kR (KS.out _ (Jh bZ)) (λhS=>?_)
 simp only[List.replicate_succ,List.replicate_zero];refine Ax 0 ?_;refine Ax 2 ?_;refine Ax 3 ?_;refine Ax 4 ?_;refine Ax 5 ?_;refine Ax 7 ?_;refine Ax 8 ?_;refine Ax 9 ?_;refine Ax 10 ?_;refine Ax 11 ?_;refine Ax 12 ?_;refine Ax 13 ?_;refine eq 1 14 (λK a=>?_) λK a=>?_
 focus
  go_simp;refine a.out _ _ (KS.out _ dB) (λhS=>?_)
  clear a K;refine eq 6 14 (λK a=>?_) λK a=>?_
  focus
   refine zZ rfl _ _ 142 rfl 228 i0 _ 4 32 underlying142 ii a7 a8 a9 rfl dC _ _ rfl (by first|exact Jr _|omega|(simp;done)|(simp;omega)) (by repeat(first|((with_reducible refine Qu _ _ _ ?_);(first|rfl|(simp;done)))|with_reducible refine zK ?_|with_reducible refine zg ?_ _)) f _ q _ rfl HN.out (qW _ _) (QN (b3.out _ dB)) (Qp _ _) (by unfold maxLen;omega) oM ?_;intro p1 q1 u1 F Q i;clear i;have d:Hid (Below _ w5 u1):=(by show Below _ _ _;refine zb ?_ (zp F);exact dB);refine a.out _ _ (KS.out _ d.out) (λhS=>?_)
   clear a K;simp only[Act.put,sB,sZ,sS];refine Ay 14 λK a=>?_
   focus
    go_simp;refine a.out _ _ (KS.out _ dB) (λhS=>?_)
    clear a K
  rotate_left 1
  focus
   go_simp;refine a.out _ _ (KS.out _ dB) (λhS=>?_)
   clear a K;refine Ay 6 λK a=>?_
   focus
    refine zZ rfl _ _ 142 rfl 228 i0 _ 4 32 underlying142 ii a7 a8 a9 rfl dC _ _ rfl (by first|exact Jr _|omega|(simp;done)|(simp;omega)) (by repeat(first|((with_reducible refine Qu _ _ _ ?_);(first|rfl|(simp;done)))|with_reducible refine zK ?_|with_reducible refine zg ?_ _)) f _ q _ rfl HN.out (qW _ _) (QN (b3.out _ dB)) (Qp _ _) (by unfold maxLen;omega) oM ?_;intro p1 q1 u1 F Q i;clear i;have d:Hid (Below _ w5 u1):=(by show Below _ _ _;refine zb ?_ (zp F);exact dB);refine a.out _ _ (KS.out _ d.out) (λhS=>?_)
    clear a K;simp only[Act.put,sB,sZ,sS]
 rotate_left 2
 focus
  go_simp;refine a.out _ _ (KS.out _ dB) (λhS=>?_)
  clear a K;refine Ay 1 λK a=>?_
  focus
   go_simp;refine a.out _ _ (KS.out _ dB) (λhS=>?_)
   clear a K;refine Ay 6 λK a=>?_
   focus
    refine zZ rfl _ _ 142 rfl 228 i0 _ 4 32 underlying142 ii a7 a8 a9 rfl dC w5.heap.size _ rfl (by first|exact Jr _|omega|(simp;done)|(simp;omega)) (by repeat(first|((with_reducible refine Qu _ _ _ ?_);(first|rfl|(simp;done)))|with_reducible refine zK ?_|with_reducible refine zg ?_ _)) f _ q _ rfl HN.out (qW _ _) (QN (b3.out _ dB)) (Qp _ _) (by unfold maxLen;omega) oM ?_;intro p1 q1 u1 F Q i;clear i;have d:Hid (Below _ w5 u1):=(by show Below _ _ _;refine zb ?_ (zp F);exact dB);refine a.out _ _ (KS.out _ d.out) (λhS=>?_)
    clear a K;simp only[Act.put,sB,sZ,sS]
 all_goals
  refine Ay 15 λK a=>?_
  refine step_append_lies _ rfl (.tmp 232) _ 142 rfl _ 228 i0 _ 4 32 underlying142 ii a7 a8 a9 rfl dC _ _ _ rfl (by first|exact Q|exact Q.alloc _|exact zm (zd bZ _) Q) _ 1 1 [.int _ who,.int _ _,.int _ _,.bool _] rfl rfl (by refine Jo (cs:=#[_,_,_,_]) (t:=228) (fr:=(0,0)) ?_;exact(by repeat(first|((with_reducible refine Qu _ _ _ ?_);(first|rfl|(simp;done)))|with_reducible refine zK ?_|with_reducible refine zg ?_ _|with_reducible refine za ?_ (zp F)))) (by intro u hu;simp at hu;rcases hu with rfl|rfl|rfl|rfl <;> rfl) dC (by unfold maxLen;omega) oM (by first|exact d.size|(have:=d.size;simp;omega)) _ rfl ?_;intro g2 h6 u2 h5 h4 h7 i3;refine(λ(a1:Hid (Below w5 w5 u2))=>?_) (Below.grown ?_ h4 ?_ (λj hj=>(Q.lt j hj).1));rotate_left;(focus(repeat(first|exact bZ|refine Jh ?_|refine zd ?_ _|refine zb ?_ (zp F))));(focus(first|exact d.size|(have:=d.size;simp;omega)));have q0:=(a1.cell (zD p)).trans e3;have q1:=zc (za p a1.out) (k*3+1);refine a.out _ _ (KS.out _ a1.out) (λhS=>?_)
  clear a K;simp only[Act.put,sB,sZ,sS];refine Ax 16 ?_;refine Ax 17 ?_;refine kc λK a=>?_
  go_simp;refine a.out _ _ ?_;clear a K;refine qh kR ?_ _;have HF:Hid _:=my (T:=Zu _ l.m (λ_=>⟨who,_,_,_⟩)) (v:=⟨leg,1,_,who,⟨pe,len,hei,cl,_,be⟩⟩) HO.out HQ.out g3.out (zb b a1.out) (zo (by rw[Gs,Aq,show zF _ 0=[] from rfl,List.nil_append];exact h5) b.size) (by rw[b2.out,b5.out];exact .addWhole m rfl rfl rfl (by rw[← b5.out,← b2.out];exact a3.out))
  go_wp2;go_ret;exact HF.out
theorem na (g base N R k S a1 b6:Nat)(b4 b3 b2:Option Addr)(leg who:Int)(pe len hei cl be:Int)(x:zY)(L C A B D E:Nat->Value)(w:World)(hq:w.heap[g]?=some (.cells #[(b4,N,S),(b3,N,a1),(b2,R,b6)] 38 (0,0)))(J:zz w base (b4,N,S) (b3,N,a1) (b2,R,b6) N N R x L C A B D E)(hN:N<=1048576)(hk:zX x.G leg N=k)(q:k<N)(e4:qf (x.G k) (x.F k)) :
  Calls prog 92 #[.pointer (some (g,0)),.agg #[leg,int i64 1,.bool false,who,pe,len,hei,cl,.bool false,be]] w λe w'=>IS g base N R k S a1 b6 b4 b3 b2 ⟨leg,1,false,who,⟨pe,len,hei,cl,false,be⟩⟩ x L C E w e w':=by
 obtain⟨i0,ii,a3,a4,a5⟩:=info_parts Tryz.infoRoom;obtain⟨gl,rfl,g5,e3⟩:=qr J.F.row oM;have HO:=hI J;have HK:=hI hk;have Z:=hI e4;have f8:Hid (base<=w.heap.size):=by show base<=w.heap.size;omega
 have HQ:=hI hq;have a6:=hI J.G.at;obtain⟨cs,e2⟩:=zC J.F.row gl rfl;obtain⟨d7,e0,eA,m1,m2,m3⟩:=zn (J.F.K k q);obtain⟨f,H,eB,m4,m5,m6⟩:=zn (J.F.I k q);obtain⟨d6,d9,eD,m7,m8,m9⟩:=zn (J.F.L k q);have g4:Hid (w.ownsRow base 220 4 (d7,(x.F k).r,e0) (x.F k).r (zH (x.F k).K (x.F k).r)):=by show w.ownsRow _ _ _ _ _ _;rw[← eA];exact J.F.K k q
 have b1:Hid (w.ownsRow base 228 4 (f,(x.F k).m,H) (x.F k).m (zF (x.F k).I (x.F k).m)):=by show w.ownsRow _ _ _ _ _ _;rw[← eB];exact J.F.I k q
 have g3:Hid (w.ownsRow base 234 2 (d6,(x.F k).t,d9) (x.F k).t (zL (x.F k).L (x.F k).t)):=by show w.ownsRow _ _ _ _ _ _;rw[← eD];exact J.F.L k q
 have d0:Hid (w.cell? (gl,k*3)=some (d7,(x.F k).r,e0)):=by
  have h:=zs J.F.row (k*3+0) oM rfl;rw[zO 3 _ k 0 dC] at h;rw[← eA];exact h
 have a7:Hid (w.cell? (gl,k*3+1)=some (f,(x.F k).m,H)):=by
  have h:=zs J.F.row (k*3+1) oM rfl;rw[zO 3 _ k 1 dC] at h;rw[← eB];exact h
 have d1:Hid (w.cell? (gl,k*3+2)=some (d6,(x.F k).t,d9)):=by
  have h:=zs J.F.row (k*3+2) oM rfl;rw[zO 3 _ k 2 dC] at h;rw[← eD];exact h
 have d2:Hid (_/\_/\_):=⟨m3,m6,m9⟩;obtain⟨s,a2⟩:=nM (x.G k);obtain⟨l,c9⟩:=nM (x.F k);rw[← c9] at g4 b1 g3 d0 a7 d1 d2 Z;rw[← a2] at Z;have d4:=hI a2;have a8:=hI c9;have g0:=hI e2;obtain⟨h5,so,la,lc,ca,cc,rfl,f0,f1,f2,f3,f4,f5,f6,f7,b9,b8,e9,e8⟩:=a6 k q;rw[← a2] at f0 f1 f2 f3 f4 f5 f6 f7 b9 b8 e9 e8;have g1:Hid (_/\_):=⟨b9,b8⟩;have f9:Hid (∀ W,Below _ w W->_/\_/\_/\_/\_/\_/\_/\_):=λW hb=>by
  have d:=Ja w _ f0;exact⟨tR hb f0 d,tR hb f1 d,tR hb f2 d,tR hb f3 d,tR hb f4 d,tR hb f5 d,tR hb f6 d,tR hb f7 d⟩
 clear f0 f1 f2 f3 f4 f5 f6 f7 b9 b8 e9 e8 a2 c9 e2 eA eB eD m1 m2 m3 m4 m5 m6 m7 m8 m9 e4 hk g5;have i1:=n0 k;have i2:(k:Int)<(N:Int):=oM;have I:Below _ w (w.alloc (.cells #[leg,int i64 1,.bool false,who,pe,len,hei,cl,.bool false,be] 159)):=zd bZ _;have b0:=Qc I;go_enter func92,ntmps92;go_upto_region 1 with fail;generalize (w.alloc _)=W at I b0 ⊢;have z0:∀ G:zy W,G.val.cell? _=some (.slice _ N S):=λG=>bC (za HQ (zb I G.o)) 0
 have z1:∀ G:zy W,G.val.cell? _=some (.int _ leg):=λG=>bC (za b0 G.o) 0
 refine ze kR kR ?_
 repeat(go_big_quiet_step ((rename_i G;first|(go_at_call 161;refine zr (v:=int i64 (k:Int)) ((BB _ N S _ leg _ hN (a6.j0 (zb I G.o))).mono ?_);rintro e w2 ⟨he,b7⟩;refine⟨?_,b7⟩;rw[HK.out] at he;rcases he with⟨_,rfl⟩|⟨h,_⟩;rfl;omega))))
 refine Jl ?_;rintro _ ⟨G,rfl⟩;clear z0 z1;have U:=zb I G.o;have bW:=za b0 G.o;obtain⟨c0,c1,c2,c3,c4,c5,c6,c7⟩:=f9 _ U;have y0:=bC (za HQ U) 0;have y1:∀ o,(G.val.alloc o).cell? _=some (.slice _ N a1):=λo=>bC (za HQ (zd U o)) 1
 have y4:=aC bW 4;have y5:=aC bW 5;have y6:=aC bW 6;have y7:=aC bW 7;have y8:=aC bW 8;have y9:=aC bW 9;go_upto_region 8 with fail;have i:Below _ w ((G.val.alloc (.cells (s,la,lc,ca,cc) 140)).alloc (.cells #[pe,len,hei,cl,.bool false,be] 45)):=zd (zd U _) _;have F:=zg (zg bW (.cells (s,la,lc,ca,cc) 140)) (.cells #[pe,len,hei,cl,.bool false,be] 45);have Q:=zg (Jb G.val (.cells (s,la,lc,ca,cc) 140)) (.cells #[pe,len,hei,cl,.bool false,be] 45);have y:=EB G.val (.cells (s,la,lc,ca,cc) 140) (.cells #[pe,len,hei,cl,.bool false,be] 45);generalize hx0:(G.val.alloc _).alloc _=X at i F Q y ⊢;generalize hsb:G.val.heap.size=sb at Q y ⊢;clear c0 c1 c2 c3 c4 c5 c6 c7 y0 y1 y4 y5 y6 y7 y8 y9 bW U I b0 hx0 hsb G W;have w1:=bC F 1;have w2:=bC F 2;have w3:=bC F 3;obtain⟨L0,L1,L2⟩:=tR3 i d0 a7 d1 e3;have bG:=za g0 i;obtain⟨rb,e6⟩:=Ll l.m s.M.n (BM s.M l.m l.I cl be);have a0:=hI e6;clear e6;have s5:∀ G:zy X,G.val.cell? _=some (.slice ca _ cc):=λG=>bC (za Q G.o) 6
 have s6:=gT L1 (zD bG);have p1:∀ G:zy X,G.val.cell? _=some (.int _ cl):=λG=>bC (za y G.o) 3
 have p2:∀ G:zy X,G.val.cell? _=some (.int _ be):=λG=>bC (za y G.o) 5
 go_upto_region 34 with fail;refine ze kR kR ?_
 repeat(go_big_quiet_step ((rename_i G;first|(go_at_call 167;refine zr (v:=int i64 rb) ((GI ca f _ cc _ H _ _ cl be _ rfl Z.2.1 (g1.2.j0 (zb i G.o)) ((Aj b1).j0 (zb i G.o))).mono ?_);rintro e w2 ⟨⟨r',rfl,o1⟩,b7⟩;exact⟨by rw[CF o1 a0.out],b7⟩))))
 refine Jl ?_;rintro _ ⟨G,rfl⟩;have n:=zb i G.o;have b5:=za F G.o;have d8:=za Q G.o;have P:=za y G.o;have O:=za bG G.o;clear w1 w2 w3 L0 L1 L2 s5 s6 p1 p2;generalize G.val=W5 at n b5 d8 P O ⊢;clear i F Q y bG G X;have r4:=bC P 4;have r5:=bC P 5;obtain⟨r,e5⟩:=nM rb;rw[← e5] at a0 ⊢;have d3:=a0;clear a0 e5 rb;obtain⟨w5,e7⟩:=nM W5;rw[← e7] at n b5 d8 P O r4 r5 ⊢;clear e7 W5
 by_cases hr:r<0
 ·have e1:=Jd hr
  have HF:Hid _:=iv (v:=⟨leg,1,_,who,⟨pe,len,hei,cl,_,be⟩⟩) HO HQ n (by
   refine .berth rfl rfl rfl ?_;rw[← d4.out,← a8.out]
   rcases d3 with⟨j,h,_⟩|⟨h,h2⟩
   ·omega
   ·exact .inr ⟨rfl,h2⟩)
  go_wp2;go_ret;exact HF
 obtain⟨m,rfl⟩:∃ m:Nat,r=(m:Int):=⟨r.toNat,by omega⟩
 have e1:=Jc hr;clear hr;go_upto_region 42 with fail;have HN:=hI d2.2.1;have a9:Hid (∀ z,_->qn z f _ _):=λz h=>(Aj b1).j0 (zb n h)
 have h4:=Z.2.1.2.1;have d5:=tR n a7 e3;have V:Hid (∀ z,Below _ w5 z->(z.cell? _=some (.int _ who)/\z.cell? _=some (.bool _))/\_):=λz h=>⟨⟨bC (za b5 h) 3,bC (za P h) 4⟩,(h.cell (zD O)).trans d5⟩
 refine qt 18 19 (λw'=>(w'.cell? _=_/\w'.cell? _=_)/\w'.cell? _=_) rfl kR (V _ (Jh bZ)) (λhS=>?_)
 simp only[List.replicate_succ,List.replicate_zero];refine Ax 0 ?_
 iterate 4 refine Ax 2 ?_
 iterate 7 refine Ax 7 ?_
 refine eq 1 14 (λK a=>?_) λK a=>?_
 focus
  go_simp;refine a _ _ (V _ dB) (λhS=>?_)
  clear a K;refine eq 6 14 (λK a=>?_) λK a=>?_
  focus
   refine zZ rfl _ _ 142 rfl 228 i0 _ 4 32 underlying142 ii a3 a4 a5 rfl dC _ _ rfl (by first|exact Jr _|omega|(simp;done)|(simp;omega)) (by repeat(first|((with_reducible refine Qu _ _ _ ?_);(first|rfl|(simp;done)))|with_reducible refine zK ?_|with_reducible refine zg ?_ _)) f _ H _ rfl HN (qW _ _) (QN (a9 _ dB)) (Qp _ _) (by unfold maxLen;omega) oM ?_;intro p1 q1 u1 p M c;clear c;have b:Hid (Below _ w5 u1):=(by show Below _ _ _;refine zb ?_ (zp p);exact dB);refine a _ _ (V _ b) (λhS=>?_)
   clear a K;simp only[Act.put,sB,sZ,sS];refine Ay 14 λK a=>?_
   focus
    go_simp;refine a _ _ (V _ dB) (λhS=>?_)
    clear a K
  rotate_left 1
  focus
   go_simp;refine a _ _ (V _ dB) (λhS=>?_)
   clear a K;refine Ay 6 λK a=>?_
   focus
    refine zZ rfl _ _ 142 rfl 228 i0 _ 4 32 underlying142 ii a3 a4 a5 rfl dC _ _ rfl (by first|exact Jr _|omega|(simp;done)|(simp;omega)) (by repeat(first|((with_reducible refine Qu _ _ _ ?_);(first|rfl|(simp;done)))|with_reducible refine zK ?_|with_reducible refine zg ?_ _)) f _ H _ rfl HN (qW _ _) (QN (a9 _ dB)) (Qp _ _) (by unfold maxLen;omega) oM ?_;intro p1 q1 u1 p M c;clear c;have b:Hid (Below _ w5 u1):=(by show Below _ _ _;refine zb ?_ (zp p);exact dB);refine a _ _ (V _ b) (λhS=>?_)
    clear a K;simp only[Act.put,sB,sZ,sS]
 rotate_left 2
 focus
  go_simp;refine a _ _ (V _ dB) (λhS=>?_)
  clear a K;refine Ay 1 λK a=>?_
  focus
   go_simp;refine a _ _ (V _ dB) (λhS=>?_)
   clear a K;refine Ay 6 λK a=>?_
   focus
    refine zZ rfl _ _ 142 rfl 228 i0 _ 4 32 underlying142 ii a3 a4 a5 rfl dC w5.heap.size _ rfl (by first|exact Jr _|omega|(simp;done)|(simp;omega)) (by repeat(first|((with_reducible refine Qu _ _ _ ?_);(first|rfl|(simp;done)))|with_reducible refine zK ?_|with_reducible refine zg ?_ _)) f _ H _ rfl HN (qW _ _) (QN (a9 _ dB)) (Qp _ _) (by unfold maxLen;omega) oM ?_;intro p1 q1 u1 p M c;clear c;have b:Hid (Below _ w5 u1):=(by show Below _ _ _;refine zb ?_ (zp p);exact dB);refine a _ _ (V _ b) (λhS=>?_)
    clear a K;simp only[Act.put,sB,sZ,sS]
 all_goals
  refine Ay 15 λK a=>?_
  refine step_append_lies _ rfl (.tmp 232) _ 142 rfl _ 228 i0 _ 4 32 underlying142 ii a3 a4 a5 rfl dC _ _ _ rfl (by first|exact M|exact M.alloc _|exact zm (zd bZ _) M) _ 1 1 [.int _ who,.int _ _,.int _ _,.bool _] rfl rfl (by refine Jo (cs:=#[_,_,_,_]) (t:=228) (fr:=(0,0)) ?_;exact(by repeat(first|((with_reducible refine Qu _ _ _ ?_);(first|rfl|(simp;done)))|with_reducible refine zK ?_|with_reducible refine zg ?_ _|with_reducible refine za ?_ (zp p)))) (by intro u hu;simp at hu;rcases hu with rfl|rfl|rfl|rfl <;> rfl) dC (by unfold maxLen;omega) oM (by first|exact b.size|(have:=b.size;simp;omega)) _ rfl ?_;intro g2 g8 u2 g7 g6 g9 h0;refine(λ(Y:Hid (Below w5 w5 u2))=>?_) (Below.grown ?_ g6 ?_ (λj hj=>(M.lt j hj).1));rotate_left;(focus(repeat(first|exact bZ|refine Jh ?_|refine zd ?_ _|refine zb ?_ (zp p))));(focus(first|exact b.size|(have:=b.size;simp;omega)));have q0:=(Y.cell (zD O)).trans d5;have q1:=zc (za O Y.out) (k*3+1);refine a.out _ _ (V.out _ Y.out) (λhS=>?_)
  clear a K;simp only[Act.put,sB,sZ,sS]
  iterate 2 refine Ax 16 ?_
  refine kc λK a=>?_
  go_simp;refine a _ _ ?_;clear a K;refine qh kR ?_ _;have HF:Hid _:=my (T:=Zu _ l.m (λ_=>⟨who,_,be,_⟩)) (v:=⟨leg,1,_,who,⟨pe,len,hei,cl,_,be⟩⟩) HO HQ f8 (zb n Y) (zo (by rw[Gs,Aq,show zF _ 0=[] from rfl,List.nil_append];exact g7) n.size) (by rw[a8.out];exact .addBerth m rfl rfl rfl (by rw[← d4.out,← a8.out];exact d3))
  go_wp2;go_ret;exact HF
def Hy (S:Nat->zA)(j:Nat):Int:=(S j).e
theorem GS (b:zA)(c:Option Addr)(d:Nat)(x:Int)(a:Nat)(w:World)(h:w.cell? (a,0)=some (int i64 x)) :
  Calls prog 104 #[.agg (b,c,d),.pointer (some (a,0))] w λe w'=>e=.returned (.bool (b.e == x))/\Below w w w':=by
 have f:=Ja w _ h;have g:¬ a=w.heap.size:=by have:a<w.heap.size:=f;omega
 go_enter func104,ntmps104;go_wp2;go_ret;exact⟨rfl,zd bZ _⟩
theorem MA (u:Option Addr)(n c:Nat)(S:Nat->zA)(x:Int)(r:Nat)(w:World)(hn:n<=1048576)(M:qL w u n S)(z:w.cell? (r,0)=some (int i64 x)) :
  Calls prog 192 #[(u,n,c),.func (.func 104) #[] #[.pointer (some (r,0))]] w λe w'=>e=.returned (Zt (Hy S) x n)/\Below w w w':=by
 have y:=Ja w _ z;obtain⟨C,D,hI⟩:=M;have E:Hid (Qo w u n 13 C):=D;have G:Hid _:=hI;clear D hI;go_enter func192,ntmps192;go_wp2;go_loopw [5,8] (λ_ i wr=>∃ k,k<=n/\i=int i64 k/\(∀ j,j<k->Hy S j≠x)/\Below w w wr) (λ_ i _=>n - (intOf i).toNat)
 case atStart=>exact⟨0,Jq _,rfl,λj L=>by omega,bZ⟩
 case round =>
  obtain⟨k,hk,rfl,l,a⟩:=hrel;have s:=hI l;clear l
  by_cases hlt2:k<n
  ·obtain⟨bb,bo,rfl,g⟩:=E k hlt2
   obtain⟨m,o,f,_,_⟩:=G k hlt2;obtain⟨b,v⟩:=nM (S k);rw[← v] at f;have A:=hI v;have d:bb<w.heap.size:=Ja w _ (g 0 dC);have c0:wr.cell? _=some (.int _ _):=(a.cell (p:=⟨bb,bo+_,_⟩) d).trans (rC f (g 0 dC));have c1:wr.cell? _=some (.int _ _):=(a.cell d).trans (rC f (g 1 dC));have c2:wr.cell? _=some (.string _):=(a.cell d).trans (rC f (g 2 dC));have c3:wr.cell? _=some (.slice m _ o):=(a.cell d).trans (rC f (g 3 dC));have c4:wr.cell? _=some (.int _ _):=(a.cell d).trans (rC f (g 4 dC));have c5:wr.cell? _=some (.int _ _):=(a.cell d).trans (rC f (g 5 dC));have c6:wr.cell? _=some (.int _ _):=(a.cell d).trans (rC f (g 6 dC));have c7:wr.cell? _=some (.int _ _):=(a.cell d).trans (rC f (g 7 dC));have c8:wr.cell? _=some (.bool _):=(a.cell d).trans (rC f (g 8 dC));have c9:wr.cell? _=some (.int _ _):=(a.cell d).trans (rC f (g 9 dC));have H:wr.cell? _=some (.int _ _):=(a.cell d).trans (rC f (g 10 dC));have I:wr.cell? _=some (.int _ _):=(a.cell d).trans (rC f (g 11 dC));have J:wr.cell? _=some (.int _ _):=(a.cell d).trans (rC f (g 12 dC));have B:=hI (tR a z y);clear g f v z
   by_cases h:Hy S k=x
   ·have K:(b.e == x)=true:=by have h:=h;unfold Hy at h;rw[← A.out] at h;simpa using h
    have t:Hid (Zt (Hy S) x n=k):=by
     have:=Fv hlt2 h s;unfold Zt Hid;rw[this,Jf hlt2]
    clear h;go_wp2_with (first|(go_at_call 104;refine bM (GS b m o x r _ B) λN q=>?_))
    go_ret;exact⟨by rw[t.out];rfl,zb a q⟩
   ·have K:(b.e == x)=false:=by have h:=h;unfold Hy at h;rw[← A.out] at h;simpa using h
    have F:Hid (_≠x):=h;clear h;go_wp2_with (first|(go_at_call 104;refine bM (GS b m o x r _ B) λN q=>?_))
    go_roundw
    case rel=>exact⟨k+1,by omega,by go_num,λj L=>by
     by_cases e:j=k
     ·subst e;exact F
     ·exact s j oM,zb a q⟩
    case measure=>simp[intOf];omega
  ·obtain rfl:k=n:=by omega
   have t:=hI (Cf (DC s));go_wp2;go_ret;exact⟨by rw[t.out];rfl,a⟩
theorem Rg (f:Option Addr)(n c:Nat)(S:Nat->zA)(x:Int)(g:Nat)(w:World)(j:n<=1048576)(l:qL w f n S)(k:w.cell? (g,0)=some (int i64 x)) :
  Calls prog 103 #[(f,n,c),.func (.func 104) #[] #[.pointer (some (g,0))]] w λe w'=>qH (Qh (Hy S) n x) e/\Below w w w':=by
 obtain⟨r,hr⟩:=nM (Zt (Hy S) x n);have d:=hI hr;clear hr;go_enter func103,ntmps103;go_wp2_with fail;refine(MA f n c S x g _ j l k).mono ?_;rw[← d.out];rintro e w1 ⟨rfl,a⟩
 by_cases h:Qh (Hy S) n x
 ·have i:decide (0<=r)=true:=by rw[d.out];unfold Zt;rw[Jf ((DB _ _ _).1 h)];simp
  have b:=hI h;clear h;go_wp2;go_ret;exact⟨zN b,a⟩
 ·have i:decide (0<=r)=false:=by rw[d.out,Cf h];rfl
  have b:=hI h;clear h;go_wp2;go_ret;exact⟨zh b,a⟩
theorem DL (g:Option Addr)(n c:Nat)(S:Nat->zA)(x:Int)(w:World)(q:n<=1048576)(s:qL w g n S) :
  Calls prog 50 #[(g,n,c),x] w λe w'=>qH (In x 1 9999/\¬ Qh (Hy S) n x) e/\Below w w w':=by
 have a:Below _ w (w.alloc (.cells #[x] 3)):=zd bZ _;have o:=hI (s.j0 a);have r:=bC (Jb w (.cells #[x] 3)) 0;have p:∀ (fn) (first cap) (w),(Instr.makeFunc fn _ cap).run prog w=.ok (.func fn first cap) w:=λ_ _ _ _=>rfl
 go_enter func50,ntmps50;go_wp2_with fail;obtain⟨t,i⟩:=nM (decide (In x 1 9999));refine(Z5 _ _).mono ?_;rw[← i];have f:Hid (t=true↔In x 1 9999):=by show _↔_;rw[i,decide_eq_true_eq]
 clear i;rintro e v ⟨rfl,j⟩;have j:=j.symm;subst j
 cases t with
 |false =>
  have b:Hid (¬ (_/\¬ Qh (Hy S) n x)):=λh=>by have:=f.2 h.1;cases this
  go_wp2;go_ret;exact⟨zh b,a⟩
 |true =>
  have m:=hI (f.1 rfl);clear f;go_wp2_with fail;refine(Rg g n c S x _ _ q o r).mono ?_;rintro e w1 ⟨⟨u,rfl,l⟩,d⟩;have k:=hI l;clear l
  cases u with
  |true =>
   have b:Hid (¬ (In x 1 9999/\¬ _)):=λh=>h.2 (k.1 rfl)
   go_wp2;go_ret;exact⟨zh b,zb a d⟩
  |false =>
   have b:Hid (_/\¬ _):=⟨m,λh=>by have:=k.2 h;cases this⟩
   go_wp2;go_ret;exact⟨zN b,zb a d⟩
def FW (N:Nat)(S:Nat->qe)(b:zA):Prop:=Z7 b.j1/\Q6 N S b.c b.J/\Zc b.p/\In b.C 1 4/\Bw b/\In b.j2 0 1000000
theorem EP (N:Nat)(S:Nat->qe)(m:Option Addr)(o:Nat)(b:zA)(i:Option Addr)(k:Nat)(w:World)(A:N<=1048576)(R:Qz N S 1048576)(E:zA.Short b 1048576)(B:At N S)(U:qy w m N S)(V:zS w i b.c b.J) :
  Calls prog 181 #[(m,N,o),.agg (b,i,k)] w λe w'=>qH (FW N S b) e/\Below w w w':=by
 have q:=hI U;have p:=hI V;have r:=hI R;have f:=hI E;have D:=hI B;clear U V R E B;obtain⟨K,H⟩:=nM (decide (b.C=1∨b.C=4));obtain⟨T,B⟩:=nM (decide (In b.y 0 10000));obtain⟨Z,hZ⟩:∃ Z,(b.y == 0)=Z:=⟨_,rfl⟩;have G:=hI H;have n:=hI B;have Q:Hid ((if K then T else Z)=true↔Bw b):=by
  show _↔_
  unfold Bw
  by_cases c:b.C=1∨b.C=4
  ·rw[H,Jd c,Jf rfl,Jf c,B,decide_eq_true_eq]
  ·rw[H,Jc c,Je dC,Je c,← hZ,beq_iff_eq]
 clear H B;have d:Below _ w (w.alloc (.cells (b,i,k) 150)):=zd bZ _;have l:=Jb w (.cells (b,i,k) 150);go_enter func181,ntmps181;go_upto_region 1 with fail;generalize hBx:w.heap.size=Bx at l ⊢;generalize w.alloc _=W at d l ⊢;have P:=bC l 10;go_cut [5] (λv wx=>v=.bool K/\wx=W)
 case first =>
  by_cases s1:b.C=1
  ·have X:(b.C == 1)=true:=by simpa using s1
   have s:Hid (K=true):=by show K=true;rw[G.out];exact Jd (.inl s1)
   clear s1;go_wp2;go_meet;exact⟨by rw[s.out],rfl⟩
  ·have X:(b.C == 1)=false:=by simpa using s1
   by_cases s4:b.C=4
   ·have Y:(b.C == 4)=true:=by simpa using s4
    have s:Hid (K=true):=by show K=true;rw[G.out];exact Jd (.inr s4)
    clear s1 s4;go_wp2;go_meet;exact⟨by rw[s.out],rfl⟩
   ·have Y:(b.C == 4)=false:=by simpa using s4
    have s:Hid (K=false):=by show K=false;rw[G.out];exact Jc (by intro h;rcases h with h|h;exact s1 h;exact s4 h)
    clear s1 s4;go_wp2;go_meet;exact⟨by rw[s.out],rfl⟩
 case rest =>
 obtain⟨rfl,z⟩:=hcut;have z:=z.symm;subst z;clear P G;have a0:=zD l;have z0:=gC l 0;have z1:=gC l 1;have z2:=gC l 2;have z3:=gC l 3;have z4:=gC l 4;have z5:=gC l 5;have z6:=gC l 6;have z7:=gC l 7;have z8:=gC l 8;have z9:=gC l 9;have a1:=gC l 10;have a2:=gC l 11;have a3:=gC l 12;clear l hBx;go_upto_region 2 with fail
 by_cases p1:Z7 b.j1
 case neg =>
  have J:=hI p1;have x:=hI (Jc p1);clear p1;refine ze kR kR ?_
  repeat(go_big_quiet_step (first|(go_at_call 239;refine gE (Zk _ _ (by have:=f.1;omega)) (by rw[x.out]))|(go_at_call 242;refine gE (v:=.bool T) (Qw b.y _) (by rw[n.out]))))
  refine Jl ?_;rintro _ ⟨g,rfl⟩;go_wp2;go_ret;exact⟨zh (λh=>J (by unfold FW at h;exact h.1)),zb d g.o⟩
 have J:=hI p1;have x:=hI (Jd p1);clear p1
 by_cases p2:Q6 N S b.c b.J
 case neg =>
  have u:=hI p2;clear p2;refine ze kR kR ?_
  repeat(go_big_quiet_step ((rename_i g;first|(go_at_call 239;refine gE (Zk _ _ (by have:=f.1;omega)) (by rw[x.out]))|(go_at_call 195;refine zr (v:=.bool false) ((Q9 m i N _ o k S _ _ A f.2 r (q.j0 (zb d g.o)) (p.j0 (zb d g.o))).mono ?_);rintro e t ⟨⟨bb,rfl,j⟩,a⟩;obtain rfl:=Bool.eq_false_iff.2 (λe=>u (j.1 e).2);exact⟨rfl,a⟩)|(go_at_call 242;refine gE (v:=.bool T) (Qw b.y _) (by rw[n.out])))))
  refine Jl ?_;rintro _ ⟨g,rfl⟩;go_wp2;go_ret;exact⟨zh (λh=>u (by unfold FW at h;exact h.2.1)),zb d g.o⟩
 have u:=hI p2;clear p2
 by_cases p3:Zc b.p
 case neg =>
  have y:=hI p3;clear p3;refine ze kR kR ?_
  repeat(go_big_quiet_step ((rename_i g;first|(go_at_call 239;refine gE (Zk _ _ (by have:=f.1;omega)) (by rw[x.out]))|(go_at_call 195;refine zr (v:=.bool true) ((Q9 m i N _ o k S _ _ A f.2 r (q.j0 (zb d g.o)) (p.j0 (zb d g.o))).mono ?_);rintro e t ⟨⟨bb,rfl,j⟩,a⟩;obtain rfl:=j.2 ⟨D,u⟩;exact⟨rfl,a⟩)|(go_at_call 240;refine zr (v:=.bool false) ((QX _ _ _ _ _ _ _).mono ?_);rintro e t ⟨⟨bb,rfl,j⟩,a⟩;obtain rfl:=Bool.eq_false_iff.2 (λe=>y (j.1 e));exact⟨rfl,a⟩)|(go_at_call 242;refine gE (v:=.bool T) (Qw b.y _) (by rw[n.out])))))
  refine Jl ?_;rintro _ ⟨g,rfl⟩;go_wp2;go_ret;exact⟨zh (λh=>y (by unfold FW at h;exact h.2.2.1)),zb d g.o⟩
 have y:=hI p3;clear p3
 by_cases p4:In b.C 1 4
 case neg =>
  have L:=hI p4;have C:=hI (Jc p4);clear p4;refine ze kR kR ?_
  repeat(go_big_quiet_step ((rename_i g;first|(go_at_call 239;refine gE (Zk _ _ (by have:=f.1;omega)) (by rw[x.out]))|(go_at_call 195;refine zr (v:=.bool true) ((Q9 m i N _ o k S _ _ A f.2 r (q.j0 (zb d g.o)) (p.j0 (zb d g.o))).mono ?_);rintro e t ⟨⟨bb,rfl,j⟩,a⟩;obtain rfl:=j.2 ⟨D,u⟩;exact⟨rfl,a⟩)|(go_at_call 240;refine zr (v:=.bool true) ((QX _ _ _ _ _ _ _).mono ?_);rintro e t ⟨⟨bb,rfl,j⟩,a⟩;obtain rfl:=j.2 y;exact⟨rfl,a⟩)|(go_at_call 191;with_reducible refine gE (zx _ 1 4 _) (by rw[C.out]))|(go_at_call 242;refine gE (v:=.bool T) (Qw b.y _) (by rw[n.out])))))
  refine Jl ?_;rintro _ ⟨g,rfl⟩;go_wp2;go_ret;exact⟨zh (λh=>L (by unfold FW at h;exact h.2.2.2.1)),zb d g.o⟩
 have L:=hI p4;have C:=hI (Jd p4);clear p4
 by_cases p5:Bw b
 case neg =>
  have M:=hI p5;have F:=hI (Bool.eq_false_iff.2 (λh=>p5 (Q.1 h)))
  clear p5;refine ze kR kR ?_
  repeat(go_big_quiet_step ((rename_i g;first|(go_at_call 239;refine gE (Zk _ _ (by have:=f.1;omega)) (by rw[x.out]))|(go_at_call 195;refine zr (v:=.bool true) ((Q9 m i N _ o k S _ _ A f.2 r (q.j0 (zb d g.o)) (p.j0 (zb d g.o))).mono ?_);rintro e t ⟨⟨bb,rfl,j⟩,a⟩;obtain rfl:=j.2 ⟨D,u⟩;exact⟨rfl,a⟩)|(go_at_call 240;refine zr (v:=.bool true) ((QX _ _ _ _ _ _ _).mono ?_);rintro e t ⟨⟨bb,rfl,j⟩,a⟩;obtain rfl:=j.2 y;exact⟨rfl,a⟩)|(go_at_call 191;with_reducible refine gE (zx _ 1 4 _) (by rw[C.out]))|(go_at_call 241;refine gE (zR K T Z _) (by rw[F.out]))|(go_at_call 242;refine gE (v:=.bool T) (Qw b.y _) (by rw[n.out])))))
  refine Jl ?_;rintro _ ⟨g,rfl⟩;go_wp2;go_ret;exact⟨zh (λh=>M (by unfold FW at h;exact h.2.2.2.2.1)),zb d g.o⟩
 have M:Hid (Bw b):=p5;have F:Hid ((if K then T else Z)=true):=Q.2 p5;clear p5
 by_cases p6:In b.j2 0 1000000
 case neg =>
  have O:Hid (¬ (In b.j2 0 1000000)):=p6;have I:Hid (decide (In b.j2 0 1000000)=false):=Jc p6;clear p6;refine ze kR kR ?_
  repeat(go_big_quiet_step ((rename_i g;first|(go_at_call 239;refine gE (v:=.bool true) (Zk _ _ (by have:=f.1;omega)) (by rw[x.out]))|(go_at_call 195;refine zr (v:=.bool true) ((Q9 m i N b.c o k S b.J _ A f.2 r (q.j0 (zb d g.o)) (p.j0 (zb d g.o))).mono ?_);rintro e t ⟨⟨bb,rfl,j⟩,a⟩;obtain rfl:=j.2 ⟨D,u⟩;exact⟨rfl,a⟩)|(go_at_call 240;refine zr (v:=.bool true) ((QX b.v b.f b.j b.w b.h b.x _).mono ?_);rintro e t ⟨⟨bb,rfl,j⟩,a⟩;obtain rfl:=j.2 y;exact⟨rfl,a⟩)|(go_at_call 191;with_reducible refine gE (v:=.bool true) (zx b.C 1 4 _) (by rw[C.out]))|(go_at_call 241;refine gE (v:=.bool true) (zR K T Z _) (by rw[F.out]))|(go_at_call 191;with_reducible refine gE (v:=.bool false) (zx b.j2 0 1000000 _) (by rw[I.out]))|(go_at_call 242;refine gE (v:=.bool T) (Qw b.y _) (by rw[n.out])))))
  refine Jl ?_;rintro _ ⟨g,rfl⟩;go_wp2;go_ret;exact⟨zh (λh=>O (by unfold FW at h;exact h.2.2.2.2.2)),zb d g.o⟩
 have O:Hid (In b.j2 0 1000000):=p6;have I:Hid (decide (In b.j2 0 1000000)=true):=Jd p6;clear p6;refine ze kR kR ?_
 repeat(go_big_quiet_step ((rename_i g;first|(go_at_call 239;refine gE (v:=.bool true) (Zk _ _ (by have:=f.1;omega)) (by rw[x.out]))|(go_at_call 195;refine zr (v:=.bool true) ((Q9 m i N b.c o k S b.J _ A f.2 r (q.j0 (zb d g.o)) (p.j0 (zb d g.o))).mono ?_);rintro e t ⟨⟨bb,rfl,j⟩,a⟩;obtain rfl:=j.2 ⟨D,u⟩;exact⟨rfl,a⟩)|(go_at_call 240;refine zr (v:=.bool true) ((QX b.v b.f b.j b.w b.h b.x _).mono ?_);rintro e t ⟨⟨bb,rfl,j⟩,a⟩;obtain rfl:=j.2 y;exact⟨rfl,a⟩)|(go_at_call 191;with_reducible refine gE (v:=.bool true) (zx b.C 1 4 _) (by rw[C.out]))|(go_at_call 241;refine gE (v:=.bool true) (zR K T Z _) (by rw[F.out]))|(go_at_call 191;with_reducible refine gE (v:=.bool true) (zx b.j2 0 1000000 _) (by rw[I.out]))|(go_at_call 242;refine gE (v:=.bool T) (Qw b.y _) (by rw[n.out])))))
 refine Jl ?_;rintro _ ⟨g,rfl⟩;go_wp2;go_ret;exact⟨zN ⟨J,u,y,L,M,O⟩,zb d g.o⟩
theorem MM (cs:List Value)(x:zY)(lo a:Nat)(w:World)(V:zY.Short x 1048576)(U:zY.In w lo a cs x)(hh:a<=w.heap.size) :
  Calls prog 15 #[.agg cs.toArray,int i64 1] w λe w'=>(∃ k:Nat,k<=40000000000000/\e=.returned (int i64 k))/\zl w w' (λb=>lo<=b/\b<a):=by
 obtain⟨J,F,o,l,c,n,C,m,E,rfl,hm,h1,h2,h3⟩:=U;obtain⟨⟨K,q⟩,⟨Z,L⟩,⟨n3,M⟩⟩:=V;have d:Below _ w (w.alloc (.cells #[(some (o,0),x.i,x.i),(some (n,0),x.l,x.l),(some (m,0),x.g,x.g)] 38)):=zd bZ _;have u:=Qc d;have I:=h1.made.mark K (λi a=>(q i a).2.2.1) (λi a=>(q i a).2.2.2)
 have Q:=hI (λi a=>(q i a).2.2.1)
 have P:=hI (λi a=>(q i a).2.2.2)
 have r:=hI (λi a=>(h1.lh i a).2)
 have gl:=h1.made.lo;have gh:=h1.gh;have N:=hI h2;have O:=hI h3;have R:=hI I;have s:=hI L;have t:=hI M;clear h1 h2 h3 q L M I
 show Calls _ 15 #[.agg #[.slice _ _ _,.slice _ _ _,.slice _ _ _],_] w _
 go_enter func15,ntmps15;go_wp2_with fail;generalize w.alloc _=S at d u ⊢;refine(Ia o _ J lo 1 _ _ l c S K oM Q P gh r (R.j0 d)).mono ?_;rintro e G ⟨⟨W,y,rfl⟩,g⟩;have j:zl w G (λb=>lo<=b/\_):=(zl.of_below d).trans (g.mono (λb e=>by have e:=e;exact⟨by omega,e.2⟩))
 have f:=g.blk u oM;have q1:=bC f 1;go_wp2_with fail;refine(MK n _ J F W _ C G Z y s (N.kept j (λb e=>by omega))).mono ?_
 rintro e H ⟨⟨X,z,rfl⟩,h⟩;have p:zl w H (λb=>lo<=b/\b<F):=(j.mono (λb e=>by have e:=e;exact⟨by omega,by omega⟩)).trans (h.mono (λb e=>by have e:=e;exact⟨by omega,by omega⟩))
 have v:=h.blk f oM;have q2:=bC v 2;clear q1 f j g h u;go_wp2_with fail;refine(Ib m _ F a X _ E H n3 z t (O.kept p (λb e=>by omega))).mono ?_
 rintro e T ⟨⟨Y,A,rfl⟩,B⟩;have D:zl w T (λb=>lo<=b/\b<a):=(p.mono (λb e=>by have e:=e;exact⟨by omega,by omega⟩)).trans (B.mono (λb e=>by have e:=e;exact⟨by omega,by omega⟩))
 go_wp2;go_ret;exact⟨⟨Y,A,rfl⟩,D⟩


theorem LD (d a price:Int)(f:Option Addr)(n c base:Nat)(z:Int)(T:Nat->Ao)(w:World)(o:n<=2097152)(m:0<=z)(h1:z<=100000000000000)(k:w.ownsRow base 203 5 (f,n,c) n (Zh T n)) :
  Calls prog 17 #[.agg #[d,a,price,(f,n,c)],z] w λe w'=>e=.returned (int i64 (z+5*n))/\w'.ownsRow base 203 5 (f,n,c) n (Zh (QW z.toNat) n)/\zl w w' (λb=>(Value.slice f n c).ownBlock=some b):=by
 obtain⟨q,rfl⟩:=Int.eq_ofNat_of_zero_le m;have j:=Jb w (.cells #[d,a,price,(f,n,c)] 41);have g:=Kv j;have x3:=bC j 3;have l:=hI k;clear k;go_enter func17,ntmps17;go_wp2_with fail;refine(OI f n c _ q T _ o oM (zm g l)).mono ?_;rintro e w2 ⟨rfl,i,h⟩;go_wp2;go_ret;exact⟨by simp,i,(zl.of_below g).trans h⟩
theorem Fs (b a price:Int)(f:Option Addr)(n c k0:Nat)(w:World)(h:n<=2097152)(h1:k0<=100000000000000)(i:AX w f n (QW k0)) :
  Calls prog 19 #[.agg #[int i64 b,int i64 a,int i64 price,.slice f n c],int i64 k0] w λe w'=>e=.returned (int i64 ((k0:Int)+5*n))/\Below w w w':=by
 have d:Below _ w (w.alloc (.cells #[b,a,price,(f,n,c)] 41)):=zd bZ _;have e0:decide ((k0:Int)+5*(n:Int)<0)=false:=by simp;omega
 go_enter func19,ntmps19;go_wp2_with fail;refine bM (OJ f n c k0 _ h h1 (i.j0 d)) λw1 g=>?_
 go_wp2;go_ret;exact⟨rfl,zb d g⟩
section
open Go.ChangeShapes Go.WideShapes Go.ChangeAt Go.RowKit Go.Deep Go.Joins
theorem Tryz.cellsOffice:Tryz.prog.cellsOf 26=3:=kR
theorem Tryz.cellsBookSOffice:Tryz.prog.cellsOf 24=1:=kR
theorem Tryz.cellsLoadSOffice:Tryz.prog.cellsOf 23=1:=kR
theorem Tryz.cellsSailSOffice:Tryz.prog.cellsOf 22=1:=kR
theorem Gn {c:TypeId × Value->H}{P:Program}{w:World}{a:Nat->Bool}{b:Bool}{t:TypeId}{d e f:Field}{fuel:Nat}{cs:List Value}{x:DataW H × List MemPlace}(k:P.underlying t=some (.struct #[d,e,f]))(h:DataW.trod c P w base a b fuel t cs=some x) :
  ∃ y0 y1 y2 n,x.1=.agg [y0.1,y1.1,y2.1]/\cs.length=P.cellsOf t/\DataW.trod c P w base a b n d.type ((cs.drop d.offset).take (P.cellsOf d.type))=some y0/\DataW.trod c P w base a b n e.type ((cs.drop e.offset).take (P.cellsOf e.type))=some y1/\DataW.trod c P w base a b n f.type ((cs.drop f.offset).take (P.cellsOf f.type))=some y2:=by
 obtain⟨l,n,_,rfl,j,g,i⟩:=DataW.trod_struct k h
 match l,g with
 |[y0,y1,y2],_=>exact⟨y0,y1,y2,n,by simp,j,by simpa using i 0 d rfl,by simpa using i 1 e rfl,by simpa using i 2 f rfl⟩
theorem Ru {α:Type}{cs:List α}(h:cs.length=3):∃ c0 c1 c2,cs=[c0,c1,c2]:=by
 match cs,h with
 |[c0,c1,c2],_=>exact⟨c0,c1,c2,rfl⟩
/-- The cells of an office that came in. -/
theorem Rw {k:TypeId × Value->H}{W:World}{fuel:Nat}{b:Bool}{cs:List Value}{x:DataW H × List MemPlace}
  (h:DataW.trod k prog W base (λ_=>true) b fuel 26 cs=some x) (c:∀ y ∈ DataW.weights prog 26 x.1,y<=reachBytes) :
  ∃ s:zY,zY.Is W cs s/\zY.Short s 1000000000000000:=by
 obtain⟨y0,y1,y2,n,a,J,I,h1,h2⟩:=Gn underlying26 h;rw[a] at c;rw[Tryz.cellsOffice] at J;obtain⟨c0,c1,c2,rfl⟩:=Ru J;simp only[Tryz.cellsBookSOffice,Tryz.cellsLoadSOffice,Tryz.cellsSailSOffice,List.drop,List.take] at I h1 h2;obtain⟨f,v,j,r,K,o,D,G,A⟩:=Tj I (λx a=>c x (by simp[DataW.weights,DataW.weightsEach,underlying26,a]))
 obtain⟨e,u,i,q,L,m,C,F,z⟩:=Tn h1 (λx a=>c x (by simp[DataW.weights,DataW.weightsEach,underlying26,a]))
 obtain⟨d,t,g,p,M,l,B,E,w⟩:=MN h2 (λx a=>c x (by simp[DataW.weights,DataW.weightsEach,underlying26,a]))
 subst K L M;exact⟨⟨v,r,u,q,t,p⟩,⟨f,j,e,i,d,g,rfl,o,D,m,C,l,B⟩,⟨⟨(show _ from A),G⟩,⟨(show _ from z),F⟩,⟨(show _ from w),E⟩⟩⟩
/-- By value. -/
theorem Rx {a:TypeId × Value->H}{W:World}{v:Value}{d:DataW H}{p:List MemPlace}(c:Value.okWide prog W .any base 26 v)
  (h:DataW.Trod a prog W 0 (λ_=>true) true 26 v d p) (e:∀ x ∈ DataW.weights prog 26 d,x<=reachBytes) :
  ∃ (cs:List Value) (s:zY),v=.agg cs.toArray/\zY.Is W cs s/\zY.Short s 1000000000000000:=by
 obtain⟨cs,rfl,_⟩:=okWide_struct underlying26 c;obtain⟨fuel,b⟩:=h;obtain⟨s,h1,h2⟩:=Rw b e;exact⟨cs.toList,s,by simp,by simpa [Value.cells] using h1,h2⟩
end
end Go.Proofs.YtmdnjgihooflfaaGreatDoor
