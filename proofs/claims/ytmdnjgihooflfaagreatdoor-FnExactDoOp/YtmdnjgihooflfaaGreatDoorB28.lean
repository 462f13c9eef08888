/-
  OWN TEXT: SpecEc, SpecEd, SpecEe, SpecEf, SpecEg, SpecEh, SpecHas.
-/
import Derived.Deep.DeepCutAuto
import Derived.Deep.RegionLawGrows
import Derived.Deep.RegionHeld3
import Derived.Deep.AppendLies
import Derived.Great.Walk
import Derived.Test.YtmdnjgihooflfaaGreatDoorRows
import Derived.Test.YtmdnjgihooflfaaGreatDoorB27
namespace Go.Proofs.YtmdnjgihooflfaaGreatDoor
open Go.RowKit
open Go.Value (int)
open Go.IntKind (i64)
open Tryz
set_option maxHeartbeats 64000000
set_option maxRecDepth 100000
theorem l7End_6 (g base N R H b3 F K m:Nat)(b0 a9 a8 p:Option Addr)(T:Int)(y:OpD)(x:Off)(L C A B D E:Nat->Value)(w:World)(hq:w.heap[g]?=some (.cells #[.slice b0 N H,.slice a9 N b3,.slice a8 R F] 38 (0,0)))(ho:zF w base (.slice b0 N H) (.slice a9 N b3) (.slice a8 R F) N N R x L C A B D E)(f6:x.bkn=R)(d9:base<=w.heap.size)(b6:y.kind=6)(h7:In y.pe 0 20)(j8:y.lgn<=3)(f0:zT w p y.lgn y.lg)(f5:qj p y.lgn K)(f1:0<y.lgn->∀ a,p=some a->a.block<base)(f2:y.name=(m:Int)+1)(hm:m<R)(q:R<=1048576)(n:Nat)(e9:0<(x.bk m).lgn)(e7:zW x.sa ((x.bk m).lg 0) N=n)(e8:n<N)(e5:-1000000000<=(x.sa n).dep - y.now/\(x.sa n).dep - y.now<=1000000000)(hN:N<=1048576) :
  Calls prog 93 #[.pointer (some ⟨g,0,none⟩),int i64 T,.agg #[int i64 y.kind,.string y.own,int i64 y.name,.slice p y.lgn K,int i64 y.pe,int i64 y.len,int i64 y.hei,int i64 y.cl,.bool y.all,int i64 y.be,int i64 y.unt,int i64 y.now]] w λe w'=>zdm g base N H b3 b0 a9 (λb=>b=g∨(Value.slice a8 R F).ownBlock=some b) { x with bk:=zah x.bk m (qx (x.bk m) T y) } 0 y.name (Z6 (x.bk m).price ((x.sa n).dep - y.now)) (λ_ v=>v=.slice none 0 0) L C A B D w e w':=by
 rw[b6,f2];have HO:=hI ho;have HQ:=hI hq;have g4:=hI b6;have g8:=hI f6;have j1:=hI d9;have j2:=hI f0;have j5:=hI f5;have j3:=hI f1;obtain⟨gb,rfl,d8,b4⟩:=qh ho.bk.row (by omega)
 obtain⟨cs,e6⟩:=zA ho.bk.row gb rfl;obtain⟨d4,S,eE,q1,q2,q3⟩:=zp (ho.bk.legs m hm);obtain⟨b,b5⟩:∃ b,b=x.bk m:=⟨_,rfl⟩;have g0:=hI b5;have c0:=hI e6;have a0:Hid (∀ V,Below _ w V->∀ j v,(bkC _ E m)[j]?=some v->V.cell? _=some v):=λV hV j v hv=>by
  have hj:j<13:=by
   have h:=(List.getElem?_eq_some_iff.1 hv).1;exact h
  have h:=zs ho.bk.row (m*13+j) (by omega) rfl
  rw[zC 13 _ m j hj,List.getD_eq_getElem?_getD,hv] at h;exact(hV.cell b4).trans h
 have g2:Hid (E m=.slice d4 b.lgn S):=by rw[b5];exact eE
 have i1:(0:Int)<=(m:Int):=by omega
 have i2:(m:Int)<(R:Int):=by omega
 have k1:IntKind.i64.wrap ((m:Int)+1 - 1)=(m:Int):=by rw[Jk];omega
 have HM:=hI hm;have j0:=hI d8;clear e6 eE q1 q2 q3 b5 d8;have M:=hI e9;have O:=hI e8;have f7:=hI e5;have f8:=hI hN;have f9:=hI e7;clear e9 e7 e8 e5 hN;clear ho hq b6 f6 d9 f0 f5 f1 f2 hm;obtain⟨pr,b7⟩:∃ pr,pr=zE ⟨y.pe,y.len,y.hei,y.cl,y.all,y.be⟩ (y.lgn:Int):=⟨_,rfl⟩;have j4:=hI b7;have c:Below _ w ((w.alloc (.cells #[int i64 6,.string y.own,int i64 ((m:Int)+1),.slice p y.lgn K,int i64 y.pe,int i64 y.len,int i64 y.hei,int i64 y.cl,.bool y.all,int i64 y.be,int i64 y.unt,int i64 y.now] 47)).alloc (.cells #[int i64 0,int i64 0,int i64 0,.slice none 0 0] 41)):=zk (zk bZ _) _;have t:=zd (Jb w (.cells #[int i64 6,.string y.own,int i64 ((m:Int)+1),.slice p y.lgn K,int i64 y.pe,int i64 y.len,int i64 y.hei,int i64 y.cl,.bool y.all,int i64 y.be,int i64 y.unt,int i64 y.now] 47)) (.cells #[int i64 0,int i64 0,int i64 0,.slice none 0 0] 41);have J:=zfT w (.cells #[int i64 6,.string y.own,int i64 ((m:Int)+1),.slice p y.lgn K,int i64 y.pe,int i64 y.len,int i64 y.hei,int i64 y.cl,.bool y.all,int i64 y.be,int i64 y.unt,int i64 y.now] 47) (.cells #[int i64 0,int i64 0,int i64 0,.slice none 0 0] 41);go_enter func93,ntmps93;go_wp2_with fail;generalize ((w.alloc _).alloc _)=W at c t J ⊢;refine(Zy _ _ _ _ _ _ _ _ h7 (by unfold In;omega)).mono ?_
 rintro e V ⟨rfl,U⟩;rw[← b7];clear b7;replace c:=ze c U;replace t:=zb t U;replace J:=zb J U;clear U W;have o0:=za t 0 _ rfl;have n2:∀ G:zn V,G.val.cell? _=some (.slice _ R F):=λG=>za (zb HQ.out (ze c G.bel)) 2 _ rfl
 have m2:∀ G:zn V,G.val.cell? _=some (.int _ _):=λG=>za (zb t G.bel) 2 _ rfl
 go_upto_region 17 with fail;refine zh (by kernel_rfl) (by kernel_rfl) ?_
 repeat(first|go_big_quiet_skip|(go_big_quiet_want;go_big_quiet_op;first|go_big_quiet_on|fail))
 refine Jl ?_;rintro _ ⟨G,rfl⟩;replace c:=ze c G.bel;replace t:=zb t G.bel;replace J:=zb J G.bel;have i0:=zM J;have o2:=za t 2 _ rfl;clear o0 n2 m2;have o0:∀ o,(G.val.alloc o).cell? _=some (.int _ 6):=λo=>za (zd t o) 0 _ rfl
 go_upto_region 20 with fail;replace c:=zk c (.cells #[int i64 0,int i64 ((m:Int)+1),int i64 0,.slice none 0 0] 41);replace t:=zd t (.cells #[int i64 0,int i64 ((m:Int)+1),int i64 0,.slice none 0 0] 41);replace J:=zd J (.cells #[int i64 0,int i64 ((m:Int)+1),int i64 0,.slice none 0 0] 41);have bT:=Jb G.val (.cells #[int i64 0,int i64 ((m:Int)+1),int i64 0,.slice none 0 0] 41);generalize G.val.alloc _=X at c t J bT ⊢;generalize G.val.heap.size=tb at bT i0 ⊢;clear o0 o2 G V;have b2:=zb c0.out c;have i7:=a0.out X c 10 _ rfl;have i8:=a0.out X c 11 _ rfl;have i9:=a0.out X c 12 _ rfl;have h0:=zg b2 (m*13+10);have h4:=zg b2 (m*13+11);obtain⟨t0,t1,t2,t3⟩:=ce4 bT;go_upto_region 33 with fail;have P:Hid (qx (x.bk m) T y={ x.bk m with state:=3,unt:=0 }):=by show _=_;simp[qx,g4.out]
 have l:zx X ((X.setCell _ (int i64 3)).setCell _ (int i64 0)) _:=(((zx.refl X (λb=>b=gb)).set (a:=⟨gb,m*13+10,none⟩) rfl _).set (a:=⟨gb,m*13+11,none⟩) rfl _)
 have s:Hid (((X.setCell ⟨gb,m*13+10,none⟩ (int i64 3)).setCell ⟨gb,m*13+11,none⟩ (int i64 0)).ownsRow base 150 13 (.slice (some ⟨gb,0,none⟩) R F) R (zbg (zah x.bk m (qx (x.bk m) T y)) (atV E m (E m)) R)):=by
  refine qR (zL (zL ((HO.out.below c).bk.row) _ _) _ _) (λj _=>zfd 13 (by decide) (k:=m) (C:=bkC x.bk E) (f:=λi=>if i=_ then _ else if i=_ then _ else _) (λr hr=>?_) (λj hj=>?_) (λi hi=>?_) j)
  ·have q:=zC 13 (bkC x.bk E) m r hr
   unfold bkC;rw[ZL,qu,P.out];unfold bkC at q;have f4:r=0∨r=1∨r=2∨r=3∨r=4∨r=5∨r=6∨r=7∨r=8∨r=9∨r=10∨r=11∨r=12:=by omega
   rcases f4 with rfl|rfl|rfl|rfl|rfl|rfl|rfl|rfl|rfl|rfl|rfl|rfl|rfl
   ·rw[Je (by omega),Je (by omega),q];rfl
   ·rw[Je (by omega),Je (by omega),q];rfl
   ·rw[Je (by omega),Je (by omega),q];rfl
   ·rw[Je (by omega),Je (by omega),q];rfl
   ·rw[Je (by omega),Je (by omega),q];rfl
   ·rw[Je (by omega),Je (by omega),q];rfl
   ·rw[Je (by omega),Je (by omega),q];rfl
   ·rw[Je (by omega),Je (by omega),q];rfl
   ·rw[Je (by omega),Je (by omega),q];rfl
   ·rw[Je (by omega),Je (by omega),q];rfl
   ·rw[Je (by omega),Jf rfl];rfl
   ·rw[Jf rfl];rfl
   ·rw[Je (by omega),Je (by omega),q];rfl
  ·rw[Je (by omega),Je (by omega)]
  ·unfold bkC
   rw[zaf _ _ _ hi,qf _ _ _ _ hi]
 have u:=hI ((HO.out.below c).putBk l s.out (by rw[P.out];exact(HO.out.below c).bk.legs m HM.out) (HO.out.bk.far_same HM.out))
 have h6:g≠gb:=λe=>by have h:=c0.out;rw[← e,HQ.out] at h;simp at h
 have a7:=hI (l.blk (zb HQ.out c) h6);have Q:=l.blk bT (by show _;omega)
 have d2:=l.blk J (by show _;omega)
 have d3:=l.blk t (by show _;omega)
 have d0:Hid (zx w _ (λb=>b=g∨(Value.slice (some ⟨gb,0,none⟩) R F).ownBlock=some b)):=(zx.of_below c).trans (l.mono (λb e=>.inr (by rw[show _ from e];rfl)))
 have Y:((X.setCell ⟨gb,m*13+10,none⟩ (int i64 3)).setCell ⟨gb,m*13+11,none⟩ (int i64 0)).cell? ⟨gb,m*13+12,none⟩=some (int i64 (x.bk m).price):=by
  have h:=zs s.out (m*13+12) (by have:=HM.out;omega) rfl
  rw[zC 13 _ m 12 (by decide)] at h
  unfold bkC at h;rw[ZL,P.out] at h;exact h
 generalize ((X.setCell _ _).setCell _ _)=Z1 at d3 l s u a7 Q d2 d0 Y ⊢;clear l s bT J t b2 t0 t1 t2 t3 i7 i8 i9 h0 h4;have d7:w.heap.size+1≠tb:=by omega
 have I:E m=.slice d4 (x.bk m).lgn S:=by rw[← g0.out];exact g2.out
 have hL:=u.out.bk.legs m HM.out;dsimp only at hL;rw[qu,ZL,P.out,I] at hL;dsimp only at hL;obtain⟨lb,rfl,k3,k4⟩:=qh hL M.out;obtain⟨k2,lo',d5,e4⟩:=zbo hL 0 M.out;have y3:Z1.cell? ⟨lb,0,none⟩=some (int i64 ((x.bk m).lg 0)):=by
  cases d5
  exact e4
 have z3:Z1.cell? ⟨gb,m*13+3,none⟩=some (.slice (some ⟨lb,0,none⟩) (x.bk m).lgn S):=by
  have h:=zs u.out.bk.row (m*13+3) (by have:=HM.out;omega) rfl
  rw[zC 13 _ m 3 (by decide)] at h
  unfold bkC at h;rw[qu,I] at h;exact h
 obtain⟨b8,so,la,lc,ca,cc,rfl,s0,s1,s2,s3,s4,s5,s6,s7,_⟩:=u.out.sa.at n O.out;have zq:=za a7.out 0 _ rfl;have j6:=zM HQ.out;have j9:b8<w.heap.size:=by
  obtain⟨gs,e,_,h2⟩:=qh HO.out.sa.row (by have:=O.out;omega)
  cases e
  exact h2
 have j7:=by
  have h:=HO.out.bk.legs m HM.out;rw[I] at h;exact(h.lt lb rfl).2
 have i3:(0:Int)<=(n:Int):=by omega
 have i4:(n:Int)<(N:Int):=by have:=O.out;omega
 have i5:(0:Int)<((x.bk m).lgn:Int):=by have:=M.out;omega
 have i6:=M.out;have k0:IntKind.i64.wrap ((x.sa n).dep - y.now)=(x.sa n).dep - y.now:=by rw[Jk];have:=f7.out;omega
 have g7:=hI u.out.sa.at;have KS:Hid (∀ z,Below _ Z1 z->_/\_/\z.cell? _=some (.slice _ N H)/\_/\z.cell? _=some (.int _ (x.sa n).dep)/\z.cell? _=some (.int _ _)):=λz h=>⟨(h.cell (Ja _ _ Y)).trans Y,(h.cell (Ja _ _ z3)).trans z3,(h.cell (Ja _ _ zq)).trans zq,(h.cell (Ja _ _ y3)).trans y3,(h.cell (Ja _ _ s3)).trans s3,za (zb d3 h) 11 _ rfl⟩
 have KT:Hid (∀ z,Below _ Z1 z->∀ v Z,Z=z.setCell ⟨tb,2,none⟩ v->Z.cell? _=_/\Z.cell? _=_/\Z.cell? _=_/\Z.cell? _=_/\Z.cell? _=_/\Z.cell? _=_):=λz h v Z e=>by
  subst e;obtain⟨a1,a2,a3,a4,a5,a6⟩:=KS.out z h;have hk:=(zx.refl z (λb=>b=tb)).set (a:=⟨tb,2,none⟩) rfl v
  exact⟨QV hk a1 (by show _;dsimp only;omega),QV hk a2 (by show _;dsimp only;omega),QV hk a3 (by show _;dsimp only;omega),QV hk a4 (by show _;dsimp only;omega),QV hk a5 (by show _;dsimp only;omega),QV hk a6 (by show _;dsimp only;omega)⟩
 clear s0 s1 s2 s3 s4 s5 s6 s7 y3 z3 Y zq hL d5 e4;go_region_held3 (λw'=>w'.cell? ⟨gb,m*13+12,none⟩=some (int i64 (x.bk m).price)/\w'.cell? ⟨gb,m*13+3,none⟩=some (.slice (some ⟨lb,0,none⟩) (x.bk m).lgn S)/\w'.cell? ⟨g,0,none⟩=some (.slice (some ⟨b8,so,none⟩) N H)/\w'.cell? ⟨lb,0,none⟩=some (int i64 ((x.bk m).lg 0))/\w'.cell? ⟨b8,so+n*8+3,none⟩=some (int i64 (x.sa n).dep)/\w'.cell? ⟨w.heap.size,11,none⟩=some (int i64 y.now))
  (first|(with_reducible exact KT.out _ d.out _ _ rfl)|(refine KS.out _ ?_;repeat(first|exact d.out|exact bZ|refine Jh ?_|refine zk ?_ _)))
  (first
   | (go_simp;go_at_call 161;(with_reducible refine Jm (Q9 _ N H _ _ _ f8.out (g7.out.below ?_)) ?_);(focus(repeat(first | exact bZ | refine Jh ?_ | refine zk ?_ _)));rintro e u2 ⟨he,b4⟩;have d:=hI (ze (Jh bZ) b4);rw[f9.out] at he;rcases he with⟨_,rfl⟩ | ⟨h,_⟩;rotate_left;(focus(have:=O.out;omega));have q0:=za (zb Q d.out) 2 _ rfl;have q1:=zg (zb Q d.out) 2;dsimp only)
   | (go_simp;go_at_call 171;(with_reducible refine Jm (zjf _ _ _) ?_);rintro e u3 ⟨rfl,rfl⟩;dsimp only))
 obtain⟨g6,h5,g5,b1,g9⟩:=zgr (d0.out.trans (zx.of_below d.out)) (u.out.below d.out) (zb a7.out d.out) (zb d2 d.out) (zb Q d.out) d7 (by omega) (int i64 (Z6 (x.bk m).price ((x.sa n).dep - y.now))) rfl
 obtain⟨d1,d6,c9,bF⟩:=zbC g5 g6 h5 b1 (by omega) (int i64 0) (int i64 ((m:Int)+1)) (int i64 (Z6 (x.bk m).price ((x.sa n).dep - y.now))) (.slice none 0 0) rfl
 obtain⟨t0,t1,t2,t3⟩:=ce4 g9;obtain⟨v0,v1,v2,v3⟩:=ce4 b1;obtain⟨e0,e1,e2,e3⟩:=fe4 b1;have b9:=hI d1;have g3:=hI d6;have g1:=hI c9;clear d1 d6 c9;go_wp2;obtain⟨x0,x1,x2,x3⟩:=ce4 bF;refine Jj (v:=.agg #[int i64 0,int i64 ((m:Int)+1),int i64 (Z6 (x.bk m).price ((x.sa n).dep - y.now)),.slice none 0 0]) (by simp[results,results93,go_sem,x0,x1,x2,x3]) rfl ?_
 have q:=g8.out;subst q;exact⟨_,_,_,_,rfl,rfl,b9.out,g3.out,g1.out⟩
theorem l7End_7 (g base N R O M q u m:Nat)(K J I l:Option Addr)(F:Int)(y:OpD)(x:Off)(L C A B D E:Nat->Value)(w:World)(hq:w.heap[g]?=some (.cells #[(K,N,O),(J,N,M),(I,R,q)] 38 (0,0)))(T:zF w base (K,N,O) (J,N,M) (I,R,q) N N R x L C A B D E)(b6:x.bkn=R)(a9:base<=w.heap.size)(Q:y.kind=7)(d4:In y.pe 0 20)(f0:y.lgn<=3)(b1:zT w l y.lgn y.lg)(b5:qj l y.lgn u)(b2:0<y.lgn->∀ a,l=some a->a.block<base)(b3:y.name=(m:Int)+1)(hm:m<R)(d:R<=1048576) :
  Calls prog 93 #[.pointer (some (g,0)),F,.agg (y,l,u)] w λe w'=>zdm g base N O M K J (λb=>b=g∨(Value.slice I R q).ownBlock=some b) { x with bk:=zah x.bk m (qx (x.bk m) F y) } 0 y.name (0) (λ_ v=>v=.slice none 0 0) L C A B D w e w':=by
 rw[Q,b3];have HO:=hI T;have HQ:=hI hq;have c0:=hI Q;have c9:=hI b6;have e4:=hI a9;have e6:=hI b1;have e9:=hI b5;have e7:=hI b2;obtain⟨gb,rfl,a8,d2⟩:=qh T.bk.row (by omega)
 obtain⟨cs,b0⟩:=zA T.bk.row gb rfl;obtain⟨d1,d0,eE,q1,q2,q3⟩:=zp (T.bk.legs m hm);obtain⟨b,P⟩:∃ b,b=x.bk m:=⟨_,rfl⟩;have d8:=hI P;have Y:=hI b0;have b7:Hid (∀ V,Below _ w V->∀ j v,(bkC _ E m)[j]?=some v->V.cell? _=some v):=λV hV j v hv=>by
  have hj:j<13:=by
   have h:=(List.getElem?_eq_some_iff.1 hv).1;exact h
  have h:=zs T.bk.row (m*13+j) (by omega) rfl
  rw[zC 13 _ m j hj,List.getD_eq_getElem?_getD,hv] at h;exact(hV.cell d2).trans h
 have e5:Hid (E m=.slice d1 b.lgn d0):=by rw[P];exact eE
 have i1:(0:Int)<=(m:Int):=by omega
 have i2:(m:Int)<(R:Int):=by omega
 have f1:IntKind.i64.wrap ((m:Int)+1 - 1)=(m:Int):=by rw[Jk];omega
 have HM:=hI hm;have d9:=hI a8;clear b0 eE q1 q2 q3 P a8;clear T hq Q b6 a9 b1 b5 b2 b3 hm;obtain⟨pr,S⟩:∃ pr,pr=zE ⟨y.pe,y.len,y.hei,y.cl,y.all,y.be⟩ (y.lgn:Int):=⟨_,rfl⟩;have e8:=hI S;have c:Below _ w ((w.alloc (.cells #[int i64 7,y.own,int i64 ((m:Int)+1),(l,y.lgn,u),y.pe,y.len,y.hei,y.cl,y.all,y.be,y.unt,y.now] 47)).alloc (.cells #[(),(),(),True] 41)):=zk (zk bZ _) _;have p:=zd (Jb w (.cells #[int i64 7,y.own,int i64 ((m:Int)+1),(l,y.lgn,u),y.pe,y.len,y.hei,y.cl,y.all,y.be,y.unt,y.now] 47)) (.cells #[(),(),(),True] 41);have t:=zfT w (.cells #[int i64 7,y.own,int i64 ((m:Int)+1),(l,y.lgn,u),y.pe,y.len,y.hei,y.cl,y.all,y.be,y.unt,y.now] 47) (.cells #[(),(),(),True] 41);go_enter func93,ntmps93;go_wp2_with fail;generalize ((w.alloc _).alloc _)=W at c p t ⊢;refine(Zy _ _ _ _ _ _ _ _ d4 (by unfold In;omega)).mono ?_
 rintro e V ⟨rfl,H⟩;rw[← S];clear S;replace c:=ze c H;replace p:=zb p H;replace t:=zb t H;clear H W;have o0:=za p 0 _ rfl;have n2:∀ G:zn V,G.val.cell? _=some (.slice _ R q):=λG=>za (zb HQ (ze c G.bel)) 2 _ rfl
 have m2:∀ G:zn V,G.val.cell? _=some (.int _ _):=λG=>za (zb p G.bel) 2 _ rfl
 go_upto_region 17 with fail;refine zh (by kernel_rfl) (by kernel_rfl) ?_
 repeat(first|go_big_quiet_skip|(go_big_quiet_want;go_big_quiet_op;first|go_big_quiet_on|fail))
 refine Jl ?_;rintro _ ⟨G,rfl⟩;replace c:=ze c G.bel;replace p:=zb p G.bel;replace t:=zb t G.bel;have d5:=zM t;have o2:=za p 2 _ rfl;clear o0 n2 m2;have o0:∀ o,(G.val.alloc o).cell? _=some (.int _ 7):=λo=>za (zd p o) 0 _ rfl
 go_upto_region 20 with fail;replace c:=zk c (.cells #[(),int i64 ((m:Int)+1),(),True] 41);replace p:=zd p (.cells #[(),int i64 ((m:Int)+1),(),True] 41);replace t:=zd t (.cells #[(),int i64 ((m:Int)+1),(),True] 41);have bT:=Jb G.val (.cells #[(),int i64 ((m:Int)+1),(),True] 41);generalize G.val.alloc _=X at c p t bT ⊢;generalize G.val.heap.size=tb at bT d5 ⊢;clear o0 o2 G V;have a5:=zb Y c;have k2:=b7 X c 2 _ rfl;have f2:=zg a5 (m*13+2);obtain⟨t0,t1,t2,t3⟩:=ce4 bT;have d6:=za p 1 _ rfl;go_upto_region 38 with fail;have a1:Hid (qx (x.bk m) F y={ x.bk m with own:=y.own }):=by show _=_;simp[qx,c0.out]
 have n:zx X (X.setCell _ y.own) _:=((zx.refl X (λb=>b=gb)).set (a:=(gb,m*13+2)) rfl _)
 have s:Hid ((X.setCell (gb,m*13+2) y.own).ownsRow base 150 13 (some (gb,0),R,q) R (zbg (zah x.bk m (qx (x.bk m) F y)) (atV E m (E m)) R)):=by
  refine qR (zL ((HO.below c).bk.row) _ _) (λj _=>zfd 13 (by decide) (k:=m) (C:=bkC x.bk E) (f:=λi=>if i=_ then _ else _) (λr hr=>?_) (λj hj=>?_) (λi hi=>?_) j)
  ·have d:=zC 13 (bkC x.bk E) m r hr
   unfold bkC;rw[ZL,qu,a1.out];unfold bkC at d;have b4:r=0∨r=1∨r=2∨r=3∨r=4∨r=5∨r=6∨r=7∨r=8∨r=9∨r=10∨r=11∨r=12:=by omega
   rcases b4 with rfl|rfl|rfl|rfl|rfl|rfl|rfl|rfl|rfl|rfl|rfl|rfl|rfl
   ·rw[Je (by omega),d];rfl
   ·rw[Je (by omega),d];rfl
   ·rw[Jf rfl];rfl
   ·rw[Je (by omega),d];rfl
   ·rw[Je (by omega),d];rfl
   ·rw[Je (by omega),d];rfl
   ·rw[Je (by omega),d];rfl
   ·rw[Je (by omega),d];rfl
   ·rw[Je (by omega),d];rfl
   ·rw[Je (by omega),d];rfl
   ·rw[Je (by omega),d];rfl
   ·rw[Je (by omega),d];rfl
   ·rw[Je (by omega),d];rfl
  ·rw[Je (by omega)]
  ·unfold bkC
   rw[zaf _ _ _ hi,qf _ _ _ _ hi]
 have a3:=hI ((HO.below c).putBk n s (by rw[a1.out];exact(HO.below c).bk.legs m HM) (HO.bk.far_same HM))
 have d3:g≠gb:=λe=>by have h:=Y.out;rw[← e,HQ.out] at h;simp at h
 have a4:=hI (n.blk (zb HQ c) d3);have a6:=n.blk bT (by show _;omega)
 have z:=n.blk t (by show _;omega)
 have a0:Hid (zx w _ (λb=>b=g∨(Value.slice (some (gb,0)) R q).ownBlock=some b)):=(zx.of_below c).trans (n.mono (λb e=>.inr (by rw[show _ from e];rfl)))
 generalize (X.setCell _ _)=Z1 at n s a3 a4 a6 z a0 ⊢;clear n s bT t d6 p a5 t0 t1 t2 t3 k2 f2;have d7:w.heap.size+1≠tb:=by omega
 obtain⟨a2,a7,Z,bF⟩:=zbC a0 a3 a4 z (by omega) () (int i64 ((m:Int)+1)) () True rfl
 obtain⟨t0,t1,t2,t3⟩:=ce4 a6;obtain⟨v0,v1,v2,v3⟩:=ce4 z;obtain⟨e0,e1,e2,e3⟩:=fe4 z;have U:=hI a2;have b9:=hI a7;have b8:=hI Z;clear a2 a7 Z;go_wp2;obtain⟨x0,x1,x2,x3⟩:=ce4 bF;refine Jj (v:=.agg #[int i64 0,int i64 ((m:Int)+1),int i64 (0),.slice none 0 0]) (by simp[results,results93,go_sem,x0,x1,x2,x3]) rfl ?_
 have d:=c9;subst d;exact⟨_,_,_,_,rfl,rfl,U,b9,b8⟩
theorem l7End_8 (g base N R O M q u m:Nat)(K J I l:Option Addr)(F:Int)(y:OpD)(x:Off)(L C A B D E:Nat->Value)(w:World)(hq:w.heap[g]?=some (.cells #[(K,N,O),(J,N,M),(I,R,q)] 38 (0,0)))(T:zF w base (K,N,O) (J,N,M) (I,R,q) N N R x L C A B D E)(b6:x.bkn=R)(a9:base<=w.heap.size)(Q:y.kind=8)(d5:In y.pe 0 20)(f1:y.lgn<=3)(b1:zT w l y.lgn y.lg)(b5:qj l y.lgn u)(b2:0<y.lgn->∀ a,l=some a->a.block<base)(b3:y.name=(m:Int)+1)(hm:m<R)(d:R<=1048576) :
  Calls prog 93 #[.pointer (some (g,0)),F,.agg (y,l,u)] w λe w'=>zdm g base N O M K J (λb=>b=g∨(Value.slice I R q).ownBlock=some b) { x with bk:=zah x.bk m (qx (x.bk m) F y) } 0 y.name (0) (λ_ v=>v=.slice none 0 0) L C A B D w e w':=by
 rw[Q,b3];have HO:=hI T;have HQ:=hI hq;have c0:=hI Q;have c9:=hI b6;have e5:=hI a9;have e7:=hI b1;have f0:=hI b5;have e8:=hI b2;obtain⟨gb,rfl,a8,d3⟩:=qh T.bk.row (by omega)
 obtain⟨cs,b0⟩:=zA T.bk.row gb rfl;obtain⟨d1,d0,eE,q1,q2,q3⟩:=zp (T.bk.legs m hm);obtain⟨b,P⟩:∃ b,b=x.bk m:=⟨_,rfl⟩;have d9:=hI P;have Y:=hI b0;have b7:Hid (∀ V,Below _ w V->∀ j v,(bkC _ E m)[j]?=some v->V.cell? _=some v):=λV hV j v hv=>by
  have hj:j<13:=by
   have h:=(List.getElem?_eq_some_iff.1 hv).1;exact h
  have h:=zs T.bk.row (m*13+j) (by omega) rfl
  rw[zC 13 _ m j hj,List.getD_eq_getElem?_getD,hv] at h;exact(hV.cell d3).trans h
 have e6:Hid (E m=.slice d1 b.lgn d0):=by rw[P];exact eE
 have i1:(0:Int)<=(m:Int):=by omega
 have i2:(m:Int)<(R:Int):=by omega
 have f2:IntKind.i64.wrap ((m:Int)+1 - 1)=(m:Int):=by rw[Jk];omega
 have HM:=hI hm;have e4:=hI a8;clear b0 eE q1 q2 q3 P a8;clear T hq Q b6 a9 b1 b5 b2 b3 hm;obtain⟨pr,S⟩:∃ pr,pr=zE ⟨y.pe,y.len,y.hei,y.cl,y.all,y.be⟩ (y.lgn:Int):=⟨_,rfl⟩;have e9:=hI S;have c:Below _ w ((w.alloc (.cells #[int i64 8,y.own,int i64 ((m:Int)+1),(l,y.lgn,u),y.pe,y.len,y.hei,y.cl,y.all,y.be,y.unt,y.now] 47)).alloc (.cells #[(),(),(),True] 41)):=zk (zk bZ _) _;have p:=zd (Jb w (.cells #[int i64 8,y.own,int i64 ((m:Int)+1),(l,y.lgn,u),y.pe,y.len,y.hei,y.cl,y.all,y.be,y.unt,y.now] 47)) (.cells #[(),(),(),True] 41);have t:=zfT w (.cells #[int i64 8,y.own,int i64 ((m:Int)+1),(l,y.lgn,u),y.pe,y.len,y.hei,y.cl,y.all,y.be,y.unt,y.now] 47) (.cells #[(),(),(),True] 41);go_enter func93,ntmps93;go_wp2_with fail;generalize ((w.alloc _).alloc _)=W at c p t ⊢;refine(Zy _ _ _ _ _ _ _ _ d5 (by unfold In;omega)).mono ?_
 rintro e V ⟨rfl,H⟩;rw[← S];clear S;replace c:=ze c H;replace p:=zb p H;replace t:=zb t H;clear H W;have o0:=za p 0 _ rfl;have n2:∀ G:zn V,G.val.cell? _=some (.slice _ R q):=λG=>za (zb HQ (ze c G.bel)) 2 _ rfl
 have m2:∀ G:zn V,G.val.cell? _=some (.int _ _):=λG=>za (zb p G.bel) 2 _ rfl
 go_upto_region 17 with fail;refine zh (by kernel_rfl) (by kernel_rfl) ?_
 repeat(first|go_big_quiet_skip|(go_big_quiet_want;go_big_quiet_op;first|go_big_quiet_on|fail))
 refine Jl ?_;rintro _ ⟨G,rfl⟩;replace c:=ze c G.bel;replace p:=zb p G.bel;replace t:=zb t G.bel;have d6:=zM t;have o2:=za p 2 _ rfl;clear o0 n2 m2;have o0:∀ o,(G.val.alloc o).cell? _=some (.int _ 8):=λo=>za (zd p o) 0 _ rfl
 go_upto_region 20 with fail;replace c:=zk c (.cells #[(),int i64 ((m:Int)+1),(),True] 41);replace p:=zd p (.cells #[(),int i64 ((m:Int)+1),(),True] 41);replace t:=zd t (.cells #[(),int i64 ((m:Int)+1),(),True] 41);have bT:=Jb G.val (.cells #[(),int i64 ((m:Int)+1),(),True] 41);generalize G.val.alloc _=X at c p t bT ⊢;generalize G.val.heap.size=tb at bT d6 ⊢;clear o0 o2 G V;have a5:=zb Y c;have d7:=b7 X c 10 _ rfl;have d2:=zg a5 (m*13+10);obtain⟨t0,t1,t2,t3⟩:=ce4 bT;go_upto_region 38 with fail;have a1:Hid (qx (x.bk m) F y={ x.bk m with state:=4 }):=by show _=_;simp[qx,c0.out]
 have n:zx X (X.setCell _ (int i64 4)) _:=((zx.refl X (λb=>b=gb)).set (a:=(gb,m*13+10)) rfl _)
 have s:Hid ((X.setCell (gb,m*13+10) (int i64 4)).ownsRow base 150 13 (some (gb,0),R,q) R (zbg (zah x.bk m (qx (x.bk m) F y)) (atV E m (E m)) R)):=by
  refine qR (zL ((HO.below c).bk.row) _ _) (λj _=>zfd 13 (by decide) (k:=m) (C:=bkC x.bk E) (f:=λi=>if i=_ then _ else _) (λr hr=>?_) (λj hj=>?_) (λi hi=>?_) j)
  ·have d:=zC 13 (bkC x.bk E) m r hr
   unfold bkC;rw[ZL,qu,a1.out];unfold bkC at d;have b4:r=0∨r=1∨r=2∨r=3∨r=4∨r=5∨r=6∨r=7∨r=8∨r=9∨r=10∨r=11∨r=12:=by omega
   rcases b4 with rfl|rfl|rfl|rfl|rfl|rfl|rfl|rfl|rfl|rfl|rfl|rfl|rfl
   ·rw[Je (by omega),d];rfl
   ·rw[Je (by omega),d];rfl
   ·rw[Je (by omega),d];rfl
   ·rw[Je (by omega),d];rfl
   ·rw[Je (by omega),d];rfl
   ·rw[Je (by omega),d];rfl
   ·rw[Je (by omega),d];rfl
   ·rw[Je (by omega),d];rfl
   ·rw[Je (by omega),d];rfl
   ·rw[Je (by omega),d];rfl
   ·rw[Jf rfl];rfl
   ·rw[Je (by omega),d];rfl
   ·rw[Je (by omega),d];rfl
  ·rw[Je (by omega)]
  ·unfold bkC
   rw[zaf _ _ _ hi,qf _ _ _ _ hi]
 have a3:=hI ((HO.below c).putBk n s (by rw[a1.out];exact(HO.below c).bk.legs m HM) (HO.bk.far_same HM))
 have d4:g≠gb:=λe=>by have h:=Y.out;rw[← e,HQ.out] at h;simp at h
 have a4:=hI (n.blk (zb HQ c) d4);have a6:=n.blk bT (by show _;omega)
 have z:=n.blk t (by show _;omega)
 have a0:Hid (zx w _ (λb=>b=g∨(Value.slice (some (gb,0)) R q).ownBlock=some b)):=(zx.of_below c).trans (n.mono (λb e=>.inr (by rw[show _ from e];rfl)))
 generalize (X.setCell _ _)=Z1 at n s a3 a4 a6 z a0 ⊢;clear n s bT t p a5 t0 t1 t2 t3 d7 d2;have d8:w.heap.size+1≠tb:=by omega
 obtain⟨a2,a7,Z,bF⟩:=zbC a0 a3 a4 z (by omega) () (int i64 ((m:Int)+1)) () True rfl
 obtain⟨t0,t1,t2,t3⟩:=ce4 a6;obtain⟨v0,v1,v2,v3⟩:=ce4 z;obtain⟨e0,e1,e2,e3⟩:=fe4 z;have U:=hI a2;have b9:=hI a7;have b8:=hI Z;clear a2 a7 Z;go_wp2;obtain⟨x0,x1,x2,x3⟩:=ce4 bF;refine Jj (v:=.agg #[int i64 0,int i64 ((m:Int)+1),int i64 (0),.slice none 0 0]) (by simp[results,results93,go_sem,x0,x1,x2,x3]) rfl ?_
 have d:=c9;subst d;exact⟨_,_,_,_,rfl,rfl,U,b9,b8⟩
theorem l7End_1 (g base N R l k u d:Nat)(j i t b:Option Addr)(Q:Int)(y:OpD)(x:Off)(L C A B D E:Nat->Value)(w:World)(X:w.heap[g]?=some (.cells #[(j,N,l),(i,N,k),(t,R,u)] 38 (0,0)))(U:zF w base (j,N,l) (i,N,k) (t,R,u) N N R x L C A B D E)(J:x.bkn=R)(F:base<=w.heap.size)(m:y.kind=1)(S:In y.pe 0 20)(a3:y.lgn<=3)(G:zT w b y.lgn y.lg)(I:qj b y.lgn d)(H:0<y.lgn->∀ a,b=some a->a.block<base) :
  Calls prog 93 #[.pointer (some (g,0)),Q,.agg (y,b,d)] w λe w'=>zdm g base N l k j i (λ_=>False) x 0 0 (zE ⟨y.pe,y.len,y.hei,y.cl,y.all,y.be⟩ (y.lgn:Int)) (λ_ v=>v=.slice none 0 0) L C A B D w e w':=by
 rw[m];have HO:=hI U;have HQ:=hI X;have Z:=hI m;have P:=hI J;have Y:=hI F;have a0:=hI G;have a2:=hI I;have a1:=hI H;clear U X m J F G I H;obtain⟨M,n⟩:∃ M,M=zE ⟨y.pe,y.len,y.hei,y.cl,y.all,y.be⟩ (y.lgn:Int):=⟨_,rfl⟩;have O:=hI n;have c:Below _ w ((w.alloc (.cells #[int i64 1,y.own,y.name,(b,y.lgn,d),y.pe,y.len,y.hei,y.cl,y.all,y.be,y.unt,y.now] 47)).alloc (.cells #[(),(),(),True] 41)):=zk (zk bZ _) _;have K:=zd (Jb w (.cells #[int i64 1,y.own,y.name,(b,y.lgn,d),y.pe,y.len,y.hei,y.cl,y.all,y.be,y.unt,y.now] 47)) (.cells #[(),(),(),True] 41);have o:=zfT w (.cells #[int i64 1,y.own,y.name,(b,y.lgn,d),y.pe,y.len,y.hei,y.cl,y.all,y.be,y.unt,y.now] 47) (.cells #[(),(),(),True] 41);go_enter func93,ntmps93;go_wp2_with fail;generalize ((w.alloc _).alloc _)=W at c K o ⊢;refine(Zy _ _ _ _ _ _ _ _ S (by unfold In;omega)).mono ?_
 rintro e V ⟨rfl,f⟩;rw[← n];clear n;replace c:=ze c f;replace K:=zb K f;replace o:=zb o f;clear f W;have o0:=za K 0 _ rfl;obtain⟨s,z,r,bF⟩:=zbC (T:=(λ_=>False)) (zx.of_below c) (HO.below c) (zb HQ c) o (by omega) () () M True rfl
 obtain⟨v0,v1,v2,v3⟩:=ce4 o;obtain⟨e0,e1,e2,e3⟩:=fe4 o;have h:=hI s;have q:=hI z;have p:=hI r;clear s z r;go_wp2;obtain⟨x0,x1,x2,x3⟩:=ce4 bF;refine Jj (v:=.agg #[(),(),M,True]) (by simp[results,results93,go_sem,x0,x1,x2,x3]) rfl ?_
 have hR:=P;subst hR;rw[O.out] at h q p ⊢;exact⟨_,_,_,_,rfl,rfl,h,q,p⟩
theorem l7End_2f (g base N R k j t d:Nat)(i h s b:Option Addr)(O:Int)(y:OpD)(x:Off)(L C A B D E:Nat->Value)(w:World)(U:w.heap[g]?=some (.cells #[(i,N,k),(h,N,j),(s,R,t)] 38 (0,0)))(S:zF w base (i,N,k) (h,N,j) (s,R,t) N N R x L C A B D E)(I:x.bkn=R)(z:base<=w.heap.size)(l:y.kind=2)(P:In y.pe 0 20)(a4:y.lgn<=3)(F:zT w b y.lgn y.lg)(H:qj b y.lgn d)(G:0<y.lgn->∀ a,b=some a->a.block<base)(hR:R=30) :
  Calls prog 93 #[.pointer (some (g,0)),O,.agg (y,b,d)] w λe w'=>zdm g base N k j i h (λ_=>False) x 8 0 0 (λ_ v=>v=.slice none 0 0) L C A B D w e w':=by
 subst hR;rw[l];have HO:=hI S;have Q:=hI U;have Z:=hI l;have r:=hI I;have Y:=hI z;have a0:=hI F;have a3:=hI H;have a1:=hI G;clear S U l I z F H G;obtain⟨X,m⟩:∃ X,X=zE ⟨y.pe,y.len,y.hei,y.cl,y.all,y.be⟩ (y.lgn:Int):=⟨_,rfl⟩;have a2:=hI m;have c:Below _ w ((w.alloc (.cells #[int i64 2,y.own,y.name,(b,y.lgn,d),y.pe,y.len,y.hei,y.cl,y.all,y.be,y.unt,y.now] 47)).alloc (.cells #[(),(),(),True] 41)):=zk (zk bZ _) _;have J:=zd (Jb w (.cells #[int i64 2,y.own,y.name,(b,y.lgn,d),y.pe,y.len,y.hei,y.cl,y.all,y.be,y.unt,y.now] 47)) (.cells #[(),(),(),True] 41);have n:=zfT w (.cells #[int i64 2,y.own,y.name,(b,y.lgn,d),y.pe,y.len,y.hei,y.cl,y.all,y.be,y.unt,y.now] 47) (.cells #[(),(),(),True] 41);go_enter func93,ntmps93;go_wp2_with fail;generalize ((w.alloc _).alloc _)=W at c J n ⊢;refine(Zy _ _ _ _ _ _ _ _ P (by unfold In;omega)).mono ?_
 rintro e V ⟨rfl,f⟩;rw[← m];clear m;replace c:=ze c f;replace J:=zb J f;replace n:=zb n f;clear f W;have o0:=za J 0 _ rfl;have zq:=za (zb Q c) 2 _ rfl;obtain⟨q,u,p,bF⟩:=zbC (T:=(λ_=>False)) (zx.of_below c) (HO.below c) (zb Q c) n (by omega) (int i64 8) () () True rfl
 obtain⟨v0,v1,v2,v3⟩:=ce4 n;obtain⟨e0,e1,e2,e3⟩:=fe4 n;have o:=hI q;have M:=hI u;have K:=hI p;clear q u p;go_wp2;obtain⟨x0,x1,x2,x3⟩:=ce4 bF;refine Jj (v:=.agg #[int i64 8,(),(),True]) (by simp[results,results93,go_sem,x0,x1,x2,x3]) rfl ?_
 exact⟨_,_,_,_,rfl,rfl,by rw[r.out];exact o,by rw[r.out];exact M,K⟩
theorem l7End_3f (g base N R k j t d:Nat)(i h s b:Option Addr)(O:Int)(y:OpD)(x:Off)(L C A B D E:Nat->Value)(w:World)(U:w.heap[g]?=some (.cells #[(i,N,k),(h,N,j),(s,R,t)] 38 (0,0)))(S:zF w base (i,N,k) (h,N,j) (s,R,t) N N R x L C A B D E)(I:x.bkn=R)(z:base<=w.heap.size)(l:y.kind=3)(P:In y.pe 0 20)(a4:y.lgn<=3)(F:zT w b y.lgn y.lg)(H:qj b y.lgn d)(G:0<y.lgn->∀ a,b=some a->a.block<base)(hR:R=30) :
  Calls prog 93 #[.pointer (some (g,0)),O,.agg (y,b,d)] w λe w'=>zdm g base N k j i h (λ_=>False) x 8 0 0 (λ_ v=>v=.slice none 0 0) L C A B D w e w':=by
 subst hR;rw[l];have HO:=hI S;have Q:=hI U;have Z:=hI l;have r:=hI I;have Y:=hI z;have a0:=hI F;have a3:=hI H;have a1:=hI G;clear S U l I z F H G;obtain⟨X,m⟩:∃ X,X=zE ⟨y.pe,y.len,y.hei,y.cl,y.all,y.be⟩ (y.lgn:Int):=⟨_,rfl⟩;have a2:=hI m;have c:Below _ w ((w.alloc (.cells #[int i64 3,y.own,y.name,(b,y.lgn,d),y.pe,y.len,y.hei,y.cl,y.all,y.be,y.unt,y.now] 47)).alloc (.cells #[(),(),(),True] 41)):=zk (zk bZ _) _;have J:=zd (Jb w (.cells #[int i64 3,y.own,y.name,(b,y.lgn,d),y.pe,y.len,y.hei,y.cl,y.all,y.be,y.unt,y.now] 47)) (.cells #[(),(),(),True] 41);have n:=zfT w (.cells #[int i64 3,y.own,y.name,(b,y.lgn,d),y.pe,y.len,y.hei,y.cl,y.all,y.be,y.unt,y.now] 47) (.cells #[(),(),(),True] 41);go_enter func93,ntmps93;go_wp2_with fail;generalize ((w.alloc _).alloc _)=W at c J n ⊢;refine(Zy _ _ _ _ _ _ _ _ P (by unfold In;omega)).mono ?_
 rintro e V ⟨rfl,f⟩;rw[← m];clear m;replace c:=ze c f;replace J:=zb J f;replace n:=zb n f;clear f W;have o0:=za J 0 _ rfl;have zq:=za (zb Q c) 2 _ rfl;obtain⟨q,u,p,bF⟩:=zbC (T:=(λ_=>False)) (zx.of_below c) (HO.below c) (zb Q c) n (by omega) (int i64 8) () () True rfl
 obtain⟨v0,v1,v2,v3⟩:=ce4 n;obtain⟨e0,e1,e2,e3⟩:=fe4 n;have o:=hI q;have M:=hI u;have K:=hI p;clear q u p;go_wp2;obtain⟨x0,x1,x2,x3⟩:=ce4 bF;refine Jj (v:=.agg #[int i64 8,(),(),True]) (by simp[results,results93,go_sem,x0,x1,x2,x3]) rfl ?_
 exact⟨_,_,_,_,rfl,rfl,by rw[r.out];exact o,by rw[r.out];exact M,K⟩
theorem l1Has_no (d:Option Addr)(n a:Nat)(f:Nat->Int)(x:Int)(w:World)(hn:n<=1048576)(h:zT w d n f)(c:∀ j,j<n->f j≠x) :
  Calls prog 87 #[(d,n,a),x] w λe w'=>e=.returned (.bool false)/\w'=w:=by
 go_enter func87,ntmps87;go_wp2;go_loop [9] (λi=>∃ k,k<=n/\i=int i64 k) (λi=>n - (intOf i).toNat)
 case atStart=>exact⟨0,Jq _,rfl⟩
 case round =>
  obtain⟨k,hk,rfl⟩:=hrel
  by_cases hlt:k<n
  ·obtain⟨b,off,rfl,hc⟩:=h k hlt
   have g:(f k == x)=false:=by simpa using c k hlt
   go_wp2;go_round
   case rel=>exact⟨k+1,by omega,by go_num⟩
   case measure=>simp[intOf];omega
  ·go_wp2
   go_ret;exact⟨rfl,rfl⟩
theorem l1Has_yes (l:Option Addr)(n d:Nat)(f:Nat->Int)(x:Int)(w:World)(hn:n<=1048576)(p:zT w l n f)(c:∃ j,j<n/\f j=x) :
  Calls prog 87 #[(l,n,d),x] w λe w'=>e=.returned (.bool true)/\w'=w:=by
 have H:=hI c;clear c;go_enter func87,ntmps87;go_wp2;go_loop [9] (λi=>∃ k,k<=n/\i=int i64 k/\∀ j,j<k->f j≠x) (λi=>n - (intOf i).toNat)
 case atStart=>exact⟨0,Jq _,rfl,by omega⟩
 case round =>
  obtain⟨k,hk,rfl,a⟩:=hrel;have h:=hI a;clear a
  by_cases hlt:k<n
  ·obtain⟨b,off,rfl,hc⟩:=p k hlt
   by_cases he:f k=x
   ·have g:(f k == x)=true:=by simpa using he
    clear he;go_wp2;go_ret;exact⟨rfl,rfl⟩
   ·have g:(f k == x)=false:=by simpa using he
    have m:=hI he;clear he;go_wp2;go_round
    case rel=>exact⟨k+1,by omega,by go_num,λj o=>by
     by_cases e:j=k
     ·rw[e];exact m
     ·exact h j (by omega)⟩
    case measure=>simp[intOf];omega
  ·exfalso
   obtain⟨j,o,e⟩:=H;exact h j (by omega) e
theorem zkV (d:Option Addr)(n c:Nat)(f:Nat->Int)(x:Int)(w:World)(g:n<=1048576)(i:zT w d n f) :
  Calls prog 87 #[(d,n,c),x] w λe w'=>(∃ b:Bool,e=.returned b/\(b=true↔∃ j,j<n/\f j=x))/\w'=w:=by
 by_cases h:∃ j,j<n/\f j=x
 ·exact(l1Has_yes d n c f x w g i h).mono λ_ _ ⟨a,b⟩=>⟨⟨_,a,⟨λ_=>h,λ_=>rfl⟩⟩,b⟩
 ·exact(l1Has_no d n c f x w g i (λj k e=>h ⟨j,k,e⟩)).mono λ_ _ ⟨a,b⟩=>⟨⟨_,a,⟨λe=>(by cases e),λe=>absurd e h⟩⟩,b⟩
end Go.Proofs.YtmdnjgihooflfaaGreatDoor
