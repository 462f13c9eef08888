/-
  OWN TEXT: SpecLp, SpecEa, SpecEb, SpecFf, SpecEc, SpecEd, SpecEe.
-/
import Derived.Deep.DeepCutAuto
import Derived.Deep.RegionLawGrows
import Derived.Deep.RegionHeld3
import Derived.Deep.AppendLies
import Derived.Great.Walk
import Derived.Test.YtmdnjgihooflfaaGreatDoorB26
namespace Go.Proofs.YtmdnjgihooflfaaGreatDoor
open Go.RowKit
open Go.Value (int)
open Go.IntKind (i64)
set_option maxHeartbeats 64000000
set_option maxRecDepth 100000
theorem Zy (pe len hei cl:Int)(all:Bool)(be legs:Int)(w:World)(y:In pe 0 20)(t:In legs 0 3) :
  Calls Tryz.prog 169 #[.agg #[int i64 pe,int i64 len,int i64 hei,int i64 cl,.bool all,int i64 be],int i64 legs] w fun e w'=>e=.returned (int i64 (zE ⟨pe,len,hei,cl,all,be⟩ legs))/\Below w.heap.size w w':=by
 obtain⟨V,q⟩:∃ V,V=zE ⟨pe,len,hei,cl,all,be⟩ legs:=⟨_,rfl⟩;rw[← q];obtain⟨b,h⟩:∃ c,c=Ql len hei:=⟨_,rfl⟩;obtain⟨j,f⟩:∃ c,c=Zs cl all be:=⟨_,rfl⟩;have s:Hid (V=zdb pe legs (legs*(40*pe+b+j))):=by show V=_;rw[q,h,f];rfl
 have b1:0<=b/\b<=500:=by rw[h];exact zbV len hei
 have b2:0<=j/\j<=320:=by rw[f];exact zbf cl all be
 have p:=hI h;have o:=hI f;unfold In at y t;have z:IntKind.i64.wrap (40*pe)=40*pe:=by rw[IntKind.wrap_i64];omega
 have A:IntKind.i64.wrap (40*pe+b)=40*pe+b:=by rw[IntKind.wrap_i64];omega
 have B:IntKind.i64.wrap (40*pe+b+j)=40*pe+b+j:=by rw[IntKind.wrap_i64];omega
 obtain⟨M,n⟩:∃ M,M=legs*(40*pe+b+j):=⟨_,rfl⟩;have m:0<=M/\M<=10000:=by
  have h3:legs=0∨legs=1∨legs=2∨legs=3:=by omega
  rw[n]
  rcases h3 with rfl|rfl|rfl|rfl <;> omega
 have C:IntKind.i64.wrap (legs*(40*pe+b+j))=M:=by rw[← n,IntKind.wrap_i64];omega
 have d:Hid (V=zdb pe legs M):=by show V=_;rw[s.out,n]
 have x:=hI t;clear q h f s n;have q1:Int.tdiv M 20=M / 20:=by rw[Int.tdiv_eq_ediv_of_nonneg m.1]
 have q2:Int.tdiv M 10=M / 10:=by rw[Int.tdiv_eq_ediv_of_nonneg m.1]
 have D:IntKind.i64.wrap (M / 20)=M / 20:=by rw[IntKind.wrap_i64];omega
 have E:IntKind.i64.wrap (M - M / 20)=M - M / 20:=by rw[IntKind.wrap_i64];omega
 have F:IntKind.i64.wrap (M / 10)=M / 10:=by rw[IntKind.wrap_i64];omega
 have G:IntKind.i64.wrap (M - M / 10)=M - M / 10:=by rw[IntKind.wrap_i64];omega
 have q3:Int.tdiv (M - M / 20) 10=(M - M / 20) / 10:=by rw[Int.tdiv_eq_ediv_of_nonneg (by omega)]
 have H:IntKind.i64.wrap ((M - M / 20) / 10)=(M - M / 20) / 10:=by rw[IntKind.wrap_i64];omega
 have I:IntKind.i64.wrap (M - M / 20 - (M - M / 20) / 10)=M - M / 20 - (M - M / 20) / 10:=by rw[IntKind.wrap_i64];omega
 go_enter Tryz.func169,Tryz.ntmps169;go_upto_region 1 with fail;have a:Below w.heap.size w (w.alloc (.cells #[int i64 pe,int i64 len,int i64 hei,int i64 cl,.bool all,int i64 be] 45)):=zk bZ _;have i:=heap_alloc_new w (.cells #[int i64 pe,int i64 len,int i64 hei,int i64 cl,.bool all,int i64 be] 45);generalize w.alloc (.cells #[int i64 pe,int i64 len,int i64 hei,int i64 cl,.bool all,int i64 be] 45)=W at a i ⊢;have l:=zM i;have u:∀ g:zn W,g.val.cell? ⟨w.heap.size,0,none⟩=some (int i64 pe):=fun g=>(g.bel.cell l).trans (za i 0 _ rfl)
 have N:∀ g:zn W,g.val.cell? ⟨w.heap.size,1,none⟩=some (int i64 len):=fun g=>(g.bel.cell l).trans (za i 1 _ rfl)
 have O:∀ g:zn W,g.val.cell? ⟨w.heap.size,2,none⟩=some (int i64 hei):=fun g=>(g.bel.cell l).trans (za i 2 _ rfl)
 have P:∀ g:zn W,g.val.cell? ⟨w.heap.size,3,none⟩=some (int i64 cl):=fun g=>(g.bel.cell l).trans (za i 3 _ rfl)
 have Q:∀ g:zn W,g.val.cell? ⟨w.heap.size,4,none⟩=some (.bool all):=fun g=>(g.bel.cell l).trans (za i 4 _ rfl)
 have R:∀ g:zn W,g.val.cell? ⟨w.heap.size,5,none⟩=some (int i64 be):=fun g=>(g.bel.cell l).trans (za i 5 _ rfl)
 refine zh (by kernel_rfl) (by kernel_rfl) ?_
 repeat(first|go_big_quiet_skip|(go_big_quiet_want;go_big_quiet_op;first|go_big_quiet_on|(apply Exists.intro;refine⟨fun g=>?_,?_⟩;(focus(first|(go_at_call 225;refine zf (v:=int i64 b) ((znV _ _ _).mono ?_);rintro e J ⟨rfl,rfl⟩;exact⟨by rw[p.out],bZ⟩)|(go_at_call 226;refine zf (v:=int i64 j) ((zje _ _ _ _).mono ?_);rintro e J ⟨rfl,r⟩;exact⟨by rw[o.out],r⟩)));go_big_quiet_on)))
 refine wpQuiet_nil ?_;rintro _ ⟨g,rfl⟩;have y0:=u g;clear u N O P Q R
 by_cases k1:8<=pe
 ·have K:decide (8<=pe)=true:=decide_eq_true k1
  by_cases k2:legs=3
  ·subst k2
   have k:Hid (V=M - M / 20 - (M - M / 20) / 10):=by show V=_;rw[d.out];unfold zdb;rw[if_pos k1,if_pos rfl]
   clear k1;go_wp2;go_ret;exact⟨by rw[k.out];rfl,ze a g.bel⟩
  ·have L:(legs == 3)=false:=by simpa using k2
   have k:Hid (V=M - M / 20):=by show V=_;rw[d.out];unfold zdb;rw[if_pos k1,if_neg k2]
   clear k1 k2;go_wp2;go_ret;exact⟨by rw[k.out];rfl,ze a g.bel⟩
 ·have K:decide (8<=pe)=false:=decide_eq_false k1
  by_cases k2:legs=3
  ·subst k2
   have k:Hid (V=M - M / 10):=by show V=_;rw[d.out];unfold zdb;rw[if_neg k1,if_pos rfl]
   clear k1;go_wp2;go_ret;exact⟨by rw[k.out];rfl,ze a g.bel⟩
  ·have L:(legs == 3)=false:=by simpa using k2
   have k:Hid (V=M):=by show V=_;rw[d.out];unfold zdb;rw[if_neg k1,if_neg k2]
   clear k1 k2;go_wp2;go_ret;exact⟨by rw[k.out];rfl,ze a g.bel⟩
theorem l7End_4 (g base N R M K l z m:Nat)(I H S d:Option Addr)(u:Int)(y:OpD)(x:Off)(L C A B D E:Nat->Value)(w:World)(hq:w.heap[g]?=some (.cells #[.slice I N M,.slice H N K,.slice S R l] 38 (0,0)))(ho:zF w base (.slice I N M) (.slice H N K) (.slice S R l) N N R x L C A B D E)(b9:x.bkn=R)(b2:base<=w.heap.size)(Z:y.kind=4)(e6:In y.pe 0 20)(g0:y.lgn<=3)(b4:zT w d y.lgn y.lg)(b8:qj d y.lgn z)(b5:0<y.lgn->∀ a,d=some a->a.block<base)(b6:y.name=(m:Int)+1)(hm:m<R)(n:R<=1048576) :
  Calls Tryz.prog 93 #[.pointer (some ⟨g,0,none⟩),int i64 u,.agg #[int i64 y.kind,.string y.own,int i64 y.name,.slice d y.lgn z,int i64 y.pe,int i64 y.len,int i64 y.hei,int i64 y.cl,.bool y.all,int i64 y.be,int i64 y.unt,int i64 y.now]] w fun e w'=>zdm g base N M K I H (fun b=>b=g∨(Value.slice S R l).ownBlock=some b) { x with bk:=zah x.bk m (qx (x.bk m) u y) } 0 y.name ((x.bk m).price) (fun _ v=>v=.slice none 0 0) L C A B D w e w':=by
 rw[Z,b6];have HO:=hI ho;have HQ:=hI hq;have d0:=hI Z;have d3:=hI b9;have f4:=hI b2;have f6:=hI b4;have f9:=hI b8;have f7:=hI b5;obtain⟨gb,rfl,b1,e4⟩:=qh ho.bk.row (by omega)
 obtain⟨cs,b3⟩:=zA ho.bk.row gb rfl;obtain⟨d6,d5,eE,q1,q2,q3⟩:=zp (ho.bk.legs m hm);obtain⟨b,Y⟩:∃ b,b=x.bk m:=⟨_,rfl⟩;have f2:=hI Y;have a2:=hI b3;have P:Hid (∀ V,Below w.heap.size w V->∀ j v,(bkC x.bk E m)[j]?=some v->V.cell? ⟨gb,m*13+j,none⟩=some v):=fun V hV j v hv=>by
  have hj:j<13:=by
   have h:=(List.getElem?_eq_some_iff.1 hv).1;exact h
  have h:=zs ho.bk.row (m*13+j) (by omega) rfl
  rw[zC 13 _ m j hj,List.getD_eq_getElem?_getD,hv] at h;exact(hV.cell (p:=⟨gb,m*13+j,none⟩) e4).trans h
 have f5:Hid (E m=.slice d6 b.lgn d5):=by rw[Y];exact eE
 have i1:(0:Int)<=(m:Int):=by omega
 have i2:(m:Int)<(R:Int):=by omega
 have g1:IntKind.i64.wrap ((m:Int)+1 - 1)=(m:Int):=by rw[IntKind.wrap_i64];omega
 have HM:=hI hm;have f3:=hI b1;clear b3 eE q1 q2 q3 Y b1;clear ho hq Z b9 b2 b4 b8 b5 b6 hm;obtain⟨pr,a0⟩:∃ pr,pr=zE ⟨y.pe,y.len,y.hei,y.cl,y.all,y.be⟩ (y.lgn:Int):=⟨_,rfl⟩;have f8:=hI a0;have c:Below w.heap.size w ((w.alloc (.cells #[int i64 4,.string y.own,int i64 ((m:Int)+1),.slice d y.lgn z,int i64 y.pe,int i64 y.len,int i64 y.hei,int i64 y.cl,.bool y.all,int i64 y.be,int i64 y.unt,int i64 y.now] 47)).alloc (.cells #[int i64 0,int i64 0,int i64 0,.slice none 0 0] 41)):=zk (zk bZ _) _;have t:=zd (heap_alloc_new w (.cells #[int i64 4,.string y.own,int i64 ((m:Int)+1),.slice d y.lgn z,int i64 y.pe,int i64 y.len,int i64 y.hei,int i64 y.cl,.bool y.all,int i64 y.be,int i64 y.unt,int i64 y.now] 47)) (.cells #[int i64 0,int i64 0,int i64 0,.slice none 0 0] 41);have F:=zfT w (.cells #[int i64 4,.string y.own,int i64 ((m:Int)+1),.slice d y.lgn z,int i64 y.pe,int i64 y.len,int i64 y.hei,int i64 y.cl,.bool y.all,int i64 y.be,int i64 y.unt,int i64 y.now] 47) (.cells #[int i64 0,int i64 0,int i64 0,.slice none 0 0] 41);go_enter Tryz.func93,Tryz.ntmps93;go_wp2_with fail;generalize ((w.alloc (.cells #[int i64 4,.string y.own,int i64 ((m:Int)+1),.slice d y.lgn z,int i64 y.pe,int i64 y.len,int i64 y.hei,int i64 y.cl,.bool y.all,int i64 y.be,int i64 y.unt,int i64 y.now] 47)).alloc (.cells #[int i64 0,int i64 0,int i64 0,.slice none 0 0] 41))=W at c t F ⊢;refine(Zy y.pe y.len y.hei y.cl y.all y.be (y.lgn:Int) _ e6 (by unfold In;omega)).mono ?_
 rintro e V ⟨rfl,O⟩;rw[← a0];clear a0;replace c:=ze c O;replace t:=zb t O;replace F:=zb F O;clear O W;have o0:=za t 0 _ rfl;have n2:∀ G:zn V,G.val.cell? ⟨g,2,none⟩=some (.slice (some ⟨gb,0,none⟩) R l):=fun G=>za (zb HQ.out (ze c G.bel)) 2 _ rfl
 have m2:∀ G:zn V,G.val.cell? ⟨w.heap.size,2,none⟩=some (int i64 ((m:Int)+1)):=fun G=>za (zb t G.bel) 2 _ rfl
 go_upto_region 17 with fail;refine zh (by kernel_rfl) (by kernel_rfl) ?_
 repeat(first|go_big_quiet_skip|(go_big_quiet_want;go_big_quiet_op;first|go_big_quiet_on|fail))
 refine wpQuiet_nil ?_;rintro _ ⟨G,rfl⟩;replace c:=ze c G.bel;replace t:=zb t G.bel;replace F:=zb F G.bel;have e7:=zM F;have o2:=za t 2 _ rfl;clear o0 n2 m2;have o0:∀ o,(G.val.alloc o).cell? ⟨w.heap.size,0,none⟩=some (int i64 4):=fun o=>za (zd t o) 0 _ rfl
 go_upto_region 20 with fail;replace c:=zk c (.cells #[int i64 0,int i64 ((m:Int)+1),int i64 0,.slice none 0 0] 41);replace t:=zd t (.cells #[int i64 0,int i64 ((m:Int)+1),int i64 0,.slice none 0 0] 41);replace F:=zd F (.cells #[int i64 0,int i64 ((m:Int)+1),int i64 0,.slice none 0 0] 41);have bT:=heap_alloc_new G.val (.cells #[int i64 0,int i64 ((m:Int)+1),int i64 0,.slice none 0 0] 41);generalize G.val.alloc (.cells #[int i64 0,int i64 ((m:Int)+1),int i64 0,.slice none 0 0] 41)=X at c t F bT ⊢;generalize G.val.heap.size=tb at bT e7 ⊢;clear o0 o2 G V;have U:=zb a2.out c;have e8:=P.out X c 10 _ rfl;have e9:=P.out X c 11 _ rfl;have f0:=P.out X c 12 _ rfl;have d7:=zg U (m*13+10);have d8:=zg U (m*13+11);obtain⟨t0,t1,t2,t3⟩:=ce4 bT;go_upto_region 23 with fail;have Q:Hid (qx (x.bk m) u y={ x.bk m with state:=2,unt:=0 }):=by show _=_;simp[qx,d0.out]
 have q:zx X ((X.setCell ⟨gb,m*13+10,none⟩ (int i64 2)).setCell ⟨gb,m*13+11,none⟩ (int i64 0)) (fun b=>b=gb):=(((zx.refl X (fun b=>b=gb)).set (a:=⟨gb,m*13+10,none⟩) rfl _).set (a:=⟨gb,m*13+11,none⟩) rfl _)
 have s:Hid (((X.setCell ⟨gb,m*13+10,none⟩ (int i64 2)).setCell ⟨gb,m*13+11,none⟩ (int i64 0)).ownsRow base 150 13 (.slice (some ⟨gb,0,none⟩) R l) R (zbg (zah x.bk m (qx (x.bk m) u y)) (atV E m (E m)) R)):=by
  refine qR (zL (zL ((HO.out.below c).bk.row) (m*13+10) (int i64 2)) (m*13+11) (int i64 0)) (fun j _=>zfd 13 (by decide) (k:=m) (C:=bkC x.bk E) (C':=bkC (zah x.bk m (qx (x.bk m) u y)) (atV E m (E m))) (f:=fun i=>if i=m*13+11 then (int i64 0:Value) else if i=m*13+10 then (int i64 2:Value) else zZ 13 (bkC x.bk E) i) (fun r hr=>?_) (fun j hj=>?_) (fun i hi=>?_) j)
  ·have n:=zC 13 (bkC x.bk E) m r hr
   unfold bkC;rw[ZL,qu,Q.out];unfold bkC at n;have b7:r=0∨r=1∨r=2∨r=3∨r=4∨r=5∨r=6∨r=7∨r=8∨r=9∨r=10∨r=11∨r=12:=by omega
   rcases b7 with rfl|rfl|rfl|rfl|rfl|rfl|rfl|rfl|rfl|rfl|rfl|rfl|rfl
   ·rw[if_neg (by omega),if_neg (by omega),n];rfl
   ·rw[if_neg (by omega),if_neg (by omega),n];rfl
   ·rw[if_neg (by omega),if_neg (by omega),n];rfl
   ·rw[if_neg (by omega),if_neg (by omega),n];rfl
   ·rw[if_neg (by omega),if_neg (by omega),n];rfl
   ·rw[if_neg (by omega),if_neg (by omega),n];rfl
   ·rw[if_neg (by omega),if_neg (by omega),n];rfl
   ·rw[if_neg (by omega),if_neg (by omega),n];rfl
   ·rw[if_neg (by omega),if_neg (by omega),n];rfl
   ·rw[if_neg (by omega),if_neg (by omega),n];rfl
   ·rw[if_neg (by omega),if_pos rfl];rfl
   ·rw[if_pos rfl];rfl
   ·rw[if_neg (by omega),if_neg (by omega),n];rfl
  ·rw[if_neg (by omega),if_neg (by omega)]
  ·unfold bkC
   rw[zaf _ _ _ hi,qf _ _ _ _ hi]
 have a6:Hid (zF ((X.setCell ⟨gb,m*13+10,none⟩ (int i64 2)).setCell ⟨gb,m*13+11,none⟩ (int i64 0)) base (.slice I N M) (.slice H N K) (.slice (some ⟨gb,0,none⟩) R l) N N R { x with bk:=zah x.bk m (qx (x.bk m) u y) } L C A B D (atV E m (E m))):=(HO.out.below c).putBk q s.out (by rw[Q.out];exact(HO.out.below c).bk.legs m HM.out) (HO.out.bk.far_same HM.out)
 have e5:g≠gb:=fun e=>by have h:=a2.out;rw[← e,HQ.out] at h;simp at h
 have a7:=hI (q.blk (zb HQ.out c) e5);have J:=q.blk bT (by show ¬ _=_;omega)
 have a8:=q.blk F (by show ¬ _=_;omega)
 have a4:Hid (zx w ((X.setCell ⟨gb,m*13+10,none⟩ (int i64 2)).setCell ⟨gb,m*13+11,none⟩ (int i64 0)) (fun b=>b=g∨(Value.slice (some ⟨gb,0,none⟩) R l).ownBlock=some b)):=(zx.of_below c).trans (q.mono (fun b e=>.inr (by rw[show b=gb from e];rfl)))
 have f1:((X.setCell ⟨gb,m*13+10,none⟩ (int i64 2)).setCell ⟨gb,m*13+11,none⟩ (int i64 0)).cell? ⟨gb,m*13+12,none⟩=some (int i64 (x.bk m).price):=by
  have h:=zs s.out (m*13+12) (by have:=HM.out;omega) rfl
  rw[zC 13 _ m 12 (by decide)] at h
  unfold bkC at h;rw[ZL,Q.out] at h;exact h
 generalize ((X.setCell ⟨gb,m*13+10,none⟩ (int i64 2)).setCell ⟨gb,m*13+11,none⟩ (int i64 0))=Z1 at q s a6 a7 J a8 a4 f1 ⊢;clear q s bT F t U t0 t1 t2 t3 e8 e9 f0 d7 d8;have b0:w.heap.size+1≠tb:=by omega
 obtain⟨d2,d9,d1,T,d4⟩:=zgr a4.out a6.out a7.out a8 J b0 (by omega) (int i64 ((x.bk m).price)) rfl
 obtain⟨a5,a9,a3,bF⟩:=zbC d1 d2 d9 T (by omega) (int i64 0) (int i64 ((m:Int)+1)) (int i64 ((x.bk m).price)) (.slice none 0 0) rfl
 obtain⟨t0,t1,t2,t3⟩:=ce4 d4;have s2:=za J 2 _ rfl;have s3:=zg J 2;obtain⟨v0,v1,v2,v3⟩:=ce4 T;obtain⟨e0,e1,e2,e3⟩:=fe4 T;have a1:Hid _:=a5;have c9:Hid _:=a9;have c0:Hid _:=a3;clear a5 a9 a3;go_wp2;obtain⟨x0,x1,x2,x3⟩:=ce4 bF;refine bodyPost_ret (v:=.agg #[int i64 0,int i64 ((m:Int)+1),int i64 ((x.bk m).price),.slice none 0 0]) (by simp[results,Tryz.results93,go_sem,x0,x1,x2,x3]) rfl ?_
 have n:=d3.out;subst n;exact⟨_,_,_,_,rfl,rfl,a1.out,c9.out,c0.out⟩
theorem l7End_5 (g base N R a6 a5 H J m:Nat)(a3 a0 b4 n:Option Addr)(c:Int)(y:OpD)(x:Off)(L C A B D E:Nat->Value)(w:World)(hq:w.heap[g]?=some (.cells #[.slice a3 N a6,.slice a0 N a5,.slice b4 R H] 38 (0,0)))(ho:zF w base (.slice a3 N a6) (.slice a0 N a5) (.slice b4 R H) N N R x L C A B D E)(g9:x.bkn=R)(f2:base<=w.heap.size)(b8:y.kind=5)(j7:In y.pe 0 20)(m1:y.lgn<=3)(g3:zT w n y.lgn y.lg)(g7:qj n y.lgn J)(g4:0<y.lgn->∀ a,n=some a->a.block<base)(g5:y.name=(m:Int)+1)(hm:m<R)(q:R<=1048576) :
  Calls Tryz.prog 93 #[.pointer (some ⟨g,0,none⟩),int i64 c,.agg #[int i64 y.kind,.string y.own,int i64 y.name,.slice n y.lgn J,int i64 y.pe,int i64 y.len,int i64 y.hei,int i64 y.cl,.bool y.all,int i64 y.be,int i64 y.unt,int i64 y.now]] w fun e w'=>zdm g base N a6 a5 a3 a0 (fun b=>b=g∨(Value.slice b4 R H).ownBlock=some b) { x with bk:=zah x.bk m (qx (x.bk m) c y) } 0 y.name (zE ⟨y.pe,y.len,y.hei,y.cl,y.all,y.be⟩ (y.lgn:Int)) (fun _ v=>v=.slice none 0 0) L C A B D w e w':=by
 obtain⟨n0,ni,k0,k2,l0⟩:=info_parts Tryz.infoInt;rw[b8,g5];have HO:=hI ho;have HQ:=hI hq;have h7:=hI b8;have i8:=hI g9;have h4:=hI f2;have i3:=hI g3;have i7:=hI g7;have i4:=hI g4;obtain⟨gb,rfl,f0,j4⟩:=qh ho.bk.row (by omega)
 obtain⟨cs,g1⟩:=zA ho.bk.row gb rfl;obtain⟨j1,j0,eE,q1,q2,q3⟩:=zp (ho.bk.legs m hm);obtain⟨b,b7⟩:∃ b,b=x.bk m:=⟨_,rfl⟩;have l8:=hI b7;have d1:=hI g1;have h6:Hid (∀ V,Below w.heap.size w V->∀ j v,(bkC x.bk E m)[j]?=some v->V.cell? ⟨gb,m*13+j,none⟩=some v):=fun V hV j v hv=>by
  have hj:j<13:=by
   have h:=(List.getElem?_eq_some_iff.1 hv).1;exact h
  have h:=zs ho.bk.row (m*13+j) (by omega) rfl
  rw[zC 13 _ m j hj,List.getD_eq_getElem?_getD,hv] at h;exact(hV.cell (p:=⟨gb,m*13+j,none⟩) j4).trans h
 have l9:Hid (E m=.slice j1 b.lgn j0):=by rw[b7];exact eE
 have i1:(0:Int)<=(m:Int):=by omega
 have i2:(m:Int)<(R:Int):=by omega
 have m4:IntKind.i64.wrap ((m:Int)+1 - 1)=(m:Int):=by rw[IntKind.wrap_i64];omega
 have HM:=hI hm;have h0:=hI f0;clear g1 eE q1 q2 q3 b7 f0;clear ho hq b8 g9 f2 g3 g7 g4 g5 hm;obtain⟨pr,c0⟩:∃ pr,pr=zE ⟨y.pe,y.len,y.hei,y.cl,y.all,y.be⟩ (y.lgn:Int):=⟨_,rfl⟩;have d8:=hI c0;have d:Below w.heap.size w ((w.alloc (.cells #[int i64 5,.string y.own,int i64 ((m:Int)+1),.slice n y.lgn J,int i64 y.pe,int i64 y.len,int i64 y.hei,int i64 y.cl,.bool y.all,int i64 y.be,int i64 y.unt,int i64 y.now] 47)).alloc (.cells #[int i64 0,int i64 0,int i64 0,.slice none 0 0] 41)):=zk (zk bZ _) _;have O:=zd (heap_alloc_new w (.cells #[int i64 5,.string y.own,int i64 ((m:Int)+1),.slice n y.lgn J,int i64 y.pe,int i64 y.len,int i64 y.hei,int i64 y.cl,.bool y.all,int i64 y.be,int i64 y.unt,int i64 y.now] 47)) (.cells #[int i64 0,int i64 0,int i64 0,.slice none 0 0] 41);have S:=zfT w (.cells #[int i64 5,.string y.own,int i64 ((m:Int)+1),.slice n y.lgn J,int i64 y.pe,int i64 y.len,int i64 y.hei,int i64 y.cl,.bool y.all,int i64 y.be,int i64 y.unt,int i64 y.now] 47) (.cells #[int i64 0,int i64 0,int i64 0,.slice none 0 0] 41);go_enter Tryz.func93,Tryz.ntmps93;go_wp2_with fail;generalize ((w.alloc (.cells #[int i64 5,.string y.own,int i64 ((m:Int)+1),.slice n y.lgn J,int i64 y.pe,int i64 y.len,int i64 y.hei,int i64 y.cl,.bool y.all,int i64 y.be,int i64 y.unt,int i64 y.now] 47)).alloc (.cells #[int i64 0,int i64 0,int i64 0,.slice none 0 0] 41))=W at d O S ⊢;refine(Zy y.pe y.len y.hei y.cl y.all y.be (y.lgn:Int) _ j7 (by unfold In;omega)).mono ?_
 rintro e V ⟨rfl,a7⟩;rw[← c0];clear c0;replace d:=ze d a7;replace O:=zb O a7;replace S:=zb S a7;clear a7 W;have o0:=za O 0 _ rfl;have n2:∀ G:zn V,G.val.cell? ⟨g,2,none⟩=some (.slice (some ⟨gb,0,none⟩) R H):=fun G=>za (zb HQ.out (ze d G.bel)) 2 _ rfl
 have m2:∀ G:zn V,G.val.cell? ⟨w.heap.size,2,none⟩=some (int i64 ((m:Int)+1)):=fun G=>za (zb O G.bel) 2 _ rfl
 go_upto_region 17 with fail;refine zh (by kernel_rfl) (by kernel_rfl) ?_
 repeat(first|go_big_quiet_skip|(go_big_quiet_want;go_big_quiet_op;first|go_big_quiet_on|fail))
 refine wpQuiet_nil ?_;rintro _ ⟨G,rfl⟩;replace d:=ze d G.bel;replace O:=zb O G.bel;replace S:=zb S G.bel;have j8:=zM S;have o2:=za O 2 _ rfl;clear o0 n2 m2;have o0:∀ o,(G.val.alloc o).cell? ⟨w.heap.size,0,none⟩=some (int i64 5):=fun o=>za (zd O o) 0 _ rfl
 go_upto_region 20 with fail;replace d:=zk d (.cells #[int i64 0,int i64 ((m:Int)+1),int i64 0,.slice none 0 0] 41);replace O:=zd O (.cells #[int i64 0,int i64 ((m:Int)+1),int i64 0,.slice none 0 0] 41);replace S:=zd S (.cells #[int i64 0,int i64 ((m:Int)+1),int i64 0,.slice none 0 0] 41);have bT:=heap_alloc_new G.val (.cells #[int i64 0,int i64 ((m:Int)+1),int i64 0,.slice none 0 0] 41);generalize G.val.alloc (.cells #[int i64 0,int i64 ((m:Int)+1),int i64 0,.slice none 0 0] 41)=X at d O S bT ⊢;generalize G.val.heap.size=tb at bT j8 ⊢;clear o0 o2 G V;have e6:=zb d1.out d;have k1:=h6.out X d 1 _ rfl;have f1:=zg e6 (m*13+1);go_upto_region 26 with fail;have s:zx X (X.setCell ⟨gb,m*13+1,none⟩ (int i64 c)) (fun b=>b=gb):=((zx.refl X (fun b=>b=gb)).set (a:=⟨gb,m*13+1,none⟩) rfl _)
 have b0:Hid ((X.setCell ⟨gb,m*13+1,none⟩ (int i64 c)).ownsRow base 150 13 (.slice (some ⟨gb,0,none⟩) R H) R (zbg (zah x.bk m { x.bk m with who:=c }) (atV E m (E m)) R)):=by
  refine qR (zL ((HO.out.below d).bk.row) (m*13+1) (int i64 c)) (fun j _=>zfd 13 (by decide) (k:=m) (C:=bkC x.bk E) (C':=bkC (zah x.bk m { x.bk m with who:=c }) (atV E m (E m))) (f:=fun i=>if i=m*13+1 then (int i64 c:Value) else zZ 13 (bkC x.bk E) i) (fun r hr=>?_) (fun j hj=>?_) (fun i hi=>?_) j)
  ·have q:=zC 13 (bkC x.bk E) m r hr
   unfold bkC;rw[ZL,qu];unfold bkC at q;have Z:r=0∨r=1∨r=2∨r=3∨r=4∨r=5∨r=6∨r=7∨r=8∨r=9∨r=10∨r=11∨r=12:=by omega
   rcases Z with rfl|rfl|rfl|rfl|rfl|rfl|rfl|rfl|rfl|rfl|rfl|rfl|rfl
   ·rw[if_neg (by omega),q];rfl
   ·rw[if_pos (by omega)];rfl
   ·rw[if_neg (by omega),q];rfl
   ·rw[if_neg (by omega),q];rfl
   ·rw[if_neg (by omega),q];rfl
   ·rw[if_neg (by omega),q];rfl
   ·rw[if_neg (by omega),q];rfl
   ·rw[if_neg (by omega),q];rfl
   ·rw[if_neg (by omega),q];rfl
   ·rw[if_neg (by omega),q];rfl
   ·rw[if_neg (by omega),q];rfl
   ·rw[if_neg (by omega),q];rfl
   ·rw[if_neg (by omega),q];rfl
  ·rw[if_neg (by omega)]
  ·unfold bkC
   rw[zaf _ _ _ hi,qf _ _ _ _ hi]
 have P:Hid _:=(HO.out.below d).putBk s b0.out ((HO.out.below d).bk.legs m HM.out) (HO.out.bk.far_same HM.out);have g2:g≠gb:=fun e=>by have h:=d1.out;rw[← e,HQ.out] at h;simp at h
 have j6:w.heap.size<=X.heap.size:=d.size;have qQ:=s.blk (zb HQ.out d) g2;have e7:=s.blk bT (by show ¬ _=_;omega)
 have e5:=s.blk S (by show ¬ _=_;omega)
 have b6:=s.blk O (by show ¬ _=_;omega)
 have d4:Hid (zx w (X.setCell ⟨gb,m*13+1,none⟩ (int i64 c)) (fun b=>b=g∨(Value.slice (some ⟨gb,0,none⟩) R H).ownBlock=some b)):=(zx.of_below d).trans (s.mono (fun b e=>.inr (by rw[show b=gb from e];rfl)))
 have j5:∀ z,Below X.heap.size X z->True:=fun _ _=>trivial
 have d5:=hI (ints_off s (i3.out.below d) i4.out h0.out);have g6:X.heap.size<=(X.setCell ⟨gb,m*13+1,none⟩ (int i64 c)).heap.size:=s.size;generalize (X.setCell ⟨gb,m*13+1,none⟩ (int i64 c))=Y at s b0 P qQ e7 e5 b6 d4 d5 g6 ⊢;clear bT S O k1 f1 e6 b0 s j5;have l1:∀ o,(Y.alloc o).cell? ⟨w.heap.size,3,none⟩=some (.slice n y.lgn J):=fun o=>za (zd b6 o) 3 _ rfl
 have b9:(Y.alloc (.cells #[] 3)).ownsRow Y.heap.size 3 1 (.slice (some ⟨Y.heap.size,0,none⟩) 0 0) 0 []:=⟨rfl,.inr ⟨Y.heap.size,0,#[],rfl,Nat.le_refl _,heap_alloc_new Y _,Nat.le_refl _,Nat.zero_le _,rfl,rfl⟩⟩;have h5:Hid (∀ ad,n=some ad->∀ j u,(zS y.lg y.lgn)[j]?=some u->(Y.alloc (.cells #[] 3)).cell? (ad.add j)=some u):=QY (d5.out.below (zk bZ _));obtain⟨m0,a9⟩:=zA P.out.bk.row gb rfl;have I:Hid (∀ V,Below Y.heap.size Y V->∀ j v,(bkC (zah x.bk m { x.bk m with who:=c }) (atV E m (E m)) m)[j]?=some v->V.cell? ⟨gb,m*13+j,none⟩=some v):=fun V hV j v hv=>by
  have hj:j<13:=by
   have h:=(List.getElem?_eq_some_iff.1 hv).1;exact h
  have h:=zs P.out.bk.row (m*13+j) (by have:=HM.out;omega) rfl
  rw[zC 13 _ m j hj,List.getD_eq_getElem?_getD,hv] at h;exact(hV.cell (p:=⟨gb,m*13+j,none⟩) (zM a9)).trans h
 have Q:w.heap.size≠gb:=by omega
 go_upto_region 29 with(first|(at_builtin;refine zv _ (by rfl) (.tmp 115) (.tmp 117) 27 (by rfl) Y.heap.size 3 n0 (int i64 0) 1 8 Tryz.underlying27 ni k0 k2 l0 rfl (by decide) _ 0 [] (by rfl) b9 n y.lgn J (zS y.lg y.lgn) (by rfl) i7.out.2.2 (by rw[Zn,Nat.mul_one]) h5.out (Qd _ _) (by unfold maxLen;omega) (by omega) (by simp) ?_;intro v4 t U g0;obtain⟨av,cv,g8,_⟩:=zp U;rw[Nat.zero_add] at g8;subst g8;have l:=(zk (Below.refl Y.heap.size Y) (.cells #[] 3)).grown g0 (by simp) (fun j hj=>(b9.lt j hj).1);have K:=zb b6 l;have F:=zb a9 l;have k3:=I.out t l 3 _ rfl;have f3:=zg F (m*13+3);have k4:=I.out t l 4 _ rfl;have f4:=zg F (m*13+4);have k5:=I.out t l 5 _ rfl;have f5:=zg F (m*13+5);have k6:=I.out t l 6 _ rfl;have f6:=zg F (m*13+6);have k7:=I.out t l 7 _ rfl;have f7:=zg F (m*13+7);have k8:=I.out t l 8 _ rfl;have f8:=zg F (m*13+8);have k9:=I.out t l 9 _ rfl;have f9:=zg F (m*13+9);have j9:=I.out t l 12 _ rfl;have j2:=zg F (m*13+12);have l2:∀ v,(t.setCell ⟨gb,m*13+3,none⟩ v).cell? ⟨w.heap.size,4,none⟩=some (int i64 y.pe):=fun v=>za (zD (b':=gb) K (m*13+3) v Q) 4 _ rfl;have l3:∀ v,(t.setCell ⟨gb,m*13+3,none⟩ v).cell? ⟨w.heap.size,5,none⟩=some (int i64 y.len):=fun v=>za (zD (b':=gb) K (m*13+3) v Q) 5 _ rfl;have l4:∀ v,(t.setCell ⟨gb,m*13+3,none⟩ v).cell? ⟨w.heap.size,6,none⟩=some (int i64 y.hei):=fun v=>za (zD (b':=gb) K (m*13+3) v Q) 6 _ rfl;have l5:∀ v,(t.setCell ⟨gb,m*13+3,none⟩ v).cell? ⟨w.heap.size,7,none⟩=some (int i64 y.cl):=fun v=>za (zD (b':=gb) K (m*13+3) v Q) 7 _ rfl;have l6:∀ v,(t.setCell ⟨gb,m*13+3,none⟩ v).cell? ⟨w.heap.size,8,none⟩=some (.bool y.all):=fun v=>za (zD (b':=gb) K (m*13+3) v Q) 8 _ rfl;have l7:∀ v,(t.setCell ⟨gb,m*13+3,none⟩ v).cell? ⟨w.heap.size,9,none⟩=some (int i64 y.be):=fun v=>za (zD (b':=gb) K (m*13+3) v Q) 9 _ rfl))
 have d6:Hid (qx (x.bk m) c y={ x.bk m with who:=c,lgn:=y.lgn,lg:=y.lg,pe:=y.pe,len:=y.len,hei:=y.hei,cl:=y.cl,all:=y.all,be:=y.be,price:=zE ⟨y.pe,y.len,y.hei,y.cl,y.all,y.be⟩ y.lgn }):=by show _=_;simp[qx,h7.out]
 have M:zx t ((((((((t.setCell ⟨gb,m*13+3,none⟩ (.slice av y.lgn cv)).setCell ⟨gb,m*13+4,none⟩ (int i64 y.pe)).setCell ⟨gb,m*13+4+1,none⟩ (int i64 y.len)).setCell ⟨gb,m*13+4+2,none⟩ (int i64 y.hei)).setCell ⟨gb,m*13+4+3,none⟩ (int i64 y.cl)).setCell ⟨gb,m*13+4+4,none⟩ (.bool y.all)).setCell ⟨gb,m*13+4+5,none⟩ (int i64 y.be)).setCell ⟨gb,m*13+12,none⟩ (int i64 pr)) (fun b=>b=gb):=(((((((((zx.refl t (fun b=>b=gb)).set (a:=⟨gb,m*13+3,none⟩) rfl _).set (a:=⟨gb,m*13+4,none⟩) rfl _).set (a:=⟨gb,m*13+4+1,none⟩) rfl _).set (a:=⟨gb,m*13+4+2,none⟩) rfl _).set (a:=⟨gb,m*13+4+3,none⟩) rfl _).set (a:=⟨gb,m*13+4+4,none⟩) rfl _).set (a:=⟨gb,m*13+4+5,none⟩) rfl _).set (a:=⟨gb,m*13+12,none⟩) rfl _)
 have b1:Hid (((((((((t.setCell ⟨gb,m*13+3,none⟩ (.slice av y.lgn cv)).setCell ⟨gb,m*13+4,none⟩ (int i64 y.pe)).setCell ⟨gb,m*13+4+1,none⟩ (int i64 y.len)).setCell ⟨gb,m*13+4+2,none⟩ (int i64 y.hei)).setCell ⟨gb,m*13+4+3,none⟩ (int i64 y.cl)).setCell ⟨gb,m*13+4+4,none⟩ (.bool y.all)).setCell ⟨gb,m*13+4+5,none⟩ (int i64 y.be)).setCell ⟨gb,m*13+12,none⟩ (int i64 pr)).ownsRow base 150 13 (.slice (some ⟨gb,0,none⟩) R H) R (zbg (zah (zah x.bk m { x.bk m with who:=c }) m (qx (x.bk m) c y)) (atV (atV E m (E m)) m (.slice av y.lgn cv)) R)):=by
  refine qR (zL (zL (zL (zL (zL (zL (zL (zL ((P.out.below l).bk.row) (m*13+3) (.slice av y.lgn cv)) (m*13+4) (int i64 y.pe)) (m*13+4+1) (int i64 y.len)) (m*13+4+2) (int i64 y.hei)) (m*13+4+3) (int i64 y.cl)) (m*13+4+4) (.bool y.all)) (m*13+4+5) (int i64 y.be)) (m*13+12) (int i64 pr)) (fun j _=>zfd 13 (by decide) (k:=m) (C:=bkC (zah x.bk m { x.bk m with who:=c }) (atV E m (E m))) (C':=bkC (zah (zah x.bk m { x.bk m with who:=c }) m (qx (x.bk m) c y)) (atV (atV E m (E m)) m (.slice av y.lgn cv))) (f:=fun i=>if i=m*13+12 then (int i64 pr:Value) else if i=m*13+4+5 then (int i64 y.be:Value) else if i=m*13+4+4 then (.bool y.all:Value) else if i=m*13+4+3 then (int i64 y.cl:Value) else if i=m*13+4+2 then (int i64 y.hei:Value) else if i=m*13+4+1 then (int i64 y.len:Value) else if i=m*13+4 then (int i64 y.pe:Value) else if i=m*13+3 then (.slice av y.lgn cv:Value) else zZ 13 (bkC (zah x.bk m { x.bk m with who:=c }) (atV E m (E m))) i) (fun r hr=>?_) (fun j hj=>?_) (fun i hi=>?_) j)
  ·have q:=zC 13 (bkC (zah x.bk m { x.bk m with who:=c }) (atV E m (E m))) m r hr
   unfold bkC;rw[ZL,qu,d6.out];unfold bkC at q;have Z:r=0∨r=1∨r=2∨r=3∨r=4∨r=5∨r=6∨r=7∨r=8∨r=9∨r=10∨r=11∨r=12:=by omega
   rcases Z with rfl|rfl|rfl|rfl|rfl|rfl|rfl|rfl|rfl|rfl|rfl|rfl|rfl
   ·rw[if_neg (by omega),if_neg (by omega),if_neg (by omega),if_neg (by omega),if_neg (by omega),if_neg (by omega),if_neg (by omega),if_neg (by omega),q,ZL];rfl
   ·rw[if_neg (by omega),if_neg (by omega),if_neg (by omega),if_neg (by omega),if_neg (by omega),if_neg (by omega),if_neg (by omega),if_neg (by omega),q,ZL];rfl
   ·rw[if_neg (by omega),if_neg (by omega),if_neg (by omega),if_neg (by omega),if_neg (by omega),if_neg (by omega),if_neg (by omega),if_neg (by omega),q,ZL];rfl
   ·rw[if_neg (by omega),if_neg (by omega),if_neg (by omega),if_neg (by omega),if_neg (by omega),if_neg (by omega),if_neg (by omega),if_pos (by omega)];rfl
   ·rw[if_neg (by omega),if_neg (by omega),if_neg (by omega),if_neg (by omega),if_neg (by omega),if_neg (by omega),if_pos (by omega)];rfl
   ·rw[if_neg (by omega),if_neg (by omega),if_neg (by omega),if_neg (by omega),if_neg (by omega),if_pos (by omega)];rfl
   ·rw[if_neg (by omega),if_neg (by omega),if_neg (by omega),if_neg (by omega),if_pos (by omega)];rfl
   ·rw[if_neg (by omega),if_neg (by omega),if_neg (by omega),if_pos (by omega)];rfl
   ·rw[if_neg (by omega),if_neg (by omega),if_pos (by omega)];rfl
   ·rw[if_neg (by omega),if_pos (by omega)];rfl
   ·rw[if_neg (by omega),if_neg (by omega),if_neg (by omega),if_neg (by omega),if_neg (by omega),if_neg (by omega),if_neg (by omega),if_neg (by omega),q,ZL];rfl
   ·rw[if_neg (by omega),if_neg (by omega),if_neg (by omega),if_neg (by omega),if_neg (by omega),if_neg (by omega),if_neg (by omega),if_neg (by omega),q,ZL];rfl
   ·rw[if_pos (by omega),d8.out];rfl
  ·rw[if_neg (by omega),if_neg (by omega),if_neg (by omega),if_neg (by omega),if_neg (by omega),if_neg (by omega),if_neg (by omega),if_neg (by omega)]
  ·unfold bkC
   rw[zaf _ _ _ hi,qf _ _ _ _ hi]
 have b2:Hid _:=(P.out.below l).putBk M b1.out (by rw[d6.out];refine zu ?_ (Nat.le_trans h4.out (Nat.le_trans j6 g6));rw[Nat.zero_add,List.nil_append] at U;exact U) (fun i hi m3 b h1 h2=>by have a1:=((P.out.bk.legs i hi).lt b h1).2;have a2:=(U.lt b h2).1;omega)
 have b3:Hid (zF ((((((((t.setCell ⟨gb,m*13+3,none⟩ (.slice av y.lgn cv)).setCell ⟨gb,m*13+4,none⟩ (int i64 y.pe)).setCell ⟨gb,m*13+4+1,none⟩ (int i64 y.len)).setCell ⟨gb,m*13+4+2,none⟩ (int i64 y.hei)).setCell ⟨gb,m*13+4+3,none⟩ (int i64 y.cl)).setCell ⟨gb,m*13+4+4,none⟩ (.bool y.all)).setCell ⟨gb,m*13+4+5,none⟩ (int i64 y.be)).setCell ⟨gb,m*13+12,none⟩ (int i64 pr)) base (.slice a3 N a6) (.slice a0 N a5) (.slice (some ⟨gb,0,none⟩) R H) N N R { x with bk:=zah x.bk m (qx (x.bk m) c y) } L C A B D (atV (atV E m (E m)) m (.slice av y.lgn cv))):=by have h:=b2.out;rw[setB_setB] at h;exact h
 have d9:=M.blk (zb qQ l) g2;have a4:=M.blk (zb e7 l) (by show ¬ _=_;omega)
 have e4:=M.blk (zb e5 l) (by show ¬ _=_;omega)
 have d3:=(d4.out.trans (zx.of_below l)).trans (M.mono (T:=(fun b=>b=g∨(Value.slice (some ⟨gb,0,none⟩) R H).ownBlock=some b)) (fun b e=>.inr (by rw[show b=gb from e];rfl)))
 generalize ((((((((t.setCell ⟨gb,m*13+3,none⟩ (.slice av y.lgn cv)).setCell ⟨gb,m*13+4,none⟩ (int i64 y.pe)).setCell ⟨gb,m*13+4+1,none⟩ (int i64 y.len)).setCell ⟨gb,m*13+4+2,none⟩ (int i64 y.hei)).setCell ⟨gb,m*13+4+3,none⟩ (int i64 y.cl)).setCell ⟨gb,m*13+4+4,none⟩ (.bool y.all)).setCell ⟨gb,m*13+4+5,none⟩ (int i64 y.be)).setCell ⟨gb,m*13+12,none⟩ (int i64 pr))=Z1 at b3 d9 a4 e4 d3 M b1 b2 ⊢;have i6:Hid _:=b3;clear M b1 b2 b3;clear k3 f3;clear k4 f4;clear k5 f5;clear k6 f6;clear k7 f7;clear k8 f8;clear k9 f9;clear j9 j2;clear l1 l2 l3 l4 l5 l6 l7 b9 U g0 K F l;have e9:w.heap.size+1≠tb:=by omega
 obtain⟨i5,j3,i0,b5,i9⟩:=zgr d3 i6.out d9 e4 a4 e9 (by omega) (int i64 (pr)) rfl
 obtain⟨d7,e8,d2,bF⟩:=zbC i0 i5 j3 b5 (by omega) (int i64 0) (int i64 ((m:Int)+1)) (int i64 (pr)) (.slice none 0 0) rfl
 obtain⟨t0,t1,t2,t3⟩:=ce4 i9;have s2:=za a4 2 _ rfl;have s3:=zg a4 2;obtain⟨v0,v1,v2,v3⟩:=ce4 b5;obtain⟨e0,e1,e2,e3⟩:=fe4 b5;have a8:Hid _:=d7;have d0:Hid _:=e8;have c9:Hid _:=d2;clear d7 e8 d2;go_wp2;obtain⟨x0,x1,x2,x3⟩:=ce4 bF;refine bodyPost_ret (v:=.agg #[int i64 0,int i64 ((m:Int)+1),int i64 (pr),.slice none 0 0]) (by simp[results,Tryz.results93,go_sem,x0,x1,x2,x3]) rfl ?_
 have q:=i8.out;subst q;rw[d8.out] at a8 d0 c9 ⊢;exact⟨_,_,_,_,rfl,rfl,a8.out,d0.out,c9.out⟩
theorem zjf (x y:Int)(w:World) :
  Calls Tryz.prog 171 #[int i64 x,int i64 y] w fun e w'=>e=.returned (int i64 (Z6 x y))/\w'=w:=by
 obtain⟨V,d⟩:∃ V,V=Z6 x y:=⟨_,rfl⟩;rw[← d];have b:=hI d;clear d
 by_cases h1:In x 0 1000000
 ·have f:decide (In x 0 1000000)=true:=decide_eq_true h1
  by_cases h2:In y (-10000) 10000
  ·have g:decide (In y (-10000) 10000)=true:=decide_eq_true h2
   have k:0<=x:=h1.1;have l:x<=1000000:=h1.2;have c:Hid (In x 0 1000000/\In y (-10000) 10000):=⟨h1,h2⟩;clear h1 h2
   by_cases h3:100<=y
   ·have i:decide (100<=y)=true:=decide_eq_true h3
    have a:Hid (V=x):=by show V=x;rw[b.out];unfold Z6;rw[if_pos c.out,if_pos h3]
    rw[a.out];clear h3;go_enter Tryz.func171,Tryz.ntmps171;go_wp2_with (first|(go_at_call 148;refine sC (zt _ _ _ _) ?_))
    go_ret;exact⟨rfl,rfl⟩
   ·have i:decide (100<=y)=false:=decide_eq_false h3
    by_cases h4:20<=y
    ·have j:decide (20<=y)=true:=decide_eq_true h4
     have a:Hid (V=x / 2):=by show V=x / 2;rw[b.out];unfold Z6;rw[if_pos c.out,if_neg h3,if_pos h4]
     have hq:Int.tdiv x 2=x / 2:=by rw[Int.tdiv_eq_ediv_of_nonneg k]
     have m:IntKind.i64.wrap (x / 2)=x / 2:=by rw[IntKind.wrap_i64];omega
     rw[a.out];clear h3 h4;go_enter Tryz.func171,Tryz.ntmps171;go_wp2_with (first|(go_at_call 148;refine sC (zt _ _ _ _) ?_))
     go_ret;exact⟨rfl,rfl⟩
    ·have j:decide (20<=y)=false:=decide_eq_false h4
     have a:Hid (V=0):=by show V=0;rw[b.out];unfold Z6;rw[if_pos c.out,if_neg h3,if_neg h4]
     rw[a.out];clear h3 h4;go_enter Tryz.func171,Tryz.ntmps171;go_wp2_with (first|(go_at_call 148;refine sC (zt _ _ _ _) ?_))
     go_ret;exact⟨rfl,rfl⟩
  ·have g:decide (In y (-10000) 10000)=false:=decide_eq_false h2
   have a:Hid (V=0):=by rw[b.out];exact if_neg (fun h=>h2 h.2)
   rw[a.out];clear h1 h2;go_enter Tryz.func171,Tryz.ntmps171;go_wp2_with (first|(go_at_call 148;refine sC (zt _ _ _ _) ?_))
   go_ret;exact⟨rfl,rfl⟩
 ·have f:decide (In x 0 1000000)=false:=decide_eq_false h1
  have a:Hid (V=0):=by rw[b.out];exact if_neg (fun h=>h1 h.1)
  rw[a.out];clear h1;go_enter Tryz.func171,Tryz.ntmps171;go_wp2_with (first|(go_at_call 148;refine sC (zt _ _ _ _) ?_))
  go_ret;exact⟨rfl,rfl⟩
theorem l7End_6 (g base N R s a8 u O m:Nat)(a0 Z b3 q:Option Addr)(M:Int)(y:OpD)(x:Off)(L C A B D E:Nat->Value)(w:World)(hq:w.heap[g]?=some (.cells #[.slice a0 N s,.slice Z N a8,.slice b3 R u] 38 (0,0)))(ho:zF w base (.slice a0 N s) (.slice Z N a8) (.slice b3 R u) N N R x L C A B D E)(f6:x.bkn=R)(e4:base<=w.heap.size)(b8:y.kind=6)(h7:In y.pe 0 20)(j8:y.lgn<=3)(f1:zT w q y.lgn y.lg)(f5:qj q y.lgn O)(f2:0<y.lgn->∀ a,q=some a->a.block<base)(f3:y.name=(m:Int)+1)(hm:m<R)(F:R<=1048576)(d:Nat)(f0:0<(x.bk m).lgn)(e8:zW x.sa ((x.bk m).lg 0) N=d)(e9:d<N)(e6:-1000000000<=(x.sa d).dep - y.now/\(x.sa d).dep - y.now<=1000000000)(hN:N<=1048576) :
  Calls Tryz.prog 93 #[.pointer (some ⟨g,0,none⟩),int i64 M,.agg #[int i64 y.kind,.string y.own,int i64 y.name,.slice q y.lgn O,int i64 y.pe,int i64 y.len,int i64 y.hei,int i64 y.cl,.bool y.all,int i64 y.be,int i64 y.unt,int i64 y.now]] w fun e w'=>zdm g base N s a8 a0 Z (fun b=>b=g∨(Value.slice b3 R u).ownBlock=some b) { x with bk:=zah x.bk m (qx (x.bk m) M y) } 0 y.name (Z6 (x.bk m).price ((x.sa d).dep - y.now)) (fun _ v=>v=.slice none 0 0) L C A B D w e w':=by
 rw[b8,f3];have HO:=hI ho;have HQ:=hI hq;have g4:=hI b8;have g8:=hI f6;have j1:=hI e4;have j2:=hI f1;have j5:=hI f5;have j3:=hI f2;obtain⟨gb,rfl,d9,b6⟩:=qh ho.bk.row (by omega)
 obtain⟨cs,e7⟩:=zA ho.bk.row gb rfl;obtain⟨d5,K,eE,q1,q2,q3⟩:=zp (ho.bk.legs m hm);obtain⟨b,b7⟩:∃ b,b=x.bk m:=⟨_,rfl⟩;have g0:=hI b7;have c9:=hI e7;have b1:Hid (∀ V,Below w.heap.size w V->∀ j v,(bkC x.bk E m)[j]?=some v->V.cell? ⟨gb,m*13+j,none⟩=some v):=fun V hV j v hv=>by
  have hj:j<13:=by
   have h:=(List.getElem?_eq_some_iff.1 hv).1;exact h
  have h:=zs ho.bk.row (m*13+j) (by omega) rfl
  rw[zC 13 _ m j hj,List.getD_eq_getElem?_getD,hv] at h;exact(hV.cell (p:=⟨gb,m*13+j,none⟩) b6).trans h
 have g2:Hid (E m=.slice d5 b.lgn K):=by rw[b7];exact eE
 have i1:(0:Int)<=(m:Int):=by omega
 have i2:(m:Int)<(R:Int):=by omega
 have k1:IntKind.i64.wrap ((m:Int)+1 - 1)=(m:Int):=by rw[IntKind.wrap_i64];omega
 have HM:=hI hm;have j0:=hI d9;clear e7 eE q1 q2 q3 b7 d9;have T:=hI f0;have U:=hI e9;have f7:=hI e6;have f8:=hI hN;have f9:=hI e8;clear f0 e8 e9 e6 hN;clear ho hq b8 f6 e4 f1 f5 f2 f3 hm;obtain⟨pr,b9⟩:∃ pr,pr=zE ⟨y.pe,y.len,y.hei,y.cl,y.all,y.be⟩ (y.lgn:Int):=⟨_,rfl⟩;have j4:=hI b9;have c:Below w.heap.size w ((w.alloc (.cells #[int i64 6,.string y.own,int i64 ((m:Int)+1),.slice q y.lgn O,int i64 y.pe,int i64 y.len,int i64 y.hei,int i64 y.cl,.bool y.all,int i64 y.be,int i64 y.unt,int i64 y.now] 47)).alloc (.cells #[int i64 0,int i64 0,int i64 0,.slice none 0 0] 41)):=zk (zk bZ _) _;have I:=zd (heap_alloc_new w (.cells #[int i64 6,.string y.own,int i64 ((m:Int)+1),.slice q y.lgn O,int i64 y.pe,int i64 y.len,int i64 y.hei,int i64 y.cl,.bool y.all,int i64 y.be,int i64 y.unt,int i64 y.now] 47)) (.cells #[int i64 0,int i64 0,int i64 0,.slice none 0 0] 41);have Q:=zfT w (.cells #[int i64 6,.string y.own,int i64 ((m:Int)+1),.slice q y.lgn O,int i64 y.pe,int i64 y.len,int i64 y.hei,int i64 y.cl,.bool y.all,int i64 y.be,int i64 y.unt,int i64 y.now] 47) (.cells #[int i64 0,int i64 0,int i64 0,.slice none 0 0] 41);go_enter Tryz.func93,Tryz.ntmps93;go_wp2_with fail;generalize ((w.alloc (.cells #[int i64 6,.string y.own,int i64 ((m:Int)+1),.slice q y.lgn O,int i64 y.pe,int i64 y.len,int i64 y.hei,int i64 y.cl,.bool y.all,int i64 y.be,int i64 y.unt,int i64 y.now] 47)).alloc (.cells #[int i64 0,int i64 0,int i64 0,.slice none 0 0] 41))=W at c I Q ⊢;refine(Zy y.pe y.len y.hei y.cl y.all y.be (y.lgn:Int) _ h7 (by unfold In;omega)).mono ?_
 rintro e V ⟨rfl,a9⟩;rw[← b9];clear b9;replace c:=ze c a9;replace I:=zb I a9;replace Q:=zb Q a9;clear a9 W;have o0:=za I 0 _ rfl;have n2:∀ G:zn V,G.val.cell? ⟨g,2,none⟩=some (.slice (some ⟨gb,0,none⟩) R u):=fun G=>za (zb HQ.out (ze c G.bel)) 2 _ rfl
 have m2:∀ G:zn V,G.val.cell? ⟨w.heap.size,2,none⟩=some (int i64 ((m:Int)+1)):=fun G=>za (zb I G.bel) 2 _ rfl
 go_upto_region 17 with fail;refine zh (by kernel_rfl) (by kernel_rfl) ?_
 repeat(first|go_big_quiet_skip|(go_big_quiet_want;go_big_quiet_op;first|go_big_quiet_on|fail))
 refine wpQuiet_nil ?_;rintro _ ⟨G,rfl⟩;replace c:=ze c G.bel;replace I:=zb I G.bel;replace Q:=zb Q G.bel;have i0:=zM Q;have o2:=za I 2 _ rfl;clear o0 n2 m2;have o0:∀ o,(G.val.alloc o).cell? ⟨w.heap.size,0,none⟩=some (int i64 6):=fun o=>za (zd I o) 0 _ rfl
 go_upto_region 20 with fail;replace c:=zk c (.cells #[int i64 0,int i64 ((m:Int)+1),int i64 0,.slice none 0 0] 41);replace I:=zd I (.cells #[int i64 0,int i64 ((m:Int)+1),int i64 0,.slice none 0 0] 41);replace Q:=zd Q (.cells #[int i64 0,int i64 ((m:Int)+1),int i64 0,.slice none 0 0] 41);have bT:=heap_alloc_new G.val (.cells #[int i64 0,int i64 ((m:Int)+1),int i64 0,.slice none 0 0] 41);generalize G.val.alloc (.cells #[int i64 0,int i64 ((m:Int)+1),int i64 0,.slice none 0 0] 41)=X at c I Q bT ⊢;generalize G.val.heap.size=tb at bT i0 ⊢;clear o0 o2 G V;have b5:=zb c9.out c;have i7:=b1.out X c 10 _ rfl;have i8:=b1.out X c 11 _ rfl;have i9:=b1.out X c 12 _ rfl;have h0:=zg b5 (m*13+10);have h4:=zg b5 (m*13+11);obtain⟨t0,t1,t2,t3⟩:=ce4 bT;go_upto_region 33 with fail;have Y:Hid (qx (x.bk m) M y={ x.bk m with state:=3,unt:=0 }):=by show _=_;simp[qx,g4.out]
 have t:zx X ((X.setCell ⟨gb,m*13+10,none⟩ (int i64 3)).setCell ⟨gb,m*13+11,none⟩ (int i64 0)) (fun b=>b=gb):=(((zx.refl X (fun b=>b=gb)).set (a:=⟨gb,m*13+10,none⟩) rfl _).set (a:=⟨gb,m*13+11,none⟩) rfl _)
 have H:Hid (((X.setCell ⟨gb,m*13+10,none⟩ (int i64 3)).setCell ⟨gb,m*13+11,none⟩ (int i64 0)).ownsRow base 150 13 (.slice (some ⟨gb,0,none⟩) R u) R (zbg (zah x.bk m (qx (x.bk m) M y)) (atV E m (E m)) R)):=by
  refine qR (zL (zL ((HO.out.below c).bk.row) (m*13+10) (int i64 3)) (m*13+11) (int i64 0)) (fun j _=>zfd 13 (by decide) (k:=m) (C:=bkC x.bk E) (C':=bkC (zah x.bk m (qx (x.bk m) M y)) (atV E m (E m))) (f:=fun i=>if i=m*13+11 then (int i64 0:Value) else if i=m*13+10 then (int i64 3:Value) else zZ 13 (bkC x.bk E) i) (fun r hr=>?_) (fun j hj=>?_) (fun i hi=>?_) j)
  ·have F:=zC 13 (bkC x.bk E) m r hr
   unfold bkC;rw[ZL,qu,Y.out];unfold bkC at F;have f4:r=0∨r=1∨r=2∨r=3∨r=4∨r=5∨r=6∨r=7∨r=8∨r=9∨r=10∨r=11∨r=12:=by omega
   rcases f4 with rfl|rfl|rfl|rfl|rfl|rfl|rfl|rfl|rfl|rfl|rfl|rfl|rfl
   ·rw[if_neg (by omega),if_neg (by omega),F];rfl
   ·rw[if_neg (by omega),if_neg (by omega),F];rfl
   ·rw[if_neg (by omega),if_neg (by omega),F];rfl
   ·rw[if_neg (by omega),if_neg (by omega),F];rfl
   ·rw[if_neg (by omega),if_neg (by omega),F];rfl
   ·rw[if_neg (by omega),if_neg (by omega),F];rfl
   ·rw[if_neg (by omega),if_neg (by omega),F];rfl
   ·rw[if_neg (by omega),if_neg (by omega),F];rfl
   ·rw[if_neg (by omega),if_neg (by omega),F];rfl
   ·rw[if_neg (by omega),if_neg (by omega),F];rfl
   ·rw[if_neg (by omega),if_pos rfl];rfl
   ·rw[if_pos rfl];rfl
   ·rw[if_neg (by omega),if_neg (by omega),F];rfl
  ·rw[if_neg (by omega),if_neg (by omega)]
  ·unfold bkC
   rw[zaf _ _ _ hi,qf _ _ _ _ hi]
 have J:Hid (zF ((X.setCell ⟨gb,m*13+10,none⟩ (int i64 3)).setCell ⟨gb,m*13+11,none⟩ (int i64 0)) base (.slice a0 N s) (.slice Z N a8) (.slice (some ⟨gb,0,none⟩) R u) N N R { x with bk:=zah x.bk m (qx (x.bk m) M y) } L C A B D (atV E m (E m))):=(HO.out.below c).putBk t H.out (by rw[Y.out];exact(HO.out.below c).bk.legs m HM.out) (HO.out.bk.far_same HM.out)
 have h6:g≠gb:=fun e=>by have h:=c9.out;rw[← e,HQ.out] at h;simp at h
 have b2:=hI (t.blk (zb HQ.out c) h6);have a7:=t.blk bT (by show ¬ _=_;omega)
 have d3:=t.blk Q (by show ¬ _=_;omega)
 have d4:=t.blk I (by show ¬ _=_;omega)
 have d1:Hid (zx w ((X.setCell ⟨gb,m*13+10,none⟩ (int i64 3)).setCell ⟨gb,m*13+11,none⟩ (int i64 0)) (fun b=>b=g∨(Value.slice (some ⟨gb,0,none⟩) R u).ownBlock=some b)):=(zx.of_below c).trans (t.mono (fun b e=>.inr (by rw[show b=gb from e];rfl)))
 have b0:((X.setCell ⟨gb,m*13+10,none⟩ (int i64 3)).setCell ⟨gb,m*13+11,none⟩ (int i64 0)).cell? ⟨gb,m*13+12,none⟩=some (int i64 (x.bk m).price):=by
  have h:=zs H.out (m*13+12) (by have:=HM.out;omega) rfl
  rw[zC 13 _ m 12 (by decide)] at h
  unfold bkC at h;rw[ZL,Y.out] at h;exact h
 generalize ((X.setCell ⟨gb,m*13+10,none⟩ (int i64 3)).setCell ⟨gb,m*13+11,none⟩ (int i64 0))=Z1 at d4 t H J b2 a7 d3 d1 b0 ⊢;clear t H bT Q I b5 t0 t1 t2 t3 i7 i8 i9 h0 h4;have d8:w.heap.size+1≠tb:=by omega
 have P:E m=.slice d5 (x.bk m).lgn K:=by rw[← g0.out];exact g2.out
 have hL:=J.out.bk.legs m HM.out;dsimp only at hL;rw[qu,ZL,Y.out,P] at hL;dsimp only at hL;obtain⟨S,rfl,k3,k4⟩:=qh hL T.out;obtain⟨k2,lo',d6,e5⟩:=zbo hL 0 T.out;have y3:Z1.cell? ⟨S,0,none⟩=some (int i64 ((x.bk m).lg 0)):=by
  cases d6
  exact e5
 have z3:Z1.cell? ⟨gb,m*13+3,none⟩=some (.slice (some ⟨S,0,none⟩) (x.bk m).lgn K):=by
  have h:=zs J.out.bk.row (m*13+3) (by have:=HM.out;omega) rfl
  rw[zC 13 _ m 3 (by decide)] at h
  unfold bkC at h;rw[qu,P] at h;exact h
 obtain⟨n,so,la,lc,ca,cc,rfl,s0,s1,s2,s3,s4,s5,s6,s7,_⟩:=J.out.sa.at d U.out;have zq:=za b2.out 0 _ rfl;have j6:g<w.heap.size:=zM HQ.out;have j9:n<w.heap.size:=by
  obtain⟨gs,e,_,h2⟩:=qh HO.out.sa.row (by have:=U.out;omega)
  cases e
  exact h2
 have j7:S<w.heap.size:=by
  have h:=HO.out.bk.legs m HM.out;rw[P] at h;exact(h.lt S rfl).2
 have i3:(0:Int)<=(d:Int):=by omega
 have i4:(d:Int)<(N:Int):=by have:=U.out;omega
 have i5:(0:Int)<((x.bk m).lgn:Int):=by have:=T.out;omega
 have i6:0<(x.bk m).lgn:=T.out;have k0:IntKind.i64.wrap ((x.sa d).dep - y.now)=(x.sa d).dep - y.now:=by rw[IntKind.wrap_i64];have:=f7.out;omega
 have g7:=hI J.out.sa.at;have KS:Hid (∀ z,Below Z1.heap.size Z1 z->z.cell? ⟨gb,m*13+12,none⟩=some (int i64 (x.bk m).price)/\z.cell? ⟨gb,m*13+3,none⟩=some (.slice (some ⟨S,0,none⟩) (x.bk m).lgn K)/\z.cell? ⟨g,0,none⟩=some (.slice (some ⟨n,so,none⟩) N s)/\z.cell? ⟨S,0,none⟩=some (int i64 ((x.bk m).lg 0))/\z.cell? ⟨n,so+d*8+3,none⟩=some (int i64 (x.sa d).dep)/\z.cell? ⟨w.heap.size,11,none⟩=some (int i64 y.now)):=fun z h=>⟨(h.cell (p:=⟨gb,m*13+12,none⟩) (World.block_lt_of_cell? _ _ b0)).trans b0,(h.cell (p:=⟨gb,m*13+3,none⟩) (World.block_lt_of_cell? _ _ z3)).trans z3,(h.cell (p:=⟨g,0,none⟩) (World.block_lt_of_cell? _ _ zq)).trans zq,(h.cell (p:=⟨S,0,none⟩) (World.block_lt_of_cell? _ _ y3)).trans y3,(h.cell (p:=⟨n,so+d*8+3,none⟩) (World.block_lt_of_cell? _ _ s3)).trans s3,za (zb d4 h) 11 _ rfl⟩
 have KT:Hid (∀ z,Below Z1.heap.size Z1 z->∀ v u',u'=z.setCell ⟨tb,2,none⟩ v->u'.cell? ⟨gb,m*13+12,none⟩=some (int i64 (x.bk m).price)/\u'.cell? ⟨gb,m*13+3,none⟩=some (.slice (some ⟨S,0,none⟩) (x.bk m).lgn K)/\u'.cell? ⟨g,0,none⟩=some (.slice (some ⟨n,so,none⟩) N s)/\u'.cell? ⟨S,0,none⟩=some (int i64 ((x.bk m).lg 0))/\u'.cell? ⟨n,so+d*8+3,none⟩=some (int i64 (x.sa d).dep)/\u'.cell? ⟨w.heap.size,11,none⟩=some (int i64 y.now)):=fun z h v u' e=>by
  subst e;obtain⟨a1,a2,a3,a4,a5,a6⟩:=KS.out z h;have hk:zx z (z.setCell ⟨tb,2,none⟩ v) (fun b=>b=tb):=(zx.refl z (fun b=>b=tb)).set (a:=⟨tb,2,none⟩) rfl v
  exact⟨QV hk a1 (by show ¬ _=_;dsimp only;omega),QV hk a2 (by show ¬ _=_;dsimp only;omega),QV hk a3 (by show ¬ _=_;dsimp only;omega),QV hk a4 (by show ¬ _=_;dsimp only;omega),QV hk a5 (by show ¬ _=_;dsimp only;omega),QV hk a6 (by show ¬ _=_;dsimp only;omega)⟩
 clear s0 s1 s2 s3 s4 s5 s6 s7 y3 z3 b0 zq hL d6 e5;go_region_held3 (fun w'=>w'.cell? ⟨gb,m*13+12,none⟩=some (int i64 (x.bk m).price)/\w'.cell? ⟨gb,m*13+3,none⟩=some (.slice (some ⟨S,0,none⟩) (x.bk m).lgn K)/\w'.cell? ⟨g,0,none⟩=some (.slice (some ⟨n,so,none⟩) N s)/\w'.cell? ⟨S,0,none⟩=some (int i64 ((x.bk m).lg 0))/\w'.cell? ⟨n,so+d*8+3,none⟩=some (int i64 (x.sa d).dep)/\w'.cell? ⟨w.heap.size,11,none⟩=some (int i64 y.now))
  (first|(with_reducible exact KT.out _ l.out _ _ rfl)|(refine KS.out _ ?_;repeat(first|exact l.out|exact bZ|refine Below.drew ?_|refine zk ?_ _)))
  (first
   | (go_simp;go_at_call 161;(with_reducible refine Calls.mono (Q9 (some ⟨n,so,none⟩) N s x.sa ((x.bk m).lg 0) _ f8.out (g7.out.below ?_)) ?_);(focus(repeat(first | exact bZ | refine Below.drew ?_ | refine zk ?_ _)));rintro e u2 ⟨he,b6⟩;have l:Hid (Below Z1.heap.size Z1 u2):=ze (Below.drew bZ) b6;rw[f9.out] at he;rcases he with⟨_,rfl⟩ | ⟨h,_⟩;rotate_left;(focus(have:=U.out;omega));have q0:=za (zb a7 l.out) 2 _ rfl;have q1:=zg (zb a7 l.out) 2;dsimp only)
   | (go_simp;go_at_call 171;(with_reducible refine Calls.mono (zjf _ _ _) ?_);rintro e u3 ⟨rfl,rfl⟩;dsimp only))
 obtain⟨g6,h5,g5,b4,g9⟩:=zgr (d1.out.trans (zx.of_below l.out)) (J.out.below l.out) (zb b2.out l.out) (zb d3 l.out) (zb a7 l.out) d8 (by omega) (int i64 (Z6 (x.bk m).price ((x.sa d).dep - y.now))) rfl
 obtain⟨d2,d7,d0,bF⟩:=zbC g5 g6 h5 b4 (by omega) (int i64 0) (int i64 ((m:Int)+1)) (int i64 (Z6 (x.bk m).price ((x.sa d).dep - y.now))) (.slice none 0 0) rfl
 obtain⟨t0,t1,t2,t3⟩:=ce4 g9;obtain⟨v0,v1,v2,v3⟩:=ce4 b4;obtain⟨e0,e1,e2,e3⟩:=fe4 b4;have c0:Hid _:=d2;have g3:Hid _:=d7;have g1:Hid _:=d0;clear d2 d7 d0;go_wp2;obtain⟨x0,x1,x2,x3⟩:=ce4 bF;refine bodyPost_ret (v:=.agg #[int i64 0,int i64 ((m:Int)+1),int i64 (Z6 (x.bk m).price ((x.sa d).dep - y.now)),.slice none 0 0]) (by simp[results,Tryz.results93,go_sem,x0,x1,x2,x3]) rfl ?_
 have F:=g8.out;subst F;exact⟨_,_,_,_,rfl,rfl,c0.out,g3.out,g1.out⟩
theorem l7End_7 (g base N R M K n u m:Nat)(I H P d:Option Addr)(t:Int)(y:OpD)(x:Off)(L C A B D E:Nat->Value)(w:World)(hq:w.heap[g]?=some (.cells #[.slice I N M,.slice H N K,.slice P R n] 38 (0,0)))(U:zF w base (.slice I N M) (.slice H N K) (.slice P R n) N N R x L C A B D E)(b7:x.bkn=R)(b0:base<=w.heap.size)(S:y.kind=7)(d5:In y.pe 0 20)(f1:y.lgn<=3)(b2:zT w d y.lgn y.lg)(b6:qj d y.lgn u)(b3:0<y.lgn->∀ a,d=some a->a.block<base)(b4:y.name=(m:Int)+1)(hm:m<R)(l:R<=1048576) :
  Calls Tryz.prog 93 #[.pointer (some ⟨g,0,none⟩),int i64 t,.agg #[int i64 y.kind,.string y.own,int i64 y.name,.slice d y.lgn u,int i64 y.pe,int i64 y.len,int i64 y.hei,int i64 y.cl,.bool y.all,int i64 y.be,int i64 y.unt,int i64 y.now]] w fun e w'=>zdm g base N M K I H (fun b=>b=g∨(Value.slice P R n).ownBlock=some b) { x with bk:=zah x.bk m (qx (x.bk m) t y) } 0 y.name (0) (fun _ v=>v=.slice none 0 0) L C A B D w e w':=by
 rw[S,b4];have HO:=hI U;have HQ:=hI hq;have c9:=hI S;have d0:=hI b7;have e5:=hI b0;have e7:=hI b2;have f0:=hI b6;have e8:=hI b3;obtain⟨gb,rfl,a9,d3⟩:=qh U.bk.row (by omega)
 obtain⟨cs,b1⟩:=zA U.bk.row gb rfl;obtain⟨d2,d1,eE,q1,q2,q3⟩:=zp (U.bk.legs m hm);obtain⟨b,Q⟩:∃ b,b=x.bk m:=⟨_,rfl⟩;have d9:=hI Q;have Z:=hI b1;have b8:Hid (∀ V,Below w.heap.size w V->∀ j v,(bkC x.bk E m)[j]?=some v->V.cell? ⟨gb,m*13+j,none⟩=some v):=fun V hV j v hv=>by
  have hj:j<13:=by
   have h:=(List.getElem?_eq_some_iff.1 hv).1;exact h
  have h:=zs U.bk.row (m*13+j) (by omega) rfl
  rw[zC 13 _ m j hj,List.getD_eq_getElem?_getD,hv] at h;exact(hV.cell (p:=⟨gb,m*13+j,none⟩) d3).trans h
 have e6:Hid (E m=.slice d2 b.lgn d1):=by rw[Q];exact eE
 have i1:(0:Int)<=(m:Int):=by omega
 have i2:(m:Int)<(R:Int):=by omega
 have f3:IntKind.i64.wrap ((m:Int)+1 - 1)=(m:Int):=by rw[IntKind.wrap_i64];omega
 have HM:=hI hm;have e4:=hI a9;clear b1 eE q1 q2 q3 Q a9;clear U hq S b7 b0 b2 b6 b3 b4 hm;obtain⟨pr,T⟩:∃ pr,pr=zE ⟨y.pe,y.len,y.hei,y.cl,y.all,y.be⟩ (y.lgn:Int):=⟨_,rfl⟩;have e9:=hI T;have c:Below w.heap.size w ((w.alloc (.cells #[int i64 7,.string y.own,int i64 ((m:Int)+1),.slice d y.lgn u,int i64 y.pe,int i64 y.len,int i64 y.hei,int i64 y.cl,.bool y.all,int i64 y.be,int i64 y.unt,int i64 y.now] 47)).alloc (.cells #[int i64 0,int i64 0,int i64 0,.slice none 0 0] 41)):=zk (zk bZ _) _;have s:=zd (heap_alloc_new w (.cells #[int i64 7,.string y.own,int i64 ((m:Int)+1),.slice d y.lgn u,int i64 y.pe,int i64 y.len,int i64 y.hei,int i64 y.cl,.bool y.all,int i64 y.be,int i64 y.unt,int i64 y.now] 47)) (.cells #[int i64 0,int i64 0,int i64 0,.slice none 0 0] 41);have F:=zfT w (.cells #[int i64 7,.string y.own,int i64 ((m:Int)+1),.slice d y.lgn u,int i64 y.pe,int i64 y.len,int i64 y.hei,int i64 y.cl,.bool y.all,int i64 y.be,int i64 y.unt,int i64 y.now] 47) (.cells #[int i64 0,int i64 0,int i64 0,.slice none 0 0] 41);go_enter Tryz.func93,Tryz.ntmps93;go_wp2_with fail;generalize ((w.alloc (.cells #[int i64 7,.string y.own,int i64 ((m:Int)+1),.slice d y.lgn u,int i64 y.pe,int i64 y.len,int i64 y.hei,int i64 y.cl,.bool y.all,int i64 y.be,int i64 y.unt,int i64 y.now] 47)).alloc (.cells #[int i64 0,int i64 0,int i64 0,.slice none 0 0] 41))=W at c s F ⊢;refine(Zy y.pe y.len y.hei y.cl y.all y.be (y.lgn:Int) _ d5 (by unfold In;omega)).mono ?_
 rintro e V ⟨rfl,O⟩;rw[← T];clear T;replace c:=ze c O;replace s:=zb s O;replace F:=zb F O;clear O W;have o0:=za s 0 _ rfl;have n2:∀ G:zn V,G.val.cell? ⟨g,2,none⟩=some (.slice (some ⟨gb,0,none⟩) R n):=fun G=>za (zb HQ.out (ze c G.bel)) 2 _ rfl
 have m2:∀ G:zn V,G.val.cell? ⟨w.heap.size,2,none⟩=some (int i64 ((m:Int)+1)):=fun G=>za (zb s G.bel) 2 _ rfl
 go_upto_region 17 with fail;refine zh (by kernel_rfl) (by kernel_rfl) ?_
 repeat(first|go_big_quiet_skip|(go_big_quiet_want;go_big_quiet_op;first|go_big_quiet_on|fail))
 refine wpQuiet_nil ?_;rintro _ ⟨G,rfl⟩;replace c:=ze c G.bel;replace s:=zb s G.bel;replace F:=zb F G.bel;have d6:=zM F;have o2:=za s 2 _ rfl;clear o0 n2 m2;have o0:∀ o,(G.val.alloc o).cell? ⟨w.heap.size,0,none⟩=some (int i64 7):=fun o=>za (zd s o) 0 _ rfl
 go_upto_region 20 with fail;replace c:=zk c (.cells #[int i64 0,int i64 ((m:Int)+1),int i64 0,.slice none 0 0] 41);replace s:=zd s (.cells #[int i64 0,int i64 ((m:Int)+1),int i64 0,.slice none 0 0] 41);replace F:=zd F (.cells #[int i64 0,int i64 ((m:Int)+1),int i64 0,.slice none 0 0] 41);have bT:=heap_alloc_new G.val (.cells #[int i64 0,int i64 ((m:Int)+1),int i64 0,.slice none 0 0] 41);generalize G.val.alloc (.cells #[int i64 0,int i64 ((m:Int)+1),int i64 0,.slice none 0 0] 41)=X at c s F bT ⊢;generalize G.val.heap.size=tb at bT d6 ⊢;clear o0 o2 G V;have a6:=zb Z.out c;have k2:=b8.out X c 2 _ rfl;have f2:=zg a6 (m*13+2);obtain⟨t0,t1,t2,t3⟩:=ce4 bT;have d7:=za s 1 _ rfl;go_upto_region 38 with fail;have a2:Hid (qx (x.bk m) t y={ x.bk m with own:=y.own }):=by show _=_;simp[qx,c9.out]
 have q:zx X (X.setCell ⟨gb,m*13+2,none⟩ (.string y.own)) (fun b=>b=gb):=((zx.refl X (fun b=>b=gb)).set (a:=⟨gb,m*13+2,none⟩) rfl _)
 have z:Hid ((X.setCell ⟨gb,m*13+2,none⟩ (.string y.own)).ownsRow base 150 13 (.slice (some ⟨gb,0,none⟩) R n) R (zbg (zah x.bk m (qx (x.bk m) t y)) (atV E m (E m)) R)):=by
  refine qR (zL ((HO.out.below c).bk.row) (m*13+2) (.string y.own)) (fun j _=>zfd 13 (by decide) (k:=m) (C:=bkC x.bk E) (C':=bkC (zah x.bk m (qx (x.bk m) t y)) (atV E m (E m))) (f:=fun i=>if i=m*13+2 then (.string y.own:Value) else zZ 13 (bkC x.bk E) i) (fun r hr=>?_) (fun j hj=>?_) (fun i hi=>?_) j)
  ·have l:=zC 13 (bkC x.bk E) m r hr
   unfold bkC;rw[ZL,qu,a2.out];unfold bkC at l;have b5:r=0∨r=1∨r=2∨r=3∨r=4∨r=5∨r=6∨r=7∨r=8∨r=9∨r=10∨r=11∨r=12:=by omega
   rcases b5 with rfl|rfl|rfl|rfl|rfl|rfl|rfl|rfl|rfl|rfl|rfl|rfl|rfl
   ·rw[if_neg (by omega),l];rfl
   ·rw[if_neg (by omega),l];rfl
   ·rw[if_pos rfl];rfl
   ·rw[if_neg (by omega),l];rfl
   ·rw[if_neg (by omega),l];rfl
   ·rw[if_neg (by omega),l];rfl
   ·rw[if_neg (by omega),l];rfl
   ·rw[if_neg (by omega),l];rfl
   ·rw[if_neg (by omega),l];rfl
   ·rw[if_neg (by omega),l];rfl
   ·rw[if_neg (by omega),l];rfl
   ·rw[if_neg (by omega),l];rfl
   ·rw[if_neg (by omega),l];rfl
  ·rw[if_neg (by omega)]
  ·unfold bkC
   rw[zaf _ _ _ hi,qf _ _ _ _ hi]
 have a4:Hid (zF (X.setCell ⟨gb,m*13+2,none⟩ (.string y.own)) base (.slice I N M) (.slice H N K) (.slice (some ⟨gb,0,none⟩) R n) N N R { x with bk:=zah x.bk m (qx (x.bk m) t y) } L C A B D (atV E m (E m))):=(HO.out.below c).putBk q z.out (by rw[a2.out];exact(HO.out.below c).bk.legs m HM.out) (HO.out.bk.far_same HM.out)
 have d4:g≠gb:=fun e=>by have h:=Z.out;rw[← e,HQ.out] at h;simp at h
 have a5:=hI (q.blk (zb HQ.out c) d4);have a7:=q.blk bT (by show ¬ _=_;omega)
 have J:=q.blk F (by show ¬ _=_;omega)
 have a1:Hid (zx w (X.setCell ⟨gb,m*13+2,none⟩ (.string y.own)) (fun b=>b=g∨(Value.slice (some ⟨gb,0,none⟩) R n).ownBlock=some b)):=(zx.of_below c).trans (q.mono (fun b e=>.inr (by rw[show b=gb from e];rfl)))
 generalize (X.setCell ⟨gb,m*13+2,none⟩ (.string y.own))=Z1 at q z a4 a5 a7 J a1 ⊢;clear q z bT F d7 s a6 t0 t1 t2 t3 k2 f2;have d8:w.heap.size+1≠tb:=by omega
 obtain⟨a3,a8,a0,bF⟩:=zbC a1.out a4.out a5.out J (by omega) (int i64 0) (int i64 ((m:Int)+1)) (int i64 0) (.slice none 0 0) rfl
 obtain⟨t0,t1,t2,t3⟩:=ce4 a7;obtain⟨v0,v1,v2,v3⟩:=ce4 J;obtain⟨e0,e1,e2,e3⟩:=fe4 J;have Y:Hid _:=a3;have c0:Hid _:=a8;have b9:Hid _:=a0;clear a3 a8 a0;go_wp2;obtain⟨x0,x1,x2,x3⟩:=ce4 bF;refine bodyPost_ret (v:=.agg #[int i64 0,int i64 ((m:Int)+1),int i64 (0),.slice none 0 0]) (by simp[results,Tryz.results93,go_sem,x0,x1,x2,x3]) rfl ?_
 have l:=d0.out;subst l;exact⟨_,_,_,_,rfl,rfl,Y.out,c0.out,b9.out⟩
theorem l7End_8 (g base N R M K n u m:Nat)(I H P d:Option Addr)(t:Int)(y:OpD)(x:Off)(L C A B D E:Nat->Value)(w:World)(hq:w.heap[g]?=some (.cells #[.slice I N M,.slice H N K,.slice P R n] 38 (0,0)))(U:zF w base (.slice I N M) (.slice H N K) (.slice P R n) N N R x L C A B D E)(b7:x.bkn=R)(b0:base<=w.heap.size)(S:y.kind=8)(d6:In y.pe 0 20)(f2:y.lgn<=3)(b2:zT w d y.lgn y.lg)(b6:qj d y.lgn u)(b3:0<y.lgn->∀ a,d=some a->a.block<base)(b4:y.name=(m:Int)+1)(hm:m<R)(l:R<=1048576) :
  Calls Tryz.prog 93 #[.pointer (some ⟨g,0,none⟩),int i64 t,.agg #[int i64 y.kind,.string y.own,int i64 y.name,.slice d y.lgn u,int i64 y.pe,int i64 y.len,int i64 y.hei,int i64 y.cl,.bool y.all,int i64 y.be,int i64 y.unt,int i64 y.now]] w fun e w'=>zdm g base N M K I H (fun b=>b=g∨(Value.slice P R n).ownBlock=some b) { x with bk:=zah x.bk m (qx (x.bk m) t y) } 0 y.name (0) (fun _ v=>v=.slice none 0 0) L C A B D w e w':=by
 rw[S,b4];have HO:=hI U;have HQ:=hI hq;have c9:=hI S;have d0:=hI b7;have e6:=hI b0;have e8:=hI b2;have f1:=hI b6;have e9:=hI b3;obtain⟨gb,rfl,a9,d4⟩:=qh U.bk.row (by omega)
 obtain⟨cs,b1⟩:=zA U.bk.row gb rfl;obtain⟨d2,d1,eE,q1,q2,q3⟩:=zp (U.bk.legs m hm);obtain⟨b,Q⟩:∃ b,b=x.bk m:=⟨_,rfl⟩;have e4:=hI Q;have Z:=hI b1;have b8:Hid (∀ V,Below w.heap.size w V->∀ j v,(bkC x.bk E m)[j]?=some v->V.cell? ⟨gb,m*13+j,none⟩=some v):=fun V hV j v hv=>by
  have hj:j<13:=by
   have h:=(List.getElem?_eq_some_iff.1 hv).1;exact h
  have h:=zs U.bk.row (m*13+j) (by omega) rfl
  rw[zC 13 _ m j hj,List.getD_eq_getElem?_getD,hv] at h;exact(hV.cell (p:=⟨gb,m*13+j,none⟩) d4).trans h
 have e7:Hid (E m=.slice d2 b.lgn d1):=by rw[Q];exact eE
 have i1:(0:Int)<=(m:Int):=by omega
 have i2:(m:Int)<(R:Int):=by omega
 have f3:IntKind.i64.wrap ((m:Int)+1 - 1)=(m:Int):=by rw[IntKind.wrap_i64];omega
 have HM:=hI hm;have e5:=hI a9;clear b1 eE q1 q2 q3 Q a9;clear U hq S b7 b0 b2 b6 b3 b4 hm;obtain⟨pr,T⟩:∃ pr,pr=zE ⟨y.pe,y.len,y.hei,y.cl,y.all,y.be⟩ (y.lgn:Int):=⟨_,rfl⟩;have f0:=hI T;have c:Below w.heap.size w ((w.alloc (.cells #[int i64 8,.string y.own,int i64 ((m:Int)+1),.slice d y.lgn u,int i64 y.pe,int i64 y.len,int i64 y.hei,int i64 y.cl,.bool y.all,int i64 y.be,int i64 y.unt,int i64 y.now] 47)).alloc (.cells #[int i64 0,int i64 0,int i64 0,.slice none 0 0] 41)):=zk (zk bZ _) _;have s:=zd (heap_alloc_new w (.cells #[int i64 8,.string y.own,int i64 ((m:Int)+1),.slice d y.lgn u,int i64 y.pe,int i64 y.len,int i64 y.hei,int i64 y.cl,.bool y.all,int i64 y.be,int i64 y.unt,int i64 y.now] 47)) (.cells #[int i64 0,int i64 0,int i64 0,.slice none 0 0] 41);have F:=zfT w (.cells #[int i64 8,.string y.own,int i64 ((m:Int)+1),.slice d y.lgn u,int i64 y.pe,int i64 y.len,int i64 y.hei,int i64 y.cl,.bool y.all,int i64 y.be,int i64 y.unt,int i64 y.now] 47) (.cells #[int i64 0,int i64 0,int i64 0,.slice none 0 0] 41);go_enter Tryz.func93,Tryz.ntmps93;go_wp2_with fail;generalize ((w.alloc (.cells #[int i64 8,.string y.own,int i64 ((m:Int)+1),.slice d y.lgn u,int i64 y.pe,int i64 y.len,int i64 y.hei,int i64 y.cl,.bool y.all,int i64 y.be,int i64 y.unt,int i64 y.now] 47)).alloc (.cells #[int i64 0,int i64 0,int i64 0,.slice none 0 0] 41))=W at c s F ⊢;refine(Zy y.pe y.len y.hei y.cl y.all y.be (y.lgn:Int) _ d6 (by unfold In;omega)).mono ?_
 rintro e V ⟨rfl,O⟩;rw[← T];clear T;replace c:=ze c O;replace s:=zb s O;replace F:=zb F O;clear O W;have o0:=za s 0 _ rfl;have n2:∀ G:zn V,G.val.cell? ⟨g,2,none⟩=some (.slice (some ⟨gb,0,none⟩) R n):=fun G=>za (zb HQ.out (ze c G.bel)) 2 _ rfl
 have m2:∀ G:zn V,G.val.cell? ⟨w.heap.size,2,none⟩=some (int i64 ((m:Int)+1)):=fun G=>za (zb s G.bel) 2 _ rfl
 go_upto_region 17 with fail;refine zh (by kernel_rfl) (by kernel_rfl) ?_
 repeat(first|go_big_quiet_skip|(go_big_quiet_want;go_big_quiet_op;first|go_big_quiet_on|fail))
 refine wpQuiet_nil ?_;rintro _ ⟨G,rfl⟩;replace c:=ze c G.bel;replace s:=zb s G.bel;replace F:=zb F G.bel;have d7:=zM F;have o2:=za s 2 _ rfl;clear o0 n2 m2;have o0:∀ o,(G.val.alloc o).cell? ⟨w.heap.size,0,none⟩=some (int i64 8):=fun o=>za (zd s o) 0 _ rfl
 go_upto_region 20 with fail;replace c:=zk c (.cells #[int i64 0,int i64 ((m:Int)+1),int i64 0,.slice none 0 0] 41);replace s:=zd s (.cells #[int i64 0,int i64 ((m:Int)+1),int i64 0,.slice none 0 0] 41);replace F:=zd F (.cells #[int i64 0,int i64 ((m:Int)+1),int i64 0,.slice none 0 0] 41);have bT:=heap_alloc_new G.val (.cells #[int i64 0,int i64 ((m:Int)+1),int i64 0,.slice none 0 0] 41);generalize G.val.alloc (.cells #[int i64 0,int i64 ((m:Int)+1),int i64 0,.slice none 0 0] 41)=X at c s F bT ⊢;generalize G.val.heap.size=tb at bT d7 ⊢;clear o0 o2 G V;have a6:=zb Z.out c;have d8:=b8.out X c 10 _ rfl;have d3:=zg a6 (m*13+10);obtain⟨t0,t1,t2,t3⟩:=ce4 bT;go_upto_region 38 with fail;have a2:Hid (qx (x.bk m) t y={ x.bk m with state:=4 }):=by show _=_;simp[qx,c9.out]
 have q:zx X (X.setCell ⟨gb,m*13+10,none⟩ (int i64 4)) (fun b=>b=gb):=((zx.refl X (fun b=>b=gb)).set (a:=⟨gb,m*13+10,none⟩) rfl _)
 have z:Hid ((X.setCell ⟨gb,m*13+10,none⟩ (int i64 4)).ownsRow base 150 13 (.slice (some ⟨gb,0,none⟩) R n) R (zbg (zah x.bk m (qx (x.bk m) t y)) (atV E m (E m)) R)):=by
  refine qR (zL ((HO.out.below c).bk.row) (m*13+10) (int i64 4)) (fun j _=>zfd 13 (by decide) (k:=m) (C:=bkC x.bk E) (C':=bkC (zah x.bk m (qx (x.bk m) t y)) (atV E m (E m))) (f:=fun i=>if i=m*13+10 then (int i64 4:Value) else zZ 13 (bkC x.bk E) i) (fun r hr=>?_) (fun j hj=>?_) (fun i hi=>?_) j)
  ·have l:=zC 13 (bkC x.bk E) m r hr
   unfold bkC;rw[ZL,qu,a2.out];unfold bkC at l;have b5:r=0∨r=1∨r=2∨r=3∨r=4∨r=5∨r=6∨r=7∨r=8∨r=9∨r=10∨r=11∨r=12:=by omega
   rcases b5 with rfl|rfl|rfl|rfl|rfl|rfl|rfl|rfl|rfl|rfl|rfl|rfl|rfl
   ·rw[if_neg (by omega),l];rfl
   ·rw[if_neg (by omega),l];rfl
   ·rw[if_neg (by omega),l];rfl
   ·rw[if_neg (by omega),l];rfl
   ·rw[if_neg (by omega),l];rfl
   ·rw[if_neg (by omega),l];rfl
   ·rw[if_neg (by omega),l];rfl
   ·rw[if_neg (by omega),l];rfl
   ·rw[if_neg (by omega),l];rfl
   ·rw[if_neg (by omega),l];rfl
   ·rw[if_pos rfl];rfl
   ·rw[if_neg (by omega),l];rfl
   ·rw[if_neg (by omega),l];rfl
  ·rw[if_neg (by omega)]
  ·unfold bkC
   rw[zaf _ _ _ hi,qf _ _ _ _ hi]
 have a4:Hid (zF (X.setCell ⟨gb,m*13+10,none⟩ (int i64 4)) base (.slice I N M) (.slice H N K) (.slice (some ⟨gb,0,none⟩) R n) N N R { x with bk:=zah x.bk m (qx (x.bk m) t y) } L C A B D (atV E m (E m))):=(HO.out.below c).putBk q z.out (by rw[a2.out];exact(HO.out.below c).bk.legs m HM.out) (HO.out.bk.far_same HM.out)
 have d5:g≠gb:=fun e=>by have h:=Z.out;rw[← e,HQ.out] at h;simp at h
 have a5:=hI (q.blk (zb HQ.out c) d5);have a7:=q.blk bT (by show ¬ _=_;omega)
 have J:=q.blk F (by show ¬ _=_;omega)
 have a1:Hid (zx w (X.setCell ⟨gb,m*13+10,none⟩ (int i64 4)) (fun b=>b=g∨(Value.slice (some ⟨gb,0,none⟩) R n).ownBlock=some b)):=(zx.of_below c).trans (q.mono (fun b e=>.inr (by rw[show b=gb from e];rfl)))
 generalize (X.setCell ⟨gb,m*13+10,none⟩ (int i64 4))=Z1 at q z a4 a5 a7 J a1 ⊢;clear q z bT F s a6 t0 t1 t2 t3 d8 d3;have d9:w.heap.size+1≠tb:=by omega
 obtain⟨a3,a8,a0,bF⟩:=zbC a1.out a4.out a5.out J (by omega) (int i64 0) (int i64 ((m:Int)+1)) (int i64 0) (.slice none 0 0) rfl
 obtain⟨t0,t1,t2,t3⟩:=ce4 a7;obtain⟨v0,v1,v2,v3⟩:=ce4 J;obtain⟨e0,e1,e2,e3⟩:=fe4 J;have Y:Hid _:=a3;have c0:Hid _:=a8;have b9:Hid _:=a0;clear a3 a8 a0;go_wp2;obtain⟨x0,x1,x2,x3⟩:=ce4 bF;refine bodyPost_ret (v:=.agg #[int i64 0,int i64 ((m:Int)+1),int i64 (0),.slice none 0 0]) (by simp[results,Tryz.results93,go_sem,x0,x1,x2,x3]) rfl ?_
 have l:=d0.out;subst l;exact⟨_,_,_,_,rfl,rfl,Y.out,c0.out,b9.out⟩
end Go.Proofs.YtmdnjgihooflfaaGreatDoor
