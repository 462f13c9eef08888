import Derived.Test.YtgmdnkngnhkgbaaGreatB27
namespace Go.Proofs.YtgmdnkngnhkgbaaGreat
open Go.RowKit
open Go.Value (int)
open Go.IntKind (i64)
set_option maxHeartbeats 64000000
set_option maxRecDepth 1000000
theorem l7End_6 (g base N R t a9 F P m:Nat)(a7 a0 b8 s:Option Addr)(O:Int)(y:OpD)(x:Off)(L C A B D E:Nat->Value)(w:World)(hq:w.heap[g]?=some (.cells #[.slice a7 N t,.slice a0 N a9,.slice b8 R F] 27 (0,0)))(ho:zy w base (.slice a7 N t) (.slice a0 N a9) (.slice b8 R F) N N R x L C A B D E)(f8:x.bkn=R)(e5:base<=w.heap.size)(c3:y.kind=6)(h9:In y.pe 0 20)(j8:y.lgn<=3)(f2:zX w s y.lgn y.lg)(f7:zZ s y.lgn P)(f4:0<y.lgn->∀ a,s=some a->a.block<base)(f5:y.name=(m:Int)+1)(hm:m<R)(H:R<=1048576)(l:Nat)(f1:0<(x.bk m).lgn)(e9:zH x.sa ((x.bk m).lg 0) N=l)(f0:l<N)(e7:-1000000000<=(x.sa l).dep - y.now/\(x.sa l).dep - y.now<=1000000000)(hN:N<=1048576) :
  Calls Tryz.prog 119 #[.pointer (some ⟨g,0,none⟩),int i64 O,.agg #[int i64 y.kind,.string y.own,int i64 y.name,.slice s y.lgn P,int i64 y.pe,int i64 y.len,int i64 y.hei,int i64 y.cl,.bool y.all,int i64 y.be,int i64 y.unt,int i64 y.now]] w fun e w'=>zaD g base N t a9 a7 a0 (fun b=>b=g∨(Value.slice b8 R F).ownBlock=some b) { x with bk:=Zl x.bk m (qg (x.bk m) O y) } 0 y.name (Qd (x.bk m).price ((x.sa l).dep - y.now)) (fun _ v=>v=.slice none 0 0) L C A B D w e w':=by
 rw[c3,f5];have HO:=hI ho;have HQ:=hI hq;have g6:=hI c3;have h0:=hI f8;have j1:=hI e5;have j2:=hI f2;have j5:=hI f7;have j3:=hI f4;obtain⟨d,rfl,e4,c1⟩:=own_addr ho.bk.row (by omega)
 obtain⟨cs,e8⟩:=zG ho.bk.row d rfl;obtain⟨d6,M,eE,q1,q2,q3⟩:=zr (ho.bk.legs m hm);obtain⟨b,c2⟩:∃ b,b=x.bk m:=⟨_,rfl⟩;have g2:=hI c2;have c6:=hI e8;have b6:Hid (∀ V,Below w.heap.size w V->∀ j v,(bkC x.bk E m)[j]?=some v->V.cell? ⟨d,m*13+j,none⟩=some v):=fun V hV j v hv=>by
  have hj:j<13:=by
   have h:=(List.getElem?_eq_some_iff.1 hv).1;exact h
  have h:=zx ho.bk.row (m*13+j) (by omega) rfl
  rw[zz 13 _ m j hj,List.getD_eq_getElem?_getD,hv] at h;exact(hV.cell (p:=⟨d,m*13+j,none⟩) c1).trans h
 have g4:Hid (E m=.slice d6 b.lgn M):=by rw[c2];exact eE
 have i1:(0:Int)<=(m:Int):=by omega
 have i2:(m:Int)<(R:Int):=by omega
 have k4:IntKind.i64.wrap ((m:Int)+1 - 1)=(m:Int):=by rw[IntKind.wrap_i64];omega
 have HM:=hI hm;have j0:=hI e4;clear e8 eE q1 q2 q3 c2 e4;have U:=hI f1;have Y:=hI f0;have f9:=hI e7;have g0:=hI hN;have g1:=hI e9;clear f1 e9 f0 e7 hN;clear ho hq c3 f8 e5 f2 f7 f4 f5 hm;obtain⟨pr,c4⟩:∃ pr,pr=qN ⟨y.pe,y.len,y.hei,y.cl,y.all,y.be⟩ (y.lgn:Int):=⟨_,rfl⟩;have j4:=hI c4;have c:Below w.heap.size w ((w.alloc (.cells #[int i64 6,.string y.own,int i64 ((m:Int)+1),.slice s y.lgn P,int i64 y.pe,int i64 y.len,int i64 y.hei,int i64 y.cl,.bool y.all,int i64 y.be,int i64 y.unt,int i64 y.now] 120)).alloc (.cells #[int i64 0,int i64 0,int i64 0,.slice none 0 0] 116)):=zl (zl bZ _) _;have J:=zc (heap_alloc_new w (.cells #[int i64 6,.string y.own,int i64 ((m:Int)+1),.slice s y.lgn P,int i64 y.pe,int i64 y.len,int i64 y.hei,int i64 y.cl,.bool y.all,int i64 y.be,int i64 y.unt,int i64 y.now] 120)) (.cells #[int i64 0,int i64 0,int i64 0,.slice none 0 0] 116);have S:=zbZ w (.cells #[int i64 6,.string y.own,int i64 ((m:Int)+1),.slice s y.lgn P,int i64 y.pe,int i64 y.len,int i64 y.hei,int i64 y.cl,.bool y.all,int i64 y.be,int i64 y.unt,int i64 y.now] 120) (.cells #[int i64 0,int i64 0,int i64 0,.slice none 0 0] 116);go_enter Tryz.func119,Tryz.ntmps119;go_wp2_with fail;generalize ((w.alloc (.cells #[int i64 6,.string y.own,int i64 ((m:Int)+1),.slice s y.lgn P,int i64 y.pe,int i64 y.len,int i64 y.hei,int i64 y.cl,.bool y.all,int i64 y.be,int i64 y.unt,int i64 y.now] 120)).alloc (.cells #[int i64 0,int i64 0,int i64 0,.slice none 0 0] 116))=W at c J S ⊢;refine(qB y.pe y.len y.hei y.cl y.all y.be (y.lgn:Int) _ h9 (by unfold In;omega)).mono ?_
 rintro e V ⟨rfl,b0⟩;rw[← c4];clear c4;replace c:=zf c b0;replace J:=zb J b0;replace S:=zb S b0;clear b0 W;have o0:=za J 0 _ rfl;have n2:∀ G:zv V,G.val.cell? ⟨g,2,none⟩=some (.slice (some ⟨d,0,none⟩) R F):=fun G=>za (zb HQ.out (zf c G.bel)) 2 _ rfl
 have m2:∀ G:zv V,G.val.cell? ⟨w.heap.size,2,none⟩=some (int i64 ((m:Int)+1)):=fun G=>za (zb J G.bel) 2 _ rfl
 go_upto_region 17 with fail;refine zg (by kernel_rfl) (by kernel_rfl) ?_
 repeat(first|go_big_quiet_skip|(go_big_quiet_want;go_big_quiet_op;first|go_big_quiet_on|fail))
 refine wpQuiet_nil ?_;rintro _ ⟨G,rfl⟩;replace c:=zf c G.bel;replace J:=zb J G.bel;replace S:=zb S G.bel;have i0:=zQ S;have o2:=za J 2 _ rfl;clear o0 n2 m2;have o0:∀ o,(G.val.alloc o).cell? ⟨w.heap.size,0,none⟩=some (int i64 6):=fun o=>za (zc J o) 0 _ rfl
 go_upto_region 20 with fail;replace c:=zl c (.cells #[int i64 0,int i64 ((m:Int)+1),int i64 0,.slice none 0 0] 116);replace J:=zc J (.cells #[int i64 0,int i64 ((m:Int)+1),int i64 0,.slice none 0 0] 116);replace S:=zc S (.cells #[int i64 0,int i64 ((m:Int)+1),int i64 0,.slice none 0 0] 116);have bT:=heap_alloc_new G.val (.cells #[int i64 0,int i64 ((m:Int)+1),int i64 0,.slice none 0 0] 116);generalize G.val.alloc (.cells #[int i64 0,int i64 ((m:Int)+1),int i64 0,.slice none 0 0] 116)=X at c J S bT ⊢;generalize G.val.heap.size=tb at bT i0 ⊢;clear o0 o2 G V;have c0:=zb c6.out c;have i7:=b6.out X c 10 _ rfl;have i8:=b6.out X c 11 _ rfl;have i9:=b6.out X c 12 _ rfl;have h3:=ze c0 (m*13+10);have h4:=ze c0 (m*13+11);obtain⟨t0,t1,t2,t3⟩:=ce4 bT;go_upto_region 33 with fail;have Z:Hid (qg (x.bk m) O y={ x.bk m with state:=3,unt:=0 }):=by show _=_;simp[qg,g6.out]
 have u:zA X ((X.setCell ⟨d,m*13+10,none⟩ (int i64 3)).setCell ⟨d,m*13+11,none⟩ (int i64 0)) (fun b=>b=d):=(((zA.refl X (fun b=>b=d)).set (a:=⟨d,m*13+10,none⟩) rfl _).set (a:=⟨d,m*13+11,none⟩) rfl _)
 have I:Hid (((X.setCell ⟨d,m*13+10,none⟩ (int i64 3)).setCell ⟨d,m*13+11,none⟩ (int i64 0)).ownsRow base 43 13 (.slice (some ⟨d,0,none⟩) R F) R (Qq (Zl x.bk m (qg (x.bk m) O y)) (atV E m (E m)) R)):=by
  refine own_congr (own_store (own_store ((HO.out.below c).bk.row) (m*13+10) (int i64 3)) (m*13+11) (int i64 0)) (fun j _=>zbd 13 (by decide) (k:=m) (C:=bkC x.bk E) (C':=bkC (Zl x.bk m (qg (x.bk m) O y)) (atV E m (E m))) (f:=fun i=>if i=m*13+11 then (int i64 0:Value) else if i=m*13+10 then (int i64 3:Value) else recCell 13 (bkC x.bk E) i) (fun r hr=>?_) (fun j hj=>?_) (fun i hi=>?_) j)
  ·have H:=zz 13 (bkC x.bk E) m r hr
   unfold bkC;rw[qA,atV_at,Z.out];unfold bkC at H;have f6:r=0∨r=1∨r=2∨r=3∨r=4∨r=5∨r=6∨r=7∨r=8∨r=9∨r=10∨r=11∨r=12:=by omega
   rcases f6 with rfl|rfl|rfl|rfl|rfl|rfl|rfl|rfl|rfl|rfl|rfl|rfl|rfl
   ·rw[if_neg (by omega),if_neg (by omega),H];rfl
   ·rw[if_neg (by omega),if_neg (by omega),H];rfl
   ·rw[if_neg (by omega),if_neg (by omega),H];rfl
   ·rw[if_neg (by omega),if_neg (by omega),H];rfl
   ·rw[if_neg (by omega),if_neg (by omega),H];rfl
   ·rw[if_neg (by omega),if_neg (by omega),H];rfl
   ·rw[if_neg (by omega),if_neg (by omega),H];rfl
   ·rw[if_neg (by omega),if_neg (by omega),H];rfl
   ·rw[if_neg (by omega),if_neg (by omega),H];rfl
   ·rw[if_neg (by omega),if_neg (by omega),H];rfl
   ·rw[if_neg (by omega),if_pos rfl];rfl
   ·rw[if_pos rfl];rfl
   ·rw[if_neg (by omega),if_neg (by omega),H];rfl
  ·rw[if_neg (by omega),if_neg (by omega)]
  ·unfold bkC
   rw[Zp _ _ _ hi,atV_ne _ _ _ _ hi]
 have K:Hid (zy ((X.setCell ⟨d,m*13+10,none⟩ (int i64 3)).setCell ⟨d,m*13+11,none⟩ (int i64 0)) base (.slice a7 N t) (.slice a0 N a9) (.slice (some ⟨d,0,none⟩) R F) N N R { x with bk:=Zl x.bk m (qg (x.bk m) O y) } L C A B D (atV E m (E m))):=(HO.out.below c).putBk u I.out (by rw[Z.out];exact(HO.out.below c).bk.legs m HM.out) (HO.out.bk.far_same HM.out)
 have h6:g≠d:=fun e=>by have h:=c6.out;rw[← e,HQ.out] at h;simp at h
 have b7:=hI (u.blk (zb HQ.out c) h6);have a8:=u.blk bT (by show ¬ _=_;omega)
 have d0:=u.blk S (by show ¬ _=_;omega)
 have d5:=u.blk J (by show ¬ _=_;omega)
 have c8:Hid (zA w ((X.setCell ⟨d,m*13+10,none⟩ (int i64 3)).setCell ⟨d,m*13+11,none⟩ (int i64 0)) (fun b=>b=g∨(Value.slice (some ⟨d,0,none⟩) R F).ownBlock=some b)):=(zA.of_below c).trans (u.mono (fun b e=>.inr (by rw[show b=d from e];rfl)))
 have b5:((X.setCell ⟨d,m*13+10,none⟩ (int i64 3)).setCell ⟨d,m*13+11,none⟩ (int i64 0)).cell? ⟨d,m*13+12,none⟩=some (int i64 (x.bk m).price):=by
  have h:=zx I.out (m*13+12) (by have:=HM.out;omega) rfl
  rw[zz 13 _ m 12 (by decide)] at h
  unfold bkC at h;rw[qA,Z.out] at h;exact h
 generalize ((X.setCell ⟨d,m*13+10,none⟩ (int i64 3)).setCell ⟨d,m*13+11,none⟩ (int i64 0))=Z1 at d5 u I K b7 a8 d0 c8 b5 ⊢;clear u I bT S J c0 t0 t1 t2 t3 i7 i8 i9 h3 h4;have d9:w.heap.size+1≠tb:=by omega
 have Q:E m=.slice d6 (x.bk m).lgn M:=by rw[← g2.out];exact g4.out
 have hL:=K.out.bk.legs m HM.out;dsimp only at hL;rw[atV_at,qA,Z.out,Q] at hL;dsimp only at hL;obtain⟨T,rfl,k6,k7⟩:=own_addr hL U.out;obtain⟨k5,k8,d7,e6⟩:=own_ints hL 0 U.out;have y3:Z1.cell? ⟨T,0,none⟩=some (int i64 ((x.bk m).lg 0)):=by
  cases d7
  exact e6
 have z3:Z1.cell? ⟨d,m*13+3,none⟩=some (.slice (some ⟨T,0,none⟩) (x.bk m).lgn M):=by
  have h:=zx K.out.bk.row (m*13+3) (by have:=HM.out;omega) rfl
  rw[zz 13 _ m 3 (by decide)] at h
  unfold bkC at h;rw[atV_at,Q] at h;exact h
 obtain⟨q,so,la,lc,ca,cc,rfl,s0,s1,s2,s3,s4,s5,s6,s7,_⟩:=K.out.sa.at l Y.out;have zq:=za b7.out 0 _ rfl;have j6:g<w.heap.size:=zQ HQ.out;have j9:q<w.heap.size:=by
  obtain⟨gs,e,_,h2⟩:=own_addr HO.out.sa.row (by have:=Y.out;omega)
  cases e
  exact h2
 have j7:T<w.heap.size:=by
  have h:=HO.out.bk.legs m HM.out;rw[Q] at h;exact(h.lt T rfl).2
 have i3:(0:Int)<=(l:Int):=by omega
 have i4:(l:Int)<(N:Int):=by have:=Y.out;omega
 have i5:(0:Int)<((x.bk m).lgn:Int):=by have:=U.out;omega
 have i6:0<(x.bk m).lgn:=U.out;have k0:IntKind.i64.wrap ((x.sa l).dep - y.now)=(x.sa l).dep - y.now:=by rw[IntKind.wrap_i64];have:=f9.out;omega
 have g9:=hI K.out.sa.at;have KS:Hid (∀ z,Below Z1.heap.size Z1 z->z.cell? ⟨d,m*13+12,none⟩=some (int i64 (x.bk m).price)/\z.cell? ⟨d,m*13+3,none⟩=some (.slice (some ⟨T,0,none⟩) (x.bk m).lgn M)/\z.cell? ⟨g,0,none⟩=some (.slice (some ⟨q,so,none⟩) N t)/\z.cell? ⟨T,0,none⟩=some (int i64 ((x.bk m).lg 0))/\z.cell? ⟨q,so+l*8+3,none⟩=some (int i64 (x.sa l).dep)/\z.cell? ⟨w.heap.size,11,none⟩=some (int i64 y.now)):=fun z h=>⟨(h.cell (p:=⟨d,m*13+12,none⟩) (World.block_lt_of_cell? _ _ b5)).trans b5,(h.cell (p:=⟨d,m*13+3,none⟩) (World.block_lt_of_cell? _ _ z3)).trans z3,(h.cell (p:=⟨g,0,none⟩) (World.block_lt_of_cell? _ _ zq)).trans zq,(h.cell (p:=⟨T,0,none⟩) (World.block_lt_of_cell? _ _ y3)).trans y3,(h.cell (p:=⟨q,so+l*8+3,none⟩) (World.block_lt_of_cell? _ _ s3)).trans s3,za (zb d5 h) 11 _ rfl⟩
 have KT:Hid (∀ z,Below Z1.heap.size Z1 z->∀ v u',u'=z.setCell ⟨tb,2,none⟩ v->u'.cell? ⟨d,m*13+12,none⟩=some (int i64 (x.bk m).price)/\u'.cell? ⟨d,m*13+3,none⟩=some (.slice (some ⟨T,0,none⟩) (x.bk m).lgn M)/\u'.cell? ⟨g,0,none⟩=some (.slice (some ⟨q,so,none⟩) N t)/\u'.cell? ⟨T,0,none⟩=some (int i64 ((x.bk m).lg 0))/\u'.cell? ⟨q,so+l*8+3,none⟩=some (int i64 (x.sa l).dep)/\u'.cell? ⟨w.heap.size,11,none⟩=some (int i64 y.now)):=fun z h v u' e=>by
  subst e;obtain⟨a1,a2,a3,a4,a5,a6⟩:=KS.out z h;have hk:zA z (z.setCell ⟨tb,2,none⟩ v) (fun b=>b=tb):=(zA.refl z (fun b=>b=tb)).set (a:=⟨tb,2,none⟩) rfl v
  exact⟨Zq hk a1 (by show ¬ _=_;dsimp only;omega),Zq hk a2 (by show ¬ _=_;dsimp only;omega),Zq hk a3 (by show ¬ _=_;dsimp only;omega),Zq hk a4 (by show ¬ _=_;dsimp only;omega),Zq hk a5 (by show ¬ _=_;dsimp only;omega),Zq hk a6 (by show ¬ _=_;dsimp only;omega)⟩
 clear s0 s1 s2 s3 s4 s5 s6 s7 y3 z3 b5 zq hL d7 e6;go_region_held3 (fun w'=>w'.cell? ⟨d,m*13+12,none⟩=some (int i64 (x.bk m).price)/\w'.cell? ⟨d,m*13+3,none⟩=some (.slice (some ⟨T,0,none⟩) (x.bk m).lgn M)/\w'.cell? ⟨g,0,none⟩=some (.slice (some ⟨q,so,none⟩) N t)/\w'.cell? ⟨T,0,none⟩=some (int i64 ((x.bk m).lg 0))/\w'.cell? ⟨q,so+l*8+3,none⟩=some (int i64 (x.sa l).dep)/\w'.cell? ⟨w.heap.size,11,none⟩=some (int i64 y.now))
  (first|(with_reducible exact KT.out _ n.out _ _ rfl)|(refine KS.out _ ?_;repeat(first|exact n.out|exact bZ|refine Below.drew ?_|refine zl ?_ _)))
  (first
   | (go_simp;go_at_call 87;(with_reducible refine Calls.mono (Zr (some ⟨q,so,none⟩) N t x.sa ((x.bk m).lg 0) _ g0.out (g9.out.below ?_)) ?_);(focus(repeat(first | exact bZ | refine Below.drew ?_ | refine zl ?_ _)));rintro e u2 ⟨he,c1⟩;have n:Hid (Below Z1.heap.size Z1 u2):=zf (Below.drew bZ) c1;rw[g1.out] at he;rcases he with⟨_,rfl⟩ | ⟨h,_⟩;rotate_left;(focus(have:=Y.out;omega));have q0:=za (zb a8 n.out) 2 _ rfl;have q1:=ze (zb a8 n.out) 2;dsimp only)
   | (go_simp;go_at_call 131;(with_reducible refine Calls.mono (zeo _ _ _) ?_);rintro e u3 ⟨rfl,rfl⟩;dsimp only))
 obtain⟨g8,h5,g7,b9,h1⟩:=zcR (c8.out.trans (zA.of_below n.out)) (K.out.below n.out) (zb b7.out n.out) (zb d0 n.out) (zb a8 n.out) d9 (by omega) (int i64 (Qd (x.bk m).price ((x.sa l).dep - y.now))) rfl
 obtain⟨c9,d8,c7,bF⟩:=QE g7 g8 h5 b9 (by omega) (int i64 0) (int i64 ((m:Int)+1)) (int i64 (Qd (x.bk m).price ((x.sa l).dep - y.now))) (.slice none 0 0) rfl
 obtain⟨t0,t1,t2,t3⟩:=ce4 h1;obtain⟨v0,v1,v2,v3⟩:=ce4 b9;obtain⟨e0,e1,e2,e3⟩:=fe4 b9;have c5:Hid _:=c9;have g5:Hid _:=d8;have g3:Hid _:=c7;clear c9 d8 c7;go_wp2;obtain⟨x0,x1,x2,x3⟩:=ce4 bF;refine bodyPost_ret (v:=.agg #[int i64 0,int i64 ((m:Int)+1),int i64 (Qd (x.bk m).price ((x.sa l).dep - y.now)),.slice none 0 0]) (by simp[results,Tryz.results119,go_sem,x0,x1,x2,x3]) rfl ?_
 have H:=h0.out;subst H;exact⟨_,_,_,_,rfl,rfl,c5.out,g5.out,g3.out⟩
end Go.Proofs.YtgmdnkngnhkgbaaGreat
