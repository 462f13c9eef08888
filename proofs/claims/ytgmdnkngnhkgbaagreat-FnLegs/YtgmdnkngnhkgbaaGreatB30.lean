import Derived.Test.YtgmdnkngnhkgbaaGreatB27
namespace Go.Proofs.YtgmdnkngnhkgbaaGreat
open Go.RowKit
open Go.Value (int)
open Go.IntKind (i64)
set_option maxHeartbeats 64000000
set_option maxRecDepth 1000000
theorem l7End_4 (g base N R O M n F m:Nat)(J I T l:Option Addr)(z:Int)(y:OpD)(x:Off)(L C A B D E:Nat->Value)(w:World)(hq:w.heap[g]?=some (.cells #[.slice J N O,.slice I N M,.slice T R n] 27 (0,0)))(ho:zy w base (.slice J N O) (.slice I N M) (.slice T R n) N N R x L C A B D E)(c5:x.bkn=R)(b8:base<=w.heap.size)(a0:y.kind=4)(e8:In y.pe 0 20)(g3:y.lgn<=3)(c0:zX w l y.lgn y.lg)(c4:zZ l y.lgn F)(c1:0<y.lgn->∀ a,l=some a->a.block<base)(c2:y.name=(m:Int)+1)(hm:m<R)(q:R<=1048576) :
  Calls Tryz.prog 119 #[.pointer (some ⟨g,0,none⟩),int i64 z,.agg #[int i64 y.kind,.string y.own,int i64 y.name,.slice l y.lgn F,int i64 y.pe,int i64 y.len,int i64 y.hei,int i64 y.cl,.bool y.all,int i64 y.be,int i64 y.unt,int i64 y.now]] w fun e w'=>zaD g base N O M J I (fun b=>b=g∨(Value.slice T R n).ownBlock=some b) { x with bk:=Zl x.bk m (qg (x.bk m) z y) } 0 y.name ((x.bk m).price) (fun _ v=>v=.slice none 0 0) L C A B D w e w':=by
 rw[a0,c2];have HO:=hI ho;have HQ:=hI hq;have c8:=hI a0;have d5:=hI c5;have f7:=hI b8;have f9:=hI c0;have g2:=hI c4;have g0:=hI c1;obtain⟨d,rfl,b7,e6⟩:=own_addr ho.bk.row (by omega)
 obtain⟨cs,b9⟩:=zG ho.bk.row d rfl;obtain⟨d8,d7,eE,q1,q2,q3⟩:=zr (ho.bk.legs m hm);obtain⟨b,Z⟩:∃ b,b=x.bk m:=⟨_,rfl⟩;have f5:=hI Z;have a3:=hI b9;have Q:Hid (∀ V,Below w.heap.size w V->∀ j v,(bkC x.bk E m)[j]?=some v->V.cell? ⟨d,m*13+j,none⟩=some v):=fun V hV j v hv=>by
  have hj:j<13:=by
   have h:=(List.getElem?_eq_some_iff.1 hv).1;exact h
  have h:=zx ho.bk.row (m*13+j) (by omega) rfl
  rw[zz 13 _ m j hj,List.getD_eq_getElem?_getD,hv] at h;exact(hV.cell (p:=⟨d,m*13+j,none⟩) e6).trans h
 have f8:Hid (E m=.slice d8 b.lgn d7):=by rw[Z];exact eE
 have i1:(0:Int)<=(m:Int):=by omega
 have i2:(m:Int)<(R:Int):=by omega
 have g4:IntKind.i64.wrap ((m:Int)+1 - 1)=(m:Int):=by rw[IntKind.wrap_i64];omega
 have HM:=hI hm;have f6:=hI b7;clear b9 eE q1 q2 q3 Z b7;clear ho hq a0 c5 b8 c0 c4 c1 c2 hm;obtain⟨pr,a1⟩:∃ pr,pr=qN ⟨y.pe,y.len,y.hei,y.cl,y.all,y.be⟩ (y.lgn:Int):=⟨_,rfl⟩;have g1:=hI a1;have c:Below w.heap.size w ((w.alloc (.cells #[int i64 4,.string y.own,int i64 ((m:Int)+1),.slice l y.lgn F,int i64 y.pe,int i64 y.len,int i64 y.hei,int i64 y.cl,.bool y.all,int i64 y.be,int i64 y.unt,int i64 y.now] 120)).alloc (.cells #[int i64 0,int i64 0,int i64 0,.slice none 0 0] 116)):=zl (zl bZ _) _;have u:=zc (heap_alloc_new w (.cells #[int i64 4,.string y.own,int i64 ((m:Int)+1),.slice l y.lgn F,int i64 y.pe,int i64 y.len,int i64 y.hei,int i64 y.cl,.bool y.all,int i64 y.be,int i64 y.unt,int i64 y.now] 120)) (.cells #[int i64 0,int i64 0,int i64 0,.slice none 0 0] 116);have H:=zbZ w (.cells #[int i64 4,.string y.own,int i64 ((m:Int)+1),.slice l y.lgn F,int i64 y.pe,int i64 y.len,int i64 y.hei,int i64 y.cl,.bool y.all,int i64 y.be,int i64 y.unt,int i64 y.now] 120) (.cells #[int i64 0,int i64 0,int i64 0,.slice none 0 0] 116);go_enter Tryz.func119,Tryz.ntmps119;go_wp2_with fail;generalize ((w.alloc (.cells #[int i64 4,.string y.own,int i64 ((m:Int)+1),.slice l y.lgn F,int i64 y.pe,int i64 y.len,int i64 y.hei,int i64 y.cl,.bool y.all,int i64 y.be,int i64 y.unt,int i64 y.now] 120)).alloc (.cells #[int i64 0,int i64 0,int i64 0,.slice none 0 0] 116))=W at c u H ⊢;refine(qB y.pe y.len y.hei y.cl y.all y.be (y.lgn:Int) _ e8 (by unfold In;omega)).mono ?_
 rintro e V ⟨rfl,P⟩;rw[← a1];clear a1;replace c:=zf c P;replace u:=zb u P;replace H:=zb H P;clear P W;have o0:=za u 0 _ rfl;have n2:∀ G:zv V,G.val.cell? ⟨g,2,none⟩=some (.slice (some ⟨d,0,none⟩) R n):=fun G=>za (zb HQ.out (zf c G.bel)) 2 _ rfl
 have m2:∀ G:zv V,G.val.cell? ⟨w.heap.size,2,none⟩=some (int i64 ((m:Int)+1)):=fun G=>za (zb u G.bel) 2 _ rfl
 go_upto_region 17 with fail;refine zg (by kernel_rfl) (by kernel_rfl) ?_
 repeat(first|go_big_quiet_skip|(go_big_quiet_want;go_big_quiet_op;first|go_big_quiet_on|fail))
 refine wpQuiet_nil ?_;rintro _ ⟨G,rfl⟩;replace c:=zf c G.bel;replace u:=zb u G.bel;replace H:=zb H G.bel;have e9:=zQ H;have o2:=za u 2 _ rfl;clear o0 n2 m2;have o0:∀ o,(G.val.alloc o).cell? ⟨w.heap.size,0,none⟩=some (int i64 4):=fun o=>za (zc u o) 0 _ rfl
 go_upto_region 20 with fail;replace c:=zl c (.cells #[int i64 0,int i64 ((m:Int)+1),int i64 0,.slice none 0 0] 116);replace u:=zc u (.cells #[int i64 0,int i64 ((m:Int)+1),int i64 0,.slice none 0 0] 116);replace H:=zc H (.cells #[int i64 0,int i64 ((m:Int)+1),int i64 0,.slice none 0 0] 116);have bT:=heap_alloc_new G.val (.cells #[int i64 0,int i64 ((m:Int)+1),int i64 0,.slice none 0 0] 116);generalize G.val.alloc (.cells #[int i64 0,int i64 ((m:Int)+1),int i64 0,.slice none 0 0] 116)=X at c u H bT ⊢;generalize G.val.heap.size=tb at bT e9 ⊢;clear o0 o2 G V;have Y:=zb a3.out c;have f0:=Q.out X c 10 _ rfl;have f1:=Q.out X c 11 _ rfl;have f2:=Q.out X c 12 _ rfl;have d9:=ze Y (m*13+10);have e4:=ze Y (m*13+11);obtain⟨t0,t1,t2,t3⟩:=ce4 bT;go_upto_region 23 with fail;have S:Hid (qg (x.bk m) z y={ x.bk m with state:=2,unt:=0 }):=by show _=_;simp[qg,c8.out]
 have s:zA X ((X.setCell ⟨d,m*13+10,none⟩ (int i64 2)).setCell ⟨d,m*13+11,none⟩ (int i64 0)) (fun b=>b=d):=(((zA.refl X (fun b=>b=d)).set (a:=⟨d,m*13+10,none⟩) rfl _).set (a:=⟨d,m*13+11,none⟩) rfl _)
 have t:Hid (((X.setCell ⟨d,m*13+10,none⟩ (int i64 2)).setCell ⟨d,m*13+11,none⟩ (int i64 0)).ownsRow base 43 13 (.slice (some ⟨d,0,none⟩) R n) R (Qq (Zl x.bk m (qg (x.bk m) z y)) (atV E m (E m)) R)):=by
  refine own_congr (own_store (own_store ((HO.out.below c).bk.row) (m*13+10) (int i64 2)) (m*13+11) (int i64 0)) (fun j _=>zbd 13 (by decide) (k:=m) (C:=bkC x.bk E) (C':=bkC (Zl x.bk m (qg (x.bk m) z y)) (atV E m (E m))) (f:=fun i=>if i=m*13+11 then (int i64 0:Value) else if i=m*13+10 then (int i64 2:Value) else recCell 13 (bkC x.bk E) i) (fun r hr=>?_) (fun j hj=>?_) (fun i hi=>?_) j)
  ·have q:=zz 13 (bkC x.bk E) m r hr
   unfold bkC;rw[qA,atV_at,S.out];unfold bkC at q;have c3:r=0∨r=1∨r=2∨r=3∨r=4∨r=5∨r=6∨r=7∨r=8∨r=9∨r=10∨r=11∨r=12:=by omega
   rcases c3 with rfl|rfl|rfl|rfl|rfl|rfl|rfl|rfl|rfl|rfl|rfl|rfl|rfl
   ·rw[if_neg (by omega),if_neg (by omega),q];rfl
   ·rw[if_neg (by omega),if_neg (by omega),q];rfl
   ·rw[if_neg (by omega),if_neg (by omega),q];rfl
   ·rw[if_neg (by omega),if_neg (by omega),q];rfl
   ·rw[if_neg (by omega),if_neg (by omega),q];rfl
   ·rw[if_neg (by omega),if_neg (by omega),q];rfl
   ·rw[if_neg (by omega),if_neg (by omega),q];rfl
   ·rw[if_neg (by omega),if_neg (by omega),q];rfl
   ·rw[if_neg (by omega),if_neg (by omega),q];rfl
   ·rw[if_neg (by omega),if_neg (by omega),q];rfl
   ·rw[if_neg (by omega),if_pos rfl];rfl
   ·rw[if_pos rfl];rfl
   ·rw[if_neg (by omega),if_neg (by omega),q];rfl
  ·rw[if_neg (by omega),if_neg (by omega)]
  ·unfold bkC
   rw[Zp _ _ _ hi,atV_ne _ _ _ _ hi]
 have a8:Hid (zy ((X.setCell ⟨d,m*13+10,none⟩ (int i64 2)).setCell ⟨d,m*13+11,none⟩ (int i64 0)) base (.slice J N O) (.slice I N M) (.slice (some ⟨d,0,none⟩) R n) N N R { x with bk:=Zl x.bk m (qg (x.bk m) z y) } L C A B D (atV E m (E m))):=(HO.out.below c).putBk s t.out (by rw[S.out];exact(HO.out.below c).bk.legs m HM.out) (HO.out.bk.far_same HM.out)
 have e7:g≠d:=fun e=>by have h:=a3.out;rw[← e,HQ.out] at h;simp at h
 have a9:=hI (s.blk (zb HQ.out c) e7);have K:=s.blk bT (by show ¬ _=_;omega)
 have b0:=s.blk H (by show ¬ _=_;omega)
 have a6:Hid (zA w ((X.setCell ⟨d,m*13+10,none⟩ (int i64 2)).setCell ⟨d,m*13+11,none⟩ (int i64 0)) (fun b=>b=g∨(Value.slice (some ⟨d,0,none⟩) R n).ownBlock=some b)):=(zA.of_below c).trans (s.mono (fun b e=>.inr (by rw[show b=d from e];rfl)))
 have f4:((X.setCell ⟨d,m*13+10,none⟩ (int i64 2)).setCell ⟨d,m*13+11,none⟩ (int i64 0)).cell? ⟨d,m*13+12,none⟩=some (int i64 (x.bk m).price):=by
  have h:=zx t.out (m*13+12) (by have:=HM.out;omega) rfl
  rw[zz 13 _ m 12 (by decide)] at h
  unfold bkC at h;rw[qA,S.out] at h;exact h
 generalize ((X.setCell ⟨d,m*13+10,none⟩ (int i64 2)).setCell ⟨d,m*13+11,none⟩ (int i64 0))=Z1 at s t a8 a9 K b0 a6 f4 ⊢;clear s t bT H u Y t0 t1 t2 t3 f0 f1 f2 d9 e4;have b6:w.heap.size+1≠tb:=by omega
 obtain⟨d0,e5,c9,U,d6⟩:=zcR a6.out a8.out a9.out b0 K b6 (by omega) (int i64 ((x.bk m).price)) rfl
 obtain⟨a7,b5,a5,bF⟩:=QE c9 d0 e5 U (by omega) (int i64 0) (int i64 ((m:Int)+1)) (int i64 ((x.bk m).price)) (.slice none 0 0) rfl
 obtain⟨t0,t1,t2,t3⟩:=ce4 d6;have s2:=za K 2 _ rfl;have s3:=ze K 2;obtain⟨v0,v1,v2,v3⟩:=ce4 U;obtain⟨e0,e1,e2,e3⟩:=fe4 U;have a2:Hid _:=a7;have c7:Hid _:=b5;have c6:Hid _:=a5;clear a7 b5 a5;go_wp2;obtain⟨x0,x1,x2,x3⟩:=ce4 bF;refine bodyPost_ret (v:=.agg #[int i64 0,int i64 ((m:Int)+1),int i64 ((x.bk m).price),.slice none 0 0]) (by simp[results,Tryz.results119,go_sem,x0,x1,x2,x3]) rfl ?_
 have q:=d5.out;subst q;exact⟨_,_,_,_,rfl,rfl,a2.out,c7.out,c6.out⟩
theorem l7End_5 (g base N R a8 a7 I K m:Nat)(a5 a3 c0 q:Option Addr)(d:Int)(y:OpD)(x:Off)(L C A B D E:Nat->Value)(w:World)(hq:w.heap[g]?=some (.cells #[.slice a5 N a8,.slice a3 N a7,.slice c0 R I] 27 (0,0)))(ho:zy w base (.slice a5 N a8) (.slice a3 N a7) (.slice c0 R I) N N R x L C A B D E)(h3:x.bkn=R)(g1:base<=w.heap.size)(c4:y.kind=5)(j8:In y.pe 0 20)(m7:y.lgn<=3)(g5:zX w q y.lgn y.lg)(g9:zZ q y.lgn K)(g6:0<y.lgn->∀ a,q=some a->a.block<base)(g7:y.name=(m:Int)+1)(hm:m<R)(s:R<=1048576) :
  Calls Tryz.prog 119 #[.pointer (some ⟨g,0,none⟩),int i64 d,.agg #[int i64 y.kind,.string y.own,int i64 y.name,.slice q y.lgn K,int i64 y.pe,int i64 y.len,int i64 y.hei,int i64 y.cl,.bool y.all,int i64 y.be,int i64 y.unt,int i64 y.now]] w fun e w'=>zaD g base N a8 a7 a5 a3 (fun b=>b=g∨(Value.slice c0 R I).ownBlock=some b) { x with bk:=Zl x.bk m (qg (x.bk m) d y) } 0 y.name (qN ⟨y.pe,y.len,y.hei,y.cl,y.all,y.be⟩ (y.lgn:Int)) (fun _ v=>v=.slice none 0 0) L C A B D w e w':=by
 obtain⟨n0,ni,l0,l1,l2⟩:=info_parts Tryz.infoInt;rw[c4,g7];have HO:=hI ho;have HQ:=hI hq;have i0:=hI c4;have i9:=hI h3;have h5:=hI g1;have i4:=hI g5;have i8:=hI g9;have i5:=hI g6;obtain⟨c,rfl,g0,j5⟩:=own_addr ho.bk.row (by omega)
 obtain⟨cs,g3⟩:=zG ho.bk.row c rfl;obtain⟨j2,j1,eE,q1,q2,q3⟩:=zr (ho.bk.legs m hm);obtain⟨b,c3⟩:∃ b,b=x.bk m:=⟨_,rfl⟩;have m0:=hI c3;have c9:=hI g3;have h9:Hid (∀ V,Below w.heap.size w V->∀ j v,(bkC x.bk E m)[j]?=some v->V.cell? ⟨c,m*13+j,none⟩=some v):=fun V hV j v hv=>by
  have hj:j<13:=by
   have h:=(List.getElem?_eq_some_iff.1 hv).1;exact h
  have h:=zx ho.bk.row (m*13+j) (by omega) rfl
  rw[zz 13 _ m j hj,List.getD_eq_getElem?_getD,hv] at h;exact(hV.cell (p:=⟨c,m*13+j,none⟩) j5).trans h
 have m5:Hid (E m=.slice j2 b.lgn j1):=by rw[c3];exact eE
 have i1:(0:Int)<=(m:Int):=by omega
 have i2:(m:Int)<(R:Int):=by omega
 have m9:IntKind.i64.wrap ((m:Int)+1 - 1)=(m:Int):=by rw[IntKind.wrap_i64];omega
 have HM:=hI hm;have h4:=hI g0;clear g3 eE q1 q2 q3 c3 g0;clear ho hq c4 h3 g1 g5 g9 g6 g7 hm;obtain⟨pr,c6⟩:∃ pr,pr=qN ⟨y.pe,y.len,y.hei,y.cl,y.all,y.be⟩ (y.lgn:Int):=⟨_,rfl⟩;have e4:=hI c6;have l:Below w.heap.size w ((w.alloc (.cells #[int i64 5,.string y.own,int i64 ((m:Int)+1),.slice q y.lgn K,int i64 y.pe,int i64 y.len,int i64 y.hei,int i64 y.cl,.bool y.all,int i64 y.be,int i64 y.unt,int i64 y.now] 120)).alloc (.cells #[int i64 0,int i64 0,int i64 0,.slice none 0 0] 116)):=zl (zl bZ _) _;have P:=zc (heap_alloc_new w (.cells #[int i64 5,.string y.own,int i64 ((m:Int)+1),.slice q y.lgn K,int i64 y.pe,int i64 y.len,int i64 y.hei,int i64 y.cl,.bool y.all,int i64 y.be,int i64 y.unt,int i64 y.now] 120)) (.cells #[int i64 0,int i64 0,int i64 0,.slice none 0 0] 116);have U:=zbZ w (.cells #[int i64 5,.string y.own,int i64 ((m:Int)+1),.slice q y.lgn K,int i64 y.pe,int i64 y.len,int i64 y.hei,int i64 y.cl,.bool y.all,int i64 y.be,int i64 y.unt,int i64 y.now] 120) (.cells #[int i64 0,int i64 0,int i64 0,.slice none 0 0] 116);go_enter Tryz.func119,Tryz.ntmps119;go_wp2_with fail;generalize ((w.alloc (.cells #[int i64 5,.string y.own,int i64 ((m:Int)+1),.slice q y.lgn K,int i64 y.pe,int i64 y.len,int i64 y.hei,int i64 y.cl,.bool y.all,int i64 y.be,int i64 y.unt,int i64 y.now] 120)).alloc (.cells #[int i64 0,int i64 0,int i64 0,.slice none 0 0] 116))=W at l P U ⊢;refine(qB y.pe y.len y.hei y.cl y.all y.be (y.lgn:Int) _ j8 (by unfold In;omega)).mono ?_
 rintro e V ⟨rfl,a9⟩;rw[← c6];clear c6;replace l:=zf l a9;replace P:=zb P a9;replace U:=zb U a9;clear a9 W;have o0:=za P 0 _ rfl;have n2:∀ G:zv V,G.val.cell? ⟨g,2,none⟩=some (.slice (some ⟨c,0,none⟩) R I):=fun G=>za (zb HQ.out (zf l G.bel)) 2 _ rfl
 have m2:∀ G:zv V,G.val.cell? ⟨w.heap.size,2,none⟩=some (int i64 ((m:Int)+1)):=fun G=>za (zb P G.bel) 2 _ rfl
 go_upto_region 17 with fail;refine zg (by kernel_rfl) (by kernel_rfl) ?_
 repeat(first|go_big_quiet_skip|(go_big_quiet_want;go_big_quiet_op;first|go_big_quiet_on|fail))
 refine wpQuiet_nil ?_;rintro _ ⟨G,rfl⟩;replace l:=zf l G.bel;replace P:=zb P G.bel;replace U:=zb U G.bel;have j9:=zQ U;have o2:=za P 2 _ rfl;clear o0 n2 m2;have o0:∀ o,(G.val.alloc o).cell? ⟨w.heap.size,0,none⟩=some (int i64 5):=fun o=>za (zc P o) 0 _ rfl
 go_upto_region 20 with fail;replace l:=zl l (.cells #[int i64 0,int i64 ((m:Int)+1),int i64 0,.slice none 0 0] 116);replace P:=zc P (.cells #[int i64 0,int i64 ((m:Int)+1),int i64 0,.slice none 0 0] 116);replace U:=zc U (.cells #[int i64 0,int i64 ((m:Int)+1),int i64 0,.slice none 0 0] 116);have bT:=heap_alloc_new G.val (.cells #[int i64 0,int i64 ((m:Int)+1),int i64 0,.slice none 0 0] 116);generalize G.val.alloc (.cells #[int i64 0,int i64 ((m:Int)+1),int i64 0,.slice none 0 0] 116)=X at l P U bT ⊢;generalize G.val.heap.size=tb at bT j9 ⊢;clear o0 o2 G V;have e8:=zb c9.out l;have k1:=h9.out X l 1 _ rfl;have f1:=ze e8 (m*13+1);go_upto_region 26 with fail;have t:zA X (X.setCell ⟨c,m*13+1,none⟩ (int i64 d)) (fun b=>b=c):=((zA.refl X (fun b=>b=c)).set (a:=⟨c,m*13+1,none⟩) rfl _)
 have b6:Hid ((X.setCell ⟨c,m*13+1,none⟩ (int i64 d)).ownsRow base 43 13 (.slice (some ⟨c,0,none⟩) R I) R (Qq (Zl x.bk m { x.bk m with who:=d }) (atV E m (E m)) R)):=by
  refine own_congr (own_store ((HO.out.below l).bk.row) (m*13+1) (int i64 d)) (fun j _=>zbd 13 (by decide) (k:=m) (C:=bkC x.bk E) (C':=bkC (Zl x.bk m { x.bk m with who:=d }) (atV E m (E m))) (f:=fun i=>if i=m*13+1 then (int i64 d:Value) else recCell 13 (bkC x.bk E) i) (fun r hr=>?_) (fun j hj=>?_) (fun i hi=>?_) j)
  ·have s:=zz 13 (bkC x.bk E) m r hr
   unfold bkC;rw[qA,atV_at];unfold bkC at s;have a0:r=0∨r=1∨r=2∨r=3∨r=4∨r=5∨r=6∨r=7∨r=8∨r=9∨r=10∨r=11∨r=12:=by omega
   rcases a0 with rfl|rfl|rfl|rfl|rfl|rfl|rfl|rfl|rfl|rfl|rfl|rfl|rfl
   ·rw[if_neg (by omega),s];rfl
   ·rw[if_pos (by omega)];rfl
   ·rw[if_neg (by omega),s];rfl
   ·rw[if_neg (by omega),s];rfl
   ·rw[if_neg (by omega),s];rfl
   ·rw[if_neg (by omega),s];rfl
   ·rw[if_neg (by omega),s];rfl
   ·rw[if_neg (by omega),s];rfl
   ·rw[if_neg (by omega),s];rfl
   ·rw[if_neg (by omega),s];rfl
   ·rw[if_neg (by omega),s];rfl
   ·rw[if_neg (by omega),s];rfl
   ·rw[if_neg (by omega),s];rfl
  ·rw[if_neg (by omega)]
  ·unfold bkC
   rw[Zp _ _ _ hi,atV_ne _ _ _ _ hi]
 have Q:Hid _:=(HO.out.below l).putBk t b6.out ((HO.out.below l).bk.legs m HM.out) (HO.out.bk.far_same HM.out);have g4:g≠c:=fun e=>by have h:=c9.out;rw[← e,HQ.out] at h;simp at h
 have j7:w.heap.size<=X.heap.size:=l.size;have qQ:=t.blk (zb HQ.out l) g4;have e9:=t.blk bT (by show ¬ _=_;omega)
 have e7:=t.blk U (by show ¬ _=_;omega)
 have c2:=t.blk P (by show ¬ _=_;omega)
 have d6:Hid (zA w (X.setCell ⟨c,m*13+1,none⟩ (int i64 d)) (fun b=>b=g∨(Value.slice (some ⟨c,0,none⟩) R I).ownBlock=some b)):=(zA.of_below l).trans (t.mono (fun b e=>.inr (by rw[show b=c from e];rfl)))
 have j6:∀ z,Below X.heap.size X z->True:=fun _ _=>trivial
 have d7:=hI (ints_off t (i4.out.below l) i5.out h4.out);have g8:X.heap.size<=(X.setCell ⟨c,m*13+1,none⟩ (int i64 d)).heap.size:=t.size;generalize (X.setCell ⟨c,m*13+1,none⟩ (int i64 d))=Y at t b6 Q qQ e9 e7 c2 d6 d7 g8 ⊢;clear bT U P k1 f1 e8 b6 t j6;have l3:∀ o,(Y.alloc o).cell? ⟨w.heap.size,3,none⟩=some (.slice q y.lgn K):=fun o=>za (zc c2 o) 3 _ rfl
 have c5:(Y.alloc (.cells #[] 3)).ownsRow Y.heap.size 3 1 (.slice (some ⟨Y.heap.size,0,none⟩) 0 0) 0 []:=⟨rfl,.inr ⟨Y.heap.size,0,#[],rfl,Nat.le_refl _,heap_alloc_new Y _,Nat.le_refl _,Nat.zero_le _,rfl,rfl⟩⟩;have h6:Hid (∀ ad,q=some ad->∀ j u,(zw y.lg y.lgn)[j]?=some u->(Y.alloc (.cells #[] 3)).cell? (ad.add j)=some u):=qE (d7.out.below (zl bZ _));obtain⟨m6,b5⟩:=zG Q.out.bk.row c rfl;have J:Hid (∀ V,Below Y.heap.size Y V->∀ j v,(bkC (Zl x.bk m { x.bk m with who:=d }) (atV E m (E m)) m)[j]?=some v->V.cell? ⟨c,m*13+j,none⟩=some v):=fun V hV j v hv=>by
  have hj:j<13:=by
   have h:=(List.getElem?_eq_some_iff.1 hv).1;exact h
  have h:=zx Q.out.bk.row (m*13+j) (by have:=HM.out;omega) rfl
  rw[zz 13 _ m j hj,List.getD_eq_getElem?_getD,hv] at h;exact(hV.cell (p:=⟨c,m*13+j,none⟩) (zQ b5)).trans h
 have S:w.heap.size≠c:=by omega
 go_upto_region 29 with(first|(at_builtin;refine zu _ (by rfl) (.tmp 115) (.tmp 117) 37 (by rfl) Y.heap.size 3 n0 (int i64 0) 1 8 Tryz.underlying37 ni l0 l1 l2 rfl (by decide) _ 0 [] (by rfl) c5 q y.lgn K (zw y.lg y.lgn) (by rfl) i8.out.2.2 (by rw[zW,Nat.mul_one]) h6.out (intList_one _ _) (by unfold maxLen;omega) (by omega) (by simp) ?_;intro v4 F Z g2;obtain⟨av,cv,h0,_⟩:=zr Z;rw[Nat.zero_add] at h0;subst h0;have n:=(zl (Below.refl Y.heap.size Y) (.cells #[] 3)).grown g2 (by simp) (fun j hj=>(c5.lt j hj).1);have M:=zb c2 n;have H:=zb b5 n;have k3:=J.out F n 3 _ rfl;have f3:=ze H (m*13+3);have k4:=J.out F n 4 _ rfl;have f4:=ze H (m*13+4);have k5:=J.out F n 5 _ rfl;have f5:=ze H (m*13+5);have k6:=J.out F n 6 _ rfl;have f6:=ze H (m*13+6);have k7:=J.out F n 7 _ rfl;have f7:=ze H (m*13+7);have k8:=J.out F n 8 _ rfl;have f8:=ze H (m*13+8);have k9:=J.out F n 9 _ rfl;have f9:=ze H (m*13+9);have k0:=J.out F n 12 _ rfl;have j3:=ze H (m*13+12);have l4:∀ v,(F.setCell ⟨c,m*13+3,none⟩ v).cell? ⟨w.heap.size,4,none⟩=some (int i64 y.pe):=fun v=>za (zB (b':=c) M (m*13+3) v S) 4 _ rfl;have l5:∀ v,(F.setCell ⟨c,m*13+3,none⟩ v).cell? ⟨w.heap.size,5,none⟩=some (int i64 y.len):=fun v=>za (zB (b':=c) M (m*13+3) v S) 5 _ rfl;have l6:∀ v,(F.setCell ⟨c,m*13+3,none⟩ v).cell? ⟨w.heap.size,6,none⟩=some (int i64 y.hei):=fun v=>za (zB (b':=c) M (m*13+3) v S) 6 _ rfl;have l7:∀ v,(F.setCell ⟨c,m*13+3,none⟩ v).cell? ⟨w.heap.size,7,none⟩=some (int i64 y.cl):=fun v=>za (zB (b':=c) M (m*13+3) v S) 7 _ rfl;have l8:∀ v,(F.setCell ⟨c,m*13+3,none⟩ v).cell? ⟨w.heap.size,8,none⟩=some (.bool y.all):=fun v=>za (zB (b':=c) M (m*13+3) v S) 8 _ rfl;have l9:∀ v,(F.setCell ⟨c,m*13+3,none⟩ v).cell? ⟨w.heap.size,9,none⟩=some (int i64 y.be):=fun v=>za (zB (b':=c) M (m*13+3) v S) 9 _ rfl))
 have d8:Hid (qg (x.bk m) d y={ x.bk m with who:=d,lgn:=y.lgn,lg:=y.lg,pe:=y.pe,len:=y.len,hei:=y.hei,cl:=y.cl,all:=y.all,be:=y.be,price:=qN ⟨y.pe,y.len,y.hei,y.cl,y.all,y.be⟩ y.lgn }):=by show _=_;simp[qg,i0.out]
 have O:zA F ((((((((F.setCell ⟨c,m*13+3,none⟩ (.slice av y.lgn cv)).setCell ⟨c,m*13+4,none⟩ (int i64 y.pe)).setCell ⟨c,m*13+4+1,none⟩ (int i64 y.len)).setCell ⟨c,m*13+4+2,none⟩ (int i64 y.hei)).setCell ⟨c,m*13+4+3,none⟩ (int i64 y.cl)).setCell ⟨c,m*13+4+4,none⟩ (.bool y.all)).setCell ⟨c,m*13+4+5,none⟩ (int i64 y.be)).setCell ⟨c,m*13+12,none⟩ (int i64 pr)) (fun b=>b=c):=(((((((((zA.refl F (fun b=>b=c)).set (a:=⟨c,m*13+3,none⟩) rfl _).set (a:=⟨c,m*13+4,none⟩) rfl _).set (a:=⟨c,m*13+4+1,none⟩) rfl _).set (a:=⟨c,m*13+4+2,none⟩) rfl _).set (a:=⟨c,m*13+4+3,none⟩) rfl _).set (a:=⟨c,m*13+4+4,none⟩) rfl _).set (a:=⟨c,m*13+4+5,none⟩) rfl _).set (a:=⟨c,m*13+12,none⟩) rfl _)
 have b7:Hid (((((((((F.setCell ⟨c,m*13+3,none⟩ (.slice av y.lgn cv)).setCell ⟨c,m*13+4,none⟩ (int i64 y.pe)).setCell ⟨c,m*13+4+1,none⟩ (int i64 y.len)).setCell ⟨c,m*13+4+2,none⟩ (int i64 y.hei)).setCell ⟨c,m*13+4+3,none⟩ (int i64 y.cl)).setCell ⟨c,m*13+4+4,none⟩ (.bool y.all)).setCell ⟨c,m*13+4+5,none⟩ (int i64 y.be)).setCell ⟨c,m*13+12,none⟩ (int i64 pr)).ownsRow base 43 13 (.slice (some ⟨c,0,none⟩) R I) R (Qq (Zl (Zl x.bk m { x.bk m with who:=d }) m (qg (x.bk m) d y)) (atV (atV E m (E m)) m (.slice av y.lgn cv)) R)):=by
  refine own_congr (own_store (own_store (own_store (own_store (own_store (own_store (own_store (own_store ((Q.out.below n).bk.row) (m*13+3) (.slice av y.lgn cv)) (m*13+4) (int i64 y.pe)) (m*13+4+1) (int i64 y.len)) (m*13+4+2) (int i64 y.hei)) (m*13+4+3) (int i64 y.cl)) (m*13+4+4) (.bool y.all)) (m*13+4+5) (int i64 y.be)) (m*13+12) (int i64 pr)) (fun j _=>zbd 13 (by decide) (k:=m) (C:=bkC (Zl x.bk m { x.bk m with who:=d }) (atV E m (E m))) (C':=bkC (Zl (Zl x.bk m { x.bk m with who:=d }) m (qg (x.bk m) d y)) (atV (atV E m (E m)) m (.slice av y.lgn cv))) (f:=fun i=>if i=m*13+12 then (int i64 pr:Value) else if i=m*13+4+5 then (int i64 y.be:Value) else if i=m*13+4+4 then (.bool y.all:Value) else if i=m*13+4+3 then (int i64 y.cl:Value) else if i=m*13+4+2 then (int i64 y.hei:Value) else if i=m*13+4+1 then (int i64 y.len:Value) else if i=m*13+4 then (int i64 y.pe:Value) else if i=m*13+3 then (.slice av y.lgn cv:Value) else recCell 13 (bkC (Zl x.bk m { x.bk m with who:=d }) (atV E m (E m))) i) (fun r hr=>?_) (fun j hj=>?_) (fun i hi=>?_) j)
  ·have s:=zz 13 (bkC (Zl x.bk m { x.bk m with who:=d }) (atV E m (E m))) m r hr
   unfold bkC;rw[qA,atV_at,d8.out];unfold bkC at s;have a0:r=0∨r=1∨r=2∨r=3∨r=4∨r=5∨r=6∨r=7∨r=8∨r=9∨r=10∨r=11∨r=12:=by omega
   rcases a0 with rfl|rfl|rfl|rfl|rfl|rfl|rfl|rfl|rfl|rfl|rfl|rfl|rfl
   ·rw[if_neg (by omega),if_neg (by omega),if_neg (by omega),if_neg (by omega),if_neg (by omega),if_neg (by omega),if_neg (by omega),if_neg (by omega),s,qA];rfl
   ·rw[if_neg (by omega),if_neg (by omega),if_neg (by omega),if_neg (by omega),if_neg (by omega),if_neg (by omega),if_neg (by omega),if_neg (by omega),s,qA];rfl
   ·rw[if_neg (by omega),if_neg (by omega),if_neg (by omega),if_neg (by omega),if_neg (by omega),if_neg (by omega),if_neg (by omega),if_neg (by omega),s,qA];rfl
   ·rw[if_neg (by omega),if_neg (by omega),if_neg (by omega),if_neg (by omega),if_neg (by omega),if_neg (by omega),if_neg (by omega),if_pos (by omega)];rfl
   ·rw[if_neg (by omega),if_neg (by omega),if_neg (by omega),if_neg (by omega),if_neg (by omega),if_neg (by omega),if_pos (by omega)];rfl
   ·rw[if_neg (by omega),if_neg (by omega),if_neg (by omega),if_neg (by omega),if_neg (by omega),if_pos (by omega)];rfl
   ·rw[if_neg (by omega),if_neg (by omega),if_neg (by omega),if_neg (by omega),if_pos (by omega)];rfl
   ·rw[if_neg (by omega),if_neg (by omega),if_neg (by omega),if_pos (by omega)];rfl
   ·rw[if_neg (by omega),if_neg (by omega),if_pos (by omega)];rfl
   ·rw[if_neg (by omega),if_pos (by omega)];rfl
   ·rw[if_neg (by omega),if_neg (by omega),if_neg (by omega),if_neg (by omega),if_neg (by omega),if_neg (by omega),if_neg (by omega),if_neg (by omega),s,qA];rfl
   ·rw[if_neg (by omega),if_neg (by omega),if_neg (by omega),if_neg (by omega),if_neg (by omega),if_neg (by omega),if_neg (by omega),if_neg (by omega),s,qA];rfl
   ·rw[if_pos (by omega),e4.out];rfl
  ·rw[if_neg (by omega),if_neg (by omega),if_neg (by omega),if_neg (by omega),if_neg (by omega),if_neg (by omega),if_neg (by omega),if_neg (by omega)]
  ·unfold bkC
   rw[Zp _ _ _ hi,atV_ne _ _ _ _ hi]
 have b8:Hid _:=(Q.out.below n).putBk O b7.out (by rw[d8.out];refine zC ?_ (Nat.le_trans h5.out (Nat.le_trans j7 g8));rw[Nat.zero_add,List.nil_append] at Z;exact Z) (fun i hi m8 b h1 h2=>by have a1:=((Q.out.bk.legs i hi).lt b h1).2;have a2:=(Z.lt b h2).1;omega)
 have b9:Hid (zy ((((((((F.setCell ⟨c,m*13+3,none⟩ (.slice av y.lgn cv)).setCell ⟨c,m*13+4,none⟩ (int i64 y.pe)).setCell ⟨c,m*13+4+1,none⟩ (int i64 y.len)).setCell ⟨c,m*13+4+2,none⟩ (int i64 y.hei)).setCell ⟨c,m*13+4+3,none⟩ (int i64 y.cl)).setCell ⟨c,m*13+4+4,none⟩ (.bool y.all)).setCell ⟨c,m*13+4+5,none⟩ (int i64 y.be)).setCell ⟨c,m*13+12,none⟩ (int i64 pr)) base (.slice a5 N a8) (.slice a3 N a7) (.slice (some ⟨c,0,none⟩) R I) N N R { x with bk:=Zl x.bk m (qg (x.bk m) d y) } L C A B D (atV (atV E m (E m)) m (.slice av y.lgn cv))):=by have h:=b8.out;rw[setB_setB] at h;exact h
 have e5:=O.blk (zb qQ n) g4;have a6:=O.blk (zb e9 n) (by show ¬ _=_;omega)
 have e6:=O.blk (zb e7 n) (by show ¬ _=_;omega)
 have d5:=(d6.out.trans (zA.of_below n)).trans (O.mono (T:=(fun b=>b=g∨(Value.slice (some ⟨c,0,none⟩) R I).ownBlock=some b)) (fun b e=>.inr (by rw[show b=c from e];rfl)))
 generalize ((((((((F.setCell ⟨c,m*13+3,none⟩ (.slice av y.lgn cv)).setCell ⟨c,m*13+4,none⟩ (int i64 y.pe)).setCell ⟨c,m*13+4+1,none⟩ (int i64 y.len)).setCell ⟨c,m*13+4+2,none⟩ (int i64 y.hei)).setCell ⟨c,m*13+4+3,none⟩ (int i64 y.cl)).setCell ⟨c,m*13+4+4,none⟩ (.bool y.all)).setCell ⟨c,m*13+4+5,none⟩ (int i64 y.be)).setCell ⟨c,m*13+12,none⟩ (int i64 pr))=Z1 at b9 e5 a6 e6 d5 O b7 b8 ⊢;have i7:Hid _:=b9;clear O b7 b8 b9;clear k3 f3;clear k4 f4;clear k5 f5;clear k6 f6;clear k7 f7;clear k8 f8;clear k9 f9;clear k0 j3;clear l3 l4 l5 l6 l7 l8 l9 c5 Z g2 M H n;have f2:w.heap.size+1≠tb:=by omega
 obtain⟨i6,j4,i3,c1,j0⟩:=zcR d5 i7.out e5 e6 a6 f2 (by omega) (int i64 (pr)) rfl
 obtain⟨d9,f0,d0,bF⟩:=QE i3 i6 j4 c1 (by omega) (int i64 0) (int i64 ((m:Int)+1)) (int i64 (pr)) (.slice none 0 0) rfl
 obtain⟨t0,t1,t2,t3⟩:=ce4 j0;have s2:=za a6 2 _ rfl;have s3:=ze a6 2;obtain⟨v0,v1,v2,v3⟩:=ce4 c1;obtain⟨e0,e1,e2,e3⟩:=fe4 c1;have b0:Hid _:=d9;have c8:Hid _:=f0;have c7:Hid _:=d0;clear d9 f0 d0;go_wp2;obtain⟨x0,x1,x2,x3⟩:=ce4 bF;refine bodyPost_ret (v:=.agg #[int i64 0,int i64 ((m:Int)+1),int i64 (pr),.slice none 0 0]) (by simp[results,Tryz.results119,go_sem,x0,x1,x2,x3]) rfl ?_
 have s:=i9.out;subst s;rw[e4.out] at b0 c8 c7 ⊢;exact⟨_,_,_,_,rfl,rfl,b0.out,c8.out,c7.out⟩
theorem Q9 {G:Nat->Int}{x:Int}{n:Nat}(h:ZC G x n<n):qL G x n=(ZC G x n:Int):=by unfold qL;rw[if_pos h]
theorem zaa {G:Nat->Int}{x:Int}{n:Nat}(h:¬ ZC G x n<n):qL G x n=-1:=QL (fun c=>h ((zaA G n x).1 c))
theorem QO (b:qi)(k:Option Addr)(o:Nat)(l:qm)(m:Option Addr)(u:Nat)(w:World)(hn:l.stn<=1048576)(J:qp w m l.stn l.st) :
  Calls Tryz.prog 35 #[.slice m l.stn u,.agg #[int i64 b.name,int i64 b.who,.string b.own,.slice k b.lgn o,int i64 b.pe,int i64 b.len,int i64 b.hei,int i64 b.cl,.bool b.all,int i64 b.be,int i64 b.state,int i64 b.unt,int i64 b.price]] w fun e w'=>SaysIf (zcm l b) e/\Below w.heap.size w w':=by
 have G:Hid (qp w m l.stn l.st):=J;clear J;obtain⟨n,x⟩:∃ c,c=decide (¬ (b.len=0/\b.hei=0)):=⟨_,rfl⟩;have z:Hid (n=decide (¬ (b.len=0/\b.hei=0))):=x;clear x;have s:Below w.heap.size w (w.alloc (.cells #[int i64 b.name,int i64 b.who,.string b.own,.slice k b.lgn o,int i64 b.pe,int i64 b.len,int i64 b.hei,int i64 b.cl,.bool b.all,int i64 b.be,int i64 b.state,int i64 b.unt,int i64 b.price] 43)):=zl bZ _;have f:=heap_alloc_new w (.cells #[int i64 b.name,int i64 b.who,.string b.own,.slice k b.lgn o,int i64 b.pe,int i64 b.len,int i64 b.hei,int i64 b.cl,.bool b.all,int i64 b.be,int i64 b.state,int i64 b.unt,int i64 b.price] 43);go_enter Tryz.func35,Tryz.ntmps35;go_wp2_with fail;generalize hBx:w.heap.size=C at f ⊢;generalize w.alloc (.cells #[int i64 b.name,int i64 b.who,.string b.own,.slice k b.lgn o,int i64 b.pe,int i64 b.len,int i64 b.hei,int i64 b.cl,.bool b.all,int i64 b.be,int i64 b.state,int i64 b.unt,int i64 b.price] 43)=V at s f ⊢;have Q:=za f 4 _ rfl;have R:=za f 5 _ rfl;have S:=za f 6 _ rfl;have T:=za f 7 _ rfl;have U:=za f 8 _ rfl;have X:=za f 9 _ rfl;refine(zbf b.pe b.len b.hei b.cl b.all b.be _).mono ?_;rw[← z.out];rintro e V1 ⟨rfl,a⟩;have q:=zb f a;have t:=zf s a;clear Q R S T U X f s a
 cases n with
 | false =>
  have j:Hid (zcm l b):=.inl (by have:=z.out;simp at this;exact⟨this.1,this.2⟩)
  go_wp2;go_ret;exact⟨zI j.out,t⟩
 | true =>
  have D:Hid (¬ zaq b):=by have:=of_decide_eq_true z.out.symm;exact fun h=>this h
  clear z;have P:=za q 1 _ rfl;go_upto_region 4 with(first|(go_at_call 56;refine(Q8 m l.stn u l.st b.who _ hn (G.out.below t)).mono ?_;rintro e W ⟨rfl,a⟩;have b1:=zb q a;have d:=zf t a))
  have v:C<W.heap.size:=zQ b1;clear P q a hBx
  by_cases hf:ZC (Zb l.st) b.who l.stn<l.stn
  case neg =>
   have L:decide (0<=qL (Zb l.st) b.who l.stn)=false:=by rw[zaa hf];rfl
   have j:Hid (¬ zcm l b):=fun h=>by rcases h with h|h;exact D.out h;exact hf h.1
   clear hf;generalize qL (Zb l.st) b.who l.stn=r at L ⊢;refine zg (by kernel_rfl) (by kernel_rfl) ?_
   repeat(first|go_big_quiet_skip|(go_big_quiet_want;go_big_quiet_op;go_big_quiet_on))
   refine wpQuiet_nil ?_;rintro _ ⟨g,rfl⟩;go_wp2;go_ret;exact⟨zk j.out,zf d g.bel⟩
  rw[Q9 hf];obtain⟨i,F⟩:∃ i,i=ZC (Zb l.st) b.who l.stn:=⟨_,rfl⟩;rw[← F] at hf ⊢;have E:Hid (i=ZC (Zb l.st) b.who l.stn):=F;clear F;obtain⟨A,B,rfl,H,O,I,f3⟩:=G.out i hf;have y:=World.block_lt_of_cell? w _ H;have q2:∀ g:zv W,g.val.cell? ⟨A,B+i*4+2,none⟩=some (int i64 (l.st i).len):=fun g=>((zf d g.bel).cell (p:=⟨A,B+i*4+2,none⟩) y).trans I
  have q3:∀ g:zv W,g.val.cell? ⟨A,B+i*4+3,none⟩=some (int i64 (l.st i).hei):=fun g=>((zf d g.bel).cell (p:=⟨A,B+i*4+3,none⟩) y).trans f3
  have z5:∀ g:zv W,g.val.cell? ⟨C,5,none⟩=some (int i64 b.len):=fun g=>(g.bel.cell v).trans (za b1 5 _ rfl)
  have z6:∀ g:zv W,g.val.cell? ⟨C,6,none⟩=some (int i64 b.hei):=fun g=>(g.bel.cell v).trans (za b1 6 _ rfl)
  have i0:decide (0<=(i:Int))=true:=by simp
  have i1:(0:Int)<=(i:Int):=by omega
  have i2:(i:Int)<(l.stn:Int):=by omega
  have K:Hid (i<l.stn):=hf;clear H O I f3 hf
  by_cases c1:(l.st i).len=b.len
  case neg =>
   have M:((l.st i).len == b.len)=false:=by simpa using c1
   have j:Hid (¬ zcm l b):=fun h=>by rcases h with h|h;exact D.out h;exact c1 (by rw[E.out];exact h.2.1)
   clear c1;refine zg (by kernel_rfl) (by kernel_rfl) ?_
   repeat(first|go_big_quiet_skip|(go_big_quiet_want;go_big_quiet_op;go_big_quiet_on))
   refine wpQuiet_nil ?_;rintro _ ⟨g,rfl⟩;go_wp2;go_ret;exact⟨zk j.out,zf d g.bel⟩
  have M:((l.st i).len == b.len)=true:=by simpa using c1
  by_cases n:(l.st i).hei=b.hei
  case neg =>
   have N:((l.st i).hei == b.hei)=false:=by simpa using n
   have j:Hid (¬ zcm l b):=fun h=>by rcases h with h|h;exact D.out h;exact n (by rw[E.out];exact h.2.2)
   clear c1 n;refine zg (by kernel_rfl) (by kernel_rfl) ?_
   repeat(first|go_big_quiet_skip|(go_big_quiet_want;go_big_quiet_op;go_big_quiet_on))
   refine wpQuiet_nil ?_;rintro _ ⟨g,rfl⟩;go_wp2;go_ret;exact⟨zk j.out,zf d g.bel⟩
  have N:((l.st i).hei == b.hei)=true:=by simpa using n
  have j:Hid (zcm l b):=.inr (by rw[← E.out];exact⟨K.out,c1,n⟩)
  clear c1 n;refine zg (by kernel_rfl) (by kernel_rfl) ?_
  repeat(first|go_big_quiet_skip|(go_big_quiet_want;go_big_quiet_op;go_big_quiet_on))
  refine wpQuiet_nil ?_;rintro _ ⟨g,rfl⟩;go_wp2;go_ret;exact⟨zI j.out,zf d g.bel⟩
theorem Qh (b:qi)(a:Option Addr)(d:Nat)(l:qm)(c:Option Addr)(o:Nat)(w:World)(hn:l.sen<=1048576)(A:qx w c l.sen l.se) :
  Calls Tryz.prog 37 #[.slice c l.sen o,.agg #[int i64 b.name,int i64 b.who,.string b.own,.slice a b.lgn d,int i64 b.pe,int i64 b.len,int i64 b.hei,int i64 b.cl,.bool b.all,int i64 b.be,int i64 b.state,int i64 b.unt,int i64 b.price]] w fun e w'=>SaysIf (zcn l b) e/\Below w.heap.size w w':=by
 have x:Hid (qx w c l.sen l.se):=A;clear A;have j:Below w.heap.size w (w.alloc (.cells #[int i64 b.name,int i64 b.who,.string b.own,.slice a b.lgn d,int i64 b.pe,int i64 b.len,int i64 b.hei,int i64 b.cl,.bool b.all,int i64 b.be,int i64 b.state,int i64 b.unt,int i64 b.price] 43)):=zl bZ _;have n:=heap_alloc_new w (.cells #[int i64 b.name,int i64 b.who,.string b.own,.slice a b.lgn d,int i64 b.pe,int i64 b.len,int i64 b.hei,int i64 b.cl,.bool b.all,int i64 b.be,int i64 b.state,int i64 b.unt,int i64 b.price] 43);go_enter Tryz.func37,Tryz.ntmps37;go_wp2_with fail;generalize hBx:w.heap.size=u at n ⊢;generalize w.alloc (.cells #[int i64 b.name,int i64 b.who,.string b.own,.slice a b.lgn d,int i64 b.pe,int i64 b.len,int i64 b.hei,int i64 b.cl,.bool b.all,int i64 b.be,int i64 b.state,int i64 b.unt,int i64 b.price] 43)=V at j n ⊢;have G:=za n 1 _ rfl;refine(zaO c l.sen o l.se b.who _ hn (x.out.below j)).mono ?_;rintro e W ⟨rfl,k⟩;have b1:=zb n k;have f:=zf j k;have q:u<W.heap.size:=zQ b1;clear G n k hBx
 by_cases hf:ZC (ZG l.se) b.who l.sen<l.sen
 case neg =>
  have E:decide (0<=qL (ZG l.se) b.who l.sen)=false:=by rw[zaa hf];rfl
  have m:Hid (¬ zcn l b):=fun h=>hf h.1
  clear hf;generalize qL (ZG l.se) b.who l.sen=r at E ⊢;go_upto_region 2 with fail;refine zg (by kernel_rfl) (by kernel_rfl) ?_
  repeat(first|go_big_quiet_skip|(go_big_quiet_want;go_big_quiet_op;go_big_quiet_on))
  refine wpQuiet_nil ?_;rintro _ ⟨g,rfl⟩;go_wp2;go_ret;exact⟨zk m.out,zf f g.bel⟩
 rw[Q9 hf];obtain⟨i,s⟩:∃ i,i=ZC (ZG l.se) b.who l.sen:=⟨_,rfl⟩;rw[← s] at hf ⊢;have v:Hid (i=ZC (ZG l.se) b.who l.sen):=s;clear s;obtain⟨B,C,rfl,y,z⟩:=x.out i hf;have t:=World.block_lt_of_cell? w _ y;have q1:∀ g:zv W,g.val.cell? ⟨B,C+i*2+1,none⟩=some (int i64 (l.se i).many):=fun g=>((zf f g.bel).cell (p:=⟨B,C+i*2+1,none⟩) t).trans z
 have z4:∀ g:zv W,g.val.cell? ⟨u,4,none⟩=some (int i64 b.pe):=fun g=>(g.bel.cell q).trans (za b1 4 _ rfl)
 have i0:decide (0<=(i:Int))=true:=by simp
 have i1:(0:Int)<=(i:Int):=by omega
 have i2:(i:Int)<(l.sen:Int):=by omega
 have D:Hid (i<l.sen):=hf;clear y z hf
 by_cases c1:(l.se i).many=b.pe
 case neg =>
  have F:((l.se i).many == b.pe)=false:=by simpa using c1
  have m:Hid (¬ zcn l b):=fun h=>c1 (by rw[v.out];exact h.2)
  clear c1;go_upto_region 2 with fail;refine zg (by kernel_rfl) (by kernel_rfl) ?_
  repeat(first|go_big_quiet_skip|(go_big_quiet_want;go_big_quiet_op;go_big_quiet_on))
  refine wpQuiet_nil ?_;rintro _ ⟨g,rfl⟩;go_wp2;go_ret;exact⟨zk m.out,zf f g.bel⟩
 have F:((l.se i).many == b.pe)=true:=by simpa using c1
 have m:Hid (zcn l b):=by show zcn l b;unfold zcn;rw[← v.out];exact⟨D.out,c1⟩
 clear c1;go_upto_region 2 with fail;refine zg (by kernel_rfl) (by kernel_rfl) ?_
 repeat(first|go_big_quiet_skip|(go_big_quiet_want;go_big_quiet_op;go_big_quiet_on))
 refine wpQuiet_nil ?_;rintro _ ⟨g,rfl⟩;go_wp2;go_ret;exact⟨zI m.out,zf f g.bel⟩
theorem Qi (b:qi)(v:Option Addr)(y:Nat)(s:Sail)(l:qm)(A x:Option Addr)(T L:Nat)(w:World)(hn:l.ron<=1048576)(z:∀ j,j<l.ron->0<=(l.ro j).cab/\(l.ro j).cab<s.ca.n)(hx:zT w A s.ca)(hz:qo w x l.ron l.ro) :
  Calls Tryz.prog 36 #[.slice A s.ca.n T,.slice x l.ron L,.agg #[int i64 b.name,int i64 b.who,.string b.own,.slice v b.lgn y,int i64 b.pe,int i64 b.len,int i64 b.hei,int i64 b.cl,.bool b.all,int i64 b.be,int i64 b.state,int i64 b.unt,int i64 b.price]] w fun e w'=>SaysIf (zbD s l b) e/\Below w.heap.size w w':=by
 have HZ:Hid (qo w x l.ron l.ro):=hz;have HX:Hid (zT w A s.ca):=hx;have J:Hid (∀ j,j<l.ron->0<=(l.ro j).cab/\(l.ro j).cab<s.ca.n):=z;clear hz hx z;obtain⟨c2,M⟩:∃ c,c=decide (¬ (b.cl=0/\b.all=false/\b.be=0)):=⟨_,rfl⟩;have Q:Hid (c2=decide (¬ (b.cl=0/\b.all=false/\b.be=0))):=M;clear M;have D:Below w.heap.size w (w.alloc (.cells #[int i64 b.name,int i64 b.who,.string b.own,.slice v b.lgn y,int i64 b.pe,int i64 b.len,int i64 b.hei,int i64 b.cl,.bool b.all,int i64 b.be,int i64 b.state,int i64 b.unt,int i64 b.price] 43)):=zl bZ _;have u:=heap_alloc_new w (.cells #[int i64 b.name,int i64 b.who,.string b.own,.slice v b.lgn y,int i64 b.pe,int i64 b.len,int i64 b.hei,int i64 b.cl,.bool b.all,int i64 b.be,int i64 b.state,int i64 b.unt,int i64 b.price] 43);go_enter Tryz.func36,Tryz.ntmps36;go_wp2_with fail;generalize hBx:w.heap.size=t at u ⊢;generalize w.alloc (.cells #[int i64 b.name,int i64 b.who,.string b.own,.slice v b.lgn y,int i64 b.pe,int i64 b.len,int i64 b.hei,int i64 b.cl,.bool b.all,int i64 b.be,int i64 b.state,int i64 b.unt,int i64 b.price] 43)=V at D u ⊢;have y4:=za u 4 _ rfl;have y5:=za u 5 _ rfl;have y6:=za u 6 _ rfl;have y7:=za u 7 _ rfl;have y8:=za u 8 _ rfl;have y9:=za u 9 _ rfl;refine(ZZ b.pe b.len b.hei b.cl b.all b.be _).mono ?_;rw[← Q.out];rintro e V1 ⟨rfl,m⟩;have B:=zb u m;have E:=zf D m;clear y4 y5 y6 y7 y8 y9 u D m
 cases c2 with
 | false =>
  have f:Hid (zbD s l b):=.inl (by have:=Q.out;simp at this;exact⟨this.1,this.2.1,this.2.2⟩)
  go_wp2;go_ret;exact⟨zI f.out,E⟩
 | true =>
  have R:Hid (¬ QS b):=by have:=of_decide_eq_true Q.out.symm;exact fun h=>this h
  clear Q;have y1:=za B 1 _ rfl;go_upto_region 4 with(first|(go_at_call 57;refine(Qx x l.ron L l.ro b.who _ hn (HZ.out.below E)).mono ?_;rintro e W ⟨rfl,m⟩;have b1:=zb B m;have a:=zf E m))
  have C:t<W.heap.size:=zQ b1;clear y1 B m hBx
  by_cases hf:ZC (Zh l.ro) b.who l.ron<l.ron
  case neg =>
   have e0:decide (0<=qL (Zh l.ro) b.who l.ron)=false:=by rw[zaa hf];rfl
   have f:Hid (¬ zbD s l b):=fun h=>by rcases h with h|h;exact R.out h;exact hf h.1
   clear hf;generalize qL (Zh l.ro) b.who l.ron=r at e0 ⊢;refine zg (by kernel_rfl) (by kernel_rfl) ?_
   repeat(first|go_big_quiet_skip|(go_big_quiet_want;go_big_quiet_op;go_big_quiet_on))
   refine wpQuiet_nil ?_;rintro _ ⟨g,rfl⟩;go_wp2;go_ret;exact⟨zk f.out,zf a g.bel⟩
  rw[Q9 hf];obtain⟨i,Y⟩:∃ i,i=ZC (Zh l.ro) b.who l.ron:=⟨_,rfl⟩;rw[← Y] at hf ⊢;have K:Hid (i=ZC (Zh l.ro) b.who l.ron):=Y;clear Y;obtain⟨n,N⟩:∃ k:Nat,(l.ro i).cab=(k:Int):=⟨(l.ro i).cab.toNat,by have:=J.out i hf;omega⟩
  have Z:n<s.ca.n:=by have:=J.out i hf;omega
  have S:Hid ((l.ro i).cab.toNat=n):=by show(l.ro i).cab.toNat=n;omega
  obtain⟨o,q,rfl,f0,f1,f2,f3⟩:=HZ.out i hf;obtain⟨xb,xo,rfl,X,g1⟩:=HX.out n Z;have F:=World.block_lt_of_cell? w _ f0;have a0:=World.block_lt_of_cell? w _ X;have q1:∀ g:zv W,g.val.cell? ⟨o,q+i*4+1,none⟩=some (int i64 (n:Int)):=fun g=>((zf a g.bel).cell (p:=⟨o,q+i*4+1,none⟩) F).trans (by rw[f1,N])
  have q2:∀ g:zv W,g.val.cell? ⟨o,q+i*4+2,none⟩=some (int i64 (l.ro i).many):=fun g=>((zf a g.bel).cell (p:=⟨o,q+i*4+2,none⟩) F).trans f2
  have p0:∀ g:zv W,g.val.cell? ⟨xb,xo+n*2,none⟩=some (int i64 (s.ca.A n)):=fun g=>((zf a g.bel).cell (p:=⟨xb,xo+n*2,none⟩) a0).trans X
  have G:Hid (∀ g:zv W,g.val.cell? ⟨o,q+i*4+3,none⟩=some (.bool (l.ro i).all)):=fun g=>((zf a g.bel).cell (p:=⟨o,q+i*4+3,none⟩) F).trans f3
  have H:Hid (∀ g:zv W,g.val.cell? ⟨t,8,none⟩=some (.bool b.all)):=fun g=>(g.bel.cell C).trans (za b1 8 _ rfl)
  have z7:∀ g:zv W,g.val.cell? ⟨t,7,none⟩=some (int i64 b.cl):=fun g=>(g.bel.cell C).trans (za b1 7 _ rfl)
  have z9:∀ g:zv W,g.val.cell? ⟨t,9,none⟩=some (int i64 b.be):=fun g=>(g.bel.cell C).trans (za b1 9 _ rfl)
  have i0:decide (0<=(i:Int))=true:=by simp
  have i1:(0:Int)<=(i:Int):=by omega
  have i2:(i:Int)<(l.ron:Int):=by omega
  have k1:(0:Int)<=(n:Int):=by omega
  have k2:(n:Int)<(s.ca.n:Int):=by omega
  have HF:Hid (i<l.ron):=hf;clear f0 f1 f2 f3 X g1 hf N
  by_cases ca:(l.ro i).all=b.all
  case neg =>
   have f:Hid (¬ zbD s l b):=fun h=>by rcases h with h|h;exact R.out h;exact ca (by rw[K.out];exact h.2.1)
   cases hba:b.all with
   | true =>
    have d:(l.ro i).all=false:=by cases d:(l.ro i).all;rfl;rw[d,hba] at ca;exact absurd rfl ca
    have O:∀ g:zv W,g.val.cell? ⟨o,q+i*4+3,none⟩=some (.bool false):=fun g=>by rw[G.out g,d]
    have P:∀ g:zv W,g.val.cell? ⟨t,8,none⟩=some (.bool true):=fun g=>by rw[H.out g,hba]
    clear ca hba d;refine zg (by kernel_rfl) (by kernel_rfl) ?_
    repeat(first|go_big_quiet_skip|(go_big_quiet_want;go_big_quiet_op;go_big_quiet_on))
    refine wpQuiet_nil ?_;rintro _ ⟨g,rfl⟩;go_wp2;go_ret;exact⟨zk f.out,zf a g.bel⟩
   | false =>
    have d:(l.ro i).all=true:=by cases d:(l.ro i).all;rw[d,hba] at ca;exact absurd rfl ca;rfl
    have O:∀ g:zv W,g.val.cell? ⟨o,q+i*4+3,none⟩=some (.bool true):=fun g=>by rw[G.out g,d]
    have P:∀ g:zv W,g.val.cell? ⟨t,8,none⟩=some (.bool false):=fun g=>by rw[H.out g,hba]
    clear ca hba d;refine zg (by kernel_rfl) (by kernel_rfl) ?_
    repeat(first|go_big_quiet_skip|(go_big_quiet_want;go_big_quiet_op;go_big_quiet_on))
    refine wpQuiet_nil ?_;rintro _ ⟨g,rfl⟩;go_wp2;go_ret;exact⟨zk f.out,zf a g.bel⟩
  have I:Hid ((l.ro i).all=b.all):=ca
  by_cases cc:s.ca.A n=b.cl
  case neg =>
   have ec:(s.ca.A n == b.cl)=false:=by simpa using cc
   have f:Hid (¬ zbD s l b):=fun h=>by rcases h with h|h;exact R.out h;exact cc (by rw[← S.out,K.out];exact h.2.2.2)
   cases hba:b.all with
   | true =>
    have O:∀ g:zv W,g.val.cell? ⟨o,q+i*4+3,none⟩=some (.bool true):=fun g=>by rw[G.out g,ca,hba]
    have P:∀ g:zv W,g.val.cell? ⟨t,8,none⟩=some (.bool true):=fun g=>by rw[H.out g,hba]
    clear ca cc hba;refine zg (by kernel_rfl) (by kernel_rfl) ?_
    repeat(first|go_big_quiet_skip|(go_big_quiet_want;go_big_quiet_op;go_big_quiet_on))
    refine wpQuiet_nil ?_;rintro _ ⟨g,rfl⟩;go_wp2;go_ret;exact⟨zk f.out,zf a g.bel⟩
   | false =>
    have O:∀ g:zv W,g.val.cell? ⟨o,q+i*4+3,none⟩=some (.bool false):=fun g=>by rw[G.out g,ca,hba]
    have P:∀ g:zv W,g.val.cell? ⟨t,8,none⟩=some (.bool false):=fun g=>by rw[H.out g,hba]
    clear ca cc hba
    by_cases cm:(l.ro i).many=b.be
    ·have U:((l.ro i).many == b.be)=true:=by simpa using cm
     clear cm;refine zg (by kernel_rfl) (by kernel_rfl) ?_
     repeat(first|go_big_quiet_skip|(go_big_quiet_want;go_big_quiet_op;go_big_quiet_on))
     refine wpQuiet_nil ?_;rintro _ ⟨g,rfl⟩;go_wp2;go_ret;exact⟨zk f.out,zf a g.bel⟩
    ·have U:((l.ro i).many == b.be)=false:=by simpa using cm
     clear cm;refine zg (by kernel_rfl) (by kernel_rfl) ?_
     repeat(first|go_big_quiet_skip|(go_big_quiet_want;go_big_quiet_op;go_big_quiet_on))
     refine wpQuiet_nil ?_;rintro _ ⟨g,rfl⟩;go_wp2;go_ret;exact⟨zk f.out,zf a g.bel⟩
  have ec:(s.ca.A n == b.cl)=true:=by simpa using cc
  cases hba:b.all with
  | true =>
   have f:Hid (zbD s l b):=.inr (by rw[← K.out];exact⟨HF.out,I.out,.inl hba,by rw[S.out];exact cc⟩)
   have O:∀ g:zv W,g.val.cell? ⟨o,q+i*4+3,none⟩=some (.bool true):=fun g=>by rw[G.out g,ca,hba]
   have P:∀ g:zv W,g.val.cell? ⟨t,8,none⟩=some (.bool true):=fun g=>by rw[H.out g,hba]
   clear ca cc hba;refine zg (by kernel_rfl) (by kernel_rfl) ?_
   repeat(first|go_big_quiet_skip|(go_big_quiet_want;go_big_quiet_op;go_big_quiet_on))
   refine wpQuiet_nil ?_;rintro _ ⟨g,rfl⟩;go_wp2;go_ret;exact⟨zI f.out,zf a g.bel⟩
  | false =>
   have O:∀ g:zv W,g.val.cell? ⟨o,q+i*4+3,none⟩=some (.bool false):=fun g=>by rw[G.out g,ca,hba]
   have P:∀ g:zv W,g.val.cell? ⟨t,8,none⟩=some (.bool false):=fun g=>by rw[H.out g,hba]
   by_cases cm:(l.ro i).many=b.be
   ·have U:((l.ro i).many == b.be)=true:=by simpa using cm
    have f:Hid (zbD s l b):=.inr (by rw[← K.out];exact⟨HF.out,I.out,.inr cm,by rw[S.out];exact cc⟩)
    clear ca cc hba cm;refine zg (by kernel_rfl) (by kernel_rfl) ?_
    repeat(first|go_big_quiet_skip|(go_big_quiet_want;go_big_quiet_op;go_big_quiet_on))
    refine wpQuiet_nil ?_;rintro _ ⟨g,rfl⟩;go_wp2;go_ret;exact⟨zI f.out,zf a g.bel⟩
   ·have U:((l.ro i).many == b.be)=false:=by simpa using cm
    have f:Hid (¬ zbD s l b):=fun h=>by
     rcases h with h|h
     ·exact R.out h
     ·rcases h.2.2.1 with h|h
      ·rw[hba] at h;cases h
      ·exact cm (by rw[K.out];exact h)
    clear ca cc hba cm;refine zg (by kernel_rfl) (by kernel_rfl) ?_
    repeat(first|go_big_quiet_skip|(go_big_quiet_want;go_big_quiet_op;go_big_quiet_on))
    refine wpQuiet_nil ?_;rintro _ ⟨g,rfl⟩;go_wp2;go_ret;exact⟨zk f.out,zf a g.bel⟩
end Go.Proofs.YtgmdnkngnhkgbaaGreat
