import Derived.Test.YtfallpinmhbemaaGreatDoorB29
namespace Go.Proofs.YtfallpinmhbemaaGreatDoor
open Go.RowKit
open Go.Value (int)
open Go.IntKind (i64)
set_option maxHeartbeats 64000000
set_option maxRecDepth 1000000
theorem l7End_4 (g base N R O M n F m:Nat)(J I T l:Option Addr)(z:Int)(y:OpD)(x:Off)(L C A B D E:Nat->Value)(w:World)(hq:w.heap[g]?=some (.cells #[.slice J N O,.slice I N M,.slice T R n] 66 (0,0)))(ho:zV w base (.slice J N O) (.slice I N M) (.slice T R n) N N R x L C A B D E)(c5:x.bkn=R)(b8:base<=w.heap.size)(a0:y.kind=4)(e8:In y.pe 0 20)(g3:y.lgn<=3)(c0:IntsAt w l y.lgn y.lg)(c4:SliceOk l y.lgn F)(c1:0<y.lgn->∀ a,l=some a->a.block<base)(c2:y.name=(m:Int)+1)(hm:m<R)(q:R<=1048576) :
  Calls Tryz.prog 123 #[.pointer (some ⟨g,0,none⟩),int i64 z,.agg #[int i64 y.kind,.string y.own,int i64 y.name,.slice l y.lgn F,int i64 y.pe,int i64 y.len,int i64 y.hei,int i64 y.cl,.bool y.all,int i64 y.be,int i64 y.unt,int i64 y.now]] w fun e w'=>zbf g base N O M J I (fun b=>b=g∨(Value.slice T R n).ownBlock=some b) { x with bk:=QC x.bk m (qA (x.bk m) z y) } 0 y.name ((x.bk m).price) (fun _ v=>v=.slice none 0 0) L C A B D w e w':=by
 rw[a0,c2];have HO:=hI ho;have HQ:=hI hq;have c8:=hI a0;have d5:=hI c5;have f7:=hI b8;have f9:=hI c0;have g2:=hI c4;have g0:=hI c1;obtain⟨d,rfl,b7,e6⟩:=qw ho.bk.row (by omega)
 obtain⟨cs,b9⟩:=zT ho.bk.row d rfl;obtain⟨d8,d7,eE,q1,q2,q3⟩:=zt (ho.bk.legs m hm);obtain⟨b,Z⟩:∃ b,b=x.bk m:=⟨_,rfl⟩;have f5:=hI Z;have a3:=hI b9;have Q:Hid (∀ V,Below w.heap.size w V->∀ j v,(bkC x.bk E m)[j]?=some v->V.cell? ⟨d,m*13+j,none⟩=some v):=fun V hV j v hv=>by
  have hj:j<13:=by
   have h:=(List.getElem?_eq_some_iff.1 hv).1;exact h
  have h:=zK ho.bk.row (m*13+j) (by omega) rfl
  rw[zM 13 _ m j hj,List.getD_eq_getElem?_getD,hv] at h;exact(hV.cell (p:=⟨d,m*13+j,none⟩) e6).trans h
 have f8:Hid (E m=.slice d8 b.lgn d7):=by rw[Z];exact eE
 have i1:(0:Int)<=(m:Int):=by omega
 have i2:(m:Int)<(R:Int):=by omega
 have g4:IntKind.i64.wrap ((m:Int)+1 - 1)=(m:Int):=by rw[IntKind.wrap_i64];omega
 have HM:=hI hm;have f6:=hI b7;clear b9 eE q1 q2 q3 Z b7;clear ho hq a0 c5 b8 c0 c4 c1 c2 hm;obtain⟨pr,a1⟩:∃ pr,pr=Zg ⟨y.pe,y.len,y.hei,y.cl,y.all,y.be⟩ (y.lgn:Int):=⟨_,rfl⟩;have g1:=hI a1;have c:Below w.heap.size w ((w.alloc (.cells #[int i64 4,.string y.own,int i64 ((m:Int)+1),.slice l y.lgn F,int i64 y.pe,int i64 y.len,int i64 y.hei,int i64 y.cl,.bool y.all,int i64 y.be,int i64 y.unt,int i64 y.now] 27)).alloc (.cells #[int i64 0,int i64 0,int i64 0,.slice none 0 0] 127)):=zr (zr bZ _) _;have u:=ze (heap_alloc_new w (.cells #[int i64 4,.string y.own,int i64 ((m:Int)+1),.slice l y.lgn F,int i64 y.pe,int i64 y.len,int i64 y.hei,int i64 y.cl,.bool y.all,int i64 y.be,int i64 y.unt,int i64 y.now] 27)) (.cells #[int i64 0,int i64 0,int i64 0,.slice none 0 0] 127);have H:=zcC w (.cells #[int i64 4,.string y.own,int i64 ((m:Int)+1),.slice l y.lgn F,int i64 y.pe,int i64 y.len,int i64 y.hei,int i64 y.cl,.bool y.all,int i64 y.be,int i64 y.unt,int i64 y.now] 27) (.cells #[int i64 0,int i64 0,int i64 0,.slice none 0 0] 127);go_enter Tryz.func123,Tryz.ntmps123;go_wp2_with fail;generalize ((w.alloc (.cells #[int i64 4,.string y.own,int i64 ((m:Int)+1),.slice l y.lgn F,int i64 y.pe,int i64 y.len,int i64 y.hei,int i64 y.cl,.bool y.all,int i64 y.be,int i64 y.unt,int i64 y.now] 27)).alloc (.cells #[int i64 0,int i64 0,int i64 0,.slice none 0 0] 127))=W at c u H ⊢;refine(qV y.pe y.len y.hei y.cl y.all y.be (y.lgn:Int) _ e8 (by unfold In;omega)).mono ?_
 rintro e V ⟨rfl,P⟩;rw[← a1];clear a1;replace c:=zj c P;replace u:=zc u P;replace H:=zc H P;clear P W;have o0:=za u 0 _ rfl;have n2:∀ G:qe V,G.val.cell? ⟨g,2,none⟩=some (.slice (some ⟨d,0,none⟩) R n):=fun G=>za (zc HQ.out (zj c G.bel)) 2 _ rfl
 have m2:∀ G:qe V,G.val.cell? ⟨w.heap.size,2,none⟩=some (int i64 ((m:Int)+1)):=fun G=>za (zc u G.bel) 2 _ rfl
 go_upto_region 17 with fail;refine zp (by kernel_rfl) (by kernel_rfl) ?_
 repeat(first|go_big_quiet_skip|(go_big_quiet_want;go_big_quiet_op;first|go_big_quiet_on|fail))
 refine wpQuiet_nil ?_;rintro _ ⟨G,rfl⟩;replace c:=zj c G.bel;replace u:=zc u G.bel;replace H:=zc H G.bel;have e9:=zZ H;have o2:=za u 2 _ rfl;clear o0 n2 m2;have o0:∀ o,(G.val.alloc o).cell? ⟨w.heap.size,0,none⟩=some (int i64 4):=fun o=>za (ze u o) 0 _ rfl
 go_upto_region 20 with fail;replace c:=zr c (.cells #[int i64 0,int i64 ((m:Int)+1),int i64 0,.slice none 0 0] 127);replace u:=ze u (.cells #[int i64 0,int i64 ((m:Int)+1),int i64 0,.slice none 0 0] 127);replace H:=ze H (.cells #[int i64 0,int i64 ((m:Int)+1),int i64 0,.slice none 0 0] 127);have bT:=heap_alloc_new G.val (.cells #[int i64 0,int i64 ((m:Int)+1),int i64 0,.slice none 0 0] 127);generalize G.val.alloc (.cells #[int i64 0,int i64 ((m:Int)+1),int i64 0,.slice none 0 0] 127)=X at c u H bT ⊢;generalize G.val.heap.size=tb at bT e9 ⊢;clear o0 o2 G V;have Y:=zc a3.out c;have f0:=Q.out X c 10 _ rfl;have f1:=Q.out X c 11 _ rfl;have f2:=Q.out X c 12 _ rfl;have d9:=zg Y (m*13+10);have e4:=zg Y (m*13+11);obtain⟨t0,t1,t2,t3⟩:=ce4 bT;go_upto_region 23 with fail;have S:Hid (qA (x.bk m) z y={ x.bk m with state:=2,unt:=0 }):=by show _=_;simp[qA,c8.out]
 have s:zA X ((X.setCell ⟨d,m*13+10,none⟩ (int i64 2)).setCell ⟨d,m*13+11,none⟩ (int i64 0)) (fun b=>b=d):=(((zA.refl X (fun b=>b=d)).set (a:=⟨d,m*13+10,none⟩) rfl _).set (a:=⟨d,m*13+11,none⟩) rfl _)
 have t:Hid (((X.setCell ⟨d,m*13+10,none⟩ (int i64 2)).setCell ⟨d,m*13+11,none⟩ (int i64 0)).ownsRow base 131 13 (.slice (some ⟨d,0,none⟩) R n) R (Qp (QC x.bk m (qA (x.bk m) z y)) (atV E m (E m)) R)):=by
  refine own_congr (own_store (own_store ((HO.out.below c).bk.row) (m*13+10) (int i64 2)) (m*13+11) (int i64 0)) (fun j _=>zcs 13 (by decide) (k:=m) (C:=bkC x.bk E) (C':=bkC (QC x.bk m (qA (x.bk m) z y)) (atV E m (E m))) (f:=fun i=>if i=m*13+11 then (int i64 0:Value) else if i=m*13+10 then (int i64 2:Value) else recCell 13 (bkC x.bk E) i) (fun r hr=>?_) (fun j hj=>?_) (fun i hi=>?_) j)
  ·have q:=zM 13 (bkC x.bk E) m r hr
   unfold bkC;rw[Zn,atV_at,S.out];unfold bkC at q;have c3:r=0∨r=1∨r=2∨r=3∨r=4∨r=5∨r=6∨r=7∨r=8∨r=9∨r=10∨r=11∨r=12:=by omega
   rcases c3 with rfl|rfl|rfl|rfl|rfl|rfl|rfl|rfl|rfl|rfl|rfl|rfl|rfl
   ·rw[if_neg (by omega),if_neg (by omega),q];rfl
   ·rw[if_neg (by omega),if_neg (by omega),q];rfl
   ·rw[if_neg (by omega),if_neg (by omega),q];rfl
   ·rw[if_neg (by omega),if_neg (by omega),q];rfl
   ·rw[if_neg (by omega),if_neg (by omega),q];rfl
   ·rw[if_neg (by omega),if_neg (by omega),q];rfl
   ·rw[if_neg (by omega),if_neg (by omega),q];rfl
   ·rw[if_neg (by omega),if_neg (by omega),q];rfl
   ·rw[if_neg (by omega),if_neg (by omega),q];rfl
   ·rw[if_neg (by omega),if_neg (by omega),q];rfl
   ·rw[if_neg (by omega),if_pos rfl];rfl
   ·rw[if_pos rfl];rfl
   ·rw[if_neg (by omega),if_neg (by omega),q];rfl
  ·rw[if_neg (by omega),if_neg (by omega)]
  ·unfold bkC
   rw[Qr _ _ _ hi,atV_ne _ _ _ _ hi]
 have a8:Hid (zV ((X.setCell ⟨d,m*13+10,none⟩ (int i64 2)).setCell ⟨d,m*13+11,none⟩ (int i64 0)) base (.slice J N O) (.slice I N M) (.slice (some ⟨d,0,none⟩) R n) N N R { x with bk:=QC x.bk m (qA (x.bk m) z y) } L C A B D (atV E m (E m))):=(HO.out.below c).putBk s t.out (by rw[S.out];exact(HO.out.below c).bk.legs m HM.out) (HO.out.bk.far_same HM.out)
 have e7:g≠d:=fun e=>by have h:=a3.out;rw[← e,HQ.out] at h;simp at h
 have a9:=hI (s.blk (zc HQ.out c) e7);have K:=s.blk bT (by show ¬ _=_;omega)
 have b0:=s.blk H (by show ¬ _=_;omega)
 have a6:Hid (zA w ((X.setCell ⟨d,m*13+10,none⟩ (int i64 2)).setCell ⟨d,m*13+11,none⟩ (int i64 0)) (fun b=>b=g∨(Value.slice (some ⟨d,0,none⟩) R n).ownBlock=some b)):=(zA.of_below c).trans (s.mono (fun b e=>.inr (by rw[show b=d from e];rfl)))
 have f4:((X.setCell ⟨d,m*13+10,none⟩ (int i64 2)).setCell ⟨d,m*13+11,none⟩ (int i64 0)).cell? ⟨d,m*13+12,none⟩=some (int i64 (x.bk m).price):=by
  have h:=zK t.out (m*13+12) (by have:=HM.out;omega) rfl
  rw[zM 13 _ m 12 (by decide)] at h
  unfold bkC at h;rw[Zn,S.out] at h;exact h
 generalize ((X.setCell ⟨d,m*13+10,none⟩ (int i64 2)).setCell ⟨d,m*13+11,none⟩ (int i64 0))=Z1 at s t a8 a9 K b0 a6 f4 ⊢;clear s t bT H u Y t0 t1 t2 t3 f0 f1 f2 d9 e4;have b6:w.heap.size+1≠tb:=by omega
 obtain⟨d0,e5,c9,U,d6⟩:=zdo a6.out a8.out a9.out b0 K b6 (by omega) (int i64 ((x.bk m).price)) rfl
 obtain⟨a7,b5,a5,bF⟩:=Q0 c9 d0 e5 U (by omega) (int i64 0) (int i64 ((m:Int)+1)) (int i64 ((x.bk m).price)) (.slice none 0 0) rfl
 obtain⟨t0,t1,t2,t3⟩:=ce4 d6;have s2:=za K 2 _ rfl;have s3:=zg K 2;obtain⟨v0,v1,v2,v3⟩:=ce4 U;obtain⟨e0,e1,e2,e3⟩:=fe4 U;have a2:Hid _:=a7;have c7:Hid _:=b5;have c6:Hid _:=a5;clear a7 b5 a5;go_wp2;obtain⟨x0,x1,x2,x3⟩:=ce4 bF;refine bodyPost_ret (v:=.agg #[int i64 0,int i64 ((m:Int)+1),int i64 ((x.bk m).price),.slice none 0 0]) (by simp[results,Tryz.results123,go_sem,x0,x1,x2,x3]) rfl ?_
 have q:=d5.out;subst q;exact⟨_,_,_,_,rfl,rfl,a2.out,c7.out,c6.out⟩
theorem l7End_5 (g base N R a8 a7 I K m:Nat)(a5 a3 c0 q:Option Addr)(d:Int)(y:OpD)(x:Off)(L C A B D E:Nat->Value)(w:World)(hq:w.heap[g]?=some (.cells #[.slice a5 N a8,.slice a3 N a7,.slice c0 R I] 66 (0,0)))(ho:zV w base (.slice a5 N a8) (.slice a3 N a7) (.slice c0 R I) N N R x L C A B D E)(h3:x.bkn=R)(g1:base<=w.heap.size)(c4:y.kind=5)(j8:In y.pe 0 20)(m7:y.lgn<=3)(g5:IntsAt w q y.lgn y.lg)(g9:SliceOk q y.lgn K)(g6:0<y.lgn->∀ a,q=some a->a.block<base)(g7:y.name=(m:Int)+1)(hm:m<R)(s:R<=1048576) :
  Calls Tryz.prog 123 #[.pointer (some ⟨g,0,none⟩),int i64 d,.agg #[int i64 y.kind,.string y.own,int i64 y.name,.slice q y.lgn K,int i64 y.pe,int i64 y.len,int i64 y.hei,int i64 y.cl,.bool y.all,int i64 y.be,int i64 y.unt,int i64 y.now]] w fun e w'=>zbf g base N a8 a7 a5 a3 (fun b=>b=g∨(Value.slice c0 R I).ownBlock=some b) { x with bk:=QC x.bk m (qA (x.bk m) d y) } 0 y.name (Zg ⟨y.pe,y.len,y.hei,y.cl,y.all,y.be⟩ (y.lgn:Int)) (fun _ v=>v=.slice none 0 0) L C A B D w e w':=by
 obtain⟨n0,ni,l0,l1,l2⟩:=info_parts Tryz.infoInt;rw[c4,g7];have HO:=hI ho;have HQ:=hI hq;have i0:=hI c4;have i9:=hI h3;have h5:=hI g1;have i4:=hI g5;have i8:=hI g9;have i5:=hI g6;obtain⟨c,rfl,g0,j5⟩:=qw ho.bk.row (by omega)
 obtain⟨cs,g3⟩:=zT ho.bk.row c rfl;obtain⟨j2,j1,eE,q1,q2,q3⟩:=zt (ho.bk.legs m hm);obtain⟨b,c3⟩:∃ b,b=x.bk m:=⟨_,rfl⟩;have m0:=hI c3;have c9:=hI g3;have h9:Hid (∀ V,Below w.heap.size w V->∀ j v,(bkC x.bk E m)[j]?=some v->V.cell? ⟨c,m*13+j,none⟩=some v):=fun V hV j v hv=>by
  have hj:j<13:=by
   have h:=(List.getElem?_eq_some_iff.1 hv).1;exact h
  have h:=zK ho.bk.row (m*13+j) (by omega) rfl
  rw[zM 13 _ m j hj,List.getD_eq_getElem?_getD,hv] at h;exact(hV.cell (p:=⟨c,m*13+j,none⟩) j5).trans h
 have m5:Hid (E m=.slice j2 b.lgn j1):=by rw[c3];exact eE
 have i1:(0:Int)<=(m:Int):=by omega
 have i2:(m:Int)<(R:Int):=by omega
 have m9:IntKind.i64.wrap ((m:Int)+1 - 1)=(m:Int):=by rw[IntKind.wrap_i64];omega
 have HM:=hI hm;have h4:=hI g0;clear g3 eE q1 q2 q3 c3 g0;clear ho hq c4 h3 g1 g5 g9 g6 g7 hm;obtain⟨pr,c6⟩:∃ pr,pr=Zg ⟨y.pe,y.len,y.hei,y.cl,y.all,y.be⟩ (y.lgn:Int):=⟨_,rfl⟩;have e4:=hI c6;have l:Below w.heap.size w ((w.alloc (.cells #[int i64 5,.string y.own,int i64 ((m:Int)+1),.slice q y.lgn K,int i64 y.pe,int i64 y.len,int i64 y.hei,int i64 y.cl,.bool y.all,int i64 y.be,int i64 y.unt,int i64 y.now] 27)).alloc (.cells #[int i64 0,int i64 0,int i64 0,.slice none 0 0] 127)):=zr (zr bZ _) _;have P:=ze (heap_alloc_new w (.cells #[int i64 5,.string y.own,int i64 ((m:Int)+1),.slice q y.lgn K,int i64 y.pe,int i64 y.len,int i64 y.hei,int i64 y.cl,.bool y.all,int i64 y.be,int i64 y.unt,int i64 y.now] 27)) (.cells #[int i64 0,int i64 0,int i64 0,.slice none 0 0] 127);have U:=zcC w (.cells #[int i64 5,.string y.own,int i64 ((m:Int)+1),.slice q y.lgn K,int i64 y.pe,int i64 y.len,int i64 y.hei,int i64 y.cl,.bool y.all,int i64 y.be,int i64 y.unt,int i64 y.now] 27) (.cells #[int i64 0,int i64 0,int i64 0,.slice none 0 0] 127);go_enter Tryz.func123,Tryz.ntmps123;go_wp2_with fail;generalize ((w.alloc (.cells #[int i64 5,.string y.own,int i64 ((m:Int)+1),.slice q y.lgn K,int i64 y.pe,int i64 y.len,int i64 y.hei,int i64 y.cl,.bool y.all,int i64 y.be,int i64 y.unt,int i64 y.now] 27)).alloc (.cells #[int i64 0,int i64 0,int i64 0,.slice none 0 0] 127))=W at l P U ⊢;refine(qV y.pe y.len y.hei y.cl y.all y.be (y.lgn:Int) _ j8 (by unfold In;omega)).mono ?_
 rintro e V ⟨rfl,a9⟩;rw[← c6];clear c6;replace l:=zj l a9;replace P:=zc P a9;replace U:=zc U a9;clear a9 W;have o0:=za P 0 _ rfl;have n2:∀ G:qe V,G.val.cell? ⟨g,2,none⟩=some (.slice (some ⟨c,0,none⟩) R I):=fun G=>za (zc HQ.out (zj l G.bel)) 2 _ rfl
 have m2:∀ G:qe V,G.val.cell? ⟨w.heap.size,2,none⟩=some (int i64 ((m:Int)+1)):=fun G=>za (zc P G.bel) 2 _ rfl
 go_upto_region 17 with fail;refine zp (by kernel_rfl) (by kernel_rfl) ?_
 repeat(first|go_big_quiet_skip|(go_big_quiet_want;go_big_quiet_op;first|go_big_quiet_on|fail))
 refine wpQuiet_nil ?_;rintro _ ⟨G,rfl⟩;replace l:=zj l G.bel;replace P:=zc P G.bel;replace U:=zc U G.bel;have j9:=zZ U;have o2:=za P 2 _ rfl;clear o0 n2 m2;have o0:∀ o,(G.val.alloc o).cell? ⟨w.heap.size,0,none⟩=some (int i64 5):=fun o=>za (ze P o) 0 _ rfl
 go_upto_region 20 with fail;replace l:=zr l (.cells #[int i64 0,int i64 ((m:Int)+1),int i64 0,.slice none 0 0] 127);replace P:=ze P (.cells #[int i64 0,int i64 ((m:Int)+1),int i64 0,.slice none 0 0] 127);replace U:=ze U (.cells #[int i64 0,int i64 ((m:Int)+1),int i64 0,.slice none 0 0] 127);have bT:=heap_alloc_new G.val (.cells #[int i64 0,int i64 ((m:Int)+1),int i64 0,.slice none 0 0] 127);generalize G.val.alloc (.cells #[int i64 0,int i64 ((m:Int)+1),int i64 0,.slice none 0 0] 127)=X at l P U bT ⊢;generalize G.val.heap.size=tb at bT j9 ⊢;clear o0 o2 G V;have e8:=zc c9.out l;have k1:=h9.out X l 1 _ rfl;have f1:=zg e8 (m*13+1);go_upto_region 26 with fail;have t:zA X (X.setCell ⟨c,m*13+1,none⟩ (int i64 d)) (fun b=>b=c):=((zA.refl X (fun b=>b=c)).set (a:=⟨c,m*13+1,none⟩) rfl _)
 have b6:Hid ((X.setCell ⟨c,m*13+1,none⟩ (int i64 d)).ownsRow base 131 13 (.slice (some ⟨c,0,none⟩) R I) R (Qp (QC x.bk m { x.bk m with who:=d }) (atV E m (E m)) R)):=by
  refine own_congr (own_store ((HO.out.below l).bk.row) (m*13+1) (int i64 d)) (fun j _=>zcs 13 (by decide) (k:=m) (C:=bkC x.bk E) (C':=bkC (QC x.bk m { x.bk m with who:=d }) (atV E m (E m))) (f:=fun i=>if i=m*13+1 then (int i64 d:Value) else recCell 13 (bkC x.bk E) i) (fun r hr=>?_) (fun j hj=>?_) (fun i hi=>?_) j)
  ·have s:=zM 13 (bkC x.bk E) m r hr
   unfold bkC;rw[Zn,atV_at];unfold bkC at s;have a0:r=0∨r=1∨r=2∨r=3∨r=4∨r=5∨r=6∨r=7∨r=8∨r=9∨r=10∨r=11∨r=12:=by omega
   rcases a0 with rfl|rfl|rfl|rfl|rfl|rfl|rfl|rfl|rfl|rfl|rfl|rfl|rfl
   ·rw[if_neg (by omega),s];rfl
   ·rw[if_pos (by omega)];rfl
   ·rw[if_neg (by omega),s];rfl
   ·rw[if_neg (by omega),s];rfl
   ·rw[if_neg (by omega),s];rfl
   ·rw[if_neg (by omega),s];rfl
   ·rw[if_neg (by omega),s];rfl
   ·rw[if_neg (by omega),s];rfl
   ·rw[if_neg (by omega),s];rfl
   ·rw[if_neg (by omega),s];rfl
   ·rw[if_neg (by omega),s];rfl
   ·rw[if_neg (by omega),s];rfl
   ·rw[if_neg (by omega),s];rfl
  ·rw[if_neg (by omega)]
  ·unfold bkC
   rw[Qr _ _ _ hi,atV_ne _ _ _ _ hi]
 have Q:Hid _:=(HO.out.below l).putBk t b6.out ((HO.out.below l).bk.legs m HM.out) (HO.out.bk.far_same HM.out);have g4:g≠c:=fun e=>by have h:=c9.out;rw[← e,HQ.out] at h;simp at h
 have j7:w.heap.size<=X.heap.size:=l.size;have qQ:=t.blk (zc HQ.out l) g4;have e9:=t.blk bT (by show ¬ _=_;omega)
 have e7:=t.blk U (by show ¬ _=_;omega)
 have c2:=t.blk P (by show ¬ _=_;omega)
 have d6:Hid (zA w (X.setCell ⟨c,m*13+1,none⟩ (int i64 d)) (fun b=>b=g∨(Value.slice (some ⟨c,0,none⟩) R I).ownBlock=some b)):=(zA.of_below l).trans (t.mono (fun b e=>.inr (by rw[show b=c from e];rfl)))
 have j6:∀ z,Below X.heap.size X z->True:=fun _ _=>trivial
 have d7:=hI (ints_off t (i4.out.below l) i5.out h4.out);have g8:X.heap.size<=(X.setCell ⟨c,m*13+1,none⟩ (int i64 d)).heap.size:=t.size;generalize (X.setCell ⟨c,m*13+1,none⟩ (int i64 d))=Y at t b6 Q qQ e9 e7 c2 d6 d7 g8 ⊢;clear bT U P k1 f1 e8 b6 t j6;have l3:∀ o,(Y.alloc o).cell? ⟨w.heap.size,3,none⟩=some (.slice q y.lgn K):=fun o=>za (ze c2 o) 3 _ rfl
 have c5:(Y.alloc (.cells #[] 3)).ownsRow Y.heap.size 3 1 (.slice (some ⟨Y.heap.size,0,none⟩) 0 0) 0 []:=⟨rfl,.inr ⟨Y.heap.size,0,#[],rfl,Nat.le_refl _,heap_alloc_new Y _,Nat.le_refl _,Nat.zero_le _,rfl,rfl⟩⟩;have h6:Hid (∀ ad,q=some ad->∀ j u,(zJ y.lg y.lgn)[j]?=some u->(Y.alloc (.cells #[] 3)).cell? (ad.add j)=some u):=qX (d7.out.below (zr bZ _));obtain⟨m6,b5⟩:=zT Q.out.bk.row c rfl;have J:Hid (∀ V,Below Y.heap.size Y V->∀ j v,(bkC (QC x.bk m { x.bk m with who:=d }) (atV E m (E m)) m)[j]?=some v->V.cell? ⟨c,m*13+j,none⟩=some v):=fun V hV j v hv=>by
  have hj:j<13:=by
   have h:=(List.getElem?_eq_some_iff.1 hv).1;exact h
  have h:=zK Q.out.bk.row (m*13+j) (by have:=HM.out;omega) rfl
  rw[zM 13 _ m j hj,List.getD_eq_getElem?_getD,hv] at h;exact(hV.cell (p:=⟨c,m*13+j,none⟩) (zZ b5)).trans h
 have S:w.heap.size≠c:=by omega
 go_upto_region 29 with(first|(at_builtin;refine zz _ (by rfl) (.tmp 115) (.tmp 117) 23 (by rfl) Y.heap.size 3 n0 (int i64 0) 1 8 Tryz.underlying23 ni l0 l1 l2 rfl (by decide) _ 0 [] (by rfl) c5 q y.lgn K (zJ y.lg y.lgn) (by rfl) i8.out.2.2 (by rw[intList_length,Nat.mul_one]) h6.out (intList_one _ _) (by unfold maxLen;omega) (by omega) (by simp) ?_;intro v4 F Z g2;obtain⟨av,cv,h0,_⟩:=zt Z;rw[Nat.zero_add] at h0;subst h0;have n:=(zr (Below.refl Y.heap.size Y) (.cells #[] 3)).grown g2 (by simp) (fun j hj=>(c5.lt j hj).1);have M:=zc c2 n;have H:=zc b5 n;have k3:=J.out F n 3 _ rfl;have f3:=zg H (m*13+3);have k4:=J.out F n 4 _ rfl;have f4:=zg H (m*13+4);have k5:=J.out F n 5 _ rfl;have f5:=zg H (m*13+5);have k6:=J.out F n 6 _ rfl;have f6:=zg H (m*13+6);have k7:=J.out F n 7 _ rfl;have f7:=zg H (m*13+7);have k8:=J.out F n 8 _ rfl;have f8:=zg H (m*13+8);have k9:=J.out F n 9 _ rfl;have f9:=zg H (m*13+9);have k0:=J.out F n 12 _ rfl;have j3:=zg H (m*13+12);have l4:∀ v,(F.setCell ⟨c,m*13+3,none⟩ v).cell? ⟨w.heap.size,4,none⟩=some (int i64 y.pe):=fun v=>za (zD (b':=c) M (m*13+3) v S) 4 _ rfl;have l5:∀ v,(F.setCell ⟨c,m*13+3,none⟩ v).cell? ⟨w.heap.size,5,none⟩=some (int i64 y.len):=fun v=>za (zD (b':=c) M (m*13+3) v S) 5 _ rfl;have l6:∀ v,(F.setCell ⟨c,m*13+3,none⟩ v).cell? ⟨w.heap.size,6,none⟩=some (int i64 y.hei):=fun v=>za (zD (b':=c) M (m*13+3) v S) 6 _ rfl;have l7:∀ v,(F.setCell ⟨c,m*13+3,none⟩ v).cell? ⟨w.heap.size,7,none⟩=some (int i64 y.cl):=fun v=>za (zD (b':=c) M (m*13+3) v S) 7 _ rfl;have l8:∀ v,(F.setCell ⟨c,m*13+3,none⟩ v).cell? ⟨w.heap.size,8,none⟩=some (.bool y.all):=fun v=>za (zD (b':=c) M (m*13+3) v S) 8 _ rfl;have l9:∀ v,(F.setCell ⟨c,m*13+3,none⟩ v).cell? ⟨w.heap.size,9,none⟩=some (int i64 y.be):=fun v=>za (zD (b':=c) M (m*13+3) v S) 9 _ rfl))
 have d8:Hid (qA (x.bk m) d y={ x.bk m with who:=d,lgn:=y.lgn,lg:=y.lg,pe:=y.pe,len:=y.len,hei:=y.hei,cl:=y.cl,all:=y.all,be:=y.be,price:=Zg ⟨y.pe,y.len,y.hei,y.cl,y.all,y.be⟩ y.lgn }):=by show _=_;simp[qA,i0.out]
 have O:zA F ((((((((F.setCell ⟨c,m*13+3,none⟩ (.slice av y.lgn cv)).setCell ⟨c,m*13+4,none⟩ (int i64 y.pe)).setCell ⟨c,m*13+4+1,none⟩ (int i64 y.len)).setCell ⟨c,m*13+4+2,none⟩ (int i64 y.hei)).setCell ⟨c,m*13+4+3,none⟩ (int i64 y.cl)).setCell ⟨c,m*13+4+4,none⟩ (.bool y.all)).setCell ⟨c,m*13+4+5,none⟩ (int i64 y.be)).setCell ⟨c,m*13+12,none⟩ (int i64 pr)) (fun b=>b=c):=(((((((((zA.refl F (fun b=>b=c)).set (a:=⟨c,m*13+3,none⟩) rfl _).set (a:=⟨c,m*13+4,none⟩) rfl _).set (a:=⟨c,m*13+4+1,none⟩) rfl _).set (a:=⟨c,m*13+4+2,none⟩) rfl _).set (a:=⟨c,m*13+4+3,none⟩) rfl _).set (a:=⟨c,m*13+4+4,none⟩) rfl _).set (a:=⟨c,m*13+4+5,none⟩) rfl _).set (a:=⟨c,m*13+12,none⟩) rfl _)
 have b7:Hid (((((((((F.setCell ⟨c,m*13+3,none⟩ (.slice av y.lgn cv)).setCell ⟨c,m*13+4,none⟩ (int i64 y.pe)).setCell ⟨c,m*13+4+1,none⟩ (int i64 y.len)).setCell ⟨c,m*13+4+2,none⟩ (int i64 y.hei)).setCell ⟨c,m*13+4+3,none⟩ (int i64 y.cl)).setCell ⟨c,m*13+4+4,none⟩ (.bool y.all)).setCell ⟨c,m*13+4+5,none⟩ (int i64 y.be)).setCell ⟨c,m*13+12,none⟩ (int i64 pr)).ownsRow base 131 13 (.slice (some ⟨c,0,none⟩) R I) R (Qp (QC (QC x.bk m { x.bk m with who:=d }) m (qA (x.bk m) d y)) (atV (atV E m (E m)) m (.slice av y.lgn cv)) R)):=by
  refine own_congr (own_store (own_store (own_store (own_store (own_store (own_store (own_store (own_store ((Q.out.below n).bk.row) (m*13+3) (.slice av y.lgn cv)) (m*13+4) (int i64 y.pe)) (m*13+4+1) (int i64 y.len)) (m*13+4+2) (int i64 y.hei)) (m*13+4+3) (int i64 y.cl)) (m*13+4+4) (.bool y.all)) (m*13+4+5) (int i64 y.be)) (m*13+12) (int i64 pr)) (fun j _=>zcs 13 (by decide) (k:=m) (C:=bkC (QC x.bk m { x.bk m with who:=d }) (atV E m (E m))) (C':=bkC (QC (QC x.bk m { x.bk m with who:=d }) m (qA (x.bk m) d y)) (atV (atV E m (E m)) m (.slice av y.lgn cv))) (f:=fun i=>if i=m*13+12 then (int i64 pr:Value) else if i=m*13+4+5 then (int i64 y.be:Value) else if i=m*13+4+4 then (.bool y.all:Value) else if i=m*13+4+3 then (int i64 y.cl:Value) else if i=m*13+4+2 then (int i64 y.hei:Value) else if i=m*13+4+1 then (int i64 y.len:Value) else if i=m*13+4 then (int i64 y.pe:Value) else if i=m*13+3 then (.slice av y.lgn cv:Value) else recCell 13 (bkC (QC x.bk m { x.bk m with who:=d }) (atV E m (E m))) i) (fun r hr=>?_) (fun j hj=>?_) (fun i hi=>?_) j)
  ·have s:=zM 13 (bkC (QC x.bk m { x.bk m with who:=d }) (atV E m (E m))) m r hr
   unfold bkC;rw[Zn,atV_at,d8.out];unfold bkC at s;have a0:r=0∨r=1∨r=2∨r=3∨r=4∨r=5∨r=6∨r=7∨r=8∨r=9∨r=10∨r=11∨r=12:=by omega
   rcases a0 with rfl|rfl|rfl|rfl|rfl|rfl|rfl|rfl|rfl|rfl|rfl|rfl|rfl
   ·rw[if_neg (by omega),if_neg (by omega),if_neg (by omega),if_neg (by omega),if_neg (by omega),if_neg (by omega),if_neg (by omega),if_neg (by omega),s,Zn];rfl
   ·rw[if_neg (by omega),if_neg (by omega),if_neg (by omega),if_neg (by omega),if_neg (by omega),if_neg (by omega),if_neg (by omega),if_neg (by omega),s,Zn];rfl
   ·rw[if_neg (by omega),if_neg (by omega),if_neg (by omega),if_neg (by omega),if_neg (by omega),if_neg (by omega),if_neg (by omega),if_neg (by omega),s,Zn];rfl
   ·rw[if_neg (by omega),if_neg (by omega),if_neg (by omega),if_neg (by omega),if_neg (by omega),if_neg (by omega),if_neg (by omega),if_pos (by omega)];rfl
   ·rw[if_neg (by omega),if_neg (by omega),if_neg (by omega),if_neg (by omega),if_neg (by omega),if_neg (by omega),if_pos (by omega)];rfl
   ·rw[if_neg (by omega),if_neg (by omega),if_neg (by omega),if_neg (by omega),if_neg (by omega),if_pos (by omega)];rfl
   ·rw[if_neg (by omega),if_neg (by omega),if_neg (by omega),if_neg (by omega),if_pos (by omega)];rfl
   ·rw[if_neg (by omega),if_neg (by omega),if_neg (by omega),if_pos (by omega)];rfl
   ·rw[if_neg (by omega),if_neg (by omega),if_pos (by omega)];rfl
   ·rw[if_neg (by omega),if_pos (by omega)];rfl
   ·rw[if_neg (by omega),if_neg (by omega),if_neg (by omega),if_neg (by omega),if_neg (by omega),if_neg (by omega),if_neg (by omega),if_neg (by omega),s,Zn];rfl
   ·rw[if_neg (by omega),if_neg (by omega),if_neg (by omega),if_neg (by omega),if_neg (by omega),if_neg (by omega),if_neg (by omega),if_neg (by omega),s,Zn];rfl
   ·rw[if_pos (by omega),e4.out];rfl
  ·rw[if_neg (by omega),if_neg (by omega),if_neg (by omega),if_neg (by omega),if_neg (by omega),if_neg (by omega),if_neg (by omega),if_neg (by omega)]
  ·unfold bkC
   rw[Qr _ _ _ hi,atV_ne _ _ _ _ hi]
 have b8:Hid _:=(Q.out.below n).putBk O b7.out (by rw[d8.out];refine zE ?_ (Nat.le_trans h5.out (Nat.le_trans j7 g8));rw[Nat.zero_add,List.nil_append] at Z;exact Z) (fun i hi m8 b h1 h2=>by have a1:=((Q.out.bk.legs i hi).lt b h1).2;have a2:=(Z.lt b h2).1;omega)
 have b9:Hid (zV ((((((((F.setCell ⟨c,m*13+3,none⟩ (.slice av y.lgn cv)).setCell ⟨c,m*13+4,none⟩ (int i64 y.pe)).setCell ⟨c,m*13+4+1,none⟩ (int i64 y.len)).setCell ⟨c,m*13+4+2,none⟩ (int i64 y.hei)).setCell ⟨c,m*13+4+3,none⟩ (int i64 y.cl)).setCell ⟨c,m*13+4+4,none⟩ (.bool y.all)).setCell ⟨c,m*13+4+5,none⟩ (int i64 y.be)).setCell ⟨c,m*13+12,none⟩ (int i64 pr)) base (.slice a5 N a8) (.slice a3 N a7) (.slice (some ⟨c,0,none⟩) R I) N N R { x with bk:=QC x.bk m (qA (x.bk m) d y) } L C A B D (atV (atV E m (E m)) m (.slice av y.lgn cv))):=by have h:=b8.out;rw[setB_setB] at h;exact h
 have e5:=O.blk (zc qQ n) g4;have a6:=O.blk (zc e9 n) (by show ¬ _=_;omega)
 have e6:=O.blk (zc e7 n) (by show ¬ _=_;omega)
 have d5:=(d6.out.trans (zA.of_below n)).trans (O.mono (T:=(fun b=>b=g∨(Value.slice (some ⟨c,0,none⟩) R I).ownBlock=some b)) (fun b e=>.inr (by rw[show b=c from e];rfl)))
 generalize ((((((((F.setCell ⟨c,m*13+3,none⟩ (.slice av y.lgn cv)).setCell ⟨c,m*13+4,none⟩ (int i64 y.pe)).setCell ⟨c,m*13+4+1,none⟩ (int i64 y.len)).setCell ⟨c,m*13+4+2,none⟩ (int i64 y.hei)).setCell ⟨c,m*13+4+3,none⟩ (int i64 y.cl)).setCell ⟨c,m*13+4+4,none⟩ (.bool y.all)).setCell ⟨c,m*13+4+5,none⟩ (int i64 y.be)).setCell ⟨c,m*13+12,none⟩ (int i64 pr))=Z1 at b9 e5 a6 e6 d5 O b7 b8 ⊢;have i7:Hid _:=b9;clear O b7 b8 b9;clear k3 f3;clear k4 f4;clear k5 f5;clear k6 f6;clear k7 f7;clear k8 f8;clear k9 f9;clear k0 j3;clear l3 l4 l5 l6 l7 l8 l9 c5 Z g2 M H n;have f2:w.heap.size+1≠tb:=by omega
 obtain⟨i6,j4,i3,c1,j0⟩:=zdo d5 i7.out e5 e6 a6 f2 (by omega) (int i64 (pr)) rfl
 obtain⟨d9,f0,d0,bF⟩:=Q0 i3 i6 j4 c1 (by omega) (int i64 0) (int i64 ((m:Int)+1)) (int i64 (pr)) (.slice none 0 0) rfl
 obtain⟨t0,t1,t2,t3⟩:=ce4 j0;have s2:=za a6 2 _ rfl;have s3:=zg a6 2;obtain⟨v0,v1,v2,v3⟩:=ce4 c1;obtain⟨e0,e1,e2,e3⟩:=fe4 c1;have b0:Hid _:=d9;have c8:Hid _:=f0;have c7:Hid _:=d0;clear d9 f0 d0;go_wp2;obtain⟨x0,x1,x2,x3⟩:=ce4 bF;refine bodyPost_ret (v:=.agg #[int i64 0,int i64 ((m:Int)+1),int i64 (pr),.slice none 0 0]) (by simp[results,Tryz.results123,go_sem,x0,x1,x2,x3]) rfl ?_
 have s:=i9.out;subst s;rw[e4.out] at b0 c8 c7 ⊢;exact⟨_,_,_,_,rfl,rfl,b0.out,c8.out,c7.out⟩
theorem l7End_6 (g base N R t a9 F P m:Nat)(a7 a0 b8 s:Option Addr)(O:Int)(y:OpD)(x:Off)(L C A B D E:Nat->Value)(w:World)(hq:w.heap[g]?=some (.cells #[.slice a7 N t,.slice a0 N a9,.slice b8 R F] 66 (0,0)))(ho:zV w base (.slice a7 N t) (.slice a0 N a9) (.slice b8 R F) N N R x L C A B D E)(f8:x.bkn=R)(e5:base<=w.heap.size)(c3:y.kind=6)(h9:In y.pe 0 20)(j8:y.lgn<=3)(f2:IntsAt w s y.lgn y.lg)(f7:SliceOk s y.lgn P)(f4:0<y.lgn->∀ a,s=some a->a.block<base)(f5:y.name=(m:Int)+1)(hm:m<R)(H:R<=1048576)(l:Nat)(f1:0<(x.bk m).lgn)(e9:qo x.sa ((x.bk m).lg 0) N=l)(f0:l<N)(e7:-1000000000<=(x.sa l).dep - y.now/\(x.sa l).dep - y.now<=1000000000)(hN:N<=1048576) :
  Calls Tryz.prog 123 #[.pointer (some ⟨g,0,none⟩),int i64 O,.agg #[int i64 y.kind,.string y.own,int i64 y.name,.slice s y.lgn P,int i64 y.pe,int i64 y.len,int i64 y.hei,int i64 y.cl,.bool y.all,int i64 y.be,int i64 y.unt,int i64 y.now]] w fun e w'=>zbf g base N t a9 a7 a0 (fun b=>b=g∨(Value.slice b8 R F).ownBlock=some b) { x with bk:=QC x.bk m (qA (x.bk m) O y) } 0 y.name (Qs (x.bk m).price ((x.sa l).dep - y.now)) (fun _ v=>v=.slice none 0 0) L C A B D w e w':=by
 rw[c3,f5];have HO:=hI ho;have HQ:=hI hq;have g6:=hI c3;have h0:=hI f8;have j1:=hI e5;have j2:=hI f2;have j5:=hI f7;have j3:=hI f4;obtain⟨d,rfl,e4,c1⟩:=qw ho.bk.row (by omega)
 obtain⟨cs,e8⟩:=zT ho.bk.row d rfl;obtain⟨d6,M,eE,q1,q2,q3⟩:=zt (ho.bk.legs m hm);obtain⟨b,c2⟩:∃ b,b=x.bk m:=⟨_,rfl⟩;have g2:=hI c2;have c6:=hI e8;have b6:Hid (∀ V,Below w.heap.size w V->∀ j v,(bkC x.bk E m)[j]?=some v->V.cell? ⟨d,m*13+j,none⟩=some v):=fun V hV j v hv=>by
  have hj:j<13:=by
   have h:=(List.getElem?_eq_some_iff.1 hv).1;exact h
  have h:=zK ho.bk.row (m*13+j) (by omega) rfl
  rw[zM 13 _ m j hj,List.getD_eq_getElem?_getD,hv] at h;exact(hV.cell (p:=⟨d,m*13+j,none⟩) c1).trans h
 have g4:Hid (E m=.slice d6 b.lgn M):=by rw[c2];exact eE
 have i1:(0:Int)<=(m:Int):=by omega
 have i2:(m:Int)<(R:Int):=by omega
 have k4:IntKind.i64.wrap ((m:Int)+1 - 1)=(m:Int):=by rw[IntKind.wrap_i64];omega
 have HM:=hI hm;have j0:=hI e4;clear e8 eE q1 q2 q3 c2 e4;have U:=hI f1;have Y:=hI f0;have f9:=hI e7;have g0:=hI hN;have g1:=hI e9;clear f1 e9 f0 e7 hN;clear ho hq c3 f8 e5 f2 f7 f4 f5 hm;obtain⟨pr,c4⟩:∃ pr,pr=Zg ⟨y.pe,y.len,y.hei,y.cl,y.all,y.be⟩ (y.lgn:Int):=⟨_,rfl⟩;have j4:=hI c4;have c:Below w.heap.size w ((w.alloc (.cells #[int i64 6,.string y.own,int i64 ((m:Int)+1),.slice s y.lgn P,int i64 y.pe,int i64 y.len,int i64 y.hei,int i64 y.cl,.bool y.all,int i64 y.be,int i64 y.unt,int i64 y.now] 27)).alloc (.cells #[int i64 0,int i64 0,int i64 0,.slice none 0 0] 127)):=zr (zr bZ _) _;have J:=ze (heap_alloc_new w (.cells #[int i64 6,.string y.own,int i64 ((m:Int)+1),.slice s y.lgn P,int i64 y.pe,int i64 y.len,int i64 y.hei,int i64 y.cl,.bool y.all,int i64 y.be,int i64 y.unt,int i64 y.now] 27)) (.cells #[int i64 0,int i64 0,int i64 0,.slice none 0 0] 127);have S:=zcC w (.cells #[int i64 6,.string y.own,int i64 ((m:Int)+1),.slice s y.lgn P,int i64 y.pe,int i64 y.len,int i64 y.hei,int i64 y.cl,.bool y.all,int i64 y.be,int i64 y.unt,int i64 y.now] 27) (.cells #[int i64 0,int i64 0,int i64 0,.slice none 0 0] 127);go_enter Tryz.func123,Tryz.ntmps123;go_wp2_with fail;generalize ((w.alloc (.cells #[int i64 6,.string y.own,int i64 ((m:Int)+1),.slice s y.lgn P,int i64 y.pe,int i64 y.len,int i64 y.hei,int i64 y.cl,.bool y.all,int i64 y.be,int i64 y.unt,int i64 y.now] 27)).alloc (.cells #[int i64 0,int i64 0,int i64 0,.slice none 0 0] 127))=W at c J S ⊢;refine(qV y.pe y.len y.hei y.cl y.all y.be (y.lgn:Int) _ h9 (by unfold In;omega)).mono ?_
 rintro e V ⟨rfl,b0⟩;rw[← c4];clear c4;replace c:=zj c b0;replace J:=zc J b0;replace S:=zc S b0;clear b0 W;have o0:=za J 0 _ rfl;have n2:∀ G:qe V,G.val.cell? ⟨g,2,none⟩=some (.slice (some ⟨d,0,none⟩) R F):=fun G=>za (zc HQ.out (zj c G.bel)) 2 _ rfl
 have m2:∀ G:qe V,G.val.cell? ⟨w.heap.size,2,none⟩=some (int i64 ((m:Int)+1)):=fun G=>za (zc J G.bel) 2 _ rfl
 go_upto_region 17 with fail;refine zp (by kernel_rfl) (by kernel_rfl) ?_
 repeat(first|go_big_quiet_skip|(go_big_quiet_want;go_big_quiet_op;first|go_big_quiet_on|fail))
 refine wpQuiet_nil ?_;rintro _ ⟨G,rfl⟩;replace c:=zj c G.bel;replace J:=zc J G.bel;replace S:=zc S G.bel;have i0:=zZ S;have o2:=za J 2 _ rfl;clear o0 n2 m2;have o0:∀ o,(G.val.alloc o).cell? ⟨w.heap.size,0,none⟩=some (int i64 6):=fun o=>za (ze J o) 0 _ rfl
 go_upto_region 20 with fail;replace c:=zr c (.cells #[int i64 0,int i64 ((m:Int)+1),int i64 0,.slice none 0 0] 127);replace J:=ze J (.cells #[int i64 0,int i64 ((m:Int)+1),int i64 0,.slice none 0 0] 127);replace S:=ze S (.cells #[int i64 0,int i64 ((m:Int)+1),int i64 0,.slice none 0 0] 127);have bT:=heap_alloc_new G.val (.cells #[int i64 0,int i64 ((m:Int)+1),int i64 0,.slice none 0 0] 127);generalize G.val.alloc (.cells #[int i64 0,int i64 ((m:Int)+1),int i64 0,.slice none 0 0] 127)=X at c J S bT ⊢;generalize G.val.heap.size=tb at bT i0 ⊢;clear o0 o2 G V;have c0:=zc c6.out c;have i7:=b6.out X c 10 _ rfl;have i8:=b6.out X c 11 _ rfl;have i9:=b6.out X c 12 _ rfl;have h3:=zg c0 (m*13+10);have h4:=zg c0 (m*13+11);obtain⟨t0,t1,t2,t3⟩:=ce4 bT;go_upto_region 33 with fail;have Z:Hid (qA (x.bk m) O y={ x.bk m with state:=3,unt:=0 }):=by show _=_;simp[qA,g6.out]
 have u:zA X ((X.setCell ⟨d,m*13+10,none⟩ (int i64 3)).setCell ⟨d,m*13+11,none⟩ (int i64 0)) (fun b=>b=d):=(((zA.refl X (fun b=>b=d)).set (a:=⟨d,m*13+10,none⟩) rfl _).set (a:=⟨d,m*13+11,none⟩) rfl _)
 have I:Hid (((X.setCell ⟨d,m*13+10,none⟩ (int i64 3)).setCell ⟨d,m*13+11,none⟩ (int i64 0)).ownsRow base 131 13 (.slice (some ⟨d,0,none⟩) R F) R (Qp (QC x.bk m (qA (x.bk m) O y)) (atV E m (E m)) R)):=by
  refine own_congr (own_store (own_store ((HO.out.below c).bk.row) (m*13+10) (int i64 3)) (m*13+11) (int i64 0)) (fun j _=>zcs 13 (by decide) (k:=m) (C:=bkC x.bk E) (C':=bkC (QC x.bk m (qA (x.bk m) O y)) (atV E m (E m))) (f:=fun i=>if i=m*13+11 then (int i64 0:Value) else if i=m*13+10 then (int i64 3:Value) else recCell 13 (bkC x.bk E) i) (fun r hr=>?_) (fun j hj=>?_) (fun i hi=>?_) j)
  ·have H:=zM 13 (bkC x.bk E) m r hr
   unfold bkC;rw[Zn,atV_at,Z.out];unfold bkC at H;have f6:r=0∨r=1∨r=2∨r=3∨r=4∨r=5∨r=6∨r=7∨r=8∨r=9∨r=10∨r=11∨r=12:=by omega
   rcases f6 with rfl|rfl|rfl|rfl|rfl|rfl|rfl|rfl|rfl|rfl|rfl|rfl|rfl
   ·rw[if_neg (by omega),if_neg (by omega),H];rfl
   ·rw[if_neg (by omega),if_neg (by omega),H];rfl
   ·rw[if_neg (by omega),if_neg (by omega),H];rfl
   ·rw[if_neg (by omega),if_neg (by omega),H];rfl
   ·rw[if_neg (by omega),if_neg (by omega),H];rfl
   ·rw[if_neg (by omega),if_neg (by omega),H];rfl
   ·rw[if_neg (by omega),if_neg (by omega),H];rfl
   ·rw[if_neg (by omega),if_neg (by omega),H];rfl
   ·rw[if_neg (by omega),if_neg (by omega),H];rfl
   ·rw[if_neg (by omega),if_neg (by omega),H];rfl
   ·rw[if_neg (by omega),if_pos rfl];rfl
   ·rw[if_pos rfl];rfl
   ·rw[if_neg (by omega),if_neg (by omega),H];rfl
  ·rw[if_neg (by omega),if_neg (by omega)]
  ·unfold bkC
   rw[Qr _ _ _ hi,atV_ne _ _ _ _ hi]
 have K:Hid (zV ((X.setCell ⟨d,m*13+10,none⟩ (int i64 3)).setCell ⟨d,m*13+11,none⟩ (int i64 0)) base (.slice a7 N t) (.slice a0 N a9) (.slice (some ⟨d,0,none⟩) R F) N N R { x with bk:=QC x.bk m (qA (x.bk m) O y) } L C A B D (atV E m (E m))):=(HO.out.below c).putBk u I.out (by rw[Z.out];exact(HO.out.below c).bk.legs m HM.out) (HO.out.bk.far_same HM.out)
 have h6:g≠d:=fun e=>by have h:=c6.out;rw[← e,HQ.out] at h;simp at h
 have b7:=hI (u.blk (zc HQ.out c) h6);have a8:=u.blk bT (by show ¬ _=_;omega)
 have d0:=u.blk S (by show ¬ _=_;omega)
 have d5:=u.blk J (by show ¬ _=_;omega)
 have c8:Hid (zA w ((X.setCell ⟨d,m*13+10,none⟩ (int i64 3)).setCell ⟨d,m*13+11,none⟩ (int i64 0)) (fun b=>b=g∨(Value.slice (some ⟨d,0,none⟩) R F).ownBlock=some b)):=(zA.of_below c).trans (u.mono (fun b e=>.inr (by rw[show b=d from e];rfl)))
 have b5:((X.setCell ⟨d,m*13+10,none⟩ (int i64 3)).setCell ⟨d,m*13+11,none⟩ (int i64 0)).cell? ⟨d,m*13+12,none⟩=some (int i64 (x.bk m).price):=by
  have h:=zK I.out (m*13+12) (by have:=HM.out;omega) rfl
  rw[zM 13 _ m 12 (by decide)] at h
  unfold bkC at h;rw[Zn,Z.out] at h;exact h
 generalize ((X.setCell ⟨d,m*13+10,none⟩ (int i64 3)).setCell ⟨d,m*13+11,none⟩ (int i64 0))=Z1 at d5 u I K b7 a8 d0 c8 b5 ⊢;clear u I bT S J c0 t0 t1 t2 t3 i7 i8 i9 h3 h4;have d9:w.heap.size+1≠tb:=by omega
 have Q:E m=.slice d6 (x.bk m).lgn M:=by rw[← g2.out];exact g4.out
 have hL:=K.out.bk.legs m HM.out;dsimp only at hL;rw[atV_at,Zn,Z.out,Q] at hL;dsimp only at hL;obtain⟨T,rfl,k6,k7⟩:=qw hL U.out;obtain⟨k5,k8,d7,e6⟩:=own_ints hL 0 U.out;have y3:Z1.cell? ⟨T,0,none⟩=some (int i64 ((x.bk m).lg 0)):=by
  cases d7
  exact e6
 have z3:Z1.cell? ⟨d,m*13+3,none⟩=some (.slice (some ⟨T,0,none⟩) (x.bk m).lgn M):=by
  have h:=zK K.out.bk.row (m*13+3) (by have:=HM.out;omega) rfl
  rw[zM 13 _ m 3 (by decide)] at h
  unfold bkC at h;rw[atV_at,Q] at h;exact h
 obtain⟨q,so,la,lc,ca,cc,rfl,s0,s1,s2,s3,s4,s5,s6,s7,_⟩:=K.out.sa.at l Y.out;have zq:=za b7.out 0 _ rfl;have j6:g<w.heap.size:=zZ HQ.out;have j9:q<w.heap.size:=by
  obtain⟨gs,e,_,h2⟩:=qw HO.out.sa.row (by have:=Y.out;omega)
  cases e
  exact h2
 have j7:T<w.heap.size:=by
  have h:=HO.out.bk.legs m HM.out;rw[Q] at h;exact(h.lt T rfl).2
 have i3:(0:Int)<=(l:Int):=by omega
 have i4:(l:Int)<(N:Int):=by have:=Y.out;omega
 have i5:(0:Int)<((x.bk m).lgn:Int):=by have:=U.out;omega
 have i6:0<(x.bk m).lgn:=U.out;have k0:IntKind.i64.wrap ((x.sa l).dep - y.now)=(x.sa l).dep - y.now:=by rw[IntKind.wrap_i64];have:=f9.out;omega
 have g9:=hI K.out.sa.at;have KS:Hid (∀ z,Below Z1.heap.size Z1 z->z.cell? ⟨d,m*13+12,none⟩=some (int i64 (x.bk m).price)/\z.cell? ⟨d,m*13+3,none⟩=some (.slice (some ⟨T,0,none⟩) (x.bk m).lgn M)/\z.cell? ⟨g,0,none⟩=some (.slice (some ⟨q,so,none⟩) N t)/\z.cell? ⟨T,0,none⟩=some (int i64 ((x.bk m).lg 0))/\z.cell? ⟨q,so+l*8+3,none⟩=some (int i64 (x.sa l).dep)/\z.cell? ⟨w.heap.size,11,none⟩=some (int i64 y.now)):=fun z h=>⟨(h.cell (p:=⟨d,m*13+12,none⟩) (World.block_lt_of_cell? _ _ b5)).trans b5,(h.cell (p:=⟨d,m*13+3,none⟩) (World.block_lt_of_cell? _ _ z3)).trans z3,(h.cell (p:=⟨g,0,none⟩) (World.block_lt_of_cell? _ _ zq)).trans zq,(h.cell (p:=⟨T,0,none⟩) (World.block_lt_of_cell? _ _ y3)).trans y3,(h.cell (p:=⟨q,so+l*8+3,none⟩) (World.block_lt_of_cell? _ _ s3)).trans s3,za (zc d5 h) 11 _ rfl⟩
 have KT:Hid (∀ z,Below Z1.heap.size Z1 z->∀ v u',u'=z.setCell ⟨tb,2,none⟩ v->u'.cell? ⟨d,m*13+12,none⟩=some (int i64 (x.bk m).price)/\u'.cell? ⟨d,m*13+3,none⟩=some (.slice (some ⟨T,0,none⟩) (x.bk m).lgn M)/\u'.cell? ⟨g,0,none⟩=some (.slice (some ⟨q,so,none⟩) N t)/\u'.cell? ⟨T,0,none⟩=some (int i64 ((x.bk m).lg 0))/\u'.cell? ⟨q,so+l*8+3,none⟩=some (int i64 (x.sa l).dep)/\u'.cell? ⟨w.heap.size,11,none⟩=some (int i64 y.now)):=fun z h v u' e=>by
  subst e;obtain⟨a1,a2,a3,a4,a5,a6⟩:=KS.out z h;have hk:zA z (z.setCell ⟨tb,2,none⟩ v) (fun b=>b=tb):=(zA.refl z (fun b=>b=tb)).set (a:=⟨tb,2,none⟩) rfl v
  exact⟨ZN hk a1 (by show ¬ _=_;dsimp only;omega),ZN hk a2 (by show ¬ _=_;dsimp only;omega),ZN hk a3 (by show ¬ _=_;dsimp only;omega),ZN hk a4 (by show ¬ _=_;dsimp only;omega),ZN hk a5 (by show ¬ _=_;dsimp only;omega),ZN hk a6 (by show ¬ _=_;dsimp only;omega)⟩
 clear s0 s1 s2 s3 s4 s5 s6 s7 y3 z3 b5 zq hL d7 e6;go_region_held3 (fun w'=>w'.cell? ⟨d,m*13+12,none⟩=some (int i64 (x.bk m).price)/\w'.cell? ⟨d,m*13+3,none⟩=some (.slice (some ⟨T,0,none⟩) (x.bk m).lgn M)/\w'.cell? ⟨g,0,none⟩=some (.slice (some ⟨q,so,none⟩) N t)/\w'.cell? ⟨T,0,none⟩=some (int i64 ((x.bk m).lg 0))/\w'.cell? ⟨q,so+l*8+3,none⟩=some (int i64 (x.sa l).dep)/\w'.cell? ⟨w.heap.size,11,none⟩=some (int i64 y.now))
  (first|(with_reducible exact KT.out _ n.out _ _ rfl)|(refine KS.out _ ?_;repeat(first|exact n.out|exact bZ|refine Below.drew ?_|refine zr ?_ _)))
  (first
   | (go_simp;go_at_call 110;(with_reducible refine Calls.mono (ZP (some ⟨q,so,none⟩) N t x.sa ((x.bk m).lg 0) _ g0.out (g9.out.below ?_)) ?_);(focus(repeat(first | exact bZ | refine Below.drew ?_ | refine zr ?_ _)));rintro e u2 ⟨he,c1⟩;have n:Hid (Below Z1.heap.size Z1 u2):=zj (Below.drew bZ) c1;rw[g1.out] at he;rcases he with⟨_,rfl⟩ | ⟨h,_⟩;rotate_left;(focus(have:=Y.out;omega));have q0:=za (zc a8 n.out) 2 _ rfl;have q1:=zg (zc a8 n.out) 2;dsimp only)
   | (go_simp;go_at_call 145;(with_reducible refine Calls.mono (zeX _ _ _) ?_);rintro e u3 ⟨rfl,rfl⟩;dsimp only))
 obtain⟨g8,h5,g7,b9,h1⟩:=zdo (c8.out.trans (zA.of_below n.out)) (K.out.below n.out) (zc b7.out n.out) (zc d0 n.out) (zc a8 n.out) d9 (by omega) (int i64 (Qs (x.bk m).price ((x.sa l).dep - y.now))) rfl
 obtain⟨c9,d8,c7,bF⟩:=Q0 g7 g8 h5 b9 (by omega) (int i64 0) (int i64 ((m:Int)+1)) (int i64 (Qs (x.bk m).price ((x.sa l).dep - y.now))) (.slice none 0 0) rfl
 obtain⟨t0,t1,t2,t3⟩:=ce4 h1;obtain⟨v0,v1,v2,v3⟩:=ce4 b9;obtain⟨e0,e1,e2,e3⟩:=fe4 b9;have c5:Hid _:=c9;have g5:Hid _:=d8;have g3:Hid _:=c7;clear c9 d8 c7;go_wp2;obtain⟨x0,x1,x2,x3⟩:=ce4 bF;refine bodyPost_ret (v:=.agg #[int i64 0,int i64 ((m:Int)+1),int i64 (Qs (x.bk m).price ((x.sa l).dep - y.now)),.slice none 0 0]) (by simp[results,Tryz.results123,go_sem,x0,x1,x2,x3]) rfl ?_
 have H:=h0.out;subst H;exact⟨_,_,_,_,rfl,rfl,c5.out,g5.out,g3.out⟩
theorem zdQ (l:Option Addr)(n c:Nat)(f:Nat->Int)(w:World)(hn:n<=1000000000)(p:IntsAt w l n f) :
  Calls Tryz.prog 15 #[.slice l n c] w fun e w'=>SaysIf (∀ i,i<n->In (f i) 0 99999) e/\Below w.heap.size w w':=by
 go_enter Tryz.func15,Tryz.ntmps15;go_wp2;go_loopw [4,7] (fun _ h wr=>∃ k:Nat,k<=n/\h=int i64 k/\Hid (∀ i,i<k->In (f i) 0 99999)/\Below w.heap.size w wr) (fun _ h _=>n - (intOf h).toNat)
 case atStart=>exact⟨0,Nat.zero_le _,rfl,fun i o=>by omega,bZ⟩
 case round =>
  obtain⟨k,hk,rfl,j,a⟩:=hrel
  by_cases hlt:k<n
  ·obtain⟨b,off,rfl,g⟩:=p k hlt
   have m:wr.cell? ⟨b,off+k,none⟩=some (int i64 (f k)):=(a.cell (World.block_lt_of_cell? w _ g)).trans g;clear g
   by_cases hin:In (f k) 0 99999
   ·go_wp2_with fail
    refine(zeu (f k) 0 99999 _ hin).mono ?_;rintro e q ⟨rfl,d⟩;go_wp2;go_roundw
    case rel=>exact⟨k+1,by omega,by go_num,fun i o=>by
      by_cases e:i=k
      ·rw[e];exact hin
      ·exact j.out i (by omega),d ▸ a⟩
    case measure=>simp[intOf];omega
   ·go_wp2_with fail
    refine(zgn (f k) 0 99999 _ hin).mono ?_;rintro e q ⟨rfl,d⟩;go_wp2;go_ret;exact⟨⟨false,rfl,by simp;exact⟨k,hlt,hin⟩⟩,d ▸ a⟩
  ·obtain rfl:n=k:=by omega
   go_wp2;go_ret;exact⟨⟨true,rfl,by simp;exact j.out⟩,a⟩
theorem zbg (a b:Int)(w:World)(h:In a 0 1000000)(i:In b 0 1000000)(g:PowAt w) :
  Calls Tryz.prog 89 #[int i64 a,int i64 b] w fun e w'=>e=.returned (.string (qf a++⟨#[47]⟩++qf b))/\Below w.heap.size w w':=by
 unfold In at h i;have s1:=qh (n:=a) (by omega) (by omega)
 have s2:=qh (n:=b) (by omega) (by omega)
 have r1:=qk (qf a) ⟨#[47]⟩ (by omega) (by show 1<=_;omega)
 have r2:=qk (qf a++⟨#[47]⟩) (qf b) (by rw[ByteArray.size_append];show _+1<=_;omega) (by omega)
 have f:=hI g;clear g;go_enter Tryz.func89,Tryz.ntmps89;go_wp2_with fail;refine(Z3 a (by omega) (by omega) _ f.out).mono ?_
 rintro e w2 ⟨rfl,c⟩;go_wp2_with fail;refine(Z3 b (by omega) (by omega) _ (f.out.below c)).mono ?_
 rintro e w3 ⟨rfl,d⟩;go_wp2;go_ret;exact⟨rfl,zj c d⟩
theorem zfh (p:Zf)(w:World)(M:qI p)(X:PowAt w) :
  Calls Tryz.prog 41 #[.agg #[int i64 p.pe,int i64 p.len,int i64 p.hei,int i64 p.cl,.bool p.all,int i64 p.be]] w fun e w'=>e=.returned (.string (qC p))/\Below w.heap.size w w':=by
 obtain⟨pe,len,hei,cl,all,be⟩:=p;have Z:=hI M;have K:=hI X;unfold qI Q3 zbH In at M;dsimp only at M ⊢;have s1:=qh (n:=pe) (by omega) (by omega)
 have s2:=qh (n:=len) (by omega) (by omega)
 have s3:=qh (n:=hei) (by omega) (by omega)
 have s4:=qh (n:=cl) (by omega) (by omega)
 have s5:=qh (n:=be) (by omega) (by omega)
 have b1:(0<=pe/\pe<=1000)/\(0<=len/\len<=2000)/\(0<=hei/\hei<=500)/\(0<=cl/\cl<=3)/\(0<=be/\be<=4):=by omega
 have a:=hI b1;clear M X b1;have L:=heap_alloc_new w (.cells #[int i64 pe,int i64 len,int i64 hei,int i64 cl,.bool all,int i64 be] 25);have g:Below w.heap.size w (w.alloc (.cells #[int i64 pe,int i64 len,int i64 hei,int i64 cl,.bool all,int i64 be] 25)):=zr bZ _;go_enter Tryz.func41,Tryz.ntmps41;go_upto_region 1 with fail;generalize w.alloc (.cells #[int i64 pe,int i64 len,int i64 hei,int i64 cl,.bool all,int i64 be] 25)=wA at L g ⊢;have x0:=za L 0 _ rfl;go_wp2_with fail;refine(Z3 pe (by have:=a.out;omega) (by have:=a.out;omega) _ (K.out.below g)).mono ?_
 rintro e w2 ⟨rfl,t⟩;have l:=zc L t;have H:=zj g t;clear L g t x0;obtain⟨V,N,O,J,P,Q⟩:=ce6 l;go_wp2_with fail;obtain⟨q,B⟩:∃ q,q=decide (¬ (len=0/\hei=0)):=⟨_,rfl⟩;have k:=zds pe len hei cl all be w2;rw[← B] at k;have C:=hI B;clear B;refine k.mono ?_;clear k;rintro e Y ⟨rfl,u⟩;have d:=zc l u;have r:=zj H u;clear l H u V N O J P Q;have i:(zaS ⟨pe,len,hei,cl,all,be⟩).size<=300:=by
  unfold zaS
  split
  ·exact Nat.zero_le _
  ·rw[ByteArray.size_append,ByteArray.size_append,ByteArray.size_append]
   show 1+((qf len).size+1+(qf hei).size)<=300
   omega
 go_upto_if 8 with fail;go_cut [3] (fun v wx=>v=.string (qf pe++zaS ⟨pe,len,hei,cl,all,be⟩)/\Hid (Below Y.heap.size Y wx))
 case first =>
  cases q with
  | false =>
   have b:len=0/\hei=0:=Classical.byContradiction (fun h=>by have:=C.out;rw[decide_eq_true h] at this;cases this)
   have D:qf pe++zaS ⟨pe,len,hei,cl,all,be⟩=qf pe:=by
    unfold zaS;rw[if_pos b];exact ByteArray.append_empty
   have R:=hI D.symm;clear b D;go_wp2;go_meet;exact⟨congrArg Value.string R.out,bZ⟩
  | true =>
   have b:¬ (len=0/\hei=0):=of_decide_eq_true C.out.symm;have D:zaS ⟨pe,len,hei,cl,all,be⟩=⟨#[43]⟩++(qf len++⟨#[47]⟩++qf hei):=by unfold zaS;rw[if_neg b]
   rw[D] at i;rw[ByteArray.size_append] at i;have r1:=qk ⟨#[43]⟩ (qf len++⟨#[47]⟩++qf hei) (by show 1<=_;omega) (by omega)
   have r2:=qk (qf pe) (⟨#[43]⟩++(qf len++⟨#[47]⟩++qf hei)) (by omega) (by rw[ByteArray.size_append];omega)
   have N:=za d 1 _ rfl;have O:=za d 2 _ rfl;have R:=hI D.symm;clear b D i;go_wp2_with fail;refine(zbg len hei _ ⟨by have:=a.out;omega,by have:=a.out;omega⟩ ⟨by have:=a.out;omega,by have:=a.out;omega⟩ (K.out.below r)).mono ?_
   rintro e w4 ⟨rfl,T⟩;go_wp2;go_meet;exact⟨congrArg (fun z=>Value.string (qf pe++z)) R.out,T⟩
 case rest =>
 obtain⟨rfl,S⟩:=hcut;have m:=zc d S.out;have I:=zj r S.out;clear d r S;obtain⟨c,A⟩:∃ z,z=zaS ⟨pe,len,hei,cl,all,be⟩:=⟨_,rfl⟩;have j:=hI A;rw[← A] at i ⊢;clear A C q;obtain⟨V,N,O,J,P,Q⟩:=ce6 m;go_wp2_with fail;obtain⟨q,B⟩:∃ q,q=decide (¬ (cl=0/\all=false/\be=0)):=⟨_,rfl⟩;have k:=zaK pe len hei cl all be wc;rw[← B] at k;have C:=hI B;clear B;refine k.mono ?_;clear k;rintro e w5 ⟨rfl,x⟩;have o:=zc m x;have f:=zj I x;clear m I x V N O J P Q
 cases q with
 | false =>
  have b:cl=0/\all=false/\be=0:=Classical.byContradiction (fun h=>by have:=C.out;rw[decide_eq_true h] at this;cases this)
  have E:Hid (qf pe++c=qC ⟨pe,len,hei,cl,all,be⟩):=by
   show qf pe++c=qC _
   unfold qC;rw[if_pos b.1,j.out]
  clear b;go_wp2;go_ret;exact⟨congrArg (fun z=>Ending.returned (Value.string z)) E.out,f⟩
 | true =>
  have b:cl≠0:=fun h0=>by
   have h1:=of_decide_eq_true C.out.symm;have F:=Z.out.2.2
   rcases F with F|F
   ·exact h1 F
   ·have W:=F.1.1
    have W:1<=cl:=W
    omega
  have J:=za o 3 _ rfl;have t1:(qf pe++c).size<=500:=by rw[ByteArray.size_append];omega
  have t2:((⟨#[64]⟩:ByteArray)++qf cl).size<=101:=by rw[ByteArray.size_append];show 1+_<=_;omega
  have r1:=qk ⟨#[64]⟩ (qf cl) (by show 1<=_;omega) (by omega)
  have r2:=qk (qf pe++c) (⟨#[64]⟩++qf cl) (by omega) (by omega)
  go_wp2_with fail;refine(Z3 cl (by have:=a.out;omega) (by have:=a.out;omega) _ (K.out.below f)).mono ?_
  rintro e w6 ⟨rfl,y⟩;have G:=zc o y;have s:=zj f y;clear o f y J;have P:=za G 4 _ rfl;have Q:=za G 5 _ rfl
  cases all with
  | true =>
   have E:Hid (qf pe++c++(⟨#[64]⟩++qf cl)=qC ⟨pe,len,hei,cl,true,be⟩):=by
    show qf pe++c++(⟨#[64]⟩++qf cl)=qC _
    unfold qC cabT zhN;rw[if_neg b,if_neg b,if_pos rfl,j.out];exact ByteArray.append_empty.symm
   clear b;go_wp2;go_ret;exact⟨congrArg (fun z=>Ending.returned (Value.string z)) E.out,s⟩
  | false =>
   have E:Hid (qf pe++c++(⟨#[64]⟩++qf cl)++(⟨#[120]⟩++qf be)=qC ⟨pe,len,hei,cl,false,be⟩):=by
    show qf pe++c++(⟨#[64]⟩++qf cl)++(⟨#[120]⟩++qf be)=qC _
    unfold qC cabT zhN;rw[if_neg b,if_neg b,if_neg (by simp),j.out]
   clear b;have r3:=qk ⟨#[120]⟩ (qf be) (by show 1<=_;omega) (by omega)
   have r4:=qk (qf pe++c++(⟨#[64]⟩++qf cl)) (⟨#[120]⟩++qf be) (by rw[ByteArray.size_append];omega) (by rw[ByteArray.size_append];show 1+_<=_;omega)
   go_wp2_with fail;refine(Z3 be (by have:=a.out;omega) (by have:=a.out;omega) _ (K.out.below s)).mono ?_
   rintro e w7 ⟨rfl,U⟩;go_wp2;go_ret;exact⟨congrArg (fun z=>Ending.returned (Value.string z)) E.out,zj s U⟩
def oneT (p:UInt8):ByteArray:=⟨#[p]⟩
theorem zfr {p:UInt8}:∀ {a b x y:List UInt8},p∉a->p∉b->a++p :: x=b++p :: y->a=b/\x=y
 | [],[],_,_,_,_,h=>by simpa using h
 | [],c :: b,_,_,_,hb,h=>by
  simp at h;exact absurd (by rw[h.1];simp) hb
 | c :: a,[],_,_,ha,_,h=>by
  simp at h;exact absurd (by rw[h.1];simp) ha
 | c :: a,d :: b,x,y,ha,hb,h=>by
  simp at h;obtain⟨rfl,h⟩:=h;obtain⟨rfl,rfl⟩:=zfr (a:=a) (b:=b) (fun m=>ha (by simp[m])) (fun m=>hb (by simp[m])) h
  exact⟨rfl,rfl⟩
def zbZ (p:UInt8)(s:List UInt8)(l:List (List UInt8)):Prop:=l≠[]/\Lib.join l [p]=s/\∀ q,q ∈ l->p∉q
theorem zaN (p:UInt8)(a b:List UInt8)(r:List (List UInt8)):Lib.join (a :: b :: r) [p]=a++p :: Lib.join (b :: r) [p]:=by
 rw[Lib.join_cons,Lib.join_cons];simp[Lib.joinTail]
theorem zew {p:UInt8}:∀ {l m:List (List UInt8)}{s:List UInt8},zbZ p s l->zbZ p s m->l=m
 | [],_,_,h,_=>absurd rfl h.1
 | _,[],_,_,h=>absurd rfl h.1
 | [a],[b],_,h,k=>by
  have e:=h.2.1;have k2:=k.2.1;rw[Lib.join_one] at e k2;rw[e,k2]
 | [a],b :: c :: r,_,h,k=>by
  have e:=h.2.1;have k2:=k.2.1;rw[Lib.join_one] at e;rw[zaN] at k2;exact absurd (by rw[e,← k2];simp) (h.2.2 a (by simp))
 | a :: d :: r,[b],_,h,k=>by
  have e:=h.2.1;have k2:=k.2.1;rw[Lib.join_one] at k2;rw[zaN] at e;exact absurd (by rw[k2,← e];simp) (k.2.2 b (by simp))
 | a :: d :: r,b :: c :: t,s,h,k=>by
  have e:=h.2.1;have k2:=k.2.1;rw[zaN] at e k2;obtain⟨g,i⟩:=zfr (h.2.2 a (by simp)) (k.2.2 b (by simp)) (e.trans k2.symm)
  have:=zew (l:=d :: r) (m:=c :: t) (s:=Lib.join (d :: r) [p]) ⟨by simp,rfl,fun q f=>h.2.2 q (by simp at f ⊢;exact .inr f)⟩ ⟨by simp,i.symm,fun q f=>k.2.2 q (by simp at f ⊢;exact .inr f)⟩
  rw[g,this]
def Q2 (p:UInt8)(s:ByteArray)(l:List ByteArray):Prop:=l≠[]/\qD (oneT p) l=s/\∀ q,q ∈ l->p∉q.data.toList
theorem Q2.list {p:UInt8}{s:ByteArray}{l:List ByteArray}(h:Q2 p s l):zbZ p s.data.toList (l.map (·.data.toList)):=by
 refine⟨by simpa using h.1,?_,fun q a=>?_⟩
 ·rw[← h.2.1]
  unfold qD oneT;simp
 ·obtain⟨x,b,rfl⟩:=List.mem_map.1 a
  exact h.2.2 x b
theorem zda {a b:ByteArray}(h:a.data.toList=b.data.toList):a=b:=by
 apply ByteArray.ext
 have:=congrArg List.toArray h
 simpa using this
theorem zcN:∀ {l m:List ByteArray},l.map (·.data.toList)=m.map (·.data.toList)->l=m
 | [],[],_=>rfl
 | [],_ :: _,h=>by simp at h
 | _ :: _,[],h=>by simp at h
 | a :: l,b :: m,h=>by
  simp only[List.map_cons,List.cons.injEq] at h;rw[zda h.1,zcN h.2]
theorem zax {p:UInt8}{s:ByteArray}{l m:List ByteArray}(h:Q2 p s l)(k:Q2 p s m):l=m:=zcN (zew h.list k.list)
/-! ### Numbers -/
def ZS (c:UInt8):Prop:=48<=c.toNat/\c.toNat<=57
def zdJ (l:List UInt8):Nat:=l.foldl (fun a c=>10*a+(c.toNat - 48)) 0
theorem zdz (l:List UInt8)(c:UInt8):zdJ (l++[c])=10*zdJ l+(c.toNat - 48):=by simp[zdJ]
theorem zdb {d:Nat}(h:d<10):ZS (UInt8.ofNat (48+d))/\(UInt8.ofNat (48+d)).toNat - 48=d:=by
 have e:(UInt8.ofNat (48+d)).toNat=48+d:=by simp;omega
 unfold ZS;rw[e]
 omega
theorem zex (u:Nat):∀ c,c ∈ Lib.decDigits u->ZS c:=by
 induction u using Nat.strongRecOn with
 | _ u ih =>
  intro c a
  by_cases h:u<10
  ·rw[Lib.decDigits_one h] at a
   rw[List.mem_singleton] at a;rw[a];exact(zdb h).1
  ·rw[Lib.decDigits,dif_neg h] at a
   rcases List.mem_append.1 a with a|a
   ·exact ih (u / 10) (by omega) c a
   ·rw[List.mem_singleton] at a
    rw[a];exact(zdb (d:=u % 10) (by omega)).1
theorem zhs (u:Nat):zdJ (Lib.decDigits u)=u:=by
 induction u using Nat.strongRecOn with
 | _ u ih =>
  by_cases h:u<10
  ·rw[Lib.decDigits_one h]
   have:=(zdb h).2;simp[zdJ] at this ⊢
   omega
  ·rw[Lib.decDigits,dif_neg h,zdz,ih (u / 10) (by omega),(zdb (d:=u % 10) (by omega)).2]
   omega
theorem dec_len {u:Nat}(h:u<=99999):1<=(Lib.decDigits u).length/\(Lib.decDigits u).length<=5:=by
 rw[Lib.decDigits_length];refine⟨Lib.nDigits_pos u,?_⟩;have b:∀ k u,u<10 ^ (k+1)->Lib.nDigits u<=k+1:=by
  intro k
  induction k with
  | zero=>intro u a;rw[Lib.nDigits_small (by simpa using a)];omega
  | succ k ih =>
   intro u a
   by_cases c:u<10
   ·rw[Lib.nDigits_small c];omega
   ·rw[Lib.nDigits_big c]
    have:=ih (u / 10) (by rw[Nat.pow_succ] at a;omega)
    omega
 exact b 4 u (by omega)
theorem val_lt:∀ (l:List UInt8),(∀ c,c ∈ l->ZS c)->zdJ l<10 ^ l.length:=by
 intro l;have d:∀ m:List UInt8,(∀ c,c ∈ m->ZS c)->zdJ m.reverse<10 ^ m.length:=by
  intro m
  induction m with
  | nil=>intro _;simp[zdJ]
  | cons a r ih =>
   intro h;have:=ih (fun c b=>h c (by simp[b]))
   have e:=h a (by simp)
   unfold ZS at e;rw[List.reverse_cons,zdz,List.length_cons,Nat.pow_succ]
   omega
 intro h;have:=d l.reverse (fun c b=>h c (by simpa using b))
 rw[List.reverse_reverse,List.length_reverse] at this;exact this
end Go.Proofs.YtfallpinmhbemaaGreatDoor
