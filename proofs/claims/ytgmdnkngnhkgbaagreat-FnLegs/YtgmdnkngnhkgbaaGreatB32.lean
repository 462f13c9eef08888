import Derived.Test.YtgmdnkngnhkgbaaGreatB29
namespace Go.Proofs.YtgmdnkngnhkgbaaGreat
open Go.RowKit
open Go.Value (int)
open Go.IntKind (i64)
set_option maxHeartbeats 64000000
set_option maxRecDepth 1000000
theorem l7End_7 (g base N R O M q z m:Nat)(J I Q d:Option Addr)(u:Int)(y:OpD)(x:Off)(L C A B D E:Nat->Value)(w:World)(hq:w.heap[g]?=some (.cells #[.slice J N O,.slice I N M,.slice Q R q] 27 (0,0)))(Y:zy w base (.slice J N O) (.slice I N M) (.slice Q R q) N N R x L C A B D E)(c3:x.bkn=R)(b6:base<=w.heap.size)(T:y.kind=7)(d7:In y.pe 0 20)(f5:y.lgn<=3)(b8:zX w d y.lgn y.lg)(c2:zZ d y.lgn z)(b9:0<y.lgn->∀ a,d=some a->a.block<base)(c0:y.name=(m:Int)+1)(hm:m<R)(n:R<=1048576) :
  Calls Tryz.prog 119 #[.pointer (some ⟨g,0,none⟩),int i64 u,.agg #[int i64 y.kind,.string y.own,int i64 y.name,.slice d y.lgn z,int i64 y.pe,int i64 y.len,int i64 y.hei,int i64 y.cl,.bool y.all,int i64 y.be,int i64 y.unt,int i64 y.now]] w fun e w'=>zaD g base N O M J I (fun b=>b=g∨(Value.slice Q R q).ownBlock=some b) { x with bk:=Zl x.bk m (qg (x.bk m) u y) } 0 y.name (0) (fun _ v=>v=.slice none 0 0) L C A B D w e w':=by
 rw[T,c0];have HO:=hI Y;have HQ:=hI hq;have c7:=hI T;have c8:=hI c3;have e7:=hI b6;have e9:=hI b8;have f4:=hI c2;have f0:=hI b9;obtain⟨l,rfl,b5,d5⟩:=own_addr Y.bk.row (by omega)
 obtain⟨cs,b7⟩:=zG Y.bk.row l rfl;obtain⟨d0,c9,eE,q1,q2,q3⟩:=zr (Y.bk.legs m hm);obtain⟨b,S⟩:∃ b,b=x.bk m:=⟨_,rfl⟩;have e5:=hI S;have a0:=hI b7;have c4:Hid (∀ V,Below w.heap.size w V->∀ j v,(bkC x.bk E m)[j]?=some v->V.cell? ⟨l,m*13+j,none⟩=some v):=fun V hV j v hv=>by
  have hj:j<13:=by
   have h:=(List.getElem?_eq_some_iff.1 hv).1;exact h
  have h:=zx Y.bk.row (m*13+j) (by omega) rfl
  rw[zz 13 _ m j hj,List.getD_eq_getElem?_getD,hv] at h;exact(hV.cell (p:=⟨l,m*13+j,none⟩) d5).trans h
 have e8:Hid (E m=.slice d0 b.lgn c9):=by rw[S];exact eE
 have i1:(0:Int)<=(m:Int):=by omega
 have i2:(m:Int)<(R:Int):=by omega
 have f6:IntKind.i64.wrap ((m:Int)+1 - 1)=(m:Int):=by rw[IntKind.wrap_i64];omega
 have HM:=hI hm;have e6:=hI b5;clear b7 eE q1 q2 q3 S b5;clear Y hq T c3 b6 b8 c2 b9 c0 hm;obtain⟨pr,U⟩:∃ pr,pr=qN ⟨y.pe,y.len,y.hei,y.cl,y.all,y.be⟩ (y.lgn:Int):=⟨_,rfl⟩;have f1:=hI U;have c:Below w.heap.size w ((w.alloc (.cells #[int i64 7,.string y.own,int i64 ((m:Int)+1),.slice d y.lgn z,int i64 y.pe,int i64 y.len,int i64 y.hei,int i64 y.cl,.bool y.all,int i64 y.be,int i64 y.unt,int i64 y.now] 120)).alloc (.cells #[int i64 0,int i64 0,int i64 0,.slice none 0 0] 116)):=zl (zl bZ _) _;have t:=zc (heap_alloc_new w (.cells #[int i64 7,.string y.own,int i64 ((m:Int)+1),.slice d y.lgn z,int i64 y.pe,int i64 y.len,int i64 y.hei,int i64 y.cl,.bool y.all,int i64 y.be,int i64 y.unt,int i64 y.now] 120)) (.cells #[int i64 0,int i64 0,int i64 0,.slice none 0 0] 116);have H:=zbZ w (.cells #[int i64 7,.string y.own,int i64 ((m:Int)+1),.slice d y.lgn z,int i64 y.pe,int i64 y.len,int i64 y.hei,int i64 y.cl,.bool y.all,int i64 y.be,int i64 y.unt,int i64 y.now] 120) (.cells #[int i64 0,int i64 0,int i64 0,.slice none 0 0] 116);go_enter Tryz.func119,Tryz.ntmps119;go_wp2_with fail;generalize ((w.alloc (.cells #[int i64 7,.string y.own,int i64 ((m:Int)+1),.slice d y.lgn z,int i64 y.pe,int i64 y.len,int i64 y.hei,int i64 y.cl,.bool y.all,int i64 y.be,int i64 y.unt,int i64 y.now] 120)).alloc (.cells #[int i64 0,int i64 0,int i64 0,.slice none 0 0] 116))=W at c t H ⊢;refine(qB y.pe y.len y.hei y.cl y.all y.be (y.lgn:Int) _ d7 (by unfold In;omega)).mono ?_
 rintro e V ⟨rfl,P⟩;rw[← U];clear U;replace c:=zf c P;replace t:=zb t P;replace H:=zb H P;clear P W;have o0:=za t 0 _ rfl;have n2:∀ G:zv V,G.val.cell? ⟨g,2,none⟩=some (.slice (some ⟨l,0,none⟩) R q):=fun G=>za (zb HQ.out (zf c G.bel)) 2 _ rfl
 have m2:∀ G:zv V,G.val.cell? ⟨w.heap.size,2,none⟩=some (int i64 ((m:Int)+1)):=fun G=>za (zb t G.bel) 2 _ rfl
 go_upto_region 17 with fail;refine zg (by kernel_rfl) (by kernel_rfl) ?_
 repeat(first|go_big_quiet_skip|(go_big_quiet_want;go_big_quiet_op;first|go_big_quiet_on|fail))
 refine wpQuiet_nil ?_;rintro _ ⟨G,rfl⟩;replace c:=zf c G.bel;replace t:=zb t G.bel;replace H:=zb H G.bel;have d8:=zQ H;have o2:=za t 2 _ rfl;clear o0 n2 m2;have o0:∀ o,(G.val.alloc o).cell? ⟨w.heap.size,0,none⟩=some (int i64 7):=fun o=>za (zc t o) 0 _ rfl
 go_upto_region 20 with fail;replace c:=zl c (.cells #[int i64 0,int i64 ((m:Int)+1),int i64 0,.slice none 0 0] 116);replace t:=zc t (.cells #[int i64 0,int i64 ((m:Int)+1),int i64 0,.slice none 0 0] 116);replace H:=zc H (.cells #[int i64 0,int i64 ((m:Int)+1),int i64 0,.slice none 0 0] 116);have bT:=heap_alloc_new G.val (.cells #[int i64 0,int i64 ((m:Int)+1),int i64 0,.slice none 0 0] 116);generalize G.val.alloc (.cells #[int i64 0,int i64 ((m:Int)+1),int i64 0,.slice none 0 0] 116)=X at c t H bT ⊢;generalize G.val.heap.size=tb at bT d8 ⊢;clear o0 o2 G V;have a8:=zb a0.out c;have k2:=c4.out X c 2 _ rfl;have f2:=ze a8 (m*13+2);obtain⟨t0,t1,t2,t3⟩:=ce4 bT;have d9:=za t 1 _ rfl;go_upto_region 38 with fail;have a3:Hid (qg (x.bk m) u y={ x.bk m with own:=y.own }):=by show _=_;simp[qg,c7.out]
 have s:zA X (X.setCell ⟨l,m*13+2,none⟩ (.string y.own)) (fun b=>b=l):=((zA.refl X (fun b=>b=l)).set (a:=⟨l,m*13+2,none⟩) rfl _)
 have F:Hid ((X.setCell ⟨l,m*13+2,none⟩ (.string y.own)).ownsRow base 43 13 (.slice (some ⟨l,0,none⟩) R q) R (Qq (Zl x.bk m (qg (x.bk m) u y)) (atV E m (E m)) R)):=by
  refine own_congr (own_store ((HO.out.below c).bk.row) (m*13+2) (.string y.own)) (fun j _=>zbd 13 (by decide) (k:=m) (C:=bkC x.bk E) (C':=bkC (Zl x.bk m (qg (x.bk m) u y)) (atV E m (E m))) (f:=fun i=>if i=m*13+2 then (.string y.own:Value) else recCell 13 (bkC x.bk E) i) (fun r hr=>?_) (fun j hj=>?_) (fun i hi=>?_) j)
  ·have n:=zz 13 (bkC x.bk E) m r hr
   unfold bkC;rw[qA,atV_at,a3.out];unfold bkC at n;have c1:r=0∨r=1∨r=2∨r=3∨r=4∨r=5∨r=6∨r=7∨r=8∨r=9∨r=10∨r=11∨r=12:=by omega
   rcases c1 with rfl|rfl|rfl|rfl|rfl|rfl|rfl|rfl|rfl|rfl|rfl|rfl|rfl
   ·rw[if_neg (by omega),n];rfl
   ·rw[if_neg (by omega),n];rfl
   ·rw[if_pos rfl];rfl
   ·rw[if_neg (by omega),n];rfl
   ·rw[if_neg (by omega),n];rfl
   ·rw[if_neg (by omega),n];rfl
   ·rw[if_neg (by omega),n];rfl
   ·rw[if_neg (by omega),n];rfl
   ·rw[if_neg (by omega),n];rfl
   ·rw[if_neg (by omega),n];rfl
   ·rw[if_neg (by omega),n];rfl
   ·rw[if_neg (by omega),n];rfl
   ·rw[if_neg (by omega),n];rfl
  ·rw[if_neg (by omega)]
  ·unfold bkC
   rw[Zp _ _ _ hi,atV_ne _ _ _ _ hi]
 have a6:Hid (zy (X.setCell ⟨l,m*13+2,none⟩ (.string y.own)) base (.slice J N O) (.slice I N M) (.slice (some ⟨l,0,none⟩) R q) N N R { x with bk:=Zl x.bk m (qg (x.bk m) u y) } L C A B D (atV E m (E m))):=(HO.out.below c).putBk s F.out (by rw[a3.out];exact(HO.out.below c).bk.legs m HM.out) (HO.out.bk.far_same HM.out)
 have d6:g≠l:=fun e=>by have h:=a0.out;rw[← e,HQ.out] at h;simp at h
 have a7:=hI (s.blk (zb HQ.out c) d6);have a9:=s.blk bT (by show ¬ _=_;omega)
 have K:=s.blk H (by show ¬ _=_;omega)
 have a2:Hid (zA w (X.setCell ⟨l,m*13+2,none⟩ (.string y.own)) (fun b=>b=g∨(Value.slice (some ⟨l,0,none⟩) R q).ownBlock=some b)):=(zA.of_below c).trans (s.mono (fun b e=>.inr (by rw[show b=l from e];rfl)))
 generalize (X.setCell ⟨l,m*13+2,none⟩ (.string y.own))=Z1 at s F a6 a7 a9 K a2 ⊢;clear s F bT H d9 t a8 t0 t1 t2 t3 k2 f2;have e4:w.heap.size+1≠tb:=by omega
 obtain⟨a5,b0,a1,bF⟩:=QE a2.out a6.out a7.out K (by omega) (int i64 0) (int i64 ((m:Int)+1)) (int i64 0) (.slice none 0 0) rfl
 obtain⟨t0,t1,t2,t3⟩:=ce4 a9;obtain⟨v0,v1,v2,v3⟩:=ce4 K;obtain⟨e0,e1,e2,e3⟩:=fe4 K;have Z:Hid _:=a5;have c6:Hid _:=b0;have c5:Hid _:=a1;clear a5 b0 a1;go_wp2;obtain⟨x0,x1,x2,x3⟩:=ce4 bF;refine bodyPost_ret (v:=.agg #[int i64 0,int i64 ((m:Int)+1),int i64 (0),.slice none 0 0]) (by simp[results,Tryz.results119,go_sem,x0,x1,x2,x3]) rfl ?_
 have n:=c8.out;subst n;exact⟨_,_,_,_,rfl,rfl,Z.out,c6.out,c5.out⟩
theorem l7End_8 (g base N R O M q z m:Nat)(J I Q d:Option Addr)(u:Int)(y:OpD)(x:Off)(L C A B D E:Nat->Value)(w:World)(hq:w.heap[g]?=some (.cells #[.slice J N O,.slice I N M,.slice Q R q] 27 (0,0)))(Y:zy w base (.slice J N O) (.slice I N M) (.slice Q R q) N N R x L C A B D E)(c3:x.bkn=R)(b6:base<=w.heap.size)(T:y.kind=8)(d8:In y.pe 0 20)(f5:y.lgn<=3)(b8:zX w d y.lgn y.lg)(c2:zZ d y.lgn z)(b9:0<y.lgn->∀ a,d=some a->a.block<base)(c0:y.name=(m:Int)+1)(hm:m<R)(n:R<=1048576) :
  Calls Tryz.prog 119 #[.pointer (some ⟨g,0,none⟩),int i64 u,.agg #[int i64 y.kind,.string y.own,int i64 y.name,.slice d y.lgn z,int i64 y.pe,int i64 y.len,int i64 y.hei,int i64 y.cl,.bool y.all,int i64 y.be,int i64 y.unt,int i64 y.now]] w fun e w'=>zaD g base N O M J I (fun b=>b=g∨(Value.slice Q R q).ownBlock=some b) { x with bk:=Zl x.bk m (qg (x.bk m) u y) } 0 y.name (0) (fun _ v=>v=.slice none 0 0) L C A B D w e w':=by
 rw[T,c0];have HO:=hI Y;have HQ:=hI hq;have c7:=hI T;have c8:=hI c3;have e8:=hI b6;have f0:=hI b8;have f4:=hI c2;have f1:=hI b9;obtain⟨l,rfl,b5,d6⟩:=own_addr Y.bk.row (by omega)
 obtain⟨cs,b7⟩:=zG Y.bk.row l rfl;obtain⟨d0,c9,eE,q1,q2,q3⟩:=zr (Y.bk.legs m hm);obtain⟨b,S⟩:∃ b,b=x.bk m:=⟨_,rfl⟩;have e6:=hI S;have a0:=hI b7;have c4:Hid (∀ V,Below w.heap.size w V->∀ j v,(bkC x.bk E m)[j]?=some v->V.cell? ⟨l,m*13+j,none⟩=some v):=fun V hV j v hv=>by
  have hj:j<13:=by
   have h:=(List.getElem?_eq_some_iff.1 hv).1;exact h
  have h:=zx Y.bk.row (m*13+j) (by omega) rfl
  rw[zz 13 _ m j hj,List.getD_eq_getElem?_getD,hv] at h;exact(hV.cell (p:=⟨l,m*13+j,none⟩) d6).trans h
 have e9:Hid (E m=.slice d0 b.lgn c9):=by rw[S];exact eE
 have i1:(0:Int)<=(m:Int):=by omega
 have i2:(m:Int)<(R:Int):=by omega
 have f6:IntKind.i64.wrap ((m:Int)+1 - 1)=(m:Int):=by rw[IntKind.wrap_i64];omega
 have HM:=hI hm;have e7:=hI b5;clear b7 eE q1 q2 q3 S b5;clear Y hq T c3 b6 b8 c2 b9 c0 hm;obtain⟨pr,U⟩:∃ pr,pr=qN ⟨y.pe,y.len,y.hei,y.cl,y.all,y.be⟩ (y.lgn:Int):=⟨_,rfl⟩;have f2:=hI U;have c:Below w.heap.size w ((w.alloc (.cells #[int i64 8,.string y.own,int i64 ((m:Int)+1),.slice d y.lgn z,int i64 y.pe,int i64 y.len,int i64 y.hei,int i64 y.cl,.bool y.all,int i64 y.be,int i64 y.unt,int i64 y.now] 120)).alloc (.cells #[int i64 0,int i64 0,int i64 0,.slice none 0 0] 116)):=zl (zl bZ _) _;have t:=zc (heap_alloc_new w (.cells #[int i64 8,.string y.own,int i64 ((m:Int)+1),.slice d y.lgn z,int i64 y.pe,int i64 y.len,int i64 y.hei,int i64 y.cl,.bool y.all,int i64 y.be,int i64 y.unt,int i64 y.now] 120)) (.cells #[int i64 0,int i64 0,int i64 0,.slice none 0 0] 116);have H:=zbZ w (.cells #[int i64 8,.string y.own,int i64 ((m:Int)+1),.slice d y.lgn z,int i64 y.pe,int i64 y.len,int i64 y.hei,int i64 y.cl,.bool y.all,int i64 y.be,int i64 y.unt,int i64 y.now] 120) (.cells #[int i64 0,int i64 0,int i64 0,.slice none 0 0] 116);go_enter Tryz.func119,Tryz.ntmps119;go_wp2_with fail;generalize ((w.alloc (.cells #[int i64 8,.string y.own,int i64 ((m:Int)+1),.slice d y.lgn z,int i64 y.pe,int i64 y.len,int i64 y.hei,int i64 y.cl,.bool y.all,int i64 y.be,int i64 y.unt,int i64 y.now] 120)).alloc (.cells #[int i64 0,int i64 0,int i64 0,.slice none 0 0] 116))=W at c t H ⊢;refine(qB y.pe y.len y.hei y.cl y.all y.be (y.lgn:Int) _ d8 (by unfold In;omega)).mono ?_
 rintro e V ⟨rfl,P⟩;rw[← U];clear U;replace c:=zf c P;replace t:=zb t P;replace H:=zb H P;clear P W;have o0:=za t 0 _ rfl;have n2:∀ G:zv V,G.val.cell? ⟨g,2,none⟩=some (.slice (some ⟨l,0,none⟩) R q):=fun G=>za (zb HQ.out (zf c G.bel)) 2 _ rfl
 have m2:∀ G:zv V,G.val.cell? ⟨w.heap.size,2,none⟩=some (int i64 ((m:Int)+1)):=fun G=>za (zb t G.bel) 2 _ rfl
 go_upto_region 17 with fail;refine zg (by kernel_rfl) (by kernel_rfl) ?_
 repeat(first|go_big_quiet_skip|(go_big_quiet_want;go_big_quiet_op;first|go_big_quiet_on|fail))
 refine wpQuiet_nil ?_;rintro _ ⟨G,rfl⟩;replace c:=zf c G.bel;replace t:=zb t G.bel;replace H:=zb H G.bel;have d9:=zQ H;have o2:=za t 2 _ rfl;clear o0 n2 m2;have o0:∀ o,(G.val.alloc o).cell? ⟨w.heap.size,0,none⟩=some (int i64 8):=fun o=>za (zc t o) 0 _ rfl
 go_upto_region 20 with fail;replace c:=zl c (.cells #[int i64 0,int i64 ((m:Int)+1),int i64 0,.slice none 0 0] 116);replace t:=zc t (.cells #[int i64 0,int i64 ((m:Int)+1),int i64 0,.slice none 0 0] 116);replace H:=zc H (.cells #[int i64 0,int i64 ((m:Int)+1),int i64 0,.slice none 0 0] 116);have bT:=heap_alloc_new G.val (.cells #[int i64 0,int i64 ((m:Int)+1),int i64 0,.slice none 0 0] 116);generalize G.val.alloc (.cells #[int i64 0,int i64 ((m:Int)+1),int i64 0,.slice none 0 0] 116)=X at c t H bT ⊢;generalize G.val.heap.size=tb at bT d9 ⊢;clear o0 o2 G V;have a8:=zb a0.out c;have e4:=c4.out X c 10 _ rfl;have d5:=ze a8 (m*13+10);obtain⟨t0,t1,t2,t3⟩:=ce4 bT;go_upto_region 38 with fail;have a3:Hid (qg (x.bk m) u y={ x.bk m with state:=4 }):=by show _=_;simp[qg,c7.out]
 have s:zA X (X.setCell ⟨l,m*13+10,none⟩ (int i64 4)) (fun b=>b=l):=((zA.refl X (fun b=>b=l)).set (a:=⟨l,m*13+10,none⟩) rfl _)
 have F:Hid ((X.setCell ⟨l,m*13+10,none⟩ (int i64 4)).ownsRow base 43 13 (.slice (some ⟨l,0,none⟩) R q) R (Qq (Zl x.bk m (qg (x.bk m) u y)) (atV E m (E m)) R)):=by
  refine own_congr (own_store ((HO.out.below c).bk.row) (m*13+10) (int i64 4)) (fun j _=>zbd 13 (by decide) (k:=m) (C:=bkC x.bk E) (C':=bkC (Zl x.bk m (qg (x.bk m) u y)) (atV E m (E m))) (f:=fun i=>if i=m*13+10 then (int i64 4:Value) else recCell 13 (bkC x.bk E) i) (fun r hr=>?_) (fun j hj=>?_) (fun i hi=>?_) j)
  ·have n:=zz 13 (bkC x.bk E) m r hr
   unfold bkC;rw[qA,atV_at,a3.out];unfold bkC at n;have c1:r=0∨r=1∨r=2∨r=3∨r=4∨r=5∨r=6∨r=7∨r=8∨r=9∨r=10∨r=11∨r=12:=by omega
   rcases c1 with rfl|rfl|rfl|rfl|rfl|rfl|rfl|rfl|rfl|rfl|rfl|rfl|rfl
   ·rw[if_neg (by omega),n];rfl
   ·rw[if_neg (by omega),n];rfl
   ·rw[if_neg (by omega),n];rfl
   ·rw[if_neg (by omega),n];rfl
   ·rw[if_neg (by omega),n];rfl
   ·rw[if_neg (by omega),n];rfl
   ·rw[if_neg (by omega),n];rfl
   ·rw[if_neg (by omega),n];rfl
   ·rw[if_neg (by omega),n];rfl
   ·rw[if_neg (by omega),n];rfl
   ·rw[if_pos rfl];rfl
   ·rw[if_neg (by omega),n];rfl
   ·rw[if_neg (by omega),n];rfl
  ·rw[if_neg (by omega)]
  ·unfold bkC
   rw[Zp _ _ _ hi,atV_ne _ _ _ _ hi]
 have a6:Hid (zy (X.setCell ⟨l,m*13+10,none⟩ (int i64 4)) base (.slice J N O) (.slice I N M) (.slice (some ⟨l,0,none⟩) R q) N N R { x with bk:=Zl x.bk m (qg (x.bk m) u y) } L C A B D (atV E m (E m))):=(HO.out.below c).putBk s F.out (by rw[a3.out];exact(HO.out.below c).bk.legs m HM.out) (HO.out.bk.far_same HM.out)
 have d7:g≠l:=fun e=>by have h:=a0.out;rw[← e,HQ.out] at h;simp at h
 have a7:=hI (s.blk (zb HQ.out c) d7);have a9:=s.blk bT (by show ¬ _=_;omega)
 have K:=s.blk H (by show ¬ _=_;omega)
 have a2:Hid (zA w (X.setCell ⟨l,m*13+10,none⟩ (int i64 4)) (fun b=>b=g∨(Value.slice (some ⟨l,0,none⟩) R q).ownBlock=some b)):=(zA.of_below c).trans (s.mono (fun b e=>.inr (by rw[show b=l from e];rfl)))
 generalize (X.setCell ⟨l,m*13+10,none⟩ (int i64 4))=Z1 at s F a6 a7 a9 K a2 ⊢;clear s F bT H t a8 t0 t1 t2 t3 e4 d5;have e5:w.heap.size+1≠tb:=by omega
 obtain⟨a5,b0,a1,bF⟩:=QE a2.out a6.out a7.out K (by omega) (int i64 0) (int i64 ((m:Int)+1)) (int i64 0) (.slice none 0 0) rfl
 obtain⟨t0,t1,t2,t3⟩:=ce4 a9;obtain⟨v0,v1,v2,v3⟩:=ce4 K;obtain⟨e0,e1,e2,e3⟩:=fe4 K;have Z:Hid _:=a5;have c6:Hid _:=b0;have c5:Hid _:=a1;clear a5 b0 a1;go_wp2;obtain⟨x0,x1,x2,x3⟩:=ce4 bF;refine bodyPost_ret (v:=.agg #[int i64 0,int i64 ((m:Int)+1),int i64 (0),.slice none 0 0]) (by simp[results,Tryz.results119,go_sem,x0,x1,x2,x3]) rfl ?_
 have n:=c8.out;subst n;exact⟨_,_,_,_,rfl,rfl,Z.out,c6.out,c5.out⟩
theorem l7End_1 (g base N R l k u c:Nat)(j i t b:Option Addr)(Q:Int)(y:OpD)(x:Off)(L C A B D E:Nat->Value)(w:World)(X:w.heap[g]?=some (.cells #[.slice j N l,.slice i N k,.slice t R u] 27 (0,0)))(U:zy w base (.slice j N l) (.slice i N k) (.slice t R u) N N R x L C A B D E)(J:x.bkn=R)(F:base<=w.heap.size)(m:y.kind=1)(S:In y.pe 0 20)(a3:y.lgn<=3)(G:zX w b y.lgn y.lg)(I:zZ b y.lgn c)(H:0<y.lgn->∀ a,b=some a->a.block<base) :
  Calls Tryz.prog 119 #[.pointer (some ⟨g,0,none⟩),int i64 Q,.agg #[int i64 y.kind,.string y.own,int i64 y.name,.slice b y.lgn c,int i64 y.pe,int i64 y.len,int i64 y.hei,int i64 y.cl,.bool y.all,int i64 y.be,int i64 y.unt,int i64 y.now]] w fun e w'=>zaD g base N l k j i (fun _=>False) x 0 0 (qN ⟨y.pe,y.len,y.hei,y.cl,y.all,y.be⟩ (y.lgn:Int)) (fun _ v=>v=.slice none 0 0) L C A B D w e w':=by
 rw[m];have HO:=hI U;have HQ:=hI X;have Z:=hI m;have P:=hI J;have Y:=hI F;have a0:=hI G;have a2:=hI I;have a1:=hI H;clear U X m J F G I H;obtain⟨M,n⟩:∃ M,M=qN ⟨y.pe,y.len,y.hei,y.cl,y.all,y.be⟩ (y.lgn:Int):=⟨_,rfl⟩;have O:=hI n;have d:Below w.heap.size w ((w.alloc (.cells #[int i64 1,.string y.own,int i64 y.name,.slice b y.lgn c,int i64 y.pe,int i64 y.len,int i64 y.hei,int i64 y.cl,.bool y.all,int i64 y.be,int i64 y.unt,int i64 y.now] 120)).alloc (.cells #[int i64 0,int i64 0,int i64 0,.slice none 0 0] 116)):=zl (zl bZ _) _;have K:=zc (heap_alloc_new w (.cells #[int i64 1,.string y.own,int i64 y.name,.slice b y.lgn c,int i64 y.pe,int i64 y.len,int i64 y.hei,int i64 y.cl,.bool y.all,int i64 y.be,int i64 y.unt,int i64 y.now] 120)) (.cells #[int i64 0,int i64 0,int i64 0,.slice none 0 0] 116);have o:=zbZ w (.cells #[int i64 1,.string y.own,int i64 y.name,.slice b y.lgn c,int i64 y.pe,int i64 y.len,int i64 y.hei,int i64 y.cl,.bool y.all,int i64 y.be,int i64 y.unt,int i64 y.now] 120) (.cells #[int i64 0,int i64 0,int i64 0,.slice none 0 0] 116);go_enter Tryz.func119,Tryz.ntmps119;go_wp2_with fail;generalize ((w.alloc (.cells #[int i64 1,.string y.own,int i64 y.name,.slice b y.lgn c,int i64 y.pe,int i64 y.len,int i64 y.hei,int i64 y.cl,.bool y.all,int i64 y.be,int i64 y.unt,int i64 y.now] 120)).alloc (.cells #[int i64 0,int i64 0,int i64 0,.slice none 0 0] 116))=W at d K o ⊢;refine(qB y.pe y.len y.hei y.cl y.all y.be (y.lgn:Int) _ S (by unfold In;omega)).mono ?_
 rintro e V ⟨rfl,f⟩;rw[← n];clear n;replace d:=zf d f;replace K:=zb K f;replace o:=zb o f;clear f W;have o0:=za K 0 _ rfl;obtain⟨s,z,r,bF⟩:=QE (T:=(fun _=>False)) (zA.of_below d) (HO.out.below d) (zb HQ.out d) o (by omega) (int i64 0) (int i64 0) (int i64 M) (.slice none 0 0) rfl
 obtain⟨v0,v1,v2,v3⟩:=ce4 o;obtain⟨e0,e1,e2,e3⟩:=fe4 o;have h:Hid _:=s;have q:Hid _:=z;have p:Hid _:=r;clear s z r;go_wp2;obtain⟨x0,x1,x2,x3⟩:=ce4 bF;refine bodyPost_ret (v:=.agg #[int i64 0,int i64 0,int i64 M,.slice none 0 0]) (by simp[results,Tryz.results119,go_sem,x0,x1,x2,x3]) rfl ?_
 have hR:=P.out;subst hR;rw[O.out] at h q p ⊢;exact⟨_,_,_,_,rfl,rfl,h.out,q.out,p.out⟩
theorem l7End_2f (g base N R k j t d:Nat)(i h s b:Option Addr)(O:Int)(y:OpD)(x:Off)(L C A B D E:Nat->Value)(w:World)(U:w.heap[g]?=some (.cells #[.slice i N k,.slice h N j,.slice s R t] 27 (0,0)))(S:zy w base (.slice i N k) (.slice h N j) (.slice s R t) N N R x L C A B D E)(I:x.bkn=R)(z:base<=w.heap.size)(l:y.kind=2)(P:In y.pe 0 20)(a5:y.lgn<=3)(F:zX w b y.lgn y.lg)(H:zZ b y.lgn d)(G:0<y.lgn->∀ a,b=some a->a.block<base)(hR:R=30) :
  Calls Tryz.prog 119 #[.pointer (some ⟨g,0,none⟩),int i64 O,.agg #[int i64 y.kind,.string y.own,int i64 y.name,.slice b y.lgn d,int i64 y.pe,int i64 y.len,int i64 y.hei,int i64 y.cl,.bool y.all,int i64 y.be,int i64 y.unt,int i64 y.now]] w fun e w'=>zaD g base N k j i h (fun _=>False) x 8 0 0 (fun _ v=>v=.slice none 0 0) L C A B D w e w':=by
 subst hR;rw[l];have HO:=hI S;have Q:=hI U;have Z:=hI l;have r:=hI I;have Y:=hI z;have a0:=hI F;have a3:=hI H;have a1:=hI G;clear S U l I z F H G;obtain⟨X,m⟩:∃ X,X=qN ⟨y.pe,y.len,y.hei,y.cl,y.all,y.be⟩ (y.lgn:Int):=⟨_,rfl⟩;have a2:=hI m;have c:Below w.heap.size w ((w.alloc (.cells #[int i64 2,.string y.own,int i64 y.name,.slice b y.lgn d,int i64 y.pe,int i64 y.len,int i64 y.hei,int i64 y.cl,.bool y.all,int i64 y.be,int i64 y.unt,int i64 y.now] 120)).alloc (.cells #[int i64 0,int i64 0,int i64 0,.slice none 0 0] 116)):=zl (zl bZ _) _;have J:=zc (heap_alloc_new w (.cells #[int i64 2,.string y.own,int i64 y.name,.slice b y.lgn d,int i64 y.pe,int i64 y.len,int i64 y.hei,int i64 y.cl,.bool y.all,int i64 y.be,int i64 y.unt,int i64 y.now] 120)) (.cells #[int i64 0,int i64 0,int i64 0,.slice none 0 0] 116);have n:=zbZ w (.cells #[int i64 2,.string y.own,int i64 y.name,.slice b y.lgn d,int i64 y.pe,int i64 y.len,int i64 y.hei,int i64 y.cl,.bool y.all,int i64 y.be,int i64 y.unt,int i64 y.now] 120) (.cells #[int i64 0,int i64 0,int i64 0,.slice none 0 0] 116);go_enter Tryz.func119,Tryz.ntmps119;go_wp2_with fail;generalize ((w.alloc (.cells #[int i64 2,.string y.own,int i64 y.name,.slice b y.lgn d,int i64 y.pe,int i64 y.len,int i64 y.hei,int i64 y.cl,.bool y.all,int i64 y.be,int i64 y.unt,int i64 y.now] 120)).alloc (.cells #[int i64 0,int i64 0,int i64 0,.slice none 0 0] 116))=W at c J n ⊢;refine(qB y.pe y.len y.hei y.cl y.all y.be (y.lgn:Int) _ P (by unfold In;omega)).mono ?_
 rintro e V ⟨rfl,f⟩;rw[← m];clear m;replace c:=zf c f;replace J:=zb J f;replace n:=zb n f;clear f W;have o0:=za J 0 _ rfl;have zq:=za (zb Q.out c) 2 _ rfl;obtain⟨q,u,p,bF⟩:=QE (T:=(fun _=>False)) (zA.of_below c) (HO.out.below c) (zb Q.out c) n (by omega) (int i64 8) (int i64 0) (int i64 0) (.slice none 0 0) rfl
 obtain⟨v0,v1,v2,v3⟩:=ce4 n;obtain⟨e0,e1,e2,e3⟩:=fe4 n;have o:Hid _:=q;have M:Hid _:=u;have K:Hid _:=p;clear q u p;go_wp2;obtain⟨x0,x1,x2,x3⟩:=ce4 bF;refine bodyPost_ret (v:=.agg #[int i64 8,int i64 0,int i64 0,.slice none 0 0]) (by simp[results,Tryz.results119,go_sem,x0,x1,x2,x3]) rfl ?_
 exact⟨_,_,_,_,rfl,rfl,by rw[r.out];exact o.out,by rw[r.out];exact M.out,K.out⟩
theorem l7End_3f (g base N R k j t d:Nat)(i h s b:Option Addr)(O:Int)(y:OpD)(x:Off)(L C A B D E:Nat->Value)(w:World)(U:w.heap[g]?=some (.cells #[.slice i N k,.slice h N j,.slice s R t] 27 (0,0)))(S:zy w base (.slice i N k) (.slice h N j) (.slice s R t) N N R x L C A B D E)(I:x.bkn=R)(z:base<=w.heap.size)(l:y.kind=3)(P:In y.pe 0 20)(a5:y.lgn<=3)(F:zX w b y.lgn y.lg)(H:zZ b y.lgn d)(G:0<y.lgn->∀ a,b=some a->a.block<base)(hR:R=30) :
  Calls Tryz.prog 119 #[.pointer (some ⟨g,0,none⟩),int i64 O,.agg #[int i64 y.kind,.string y.own,int i64 y.name,.slice b y.lgn d,int i64 y.pe,int i64 y.len,int i64 y.hei,int i64 y.cl,.bool y.all,int i64 y.be,int i64 y.unt,int i64 y.now]] w fun e w'=>zaD g base N k j i h (fun _=>False) x 8 0 0 (fun _ v=>v=.slice none 0 0) L C A B D w e w':=by
 subst hR;rw[l];have HO:=hI S;have Q:=hI U;have Z:=hI l;have r:=hI I;have Y:=hI z;have a0:=hI F;have a3:=hI H;have a1:=hI G;clear S U l I z F H G;obtain⟨X,m⟩:∃ X,X=qN ⟨y.pe,y.len,y.hei,y.cl,y.all,y.be⟩ (y.lgn:Int):=⟨_,rfl⟩;have a2:=hI m;have c:Below w.heap.size w ((w.alloc (.cells #[int i64 3,.string y.own,int i64 y.name,.slice b y.lgn d,int i64 y.pe,int i64 y.len,int i64 y.hei,int i64 y.cl,.bool y.all,int i64 y.be,int i64 y.unt,int i64 y.now] 120)).alloc (.cells #[int i64 0,int i64 0,int i64 0,.slice none 0 0] 116)):=zl (zl bZ _) _;have J:=zc (heap_alloc_new w (.cells #[int i64 3,.string y.own,int i64 y.name,.slice b y.lgn d,int i64 y.pe,int i64 y.len,int i64 y.hei,int i64 y.cl,.bool y.all,int i64 y.be,int i64 y.unt,int i64 y.now] 120)) (.cells #[int i64 0,int i64 0,int i64 0,.slice none 0 0] 116);have n:=zbZ w (.cells #[int i64 3,.string y.own,int i64 y.name,.slice b y.lgn d,int i64 y.pe,int i64 y.len,int i64 y.hei,int i64 y.cl,.bool y.all,int i64 y.be,int i64 y.unt,int i64 y.now] 120) (.cells #[int i64 0,int i64 0,int i64 0,.slice none 0 0] 116);go_enter Tryz.func119,Tryz.ntmps119;go_wp2_with fail;generalize ((w.alloc (.cells #[int i64 3,.string y.own,int i64 y.name,.slice b y.lgn d,int i64 y.pe,int i64 y.len,int i64 y.hei,int i64 y.cl,.bool y.all,int i64 y.be,int i64 y.unt,int i64 y.now] 120)).alloc (.cells #[int i64 0,int i64 0,int i64 0,.slice none 0 0] 116))=W at c J n ⊢;refine(qB y.pe y.len y.hei y.cl y.all y.be (y.lgn:Int) _ P (by unfold In;omega)).mono ?_
 rintro e V ⟨rfl,f⟩;rw[← m];clear m;replace c:=zf c f;replace J:=zb J f;replace n:=zb n f;clear f W;have o0:=za J 0 _ rfl;have zq:=za (zb Q.out c) 2 _ rfl;obtain⟨q,u,p,bF⟩:=QE (T:=(fun _=>False)) (zA.of_below c) (HO.out.below c) (zb Q.out c) n (by omega) (int i64 8) (int i64 0) (int i64 0) (.slice none 0 0) rfl
 obtain⟨v0,v1,v2,v3⟩:=ce4 n;obtain⟨e0,e1,e2,e3⟩:=fe4 n;have o:Hid _:=q;have M:Hid _:=u;have K:Hid _:=p;clear q u p;go_wp2;obtain⟨x0,x1,x2,x3⟩:=ce4 bF;refine bodyPost_ret (v:=.agg #[int i64 8,int i64 0,int i64 0,.slice none 0 0]) (by simp[results,Tryz.results119,go_sem,x0,x1,x2,x3]) rfl ?_
 exact⟨_,_,_,_,rfl,rfl,by rw[r.out];exact o.out,by rw[r.out];exact M.out,K.out⟩
theorem zcY (F:Option Addr)(N c:Nat)(S:Nat->Sail)(w:World)(hN:N<=1048576)(X:ShortAll N S 1048576)(Z:SailsAt w F N S) :
  Calls Tryz.prog 10 #[.slice F N c] w fun e w'=>SaysIf (Z2 N S) e/\Below w.heap.size w w':=by
 have HS:=hI X;clear X
 by_cases h6:N<=6
 ·have P:decide (6<N)=false:=by simp;omega
  go_enter Tryz.func10,Tryz.ntmps10;go_wp2;go_loopw [3,4,10] (fun _ _ i wr=>∃ k:Nat,k<=N/\i=int i64 k/\(∀ j,j<k->qn (S j)/\(0<j->(S (j - 1)).id<(S j).id))/\Below w.heap.size w wr) (fun _ _ i _=>N - (intOf i).toNat)
  case atStart=>exact⟨0,Nat.zero_le _,rfl,fun j hj=>by omega,bZ⟩
  case round =>
   obtain⟨k,hk,rfl,s,d⟩:=hrel;have M:=hI s;clear s P
   by_cases hlt:k<N
   ·have O:Hid (0<k->∀ b off,F=some ⟨b,off,none⟩->w.cell? ⟨b,off+(k - 1)*8,none⟩=some (int i64 (S (k - 1)).id)):=by
     intro h b off e;obtain⟨b',a0,_,_,_,_,I,g,_⟩:=Z (k - 1) (by omega)
     rw[e] at I;simp only[Option.some.injEq,Addr.mk.injEq,and_true] at I;obtain⟨rfl,rfl⟩:=I;exact g
    obtain⟨b,off,la,K,ca,H,rfl,Q,J,R,T,U,V,y,h7,h8,z,_,_⟩:=Z k hlt;have D:Hid (0<k->w.cell? ⟨b,off+(k - 1)*8,none⟩=some (int i64 (S (k - 1)).id)):=fun h=>O.out h b off rfl
    clear O;have n:=World.block_lt_of_cell? w _ J;have c0:=(d.cell (p:=⟨b,off+k*8,none⟩) n).trans Q;have c1:=(d.cell (p:=⟨b,off+k*8+1,none⟩) n).trans J;have c2:=(d.cell (p:=⟨b,off+k*8+2,none⟩) n).trans R;have c3:=(d.cell (p:=⟨b,off+k*8+3,none⟩) n).trans T;have c4:=(d.cell (p:=⟨b,off+k*8+4,none⟩) n).trans U;have c5:=(d.cell (p:=⟨b,off+k*8+5,none⟩) n).trans V;have c6:=(d.cell (p:=⟨b,off+k*8+6,none⟩) n).trans y;have c7:=(d.cell (p:=⟨b,off+k*8+7,none⟩) n).trans h7;obtain⟨s1,s2,A,B⟩:=HS.out k hlt;have o:(S k).fr.size<=1000000000000000:=by omega
    have q:(S k).dst.size<=1000000000000000:=by omega
    clear s1 s2;have f:=zl d (.cells #[int i64 (S k).id,.string (S k).fr,.string (S k).dst,int i64 (S k).dep,int i64 (S k).arr,.slice la (S k).la.n K,.slice ca (S k).ca.n H,int i64 (S k).most] 33);have a:=heap_alloc_new wr (.cells #[int i64 (S k).id,.string (S k).fr,.string (S k).dst,int i64 (S k).dep,int i64 (S k).arr,.slice la (S k).la.n K,.slice ca (S k).ca.n H,int i64 (S k).most] 33);clear Q J R T U V y h7;go_upto_region 6 with fail;generalize hW:wr.alloc (.cells #[int i64 (S k).id,.string (S k).fr,.string (S k).dst,int i64 (S k).dep,int i64 (S k).arr,.slice la (S k).la.n K,.slice ca (S k).ca.n H,int i64 (S k).most] 33)=W at f a ⊢;clear hW;have l:wr.heap.size<W.heap.size:=zQ a;have z0:∀ g:zv W,g.val.cell? ⟨wr.heap.size,0,none⟩=_:=fun g=>(g.bel.cell l).trans (za a 0 _ rfl)
    have z1:∀ g:zv W,g.val.cell? ⟨wr.heap.size,1,none⟩=_:=fun g=>(g.bel.cell l).trans (za a 1 _ rfl)
    have z2:∀ g:zv W,g.val.cell? ⟨wr.heap.size,2,none⟩=_:=fun g=>(g.bel.cell l).trans (za a 2 _ rfl)
    have z3:∀ g:zv W,g.val.cell? ⟨wr.heap.size,3,none⟩=_:=fun g=>(g.bel.cell l).trans (za a 3 _ rfl)
    have z4:∀ g:zv W,g.val.cell? ⟨wr.heap.size,4,none⟩=_:=fun g=>(g.bel.cell l).trans (za a 4 _ rfl)
    have z5:∀ g:zv W,g.val.cell? ⟨wr.heap.size,5,none⟩=_:=fun g=>(g.bel.cell l).trans (za a 5 _ rfl)
    have z6:∀ g:zv W,g.val.cell? ⟨wr.heap.size,6,none⟩=_:=fun g=>(g.bel.cell l).trans (za a 6 _ rfl)
    have z7:∀ g:zv W,g.val.cell? ⟨wr.heap.size,7,none⟩=_:=fun g=>(g.bel.cell l).trans (za a 7 _ rfl)
    have a1:b<W.heap.size:=Nat.lt_of_lt_of_le n f.size;clear c0 c1 c2 c3 c4 c5 c6 c7 a;go_cut [10,32] (fun i c wx=>i=int i64 k/\Tells (qn (S k)/\(0<k->(S (k - 1)).id<(S k).id)) c/\Below w.heap.size w wx)
    case first =>
     by_cases hg:qn (S k)
     ·have r:=hI hg
      clear hg
      by_cases k0:k=0
      ·subst k0
       refine zg (by kernel_rfl) (by kernel_rfl) ?_
       repeat(first|go_big_quiet_skip|(go_big_quiet_want;go_big_quiet_op;first|go_big_quiet_on|(apply Exists.intro;refine⟨fun g=>?_,?_⟩;(focus(go_at_call 27;refine zh (v:=.bool true) ((ZY _ _ _ _ _ _ _ _ _ _ _ _ (S 0).la (S 0).ca _ rfl rfl o q A B (h8.below (zf f g.bel)) (z.below (zf f g.bel))).mono ?_);rintro e L ⟨⟨G,rfl,x⟩,m⟩;obtain rfl:=x.2 r.out;exact⟨rfl,m⟩));go_big_quiet_on)))
       refine wpQuiet_nil ?_;rintro _ ⟨g,rfl⟩;go_wp2;go_meet;exact⟨rfl,tells_good ⟨r.out,fun h=>by omega⟩,zf f g.bel⟩
      ·have d0:decide (0<k)=true:=by simp;omega
       have a2:((k:Int) - 1).toNat=k - 1:=by omega
       have a3:(k:Int) - 1<(N:Int):=by omega
       have a5:(0:Int)<=(k:Int) - 1:=by omega
       have a6:IntKind.i64.wrap ((k:Int) - 1)=(k:Int) - 1:=by rw[IntKind.wrap_i64];omega
       have y0:∀ g:zv W,g.val.cell? ⟨b,off+(k - 1)*8,none⟩=_:=fun g=>((zf f g.bel).cell (p:=⟨b,off+(k - 1)*8,none⟩) n).trans (D.out (by omega))
       by_cases hle:(S k).id<=(S (k - 1)).id
       ·have e2:decide ((S k).id<=(S (k - 1)).id)=true:=by simpa using hle
        refine zg (by kernel_rfl) (by kernel_rfl) ?_
        repeat(first|go_big_quiet_skip|(go_big_quiet_want;go_big_quiet_op;first|go_big_quiet_on|(apply Exists.intro;refine⟨fun g=>?_,?_⟩;(focus(go_at_call 27;refine zh (v:=.bool true) ((ZY _ _ _ _ _ _ _ _ _ _ _ _ (S k).la (S k).ca _ rfl rfl o q A B (h8.below (zf f g.bel)) (z.below (zf f g.bel))).mono ?_);rintro e L ⟨⟨G,rfl,x⟩,m⟩;obtain rfl:=x.2 r.out;exact⟨rfl,m⟩));go_big_quiet_on)))
        refine wpQuiet_nil ?_;rintro _ ⟨g,rfl⟩;go_wp2;go_meet;exact⟨rfl,tells_bad (fun h=>by have:=h.2 (by omega);omega),zf f g.bel⟩
       ·have e2:decide ((S k).id<=(S (k - 1)).id)=false:=by simpa using hle
        refine zg (by kernel_rfl) (by kernel_rfl) ?_
        repeat(first|go_big_quiet_skip|(go_big_quiet_want;go_big_quiet_op;first|go_big_quiet_on|(apply Exists.intro;refine⟨fun g=>?_,?_⟩;(focus(go_at_call 27;refine zh (v:=.bool true) ((ZY _ _ _ _ _ _ _ _ _ _ _ _ (S k).la (S k).ca _ rfl rfl o q A B (h8.below (zf f g.bel)) (z.below (zf f g.bel))).mono ?_);rintro e L ⟨⟨G,rfl,x⟩,m⟩;obtain rfl:=x.2 r.out;exact⟨rfl,m⟩));go_big_quiet_on)))
        refine wpQuiet_nil ?_;rintro _ ⟨g,rfl⟩;go_wp2;go_meet;exact⟨rfl,tells_good ⟨r.out,fun _=>by omega⟩,zf f g.bel⟩
     ·have r:=hI hg
      clear hg;refine zg (by kernel_rfl) (by kernel_rfl) ?_
      repeat(first|go_big_quiet_skip|(go_big_quiet_want;go_big_quiet_op;first|go_big_quiet_on|(apply Exists.intro;refine⟨fun g=>?_,?_⟩;(focus(go_at_call 27;refine zh (v:=.bool false) ((ZY _ _ _ _ _ _ _ _ _ _ _ _ (S k).la (S k).ca _ rfl rfl o q A B (h8.below (zf f g.bel)) (z.below (zf f g.bel))).mono ?_);rintro e L ⟨⟨G,rfl,x⟩,m⟩;obtain rfl:=Bool.eq_false_iff.2 (fun e=>r.out (x.1 e));exact⟨rfl,m⟩));go_big_quiet_on)))
      refine wpQuiet_nil ?_;rintro _ ⟨g,rfl⟩;go_wp2;go_meet;exact⟨rfl,tells_bad (fun h=>r.out h.1),zf f g.bel⟩
    case rest =>
     obtain⟨rfl,⟨t,rfl,Y⟩,u⟩:=hcut;have E:=hI Y;clear Y z0 z1 z2 z3 z4 z5 z6 z7
     cases t with
     | true =>
      go_wp2;go_ret;exact⟨zk (fun h=>by have:=E.out.2 (h.2 k hlt);cases this),u⟩
     | false =>
      have C:=E.out.1 rfl;have C:Hid _:=C;clear E;go_wp2;go_roundw
      case rel=>exact⟨k+1,by omega,by go_num,fun j hj=>by
       by_cases e:j=k
       ·subst e;exact C.out
       ·exact M.out j (by omega),u⟩
      case measure=>simp[intOf];omega
   ·obtain rfl:k=N:=by omega
    go_wp2;go_ret;exact⟨zI ⟨h6,M.out⟩,d⟩
 ·have P:decide (6<N)=true:=by simp;omega
  go_enter Tryz.func10,Tryz.ntmps10;go_wp2;go_ret;exact⟨zk (fun h=>h6 h.1),bZ⟩
def zgD (F:Nat->Int):Value:=.agg #[int i64 (F 0),int i64 (F 1),int i64 (F 2),int i64 (F 3)]
def zgn (p:zP)(n:Nat)(S:Nat->qW)(e:Ending):Prop :=
 (zaf p n S/\e=.returned (.tuple #[zgD (qj p S n),.bool true]))∨(¬ zaf p n S/\e=.returned (.tuple #[zgD (fun _=>0),.bool false]))
theorem zbG {w:World}{g t:Nat}{u0 u1 u2 u3:Value}(h:w.heap[g]?=some (.cells #[u0,u1,u2,u3] t (0,0)))(a b c d:Value) :
  ((((w.setCell ⟨g,0,none⟩ a).setCell ⟨g,1,none⟩ b).setCell ⟨g,2,none⟩ c).setCell ⟨g,3,none⟩ d).heap[g]?=some (.cells #[a,b,c,d] t (0,0)):=by
 have:=zt (zt (zt (zt h 0 a) 1 b) 2 c) 3 d
 simpa using this
theorem zab {w w':World}{g:Nat}(h:Below w.heap.size w w')(a:w.heap.size<=g)(b c d e:Value):Below w.heap.size w ((((w'.setCell ⟨g,0,none⟩ b).setCell ⟨g,1,none⟩ c).setCell ⟨g,2,none⟩ d).setCell ⟨g,3,none⟩ e) :=
 (((h.setCell a _).setCell a _).setCell a _).setCell a _
theorem zero_row {w:World}{g t:Nat}(h:w.heap[g]?=some (.cells #[int i64 0,int i64 0,int i64 0,int i64 0] t (0,0))):w.rowIs g t 4 (fun k=>int i64 (upto 0 (fun _=>(0:Int)) 0 k)):=by
 refine⟨_,h,rfl,fun i hi=>?_⟩
 have:i=0∨i=1∨i=2∨i=3:=by omega
 rcases this with rfl|rfl|rfl|rfl <;> rfl
theorem zaV (ao bo:Option Addr)(m mc n c:Nat)(p:zP)(S:Nat->qW)(w:World)(hl:p.n=m)(hm:m<=1048576)(hn:n<=1048576)(hc:n<=c)(hx:zT w ao p)(hz:qp w bo n S) :
  Calls Tryz.prog 75 #[.slice ao m mc,.slice bo n c] w fun e w'=>zgn p n S e/\Below w.heap.size w w':=by
 have O:=hI hl;have HX:=hI hx;have HZ:=hI hz;clear hl hx hz;have R:Below w.heap.size w (w.alloc (.cells #[int i64 0,int i64 0,int i64 0,int i64 0] 127)):=zl bZ _;have r0:(w.alloc (.cells #[int i64 0,int i64 0,int i64 0,int i64 0] 127)).heap[w.heap.size]?=some (.cells #[int i64 0,int i64 0,int i64 0,int i64 0] 127 (0,0)):=heap_alloc_new w _;go_enter Tryz.func75,Tryz.ntmps75;go_wp2_with fail;refine(zbF ao m mc p _ O.out hm (HX.out.below R)).mono ?_;rintro e w1 ⟨⟨q,rfl,hq⟩,T⟩;have C:=zf R T;have K:=zb r0 T;clear R r0 T
 cases q with
 | false =>
  obtain⟨o0,o1,o2,o3⟩:=ce4 K;obtain⟨f0,f1,f2,f3⟩:=fe4 K;have HG:Hid (¬ zdi p):=fun h=>by have:=hq.2 h;cases this
  clear hq;go_wp2;have L:=zbG K (int i64 0) (int i64 0) (int i64 0) (int i64 0);obtain⟨F,H,I,J⟩:=ce4 L;exact bodyPost_ret (v:=.tuple #[zgD (fun _=>0),.bool false]) (by simp[results,Tryz.results75,go_sem,F,H,I,J,zgD]) rfl ⟨.inr ⟨fun h=>HG.out h.1,rfl⟩,zab C (Nat.le_refl _) _ _ _ _⟩
 | true =>
  have HG:Hid (zdi p):=hq.1 rfl;have a5:m<=4:=by rw[← O.out];exact HG.out.1
  clear hq
  by_cases h60:n<=60
  ·have d0:decide (60<n)=false:=by simp;omega
   go_upto_region 4 with fail;have r2:=zc K (.cells #[int i64 0,int i64 0,int i64 0,int i64 0] 127);have x2:=zero_row (heap_alloc_new w1 (.cells #[int i64 0,int i64 0,int i64 0,int i64 0] 127));have P:=zl C (.cells #[int i64 0,int i64 0,int i64 0,int i64 0] 127);have hf:w.heap.size<w1.heap.size:=zQ K;generalize w1.alloc (.cells #[int i64 0,int i64 0,int i64 0,int i64 0] 127)=w2 at r2 x2 P ⊢;generalize w1.heap.size=f at hf x2 ⊢;clear K C;go_wp2;go_loopw [7,21] (fun _ i wr=>∃ k:Nat,k<=m/\i=int i64 k/\wr.rowIs f 127 4 (fun j=>int i64 (upto k p.A 0 j))/\wr.heap[w.heap.size]?=some (.cells #[int i64 0,int i64 0,int i64 0,int i64 0] 127 (0,0))/\Below w.heap.size w wr) (fun _ i _=>m - (intOf i).toNat)
   case atStart=>exact⟨0,Nat.zero_le _,rfl,x2.congr (fun j _=>by unfold upto;rw[if_neg (Nat.not_lt_zero _),if_neg (Nat.not_lt_zero _)]),r2,P⟩
   case round =>
    obtain⟨k,hk,rfl,t,hr,x⟩:=hrel;clear r2 x2 P
    by_cases hlt:k<m
    ·obtain⟨b,off,rfl,Q,X⟩:=HX.out k (by rw[O.out];exact hlt)
     have Y:=World.block_lt_of_cell? w _ Q;have c1:=(x.cell (p:=⟨b,off+k*2,none⟩) Y).trans Q;have o0:=t.cell (i:=k) (by omega)
     have f0:=t.frozen k;have i1:(0:Int)<=(k:Int):=by omega
     have i2:(k:Int)<4:=by omega
     clear Q X;go_wp2;go_roundw
     case rel=>exact⟨k+1,by omega,by go_num,(t.set k _).congr (fun j _=>by
      by_cases e:j=k
      ·subst e;rw[if_pos rfl,upto_lt _ _ (Nat.lt_succ_self _)]
      ·rw[if_neg e,upto_step _ _ _ _ e]),zB hr _ _ (by omega),x.setCell (by show w.heap.size<=f;omega) _⟩
     case measure=>simp[intOf];omega
    ·obtain rfl:k=m:=by omega
     have z:wr.rowIs f 127 4 (fun j=>int i64 (qj p S 0 j)):=t.congr (fun j _=>by rw[freeAt_0,O.out])
     clear t;go_wp2;go_loopw [8,9,34] (fun _ _ i wr=>∃ k:Nat,k<=n/\i=int i64 k/\(∀ j,j<k->¬ Has (Zb S) j (S j).who/\Fits p (Zy p S j) (S j))/\wr.rowIs f 127 4 (fun j=>int i64 (qj p S k j))/\wr.heap[w.heap.size]?=some (.cells #[int i64 0,int i64 0,int i64 0,int i64 0] 127 (0,0))/\Below w.heap.size w wr) (fun _ _ i _=>n - (intOf i).toNat)
     case atStart=>exact⟨0,Nat.zero_le _,rfl,fun j hj=>by omega,z,hr,x⟩
     case round =>
      obtain⟨i,hi,rfl,N,d,y,a⟩:=hrel;have HA:=hI N;clear N z hr x
      by_cases hlt2:i<n
      ·obtain⟨b,off,rfl,h0,Q,X,h3⟩:=HZ.out i hlt2
       have Y:=World.block_lt_of_cell? w _ h0;have c0:=(a.cell (p:=⟨b,off+i*4,none⟩) Y).trans h0;have c1:=(a.cell (p:=⟨b,off+i*4+1,none⟩) Y).trans Q;have c2:=(a.cell (p:=⟨b,off+i*4+2,none⟩) Y).trans X;have c3:=(a.cell (p:=⟨b,off+i*4+3,none⟩) Y).trans h3;have o:=heap_alloc_new wr (.cells #[int i64 (S i).who,int i64 (S i).ln,int i64 (S i).len,int i64 (S i).hei] 84);have r:=zl a (.cells #[int i64 (S i).who,int i64 (S i).ln,int i64 (S i).len,int i64 (S i).hei] 84);have A:=zc y (.cells #[int i64 (S i).who,int i64 (S i).ln,int i64 (S i).len,int i64 (S i).hei] 84);have u:=row_below d (zl (Below.refl _ wr) (.cells #[int i64 (S i).who,int i64 (S i).ln,int i64 (S i).len,int i64 (S i).hei] 84));clear h0 Q X h3;go_upto_region 12 with fail;generalize hW:wr.alloc (.cells #[int i64 (S i).who,int i64 (S i).ln,int i64 (S i).len,int i64 (S i).hei] 84)=W at o r A u ⊢;clear hW;have E:wr.heap.size<W.heap.size:=zQ o;have D:f<W.heap.size:=u.lt;have a3:=hI u;have z0:∀ g:zv W,g.val.cell? ⟨wr.heap.size,0,none⟩=some (int i64 (S i).who):=fun g=>(g.bel.cell E).trans (za o 0 _ rfl)
       have z1:∀ g:zv W,g.val.cell? ⟨wr.heap.size,1,none⟩=some (int i64 (S i).ln):=fun g=>(g.bel.cell E).trans (za o 1 _ rfl)
       have z2:∀ g:zv W,g.val.cell? ⟨wr.heap.size,2,none⟩=some (int i64 (S i).len):=fun g=>(g.bel.cell E).trans (za o 2 _ rfl)
       have z3:∀ g:zv W,g.val.cell? ⟨wr.heap.size,3,none⟩=some (int i64 (S i).hei):=fun g=>(g.bel.cell E).trans (za o 3 _ rfl)
       have y0:∀ g:zv W,g.val.cell? ⟨f,0,none⟩=some (int i64 (qj p S i 0)):=fun g=>(g.bel.cell D).trans (u.cell (i:=0) (by omega))
       have y1:∀ g:zv W,g.val.cell? ⟨f,1,none⟩=some (int i64 (qj p S i 1)):=fun g=>(g.bel.cell D).trans (u.cell (i:=1) (by omega))
       have y2:∀ g:zv W,g.val.cell? ⟨f,2,none⟩=some (int i64 (qj p S i 2)):=fun g=>(g.bel.cell D).trans (u.cell (i:=2) (by omega))
       have y3:∀ g:zv W,g.val.cell? ⟨f,3,none⟩=some (int i64 (qj p S i 3)):=fun g=>(g.bel.cell D).trans (u.cell (i:=3) (by omega))
       have i1:(0:Int)<=(i:Int):=by omega
       have i2:(i:Int)<=(c:Int):=by omega
       clear c0 c1 c2 c3 o d y a u
       by_cases hh:Has (Zb S) i (S i).who
       ·have e1:decide (0<=qL (Zb S) (S i).who i)=true:=decide_eq_true ((QX _ _ _).2 hh)
        have HH:=hI hh;clear hh;refine zg (by kernel_rfl) (by kernel_rfl) ?_
        repeat(first|go_big_quiet_skip|(go_big_quiet_want;go_big_quiet_op;first|go_big_quiet_on|(apply Exists.intro;refine⟨fun g=>?_,?_⟩;(focus(first|(go_at_call 56;refine zh (v:=int i64 (qL (Zb S) (S i).who i)) ((Q8 _ i c S (S i).who _ (by omega) ((HZ.out.upto (by omega)).below (zf r g.bel))).mono ?_);rintro e w4 ⟨rfl,s⟩;exact⟨rfl,s⟩)));go_big_quiet_on)))
        refine wpQuiet_nil ?_;rintro _ ⟨g,rfl⟩;have V:=zb A g.bel;obtain⟨o0,o1,o2,o3⟩:=ce4 V;obtain⟨f0,f1,f2,f3⟩:=fe4 V;go_wp2;have L:=zbG V (int i64 0) (int i64 0) (int i64 0) (int i64 0);obtain⟨F,H,I,J⟩:=ce4 L;exact bodyPost_ret (v:=.tuple #[zgD (fun _=>0),.bool false]) (by simp[results,Tryz.results75,go_sem,F,H,I,J,zgD]) rfl ⟨.inr ⟨fun h=>(h.2.2 i hlt2).1 HH.out,rfl⟩,zab (zf r g.bel) (Nat.le_refl _) _ _ _ _⟩
       ·have e1:decide (0<=qL (Zb S) (S i).who i)=false:=decide_eq_false (fun h=>hh ((QX _ _ _).1 h))
        have HH:=hI hh;clear hh
        by_cases hfit:Fits p (qj p S i) (S i)
        ·have B:=hI hfit
         clear hfit;refine zg (by kernel_rfl) (by kernel_rfl) ?_
         repeat(first|go_big_quiet_skip|(go_big_quiet_want;go_big_quiet_op;first|go_big_quiet_on|(apply Exists.intro;refine⟨fun g=>?_,?_⟩;(focus(first|(go_at_call 56;refine zh (v:=int i64 (qL (Zb S) (S i).who i)) ((Q8 _ i c S (S i).who _ (by omega) ((HZ.out.upto (by omega)).below (zf r g.bel))).mono ?_);rintro e w4 ⟨rfl,s⟩;exact⟨rfl,s⟩)|(go_at_call 104;refine zh (v:=.bool true) ((zdR _ _ mc p (qj p S i) (S i).who (S i).ln (S i).len (S i).hei _ O.out a5 (HX.out.below (zf r g.bel))).mono ?_);rintro e w4 ⟨⟨bb,rfl,hi⟩,s⟩;obtain rfl:=hi.2 B.out;exact⟨rfl,s⟩)));go_big_quiet_on)))
         refine wpQuiet_nil ?_;rintro _ ⟨g,rfl⟩;obtain⟨l,hl⟩:∃ l:Nat,(S i).ln=l:=⟨(S i).ln.toNat,by have:=B.out.ln;unfold In at this;omega⟩
         have a8:l<p.n:=by have:=B.out.ln;unfold In at this;omega
         have a0:=hI hl;have l4:l<4:=by have:=O.out;omega
         have v1:g.val.cell? ⟨wr.heap.size,1,none⟩=some (int i64 (l:Int)):=by rw[z1 g,hl]
         have v2:=z2 g;have M:=row_below a3.out g.bel;have v3:=M.cell (i:=l) l4;have v4:=M.frozen l;have l1:(0:Int)<=(l:Int):=by omega
         have l2:(l:Int)<4:=by omega
         have HB:Hid (-120000<=qj p S i l/\qj p S i l<=5000):=zdZ l HG.out (by omega) (fun j hj=>(HA.out j hj).2.len)
         have HN:=hI B.out.len;have b0:IntKind.i64.wrap (qj p S i l - (S i).len)=qj p S i l - (S i).len:=by
          have Q:=HB.out;have X:=HN.out;unfold In at X;rw[IntKind.wrap_i64];omega
         have a1:=hI (zb A g.bel);have Z:=hI (zf r g.bel);have a2:=hI M;clear hl M z0 z1 z2 z3 y0 y1 y2 y3 A r;generalize g.val=G at *;go_upto_region 14 with fail;have U:Hid ((G.setCell ⟨f,l,none⟩ (int i64 (qj p S i l - (S i).len))).drew.rowIs f 127 4 (fun j=>int i64 (qj p S (i+1) j))):=by
          refine(a2.out.set l _).congr (fun j _=>?_)
          rw[← zfS p S i l j a8 a0.out]
          split <;> rfl
         have a9:Hid ((G.setCell ⟨f,l,none⟩ (int i64 (qj p S i l - (S i).len))).drew.heap[w.heap.size]?=some (.cells #[int i64 0,int i64 0,int i64 0,int i64 0] 127 (0,0))):=zE (zB a1.out _ _ (by omega))
         have a7:Hid (Below w.heap.size w (G.setCell ⟨f,l,none⟩ (int i64 (qj p S i l - (S i).len))).drew):=(Z.out.setCell (by show w.heap.size<=f;omega) _).drew
         have a6:Hid (∀ j,j<i+1->¬ Has (Zb S) j (S j).who/\Fits p (Zy p S j) (S j)):=fun j hj=>by
          by_cases e:j=i
          ·subst e;exact⟨HH.out,zeV.1 B.out⟩
          ·exact HA.out j (by omega)
         clear HH B HA a0 a1 Z a2 HB HN a3;go_region
         all_goals (go_wp2;go_roundw)
         all_goals first|(exact⟨i+1,by omega,by go_num,a6.out,U.out,a9.out,a7.out⟩)|(simp[intOf];omega)
        ·have B:=hI hfit
         clear hfit;refine zg (by kernel_rfl) (by kernel_rfl) ?_
         repeat(first|go_big_quiet_skip|(go_big_quiet_want;go_big_quiet_op;first|go_big_quiet_on|(apply Exists.intro;refine⟨fun g=>?_,?_⟩;(focus(first|(go_at_call 56;refine zh (v:=int i64 (qL (Zb S) (S i).who i)) ((Q8 _ i c S (S i).who _ (by omega) ((HZ.out.upto (by omega)).below (zf r g.bel))).mono ?_);rintro e w4 ⟨rfl,s⟩;exact⟨rfl,s⟩)|(go_at_call 104;refine zh (v:=.bool false) ((zdR _ _ mc p (qj p S i) (S i).who (S i).ln (S i).len (S i).hei _ O.out a5 (HX.out.below (zf r g.bel))).mono ?_);rintro e w4 ⟨⟨bb,rfl,hi⟩,s⟩;obtain rfl:=Bool.eq_false_iff.2 (fun e=>B.out (hi.1 e));exact⟨rfl,s⟩)));go_big_quiet_on)))
         refine wpQuiet_nil ?_;rintro _ ⟨g,rfl⟩;have V:=zb A g.bel;obtain⟨o0,o1,o2,o3⟩:=ce4 V;obtain⟨f0,f1,f2,f3⟩:=fe4 V;go_wp2;have L:=zbG V (int i64 0) (int i64 0) (int i64 0) (int i64 0);obtain⟨F,H,I,J⟩:=ce4 L;exact bodyPost_ret (v:=.tuple #[zgD (fun _=>0),.bool false]) (by simp[results,Tryz.results75,go_sem,F,H,I,J,zgD]) rfl ⟨.inr ⟨fun h=>B.out (zeV.2 (h.2.2 i hlt2).2),rfl⟩,zab (zf r g.bel) (Nat.le_refl _) _ _ _ _⟩
      ·obtain rfl:i=n:=by omega
       obtain⟨o0,o1,o2,o3⟩:=ce4 y;obtain⟨f0,f1,f2,f3⟩:=fe4 y;have c0:=d.cell (i:=0) (by omega)
       have c1:=d.cell (i:=1) (by omega)
       have c2:=d.cell (i:=2) (by omega)
       have c3:=d.cell (i:=3) (by omega)
       go_wp2;have L:=zbG y (int i64 (qj p S i 0)) (int i64 (qj p S i 1)) (int i64 (qj p S i 2)) (int i64 (qj p S i 3));obtain⟨F,H,I,J⟩:=ce4 L;exact bodyPost_ret (v:=.tuple #[zgD (qj p S i),.bool true]) (by simp[results,Tryz.results75,go_sem,F,H,I,J,zgD]) rfl ⟨.inl ⟨⟨HG.out,h60,HA.out⟩,rfl⟩,zab a (Nat.le_refl _) _ _ _ _⟩
  ·have d0:decide (60<n)=true:=by simp;omega
   obtain⟨o0,o1,o2,o3⟩:=ce4 K;obtain⟨f0,f1,f2,f3⟩:=fe4 K;go_wp2;have L:=zbG K (int i64 0) (int i64 0) (int i64 0) (int i64 0);obtain⟨F,H,I,J⟩:=ce4 L;exact bodyPost_ret (v:=.tuple #[zgD (fun _=>0),.bool false]) (by simp[results,Tryz.results75,go_sem,F,H,I,J,zgD]) rfl ⟨.inr ⟨fun h=>h60 h.2.1,rfl⟩,zab C (Nat.le_refl _) _ _ _ _⟩
end Go.Proofs.YtgmdnkngnhkgbaaGreat
