import Derived.Lib.OthersKept
import Derived.Laws.RangeAny
import Derived.Lib.IndexMore
import Derived.Test.YtfallpinmhbemaaGreatDoorB31
namespace Go.Proofs.YtfallpinmhbemaaGreatDoor
open Go.RowKit
open Go.Value (int)
open Go.IntKind (i64)
set_option maxHeartbeats 64000000
set_option maxRecDepth 1000000
theorem l7End_7 (g base N R O M q z m:Nat)(J I Q d:Option Addr)(u:Int)(y:OpD)(x:Off)(L C A B D E:Nat->Value)(w:World)(hq:w.heap[g]?=some (.cells #[.slice J N O,.slice I N M,.slice Q R q] 66 (0,0)))(Y:zV w base (.slice J N O) (.slice I N M) (.slice Q R q) N N R x L C A B D E)(c3:x.bkn=R)(b6:base<=w.heap.size)(T:y.kind=7)(d7:In y.pe 0 20)(f5:y.lgn<=3)(b8:IntsAt w d y.lgn y.lg)(c2:SliceOk d y.lgn z)(b9:0<y.lgn->∀ a,d=some a->a.block<base)(c0:y.name=(m:Int)+1)(hm:m<R)(n:R<=1048576) :
  Calls Tryz.prog 123 #[.pointer (some ⟨g,0,none⟩),int i64 u,.agg #[int i64 y.kind,.string y.own,int i64 y.name,.slice d y.lgn z,int i64 y.pe,int i64 y.len,int i64 y.hei,int i64 y.cl,.bool y.all,int i64 y.be,int i64 y.unt,int i64 y.now]] w fun e w'=>zbf g base N O M J I (fun b=>b=g∨(Value.slice Q R q).ownBlock=some b) { x with bk:=QC x.bk m (qA (x.bk m) u y) } 0 y.name (0) (fun _ v=>v=.slice none 0 0) L C A B D w e w':=by
 rw[T,c0];have HO:=hI Y;have HQ:=hI hq;have c7:=hI T;have c8:=hI c3;have e7:=hI b6;have e9:=hI b8;have f4:=hI c2;have f0:=hI b9;obtain⟨l,rfl,b5,d5⟩:=qw Y.bk.row (by omega)
 obtain⟨cs,b7⟩:=zT Y.bk.row l rfl;obtain⟨d0,c9,eE,q1,q2,q3⟩:=zt (Y.bk.legs m hm);obtain⟨b,S⟩:∃ b,b=x.bk m:=⟨_,rfl⟩;have e5:=hI S;have a0:=hI b7;have c4:Hid (∀ V,Below w.heap.size w V->∀ j v,(bkC x.bk E m)[j]?=some v->V.cell? ⟨l,m*13+j,none⟩=some v):=fun V hV j v hv=>by
  have hj:j<13:=by
   have h:=(List.getElem?_eq_some_iff.1 hv).1;exact h
  have h:=zK Y.bk.row (m*13+j) (by omega) rfl
  rw[zM 13 _ m j hj,List.getD_eq_getElem?_getD,hv] at h;exact(hV.cell (p:=⟨l,m*13+j,none⟩) d5).trans h
 have e8:Hid (E m=.slice d0 b.lgn c9):=by rw[S];exact eE
 have i1:(0:Int)<=(m:Int):=by omega
 have i2:(m:Int)<(R:Int):=by omega
 have f6:IntKind.i64.wrap ((m:Int)+1 - 1)=(m:Int):=by rw[IntKind.wrap_i64];omega
 have HM:=hI hm;have e6:=hI b5;clear b7 eE q1 q2 q3 S b5;clear Y hq T c3 b6 b8 c2 b9 c0 hm;obtain⟨pr,U⟩:∃ pr,pr=Zg ⟨y.pe,y.len,y.hei,y.cl,y.all,y.be⟩ (y.lgn:Int):=⟨_,rfl⟩;have f1:=hI U;have c:Below w.heap.size w ((w.alloc (.cells #[int i64 7,.string y.own,int i64 ((m:Int)+1),.slice d y.lgn z,int i64 y.pe,int i64 y.len,int i64 y.hei,int i64 y.cl,.bool y.all,int i64 y.be,int i64 y.unt,int i64 y.now] 27)).alloc (.cells #[int i64 0,int i64 0,int i64 0,.slice none 0 0] 127)):=zr (zr bZ _) _;have t:=ze (heap_alloc_new w (.cells #[int i64 7,.string y.own,int i64 ((m:Int)+1),.slice d y.lgn z,int i64 y.pe,int i64 y.len,int i64 y.hei,int i64 y.cl,.bool y.all,int i64 y.be,int i64 y.unt,int i64 y.now] 27)) (.cells #[int i64 0,int i64 0,int i64 0,.slice none 0 0] 127);have H:=zcC w (.cells #[int i64 7,.string y.own,int i64 ((m:Int)+1),.slice d y.lgn z,int i64 y.pe,int i64 y.len,int i64 y.hei,int i64 y.cl,.bool y.all,int i64 y.be,int i64 y.unt,int i64 y.now] 27) (.cells #[int i64 0,int i64 0,int i64 0,.slice none 0 0] 127);go_enter Tryz.func123,Tryz.ntmps123;go_wp2_with fail;generalize ((w.alloc (.cells #[int i64 7,.string y.own,int i64 ((m:Int)+1),.slice d y.lgn z,int i64 y.pe,int i64 y.len,int i64 y.hei,int i64 y.cl,.bool y.all,int i64 y.be,int i64 y.unt,int i64 y.now] 27)).alloc (.cells #[int i64 0,int i64 0,int i64 0,.slice none 0 0] 127))=W at c t H ⊢;refine(qV y.pe y.len y.hei y.cl y.all y.be (y.lgn:Int) _ d7 (by unfold In;omega)).mono ?_
 rintro e V ⟨rfl,P⟩;rw[← U];clear U;replace c:=zj c P;replace t:=zc t P;replace H:=zc H P;clear P W;have o0:=za t 0 _ rfl;have n2:∀ G:qe V,G.val.cell? ⟨g,2,none⟩=some (.slice (some ⟨l,0,none⟩) R q):=fun G=>za (zc HQ.out (zj c G.bel)) 2 _ rfl
 have m2:∀ G:qe V,G.val.cell? ⟨w.heap.size,2,none⟩=some (int i64 ((m:Int)+1)):=fun G=>za (zc t G.bel) 2 _ rfl
 go_upto_region 17 with fail;refine zp (by kernel_rfl) (by kernel_rfl) ?_
 repeat(first|go_big_quiet_skip|(go_big_quiet_want;go_big_quiet_op;first|go_big_quiet_on|fail))
 refine wpQuiet_nil ?_;rintro _ ⟨G,rfl⟩;replace c:=zj c G.bel;replace t:=zc t G.bel;replace H:=zc H G.bel;have d8:=zZ H;have o2:=za t 2 _ rfl;clear o0 n2 m2;have o0:∀ o,(G.val.alloc o).cell? ⟨w.heap.size,0,none⟩=some (int i64 7):=fun o=>za (ze t o) 0 _ rfl
 go_upto_region 20 with fail;replace c:=zr c (.cells #[int i64 0,int i64 ((m:Int)+1),int i64 0,.slice none 0 0] 127);replace t:=ze t (.cells #[int i64 0,int i64 ((m:Int)+1),int i64 0,.slice none 0 0] 127);replace H:=ze H (.cells #[int i64 0,int i64 ((m:Int)+1),int i64 0,.slice none 0 0] 127);have bT:=heap_alloc_new G.val (.cells #[int i64 0,int i64 ((m:Int)+1),int i64 0,.slice none 0 0] 127);generalize G.val.alloc (.cells #[int i64 0,int i64 ((m:Int)+1),int i64 0,.slice none 0 0] 127)=X at c t H bT ⊢;generalize G.val.heap.size=tb at bT d8 ⊢;clear o0 o2 G V;have a8:=zc a0.out c;have k2:=c4.out X c 2 _ rfl;have f2:=zg a8 (m*13+2);obtain⟨t0,t1,t2,t3⟩:=ce4 bT;have d9:=za t 1 _ rfl;go_upto_region 38 with fail;have a3:Hid (qA (x.bk m) u y={ x.bk m with own:=y.own }):=by show _=_;simp[qA,c7.out]
 have s:zA X (X.setCell ⟨l,m*13+2,none⟩ (.string y.own)) (fun b=>b=l):=((zA.refl X (fun b=>b=l)).set (a:=⟨l,m*13+2,none⟩) rfl _)
 have F:Hid ((X.setCell ⟨l,m*13+2,none⟩ (.string y.own)).ownsRow base 131 13 (.slice (some ⟨l,0,none⟩) R q) R (Qp (QC x.bk m (qA (x.bk m) u y)) (atV E m (E m)) R)):=by
  refine own_congr (own_store ((HO.out.below c).bk.row) (m*13+2) (.string y.own)) (fun j _=>zcs 13 (by decide) (k:=m) (C:=bkC x.bk E) (C':=bkC (QC x.bk m (qA (x.bk m) u y)) (atV E m (E m))) (f:=fun i=>if i=m*13+2 then (.string y.own:Value) else recCell 13 (bkC x.bk E) i) (fun r hr=>?_) (fun j hj=>?_) (fun i hi=>?_) j)
  ·have n:=zM 13 (bkC x.bk E) m r hr
   unfold bkC;rw[Zn,atV_at,a3.out];unfold bkC at n;have c1:r=0∨r=1∨r=2∨r=3∨r=4∨r=5∨r=6∨r=7∨r=8∨r=9∨r=10∨r=11∨r=12:=by omega
   rcases c1 with rfl|rfl|rfl|rfl|rfl|rfl|rfl|rfl|rfl|rfl|rfl|rfl|rfl
   ·rw[if_neg (by omega),n];rfl
   ·rw[if_neg (by omega),n];rfl
   ·rw[if_pos rfl];rfl
   ·rw[if_neg (by omega),n];rfl
   ·rw[if_neg (by omega),n];rfl
   ·rw[if_neg (by omega),n];rfl
   ·rw[if_neg (by omega),n];rfl
   ·rw[if_neg (by omega),n];rfl
   ·rw[if_neg (by omega),n];rfl
   ·rw[if_neg (by omega),n];rfl
   ·rw[if_neg (by omega),n];rfl
   ·rw[if_neg (by omega),n];rfl
   ·rw[if_neg (by omega),n];rfl
  ·rw[if_neg (by omega)]
  ·unfold bkC
   rw[Qr _ _ _ hi,atV_ne _ _ _ _ hi]
 have a6:Hid (zV (X.setCell ⟨l,m*13+2,none⟩ (.string y.own)) base (.slice J N O) (.slice I N M) (.slice (some ⟨l,0,none⟩) R q) N N R { x with bk:=QC x.bk m (qA (x.bk m) u y) } L C A B D (atV E m (E m))):=(HO.out.below c).putBk s F.out (by rw[a3.out];exact(HO.out.below c).bk.legs m HM.out) (HO.out.bk.far_same HM.out)
 have d6:g≠l:=fun e=>by have h:=a0.out;rw[← e,HQ.out] at h;simp at h
 have a7:=hI (s.blk (zc HQ.out c) d6);have a9:=s.blk bT (by show ¬ _=_;omega)
 have K:=s.blk H (by show ¬ _=_;omega)
 have a2:Hid (zA w (X.setCell ⟨l,m*13+2,none⟩ (.string y.own)) (fun b=>b=g∨(Value.slice (some ⟨l,0,none⟩) R q).ownBlock=some b)):=(zA.of_below c).trans (s.mono (fun b e=>.inr (by rw[show b=l from e];rfl)))
 generalize (X.setCell ⟨l,m*13+2,none⟩ (.string y.own))=Z1 at s F a6 a7 a9 K a2 ⊢;clear s F bT H d9 t a8 t0 t1 t2 t3 k2 f2;have e4:w.heap.size+1≠tb:=by omega
 obtain⟨a5,b0,a1,bF⟩:=Q0 a2.out a6.out a7.out K (by omega) (int i64 0) (int i64 ((m:Int)+1)) (int i64 0) (.slice none 0 0) rfl
 obtain⟨t0,t1,t2,t3⟩:=ce4 a9;obtain⟨v0,v1,v2,v3⟩:=ce4 K;obtain⟨e0,e1,e2,e3⟩:=fe4 K;have Z:Hid _:=a5;have c6:Hid _:=b0;have c5:Hid _:=a1;clear a5 b0 a1;go_wp2;obtain⟨x0,x1,x2,x3⟩:=ce4 bF;refine bodyPost_ret (v:=.agg #[int i64 0,int i64 ((m:Int)+1),int i64 (0),.slice none 0 0]) (by simp[results,Tryz.results123,go_sem,x0,x1,x2,x3]) rfl ?_
 have n:=c8.out;subst n;exact⟨_,_,_,_,rfl,rfl,Z.out,c6.out,c5.out⟩
theorem l7End_8 (g base N R O M q z m:Nat)(J I Q d:Option Addr)(u:Int)(y:OpD)(x:Off)(L C A B D E:Nat->Value)(w:World)(hq:w.heap[g]?=some (.cells #[.slice J N O,.slice I N M,.slice Q R q] 66 (0,0)))(Y:zV w base (.slice J N O) (.slice I N M) (.slice Q R q) N N R x L C A B D E)(c3:x.bkn=R)(b6:base<=w.heap.size)(T:y.kind=8)(d8:In y.pe 0 20)(f5:y.lgn<=3)(b8:IntsAt w d y.lgn y.lg)(c2:SliceOk d y.lgn z)(b9:0<y.lgn->∀ a,d=some a->a.block<base)(c0:y.name=(m:Int)+1)(hm:m<R)(n:R<=1048576) :
  Calls Tryz.prog 123 #[.pointer (some ⟨g,0,none⟩),int i64 u,.agg #[int i64 y.kind,.string y.own,int i64 y.name,.slice d y.lgn z,int i64 y.pe,int i64 y.len,int i64 y.hei,int i64 y.cl,.bool y.all,int i64 y.be,int i64 y.unt,int i64 y.now]] w fun e w'=>zbf g base N O M J I (fun b=>b=g∨(Value.slice Q R q).ownBlock=some b) { x with bk:=QC x.bk m (qA (x.bk m) u y) } 0 y.name (0) (fun _ v=>v=.slice none 0 0) L C A B D w e w':=by
 rw[T,c0];have HO:=hI Y;have HQ:=hI hq;have c7:=hI T;have c8:=hI c3;have e8:=hI b6;have f0:=hI b8;have f4:=hI c2;have f1:=hI b9;obtain⟨l,rfl,b5,d6⟩:=qw Y.bk.row (by omega)
 obtain⟨cs,b7⟩:=zT Y.bk.row l rfl;obtain⟨d0,c9,eE,q1,q2,q3⟩:=zt (Y.bk.legs m hm);obtain⟨b,S⟩:∃ b,b=x.bk m:=⟨_,rfl⟩;have e6:=hI S;have a0:=hI b7;have c4:Hid (∀ V,Below w.heap.size w V->∀ j v,(bkC x.bk E m)[j]?=some v->V.cell? ⟨l,m*13+j,none⟩=some v):=fun V hV j v hv=>by
  have hj:j<13:=by
   have h:=(List.getElem?_eq_some_iff.1 hv).1;exact h
  have h:=zK Y.bk.row (m*13+j) (by omega) rfl
  rw[zM 13 _ m j hj,List.getD_eq_getElem?_getD,hv] at h;exact(hV.cell (p:=⟨l,m*13+j,none⟩) d6).trans h
 have e9:Hid (E m=.slice d0 b.lgn c9):=by rw[S];exact eE
 have i1:(0:Int)<=(m:Int):=by omega
 have i2:(m:Int)<(R:Int):=by omega
 have f6:IntKind.i64.wrap ((m:Int)+1 - 1)=(m:Int):=by rw[IntKind.wrap_i64];omega
 have HM:=hI hm;have e7:=hI b5;clear b7 eE q1 q2 q3 S b5;clear Y hq T c3 b6 b8 c2 b9 c0 hm;obtain⟨pr,U⟩:∃ pr,pr=Zg ⟨y.pe,y.len,y.hei,y.cl,y.all,y.be⟩ (y.lgn:Int):=⟨_,rfl⟩;have f2:=hI U;have c:Below w.heap.size w ((w.alloc (.cells #[int i64 8,.string y.own,int i64 ((m:Int)+1),.slice d y.lgn z,int i64 y.pe,int i64 y.len,int i64 y.hei,int i64 y.cl,.bool y.all,int i64 y.be,int i64 y.unt,int i64 y.now] 27)).alloc (.cells #[int i64 0,int i64 0,int i64 0,.slice none 0 0] 127)):=zr (zr bZ _) _;have t:=ze (heap_alloc_new w (.cells #[int i64 8,.string y.own,int i64 ((m:Int)+1),.slice d y.lgn z,int i64 y.pe,int i64 y.len,int i64 y.hei,int i64 y.cl,.bool y.all,int i64 y.be,int i64 y.unt,int i64 y.now] 27)) (.cells #[int i64 0,int i64 0,int i64 0,.slice none 0 0] 127);have H:=zcC w (.cells #[int i64 8,.string y.own,int i64 ((m:Int)+1),.slice d y.lgn z,int i64 y.pe,int i64 y.len,int i64 y.hei,int i64 y.cl,.bool y.all,int i64 y.be,int i64 y.unt,int i64 y.now] 27) (.cells #[int i64 0,int i64 0,int i64 0,.slice none 0 0] 127);go_enter Tryz.func123,Tryz.ntmps123;go_wp2_with fail;generalize ((w.alloc (.cells #[int i64 8,.string y.own,int i64 ((m:Int)+1),.slice d y.lgn z,int i64 y.pe,int i64 y.len,int i64 y.hei,int i64 y.cl,.bool y.all,int i64 y.be,int i64 y.unt,int i64 y.now] 27)).alloc (.cells #[int i64 0,int i64 0,int i64 0,.slice none 0 0] 127))=W at c t H ⊢;refine(qV y.pe y.len y.hei y.cl y.all y.be (y.lgn:Int) _ d8 (by unfold In;omega)).mono ?_
 rintro e V ⟨rfl,P⟩;rw[← U];clear U;replace c:=zj c P;replace t:=zc t P;replace H:=zc H P;clear P W;have o0:=za t 0 _ rfl;have n2:∀ G:qe V,G.val.cell? ⟨g,2,none⟩=some (.slice (some ⟨l,0,none⟩) R q):=fun G=>za (zc HQ.out (zj c G.bel)) 2 _ rfl
 have m2:∀ G:qe V,G.val.cell? ⟨w.heap.size,2,none⟩=some (int i64 ((m:Int)+1)):=fun G=>za (zc t G.bel) 2 _ rfl
 go_upto_region 17 with fail;refine zp (by kernel_rfl) (by kernel_rfl) ?_
 repeat(first|go_big_quiet_skip|(go_big_quiet_want;go_big_quiet_op;first|go_big_quiet_on|fail))
 refine wpQuiet_nil ?_;rintro _ ⟨G,rfl⟩;replace c:=zj c G.bel;replace t:=zc t G.bel;replace H:=zc H G.bel;have d9:=zZ H;have o2:=za t 2 _ rfl;clear o0 n2 m2;have o0:∀ o,(G.val.alloc o).cell? ⟨w.heap.size,0,none⟩=some (int i64 8):=fun o=>za (ze t o) 0 _ rfl
 go_upto_region 20 with fail;replace c:=zr c (.cells #[int i64 0,int i64 ((m:Int)+1),int i64 0,.slice none 0 0] 127);replace t:=ze t (.cells #[int i64 0,int i64 ((m:Int)+1),int i64 0,.slice none 0 0] 127);replace H:=ze H (.cells #[int i64 0,int i64 ((m:Int)+1),int i64 0,.slice none 0 0] 127);have bT:=heap_alloc_new G.val (.cells #[int i64 0,int i64 ((m:Int)+1),int i64 0,.slice none 0 0] 127);generalize G.val.alloc (.cells #[int i64 0,int i64 ((m:Int)+1),int i64 0,.slice none 0 0] 127)=X at c t H bT ⊢;generalize G.val.heap.size=tb at bT d9 ⊢;clear o0 o2 G V;have a8:=zc a0.out c;have e4:=c4.out X c 10 _ rfl;have d5:=zg a8 (m*13+10);obtain⟨t0,t1,t2,t3⟩:=ce4 bT;go_upto_region 38 with fail;have a3:Hid (qA (x.bk m) u y={ x.bk m with state:=4 }):=by show _=_;simp[qA,c7.out]
 have s:zA X (X.setCell ⟨l,m*13+10,none⟩ (int i64 4)) (fun b=>b=l):=((zA.refl X (fun b=>b=l)).set (a:=⟨l,m*13+10,none⟩) rfl _)
 have F:Hid ((X.setCell ⟨l,m*13+10,none⟩ (int i64 4)).ownsRow base 131 13 (.slice (some ⟨l,0,none⟩) R q) R (Qp (QC x.bk m (qA (x.bk m) u y)) (atV E m (E m)) R)):=by
  refine own_congr (own_store ((HO.out.below c).bk.row) (m*13+10) (int i64 4)) (fun j _=>zcs 13 (by decide) (k:=m) (C:=bkC x.bk E) (C':=bkC (QC x.bk m (qA (x.bk m) u y)) (atV E m (E m))) (f:=fun i=>if i=m*13+10 then (int i64 4:Value) else recCell 13 (bkC x.bk E) i) (fun r hr=>?_) (fun j hj=>?_) (fun i hi=>?_) j)
  ·have n:=zM 13 (bkC x.bk E) m r hr
   unfold bkC;rw[Zn,atV_at,a3.out];unfold bkC at n;have c1:r=0∨r=1∨r=2∨r=3∨r=4∨r=5∨r=6∨r=7∨r=8∨r=9∨r=10∨r=11∨r=12:=by omega
   rcases c1 with rfl|rfl|rfl|rfl|rfl|rfl|rfl|rfl|rfl|rfl|rfl|rfl|rfl
   ·rw[if_neg (by omega),n];rfl
   ·rw[if_neg (by omega),n];rfl
   ·rw[if_neg (by omega),n];rfl
   ·rw[if_neg (by omega),n];rfl
   ·rw[if_neg (by omega),n];rfl
   ·rw[if_neg (by omega),n];rfl
   ·rw[if_neg (by omega),n];rfl
   ·rw[if_neg (by omega),n];rfl
   ·rw[if_neg (by omega),n];rfl
   ·rw[if_neg (by omega),n];rfl
   ·rw[if_pos rfl];rfl
   ·rw[if_neg (by omega),n];rfl
   ·rw[if_neg (by omega),n];rfl
  ·rw[if_neg (by omega)]
  ·unfold bkC
   rw[Qr _ _ _ hi,atV_ne _ _ _ _ hi]
 have a6:Hid (zV (X.setCell ⟨l,m*13+10,none⟩ (int i64 4)) base (.slice J N O) (.slice I N M) (.slice (some ⟨l,0,none⟩) R q) N N R { x with bk:=QC x.bk m (qA (x.bk m) u y) } L C A B D (atV E m (E m))):=(HO.out.below c).putBk s F.out (by rw[a3.out];exact(HO.out.below c).bk.legs m HM.out) (HO.out.bk.far_same HM.out)
 have d7:g≠l:=fun e=>by have h:=a0.out;rw[← e,HQ.out] at h;simp at h
 have a7:=hI (s.blk (zc HQ.out c) d7);have a9:=s.blk bT (by show ¬ _=_;omega)
 have K:=s.blk H (by show ¬ _=_;omega)
 have a2:Hid (zA w (X.setCell ⟨l,m*13+10,none⟩ (int i64 4)) (fun b=>b=g∨(Value.slice (some ⟨l,0,none⟩) R q).ownBlock=some b)):=(zA.of_below c).trans (s.mono (fun b e=>.inr (by rw[show b=l from e];rfl)))
 generalize (X.setCell ⟨l,m*13+10,none⟩ (int i64 4))=Z1 at s F a6 a7 a9 K a2 ⊢;clear s F bT H t a8 t0 t1 t2 t3 e4 d5;have e5:w.heap.size+1≠tb:=by omega
 obtain⟨a5,b0,a1,bF⟩:=Q0 a2.out a6.out a7.out K (by omega) (int i64 0) (int i64 ((m:Int)+1)) (int i64 0) (.slice none 0 0) rfl
 obtain⟨t0,t1,t2,t3⟩:=ce4 a9;obtain⟨v0,v1,v2,v3⟩:=ce4 K;obtain⟨e0,e1,e2,e3⟩:=fe4 K;have Z:Hid _:=a5;have c6:Hid _:=b0;have c5:Hid _:=a1;clear a5 b0 a1;go_wp2;obtain⟨x0,x1,x2,x3⟩:=ce4 bF;refine bodyPost_ret (v:=.agg #[int i64 0,int i64 ((m:Int)+1),int i64 (0),.slice none 0 0]) (by simp[results,Tryz.results123,go_sem,x0,x1,x2,x3]) rfl ?_
 have n:=c8.out;subst n;exact⟨_,_,_,_,rfl,rfl,Z.out,c6.out,c5.out⟩
theorem l7End_1 (g base N R l k u c:Nat)(j i t b:Option Addr)(Q:Int)(y:OpD)(x:Off)(L C A B D E:Nat->Value)(w:World)(X:w.heap[g]?=some (.cells #[.slice j N l,.slice i N k,.slice t R u] 66 (0,0)))(U:zV w base (.slice j N l) (.slice i N k) (.slice t R u) N N R x L C A B D E)(J:x.bkn=R)(F:base<=w.heap.size)(m:y.kind=1)(S:In y.pe 0 20)(a3:y.lgn<=3)(G:IntsAt w b y.lgn y.lg)(I:SliceOk b y.lgn c)(H:0<y.lgn->∀ a,b=some a->a.block<base) :
  Calls Tryz.prog 123 #[.pointer (some ⟨g,0,none⟩),int i64 Q,.agg #[int i64 y.kind,.string y.own,int i64 y.name,.slice b y.lgn c,int i64 y.pe,int i64 y.len,int i64 y.hei,int i64 y.cl,.bool y.all,int i64 y.be,int i64 y.unt,int i64 y.now]] w fun e w'=>zbf g base N l k j i (fun _=>False) x 0 0 (Zg ⟨y.pe,y.len,y.hei,y.cl,y.all,y.be⟩ (y.lgn:Int)) (fun _ v=>v=.slice none 0 0) L C A B D w e w':=by
 rw[m];have HO:=hI U;have HQ:=hI X;have Z:=hI m;have P:=hI J;have Y:=hI F;have a0:=hI G;have a2:=hI I;have a1:=hI H;clear U X m J F G I H;obtain⟨M,n⟩:∃ M,M=Zg ⟨y.pe,y.len,y.hei,y.cl,y.all,y.be⟩ (y.lgn:Int):=⟨_,rfl⟩;have O:=hI n;have d:Below w.heap.size w ((w.alloc (.cells #[int i64 1,.string y.own,int i64 y.name,.slice b y.lgn c,int i64 y.pe,int i64 y.len,int i64 y.hei,int i64 y.cl,.bool y.all,int i64 y.be,int i64 y.unt,int i64 y.now] 27)).alloc (.cells #[int i64 0,int i64 0,int i64 0,.slice none 0 0] 127)):=zr (zr bZ _) _;have K:=ze (heap_alloc_new w (.cells #[int i64 1,.string y.own,int i64 y.name,.slice b y.lgn c,int i64 y.pe,int i64 y.len,int i64 y.hei,int i64 y.cl,.bool y.all,int i64 y.be,int i64 y.unt,int i64 y.now] 27)) (.cells #[int i64 0,int i64 0,int i64 0,.slice none 0 0] 127);have o:=zcC w (.cells #[int i64 1,.string y.own,int i64 y.name,.slice b y.lgn c,int i64 y.pe,int i64 y.len,int i64 y.hei,int i64 y.cl,.bool y.all,int i64 y.be,int i64 y.unt,int i64 y.now] 27) (.cells #[int i64 0,int i64 0,int i64 0,.slice none 0 0] 127);go_enter Tryz.func123,Tryz.ntmps123;go_wp2_with fail;generalize ((w.alloc (.cells #[int i64 1,.string y.own,int i64 y.name,.slice b y.lgn c,int i64 y.pe,int i64 y.len,int i64 y.hei,int i64 y.cl,.bool y.all,int i64 y.be,int i64 y.unt,int i64 y.now] 27)).alloc (.cells #[int i64 0,int i64 0,int i64 0,.slice none 0 0] 127))=W at d K o ⊢;refine(qV y.pe y.len y.hei y.cl y.all y.be (y.lgn:Int) _ S (by unfold In;omega)).mono ?_
 rintro e V ⟨rfl,f⟩;rw[← n];clear n;replace d:=zj d f;replace K:=zc K f;replace o:=zc o f;clear f W;have o0:=za K 0 _ rfl;obtain⟨s,z,r,bF⟩:=Q0 (T:=(fun _=>False)) (zA.of_below d) (HO.out.below d) (zc HQ.out d) o (by omega) (int i64 0) (int i64 0) (int i64 M) (.slice none 0 0) rfl
 obtain⟨v0,v1,v2,v3⟩:=ce4 o;obtain⟨e0,e1,e2,e3⟩:=fe4 o;have h:Hid _:=s;have q:Hid _:=z;have p:Hid _:=r;clear s z r;go_wp2;obtain⟨x0,x1,x2,x3⟩:=ce4 bF;refine bodyPost_ret (v:=.agg #[int i64 0,int i64 0,int i64 M,.slice none 0 0]) (by simp[results,Tryz.results123,go_sem,x0,x1,x2,x3]) rfl ?_
 have hR:=P.out;subst hR;rw[O.out] at h q p ⊢;exact⟨_,_,_,_,rfl,rfl,h.out,q.out,p.out⟩
theorem l7End_2f (g base N R k j t d:Nat)(i h s b:Option Addr)(O:Int)(y:OpD)(x:Off)(L C A B D E:Nat->Value)(w:World)(U:w.heap[g]?=some (.cells #[.slice i N k,.slice h N j,.slice s R t] 66 (0,0)))(S:zV w base (.slice i N k) (.slice h N j) (.slice s R t) N N R x L C A B D E)(I:x.bkn=R)(z:base<=w.heap.size)(l:y.kind=2)(P:In y.pe 0 20)(a5:y.lgn<=3)(F:IntsAt w b y.lgn y.lg)(H:SliceOk b y.lgn d)(G:0<y.lgn->∀ a,b=some a->a.block<base)(hR:R=30) :
  Calls Tryz.prog 123 #[.pointer (some ⟨g,0,none⟩),int i64 O,.agg #[int i64 y.kind,.string y.own,int i64 y.name,.slice b y.lgn d,int i64 y.pe,int i64 y.len,int i64 y.hei,int i64 y.cl,.bool y.all,int i64 y.be,int i64 y.unt,int i64 y.now]] w fun e w'=>zbf g base N k j i h (fun _=>False) x 8 0 0 (fun _ v=>v=.slice none 0 0) L C A B D w e w':=by
 subst hR;rw[l];have HO:=hI S;have Q:=hI U;have Z:=hI l;have r:=hI I;have Y:=hI z;have a0:=hI F;have a3:=hI H;have a1:=hI G;clear S U l I z F H G;obtain⟨X,m⟩:∃ X,X=Zg ⟨y.pe,y.len,y.hei,y.cl,y.all,y.be⟩ (y.lgn:Int):=⟨_,rfl⟩;have a2:=hI m;have c:Below w.heap.size w ((w.alloc (.cells #[int i64 2,.string y.own,int i64 y.name,.slice b y.lgn d,int i64 y.pe,int i64 y.len,int i64 y.hei,int i64 y.cl,.bool y.all,int i64 y.be,int i64 y.unt,int i64 y.now] 27)).alloc (.cells #[int i64 0,int i64 0,int i64 0,.slice none 0 0] 127)):=zr (zr bZ _) _;have J:=ze (heap_alloc_new w (.cells #[int i64 2,.string y.own,int i64 y.name,.slice b y.lgn d,int i64 y.pe,int i64 y.len,int i64 y.hei,int i64 y.cl,.bool y.all,int i64 y.be,int i64 y.unt,int i64 y.now] 27)) (.cells #[int i64 0,int i64 0,int i64 0,.slice none 0 0] 127);have n:=zcC w (.cells #[int i64 2,.string y.own,int i64 y.name,.slice b y.lgn d,int i64 y.pe,int i64 y.len,int i64 y.hei,int i64 y.cl,.bool y.all,int i64 y.be,int i64 y.unt,int i64 y.now] 27) (.cells #[int i64 0,int i64 0,int i64 0,.slice none 0 0] 127);go_enter Tryz.func123,Tryz.ntmps123;go_wp2_with fail;generalize ((w.alloc (.cells #[int i64 2,.string y.own,int i64 y.name,.slice b y.lgn d,int i64 y.pe,int i64 y.len,int i64 y.hei,int i64 y.cl,.bool y.all,int i64 y.be,int i64 y.unt,int i64 y.now] 27)).alloc (.cells #[int i64 0,int i64 0,int i64 0,.slice none 0 0] 127))=W at c J n ⊢;refine(qV y.pe y.len y.hei y.cl y.all y.be (y.lgn:Int) _ P (by unfold In;omega)).mono ?_
 rintro e V ⟨rfl,f⟩;rw[← m];clear m;replace c:=zj c f;replace J:=zc J f;replace n:=zc n f;clear f W;have o0:=za J 0 _ rfl;have zq:=za (zc Q.out c) 2 _ rfl;obtain⟨q,u,p,bF⟩:=Q0 (T:=(fun _=>False)) (zA.of_below c) (HO.out.below c) (zc Q.out c) n (by omega) (int i64 8) (int i64 0) (int i64 0) (.slice none 0 0) rfl
 obtain⟨v0,v1,v2,v3⟩:=ce4 n;obtain⟨e0,e1,e2,e3⟩:=fe4 n;have o:Hid _:=q;have M:Hid _:=u;have K:Hid _:=p;clear q u p;go_wp2;obtain⟨x0,x1,x2,x3⟩:=ce4 bF;refine bodyPost_ret (v:=.agg #[int i64 8,int i64 0,int i64 0,.slice none 0 0]) (by simp[results,Tryz.results123,go_sem,x0,x1,x2,x3]) rfl ?_
 exact⟨_,_,_,_,rfl,rfl,by rw[r.out];exact o.out,by rw[r.out];exact M.out,K.out⟩
theorem l7End_3f (g base N R k j t d:Nat)(i h s b:Option Addr)(O:Int)(y:OpD)(x:Off)(L C A B D E:Nat->Value)(w:World)(U:w.heap[g]?=some (.cells #[.slice i N k,.slice h N j,.slice s R t] 66 (0,0)))(S:zV w base (.slice i N k) (.slice h N j) (.slice s R t) N N R x L C A B D E)(I:x.bkn=R)(z:base<=w.heap.size)(l:y.kind=3)(P:In y.pe 0 20)(a5:y.lgn<=3)(F:IntsAt w b y.lgn y.lg)(H:SliceOk b y.lgn d)(G:0<y.lgn->∀ a,b=some a->a.block<base)(hR:R=30) :
  Calls Tryz.prog 123 #[.pointer (some ⟨g,0,none⟩),int i64 O,.agg #[int i64 y.kind,.string y.own,int i64 y.name,.slice b y.lgn d,int i64 y.pe,int i64 y.len,int i64 y.hei,int i64 y.cl,.bool y.all,int i64 y.be,int i64 y.unt,int i64 y.now]] w fun e w'=>zbf g base N k j i h (fun _=>False) x 8 0 0 (fun _ v=>v=.slice none 0 0) L C A B D w e w':=by
 subst hR;rw[l];have HO:=hI S;have Q:=hI U;have Z:=hI l;have r:=hI I;have Y:=hI z;have a0:=hI F;have a3:=hI H;have a1:=hI G;clear S U l I z F H G;obtain⟨X,m⟩:∃ X,X=Zg ⟨y.pe,y.len,y.hei,y.cl,y.all,y.be⟩ (y.lgn:Int):=⟨_,rfl⟩;have a2:=hI m;have c:Below w.heap.size w ((w.alloc (.cells #[int i64 3,.string y.own,int i64 y.name,.slice b y.lgn d,int i64 y.pe,int i64 y.len,int i64 y.hei,int i64 y.cl,.bool y.all,int i64 y.be,int i64 y.unt,int i64 y.now] 27)).alloc (.cells #[int i64 0,int i64 0,int i64 0,.slice none 0 0] 127)):=zr (zr bZ _) _;have J:=ze (heap_alloc_new w (.cells #[int i64 3,.string y.own,int i64 y.name,.slice b y.lgn d,int i64 y.pe,int i64 y.len,int i64 y.hei,int i64 y.cl,.bool y.all,int i64 y.be,int i64 y.unt,int i64 y.now] 27)) (.cells #[int i64 0,int i64 0,int i64 0,.slice none 0 0] 127);have n:=zcC w (.cells #[int i64 3,.string y.own,int i64 y.name,.slice b y.lgn d,int i64 y.pe,int i64 y.len,int i64 y.hei,int i64 y.cl,.bool y.all,int i64 y.be,int i64 y.unt,int i64 y.now] 27) (.cells #[int i64 0,int i64 0,int i64 0,.slice none 0 0] 127);go_enter Tryz.func123,Tryz.ntmps123;go_wp2_with fail;generalize ((w.alloc (.cells #[int i64 3,.string y.own,int i64 y.name,.slice b y.lgn d,int i64 y.pe,int i64 y.len,int i64 y.hei,int i64 y.cl,.bool y.all,int i64 y.be,int i64 y.unt,int i64 y.now] 27)).alloc (.cells #[int i64 0,int i64 0,int i64 0,.slice none 0 0] 127))=W at c J n ⊢;refine(qV y.pe y.len y.hei y.cl y.all y.be (y.lgn:Int) _ P (by unfold In;omega)).mono ?_
 rintro e V ⟨rfl,f⟩;rw[← m];clear m;replace c:=zj c f;replace J:=zc J f;replace n:=zc n f;clear f W;have o0:=za J 0 _ rfl;have zq:=za (zc Q.out c) 2 _ rfl;obtain⟨q,u,p,bF⟩:=Q0 (T:=(fun _=>False)) (zA.of_below c) (HO.out.below c) (zc Q.out c) n (by omega) (int i64 8) (int i64 0) (int i64 0) (.slice none 0 0) rfl
 obtain⟨v0,v1,v2,v3⟩:=ce4 n;obtain⟨e0,e1,e2,e3⟩:=fe4 n;have o:Hid _:=q;have M:Hid _:=u;have K:Hid _:=p;clear q u p;go_wp2;obtain⟨x0,x1,x2,x3⟩:=ce4 bF;refine bodyPost_ret (v:=.agg #[int i64 8,int i64 0,int i64 0,.slice none 0 0]) (by simp[results,Tryz.results123,go_sem,x0,x1,x2,x3]) rfl ?_
 exact⟨_,_,_,_,rfl,rfl,by rw[r.out];exact o.out,by rw[r.out];exact M.out,K.out⟩
theorem Tryz.infoText:(Tryz.prog.info? 9).map (fun i=>(i.zero,i.size,i.bytes))=some (some (.string ⟨#[]⟩),1,16):=by kernel_rfl
theorem zfi (sep:ByteArray)(g n:Nat)(F:Nat->ByteArray)(w:World)(h:w.rowIs g 9 n (fun k=>.string (F k)))(hn:0<n)(hN:n<=1048576)(hl:(qD sep ((List.range n).map F)).size<=140737488355328) :
  Calls Tryz.prog 16 #[.slice (some ⟨g,0,none⟩) n n,.string sep] w fun e w'=>e=.returned (.string (qD sep ((List.range n).map F)))/\Below w.heap.size w w':=by
 have a:((List.range n).map F).length=n:=by simp
 have i:∀ (j:Nat) x,((List.range n).map F)[j]?=some x->w.cell? ⟨g,0+j,none⟩=some (.string x):=fun j x c=>by
  have f:j<n:=by
   rcases Nat.lt_or_ge j n with d|d
   ·exact d
   ·rw[List.getElem?_eq_none (by simpa using d)] at c;cases c
  rw[List.getElem?_map,List.getElem?_range f] at c
  cases c
  rw[Nat.zero_add];exact h.cell f
 have b:=Any.strings_Join Tryz.lays156 Tryz.extra156 g 0 n ((List.range n).map F) sep w i h.lt (by omega) (by omega) (by
   have e:(qD sep ((List.range n).map F)).size=(Lib.join (((List.range n).map F).map (·.data.toList)) sep.data.toList).length:=by show(Lib.join (((List.range n).map F).map (·.data.toList)) sep.data.toList).toArray.size=_;simp
   rw[← e];exact hl)
 rw[a] at b;exact b
theorem zho (v:Option Addr)(n cap:Nat)(f:Nat->Int)(w:World)(s:0<n)(hn:n<=3)(G:IntsAt w v n f)(m:∀ i,i<n->In (f i) 0 99999)(x:PowAt w) :
  Calls Tryz.prog 40 #[.slice v n cap,.func (.func 39) #[] #[]] w fun e w'=>e=.returned (.string (ZB n f))/\Below w.heap.size w w':=by
 have D:=run_make_row' (P:=Tryz.prog) 46 9 (.string ⟨#[]⟩) 16 Tryz.underlying46 Tryz.infoText rfl .i64 .i64 n (by omega) (by omega)
 have d0:((n:Int) == 0)=false:=by rw[beq_eq_false_iff_ne];omega
 have z:=hI x;have u:=hI m;clear x m;go_enter Tryz.func40,Tryz.ntmps40;go_wp2;go_loopw [6,7,16] (fun _ _ i wr=>∃ k:Nat,k<=n/\i=int i64 k/\wr.rowIs w.heap.size 9 n (fun j=>if j<k then .string (qf (f j)) else .string ⟨#[]⟩)/\Below w.heap.size w wr)
  (fun _ _ i _=>n - (intOf i).toNat)
 case atStart=>exact⟨0,Nat.zero_le _,rfl,(World.rowIs_made _ _ _ _).congr (by simp),bZ.alloc (Nat.le_refl _) _⟩
 case round =>
  obtain⟨k,hk,rfl,d,a⟩:=hrel
  by_cases hlt:k<n
  ·obtain⟨b,off,rfl,q⟩:=(G k (by omega))
   have B:wr.cell? ⟨b,off+k,none⟩=some (int i64 (f k)):=(a.cell (World.block_lt_of_cell? w _ q)).trans q;have r:=u.out k hlt;unfold In at r;clear q;go_wp2_with fail;refine(Z3 (f k) (by omega) (by omega) _ (z.out.below a)).mono ?_
   rintro e w2 ⟨rfl,h⟩;have c:=row_below d h;have l:=zj a h;have E:=c.cell (i:=k) hlt;have hf:=c.frozen k;simp only[Nat.lt_irrefl,if_false] at E;clear d a h;go_wp2;go_roundw
   case rel=>exact⟨k+1,by omega,by go_num,(c.set k _).congr (fun j C=>fill_step (fun j=>Value.string (qf (f j))) _ k j),l.setCell (Nat.le_refl _) _⟩
   case measure=>simp[intOf];omega
  ·have g:wr.rowIs w.heap.size 9 n (fun j=>.string (qf (f j))):=d.congr (fun j C=>by rw[if_pos (by omega)])
   have t:=zbU coT (by show 1<=1;omega) ((List.range n).map (fun i=>qf (f i))) (fun p F=>by
    obtain⟨i,m,rfl⟩:=List.mem_map.1 F;have A:=u.out i (by simpa using m)
    unfold In at A;have:=qh (n:=f i) (by omega) (by omega)
    omega)
   have y:=hI g;clear d g;go_wp2_with fail;refine(zfi coT w.heap.size n (fun i=>qf (f i)) _ y.out s (by omega) (by rw[List.length_map,List.length_range] at t;omega)).mono ?_
   rintro e w3 ⟨rfl,o⟩;go_wp2;go_ret;exact⟨rfl,zj a o⟩
def Zo (a b:Int):ByteArray:=qf a++⟨#[47]⟩++qf b
def qu (p:qi):ByteArray:=if p.n=0 then ⟨#[45]⟩ else qD coT ((List.range p.n).map (fun i=>Zo (p.A i) (p.B i)))
theorem zcx {a b:Int}(c:In a 0 1000000)(d:In b 0 1000000):(Zo a b).size<=201:=by
 unfold In at c d;have s1:=qh (n:=a) (by omega) (by omega)
 have s2:=qh (n:=b) (by omega) (by omega)
 unfold Zo;rw[ByteArray.size_append,ByteArray.size_append]
 show _+1+_<=201
 omega
def zcL (p:qi):Prop:=p.n<=6/\∀ i,i<p.n->In (p.A i) 0 1000000/\In (p.B i) 0 1000000
theorem zbk {p:qi}(h:zcL p):(qD coT ((List.range p.n).map (fun i=>Zo (p.A i) (p.B i)))).size<=6006:=by
 have:=zbU coT (by show 1<=1;omega) ((List.range p.n).map (fun i=>Zo (p.A i) (p.B i))) (fun q c=>by
  obtain⟨i,b,rfl⟩:=List.mem_map.1 c;have a:=h.2 i (by simpa using b)
  have:=zcx a.1 a.2
  omega)
 rw[List.length_map,List.length_range] at this;have:=h.1
 omega
theorem zaL {p:qi}(h:zcL p):(qu p).size<=6006:=by
 unfold qu
 split
 ·show 1<=6006;omega
 ·exact zbk h
theorem zgr (a b:Int)(w:World)(i:In a 0 1000000)(j:In b 0 1000000)(g:PowAt w) :
  Calls Tryz.prog 65 #[.agg #[int i64 a,int i64 b]] w fun e w'=>e=.returned (.string (Zo a b))/\Below w.heap.size w w':=by
 have c:Below w.heap.size w (w.alloc (.cells #[int i64 a,int i64 b] 106)):=zr bZ _;have d:=heap_alloc_new w (.cells #[int i64 a,int i64 b] 106);have h:=hI g;clear g;go_enter Tryz.func65,Tryz.ntmps65;go_upto_region 1 with fail;generalize w.alloc (.cells #[int i64 a,int i64 b] 106)=W at c d ⊢;have y0:=za d 0 _ rfl;have y1:=za d 1 _ rfl;go_wp2_with fail;refine(zbg a b _ i j (h.out.below c)).mono ?_;rintro e w2 ⟨rfl,f⟩;go_wp2;go_ret;exact⟨rfl,zj c f⟩
theorem zgs (E:Option Addr)(cap:Nat)(p:qi)(w:World)(B:zcL p)(G:qd w E p)(F:PowAt w) :
  Calls Tryz.prog 64 #[.slice E p.n cap,.func (.func 65) #[] #[]] w fun e w'=>e=.returned (.string (qu p))/\Below w.heap.size w w':=by
 have D:=hI B;have A:=B.1;have J:=hI G;have I:=hI F;obtain⟨n,hn⟩:∃ n,n=p.n:=⟨_,rfl⟩;have o:=hI hn.symm;rw[← hn] at A ⊢;clear F B G hn
 by_cases h0:n=0
 ·have K:((n:Int) == 0)=true:=by rw[beq_iff_eq];omega
  have s:Hid ((⟨#[45]⟩:ByteArray)=qu p):=by show _=qu p;unfold qu;rw[if_pos (by rw[o.out];exact h0)]
  clear h0;go_enter Tryz.func64,Tryz.ntmps64;go_wp2;go_ret;exact⟨congrArg (fun z=>Ending.returned (Value.string z)) s.out,bZ⟩
 have M:=run_make_row' (P:=Tryz.prog) 46 9 (.string ⟨#[]⟩) 16 Tryz.underlying46 Tryz.infoText rfl .i64 .i64 n (by omega) (by omega)
 have K:((n:Int) == 0)=false:=by rw[beq_eq_false_iff_ne];omega
 go_enter Tryz.func64,Tryz.ntmps64;go_wp2;go_loopw [6,7,16] (fun _ _ i wr=>∃ k:Nat,k<=n/\i=int i64 k/\Hid (wr.rowIs w.heap.size 9 n (fun j=>if j<k then .string (Zo (p.A j) (p.B j)) else .string ⟨#[]⟩))/\Below w.heap.size w wr)
  (fun _ _ i _=>n - (intOf i).toNat)
 case atStart=>exact⟨0,Nat.zero_le _,rfl,(World.rowIs_made _ _ _ _).congr (by simp),bZ.alloc (Nat.le_refl _) _⟩
 case round =>
  obtain⟨k,hk,rfl,d,c⟩:=hrel
  by_cases hlt:k<n
  ·obtain⟨b,off,rfl,v,hd⟩:=J.out k (by rw[o.out];exact hlt)
   have x:wr.cell? ⟨b,off+k*2,none⟩=some (int i64 (p.A k)):=(c.cell (World.block_lt_of_cell? w _ v)).trans v;have y:wr.cell? ⟨b,off+k*2+1,none⟩=some (int i64 (p.B k)):=(c.cell (World.block_lt_of_cell? w _ hd)).trans hd;have r:=D.out.2 k (by rw[o.out];exact hlt)
   have q:=hI r;clear v hd r;have g:Below w.heap.size w (wr.alloc (.cells #[int i64 (p.A k),int i64 (p.B k)] 106)):=zr c _;have b1:=heap_alloc_new wr (.cells #[int i64 (p.A k),int i64 (p.B k)] 106);have h:Hid _:=row_below d.out (zr bZ (.cells #[int i64 (p.A k),int i64 (p.B k)] 106));go_upto_region 7 with fail;generalize wr.alloc (.cells #[int i64 (p.A k),int i64 (p.B k)] 106)=W at g b1 h ⊢;have O:=za b1 0 _ rfl;have Q:=za b1 1 _ rfl;clear x y d;go_wp2_with fail;refine(zgr (p.A k) (p.B k) _ q.out.1 q.out.2 (I.out.below g)).mono ?_;rintro e w2 ⟨rfl,l⟩;have a:=row_below h.out l;have m:=zj g l;have N:=a.cell (i:=k) hlt;have hf:=a.frozen k;simp only[Nat.lt_irrefl,if_false] at N;have t:=hI a;clear h c l g b1 O Q a;go_wp2;go_roundw
   case rel=>exact⟨k+1,by omega,by go_num,(World.rowIs.set t.out k _).congr (fun j L=>fill_step (fun j=>Value.string (Zo (p.A j) (p.B j))) _ k j),m.setCell (Nat.le_refl _) _⟩
   case measure=>simp[intOf];omega
  ·have f:wr.rowIs w.heap.size 9 n (fun j=>.string (Zo (p.A j) (p.B j))):=d.out.congr (fun j L=>by rw[if_pos (by omega)])
   have H:=hI f;have C:=zbk D.out;rw[o.out] at C;have s:Hid (qD coT ((List.range n).map (fun i=>Zo (p.A i) (p.B i)))=qu p):=by show _=qu p;unfold qu;rw[o.out,if_neg h0]
   clear d f;go_wp2_with fail;refine(zfi coT w.heap.size n (fun i=>Zo (p.A i) (p.B i)) _ H.out (by omega) (by omega) (by omega)).mono ?_
   rintro e w3 ⟨rfl,u⟩;go_wp2;go_ret;exact⟨congrArg (fun z=>Ending.returned (Value.string z)) s.out,zj c u⟩
theorem zfl (a b:Int)(w:World)(i:In a 0 1000000)(j:In b 0 1000000)(g:PowAt w) :
  Calls Tryz.prog 67 #[.agg #[int i64 a,int i64 b]] w fun e w'=>e=.returned (.string (Zo a b))/\Below w.heap.size w w':=by
 have c:Below w.heap.size w (w.alloc (.cells #[int i64 a,int i64 b] 110)):=zr bZ _;have d:=heap_alloc_new w (.cells #[int i64 a,int i64 b] 110);have h:=hI g;clear g;go_enter Tryz.func67,Tryz.ntmps67;go_upto_region 1 with fail;generalize w.alloc (.cells #[int i64 a,int i64 b] 110)=W at c d ⊢;have y0:=za d 0 _ rfl;have y1:=za d 1 _ rfl;go_wp2_with fail;refine(zbg a b _ i j (h.out.below c)).mono ?_;rintro e w2 ⟨rfl,f⟩;go_wp2;go_ret;exact⟨rfl,zj c f⟩
theorem zfm (E:Option Addr)(cap:Nat)(p:qi)(w:World)(B:zcL p)(G:qd w E p)(F:PowAt w) :
  Calls Tryz.prog 66 #[.slice E p.n cap,.func (.func 67) #[] #[]] w fun e w'=>e=.returned (.string (qu p))/\Below w.heap.size w w':=by
 have D:=hI B;have A:=B.1;have J:=hI G;have I:=hI F;obtain⟨n,hn⟩:∃ n,n=p.n:=⟨_,rfl⟩;have o:=hI hn.symm;rw[← hn] at A ⊢;clear F B G hn
 by_cases h0:n=0
 ·have K:((n:Int) == 0)=true:=by rw[beq_iff_eq];omega
  have s:Hid ((⟨#[45]⟩:ByteArray)=qu p):=by show _=qu p;unfold qu;rw[if_pos (by rw[o.out];exact h0)]
  clear h0;go_enter Tryz.func66,Tryz.ntmps66;go_wp2;go_ret;exact⟨congrArg (fun z=>Ending.returned (Value.string z)) s.out,bZ⟩
 have M:=run_make_row' (P:=Tryz.prog) 46 9 (.string ⟨#[]⟩) 16 Tryz.underlying46 Tryz.infoText rfl .i64 .i64 n (by omega) (by omega)
 have K:((n:Int) == 0)=false:=by rw[beq_eq_false_iff_ne];omega
 go_enter Tryz.func66,Tryz.ntmps66;go_wp2;go_loopw [6,7,16] (fun _ _ i wr=>∃ k:Nat,k<=n/\i=int i64 k/\Hid (wr.rowIs w.heap.size 9 n (fun j=>if j<k then .string (Zo (p.A j) (p.B j)) else .string ⟨#[]⟩))/\Below w.heap.size w wr)
  (fun _ _ i _=>n - (intOf i).toNat)
 case atStart=>exact⟨0,Nat.zero_le _,rfl,(World.rowIs_made _ _ _ _).congr (by simp),bZ.alloc (Nat.le_refl _) _⟩
 case round =>
  obtain⟨k,hk,rfl,d,c⟩:=hrel
  by_cases hlt:k<n
  ·obtain⟨b,off,rfl,v,hd⟩:=J.out k (by rw[o.out];exact hlt)
   have x:wr.cell? ⟨b,off+k*2,none⟩=some (int i64 (p.A k)):=(c.cell (World.block_lt_of_cell? w _ v)).trans v;have y:wr.cell? ⟨b,off+k*2+1,none⟩=some (int i64 (p.B k)):=(c.cell (World.block_lt_of_cell? w _ hd)).trans hd;have r:=D.out.2 k (by rw[o.out];exact hlt)
   have q:=hI r;clear v hd r;have g:Below w.heap.size w (wr.alloc (.cells #[int i64 (p.A k),int i64 (p.B k)] 110)):=zr c _;have b1:=heap_alloc_new wr (.cells #[int i64 (p.A k),int i64 (p.B k)] 110);have h:Hid _:=row_below d.out (zr bZ (.cells #[int i64 (p.A k),int i64 (p.B k)] 110));go_upto_region 7 with fail;generalize wr.alloc (.cells #[int i64 (p.A k),int i64 (p.B k)] 110)=W at g b1 h ⊢;have O:=za b1 0 _ rfl;have Q:=za b1 1 _ rfl;clear x y d;go_wp2_with fail;refine(zfl (p.A k) (p.B k) _ q.out.1 q.out.2 (I.out.below g)).mono ?_;rintro e w2 ⟨rfl,l⟩;have a:=row_below h.out l;have m:=zj g l;have N:=a.cell (i:=k) hlt;have hf:=a.frozen k;simp only[Nat.lt_irrefl,if_false] at N;have t:=hI a;clear h c l g b1 O Q a;go_wp2;go_roundw
   case rel=>exact⟨k+1,by omega,by go_num,(World.rowIs.set t.out k _).congr (fun j L=>fill_step (fun j=>Value.string (Zo (p.A j) (p.B j))) _ k j),m.setCell (Nat.le_refl _) _⟩
   case measure=>simp[intOf];omega
  ·have f:wr.rowIs w.heap.size 9 n (fun j=>.string (Zo (p.A j) (p.B j))):=d.out.congr (fun j L=>by rw[if_pos (by omega)])
   have H:=hI f;have C:=zbk D.out;rw[o.out] at C;have s:Hid (qD coT ((List.range n).map (fun i=>Zo (p.A i) (p.B i)))=qu p):=by show _=qu p;unfold qu;rw[o.out,if_neg h0]
   clear d f;go_wp2_with fail;refine(zfi coT w.heap.size n (fun i=>Zo (p.A i) (p.B i)) _ H.out (by omega) (by omega) (by omega)).mono ?_
   rintro e w3 ⟨rfl,u⟩;go_wp2;go_ret;exact⟨congrArg (fun z=>Ending.returned (Value.string z)) s.out,zj c u⟩
noncomputable def zI (s:ByteArray):Int:=by classical exact if h:∃ m:Int,In m 0 99999/\s=qf m then Classical.choose h else -1
theorem zay {m:Int}(h:0<=m):(qf m).data.toList=Lib.decDigits m.toNat:=by
 obtain⟨u,rfl⟩:=Int.eq_ofNat_of_zero_le h;rw[zfg]
 rfl
theorem numT_inj {m n:Int}(b:0<=m)(hn:0<=n)(h:qf m=qf n):m=n:=by
 have a:=congrArg (fun z:ByteArray=>zdJ z.data.toList) h
 rw[zay b,zay hn,zhs,zhs] at a
 omega
theorem qH {m:Int}(h:In m 0 99999):zI (qf m)=m:=by
 have a:∃ k:Int,In k 0 99999/\qf m=qf k:=⟨m,h,rfl⟩;unfold zI;rw[dif_pos a];have:=Classical.choose_spec a;exact(numT_inj h.1 this.1.1 this.2).symm
theorem zdA {s:ByteArray}(h:∀ m:Int,In m 0 99999->s≠qf m):zI s=-1:=by
 unfold zI;rw[dif_neg];rintro⟨m,a,b⟩;exact h m a b
theorem zey {s:ByteArray}{c:UInt8}(h:c ∈ s.data.toList)(a:¬ ZS c):zI s=-1:=zdA fun m b e=>by
 rw[e,zay b.1] at h;exact a (zex _ c h)
theorem zix {s:ByteArray}(h:¬ (1<=s.size/\s.size<=5)):zI s=-1:=zdA fun m a e=>by
 have h1:=dec_len (u:=m.toNat) (by have:=a.1;have:=a.2;omega)
 have h2:s.size=(Lib.decDigits m.toNat).length:=by
  rw[← zay a.1,← e];exact(Array.length_toList).symm
 omega
theorem zgt {s:ByteArray}(h:s.size<=5)(hd:∀ c,c ∈ s.data.toList->ZS c):zdJ s.data.toList<=99999:=by
 have a:=val_lt _ hd;have b:s.data.toList.length=s.size:=Array.length_toList;rw[b] at a;have:(10:Nat) ^ s.size<=10 ^ 5:=Nat.pow_le_pow_right (by decide) h
 omega
theorem zgu {s:ByteArray}(h:s.size<=5)(hd:∀ c,c ∈ s.data.toList->ZS c):zI s=if qf (zdJ s.data.toList:Int)=s then (zdJ s.data.toList:Int) else -1:=by
 have hv:=zgt h hd
 split
 ·rename_i e
  have:=qH (m:=(zdJ s.data.toList:Int)) ⟨by omega,by omega⟩
  rw[e] at this;exact this
 ·rename_i e
  refine zdA fun m b a=>e ?_
  have d:zdJ s.data.toList=m.toNat:=by rw[a,zay b.1,zhs]
  rw[d,a]
  congr 1
  have:=b.1
  omega
/-! ### What is read at a place -/
theorem zez {s:ByteArray}{i:Nat}(h:i<s.size):s.data.toList[i]?=some (s[i]'h):=by
 have hl:i<s.data.toList.length:=by rw[Array.length_toList];exact h
 rw[List.getElem?_eq_getElem hl];simp
 rfl
theorem zhO {s:ByteArray}{i:Nat}(h:i<s.size):s.get! i=s[i]'h:=by
 show s.data[i]! = s.data[i]'h
 exact getElem!_pos s.data i h
theorem zht (s:ByteArray)(i:Nat)(h:i<s.size)(l:128<=(s[i]'h).toNat):i+(Utf8.decode s i).2<=s.size/\∀ j,i<=j->j<i+(Utf8.decode s i).2->∀ b:j<s.size,128<=(s[j]'b).toNat:=by
 have p:=zhO h;have a:∀ k,(decide (i+k<s.size) && (s.get! (i+k)).toNat / 64 == 2)=true->i+k<s.size/\∀ b:i+k<s.size,128<=(s[i+k]'b).toNat:=fun k n=>by
  rw[Bool.and_eq_true] at n;have f:=of_decide_eq_true n.1;have d:=n.2;rw[zhO f,beq_iff_eq] at d;exact⟨f,fun b=>by omega⟩
 have e:∀ j,i<=j->j<i+1->∀ b:j<s.size,128<=(s[j]'b).toNat:=fun j f d b=>by
  obtain rfl:i=j:=by omega
  exact l
 unfold Utf8.decode;dsimp only;rw[if_neg (by rw[Nat.add_zero,p];omega)]
 split
 ·rename_i c
  rw[Bool.and_eq_true] at c;have g:=a 1 c.2
  split
  ·refine⟨by show i+2<=_;omega,fun j f d b=>?_⟩
   have d:j<i+2:=d
   rcases (show j=i∨j=i+1 by omega) with rfl|rfl
   ·exact l
   ·exact g.2 b
  ·exact⟨by show i+1<=_;omega,e⟩
 ·split
  ·rename_i c
   rw[Bool.and_eq_true,Bool.and_eq_true] at c;have g:=a 1 c.1.2;have m:=a 2 c.2
   split
   ·refine⟨by show i+3<=_;omega,fun j f d b=>?_⟩
    have d:j<i+3:=d
    rcases (show j=i∨j=i+1∨j=i+2 by omega) with rfl|rfl|rfl
    ·exact l
    ·exact g.2 b
    ·exact m.2 b
   ·exact⟨by show i+1<=_;omega,e⟩
  ·split
   ·rename_i c
    rw[Bool.and_eq_true,Bool.and_eq_true,Bool.and_eq_true] at c;have g:=a 1 c.1.1.2;have m:=a 2 c.1.2;have o:=a 3 c.2
    split
    ·refine⟨by show i+4<=_;omega,fun j f d b=>?_⟩
     have d:j<i+4:=d
     rcases (show j=i∨j=i+1∨j=i+2∨j=i+3 by omega) with rfl|rfl|rfl|rfl
     ·exact l
     ·exact g.2 b
     ·exact m.2 b
     ·exact o.2 b
    ·exact⟨by show i+1<=_;omega,e⟩
   ·exact⟨by show i+1<=_;omega,e⟩
/-! ### Cut in two -/
def zgv (p:UInt8)(s a b:ByteArray)(f:Bool):Prop:=p∉a.data.toList/\((f=true/\s.data.toList=a.data.toList++p :: b.data.toList)∨(f=false/\a=s/\b=⟨#[]⟩))
theorem cut_one {p:UInt8}{s a b d b':ByteArray}{f e:Bool}(h:zgv p s a b f)(k:zgv p s d b' e):a=d/\b=b'/\f=e:=by
 obtain⟨g,c⟩:=h;obtain⟨i,k1⟩:=k
 rcases c with⟨rfl,c⟩|⟨rfl,rfl,rfl⟩
 ·rcases k1 with⟨rfl,k1⟩|⟨rfl,rfl,rfl⟩
  ·obtain⟨j,l⟩:=zfr g i (c.symm.trans k1)
   exact⟨zda j,zda l,rfl⟩
  ·exact absurd (by rw[c];simp) i
 ·rcases k1 with⟨rfl,k1⟩|⟨rfl,rfl,rfl⟩
  ·exact absurd (by rw[k1];simp) g
  ·exact⟨rfl,rfl,rfl⟩
theorem ZO (s:ByteArray)(w:World)(K:PowAt w) :
  Calls Tryz.prog 55 #[.string s] w fun e w'=>e=.returned (int i64 (zI s))/\Below w.heap.size w w':=by
 by_cases h5:s.size<=5
 case neg =>
  have M:decide (5<s.size)=true:=decide_eq_true (by omega)
  have k:Hid (-1=zI s):=(zix (by omega)).symm
  go_enter Tryz.func55,Tryz.ntmps55;go_wp2;go_ret;exact⟨congrArg (fun z=>Ending.returned (Value.int .i64 z)) k.out,bZ⟩
 have M:decide (5<s.size)=false:=decide_eq_false (by omega)
 have H:=hI K;have hl:s.data.toList.length=s.size:=Array.length_toList;have x:(w.iter s 0).heap[w.heap.size]?=some (.stringIter s 0):=World.iter_heap w s 0;have u:Below w.heap.size w (w.iter s 0):=zr bZ _;clear K;go_enter Tryz.func55,Tryz.ntmps55;go_wp2;go_loopw [3,5] (fun v _ wr=>∃ a:Nat,a<=s.size/\wr.heap[w.heap.size]?=some (.stringIter s a)/\v=int i64 (zdJ (s.data.toList.take a):Int)/\Hid (∀ c,c ∈ s.data.toList.take a->ZS c)/\Below w.heap.size w wr)
  (fun _ _ wr=>s.size - wr.iterPos w.heap.size)
 case atStart=>exact⟨0,Nat.zero_le _,x,rfl,fun c i=>by simp at i,u⟩
 case round =>
  obtain⟨a,P,n,rfl,m,d⟩:=hrel;clear x u;have F:wr.iterPos w.heap.size=a:=by simp[World.iterPos,n]
  by_cases hp:a<s.size
  ·have f:s[a]'hp ∈ s.data.toList:=List.mem_of_getElem? (zez hp)
   by_cases h128:(s[a]'hp).toNat<128
   ·have b:∀ j,(Instr.next (.pointer (some ⟨w.heap.size,0,none⟩)) true j).run Tryz.prog wr=_:=fun j=>Lib.run_next_ascii_at wr w.heap.size s a j n hp h128
    have l:=Lib.iterAt_heap wr w.heap.size s a (a+1) n;have g:Below w.heap.size w (wr.iterAt w.heap.size s (a+1)):=Lib.below_iterAt d (Nat.le_refl _) s (a+1);generalize wr.iterAt w.heap.size s (a+1)=I at b l g
    by_cases hd:ZS (s[a]'hp)
    ·have B:Hid (∀ c,c ∈ s.data.toList.take (a+1)->ZS c):=fun c i=>by
      rw[List.take_add_one,zez hp] at i
      rcases List.mem_append.1 i with i|i
      ·exact m.out c i
      ·simp at i;rw[i];exact hd
     have A:zdJ (s.data.toList.take (a+1))=10*zdJ (s.data.toList.take a)+((s[a]'hp).toNat - 48):=by
      rw[List.take_add_one,zez hp];exact zdz _ _
     have G:zdJ (s.data.toList.take a)<100000:=by
      have h1:=val_lt _ m.out;have O:(s.data.toList.take a).length<=5:=by rw[List.length_take];omega
      have:(10:Nat) ^ (s.data.toList.take a).length<=10 ^ 5:=Nat.pow_le_pow_right (by decide) O
      omega
     have D:=hI A;unfold ZS at hd;generalize i:(s[a]'hp).toNat=c at hd b D h128;generalize zdJ (s.data.toList.take a)=V at G D ⊢;have E:decide ((c:Int)<48)=false:=decide_eq_false (by omega)
     have J:decide ((57:Int)<(c:Int))=false:=decide_eq_false (by omega)
     have o:decide (c<48)=false:=decide_eq_false (by omega)
     have r:decide (57<c)=false:=decide_eq_false (by omega)
     have w1:IntKind.i64.wrap (10*(V:Int))=10*(V:Int):=by rw[IntKind.wrap_i64];omega
     have w2:IntKind.i32.wrap ((c:Int) - 48)=(c:Int) - 48:=by unfold IntKind.wrap;simp[IntKind.bits,IntKind.signed];omega
     have L:IntKind.i64.wrap ((c:Int) - 48)=(c:Int) - 48:=by rw[IntKind.wrap_i64];omega
     have w4:IntKind.i64.wrap (10*(V:Int)+((c:Int) - 48))=10*(V:Int)+((c:Int) - 48):=by rw[IntKind.wrap_i64];omega
     clear f i n d m A;go_wp2;go_roundw
     case rel=>exact⟨a+1,by omega,l,by rw[D.out];congr 1;omega,B,g⟩
     case measure =>
      have y:I.iterPos w.heap.size=a+1:=by simp[World.iterPos,l]
      rw[F,y]
      omega
    ·have k:=hI ((zey f hd).symm)
     unfold ZS at hd;generalize i:(s[a]'hp).toNat=c at hd b h128;generalize zdJ (s.data.toList.take a)=V;clear f i n m l
     by_cases h48:c<48
     ·have E:decide ((c:Int)<48)=true:=decide_eq_true (by omega)
      have o:decide (c<48)=true:=decide_eq_true h48;go_wp2;go_ret;exact⟨congrArg (fun z=>Ending.returned (Value.int .i64 z)) k.out,g⟩
     ·have E:decide ((c:Int)<48)=false:=decide_eq_false (by omega)
      have o:decide (c<48)=false:=decide_eq_false h48;have J:decide ((57:Int)<(c:Int))=true:=decide_eq_true (by omega)
      have r:decide (57<c)=true:=decide_eq_true (by omega)
      go_wp2;go_ret;exact⟨congrArg (fun z=>Ending.returned (Value.int .i64 z)) k.out,g⟩
   ·have b:∀ j,(Instr.next (.pointer (some ⟨w.heap.size,0,none⟩)) true j).run Tryz.prog wr=_:=fun j=>Lib.run_next_any_at wr w.heap.size s a j n hp
    have g:Below w.heap.size w (wr.iterAt w.heap.size s (a+(Utf8.decode s a).2)):=Lib.below_iterAt d (Nat.le_refl _) s _;generalize wr.iterAt w.heap.size s (a+(Utf8.decode s a).2)=I at b g;have k:Hid (-1=zI s):=(zey f (fun h=>by unfold ZS at h;omega)).symm
    have Q:=(decode_high s a hp (by omega)).1
    generalize (Utf8.decode s a).1=c at Q b;generalize zdJ (s.data.toList.take a)=V;clear f n m;have E:decide ((c:Int)<48)=false:=decide_eq_false (by omega)
    have o:decide (c<48)=false:=decide_eq_false (by omega)
    have J:decide ((57:Int)<(c:Int))=true:=decide_eq_true (by omega)
    have r:decide (57<c)=true:=decide_eq_true (by omega)
    go_wp2;go_ret;exact⟨congrArg (fun z=>Ending.returned (Value.int .i64 z)) k.out,g⟩
  ·have b:∀ j,(Instr.next (.pointer (some ⟨w.heap.size,0,none⟩)) true j).run Tryz.prog wr=_:=fun j=>Lib.run_next_end_at wr w.heap.size s a j n hp
   have t:s.data.toList.take a=s.data.toList:=List.take_of_length_le (by omega)
   rw[t] at m ⊢;have A:=zgt h5 m.out;have k:=zgu h5 m.out;generalize zdJ s.data.toList=V at A k ⊢;have q:=hI k;clear k
   by_cases he:qf (V:Int)=s
   ·have N:((qf (V:Int)).toList == s.toList)=true:=Q4.2 he
    have C:Hid ((V:Int)=zI s):=by rw[q.out,if_pos he];exact rfl
    clear he;go_wp2_with fail;refine(Z3 (V:Int) (by omega) (by omega) _ (H.out.below d)).mono ?_
    rintro e L ⟨rfl,p⟩;go_wp2;go_ret;exact⟨congrArg (fun z=>Ending.returned (Value.int .i64 z)) C.out,zj d p⟩
   ·have N:((qf (V:Int)).toList == s.toList)=false:=zaz.2 he
    have C:Hid (-1=zI s):=by rw[q.out,if_neg he];exact rfl
    clear he;go_wp2_with fail;refine(Z3 (V:Int) (by omega) (by omega) _ (H.out.below d)).mono ?_
    rintro e L ⟨rfl,p⟩;go_wp2;go_ret;exact⟨congrArg (fun z=>Ending.returned (Value.int .i64 z)) C.out,zj d p⟩
end Go.Proofs.YtfallpinmhbemaaGreatDoor
