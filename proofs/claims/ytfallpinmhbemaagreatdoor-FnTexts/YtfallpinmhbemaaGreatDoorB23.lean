/-
  OWN TEXT: SpecEd, SpecEe, SpecEf, SpecEg, SpecEh.
-/
import Derived.Deep.DeepCutAuto
import Derived.Deep.RegionLawGrows
import Derived.Deep.RegionHeld3
import Derived.Deep.AppendLies
import Derived.Great.Walk
import Derived.Test.YtfallpinmhbemaaGreatDoorB22
namespace Go.Proofs.YtfallpinmhbemaaGreatDoor
open Go.RowKit
open Go.Value (int)
open Go.IntKind (i64)
set_option maxHeartbeats 64000000
set_option maxRecDepth 100000
theorem l7End_7 (g base N R O M q z m:Nat)(J I Q d:Option Addr)(u:Int)(y:OpD)(x:Off)(L C A B D E:Nat->Value)(w:World)(hq:w.heap[g]?=some (.cells #[.slice J N O,.slice I N M,.slice Q R q] 66 (0,0)))(Y:zV w base (.slice J N O) (.slice I N M) (.slice Q R q) N N R x L C A B D E)(c3:x.bkn=R)(b6:base<=w.heap.size)(T:y.kind=7)(d7:In y.pe 0 20)(f5:y.lgn<=3)(b8:IntsAt w d y.lgn y.lg)(c2:SliceOk d y.lgn z)(b9:0<y.lgn->∀ a,d=some a->a.block<base)(c0:y.name=(m:Int)+1)(hm:m<R)(n:R<=1048576) :
  Calls Tryz.prog 123 #[.pointer (some ⟨g,0,none⟩),int i64 u,.agg #[int i64 y.kind,.string y.own,int i64 y.name,.slice d y.lgn z,int i64 y.pe,int i64 y.len,int i64 y.hei,int i64 y.cl,.bool y.all,int i64 y.be,int i64 y.unt,int i64 y.now]] w fun e w'=>zbf g base N O M J I (fun b=>b=g∨(Value.slice Q R q).ownBlock=some b) { x with bk:=QC x.bk m (qA (x.bk m) u y) } 0 y.name (0) (fun _ v=>v=.slice none 0 0) L C A B D w e w':=by
 rw[T,c0];have HO:=hI Y;have HQ:=hI hq;have c7:=hI T;have c8:=hI c3;have e7:=hI b6;have e9:=hI b8;have f4:=hI c2;have f0:=hI b9;obtain⟨l,rfl,b5,d5⟩:=qw Y.bk.row (by omega)
 obtain⟨cs,b7⟩:=zT Y.bk.row l rfl;obtain⟨d0,c9,eE,q1,q2,q3⟩:=zt (Y.bk.legs m hm);obtain⟨b,S⟩:∃ b,b=x.bk m:=⟨_,rfl⟩;have e5:=hI S;have a0:=hI b7;have c4:Hid (∀ V,Below w.heap.size w V->∀ j v,(bkC x.bk E m)[j]?=some v->V.cell? ⟨l,m*13+j,none⟩=some v):=fun V hV j v hv=>by
  have hj:j<13:=by
   have h:=(List.getElem?_eq_some_iff.1 hv).1;exact h
  have h:=zK Y.bk.row (m*13+j) (by omega) rfl
  rw[zM 13 _ m j hj,List.getD_eq_getElem?_getD,hv] at h;exact(hV.cell (p:=⟨l,m*13+j,none⟩) d5).trans h
 have e8:Hid (E m=.slice d0 b.lgn c9):=by rw[S];exact eE
 have i1:(0:Int)<=(m:Int):=by omega
 have i2:(m:Int)<(R:Int):=by omega
 have f6:IntKind.i64.wrap ((m:Int)+1 - 1)=(m:Int):=by rw[IntKind.wrap_i64];omega
 have HM:=hI hm;have e6:=hI b5;clear b7 eE q1 q2 q3 S b5;clear Y hq T c3 b6 b8 c2 b9 c0 hm;obtain⟨pr,U⟩:∃ pr,pr=Zg ⟨y.pe,y.len,y.hei,y.cl,y.all,y.be⟩ (y.lgn:Int):=⟨_,rfl⟩;have f1:=hI U;have c:Below w.heap.size w ((w.alloc (.cells #[int i64 7,.string y.own,int i64 ((m:Int)+1),.slice d y.lgn z,int i64 y.pe,int i64 y.len,int i64 y.hei,int i64 y.cl,.bool y.all,int i64 y.be,int i64 y.unt,int i64 y.now] 27)).alloc (.cells #[int i64 0,int i64 0,int i64 0,.slice none 0 0] 127)):=zr (zr bZ _) _;have t:=ze (heap_alloc_new w (.cells #[int i64 7,.string y.own,int i64 ((m:Int)+1),.slice d y.lgn z,int i64 y.pe,int i64 y.len,int i64 y.hei,int i64 y.cl,.bool y.all,int i64 y.be,int i64 y.unt,int i64 y.now] 27)) (.cells #[int i64 0,int i64 0,int i64 0,.slice none 0 0] 127);have H:=zcC w (.cells #[int i64 7,.string y.own,int i64 ((m:Int)+1),.slice d y.lgn z,int i64 y.pe,int i64 y.len,int i64 y.hei,int i64 y.cl,.bool y.all,int i64 y.be,int i64 y.unt,int i64 y.now] 27) (.cells #[int i64 0,int i64 0,int i64 0,.slice none 0 0] 127);go_enter Tryz.func123,Tryz.ntmps123;go_wp2_with fail;generalize ((w.alloc (.cells #[int i64 7,.string y.own,int i64 ((m:Int)+1),.slice d y.lgn z,int i64 y.pe,int i64 y.len,int i64 y.hei,int i64 y.cl,.bool y.all,int i64 y.be,int i64 y.unt,int i64 y.now] 27)).alloc (.cells #[int i64 0,int i64 0,int i64 0,.slice none 0 0] 127))=W at c t H ⊢;refine(qV y.pe y.len y.hei y.cl y.all y.be (y.lgn:Int) _ d7 (by unfold In;omega)).mono ?_
 rintro e V ⟨rfl,P⟩;rw[← U];clear U;replace c:=zj c P;replace t:=zc t P;replace H:=zc H P;clear P W;have o0:=za t 0 _ rfl;have n2:∀ G:qe V,G.val.cell? ⟨g,2,none⟩=some (.slice (some ⟨l,0,none⟩) R q):=fun G=>za (zc HQ.out (zj c G.bel)) 2 _ rfl
 have m2:∀ G:qe V,G.val.cell? ⟨w.heap.size,2,none⟩=some (int i64 ((m:Int)+1)):=fun G=>za (zc t G.bel) 2 _ rfl
 go_upto_region 17 with fail;refine zp (by kernel_rfl) (by kernel_rfl) ?_
 repeat(first|go_big_quiet_skip|(go_big_quiet_want;go_big_quiet_op;first|go_big_quiet_on|fail))
 refine wpQuiet_nil ?_;rintro _ ⟨G,rfl⟩;replace c:=zj c G.bel;replace t:=zc t G.bel;replace H:=zc H G.bel;have d8:=zZ H;have o2:=za t 2 _ rfl;clear o0 n2 m2;have o0:∀ o,(G.val.alloc o).cell? ⟨w.heap.size,0,none⟩=some (int i64 7):=fun o=>za (ze t o) 0 _ rfl
 go_upto_region 20 with fail;replace c:=zr c (.cells #[int i64 0,int i64 ((m:Int)+1),int i64 0,.slice none 0 0] 127);replace t:=ze t (.cells #[int i64 0,int i64 ((m:Int)+1),int i64 0,.slice none 0 0] 127);replace H:=ze H (.cells #[int i64 0,int i64 ((m:Int)+1),int i64 0,.slice none 0 0] 127);have bT:=heap_alloc_new G.val (.cells #[int i64 0,int i64 ((m:Int)+1),int i64 0,.slice none 0 0] 127);generalize G.val.alloc (.cells #[int i64 0,int i64 ((m:Int)+1),int i64 0,.slice none 0 0] 127)=X at c t H bT ⊢;generalize G.val.heap.size=tb at bT d8 ⊢;clear o0 o2 G V;have a8:=zc a0.out c;have k2:=c4.out X c 2 _ rfl;have f2:=zg a8 (m*13+2);obtain⟨t0,t1,t2,t3⟩:=ce4 bT;have d9:=za t 1 _ rfl;go_upto_region 38 with fail;have a3:Hid (qA (x.bk m) u y={ x.bk m with own:=y.own }):=by show _=_;simp[qA,c7.out]
 have s:zA X (X.setCell ⟨l,m*13+2,none⟩ (.string y.own)) (fun b=>b=l):=((zA.refl X (fun b=>b=l)).set (a:=⟨l,m*13+2,none⟩) rfl _)
 have F:Hid ((X.setCell ⟨l,m*13+2,none⟩ (.string y.own)).ownsRow base 131 13 (.slice (some ⟨l,0,none⟩) R q) R (Qp (QC x.bk m (qA (x.bk m) u y)) (atV E m (E m)) R)):=by
  refine own_congr (own_store ((HO.out.below c).bk.row) (m*13+2) (.string y.own)) (fun j _=>zcs 13 (by decide) (k:=m) (C:=bkC x.bk E) (C':=bkC (QC x.bk m (qA (x.bk m) u y)) (atV E m (E m))) (f:=fun i=>if i=m*13+2 then (.string y.own:Value) else recCell 13 (bkC x.bk E) i) (fun r hr=>?_) (fun j hj=>?_) (fun i hi=>?_) j)
  ·have n:=zM 13 (bkC x.bk E) m r hr
   unfold bkC;rw[Zn,atV_at,a3.out];unfold bkC at n;have c1:r=0∨r=1∨r=2∨r=3∨r=4∨r=5∨r=6∨r=7∨r=8∨r=9∨r=10∨r=11∨r=12:=by omega
   rcases c1 with rfl|rfl|rfl|rfl|rfl|rfl|rfl|rfl|rfl|rfl|rfl|rfl|rfl
   ·rw[if_neg (by omega),n];rfl
   ·rw[if_neg (by omega),n];rfl
   ·rw[if_pos rfl];rfl
   ·rw[if_neg (by omega),n];rfl
   ·rw[if_neg (by omega),n];rfl
   ·rw[if_neg (by omega),n];rfl
   ·rw[if_neg (by omega),n];rfl
   ·rw[if_neg (by omega),n];rfl
   ·rw[if_neg (by omega),n];rfl
   ·rw[if_neg (by omega),n];rfl
   ·rw[if_neg (by omega),n];rfl
   ·rw[if_neg (by omega),n];rfl
   ·rw[if_neg (by omega),n];rfl
  ·rw[if_neg (by omega)]
  ·unfold bkC
   rw[Qr _ _ _ hi,atV_ne _ _ _ _ hi]
 have a6:Hid (zV (X.setCell ⟨l,m*13+2,none⟩ (.string y.own)) base (.slice J N O) (.slice I N M) (.slice (some ⟨l,0,none⟩) R q) N N R { x with bk:=QC x.bk m (qA (x.bk m) u y) } L C A B D (atV E m (E m))):=(HO.out.below c).putBk s F.out (by rw[a3.out];exact(HO.out.below c).bk.legs m HM.out) (HO.out.bk.far_same HM.out)
 have d6:g≠l:=fun e=>by have h:=a0.out;rw[← e,HQ.out] at h;simp at h
 have a7:=hI (s.blk (zc HQ.out c) d6);have a9:=s.blk bT (by show ¬ _=_;omega)
 have K:=s.blk H (by show ¬ _=_;omega)
 have a2:Hid (zA w (X.setCell ⟨l,m*13+2,none⟩ (.string y.own)) (fun b=>b=g∨(Value.slice (some ⟨l,0,none⟩) R q).ownBlock=some b)):=(zA.of_below c).trans (s.mono (fun b e=>.inr (by rw[show b=l from e];rfl)))
 generalize (X.setCell ⟨l,m*13+2,none⟩ (.string y.own))=Z1 at s F a6 a7 a9 K a2 ⊢;clear s F bT H d9 t a8 t0 t1 t2 t3 k2 f2;have e4:w.heap.size+1≠tb:=by omega
 obtain⟨a5,b0,a1,bF⟩:=Q0 a2.out a6.out a7.out K (by omega) (int i64 0) (int i64 ((m:Int)+1)) (int i64 0) (.slice none 0 0) rfl
 obtain⟨t0,t1,t2,t3⟩:=ce4 a9;obtain⟨v0,v1,v2,v3⟩:=ce4 K;obtain⟨e0,e1,e2,e3⟩:=fe4 K;have Z:Hid _:=a5;have c6:Hid _:=b0;have c5:Hid _:=a1;clear a5 b0 a1;go_wp2;obtain⟨x0,x1,x2,x3⟩:=ce4 bF;refine bodyPost_ret (v:=.agg #[int i64 0,int i64 ((m:Int)+1),int i64 (0),.slice none 0 0]) (by simp[results,Tryz.results123,go_sem,x0,x1,x2,x3]) rfl ?_
 have n:=c8.out;subst n;exact⟨_,_,_,_,rfl,rfl,Z.out,c6.out,c5.out⟩
theorem l7End_8 (g base N R O M q z m:Nat)(J I Q d:Option Addr)(u:Int)(y:OpD)(x:Off)(L C A B D E:Nat->Value)(w:World)(hq:w.heap[g]?=some (.cells #[.slice J N O,.slice I N M,.slice Q R q] 66 (0,0)))(Y:zV w base (.slice J N O) (.slice I N M) (.slice Q R q) N N R x L C A B D E)(c3:x.bkn=R)(b6:base<=w.heap.size)(T:y.kind=8)(d8:In y.pe 0 20)(f5:y.lgn<=3)(b8:IntsAt w d y.lgn y.lg)(c2:SliceOk d y.lgn z)(b9:0<y.lgn->∀ a,d=some a->a.block<base)(c0:y.name=(m:Int)+1)(hm:m<R)(n:R<=1048576) :
  Calls Tryz.prog 123 #[.pointer (some ⟨g,0,none⟩),int i64 u,.agg #[int i64 y.kind,.string y.own,int i64 y.name,.slice d y.lgn z,int i64 y.pe,int i64 y.len,int i64 y.hei,int i64 y.cl,.bool y.all,int i64 y.be,int i64 y.unt,int i64 y.now]] w fun e w'=>zbf g base N O M J I (fun b=>b=g∨(Value.slice Q R q).ownBlock=some b) { x with bk:=QC x.bk m (qA (x.bk m) u y) } 0 y.name (0) (fun _ v=>v=.slice none 0 0) L C A B D w e w':=by
 rw[T,c0];have HO:=hI Y;have HQ:=hI hq;have c7:=hI T;have c8:=hI c3;have e8:=hI b6;have f0:=hI b8;have f4:=hI c2;have f1:=hI b9;obtain⟨l,rfl,b5,d6⟩:=qw Y.bk.row (by omega)
 obtain⟨cs,b7⟩:=zT Y.bk.row l rfl;obtain⟨d0,c9,eE,q1,q2,q3⟩:=zt (Y.bk.legs m hm);obtain⟨b,S⟩:∃ b,b=x.bk m:=⟨_,rfl⟩;have e6:=hI S;have a0:=hI b7;have c4:Hid (∀ V,Below w.heap.size w V->∀ j v,(bkC x.bk E m)[j]?=some v->V.cell? ⟨l,m*13+j,none⟩=some v):=fun V hV j v hv=>by
  have hj:j<13:=by
   have h:=(List.getElem?_eq_some_iff.1 hv).1;exact h
  have h:=zK Y.bk.row (m*13+j) (by omega) rfl
  rw[zM 13 _ m j hj,List.getD_eq_getElem?_getD,hv] at h;exact(hV.cell (p:=⟨l,m*13+j,none⟩) d6).trans h
 have e9:Hid (E m=.slice d0 b.lgn c9):=by rw[S];exact eE
 have i1:(0:Int)<=(m:Int):=by omega
 have i2:(m:Int)<(R:Int):=by omega
 have f6:IntKind.i64.wrap ((m:Int)+1 - 1)=(m:Int):=by rw[IntKind.wrap_i64];omega
 have HM:=hI hm;have e7:=hI b5;clear b7 eE q1 q2 q3 S b5;clear Y hq T c3 b6 b8 c2 b9 c0 hm;obtain⟨pr,U⟩:∃ pr,pr=Zg ⟨y.pe,y.len,y.hei,y.cl,y.all,y.be⟩ (y.lgn:Int):=⟨_,rfl⟩;have f2:=hI U;have c:Below w.heap.size w ((w.alloc (.cells #[int i64 8,.string y.own,int i64 ((m:Int)+1),.slice d y.lgn z,int i64 y.pe,int i64 y.len,int i64 y.hei,int i64 y.cl,.bool y.all,int i64 y.be,int i64 y.unt,int i64 y.now] 27)).alloc (.cells #[int i64 0,int i64 0,int i64 0,.slice none 0 0] 127)):=zr (zr bZ _) _;have t:=ze (heap_alloc_new w (.cells #[int i64 8,.string y.own,int i64 ((m:Int)+1),.slice d y.lgn z,int i64 y.pe,int i64 y.len,int i64 y.hei,int i64 y.cl,.bool y.all,int i64 y.be,int i64 y.unt,int i64 y.now] 27)) (.cells #[int i64 0,int i64 0,int i64 0,.slice none 0 0] 127);have H:=zcC w (.cells #[int i64 8,.string y.own,int i64 ((m:Int)+1),.slice d y.lgn z,int i64 y.pe,int i64 y.len,int i64 y.hei,int i64 y.cl,.bool y.all,int i64 y.be,int i64 y.unt,int i64 y.now] 27) (.cells #[int i64 0,int i64 0,int i64 0,.slice none 0 0] 127);go_enter Tryz.func123,Tryz.ntmps123;go_wp2_with fail;generalize ((w.alloc (.cells #[int i64 8,.string y.own,int i64 ((m:Int)+1),.slice d y.lgn z,int i64 y.pe,int i64 y.len,int i64 y.hei,int i64 y.cl,.bool y.all,int i64 y.be,int i64 y.unt,int i64 y.now] 27)).alloc (.cells #[int i64 0,int i64 0,int i64 0,.slice none 0 0] 127))=W at c t H ⊢;refine(qV y.pe y.len y.hei y.cl y.all y.be (y.lgn:Int) _ d8 (by unfold In;omega)).mono ?_
 rintro e V ⟨rfl,P⟩;rw[← U];clear U;replace c:=zj c P;replace t:=zc t P;replace H:=zc H P;clear P W;have o0:=za t 0 _ rfl;have n2:∀ G:qe V,G.val.cell? ⟨g,2,none⟩=some (.slice (some ⟨l,0,none⟩) R q):=fun G=>za (zc HQ.out (zj c G.bel)) 2 _ rfl
 have m2:∀ G:qe V,G.val.cell? ⟨w.heap.size,2,none⟩=some (int i64 ((m:Int)+1)):=fun G=>za (zc t G.bel) 2 _ rfl
 go_upto_region 17 with fail;refine zp (by kernel_rfl) (by kernel_rfl) ?_
 repeat(first|go_big_quiet_skip|(go_big_quiet_want;go_big_quiet_op;first|go_big_quiet_on|fail))
 refine wpQuiet_nil ?_;rintro _ ⟨G,rfl⟩;replace c:=zj c G.bel;replace t:=zc t G.bel;replace H:=zc H G.bel;have d9:=zZ H;have o2:=za t 2 _ rfl;clear o0 n2 m2;have o0:∀ o,(G.val.alloc o).cell? ⟨w.heap.size,0,none⟩=some (int i64 8):=fun o=>za (ze t o) 0 _ rfl
 go_upto_region 20 with fail;replace c:=zr c (.cells #[int i64 0,int i64 ((m:Int)+1),int i64 0,.slice none 0 0] 127);replace t:=ze t (.cells #[int i64 0,int i64 ((m:Int)+1),int i64 0,.slice none 0 0] 127);replace H:=ze H (.cells #[int i64 0,int i64 ((m:Int)+1),int i64 0,.slice none 0 0] 127);have bT:=heap_alloc_new G.val (.cells #[int i64 0,int i64 ((m:Int)+1),int i64 0,.slice none 0 0] 127);generalize G.val.alloc (.cells #[int i64 0,int i64 ((m:Int)+1),int i64 0,.slice none 0 0] 127)=X at c t H bT ⊢;generalize G.val.heap.size=tb at bT d9 ⊢;clear o0 o2 G V;have a8:=zc a0.out c;have e4:=c4.out X c 10 _ rfl;have d5:=zg a8 (m*13+10);obtain⟨t0,t1,t2,t3⟩:=ce4 bT;go_upto_region 38 with fail;have a3:Hid (qA (x.bk m) u y={ x.bk m with state:=4 }):=by show _=_;simp[qA,c7.out]
 have s:zA X (X.setCell ⟨l,m*13+10,none⟩ (int i64 4)) (fun b=>b=l):=((zA.refl X (fun b=>b=l)).set (a:=⟨l,m*13+10,none⟩) rfl _)
 have F:Hid ((X.setCell ⟨l,m*13+10,none⟩ (int i64 4)).ownsRow base 131 13 (.slice (some ⟨l,0,none⟩) R q) R (Qp (QC x.bk m (qA (x.bk m) u y)) (atV E m (E m)) R)):=by
  refine own_congr (own_store ((HO.out.below c).bk.row) (m*13+10) (int i64 4)) (fun j _=>zcs 13 (by decide) (k:=m) (C:=bkC x.bk E) (C':=bkC (QC x.bk m (qA (x.bk m) u y)) (atV E m (E m))) (f:=fun i=>if i=m*13+10 then (int i64 4:Value) else recCell 13 (bkC x.bk E) i) (fun r hr=>?_) (fun j hj=>?_) (fun i hi=>?_) j)
  ·have n:=zM 13 (bkC x.bk E) m r hr
   unfold bkC;rw[Zn,atV_at,a3.out];unfold bkC at n;have c1:r=0∨r=1∨r=2∨r=3∨r=4∨r=5∨r=6∨r=7∨r=8∨r=9∨r=10∨r=11∨r=12:=by omega
   rcases c1 with rfl|rfl|rfl|rfl|rfl|rfl|rfl|rfl|rfl|rfl|rfl|rfl|rfl
   ·rw[if_neg (by omega),n];rfl
   ·rw[if_neg (by omega),n];rfl
   ·rw[if_neg (by omega),n];rfl
   ·rw[if_neg (by omega),n];rfl
   ·rw[if_neg (by omega),n];rfl
   ·rw[if_neg (by omega),n];rfl
   ·rw[if_neg (by omega),n];rfl
   ·rw[if_neg (by omega),n];rfl
   ·rw[if_neg (by omega),n];rfl
   ·rw[if_neg (by omega),n];rfl
   ·rw[if_pos rfl];rfl
   ·rw[if_neg (by omega),n];rfl
   ·rw[if_neg (by omega),n];rfl
  ·rw[if_neg (by omega)]
  ·unfold bkC
   rw[Qr _ _ _ hi,atV_ne _ _ _ _ hi]
 have a6:Hid (zV (X.setCell ⟨l,m*13+10,none⟩ (int i64 4)) base (.slice J N O) (.slice I N M) (.slice (some ⟨l,0,none⟩) R q) N N R { x with bk:=QC x.bk m (qA (x.bk m) u y) } L C A B D (atV E m (E m))):=(HO.out.below c).putBk s F.out (by rw[a3.out];exact(HO.out.below c).bk.legs m HM.out) (HO.out.bk.far_same HM.out)
 have d7:g≠l:=fun e=>by have h:=a0.out;rw[← e,HQ.out] at h;simp at h
 have a7:=hI (s.blk (zc HQ.out c) d7);have a9:=s.blk bT (by show ¬ _=_;omega)
 have K:=s.blk H (by show ¬ _=_;omega)
 have a2:Hid (zA w (X.setCell ⟨l,m*13+10,none⟩ (int i64 4)) (fun b=>b=g∨(Value.slice (some ⟨l,0,none⟩) R q).ownBlock=some b)):=(zA.of_below c).trans (s.mono (fun b e=>.inr (by rw[show b=l from e];rfl)))
 generalize (X.setCell ⟨l,m*13+10,none⟩ (int i64 4))=Z1 at s F a6 a7 a9 K a2 ⊢;clear s F bT H t a8 t0 t1 t2 t3 e4 d5;have e5:w.heap.size+1≠tb:=by omega
 obtain⟨a5,b0,a1,bF⟩:=Q0 a2.out a6.out a7.out K (by omega) (int i64 0) (int i64 ((m:Int)+1)) (int i64 0) (.slice none 0 0) rfl
 obtain⟨t0,t1,t2,t3⟩:=ce4 a9;obtain⟨v0,v1,v2,v3⟩:=ce4 K;obtain⟨e0,e1,e2,e3⟩:=fe4 K;have Z:Hid _:=a5;have c6:Hid _:=b0;have c5:Hid _:=a1;clear a5 b0 a1;go_wp2;obtain⟨x0,x1,x2,x3⟩:=ce4 bF;refine bodyPost_ret (v:=.agg #[int i64 0,int i64 ((m:Int)+1),int i64 (0),.slice none 0 0]) (by simp[results,Tryz.results123,go_sem,x0,x1,x2,x3]) rfl ?_
 have n:=c8.out;subst n;exact⟨_,_,_,_,rfl,rfl,Z.out,c6.out,c5.out⟩
theorem l7End_1 (g base N R l k u c:Nat)(j i t b:Option Addr)(Q:Int)(y:OpD)(x:Off)(L C A B D E:Nat->Value)(w:World)(X:w.heap[g]?=some (.cells #[.slice j N l,.slice i N k,.slice t R u] 66 (0,0)))(U:zV w base (.slice j N l) (.slice i N k) (.slice t R u) N N R x L C A B D E)(J:x.bkn=R)(F:base<=w.heap.size)(m:y.kind=1)(S:In y.pe 0 20)(a3:y.lgn<=3)(G:IntsAt w b y.lgn y.lg)(I:SliceOk b y.lgn c)(H:0<y.lgn->∀ a,b=some a->a.block<base) :
  Calls Tryz.prog 123 #[.pointer (some ⟨g,0,none⟩),int i64 Q,.agg #[int i64 y.kind,.string y.own,int i64 y.name,.slice b y.lgn c,int i64 y.pe,int i64 y.len,int i64 y.hei,int i64 y.cl,.bool y.all,int i64 y.be,int i64 y.unt,int i64 y.now]] w fun e w'=>zbf g base N l k j i (fun _=>False) x 0 0 (Zg ⟨y.pe,y.len,y.hei,y.cl,y.all,y.be⟩ (y.lgn:Int)) (fun _ v=>v=.slice none 0 0) L C A B D w e w':=by
 rw[m];have HO:=hI U;have HQ:=hI X;have Z:=hI m;have P:=hI J;have Y:=hI F;have a0:=hI G;have a2:=hI I;have a1:=hI H;clear U X m J F G I H;obtain⟨M,n⟩:∃ M,M=Zg ⟨y.pe,y.len,y.hei,y.cl,y.all,y.be⟩ (y.lgn:Int):=⟨_,rfl⟩;have O:=hI n;have d:Below w.heap.size w ((w.alloc (.cells #[int i64 1,.string y.own,int i64 y.name,.slice b y.lgn c,int i64 y.pe,int i64 y.len,int i64 y.hei,int i64 y.cl,.bool y.all,int i64 y.be,int i64 y.unt,int i64 y.now] 27)).alloc (.cells #[int i64 0,int i64 0,int i64 0,.slice none 0 0] 127)):=zr (zr bZ _) _;have K:=ze (heap_alloc_new w (.cells #[int i64 1,.string y.own,int i64 y.name,.slice b y.lgn c,int i64 y.pe,int i64 y.len,int i64 y.hei,int i64 y.cl,.bool y.all,int i64 y.be,int i64 y.unt,int i64 y.now] 27)) (.cells #[int i64 0,int i64 0,int i64 0,.slice none 0 0] 127);have o:=zcC w (.cells #[int i64 1,.string y.own,int i64 y.name,.slice b y.lgn c,int i64 y.pe,int i64 y.len,int i64 y.hei,int i64 y.cl,.bool y.all,int i64 y.be,int i64 y.unt,int i64 y.now] 27) (.cells #[int i64 0,int i64 0,int i64 0,.slice none 0 0] 127);go_enter Tryz.func123,Tryz.ntmps123;go_wp2_with fail;generalize ((w.alloc (.cells #[int i64 1,.string y.own,int i64 y.name,.slice b y.lgn c,int i64 y.pe,int i64 y.len,int i64 y.hei,int i64 y.cl,.bool y.all,int i64 y.be,int i64 y.unt,int i64 y.now] 27)).alloc (.cells #[int i64 0,int i64 0,int i64 0,.slice none 0 0] 127))=W at d K o ⊢;refine(qV y.pe y.len y.hei y.cl y.all y.be (y.lgn:Int) _ S (by unfold In;omega)).mono ?_
 rintro e V ⟨rfl,f⟩;rw[← n];clear n;replace d:=zj d f;replace K:=zc K f;replace o:=zc o f;clear f W;have o0:=za K 0 _ rfl;obtain⟨s,z,r,bF⟩:=Q0 (T:=(fun _=>False)) (zA.of_below d) (HO.out.below d) (zc HQ.out d) o (by omega) (int i64 0) (int i64 0) (int i64 M) (.slice none 0 0) rfl
 obtain⟨v0,v1,v2,v3⟩:=ce4 o;obtain⟨e0,e1,e2,e3⟩:=fe4 o;have h:Hid _:=s;have q:Hid _:=z;have p:Hid _:=r;clear s z r;go_wp2;obtain⟨x0,x1,x2,x3⟩:=ce4 bF;refine bodyPost_ret (v:=.agg #[int i64 0,int i64 0,int i64 M,.slice none 0 0]) (by simp[results,Tryz.results123,go_sem,x0,x1,x2,x3]) rfl ?_
 have hR:=P.out;subst hR;rw[O.out] at h q p ⊢;exact⟨_,_,_,_,rfl,rfl,h.out,q.out,p.out⟩
theorem l7End_2f (g base N R k j t d:Nat)(i h s b:Option Addr)(O:Int)(y:OpD)(x:Off)(L C A B D E:Nat->Value)(w:World)(U:w.heap[g]?=some (.cells #[.slice i N k,.slice h N j,.slice s R t] 66 (0,0)))(S:zV w base (.slice i N k) (.slice h N j) (.slice s R t) N N R x L C A B D E)(I:x.bkn=R)(z:base<=w.heap.size)(l:y.kind=2)(P:In y.pe 0 20)(a5:y.lgn<=3)(F:IntsAt w b y.lgn y.lg)(H:SliceOk b y.lgn d)(G:0<y.lgn->∀ a,b=some a->a.block<base)(hR:R=30) :
  Calls Tryz.prog 123 #[.pointer (some ⟨g,0,none⟩),int i64 O,.agg #[int i64 y.kind,.string y.own,int i64 y.name,.slice b y.lgn d,int i64 y.pe,int i64 y.len,int i64 y.hei,int i64 y.cl,.bool y.all,int i64 y.be,int i64 y.unt,int i64 y.now]] w fun e w'=>zbf g base N k j i h (fun _=>False) x 8 0 0 (fun _ v=>v=.slice none 0 0) L C A B D w e w':=by
 subst hR;rw[l];have HO:=hI S;have Q:=hI U;have Z:=hI l;have r:=hI I;have Y:=hI z;have a0:=hI F;have a3:=hI H;have a1:=hI G;clear S U l I z F H G;obtain⟨X,m⟩:∃ X,X=Zg ⟨y.pe,y.len,y.hei,y.cl,y.all,y.be⟩ (y.lgn:Int):=⟨_,rfl⟩;have a2:=hI m;have c:Below w.heap.size w ((w.alloc (.cells #[int i64 2,.string y.own,int i64 y.name,.slice b y.lgn d,int i64 y.pe,int i64 y.len,int i64 y.hei,int i64 y.cl,.bool y.all,int i64 y.be,int i64 y.unt,int i64 y.now] 27)).alloc (.cells #[int i64 0,int i64 0,int i64 0,.slice none 0 0] 127)):=zr (zr bZ _) _;have J:=ze (heap_alloc_new w (.cells #[int i64 2,.string y.own,int i64 y.name,.slice b y.lgn d,int i64 y.pe,int i64 y.len,int i64 y.hei,int i64 y.cl,.bool y.all,int i64 y.be,int i64 y.unt,int i64 y.now] 27)) (.cells #[int i64 0,int i64 0,int i64 0,.slice none 0 0] 127);have n:=zcC w (.cells #[int i64 2,.string y.own,int i64 y.name,.slice b y.lgn d,int i64 y.pe,int i64 y.len,int i64 y.hei,int i64 y.cl,.bool y.all,int i64 y.be,int i64 y.unt,int i64 y.now] 27) (.cells #[int i64 0,int i64 0,int i64 0,.slice none 0 0] 127);go_enter Tryz.func123,Tryz.ntmps123;go_wp2_with fail;generalize ((w.alloc (.cells #[int i64 2,.string y.own,int i64 y.name,.slice b y.lgn d,int i64 y.pe,int i64 y.len,int i64 y.hei,int i64 y.cl,.bool y.all,int i64 y.be,int i64 y.unt,int i64 y.now] 27)).alloc (.cells #[int i64 0,int i64 0,int i64 0,.slice none 0 0] 127))=W at c J n ⊢;refine(qV y.pe y.len y.hei y.cl y.all y.be (y.lgn:Int) _ P (by unfold In;omega)).mono ?_
 rintro e V ⟨rfl,f⟩;rw[← m];clear m;replace c:=zj c f;replace J:=zc J f;replace n:=zc n f;clear f W;have o0:=za J 0 _ rfl;have zq:=za (zc Q.out c) 2 _ rfl;obtain⟨q,u,p,bF⟩:=Q0 (T:=(fun _=>False)) (zA.of_below c) (HO.out.below c) (zc Q.out c) n (by omega) (int i64 8) (int i64 0) (int i64 0) (.slice none 0 0) rfl
 obtain⟨v0,v1,v2,v3⟩:=ce4 n;obtain⟨e0,e1,e2,e3⟩:=fe4 n;have o:Hid _:=q;have M:Hid _:=u;have K:Hid _:=p;clear q u p;go_wp2;obtain⟨x0,x1,x2,x3⟩:=ce4 bF;refine bodyPost_ret (v:=.agg #[int i64 8,int i64 0,int i64 0,.slice none 0 0]) (by simp[results,Tryz.results123,go_sem,x0,x1,x2,x3]) rfl ?_
 exact⟨_,_,_,_,rfl,rfl,by rw[r.out];exact o.out,by rw[r.out];exact M.out,K.out⟩
theorem l7End_3f (g base N R k j t d:Nat)(i h s b:Option Addr)(O:Int)(y:OpD)(x:Off)(L C A B D E:Nat->Value)(w:World)(U:w.heap[g]?=some (.cells #[.slice i N k,.slice h N j,.slice s R t] 66 (0,0)))(S:zV w base (.slice i N k) (.slice h N j) (.slice s R t) N N R x L C A B D E)(I:x.bkn=R)(z:base<=w.heap.size)(l:y.kind=3)(P:In y.pe 0 20)(a5:y.lgn<=3)(F:IntsAt w b y.lgn y.lg)(H:SliceOk b y.lgn d)(G:0<y.lgn->∀ a,b=some a->a.block<base)(hR:R=30) :
  Calls Tryz.prog 123 #[.pointer (some ⟨g,0,none⟩),int i64 O,.agg #[int i64 y.kind,.string y.own,int i64 y.name,.slice b y.lgn d,int i64 y.pe,int i64 y.len,int i64 y.hei,int i64 y.cl,.bool y.all,int i64 y.be,int i64 y.unt,int i64 y.now]] w fun e w'=>zbf g base N k j i h (fun _=>False) x 8 0 0 (fun _ v=>v=.slice none 0 0) L C A B D w e w':=by
 subst hR;rw[l];have HO:=hI S;have Q:=hI U;have Z:=hI l;have r:=hI I;have Y:=hI z;have a0:=hI F;have a3:=hI H;have a1:=hI G;clear S U l I z F H G;obtain⟨X,m⟩:∃ X,X=Zg ⟨y.pe,y.len,y.hei,y.cl,y.all,y.be⟩ (y.lgn:Int):=⟨_,rfl⟩;have a2:=hI m;have c:Below w.heap.size w ((w.alloc (.cells #[int i64 3,.string y.own,int i64 y.name,.slice b y.lgn d,int i64 y.pe,int i64 y.len,int i64 y.hei,int i64 y.cl,.bool y.all,int i64 y.be,int i64 y.unt,int i64 y.now] 27)).alloc (.cells #[int i64 0,int i64 0,int i64 0,.slice none 0 0] 127)):=zr (zr bZ _) _;have J:=ze (heap_alloc_new w (.cells #[int i64 3,.string y.own,int i64 y.name,.slice b y.lgn d,int i64 y.pe,int i64 y.len,int i64 y.hei,int i64 y.cl,.bool y.all,int i64 y.be,int i64 y.unt,int i64 y.now] 27)) (.cells #[int i64 0,int i64 0,int i64 0,.slice none 0 0] 127);have n:=zcC w (.cells #[int i64 3,.string y.own,int i64 y.name,.slice b y.lgn d,int i64 y.pe,int i64 y.len,int i64 y.hei,int i64 y.cl,.bool y.all,int i64 y.be,int i64 y.unt,int i64 y.now] 27) (.cells #[int i64 0,int i64 0,int i64 0,.slice none 0 0] 127);go_enter Tryz.func123,Tryz.ntmps123;go_wp2_with fail;generalize ((w.alloc (.cells #[int i64 3,.string y.own,int i64 y.name,.slice b y.lgn d,int i64 y.pe,int i64 y.len,int i64 y.hei,int i64 y.cl,.bool y.all,int i64 y.be,int i64 y.unt,int i64 y.now] 27)).alloc (.cells #[int i64 0,int i64 0,int i64 0,.slice none 0 0] 127))=W at c J n ⊢;refine(qV y.pe y.len y.hei y.cl y.all y.be (y.lgn:Int) _ P (by unfold In;omega)).mono ?_
 rintro e V ⟨rfl,f⟩;rw[← m];clear m;replace c:=zj c f;replace J:=zc J f;replace n:=zc n f;clear f W;have o0:=za J 0 _ rfl;have zq:=za (zc Q.out c) 2 _ rfl;obtain⟨q,u,p,bF⟩:=Q0 (T:=(fun _=>False)) (zA.of_below c) (HO.out.below c) (zc Q.out c) n (by omega) (int i64 8) (int i64 0) (int i64 0) (.slice none 0 0) rfl
 obtain⟨v0,v1,v2,v3⟩:=ce4 n;obtain⟨e0,e1,e2,e3⟩:=fe4 n;have o:Hid _:=q;have M:Hid _:=u;have K:Hid _:=p;clear q u p;go_wp2;obtain⟨x0,x1,x2,x3⟩:=ce4 bF;refine bodyPost_ret (v:=.agg #[int i64 8,int i64 0,int i64 0,.slice none 0 0]) (by simp[results,Tryz.results123,go_sem,x0,x1,x2,x3]) rfl ?_
 exact⟨_,_,_,_,rfl,rfl,by rw[r.out];exact o.out,by rw[r.out];exact M.out,K.out⟩
end Go.Proofs.YtfallpinmhbemaaGreatDoor
