import Derived.Shelf.Small.Utf8
import Derived.Test.YtfallpinmhbemaaGreatDoorB20
import Derived.Test.YtfallpinmhbemaaGreatDoorB21
import Derived.Test.YtfallpinmhbemaaGreatDoorB22
import Derived.Test.YtfallpinmhbemaaGreatDoorB37
namespace Go.Proofs.YtfallpinmhbemaaGreatDoor
open Go.RowKit
open Go.Value (int)
open Go.IntKind (i64)
set_option maxHeartbeats 64000000
set_option maxRecDepth 1000000
theorem zhf (kind:Int)(own:ByteArray)(name:Int)(a:Option Addr)(lgn b:Nat)(lg:Nat->Int)(pe len hei cl:Int)(all:Bool)(be unt now:Int)(w:World)(c:¬ In kind 1 9) :
  Calls Tryz.prog 18 #[.agg #[int i64 kind,.string own,int i64 name,.slice a lgn b,int i64 pe,int i64 len,int i64 hei,int i64 cl,.bool all,int i64 be,int i64 unt,int i64 now]] w fun e w'=>e=.returned (.bool (decide (Qz ⟨kind,own,name,lgn,lg,pe,len,hei,cl,all,be,unt,now⟩)))/\Below w.heap.size w w':=by
 rw[decide_eq_false (show ¬ Qz ⟨kind,own,name,lgn,lg,pe,len,hei,cl,all,be,unt,now⟩ from fun h=>c h.1)]
 have x9:decide (In kind 1 9)=false:=decide_eq_false c;clear c;go_enter Tryz.func18,Tryz.ntmps18;go_wp2_with (first|(go_at_call 19;refine sC (zx _ _ _ _) ?_))
 go_ret;exact⟨rfl,zr bZ _⟩
theorem zeq (cs:List Value)(x:OpD)(w:World)(c:x.own.size<=1000000000000000)(h:OpD.Is w cs x) :
  Calls Tryz.prog 18 #[.agg cs.toArray] w fun e w'=>e=.returned (.bool (decide (Qz x)))/\Below w.heap.size w w':=by
 obtain⟨a,b,rfl,_,_⟩:=h;obtain⟨kind,own,name,lgn,lg,pe,len,hei,cl,all,be,unt,now⟩:=x
 by_cases k9:In kind 1 9
 ·have d:kind=1∨kind=2∨kind=3∨kind=4∨kind=5∨kind=6∨kind=7∨kind=8∨kind=9:=by unfold In at k9;omega
  rcases d with rfl|rfl|rfl|rfl|rfl|rfl|rfl|rfl|rfl
  ·exact specOp_1 own name a lgn b lg pe len hei cl all be unt now w c
  ·exact specOp_2 own name a lgn b lg pe len hei cl all be unt now w c
  ·exact specOp_3 own name a lgn b lg pe len hei cl all be unt now w c
  ·exact specOp_4 own name a lgn b lg pe len hei cl all be unt now w c
  ·exact specOp_5 own name a lgn b lg pe len hei cl all be unt now w c
  ·exact specOp_6 own name a lgn b lg pe len hei cl all be unt now w c
  ·exact specOp_7 own name a lgn b lg pe len hei cl all be unt now w c
  ·exact specOp_8 own name a lgn b lg pe len hei cl all be unt now w c
  ·exact specOp_9 own name a lgn b lg pe len hei cl all be unt now w c
 ·exact zhf kind own name a lgn b lg pe len hei cl all be unt now w k9
theorem l7Do_g (g base N R k a6 b7 e5:Nat)(e4 e3 e2:Option Addr)(leg who:Int)(p:Zf)(x:Off)(L C A B D E:Nat->Value)(w:World)(hq:w.heap[g]?=some (.cells #[.slice e4 N a6,.slice e3 N b7,.slice e2 R e5] 66 (0,0)))(ho:zV w base (.slice e4 N a6) (.slice e3 N b7) (.slice e2 R e5) N N R x L C A B D E)(hN:N<=1048576)(hk:qo x.sa leg N=k)(U:k<N)(g4:qJ (x.sa k) (x.ld k))(hp:In p.pe 0 20) :
  Calls Tryz.prog 122 #[.pointer (some ⟨g,0,none⟩),.agg #[int i64 leg,int i64 2,.bool false,int i64 who,int i64 p.pe,int i64 p.len,int i64 p.hei,int i64 p.cl,.bool p.all,int i64 p.be]] w fun e w'=>zcR g base N R k a6 b7 e5 e4 e3 e2 ⟨leg,2,false,who,p⟩ x L C E w e w':=by
 obtain⟨i0,ii,d0,d5,d6⟩:=info_parts Tryz.infoSeat;obtain⟨F,rfl,h5,c8⟩:=qw ho.ld.row (by omega)
 have HO:=hI ho;have HK:=hI hk;have I:=hI g4;have g8:Hid (base<=w.heap.size):=by show base<=w.heap.size;omega
 have HQ:=hI hq;have d7:=hI ho.sa.at;obtain⟨cs,g3⟩:=zT ho.ld.row F rfl;obtain⟨b6,b9,eA,m1,m2,m3⟩:=zt (ho.ld.st k U);obtain⟨b5,b8,eB,m4,m5,m6⟩:=zt (ho.ld.ro k U);obtain⟨b,d,eD,m7,m8,m9⟩:=zt (ho.ld.se k U);have h2:Hid (w.ownsRow base 186 4 (.slice b6 (x.ld k).stn b9) (x.ld k).stn (zX (x.ld k).st (x.ld k).stn)):=by show w.ownsRow _ _ _ _ _ _;rw[← eA];exact ho.ld.st k U
 have h1:Hid (w.ownsRow base 190 4 (.slice b5 (x.ld k).ron b8) (x.ld k).ron (zQ (x.ld k).ro (x.ld k).ron)):=by show w.ownsRow _ _ _ _ _ _;rw[← eB];exact ho.ld.ro k U
 have a3:Hid (w.ownsRow base 138 2 (.slice b (x.ld k).sen d) (x.ld k).sen (zW (x.ld k).se (x.ld k).sen)):=by show w.ownsRow _ _ _ _ _ _;rw[← eD];exact ho.ld.se k U
 have f8:Hid (w.cell? ⟨F,k*3,none⟩=some (.slice b6 (x.ld k).stn b9)):=by
  have h:=zK ho.ld.row (k*3+0) (by omega) rfl
  rw[zM 3 _ k 0 (by decide)] at h
  rw[← eA];exact h
 have f9:Hid (w.cell? ⟨F,k*3+1,none⟩=some (.slice b5 (x.ld k).ron b8)):=by
  have h:=zK ho.ld.row (k*3+1) (by omega) rfl
  rw[zM 3 _ k 1 (by decide)] at h
  rw[← eB];exact h
 have d9:Hid (w.cell? ⟨F,k*3+2,none⟩=some (.slice b (x.ld k).sen d)):=by
  have h:=zK ho.ld.row (k*3+2) (by omega) rfl
  rw[zM 3 _ k 2 (by decide)] at h
  rw[← eD];exact h
 have g0:Hid ((b6=none->(x.ld k).stn=0/\b9=0)/\(b5=none->(x.ld k).ron=0/\b8=0)/\(b=none->(x.ld k).sen=0/\d=0)):=⟨m3,m6,m9⟩;obtain⟨s,c9⟩:∃ s,s=x.sa k:=⟨_,rfl⟩;obtain⟨l,e8⟩:∃ l,l=x.ld k:=⟨_,rfl⟩;rw[← e8] at h2 h1 a3 f8 f9 d9 g0 I;rw[← c9] at I;have e1:=hI c9;have a2:=hI e8;have h0:=hI g3;obtain⟨a,P,la,lc,ca,cc,rfl,f0,f1,f2,f3,f4,f5,f6,f7,e7,e6,g7,g6⟩:=d7.out k U;rw[← c9] at f0 f1 f2 f3 f4 f5 f6 f7 e7 e6 g7 g6;have i6:Hid (qd w la s.la/\qd w ca s.ca):=⟨e7,e6⟩;have g9:Hid (∀ W,Below w.heap.size w W->W.cell? ⟨a,P+k*8,none⟩=some (int i64 s.id)/\W.cell? ⟨a,P+k*8+1,none⟩=some (.string s.fr)/\W.cell? ⟨a,P+k*8+2,none⟩=some (.string s.dst)/\W.cell? ⟨a,P+k*8+3,none⟩=some (int i64 s.dep)/\W.cell? ⟨a,P+k*8+4,none⟩=some (int i64 s.arr)/\W.cell? ⟨a,P+k*8+5,none⟩=some (.slice la s.la.n lc)/\W.cell? ⟨a,P+k*8+6,none⟩=some (.slice ca s.ca.n cc)/\W.cell? ⟨a,P+k*8+7,none⟩=some (int i64 s.most)):=fun W hb=>by
  have O:=World.block_lt_of_cell? w _ f0;exact⟨(hb.cell (p:=⟨a,P+k*8,none⟩) O).trans f0,(hb.cell (p:=⟨a,P+k*8+1,none⟩) O).trans f1,(hb.cell (p:=⟨a,P+k*8+2,none⟩) O).trans f2,(hb.cell (p:=⟨a,P+k*8+3,none⟩) O).trans f3,(hb.cell (p:=⟨a,P+k*8+4,none⟩) O).trans f4,(hb.cell (p:=⟨a,P+k*8+5,none⟩) O).trans f5,(hb.cell (p:=⟨a,P+k*8+6,none⟩) O).trans f6,(hb.cell (p:=⟨a,P+k*8+7,none⟩) O).trans f7⟩
 clear f0 f1 f2 f3 f4 f5 f6 f7 e7 e6 g7 g6 c9 e8 g3 eA eB eD m1 m2 m3 m4 m5 m6 m7 m8 m9 g4 hk h5;have i1:(0:Int)<=(k:Int):=by omega
 have i2:(k:Int)<(N:Int):=by omega
 have a7:Below w.heap.size w (w.alloc (.cells #[int i64 leg,int i64 2,.bool false,int i64 who,int i64 p.pe,int i64 p.len,int i64 p.hei,int i64 p.cl,.bool p.all,int i64 p.be] 175)):=zr bZ _;have b0:=heap_alloc_new w (.cells #[int i64 leg,int i64 2,.bool false,int i64 who,int i64 p.pe,int i64 p.len,int i64 p.hei,int i64 p.cl,.bool p.all,int i64 p.be] 175);go_enter Tryz.func122,Tryz.ntmps122;go_upto_region 1 with fail;generalize (w.alloc (.cells #[int i64 leg,int i64 2,.bool false,int i64 who,int i64 p.pe,int i64 p.len,int i64 p.hei,int i64 p.cl,.bool p.all,int i64 p.be] 175))=W at a7 b0 ⊢;have z0:∀ G:qe W,G.val.cell? ⟨g,0,none⟩=some (.slice (some ⟨a,P,none⟩) N a6):=fun G=>za (zc HQ.out (zj a7 G.bel)) 0 _ rfl
 have z1:∀ G:qe W,G.val.cell? ⟨w.heap.size,0,none⟩=some (int i64 leg):=fun G=>za (zc b0 G.bel) 0 _ rfl
 refine zp (by kernel_rfl) (by kernel_rfl) ?_
 repeat(first|go_big_quiet_skip|(go_big_quiet_want;go_big_quiet_op;first|go_big_quiet_on|(apply Exists.intro;refine⟨fun G=>?_,?_⟩;(focus(first|(go_at_call 110;refine zi (v:=int i64 (k:Int)) ((ZP _ N a6 x.sa leg _ hN (d7.out.below (zj a7 G.bel))).mono ?_);rintro e w2 ⟨he,Q⟩;refine⟨?_,Q⟩;rw[HK.out] at he;rcases he with⟨_,rfl⟩|⟨h,_⟩;rfl;omega)));go_big_quiet_on)))
 refine wpQuiet_nil ?_;rintro _ ⟨G,rfl⟩;clear z0 z1;have a8:=zj a7 G.bel;have bW:=zc b0 G.bel;obtain⟨c0,c1,c2,c3,c4,c5,c6,c7⟩:=g9.out G.val a8;have y0:=za (zc HQ.out a8) 0 _ rfl;have y1:∀ o,(G.val.alloc o).cell? ⟨g,1,none⟩=some (.slice (some ⟨F,0,none⟩) N b7):=fun o=>za (zc HQ.out (zr a8 o)) 1 _ rfl
 have y4:∀ o,(G.val.alloc o).cell? ⟨w.heap.size,4,none⟩=some (int i64 p.pe):=fun o=>za (ze bW o) 4 _ rfl
 have y5:∀ o,(G.val.alloc o).cell? ⟨w.heap.size,5,none⟩=some (int i64 p.len):=fun o=>za (ze bW o) 5 _ rfl
 have y6:∀ o,(G.val.alloc o).cell? ⟨w.heap.size,6,none⟩=some (int i64 p.hei):=fun o=>za (ze bW o) 6 _ rfl
 have y7:∀ o,(G.val.alloc o).cell? ⟨w.heap.size,7,none⟩=some (int i64 p.cl):=fun o=>za (ze bW o) 7 _ rfl
 have y8:∀ o,(G.val.alloc o).cell? ⟨w.heap.size,8,none⟩=some (.bool p.all):=fun o=>za (ze bW o) 8 _ rfl
 have y9:∀ o,(G.val.alloc o).cell? ⟨w.heap.size,9,none⟩=some (int i64 p.be):=fun o=>za (ze bW o) 9 _ rfl
 go_upto_region 8 with fail;have i:Below w.heap.size w ((G.val.alloc (.cells #[int i64 s.id,.string s.fr,.string s.dst,int i64 s.dep,int i64 s.arr,.slice la s.la.n lc,.slice ca s.ca.n cc,int i64 s.most] 37)).alloc (.cells #[int i64 p.pe,int i64 p.len,int i64 p.hei,int i64 p.cl,.bool p.all,int i64 p.be] 25)):=zr (zr a8 _) _;have r:=ze (ze bW (.cells #[int i64 s.id,.string s.fr,.string s.dst,int i64 s.dep,int i64 s.arr,.slice la s.la.n lc,.slice ca s.ca.n cc,int i64 s.most] 37)) (.cells #[int i64 p.pe,int i64 p.len,int i64 p.hei,int i64 p.cl,.bool p.all,int i64 p.be] 25);have Z:=ze (heap_alloc_new G.val (.cells #[int i64 s.id,.string s.fr,.string s.dst,int i64 s.dep,int i64 s.arr,.slice la s.la.n lc,.slice ca s.ca.n cc,int i64 s.most] 37)) (.cells #[int i64 p.pe,int i64 p.len,int i64 p.hei,int i64 p.cl,.bool p.all,int i64 p.be] 25);have y:=zcC G.val (.cells #[int i64 s.id,.string s.fr,.string s.dst,int i64 s.dep,int i64 s.arr,.slice la s.la.n lc,.slice ca s.ca.n cc,int i64 s.most] 37) (.cells #[int i64 p.pe,int i64 p.len,int i64 p.hei,int i64 p.cl,.bool p.all,int i64 p.be] 25);generalize hx0:(G.val.alloc (.cells #[int i64 s.id,.string s.fr,.string s.dst,int i64 s.dep,int i64 s.arr,.slice la s.la.n lc,.slice ca s.ca.n cc,int i64 s.most] 37)).alloc (.cells #[int i64 p.pe,int i64 p.len,int i64 p.hei,int i64 p.cl,.bool p.all,int i64 p.be] 25)=X at i r Z y ⊢;generalize hsb:G.val.heap.size=sb at Z y ⊢;clear c0 c1 c2 c3 c4 c5 c6 c7 y0 y1 y4 y5 y6 y7 y8 y9 bW a8 a7 b0 hx0 hsb G W;have w1:=za r 1 _ rfl;have w2:=za r 2 _ rfl;have w3:=za r 3 _ rfl;have L0:X.cell? ⟨F,k*3,none⟩=some (.slice b6 l.stn b9):=(i.cell (p:=⟨F,k*3,none⟩) c8).trans f8.out;have L1:X.cell? ⟨F,k*3+1,none⟩=some (.slice b5 l.ron b8):=(i.cell (p:=⟨F,k*3+1,none⟩) c8).trans f9.out;have L2:X.cell? ⟨F,k*3+2,none⟩=some (.slice b l.sen d):=(i.cell (p:=⟨F,k*3+2,none⟩) c8).trans d9.out;have bG:=zc h0.out i;unfold In at hp;have V:l.sen<=60:=I.out.2.2.2.1;have g5:=zdg l.se l.sen (fun j hj=>(I.out.2.2.2.2.1 j hj).2.2)
 obtain⟨q,e9⟩:∃ q,q=zbE l.se l.sen:=⟨_,rfl⟩;rw[← e9] at g5;have a5:=hI e9;clear e9;have i7:IntKind.i64.wrap (q+p.pe)=q+p.pe:=by rw[IntKind.wrap_i64];omega
 have s6:∀ G:qe X,G.val.cell? ⟨F,k*3+2,none⟩=some (.slice b l.sen d):=fun G=>(G.bel.cell (p:=⟨F,k*3+2,none⟩) (zZ bG)).trans L2
 have s7:∀ G:qe X,G.val.cell? ⟨sb,7,none⟩=some (int i64 s.most):=fun G=>za (zc Z G.bel) 7 _ rfl
 have p0:∀ G:qe X,G.val.cell? ⟨sb+1,0,none⟩=some (int i64 p.pe):=fun G=>za (zc y G.bel) 0 _ rfl
 go_upto_region 5 with fail
 by_cases h60:l.sen=60
 ·have h3:(l.sen == 60)=true:=by simpa using h60
  have h4:((l.sen:Int) == 60)=true:=by simp;omega
  have d8:=hI h60;clear h60;refine zp (by kernel_rfl) (by kernel_rfl) ?_
  repeat(first|go_big_quiet_skip|(go_big_quiet_want;go_big_quiet_op;first|go_big_quiet_on|(apply Exists.intro;refine⟨fun G=>?_,?_⟩;(focus(first|(go_at_call 136;refine zi (v:=int i64 q) ((zaJ b l.sen d l.se _ V (fun j hj=>(I.out.2.2.2.2.1 j hj).2.2) ((Qd a3.out).below (zj i G.bel))).mono ?_);rintro e w2 ⟨rfl,Q⟩;exact⟨by rw[a5.out],Q⟩)));go_big_quiet_on)))
  refine wpQuiet_nil ?_;rintro _ ⟨G,rfl⟩;have m:=zj i G.bel;have a0:=zc r G.bel;have Y:=zc y G.bel;have J:=zc bG G.bel;clear w1 w2 w3 L0 L1 L2 s6 s7 p0;generalize G.val=H at m a0 Y J ⊢;clear i r Z y bG G X;have HF:Hid _:=doNo (k:=k) (code:=7) (v:=⟨leg,2,false,who,p⟩) HO.out HQ.out m (by
   refine .seats rfl rfl ?_;rw[← e1.out,← a2.out];exact .inl d8.out)
  go_wp2;go_ret;exact HF.out
 have h3:(l.sen == 60)=false:=by simpa using h60
 have h4:((l.sen:Int) == 60)=false:=by simp;omega
 have d8:=hI h60;clear h60
 by_cases hm:s.most<q+p.pe
 ·have d1:decide (s.most<q+p.pe)=true:=decide_eq_true hm
  have HM:=hI hm;clear hm;refine zp (by kernel_rfl) (by kernel_rfl) ?_
  repeat(first|go_big_quiet_skip|(go_big_quiet_want;go_big_quiet_op;first|go_big_quiet_on|(apply Exists.intro;refine⟨fun G=>?_,?_⟩;(focus(first|(go_at_call 136;refine zi (v:=int i64 q) ((zaJ b l.sen d l.se _ V (fun j hj=>(I.out.2.2.2.2.1 j hj).2.2) ((Qd a3.out).below (zj i G.bel))).mono ?_);rintro e w2 ⟨rfl,Q⟩;exact⟨by rw[a5.out],Q⟩)));go_big_quiet_on)))
  refine wpQuiet_nil ?_;rintro _ ⟨G,rfl⟩;have m:=zj i G.bel;have a0:=zc r G.bel;have Y:=zc y G.bel;have J:=zc bG G.bel;clear w1 w2 w3 L0 L1 L2 s6 s7 p0;generalize G.val=H at m a0 Y J ⊢;clear i r Z y bG G X;have HF:Hid _:=doNo (k:=k) (code:=7) (v:=⟨leg,2,false,who,p⟩) HO.out HQ.out m (by
   refine .seats rfl rfl ?_;rw[← e1.out,← a2.out];exact .inr (by rw[← a5.out];exact HM.out))
  go_wp2;go_ret;exact HF.out
 have d1:decide (s.most<q+p.pe)=false:=decide_eq_false hm;have HM:=hI hm;clear hm;refine zp (by kernel_rfl) (by kernel_rfl) ?_
 repeat(first|go_big_quiet_skip|(go_big_quiet_want;go_big_quiet_op;first|go_big_quiet_on|(apply Exists.intro;refine⟨fun G=>?_,?_⟩;(focus(first|(go_at_call 136;refine zi (v:=int i64 q) ((zaJ b l.sen d l.se _ V (fun j hj=>(I.out.2.2.2.2.1 j hj).2.2) ((Qd a3.out).below (zj i G.bel))).mono ?_);rintro e w2 ⟨rfl,Q⟩;exact⟨by rw[a5.out],Q⟩)));go_big_quiet_on)))
 refine wpQuiet_nil ?_;rintro _ ⟨G,rfl⟩;have m:=zj i G.bel;have a0:=zc r G.bel;have Y:=zc y G.bel;have J:=zc bG G.bel;clear w1 w2 w3 L0 L1 L2 s6 s7 p0;generalize G.val=H at m a0 Y J ⊢;clear i r Z y bG G X;go_upto_region 7 with fail;have HN:=hI g0.out.2.2;have e0:Hid (∀ z,Below H.heap.size H z->ZI z b l.sen l.se):=fun z h=>(Qd a3.out).below (zj m h)
 have V:l.sen<=60:=I.out.2.2.2.1;have g1:H.cell? ⟨F,k*3+2,none⟩=some (.slice b l.sen d):=(m.cell (p:=⟨F,k*3+2,none⟩) c8).trans d9.out;have KS:Hid (∀ z,Below H.heap.size H z->(z.cell? ⟨w.heap.size,3,none⟩=some (int i64 who)/\z.cell? ⟨sb+1,0,none⟩=some (int i64 p.pe))/\z.cell? ⟨F,k*3+2,none⟩=some (.slice b l.sen d)):=fun z h=>⟨⟨za (zc a0 h) 3 _ rfl,za (zc Y h) 0 _ rfl⟩,(h.cell (p:=⟨F,k*3+2,none⟩) (zZ J)).trans g1⟩
 refine qy 16 17 (fun w'=>(w'.cell? ⟨w.heap.size,3,none⟩=some (int i64 who)/\w'.cell? ⟨sb+1,0,none⟩=some (int i64 p.pe))/\w'.cell? ⟨F,k*3+2,none⟩=some (.slice b l.sen d)) rfl (by kernel_rfl) (KS.out _ (Below.drew bZ)) (fun hS=>?_)
 simp only[List.replicate_succ,List.replicate_zero]
 (refine tkL 0 (v:=?_) rfl (by kernel_rfl) (fun _ _ _ h=>h) rfl (by assumption) ?_ ?_;rotate_left;(focus(intro w' h;(try dsimp only at h);go_simp;try with_reducible rfl));simp only[Act.put,sB,sZ,sS])
 (refine tkL 2 (v:=?_) rfl (by kernel_rfl) (fun _ _ _ h=>h) rfl (by assumption) ?_ ?_;rotate_left;(focus(intro w' h;(try dsimp only at h);go_simp;try with_reducible rfl));simp only[Act.put,sB,sZ,sS])
 (refine tkL 3 (v:=?_) rfl (by kernel_rfl) (fun _ _ _ h=>h) rfl (by assumption) ?_ ?_;rotate_left;(focus(intro w' h;(try dsimp only at h);go_simp;try with_reducible rfl));simp only[Act.put,sB,sZ,sS])
 (refine tkL 4 (v:=?_) rfl (by kernel_rfl) (fun _ _ _ h=>h) rfl (by assumption) ?_ ?_;rotate_left;(focus(intro w' h;(try dsimp only at h);go_simp;try with_reducible rfl));simp only[Act.put,sB,sZ,sS])
 (refine tkL 5 (v:=?_) rfl (by kernel_rfl) (fun _ _ _ h=>h) rfl (by assumption) ?_ ?_;rotate_left;(focus(intro w' h;(try dsimp only at h);go_simp;try with_reducible rfl));simp only[Act.put,sB,sZ,sS])
 (refine tkL 7 (v:=?_) rfl (by kernel_rfl) (fun _ _ _ h=>h) rfl (by assumption) ?_ ?_;rotate_left;(focus(intro w' h;(try dsimp only at h);go_simp;try with_reducible rfl));simp only[Act.put,sB,sZ,sS])
 (refine tkL 8 (v:=?_) rfl (by kernel_rfl) (fun _ _ _ h=>h) rfl (by assumption) ?_ ?_;rotate_left;(focus(intro w' h;(try dsimp only at h);go_simp;try with_reducible rfl));simp only[Act.put,sB,sZ,sS])
 (refine tkL 9 (v:=?_) rfl (by kernel_rfl) (fun _ _ _ h=>h) rfl (by assumption) ?_ ?_;rotate_left;(focus(intro w' h;(try dsimp only at h);go_simp;try with_reducible rfl));simp only[Act.put,sB,sZ,sS])
 (refine tkL 10 (v:=?_) rfl (by kernel_rfl) (fun _ _ _ h=>h) rfl (by assumption) ?_ ?_;rotate_left;(focus(intro w' h;(try dsimp only at h);go_simp;try with_reducible rfl));simp only[Act.put,sB,sZ,sS])
 (refine tkL 11 (v:=?_) rfl (by kernel_rfl) (fun _ _ _ h=>h) rfl (by assumption) ?_ ?_;rotate_left;(focus(intro w' h;(try dsimp only at h);go_simp;try with_reducible rfl));simp only[Act.put,sB,sZ,sS])
 refine zh (rs:=[1,12]) (by kernel_rfl) (by simp) ?_
 refine zd.consL rfl (fun K f=>?_) (zd.consL rfl (fun K f=>?_) zd.nil)
 focus
  go_simp;refine f.out _ _ (KS.out _ (by repeat(first|exact c.out|exact bZ|refine Below.drew ?_|refine zr ?_ _))) (fun hS=>?_)
  clear f K;simp only[sZ,sS];refine zh (rs:=[6,12]) (by kernel_rfl) (by simp) ?_
  refine zd.consL rfl (fun K f=>?_) (zd.consL rfl (fun K f=>?_) zd.nil)
  focus
   refine zN (by rfl) (.tmp 60) (.tmp 64) 132 (by rfl) 138 i0 (.agg #[int i64 0,int i64 0]) 2 16 Tryz.underlying132 ii d0 d5 d6 rfl (by decide) H.heap.size _ (by rfl) (by first|exact Nat.le_refl _|omega|(simp;done)|(simp;omega)) (by repeat(first|((with_reducible refine qY _ _ _ ?_);(first|rfl|(simp;done)))|with_reducible refine zF ?_|with_reducible refine ze ?_ _)) b l.sen d (zW l.se l.sen) (by rfl) HN.out (Qk _ _) (zaB (e0.out _ (by repeat(first|exact bZ|refine Below.drew ?_|refine zr ?_ _)))) (Q7 _ _) (by unfold maxLen;omega) (by omega) ?_;intro p1 q1 u1 S a1 M;clear M;have c:Hid (Below H.heap.size H u1):=(by show Below _ _ _;refine zj ?_ (zl S);exact(by repeat(first|exact bZ|refine Below.drew ?_|refine zr ?_ _)));refine f.out _ _ (KS.out _ c.out) (fun hS=>?_)
   clear f K;simp only[Act.put,sB,sZ,sS];refine zh (rs:=[12]) (by kernel_rfl) (by simp) ?_
   refine zd.consL rfl (fun K f=>?_) zd.nil
   focus
    go_simp;refine f.out _ _ (KS.out _ (by repeat(first|exact c.out|exact bZ|refine Below.drew ?_|refine zr ?_ _))) (fun hS=>?_)
    clear f K;simp only[sZ,sS]
  rotate_left 1
  focus
   go_simp;refine f.out _ _ (KS.out _ (by repeat(first|exact c.out|exact bZ|refine Below.drew ?_|refine zr ?_ _))) (fun hS=>?_)
   clear f K;simp only[sZ,sS];refine zh (rs:=[6]) (by kernel_rfl) (by simp) ?_
   refine zd.consL rfl (fun K f=>?_) zd.nil
   focus
    refine zN (by rfl) (.tmp 60) (.tmp 64) 132 (by rfl) 138 i0 (.agg #[int i64 0,int i64 0]) 2 16 Tryz.underlying132 ii d0 d5 d6 rfl (by decide) H.heap.size _ (by rfl) (by first|exact Nat.le_refl _|omega|(simp;done)|(simp;omega)) (by repeat(first|((with_reducible refine qY _ _ _ ?_);(first|rfl|(simp;done)))|with_reducible refine zF ?_|with_reducible refine ze ?_ _)) b l.sen d (zW l.se l.sen) (by rfl) HN.out (Qk _ _) (zaB (e0.out _ (by repeat(first|exact bZ|refine Below.drew ?_|refine zr ?_ _)))) (Q7 _ _) (by unfold maxLen;omega) (by omega) ?_;intro p1 q1 u1 S a1 M;clear M;have c:Hid (Below H.heap.size H u1):=(by show Below _ _ _;refine zj ?_ (zl S);exact(by repeat(first|exact bZ|refine Below.drew ?_|refine zr ?_ _)));refine f.out _ _ (KS.out _ c.out) (fun hS=>?_)
    clear f K;simp only[Act.put,sB,sZ,sS]
 rotate_left 2
 focus
  go_simp;refine f.out _ _ (KS.out _ (by repeat(first|exact c.out|exact bZ|refine Below.drew ?_|refine zr ?_ _))) (fun hS=>?_)
  clear f K;simp only[sZ,sS];refine zh (rs:=[1]) (by kernel_rfl) (by simp) ?_
  refine zd.consL rfl (fun K f=>?_) zd.nil
  focus
   go_simp;refine f.out _ _ (KS.out _ (by repeat(first|exact c.out|exact bZ|refine Below.drew ?_|refine zr ?_ _))) (fun hS=>?_)
   clear f K;simp only[sZ,sS];refine zh (rs:=[6]) (by kernel_rfl) (by simp) ?_
   refine zd.consL rfl (fun K f=>?_) zd.nil
   focus
    refine zN (by rfl) (.tmp 60) (.tmp 64) 132 (by rfl) 138 i0 (.agg #[int i64 0,int i64 0]) 2 16 Tryz.underlying132 ii d0 d5 d6 rfl (by decide) H.heap.size _ (by rfl) (by first|exact Nat.le_refl _|omega|(simp;done)|(simp;omega)) (by repeat(first|((with_reducible refine qY _ _ _ ?_);(first|rfl|(simp;done)))|with_reducible refine zF ?_|with_reducible refine ze ?_ _)) b l.sen d (zW l.se l.sen) (by rfl) HN.out (Qk _ _) (zaB (e0.out _ (by repeat(first|exact bZ|refine Below.drew ?_|refine zr ?_ _)))) (Q7 _ _) (by unfold maxLen;omega) (by omega) ?_;intro p1 q1 u1 S a1 M;clear M;have c:Hid (Below H.heap.size H u1):=(by show Below _ _ _;refine zj ?_ (zl S);exact(by repeat(first|exact bZ|refine Below.drew ?_|refine zr ?_ _)));refine f.out _ _ (KS.out _ c.out) (fun hS=>?_)
    clear f K;simp only[Act.put,sB,sZ,sS]
 all_goals
  refine zh (rs:=[13]) (by kernel_rfl) (by simp) ?_
  refine zd.consL rfl (fun K f=>?_) zd.nil
  refine step_append_lies _ (by rfl) (.tmp 65) (.tmp 71) 132 (by rfl) H.heap.size 138 i0 (.agg #[int i64 0,int i64 0]) 2 16 Tryz.underlying132 ii d0 d5 d6 rfl (by decide) _ l.sen (zW l.se l.sen) (by rfl) (by first|exact a1|exact a1.alloc _|exact zm (zr bZ _) a1) _ 1 1 [int i64 who,int i64 p.pe] (by rfl) (by rfl) (by refine World.news_of_block (cs:=#[int i64 who,int i64 p.pe]) (t:=138) (fr:=(0,0)) ?_;exact(by repeat(first|((with_reducible refine qY _ _ _ ?_);(first|rfl|(simp;done)))|with_reducible refine zF ?_|with_reducible refine ze ?_ _|with_reducible refine zc ?_ (zl S)))) (by intro u hu;simp at hu;rcases hu with rfl|rfl <;> rfl) (by decide) (by unfold maxLen;omega) (by omega) (by first|exact c.out.size|(have:=c.out.size;simp;omega)) _ rfl ?_;intro g2 i3 u2 h9 h6 i4 i5;refine(fun (a9:Hid (Below H.heap.size H u2))=>?_) (Below.grown ?_ h6 ?_ (fun j hj=>(a1.lt j hj).1));rotate_left;(focus(repeat(first|exact bZ|refine Below.drew ?_|refine zr ?_ _|refine zj ?_ (zl S))));(focus(first|exact c.out.size|(have:=c.out.size;simp;omega)));have q0:=(a9.out.cell (p:=⟨F,k*3+2,none⟩) (zZ J)).trans g1;have q1:=zg (zc J a9.out) (k*3+2);refine f.out _ _ (KS.out _ a9.out) (fun hS=>?_)
  clear f K;simp only[Act.put,sB,sZ,sS]
  (refine tkL 14 (v:=?_) rfl (by kernel_rfl) (fun _ _ _ h=>h) rfl (by assumption) ?_ ?_;rotate_left;(focus(intro w' h;(try dsimp only at h);go_simp;try with_reducible rfl));simp only[Act.put,sB,sZ,sS])
  (refine tkL 15 (v:=?_) rfl (by kernel_rfl) (fun _ _ _ h=>h) rfl (by assumption) ?_ ?_;rotate_left;(focus(intro w' h;(try dsimp only at h);go_simp;try with_reducible rfl));simp only[Act.put,sB,sZ,sS])
  refine zh (rs:=[16]) (by kernel_rfl) (by simp) ?_
  refine zd.lastL rfl (fun K f=>?_)
  go_simp;refine f.out _ _ ?_;clear f K;refine zH (by kernel_rfl) ?_ _
  have HF:Hid _:=doSe (k:=k) (n:=l.sen+1) (T:=QW l.se l.sen (fun _=>⟨who,p.pe⟩)) (v:=⟨leg,2,false,who,p⟩) HO.out HQ.out g8.out (zj m a9.out) (zE (by rw[zfI,QN,show zW (fun _=>(⟨who,p.pe⟩:zaf)) 0=[] from rfl,List.nil_append];exact h9) m.size) (by rw[a2.out];refine .addSeat rfl rfl (by rw[← a2.out];exact d8.out) ?_;rw[← e1.out,← a2.out,← a5.out];have:=HM.out;show q+p.pe<=s.most;omega)
  go_wp2;go_ret;exact HF.out
noncomputable def ziv (x:OpD):Bool:=by classical exact decide (qn x)
noncomputable def zbj (x:OpD):ByteArray:=if ziv x=true then opT x else ⟨#[]⟩
theorem zfk (x:OpD):ziv x=true↔qn x:=by classical exact decide_eq_true_iff
theorem zau {x:OpD}(h:¬ qn x):zbj x=⟨#[]⟩/\ziv x=false:=by
 have a:ziv x=false:=Bool.eq_false_iff.2 (fun e=>h ((zfk x).1 e))
 exact⟨by unfold zbj;rw[if_neg (by rw[a];decide)],a⟩
theorem zav {x:OpD}(h:qn x):zbj x=opT x/\ziv x=true:=by
 have a:ziv x=true:=(zfk x).2 h;exact⟨by unfold zbj;rw[if_pos a],a⟩
theorem zbD {x:OpD}(h:qn x):∀ p,p ∈ zcv x->p.size<=1000:=by
 obtain⟨k,j⟩:∃ k,k=x.kind.toNat:=⟨_,rfl⟩;have f:∀ (b:Bool) (q p:ByteArray),p ∈ opt b q->b=true/\p=q:=by
  intro b q p d;unfold opt at d
  cases b with
  | false=>simp at d
  | true=>simp at d;exact⟨rfl,d⟩
 intro p d;unfold zcv zcg zbX zbW zcf zbV zcJ at d;rw[← j] at d;simp only[List.mem_append,List.mem_singleton] at d
 rcases d with((((((d|d)|d)|d)|d)|d)|d)
 ·rw[d];have:=zet k;omega
 ·obtain⟨q,rfl⟩:=f _ _ _ d
  have g:=rng1 h j.symm q;have:=qh (n:=x.name) (by omega) (by omega)
  omega
 ·obtain⟨q,rfl⟩:=f _ _ _ d
  have g:=h.1.2.1;unfold qO at g
  split at g
  ·have:=g.2.1;omega
  ·omega
 ·obtain⟨q,rfl⟩:=f _ _ _ d
  have g:=rng3 h j.symm q;unfold ZB;have m:∀ p,p ∈ (List.range x.lgn).map (fun i=>qf (x.lg i))->p.size<=100:=fun p d=>by
   obtain⟨i,t,rfl⟩:=List.mem_map.1 d;have r:=h.2 i (by simpa using t)
   unfold In at r;exact qh (by omega) (by omega)
  have o:∀ (l:List ByteArray),l.length<=3->(∀ p,p ∈ l->p.size<=100)->(qD coT l).size<=500:=by
   intro l hl d
   match l,hl,d with
   | [],_,_=>exact Nat.zero_le _
   | [a],_,d=>rw[ZH];have:=d a (by simp);omega
   | [a,b],_,d =>
    have e:qD coT [a,b]=qD coT [a]++(coT++b):=ZR coT b (l:=[a]) (by simp)
    rw[e,ZH,ByteArray.size_append,ByteArray.size_append];have g:=d a (by simp)
    have m:=d b (by simp)
    show _+(1+_)<=500
    omega
   | [a,b,c],_,d =>
    have s:qD coT [a,b]=qD coT [a]++(coT++b):=ZR coT b (l:=[a]) (by simp)
    have e:qD coT [a,b,c]=qD coT [a,b]++(coT++c):=ZR coT c (l:=[a,b]) (by simp)
    rw[e,s,ZH,ByteArray.size_append,ByteArray.size_append,ByteArray.size_append,ByteArray.size_append];have g:=d a (by simp)
    have m:=d b (by simp)
    have r:=d c (by simp)
    show _+(1+_)+(1+_)<=500
    omega
  have:=o _ (by simp;omega) m
  omega
 ·obtain⟨q,rfl⟩:=f _ _ _ d
  have g:=rng4 h j.symm q;generalize x.p=p at g;unfold qI Q3 zbH In at g;have s1:=qh (n:=p.pe) (by omega) (by omega)
  have s2:=qh (n:=p.len) (by omega) (by omega)
  have s3:=qh (n:=p.hei) (by omega) (by omega)
  have s4:=qh (n:=p.cl) (by omega) (by omega)
  have s5:=qh (n:=p.be) (by omega) (by omega)
  have c1:(zaS p).size<=300:=by
   unfold zaS
   split
   ·exact Nat.zero_le _
   ·rw[ByteArray.size_append,ByteArray.size_append,ByteArray.size_append]
    show 1+((qf p.len).size+1+(qf p.hei).size)<=300
    omega
  have c2:(cabT p).size<=300:=by
   unfold cabT
   split
   ·exact Nat.zero_le _
   ·rw[ByteArray.size_append]
    show 1+(qf p.cl).size<=300
    omega
  have c3:(zhN p).size<=300:=by
   unfold zhN
   split
   ·exact Nat.zero_le _
   ·rw[ByteArray.size_append]
    show 1+(qf p.be).size<=300
    omega
  unfold qC
  split
  ·rw[ByteArray.size_append];omega
  ·rw[ByteArray.size_append,ByteArray.size_append,ByteArray.size_append];omega
 ·obtain⟨q,rfl⟩:=f _ _ _ d
  have g:=rng5 h j.symm q;have:=qh (n:=x.unt) (by omega) (by omega)
  omega
 ·obtain⟨q,rfl⟩:=f _ _ _ d
  have g:=rng6 h j.symm q;have:=qh (n:=x.now) (by omega) (by omega)
  omega
theorem ziw {x:OpD}{k:Nat}(h:qn x)(a:x.kind.toNat=k)(b:decide (0<qx k)=true):(ZB x.lgn x.lg).size<=1000:=by
 refine zbD h _ ?_;unfold zcv zcg zbX zbW opt;rw[a,b];simp
theorem zhp {x:OpD}{k:Nat}(h:qn x)(a:x.kind.toNat=k)(b:qp k=true):(qC x.p).size<=1000:=by
 refine zbD h _ ?_;unfold zcv zcg zbX opt;rw[a,b];simp
theorem zgo {x:OpD}(h:qn x):(opT x).size<=7007:=by
 have h1:=zbU spT (by show 1<=1;omega) (zcv x) (zbD h)
 have h2:=len_P6 x;unfold opT
 omega
theorem zcK (cs:List Value)(x:OpD)(w:World)(V:x.own.size<=1000000000000000)(h:OpD.Is w cs x)(hn:x.lgn<=1000000000)(P:PowAt w)(O:Qb w)(Q:Qc w) :
  Calls Tryz.prog 5 #[.agg cs.toArray] w fun e w'=>e=.returned (.tuple #[.string (zbj x),.bool (ziv x)])/\Below w.heap.size w w':=by
 have S:=hI h;obtain⟨a,b,rfl,p,_⟩:=h;have o:=hI p;have t:Hid (PowAt w/\Qb w/\Qc w):=⟨P,O,Q⟩;have d:Below w.heap.size w (w.alloc (.cells #[int i64 x.kind,.string x.own,int i64 x.name,.slice a x.lgn b,int i64 x.pe,int i64 x.len,int i64 x.hei,int i64 x.cl,.bool x.all,int i64 x.be,int i64 x.unt,int i64 x.now] 27)):=zr bZ _;have u:=heap_alloc_new w (.cells #[int i64 x.kind,.string x.own,int i64 x.name,.slice a x.lgn b,int i64 x.pe,int i64 x.len,int i64 x.hei,int i64 x.cl,.bool x.all,int i64 x.be,int i64 x.unt,int i64 x.now] 27);clear p P O Q;go_enter Tryz.func5,Tryz.ntmps5;go_upto_region 1 with fail;generalize w.alloc (.cells #[int i64 x.kind,.string x.own,int i64 x.name,.slice a x.lgn b,int i64 x.pe,int i64 x.len,int i64 x.hei,int i64 x.cl,.bool x.all,int i64 x.be,int i64 x.unt,int i64 x.now] 27)=W at d u ⊢;obtain⟨E,F,G,H,I,J,K,L,M,N,m,n⟩:=ce12 u;go_wp2_with fail;obtain⟨q,D⟩:∃ q,q=decide (Qz x):=⟨_,rfl⟩;have y:Hid (q=true↔Qz x):=by show q=true↔Qz x;rw[D,decide_eq_true_eq]
 have A:=zit [int i64 x.kind,.string x.own,int i64 x.name,.slice a x.lgn b,int i64 x.pe,int i64 x.len,int i64 x.hei,int i64 x.cl,.bool x.all,int i64 x.be,int i64 x.unt,int i64 x.now] x W V (S.out.below d) (t.out.2.1.below d);rw[← D] at A;clear D;refine A.mono ?_;clear A;rintro e w2 ⟨rfl,k⟩;have b2:=zc u k;have g:=zj d k;clear E F G H I J K L M N m n u d k
 cases q with
 | false =>
  have f:¬ qn x:=fun h=>by have:=y.out.2 h.1;cases this
  have i:=hI (zau f);clear f;go_wp2;exact bodyPost_ret (v:=.tuple #[.string ⟨#[]⟩,.bool false]) (by simp[results,Tryz.results5,go_sem]) rfl ⟨by rw[i.out.1,i.out.2],g⟩
 | true =>
  have X:=za b2 3 _ rfl;go_wp2_with fail;refine(zdQ a x.lgn b x.lg _ hn (o.out.below g)).mono ?_;rintro e w3 ⟨⟨r,rfl,R⟩,l⟩;have b3:=zc b2 l;have c:=zj g l;have j:=hI R;clear b2 g l X R
  cases r with
  | false =>
   have f:¬ qn x:=fun h=>by have:=j.out.2 h.2;cases this
   have i:=hI (zau f);clear f;go_wp2;exact bodyPost_ret (v:=.tuple #[.string ⟨#[]⟩,.bool false]) (by simp[results,Tryz.results5,go_sem]) rfl ⟨by rw[i.out.1,i.out.2],c⟩
  | true =>
   have z:Hid (qn x):=⟨(by first|exact y.out.1 rfl|exact y.out.1 trivial),(by first|exact j.out.1 rfl|exact j.out.1 trivial)⟩
   have i:=hI (zav z.out);obtain⟨E,F,G,H,I,J,K,L,M,N,m,n⟩:=ce12 b3;go_wp2_with fail;refine(ziu x a b _ z.out (o.out.below c) (t.out.1.below c) (t.out.2.1.below c) (t.out.2.2.below c)).mono ?_;rintro e w4 ⟨v,rfl,s,B⟩;have T:=hI s;clear E F G H I J K L M N m n s;go_wp2_with fail;refine(zhL spT (zcv x) v _ _ T.out (by have:=len_P6 x;omega) (by have U:=zgo z.out;unfold opT at U;omega)).mono ?_
   rintro e w5 ⟨rfl,C⟩;go_wp2;exact bodyPost_ret (v:=.tuple #[.string (opT x),.bool true]) (by simp[results,Tryz.results5,go_sem,opT]) rfl ⟨by rw[i.out.1,i.out.2],zj (zj c B) C⟩
theorem Tryz.infoIntS':(Tryz.prog.info? 23).map (fun i=>(i.zero,i.size,i.bytes))=some (some (.slice none 0 0),1,24):=by kernel_rfl
structure PSt (w a:World)(v:Value)(p:qi)(k:Nat)(g:Nat->Nat):Prop where
 own:a.ownsRow w.heap.size 23 1 v k ((List.range k).map (fun i=>.slice (some ⟨g i,0,none⟩) 2 2))
 el:∀ i,i<k->a.heap[g i]?=some (.cells #[int i64 (p.A i),int i64 (p.B i)] 3 (0,0))
theorem PSt.below {w a c:World}{v:Value}{p:qi}{k:Nat}{g:Nat->Nat}(h:PSt w a v p k g)(b:Below a.heap.size a c):PSt w c v p k g:=⟨zm b h.own,fun i d=>zc (h.el i d) b⟩
theorem PSt.app {w a b:World}{v j:Value}{p:qi}{k m:Nat}{g:Nat->Nat}(h:PSt w a v p k g)(f:a.heap[m]?=some (.cells #[int i64 (p.A k),int i64 (p.B k)] 3 (0,0)))(c:a.grownBy b v.ownBlock)
  (n:b.ownsRow w.heap.size 23 1 j (k+1) ((List.range k).map (fun i=>Value.slice (some ⟨g i,0,none⟩) 2 2)++[.slice (some ⟨m,0,none⟩) 2 2])):PSt w b j p (k+1) (fun i=>if i=k then m else g i):=by
 refine⟨?_,fun i d=>?_⟩
 ·have e:(List.range (k+1)).map (fun i=>Value.slice (some ⟨(if i=k then m else g i),0,none⟩) 2 2)=(List.range k).map (fun i=>Value.slice (some ⟨g i,0,none⟩) 2 2)++[.slice (some ⟨m,0,none⟩) 2 2]:=by
   rw[List.range_succ,List.map_append,List.map_cons,List.map_nil,if_pos rfl]
   congr 1
   refine List.map_congr_left fun i d=>?_
   have:i<k:=by simpa using d
   rw[if_neg (by omega)]
  rw[e];exact n
 ·by_cases e:i=k
  ·subst e
   rw[if_pos rfl];exact(zO c).blk f (fun e=>Zt h.own f (by decide) _ e rfl)
  ·rw[if_neg e]
   exact(zO c).blk (h.el i (by omega)) (fun l=>Zt h.own (h.el i (by omega)) (by decide) _ l rfl)
theorem PSt.rows {w d:World}{a:Option Addr}{c:Nat}{p:qi}{g:Nat->Nat}(h:PSt w d (.slice a p.n c) p p.n g):zhq d a p:=fun k e=>by
 obtain⟨b,rfl,_,_⟩:=qw h.own (by omega)
 refine⟨b,0,g k,rfl,?_,h.el k e⟩;rw[Nat.zero_add];exact zK h.own k (by omega) (by omega)
theorem text_all (s:Sail):(⟨#[115,97,105,108,32]⟩:ByteArray)++qf s.id++⟨#[32]⟩++s.fr++⟨#[32]⟩++s.dst++⟨#[32]⟩++qf s.dep++⟨#[32]⟩++qf s.arr++⟨#[32]⟩++qf s.most++⟨#[32]⟩++qu s.la++⟨#[32]⟩++qu s.ca=QS s:=by
 have a:∀ (l:List ByteArray) (p:ByteArray),l≠[]->qD spT (l++[p])=qD spT l++(⟨#[32]⟩++p):=fun l p hl=>ZR spT p hl
 unfold QS zfo;rw[show[zcU,qf s.id,s.fr,s.dst,qf s.dep,qf s.arr,qf s.most,qu s.la,qu s.ca]=((((((([zcU]++[qf s.id])++[s.fr])++[s.dst])++[qf s.dep])++[qf s.arr])++[qf s.most])++[qu s.la])++[qu s.ca] from rfl,
  a _ _ (by simp),a _ _ (by simp),a _ _ (by simp),a _ _ (by simp),a _ _ (by simp),a _ _ (by simp),a _ _ (by simp),a _ _ (by simp),ZH]
 rw[show(⟨#[115,97,105,108,32]⟩:ByteArray)=zcU++⟨#[32]⟩ from rfl];simp only[ByteArray.append_assoc]
theorem zhr (s:Sail)(lo co:Option Addr)(c1 c2:Nat)(w:World)(hs:zU s)(hx:qd w lo s.la)(hy:qd w co s.ca) :
  Calls Tryz.prog 27 #[.agg #[int i64 s.id,.string s.fr,.string s.dst,int i64 s.dep,int i64 s.arr,.slice lo s.la.n c1,.slice co s.ca.n c2,int i64 s.most]] w fun e w'=>e=.returned (.string (QS s))/\Below w.heap.size w w':=by
 have HG:=hI hs;have c4:Hid (qd w lo s.la/\qd w co s.ca):=⟨hx,hy⟩;obtain⟨G,Y⟩:∃ n,n=s.la.n:=⟨_,rfl⟩;obtain⟨H,Z⟩:∃ n,n=s.ca.n:=⟨_,rfl⟩;have C:Hid (s.la.n=G/\s.ca.n=H):=⟨Y.symm,Z.symm⟩;have n6:G<=6/\H<=6:=⟨by rw[Y];exact(zbp hs).1,by rw[Z];exact(zbq hs).1⟩
 obtain⟨j0,ji,c6,c7,c8⟩:=info_parts Tryz.infoIntS';rw[← Y,← Z];clear hs hx hy Y Z;have b7:Below w.heap.size w (w.alloc (.cells #[int i64 s.id,.string s.fr,.string s.dst,int i64 s.dep,int i64 s.arr,.slice lo G c1,.slice co H c2,int i64 s.most] 37)):=zr bZ _;have b0:=heap_alloc_new w (.cells #[int i64 s.id,.string s.fr,.string s.dst,int i64 s.dep,int i64 s.arr,.slice lo G c1,.slice co H c2,int i64 s.most] 37);go_enter Tryz.func27,Tryz.ntmps27;go_upto_region 1 with fail;generalize w.alloc (.cells #[int i64 s.id,.string s.fr,.string s.dst,int i64 s.dep,int i64 s.arr,.slice lo G c1,.slice co H c2,int i64 s.most] 37)=W at b7 b0 ⊢;have a0:=hI b7;have B0:=hI b0;have y5:=za b0 5 _ rfl;have H0:Hid (PSt W W (.slice none 0 0) s.la 0 (fun _=>0)):=⟨World.ownsRow_nil _ _ _ _,fun i hi=>by omega⟩
 clear b0 b7;go_wp2;go_loopw [3,6,12] (fun v _ i wr=>∃ (k:Nat) (g:Nat->Nat),k<=G/\i=int i64 k/\Hid (PSt W wr v s.la k g/\Below W.heap.size W wr)) (fun _ _ i _=>G - (intOf i).toNat)
 case atStart=>exact⟨0,_,Nat.zero_le _,rfl,H0.out,bZ⟩
 case round =>
  obtain⟨k,g,hk,rfl,d⟩:=hrel;clear H0
  by_cases hlt:k<G
  ·obtain⟨b,off,rfl,hc,hd⟩:=(c4.out.1.below a0.out) k (by rw[C.out.1];exact hlt)
   have b8:wr.cell? ⟨b,off+k*2,none⟩=some (int i64 (s.la.A k)):=(d.out.2.cell (World.block_lt_of_cell? W _ hc)).trans hc;have b9:wr.cell? ⟨b,off+k*2+1,none⟩=some (int i64 (s.la.B k)):=(d.out.2.cell (World.block_lt_of_cell? W _ hd)).trans hd;clear hc hd;obtain⟨va,vc,rfl,_⟩:=zt d.out.1.own;have N:=heap_alloc_new wr (.cells #[int i64 (s.la.A k),int i64 (s.la.B k)] 106);have f:Hid (PSt W (wr.alloc (.cells #[int i64 (s.la.A k),int i64 (s.la.B k)] 106)) (.slice va k vc) s.la k g/\Below W.heap.size W (wr.alloc (.cells #[int i64 (s.la.A k),int i64 (s.la.B k)] 106))):=⟨d.out.1.below (zr bZ _),zr d.out.2 _⟩;go_upto_region 5 with fail;generalize wr.alloc (.cells #[int i64 (s.la.A k),int i64 (s.la.B k)] 106)=a at N f ⊢;have z0:=za N 0 _ rfl;have z1:=za N 1 _ rfl;clear d b8 b9 N;have c:Hid (PSt W ((a.alloc (.cells #[int i64 (s.la.A k),int i64 (s.la.B k)] 3)).alloc (.cells #[.slice (some ⟨a.heap.size,0,none⟩) 2 2] 23)) (.slice va k vc) s.la k g/\Below W.heap.size W ((a.alloc (.cells #[int i64 (s.la.A k),int i64 (s.la.B k)] 3)).alloc (.cells #[.slice (some ⟨a.heap.size,0,none⟩) 2 2] 23))):=⟨f.out.1.below (zr (zr bZ _) _),zr (zr f.out.2 _) _⟩;have HM:Hid (((a.alloc (.cells #[int i64 (s.la.A k),int i64 (s.la.B k)] 3)).alloc (.cells #[.slice (some ⟨a.heap.size,0,none⟩) 2 2] 23)).heap[a.heap.size]?=some (.cells #[int i64 (s.la.A k),int i64 (s.la.B k)] 3 (0,0))):=ze (heap_alloc_new a _) _;have q:=c.out.2.size;have F:(a.alloc (.cells #[int i64 (s.la.A k),int i64 (s.la.B k)] 3)).heap.size=a.heap.size+1:=by simp
   have D:Hid (∀ j u,[Value.slice (some ⟨a.heap.size,0,none⟩) 2 2][j]?=some u->((a.alloc (.cells #[int i64 (s.la.A k),int i64 (s.la.B k)] 3)).alloc (.cells #[.slice (some ⟨a.heap.size,0,none⟩) 2 2] 23)).cell? ((⟨a.heap.size+1,0,none⟩:Addr).add j)=some u):=by
    have:=World.news_of_block (heap_alloc_new (a.alloc (.cells #[int i64 (s.la.A k),int i64 (s.la.B k)] 3)) (.cells #[.slice (some ⟨a.heap.size,0,none⟩) 2 2] 23));rw[F] at this;exact this
   clear f;go_wp2_with (first|(at_builtin;refine zz _ (by rfl) (.tmp 16) (.tmp 22) 112 (by rfl) W.heap.size 23 j0 (.slice none 0 0) 1 24 Tryz.underlying112 ji c6 c7 c8 rfl (by decide) _ k ((List.range k).map (fun i=>Value.slice (some ⟨g i,0,none⟩) 2 2)) (by rfl) c.out.1.own (some ⟨a.heap.size+1,0,none⟩) 1 1 [.slice (some ⟨a.heap.size,0,none⟩) 2 2] (by rfl) (fun h=>by cases h) (by rfl) (fun ad h=>by cases h;exact D.out) (by intro u hu;simp only[List.mem_cons,List.not_mem_nil,or_false] at hu;subst hu;rfl) (by unfold maxLen;omega) (by omega) q ?_;intro v9 w9 E p))
   have b6:Hid (PSt W w9 v9 s.la (k+1) (fun i=>if i=k then a.heap.size else g i)/\Below W.heap.size W w9):=⟨c.out.1.app HM.out p E,c.out.2.grown p q (fun j hj=>(World.ownsRow.lt c.out.1.own j hj).1)⟩
   clear c HM D q F z0 z1 E p;go_roundw
   case rel=>exact⟨k+1,_,by omega,by go_num,b6.out⟩
   case measure=>simp[intOf];omega
  ·obtain rfl:G=k:=by omega
   clear y5;obtain⟨va,vc,rfl,_⟩:=zt d.out.1.own;have c0:Hid (zhq wr va s.la):=by
    have h:=d.out.1;rw[← C.out.1] at h;exact h.rows
   have b5:=hI (zj a0.out d.out.2);have b2:=zc B0.out d.out.2;clear d B0 a0;obtain⟨o,e2⟩:∃ z,z=wr:=⟨_,rfl⟩;subst e2;have y6:=za b2 6 _ rfl;have B2:=hI b2;clear b2;have H0:Hid (PSt o o (.slice none 0 0) s.ca 0 (fun _=>0)):=⟨World.ownsRow_nil _ _ _ _,fun i hi=>by omega⟩
   go_wp2;go_loopw [4,8,28] (fun v _ i wr=>∃ (k:Nat) (g:Nat->Nat),k<=H/\i=int i64 k/\Hid (PSt o wr v s.ca k g/\Below o.heap.size o wr)) (fun _ _ i _=>H - (intOf i).toNat)
   case atStart=>exact⟨0,_,Nat.zero_le _,rfl,H0.out,bZ⟩
   case round =>
    obtain⟨k,g,hk,rfl,d⟩:=hrel;clear H0
    by_cases hlt:k<H
    ·obtain⟨b,off,rfl,hc,hd⟩:=(c4.out.2.below b5.out) k (by rw[C.out.2];exact hlt)
     have b8:wr.cell? ⟨b,off+k*2,none⟩=some (int i64 (s.ca.A k)):=(d.out.2.cell (World.block_lt_of_cell? o _ hc)).trans hc;have b9:wr.cell? ⟨b,off+k*2+1,none⟩=some (int i64 (s.ca.B k)):=(d.out.2.cell (World.block_lt_of_cell? o _ hd)).trans hd;clear hc hd;obtain⟨va,vc,rfl,_⟩:=zt d.out.1.own;have N:=heap_alloc_new wr (.cells #[int i64 (s.ca.A k),int i64 (s.ca.B k)] 110);have f:Hid (PSt o (wr.alloc (.cells #[int i64 (s.ca.A k),int i64 (s.ca.B k)] 110)) (.slice va k vc) s.ca k g/\Below o.heap.size o (wr.alloc (.cells #[int i64 (s.ca.A k),int i64 (s.ca.B k)] 110))):=⟨d.out.1.below (zr bZ _),zr d.out.2 _⟩;go_upto_region 10 with fail;generalize wr.alloc (.cells #[int i64 (s.ca.A k),int i64 (s.ca.B k)] 110)=a at N f ⊢;have z0:=za N 0 _ rfl;have z1:=za N 1 _ rfl;clear d b8 b9 N;have c:Hid (PSt o ((a.alloc (.cells #[int i64 (s.ca.A k),int i64 (s.ca.B k)] 3)).alloc (.cells #[.slice (some ⟨a.heap.size,0,none⟩) 2 2] 23)) (.slice va k vc) s.ca k g/\Below o.heap.size o ((a.alloc (.cells #[int i64 (s.ca.A k),int i64 (s.ca.B k)] 3)).alloc (.cells #[.slice (some ⟨a.heap.size,0,none⟩) 2 2] 23))):=⟨f.out.1.below (zr (zr bZ _) _),zr (zr f.out.2 _) _⟩;have HM:Hid (((a.alloc (.cells #[int i64 (s.ca.A k),int i64 (s.ca.B k)] 3)).alloc (.cells #[.slice (some ⟨a.heap.size,0,none⟩) 2 2] 23)).heap[a.heap.size]?=some (.cells #[int i64 (s.ca.A k),int i64 (s.ca.B k)] 3 (0,0))):=ze (heap_alloc_new a _) _;have q:=c.out.2.size;have F:(a.alloc (.cells #[int i64 (s.ca.A k),int i64 (s.ca.B k)] 3)).heap.size=a.heap.size+1:=by simp
     have D:Hid (∀ j u,[Value.slice (some ⟨a.heap.size,0,none⟩) 2 2][j]?=some u->((a.alloc (.cells #[int i64 (s.ca.A k),int i64 (s.ca.B k)] 3)).alloc (.cells #[.slice (some ⟨a.heap.size,0,none⟩) 2 2] 23)).cell? ((⟨a.heap.size+1,0,none⟩:Addr).add j)=some u):=by
      have:=World.news_of_block (heap_alloc_new (a.alloc (.cells #[int i64 (s.ca.A k),int i64 (s.ca.B k)] 3)) (.cells #[.slice (some ⟨a.heap.size,0,none⟩) 2 2] 23));rw[F] at this;exact this
     clear f;go_wp2_with (first|(at_builtin;refine zz _ (by rfl) (.tmp 32) (.tmp 38) 112 (by rfl) o.heap.size 23 j0 (.slice none 0 0) 1 24 Tryz.underlying112 ji c6 c7 c8 rfl (by decide) _ k ((List.range k).map (fun i=>Value.slice (some ⟨g i,0,none⟩) 2 2)) (by rfl) c.out.1.own (some ⟨a.heap.size+1,0,none⟩) 1 1 [.slice (some ⟨a.heap.size,0,none⟩) 2 2] (by rfl) (fun h=>by cases h) (by rfl) (fun ad h=>by cases h;exact D.out) (by intro u hu;simp only[List.mem_cons,List.not_mem_nil,or_false] at hu;subst hu;rfl) (by unfold maxLen;omega) (by omega) q ?_;intro v9 w9 E p))
     have b6:Hid (PSt o w9 v9 s.ca (k+1) (fun i=>if i=k then a.heap.size else g i)/\Below o.heap.size o w9):=⟨c.out.1.app HM.out p E,c.out.2.grown p q (fun j hj=>(World.ownsRow.lt c.out.1.own j hj).1)⟩
     clear c HM D q F z0 z1 E p;go_roundw
     case rel=>exact⟨k+1,_,by omega,by go_num,b6.out⟩
     case measure=>simp[intOf];omega
    ·obtain rfl:H=k:=by omega
     clear y6;obtain⟨vb,vd,rfl,_⟩:=zt d.out.1.own;have d9:Hid (zhq wr vb s.ca):=by
      have h:=d.out.1;rw[← C.out.2] at h;exact h.rows
     have c3:=hI (c0.out.below d.out.2);have c9:=hI (zj b5.out d.out.2);have b3:=zc B2.out d.out.2;clear d c0 b5 B2;have lA:=zZ b3;have x0:∀ h:qe wr,h.val.cell? ⟨w.heap.size,0,none⟩=some (int i64 s.id):=fun h=>(h.bel.cell lA).trans (za b3 0 _ rfl)
     have x1:∀ h:qe wr,h.val.cell? ⟨w.heap.size,1,none⟩=some (.string s.fr):=fun h=>(h.bel.cell lA).trans (za b3 1 _ rfl)
     have x2:∀ h:qe wr,h.val.cell? ⟨w.heap.size,2,none⟩=some (.string s.dst):=fun h=>(h.bel.cell lA).trans (za b3 2 _ rfl)
     have x3:∀ h:qe wr,h.val.cell? ⟨w.heap.size,3,none⟩=some (int i64 s.dep):=fun h=>(h.bel.cell lA).trans (za b3 3 _ rfl)
     have x4:∀ h:qe wr,h.val.cell? ⟨w.heap.size,4,none⟩=some (int i64 s.arr):=fun h=>(h.bel.cell lA).trans (za b3 4 _ rfl)
     have x7:∀ h:qe wr,h.val.cell? ⟨w.heap.size,7,none⟩=some (int i64 s.most):=fun h=>(h.bel.cell lA).trans (za b3 7 _ rfl)
     clear b3;have l:Hid _:=zbY HG.out;have rg:=l.out;have m0:=qh (n:=s.id) (by omega) (by omega)
     have m1:=qh (n:=s.dep) (by omega) (by omega)
     have m2:=qh (n:=s.arr) (by omega) (by omega)
     have m3:=qh (n:=s.most) (by omega) (by omega)
     have m4:=zaL (zbp HG.out);have m5:=zaL (zbq HG.out);have q1:(⟨#[32]⟩:ByteArray).size=1:=rfl;have q2:(⟨#[115,97,105,108,32]⟩:ByteArray).size=5:=rfl;have m6:=rg.2.2.2.2.1;have m7:=rg.2.2.2.2.2;have m:=text_all s;obtain⟨a1,O⟩:∃ z,z=(⟨#[115,97,105,108,32]⟩:ByteArray)++(qf s.id):=⟨_,rfl⟩;have z1:a1.size<=1*7000:=by rw[O,ByteArray.size_append];omega
     have r1:∀ W:World,(Op.stringOp .add ⟨#[115,97,105,108,32]⟩ (qf s.id)).run Tryz.prog W=.ok (.string a1) W:=by rw[O];exact qk _ _ (by omega) (by omega)
     rw[← O] at m;clear O;obtain⟨a2,P⟩:∃ z,z=a1++⟨#[32]⟩:=⟨_,rfl⟩;have z2:a2.size<=2*7000:=by rw[P,ByteArray.size_append];omega
     have r2:∀ W:World,(Op.stringOp .add a1 ⟨#[32]⟩).run Tryz.prog W=.ok (.string a2) W:=by rw[P];exact qk _ _ (by omega) (by omega)
     rw[← P] at m;clear P;obtain⟨a3,Q⟩:∃ z,z=a2++s.fr:=⟨_,rfl⟩;have z3:a3.size<=3*7000:=by rw[Q,ByteArray.size_append];omega
     have r3:∀ W:World,(Op.stringOp .add a2 s.fr).run Tryz.prog W=.ok (.string a3) W:=by rw[Q];exact qk _ _ (by omega) (by omega)
     rw[← Q] at m;clear Q;obtain⟨a4,R⟩:∃ z,z=a3++⟨#[32]⟩:=⟨_,rfl⟩;have z4:a4.size<=4*7000:=by rw[R,ByteArray.size_append];omega
     have r4:∀ W:World,(Op.stringOp .add a3 ⟨#[32]⟩).run Tryz.prog W=.ok (.string a4) W:=by rw[R];exact qk _ _ (by omega) (by omega)
     rw[← R] at m;clear R;obtain⟨a5,S⟩:∃ z,z=a4++s.dst:=⟨_,rfl⟩;have z5:a5.size<=5*7000:=by rw[S,ByteArray.size_append];omega
     have r5:∀ W:World,(Op.stringOp .add a4 s.dst).run Tryz.prog W=.ok (.string a5) W:=by rw[S];exact qk _ _ (by omega) (by omega)
     rw[← S] at m;clear S;obtain⟨a6,T⟩:∃ z,z=a5++⟨#[32]⟩:=⟨_,rfl⟩;have z6:a6.size<=6*7000:=by rw[T,ByteArray.size_append];omega
     have r6:∀ W:World,(Op.stringOp .add a5 ⟨#[32]⟩).run Tryz.prog W=.ok (.string a6) W:=by rw[T];exact qk _ _ (by omega) (by omega)
     rw[← T] at m;clear T;obtain⟨a7,U⟩:∃ z,z=a6++(qf s.dep):=⟨_,rfl⟩;have z7:a7.size<=7*7000:=by rw[U,ByteArray.size_append];omega
     have r7:∀ W:World,(Op.stringOp .add a6 (qf s.dep)).run Tryz.prog W=.ok (.string a7) W:=by rw[U];exact qk _ _ (by omega) (by omega)
     rw[← U] at m;clear U;obtain⟨a8,V⟩:∃ z,z=a7++⟨#[32]⟩:=⟨_,rfl⟩;have z8:a8.size<=8*7000:=by rw[V,ByteArray.size_append];omega
     have r8:∀ W:World,(Op.stringOp .add a7 ⟨#[32]⟩).run Tryz.prog W=.ok (.string a8) W:=by rw[V];exact qk _ _ (by omega) (by omega)
     rw[← V] at m;clear V;obtain⟨a9,X⟩:∃ z,z=a8++(qf s.arr):=⟨_,rfl⟩;have z9:a9.size<=9*7000:=by rw[X,ByteArray.size_append];omega
     have r9:∀ W:World,(Op.stringOp .add a8 (qf s.arr)).run Tryz.prog W=.ok (.string a9) W:=by rw[X];exact qk _ _ (by omega) (by omega)
     rw[← X] at m;clear X;obtain⟨I,r⟩:∃ z,z=a9++⟨#[32]⟩:=⟨_,rfl⟩;have e9:I.size<=10*7000:=by rw[r,ByteArray.size_append];omega
     have e3:∀ W:World,(Op.stringOp .add a9 ⟨#[32]⟩).run Tryz.prog W=.ok (.string I) W:=by rw[r];exact qk _ _ (by omega) (by omega)
     rw[← r] at m;clear r;obtain⟨J,t⟩:∃ z,z=I++(qf s.most):=⟨_,rfl⟩;have f0:J.size<=11*7000:=by rw[t,ByteArray.size_append];omega
     have e4:∀ W:World,(Op.stringOp .add I (qf s.most)).run Tryz.prog W=.ok (.string J) W:=by rw[t];exact qk _ _ (by omega) (by omega)
     rw[← t] at m;clear t;obtain⟨K,x⟩:∃ z,z=J++⟨#[32]⟩:=⟨_,rfl⟩;have f1:K.size<=12*7000:=by rw[x,ByteArray.size_append];omega
     have e5:∀ W:World,(Op.stringOp .add J ⟨#[32]⟩).run Tryz.prog W=.ok (.string K) W:=by rw[x];exact qk _ _ (by omega) (by omega)
     rw[← x] at m;clear x;obtain⟨L,y⟩:∃ z,z=K++(qu s.la):=⟨_,rfl⟩;have f2:L.size<=13*7000:=by rw[y,ByteArray.size_append];omega
     have e6:∀ W:World,(Op.stringOp .add K (qu s.la)).run Tryz.prog W=.ok (.string L) W:=by rw[y];exact qk _ _ (by omega) (by omega)
     rw[← y] at m;clear y;obtain⟨M,A⟩:∃ z,z=L++⟨#[32]⟩:=⟨_,rfl⟩;have f4:M.size<=14*7000:=by rw[A,ByteArray.size_append];omega
     have e7:∀ W:World,(Op.stringOp .add L ⟨#[32]⟩).run Tryz.prog W=.ok (.string M) W:=by rw[A];exact qk _ _ (by omega) (by omega)
     rw[← A] at m;clear A;obtain⟨c5,B⟩:∃ z,z=M++(qu s.ca):=⟨_,rfl⟩;have f5:c5.size<=15*7000:=by rw[B,ByteArray.size_append];omega
     have e8:∀ W:World,(Op.stringOp .add M (qu s.ca)).run Tryz.prog W=.ok (.string c5) W:=by rw[B];exact qk _ _ (by omega) (by omega)
     rw[← B] at m;clear B;have d0:=hI m;clear m rg;have d5:Hid (∀ W:World,Calls Tryz.prog 47 #[int i64 s.id] W fun e w'=>e=.returned (.string (qf s.id))/\Below W.heap.size W w'):=fun W=>Za (by have:=l.out.1;omega) (by have:=l.out.1;omega) W
     have d6:Hid (∀ W:World,Calls Tryz.prog 47 #[int i64 s.dep] W fun e w'=>e=.returned (.string (qf s.dep))/\Below W.heap.size W w'):=fun W=>Za (by have:=l.out.2.1;omega) (by have:=l.out.2.1;omega) W
     have d7:Hid (∀ W:World,Calls Tryz.prog 47 #[int i64 s.arr] W fun e w'=>e=.returned (.string (qf s.arr))/\Below W.heap.size W w'):=fun W=>Za (by have:=l.out.2.2.1;omega) (by have:=l.out.2.2.1;omega) W
     have d8:Hid (∀ W:World,Calls Tryz.prog 47 #[int i64 s.most] W fun e w'=>e=.returned (.string (qf s.most))/\Below W.heap.size W w'):=fun W=>Za (by have:=l.out.2.2.2.1;omega) (by have:=l.out.2.2.2.1;omega) W
     have e0:Hid (∀ h:qe wr,Calls Tryz.prog 68 #[.slice va G vc] h.val fun e w'=>e=.returned (.string (qu s.la))/\Below h.val.heap.size h.val w'):=fun h=>by rw[← C.out.1];exact zcM va vc s.la _ (zbp HG.out) (c3.out.below h.bel)
     have e1:Hid (∀ h:qe wr,Calls Tryz.prog 68 #[.slice vb H vd] h.val fun e w'=>e=.returned (.string (qu s.ca))/\Below h.val.heap.size h.val w'):=fun h=>by rw[← C.out.2];exact zcM vb vd s.ca _ (zbq HG.out) (d9.out.below h.bel)
     go_upto_region 12 with fail;refine zp (by kernel_rfl) (by kernel_rfl) ?_
     repeat(first|go_big_quiet_skip|(go_big_quiet_want;go_big_quiet_op;first|go_big_quiet_on|(apply Exists.intro;refine⟨fun g=>?_,?_⟩;(focus(first|(go_at_call 47;with_reducible refine zi (v:=.string (qf s.id)) (d5.out _))|(go_at_call 47;with_reducible refine zi (v:=.string (qf s.dep)) (d6.out _))|(go_at_call 47;with_reducible refine zi (v:=.string (qf s.arr)) (d7.out _))|(go_at_call 47;with_reducible refine zi (v:=.string (qf s.most)) (d8.out _))|(go_at_call 68;with_reducible refine zi (v:=.string (qu s.la)) (e0.out _))|(go_at_call 68;with_reducible refine zi (v:=.string (qu s.ca)) (e1.out _))));go_big_quiet_on)))
     refine wpQuiet_nil ?_;rintro _ ⟨h,rfl⟩;go_wp2;go_ret;exact⟨congrArg (fun z=>Ending.returned (Value.string z)) d0.out,zj c9.out h.bel⟩
theorem zfq (s:Sail)(lo d:Option Addr)(i j:Nat)(w:World)(o:s.fr.size<=1000000000000000)(p:s.dst.size<=1000000000000000)(hn:s.la.n<=1048576)(G:s.ca.n<=1048576)(u:qd w lo s.la)(x:qd w d s.ca) :
  Calls Tryz.prog 11 #[.agg #[int i64 s.id,.string s.fr,.string s.dst,int i64 s.dep,int i64 s.arr,.slice lo s.la.n i,.slice d s.ca.n j,int i64 s.most]] w fun e w'=>e=.returned (.tuple #[.string (zfp s),.bool (zdv s)])/\Below w.heap.size w w':=by
 have b:Hid (qd w lo s.la/\qd w d s.ca):=⟨u,x⟩;have a:Below w.heap.size w (w.alloc (.cells #[int i64 s.id,.string s.fr,.string s.dst,int i64 s.dep,int i64 s.arr,.slice lo s.la.n i,.slice d s.ca.n j,int i64 s.most] 37)):=zr bZ _;have l:=heap_alloc_new w (.cells #[int i64 s.id,.string s.fr,.string s.dst,int i64 s.dep,int i64 s.arr,.slice lo s.la.n i,.slice d s.ca.n j,int i64 s.most] 37);clear u x;go_enter Tryz.func11,Tryz.ntmps11;go_upto_region 1 with fail;generalize w.alloc (.cells #[int i64 s.id,.string s.fr,.string s.dst,int i64 s.dep,int i64 s.arr,.slice lo s.la.n i,.slice d s.ca.n j,int i64 s.most] 37)=W at a l ⊢;obtain⟨y,z,A,B,C,D,E,F⟩:=ce8 l;go_wp2_with fail;refine(Zw _ _ _ _ _ _ _ _ _ _ _ _ s.la s.ca _ rfl rfl o p hn G (b.out.1.below a) (b.out.2.below a)).mono ?_;rintro e w2 ⟨⟨q,rfl,t⟩,f⟩;have m:=hI t;have b2:=zc l f;have c:=zj a f;clear y z A B C D E F l a f t
 cases q with
 | false =>
  have k:¬ zU s:=fun h=>by have:=m.out.2 h;cases this
  have g:=hI (zdx k);clear k;go_wp2;exact bodyPost_ret (v:=.tuple #[.string ⟨#[]⟩,.bool false]) (by simp[results,Tryz.results11,go_sem]) rfl ⟨by rw[g.out.1,g.out.2],c⟩
 | true =>
  have r:Hid (zU s):=by first|exact m.out.1 rfl|exact m.out.1 trivial
  have g:=hI (zaw r.out);obtain⟨y,z,A,B,C,D,E,F⟩:=ce8 b2;go_wp2_with fail;refine(zhr s lo d i j _ r.out (b.out.1.below c) (b.out.2.below c)).mono ?_;rintro e w4 ⟨rfl,n⟩;go_wp2;exact bodyPost_ret (v:=.tuple #[.string (QS s),.bool true]) (by simp[results,Tryz.results11,go_sem]) rfl ⟨by rw[g.out.1,g.out.2],zj c n⟩
end Go.Proofs.YtfallpinmhbemaaGreatDoor
namespace Go.Proofs
open Go.Value (int)
open Go.IntKind (i64)
open Go.Shelf
shelf_lay Lays.n118 Nm 118 at Tryz as Tryz.lays118
end Go.Proofs
namespace Go.Proofs.YtfallpinmhbemaaGreatDoor
open Go.Value (int)
open Go.IntKind (i64)
open Go.RowKit
theorem zhu (p:UInt8):zbZ p [] [[]]:=⟨by simp,rfl,fun q a=>by simp at a;rw[a];simp⟩
theorem ziy {p:UInt8}{x q t:List UInt8}{l:List (List UInt8)}(h:zbZ p x (l++[q]))(b:p∉t):zbZ p (x++t) (l++[q++t]):=by
 refine⟨by simp,?_,fun r a=>?_⟩
 ·rw[← h.2.1]
  by_cases c:l=[]
  ·subst c
   simp[Lib.join_one]
  ·rw[zbT _ _ _ c,zbT _ _ _ c]
   simp
 ·rcases List.mem_append.1 a with a|a
  ·exact h.2.2 r (by simp[a])
  ·simp at a
   rw[a];have:=h.2.2 q (by simp)
   simp[this,b]
theorem parts_sep {p:UInt8}{x q:List UInt8}{l:List (List UInt8)}(h:zbZ p x (l++[q])):zbZ p (x++[p]) ((l++[q])++[[]]):=by
 refine⟨by simp,?_,fun r a=>?_⟩
 ·rw[zbT _ _ _ (by simp),h.2.1]
  simp
 ·rcases List.mem_append.1 a with a|a
  ·exact h.2.2 r a
  ·simp at a
   rw[a];simp
theorem zdc (s:ByteArray)(a b:Nat):(s.extract a b).data.toList=(s.data.toList.drop a).take (b - a):=by
 simp
def zca (p:UInt8)(s:ByteArray)(a st:Nat)(l:List ByteArray):Prop:=st<=a/\a<=s.size/\l.length<=a/\zbZ p (s.data.toList.take a) (l.map (·.data.toList)++[(s.data.toList.drop st).take (a - st)])
theorem zca.start (p:UInt8)(s:ByteArray):zca p s 0 0 []:=⟨Nat.le_refl _,Nat.zero_le _,Nat.le_refl _,by simpa using zhu p⟩
theorem zca.skip {p:UInt8}{s:ByteArray}{f e st:Nat}{l:List ByteArray}(h:zca p s f st l)(h1:f<=e)(o:e<=s.size)(hn:∀ j,f<=j->j<e->∀ k:j<s.size,s[j]'k≠p):zca p s e st l:=by
 obtain⟨a,b,c,d⟩:=h;refine⟨by omega,o,by omega,?_⟩
 have hl:s.data.toList.length=s.size:=Array.length_toList;have m:s.data.toList.take e=s.data.toList.take f++(s.data.toList.drop f).take (e - f):=by
  rw[show e=f+(e - f) by omega,List.take_add]
  simp
 have n:(s.data.toList.drop st).take (e - st)=(s.data.toList.drop st).take (f - st)++(s.data.toList.drop f).take (e - f):=by
  rw[show e - st=(f - st)+(e - f) by omega,List.take_add,List.drop_drop,show st+(f - st)=f by omega]
 rw[m,n];refine ziy d ?_;intro q;obtain⟨i,g⟩:=List.mem_iff_getElem?.1 q;rw[List.getElem?_take] at g
 split at g
 ·rename_i hlt
  rw[List.getElem?_drop] at g;have k:f+i<s.size:=by omega
  rw[zez k] at g;exact hn (f+i) (by omega) (by omega) k (by simpa using g)
 ·cases g
theorem zca.sep {p:UInt8}{s:ByteArray}{e st:Nat}{l:List ByteArray}(h:zca p s e st l)(f:e<s.size)(g:s[e]'f=p):zca p s (e+1) (e+1) (l++[s.extract st e]):=by
 obtain⟨a,b,c,d⟩:=h;refine⟨Nat.le_refl _,by omega,by rw[List.length_append,List.length_singleton];omega,?_⟩
 have:=parts_sep d;rw[List.map_append,List.map_cons,List.map_nil,zdc,List.take_add_one,zez f,g]
 simpa using this
theorem zca.done {p:UInt8}{s:ByteArray}{st:Nat}{l:List ByteArray}(h:zca p s s.size st l):Q2 p s (l++[s.extract st s.size]):=by
 obtain⟨a,b,c,d⟩:=h;have hl:s.data.toList.length=s.size:=Array.length_toList;rw[← zdc,List.take_of_length_le (by omega)] at d
 refine⟨by simp,?_,fun q e=>?_⟩
 ·apply zda
  unfold qD oneT;have:=d.2.1
  simpa using this
 ·refine d.2.2 _ ?_
  rcases List.mem_append.1 e with e|e
  ·exact List.mem_append.2 (.inl (List.mem_map.2 ⟨q,e,rfl⟩))
  ·simp at e
   rw[e];simp
theorem zgw (w:World)(k:Nat)(s:ByteArray)(a:Nat):zA w (w.iterAt k s a) (fun b=>b=k):=⟨rfl,rfl,rfl,by rw[Lib.iterAt_size];exact Nat.le_refl _,fun i _ hn=>Lib.iterAt_other w k i s a hn⟩
theorem zbl {w:World}{base e size n k c:Nat}{v:Value}{i:List Value}{s:ByteArray}(h:w.ownsRow base e size v n i)(f:w.heap[k]?=some (.stringIter s c)):∀ g,v.ownBlock=some g->¬ g=k:=by
 rintro g a rfl
 rcases h.2 with⟨rfl,_⟩|⟨g',d,cur,rfl,_,b,_⟩
 ·simp[Value.ownBlock] at a
 ·simp only[Value.ownBlock,Option.some.injEq] at a
  subst a;rw[b] at f
  cases f
set_option maxHeartbeats 1600000 in
set_option maxRecDepth 100000 in
theorem zaO (s:ByteArray)(p:UInt8)(w:World)(hp:p.toNat<128)(hs:s.size<=1048576) :
  Calls Tryz.prog 57 #[.string s,.int .i32 p.toNat] w fun e w'=>∃ v l,e=.returned v/\zcZ w' w.heap.size v l/\Hid (Q2 p s l/\l.length<=s.size+1)/\Below w.heap.size w w':=by
 obtain⟨j0,ji,Q,R,S⟩:=info_parts Tryz.infoText;have L:(w.iter s 0).heap[w.heap.size]?=some (.stringIter s 0):=World.iter_heap w s 0;have J:Below w.heap.size w (w.iter s 0):=zr bZ _;have V:Hid (∀ W:World,Calls Tryz.prog 94 #[.int .i32 p.toNat] W fun e w'=>e=.returned (int i64 1)/\w'=W):=fun W=>by
  have h:=Any.utf8_RuneLen Tryz.lays118 (p.toNat:Int) W;rw[show Lib.runeLen (p.toNat:Int)=1 from by unfold Lib.runeLen;rw[if_neg (by omega),if_pos (by omega)]] at h
  exact h
 go_enter Tryz.func57,Tryz.ntmps57;go_wp2;go_loopw [5,6,7,8] (fun v vs _ _ wr=>∃ (a st:Nat) (l:List ByteArray),vs=int i64 st/\wr.heap[w.heap.size]?=some (.stringIter s a)/\Hid (zca p s a st l)/\Hid (zcZ wr w.heap.size v l)/\Below w.heap.size w wr)
  (fun _ _ _ _ wr=>s.size - wr.iterPos w.heap.size)
 case atStart=>exact⟨0,0,[],rfl,L,zca.start p s,World.ownsRow_nil _ _ _ _,J⟩
 case round =>
  obtain⟨a,st,l,rfl,q,C,A,f⟩:=hrel;clear L J;have B:wr.iterPos w.heap.size=a:=by simp[World.iterPos,q]
  obtain⟨la,lc,rfl,_⟩:=zt A.out;have a2:=C.out.1;have a1:=C.out.2.1;have a0:=C.out.2.2.1
  by_cases hlt:a<s.size
  ·by_cases h128:(s[a]'hlt).toNat<128
   ·have b:∀ z,(Instr.next (.pointer (some ⟨w.heap.size,0,none⟩)) true z).run Tryz.prog wr=_:=fun z=>Lib.run_next_ascii_at wr w.heap.size s a z q hlt h128
    have g:=Lib.iterAt_heap wr w.heap.size s a (a+1) q;have n:Below w.heap.size w (wr.iterAt w.heap.size s (a+1)):=Lib.below_iterAt f (Nat.le_refl _) s (a+1);have k:Hid (zcZ (wr.iterAt w.heap.size s (a+1)) w.heap.size (.slice la l.length lc) l):=(zgw wr w.heap.size s (a+1)).own A.out (zbl A.out q);generalize wr.iterAt w.heap.size s (a+1)=E at b g n k
    by_cases he:s[a]'hlt=p
    ·have r:=hI (C.out.sep hlt he)
     rw[he] at b;have ep:((p.toNat:Int) == (p.toNat:Int))=true:=by simp
     have a3:IntKind.i64.wrap ((a:Int)+1)=((a+1:Nat):Int):=by rw[IntKind.wrap_i64];omega
     have i1:(0:Int)<=(st:Int):=by omega
     have i2:(st:Int)<=(a:Int):=by omega
     have i3:(a:Int)<=(s.size:Int):=by omega
     have m:Hid (zcZ (E.alloc (.cells #[.string (s.extract st a)] 9)) w.heap.size (.slice la l.length lc) l):=zm (zr bZ _) k.out;have t:Below w.heap.size w (E.alloc (.cells #[.string (s.extract st a)] 9)):=zr n _;have M:=ze g (.cells #[.string (s.extract st a)] 9);have y:=t.size;clear q f A he;go_wp2_with (first|(go_at_call 94;(with_reducible refine Calls.mono (V.out _) ?_);rintro e w3 ⟨rfl,H⟩;have H:=H.symm;subst H)|(at_builtin;refine zz _ (by rfl) (.tmp 18) (.tmp 23) 46 (by rfl) w.heap.size 9 j0 (.string ⟨#[]⟩) 1 16 Tryz.underlying46 ji Q R S rfl (by decide) _ l.length (l.map Value.string) (by rfl) m.out (some ⟨E.heap.size,0,none⟩) 1 1 [.string (s.extract st a)] (by rfl) (fun h=>by cases h) (by rfl) (fun ad h=>by cases h;exact World.news_of_block (heap_alloc_new E _)) (by intro u P;simp only[List.mem_cons,List.not_mem_nil,or_false] at P;subst P;rfl) (by unfold maxLen;omega) (by omega) y ?_;intro Y T x o;have N:=(zO o).blk M (fun e=>zbl m.out M _ e rfl);have F:=t.grown o y (fun j I=>(World.ownsRow.lt m.out j I).1);have D:Hid (zcZ T w.heap.size Y (l++[s.extract st a])):=(by unfold zcZ;rw[List.length_append,List.map_append];exact x);clear x o))
     go_roundw
     case rel=>exact⟨a+1,a+1,_,by go_num,N,r,D,F⟩
     case measure =>
      have i:T.iterPos w.heap.size=a+1:=by simp[World.iterPos,N]
      rw[B,i]
      omega
    ·have r:Hid (zca p s (a+1) st l):=C.out.skip (by omega) (by omega) (fun j Z h2 I=>by
      obtain rfl:a=j:=by omega
      exact he)
     have X:(s[a]'hlt).toNat≠p.toNat:=fun e=>he (UInt8.toNat_inj.1 e)
     have O:(((s[a]'hlt).toNat:Int) == (p.toNat:Int))=false:=by rw[beq_eq_false_iff_ne];omega
     clear q f A he;go_wp2;go_roundw
     case rel=>exact⟨a+1,st,l,rfl,g,r,k,n⟩
     case measure =>
      have i:E.iterPos w.heap.size=a+1:=by simp[World.iterPos,g]
      rw[B,i]
      omega
   ·have G:=zht s a hlt (by omega)
    have K:=decode_high s a hlt (by omega)
    have b:∀ z,(Instr.next (.pointer (some ⟨w.heap.size,0,none⟩)) true z).run Tryz.prog wr=_:=fun z=>Lib.run_next_any_at wr w.heap.size s a z q hlt
    generalize (Utf8.decode s a).2=d at G K b;have g:=Lib.iterAt_heap wr w.heap.size s a (a+d) q;have n:Below w.heap.size w (wr.iterAt w.heap.size s (a+d)):=Lib.below_iterAt f (Nat.le_refl _) s (a+d);have k:Hid (zcZ (wr.iterAt w.heap.size s (a+d)) w.heap.size (.slice la l.length lc) l):=(zgw wr w.heap.size s (a+d)).own A.out (zbl A.out q);generalize wr.iterAt w.heap.size s (a+d)=E at b g n k;have r:Hid (zca p s (a+d) st l):=C.out.skip (by omega) G.1 (fun j Z h2 I e=>by
     have:=G.2 j Z h2 I;rw[e] at this
     omega)
    generalize (Utf8.decode s a).1=c at K b;have O:((c:Int) == (p.toNat:Int))=false:=by rw[beq_eq_false_iff_ne];omega
    have X:c≠p.toNat:=by omega
    clear q f A;go_wp2;go_roundw
    case rel=>exact⟨a+d,st,l,rfl,g,r,k,n⟩
    case measure =>
     have i:E.iterPos w.heap.size=a+d:=by simp[World.iterPos,g]
     rw[B,i]
     omega
  ·obtain rfl:a=s.size:=by omega
   have b:∀ z,(Instr.next (.pointer (some ⟨w.heap.size,0,none⟩)) true z).run Tryz.prog wr=_:=fun z=>Lib.run_next_end_at wr w.heap.size s s.size z q hlt
   have U:Hid (Q2 p s (l++[s.extract st s.size])/\(l++[s.extract st s.size]).length<=s.size+1):=⟨C.out.done,by rw[List.length_append,List.length_singleton];omega⟩
   have m:Hid (zcZ (wr.alloc (.cells #[.string (s.extract st s.size)] 9)) w.heap.size (.slice la l.length lc) l):=zm (zr bZ _) A.out;have t:Below w.heap.size w (wr.alloc (.cells #[.string (s.extract st s.size)] 9)):=zr f _;have y:=t.size;have i1:(0:Int)<=(st:Int):=by omega
   have i2:(st:Int)<=(s.size:Int):=by omega
   clear q A B;go_wp2_with (first|(at_builtin;refine zz _ (by rfl) (.tmp 29) (.tmp 33) 46 (by rfl) w.heap.size 9 j0 (.string ⟨#[]⟩) 1 16 Tryz.underlying46 ji Q R S rfl (by decide) _ l.length (l.map Value.string) (by rfl) m.out (some ⟨wr.heap.size,0,none⟩) 1 1 [.string (s.extract st s.size)] (by rfl) (fun h=>by cases h) (by rfl) (fun ad h=>by cases h;exact World.news_of_block (heap_alloc_new wr _)) (by intro u P;simp only[List.mem_cons,List.not_mem_nil,or_false] at P;subst P;rfl) (by unfold maxLen;omega) (by omega) y ?_;intro Y T x o;have F:=t.grown o y (fun j I=>(World.ownsRow.lt m.out j I).1);have D:Hid (zcZ T w.heap.size Y (l++[s.extract st s.size])):=(by unfold zcZ;rw[List.length_append,List.map_append];exact x);clear x o))
   go_ret;exact⟨_,_,rfl,D.out,U.out,F⟩
end Go.Proofs.YtfallpinmhbemaaGreatDoor
namespace Go.Proofs.YtfallpinmhbemaaGreatDoor
open Go.RowKit
open Go.Value (int)
open Go.IntKind (i64)
set_option maxHeartbeats 64000000
set_option maxRecDepth 1000000
end Go.Proofs.YtfallpinmhbemaaGreatDoor
