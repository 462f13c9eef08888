import Derived.Test.YtgmdnkngnhkgbaaGreatB38
namespace Go.Proofs.YtgmdnkngnhkgbaaGreat
open Go.RowKit
open Go.Value (int)
open Go.IntKind (i64)
set_option maxHeartbeats 64000000
set_option maxRecDepth 1000000
theorem l7Do_a (g base N R k t M a3:Nat)(a2 a1 a0:Option Addr)(leg who:Int)(p:ZO)(x:Off)(L C A B D E:Nat->Value)(w:World)(hq:w.heap[g]?=some (.cells #[.slice a2 N t,.slice a1 N M,.slice a0 R a3] 27 (0,0)))(n:zy w base (.slice a2 N t) (.slice a1 N M) (.slice a0 R a3) N N R x L C A B D E)(hN:N<=1048576)(hk:zH x.sa leg N=k)(f:k<N)(c9:zV (x.sa k) (x.ld k))(r:Nat)(hr:r<(x.ld k).stn)(hx:Zb (x.ld k).st r=who)(V:∀ j,j<(x.ld k).stn->j≠r->Zb (x.ld k).st j≠who) :
  Calls Tryz.prog 118 #[.pointer (some ⟨g,0,none⟩),.agg #[int i64 leg,int i64 0,.bool true,int i64 who,int i64 p.pe,int i64 p.len,int i64 p.hei,int i64 p.cl,.bool p.all,int i64 p.be]] w fun e w'=>zcl g base N R k t M a3 a2 a1 a0 ⟨leg,0,true,who,p⟩ x L C E w e w':=by
 obtain⟨q,rfl,e5,a8⟩:=own_addr n.ld.row (by omega)
 have HO:=hI n;have HK:=hI hk;have Y:=hI c9;have d6:Hid (base<=w.heap.size):=by show base<=w.heap.size;omega
 have HQ:=hI hq;have S:=hI n.sa.at;obtain⟨cs,c8⟩:=zG n.ld.row q rfl;obtain⟨i,m,eA,m1,m2,m3⟩:=zr (n.ld.st k f);obtain⟨I,O,eB,m4,m5,m6⟩:=zr (n.ld.ro k f);obtain⟨J,P,eD,m7,m8,m9⟩:=zr (n.ld.se k f);have b7:Hid (w.ownsRow base 84 4 (.slice i (x.ld k).stn m) (x.ld k).stn (zN (x.ld k).st (x.ld k).stn)):=by show w.ownsRow _ _ _ _ _ _;rw[← eA];exact n.ld.st k f
 have e2:Hid (w.ownsRow base 93 4 (.slice I (x.ld k).ron O) (x.ld k).ron (zK (x.ld k).ro (x.ld k).ron)):=by show w.ownsRow _ _ _ _ _ _;rw[← eB];exact n.ld.ro k f
 have e3:Hid (w.ownsRow base 99 2 (.slice J (x.ld k).sen P) (x.ld k).sen (zJ (x.ld k).se (x.ld k).sen)):=by show w.ownsRow _ _ _ _ _ _;rw[← eD];exact n.ld.se k f
 have a9:Hid (w.cell? ⟨q,k*3,none⟩=some (.slice i (x.ld k).stn m)):=by
  have h:=zx n.ld.row (k*3+0) (by omega) rfl
  rw[zz 3 _ k 0 (by decide)] at h
  rw[← eA];exact h
 have b5:Hid (w.cell? ⟨q,k*3+1,none⟩=some (.slice I (x.ld k).ron O)):=by
  have h:=zx n.ld.row (k*3+1) (by omega) rfl
  rw[zz 3 _ k 1 (by decide)] at h
  rw[← eB];exact h
 have b6:Hid (w.cell? ⟨q,k*3+2,none⟩=some (.slice J (x.ld k).sen P)):=by
  have h:=zx n.ld.row (k*3+2) (by omega) rfl
  rw[zz 3 _ k 2 (by decide)] at h
  rw[← eD];exact h
 have e0:Hid ((i=none->(x.ld k).stn=0/\m=0)/\(I=none->(x.ld k).ron=0/\O=0)/\(J=none->(x.ld k).sen=0/\P=0)):=⟨m3,m6,m9⟩;obtain⟨s,Q⟩:∃ s,s=x.sa k:=⟨_,rfl⟩;obtain⟨l,a7⟩:∃ l,l=x.ld k:=⟨_,rfl⟩;rw[← a7] at b7 e2 e3 a9 b5 b6 e0 Y;rw[← Q] at Y;have e7:=hI Q;have H:=hI a7;have d9:=hI c8;obtain⟨a,d,la,lc,ca,cc,rfl,f0,f1,f2,f3,f4,f5,f6,f7,a6,a5,d5,d0⟩:=S.out k f;rw[← Q] at f0 f1 f2 f3 f4 f5 f6 f7 a6 a5 d5 d0;have e6:Hid (zT w la s.la/\zT w ca s.ca):=⟨a6,a5⟩;have d8:Hid (∀ W,Below w.heap.size w W->W.cell? ⟨a,d+k*8,none⟩=some (int i64 s.id)/\W.cell? ⟨a,d+k*8+1,none⟩=some (.string s.fr)/\W.cell? ⟨a,d+k*8+2,none⟩=some (.string s.dst)/\W.cell? ⟨a,d+k*8+3,none⟩=some (int i64 s.dep)/\W.cell? ⟨a,d+k*8+4,none⟩=some (int i64 s.arr)/\W.cell? ⟨a,d+k*8+5,none⟩=some (.slice la s.la.n lc)/\W.cell? ⟨a,d+k*8+6,none⟩=some (.slice ca s.ca.n cc)/\W.cell? ⟨a,d+k*8+7,none⟩=some (int i64 s.most)):=fun W U=>by
  have c:=World.block_lt_of_cell? w _ f0;exact⟨(U.cell (p:=⟨a,d+k*8,none⟩) c).trans f0,(U.cell (p:=⟨a,d+k*8+1,none⟩) c).trans f1,(U.cell (p:=⟨a,d+k*8+2,none⟩) c).trans f2,(U.cell (p:=⟨a,d+k*8+3,none⟩) c).trans f3,(U.cell (p:=⟨a,d+k*8+4,none⟩) c).trans f4,(U.cell (p:=⟨a,d+k*8+5,none⟩) c).trans f5,(U.cell (p:=⟨a,d+k*8+6,none⟩) c).trans f6,(U.cell (p:=⟨a,d+k*8+7,none⟩) c).trans f7⟩
 clear f0 f1 f2 f3 f4 f5 f6 f7 a6 a5 d5 d0 Q a7 c8 eA eB eD m1 m2 m3 m4 m5 m6 m7 m8 m9 c9 hk e5;have i1:(0:Int)<=(k:Int):=by omega
 have i2:(k:Int)<(N:Int):=by omega
 have y:Below w.heap.size w (w.alloc (.cells #[int i64 leg,int i64 0,.bool true,int i64 who,int i64 p.pe,int i64 p.len,int i64 p.hei,int i64 p.cl,.bool p.all,int i64 p.be] 169)):=zl bZ _;have b0:=heap_alloc_new w (.cells #[int i64 leg,int i64 0,.bool true,int i64 who,int i64 p.pe,int i64 p.len,int i64 p.hei,int i64 p.cl,.bool p.all,int i64 p.be] 169);go_enter Tryz.func118,Tryz.ntmps118;go_upto_region 1 with fail;generalize (w.alloc (.cells #[int i64 leg,int i64 0,.bool true,int i64 who,int i64 p.pe,int i64 p.len,int i64 p.hei,int i64 p.cl,.bool p.all,int i64 p.be] 169))=W at y b0 ⊢;have z0:∀ G:zv W,G.val.cell? ⟨g,0,none⟩=some (.slice (some ⟨a,d,none⟩) N t):=fun G=>za (zb HQ.out (zf y G.bel)) 0 _ rfl
 have z1:∀ G:zv W,G.val.cell? ⟨w.heap.size,0,none⟩=some (int i64 leg):=fun G=>za (zb b0 G.bel) 0 _ rfl
 refine zg (by kernel_rfl) (by kernel_rfl) ?_
 repeat(first|go_big_quiet_skip|(go_big_quiet_want;go_big_quiet_op;first|go_big_quiet_on|(apply Exists.intro;refine⟨fun G=>?_,?_⟩;(focus(first|(go_at_call 87;refine zh (v:=int i64 (k:Int)) ((Zr _ N t x.sa leg _ hN (S.out.below (zf y G.bel))).mono ?_);rintro e w2 ⟨he,e4⟩;refine⟨?_,e4⟩;rw[HK.out] at he;rcases he with⟨_,rfl⟩|⟨h,_⟩;rfl;omega)));go_big_quiet_on)))
 refine wpQuiet_nil ?_;rintro _ ⟨G,rfl⟩;clear z0 z1;have F:=zf y G.bel;have T:=zb b0 G.bel;obtain⟨c0,c1,c2,c3,c4,c5,c6,c7⟩:=d8.out G.val F;have y0:=za (zb HQ.out F) 0 _ rfl;have y1:∀ o,(G.val.alloc o).cell? ⟨g,1,none⟩=some (.slice (some ⟨q,0,none⟩) N M):=fun o=>za (zb HQ.out (zl F o)) 1 _ rfl
 have y4:∀ o,(G.val.alloc o).cell? ⟨w.heap.size,4,none⟩=some (int i64 p.pe):=fun o=>za (zc T o) 4 _ rfl
 have y5:∀ o,(G.val.alloc o).cell? ⟨w.heap.size,5,none⟩=some (int i64 p.len):=fun o=>za (zc T o) 5 _ rfl
 have y6:∀ o,(G.val.alloc o).cell? ⟨w.heap.size,6,none⟩=some (int i64 p.hei):=fun o=>za (zc T o) 6 _ rfl
 have y7:∀ o,(G.val.alloc o).cell? ⟨w.heap.size,7,none⟩=some (int i64 p.cl):=fun o=>za (zc T o) 7 _ rfl
 have y8:∀ o,(G.val.alloc o).cell? ⟨w.heap.size,8,none⟩=some (.bool p.all):=fun o=>za (zc T o) 8 _ rfl
 have y9:∀ o,(G.val.alloc o).cell? ⟨w.heap.size,9,none⟩=some (int i64 p.be):=fun o=>za (zc T o) 9 _ rfl
 go_upto_region 8 with fail;have b:Below w.heap.size w ((G.val.alloc (.cells #[int i64 s.id,.string s.fr,.string s.dst,int i64 s.dep,int i64 s.arr,.slice la s.la.n lc,.slice ca s.ca.n cc,int i64 s.most] 33)).alloc (.cells #[int i64 p.pe,int i64 p.len,int i64 p.hei,int i64 p.cl,.bool p.all,int i64 p.be] 41)):=zl (zl F _) _;have K:=zc (zc T (.cells #[int i64 s.id,.string s.fr,.string s.dst,int i64 s.dep,int i64 s.arr,.slice la s.la.n lc,.slice ca s.ca.n cc,int i64 s.most] 33)) (.cells #[int i64 p.pe,int i64 p.len,int i64 p.hei,int i64 p.cl,.bool p.all,int i64 p.be] 41);have b9:=zc (heap_alloc_new G.val (.cells #[int i64 s.id,.string s.fr,.string s.dst,int i64 s.dep,int i64 s.arr,.slice la s.la.n lc,.slice ca s.ca.n cc,int i64 s.most] 33)) (.cells #[int i64 p.pe,int i64 p.len,int i64 p.hei,int i64 p.cl,.bool p.all,int i64 p.be] 41);have b8:=zbZ G.val (.cells #[int i64 s.id,.string s.fr,.string s.dst,int i64 s.dep,int i64 s.arr,.slice la s.la.n lc,.slice ca s.ca.n cc,int i64 s.most] 33) (.cells #[int i64 p.pe,int i64 p.len,int i64 p.hei,int i64 p.cl,.bool p.all,int i64 p.be] 41);generalize hx0:(G.val.alloc (.cells #[int i64 s.id,.string s.fr,.string s.dst,int i64 s.dep,int i64 s.arr,.slice la s.la.n lc,.slice ca s.ca.n cc,int i64 s.most] 33)).alloc (.cells #[int i64 p.pe,int i64 p.len,int i64 p.hei,int i64 p.cl,.bool p.all,int i64 p.be] 41)=X at b K b9 b8 ⊢;generalize hsb:G.val.heap.size=sb at b9 b8 ⊢;clear c0 c1 c2 c3 c4 c5 c6 c7 y0 y1 y4 y5 y6 y7 y8 y9 T F y b0 hx0 hsb G W;have w1:=za K 1 _ rfl;have w2:=za K 2 _ rfl;have w3:=za K 3 _ rfl;have L0:X.cell? ⟨q,k*3,none⟩=some (.slice i l.stn m):=(b.cell (p:=⟨q,k*3,none⟩) a8).trans a9.out;have L1:X.cell? ⟨q,k*3+1,none⟩=some (.slice I l.ron O):=(b.cell (p:=⟨q,k*3+1,none⟩) a8).trans b5.out;have L2:X.cell? ⟨q,k*3+2,none⟩=some (.slice J l.sen P):=(b.cell (p:=⟨q,k*3+2,none⟩) a8).trans b6.out;have bG:=zb d9.out b;have HR:Hid (r<l.stn/\Zb l.st r=who/\∀ j,j<l.stn->j≠r->Zb l.st j≠who):=by rw[H.out];exact⟨hr,hx,V⟩
 clear hr hx V;have d7:Hid (∀ Z,Below X.heap.size X Z->Calls Tryz.prog 125 #[.slice i l.stn m,int i64 who] Z fun e w5=>(∃ av cv,e=.returned (.slice av (l.stn - 1) cv)/\Hid (w5.ownsRow X.heap.size 84 4 (.slice av (l.stn - 1) cv) (l.stn - 1) (zN (Zi l.st r) (l.stn - 1))))/\Below X.heap.size X w5):=fun Z hZ=>by
  have hd:=(Zd _ _ _).1 Y.out.1;refine(zer i l.stn m r l.st who Z hd.2.1 HR.out.1 HR.out.2.1 HR.out.2.2 ((QJ b7.out).below (zf b hZ))).mono ?_;rintro e w5 ⟨⟨u,rfl,o1⟩,z⟩;obtain⟨av,cv,rfl,_⟩:=zr o1;exact⟨⟨av,cv,rfl,zC o1 hZ.size⟩,zf hZ z⟩
 go_upto_region 9 with fail;clear w1 w2 L1 L2;go_region_law (first
  | (go_simp;go_at_call 125;(with_reducible refine Calls.mono (d7.out _ ?_) ?_);(focus(repeat(first | exact bZ | refine Below.drew ?_ | refine zl ?_ _)));rintro e w5 ⟨⟨av,cv,rfl,e1⟩,z⟩;have q0:=(z.cell (p:=⟨q,k*3,none⟩) (zQ bG)).trans L0;have q1:=ze (zb bG z) (k*3);dsimp only))
 all_goals
  have HF:Hid _:=doSt (k:=k) (v:=⟨leg,0,true,who,p⟩) HO.out HQ.out d6.out (zf b z) (zC e1.out b.size) (by rw[H.out];exact .noStay r rfl rfl (by rw[← H.out];exact HR.out.1) (by rw[← H.out];exact HR.out.2.1))
  go_wp2;go_ret;exact HF.out
theorem l7Do_b (g base N R k J T b5:Nat)(a9 a8 a7:Option Addr)(leg who:Int)(p:ZO)(x:Off)(L C A B D E:Nat->Value)(w:World)(hq:w.heap[g]?=some (.cells #[.slice a9 N J,.slice a8 N T,.slice a7 R b5] 27 (0,0)))(F:zy w base (.slice a9 N J) (.slice a8 N T) (.slice a7 R b5) N N R x L C A B D E)(hN:N<=1048576)(hk:zH x.sa leg N=k)(y:k<N)(e3:zV (x.sa k) (x.ld k))(r:Nat)(hr:r<(x.ld k).ron)(hx:Zh (x.ld k).ro r=who)(a5:∀ j,j<(x.ld k).ron->j≠r->Zh (x.ld k).ro j≠who) :
  Calls Tryz.prog 118 #[.pointer (some ⟨g,0,none⟩),.agg #[int i64 leg,int i64 1,.bool true,int i64 who,int i64 p.pe,int i64 p.len,int i64 p.hei,int i64 p.cl,.bool p.all,int i64 p.be]] w fun e w'=>zcl g base N R k J T b5 a9 a8 a7 ⟨leg,1,true,who,p⟩ x L C E w e w':=by
 obtain⟨j0,ji,g5,g6,g7⟩:=info_parts Tryz.infoRoom;obtain⟨H,rfl,g1,b9⟩:=own_addr F.ld.row (by omega)
 have HO:=hI F;have HK:=hI hk;have a6:=hI e3;have e6:Hid (base<=w.heap.size):=by show base<=w.heap.size;omega
 have HQ:=hI hq;have a0:=hI F.sa.at;obtain⟨cs,e0⟩:=zG F.ld.row H rfl;obtain⟨S,Y,eA,m1,m2,m3⟩:=zr (F.ld.st k y);obtain⟨P,U,eB,m4,m5,m6⟩:=zr (F.ld.ro k y);obtain⟨Q,V,eD,m7,m8,m9⟩:=zr (F.ld.se k y);have f9:Hid (w.ownsRow base 84 4 (.slice S (x.ld k).stn Y) (x.ld k).stn (zN (x.ld k).st (x.ld k).stn)):=by show w.ownsRow _ _ _ _ _ _;rw[← eA];exact F.ld.st k y
 have d7:Hid (w.ownsRow base 93 4 (.slice P (x.ld k).ron U) (x.ld k).ron (zK (x.ld k).ro (x.ld k).ron)):=by show w.ownsRow _ _ _ _ _ _;rw[← eB];exact F.ld.ro k y
 have f8:Hid (w.ownsRow base 99 2 (.slice Q (x.ld k).sen V) (x.ld k).sen (zJ (x.ld k).se (x.ld k).sen)):=by show w.ownsRow _ _ _ _ _ _;rw[← eD];exact F.ld.se k y
 have c9:Hid (w.cell? ⟨H,k*3,none⟩=some (.slice S (x.ld k).stn Y)):=by
  have h:=zx F.ld.row (k*3+0) (by omega) rfl
  rw[zz 3 _ k 0 (by decide)] at h
  rw[← eA];exact h
 have d0:Hid (w.cell? ⟨H,k*3+1,none⟩=some (.slice P (x.ld k).ron U)):=by
  have h:=zx F.ld.row (k*3+1) (by omega) rfl
  rw[zz 3 _ k 1 (by decide)] at h
  rw[← eB];exact h
 have d5:Hid (w.cell? ⟨H,k*3+2,none⟩=some (.slice Q (x.ld k).sen V)):=by
  have h:=zx F.ld.row (k*3+2) (by omega) rfl
  rw[zz 3 _ k 2 (by decide)] at h
  rw[← eD];exact h
 have e9:Hid ((S=none->(x.ld k).stn=0/\Y=0)/\(P=none->(x.ld k).ron=0/\U=0)/\(Q=none->(x.ld k).sen=0/\V=0)):=⟨m3,m6,m9⟩;obtain⟨s,Z⟩:∃ s,s=x.sa k:=⟨_,rfl⟩;obtain⟨l,b8⟩:∃ l,l=x.ld k:=⟨_,rfl⟩;rw[← b8] at f9 d7 f8 c9 d0 d5 e9 a6;rw[← Z] at a6;have h4:=hI Z;have O:=hI b8;have e8:=hI e0;obtain⟨d,t,la,lc,ca,cc,rfl,f0,f1,f2,f3,f4,f5,f6,f7,b7,b6,e5,e4⟩:=a0.out k y;rw[← Z] at f0 f1 f2 f3 f4 f5 f6 f7 b7 b6 e5 e4;have g9:Hid (zT w la s.la/\zT w ca s.ca):=⟨b7,b6⟩;have e7:Hid (∀ W,Below w.heap.size w W->W.cell? ⟨d,t+k*8,none⟩=some (int i64 s.id)/\W.cell? ⟨d,t+k*8+1,none⟩=some (.string s.fr)/\W.cell? ⟨d,t+k*8+2,none⟩=some (.string s.dst)/\W.cell? ⟨d,t+k*8+3,none⟩=some (int i64 s.dep)/\W.cell? ⟨d,t+k*8+4,none⟩=some (int i64 s.arr)/\W.cell? ⟨d,t+k*8+5,none⟩=some (.slice la s.la.n lc)/\W.cell? ⟨d,t+k*8+6,none⟩=some (.slice ca s.ca.n cc)/\W.cell? ⟨d,t+k*8+7,none⟩=some (int i64 s.most)):=fun W z=>by
  have n:=World.block_lt_of_cell? w _ f0;exact⟨(z.cell (p:=⟨d,t+k*8,none⟩) n).trans f0,(z.cell (p:=⟨d,t+k*8+1,none⟩) n).trans f1,(z.cell (p:=⟨d,t+k*8+2,none⟩) n).trans f2,(z.cell (p:=⟨d,t+k*8+3,none⟩) n).trans f3,(z.cell (p:=⟨d,t+k*8+4,none⟩) n).trans f4,(z.cell (p:=⟨d,t+k*8+5,none⟩) n).trans f5,(z.cell (p:=⟨d,t+k*8+6,none⟩) n).trans f6,(z.cell (p:=⟨d,t+k*8+7,none⟩) n).trans f7⟩
 clear f0 f1 f2 f3 f4 f5 f6 f7 b7 b6 e5 e4 Z b8 e0 eA eB eD m1 m2 m3 m4 m5 m6 m7 m8 m9 e3 hk g1;have i1:(0:Int)<=(k:Int):=by omega
 have i2:(k:Int)<(N:Int):=by omega
 have K:Below w.heap.size w (w.alloc (.cells #[int i64 leg,int i64 1,.bool true,int i64 who,int i64 p.pe,int i64 p.len,int i64 p.hei,int i64 p.cl,.bool p.all,int i64 p.be] 169)):=zl bZ _;have b0:=heap_alloc_new w (.cells #[int i64 leg,int i64 1,.bool true,int i64 who,int i64 p.pe,int i64 p.len,int i64 p.hei,int i64 p.cl,.bool p.all,int i64 p.be] 169);go_enter Tryz.func118,Tryz.ntmps118;go_upto_region 1 with fail;generalize (w.alloc (.cells #[int i64 leg,int i64 1,.bool true,int i64 who,int i64 p.pe,int i64 p.len,int i64 p.hei,int i64 p.cl,.bool p.all,int i64 p.be] 169))=W at K b0 ⊢;have z0:∀ G:zv W,G.val.cell? ⟨g,0,none⟩=some (.slice (some ⟨d,t,none⟩) N J):=fun G=>za (zb HQ.out (zf K G.bel)) 0 _ rfl
 have z1:∀ G:zv W,G.val.cell? ⟨w.heap.size,0,none⟩=some (int i64 leg):=fun G=>za (zb b0 G.bel) 0 _ rfl
 refine zg (by kernel_rfl) (by kernel_rfl) ?_
 repeat(first|go_big_quiet_skip|(go_big_quiet_want;go_big_quiet_op;first|go_big_quiet_on|(apply Exists.intro;refine⟨fun G=>?_,?_⟩;(focus(first|(go_at_call 87;refine zh (v:=int i64 (k:Int)) ((Zr _ N J x.sa leg _ hN (a0.out.below (zf K G.bel))).mono ?_);rintro e w2 ⟨he,g0⟩;refine⟨?_,g0⟩;rw[HK.out] at he;rcases he with⟨_,rfl⟩|⟨h,_⟩;rfl;omega)));go_big_quiet_on)))
 refine wpQuiet_nil ?_;rintro _ ⟨G,rfl⟩;clear z0 z1;have M:=zf K G.bel;have bW:=zb b0 G.bel;obtain⟨c0,c1,c2,c3,c4,c5,c6,c7⟩:=e7.out G.val M;have y0:=za (zb HQ.out M) 0 _ rfl;have y1:∀ o,(G.val.alloc o).cell? ⟨g,1,none⟩=some (.slice (some ⟨H,0,none⟩) N T):=fun o=>za (zb HQ.out (zl M o)) 1 _ rfl
 have y4:∀ o,(G.val.alloc o).cell? ⟨w.heap.size,4,none⟩=some (int i64 p.pe):=fun o=>za (zc bW o) 4 _ rfl
 have y5:∀ o,(G.val.alloc o).cell? ⟨w.heap.size,5,none⟩=some (int i64 p.len):=fun o=>za (zc bW o) 5 _ rfl
 have y6:∀ o,(G.val.alloc o).cell? ⟨w.heap.size,6,none⟩=some (int i64 p.hei):=fun o=>za (zc bW o) 6 _ rfl
 have y7:∀ o,(G.val.alloc o).cell? ⟨w.heap.size,7,none⟩=some (int i64 p.cl):=fun o=>za (zc bW o) 7 _ rfl
 have y8:∀ o,(G.val.alloc o).cell? ⟨w.heap.size,8,none⟩=some (.bool p.all):=fun o=>za (zc bW o) 8 _ rfl
 have y9:∀ o,(G.val.alloc o).cell? ⟨w.heap.size,9,none⟩=some (int i64 p.be):=fun o=>za (zc bW o) 9 _ rfl
 go_upto_region 8 with fail;have m:Below w.heap.size w ((G.val.alloc (.cells #[int i64 s.id,.string s.fr,.string s.dst,int i64 s.dep,int i64 s.arr,.slice la s.la.n lc,.slice ca s.ca.n cc,int i64 s.most] 33)).alloc (.cells #[int i64 p.pe,int i64 p.len,int i64 p.hei,int i64 p.cl,.bool p.all,int i64 p.be] 41)):=zl (zl M _) _;have I:=zc (zc bW (.cells #[int i64 s.id,.string s.fr,.string s.dst,int i64 s.dep,int i64 s.arr,.slice la s.la.n lc,.slice ca s.ca.n cc,int i64 s.most] 33)) (.cells #[int i64 p.pe,int i64 p.len,int i64 p.hei,int i64 p.cl,.bool p.all,int i64 p.be] 41);have d9:=zc (heap_alloc_new G.val (.cells #[int i64 s.id,.string s.fr,.string s.dst,int i64 s.dep,int i64 s.arr,.slice la s.la.n lc,.slice ca s.ca.n cc,int i64 s.most] 33)) (.cells #[int i64 p.pe,int i64 p.len,int i64 p.hei,int i64 p.cl,.bool p.all,int i64 p.be] 41);have d8:=zbZ G.val (.cells #[int i64 s.id,.string s.fr,.string s.dst,int i64 s.dep,int i64 s.arr,.slice la s.la.n lc,.slice ca s.ca.n cc,int i64 s.most] 33) (.cells #[int i64 p.pe,int i64 p.len,int i64 p.hei,int i64 p.cl,.bool p.all,int i64 p.be] 41);generalize hx0:(G.val.alloc (.cells #[int i64 s.id,.string s.fr,.string s.dst,int i64 s.dep,int i64 s.arr,.slice la s.la.n lc,.slice ca s.ca.n cc,int i64 s.most] 33)).alloc (.cells #[int i64 p.pe,int i64 p.len,int i64 p.hei,int i64 p.cl,.bool p.all,int i64 p.be] 41)=X at m I d9 d8 ⊢;generalize hsb:G.val.heap.size=sb at d9 d8 ⊢;clear c0 c1 c2 c3 c4 c5 c6 c7 y0 y1 y4 y5 y6 y7 y8 y9 bW M K b0 hx0 hsb G W;have w1:=za I 1 _ rfl;have w2:=za I 2 _ rfl;have w3:=za I 3 _ rfl;have L0:X.cell? ⟨H,k*3,none⟩=some (.slice S l.stn Y):=(m.cell (p:=⟨H,k*3,none⟩) b9).trans c9.out;have L1:X.cell? ⟨H,k*3+1,none⟩=some (.slice P l.ron U):=(m.cell (p:=⟨H,k*3+1,none⟩) b9).trans d0.out;have L2:X.cell? ⟨H,k*3+2,none⟩=some (.slice Q l.sen V):=(m.cell (p:=⟨H,k*3+2,none⟩) b9).trans d5.out;have bG:=zb e8.out m;have HR:Hid (r<l.ron/\Zh l.ro r=who/\∀ j,j<l.ron->j≠r->Zh l.ro j≠who):=by rw[O.out];exact⟨hr,hx,a5⟩
 clear hr hx a5;have g8:l.ron<=60:=a6.out.2.1.2.1;go_wp2;go_loopw [9,11,106] (fun v _ i wr=>∃ q:Nat,q<=l.ron/\i=int i64 q/\wr.ownsRow X.heap.size 93 4 v (Qg r q) (zK (ZN l.ro r) (Qg r q))/\Below X.heap.size X wr) (fun _ _ i _=>l.ron - (intOf i).toNat)
 case atStart=>exact⟨0,Nat.zero_le _,rfl,⟨rfl,.inl ⟨rfl,rfl⟩⟩,bZ⟩
 case round =>
  obtain⟨q,hq,rfl,f,a⟩:=hrel
  by_cases hlq:q<l.ron
  ·obtain⟨b,off,rfl,h0,h1,h2,h3⟩:=(Zn d7.out).below m q hlq
   have z:=World.block_lt_of_cell? X _ h0;have c0:=(a.cell (p:=⟨b,off+q*4,none⟩) z).trans h0;have c1:=(a.cell (p:=⟨b,off+q*4+1,none⟩) z).trans h1;have c2:=(a.cell (p:=⟨b,off+q*4+2,none⟩) z).trans h2;have c3:=(a.cell (p:=⟨b,off+q*4+3,none⟩) z).trans h3;clear h0 h1 h2 h3;have y3:∀ o,(wr.alloc o).cell? ⟨w.heap.size,3,none⟩=some (int i64 who):=fun o=>za (zc (zb I a) o) 3 _ rfl
   by_cases he:q=r
   ·have e1:((l.ro q).who == who)=true:=by rw[he];simpa [Zh] using HR.out.2.1
    have e2:((l.ro q).who != who)=false:=by rw[he];simpa [Zh] using HR.out.2.1
    have HC:Hid (Qg r (q+1)=Qg r q):=by
     have a1:Qg r (q+1)=q+1 - 1:=if_neg (by omega)
     have a2:Qg r q=q:=if_pos (by omega)
     show Qg r (q+1)=Qg r q
     omega
    clear he;go_wp2;go_roundw
    case rel=>exact⟨q+1,by omega,by go_num,by rw[HC.out];exact zp (zl bZ _) f,zl a _⟩
    case measure=>simp[intOf];omega
   ·have c8:=HR.out.2.2 q hlq he
    have e1:((l.ro q).who == who)=false:=by simpa [Zh] using c8
    have e2:((l.ro q).who != who)=true:=by simpa [Zh] using c8
    have HC:Hid (Qg r (q+1)=Qg r q+1/\ZN l.ro r (Qg r q)=l.ro q/\Qg r q<=60):=by
     by_cases c:q<=r
     ·have a1:Qg r (q+1)=q+1:=if_pos (by omega)
      have a2:Qg r q=q:=if_pos c;have a3:ZN l.ro r q=l.ro q:=if_pos (by omega)
      rw[a1,a2,a3];exact⟨rfl,rfl,by omega⟩
     ·have a1:Qg r (q+1)=q+1 - 1:=if_neg (by omega)
      have a2:Qg r q=q - 1:=if_neg c;have a3:ZN l.ro r (q - 1)=l.ro (q - 1+1):=if_neg (by omega)
      rw[a1,a2,a3];exact⟨by omega,by rw[show q - 1+1=q by omega],by omega⟩
    clear he c8;have h5:=a.size;have g2:=HC.out.2.2;generalize hqq:Qg r q=qq at f g2;have d6:=hI hqq;clear hqq;have HN:Hid (∀ ad,(some ⟨wr.heap.size+1,0,none⟩:Option Addr)=some ad->∀ j u,[Value.int .i64 (l.ro q).who,int i64 (l.ro q).cab,int i64 (l.ro q).many,.bool (l.ro q).all][j]?=some u->((wr.alloc (.cells #[int i64 (l.ro q).who,int i64 (l.ro q).cab,int i64 (l.ro q).many,.bool (l.ro q).all] 93)).alloc (.cells #[int i64 (l.ro q).who,int i64 (l.ro q).cab,int i64 (l.ro q).many,.bool (l.ro q).all] 93)).cell? (ad.add j)=some u):=by
     intro ad e
     cases e
     exact World.news_of_block (by simpa using heap_alloc_new (wr.alloc _) _)
    go_wp2_with (first|(at_builtin;refine zu _ (by rfl) (.tmp 115) (.tmp 117) 52 (by rfl) X.heap.size 93 j0 (.agg #[int i64 0,int i64 0,int i64 0,.bool false]) 4 32 Tryz.underlying52 ji g5 g6 g7 rfl (by decide) _ qq (zK (ZN l.ro r) qq) (by rfl) ((f.alloc _).alloc _) (some ⟨wr.heap.size+1,0,none⟩) 1 1 [int i64 (l.ro q).who,int i64 (l.ro q).cab,int i64 (l.ro q).many,.bool (l.ro q).all] (by rfl) (fun h=>(by cases h)) (by rfl) HN.out (by intro u hu;simp at hu;rcases hu with rfl|rfl|rfl|rfl <;> rfl) (by unfold maxLen;omega) (by omega) (by simp;omega) ?_;intro v' h6 g4 g3))
    go_roundw
    case rel =>
     refine⟨q+1,by omega,by go_num,?_,(zl (zl a _) _).grown g3 (by simp;omega) (fun j hj=>(f.lt j hj).1)⟩
     obtain⟨a1,a2,_⟩:=HC.out;rw[a1,d6.out,ZQ];rw[d6.out] at a2;rw[a2];exact g4
    case measure=>simp[intOf];omega
  ·obtain rfl:q=l.ron:=by omega
   have HC:Hid (Qg r l.ron=l.ron - 1):=if_neg (by have:=HR.out.1;omega)
   rw[HC.out] at f;obtain⟨av,cv,rfl,_⟩:=zr f;have q0:=(a.cell (p:=⟨H,k*3+1,none⟩) (zQ bG)).trans L1;have q1:=ze (zb bG a) (k*3+1);have HF:Hid _:=doRo (k:=k) (v:=⟨leg,1,true,who,p⟩) HO.out HQ.out e6.out (zf m a) (zC f m.size) (by rw[O.out];exact .noRoom r rfl rfl (by rw[← O.out];exact HR.out.1) (by rw[← O.out];exact HR.out.2.1))
   go_wp2;go_ret;exact HF.out
theorem l7Do_c (g base N R k I T b5:Nat)(a9 a8 a7:Option Addr)(leg who:Int)(p:ZO)(x:Off)(L C A B D E:Nat->Value)(w:World)(hq:w.heap[g]?=some (.cells #[.slice a9 N I,.slice a8 N T,.slice a7 R b5] 27 (0,0)))(z:zy w base (.slice a9 N I) (.slice a8 N T) (.slice a7 R b5) N N R x L C A B D E)(hN:N<=1048576)(hk:zH x.sa leg N=k)(y:k<N)(e3:zV (x.sa k) (x.ld k))(r:Nat)(hr:r<(x.ld k).sen)(hx:ZG (x.ld k).se r=who)(a5:∀ j,j<(x.ld k).sen->j≠r->ZG (x.ld k).se j≠who) :
  Calls Tryz.prog 118 #[.pointer (some ⟨g,0,none⟩),.agg #[int i64 leg,int i64 2,.bool true,int i64 who,int i64 p.pe,int i64 p.len,int i64 p.hei,int i64 p.cl,.bool p.all,int i64 p.be]] w fun e w'=>zcl g base N R k I T b5 a9 a8 a7 ⟨leg,2,true,who,p⟩ x L C E w e w':=by
 obtain⟨j0,ji,g5,g6,g7⟩:=info_parts Tryz.infoSeat;obtain⟨F,rfl,g1,b9⟩:=own_addr z.ld.row (by omega)
 have HO:=hI z;have HK:=hI hk;have a6:=hI e3;have e6:Hid (base<=w.heap.size):=by show base<=w.heap.size;omega
 have HQ:=hI hq;have a0:=hI z.sa.at;obtain⟨cs,e0⟩:=zG z.ld.row F rfl;obtain⟨S,Y,eA,m1,m2,m3⟩:=zr (z.ld.st k y);obtain⟨P,U,eB,m4,m5,m6⟩:=zr (z.ld.ro k y);obtain⟨Q,V,eD,m7,m8,m9⟩:=zr (z.ld.se k y);have f9:Hid (w.ownsRow base 84 4 (.slice S (x.ld k).stn Y) (x.ld k).stn (zN (x.ld k).st (x.ld k).stn)):=by show w.ownsRow _ _ _ _ _ _;rw[← eA];exact z.ld.st k y
 have f8:Hid (w.ownsRow base 93 4 (.slice P (x.ld k).ron U) (x.ld k).ron (zK (x.ld k).ro (x.ld k).ron)):=by show w.ownsRow _ _ _ _ _ _;rw[← eB];exact z.ld.ro k y
 have d7:Hid (w.ownsRow base 99 2 (.slice Q (x.ld k).sen V) (x.ld k).sen (zJ (x.ld k).se (x.ld k).sen)):=by show w.ownsRow _ _ _ _ _ _;rw[← eD];exact z.ld.se k y
 have c9:Hid (w.cell? ⟨F,k*3,none⟩=some (.slice S (x.ld k).stn Y)):=by
  have h:=zx z.ld.row (k*3+0) (by omega) rfl
  rw[zz 3 _ k 0 (by decide)] at h
  rw[← eA];exact h
 have d0:Hid (w.cell? ⟨F,k*3+1,none⟩=some (.slice P (x.ld k).ron U)):=by
  have h:=zx z.ld.row (k*3+1) (by omega) rfl
  rw[zz 3 _ k 1 (by decide)] at h
  rw[← eB];exact h
 have d5:Hid (w.cell? ⟨F,k*3+2,none⟩=some (.slice Q (x.ld k).sen V)):=by
  have h:=zx z.ld.row (k*3+2) (by omega) rfl
  rw[zz 3 _ k 2 (by decide)] at h
  rw[← eD];exact h
 have e9:Hid ((S=none->(x.ld k).stn=0/\Y=0)/\(P=none->(x.ld k).ron=0/\U=0)/\(Q=none->(x.ld k).sen=0/\V=0)):=⟨m3,m6,m9⟩;obtain⟨s,Z⟩:∃ s,s=x.sa k:=⟨_,rfl⟩;obtain⟨l,b8⟩:∃ l,l=x.ld k:=⟨_,rfl⟩;rw[← b8] at f9 f8 d7 c9 d0 d5 e9 a6;rw[← Z] at a6;have h2:=hI Z;have O:=hI b8;have e8:=hI e0;obtain⟨a,t,la,lc,ca,cc,rfl,f0,f1,f2,f3,f4,f5,f6,f7,b7,b6,e5,e4⟩:=a0.out k y;rw[← Z] at f0 f1 f2 f3 f4 f5 f6 f7 b7 b6 e5 e4;have g9:Hid (zT w la s.la/\zT w ca s.ca):=⟨b7,b6⟩;have e7:Hid (∀ W,Below w.heap.size w W->W.cell? ⟨a,t+k*8,none⟩=some (int i64 s.id)/\W.cell? ⟨a,t+k*8+1,none⟩=some (.string s.fr)/\W.cell? ⟨a,t+k*8+2,none⟩=some (.string s.dst)/\W.cell? ⟨a,t+k*8+3,none⟩=some (int i64 s.dep)/\W.cell? ⟨a,t+k*8+4,none⟩=some (int i64 s.arr)/\W.cell? ⟨a,t+k*8+5,none⟩=some (.slice la s.la.n lc)/\W.cell? ⟨a,t+k*8+6,none⟩=some (.slice ca s.ca.n cc)/\W.cell? ⟨a,t+k*8+7,none⟩=some (int i64 s.most)):=fun W J=>by
  have n:=World.block_lt_of_cell? w _ f0;exact⟨(J.cell (p:=⟨a,t+k*8,none⟩) n).trans f0,(J.cell (p:=⟨a,t+k*8+1,none⟩) n).trans f1,(J.cell (p:=⟨a,t+k*8+2,none⟩) n).trans f2,(J.cell (p:=⟨a,t+k*8+3,none⟩) n).trans f3,(J.cell (p:=⟨a,t+k*8+4,none⟩) n).trans f4,(J.cell (p:=⟨a,t+k*8+5,none⟩) n).trans f5,(J.cell (p:=⟨a,t+k*8+6,none⟩) n).trans f6,(J.cell (p:=⟨a,t+k*8+7,none⟩) n).trans f7⟩
 clear f0 f1 f2 f3 f4 f5 f6 f7 b7 b6 e5 e4 Z b8 e0 eA eB eD m1 m2 m3 m4 m5 m6 m7 m8 m9 e3 hk g1;have i1:(0:Int)<=(k:Int):=by omega
 have i2:(k:Int)<(N:Int):=by omega
 have K:Below w.heap.size w (w.alloc (.cells #[int i64 leg,int i64 2,.bool true,int i64 who,int i64 p.pe,int i64 p.len,int i64 p.hei,int i64 p.cl,.bool p.all,int i64 p.be] 169)):=zl bZ _;have b0:=heap_alloc_new w (.cells #[int i64 leg,int i64 2,.bool true,int i64 who,int i64 p.pe,int i64 p.len,int i64 p.hei,int i64 p.cl,.bool p.all,int i64 p.be] 169);go_enter Tryz.func118,Tryz.ntmps118;go_upto_region 1 with fail;generalize (w.alloc (.cells #[int i64 leg,int i64 2,.bool true,int i64 who,int i64 p.pe,int i64 p.len,int i64 p.hei,int i64 p.cl,.bool p.all,int i64 p.be] 169))=W at K b0 ⊢;have z0:∀ G:zv W,G.val.cell? ⟨g,0,none⟩=some (.slice (some ⟨a,t,none⟩) N I):=fun G=>za (zb HQ.out (zf K G.bel)) 0 _ rfl
 have z1:∀ G:zv W,G.val.cell? ⟨w.heap.size,0,none⟩=some (int i64 leg):=fun G=>za (zb b0 G.bel) 0 _ rfl
 refine zg (by kernel_rfl) (by kernel_rfl) ?_
 repeat(first|go_big_quiet_skip|(go_big_quiet_want;go_big_quiet_op;first|go_big_quiet_on|(apply Exists.intro;refine⟨fun G=>?_,?_⟩;(focus(first|(go_at_call 87;refine zh (v:=int i64 (k:Int)) ((Zr _ N I x.sa leg _ hN (a0.out.below (zf K G.bel))).mono ?_);rintro e w2 ⟨he,g0⟩;refine⟨?_,g0⟩;rw[HK.out] at he;rcases he with⟨_,rfl⟩|⟨h,_⟩;rfl;omega)));go_big_quiet_on)))
 refine wpQuiet_nil ?_;rintro _ ⟨G,rfl⟩;clear z0 z1;have M:=zf K G.bel;have bW:=zb b0 G.bel;obtain⟨c0,c1,c2,c3,c4,c5,c6,c7⟩:=e7.out G.val M;have y0:=za (zb HQ.out M) 0 _ rfl;have y1:∀ o,(G.val.alloc o).cell? ⟨g,1,none⟩=some (.slice (some ⟨F,0,none⟩) N T):=fun o=>za (zb HQ.out (zl M o)) 1 _ rfl
 have y4:∀ o,(G.val.alloc o).cell? ⟨w.heap.size,4,none⟩=some (int i64 p.pe):=fun o=>za (zc bW o) 4 _ rfl
 have y5:∀ o,(G.val.alloc o).cell? ⟨w.heap.size,5,none⟩=some (int i64 p.len):=fun o=>za (zc bW o) 5 _ rfl
 have y6:∀ o,(G.val.alloc o).cell? ⟨w.heap.size,6,none⟩=some (int i64 p.hei):=fun o=>za (zc bW o) 6 _ rfl
 have y7:∀ o,(G.val.alloc o).cell? ⟨w.heap.size,7,none⟩=some (int i64 p.cl):=fun o=>za (zc bW o) 7 _ rfl
 have y8:∀ o,(G.val.alloc o).cell? ⟨w.heap.size,8,none⟩=some (.bool p.all):=fun o=>za (zc bW o) 8 _ rfl
 have y9:∀ o,(G.val.alloc o).cell? ⟨w.heap.size,9,none⟩=some (int i64 p.be):=fun o=>za (zc bW o) 9 _ rfl
 go_upto_region 8 with fail;have m:Below w.heap.size w ((G.val.alloc (.cells #[int i64 s.id,.string s.fr,.string s.dst,int i64 s.dep,int i64 s.arr,.slice la s.la.n lc,.slice ca s.ca.n cc,int i64 s.most] 33)).alloc (.cells #[int i64 p.pe,int i64 p.len,int i64 p.hei,int i64 p.cl,.bool p.all,int i64 p.be] 41)):=zl (zl M _) _;have H:=zc (zc bW (.cells #[int i64 s.id,.string s.fr,.string s.dst,int i64 s.dep,int i64 s.arr,.slice la s.la.n lc,.slice ca s.ca.n cc,int i64 s.most] 33)) (.cells #[int i64 p.pe,int i64 p.len,int i64 p.hei,int i64 p.cl,.bool p.all,int i64 p.be] 41);have d9:=zc (heap_alloc_new G.val (.cells #[int i64 s.id,.string s.fr,.string s.dst,int i64 s.dep,int i64 s.arr,.slice la s.la.n lc,.slice ca s.ca.n cc,int i64 s.most] 33)) (.cells #[int i64 p.pe,int i64 p.len,int i64 p.hei,int i64 p.cl,.bool p.all,int i64 p.be] 41);have d8:=zbZ G.val (.cells #[int i64 s.id,.string s.fr,.string s.dst,int i64 s.dep,int i64 s.arr,.slice la s.la.n lc,.slice ca s.ca.n cc,int i64 s.most] 33) (.cells #[int i64 p.pe,int i64 p.len,int i64 p.hei,int i64 p.cl,.bool p.all,int i64 p.be] 41);generalize hx0:(G.val.alloc (.cells #[int i64 s.id,.string s.fr,.string s.dst,int i64 s.dep,int i64 s.arr,.slice la s.la.n lc,.slice ca s.ca.n cc,int i64 s.most] 33)).alloc (.cells #[int i64 p.pe,int i64 p.len,int i64 p.hei,int i64 p.cl,.bool p.all,int i64 p.be] 41)=X at m H d9 d8 ⊢;generalize hsb:G.val.heap.size=sb at d9 d8 ⊢;clear c0 c1 c2 c3 c4 c5 c6 c7 y0 y1 y4 y5 y6 y7 y8 y9 bW M K b0 hx0 hsb G W;have w1:=za H 1 _ rfl;have w2:=za H 2 _ rfl;have w3:=za H 3 _ rfl;have L0:X.cell? ⟨F,k*3,none⟩=some (.slice S l.stn Y):=(m.cell (p:=⟨F,k*3,none⟩) b9).trans c9.out;have L1:X.cell? ⟨F,k*3+1,none⟩=some (.slice P l.ron U):=(m.cell (p:=⟨F,k*3+1,none⟩) b9).trans d0.out;have L2:X.cell? ⟨F,k*3+2,none⟩=some (.slice Q l.sen V):=(m.cell (p:=⟨F,k*3+2,none⟩) b9).trans d5.out;have bG:=zb e8.out m;have HR:Hid (r<l.sen/\ZG l.se r=who/\∀ j,j<l.sen->j≠r->ZG l.se j≠who):=by rw[O.out];exact⟨hr,hx,a5⟩
 clear hr hx a5;have g8:l.sen<=60:=a6.out.2.2.2.1;go_wp2;go_loopw [12,14,132] (fun v _ i wr=>∃ q:Nat,q<=l.sen/\i=int i64 q/\wr.ownsRow X.heap.size 99 2 v (Qg r q) (zJ (ZN l.se r) (Qg r q))/\Below X.heap.size X wr) (fun _ _ i _=>l.sen - (intOf i).toNat)
 case atStart=>exact⟨0,Nat.zero_le _,rfl,⟨rfl,.inl ⟨rfl,rfl⟩⟩,bZ⟩
 case round =>
  obtain⟨q,hq,rfl,f,d⟩:=hrel
  by_cases hlq:q<l.sen
  ·obtain⟨b,off,rfl,h0,h1⟩:=(ZK d7.out).below m q hlq
   have J:=World.block_lt_of_cell? X _ h0;have c0:=(d.cell (p:=⟨b,off+q*2,none⟩) J).trans h0;have c1:=(d.cell (p:=⟨b,off+q*2+1,none⟩) J).trans h1;clear h0 h1;have y3:∀ o,(wr.alloc o).cell? ⟨w.heap.size,3,none⟩=some (int i64 who):=fun o=>za (zc (zb H d) o) 3 _ rfl
   by_cases he:q=r
   ·have e1:((l.se q).who == who)=true:=by rw[he];simpa [ZG] using HR.out.2.1
    have e2:((l.se q).who != who)=false:=by rw[he];simpa [ZG] using HR.out.2.1
    have HC:Hid (Qg r (q+1)=Qg r q):=by
     have a1:Qg r (q+1)=q+1 - 1:=if_neg (by omega)
     have a2:Qg r q=q:=if_pos (by omega)
     show Qg r (q+1)=Qg r q
     omega
    clear he;go_wp2;go_roundw
    case rel=>exact⟨q+1,by omega,by go_num,by rw[HC.out];exact zp (zl bZ _) f,zl d _⟩
    case measure=>simp[intOf];omega
   ·have c8:=HR.out.2.2 q hlq he
    have e1:((l.se q).who == who)=false:=by simpa [ZG] using c8
    have e2:((l.se q).who != who)=true:=by simpa [ZG] using c8
    have HC:Hid (Qg r (q+1)=Qg r q+1/\ZN l.se r (Qg r q)=l.se q/\Qg r q<=60):=by
     by_cases c:q<=r
     ·have a1:Qg r (q+1)=q+1:=if_pos (by omega)
      have a2:Qg r q=q:=if_pos c;have a3:ZN l.se r q=l.se q:=if_pos (by omega)
      rw[a1,a2,a3];exact⟨rfl,rfl,by omega⟩
     ·have a1:Qg r (q+1)=q+1 - 1:=if_neg (by omega)
      have a2:Qg r q=q - 1:=if_neg c;have a3:ZN l.se r (q - 1)=l.se (q - 1+1):=if_neg (by omega)
      rw[a1,a2,a3];exact⟨by omega,by rw[show q - 1+1=q by omega],by omega⟩
    clear he c8;have h3:=d.size;have g2:=HC.out.2.2;generalize hqq:Qg r q=qq at f g2;have d6:=hI hqq;clear hqq;have HN:Hid (∀ ad,(some ⟨wr.heap.size+1,0,none⟩:Option Addr)=some ad->∀ j u,[Value.int .i64 (l.se q).who,int i64 (l.se q).many][j]?=some u->((wr.alloc (.cells #[int i64 (l.se q).who,int i64 (l.se q).many] 99)).alloc (.cells #[int i64 (l.se q).who,int i64 (l.se q).many] 99)).cell? (ad.add j)=some u):=by
     intro ad e
     cases e
     exact World.news_of_block (by simpa using heap_alloc_new (wr.alloc _) _)
    go_wp2_with (first|(at_builtin;refine zu _ (by rfl) (.tmp 141) (.tmp 143) 53 (by rfl) X.heap.size 99 j0 (.agg #[int i64 0,int i64 0]) 2 16 Tryz.underlying53 ji g5 g6 g7 rfl (by decide) _ qq (zJ (ZN l.se r) qq) (by rfl) ((f.alloc _).alloc _) (some ⟨wr.heap.size+1,0,none⟩) 1 1 [int i64 (l.se q).who,int i64 (l.se q).many] (by rfl) (fun h=>(by cases h)) (by rfl) HN.out (by intro u hu;simp at hu;rcases hu with rfl|rfl <;> rfl) (by unfold maxLen;omega) (by omega) (by simp;omega) ?_;intro v' h4 g4 g3))
    go_roundw
    case rel =>
     refine⟨q+1,by omega,by go_num,?_,(zl (zl d _) _).grown g3 (by simp;omega) (fun j hj=>(f.lt j hj).1)⟩
     obtain⟨a1,a2,_⟩:=HC.out;rw[a1,d6.out,ZT];rw[d6.out] at a2;rw[a2];exact g4
    case measure=>simp[intOf];omega
  ·obtain rfl:q=l.sen:=by omega
   have HC:Hid (Qg r l.sen=l.sen - 1):=if_neg (by have:=HR.out.1;omega)
   rw[HC.out] at f;obtain⟨av,cv,rfl,_⟩:=zr f;have q0:=(d.cell (p:=⟨F,k*3+2,none⟩) (zQ bG)).trans L2;have q1:=ze (zb bG d) (k*3+2);have HF:Hid _:=doSe (k:=k) (v:=⟨leg,2,true,who,p⟩) HO.out HQ.out e6.out (zf m d) (zC f m.size) (by rw[O.out];exact .noSeat r rfl rfl (by rw[← O.out];exact HR.out.1) (by rw[← O.out];exact HR.out.2.1))
   go_wp2;go_ret;exact HF.out
end Go.Proofs.YtgmdnkngnhkgbaaGreat
