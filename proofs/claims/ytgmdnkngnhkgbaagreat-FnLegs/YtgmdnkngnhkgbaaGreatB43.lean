import Derived.Test.YtgmdnkngnhkgbaaGreatB38
namespace Go.Proofs.YtgmdnkngnhkgbaaGreat
open Go.RowKit
open Go.Value (int)
open Go.IntKind (i64)
set_option maxHeartbeats 64000000
set_option maxRecDepth 1000000
theorem l7Do_e (g base N R k a3 c8 g0:Nat)(e7 e6 e5:Option Addr)(leg who:Int)(pe len hei cl be:Int)(x:Off)(L C A B D E:Nat->Value)(w:World)(hq:w.heap[g]?=some (.cells #[.slice e7 N a3,.slice e6 N c8,.slice e5 R g0] 27 (0,0)))(Y:zy w base (.slice e7 N a3) (.slice e6 N c8) (.slice e5 R g0) N N R x L C A B D E)(hN:N<=1048576)(hk:zH x.sa leg N=k)(Q:k<N)(h3:zV (x.sa k) (x.ld k)) :
  Calls Tryz.prog 118 #[.pointer (some ⟨g,0,none⟩),.agg #[int i64 leg,int i64 1,.bool false,int i64 who,int i64 pe,int i64 len,int i64 hei,int i64 cl,.bool true,int i64 be]] w fun e w'=>zcl g base N R k a3 c8 g0 e7 e6 e5 ⟨leg,1,false,who,⟨pe,len,hei,cl,true,be⟩⟩ x L C E w e w':=by
 obtain⟨i0,ii,d6,d7,d8⟩:=info_parts Tryz.infoRoom;obtain⟨y,rfl,i9,a8⟩:=own_addr Y.ld.row (by omega)
 have HO:=hI Y;have HK:=hI hk;have a0:=hI h3;have i3:Hid (base<=w.heap.size):=by show base<=w.heap.size;omega
 have HQ:=hI hq;have d9:=hI Y.sa.at;obtain⟨cs,h1⟩:=zG Y.ld.row y rfl;obtain⟨b9,d0,eA,m1,m2,m3⟩:=zr (Y.ld.st k Q);obtain⟨b,d,eB,m4,m5,m6⟩:=zr (Y.ld.ro k Q);obtain⟨b8,c9,eD,m7,m8,m9⟩:=zr (Y.ld.se k Q);have i8:Hid (w.ownsRow base 84 4 (.slice b9 (x.ld k).stn d0) (x.ld k).stn (zN (x.ld k).st (x.ld k).stn)):=by show w.ownsRow _ _ _ _ _ _;rw[← eA];exact Y.ld.st k Q
 have b7:Hid (w.ownsRow base 93 4 (.slice b (x.ld k).ron d) (x.ld k).ron (zK (x.ld k).ro (x.ld k).ron)):=by show w.ownsRow _ _ _ _ _ _;rw[← eB];exact Y.ld.ro k Q
 have i7:Hid (w.ownsRow base 99 2 (.slice b8 (x.ld k).sen c9) (x.ld k).sen (zJ (x.ld k).se (x.ld k).sen)):=by show w.ownsRow _ _ _ _ _ _;rw[← eD];exact Y.ld.se k Q
 have g6:Hid (w.cell? ⟨y,k*3,none⟩=some (.slice b9 (x.ld k).stn d0)):=by
  have h:=zx Y.ld.row (k*3+0) (by omega) rfl
  rw[zz 3 _ k 0 (by decide)] at h
  rw[← eA];exact h
 have b5:Hid (w.cell? ⟨y,k*3+1,none⟩=some (.slice b (x.ld k).ron d)):=by
  have h:=zx Y.ld.row (k*3+1) (by omega) rfl
  rw[zz 3 _ k 1 (by decide)] at h
  rw[← eB];exact h
 have g7:Hid (w.cell? ⟨y,k*3+2,none⟩=some (.slice b8 (x.ld k).sen c9)):=by
  have h:=zx Y.ld.row (k*3+2) (by omega) rfl
  rw[zz 3 _ k 2 (by decide)] at h
  rw[← eD];exact h
 have g9:Hid ((b9=none->(x.ld k).stn=0/\d0=0)/\(b=none->(x.ld k).ron=0/\d=0)/\(b8=none->(x.ld k).sen=0/\c9=0)):=⟨m3,m6,m9⟩;obtain⟨s,d5⟩:∃ s,s=x.sa k:=⟨_,rfl⟩;obtain⟨l,g5⟩:∃ l,l=x.ld k:=⟨_,rfl⟩;rw[← g5] at i8 b7 i7 g6 b5 g7 g9 a0;rw[← d5] at a0;have e4:=hI d5;have e0:=hI g5;have i5:=hI h1;obtain⟨a,J,la,lc,ca,cc,rfl,f0,f1,f2,f3,f4,f5,f6,f7,g4,g3,h9,h6⟩:=d9.out k Q;rw[← d5] at f0 f1 f2 f3 f4 f5 f6 f7 g4 g3 h9 h6;have e3:Hid (zT w la s.la/\zT w ca s.ca):=⟨g4,g3⟩;have i4:Hid (∀ W,Below w.heap.size w W->W.cell? ⟨a,J+k*8,none⟩=some (int i64 s.id)/\W.cell? ⟨a,J+k*8+1,none⟩=some (.string s.fr)/\W.cell? ⟨a,J+k*8+2,none⟩=some (.string s.dst)/\W.cell? ⟨a,J+k*8+3,none⟩=some (int i64 s.dep)/\W.cell? ⟨a,J+k*8+4,none⟩=some (int i64 s.arr)/\W.cell? ⟨a,J+k*8+5,none⟩=some (.slice la s.la.n lc)/\W.cell? ⟨a,J+k*8+6,none⟩=some (.slice ca s.ca.n cc)/\W.cell? ⟨a,J+k*8+7,none⟩=some (int i64 s.most)):=fun W hb=>by
  have I:=World.block_lt_of_cell? w _ f0;exact⟨(hb.cell (p:=⟨a,J+k*8,none⟩) I).trans f0,(hb.cell (p:=⟨a,J+k*8+1,none⟩) I).trans f1,(hb.cell (p:=⟨a,J+k*8+2,none⟩) I).trans f2,(hb.cell (p:=⟨a,J+k*8+3,none⟩) I).trans f3,(hb.cell (p:=⟨a,J+k*8+4,none⟩) I).trans f4,(hb.cell (p:=⟨a,J+k*8+5,none⟩) I).trans f5,(hb.cell (p:=⟨a,J+k*8+6,none⟩) I).trans f6,(hb.cell (p:=⟨a,J+k*8+7,none⟩) I).trans f7⟩
 clear f0 f1 f2 f3 f4 f5 f6 f7 g4 g3 h9 h6 d5 g5 h1 eA eB eD m1 m2 m3 m4 m5 m6 m7 m8 m9 h3 hk i9;have i1:(0:Int)<=(k:Int):=by omega
 have i2:(k:Int)<(N:Int):=by omega
 have a5:Below w.heap.size w (w.alloc (.cells #[int i64 leg,int i64 1,.bool false,int i64 who,int i64 pe,int i64 len,int i64 hei,int i64 cl,.bool true,int i64 be] 169)):=zl bZ _;have b0:=heap_alloc_new w (.cells #[int i64 leg,int i64 1,.bool false,int i64 who,int i64 pe,int i64 len,int i64 hei,int i64 cl,.bool true,int i64 be] 169);go_enter Tryz.func118,Tryz.ntmps118;go_upto_region 1 with fail;generalize (w.alloc (.cells #[int i64 leg,int i64 1,.bool false,int i64 who,int i64 pe,int i64 len,int i64 hei,int i64 cl,.bool true,int i64 be] 169))=W at a5 b0 ⊢;have z0:∀ G:zv W,G.val.cell? ⟨g,0,none⟩=some (.slice (some ⟨a,J,none⟩) N a3):=fun G=>za (zb HQ.out (zf a5 G.bel)) 0 _ rfl
 have z1:∀ G:zv W,G.val.cell? ⟨w.heap.size,0,none⟩=some (int i64 leg):=fun G=>za (zb b0 G.bel) 0 _ rfl
 refine zg (by kernel_rfl) (by kernel_rfl) ?_
 repeat(first|go_big_quiet_skip|(go_big_quiet_want;go_big_quiet_op;first|go_big_quiet_on|(apply Exists.intro;refine⟨fun G=>?_,?_⟩;(focus(first|(go_at_call 87;refine zh (v:=int i64 (k:Int)) ((Zr _ N a3 x.sa leg _ hN (d9.out.below (zf a5 G.bel))).mono ?_);rintro e w2 ⟨he,a6⟩;refine⟨?_,a6⟩;rw[HK.out] at he;rcases he with⟨_,rfl⟩|⟨h,_⟩;rfl;omega)));go_big_quiet_on)))
 refine wpQuiet_nil ?_;rintro _ ⟨G,rfl⟩;clear z0 z1;have a7:=zf a5 G.bel;have bW:=zb b0 G.bel;obtain⟨c0,c1,c2,c3,c4,c5,c6,c7⟩:=i4.out G.val a7;have y0:=za (zb HQ.out a7) 0 _ rfl;have y1:∀ o,(G.val.alloc o).cell? ⟨g,1,none⟩=some (.slice (some ⟨y,0,none⟩) N c8):=fun o=>za (zb HQ.out (zl a7 o)) 1 _ rfl
 have y4:∀ o,(G.val.alloc o).cell? ⟨w.heap.size,4,none⟩=some (int i64 pe):=fun o=>za (zc bW o) 4 _ rfl
 have y5:∀ o,(G.val.alloc o).cell? ⟨w.heap.size,5,none⟩=some (int i64 len):=fun o=>za (zc bW o) 5 _ rfl
 have y6:∀ o,(G.val.alloc o).cell? ⟨w.heap.size,6,none⟩=some (int i64 hei):=fun o=>za (zc bW o) 6 _ rfl
 have y7:∀ o,(G.val.alloc o).cell? ⟨w.heap.size,7,none⟩=some (int i64 cl):=fun o=>za (zc bW o) 7 _ rfl
 have y8:∀ o,(G.val.alloc o).cell? ⟨w.heap.size,8,none⟩=some (.bool true):=fun o=>za (zc bW o) 8 _ rfl
 have y9:∀ o,(G.val.alloc o).cell? ⟨w.heap.size,9,none⟩=some (int i64 be):=fun o=>za (zc bW o) 9 _ rfl
 go_upto_region 8 with fail;have F:Below w.heap.size w ((G.val.alloc (.cells #[int i64 s.id,.string s.fr,.string s.dst,int i64 s.dep,int i64 s.arr,.slice la s.la.n lc,.slice ca s.ca.n cc,int i64 s.most] 33)).alloc (.cells #[int i64 pe,int i64 len,int i64 hei,int i64 cl,.bool true,int i64 be] 41)):=zl (zl a7 _) _;have V:=zc (zc bW (.cells #[int i64 s.id,.string s.fr,.string s.dst,int i64 s.dep,int i64 s.arr,.slice la s.la.n lc,.slice ca s.ca.n cc,int i64 s.most] 33)) (.cells #[int i64 pe,int i64 len,int i64 hei,int i64 cl,.bool true,int i64 be] 41);have a1:=zc (heap_alloc_new G.val (.cells #[int i64 s.id,.string s.fr,.string s.dst,int i64 s.dep,int i64 s.arr,.slice la s.la.n lc,.slice ca s.ca.n cc,int i64 s.most] 33)) (.cells #[int i64 pe,int i64 len,int i64 hei,int i64 cl,.bool true,int i64 be] 41);have S:=zbZ G.val (.cells #[int i64 s.id,.string s.fr,.string s.dst,int i64 s.dep,int i64 s.arr,.slice la s.la.n lc,.slice ca s.ca.n cc,int i64 s.most] 33) (.cells #[int i64 pe,int i64 len,int i64 hei,int i64 cl,.bool true,int i64 be] 41);generalize hx0:(G.val.alloc (.cells #[int i64 s.id,.string s.fr,.string s.dst,int i64 s.dep,int i64 s.arr,.slice la s.la.n lc,.slice ca s.ca.n cc,int i64 s.most] 33)).alloc (.cells #[int i64 pe,int i64 len,int i64 hei,int i64 cl,.bool true,int i64 be] 41)=X at F V a1 S ⊢;generalize hsb:G.val.heap.size=sb at a1 S ⊢;clear c0 c1 c2 c3 c4 c5 c6 c7 y0 y1 y4 y5 y6 y7 y8 y9 bW a7 a5 b0 hx0 hsb G W;have w1:=za V 1 _ rfl;have w2:=za V 2 _ rfl;have w3:=za V 3 _ rfl;have L0:X.cell? ⟨y,k*3,none⟩=some (.slice b9 l.stn d0):=(F.cell (p:=⟨y,k*3,none⟩) a8).trans g6.out;have L1:X.cell? ⟨y,k*3+1,none⟩=some (.slice b l.ron d):=(F.cell (p:=⟨y,k*3+1,none⟩) a8).trans b5.out;have L2:X.cell? ⟨y,k*3+2,none⟩=some (.slice b8 l.sen c9):=(F.cell (p:=⟨y,k*3+2,none⟩) a8).trans g7.out;have bG:=zb i5.out F;obtain⟨rb,h5⟩:=zel l.ron s.ca.n (zbr s.ca l.ron l.ro cl be);have i6:=hI h5;clear h5;have s5:∀ G:zv X,G.val.cell? ⟨sb,6,none⟩=some (.slice ca s.ca.n cc):=fun G=>za (zb a1 G.bel) 6 _ rfl
 have s6:∀ G:zv X,G.val.cell? ⟨y,k*3+1,none⟩=some (.slice b l.ron d):=fun G=>(G.bel.cell (p:=⟨y,k*3+1,none⟩) (zQ bG)).trans L1
 have p1:∀ G:zv X,G.val.cell? ⟨sb+1,3,none⟩=some (int i64 cl):=fun G=>za (zb S G.bel) 3 _ rfl
 have p2:∀ G:zv X,G.val.cell? ⟨sb+1,5,none⟩=some (int i64 be):=fun G=>za (zb S G.bel) 5 _ rfl
 go_upto_region 34 with fail;refine zg (by kernel_rfl) (by kernel_rfl) ?_
 repeat(first|go_big_quiet_skip|(go_big_quiet_want;go_big_quiet_op;first|go_big_quiet_on|(apply Exists.intro;refine⟨fun G=>?_,?_⟩;(focus(first|(go_at_call 127;refine zh (v:=int i64 rb) ((zcd ca b s.ca.n cc l.ron d s.ca l.ro cl be _ rfl a0.out.2.1 (e3.out.2.below (zf F G.bel)) ((Zn b7.out).below (zf F G.bel))).mono ?_);rintro e w2 ⟨⟨r',rfl,o1⟩,a6⟩;exact⟨by rw[zgb o1 i6.out],a6⟩)));go_big_quiet_on)))
 refine wpQuiet_nil ?_;rintro _ ⟨G,rfl⟩;have i:=zf F G.bel;have a2:=zb V G.bel;have U:=zb a1 G.bel;have q:=zb S G.bel;have O:=zb bG G.bel;clear w1 w2 w3 L0 L1 L2 s5 s6 p1 p2;generalize G.val=W5 at i a2 U q O ⊢;clear F V a1 S bG G X;have r4:=za q 4 _ rfl;have r5:=za q 5 _ rfl;obtain⟨r,h4⟩:=zel l.ron s.ca.n (zaR s.ca l.ron l.ro cl pe);have b6:=hI h4;clear h4;have s5:∀ G:zv W5,G.val.cell? ⟨sb,6,none⟩=some (.slice ca s.ca.n cc):=fun G=>za (zb U G.bel) 6 _ rfl
 have s6:∀ G:zv W5,G.val.cell? ⟨y,k*3+1,none⟩=some (.slice b l.ron d):=fun G=>((zf i G.bel).cell (p:=⟨y,k*3+1,none⟩) a8).trans b5.out
 have p1:∀ G:zv W5,G.val.cell? ⟨sb+1,3,none⟩=some (int i64 cl):=fun G=>za (zb q G.bel) 3 _ rfl
 have p2:∀ G:zv W5,G.val.cell? ⟨sb+1,0,none⟩=some (int i64 pe):=fun G=>za (zb q G.bel) 0 _ rfl
 go_upto_region 37 with fail;refine zg (by kernel_rfl) (by kernel_rfl) ?_
 repeat(first|go_big_quiet_skip|(go_big_quiet_want;go_big_quiet_op;first|go_big_quiet_on|(apply Exists.intro;refine⟨fun G=>?_,?_⟩;(focus(first|(go_at_call 128;refine zh (v:=int i64 r) ((zga ca b s.ca.n cc l.ron d s.ca l.ro cl pe _ rfl a0.out.2.1 (e3.out.2.below (zf i G.bel)) ((Zn b7.out).below (zf i G.bel))).mono ?_);rintro e w2 ⟨⟨r',rfl,o1⟩,a6⟩;exact⟨by rw[zgb o1 b6.out],a6⟩)));go_big_quiet_on)))
 refine wpQuiet_nil ?_;rintro _ ⟨G,rfl⟩;have g1:=zf i G.bel;have f9:=zb a2 G.bel;have f8:=zb U G.bel;have e9:=zb q G.bel;have e8:=zb O G.bel;clear s5 s6 p1 p2 r4 r5;generalize G.val=M at g1 f9 f8 e9 e8 ⊢;clear i a2 U q O G W5;have i:=g1;have a2:=f9;have U:=f8;have q:=e9;have O:=e8;clear g1 f9 f8 e9 e8;have r4:=za q 4 _ rfl
 by_cases hr:r<0
 ·have e1:decide (r<0)=true:=decide_eq_true hr
  have HF:Hid _:=doNo (k:=k) (code:=6) (v:=⟨leg,1,false,who,⟨pe,len,hei,cl,true,be⟩⟩) HO.out HQ.out i (by
   refine .whole rfl rfl rfl ?_;rw[← e4.out,← e0.out]
   rcases b6.out with⟨j,h,_⟩|⟨h,h2⟩
   ·omega
   ·exact .inr ⟨rfl,h2⟩)
  go_wp2;go_ret;exact HF.out
 obtain⟨m,rfl⟩:∃ m:Nat,r=(m:Int):=⟨r.toNat,by omega⟩
 have e1:decide ((m:Int)<0)=false:=decide_eq_false hr;clear hr;have g8:=hI ((rIx_at b6.out).2.1);obtain⟨cb,co,rfl,k1,k2⟩:=e3.out.2 m g8.out;have j0:=World.block_lt_of_cell? w _ k1;have y2:=(i.cell (p:=⟨cb,co+m*2+1,none⟩) j0).trans k2;have j1:(0:Int)<=(m:Int):=by omega
 have j2:(m:Int)<(s.ca.n:Int):=by have:=g8.out;omega
 have r6:=za U 6 _ rfl;clear k1 k2;go_upto_region 42 with fail;have HN:=hI g9.out.2.1;have e2:Hid (∀ z,Below M.heap.size M z->qo z b l.ron l.ro):=fun z h=>(Zn b7.out).below (zf i h)
 have j8:l.ron<=60:=a0.out.2.1.2.1;have h0:M.cell? ⟨y,k*3+1,none⟩=some (.slice b l.ron d):=(i.cell (p:=⟨y,k*3+1,none⟩) a8).trans b5.out;have KS:Hid (∀ z,Below M.heap.size M z->(z.cell? ⟨w.heap.size,3,none⟩=some (int i64 who)/\z.cell? ⟨sb+1,4,none⟩=some (.bool true))/\z.cell? ⟨y,k*3+1,none⟩=some (.slice b l.ron d)):=fun z h=>⟨⟨za (zb a2 h) 3 _ rfl,za (zb q h) 4 _ rfl⟩,(h.cell (p:=⟨y,k*3+1,none⟩) (zQ O)).trans h0⟩
 refine qt 18 19 (fun w'=>(w'.cell? ⟨w.heap.size,3,none⟩=some (int i64 who)/\w'.cell? ⟨sb+1,4,none⟩=some (.bool true))/\w'.cell? ⟨y,k*3+1,none⟩=some (.slice b l.ron d)) rfl (by kernel_rfl) (KS.out _ (Below.drew bZ)) (fun hS=>?_)
 simp only[List.replicate_succ,List.replicate_zero]
 (refine tkL 0 (v:=?_) rfl (by kernel_rfl) (fun _ _ _ h=>h) rfl (by assumption) ?_ ?_;rotate_left;(focus(intro w' h;(try dsimp only at h);go_simp;try with_reducible rfl));simp only[Act.put,sB,sZ,sS])
 (refine tkL 2 (v:=?_) rfl (by kernel_rfl) (fun _ _ _ h=>h) rfl (by assumption) ?_ ?_;rotate_left;(focus(intro w' h;(try dsimp only at h);go_simp;try with_reducible rfl));simp only[Act.put,sB,sZ,sS])
 (refine tkL 3 (v:=?_) rfl (by kernel_rfl) (fun _ _ _ h=>h) rfl (by assumption) ?_ ?_;rotate_left;(focus(intro w' h;(try dsimp only at h);go_simp;try with_reducible rfl));simp only[Act.put,sB,sZ,sS])
 (refine tkL 4 (v:=?_) rfl (by kernel_rfl) (fun _ _ _ h=>h) rfl (by assumption) ?_ ?_;rotate_left;(focus(intro w' h;(try dsimp only at h);go_simp;try with_reducible rfl));simp only[Act.put,sB,sZ,sS])
 (refine tkL 5 (v:=?_) rfl (by kernel_rfl) (fun _ _ _ h=>h) rfl (by assumption) ?_ ?_;rotate_left;(focus(intro w' h;(try dsimp only at h);go_simp;try with_reducible rfl));simp only[Act.put,sB,sZ,sS])
 (refine tkL 7 (v:=?_) rfl (by kernel_rfl) (fun _ _ _ h=>h) rfl (by assumption) ?_ ?_;rotate_left;(focus(intro w' h;(try dsimp only at h);go_simp;try with_reducible rfl));simp only[Act.put,sB,sZ,sS])
 (refine tkL 8 (v:=?_) rfl (by kernel_rfl) (fun _ _ _ h=>h) rfl (by assumption) ?_ ?_;rotate_left;(focus(intro w' h;(try dsimp only at h);go_simp;try with_reducible rfl));simp only[Act.put,sB,sZ,sS])
 (refine tkL 9 (v:=?_) rfl (by kernel_rfl) (fun _ _ _ h=>h) rfl (by assumption) ?_ ?_;rotate_left;(focus(intro w' h;(try dsimp only at h);go_simp;try with_reducible rfl));simp only[Act.put,sB,sZ,sS])
 (refine tkL 10 (v:=?_) rfl (by kernel_rfl) (fun _ _ _ h=>h) rfl (by assumption) ?_ ?_;rotate_left;(focus(intro w' h;(try dsimp only at h);go_simp;try with_reducible rfl));simp only[Act.put,sB,sZ,sS])
 (refine tkL 11 (v:=?_) rfl (by kernel_rfl) (fun _ _ _ h=>h) rfl (by assumption) ?_ ?_;rotate_left;(focus(intro w' h;(try dsimp only at h);go_simp;try with_reducible rfl));simp only[Act.put,sB,sZ,sS])
 (refine tkL 12 (v:=?_) rfl (by kernel_rfl) (fun _ _ _ h=>h) rfl (by assumption) ?_ ?_;rotate_left;(focus(intro w' h;(try dsimp only at h);go_simp;try with_reducible rfl));simp only[Act.put,sB,sZ,sS])
 (refine tkL 13 (v:=?_) rfl (by kernel_rfl) (fun _ _ _ h=>h) rfl (by assumption) ?_ ?_;rotate_left;(focus(intro w' h;(try dsimp only at h);go_simp;try with_reducible rfl));simp only[Act.put,sB,sZ,sS])
 refine zj (rs:=[1,14]) (by kernel_rfl) (by simp) ?_
 refine zd.consL rfl (fun K f=>?_) (zd.consL rfl (fun K f=>?_) zd.nil)
 focus
  go_simp;refine f.out _ _ (KS.out _ (by repeat(first|exact c.out|exact bZ|refine Below.drew ?_|refine zl ?_ _))) (fun hS=>?_)
  clear f K;simp only[sZ,sS];refine zj (rs:=[6,14]) (by kernel_rfl) (by simp) ?_
  refine zd.consL rfl (fun K f=>?_) (zd.consL rfl (fun K f=>?_) zd.nil)
  focus
   refine zD (by rfl) (.tmp 227) (.tmp 231) 52 (by rfl) 93 i0 (.agg #[int i64 0,int i64 0,int i64 0,.bool false]) 4 32 Tryz.underlying52 ii d6 d7 d8 rfl (by decide) M.heap.size _ (by rfl) (by first|exact Nat.le_refl _|omega|(simp;done)|(simp;omega)) (by repeat(first|((with_reducible refine qI _ _ _ ?_);(first|rfl|(simp;done)))|with_reducible refine zE ?_|with_reducible refine zc ?_ _)) b l.ron d (zK l.ro l.ron) (by rfl) HN.out (qP _ _) (ZF (e2.out _ (by repeat(first|exact bZ|refine Below.drew ?_|refine zl ?_ _)))) (Zm _ _) (by unfold maxLen;omega) (by omega) ?_;intro p1 q1 u1 P Z H;clear H;have c:Hid (Below M.heap.size M u1):=(by show Below _ _ _;refine zf ?_ (zm P);exact(by repeat(first|exact bZ|refine Below.drew ?_|refine zl ?_ _)));refine f.out _ _ (KS.out _ c.out) (fun hS=>?_)
   clear f K;simp only[Act.put,sB,sZ,sS];refine zj (rs:=[14]) (by kernel_rfl) (by simp) ?_
   refine zd.consL rfl (fun K f=>?_) zd.nil
   focus
    go_simp;refine f.out _ _ (KS.out _ (by repeat(first|exact c.out|exact bZ|refine Below.drew ?_|refine zl ?_ _))) (fun hS=>?_)
    clear f K;simp only[sZ,sS]
  rotate_left 1
  focus
   go_simp;refine f.out _ _ (KS.out _ (by repeat(first|exact c.out|exact bZ|refine Below.drew ?_|refine zl ?_ _))) (fun hS=>?_)
   clear f K;simp only[sZ,sS];refine zj (rs:=[6]) (by kernel_rfl) (by simp) ?_
   refine zd.consL rfl (fun K f=>?_) zd.nil
   focus
    refine zD (by rfl) (.tmp 227) (.tmp 231) 52 (by rfl) 93 i0 (.agg #[int i64 0,int i64 0,int i64 0,.bool false]) 4 32 Tryz.underlying52 ii d6 d7 d8 rfl (by decide) M.heap.size _ (by rfl) (by first|exact Nat.le_refl _|omega|(simp;done)|(simp;omega)) (by repeat(first|((with_reducible refine qI _ _ _ ?_);(first|rfl|(simp;done)))|with_reducible refine zE ?_|with_reducible refine zc ?_ _)) b l.ron d (zK l.ro l.ron) (by rfl) HN.out (qP _ _) (ZF (e2.out _ (by repeat(first|exact bZ|refine Below.drew ?_|refine zl ?_ _)))) (Zm _ _) (by unfold maxLen;omega) (by omega) ?_;intro p1 q1 u1 P Z H;clear H;have c:Hid (Below M.heap.size M u1):=(by show Below _ _ _;refine zf ?_ (zm P);exact(by repeat(first|exact bZ|refine Below.drew ?_|refine zl ?_ _)));refine f.out _ _ (KS.out _ c.out) (fun hS=>?_)
    clear f K;simp only[Act.put,sB,sZ,sS]
 rotate_left 2
 focus
  go_simp;refine f.out _ _ (KS.out _ (by repeat(first|exact c.out|exact bZ|refine Below.drew ?_|refine zl ?_ _))) (fun hS=>?_)
  clear f K;simp only[sZ,sS];refine zj (rs:=[1]) (by kernel_rfl) (by simp) ?_
  refine zd.consL rfl (fun K f=>?_) zd.nil
  focus
   go_simp;refine f.out _ _ (KS.out _ (by repeat(first|exact c.out|exact bZ|refine Below.drew ?_|refine zl ?_ _))) (fun hS=>?_)
   clear f K;simp only[sZ,sS];refine zj (rs:=[6]) (by kernel_rfl) (by simp) ?_
   refine zd.consL rfl (fun K f=>?_) zd.nil
   focus
    refine zD (by rfl) (.tmp 227) (.tmp 231) 52 (by rfl) 93 i0 (.agg #[int i64 0,int i64 0,int i64 0,.bool false]) 4 32 Tryz.underlying52 ii d6 d7 d8 rfl (by decide) M.heap.size _ (by rfl) (by first|exact Nat.le_refl _|omega|(simp;done)|(simp;omega)) (by repeat(first|((with_reducible refine qI _ _ _ ?_);(first|rfl|(simp;done)))|with_reducible refine zE ?_|with_reducible refine zc ?_ _)) b l.ron d (zK l.ro l.ron) (by rfl) HN.out (qP _ _) (ZF (e2.out _ (by repeat(first|exact bZ|refine Below.drew ?_|refine zl ?_ _)))) (Zm _ _) (by unfold maxLen;omega) (by omega) ?_;intro p1 q1 u1 P Z H;clear H;have c:Hid (Below M.heap.size M u1):=(by show Below _ _ _;refine zf ?_ (zm P);exact(by repeat(first|exact bZ|refine Below.drew ?_|refine zl ?_ _)));refine f.out _ _ (KS.out _ c.out) (fun hS=>?_)
    clear f K;simp only[Act.put,sB,sZ,sS]
 all_goals
  refine zj (rs:=[15]) (by kernel_rfl) (by simp) ?_
  refine zd.consL rfl (fun K f=>?_) zd.nil
  refine step_append_lies _ (by rfl) (.tmp 232) (.tmp 240) 52 (by rfl) M.heap.size 93 i0 (.agg #[int i64 0,int i64 0,int i64 0,.bool false]) 4 32 Tryz.underlying52 ii d6 d7 d8 rfl (by decide) _ l.ron (zK l.ro l.ron) (by rfl) (by first|exact Z|exact Z.alloc _|exact zp (zl bZ _) Z) _ 1 1 [int i64 who,int i64 (m:Int),int i64 (s.ca.B m),.bool true] (by rfl) (by rfl) (by refine World.news_of_block (cs:=#[int i64 who,int i64 (m:Int),int i64 (s.ca.B m),.bool true]) (t:=93) (fr:=(0,0)) ?_;exact(by repeat(first|((with_reducible refine qI _ _ _ ?_);(first|rfl|(simp;done)))|with_reducible refine zE ?_|with_reducible refine zc ?_ _|with_reducible refine zb ?_ (zm P)))) (by intro u hu;simp at hu;rcases hu with rfl|rfl|rfl|rfl <;> rfl) (by decide) (by unfold maxLen;omega) (by omega) (by first|exact c.out.size|(have:=c.out.size;simp;omega)) _ rfl ?_;intro g2 j5 u2 j4 j3 j6 j7;refine(fun (a9:Hid (Below M.heap.size M u2))=>?_) (Below.grown ?_ j3 ?_ (fun j hj=>(Z.lt j hj).1));rotate_left;(focus(repeat(first|exact bZ|refine Below.drew ?_|refine zl ?_ _|refine zf ?_ (zm P))));(focus(first|exact c.out.size|(have:=c.out.size;simp;omega)));have q0:=(a9.out.cell (p:=⟨y,k*3+1,none⟩) (zQ O)).trans h0;have q1:=ze (zb O a9.out) (k*3+1);refine f.out _ _ (KS.out _ a9.out) (fun hS=>?_)
  clear f K;simp only[Act.put,sB,sZ,sS]
  (refine tkL 16 (v:=?_) rfl (by kernel_rfl) (fun _ _ _ h=>h) rfl (by assumption) ?_ ?_;rotate_left;(focus(intro w' h;(try dsimp only at h);go_simp;try with_reducible rfl));simp only[Act.put,sB,sZ,sS])
  (refine tkL 17 (v:=?_) rfl (by kernel_rfl) (fun _ _ _ h=>h) rfl (by assumption) ?_ ?_;rotate_left;(focus(intro w' h;(try dsimp only at h);go_simp;try with_reducible rfl));simp only[Act.put,sB,sZ,sS])
  refine zj (rs:=[18]) (by kernel_rfl) (by simp) ?_
  refine zd.lastL rfl (fun K f=>?_)
  go_simp;refine f.out _ _ ?_;clear f K;refine qd (by kernel_rfl) ?_ _
  have HF:Hid _:=doRo (k:=k) (n:=l.ron+1) (T:=ZR l.ro l.ron (fun _=>⟨who,(m:Int),s.ca.B m,true⟩)) (v:=⟨leg,1,false,who,⟨pe,len,hei,cl,true,be⟩⟩) HO.out HQ.out i3.out (zf i a9.out) (zC (by rw[zbX,ZQ,show zK (fun _=>(⟨who,(m:Int),s.ca.B m,true⟩:qH)) 0=[] from rfl,List.nil_append];exact j4) i.size) (by rw[e0.out,e4.out];exact .addWhole m rfl rfl rfl (by rw[← e4.out,← e0.out];exact b6.out))
  go_wp2;go_ret;exact HF.out
end Go.Proofs.YtgmdnkngnhkgbaaGreat
