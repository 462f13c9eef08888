import Derived.Test.YtgmdnkngnhkgbaaGreatB38
namespace Go.Proofs.YtgmdnkngnhkgbaaGreat
open Go.RowKit
open Go.Value (int)
open Go.IntKind (i64)
set_option maxHeartbeats 64000000
set_option maxRecDepth 1000000
theorem l7Do_d (g base N R k V a7 e3:Nat)(e0 d9 d8:Option Addr)(leg who:Int)(p:ZO)(x:Off)(L C A B D E:Nat->Value)(w:World)(hq:w.heap[g]?=some (.cells #[.slice e0 N V,.slice d9 N a7,.slice d8 R e3] 27 (0,0)))(S:zy w base (.slice e0 N V) (.slice d9 N a7) (.slice d8 R e3) N N R x L C A B D E)(hN:N<=1048576)(hk:zH x.sa leg N=k)(M:k<N)(g4:zV (x.sa k) (x.ld k)) :
  Calls Tryz.prog 118 #[.pointer (some ⟨g,0,none⟩),.agg #[int i64 leg,int i64 0,.bool false,int i64 who,int i64 p.pe,int i64 p.len,int i64 p.hei,int i64 p.cl,.bool p.all,int i64 p.be]] w fun e w'=>zcl g base N R k V a7 e3 e0 d9 d8 ⟨leg,0,false,who,p⟩ x L C E w e w':=by
 obtain⟨i0,ii,b7,b8,b9⟩:=info_parts Tryz.infoStay;obtain⟨i,rfl,h5,b5⟩:=own_addr S.ld.row (by omega)
 have HO:=hI S;have HK:=hI hk;have a1:=hI g4;have g8:Hid (base<=w.heap.size):=by show base<=w.heap.size;omega
 have HQ:=hI hq;have c8:=hI S.sa.at;obtain⟨cs,g3⟩:=zG S.ld.row i rfl;obtain⟨d,f,eA,m1,m2,m3⟩:=zr (S.ld.st k M);obtain⟨a2,a8,eB,m4,m5,m6⟩:=zr (S.ld.ro k M);obtain⟨a3,a9,eD,m7,m8,m9⟩:=zr (S.ld.se k M);have d7:Hid (w.ownsRow base 84 4 (.slice d (x.ld k).stn f) (x.ld k).stn (zN (x.ld k).st (x.ld k).stn)):=by show w.ownsRow _ _ _ _ _ _;rw[← eA];exact S.ld.st k M
 have h3:Hid (w.ownsRow base 93 4 (.slice a2 (x.ld k).ron a8) (x.ld k).ron (zK (x.ld k).ro (x.ld k).ron)):=by show w.ownsRow _ _ _ _ _ _;rw[← eB];exact S.ld.ro k M
 have h4:Hid (w.ownsRow base 99 2 (.slice a3 (x.ld k).sen a9) (x.ld k).sen (zJ (x.ld k).se (x.ld k).sen)):=by show w.ownsRow _ _ _ _ _ _;rw[← eD];exact S.ld.se k M
 have c9:Hid (w.cell? ⟨i,k*3,none⟩=some (.slice d (x.ld k).stn f)):=by
  have h:=zx S.ld.row (k*3+0) (by omega) rfl
  rw[zz 3 _ k 0 (by decide)] at h
  rw[← eA];exact h
 have e8:Hid (w.cell? ⟨i,k*3+1,none⟩=some (.slice a2 (x.ld k).ron a8)):=by
  have h:=zx S.ld.row (k*3+1) (by omega) rfl
  rw[zz 3 _ k 1 (by decide)] at h
  rw[← eB];exact h
 have e9:Hid (w.cell? ⟨i,k*3+2,none⟩=some (.slice a3 (x.ld k).sen a9)):=by
  have h:=zx S.ld.row (k*3+2) (by omega) rfl
  rw[zz 3 _ k 2 (by decide)] at h
  rw[← eD];exact h
 have f8:Hid ((d=none->(x.ld k).stn=0/\f=0)/\(a2=none->(x.ld k).ron=0/\a8=0)/\(a3=none->(x.ld k).sen=0/\a9=0)):=⟨m3,m6,m9⟩;obtain⟨s,b6⟩:∃ s,s=x.sa k:=⟨_,rfl⟩;obtain⟨l,e7⟩:∃ l,l=x.ld k:=⟨_,rfl⟩;rw[← e7] at d7 h3 h4 c9 e8 e9 f8 a1;rw[← b6] at a1;have f9:=hI b6;have d0:=hI e7;have h0:=hI g3;obtain⟨a,H,la,lc,ca,cc,rfl,f0,f1,f2,f3,f4,f5,f6,f7,e6,e5,g7,g6⟩:=c8.out k M;rw[← b6] at f0 f1 f2 f3 f4 f5 f6 f7 e6 e5 g7 g6;have h1:Hid (zT w la s.la/\zT w ca s.ca):=⟨e6,e5⟩;have g9:Hid (∀ W,Below w.heap.size w W->W.cell? ⟨a,H+k*8,none⟩=some (int i64 s.id)/\W.cell? ⟨a,H+k*8+1,none⟩=some (.string s.fr)/\W.cell? ⟨a,H+k*8+2,none⟩=some (.string s.dst)/\W.cell? ⟨a,H+k*8+3,none⟩=some (int i64 s.dep)/\W.cell? ⟨a,H+k*8+4,none⟩=some (int i64 s.arr)/\W.cell? ⟨a,H+k*8+5,none⟩=some (.slice la s.la.n lc)/\W.cell? ⟨a,H+k*8+6,none⟩=some (.slice ca s.ca.n cc)/\W.cell? ⟨a,H+k*8+7,none⟩=some (int i64 s.most)):=fun W hb=>by
  have F:=World.block_lt_of_cell? w _ f0;exact⟨(hb.cell (p:=⟨a,H+k*8,none⟩) F).trans f0,(hb.cell (p:=⟨a,H+k*8+1,none⟩) F).trans f1,(hb.cell (p:=⟨a,H+k*8+2,none⟩) F).trans f2,(hb.cell (p:=⟨a,H+k*8+3,none⟩) F).trans f3,(hb.cell (p:=⟨a,H+k*8+4,none⟩) F).trans f4,(hb.cell (p:=⟨a,H+k*8+5,none⟩) F).trans f5,(hb.cell (p:=⟨a,H+k*8+6,none⟩) F).trans f6,(hb.cell (p:=⟨a,H+k*8+7,none⟩) F).trans f7⟩
 clear f0 f1 f2 f3 f4 f5 f6 f7 e6 e5 g7 g6 b6 e7 g3 eA eB eD m1 m2 m3 m4 m5 m6 m7 m8 m9 g4 hk h5;have i1:(0:Int)<=(k:Int):=by omega
 have i2:(k:Int)<(N:Int):=by omega
 have Y:Below w.heap.size w (w.alloc (.cells #[int i64 leg,int i64 0,.bool false,int i64 who,int i64 p.pe,int i64 p.len,int i64 p.hei,int i64 p.cl,.bool p.all,int i64 p.be] 169)):=zl bZ _;have b0:=heap_alloc_new w (.cells #[int i64 leg,int i64 0,.bool false,int i64 who,int i64 p.pe,int i64 p.len,int i64 p.hei,int i64 p.cl,.bool p.all,int i64 p.be] 169);go_enter Tryz.func118,Tryz.ntmps118;go_upto_region 1 with fail;generalize (w.alloc (.cells #[int i64 leg,int i64 0,.bool false,int i64 who,int i64 p.pe,int i64 p.len,int i64 p.hei,int i64 p.cl,.bool p.all,int i64 p.be] 169))=W at Y b0 ⊢;have z0:∀ G:zv W,G.val.cell? ⟨g,0,none⟩=some (.slice (some ⟨a,H,none⟩) N V):=fun G=>za (zb HQ.out (zf Y G.bel)) 0 _ rfl
 have z1:∀ G:zv W,G.val.cell? ⟨w.heap.size,0,none⟩=some (int i64 leg):=fun G=>za (zb b0 G.bel) 0 _ rfl
 refine zg (by kernel_rfl) (by kernel_rfl) ?_
 repeat(first|go_big_quiet_skip|(go_big_quiet_want;go_big_quiet_op;first|go_big_quiet_on|(apply Exists.intro;refine⟨fun G=>?_,?_⟩;(focus(first|(go_at_call 87;refine zh (v:=int i64 (k:Int)) ((Zr _ N V x.sa leg _ hN (c8.out.below (zf Y G.bel))).mono ?_);rintro e w2 ⟨he,e4⟩;refine⟨?_,e4⟩;rw[HK.out] at he;rcases he with⟨_,rfl⟩|⟨h,_⟩;rfl;omega)));go_big_quiet_on)))
 refine wpQuiet_nil ?_;rintro _ ⟨G,rfl⟩;clear z0 z1;have Z:=zf Y G.bel;have bW:=zb b0 G.bel;obtain⟨c0,c1,c2,c3,c4,c5,c6,c7⟩:=g9.out G.val Z;have y0:=za (zb HQ.out Z) 0 _ rfl;have y1:∀ o,(G.val.alloc o).cell? ⟨g,1,none⟩=some (.slice (some ⟨i,0,none⟩) N a7):=fun o=>za (zb HQ.out (zl Z o)) 1 _ rfl
 have y4:∀ o,(G.val.alloc o).cell? ⟨w.heap.size,4,none⟩=some (int i64 p.pe):=fun o=>za (zc bW o) 4 _ rfl
 have y5:∀ o,(G.val.alloc o).cell? ⟨w.heap.size,5,none⟩=some (int i64 p.len):=fun o=>za (zc bW o) 5 _ rfl
 have y6:∀ o,(G.val.alloc o).cell? ⟨w.heap.size,6,none⟩=some (int i64 p.hei):=fun o=>za (zc bW o) 6 _ rfl
 have y7:∀ o,(G.val.alloc o).cell? ⟨w.heap.size,7,none⟩=some (int i64 p.cl):=fun o=>za (zc bW o) 7 _ rfl
 have y8:∀ o,(G.val.alloc o).cell? ⟨w.heap.size,8,none⟩=some (.bool p.all):=fun o=>za (zc bW o) 8 _ rfl
 have y9:∀ o,(G.val.alloc o).cell? ⟨w.heap.size,9,none⟩=some (int i64 p.be):=fun o=>za (zc bW o) 9 _ rfl
 go_upto_region 8 with fail;have q:Below w.heap.size w ((G.val.alloc (.cells #[int i64 s.id,.string s.fr,.string s.dst,int i64 s.dep,int i64 s.arr,.slice la s.la.n lc,.slice ca s.ca.n cc,int i64 s.most] 33)).alloc (.cells #[int i64 p.pe,int i64 p.len,int i64 p.hei,int i64 p.cl,.bool p.all,int i64 p.be] 41)):=zl (zl Z _) _;have P:=zc (zc bW (.cells #[int i64 s.id,.string s.fr,.string s.dst,int i64 s.dep,int i64 s.arr,.slice la s.la.n lc,.slice ca s.ca.n cc,int i64 s.most] 33)) (.cells #[int i64 p.pe,int i64 p.len,int i64 p.hei,int i64 p.cl,.bool p.all,int i64 p.be] 41);have a6:=zc (heap_alloc_new G.val (.cells #[int i64 s.id,.string s.fr,.string s.dst,int i64 s.dep,int i64 s.arr,.slice la s.la.n lc,.slice ca s.ca.n cc,int i64 s.most] 33)) (.cells #[int i64 p.pe,int i64 p.len,int i64 p.hei,int i64 p.cl,.bool p.all,int i64 p.be] 41);have O:=zbZ G.val (.cells #[int i64 s.id,.string s.fr,.string s.dst,int i64 s.dep,int i64 s.arr,.slice la s.la.n lc,.slice ca s.ca.n cc,int i64 s.most] 33) (.cells #[int i64 p.pe,int i64 p.len,int i64 p.hei,int i64 p.cl,.bool p.all,int i64 p.be] 41);generalize hx0:(G.val.alloc (.cells #[int i64 s.id,.string s.fr,.string s.dst,int i64 s.dep,int i64 s.arr,.slice la s.la.n lc,.slice ca s.ca.n cc,int i64 s.most] 33)).alloc (.cells #[int i64 p.pe,int i64 p.len,int i64 p.hei,int i64 p.cl,.bool p.all,int i64 p.be] 41)=X at q P a6 O ⊢;generalize hsb:G.val.heap.size=sb at a6 O ⊢;clear c0 c1 c2 c3 c4 c5 c6 c7 y0 y1 y4 y5 y6 y7 y8 y9 bW Z Y b0 hx0 hsb G W;have w1:=za P 1 _ rfl;have w2:=za P 2 _ rfl;have w3:=za P 3 _ rfl;have L0:X.cell? ⟨i,k*3,none⟩=some (.slice d l.stn f):=(q.cell (p:=⟨i,k*3,none⟩) b5).trans c9.out;have L1:X.cell? ⟨i,k*3+1,none⟩=some (.slice a2 l.ron a8):=(q.cell (p:=⟨i,k*3+1,none⟩) b5).trans e8.out;have L2:X.cell? ⟨i,k*3+2,none⟩=some (.slice a3 l.sen a9):=(q.cell (p:=⟨i,k*3+2,none⟩) b5).trans e9.out;have bG:=zb h0.out q;obtain⟨r,g5⟩:=zfn s.la l.stn l.st p.len p.hei;have d6:=hI g5;clear g5;have s5:∀ G:zv X,G.val.cell? ⟨sb,5,none⟩=some (.slice la s.la.n lc):=fun G=>za (zb a6 G.bel) 5 _ rfl
 have s6:∀ G:zv X,G.val.cell? ⟨i,k*3,none⟩=some (.slice d l.stn f):=fun G=>(G.bel.cell (p:=⟨i,k*3,none⟩) (zQ bG)).trans L0
 have p1:∀ G:zv X,G.val.cell? ⟨sb+1,1,none⟩=some (int i64 p.len):=fun G=>za (zb O G.bel) 1 _ rfl
 have p2:∀ G:zv X,G.val.cell? ⟨sb+1,2,none⟩=some (int i64 p.hei):=fun G=>za (zb O G.bel) 2 _ rfl
 go_upto_region 29 with fail;refine zg (by kernel_rfl) (by kernel_rfl) ?_
 repeat(first|go_big_quiet_skip|(go_big_quiet_want;go_big_quiet_op;first|go_big_quiet_on|(apply Exists.intro;refine⟨fun G=>?_,?_⟩;(focus(first|(go_at_call 126;refine zh (v:=int i64 r) ((zfZ la d s.la.n lc l.stn f s.la l.st p.len p.hei _ rfl ((Zd _ _ _).1 a1.out.1) (h1.out.1.below (zf q G.bel)) ((QJ d7.out).below (zf q G.bel))).mono ?_);rintro e w2 ⟨⟨r',rfl,o1⟩,e4⟩;exact⟨by rw[zgc o1 d6.out],e4⟩)));go_big_quiet_on)))
 refine wpQuiet_nil ?_;rintro _ ⟨G,rfl⟩;have Q:=zf q G.bel;have g1:=zb P G.bel;have e2:=zb O G.bel;have a5:=zb bG G.bel;clear w1 w2 w3 L0 L1 L2 s5 s6 p1 p2;generalize G.val=I at Q g1 e2 a5 ⊢;clear q P a6 O bG G X
 by_cases hr:r<0
 ·have e1:decide (r<0)=true:=decide_eq_true hr
  have HF:Hid _:=doNo (k:=k) (code:=5) (v:=⟨leg,0,false,who,p⟩) HO.out HQ.out Q (by
   refine .deck rfl rfl ?_;rw[← f9.out,← d0.out]
   rcases d6.out with⟨j,h,_⟩|⟨h,h2⟩
   ·omega
   ·exact .inr ⟨rfl,h2⟩)
  go_wp2;go_ret;exact HF.out
 obtain⟨m,rfl⟩:∃ m:Nat,r=(m:Int):=⟨r.toNat,by omega⟩
 have e1:decide ((m:Int)<0)=false:=decide_eq_false hr;clear hr;go_upto_region 32 with fail;have HN:=hI f8.out.1;have d5:Hid (∀ z,Below I.heap.size I z->qp z d l.stn l.st):=fun z h=>(QJ d7.out).below (zf Q h)
 have i6:l.stn<=60:=((Zd _ _ _).1 a1.out.1).2.1;have g0:I.cell? ⟨i,k*3,none⟩=some (.slice d l.stn f):=(Q.cell (p:=⟨i,k*3,none⟩) b5).trans c9.out;have KS:Hid (∀ z,Below I.heap.size I z->(z.cell? ⟨w.heap.size,3,none⟩=some (int i64 who)/\z.cell? ⟨sb+1,1,none⟩=some (int i64 p.len)/\z.cell? ⟨sb+1,2,none⟩=some (int i64 p.hei))/\z.cell? ⟨i,k*3,none⟩=some (.slice d l.stn f)):=fun z h=>⟨⟨za (zb g1 h) 3 _ rfl,za (zb e2 h) 1 _ rfl,za (zb e2 h) 2 _ rfl⟩,(h.cell (p:=⟨i,k*3,none⟩) (zQ a5)).trans g0⟩
 refine qt 19 20 (fun w'=>(w'.cell? ⟨w.heap.size,3,none⟩=some (int i64 who)/\w'.cell? ⟨sb+1,1,none⟩=some (int i64 p.len)/\w'.cell? ⟨sb+1,2,none⟩=some (int i64 p.hei))/\w'.cell? ⟨i,k*3,none⟩=some (.slice d l.stn f)) rfl (by kernel_rfl) (KS.out _ (Below.drew bZ)) (fun hS=>?_)
 simp only[List.replicate_succ,List.replicate_zero]
 (refine tkL 0 (v:=?_) rfl (by kernel_rfl) (fun _ _ _ h=>h) rfl (by assumption) ?_ ?_;rotate_left;(focus(intro w' h;(try dsimp only at h);go_simp;try with_reducible rfl));simp only[Act.put,sB,sZ,sS])
 (refine tkL 2 (v:=?_) rfl (by kernel_rfl) (fun _ _ _ h=>h) rfl (by assumption) ?_ ?_;rotate_left;(focus(intro w' h;(try dsimp only at h);go_simp;try with_reducible rfl));simp only[Act.put,sB,sZ,sS])
 (refine tkL 3 (v:=?_) rfl (by kernel_rfl) (fun _ _ _ h=>h) rfl (by assumption) ?_ ?_;rotate_left;(focus(intro w' h;(try dsimp only at h);go_simp;try with_reducible rfl));simp only[Act.put,sB,sZ,sS])
 (refine tkL 4 (v:=?_) rfl (by kernel_rfl) (fun _ _ _ h=>h) rfl (by assumption) ?_ ?_;rotate_left;(focus(intro w' h;(try dsimp only at h);go_simp;try with_reducible rfl));simp only[Act.put,sB,sZ,sS])
 (refine tkL 5 (v:=?_) rfl (by kernel_rfl) (fun _ _ _ h=>h) rfl (by assumption) ?_ ?_;rotate_left;(focus(intro w' h;(try dsimp only at h);go_simp;try with_reducible rfl));simp only[Act.put,sB,sZ,sS])
 (refine tkL 7 (v:=?_) rfl (by kernel_rfl) (fun _ _ _ h=>h) rfl (by assumption) ?_ ?_;rotate_left;(focus(intro w' h;(try dsimp only at h);go_simp;try with_reducible rfl));simp only[Act.put,sB,sZ,sS])
 (refine tkL 8 (v:=?_) rfl (by kernel_rfl) (fun _ _ _ h=>h) rfl (by assumption) ?_ ?_;rotate_left;(focus(intro w' h;(try dsimp only at h);go_simp;try with_reducible rfl));simp only[Act.put,sB,sZ,sS])
 (refine tkL 9 (v:=?_) rfl (by kernel_rfl) (fun _ _ _ h=>h) rfl (by assumption) ?_ ?_;rotate_left;(focus(intro w' h;(try dsimp only at h);go_simp;try with_reducible rfl));simp only[Act.put,sB,sZ,sS])
 (refine tkL 10 (v:=?_) rfl (by kernel_rfl) (fun _ _ _ h=>h) rfl (by assumption) ?_ ?_;rotate_left;(focus(intro w' h;(try dsimp only at h);go_simp;try with_reducible rfl));simp only[Act.put,sB,sZ,sS])
 (refine tkL 11 (v:=?_) rfl (by kernel_rfl) (fun _ _ _ h=>h) rfl (by assumption) ?_ ?_;rotate_left;(focus(intro w' h;(try dsimp only at h);go_simp;try with_reducible rfl));simp only[Act.put,sB,sZ,sS])
 (refine tkL 12 (v:=?_) rfl (by kernel_rfl) (fun _ _ _ h=>h) rfl (by assumption) ?_ ?_;rotate_left;(focus(intro w' h;(try dsimp only at h);go_simp;try with_reducible rfl));simp only[Act.put,sB,sZ,sS])
 (refine tkL 13 (v:=?_) rfl (by kernel_rfl) (fun _ _ _ h=>h) rfl (by assumption) ?_ ?_;rotate_left;(focus(intro w' h;(try dsimp only at h);go_simp;try with_reducible rfl));simp only[Act.put,sB,sZ,sS])
 (refine tkL 14 (v:=?_) rfl (by kernel_rfl) (fun _ _ _ h=>h) rfl (by assumption) ?_ ?_;rotate_left;(focus(intro w' h;(try dsimp only at h);go_simp;try with_reducible rfl));simp only[Act.put,sB,sZ,sS])
 refine zj (rs:=[1,15]) (by kernel_rfl) (by simp) ?_
 refine zd.consL rfl (fun K c=>?_) (zd.consL rfl (fun K c=>?_) zd.nil)
 focus
  go_simp;refine c.out _ _ (KS.out _ (by repeat(first|exact b.out|exact bZ|refine Below.drew ?_|refine zl ?_ _))) (fun hS=>?_)
  clear c K;simp only[sZ,sS];refine zj (rs:=[6,15]) (by kernel_rfl) (by simp) ?_
  refine zd.consL rfl (fun K c=>?_) (zd.consL rfl (fun K c=>?_) zd.nil)
  focus
   refine zD (by rfl) (.tmp 168) (.tmp 172) 51 (by rfl) 84 i0 (.agg #[int i64 0,int i64 0,int i64 0,int i64 0]) 4 32 Tryz.underlying51 ii b7 b8 b9 rfl (by decide) I.heap.size _ (by rfl) (by first|exact Nat.le_refl _|omega|(simp;done)|(simp;omega)) (by repeat(first|((with_reducible refine qI _ _ _ ?_);(first|rfl|(simp;done)))|with_reducible refine zE ?_|with_reducible refine zc ?_ _)) d l.stn f (zN l.st l.stn) (by rfl) HN.out (ZP _ _) (zad (d5.out _ (by repeat(first|exact bZ|refine Below.drew ?_|refine zl ?_ _)))) (QI _ _) (by unfold maxLen;omega) (by omega) ?_;intro p1 q1 u1 J U y;clear y;have b:Hid (Below I.heap.size I u1):=(by show Below _ _ _;refine zf ?_ (zm J);exact(by repeat(first|exact bZ|refine Below.drew ?_|refine zl ?_ _)));refine c.out _ _ (KS.out _ b.out) (fun hS=>?_)
   clear c K;simp only[Act.put,sB,sZ,sS];refine zj (rs:=[15]) (by kernel_rfl) (by simp) ?_
   refine zd.consL rfl (fun K c=>?_) zd.nil
   focus
    go_simp;refine c.out _ _ (KS.out _ (by repeat(first|exact b.out|exact bZ|refine Below.drew ?_|refine zl ?_ _))) (fun hS=>?_)
    clear c K;simp only[sZ,sS]
  rotate_left 1
  focus
   go_simp;refine c.out _ _ (KS.out _ (by repeat(first|exact b.out|exact bZ|refine Below.drew ?_|refine zl ?_ _))) (fun hS=>?_)
   clear c K;simp only[sZ,sS];refine zj (rs:=[6]) (by kernel_rfl) (by simp) ?_
   refine zd.consL rfl (fun K c=>?_) zd.nil
   focus
    refine zD (by rfl) (.tmp 168) (.tmp 172) 51 (by rfl) 84 i0 (.agg #[int i64 0,int i64 0,int i64 0,int i64 0]) 4 32 Tryz.underlying51 ii b7 b8 b9 rfl (by decide) I.heap.size _ (by rfl) (by first|exact Nat.le_refl _|omega|(simp;done)|(simp;omega)) (by repeat(first|((with_reducible refine qI _ _ _ ?_);(first|rfl|(simp;done)))|with_reducible refine zE ?_|with_reducible refine zc ?_ _)) d l.stn f (zN l.st l.stn) (by rfl) HN.out (ZP _ _) (zad (d5.out _ (by repeat(first|exact bZ|refine Below.drew ?_|refine zl ?_ _)))) (QI _ _) (by unfold maxLen;omega) (by omega) ?_;intro p1 q1 u1 J U y;clear y;have b:Hid (Below I.heap.size I u1):=(by show Below _ _ _;refine zf ?_ (zm J);exact(by repeat(first|exact bZ|refine Below.drew ?_|refine zl ?_ _)));refine c.out _ _ (KS.out _ b.out) (fun hS=>?_)
    clear c K;simp only[Act.put,sB,sZ,sS]
 rotate_left 2
 focus
  go_simp;refine c.out _ _ (KS.out _ (by repeat(first|exact b.out|exact bZ|refine Below.drew ?_|refine zl ?_ _))) (fun hS=>?_)
  clear c K;simp only[sZ,sS];refine zj (rs:=[1]) (by kernel_rfl) (by simp) ?_
  refine zd.consL rfl (fun K c=>?_) zd.nil
  focus
   go_simp;refine c.out _ _ (KS.out _ (by repeat(first|exact b.out|exact bZ|refine Below.drew ?_|refine zl ?_ _))) (fun hS=>?_)
   clear c K;simp only[sZ,sS];refine zj (rs:=[6]) (by kernel_rfl) (by simp) ?_
   refine zd.consL rfl (fun K c=>?_) zd.nil
   focus
    refine zD (by rfl) (.tmp 168) (.tmp 172) 51 (by rfl) 84 i0 (.agg #[int i64 0,int i64 0,int i64 0,int i64 0]) 4 32 Tryz.underlying51 ii b7 b8 b9 rfl (by decide) I.heap.size _ (by rfl) (by first|exact Nat.le_refl _|omega|(simp;done)|(simp;omega)) (by repeat(first|((with_reducible refine qI _ _ _ ?_);(first|rfl|(simp;done)))|with_reducible refine zE ?_|with_reducible refine zc ?_ _)) d l.stn f (zN l.st l.stn) (by rfl) HN.out (ZP _ _) (zad (d5.out _ (by repeat(first|exact bZ|refine Below.drew ?_|refine zl ?_ _)))) (QI _ _) (by unfold maxLen;omega) (by omega) ?_;intro p1 q1 u1 J U y;clear y;have b:Hid (Below I.heap.size I u1):=(by show Below _ _ _;refine zf ?_ (zm J);exact(by repeat(first|exact bZ|refine Below.drew ?_|refine zl ?_ _)));refine c.out _ _ (KS.out _ b.out) (fun hS=>?_)
    clear c K;simp only[Act.put,sB,sZ,sS]
 all_goals
  refine zj (rs:=[16]) (by kernel_rfl) (by simp) ?_
  refine zd.consL rfl (fun K c=>?_) zd.nil
  refine step_append_lies _ (by rfl) (.tmp 173) (.tmp 182) 51 (by rfl) I.heap.size 84 i0 (.agg #[int i64 0,int i64 0,int i64 0,int i64 0]) 4 32 Tryz.underlying51 ii b7 b8 b9 rfl (by decide) _ l.stn (zN l.st l.stn) (by rfl) (by first|exact U|exact U.alloc _|exact zp (zl bZ _) U) _ 1 1 [int i64 who,int i64 (m:Int),int i64 p.len,int i64 p.hei] (by rfl) (by rfl) (by refine World.news_of_block (cs:=#[int i64 who,int i64 (m:Int),int i64 p.len,int i64 p.hei]) (t:=84) (fr:=(0,0)) ?_;exact(by repeat(first|((with_reducible refine qI _ _ _ ?_);(first|rfl|(simp;done)))|with_reducible refine zE ?_|with_reducible refine zc ?_ _|with_reducible refine zb ?_ (zm J)))) (by intro u hu;simp at hu;rcases hu with rfl|rfl|rfl|rfl <;> rfl) (by decide) (by unfold maxLen;omega) (by omega) (by first|exact b.out.size|(have:=b.out.size;simp;omega)) _ rfl ?_;intro g2 i3 u2 h9 h6 i4 i5;refine(fun (a0:Hid (Below I.heap.size I u2))=>?_) (Below.grown ?_ h6 ?_ (fun j hj=>(U.lt j hj).1));rotate_left;(focus(repeat(first|exact bZ|refine Below.drew ?_|refine zl ?_ _|refine zf ?_ (zm J))));(focus(first|exact b.out.size|(have:=b.out.size;simp;omega)));have q0:=(a0.out.cell (p:=⟨i,k*3,none⟩) (zQ a5)).trans g0;have q1:=ze (zb a5 a0.out) (k*3);refine c.out _ _ (KS.out _ a0.out) (fun hS=>?_)
  clear c K;simp only[Act.put,sB,sZ,sS]
  (refine tkL 17 (v:=?_) rfl (by kernel_rfl) (fun _ _ _ h=>h) rfl (by assumption) ?_ ?_;rotate_left;(focus(intro w' h;(try dsimp only at h);go_simp;try with_reducible rfl));simp only[Act.put,sB,sZ,sS])
  (refine tkL 18 (v:=?_) rfl (by kernel_rfl) (fun _ _ _ h=>h) rfl (by assumption) ?_ ?_;rotate_left;(focus(intro w' h;(try dsimp only at h);go_simp;try with_reducible rfl));simp only[Act.put,sB,sZ,sS])
  refine zj (rs:=[19]) (by kernel_rfl) (by simp) ?_
  refine zd.lastL rfl (fun K c=>?_)
  go_simp;refine c.out _ _ ?_;clear c K;refine qd (by kernel_rfl) ?_ _
  have HF:Hid _:=doSt (k:=k) (n:=l.stn+1) (T:=Qp l.st l.stn (fun _=>⟨who,(m:Int),p.len,p.hei⟩)) (v:=⟨leg,0,false,who,p⟩) HO.out HQ.out g8.out (zf Q a0.out) (zC (by rw[zeM,Qt,show zN (fun _=>(⟨who,(m:Int),p.len,p.hei⟩:qW)) 0=[] from rfl,List.nil_append];exact h9) Q.size) (by rw[d0.out];exact .addStay m rfl rfl (by rw[← f9.out,← d0.out];exact d6.out))
  go_wp2;go_ret;exact HF.out
end Go.Proofs.YtgmdnkngnhkgbaaGreat
