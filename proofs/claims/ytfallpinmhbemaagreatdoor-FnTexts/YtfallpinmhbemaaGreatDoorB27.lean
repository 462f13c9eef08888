/-
  OWN TEXT: SpecDd, SpecDe, SpecDf, SpecSe, SpecDg.
-/
import Derived.Deep.DeepCutAuto
import Derived.Deep.RegionLawGrows
import Derived.Deep.AppendLies
import Derived.Deep.LoopGhost
import Derived.Test.YtfallpinmhbemaaGreatDoorB26
namespace Go.Proofs.YtfallpinmhbemaaGreatDoor
open Go.RowKit
open Go.Value (int)
open Go.IntKind (i64)
set_option maxHeartbeats 64000000
set_option maxRecDepth 100000
theorem l7Do_d (g base N R k V a7 e3:Nat)(e0 d9 d8:Option Addr)(leg who:Int)(p:Zf)(x:Off)(L C A B D E:Nat->Value)(w:World)(hq:w.heap[g]?=some (.cells #[.slice e0 N V,.slice d9 N a7,.slice d8 R e3] 66 (0,0)))(S:zV w base (.slice e0 N V) (.slice d9 N a7) (.slice d8 R e3) N N R x L C A B D E)(hN:N<=1048576)(hk:qo x.sa leg N=k)(M:k<N)(g4:qJ (x.sa k) (x.ld k)) :
  Calls Tryz.prog 122 #[.pointer (some ⟨g,0,none⟩),.agg #[int i64 leg,int i64 0,.bool false,int i64 who,int i64 p.pe,int i64 p.len,int i64 p.hei,int i64 p.cl,.bool p.all,int i64 p.be]] w fun e w'=>zcR g base N R k V a7 e3 e0 d9 d8 ⟨leg,0,false,who,p⟩ x L C E w e w':=by
 obtain⟨i0,ii,b7,b8,b9⟩:=info_parts Tryz.infoStay;obtain⟨i,rfl,h5,b5⟩:=qw S.ld.row (by omega)
 have HO:=hI S;have HK:=hI hk;have a1:=hI g4;have g8:Hid (base<=w.heap.size):=by show base<=w.heap.size;omega
 have HQ:=hI hq;have c8:=hI S.sa.at;obtain⟨cs,g3⟩:=zT S.ld.row i rfl;obtain⟨d,f,eA,m1,m2,m3⟩:=zt (S.ld.st k M);obtain⟨a2,a8,eB,m4,m5,m6⟩:=zt (S.ld.ro k M);obtain⟨a3,a9,eD,m7,m8,m9⟩:=zt (S.ld.se k M);have d7:Hid (w.ownsRow base 186 4 (.slice d (x.ld k).stn f) (x.ld k).stn (zX (x.ld k).st (x.ld k).stn)):=by show w.ownsRow _ _ _ _ _ _;rw[← eA];exact S.ld.st k M
 have h3:Hid (w.ownsRow base 190 4 (.slice a2 (x.ld k).ron a8) (x.ld k).ron (zQ (x.ld k).ro (x.ld k).ron)):=by show w.ownsRow _ _ _ _ _ _;rw[← eB];exact S.ld.ro k M
 have h4:Hid (w.ownsRow base 138 2 (.slice a3 (x.ld k).sen a9) (x.ld k).sen (zW (x.ld k).se (x.ld k).sen)):=by show w.ownsRow _ _ _ _ _ _;rw[← eD];exact S.ld.se k M
 have c9:Hid (w.cell? ⟨i,k*3,none⟩=some (.slice d (x.ld k).stn f)):=by
  have h:=zK S.ld.row (k*3+0) (by omega) rfl
  rw[zM 3 _ k 0 (by decide)] at h
  rw[← eA];exact h
 have e8:Hid (w.cell? ⟨i,k*3+1,none⟩=some (.slice a2 (x.ld k).ron a8)):=by
  have h:=zK S.ld.row (k*3+1) (by omega) rfl
  rw[zM 3 _ k 1 (by decide)] at h
  rw[← eB];exact h
 have e9:Hid (w.cell? ⟨i,k*3+2,none⟩=some (.slice a3 (x.ld k).sen a9)):=by
  have h:=zK S.ld.row (k*3+2) (by omega) rfl
  rw[zM 3 _ k 2 (by decide)] at h
  rw[← eD];exact h
 have f8:Hid ((d=none->(x.ld k).stn=0/\f=0)/\(a2=none->(x.ld k).ron=0/\a8=0)/\(a3=none->(x.ld k).sen=0/\a9=0)):=⟨m3,m6,m9⟩;obtain⟨s,b6⟩:∃ s,s=x.sa k:=⟨_,rfl⟩;obtain⟨l,e7⟩:∃ l,l=x.ld k:=⟨_,rfl⟩;rw[← e7] at d7 h3 h4 c9 e8 e9 f8 a1;rw[← b6] at a1;have f9:=hI b6;have d0:=hI e7;have h0:=hI g3;obtain⟨a,H,la,lc,ca,cc,rfl,f0,f1,f2,f3,f4,f5,f6,f7,e6,e5,g7,g6⟩:=c8.out k M;rw[← b6] at f0 f1 f2 f3 f4 f5 f6 f7 e6 e5 g7 g6;have h1:Hid (qd w la s.la/\qd w ca s.ca):=⟨e6,e5⟩;have g9:Hid (∀ W,Below w.heap.size w W->W.cell? ⟨a,H+k*8,none⟩=some (int i64 s.id)/\W.cell? ⟨a,H+k*8+1,none⟩=some (.string s.fr)/\W.cell? ⟨a,H+k*8+2,none⟩=some (.string s.dst)/\W.cell? ⟨a,H+k*8+3,none⟩=some (int i64 s.dep)/\W.cell? ⟨a,H+k*8+4,none⟩=some (int i64 s.arr)/\W.cell? ⟨a,H+k*8+5,none⟩=some (.slice la s.la.n lc)/\W.cell? ⟨a,H+k*8+6,none⟩=some (.slice ca s.ca.n cc)/\W.cell? ⟨a,H+k*8+7,none⟩=some (int i64 s.most)):=fun W hb=>by
  have F:=World.block_lt_of_cell? w _ f0;exact⟨(hb.cell (p:=⟨a,H+k*8,none⟩) F).trans f0,(hb.cell (p:=⟨a,H+k*8+1,none⟩) F).trans f1,(hb.cell (p:=⟨a,H+k*8+2,none⟩) F).trans f2,(hb.cell (p:=⟨a,H+k*8+3,none⟩) F).trans f3,(hb.cell (p:=⟨a,H+k*8+4,none⟩) F).trans f4,(hb.cell (p:=⟨a,H+k*8+5,none⟩) F).trans f5,(hb.cell (p:=⟨a,H+k*8+6,none⟩) F).trans f6,(hb.cell (p:=⟨a,H+k*8+7,none⟩) F).trans f7⟩
 clear f0 f1 f2 f3 f4 f5 f6 f7 e6 e5 g7 g6 b6 e7 g3 eA eB eD m1 m2 m3 m4 m5 m6 m7 m8 m9 g4 hk h5;have i1:(0:Int)<=(k:Int):=by omega
 have i2:(k:Int)<(N:Int):=by omega
 have Y:Below w.heap.size w (w.alloc (.cells #[int i64 leg,int i64 0,.bool false,int i64 who,int i64 p.pe,int i64 p.len,int i64 p.hei,int i64 p.cl,.bool p.all,int i64 p.be] 175)):=zr bZ _;have b0:=heap_alloc_new w (.cells #[int i64 leg,int i64 0,.bool false,int i64 who,int i64 p.pe,int i64 p.len,int i64 p.hei,int i64 p.cl,.bool p.all,int i64 p.be] 175);go_enter Tryz.func122,Tryz.ntmps122;go_upto_region 1 with fail;generalize (w.alloc (.cells #[int i64 leg,int i64 0,.bool false,int i64 who,int i64 p.pe,int i64 p.len,int i64 p.hei,int i64 p.cl,.bool p.all,int i64 p.be] 175))=W at Y b0 ⊢;have z0:∀ G:qe W,G.val.cell? ⟨g,0,none⟩=some (.slice (some ⟨a,H,none⟩) N V):=fun G=>za (zc HQ.out (zj Y G.bel)) 0 _ rfl
 have z1:∀ G:qe W,G.val.cell? ⟨w.heap.size,0,none⟩=some (int i64 leg):=fun G=>za (zc b0 G.bel) 0 _ rfl
 refine zp (by kernel_rfl) (by kernel_rfl) ?_
 repeat(first|go_big_quiet_skip|(go_big_quiet_want;go_big_quiet_op;first|go_big_quiet_on|(apply Exists.intro;refine⟨fun G=>?_,?_⟩;(focus(first|(go_at_call 110;refine zi (v:=int i64 (k:Int)) ((ZP _ N V x.sa leg _ hN (c8.out.below (zj Y G.bel))).mono ?_);rintro e w2 ⟨he,e4⟩;refine⟨?_,e4⟩;rw[HK.out] at he;rcases he with⟨_,rfl⟩|⟨h,_⟩;rfl;omega)));go_big_quiet_on)))
 refine wpQuiet_nil ?_;rintro _ ⟨G,rfl⟩;clear z0 z1;have Z:=zj Y G.bel;have bW:=zc b0 G.bel;obtain⟨c0,c1,c2,c3,c4,c5,c6,c7⟩:=g9.out G.val Z;have y0:=za (zc HQ.out Z) 0 _ rfl;have y1:∀ o,(G.val.alloc o).cell? ⟨g,1,none⟩=some (.slice (some ⟨i,0,none⟩) N a7):=fun o=>za (zc HQ.out (zr Z o)) 1 _ rfl
 have y4:∀ o,(G.val.alloc o).cell? ⟨w.heap.size,4,none⟩=some (int i64 p.pe):=fun o=>za (ze bW o) 4 _ rfl
 have y5:∀ o,(G.val.alloc o).cell? ⟨w.heap.size,5,none⟩=some (int i64 p.len):=fun o=>za (ze bW o) 5 _ rfl
 have y6:∀ o,(G.val.alloc o).cell? ⟨w.heap.size,6,none⟩=some (int i64 p.hei):=fun o=>za (ze bW o) 6 _ rfl
 have y7:∀ o,(G.val.alloc o).cell? ⟨w.heap.size,7,none⟩=some (int i64 p.cl):=fun o=>za (ze bW o) 7 _ rfl
 have y8:∀ o,(G.val.alloc o).cell? ⟨w.heap.size,8,none⟩=some (.bool p.all):=fun o=>za (ze bW o) 8 _ rfl
 have y9:∀ o,(G.val.alloc o).cell? ⟨w.heap.size,9,none⟩=some (int i64 p.be):=fun o=>za (ze bW o) 9 _ rfl
 go_upto_region 8 with fail;have q:Below w.heap.size w ((G.val.alloc (.cells #[int i64 s.id,.string s.fr,.string s.dst,int i64 s.dep,int i64 s.arr,.slice la s.la.n lc,.slice ca s.ca.n cc,int i64 s.most] 37)).alloc (.cells #[int i64 p.pe,int i64 p.len,int i64 p.hei,int i64 p.cl,.bool p.all,int i64 p.be] 25)):=zr (zr Z _) _;have P:=ze (ze bW (.cells #[int i64 s.id,.string s.fr,.string s.dst,int i64 s.dep,int i64 s.arr,.slice la s.la.n lc,.slice ca s.ca.n cc,int i64 s.most] 37)) (.cells #[int i64 p.pe,int i64 p.len,int i64 p.hei,int i64 p.cl,.bool p.all,int i64 p.be] 25);have a6:=ze (heap_alloc_new G.val (.cells #[int i64 s.id,.string s.fr,.string s.dst,int i64 s.dep,int i64 s.arr,.slice la s.la.n lc,.slice ca s.ca.n cc,int i64 s.most] 37)) (.cells #[int i64 p.pe,int i64 p.len,int i64 p.hei,int i64 p.cl,.bool p.all,int i64 p.be] 25);have O:=zcC G.val (.cells #[int i64 s.id,.string s.fr,.string s.dst,int i64 s.dep,int i64 s.arr,.slice la s.la.n lc,.slice ca s.ca.n cc,int i64 s.most] 37) (.cells #[int i64 p.pe,int i64 p.len,int i64 p.hei,int i64 p.cl,.bool p.all,int i64 p.be] 25);generalize hx0:(G.val.alloc (.cells #[int i64 s.id,.string s.fr,.string s.dst,int i64 s.dep,int i64 s.arr,.slice la s.la.n lc,.slice ca s.ca.n cc,int i64 s.most] 37)).alloc (.cells #[int i64 p.pe,int i64 p.len,int i64 p.hei,int i64 p.cl,.bool p.all,int i64 p.be] 25)=X at q P a6 O ⊢;generalize hsb:G.val.heap.size=sb at a6 O ⊢;clear c0 c1 c2 c3 c4 c5 c6 c7 y0 y1 y4 y5 y6 y7 y8 y9 bW Z Y b0 hx0 hsb G W;have w1:=za P 1 _ rfl;have w2:=za P 2 _ rfl;have w3:=za P 3 _ rfl;have L0:X.cell? ⟨i,k*3,none⟩=some (.slice d l.stn f):=(q.cell (p:=⟨i,k*3,none⟩) b5).trans c9.out;have L1:X.cell? ⟨i,k*3+1,none⟩=some (.slice a2 l.ron a8):=(q.cell (p:=⟨i,k*3+1,none⟩) b5).trans e8.out;have L2:X.cell? ⟨i,k*3+2,none⟩=some (.slice a3 l.sen a9):=(q.cell (p:=⟨i,k*3+2,none⟩) b5).trans e9.out;have bG:=zc h0.out q;obtain⟨r,g5⟩:=zgd s.la l.stn l.st p.len p.hei;have d6:=hI g5;clear g5;have s5:∀ G:qe X,G.val.cell? ⟨sb,5,none⟩=some (.slice la s.la.n lc):=fun G=>za (zc a6 G.bel) 5 _ rfl
 have s6:∀ G:qe X,G.val.cell? ⟨i,k*3,none⟩=some (.slice d l.stn f):=fun G=>(G.bel.cell (p:=⟨i,k*3,none⟩) (zZ bG)).trans L0
 have p1:∀ G:qe X,G.val.cell? ⟨sb+1,1,none⟩=some (int i64 p.len):=fun G=>za (zc O G.bel) 1 _ rfl
 have p2:∀ G:qe X,G.val.cell? ⟨sb+1,2,none⟩=some (int i64 p.hei):=fun G=>za (zc O G.bel) 2 _ rfl
 go_upto_region 29 with fail;refine zp (by kernel_rfl) (by kernel_rfl) ?_
 repeat(first|go_big_quiet_skip|(go_big_quiet_want;go_big_quiet_op;first|go_big_quiet_on|(apply Exists.intro;refine⟨fun G=>?_,?_⟩;(focus(first|(go_at_call 140;refine zi (v:=int i64 r) ((zhb la d s.la.n lc l.stn f s.la l.st p.len p.hei _ rfl ((Ql _ _ _).1 a1.out.1) (h1.out.1.below (zj q G.bel)) ((Q6 d7.out).below (zj q G.bel))).mono ?_);rintro e w2 ⟨⟨r',rfl,o1⟩,e4⟩;exact⟨by rw[zhe o1 d6.out],e4⟩)));go_big_quiet_on)))
 refine wpQuiet_nil ?_;rintro _ ⟨G,rfl⟩;have Q:=zj q G.bel;have g1:=zc P G.bel;have e2:=zc O G.bel;have a5:=zc bG G.bel;clear w1 w2 w3 L0 L1 L2 s5 s6 p1 p2;generalize G.val=I at Q g1 e2 a5 ⊢;clear q P a6 O bG G X
 by_cases hr:r<0
 ·have e1:decide (r<0)=true:=decide_eq_true hr
  have HF:Hid _:=doNo (k:=k) (code:=5) (v:=⟨leg,0,false,who,p⟩) HO.out HQ.out Q (by
   refine .deck rfl rfl ?_;rw[← f9.out,← d0.out]
   rcases d6.out with⟨j,h,_⟩|⟨h,h2⟩
   ·omega
   ·exact .inr ⟨rfl,h2⟩)
  go_wp2;go_ret;exact HF.out
 obtain⟨m,rfl⟩:∃ m:Nat,r=(m:Int):=⟨r.toNat,by omega⟩
 have e1:decide ((m:Int)<0)=false:=decide_eq_false hr;clear hr;go_upto_region 32 with fail;have HN:=hI f8.out.1;have d5:Hid (∀ z,Below I.heap.size I z->Zv z d l.stn l.st):=fun z h=>(Q6 d7.out).below (zj Q h)
 have i6:l.stn<=60:=((Ql _ _ _).1 a1.out.1).2.1;have g0:I.cell? ⟨i,k*3,none⟩=some (.slice d l.stn f):=(Q.cell (p:=⟨i,k*3,none⟩) b5).trans c9.out;have KS:Hid (∀ z,Below I.heap.size I z->(z.cell? ⟨w.heap.size,3,none⟩=some (int i64 who)/\z.cell? ⟨sb+1,1,none⟩=some (int i64 p.len)/\z.cell? ⟨sb+1,2,none⟩=some (int i64 p.hei))/\z.cell? ⟨i,k*3,none⟩=some (.slice d l.stn f)):=fun z h=>⟨⟨za (zc g1 h) 3 _ rfl,za (zc e2 h) 1 _ rfl,za (zc e2 h) 2 _ rfl⟩,(h.cell (p:=⟨i,k*3,none⟩) (zZ a5)).trans g0⟩
 refine qy 19 20 (fun w'=>(w'.cell? ⟨w.heap.size,3,none⟩=some (int i64 who)/\w'.cell? ⟨sb+1,1,none⟩=some (int i64 p.len)/\w'.cell? ⟨sb+1,2,none⟩=some (int i64 p.hei))/\w'.cell? ⟨i,k*3,none⟩=some (.slice d l.stn f)) rfl (by kernel_rfl) (KS.out _ (Below.drew bZ)) (fun hS=>?_)
 simp only[List.replicate_succ,List.replicate_zero]
 (refine tkL 0 (v:=?_) rfl (by kernel_rfl) (fun _ _ _ h=>h) rfl (by assumption) ?_ ?_;rotate_left;focus(intro w' h;(try dsimp only at h);go_simp;try with_reducible rfl);simp only[Act.put,sB,sZ,sS])
 (refine tkL 2 (v:=?_) rfl (by kernel_rfl) (fun _ _ _ h=>h) rfl (by assumption) ?_ ?_;rotate_left;focus(intro w' h;(try dsimp only at h);go_simp;try with_reducible rfl);simp only[Act.put,sB,sZ,sS])
 (refine tkL 3 (v:=?_) rfl (by kernel_rfl) (fun _ _ _ h=>h) rfl (by assumption) ?_ ?_;rotate_left;focus(intro w' h;(try dsimp only at h);go_simp;try with_reducible rfl);simp only[Act.put,sB,sZ,sS])
 (refine tkL 4 (v:=?_) rfl (by kernel_rfl) (fun _ _ _ h=>h) rfl (by assumption) ?_ ?_;rotate_left;focus(intro w' h;(try dsimp only at h);go_simp;try with_reducible rfl);simp only[Act.put,sB,sZ,sS])
 (refine tkL 5 (v:=?_) rfl (by kernel_rfl) (fun _ _ _ h=>h) rfl (by assumption) ?_ ?_;rotate_left;focus(intro w' h;(try dsimp only at h);go_simp;try with_reducible rfl);simp only[Act.put,sB,sZ,sS])
 (refine tkL 7 (v:=?_) rfl (by kernel_rfl) (fun _ _ _ h=>h) rfl (by assumption) ?_ ?_;rotate_left;focus(intro w' h;(try dsimp only at h);go_simp;try with_reducible rfl);simp only[Act.put,sB,sZ,sS])
 (refine tkL 8 (v:=?_) rfl (by kernel_rfl) (fun _ _ _ h=>h) rfl (by assumption) ?_ ?_;rotate_left;focus(intro w' h;(try dsimp only at h);go_simp;try with_reducible rfl);simp only[Act.put,sB,sZ,sS])
 (refine tkL 9 (v:=?_) rfl (by kernel_rfl) (fun _ _ _ h=>h) rfl (by assumption) ?_ ?_;rotate_left;focus(intro w' h;(try dsimp only at h);go_simp;try with_reducible rfl);simp only[Act.put,sB,sZ,sS])
 (refine tkL 10 (v:=?_) rfl (by kernel_rfl) (fun _ _ _ h=>h) rfl (by assumption) ?_ ?_;rotate_left;focus(intro w' h;(try dsimp only at h);go_simp;try with_reducible rfl);simp only[Act.put,sB,sZ,sS])
 (refine tkL 11 (v:=?_) rfl (by kernel_rfl) (fun _ _ _ h=>h) rfl (by assumption) ?_ ?_;rotate_left;focus(intro w' h;(try dsimp only at h);go_simp;try with_reducible rfl);simp only[Act.put,sB,sZ,sS])
 (refine tkL 12 (v:=?_) rfl (by kernel_rfl) (fun _ _ _ h=>h) rfl (by assumption) ?_ ?_;rotate_left;focus(intro w' h;(try dsimp only at h);go_simp;try with_reducible rfl);simp only[Act.put,sB,sZ,sS])
 (refine tkL 13 (v:=?_) rfl (by kernel_rfl) (fun _ _ _ h=>h) rfl (by assumption) ?_ ?_;rotate_left;focus(intro w' h;(try dsimp only at h);go_simp;try with_reducible rfl);simp only[Act.put,sB,sZ,sS])
 (refine tkL 14 (v:=?_) rfl (by kernel_rfl) (fun _ _ _ h=>h) rfl (by assumption) ?_ ?_;rotate_left;focus(intro w' h;(try dsimp only at h);go_simp;try with_reducible rfl);simp only[Act.put,sB,sZ,sS])
 refine zh (rs:=[1,15]) (by kernel_rfl) (by simp) ?_
 refine zd.consL rfl (fun K c=>?_) (zd.consL rfl (fun K c=>?_) zd.nil)
 focus
  go_simp;refine c.out _ _ (KS.out _ (by repeat(first|exact b.out|exact bZ|refine Below.drew ?_|refine zr ?_ _))) (fun hS=>?_)
  clear c K;simp only[sZ,sS];refine zh (rs:=[6,15]) (by kernel_rfl) (by simp) ?_
  refine zd.consL rfl (fun K c=>?_) (zd.consL rfl (fun K c=>?_) zd.nil)
  focus
   refine zN (by rfl) (.tmp 168) (.tmp 172) 133 (by rfl) 186 i0 (.agg #[int i64 0,int i64 0,int i64 0,int i64 0]) 4 32 Tryz.underlying133 ii b7 b8 b9 rfl (by decide) I.heap.size _ (by rfl) (by first|exact Nat.le_refl _|omega|(simp;done)|(simp;omega)) (by repeat(first|((with_reducible refine qY _ _ _ ?_);(first|rfl|(simp;done)))|with_reducible refine zF ?_|with_reducible refine ze ?_ _)) d l.stn f (zX l.st l.stn) (by rfl) HN.out (Qh _ _) (zaA (d5.out _ (by repeat(first|exact bZ|refine Below.drew ?_|refine zr ?_ _)))) (Q5 _ _) (by unfold maxLen;omega) (by omega) ?_;intro p1 q1 u1 J U y;clear y;have b:Hid (Below I.heap.size I u1):=(by show Below _ _ _;refine zj ?_ (zl J);exact(by repeat(first|exact bZ|refine Below.drew ?_|refine zr ?_ _)));refine c.out _ _ (KS.out _ b.out) (fun hS=>?_)
   clear c K;simp only[Act.put,sB,sZ,sS];refine zh (rs:=[15]) (by kernel_rfl) (by simp) ?_
   refine zd.consL rfl (fun K c=>?_) zd.nil
   focus
    go_simp;refine c.out _ _ (KS.out _ (by repeat(first|exact b.out|exact bZ|refine Below.drew ?_|refine zr ?_ _))) (fun hS=>?_)
    clear c K;simp only[sZ,sS]
  rotate_left 1
  focus
   go_simp;refine c.out _ _ (KS.out _ (by repeat(first|exact b.out|exact bZ|refine Below.drew ?_|refine zr ?_ _))) (fun hS=>?_)
   clear c K;simp only[sZ,sS];refine zh (rs:=[6]) (by kernel_rfl) (by simp) ?_
   refine zd.consL rfl (fun K c=>?_) zd.nil
   focus
    refine zN (by rfl) (.tmp 168) (.tmp 172) 133 (by rfl) 186 i0 (.agg #[int i64 0,int i64 0,int i64 0,int i64 0]) 4 32 Tryz.underlying133 ii b7 b8 b9 rfl (by decide) I.heap.size _ (by rfl) (by first|exact Nat.le_refl _|omega|(simp;done)|(simp;omega)) (by repeat(first|((with_reducible refine qY _ _ _ ?_);(first|rfl|(simp;done)))|with_reducible refine zF ?_|with_reducible refine ze ?_ _)) d l.stn f (zX l.st l.stn) (by rfl) HN.out (Qh _ _) (zaA (d5.out _ (by repeat(first|exact bZ|refine Below.drew ?_|refine zr ?_ _)))) (Q5 _ _) (by unfold maxLen;omega) (by omega) ?_;intro p1 q1 u1 J U y;clear y;have b:Hid (Below I.heap.size I u1):=(by show Below _ _ _;refine zj ?_ (zl J);exact(by repeat(first|exact bZ|refine Below.drew ?_|refine zr ?_ _)));refine c.out _ _ (KS.out _ b.out) (fun hS=>?_)
    clear c K;simp only[Act.put,sB,sZ,sS]
 rotate_left 2
 focus
  go_simp;refine c.out _ _ (KS.out _ (by repeat(first|exact b.out|exact bZ|refine Below.drew ?_|refine zr ?_ _))) (fun hS=>?_)
  clear c K;simp only[sZ,sS];refine zh (rs:=[1]) (by kernel_rfl) (by simp) ?_
  refine zd.consL rfl (fun K c=>?_) zd.nil
  focus
   go_simp;refine c.out _ _ (KS.out _ (by repeat(first|exact b.out|exact bZ|refine Below.drew ?_|refine zr ?_ _))) (fun hS=>?_)
   clear c K;simp only[sZ,sS];refine zh (rs:=[6]) (by kernel_rfl) (by simp) ?_
   refine zd.consL rfl (fun K c=>?_) zd.nil
   focus
    refine zN (by rfl) (.tmp 168) (.tmp 172) 133 (by rfl) 186 i0 (.agg #[int i64 0,int i64 0,int i64 0,int i64 0]) 4 32 Tryz.underlying133 ii b7 b8 b9 rfl (by decide) I.heap.size _ (by rfl) (by first|exact Nat.le_refl _|omega|(simp;done)|(simp;omega)) (by repeat(first|((with_reducible refine qY _ _ _ ?_);(first|rfl|(simp;done)))|with_reducible refine zF ?_|with_reducible refine ze ?_ _)) d l.stn f (zX l.st l.stn) (by rfl) HN.out (Qh _ _) (zaA (d5.out _ (by repeat(first|exact bZ|refine Below.drew ?_|refine zr ?_ _)))) (Q5 _ _) (by unfold maxLen;omega) (by omega) ?_;intro p1 q1 u1 J U y;clear y;have b:Hid (Below I.heap.size I u1):=(by show Below _ _ _;refine zj ?_ (zl J);exact(by repeat(first|exact bZ|refine Below.drew ?_|refine zr ?_ _)));refine c.out _ _ (KS.out _ b.out) (fun hS=>?_)
    clear c K;simp only[Act.put,sB,sZ,sS]
 all_goals
  refine zh (rs:=[16]) (by kernel_rfl) (by simp) ?_
  refine zd.consL rfl (fun K c=>?_) zd.nil
  refine step_append_lies _ (by rfl) (.tmp 173) (.tmp 182) 133 (by rfl) I.heap.size 186 i0 (.agg #[int i64 0,int i64 0,int i64 0,int i64 0]) 4 32 Tryz.underlying133 ii b7 b8 b9 rfl (by decide) _ l.stn (zX l.st l.stn) (by rfl) (by first|exact U|exact U.alloc _|exact zm (zr bZ _) U) _ 1 1 [int i64 who,int i64 (m:Int),int i64 p.len,int i64 p.hei] (by rfl) (by rfl) (by refine World.news_of_block (cs:=#[int i64 who,int i64 (m:Int),int i64 p.len,int i64 p.hei]) (t:=186) (fr:=(0,0)) ?_;exact(by repeat(first|((with_reducible refine qY _ _ _ ?_);(first|rfl|(simp;done)))|with_reducible refine zF ?_|with_reducible refine ze ?_ _|with_reducible refine zc ?_ (zl J)))) (by intro u hu;simp at hu;rcases hu with rfl|rfl|rfl|rfl <;> rfl) (by decide) (by unfold maxLen;omega) (by omega) (by first|exact b.out.size|(have:=b.out.size;simp;omega)) _ rfl ?_;intro g2 i3 u2 h9 h6 i4 i5;refine(fun (a0:Hid (Below I.heap.size I u2))=>?_) (Below.grown ?_ h6 ?_ (fun j hj=>(U.lt j hj).1));rotate_left;(focus(repeat(first|exact bZ|refine Below.drew ?_|refine zr ?_ _|refine zj ?_ (zl J))));(focus(first|exact b.out.size|(have:=b.out.size;simp;omega)));have q0:=(a0.out.cell (p:=⟨i,k*3,none⟩) (zZ a5)).trans g0;have q1:=zg (zc a5 a0.out) (k*3);refine c.out _ _ (KS.out _ a0.out) (fun hS=>?_)
  clear c K;simp only[Act.put,sB,sZ,sS]
  (refine tkL 17 (v:=?_) rfl (by kernel_rfl) (fun _ _ _ h=>h) rfl (by assumption) ?_ ?_;rotate_left;focus(intro w' h;(try dsimp only at h);go_simp;try with_reducible rfl);simp only[Act.put,sB,sZ,sS])
  (refine tkL 18 (v:=?_) rfl (by kernel_rfl) (fun _ _ _ h=>h) rfl (by assumption) ?_ ?_;rotate_left;focus(intro w' h;(try dsimp only at h);go_simp;try with_reducible rfl);simp only[Act.put,sB,sZ,sS])
  refine zh (rs:=[19]) (by kernel_rfl) (by simp) ?_
  refine zd.lastL rfl (fun K c=>?_)
  go_simp;refine c.out _ _ ?_;clear c K;refine zH (by kernel_rfl) ?_ _
  have HF:Hid _:=doSt (k:=k) (n:=l.stn+1) (T:=QD l.st l.stn (fun _=>⟨who,(m:Int),p.len,p.hei⟩)) (v:=⟨leg,0,false,who,p⟩) HO.out HQ.out g8.out (zj Q a0.out) (zE (by rw[zfF,QM,show zX (fun _=>(⟨who,(m:Int),p.len,p.hei⟩:ZX)) 0=[] from rfl,List.nil_append];exact h9) Q.size) (by rw[d0.out];exact .addStay m rfl rfl (by rw[← f9.out,← d0.out];exact d6.out))
  go_wp2;go_ret;exact HF.out
theorem l7Do_e (g base N R k a3 c8 g0:Nat)(e7 e6 e5:Option Addr)(leg who:Int)(pe len hei cl be:Int)(x:Off)(L C A B D E:Nat->Value)(w:World)(hq:w.heap[g]?=some (.cells #[.slice e7 N a3,.slice e6 N c8,.slice e5 R g0] 66 (0,0)))(Y:zV w base (.slice e7 N a3) (.slice e6 N c8) (.slice e5 R g0) N N R x L C A B D E)(hN:N<=1048576)(hk:qo x.sa leg N=k)(Q:k<N)(h3:qJ (x.sa k) (x.ld k)) :
  Calls Tryz.prog 122 #[.pointer (some ⟨g,0,none⟩),.agg #[int i64 leg,int i64 1,.bool false,int i64 who,int i64 pe,int i64 len,int i64 hei,int i64 cl,.bool true,int i64 be]] w fun e w'=>zcR g base N R k a3 c8 g0 e7 e6 e5 ⟨leg,1,false,who,⟨pe,len,hei,cl,true,be⟩⟩ x L C E w e w':=by
 obtain⟨i0,ii,d6,d7,d8⟩:=info_parts Tryz.infoRoom;obtain⟨y,rfl,i9,a8⟩:=qw Y.ld.row (by omega)
 have HO:=hI Y;have HK:=hI hk;have a0:=hI h3;have i3:Hid (base<=w.heap.size):=by show base<=w.heap.size;omega
 have HQ:=hI hq;have d9:=hI Y.sa.at;obtain⟨cs,h1⟩:=zT Y.ld.row y rfl;obtain⟨b9,d0,eA,m1,m2,m3⟩:=zt (Y.ld.st k Q);obtain⟨b,d,eB,m4,m5,m6⟩:=zt (Y.ld.ro k Q);obtain⟨b8,c9,eD,m7,m8,m9⟩:=zt (Y.ld.se k Q);have i8:Hid (w.ownsRow base 186 4 (.slice b9 (x.ld k).stn d0) (x.ld k).stn (zX (x.ld k).st (x.ld k).stn)):=by show w.ownsRow _ _ _ _ _ _;rw[← eA];exact Y.ld.st k Q
 have b7:Hid (w.ownsRow base 190 4 (.slice b (x.ld k).ron d) (x.ld k).ron (zQ (x.ld k).ro (x.ld k).ron)):=by show w.ownsRow _ _ _ _ _ _;rw[← eB];exact Y.ld.ro k Q
 have i7:Hid (w.ownsRow base 138 2 (.slice b8 (x.ld k).sen c9) (x.ld k).sen (zW (x.ld k).se (x.ld k).sen)):=by show w.ownsRow _ _ _ _ _ _;rw[← eD];exact Y.ld.se k Q
 have g6:Hid (w.cell? ⟨y,k*3,none⟩=some (.slice b9 (x.ld k).stn d0)):=by
  have h:=zK Y.ld.row (k*3+0) (by omega) rfl
  rw[zM 3 _ k 0 (by decide)] at h
  rw[← eA];exact h
 have b5:Hid (w.cell? ⟨y,k*3+1,none⟩=some (.slice b (x.ld k).ron d)):=by
  have h:=zK Y.ld.row (k*3+1) (by omega) rfl
  rw[zM 3 _ k 1 (by decide)] at h
  rw[← eB];exact h
 have g7:Hid (w.cell? ⟨y,k*3+2,none⟩=some (.slice b8 (x.ld k).sen c9)):=by
  have h:=zK Y.ld.row (k*3+2) (by omega) rfl
  rw[zM 3 _ k 2 (by decide)] at h
  rw[← eD];exact h
 have g9:Hid ((b9=none->(x.ld k).stn=0/\d0=0)/\(b=none->(x.ld k).ron=0/\d=0)/\(b8=none->(x.ld k).sen=0/\c9=0)):=⟨m3,m6,m9⟩;obtain⟨s,d5⟩:∃ s,s=x.sa k:=⟨_,rfl⟩;obtain⟨l,g5⟩:∃ l,l=x.ld k:=⟨_,rfl⟩;rw[← g5] at i8 b7 i7 g6 b5 g7 g9 a0;rw[← d5] at a0;have e4:=hI d5;have e0:=hI g5;have i5:=hI h1;obtain⟨a,J,la,lc,ca,cc,rfl,f0,f1,f2,f3,f4,f5,f6,f7,g4,g3,h9,h6⟩:=d9.out k Q;rw[← d5] at f0 f1 f2 f3 f4 f5 f6 f7 g4 g3 h9 h6;have e3:Hid (qd w la s.la/\qd w ca s.ca):=⟨g4,g3⟩;have i4:Hid (∀ W,Below w.heap.size w W->W.cell? ⟨a,J+k*8,none⟩=some (int i64 s.id)/\W.cell? ⟨a,J+k*8+1,none⟩=some (.string s.fr)/\W.cell? ⟨a,J+k*8+2,none⟩=some (.string s.dst)/\W.cell? ⟨a,J+k*8+3,none⟩=some (int i64 s.dep)/\W.cell? ⟨a,J+k*8+4,none⟩=some (int i64 s.arr)/\W.cell? ⟨a,J+k*8+5,none⟩=some (.slice la s.la.n lc)/\W.cell? ⟨a,J+k*8+6,none⟩=some (.slice ca s.ca.n cc)/\W.cell? ⟨a,J+k*8+7,none⟩=some (int i64 s.most)):=fun W hb=>by
  have I:=World.block_lt_of_cell? w _ f0;exact⟨(hb.cell (p:=⟨a,J+k*8,none⟩) I).trans f0,(hb.cell (p:=⟨a,J+k*8+1,none⟩) I).trans f1,(hb.cell (p:=⟨a,J+k*8+2,none⟩) I).trans f2,(hb.cell (p:=⟨a,J+k*8+3,none⟩) I).trans f3,(hb.cell (p:=⟨a,J+k*8+4,none⟩) I).trans f4,(hb.cell (p:=⟨a,J+k*8+5,none⟩) I).trans f5,(hb.cell (p:=⟨a,J+k*8+6,none⟩) I).trans f6,(hb.cell (p:=⟨a,J+k*8+7,none⟩) I).trans f7⟩
 clear f0 f1 f2 f3 f4 f5 f6 f7 g4 g3 h9 h6 d5 g5 h1 eA eB eD m1 m2 m3 m4 m5 m6 m7 m8 m9 h3 hk i9;have i1:(0:Int)<=(k:Int):=by omega
 have i2:(k:Int)<(N:Int):=by omega
 have a5:Below w.heap.size w (w.alloc (.cells #[int i64 leg,int i64 1,.bool false,int i64 who,int i64 pe,int i64 len,int i64 hei,int i64 cl,.bool true,int i64 be] 175)):=zr bZ _;have b0:=heap_alloc_new w (.cells #[int i64 leg,int i64 1,.bool false,int i64 who,int i64 pe,int i64 len,int i64 hei,int i64 cl,.bool true,int i64 be] 175);go_enter Tryz.func122,Tryz.ntmps122;go_upto_region 1 with fail;generalize (w.alloc (.cells #[int i64 leg,int i64 1,.bool false,int i64 who,int i64 pe,int i64 len,int i64 hei,int i64 cl,.bool true,int i64 be] 175))=W at a5 b0 ⊢;have z0:∀ G:qe W,G.val.cell? ⟨g,0,none⟩=some (.slice (some ⟨a,J,none⟩) N a3):=fun G=>za (zc HQ.out (zj a5 G.bel)) 0 _ rfl
 have z1:∀ G:qe W,G.val.cell? ⟨w.heap.size,0,none⟩=some (int i64 leg):=fun G=>za (zc b0 G.bel) 0 _ rfl
 refine zp (by kernel_rfl) (by kernel_rfl) ?_
 repeat(first|go_big_quiet_skip|(go_big_quiet_want;go_big_quiet_op;first|go_big_quiet_on|(apply Exists.intro;refine⟨fun G=>?_,?_⟩;(focus(first|(go_at_call 110;refine zi (v:=int i64 (k:Int)) ((ZP _ N a3 x.sa leg _ hN (d9.out.below (zj a5 G.bel))).mono ?_);rintro e w2 ⟨he,a6⟩;refine⟨?_,a6⟩;rw[HK.out] at he;rcases he with⟨_,rfl⟩|⟨h,_⟩;rfl;omega)));go_big_quiet_on)))
 refine wpQuiet_nil ?_;rintro _ ⟨G,rfl⟩;clear z0 z1;have a7:=zj a5 G.bel;have bW:=zc b0 G.bel;obtain⟨c0,c1,c2,c3,c4,c5,c6,c7⟩:=i4.out G.val a7;have y0:=za (zc HQ.out a7) 0 _ rfl;have y1:∀ o,(G.val.alloc o).cell? ⟨g,1,none⟩=some (.slice (some ⟨y,0,none⟩) N c8):=fun o=>za (zc HQ.out (zr a7 o)) 1 _ rfl
 have y4:∀ o,(G.val.alloc o).cell? ⟨w.heap.size,4,none⟩=some (int i64 pe):=fun o=>za (ze bW o) 4 _ rfl
 have y5:∀ o,(G.val.alloc o).cell? ⟨w.heap.size,5,none⟩=some (int i64 len):=fun o=>za (ze bW o) 5 _ rfl
 have y6:∀ o,(G.val.alloc o).cell? ⟨w.heap.size,6,none⟩=some (int i64 hei):=fun o=>za (ze bW o) 6 _ rfl
 have y7:∀ o,(G.val.alloc o).cell? ⟨w.heap.size,7,none⟩=some (int i64 cl):=fun o=>za (ze bW o) 7 _ rfl
 have y8:∀ o,(G.val.alloc o).cell? ⟨w.heap.size,8,none⟩=some (.bool true):=fun o=>za (ze bW o) 8 _ rfl
 have y9:∀ o,(G.val.alloc o).cell? ⟨w.heap.size,9,none⟩=some (int i64 be):=fun o=>za (ze bW o) 9 _ rfl
 go_upto_region 8 with fail;have F:Below w.heap.size w ((G.val.alloc (.cells #[int i64 s.id,.string s.fr,.string s.dst,int i64 s.dep,int i64 s.arr,.slice la s.la.n lc,.slice ca s.ca.n cc,int i64 s.most] 37)).alloc (.cells #[int i64 pe,int i64 len,int i64 hei,int i64 cl,.bool true,int i64 be] 25)):=zr (zr a7 _) _;have V:=ze (ze bW (.cells #[int i64 s.id,.string s.fr,.string s.dst,int i64 s.dep,int i64 s.arr,.slice la s.la.n lc,.slice ca s.ca.n cc,int i64 s.most] 37)) (.cells #[int i64 pe,int i64 len,int i64 hei,int i64 cl,.bool true,int i64 be] 25);have a1:=ze (heap_alloc_new G.val (.cells #[int i64 s.id,.string s.fr,.string s.dst,int i64 s.dep,int i64 s.arr,.slice la s.la.n lc,.slice ca s.ca.n cc,int i64 s.most] 37)) (.cells #[int i64 pe,int i64 len,int i64 hei,int i64 cl,.bool true,int i64 be] 25);have S:=zcC G.val (.cells #[int i64 s.id,.string s.fr,.string s.dst,int i64 s.dep,int i64 s.arr,.slice la s.la.n lc,.slice ca s.ca.n cc,int i64 s.most] 37) (.cells #[int i64 pe,int i64 len,int i64 hei,int i64 cl,.bool true,int i64 be] 25);generalize hx0:(G.val.alloc (.cells #[int i64 s.id,.string s.fr,.string s.dst,int i64 s.dep,int i64 s.arr,.slice la s.la.n lc,.slice ca s.ca.n cc,int i64 s.most] 37)).alloc (.cells #[int i64 pe,int i64 len,int i64 hei,int i64 cl,.bool true,int i64 be] 25)=X at F V a1 S ⊢;generalize hsb:G.val.heap.size=sb at a1 S ⊢;clear c0 c1 c2 c3 c4 c5 c6 c7 y0 y1 y4 y5 y6 y7 y8 y9 bW a7 a5 b0 hx0 hsb G W;have w1:=za V 1 _ rfl;have w2:=za V 2 _ rfl;have w3:=za V 3 _ rfl;have L0:X.cell? ⟨y,k*3,none⟩=some (.slice b9 l.stn d0):=(F.cell (p:=⟨y,k*3,none⟩) a8).trans g6.out;have L1:X.cell? ⟨y,k*3+1,none⟩=some (.slice b l.ron d):=(F.cell (p:=⟨y,k*3+1,none⟩) a8).trans b5.out;have L2:X.cell? ⟨y,k*3+2,none⟩=some (.slice b8 l.sen c9):=(F.cell (p:=⟨y,k*3+2,none⟩) a8).trans g7.out;have bG:=zc i5.out F;obtain⟨rb,h5⟩:=zeU l.ron s.ca.n (zbM s.ca l.ron l.ro cl be);have i6:=hI h5;clear h5;have s5:∀ G:qe X,G.val.cell? ⟨sb,6,none⟩=some (.slice ca s.ca.n cc):=fun G=>za (zc a1 G.bel) 6 _ rfl
 have s6:∀ G:qe X,G.val.cell? ⟨y,k*3+1,none⟩=some (.slice b l.ron d):=fun G=>(G.bel.cell (p:=⟨y,k*3+1,none⟩) (zZ bG)).trans L1
 have p1:∀ G:qe X,G.val.cell? ⟨sb+1,3,none⟩=some (int i64 cl):=fun G=>za (zc S G.bel) 3 _ rfl
 have p2:∀ G:qe X,G.val.cell? ⟨sb+1,5,none⟩=some (int i64 be):=fun G=>za (zc S G.bel) 5 _ rfl
 go_upto_region 34 with fail;refine zp (by kernel_rfl) (by kernel_rfl) ?_
 repeat(first|go_big_quiet_skip|(go_big_quiet_want;go_big_quiet_op;first|go_big_quiet_on|(apply Exists.intro;refine⟨fun G=>?_,?_⟩;(focus(first|(go_at_call 141;refine zi (v:=int i64 rb) ((zcG ca b s.ca.n cc l.ron d s.ca l.ro cl be _ rfl a0.out.2.1 (e3.out.2.below (zj F G.bel)) ((ZM b7.out).below (zj F G.bel))).mono ?_);rintro e w2 ⟨⟨r',rfl,o1⟩,a6⟩;exact⟨by rw[zhd o1 i6.out],a6⟩)));go_big_quiet_on)))
 refine wpQuiet_nil ?_;rintro _ ⟨G,rfl⟩;have i:=zj F G.bel;have a2:=zc V G.bel;have U:=zc a1 G.bel;have q:=zc S G.bel;have O:=zc bG G.bel;clear w1 w2 w3 L0 L1 L2 s5 s6 p1 p2;generalize G.val=W5 at i a2 U q O ⊢;clear F V a1 S bG G X;have r4:=za q 4 _ rfl;have r5:=za q 5 _ rfl;obtain⟨r,h4⟩:=zeU l.ron s.ca.n (zbt s.ca l.ron l.ro cl pe);have b6:=hI h4;clear h4;have s5:∀ G:qe W5,G.val.cell? ⟨sb,6,none⟩=some (.slice ca s.ca.n cc):=fun G=>za (zc U G.bel) 6 _ rfl
 have s6:∀ G:qe W5,G.val.cell? ⟨y,k*3+1,none⟩=some (.slice b l.ron d):=fun G=>((zj i G.bel).cell (p:=⟨y,k*3+1,none⟩) a8).trans b5.out
 have p1:∀ G:qe W5,G.val.cell? ⟨sb+1,3,none⟩=some (int i64 cl):=fun G=>za (zc q G.bel) 3 _ rfl
 have p2:∀ G:qe W5,G.val.cell? ⟨sb+1,0,none⟩=some (int i64 pe):=fun G=>za (zc q G.bel) 0 _ rfl
 go_upto_region 37 with fail;refine zp (by kernel_rfl) (by kernel_rfl) ?_
 repeat(first|go_big_quiet_skip|(go_big_quiet_want;go_big_quiet_op;first|go_big_quiet_on|(apply Exists.intro;refine⟨fun G=>?_,?_⟩;(focus(first|(go_at_call 142;refine zi (v:=int i64 r) ((zhc ca b s.ca.n cc l.ron d s.ca l.ro cl pe _ rfl a0.out.2.1 (e3.out.2.below (zj i G.bel)) ((ZM b7.out).below (zj i G.bel))).mono ?_);rintro e w2 ⟨⟨r',rfl,o1⟩,a6⟩;exact⟨by rw[zhd o1 b6.out],a6⟩)));go_big_quiet_on)))
 refine wpQuiet_nil ?_;rintro _ ⟨G,rfl⟩;have g1:=zj i G.bel;have f9:=zc a2 G.bel;have f8:=zc U G.bel;have e9:=zc q G.bel;have e8:=zc O G.bel;clear s5 s6 p1 p2 r4 r5;generalize G.val=M at g1 f9 f8 e9 e8 ⊢;clear i a2 U q O G W5;have i:=g1;have a2:=f9;have U:=f8;have q:=e9;have O:=e8;clear g1 f9 f8 e9 e8;have r4:=za q 4 _ rfl
 by_cases hr:r<0
 ·have e1:decide (r<0)=true:=decide_eq_true hr
  have HF:Hid _:=doNo (k:=k) (code:=6) (v:=⟨leg,1,false,who,⟨pe,len,hei,cl,true,be⟩⟩) HO.out HQ.out i (by
   refine .whole rfl rfl rfl ?_;rw[← e4.out,← e0.out]
   rcases b6.out with⟨j,h,_⟩|⟨h,h2⟩
   ·omega
   ·exact .inr ⟨rfl,h2⟩)
  go_wp2;go_ret;exact HF.out
 obtain⟨m,rfl⟩:∃ m:Nat,r=(m:Int):=⟨r.toNat,by omega⟩
 have e1:decide ((m:Int)<0)=false:=decide_eq_false hr;clear hr;have g8:=hI ((rIx_at b6.out).2.1);obtain⟨cb,co,rfl,k1,k2⟩:=e3.out.2 m g8.out;have j0:=World.block_lt_of_cell? w _ k1;have y2:=(i.cell (p:=⟨cb,co+m*2+1,none⟩) j0).trans k2;have j1:(0:Int)<=(m:Int):=by omega
 have j2:(m:Int)<(s.ca.n:Int):=by have:=g8.out;omega
 have r6:=za U 6 _ rfl;clear k1 k2;go_upto_region 42 with fail;have HN:=hI g9.out.2.1;have e2:Hid (∀ z,Below M.heap.size M z->Zm z b l.ron l.ro):=fun z h=>(ZM b7.out).below (zj i h)
 have j8:l.ron<=60:=a0.out.2.1.2.1;have h0:M.cell? ⟨y,k*3+1,none⟩=some (.slice b l.ron d):=(i.cell (p:=⟨y,k*3+1,none⟩) a8).trans b5.out;have KS:Hid (∀ z,Below M.heap.size M z->(z.cell? ⟨w.heap.size,3,none⟩=some (int i64 who)/\z.cell? ⟨sb+1,4,none⟩=some (.bool true))/\z.cell? ⟨y,k*3+1,none⟩=some (.slice b l.ron d)):=fun z h=>⟨⟨za (zc a2 h) 3 _ rfl,za (zc q h) 4 _ rfl⟩,(h.cell (p:=⟨y,k*3+1,none⟩) (zZ O)).trans h0⟩
 refine qy 18 19 (fun w'=>(w'.cell? ⟨w.heap.size,3,none⟩=some (int i64 who)/\w'.cell? ⟨sb+1,4,none⟩=some (.bool true))/\w'.cell? ⟨y,k*3+1,none⟩=some (.slice b l.ron d)) rfl (by kernel_rfl) (KS.out _ (Below.drew bZ)) (fun hS=>?_)
 simp only[List.replicate_succ,List.replicate_zero]
 (refine tkL 0 (v:=?_) rfl (by kernel_rfl) (fun _ _ _ h=>h) rfl (by assumption) ?_ ?_;rotate_left;focus(intro w' h;(try dsimp only at h);go_simp;try with_reducible rfl);simp only[Act.put,sB,sZ,sS])
 (refine tkL 2 (v:=?_) rfl (by kernel_rfl) (fun _ _ _ h=>h) rfl (by assumption) ?_ ?_;rotate_left;focus(intro w' h;(try dsimp only at h);go_simp;try with_reducible rfl);simp only[Act.put,sB,sZ,sS])
 (refine tkL 3 (v:=?_) rfl (by kernel_rfl) (fun _ _ _ h=>h) rfl (by assumption) ?_ ?_;rotate_left;focus(intro w' h;(try dsimp only at h);go_simp;try with_reducible rfl);simp only[Act.put,sB,sZ,sS])
 (refine tkL 4 (v:=?_) rfl (by kernel_rfl) (fun _ _ _ h=>h) rfl (by assumption) ?_ ?_;rotate_left;focus(intro w' h;(try dsimp only at h);go_simp;try with_reducible rfl);simp only[Act.put,sB,sZ,sS])
 (refine tkL 5 (v:=?_) rfl (by kernel_rfl) (fun _ _ _ h=>h) rfl (by assumption) ?_ ?_;rotate_left;focus(intro w' h;(try dsimp only at h);go_simp;try with_reducible rfl);simp only[Act.put,sB,sZ,sS])
 (refine tkL 7 (v:=?_) rfl (by kernel_rfl) (fun _ _ _ h=>h) rfl (by assumption) ?_ ?_;rotate_left;focus(intro w' h;(try dsimp only at h);go_simp;try with_reducible rfl);simp only[Act.put,sB,sZ,sS])
 (refine tkL 8 (v:=?_) rfl (by kernel_rfl) (fun _ _ _ h=>h) rfl (by assumption) ?_ ?_;rotate_left;focus(intro w' h;(try dsimp only at h);go_simp;try with_reducible rfl);simp only[Act.put,sB,sZ,sS])
 (refine tkL 9 (v:=?_) rfl (by kernel_rfl) (fun _ _ _ h=>h) rfl (by assumption) ?_ ?_;rotate_left;focus(intro w' h;(try dsimp only at h);go_simp;try with_reducible rfl);simp only[Act.put,sB,sZ,sS])
 (refine tkL 10 (v:=?_) rfl (by kernel_rfl) (fun _ _ _ h=>h) rfl (by assumption) ?_ ?_;rotate_left;focus(intro w' h;(try dsimp only at h);go_simp;try with_reducible rfl);simp only[Act.put,sB,sZ,sS])
 (refine tkL 11 (v:=?_) rfl (by kernel_rfl) (fun _ _ _ h=>h) rfl (by assumption) ?_ ?_;rotate_left;focus(intro w' h;(try dsimp only at h);go_simp;try with_reducible rfl);simp only[Act.put,sB,sZ,sS])
 (refine tkL 12 (v:=?_) rfl (by kernel_rfl) (fun _ _ _ h=>h) rfl (by assumption) ?_ ?_;rotate_left;focus(intro w' h;(try dsimp only at h);go_simp;try with_reducible rfl);simp only[Act.put,sB,sZ,sS])
 (refine tkL 13 (v:=?_) rfl (by kernel_rfl) (fun _ _ _ h=>h) rfl (by assumption) ?_ ?_;rotate_left;focus(intro w' h;(try dsimp only at h);go_simp;try with_reducible rfl);simp only[Act.put,sB,sZ,sS])
 refine zh (rs:=[1,14]) (by kernel_rfl) (by simp) ?_
 refine zd.consL rfl (fun K f=>?_) (zd.consL rfl (fun K f=>?_) zd.nil)
 focus
  go_simp;refine f.out _ _ (KS.out _ (by repeat(first|exact c.out|exact bZ|refine Below.drew ?_|refine zr ?_ _))) (fun hS=>?_)
  clear f K;simp only[sZ,sS];refine zh (rs:=[6,14]) (by kernel_rfl) (by simp) ?_
  refine zd.consL rfl (fun K f=>?_) (zd.consL rfl (fun K f=>?_) zd.nil)
  focus
   refine zN (by rfl) (.tmp 227) (.tmp 231) 134 (by rfl) 190 i0 (.agg #[int i64 0,int i64 0,int i64 0,.bool false]) 4 32 Tryz.underlying134 ii d6 d7 d8 rfl (by decide) M.heap.size _ (by rfl) (by first|exact Nat.le_refl _|omega|(simp;done)|(simp;omega)) (by repeat(first|((with_reducible refine qY _ _ _ ?_);(first|rfl|(simp;done)))|with_reducible refine zF ?_|with_reducible refine ze ?_ _)) b l.ron d (zQ l.ro l.ron) (by rfl) HN.out (Zi _ _) (Z6 (e2.out _ (by repeat(first|exact bZ|refine Below.drew ?_|refine zr ?_ _)))) (ZL _ _) (by unfold maxLen;omega) (by omega) ?_;intro p1 q1 u1 P Z H;clear H;have c:Hid (Below M.heap.size M u1):=(by show Below _ _ _;refine zj ?_ (zl P);exact(by repeat(first|exact bZ|refine Below.drew ?_|refine zr ?_ _)));refine f.out _ _ (KS.out _ c.out) (fun hS=>?_)
   clear f K;simp only[Act.put,sB,sZ,sS];refine zh (rs:=[14]) (by kernel_rfl) (by simp) ?_
   refine zd.consL rfl (fun K f=>?_) zd.nil
   focus
    go_simp;refine f.out _ _ (KS.out _ (by repeat(first|exact c.out|exact bZ|refine Below.drew ?_|refine zr ?_ _))) (fun hS=>?_)
    clear f K;simp only[sZ,sS]
  rotate_left 1
  focus
   go_simp;refine f.out _ _ (KS.out _ (by repeat(first|exact c.out|exact bZ|refine Below.drew ?_|refine zr ?_ _))) (fun hS=>?_)
   clear f K;simp only[sZ,sS];refine zh (rs:=[6]) (by kernel_rfl) (by simp) ?_
   refine zd.consL rfl (fun K f=>?_) zd.nil
   focus
    refine zN (by rfl) (.tmp 227) (.tmp 231) 134 (by rfl) 190 i0 (.agg #[int i64 0,int i64 0,int i64 0,.bool false]) 4 32 Tryz.underlying134 ii d6 d7 d8 rfl (by decide) M.heap.size _ (by rfl) (by first|exact Nat.le_refl _|omega|(simp;done)|(simp;omega)) (by repeat(first|((with_reducible refine qY _ _ _ ?_);(first|rfl|(simp;done)))|with_reducible refine zF ?_|with_reducible refine ze ?_ _)) b l.ron d (zQ l.ro l.ron) (by rfl) HN.out (Zi _ _) (Z6 (e2.out _ (by repeat(first|exact bZ|refine Below.drew ?_|refine zr ?_ _)))) (ZL _ _) (by unfold maxLen;omega) (by omega) ?_;intro p1 q1 u1 P Z H;clear H;have c:Hid (Below M.heap.size M u1):=(by show Below _ _ _;refine zj ?_ (zl P);exact(by repeat(first|exact bZ|refine Below.drew ?_|refine zr ?_ _)));refine f.out _ _ (KS.out _ c.out) (fun hS=>?_)
    clear f K;simp only[Act.put,sB,sZ,sS]
 rotate_left 2
 focus
  go_simp;refine f.out _ _ (KS.out _ (by repeat(first|exact c.out|exact bZ|refine Below.drew ?_|refine zr ?_ _))) (fun hS=>?_)
  clear f K;simp only[sZ,sS];refine zh (rs:=[1]) (by kernel_rfl) (by simp) ?_
  refine zd.consL rfl (fun K f=>?_) zd.nil
  focus
   go_simp;refine f.out _ _ (KS.out _ (by repeat(first|exact c.out|exact bZ|refine Below.drew ?_|refine zr ?_ _))) (fun hS=>?_)
   clear f K;simp only[sZ,sS];refine zh (rs:=[6]) (by kernel_rfl) (by simp) ?_
   refine zd.consL rfl (fun K f=>?_) zd.nil
   focus
    refine zN (by rfl) (.tmp 227) (.tmp 231) 134 (by rfl) 190 i0 (.agg #[int i64 0,int i64 0,int i64 0,.bool false]) 4 32 Tryz.underlying134 ii d6 d7 d8 rfl (by decide) M.heap.size _ (by rfl) (by first|exact Nat.le_refl _|omega|(simp;done)|(simp;omega)) (by repeat(first|((with_reducible refine qY _ _ _ ?_);(first|rfl|(simp;done)))|with_reducible refine zF ?_|with_reducible refine ze ?_ _)) b l.ron d (zQ l.ro l.ron) (by rfl) HN.out (Zi _ _) (Z6 (e2.out _ (by repeat(first|exact bZ|refine Below.drew ?_|refine zr ?_ _)))) (ZL _ _) (by unfold maxLen;omega) (by omega) ?_;intro p1 q1 u1 P Z H;clear H;have c:Hid (Below M.heap.size M u1):=(by show Below _ _ _;refine zj ?_ (zl P);exact(by repeat(first|exact bZ|refine Below.drew ?_|refine zr ?_ _)));refine f.out _ _ (KS.out _ c.out) (fun hS=>?_)
    clear f K;simp only[Act.put,sB,sZ,sS]
 all_goals
  refine zh (rs:=[15]) (by kernel_rfl) (by simp) ?_
  refine zd.consL rfl (fun K f=>?_) zd.nil
  refine step_append_lies _ (by rfl) (.tmp 232) (.tmp 240) 134 (by rfl) M.heap.size 190 i0 (.agg #[int i64 0,int i64 0,int i64 0,.bool false]) 4 32 Tryz.underlying134 ii d6 d7 d8 rfl (by decide) _ l.ron (zQ l.ro l.ron) (by rfl) (by first|exact Z|exact Z.alloc _|exact zm (zr bZ _) Z) _ 1 1 [int i64 who,int i64 (m:Int),int i64 (s.ca.B m),.bool true] (by rfl) (by rfl) (by refine World.news_of_block (cs:=#[int i64 who,int i64 (m:Int),int i64 (s.ca.B m),.bool true]) (t:=190) (fr:=(0,0)) ?_;exact(by repeat(first|((with_reducible refine qY _ _ _ ?_);(first|rfl|(simp;done)))|with_reducible refine zF ?_|with_reducible refine ze ?_ _|with_reducible refine zc ?_ (zl P)))) (by intro u hu;simp at hu;rcases hu with rfl|rfl|rfl|rfl <;> rfl) (by decide) (by unfold maxLen;omega) (by omega) (by first|exact c.out.size|(have:=c.out.size;simp;omega)) _ rfl ?_;intro g2 j5 u2 j4 j3 j6 j7;refine(fun (a9:Hid (Below M.heap.size M u2))=>?_) (Below.grown ?_ j3 ?_ (fun j hj=>(Z.lt j hj).1));rotate_left;(focus(repeat(first|exact bZ|refine Below.drew ?_|refine zr ?_ _|refine zj ?_ (zl P))));(focus(first|exact c.out.size|(have:=c.out.size;simp;omega)));have q0:=(a9.out.cell (p:=⟨y,k*3+1,none⟩) (zZ O)).trans h0;have q1:=zg (zc O a9.out) (k*3+1);refine f.out _ _ (KS.out _ a9.out) (fun hS=>?_)
  clear f K;simp only[Act.put,sB,sZ,sS]
  (refine tkL 16 (v:=?_) rfl (by kernel_rfl) (fun _ _ _ h=>h) rfl (by assumption) ?_ ?_;rotate_left;focus(intro w' h;(try dsimp only at h);go_simp;try with_reducible rfl);simp only[Act.put,sB,sZ,sS])
  (refine tkL 17 (v:=?_) rfl (by kernel_rfl) (fun _ _ _ h=>h) rfl (by assumption) ?_ ?_;rotate_left;focus(intro w' h;(try dsimp only at h);go_simp;try with_reducible rfl);simp only[Act.put,sB,sZ,sS])
  refine zh (rs:=[18]) (by kernel_rfl) (by simp) ?_
  refine zd.lastL rfl (fun K f=>?_)
  go_simp;refine f.out _ _ ?_;clear f K;refine zH (by kernel_rfl) ?_ _
  have HF:Hid _:=doRo (k:=k) (n:=l.ron+1) (T:=Qj l.ro l.ron (fun _=>⟨who,(m:Int),s.ca.B m,true⟩)) (v:=⟨leg,1,false,who,⟨pe,len,hei,cl,true,be⟩⟩) HO.out HQ.out i3.out (zj i a9.out) (zE (by rw[zcA,Qi,show zQ (fun _=>(⟨who,(m:Int),s.ca.B m,true⟩:ZF)) 0=[] from rfl,List.nil_append];exact j4) i.size) (by rw[e0.out,e4.out];exact .addWhole m rfl rfl rfl (by rw[← e4.out,← e0.out];exact b6.out))
  go_wp2;go_ret;exact HF.out
theorem l7Do_f (g base N R k a0 a9 e4:Nat)(e2 e0 d9:Option Addr)(leg who:Int)(pe len hei cl be:Int)(x:Off)(L C A B D E:Nat->Value)(w:World)(hq:w.heap[g]?=some (.cells #[.slice e2 N a0,.slice e0 N a9,.slice d9 R e4] 66 (0,0)))(S:zV w base (.slice e2 N a0) (.slice e0 N a9) (.slice d9 R e4) N N R x L C A B D E)(hN:N<=1048576)(hk:qo x.sa leg N=k)(O:k<N)(g6:qJ (x.sa k) (x.ld k)) :
  Calls Tryz.prog 122 #[.pointer (some ⟨g,0,none⟩),.agg #[int i64 leg,int i64 1,.bool false,int i64 who,int i64 pe,int i64 len,int i64 hei,int i64 cl,.bool false,int i64 be]] w fun e w'=>zcR g base N R k a0 a9 e4 e2 e0 d9 ⟨leg,1,false,who,⟨pe,len,hei,cl,false,be⟩⟩ x L C E w e w':=by
 obtain⟨i0,ii,b9,c8,c9⟩:=info_parts Tryz.infoRoom;obtain⟨i,rfl,i4,b7⟩:=qw S.ld.row (by omega)
 have HO:=hI S;have HK:=hI hk;have a5:=hI g6;have h3:Hid (base<=w.heap.size):=by show base<=w.heap.size;omega
 have HQ:=hI hq;have d0:=hI S.sa.at;obtain⟨cs,g5⟩:=zT S.ld.row i rfl;obtain⟨a8,b6,eA,m1,m2,m3⟩:=zt (S.ld.st k O);obtain⟨d,f,eB,m4,m5,m6⟩:=zt (S.ld.ro k O);obtain⟨a7,b5,eD,m7,m8,m9⟩:=zt (S.ld.se k O);have i3:Hid (w.ownsRow base 186 4 (.slice a8 (x.ld k).stn b6) (x.ld k).stn (zX (x.ld k).st (x.ld k).stn)):=by show w.ownsRow _ _ _ _ _ _;rw[← eA];exact S.ld.st k O
 have d8:Hid (w.ownsRow base 190 4 (.slice d (x.ld k).ron f) (x.ld k).ron (zQ (x.ld k).ro (x.ld k).ron)):=by show w.ownsRow _ _ _ _ _ _;rw[← eB];exact S.ld.ro k O
 have h9:Hid (w.ownsRow base 138 2 (.slice a7 (x.ld k).sen b5) (x.ld k).sen (zW (x.ld k).se (x.ld k).sen)):=by show w.ownsRow _ _ _ _ _ _;rw[← eD];exact S.ld.se k O
 have e9:Hid (w.cell? ⟨i,k*3,none⟩=some (.slice a8 (x.ld k).stn b6)):=by
  have h:=zK S.ld.row (k*3+0) (by omega) rfl
  rw[zM 3 _ k 0 (by decide)] at h
  rw[← eA];exact h
 have d5:Hid (w.cell? ⟨i,k*3+1,none⟩=some (.slice d (x.ld k).ron f)):=by
  have h:=zK S.ld.row (k*3+1) (by omega) rfl
  rw[zM 3 _ k 1 (by decide)] at h
  rw[← eB];exact h
 have f8:Hid (w.cell? ⟨i,k*3+2,none⟩=some (.slice a7 (x.ld k).sen b5)):=by
  have h:=zK S.ld.row (k*3+2) (by omega) rfl
  rw[zM 3 _ k 2 (by decide)] at h
  rw[← eD];exact h
 have f9:Hid ((a8=none->(x.ld k).stn=0/\b6=0)/\(d=none->(x.ld k).ron=0/\f=0)/\(a7=none->(x.ld k).sen=0/\b5=0)):=⟨m3,m6,m9⟩;obtain⟨s,b8⟩:∃ s,s=x.sa k:=⟨_,rfl⟩;obtain⟨l,e8⟩:∃ l,l=x.ld k:=⟨_,rfl⟩;rw[← e8] at i3 d8 h9 e9 d5 f8 f9 a5;rw[← b8] at a5;have g1:=hI b8;have d6:=hI e8;have h5:=hI g5;obtain⟨a,I,la,lc,ca,cc,rfl,f0,f1,f2,f3,f4,f5,f6,f7,e7,e6,h1,h0⟩:=d0.out k O;rw[← b8] at f0 f1 f2 f3 f4 f5 f6 f7 e7 e6 h1 h0;have h6:Hid (qd w la s.la/\qd w ca s.ca):=⟨e7,e6⟩;have h4:Hid (∀ W,Below w.heap.size w W->W.cell? ⟨a,I+k*8,none⟩=some (int i64 s.id)/\W.cell? ⟨a,I+k*8+1,none⟩=some (.string s.fr)/\W.cell? ⟨a,I+k*8+2,none⟩=some (.string s.dst)/\W.cell? ⟨a,I+k*8+3,none⟩=some (int i64 s.dep)/\W.cell? ⟨a,I+k*8+4,none⟩=some (int i64 s.arr)/\W.cell? ⟨a,I+k*8+5,none⟩=some (.slice la s.la.n lc)/\W.cell? ⟨a,I+k*8+6,none⟩=some (.slice ca s.ca.n cc)/\W.cell? ⟨a,I+k*8+7,none⟩=some (int i64 s.most)):=fun W hb=>by
  have H:=World.block_lt_of_cell? w _ f0;exact⟨(hb.cell (p:=⟨a,I+k*8,none⟩) H).trans f0,(hb.cell (p:=⟨a,I+k*8+1,none⟩) H).trans f1,(hb.cell (p:=⟨a,I+k*8+2,none⟩) H).trans f2,(hb.cell (p:=⟨a,I+k*8+3,none⟩) H).trans f3,(hb.cell (p:=⟨a,I+k*8+4,none⟩) H).trans f4,(hb.cell (p:=⟨a,I+k*8+5,none⟩) H).trans f5,(hb.cell (p:=⟨a,I+k*8+6,none⟩) H).trans f6,(hb.cell (p:=⟨a,I+k*8+7,none⟩) H).trans f7⟩
 clear f0 f1 f2 f3 f4 f5 f6 f7 e7 e6 h1 h0 b8 e8 g5 eA eB eD m1 m2 m3 m4 m5 m6 m7 m8 m9 g6 hk i4;have i1:(0:Int)<=(k:Int):=by omega
 have i2:(k:Int)<(N:Int):=by omega
 have a1:Below w.heap.size w (w.alloc (.cells #[int i64 leg,int i64 1,.bool false,int i64 who,int i64 pe,int i64 len,int i64 hei,int i64 cl,.bool false,int i64 be] 175)):=zr bZ _;have b0:=heap_alloc_new w (.cells #[int i64 leg,int i64 1,.bool false,int i64 who,int i64 pe,int i64 len,int i64 hei,int i64 cl,.bool false,int i64 be] 175);go_enter Tryz.func122,Tryz.ntmps122;go_upto_region 1 with fail;generalize (w.alloc (.cells #[int i64 leg,int i64 1,.bool false,int i64 who,int i64 pe,int i64 len,int i64 hei,int i64 cl,.bool false,int i64 be] 175))=W at a1 b0 ⊢;have z0:∀ G:qe W,G.val.cell? ⟨g,0,none⟩=some (.slice (some ⟨a,I,none⟩) N a0):=fun G=>za (zc HQ.out (zj a1 G.bel)) 0 _ rfl
 have z1:∀ G:qe W,G.val.cell? ⟨w.heap.size,0,none⟩=some (int i64 leg):=fun G=>za (zc b0 G.bel) 0 _ rfl
 refine zp (by kernel_rfl) (by kernel_rfl) ?_
 repeat(first|go_big_quiet_skip|(go_big_quiet_want;go_big_quiet_op;first|go_big_quiet_on|(apply Exists.intro;refine⟨fun G=>?_,?_⟩;(focus(first|(go_at_call 110;refine zi (v:=int i64 (k:Int)) ((ZP _ N a0 x.sa leg _ hN (d0.out.below (zj a1 G.bel))).mono ?_);rintro e w2 ⟨he,e5⟩;refine⟨?_,e5⟩;rw[HK.out] at he;rcases he with⟨_,rfl⟩|⟨h,_⟩;rfl;omega)));go_big_quiet_on)))
 refine wpQuiet_nil ?_;rintro _ ⟨G,rfl⟩;clear z0 z1;have a2:=zj a1 G.bel;have bW:=zc b0 G.bel;obtain⟨c0,c1,c2,c3,c4,c5,c6,c7⟩:=h4.out G.val a2;have y0:=za (zc HQ.out a2) 0 _ rfl;have y1:∀ o,(G.val.alloc o).cell? ⟨g,1,none⟩=some (.slice (some ⟨i,0,none⟩) N a9):=fun o=>za (zc HQ.out (zr a2 o)) 1 _ rfl
 have y4:∀ o,(G.val.alloc o).cell? ⟨w.heap.size,4,none⟩=some (int i64 pe):=fun o=>za (ze bW o) 4 _ rfl
 have y5:∀ o,(G.val.alloc o).cell? ⟨w.heap.size,5,none⟩=some (int i64 len):=fun o=>za (ze bW o) 5 _ rfl
 have y6:∀ o,(G.val.alloc o).cell? ⟨w.heap.size,6,none⟩=some (int i64 hei):=fun o=>za (ze bW o) 6 _ rfl
 have y7:∀ o,(G.val.alloc o).cell? ⟨w.heap.size,7,none⟩=some (int i64 cl):=fun o=>za (ze bW o) 7 _ rfl
 have y8:∀ o,(G.val.alloc o).cell? ⟨w.heap.size,8,none⟩=some (.bool false):=fun o=>za (ze bW o) 8 _ rfl
 have y9:∀ o,(G.val.alloc o).cell? ⟨w.heap.size,9,none⟩=some (int i64 be):=fun o=>za (ze bW o) 9 _ rfl
 go_upto_region 8 with fail;have q:Below w.heap.size w ((G.val.alloc (.cells #[int i64 s.id,.string s.fr,.string s.dst,int i64 s.dep,int i64 s.arr,.slice la s.la.n lc,.slice ca s.ca.n cc,int i64 s.most] 37)).alloc (.cells #[int i64 pe,int i64 len,int i64 hei,int i64 cl,.bool false,int i64 be] 25)):=zr (zr a2 _) _;have Q:=ze (ze bW (.cells #[int i64 s.id,.string s.fr,.string s.dst,int i64 s.dep,int i64 s.arr,.slice la s.la.n lc,.slice ca s.ca.n cc,int i64 s.most] 37)) (.cells #[int i64 pe,int i64 len,int i64 hei,int i64 cl,.bool false,int i64 be] 25);have Z:=ze (heap_alloc_new G.val (.cells #[int i64 s.id,.string s.fr,.string s.dst,int i64 s.dep,int i64 s.arr,.slice la s.la.n lc,.slice ca s.ca.n cc,int i64 s.most] 37)) (.cells #[int i64 pe,int i64 len,int i64 hei,int i64 cl,.bool false,int i64 be] 25);have P:=zcC G.val (.cells #[int i64 s.id,.string s.fr,.string s.dst,int i64 s.dep,int i64 s.arr,.slice la s.la.n lc,.slice ca s.ca.n cc,int i64 s.most] 37) (.cells #[int i64 pe,int i64 len,int i64 hei,int i64 cl,.bool false,int i64 be] 25);generalize hx0:(G.val.alloc (.cells #[int i64 s.id,.string s.fr,.string s.dst,int i64 s.dep,int i64 s.arr,.slice la s.la.n lc,.slice ca s.ca.n cc,int i64 s.most] 37)).alloc (.cells #[int i64 pe,int i64 len,int i64 hei,int i64 cl,.bool false,int i64 be] 25)=X at q Q Z P ⊢;generalize hsb:G.val.heap.size=sb at Z P ⊢;clear c0 c1 c2 c3 c4 c5 c6 c7 y0 y1 y4 y5 y6 y7 y8 y9 bW a2 a1 b0 hx0 hsb G W;have w1:=za Q 1 _ rfl;have w2:=za Q 2 _ rfl;have w3:=za Q 3 _ rfl;have L0:X.cell? ⟨i,k*3,none⟩=some (.slice a8 l.stn b6):=(q.cell (p:=⟨i,k*3,none⟩) b7).trans e9.out;have L1:X.cell? ⟨i,k*3+1,none⟩=some (.slice d l.ron f):=(q.cell (p:=⟨i,k*3+1,none⟩) b7).trans d5.out;have L2:X.cell? ⟨i,k*3+2,none⟩=some (.slice a7 l.sen b5):=(q.cell (p:=⟨i,k*3+2,none⟩) b7).trans f8.out;have bG:=zc h5.out q;obtain⟨rb,g8⟩:=zeU l.ron s.ca.n (zbM s.ca l.ron l.ro cl be);have a6:=hI g8;clear g8;have s5:∀ G:qe X,G.val.cell? ⟨sb,6,none⟩=some (.slice ca s.ca.n cc):=fun G=>za (zc Z G.bel) 6 _ rfl
 have s6:∀ G:qe X,G.val.cell? ⟨i,k*3+1,none⟩=some (.slice d l.ron f):=fun G=>(G.bel.cell (p:=⟨i,k*3+1,none⟩) (zZ bG)).trans L1
 have p1:∀ G:qe X,G.val.cell? ⟨sb+1,3,none⟩=some (int i64 cl):=fun G=>za (zc P G.bel) 3 _ rfl
 have p2:∀ G:qe X,G.val.cell? ⟨sb+1,5,none⟩=some (int i64 be):=fun G=>za (zc P G.bel) 5 _ rfl
 go_upto_region 34 with fail;refine zp (by kernel_rfl) (by kernel_rfl) ?_
 repeat(first|go_big_quiet_skip|(go_big_quiet_want;go_big_quiet_op;first|go_big_quiet_on|(apply Exists.intro;refine⟨fun G=>?_,?_⟩;(focus(first|(go_at_call 141;refine zi (v:=int i64 rb) ((zcG ca d s.ca.n cc l.ron f s.ca l.ro cl be _ rfl a5.out.2.1 (h6.out.2.below (zj q G.bel)) ((ZM d8.out).below (zj q G.bel))).mono ?_);rintro e w2 ⟨⟨r',rfl,o1⟩,e5⟩;exact⟨by rw[zhd o1 a6.out],e5⟩)));go_big_quiet_on)))
 refine wpQuiet_nil ?_;rintro _ ⟨G,rfl⟩;have J:=zj q G.bel;have e3:=zc Q G.bel;have g4:=zc Z G.bel;have Y:=zc P G.bel;have V:=zc bG G.bel;clear w1 w2 w3 L0 L1 L2 s5 s6 p1 p2;generalize G.val=W5 at J e3 g4 Y V ⊢;clear q Q Z P bG G X;have r4:=za Y 4 _ rfl;have r5:=za Y 5 _ rfl;obtain⟨r,g7⟩:∃ r,r=rb:=⟨_,rfl⟩;rw[← g7] at a6 ⊢;have g0:=hI a6;clear a6 g7 rb;obtain⟨y,g9⟩:∃ y,y=W5:=⟨_,rfl⟩;rw[← g9] at J e3 g4 Y V r4 r5 ⊢;clear g9 W5
 by_cases hr:r<0
 ·have e1:decide (r<0)=true:=decide_eq_true hr
  have HF:Hid _:=doNo (k:=k) (code:=6) (v:=⟨leg,1,false,who,⟨pe,len,hei,cl,false,be⟩⟩) HO.out HQ.out J (by
   refine .berth rfl rfl rfl ?_;rw[← g1.out,← d6.out]
   rcases g0.out with⟨j,h,_⟩|⟨h,h2⟩
   ·omega
   ·exact .inr ⟨rfl,h2⟩)
  go_wp2;go_ret;exact HF.out
 obtain⟨m,rfl⟩:∃ m:Nat,r=(m:Int):=⟨r.toNat,by omega⟩
 have e1:decide ((m:Int)<0)=false:=decide_eq_false hr;clear hr;go_upto_region 42 with fail;have HN:=hI f9.out.2.1;have d7:Hid (∀ z,Below y.heap.size y z->Zm z d l.ron l.ro):=fun z h=>(ZM d8.out).below (zj J h)
 have j0:l.ron<=60:=a5.out.2.1.2.1;have g3:y.cell? ⟨i,k*3+1,none⟩=some (.slice d l.ron f):=(J.cell (p:=⟨i,k*3+1,none⟩) b7).trans d5.out;have KS:Hid (∀ z,Below y.heap.size y z->(z.cell? ⟨w.heap.size,3,none⟩=some (int i64 who)/\z.cell? ⟨sb+1,4,none⟩=some (.bool false))/\z.cell? ⟨i,k*3+1,none⟩=some (.slice d l.ron f)):=fun z h=>⟨⟨za (zc e3 h) 3 _ rfl,za (zc Y h) 4 _ rfl⟩,(h.cell (p:=⟨i,k*3+1,none⟩) (zZ V)).trans g3⟩
 refine qy 18 19 (fun w'=>(w'.cell? ⟨w.heap.size,3,none⟩=some (int i64 who)/\w'.cell? ⟨sb+1,4,none⟩=some (.bool false))/\w'.cell? ⟨i,k*3+1,none⟩=some (.slice d l.ron f)) rfl (by kernel_rfl) (KS.out _ (Below.drew bZ)) (fun hS=>?_)
 simp only[List.replicate_succ,List.replicate_zero]
 (refine tkL 0 (v:=?_) rfl (by kernel_rfl) (fun _ _ _ h=>h) rfl (by assumption) ?_ ?_;rotate_left;focus(intro w' h;(try dsimp only at h);go_simp;try with_reducible rfl);simp only[Act.put,sB,sZ,sS])
 (refine tkL 2 (v:=?_) rfl (by kernel_rfl) (fun _ _ _ h=>h) rfl (by assumption) ?_ ?_;rotate_left;focus(intro w' h;(try dsimp only at h);go_simp;try with_reducible rfl);simp only[Act.put,sB,sZ,sS])
 (refine tkL 3 (v:=?_) rfl (by kernel_rfl) (fun _ _ _ h=>h) rfl (by assumption) ?_ ?_;rotate_left;focus(intro w' h;(try dsimp only at h);go_simp;try with_reducible rfl);simp only[Act.put,sB,sZ,sS])
 (refine tkL 4 (v:=?_) rfl (by kernel_rfl) (fun _ _ _ h=>h) rfl (by assumption) ?_ ?_;rotate_left;focus(intro w' h;(try dsimp only at h);go_simp;try with_reducible rfl);simp only[Act.put,sB,sZ,sS])
 (refine tkL 5 (v:=?_) rfl (by kernel_rfl) (fun _ _ _ h=>h) rfl (by assumption) ?_ ?_;rotate_left;focus(intro w' h;(try dsimp only at h);go_simp;try with_reducible rfl);simp only[Act.put,sB,sZ,sS])
 (refine tkL 7 (v:=?_) rfl (by kernel_rfl) (fun _ _ _ h=>h) rfl (by assumption) ?_ ?_;rotate_left;focus(intro w' h;(try dsimp only at h);go_simp;try with_reducible rfl);simp only[Act.put,sB,sZ,sS])
 (refine tkL 8 (v:=?_) rfl (by kernel_rfl) (fun _ _ _ h=>h) rfl (by assumption) ?_ ?_;rotate_left;focus(intro w' h;(try dsimp only at h);go_simp;try with_reducible rfl);simp only[Act.put,sB,sZ,sS])
 (refine tkL 9 (v:=?_) rfl (by kernel_rfl) (fun _ _ _ h=>h) rfl (by assumption) ?_ ?_;rotate_left;focus(intro w' h;(try dsimp only at h);go_simp;try with_reducible rfl);simp only[Act.put,sB,sZ,sS])
 (refine tkL 10 (v:=?_) rfl (by kernel_rfl) (fun _ _ _ h=>h) rfl (by assumption) ?_ ?_;rotate_left;focus(intro w' h;(try dsimp only at h);go_simp;try with_reducible rfl);simp only[Act.put,sB,sZ,sS])
 (refine tkL 11 (v:=?_) rfl (by kernel_rfl) (fun _ _ _ h=>h) rfl (by assumption) ?_ ?_;rotate_left;focus(intro w' h;(try dsimp only at h);go_simp;try with_reducible rfl);simp only[Act.put,sB,sZ,sS])
 (refine tkL 12 (v:=?_) rfl (by kernel_rfl) (fun _ _ _ h=>h) rfl (by assumption) ?_ ?_;rotate_left;focus(intro w' h;(try dsimp only at h);go_simp;try with_reducible rfl);simp only[Act.put,sB,sZ,sS])
 (refine tkL 13 (v:=?_) rfl (by kernel_rfl) (fun _ _ _ h=>h) rfl (by assumption) ?_ ?_;rotate_left;focus(intro w' h;(try dsimp only at h);go_simp;try with_reducible rfl);simp only[Act.put,sB,sZ,sS])
 refine zh (rs:=[1,14]) (by kernel_rfl) (by simp) ?_
 refine zd.consL rfl (fun K c=>?_) (zd.consL rfl (fun K c=>?_) zd.nil)
 focus
  go_simp;refine c.out _ _ (KS.out _ (by repeat(first|exact b.out|exact bZ|refine Below.drew ?_|refine zr ?_ _))) (fun hS=>?_)
  clear c K;simp only[sZ,sS];refine zh (rs:=[6,14]) (by kernel_rfl) (by simp) ?_
  refine zd.consL rfl (fun K c=>?_) (zd.consL rfl (fun K c=>?_) zd.nil)
  focus
   refine zN (by rfl) (.tmp 227) (.tmp 231) 134 (by rfl) 190 i0 (.agg #[int i64 0,int i64 0,int i64 0,.bool false]) 4 32 Tryz.underlying134 ii b9 c8 c9 rfl (by decide) y.heap.size _ (by rfl) (by first|exact Nat.le_refl _|omega|(simp;done)|(simp;omega)) (by repeat(first|((with_reducible refine qY _ _ _ ?_);(first|rfl|(simp;done)))|with_reducible refine zF ?_|with_reducible refine ze ?_ _)) d l.ron f (zQ l.ro l.ron) (by rfl) HN.out (Zi _ _) (Z6 (d7.out _ (by repeat(first|exact bZ|refine Below.drew ?_|refine zr ?_ _)))) (ZL _ _) (by unfold maxLen;omega) (by omega) ?_;intro p1 q1 u1 M U F;clear F;have b:Hid (Below y.heap.size y u1):=(by show Below _ _ _;refine zj ?_ (zl M);exact(by repeat(first|exact bZ|refine Below.drew ?_|refine zr ?_ _)));refine c.out _ _ (KS.out _ b.out) (fun hS=>?_)
   clear c K;simp only[Act.put,sB,sZ,sS];refine zh (rs:=[14]) (by kernel_rfl) (by simp) ?_
   refine zd.consL rfl (fun K c=>?_) zd.nil
   focus
    go_simp;refine c.out _ _ (KS.out _ (by repeat(first|exact b.out|exact bZ|refine Below.drew ?_|refine zr ?_ _))) (fun hS=>?_)
    clear c K;simp only[sZ,sS]
  rotate_left 1
  focus
   go_simp;refine c.out _ _ (KS.out _ (by repeat(first|exact b.out|exact bZ|refine Below.drew ?_|refine zr ?_ _))) (fun hS=>?_)
   clear c K;simp only[sZ,sS];refine zh (rs:=[6]) (by kernel_rfl) (by simp) ?_
   refine zd.consL rfl (fun K c=>?_) zd.nil
   focus
    refine zN (by rfl) (.tmp 227) (.tmp 231) 134 (by rfl) 190 i0 (.agg #[int i64 0,int i64 0,int i64 0,.bool false]) 4 32 Tryz.underlying134 ii b9 c8 c9 rfl (by decide) y.heap.size _ (by rfl) (by first|exact Nat.le_refl _|omega|(simp;done)|(simp;omega)) (by repeat(first|((with_reducible refine qY _ _ _ ?_);(first|rfl|(simp;done)))|with_reducible refine zF ?_|with_reducible refine ze ?_ _)) d l.ron f (zQ l.ro l.ron) (by rfl) HN.out (Zi _ _) (Z6 (d7.out _ (by repeat(first|exact bZ|refine Below.drew ?_|refine zr ?_ _)))) (ZL _ _) (by unfold maxLen;omega) (by omega) ?_;intro p1 q1 u1 M U F;clear F;have b:Hid (Below y.heap.size y u1):=(by show Below _ _ _;refine zj ?_ (zl M);exact(by repeat(first|exact bZ|refine Below.drew ?_|refine zr ?_ _)));refine c.out _ _ (KS.out _ b.out) (fun hS=>?_)
    clear c K;simp only[Act.put,sB,sZ,sS]
 rotate_left 2
 focus
  go_simp;refine c.out _ _ (KS.out _ (by repeat(first|exact b.out|exact bZ|refine Below.drew ?_|refine zr ?_ _))) (fun hS=>?_)
  clear c K;simp only[sZ,sS];refine zh (rs:=[1]) (by kernel_rfl) (by simp) ?_
  refine zd.consL rfl (fun K c=>?_) zd.nil
  focus
   go_simp;refine c.out _ _ (KS.out _ (by repeat(first|exact b.out|exact bZ|refine Below.drew ?_|refine zr ?_ _))) (fun hS=>?_)
   clear c K;simp only[sZ,sS];refine zh (rs:=[6]) (by kernel_rfl) (by simp) ?_
   refine zd.consL rfl (fun K c=>?_) zd.nil
   focus
    refine zN (by rfl) (.tmp 227) (.tmp 231) 134 (by rfl) 190 i0 (.agg #[int i64 0,int i64 0,int i64 0,.bool false]) 4 32 Tryz.underlying134 ii b9 c8 c9 rfl (by decide) y.heap.size _ (by rfl) (by first|exact Nat.le_refl _|omega|(simp;done)|(simp;omega)) (by repeat(first|((with_reducible refine qY _ _ _ ?_);(first|rfl|(simp;done)))|with_reducible refine zF ?_|with_reducible refine ze ?_ _)) d l.ron f (zQ l.ro l.ron) (by rfl) HN.out (Zi _ _) (Z6 (d7.out _ (by repeat(first|exact bZ|refine Below.drew ?_|refine zr ?_ _)))) (ZL _ _) (by unfold maxLen;omega) (by omega) ?_;intro p1 q1 u1 M U F;clear F;have b:Hid (Below y.heap.size y u1):=(by show Below _ _ _;refine zj ?_ (zl M);exact(by repeat(first|exact bZ|refine Below.drew ?_|refine zr ?_ _)));refine c.out _ _ (KS.out _ b.out) (fun hS=>?_)
    clear c K;simp only[Act.put,sB,sZ,sS]
 all_goals
  refine zh (rs:=[15]) (by kernel_rfl) (by simp) ?_
  refine zd.consL rfl (fun K c=>?_) zd.nil
  refine step_append_lies _ (by rfl) (.tmp 232) (.tmp 240) 134 (by rfl) y.heap.size 190 i0 (.agg #[int i64 0,int i64 0,int i64 0,.bool false]) 4 32 Tryz.underlying134 ii b9 c8 c9 rfl (by decide) _ l.ron (zQ l.ro l.ron) (by rfl) (by first|exact U|exact U.alloc _|exact zm (zr bZ _) U) _ 1 1 [int i64 who,int i64 (m:Int),int i64 (be),.bool false] (by rfl) (by rfl) (by refine World.news_of_block (cs:=#[int i64 who,int i64 (m:Int),int i64 (be),.bool false]) (t:=190) (fr:=(0,0)) ?_;exact(by repeat(first|((with_reducible refine qY _ _ _ ?_);(first|rfl|(simp;done)))|with_reducible refine zF ?_|with_reducible refine ze ?_ _|with_reducible refine zc ?_ (zl M)))) (by intro u hu;simp at hu;rcases hu with rfl|rfl|rfl|rfl <;> rfl) (by decide) (by unfold maxLen;omega) (by omega) (by first|exact b.out.size|(have:=b.out.size;simp;omega)) _ rfl ?_;intro g2 i7 u2 i6 i5 i8 i9;refine(fun (a3:Hid (Below y.heap.size y u2))=>?_) (Below.grown ?_ i5 ?_ (fun j hj=>(U.lt j hj).1));rotate_left;(focus(repeat(first|exact bZ|refine Below.drew ?_|refine zr ?_ _|refine zj ?_ (zl M))));(focus(first|exact b.out.size|(have:=b.out.size;simp;omega)));have q0:=(a3.out.cell (p:=⟨i,k*3+1,none⟩) (zZ V)).trans g3;have q1:=zg (zc V a3.out) (k*3+1);refine c.out _ _ (KS.out _ a3.out) (fun hS=>?_)
  clear c K;simp only[Act.put,sB,sZ,sS]
  (refine tkL 16 (v:=?_) rfl (by kernel_rfl) (fun _ _ _ h=>h) rfl (by assumption) ?_ ?_;rotate_left;focus(intro w' h;(try dsimp only at h);go_simp;try with_reducible rfl);simp only[Act.put,sB,sZ,sS])
  (refine tkL 17 (v:=?_) rfl (by kernel_rfl) (fun _ _ _ h=>h) rfl (by assumption) ?_ ?_;rotate_left;focus(intro w' h;(try dsimp only at h);go_simp;try with_reducible rfl);simp only[Act.put,sB,sZ,sS])
  refine zh (rs:=[18]) (by kernel_rfl) (by simp) ?_
  refine zd.lastL rfl (fun K c=>?_)
  go_simp;refine c.out _ _ ?_;clear c K;refine zH (by kernel_rfl) ?_ _
  have HF:Hid _:=doRo (k:=k) (n:=l.ron+1) (T:=Qj l.ro l.ron (fun _=>⟨who,(m:Int),be,false⟩)) (v:=⟨leg,1,false,who,⟨pe,len,hei,cl,false,be⟩⟩) HO.out HQ.out h3.out (zj J a3.out) (zE (by rw[zcA,Qi,show zQ (fun _=>(⟨who,(m:Int),be,false⟩:ZF)) 0=[] from rfl,List.nil_append];exact i6) J.size) (by rw[d6.out];exact .addBerth m rfl rfl rfl (by rw[← g1.out,← d6.out];exact g0.out))
  go_wp2;go_ret;exact HF.out
theorem zcu (l:Option Addr)(n c:Nat)(S:Nat->zaf)(x:Int)(w:World)(hn:n<=1048576)(t:ZI w l n S) :
  Calls Tryz.prog 135 #[.slice l n c,int i64 x] w fun e w'=>SaysIf (Has (zaU S) n x) e/\Below w.heap.size w w':=by
 go_enter Tryz.func135,Tryz.ntmps135;go_wp2;go_loopw [6,9] (fun _ i u=>∃ k:Nat,k<=n/\i=int i64 k/\(∀ j,j<k->zaU S j≠x)/\Below w.heap.size w u) (fun _ i _=>n - (intOf i).toNat)
 case atStart=>exact⟨0,Nat.zero_le _,rfl,fun j s=>by omega,bZ⟩
 case round =>
  obtain⟨k,hk,rfl,d,a⟩:=hrel;have h:=hI d;clear d
  by_cases hlt2:k<n
  ·obtain⟨b,off,rfl,g,m⟩:=t k hlt2
   have o:=World.block_lt_of_cell? w _ g;have c0:=(a.cell (p:=⟨b,off+k*2,none⟩) o).trans g;have c1:=(a.cell (p:=⟨b,off+k*2+1,none⟩) o).trans m;clear g m
   by_cases he:zaU S k=x
   ·have r:((S k).who == x)=true:=by unfold zaU at he;simpa using he
    have f:Hid (Has (zaU S) n x):=⟨k,hlt2,he⟩;clear he;go_wp2;go_ret;exact⟨says_yes f.out,zr a _⟩
   ·have r:((S k).who == x)=false:=by unfold zaU at he;simpa using he
    have q:=hI he;clear he;go_wp2;go_roundw
    case rel=>exact⟨k+1,by omega,by go_num,fun j s=>by
     by_cases e:j=k
     ·subst e;exact q.out
     ·exact h.out j (by omega),zr a _⟩
    case measure=>simp[intOf];omega
  ·obtain rfl:k=n:=by omega
   have f:=hI (zgL h.out);go_wp2;go_ret;exact⟨zC f.out,a⟩
theorem zaJ (h:Option Addr)(n c:Nat)(S:Nat->zaf)(w:World)(hn:n<=60)(m:∀ j,j<n->In (S j).many 1 20)(s:ZI w h n S) :
  Calls Tryz.prog 136 #[.slice h n c] w fun e w'=>e=.returned (int i64 (zbE S n))/\Below w.heap.size w w':=by
 have g:=hI m;clear m;go_enter Tryz.func136,Tryz.ntmps136;go_wp2;go_loopw [3,5,8] (fun v _ i t=>∃ k:Nat,k<=n/\i=int i64 k/\v=int i64 (zbE S k)/\Below w.heap.size w t) (fun _ _ i _=>n - (intOf i).toNat)
 case atStart=>exact⟨0,Nat.zero_le _,rfl,rfl,bZ⟩
 case round =>
  obtain⟨k,hk,rfl,rfl,a⟩:=hrel
  by_cases hlt:k<n
  ·obtain⟨b,off,rfl,d,f⟩:=s k hlt
   have l:=World.block_lt_of_cell? w _ d;have c0:=(a.cell (p:=⟨b,off+k*2,none⟩) l).trans d;have c1:=(a.cell (p:=⟨b,off+k*2+1,none⟩) l).trans f;clear d f;have r:IntKind.i64.wrap (zbE S k+(S k).many)=zbE S (k+1):=by
    have f:=zdg S k (fun j hj=>g.out j (by omega))
    have o:=g.out k hlt;unfold In at o;have q:zbE S (k+1)=zbE S k+(S k).many:=rfl;rw[q,IntKind.wrap_i64];omega
   go_wp2;go_roundw
   case rel=>exact⟨k+1,by omega,by go_num,rfl,zr a _⟩
   case measure=>simp[intOf];omega
  ·obtain rfl:k=n:=by omega
   go_wp2;go_ret;exact⟨rfl,a⟩
theorem zfb (most:Int)(F:Option Addr)(n c:Nat)(S:Nat->zaf)(w:World)(hn:n<=2097152)(hc:n<=c)(P:ZI w F n S) :
  Calls Tryz.prog 114 #[int i64 most,.slice F n c] w fun e w'=>SaysIf (zbb most n S) e/\Below w.heap.size w w':=by
 have u:=hI P;clear P
 by_cases g0:In most 0 500
 ·have M:decide (In most 0 500)=true:=decide_eq_true g0
  have A:=hI g0;clear g0
  by_cases h60:n<=60
  ·have L:decide (60<n)=false:=by simp;omega
   go_enter Tryz.func114,Tryz.ntmps114;go_wp2_with (first|(go_at_call 19;refine sC (zx _ _ _ _) ?_))
   go_loopw [5,6,17] (fun _ _ i t=>∃ k:Nat,k<=n/\i=int i64 k/\(∀ j,j<k->In (S j).who 1 9999/\¬ Has (zaU S) j (S j).who/\In (S j).many 1 20)/\Below w.heap.size w t) (fun _ _ i _=>n - (intOf i).toNat)
   case atStart=>exact⟨0,Nat.zero_le _,rfl,fun j J=>by omega,bZ⟩
   case round =>
    obtain⟨i,s,rfl,m,a⟩:=hrel;have D:=hI m;clear m M L
    by_cases hlt:i<n
    ·obtain⟨b,off,rfl,H,N⟩:=u.out i hlt
     have O:=World.block_lt_of_cell? w _ H;have Q:=(a.cell (p:=⟨b,off+i*2,none⟩) O).trans H;have R:=(a.cell (p:=⟨b,off+i*2+1,none⟩) O).trans N;have d:=heap_alloc_new t (.cells #[int i64 (S i).who,int i64 (S i).many] 138);have f:=zr a (.cells #[int i64 (S i).who,int i64 (S i).many] 138);clear H N;go_upto_region 6 with fail;generalize hW:t.alloc (.cells #[int i64 (S i).who,int i64 (S i).many] 138)=W at d f ⊢;clear hW;have z:t.heap.size<W.heap.size:=zZ d;have z0:∀ g:qe W,g.val.cell? ⟨t.heap.size,0,none⟩=some (int i64 (S i).who):=fun g=>(g.bel.cell z).trans (za d 0 _ rfl)
     have z1:∀ g:qe W,g.val.cell? ⟨t.heap.size,1,none⟩=some (int i64 (S i).many):=fun g=>(g.bel.cell z).trans (za d 1 _ rfl)
     have i1:(0:Int)<=(i:Int):=by omega
     have i2:(i:Int)<=(c:Int):=by omega
     clear Q R d a
     by_cases g1:In (S i).who 1 9999
     ·have x:decide (In (S i).who 1 9999)=true:=decide_eq_true g1
      have B:=hI g1;clear g1
      by_cases g2:Has (zaU S) i (S i).who
      ·have r:=hI g2
       clear g2;refine zp (by kernel_rfl) (by kernel_rfl) ?_
       repeat(first|go_big_quiet_skip|(go_big_quiet_want;go_big_quiet_op;first|go_big_quiet_on|(apply Exists.intro;refine⟨fun g=>?_,?_⟩;(focus(first|(go_at_call 119;refine zi (v:=.bool true) ((ZE _ _).mono ?_);rintro e o ⟨rfl,rfl⟩;exact⟨by rw[x],bZ⟩)|(go_at_call 135;refine zi (v:=.bool true) ((zcu _ i c S (S i).who _ (by omega) ((u.out.upto (by omega)).below (zj f g.bel))).mono ?_);rintro e o ⟨⟨K,rfl,s⟩,l⟩;obtain rfl:=s.2 r.out;exact⟨rfl,l⟩)));go_big_quiet_on)))
       refine wpQuiet_nil ?_;rintro _ ⟨g,rfl⟩;go_wp2;go_ret;exact⟨zC (fun h=>(h.2.2.1 i hlt).2.1 r.out),zj f g.bel⟩
      ·have r:=hI g2
       clear g2
       by_cases g3:In (S i).many 1 20
       ·have G:decide (In (S i).many 1 20)=true:=decide_eq_true g3
        have C:=hI g3;clear g3;refine zp (by kernel_rfl) (by kernel_rfl) ?_
        repeat(first|go_big_quiet_skip|(go_big_quiet_want;go_big_quiet_op;first|go_big_quiet_on|(apply Exists.intro;refine⟨fun g=>?_,?_⟩;(focus(first|(go_at_call 119;refine zi (v:=.bool true) ((ZE _ _).mono ?_);rintro e o ⟨rfl,rfl⟩;exact⟨by rw[x],bZ⟩)|(go_at_call 135;refine zi (v:=.bool false) ((zcu _ i c S (S i).who _ (by omega) ((u.out.upto (by omega)).below (zj f g.bel))).mono ?_);rintro e o ⟨⟨K,rfl,s⟩,l⟩;obtain rfl:=Bool.eq_false_iff.2 (fun e=>r.out (s.1 e));exact⟨rfl,l⟩)|(go_at_call 19;refine zi (v:=.bool true) ((zx _ _ _ _).mono ?_);rintro e o ⟨rfl,rfl⟩;exact⟨by rw[G],bZ⟩)));go_big_quiet_on)))
        refine wpQuiet_nil ?_;rintro _ ⟨g,rfl⟩;go_wp2;have E:Hid (∀ j,j<i+1->In (S j).who 1 9999/\¬ Has (zaU S) j (S j).who/\In (S j).many 1 20):=fun j J=>by
         by_cases e:j=i
         ·subst e;exact⟨B.out,r.out,C.out⟩
         ·exact D.out j (by omega)
        go_roundw
        case rel=>exact⟨i+1,by omega,by go_num,E.out,zj f g.bel⟩
        case measure=>simp[intOf];omega
       ·have G:decide (In (S i).many 1 20)=false:=decide_eq_false g3
        have C:=hI g3;clear g3;refine zp (by kernel_rfl) (by kernel_rfl) ?_
        repeat(first|go_big_quiet_skip|(go_big_quiet_want;go_big_quiet_op;first|go_big_quiet_on|(apply Exists.intro;refine⟨fun g=>?_,?_⟩;(focus(first|(go_at_call 119;refine zi (v:=.bool true) ((ZE _ _).mono ?_);rintro e o ⟨rfl,rfl⟩;exact⟨by rw[x],bZ⟩)|(go_at_call 135;refine zi (v:=.bool false) ((zcu _ i c S (S i).who _ (by omega) ((u.out.upto (by omega)).below (zj f g.bel))).mono ?_);rintro e o ⟨⟨K,rfl,s⟩,l⟩;obtain rfl:=Bool.eq_false_iff.2 (fun e=>r.out (s.1 e));exact⟨rfl,l⟩)|(go_at_call 19;refine zi (v:=.bool false) ((zx _ _ _ _).mono ?_);rintro e o ⟨rfl,rfl⟩;exact⟨by rw[G],bZ⟩)));go_big_quiet_on)))
        refine wpQuiet_nil ?_;rintro _ ⟨g,rfl⟩;go_wp2;go_ret;exact⟨zC (fun h=>C.out (h.2.2.1 i hlt).2.2),zj f g.bel⟩
     ·have x:decide (In (S i).who 1 9999)=false:=decide_eq_false g1
      have B:=hI g1;clear g1;refine zp (by kernel_rfl) (by kernel_rfl) ?_
      repeat(first|go_big_quiet_skip|(go_big_quiet_want;go_big_quiet_op;first|go_big_quiet_on|(apply Exists.intro;refine⟨fun g=>?_,?_⟩;(focus(first|(go_at_call 119;refine zi (v:=.bool false) ((ZE _ _).mono ?_);rintro e o ⟨rfl,rfl⟩;exact⟨by rw[x],bZ⟩)));go_big_quiet_on)))
      refine wpQuiet_nil ?_;rintro _ ⟨g,rfl⟩;go_wp2;go_ret;exact⟨zC (fun h=>B.out (h.2.2.1 i hlt).1),zj f g.bel⟩
    ·obtain rfl:i=n:=by omega
     go_wp2_with fail;refine(zaJ F i c S _ h60 (fun j J=>(D.out j J).2.2) (u.out.below a)).mono ?_
     rintro e w2 ⟨rfl,I⟩;have y:=zj a I
     by_cases hle:zbE S i<=most
     ·have T:decide (zbE S i<=most)=true:=decide_eq_true hle
      have q:=hI hle;clear hle;go_wp2;go_ret;exact⟨says_yes ⟨A.out,h60,D.out,q.out⟩,y⟩
     ·have T:decide (zbE S i<=most)=false:=decide_eq_false hle
      have q:=hI hle;clear hle;go_wp2;go_ret;exact⟨zC (fun h=>by have:=q.out;have:=h.2.2.2;omega),y⟩
  ·have L:decide (60<n)=true:=by simp;omega
   go_enter Tryz.func114,Tryz.ntmps114;go_wp2_with (first|(go_at_call 19;refine sC (zx _ _ _ _) ?_))
   go_ret;exact⟨zC (fun h=>h60 h.2.1),bZ⟩
 ·have M:decide (In most 0 500)=false:=decide_eq_false g0
  have A:=hI g0;clear g0;go_enter Tryz.func114,Tryz.ntmps114;go_wp2_with (first|(go_at_call 19;refine sC (zx _ _ _ _) ?_))
  go_ret;exact⟨zC (fun h=>A.out h.1),bZ⟩
theorem l7Do_g (g base N R k a6 b7 e5:Nat)(e4 e3 e2:Option Addr)(leg who:Int)(p:Zf)(x:Off)(L C A B D E:Nat->Value)(w:World)(hq:w.heap[g]?=some (.cells #[.slice e4 N a6,.slice e3 N b7,.slice e2 R e5] 66 (0,0)))(ho:zV w base (.slice e4 N a6) (.slice e3 N b7) (.slice e2 R e5) N N R x L C A B D E)(hN:N<=1048576)(hk:qo x.sa leg N=k)(U:k<N)(g4:qJ (x.sa k) (x.ld k))(hp:In p.pe 0 20) :
  Calls Tryz.prog 122 #[.pointer (some ⟨g,0,none⟩),.agg #[int i64 leg,int i64 2,.bool false,int i64 who,int i64 p.pe,int i64 p.len,int i64 p.hei,int i64 p.cl,.bool p.all,int i64 p.be]] w fun e w'=>zcR g base N R k a6 b7 e5 e4 e3 e2 ⟨leg,2,false,who,p⟩ x L C E w e w':=by
 obtain⟨i0,ii,d0,d5,d6⟩:=info_parts Tryz.infoSeat;obtain⟨F,rfl,h5,c8⟩:=qw ho.ld.row (by omega)
 have HO:=hI ho;have HK:=hI hk;have I:=hI g4;have g8:Hid (base<=w.heap.size):=by show base<=w.heap.size;omega
 have HQ:=hI hq;have d7:=hI ho.sa.at;obtain⟨cs,g3⟩:=zT ho.ld.row F rfl;obtain⟨b6,b9,eA,m1,m2,m3⟩:=zt (ho.ld.st k U);obtain⟨b5,b8,eB,m4,m5,m6⟩:=zt (ho.ld.ro k U);obtain⟨b,d,eD,m7,m8,m9⟩:=zt (ho.ld.se k U);have h2:Hid (w.ownsRow base 186 4 (.slice b6 (x.ld k).stn b9) (x.ld k).stn (zX (x.ld k).st (x.ld k).stn)):=by show w.ownsRow _ _ _ _ _ _;rw[← eA];exact ho.ld.st k U
 have h1:Hid (w.ownsRow base 190 4 (.slice b5 (x.ld k).ron b8) (x.ld k).ron (zQ (x.ld k).ro (x.ld k).ron)):=by show w.ownsRow _ _ _ _ _ _;rw[← eB];exact ho.ld.ro k U
 have a3:Hid (w.ownsRow base 138 2 (.slice b (x.ld k).sen d) (x.ld k).sen (zW (x.ld k).se (x.ld k).sen)):=by show w.ownsRow _ _ _ _ _ _;rw[← eD];exact ho.ld.se k U
 have f8:Hid (w.cell? ⟨F,k*3,none⟩=some (.slice b6 (x.ld k).stn b9)):=by
  have h:=zK ho.ld.row (k*3+0) (by omega) rfl
  rw[zM 3 _ k 0 (by decide)] at h
  rw[← eA];exact h
 have f9:Hid (w.cell? ⟨F,k*3+1,none⟩=some (.slice b5 (x.ld k).ron b8)):=by
  have h:=zK ho.ld.row (k*3+1) (by omega) rfl
  rw[zM 3 _ k 1 (by decide)] at h
  rw[← eB];exact h
 have d9:Hid (w.cell? ⟨F,k*3+2,none⟩=some (.slice b (x.ld k).sen d)):=by
  have h:=zK ho.ld.row (k*3+2) (by omega) rfl
  rw[zM 3 _ k 2 (by decide)] at h
  rw[← eD];exact h
 have g0:Hid ((b6=none->(x.ld k).stn=0/\b9=0)/\(b5=none->(x.ld k).ron=0/\b8=0)/\(b=none->(x.ld k).sen=0/\d=0)):=⟨m3,m6,m9⟩;obtain⟨s,c9⟩:∃ s,s=x.sa k:=⟨_,rfl⟩;obtain⟨l,e8⟩:∃ l,l=x.ld k:=⟨_,rfl⟩;rw[← e8] at h2 h1 a3 f8 f9 d9 g0 I;rw[← c9] at I;have e1:=hI c9;have a2:=hI e8;have h0:=hI g3;obtain⟨a,P,la,lc,ca,cc,rfl,f0,f1,f2,f3,f4,f5,f6,f7,e7,e6,g7,g6⟩:=d7.out k U;rw[← c9] at f0 f1 f2 f3 f4 f5 f6 f7 e7 e6 g7 g6;have i6:Hid (qd w la s.la/\qd w ca s.ca):=⟨e7,e6⟩;have g9:Hid (∀ W,Below w.heap.size w W->W.cell? ⟨a,P+k*8,none⟩=some (int i64 s.id)/\W.cell? ⟨a,P+k*8+1,none⟩=some (.string s.fr)/\W.cell? ⟨a,P+k*8+2,none⟩=some (.string s.dst)/\W.cell? ⟨a,P+k*8+3,none⟩=some (int i64 s.dep)/\W.cell? ⟨a,P+k*8+4,none⟩=some (int i64 s.arr)/\W.cell? ⟨a,P+k*8+5,none⟩=some (.slice la s.la.n lc)/\W.cell? ⟨a,P+k*8+6,none⟩=some (.slice ca s.ca.n cc)/\W.cell? ⟨a,P+k*8+7,none⟩=some (int i64 s.most)):=fun W hb=>by
  have O:=World.block_lt_of_cell? w _ f0;exact⟨(hb.cell (p:=⟨a,P+k*8,none⟩) O).trans f0,(hb.cell (p:=⟨a,P+k*8+1,none⟩) O).trans f1,(hb.cell (p:=⟨a,P+k*8+2,none⟩) O).trans f2,(hb.cell (p:=⟨a,P+k*8+3,none⟩) O).trans f3,(hb.cell (p:=⟨a,P+k*8+4,none⟩) O).trans f4,(hb.cell (p:=⟨a,P+k*8+5,none⟩) O).trans f5,(hb.cell (p:=⟨a,P+k*8+6,none⟩) O).trans f6,(hb.cell (p:=⟨a,P+k*8+7,none⟩) O).trans f7⟩
 clear f0 f1 f2 f3 f4 f5 f6 f7 e7 e6 g7 g6 c9 e8 g3 eA eB eD m1 m2 m3 m4 m5 m6 m7 m8 m9 g4 hk h5;have i1:(0:Int)<=(k:Int):=by omega
 have i2:(k:Int)<(N:Int):=by omega
 have a7:Below w.heap.size w (w.alloc (.cells #[int i64 leg,int i64 2,.bool false,int i64 who,int i64 p.pe,int i64 p.len,int i64 p.hei,int i64 p.cl,.bool p.all,int i64 p.be] 175)):=zr bZ _;have b0:=heap_alloc_new w (.cells #[int i64 leg,int i64 2,.bool false,int i64 who,int i64 p.pe,int i64 p.len,int i64 p.hei,int i64 p.cl,.bool p.all,int i64 p.be] 175);go_enter Tryz.func122,Tryz.ntmps122;go_upto_region 1 with fail;generalize (w.alloc (.cells #[int i64 leg,int i64 2,.bool false,int i64 who,int i64 p.pe,int i64 p.len,int i64 p.hei,int i64 p.cl,.bool p.all,int i64 p.be] 175))=W at a7 b0 ⊢;have z0:∀ G:qe W,G.val.cell? ⟨g,0,none⟩=some (.slice (some ⟨a,P,none⟩) N a6):=fun G=>za (zc HQ.out (zj a7 G.bel)) 0 _ rfl
 have z1:∀ G:qe W,G.val.cell? ⟨w.heap.size,0,none⟩=some (int i64 leg):=fun G=>za (zc b0 G.bel) 0 _ rfl
 refine zp (by kernel_rfl) (by kernel_rfl) ?_
 repeat(first|go_big_quiet_skip|(go_big_quiet_want;go_big_quiet_op;first|go_big_quiet_on|(apply Exists.intro;refine⟨fun G=>?_,?_⟩;(focus(first|(go_at_call 110;refine zi (v:=int i64 (k:Int)) ((ZP _ N a6 x.sa leg _ hN (d7.out.below (zj a7 G.bel))).mono ?_);rintro e w2 ⟨he,Q⟩;refine⟨?_,Q⟩;rw[HK.out] at he;rcases he with⟨_,rfl⟩|⟨h,_⟩;rfl;omega)));go_big_quiet_on)))
 refine wpQuiet_nil ?_;rintro _ ⟨G,rfl⟩;clear z0 z1;have a8:=zj a7 G.bel;have bW:=zc b0 G.bel;obtain⟨c0,c1,c2,c3,c4,c5,c6,c7⟩:=g9.out G.val a8;have y0:=za (zc HQ.out a8) 0 _ rfl;have y1:∀ o,(G.val.alloc o).cell? ⟨g,1,none⟩=some (.slice (some ⟨F,0,none⟩) N b7):=fun o=>za (zc HQ.out (zr a8 o)) 1 _ rfl
 have y4:∀ o,(G.val.alloc o).cell? ⟨w.heap.size,4,none⟩=some (int i64 p.pe):=fun o=>za (ze bW o) 4 _ rfl
 have y5:∀ o,(G.val.alloc o).cell? ⟨w.heap.size,5,none⟩=some (int i64 p.len):=fun o=>za (ze bW o) 5 _ rfl
 have y6:∀ o,(G.val.alloc o).cell? ⟨w.heap.size,6,none⟩=some (int i64 p.hei):=fun o=>za (ze bW o) 6 _ rfl
 have y7:∀ o,(G.val.alloc o).cell? ⟨w.heap.size,7,none⟩=some (int i64 p.cl):=fun o=>za (ze bW o) 7 _ rfl
 have y8:∀ o,(G.val.alloc o).cell? ⟨w.heap.size,8,none⟩=some (.bool p.all):=fun o=>za (ze bW o) 8 _ rfl
 have y9:∀ o,(G.val.alloc o).cell? ⟨w.heap.size,9,none⟩=some (int i64 p.be):=fun o=>za (ze bW o) 9 _ rfl
 go_upto_region 8 with fail;have i:Below w.heap.size w ((G.val.alloc (.cells #[int i64 s.id,.string s.fr,.string s.dst,int i64 s.dep,int i64 s.arr,.slice la s.la.n lc,.slice ca s.ca.n cc,int i64 s.most] 37)).alloc (.cells #[int i64 p.pe,int i64 p.len,int i64 p.hei,int i64 p.cl,.bool p.all,int i64 p.be] 25)):=zr (zr a8 _) _;have r:=ze (ze bW (.cells #[int i64 s.id,.string s.fr,.string s.dst,int i64 s.dep,int i64 s.arr,.slice la s.la.n lc,.slice ca s.ca.n cc,int i64 s.most] 37)) (.cells #[int i64 p.pe,int i64 p.len,int i64 p.hei,int i64 p.cl,.bool p.all,int i64 p.be] 25);have Z:=ze (heap_alloc_new G.val (.cells #[int i64 s.id,.string s.fr,.string s.dst,int i64 s.dep,int i64 s.arr,.slice la s.la.n lc,.slice ca s.ca.n cc,int i64 s.most] 37)) (.cells #[int i64 p.pe,int i64 p.len,int i64 p.hei,int i64 p.cl,.bool p.all,int i64 p.be] 25);have y:=zcC G.val (.cells #[int i64 s.id,.string s.fr,.string s.dst,int i64 s.dep,int i64 s.arr,.slice la s.la.n lc,.slice ca s.ca.n cc,int i64 s.most] 37) (.cells #[int i64 p.pe,int i64 p.len,int i64 p.hei,int i64 p.cl,.bool p.all,int i64 p.be] 25);generalize hx0:(G.val.alloc (.cells #[int i64 s.id,.string s.fr,.string s.dst,int i64 s.dep,int i64 s.arr,.slice la s.la.n lc,.slice ca s.ca.n cc,int i64 s.most] 37)).alloc (.cells #[int i64 p.pe,int i64 p.len,int i64 p.hei,int i64 p.cl,.bool p.all,int i64 p.be] 25)=X at i r Z y ⊢;generalize hsb:G.val.heap.size=sb at Z y ⊢;clear c0 c1 c2 c3 c4 c5 c6 c7 y0 y1 y4 y5 y6 y7 y8 y9 bW a8 a7 b0 hx0 hsb G W;have w1:=za r 1 _ rfl;have w2:=za r 2 _ rfl;have w3:=za r 3 _ rfl;have L0:X.cell? ⟨F,k*3,none⟩=some (.slice b6 l.stn b9):=(i.cell (p:=⟨F,k*3,none⟩) c8).trans f8.out;have L1:X.cell? ⟨F,k*3+1,none⟩=some (.slice b5 l.ron b8):=(i.cell (p:=⟨F,k*3+1,none⟩) c8).trans f9.out;have L2:X.cell? ⟨F,k*3+2,none⟩=some (.slice b l.sen d):=(i.cell (p:=⟨F,k*3+2,none⟩) c8).trans d9.out;have bG:=zc h0.out i;unfold In at hp;have V:l.sen<=60:=I.out.2.2.2.1;have g5:=zdg l.se l.sen (fun j hj=>(I.out.2.2.2.2.1 j hj).2.2)
 obtain⟨q,e9⟩:∃ q,q=zbE l.se l.sen:=⟨_,rfl⟩;rw[← e9] at g5;have a5:=hI e9;clear e9;have i7:IntKind.i64.wrap (q+p.pe)=q+p.pe:=by rw[IntKind.wrap_i64];omega
 have s6:∀ G:qe X,G.val.cell? ⟨F,k*3+2,none⟩=some (.slice b l.sen d):=fun G=>(G.bel.cell (p:=⟨F,k*3+2,none⟩) (zZ bG)).trans L2
 have s7:∀ G:qe X,G.val.cell? ⟨sb,7,none⟩=some (int i64 s.most):=fun G=>za (zc Z G.bel) 7 _ rfl
 have p0:∀ G:qe X,G.val.cell? ⟨sb+1,0,none⟩=some (int i64 p.pe):=fun G=>za (zc y G.bel) 0 _ rfl
 go_upto_region 5 with fail
 by_cases h60:l.sen=60
 ·have h3:(l.sen == 60)=true:=by simpa using h60
  have h4:((l.sen:Int) == 60)=true:=by simp;omega
  have d8:=hI h60;clear h60;refine zp (by kernel_rfl) (by kernel_rfl) ?_
  repeat(first|go_big_quiet_skip|(go_big_quiet_want;go_big_quiet_op;first|go_big_quiet_on|(apply Exists.intro;refine⟨fun G=>?_,?_⟩;(focus(first|(go_at_call 136;refine zi (v:=int i64 q) ((zaJ b l.sen d l.se _ V (fun j hj=>(I.out.2.2.2.2.1 j hj).2.2) ((Qd a3.out).below (zj i G.bel))).mono ?_);rintro e w2 ⟨rfl,Q⟩;exact⟨by rw[a5.out],Q⟩)));go_big_quiet_on)))
  refine wpQuiet_nil ?_;rintro _ ⟨G,rfl⟩;have m:=zj i G.bel;have a0:=zc r G.bel;have Y:=zc y G.bel;have J:=zc bG G.bel;clear w1 w2 w3 L0 L1 L2 s6 s7 p0;generalize G.val=H at m a0 Y J ⊢;clear i r Z y bG G X;have HF:Hid _:=doNo (k:=k) (code:=7) (v:=⟨leg,2,false,who,p⟩) HO.out HQ.out m (by
   refine .seats rfl rfl ?_;rw[← e1.out,← a2.out];exact .inl d8.out)
  go_wp2;go_ret;exact HF.out
 have h3:(l.sen == 60)=false:=by simpa using h60
 have h4:((l.sen:Int) == 60)=false:=by simp;omega
 have d8:=hI h60;clear h60
 by_cases hm:s.most<q+p.pe
 ·have d1:decide (s.most<q+p.pe)=true:=decide_eq_true hm
  have HM:=hI hm;clear hm;refine zp (by kernel_rfl) (by kernel_rfl) ?_
  repeat(first|go_big_quiet_skip|(go_big_quiet_want;go_big_quiet_op;first|go_big_quiet_on|(apply Exists.intro;refine⟨fun G=>?_,?_⟩;(focus(first|(go_at_call 136;refine zi (v:=int i64 q) ((zaJ b l.sen d l.se _ V (fun j hj=>(I.out.2.2.2.2.1 j hj).2.2) ((Qd a3.out).below (zj i G.bel))).mono ?_);rintro e w2 ⟨rfl,Q⟩;exact⟨by rw[a5.out],Q⟩)));go_big_quiet_on)))
  refine wpQuiet_nil ?_;rintro _ ⟨G,rfl⟩;have m:=zj i G.bel;have a0:=zc r G.bel;have Y:=zc y G.bel;have J:=zc bG G.bel;clear w1 w2 w3 L0 L1 L2 s6 s7 p0;generalize G.val=H at m a0 Y J ⊢;clear i r Z y bG G X;have HF:Hid _:=doNo (k:=k) (code:=7) (v:=⟨leg,2,false,who,p⟩) HO.out HQ.out m (by
   refine .seats rfl rfl ?_;rw[← e1.out,← a2.out];exact .inr (by rw[← a5.out];exact HM.out))
  go_wp2;go_ret;exact HF.out
 have d1:decide (s.most<q+p.pe)=false:=decide_eq_false hm;have HM:=hI hm;clear hm;refine zp (by kernel_rfl) (by kernel_rfl) ?_
 repeat(first|go_big_quiet_skip|(go_big_quiet_want;go_big_quiet_op;first|go_big_quiet_on|(apply Exists.intro;refine⟨fun G=>?_,?_⟩;(focus(first|(go_at_call 136;refine zi (v:=int i64 q) ((zaJ b l.sen d l.se _ V (fun j hj=>(I.out.2.2.2.2.1 j hj).2.2) ((Qd a3.out).below (zj i G.bel))).mono ?_);rintro e w2 ⟨rfl,Q⟩;exact⟨by rw[a5.out],Q⟩)));go_big_quiet_on)))
 refine wpQuiet_nil ?_;rintro _ ⟨G,rfl⟩;have m:=zj i G.bel;have a0:=zc r G.bel;have Y:=zc y G.bel;have J:=zc bG G.bel;clear w1 w2 w3 L0 L1 L2 s6 s7 p0;generalize G.val=H at m a0 Y J ⊢;clear i r Z y bG G X;go_upto_region 7 with fail;have HN:=hI g0.out.2.2;have e0:Hid (∀ z,Below H.heap.size H z->ZI z b l.sen l.se):=fun z h=>(Qd a3.out).below (zj m h)
 have V:l.sen<=60:=I.out.2.2.2.1;have g1:H.cell? ⟨F,k*3+2,none⟩=some (.slice b l.sen d):=(m.cell (p:=⟨F,k*3+2,none⟩) c8).trans d9.out;have KS:Hid (∀ z,Below H.heap.size H z->(z.cell? ⟨w.heap.size,3,none⟩=some (int i64 who)/\z.cell? ⟨sb+1,0,none⟩=some (int i64 p.pe))/\z.cell? ⟨F,k*3+2,none⟩=some (.slice b l.sen d)):=fun z h=>⟨⟨za (zc a0 h) 3 _ rfl,za (zc Y h) 0 _ rfl⟩,(h.cell (p:=⟨F,k*3+2,none⟩) (zZ J)).trans g1⟩
 refine qy 16 17 (fun w'=>(w'.cell? ⟨w.heap.size,3,none⟩=some (int i64 who)/\w'.cell? ⟨sb+1,0,none⟩=some (int i64 p.pe))/\w'.cell? ⟨F,k*3+2,none⟩=some (.slice b l.sen d)) rfl (by kernel_rfl) (KS.out _ (Below.drew bZ)) (fun hS=>?_)
 simp only[List.replicate_succ,List.replicate_zero]
 (refine tkL 0 (v:=?_) rfl (by kernel_rfl) (fun _ _ _ h=>h) rfl (by assumption) ?_ ?_;rotate_left;focus(intro w' h;(try dsimp only at h);go_simp;try with_reducible rfl);simp only[Act.put,sB,sZ,sS])
 (refine tkL 2 (v:=?_) rfl (by kernel_rfl) (fun _ _ _ h=>h) rfl (by assumption) ?_ ?_;rotate_left;focus(intro w' h;(try dsimp only at h);go_simp;try with_reducible rfl);simp only[Act.put,sB,sZ,sS])
 (refine tkL 3 (v:=?_) rfl (by kernel_rfl) (fun _ _ _ h=>h) rfl (by assumption) ?_ ?_;rotate_left;focus(intro w' h;(try dsimp only at h);go_simp;try with_reducible rfl);simp only[Act.put,sB,sZ,sS])
 (refine tkL 4 (v:=?_) rfl (by kernel_rfl) (fun _ _ _ h=>h) rfl (by assumption) ?_ ?_;rotate_left;focus(intro w' h;(try dsimp only at h);go_simp;try with_reducible rfl);simp only[Act.put,sB,sZ,sS])
 (refine tkL 5 (v:=?_) rfl (by kernel_rfl) (fun _ _ _ h=>h) rfl (by assumption) ?_ ?_;rotate_left;focus(intro w' h;(try dsimp only at h);go_simp;try with_reducible rfl);simp only[Act.put,sB,sZ,sS])
 (refine tkL 7 (v:=?_) rfl (by kernel_rfl) (fun _ _ _ h=>h) rfl (by assumption) ?_ ?_;rotate_left;focus(intro w' h;(try dsimp only at h);go_simp;try with_reducible rfl);simp only[Act.put,sB,sZ,sS])
 (refine tkL 8 (v:=?_) rfl (by kernel_rfl) (fun _ _ _ h=>h) rfl (by assumption) ?_ ?_;rotate_left;focus(intro w' h;(try dsimp only at h);go_simp;try with_reducible rfl);simp only[Act.put,sB,sZ,sS])
 (refine tkL 9 (v:=?_) rfl (by kernel_rfl) (fun _ _ _ h=>h) rfl (by assumption) ?_ ?_;rotate_left;focus(intro w' h;(try dsimp only at h);go_simp;try with_reducible rfl);simp only[Act.put,sB,sZ,sS])
 (refine tkL 10 (v:=?_) rfl (by kernel_rfl) (fun _ _ _ h=>h) rfl (by assumption) ?_ ?_;rotate_left;focus(intro w' h;(try dsimp only at h);go_simp;try with_reducible rfl);simp only[Act.put,sB,sZ,sS])
 (refine tkL 11 (v:=?_) rfl (by kernel_rfl) (fun _ _ _ h=>h) rfl (by assumption) ?_ ?_;rotate_left;focus(intro w' h;(try dsimp only at h);go_simp;try with_reducible rfl);simp only[Act.put,sB,sZ,sS])
 refine zh (rs:=[1,12]) (by kernel_rfl) (by simp) ?_
 refine zd.consL rfl (fun K f=>?_) (zd.consL rfl (fun K f=>?_) zd.nil)
 focus
  go_simp;refine f.out _ _ (KS.out _ (by repeat(first|exact c.out|exact bZ|refine Below.drew ?_|refine zr ?_ _))) (fun hS=>?_)
  clear f K;simp only[sZ,sS];refine zh (rs:=[6,12]) (by kernel_rfl) (by simp) ?_
  refine zd.consL rfl (fun K f=>?_) (zd.consL rfl (fun K f=>?_) zd.nil)
  focus
   refine zN (by rfl) (.tmp 60) (.tmp 64) 132 (by rfl) 138 i0 (.agg #[int i64 0,int i64 0]) 2 16 Tryz.underlying132 ii d0 d5 d6 rfl (by decide) H.heap.size _ (by rfl) (by first|exact Nat.le_refl _|omega|(simp;done)|(simp;omega)) (by repeat(first|((with_reducible refine qY _ _ _ ?_);(first|rfl|(simp;done)))|with_reducible refine zF ?_|with_reducible refine ze ?_ _)) b l.sen d (zW l.se l.sen) (by rfl) HN.out (Qk _ _) (zaB (e0.out _ (by repeat(first|exact bZ|refine Below.drew ?_|refine zr ?_ _)))) (Q7 _ _) (by unfold maxLen;omega) (by omega) ?_;intro p1 q1 u1 S a1 M;clear M;have c:Hid (Below H.heap.size H u1):=(by show Below _ _ _;refine zj ?_ (zl S);exact(by repeat(first|exact bZ|refine Below.drew ?_|refine zr ?_ _)));refine f.out _ _ (KS.out _ c.out) (fun hS=>?_)
   clear f K;simp only[Act.put,sB,sZ,sS];refine zh (rs:=[12]) (by kernel_rfl) (by simp) ?_
   refine zd.consL rfl (fun K f=>?_) zd.nil
   focus
    go_simp;refine f.out _ _ (KS.out _ (by repeat(first|exact c.out|exact bZ|refine Below.drew ?_|refine zr ?_ _))) (fun hS=>?_)
    clear f K;simp only[sZ,sS]
  rotate_left 1
  focus
   go_simp;refine f.out _ _ (KS.out _ (by repeat(first|exact c.out|exact bZ|refine Below.drew ?_|refine zr ?_ _))) (fun hS=>?_)
   clear f K;simp only[sZ,sS];refine zh (rs:=[6]) (by kernel_rfl) (by simp) ?_
   refine zd.consL rfl (fun K f=>?_) zd.nil
   focus
    refine zN (by rfl) (.tmp 60) (.tmp 64) 132 (by rfl) 138 i0 (.agg #[int i64 0,int i64 0]) 2 16 Tryz.underlying132 ii d0 d5 d6 rfl (by decide) H.heap.size _ (by rfl) (by first|exact Nat.le_refl _|omega|(simp;done)|(simp;omega)) (by repeat(first|((with_reducible refine qY _ _ _ ?_);(first|rfl|(simp;done)))|with_reducible refine zF ?_|with_reducible refine ze ?_ _)) b l.sen d (zW l.se l.sen) (by rfl) HN.out (Qk _ _) (zaB (e0.out _ (by repeat(first|exact bZ|refine Below.drew ?_|refine zr ?_ _)))) (Q7 _ _) (by unfold maxLen;omega) (by omega) ?_;intro p1 q1 u1 S a1 M;clear M;have c:Hid (Below H.heap.size H u1):=(by show Below _ _ _;refine zj ?_ (zl S);exact(by repeat(first|exact bZ|refine Below.drew ?_|refine zr ?_ _)));refine f.out _ _ (KS.out _ c.out) (fun hS=>?_)
    clear f K;simp only[Act.put,sB,sZ,sS]
 rotate_left 2
 focus
  go_simp;refine f.out _ _ (KS.out _ (by repeat(first|exact c.out|exact bZ|refine Below.drew ?_|refine zr ?_ _))) (fun hS=>?_)
  clear f K;simp only[sZ,sS];refine zh (rs:=[1]) (by kernel_rfl) (by simp) ?_
  refine zd.consL rfl (fun K f=>?_) zd.nil
  focus
   go_simp;refine f.out _ _ (KS.out _ (by repeat(first|exact c.out|exact bZ|refine Below.drew ?_|refine zr ?_ _))) (fun hS=>?_)
   clear f K;simp only[sZ,sS];refine zh (rs:=[6]) (by kernel_rfl) (by simp) ?_
   refine zd.consL rfl (fun K f=>?_) zd.nil
   focus
    refine zN (by rfl) (.tmp 60) (.tmp 64) 132 (by rfl) 138 i0 (.agg #[int i64 0,int i64 0]) 2 16 Tryz.underlying132 ii d0 d5 d6 rfl (by decide) H.heap.size _ (by rfl) (by first|exact Nat.le_refl _|omega|(simp;done)|(simp;omega)) (by repeat(first|((with_reducible refine qY _ _ _ ?_);(first|rfl|(simp;done)))|with_reducible refine zF ?_|with_reducible refine ze ?_ _)) b l.sen d (zW l.se l.sen) (by rfl) HN.out (Qk _ _) (zaB (e0.out _ (by repeat(first|exact bZ|refine Below.drew ?_|refine zr ?_ _)))) (Q7 _ _) (by unfold maxLen;omega) (by omega) ?_;intro p1 q1 u1 S a1 M;clear M;have c:Hid (Below H.heap.size H u1):=(by show Below _ _ _;refine zj ?_ (zl S);exact(by repeat(first|exact bZ|refine Below.drew ?_|refine zr ?_ _)));refine f.out _ _ (KS.out _ c.out) (fun hS=>?_)
    clear f K;simp only[Act.put,sB,sZ,sS]
 all_goals
  refine zh (rs:=[13]) (by kernel_rfl) (by simp) ?_
  refine zd.consL rfl (fun K f=>?_) zd.nil
  refine step_append_lies _ (by rfl) (.tmp 65) (.tmp 71) 132 (by rfl) H.heap.size 138 i0 (.agg #[int i64 0,int i64 0]) 2 16 Tryz.underlying132 ii d0 d5 d6 rfl (by decide) _ l.sen (zW l.se l.sen) (by rfl) (by first|exact a1|exact a1.alloc _|exact zm (zr bZ _) a1) _ 1 1 [int i64 who,int i64 p.pe] (by rfl) (by rfl) (by refine World.news_of_block (cs:=#[int i64 who,int i64 p.pe]) (t:=138) (fr:=(0,0)) ?_;exact(by repeat(first|((with_reducible refine qY _ _ _ ?_);(first|rfl|(simp;done)))|with_reducible refine zF ?_|with_reducible refine ze ?_ _|with_reducible refine zc ?_ (zl S)))) (by intro u hu;simp at hu;rcases hu with rfl|rfl <;> rfl) (by decide) (by unfold maxLen;omega) (by omega) (by first|exact c.out.size|(have:=c.out.size;simp;omega)) _ rfl ?_;intro g2 i3 u2 h9 h6 i4 i5;refine(fun (a9:Hid (Below H.heap.size H u2))=>?_) (Below.grown ?_ h6 ?_ (fun j hj=>(a1.lt j hj).1));rotate_left;(focus(repeat(first|exact bZ|refine Below.drew ?_|refine zr ?_ _|refine zj ?_ (zl S))));(focus(first|exact c.out.size|(have:=c.out.size;simp;omega)));have q0:=(a9.out.cell (p:=⟨F,k*3+2,none⟩) (zZ J)).trans g1;have q1:=zg (zc J a9.out) (k*3+2);refine f.out _ _ (KS.out _ a9.out) (fun hS=>?_)
  clear f K;simp only[Act.put,sB,sZ,sS]
  (refine tkL 14 (v:=?_) rfl (by kernel_rfl) (fun _ _ _ h=>h) rfl (by assumption) ?_ ?_;rotate_left;focus(intro w' h;(try dsimp only at h);go_simp;try with_reducible rfl);simp only[Act.put,sB,sZ,sS])
  (refine tkL 15 (v:=?_) rfl (by kernel_rfl) (fun _ _ _ h=>h) rfl (by assumption) ?_ ?_;rotate_left;focus(intro w' h;(try dsimp only at h);go_simp;try with_reducible rfl);simp only[Act.put,sB,sZ,sS])
  refine zh (rs:=[16]) (by kernel_rfl) (by simp) ?_
  refine zd.lastL rfl (fun K f=>?_)
  go_simp;refine f.out _ _ ?_;clear f K;refine zH (by kernel_rfl) ?_ _
  have HF:Hid _:=doSe (k:=k) (n:=l.sen+1) (T:=QW l.se l.sen (fun _=>⟨who,p.pe⟩)) (v:=⟨leg,2,false,who,p⟩) HO.out HQ.out g8.out (zj m a9.out) (zE (by rw[zfI,QN,show zW (fun _=>(⟨who,p.pe⟩:zaf)) 0=[] from rfl,List.nil_append];exact h9) m.size) (by rw[a2.out];refine .addSeat rfl rfl (by rw[← a2.out];exact d8.out) ?_;rw[← e1.out,← a2.out,← a5.out];have:=HM.out;show q+p.pe<=s.most;omega)
  go_wp2;go_ret;exact HF.out
end Go.Proofs.YtfallpinmhbemaaGreatDoor
