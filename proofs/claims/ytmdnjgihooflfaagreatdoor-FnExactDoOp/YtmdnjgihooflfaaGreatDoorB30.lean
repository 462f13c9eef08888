/-
  OWN TEXT: SpecDd, SpecDe, SpecDf, SpecSe, SpecDg, SpecDo, KitOq.
-/
import Derived.Deep.DeepCutAuto
import Derived.Deep.RegionLawGrows
import Derived.Deep.AppendLies
import Derived.Deep.LoopGhost
import Derived.Test.YtmdnjgihooflfaaGreatDoorB29
namespace Go.Proofs.YtmdnjgihooflfaaGreatDoor
open Go.RowKit
open Go.Value (int)
open Go.IntKind (i64)
set_option maxHeartbeats 64000000
set_option maxRecDepth 100000
theorem l7Do_d (g base N R k V a6 d4:Nat)(d2 d1 d0:Option Addr)(leg who:Int)(p:Qh)(x:Off)(L C A B D E:Nat->Value)(w:World)(hq:w.heap[g]?=some (.cells #[.slice d2 N V,.slice d1 N a6,.slice d0 R d4] 38 (0,0)))(S:zF w base (.slice d2 N V) (.slice d1 N a6) (.slice d0 R d4) N N R x L C A B D E)(hN:N<=1048576)(hk:zW x.sa leg N=k)(M:k<N)(e7:qm (x.sa k) (x.ld k)) :
  Calls Tryz.prog 92 #[.pointer (some ⟨g,0,none⟩),.agg #[int i64 leg,int i64 0,.bool false,int i64 who,int i64 p.pe,int i64 p.len,int i64 p.hei,int i64 p.cl,.bool p.all,int i64 p.be]] w fun e w'=>zfW g base N R k V a6 d4 d2 d1 d0 ⟨leg,0,false,who,p⟩ x L C E w e w':=by
 obtain⟨i0,ii,b2,b3,b4⟩:=info_parts Tryz.infoStay;obtain⟨i,rfl,g6,a9⟩:=qh S.ld.row (by omega)
 have HO:=hI S;have HK:=hI hk;have a1:=hI e7;have f9:Hid (base<=w.heap.size):=by show base<=w.heap.size;omega
 have HQ:=hI hq;have b5:=hI S.sa.at;obtain⟨cs,e6⟩:=zA S.ld.row i rfl;obtain⟨d,f,eA,m1,m2,m3⟩:=zp (S.ld.st k M);obtain⟨a2,a7,eB,m4,m5,m6⟩:=zp (S.ld.ro k M);obtain⟨a3,a8,eD,m7,m8,m9⟩:=zp (S.ld.se k M);have c9:Hid (w.ownsRow base 220 4 (.slice d (x.ld k).stn f) (x.ld k).stn (zy (x.ld k).st (x.ld k).stn)):=by show w.ownsRow _ _ _ _ _ _;rw[← eA];exact S.ld.st k M
 have g4:Hid (w.ownsRow base 228 4 (.slice a2 (x.ld k).ron a7) (x.ld k).ron (zw (x.ld k).ro (x.ld k).ron)):=by show w.ownsRow _ _ _ _ _ _;rw[← eB];exact S.ld.ro k M
 have g5:Hid (w.ownsRow base 234 2 (.slice a3 (x.ld k).sen a8) (x.ld k).sen (zB (x.ld k).se (x.ld k).sen)):=by show w.ownsRow _ _ _ _ _ _;rw[← eD];exact S.ld.se k M
 have b6:Hid (w.cell? ⟨i,k*3,none⟩=some (.slice d (x.ld k).stn f)):=by
  have h:=zs S.ld.row (k*3+0) (by omega) rfl
  rw[zC 3 _ k 0 (by decide)] at h
  rw[← eA];exact h
 have d9:Hid (w.cell? ⟨i,k*3+1,none⟩=some (.slice a2 (x.ld k).ron a7)):=by
  have h:=zs S.ld.row (k*3+1) (by omega) rfl
  rw[zC 3 _ k 1 (by decide)] at h
  rw[← eB];exact h
 have e0:Hid (w.cell? ⟨i,k*3+2,none⟩=some (.slice a3 (x.ld k).sen a8)):=by
  have h:=zs S.ld.row (k*3+2) (by omega) rfl
  rw[zC 3 _ k 2 (by decide)] at h
  rw[← eD];exact h
 have e2:Hid ((d=none->(x.ld k).stn=0/\f=0)/\(a2=none->(x.ld k).ron=0/\a7=0)/\(a3=none->(x.ld k).sen=0/\a8=0)):=⟨m3,m6,m9⟩;obtain⟨s,b1⟩:∃ s,s=x.sa k:=⟨_,rfl⟩;obtain⟨l,d8⟩:∃ l,l=x.ld k:=⟨_,rfl⟩;rw[← d8] at c9 g4 g5 b6 d9 e0 e2 a1;rw[← b1] at a1;have e3:=hI b1;have b7:=hI d8;have g1:=hI e6;obtain⟨a,H,la,lc,ca,cc,rfl,f0,f1,f2,f3,f4,f5,f6,f7,d7,d6,f8,e9⟩:=b5.out k M;rw[← b1] at f0 f1 f2 f3 f4 f5 f6 f7 d7 d6 f8 e9;have g3:Hid (zG w la s.la/\zG w ca s.ca):=⟨d7,d6⟩;have g0:Hid (∀ W,Below w.heap.size w W->W.cell? ⟨a,H+k*8,none⟩=some (int i64 s.id)/\W.cell? ⟨a,H+k*8+1,none⟩=some (.string s.fr)/\W.cell? ⟨a,H+k*8+2,none⟩=some (.string s.dst)/\W.cell? ⟨a,H+k*8+3,none⟩=some (int i64 s.dep)/\W.cell? ⟨a,H+k*8+4,none⟩=some (int i64 s.arr)/\W.cell? ⟨a,H+k*8+5,none⟩=some (.slice la s.la.n lc)/\W.cell? ⟨a,H+k*8+6,none⟩=some (.slice ca s.ca.n cc)/\W.cell? ⟨a,H+k*8+7,none⟩=some (int i64 s.most)):=fun W hb=>by
  have F:=World.block_lt_of_cell? w _ f0;exact⟨(hb.cell (p:=⟨a,H+k*8,none⟩) F).trans f0,(hb.cell (p:=⟨a,H+k*8+1,none⟩) F).trans f1,(hb.cell (p:=⟨a,H+k*8+2,none⟩) F).trans f2,(hb.cell (p:=⟨a,H+k*8+3,none⟩) F).trans f3,(hb.cell (p:=⟨a,H+k*8+4,none⟩) F).trans f4,(hb.cell (p:=⟨a,H+k*8+5,none⟩) F).trans f5,(hb.cell (p:=⟨a,H+k*8+6,none⟩) F).trans f6,(hb.cell (p:=⟨a,H+k*8+7,none⟩) F).trans f7⟩
 clear f0 f1 f2 f3 f4 f5 f6 f7 d7 d6 f8 e9 b1 d8 e6 eA eB eD m1 m2 m3 m4 m5 m6 m7 m8 m9 e7 hk g6;have i1:(0:Int)<=(k:Int):=by omega
 have i2:(k:Int)<(N:Int):=by omega
 have Y:Below w.heap.size w (w.alloc (.cells #[int i64 leg,int i64 0,.bool false,int i64 who,int i64 p.pe,int i64 p.len,int i64 p.hei,int i64 p.cl,.bool p.all,int i64 p.be] 159)):=zk bZ _;have b0:=heap_alloc_new w (.cells #[int i64 leg,int i64 0,.bool false,int i64 who,int i64 p.pe,int i64 p.len,int i64 p.hei,int i64 p.cl,.bool p.all,int i64 p.be] 159);go_enter Tryz.func92,Tryz.ntmps92;go_upto_region 1 with fail;generalize (w.alloc (.cells #[int i64 leg,int i64 0,.bool false,int i64 who,int i64 p.pe,int i64 p.len,int i64 p.hei,int i64 p.cl,.bool p.all,int i64 p.be] 159))=W at Y b0 ⊢;have z0:∀ G:zn W,G.val.cell? ⟨g,0,none⟩=some (.slice (some ⟨a,H,none⟩) N V):=fun G=>za (zb HQ.out (ze Y G.bel)) 0 _ rfl
 have z1:∀ G:zn W,G.val.cell? ⟨w.heap.size,0,none⟩=some (int i64 leg):=fun G=>za (zb b0 G.bel) 0 _ rfl
 refine zh (by kernel_rfl) (by kernel_rfl) ?_
 repeat(first|go_big_quiet_skip|(go_big_quiet_want;go_big_quiet_op;first|go_big_quiet_on|(apply Exists.intro;refine⟨fun G=>?_,?_⟩;(focus(first|(go_at_call 161;refine zf (v:=int i64 (k:Int)) ((Q9 _ N V x.sa leg _ hN (b5.out.below (ze Y G.bel))).mono ?_);rintro e w2 ⟨he,d5⟩;refine⟨?_,d5⟩;rw[HK.out] at he;rcases he with⟨_,rfl⟩|⟨h,_⟩;rfl;omega)));go_big_quiet_on)))
 refine wpQuiet_nil ?_;rintro _ ⟨G,rfl⟩;clear z0 z1;have Z:=ze Y G.bel;have bW:=zb b0 G.bel;obtain⟨c0,c1,c2,c3,c4,c5,c6,c7⟩:=g0.out G.val Z;have y0:=za (zb HQ.out Z) 0 _ rfl;have y1:∀ o,(G.val.alloc o).cell? ⟨g,1,none⟩=some (.slice (some ⟨i,0,none⟩) N a6):=fun o=>za (zb HQ.out (zk Z o)) 1 _ rfl
 have y4:∀ o,(G.val.alloc o).cell? ⟨w.heap.size,4,none⟩=some (int i64 p.pe):=fun o=>za (zd bW o) 4 _ rfl
 have y5:∀ o,(G.val.alloc o).cell? ⟨w.heap.size,5,none⟩=some (int i64 p.len):=fun o=>za (zd bW o) 5 _ rfl
 have y6:∀ o,(G.val.alloc o).cell? ⟨w.heap.size,6,none⟩=some (int i64 p.hei):=fun o=>za (zd bW o) 6 _ rfl
 have y7:∀ o,(G.val.alloc o).cell? ⟨w.heap.size,7,none⟩=some (int i64 p.cl):=fun o=>za (zd bW o) 7 _ rfl
 have y8:∀ o,(G.val.alloc o).cell? ⟨w.heap.size,8,none⟩=some (.bool p.all):=fun o=>za (zd bW o) 8 _ rfl
 have y9:∀ o,(G.val.alloc o).cell? ⟨w.heap.size,9,none⟩=some (int i64 p.be):=fun o=>za (zd bW o) 9 _ rfl
 go_upto_region 8 with fail;have q:Below w.heap.size w ((G.val.alloc (.cells #[int i64 s.id,.string s.fr,.string s.dst,int i64 s.dep,int i64 s.arr,.slice la s.la.n lc,.slice ca s.ca.n cc,int i64 s.most] 140)).alloc (.cells #[int i64 p.pe,int i64 p.len,int i64 p.hei,int i64 p.cl,.bool p.all,int i64 p.be] 45)):=zk (zk Z _) _;have P:=zd (zd bW (.cells #[int i64 s.id,.string s.fr,.string s.dst,int i64 s.dep,int i64 s.arr,.slice la s.la.n lc,.slice ca s.ca.n cc,int i64 s.most] 140)) (.cells #[int i64 p.pe,int i64 p.len,int i64 p.hei,int i64 p.cl,.bool p.all,int i64 p.be] 45);have a5:=zd (heap_alloc_new G.val (.cells #[int i64 s.id,.string s.fr,.string s.dst,int i64 s.dep,int i64 s.arr,.slice la s.la.n lc,.slice ca s.ca.n cc,int i64 s.most] 140)) (.cells #[int i64 p.pe,int i64 p.len,int i64 p.hei,int i64 p.cl,.bool p.all,int i64 p.be] 45);have O:=zfT G.val (.cells #[int i64 s.id,.string s.fr,.string s.dst,int i64 s.dep,int i64 s.arr,.slice la s.la.n lc,.slice ca s.ca.n cc,int i64 s.most] 140) (.cells #[int i64 p.pe,int i64 p.len,int i64 p.hei,int i64 p.cl,.bool p.all,int i64 p.be] 45);generalize hx0:(G.val.alloc (.cells #[int i64 s.id,.string s.fr,.string s.dst,int i64 s.dep,int i64 s.arr,.slice la s.la.n lc,.slice ca s.ca.n cc,int i64 s.most] 140)).alloc (.cells #[int i64 p.pe,int i64 p.len,int i64 p.hei,int i64 p.cl,.bool p.all,int i64 p.be] 45)=X at q P a5 O ⊢;generalize hsb:G.val.heap.size=sb at a5 O ⊢;clear c0 c1 c2 c3 c4 c5 c6 c7 y0 y1 y4 y5 y6 y7 y8 y9 bW Z Y b0 hx0 hsb G W;have w1:=za P 1 _ rfl;have w2:=za P 2 _ rfl;have w3:=za P 3 _ rfl;have L0:X.cell? ⟨i,k*3,none⟩=some (.slice d l.stn f):=(q.cell (p:=⟨i,k*3,none⟩) a9).trans b6.out;have L1:X.cell? ⟨i,k*3+1,none⟩=some (.slice a2 l.ron a7):=(q.cell (p:=⟨i,k*3+1,none⟩) a9).trans d9.out;have L2:X.cell? ⟨i,k*3+2,none⟩=some (.slice a3 l.sen a8):=(q.cell (p:=⟨i,k*3+2,none⟩) a9).trans e0.out;have bG:=zb g1.out q;obtain⟨r,e8⟩:=zkx s.la l.stn l.st p.len p.hei;have b9:=hI e8;clear e8;have s5:∀ G:zn X,G.val.cell? ⟨sb,5,none⟩=some (.slice la s.la.n lc):=fun G=>za (zb a5 G.bel) 5 _ rfl
 have s6:∀ G:zn X,G.val.cell? ⟨i,k*3,none⟩=some (.slice d l.stn f):=fun G=>(G.bel.cell (p:=⟨i,k*3,none⟩) (zM bG)).trans L0
 have p1:∀ G:zn X,G.val.cell? ⟨sb+1,1,none⟩=some (int i64 p.len):=fun G=>za (zb O G.bel) 1 _ rfl
 have p2:∀ G:zn X,G.val.cell? ⟨sb+1,2,none⟩=some (int i64 p.hei):=fun G=>za (zb O G.bel) 2 _ rfl
 go_upto_region 29 with fail;refine zh (by kernel_rfl) (by kernel_rfl) ?_
 repeat(first|go_big_quiet_skip|(go_big_quiet_want;go_big_quiet_op;first|go_big_quiet_on|(apply Exists.intro;refine⟨fun G=>?_,?_⟩;(focus(first|(go_at_call 166;refine zf (v:=int i64 r) ((zlV la d s.la.n lc l.stn f s.la l.st p.len p.hei _ rfl ((QO _ _ _).1 a1.out.1) (g3.out.1.below (ze q G.bel)) ((zbK c9.out).below (ze q G.bel))).mono ?_);rintro e w2 ⟨⟨r',rfl,o1⟩,d5⟩;exact⟨by rw[zcP o1 b9.out],d5⟩)));go_big_quiet_on)))
 refine wpQuiet_nil ?_;rintro _ ⟨G,rfl⟩;have Q:=ze q G.bel;have e5:=zb P G.bel;have d3:=zb O G.bel;have a4:=zb bG G.bel;clear w1 w2 w3 L0 L1 L2 s5 s6 p1 p2;generalize G.val=I at Q e5 d3 a4 ⊢;clear q P a5 O bG G X
 by_cases hr:r<0
 ·have e1:decide (r<0)=true:=decide_eq_true hr
  have HF:Hid _:=doNo (k:=k) (code:=5) (v:=⟨leg,0,false,who,p⟩) HO.out HQ.out Q (by
   refine .deck rfl rfl ?_;rw[← e3.out,← b7.out]
   rcases b9.out with⟨j,h,_⟩|⟨h,h2⟩
   ·omega
   ·exact .inr ⟨rfl,h2⟩)
  go_wp2;go_ret;exact HF.out
 obtain⟨m,rfl⟩:∃ m:Nat,r=(m:Int):=⟨r.toNat,by omega⟩
 have e1:decide ((m:Int)<0)=false:=decide_eq_false hr;clear hr;go_upto_region 32 with fail;have HN:=hI e2.out.1;have b8:Hid (∀ z,Below I.heap.size I z->qw z d l.stn l.st):=fun z h=>(zbK c9.out).below (ze Q h)
 have h5:l.stn<=60:=((QO _ _ _).1 a1.out.1).2.1;have e4:I.cell? ⟨i,k*3,none⟩=some (.slice d l.stn f):=(Q.cell (p:=⟨i,k*3,none⟩) a9).trans b6.out;have KS:Hid (∀ z,Below I.heap.size I z->(z.cell? ⟨w.heap.size,3,none⟩=some (int i64 who)/\z.cell? ⟨sb+1,1,none⟩=some (int i64 p.len)/\z.cell? ⟨sb+1,2,none⟩=some (int i64 p.hei))/\z.cell? ⟨i,k*3,none⟩=some (.slice d l.stn f)):=fun z h=>⟨⟨za (zb e5 h) 3 _ rfl,za (zb d3 h) 1 _ rfl,za (zb d3 h) 2 _ rfl⟩,(h.cell (p:=⟨i,k*3,none⟩) (zM a4)).trans e4⟩
 refine qg 19 20 (fun w'=>(w'.cell? ⟨w.heap.size,3,none⟩=some (int i64 who)/\w'.cell? ⟨sb+1,1,none⟩=some (int i64 p.len)/\w'.cell? ⟨sb+1,2,none⟩=some (int i64 p.hei))/\w'.cell? ⟨i,k*3,none⟩=some (.slice d l.stn f)) rfl (by kernel_rfl) (KS.out _ (Below.drew bZ)) (fun hS=>?_)
 simp only[List.replicate_succ,List.replicate_zero]
 (refine tkL 0 (v:=?_) rfl (by kernel_rfl) (fun _ _ _ h=>h) rfl (by assumption) ?_ ?_;rotate_left;(focus(intro w' h;(try dsimp only at h);go_simp;try with_reducible rfl));simp only[Act.put,sB,sZ,sS])
 (refine tkL 2 (v:=?_) rfl (by kernel_rfl) (fun _ _ _ h=>h) rfl (by assumption) ?_ ?_;rotate_left;(focus(intro w' h;(try dsimp only at h);go_simp;try with_reducible rfl));simp only[Act.put,sB,sZ,sS])
 (refine tkL 3 (v:=?_) rfl (by kernel_rfl) (fun _ _ _ h=>h) rfl (by assumption) ?_ ?_;rotate_left;(focus(intro w' h;(try dsimp only at h);go_simp;try with_reducible rfl));simp only[Act.put,sB,sZ,sS])
 (refine tkL 4 (v:=?_) rfl (by kernel_rfl) (fun _ _ _ h=>h) rfl (by assumption) ?_ ?_;rotate_left;(focus(intro w' h;(try dsimp only at h);go_simp;try with_reducible rfl));simp only[Act.put,sB,sZ,sS])
 (refine tkL 5 (v:=?_) rfl (by kernel_rfl) (fun _ _ _ h=>h) rfl (by assumption) ?_ ?_;rotate_left;(focus(intro w' h;(try dsimp only at h);go_simp;try with_reducible rfl));simp only[Act.put,sB,sZ,sS])
 (refine tkL 7 (v:=?_) rfl (by kernel_rfl) (fun _ _ _ h=>h) rfl (by assumption) ?_ ?_;rotate_left;(focus(intro w' h;(try dsimp only at h);go_simp;try with_reducible rfl));simp only[Act.put,sB,sZ,sS])
 (refine tkL 8 (v:=?_) rfl (by kernel_rfl) (fun _ _ _ h=>h) rfl (by assumption) ?_ ?_;rotate_left;(focus(intro w' h;(try dsimp only at h);go_simp;try with_reducible rfl));simp only[Act.put,sB,sZ,sS])
 (refine tkL 9 (v:=?_) rfl (by kernel_rfl) (fun _ _ _ h=>h) rfl (by assumption) ?_ ?_;rotate_left;(focus(intro w' h;(try dsimp only at h);go_simp;try with_reducible rfl));simp only[Act.put,sB,sZ,sS])
 (refine tkL 10 (v:=?_) rfl (by kernel_rfl) (fun _ _ _ h=>h) rfl (by assumption) ?_ ?_;rotate_left;(focus(intro w' h;(try dsimp only at h);go_simp;try with_reducible rfl));simp only[Act.put,sB,sZ,sS])
 (refine tkL 11 (v:=?_) rfl (by kernel_rfl) (fun _ _ _ h=>h) rfl (by assumption) ?_ ?_;rotate_left;(focus(intro w' h;(try dsimp only at h);go_simp;try with_reducible rfl));simp only[Act.put,sB,sZ,sS])
 (refine tkL 12 (v:=?_) rfl (by kernel_rfl) (fun _ _ _ h=>h) rfl (by assumption) ?_ ?_;rotate_left;(focus(intro w' h;(try dsimp only at h);go_simp;try with_reducible rfl));simp only[Act.put,sB,sZ,sS])
 (refine tkL 13 (v:=?_) rfl (by kernel_rfl) (fun _ _ _ h=>h) rfl (by assumption) ?_ ?_;rotate_left;(focus(intro w' h;(try dsimp only at h);go_simp;try with_reducible rfl));simp only[Act.put,sB,sZ,sS])
 (refine tkL 14 (v:=?_) rfl (by kernel_rfl) (fun _ _ _ h=>h) rfl (by assumption) ?_ ?_;rotate_left;(focus(intro w' h;(try dsimp only at h);go_simp;try with_reducible rfl));simp only[Act.put,sB,sZ,sS])
 refine zj (rs:=[1,15]) (by kernel_rfl) (by simp) ?_
 refine zc.consL rfl (fun K c=>?_) (zc.consL rfl (fun K c=>?_) zc.nil)
 focus
  go_simp;refine c.out _ _ (KS.out _ (by repeat(first|exact b.out|exact bZ|refine Below.drew ?_|refine zk ?_ _))) (fun hS=>?_)
  clear c K;simp only[sZ,sS];refine zj (rs:=[6,15]) (by kernel_rfl) (by simp) ?_
  refine zc.consL rfl (fun K c=>?_) (zc.consL rfl (fun K c=>?_) zc.nil)
  focus
   refine zP (by rfl) (.tmp 168) (.tmp 172) 141 (by rfl) 220 i0 (.agg #[int i64 0,int i64 0,int i64 0,int i64 0]) 4 32 Tryz.underlying141 ii b2 b3 b4 rfl (by decide) I.heap.size _ (by rfl) (by first|exact Nat.le_refl _|omega|(simp;done)|(simp;omega)) (by repeat(first|((with_reducible refine Qa _ _ _ ?_);(first|rfl|(simp;done)))|with_reducible refine zK ?_|with_reducible refine zd ?_ _)) d l.stn f (zy l.st l.stn) (by rfl) HN.out (ZR _ _) (zal (b8.out _ (by repeat(first|exact bZ|refine Below.drew ?_|refine zk ?_ _)))) (QQ _ _) (by unfold maxLen;omega) (by omega) ?_;intro p1 q1 u1 J U y;clear y;have b:Hid (Below I.heap.size I u1):=(by show Below _ _ _;refine ze ?_ (zr J);exact(by repeat(first|exact bZ|refine Below.drew ?_|refine zk ?_ _)));refine c.out _ _ (KS.out _ b.out) (fun hS=>?_)
   clear c K;simp only[Act.put,sB,sZ,sS];refine zj (rs:=[15]) (by kernel_rfl) (by simp) ?_
   refine zc.consL rfl (fun K c=>?_) zc.nil
   focus
    go_simp;refine c.out _ _ (KS.out _ (by repeat(first|exact b.out|exact bZ|refine Below.drew ?_|refine zk ?_ _))) (fun hS=>?_)
    clear c K;simp only[sZ,sS]
  rotate_left 1
  focus
   go_simp;refine c.out _ _ (KS.out _ (by repeat(first|exact b.out|exact bZ|refine Below.drew ?_|refine zk ?_ _))) (fun hS=>?_)
   clear c K;simp only[sZ,sS];refine zj (rs:=[6]) (by kernel_rfl) (by simp) ?_
   refine zc.consL rfl (fun K c=>?_) zc.nil
   focus
    refine zP (by rfl) (.tmp 168) (.tmp 172) 141 (by rfl) 220 i0 (.agg #[int i64 0,int i64 0,int i64 0,int i64 0]) 4 32 Tryz.underlying141 ii b2 b3 b4 rfl (by decide) I.heap.size _ (by rfl) (by first|exact Nat.le_refl _|omega|(simp;done)|(simp;omega)) (by repeat(first|((with_reducible refine Qa _ _ _ ?_);(first|rfl|(simp;done)))|with_reducible refine zK ?_|with_reducible refine zd ?_ _)) d l.stn f (zy l.st l.stn) (by rfl) HN.out (ZR _ _) (zal (b8.out _ (by repeat(first|exact bZ|refine Below.drew ?_|refine zk ?_ _)))) (QQ _ _) (by unfold maxLen;omega) (by omega) ?_;intro p1 q1 u1 J U y;clear y;have b:Hid (Below I.heap.size I u1):=(by show Below _ _ _;refine ze ?_ (zr J);exact(by repeat(first|exact bZ|refine Below.drew ?_|refine zk ?_ _)));refine c.out _ _ (KS.out _ b.out) (fun hS=>?_)
    clear c K;simp only[Act.put,sB,sZ,sS]
 rotate_left 2
 focus
  go_simp;refine c.out _ _ (KS.out _ (by repeat(first|exact b.out|exact bZ|refine Below.drew ?_|refine zk ?_ _))) (fun hS=>?_)
  clear c K;simp only[sZ,sS];refine zj (rs:=[1]) (by kernel_rfl) (by simp) ?_
  refine zc.consL rfl (fun K c=>?_) zc.nil
  focus
   go_simp;refine c.out _ _ (KS.out _ (by repeat(first|exact b.out|exact bZ|refine Below.drew ?_|refine zk ?_ _))) (fun hS=>?_)
   clear c K;simp only[sZ,sS];refine zj (rs:=[6]) (by kernel_rfl) (by simp) ?_
   refine zc.consL rfl (fun K c=>?_) zc.nil
   focus
    refine zP (by rfl) (.tmp 168) (.tmp 172) 141 (by rfl) 220 i0 (.agg #[int i64 0,int i64 0,int i64 0,int i64 0]) 4 32 Tryz.underlying141 ii b2 b3 b4 rfl (by decide) I.heap.size _ (by rfl) (by first|exact Nat.le_refl _|omega|(simp;done)|(simp;omega)) (by repeat(first|((with_reducible refine Qa _ _ _ ?_);(first|rfl|(simp;done)))|with_reducible refine zK ?_|with_reducible refine zd ?_ _)) d l.stn f (zy l.st l.stn) (by rfl) HN.out (ZR _ _) (zal (b8.out _ (by repeat(first|exact bZ|refine Below.drew ?_|refine zk ?_ _)))) (QQ _ _) (by unfold maxLen;omega) (by omega) ?_;intro p1 q1 u1 J U y;clear y;have b:Hid (Below I.heap.size I u1):=(by show Below _ _ _;refine ze ?_ (zr J);exact(by repeat(first|exact bZ|refine Below.drew ?_|refine zk ?_ _)));refine c.out _ _ (KS.out _ b.out) (fun hS=>?_)
    clear c K;simp only[Act.put,sB,sZ,sS]
 all_goals
  refine zj (rs:=[16]) (by kernel_rfl) (by simp) ?_
  refine zc.consL rfl (fun K c=>?_) zc.nil
  refine step_append_lies _ (by rfl) (.tmp 173) (.tmp 182) 141 (by rfl) I.heap.size 220 i0 (.agg #[int i64 0,int i64 0,int i64 0,int i64 0]) 4 32 Tryz.underlying141 ii b2 b3 b4 rfl (by decide) _ l.stn (zy l.st l.stn) (by rfl) (by first|exact U|exact U.alloc _|exact zo (zk bZ _) U) _ 1 1 [int i64 who,int i64 (m:Int),int i64 p.len,int i64 p.hei] (by rfl) (by rfl) (by refine World.news_of_block (cs:=#[int i64 who,int i64 (m:Int),int i64 p.len,int i64 p.hei]) (t:=220) (fr:=(0,0)) ?_;exact(by repeat(first|((with_reducible refine Qa _ _ _ ?_);(first|rfl|(simp;done)))|with_reducible refine zK ?_|with_reducible refine zd ?_ _|with_reducible refine zb ?_ (zr J)))) (by intro u hu;simp at hu;rcases hu with rfl|rfl|rfl|rfl <;> rfl) (by decide) (by unfold maxLen;omega) (by omega) (by first|exact b.out.size|(have:=b.out.size;simp;omega)) _ rfl ?_;intro g2 g9 u2 g8 g7 h0 h4;refine(fun (a0:Hid (Below I.heap.size I u2))=>?_) (Below.grown ?_ g7 ?_ (fun j hj=>(U.lt j hj).1));rotate_left;(focus(repeat(first|exact bZ|refine Below.drew ?_|refine zk ?_ _|refine ze ?_ (zr J))));(focus(first|exact b.out.size|(have:=b.out.size;simp;omega)));have q0:=(a0.out.cell (p:=⟨i,k*3,none⟩) (zM a4)).trans e4;have q1:=zg (zb a4 a0.out) (k*3);refine c.out _ _ (KS.out _ a0.out) (fun hS=>?_)
  clear c K;simp only[Act.put,sB,sZ,sS]
  (refine tkL 17 (v:=?_) rfl (by kernel_rfl) (fun _ _ _ h=>h) rfl (by assumption) ?_ ?_;rotate_left;(focus(intro w' h;(try dsimp only at h);go_simp;try with_reducible rfl));simp only[Act.put,sB,sZ,sS])
  (refine tkL 18 (v:=?_) rfl (by kernel_rfl) (fun _ _ _ h=>h) rfl (by assumption) ?_ ?_;rotate_left;(focus(intro w' h;(try dsimp only at h);go_simp;try with_reducible rfl));simp only[Act.put,sB,sZ,sS])
  refine zj (rs:=[19]) (by kernel_rfl) (by simp) ?_
  refine zc.lastL rfl (fun K c=>?_)
  go_simp;refine c.out _ _ ?_;clear c K;refine zX (by kernel_rfl) ?_ _
  have HF:Hid _:=doSt (k:=k) (n:=l.stn+1) (T:=QI l.st l.stn (fun _=>⟨who,(m:Int),p.len,p.hei⟩)) (v:=⟨leg,0,false,who,p⟩) HO.out HQ.out f9.out (ze Q a0.out) (zu (by rw[zfy,zaw,show zy (fun _=>(⟨who,(m:Int),p.len,p.hei⟩:Zp)) 0=[] from rfl,List.nil_append];exact g8) Q.size) (by rw[b7.out];exact .addStay m rfl rfl (by rw[← e3.out,← b7.out];exact b9.out))
  go_wp2;go_ret;exact HF.out
theorem l7Do_e (g base N R k a3 b5 e4:Nat)(d8 d7 d6:Option Addr)(leg who:Int)(pe len hei cl be:Int)(x:Off)(L C A B D E:Nat->Value)(w:World)(hq:w.heap[g]?=some (.cells #[.slice d8 N a3,.slice d7 N b5,.slice d6 R e4] 38 (0,0)))(Y:zF w base (.slice d8 N a3) (.slice d7 N b5) (.slice d6 R e4) N N R x L C A B D E)(hN:N<=1048576)(hk:zW x.sa leg N=k)(Q:k<N)(g4:qm (x.sa k) (x.ld k)) :
  Calls Tryz.prog 92 #[.pointer (some ⟨g,0,none⟩),.agg #[int i64 leg,int i64 1,.bool false,int i64 who,int i64 pe,int i64 len,int i64 hei,int i64 cl,.bool true,int i64 be]] w fun e w'=>zfW g base N R k a3 b5 e4 d8 d7 d6 ⟨leg,1,false,who,⟨pe,len,hei,cl,true,be⟩⟩ x L C E w e w':=by
 obtain⟨i0,ii,b9,c9,d0⟩:=info_parts Tryz.infoRoom;obtain⟨y,rfl,i3,a7⟩:=qh Y.ld.row (by omega)
 have HO:=hI Y;have HK:=hI hk;have a0:=hI g4;have g9:Hid (base<=w.heap.size):=by show base<=w.heap.size;omega
 have HQ:=hI hq;have d1:=hI Y.sa.at;obtain⟨cs,g3⟩:=zA Y.ld.row y rfl;obtain⟨b4,b7,eA,m1,m2,m3⟩:=zp (Y.ld.st k Q);obtain⟨b,d,eB,m4,m5,m6⟩:=zp (Y.ld.ro k Q);obtain⟨b3,b6,eD,m7,m8,m9⟩:=zp (Y.ld.se k Q);have h7:Hid (w.ownsRow base 220 4 (.slice b4 (x.ld k).stn b7) (x.ld k).stn (zy (x.ld k).st (x.ld k).stn)):=by show w.ownsRow _ _ _ _ _ _;rw[← eA];exact Y.ld.st k Q
 have b2:Hid (w.ownsRow base 228 4 (.slice b (x.ld k).ron d) (x.ld k).ron (zw (x.ld k).ro (x.ld k).ron)):=by show w.ownsRow _ _ _ _ _ _;rw[← eB];exact Y.ld.ro k Q
 have h6:Hid (w.ownsRow base 234 2 (.slice b3 (x.ld k).sen b6) (x.ld k).sen (zB (x.ld k).se (x.ld k).sen)):=by show w.ownsRow _ _ _ _ _ _;rw[← eD];exact Y.ld.se k Q
 have e9:Hid (w.cell? ⟨y,k*3,none⟩=some (.slice b4 (x.ld k).stn b7)):=by
  have h:=zs Y.ld.row (k*3+0) (by omega) rfl
  rw[zC 3 _ k 0 (by decide)] at h
  rw[← eA];exact h
 have a9:Hid (w.cell? ⟨y,k*3+1,none⟩=some (.slice b (x.ld k).ron d)):=by
  have h:=zs Y.ld.row (k*3+1) (by omega) rfl
  rw[zC 3 _ k 1 (by decide)] at h
  rw[← eB];exact h
 have f8:Hid (w.cell? ⟨y,k*3+2,none⟩=some (.slice b3 (x.ld k).sen b6)):=by
  have h:=zs Y.ld.row (k*3+2) (by omega) rfl
  rw[zC 3 _ k 2 (by decide)] at h
  rw[← eD];exact h
 have g0:Hid ((b4=none->(x.ld k).stn=0/\b7=0)/\(b=none->(x.ld k).ron=0/\d=0)/\(b3=none->(x.ld k).sen=0/\b6=0)):=⟨m3,m6,m9⟩;obtain⟨s,b8⟩:∃ s,s=x.sa k:=⟨_,rfl⟩;obtain⟨l,e8⟩:∃ l,l=x.ld k:=⟨_,rfl⟩;rw[← e8] at h7 b2 h6 e9 a9 f8 g0 a0;rw[← b8] at a0;have d5:=hI b8;have d2:=hI e8;have h4:=hI g3;obtain⟨a,J,la,lc,ca,cc,rfl,f0,f1,f2,f3,f4,f5,f6,f7,e7,e6,g8,g7⟩:=d1.out k Q;rw[← b8] at f0 f1 f2 f3 f4 f5 f6 f7 e7 e6 g8 g7;have d4:Hid (zG w la s.la/\zG w ca s.ca):=⟨e7,e6⟩;have h0:Hid (∀ W,Below w.heap.size w W->W.cell? ⟨a,J+k*8,none⟩=some (int i64 s.id)/\W.cell? ⟨a,J+k*8+1,none⟩=some (.string s.fr)/\W.cell? ⟨a,J+k*8+2,none⟩=some (.string s.dst)/\W.cell? ⟨a,J+k*8+3,none⟩=some (int i64 s.dep)/\W.cell? ⟨a,J+k*8+4,none⟩=some (int i64 s.arr)/\W.cell? ⟨a,J+k*8+5,none⟩=some (.slice la s.la.n lc)/\W.cell? ⟨a,J+k*8+6,none⟩=some (.slice ca s.ca.n cc)/\W.cell? ⟨a,J+k*8+7,none⟩=some (int i64 s.most)):=fun W hb=>by
  have I:=World.block_lt_of_cell? w _ f0;exact⟨(hb.cell (p:=⟨a,J+k*8,none⟩) I).trans f0,(hb.cell (p:=⟨a,J+k*8+1,none⟩) I).trans f1,(hb.cell (p:=⟨a,J+k*8+2,none⟩) I).trans f2,(hb.cell (p:=⟨a,J+k*8+3,none⟩) I).trans f3,(hb.cell (p:=⟨a,J+k*8+4,none⟩) I).trans f4,(hb.cell (p:=⟨a,J+k*8+5,none⟩) I).trans f5,(hb.cell (p:=⟨a,J+k*8+6,none⟩) I).trans f6,(hb.cell (p:=⟨a,J+k*8+7,none⟩) I).trans f7⟩
 clear f0 f1 f2 f3 f4 f5 f6 f7 e7 e6 g8 g7 b8 e8 g3 eA eB eD m1 m2 m3 m4 m5 m6 m7 m8 m9 g4 hk i3;have i1:(0:Int)<=(k:Int):=by omega
 have i2:(k:Int)<(N:Int):=by omega
 have a4:Below w.heap.size w (w.alloc (.cells #[int i64 leg,int i64 1,.bool false,int i64 who,int i64 pe,int i64 len,int i64 hei,int i64 cl,.bool true,int i64 be] 159)):=zk bZ _;have b0:=heap_alloc_new w (.cells #[int i64 leg,int i64 1,.bool false,int i64 who,int i64 pe,int i64 len,int i64 hei,int i64 cl,.bool true,int i64 be] 159);go_enter Tryz.func92,Tryz.ntmps92;go_upto_region 1 with fail;generalize (w.alloc (.cells #[int i64 leg,int i64 1,.bool false,int i64 who,int i64 pe,int i64 len,int i64 hei,int i64 cl,.bool true,int i64 be] 159))=W at a4 b0 ⊢;have z0:∀ G:zn W,G.val.cell? ⟨g,0,none⟩=some (.slice (some ⟨a,J,none⟩) N a3):=fun G=>za (zb HQ.out (ze a4 G.bel)) 0 _ rfl
 have z1:∀ G:zn W,G.val.cell? ⟨w.heap.size,0,none⟩=some (int i64 leg):=fun G=>za (zb b0 G.bel) 0 _ rfl
 refine zh (by kernel_rfl) (by kernel_rfl) ?_
 repeat(first|go_big_quiet_skip|(go_big_quiet_want;go_big_quiet_op;first|go_big_quiet_on|(apply Exists.intro;refine⟨fun G=>?_,?_⟩;(focus(first|(go_at_call 161;refine zf (v:=int i64 (k:Int)) ((Q9 _ N a3 x.sa leg _ hN (d1.out.below (ze a4 G.bel))).mono ?_);rintro e w2 ⟨he,a5⟩;refine⟨?_,a5⟩;rw[HK.out] at he;rcases he with⟨_,rfl⟩|⟨h,_⟩;rfl;omega)));go_big_quiet_on)))
 refine wpQuiet_nil ?_;rintro _ ⟨G,rfl⟩;clear z0 z1;have a6:=ze a4 G.bel;have bW:=zb b0 G.bel;obtain⟨c0,c1,c2,c3,c4,c5,c6,c7⟩:=h0.out G.val a6;have y0:=za (zb HQ.out a6) 0 _ rfl;have y1:∀ o,(G.val.alloc o).cell? ⟨g,1,none⟩=some (.slice (some ⟨y,0,none⟩) N b5):=fun o=>za (zb HQ.out (zk a6 o)) 1 _ rfl
 have y4:∀ o,(G.val.alloc o).cell? ⟨w.heap.size,4,none⟩=some (int i64 pe):=fun o=>za (zd bW o) 4 _ rfl
 have y5:∀ o,(G.val.alloc o).cell? ⟨w.heap.size,5,none⟩=some (int i64 len):=fun o=>za (zd bW o) 5 _ rfl
 have y6:∀ o,(G.val.alloc o).cell? ⟨w.heap.size,6,none⟩=some (int i64 hei):=fun o=>za (zd bW o) 6 _ rfl
 have y7:∀ o,(G.val.alloc o).cell? ⟨w.heap.size,7,none⟩=some (int i64 cl):=fun o=>za (zd bW o) 7 _ rfl
 have y8:∀ o,(G.val.alloc o).cell? ⟨w.heap.size,8,none⟩=some (.bool true):=fun o=>za (zd bW o) 8 _ rfl
 have y9:∀ o,(G.val.alloc o).cell? ⟨w.heap.size,9,none⟩=some (int i64 be):=fun o=>za (zd bW o) 9 _ rfl
 go_upto_region 8 with fail;have F:Below w.heap.size w ((G.val.alloc (.cells #[int i64 s.id,.string s.fr,.string s.dst,int i64 s.dep,int i64 s.arr,.slice la s.la.n lc,.slice ca s.ca.n cc,int i64 s.most] 140)).alloc (.cells #[int i64 pe,int i64 len,int i64 hei,int i64 cl,.bool true,int i64 be] 45)):=zk (zk a6 _) _;have V:=zd (zd bW (.cells #[int i64 s.id,.string s.fr,.string s.dst,int i64 s.dep,int i64 s.arr,.slice la s.la.n lc,.slice ca s.ca.n cc,int i64 s.most] 140)) (.cells #[int i64 pe,int i64 len,int i64 hei,int i64 cl,.bool true,int i64 be] 45);have a1:=zd (heap_alloc_new G.val (.cells #[int i64 s.id,.string s.fr,.string s.dst,int i64 s.dep,int i64 s.arr,.slice la s.la.n lc,.slice ca s.ca.n cc,int i64 s.most] 140)) (.cells #[int i64 pe,int i64 len,int i64 hei,int i64 cl,.bool true,int i64 be] 45);have S:=zfT G.val (.cells #[int i64 s.id,.string s.fr,.string s.dst,int i64 s.dep,int i64 s.arr,.slice la s.la.n lc,.slice ca s.ca.n cc,int i64 s.most] 140) (.cells #[int i64 pe,int i64 len,int i64 hei,int i64 cl,.bool true,int i64 be] 45);generalize hx0:(G.val.alloc (.cells #[int i64 s.id,.string s.fr,.string s.dst,int i64 s.dep,int i64 s.arr,.slice la s.la.n lc,.slice ca s.ca.n cc,int i64 s.most] 140)).alloc (.cells #[int i64 pe,int i64 len,int i64 hei,int i64 cl,.bool true,int i64 be] 45)=X at F V a1 S ⊢;generalize hsb:G.val.heap.size=sb at a1 S ⊢;clear c0 c1 c2 c3 c4 c5 c6 c7 y0 y1 y4 y5 y6 y7 y8 y9 bW a6 a4 b0 hx0 hsb G W;have w1:=za V 1 _ rfl;have w2:=za V 2 _ rfl;have w3:=za V 3 _ rfl;have L0:X.cell? ⟨y,k*3,none⟩=some (.slice b4 l.stn b7):=(F.cell (p:=⟨y,k*3,none⟩) a7).trans e9.out;have L1:X.cell? ⟨y,k*3+1,none⟩=some (.slice b l.ron d):=(F.cell (p:=⟨y,k*3+1,none⟩) a7).trans a9.out;have L2:X.cell? ⟨y,k*3+2,none⟩=some (.slice b3 l.sen b6):=(F.cell (p:=⟨y,k*3+2,none⟩) a7).trans f8.out;have bG:=zb h4.out F;obtain⟨rb,g6⟩:=ziM l.ron s.ca.n (zbN s.ca l.ron l.ro cl be);have h5:=hI g6;clear g6;have s5:∀ G:zn X,G.val.cell? ⟨sb,6,none⟩=some (.slice ca s.ca.n cc):=fun G=>za (zb a1 G.bel) 6 _ rfl
 have s6:∀ G:zn X,G.val.cell? ⟨y,k*3+1,none⟩=some (.slice b l.ron d):=fun G=>(G.bel.cell (p:=⟨y,k*3+1,none⟩) (zM bG)).trans L1
 have p1:∀ G:zn X,G.val.cell? ⟨sb+1,3,none⟩=some (int i64 cl):=fun G=>za (zb S G.bel) 3 _ rfl
 have p2:∀ G:zn X,G.val.cell? ⟨sb+1,5,none⟩=some (int i64 be):=fun G=>za (zb S G.bel) 5 _ rfl
 go_upto_region 34 with fail;refine zh (by kernel_rfl) (by kernel_rfl) ?_
 repeat(first|go_big_quiet_skip|(go_big_quiet_want;go_big_quiet_op;first|go_big_quiet_on|(apply Exists.intro;refine⟨fun G=>?_,?_⟩;(focus(first|(go_at_call 167;refine zf (v:=int i64 rb) ((zfH ca b s.ca.n cc l.ron d s.ca l.ro cl be _ rfl a0.out.2.1 (d4.out.2.below (ze F G.bel)) ((QR b2.out).below (ze F G.bel))).mono ?_);rintro e w2 ⟨⟨r',rfl,o1⟩,a5⟩;exact⟨by rw[zcO o1 h5.out],a5⟩)));go_big_quiet_on)))
 refine wpQuiet_nil ?_;rintro _ ⟨G,rfl⟩;have i:=ze F G.bel;have a2:=zb V G.bel;have U:=zb a1 G.bel;have q:=zb S G.bel;have O:=zb bG G.bel;clear w1 w2 w3 L0 L1 L2 s5 s6 p1 p2;generalize G.val=W5 at i a2 U q O ⊢;clear F V a1 S bG G X;have r4:=za q 4 _ rfl;have r5:=za q 5 _ rfl;obtain⟨r,g5⟩:=ziM l.ron s.ca.n (zbD s.ca l.ron l.ro cl pe);have b1:=hI g5;clear g5;have s5:∀ G:zn W5,G.val.cell? ⟨sb,6,none⟩=some (.slice ca s.ca.n cc):=fun G=>za (zb U G.bel) 6 _ rfl
 have s6:∀ G:zn W5,G.val.cell? ⟨y,k*3+1,none⟩=some (.slice b l.ron d):=fun G=>((ze i G.bel).cell (p:=⟨y,k*3+1,none⟩) a7).trans a9.out
 have p1:∀ G:zn W5,G.val.cell? ⟨sb+1,3,none⟩=some (int i64 cl):=fun G=>za (zb q G.bel) 3 _ rfl
 have p2:∀ G:zn W5,G.val.cell? ⟨sb+1,0,none⟩=some (int i64 pe):=fun G=>za (zb q G.bel) 0 _ rfl
 go_upto_region 37 with fail;refine zh (by kernel_rfl) (by kernel_rfl) ?_
 repeat(first|go_big_quiet_skip|(go_big_quiet_want;go_big_quiet_op;first|go_big_quiet_on|(apply Exists.intro;refine⟨fun G=>?_,?_⟩;(focus(first|(go_at_call 168;refine zf (v:=int i64 r) ((zlW ca b s.ca.n cc l.ron d s.ca l.ro cl pe _ rfl a0.out.2.1 (d4.out.2.below (ze i G.bel)) ((QR b2.out).below (ze i G.bel))).mono ?_);rintro e w2 ⟨⟨r',rfl,o1⟩,a5⟩;exact⟨by rw[zcO o1 b1.out],a5⟩)));go_big_quiet_on)))
 refine wpQuiet_nil ?_;rintro _ ⟨G,rfl⟩;have e5:=ze i G.bel;have e3:=zb a2 G.bel;have e2:=zb U G.bel;have e0:=zb q G.bel;have d9:=zb O G.bel;clear s5 s6 p1 p2 r4 r5;generalize G.val=M at e5 e3 e2 e0 d9 ⊢;clear i a2 U q O G W5;have i:=e5;have a2:=e3;have U:=e2;have q:=e0;have O:=d9;clear e5 e3 e2 e0 d9;have r4:=za q 4 _ rfl
 by_cases hr:r<0
 ·have e1:decide (r<0)=true:=decide_eq_true hr
  have HF:Hid _:=doNo (k:=k) (code:=6) (v:=⟨leg,1,false,who,⟨pe,len,hei,cl,true,be⟩⟩) HO.out HQ.out i (by
   refine .whole rfl rfl rfl ?_;rw[← d5.out,← d2.out]
   rcases b1.out with⟨j,h,_⟩|⟨h,h2⟩
   ·omega
   ·exact .inr ⟨rfl,h2⟩)
  go_wp2;go_ret;exact HF.out
 obtain⟨m,rfl⟩:∃ m:Nat,r=(m:Int):=⟨r.toNat,by omega⟩
 have e1:decide ((m:Int)<0)=false:=decide_eq_false hr;clear hr;have f9:=hI ((rIx_at b1.out).2.1);obtain⟨cb,co,rfl,k1,k2⟩:=d4.out.2 m f9.out;have i4:=World.block_lt_of_cell? w _ k1;have y2:=(i.cell (p:=⟨cb,co+m*2+1,none⟩) i4).trans k2;have j1:(0:Int)<=(m:Int):=by omega
 have j2:(m:Int)<(s.ca.n:Int):=by have:=f9.out;omega
 have r6:=za U 6 _ rfl;clear k1 k2;go_upto_region 42 with fail;have HN:=hI g0.out.2.1;have d3:Hid (∀ z,Below M.heap.size M z->qp z b l.ron l.ro):=fun z h=>(QR b2.out).below (ze i h)
 have j0:l.ron<=60:=a0.out.2.1.2.1;have g1:M.cell? ⟨y,k*3+1,none⟩=some (.slice b l.ron d):=(i.cell (p:=⟨y,k*3+1,none⟩) a7).trans a9.out;have KS:Hid (∀ z,Below M.heap.size M z->(z.cell? ⟨w.heap.size,3,none⟩=some (int i64 who)/\z.cell? ⟨sb+1,4,none⟩=some (.bool true))/\z.cell? ⟨y,k*3+1,none⟩=some (.slice b l.ron d)):=fun z h=>⟨⟨za (zb a2 h) 3 _ rfl,za (zb q h) 4 _ rfl⟩,(h.cell (p:=⟨y,k*3+1,none⟩) (zM O)).trans g1⟩
 refine qg 18 19 (fun w'=>(w'.cell? ⟨w.heap.size,3,none⟩=some (int i64 who)/\w'.cell? ⟨sb+1,4,none⟩=some (.bool true))/\w'.cell? ⟨y,k*3+1,none⟩=some (.slice b l.ron d)) rfl (by kernel_rfl) (KS.out _ (Below.drew bZ)) (fun hS=>?_)
 simp only[List.replicate_succ,List.replicate_zero]
 (refine tkL 0 (v:=?_) rfl (by kernel_rfl) (fun _ _ _ h=>h) rfl (by assumption) ?_ ?_;rotate_left;(focus(intro w' h;(try dsimp only at h);go_simp;try with_reducible rfl));simp only[Act.put,sB,sZ,sS])
 (refine tkL 2 (v:=?_) rfl (by kernel_rfl) (fun _ _ _ h=>h) rfl (by assumption) ?_ ?_;rotate_left;(focus(intro w' h;(try dsimp only at h);go_simp;try with_reducible rfl));simp only[Act.put,sB,sZ,sS])
 (refine tkL 3 (v:=?_) rfl (by kernel_rfl) (fun _ _ _ h=>h) rfl (by assumption) ?_ ?_;rotate_left;(focus(intro w' h;(try dsimp only at h);go_simp;try with_reducible rfl));simp only[Act.put,sB,sZ,sS])
 (refine tkL 4 (v:=?_) rfl (by kernel_rfl) (fun _ _ _ h=>h) rfl (by assumption) ?_ ?_;rotate_left;(focus(intro w' h;(try dsimp only at h);go_simp;try with_reducible rfl));simp only[Act.put,sB,sZ,sS])
 (refine tkL 5 (v:=?_) rfl (by kernel_rfl) (fun _ _ _ h=>h) rfl (by assumption) ?_ ?_;rotate_left;(focus(intro w' h;(try dsimp only at h);go_simp;try with_reducible rfl));simp only[Act.put,sB,sZ,sS])
 (refine tkL 7 (v:=?_) rfl (by kernel_rfl) (fun _ _ _ h=>h) rfl (by assumption) ?_ ?_;rotate_left;(focus(intro w' h;(try dsimp only at h);go_simp;try with_reducible rfl));simp only[Act.put,sB,sZ,sS])
 (refine tkL 8 (v:=?_) rfl (by kernel_rfl) (fun _ _ _ h=>h) rfl (by assumption) ?_ ?_;rotate_left;(focus(intro w' h;(try dsimp only at h);go_simp;try with_reducible rfl));simp only[Act.put,sB,sZ,sS])
 (refine tkL 9 (v:=?_) rfl (by kernel_rfl) (fun _ _ _ h=>h) rfl (by assumption) ?_ ?_;rotate_left;(focus(intro w' h;(try dsimp only at h);go_simp;try with_reducible rfl));simp only[Act.put,sB,sZ,sS])
 (refine tkL 10 (v:=?_) rfl (by kernel_rfl) (fun _ _ _ h=>h) rfl (by assumption) ?_ ?_;rotate_left;(focus(intro w' h;(try dsimp only at h);go_simp;try with_reducible rfl));simp only[Act.put,sB,sZ,sS])
 (refine tkL 11 (v:=?_) rfl (by kernel_rfl) (fun _ _ _ h=>h) rfl (by assumption) ?_ ?_;rotate_left;(focus(intro w' h;(try dsimp only at h);go_simp;try with_reducible rfl));simp only[Act.put,sB,sZ,sS])
 (refine tkL 12 (v:=?_) rfl (by kernel_rfl) (fun _ _ _ h=>h) rfl (by assumption) ?_ ?_;rotate_left;(focus(intro w' h;(try dsimp only at h);go_simp;try with_reducible rfl));simp only[Act.put,sB,sZ,sS])
 (refine tkL 13 (v:=?_) rfl (by kernel_rfl) (fun _ _ _ h=>h) rfl (by assumption) ?_ ?_;rotate_left;(focus(intro w' h;(try dsimp only at h);go_simp;try with_reducible rfl));simp only[Act.put,sB,sZ,sS])
 refine zj (rs:=[1,14]) (by kernel_rfl) (by simp) ?_
 refine zc.consL rfl (fun K f=>?_) (zc.consL rfl (fun K f=>?_) zc.nil)
 focus
  go_simp;refine f.out _ _ (KS.out _ (by repeat(first|exact c.out|exact bZ|refine Below.drew ?_|refine zk ?_ _))) (fun hS=>?_)
  clear f K;simp only[sZ,sS];refine zj (rs:=[6,14]) (by kernel_rfl) (by simp) ?_
  refine zc.consL rfl (fun K f=>?_) (zc.consL rfl (fun K f=>?_) zc.nil)
  focus
   refine zP (by rfl) (.tmp 227) (.tmp 231) 142 (by rfl) 228 i0 (.agg #[int i64 0,int i64 0,int i64 0,.bool false]) 4 32 Tryz.underlying142 ii b9 c9 d0 rfl (by decide) M.heap.size _ (by rfl) (by first|exact Nat.le_refl _|omega|(simp;done)|(simp;omega)) (by repeat(first|((with_reducible refine Qa _ _ _ ?_);(first|rfl|(simp;done)))|with_reducible refine zK ?_|with_reducible refine zd ?_ _)) b l.ron d (zw l.ro l.ron) (by rfl) HN.out (qK _ _) (Qv (d3.out _ (by repeat(first|exact bZ|refine Below.drew ?_|refine zk ?_ _)))) (Z5 _ _) (by unfold maxLen;omega) (by omega) ?_;intro p1 q1 u1 P Z H;clear H;have c:Hid (Below M.heap.size M u1):=(by show Below _ _ _;refine ze ?_ (zr P);exact(by repeat(first|exact bZ|refine Below.drew ?_|refine zk ?_ _)));refine f.out _ _ (KS.out _ c.out) (fun hS=>?_)
   clear f K;simp only[Act.put,sB,sZ,sS];refine zj (rs:=[14]) (by kernel_rfl) (by simp) ?_
   refine zc.consL rfl (fun K f=>?_) zc.nil
   focus
    go_simp;refine f.out _ _ (KS.out _ (by repeat(first|exact c.out|exact bZ|refine Below.drew ?_|refine zk ?_ _))) (fun hS=>?_)
    clear f K;simp only[sZ,sS]
  rotate_left 1
  focus
   go_simp;refine f.out _ _ (KS.out _ (by repeat(first|exact c.out|exact bZ|refine Below.drew ?_|refine zk ?_ _))) (fun hS=>?_)
   clear f K;simp only[sZ,sS];refine zj (rs:=[6]) (by kernel_rfl) (by simp) ?_
   refine zc.consL rfl (fun K f=>?_) zc.nil
   focus
    refine zP (by rfl) (.tmp 227) (.tmp 231) 142 (by rfl) 228 i0 (.agg #[int i64 0,int i64 0,int i64 0,.bool false]) 4 32 Tryz.underlying142 ii b9 c9 d0 rfl (by decide) M.heap.size _ (by rfl) (by first|exact Nat.le_refl _|omega|(simp;done)|(simp;omega)) (by repeat(first|((with_reducible refine Qa _ _ _ ?_);(first|rfl|(simp;done)))|with_reducible refine zK ?_|with_reducible refine zd ?_ _)) b l.ron d (zw l.ro l.ron) (by rfl) HN.out (qK _ _) (Qv (d3.out _ (by repeat(first|exact bZ|refine Below.drew ?_|refine zk ?_ _)))) (Z5 _ _) (by unfold maxLen;omega) (by omega) ?_;intro p1 q1 u1 P Z H;clear H;have c:Hid (Below M.heap.size M u1):=(by show Below _ _ _;refine ze ?_ (zr P);exact(by repeat(first|exact bZ|refine Below.drew ?_|refine zk ?_ _)));refine f.out _ _ (KS.out _ c.out) (fun hS=>?_)
    clear f K;simp only[Act.put,sB,sZ,sS]
 rotate_left 2
 focus
  go_simp;refine f.out _ _ (KS.out _ (by repeat(first|exact c.out|exact bZ|refine Below.drew ?_|refine zk ?_ _))) (fun hS=>?_)
  clear f K;simp only[sZ,sS];refine zj (rs:=[1]) (by kernel_rfl) (by simp) ?_
  refine zc.consL rfl (fun K f=>?_) zc.nil
  focus
   go_simp;refine f.out _ _ (KS.out _ (by repeat(first|exact c.out|exact bZ|refine Below.drew ?_|refine zk ?_ _))) (fun hS=>?_)
   clear f K;simp only[sZ,sS];refine zj (rs:=[6]) (by kernel_rfl) (by simp) ?_
   refine zc.consL rfl (fun K f=>?_) zc.nil
   focus
    refine zP (by rfl) (.tmp 227) (.tmp 231) 142 (by rfl) 228 i0 (.agg #[int i64 0,int i64 0,int i64 0,.bool false]) 4 32 Tryz.underlying142 ii b9 c9 d0 rfl (by decide) M.heap.size _ (by rfl) (by first|exact Nat.le_refl _|omega|(simp;done)|(simp;omega)) (by repeat(first|((with_reducible refine Qa _ _ _ ?_);(first|rfl|(simp;done)))|with_reducible refine zK ?_|with_reducible refine zd ?_ _)) b l.ron d (zw l.ro l.ron) (by rfl) HN.out (qK _ _) (Qv (d3.out _ (by repeat(first|exact bZ|refine Below.drew ?_|refine zk ?_ _)))) (Z5 _ _) (by unfold maxLen;omega) (by omega) ?_;intro p1 q1 u1 P Z H;clear H;have c:Hid (Below M.heap.size M u1):=(by show Below _ _ _;refine ze ?_ (zr P);exact(by repeat(first|exact bZ|refine Below.drew ?_|refine zk ?_ _)));refine f.out _ _ (KS.out _ c.out) (fun hS=>?_)
    clear f K;simp only[Act.put,sB,sZ,sS]
 all_goals
  refine zj (rs:=[15]) (by kernel_rfl) (by simp) ?_
  refine zc.consL rfl (fun K f=>?_) zc.nil
  refine step_append_lies _ (by rfl) (.tmp 232) (.tmp 240) 142 (by rfl) M.heap.size 228 i0 (.agg #[int i64 0,int i64 0,int i64 0,.bool false]) 4 32 Tryz.underlying142 ii b9 c9 d0 rfl (by decide) _ l.ron (zw l.ro l.ron) (by rfl) (by first|exact Z|exact Z.alloc _|exact zo (zk bZ _) Z) _ 1 1 [int i64 who,int i64 (m:Int),int i64 (s.ca.B m),.bool true] (by rfl) (by rfl) (by refine World.news_of_block (cs:=#[int i64 who,int i64 (m:Int),int i64 (s.ca.B m),.bool true]) (t:=228) (fr:=(0,0)) ?_;exact(by repeat(first|((with_reducible refine Qa _ _ _ ?_);(first|rfl|(simp;done)))|with_reducible refine zK ?_|with_reducible refine zd ?_ _|with_reducible refine zb ?_ (zr P)))) (by intro u hu;simp at hu;rcases hu with rfl|rfl|rfl|rfl <;> rfl) (by decide) (by unfold maxLen;omega) (by omega) (by first|exact c.out.size|(have:=c.out.size;simp;omega)) _ rfl ?_;intro g2 i7 u2 i6 i5 i8 i9;refine(fun (a8:Hid (Below M.heap.size M u2))=>?_) (Below.grown ?_ i5 ?_ (fun j hj=>(Z.lt j hj).1));rotate_left;(focus(repeat(first|exact bZ|refine Below.drew ?_|refine zk ?_ _|refine ze ?_ (zr P))));(focus(first|exact c.out.size|(have:=c.out.size;simp;omega)));have q0:=(a8.out.cell (p:=⟨y,k*3+1,none⟩) (zM O)).trans g1;have q1:=zg (zb O a8.out) (k*3+1);refine f.out _ _ (KS.out _ a8.out) (fun hS=>?_)
  clear f K;simp only[Act.put,sB,sZ,sS]
  (refine tkL 16 (v:=?_) rfl (by kernel_rfl) (fun _ _ _ h=>h) rfl (by assumption) ?_ ?_;rotate_left;(focus(intro w' h;(try dsimp only at h);go_simp;try with_reducible rfl));simp only[Act.put,sB,sZ,sS])
  (refine tkL 17 (v:=?_) rfl (by kernel_rfl) (fun _ _ _ h=>h) rfl (by assumption) ?_ ?_;rotate_left;(focus(intro w' h;(try dsimp only at h);go_simp;try with_reducible rfl));simp only[Act.put,sB,sZ,sS])
  refine zj (rs:=[18]) (by kernel_rfl) (by simp) ?_
  refine zc.lastL rfl (fun K f=>?_)
  go_simp;refine f.out _ _ ?_;clear f K;refine zX (by kernel_rfl) ?_ _
  have HF:Hid _:=doRo (k:=k) (n:=l.ron+1) (T:=ZE l.ro l.ron (fun _=>⟨who,(m:Int),s.ca.B m,true⟩)) (v:=⟨leg,1,false,who,⟨pe,len,hei,cl,true,be⟩⟩) HO.out HQ.out g9.out (ze i a8.out) (zu (by rw[zfA,Q6,show zw (fun _=>(⟨who,(m:Int),s.ca.B m,true⟩:qN)) 0=[] from rfl,List.nil_append];exact i6) i.size) (by rw[d2.out,d5.out];exact .addWhole m rfl rfl rfl (by rw[← d5.out,← d2.out];exact b1.out))
  go_wp2;go_ret;exact HF.out
theorem l7Do_f (g base N R k a0 a8 d5:Nat)(d3 d2 d1:Option Addr)(leg who:Int)(pe len hei cl be:Int)(x:Off)(L C A B D E:Nat->Value)(w:World)(hq:w.heap[g]?=some (.cells #[.slice d3 N a0,.slice d2 N a8,.slice d1 R d5] 38 (0,0)))(S:zF w base (.slice d3 N a0) (.slice d2 N a8) (.slice d1 R d5) N N R x L C A B D E)(hN:N<=1048576)(hk:zW x.sa leg N=k)(O:k<N)(e9:qm (x.sa k) (x.ld k)) :
  Calls Tryz.prog 92 #[.pointer (some ⟨g,0,none⟩),.agg #[int i64 leg,int i64 1,.bool false,int i64 who,int i64 pe,int i64 len,int i64 hei,int i64 cl,.bool false,int i64 be]] w fun e w'=>zfW g base N R k a0 a8 d5 d3 d2 d1 ⟨leg,1,false,who,⟨pe,len,hei,cl,false,be⟩⟩ x L C E w e w':=by
 obtain⟨i0,ii,b4,b5,b6⟩:=info_parts Tryz.infoRoom;obtain⟨i,rfl,h0,b2⟩:=qh S.ld.row (by omega)
 have HO:=hI S;have HK:=hI hk;have a4:=hI e9;have g4:Hid (base<=w.heap.size):=by show base<=w.heap.size;omega
 have HQ:=hI hq;have b7:=hI S.sa.at;obtain⟨cs,e8⟩:=zA S.ld.row i rfl;obtain⟨a7,b1,eA,m1,m2,m3⟩:=zp (S.ld.st k O);obtain⟨d,f,eB,m4,m5,m6⟩:=zp (S.ld.ro k O);obtain⟨a6,a9,eD,m7,m8,m9⟩:=zp (S.ld.se k O);have g9:Hid (w.ownsRow base 220 4 (.slice a7 (x.ld k).stn b1) (x.ld k).stn (zy (x.ld k).st (x.ld k).stn)):=by show w.ownsRow _ _ _ _ _ _;rw[← eA];exact S.ld.st k O
 have d0:Hid (w.ownsRow base 228 4 (.slice d (x.ld k).ron f) (x.ld k).ron (zw (x.ld k).ro (x.ld k).ron)):=by show w.ownsRow _ _ _ _ _ _;rw[← eB];exact S.ld.ro k O
 have g8:Hid (w.ownsRow base 234 2 (.slice a6 (x.ld k).sen a9) (x.ld k).sen (zB (x.ld k).se (x.ld k).sen)):=by show w.ownsRow _ _ _ _ _ _;rw[← eD];exact S.ld.se k O
 have e0:Hid (w.cell? ⟨i,k*3,none⟩=some (.slice a7 (x.ld k).stn b1)):=by
  have h:=zs S.ld.row (k*3+0) (by omega) rfl
  rw[zC 3 _ k 0 (by decide)] at h
  rw[← eA];exact h
 have b8:Hid (w.cell? ⟨i,k*3+1,none⟩=some (.slice d (x.ld k).ron f)):=by
  have h:=zs S.ld.row (k*3+1) (by omega) rfl
  rw[zC 3 _ k 1 (by decide)] at h
  rw[← eB];exact h
 have e2:Hid (w.cell? ⟨i,k*3+2,none⟩=some (.slice a6 (x.ld k).sen a9)):=by
  have h:=zs S.ld.row (k*3+2) (by omega) rfl
  rw[zC 3 _ k 2 (by decide)] at h
  rw[← eD];exact h
 have e3:Hid ((a7=none->(x.ld k).stn=0/\b1=0)/\(d=none->(x.ld k).ron=0/\f=0)/\(a6=none->(x.ld k).sen=0/\a9=0)):=⟨m3,m6,m9⟩;obtain⟨s,b3⟩:∃ s,s=x.sa k:=⟨_,rfl⟩;obtain⟨l,d9⟩:∃ l,l=x.ld k:=⟨_,rfl⟩;rw[← d9] at g9 d0 g8 e0 b8 e2 e3 a4;rw[← b3] at a4;have e5:=hI b3;have b9:=hI d9;have g6:=hI e8;obtain⟨a,I,la,lc,ca,cc,rfl,f0,f1,f2,f3,f4,f5,f6,f7,d8,d7,g3,g1⟩:=b7.out k O;rw[← b3] at f0 f1 f2 f3 f4 f5 f6 f7 d8 d7 g3 g1;have g7:Hid (zG w la s.la/\zG w ca s.ca):=⟨d8,d7⟩;have g5:Hid (∀ W,Below w.heap.size w W->W.cell? ⟨a,I+k*8,none⟩=some (int i64 s.id)/\W.cell? ⟨a,I+k*8+1,none⟩=some (.string s.fr)/\W.cell? ⟨a,I+k*8+2,none⟩=some (.string s.dst)/\W.cell? ⟨a,I+k*8+3,none⟩=some (int i64 s.dep)/\W.cell? ⟨a,I+k*8+4,none⟩=some (int i64 s.arr)/\W.cell? ⟨a,I+k*8+5,none⟩=some (.slice la s.la.n lc)/\W.cell? ⟨a,I+k*8+6,none⟩=some (.slice ca s.ca.n cc)/\W.cell? ⟨a,I+k*8+7,none⟩=some (int i64 s.most)):=fun W hb=>by
  have H:=World.block_lt_of_cell? w _ f0;exact⟨(hb.cell (p:=⟨a,I+k*8,none⟩) H).trans f0,(hb.cell (p:=⟨a,I+k*8+1,none⟩) H).trans f1,(hb.cell (p:=⟨a,I+k*8+2,none⟩) H).trans f2,(hb.cell (p:=⟨a,I+k*8+3,none⟩) H).trans f3,(hb.cell (p:=⟨a,I+k*8+4,none⟩) H).trans f4,(hb.cell (p:=⟨a,I+k*8+5,none⟩) H).trans f5,(hb.cell (p:=⟨a,I+k*8+6,none⟩) H).trans f6,(hb.cell (p:=⟨a,I+k*8+7,none⟩) H).trans f7⟩
 clear f0 f1 f2 f3 f4 f5 f6 f7 d8 d7 g3 g1 b3 d9 e8 eA eB eD m1 m2 m3 m4 m5 m6 m7 m8 m9 e9 hk h0;have i1:(0:Int)<=(k:Int):=by omega
 have i2:(k:Int)<(N:Int):=by omega
 have a1:Below w.heap.size w (w.alloc (.cells #[int i64 leg,int i64 1,.bool false,int i64 who,int i64 pe,int i64 len,int i64 hei,int i64 cl,.bool false,int i64 be] 159)):=zk bZ _;have b0:=heap_alloc_new w (.cells #[int i64 leg,int i64 1,.bool false,int i64 who,int i64 pe,int i64 len,int i64 hei,int i64 cl,.bool false,int i64 be] 159);go_enter Tryz.func92,Tryz.ntmps92;go_upto_region 1 with fail;generalize (w.alloc (.cells #[int i64 leg,int i64 1,.bool false,int i64 who,int i64 pe,int i64 len,int i64 hei,int i64 cl,.bool false,int i64 be] 159))=W at a1 b0 ⊢;have z0:∀ G:zn W,G.val.cell? ⟨g,0,none⟩=some (.slice (some ⟨a,I,none⟩) N a0):=fun G=>za (zb HQ.out (ze a1 G.bel)) 0 _ rfl
 have z1:∀ G:zn W,G.val.cell? ⟨w.heap.size,0,none⟩=some (int i64 leg):=fun G=>za (zb b0 G.bel) 0 _ rfl
 refine zh (by kernel_rfl) (by kernel_rfl) ?_
 repeat(first|go_big_quiet_skip|(go_big_quiet_want;go_big_quiet_op;first|go_big_quiet_on|(apply Exists.intro;refine⟨fun G=>?_,?_⟩;(focus(first|(go_at_call 161;refine zf (v:=int i64 (k:Int)) ((Q9 _ N a0 x.sa leg _ hN (b7.out.below (ze a1 G.bel))).mono ?_);rintro e w2 ⟨he,d6⟩;refine⟨?_,d6⟩;rw[HK.out] at he;rcases he with⟨_,rfl⟩|⟨h,_⟩;rfl;omega)));go_big_quiet_on)))
 refine wpQuiet_nil ?_;rintro _ ⟨G,rfl⟩;clear z0 z1;have a2:=ze a1 G.bel;have bW:=zb b0 G.bel;obtain⟨c0,c1,c2,c3,c4,c5,c6,c7⟩:=g5.out G.val a2;have y0:=za (zb HQ.out a2) 0 _ rfl;have y1:∀ o,(G.val.alloc o).cell? ⟨g,1,none⟩=some (.slice (some ⟨i,0,none⟩) N a8):=fun o=>za (zb HQ.out (zk a2 o)) 1 _ rfl
 have y4:∀ o,(G.val.alloc o).cell? ⟨w.heap.size,4,none⟩=some (int i64 pe):=fun o=>za (zd bW o) 4 _ rfl
 have y5:∀ o,(G.val.alloc o).cell? ⟨w.heap.size,5,none⟩=some (int i64 len):=fun o=>za (zd bW o) 5 _ rfl
 have y6:∀ o,(G.val.alloc o).cell? ⟨w.heap.size,6,none⟩=some (int i64 hei):=fun o=>za (zd bW o) 6 _ rfl
 have y7:∀ o,(G.val.alloc o).cell? ⟨w.heap.size,7,none⟩=some (int i64 cl):=fun o=>za (zd bW o) 7 _ rfl
 have y8:∀ o,(G.val.alloc o).cell? ⟨w.heap.size,8,none⟩=some (.bool false):=fun o=>za (zd bW o) 8 _ rfl
 have y9:∀ o,(G.val.alloc o).cell? ⟨w.heap.size,9,none⟩=some (int i64 be):=fun o=>za (zd bW o) 9 _ rfl
 go_upto_region 8 with fail;have q:Below w.heap.size w ((G.val.alloc (.cells #[int i64 s.id,.string s.fr,.string s.dst,int i64 s.dep,int i64 s.arr,.slice la s.la.n lc,.slice ca s.ca.n cc,int i64 s.most] 140)).alloc (.cells #[int i64 pe,int i64 len,int i64 hei,int i64 cl,.bool false,int i64 be] 45)):=zk (zk a2 _) _;have Q:=zd (zd bW (.cells #[int i64 s.id,.string s.fr,.string s.dst,int i64 s.dep,int i64 s.arr,.slice la s.la.n lc,.slice ca s.ca.n cc,int i64 s.most] 140)) (.cells #[int i64 pe,int i64 len,int i64 hei,int i64 cl,.bool false,int i64 be] 45);have Z:=zd (heap_alloc_new G.val (.cells #[int i64 s.id,.string s.fr,.string s.dst,int i64 s.dep,int i64 s.arr,.slice la s.la.n lc,.slice ca s.ca.n cc,int i64 s.most] 140)) (.cells #[int i64 pe,int i64 len,int i64 hei,int i64 cl,.bool false,int i64 be] 45);have P:=zfT G.val (.cells #[int i64 s.id,.string s.fr,.string s.dst,int i64 s.dep,int i64 s.arr,.slice la s.la.n lc,.slice ca s.ca.n cc,int i64 s.most] 140) (.cells #[int i64 pe,int i64 len,int i64 hei,int i64 cl,.bool false,int i64 be] 45);generalize hx0:(G.val.alloc (.cells #[int i64 s.id,.string s.fr,.string s.dst,int i64 s.dep,int i64 s.arr,.slice la s.la.n lc,.slice ca s.ca.n cc,int i64 s.most] 140)).alloc (.cells #[int i64 pe,int i64 len,int i64 hei,int i64 cl,.bool false,int i64 be] 45)=X at q Q Z P ⊢;generalize hsb:G.val.heap.size=sb at Z P ⊢;clear c0 c1 c2 c3 c4 c5 c6 c7 y0 y1 y4 y5 y6 y7 y8 y9 bW a2 a1 b0 hx0 hsb G W;have w1:=za Q 1 _ rfl;have w2:=za Q 2 _ rfl;have w3:=za Q 3 _ rfl;have L0:X.cell? ⟨i,k*3,none⟩=some (.slice a7 l.stn b1):=(q.cell (p:=⟨i,k*3,none⟩) b2).trans e0.out;have L1:X.cell? ⟨i,k*3+1,none⟩=some (.slice d l.ron f):=(q.cell (p:=⟨i,k*3+1,none⟩) b2).trans b8.out;have L2:X.cell? ⟨i,k*3+2,none⟩=some (.slice a6 l.sen a9):=(q.cell (p:=⟨i,k*3+2,none⟩) b2).trans e2.out;have bG:=zb g6.out q;obtain⟨rb,f9⟩:=ziM l.ron s.ca.n (zbN s.ca l.ron l.ro cl be);have a5:=hI f9;clear f9;have s5:∀ G:zn X,G.val.cell? ⟨sb,6,none⟩=some (.slice ca s.ca.n cc):=fun G=>za (zb Z G.bel) 6 _ rfl
 have s6:∀ G:zn X,G.val.cell? ⟨i,k*3+1,none⟩=some (.slice d l.ron f):=fun G=>(G.bel.cell (p:=⟨i,k*3+1,none⟩) (zM bG)).trans L1
 have p1:∀ G:zn X,G.val.cell? ⟨sb+1,3,none⟩=some (int i64 cl):=fun G=>za (zb P G.bel) 3 _ rfl
 have p2:∀ G:zn X,G.val.cell? ⟨sb+1,5,none⟩=some (int i64 be):=fun G=>za (zb P G.bel) 5 _ rfl
 go_upto_region 34 with fail;refine zh (by kernel_rfl) (by kernel_rfl) ?_
 repeat(first|go_big_quiet_skip|(go_big_quiet_want;go_big_quiet_op;first|go_big_quiet_on|(apply Exists.intro;refine⟨fun G=>?_,?_⟩;(focus(first|(go_at_call 167;refine zf (v:=int i64 rb) ((zfH ca d s.ca.n cc l.ron f s.ca l.ro cl be _ rfl a4.out.2.1 (g7.out.2.below (ze q G.bel)) ((QR d0.out).below (ze q G.bel))).mono ?_);rintro e w2 ⟨⟨r',rfl,o1⟩,d6⟩;exact⟨by rw[zcO o1 a5.out],d6⟩)));go_big_quiet_on)))
 refine wpQuiet_nil ?_;rintro _ ⟨G,rfl⟩;have J:=ze q G.bel;have d4:=zb Q G.bel;have e7:=zb Z G.bel;have Y:=zb P G.bel;have V:=zb bG G.bel;clear w1 w2 w3 L0 L1 L2 s5 s6 p1 p2;generalize G.val=W5 at J d4 e7 Y V ⊢;clear q Q Z P bG G X;have r4:=za Y 4 _ rfl;have r5:=za Y 5 _ rfl;obtain⟨r,f8⟩:∃ r,r=rb:=⟨_,rfl⟩;rw[← f8] at a5 ⊢;have e4:=hI a5;clear a5 f8 rb;obtain⟨y,g0⟩:∃ y,y=W5:=⟨_,rfl⟩;rw[← g0] at J d4 e7 Y V r4 r5 ⊢;clear g0 W5
 by_cases hr:r<0
 ·have e1:decide (r<0)=true:=decide_eq_true hr
  have HF:Hid _:=doNo (k:=k) (code:=6) (v:=⟨leg,1,false,who,⟨pe,len,hei,cl,false,be⟩⟩) HO.out HQ.out J (by
   refine .berth rfl rfl rfl ?_;rw[← e5.out,← b9.out]
   rcases e4.out with⟨j,h,_⟩|⟨h,h2⟩
   ·omega
   ·exact .inr ⟨rfl,h2⟩)
  go_wp2;go_ret;exact HF.out
 obtain⟨m,rfl⟩:∃ m:Nat,r=(m:Int):=⟨r.toNat,by omega⟩
 have e1:decide ((m:Int)<0)=false:=decide_eq_false hr;clear hr;go_upto_region 42 with fail;have HN:=hI e3.out.2.1;have c9:Hid (∀ z,Below y.heap.size y z->qp z d l.ron l.ro):=fun z h=>(QR d0.out).below (ze J h)
 have i4:l.ron<=60:=a4.out.2.1.2.1;have e6:y.cell? ⟨i,k*3+1,none⟩=some (.slice d l.ron f):=(J.cell (p:=⟨i,k*3+1,none⟩) b2).trans b8.out;have KS:Hid (∀ z,Below y.heap.size y z->(z.cell? ⟨w.heap.size,3,none⟩=some (int i64 who)/\z.cell? ⟨sb+1,4,none⟩=some (.bool false))/\z.cell? ⟨i,k*3+1,none⟩=some (.slice d l.ron f)):=fun z h=>⟨⟨za (zb d4 h) 3 _ rfl,za (zb Y h) 4 _ rfl⟩,(h.cell (p:=⟨i,k*3+1,none⟩) (zM V)).trans e6⟩
 refine qg 18 19 (fun w'=>(w'.cell? ⟨w.heap.size,3,none⟩=some (int i64 who)/\w'.cell? ⟨sb+1,4,none⟩=some (.bool false))/\w'.cell? ⟨i,k*3+1,none⟩=some (.slice d l.ron f)) rfl (by kernel_rfl) (KS.out _ (Below.drew bZ)) (fun hS=>?_)
 simp only[List.replicate_succ,List.replicate_zero]
 (refine tkL 0 (v:=?_) rfl (by kernel_rfl) (fun _ _ _ h=>h) rfl (by assumption) ?_ ?_;rotate_left;(focus(intro w' h;(try dsimp only at h);go_simp;try with_reducible rfl));simp only[Act.put,sB,sZ,sS])
 (refine tkL 2 (v:=?_) rfl (by kernel_rfl) (fun _ _ _ h=>h) rfl (by assumption) ?_ ?_;rotate_left;(focus(intro w' h;(try dsimp only at h);go_simp;try with_reducible rfl));simp only[Act.put,sB,sZ,sS])
 (refine tkL 3 (v:=?_) rfl (by kernel_rfl) (fun _ _ _ h=>h) rfl (by assumption) ?_ ?_;rotate_left;(focus(intro w' h;(try dsimp only at h);go_simp;try with_reducible rfl));simp only[Act.put,sB,sZ,sS])
 (refine tkL 4 (v:=?_) rfl (by kernel_rfl) (fun _ _ _ h=>h) rfl (by assumption) ?_ ?_;rotate_left;(focus(intro w' h;(try dsimp only at h);go_simp;try with_reducible rfl));simp only[Act.put,sB,sZ,sS])
 (refine tkL 5 (v:=?_) rfl (by kernel_rfl) (fun _ _ _ h=>h) rfl (by assumption) ?_ ?_;rotate_left;(focus(intro w' h;(try dsimp only at h);go_simp;try with_reducible rfl));simp only[Act.put,sB,sZ,sS])
 (refine tkL 7 (v:=?_) rfl (by kernel_rfl) (fun _ _ _ h=>h) rfl (by assumption) ?_ ?_;rotate_left;(focus(intro w' h;(try dsimp only at h);go_simp;try with_reducible rfl));simp only[Act.put,sB,sZ,sS])
 (refine tkL 8 (v:=?_) rfl (by kernel_rfl) (fun _ _ _ h=>h) rfl (by assumption) ?_ ?_;rotate_left;(focus(intro w' h;(try dsimp only at h);go_simp;try with_reducible rfl));simp only[Act.put,sB,sZ,sS])
 (refine tkL 9 (v:=?_) rfl (by kernel_rfl) (fun _ _ _ h=>h) rfl (by assumption) ?_ ?_;rotate_left;(focus(intro w' h;(try dsimp only at h);go_simp;try with_reducible rfl));simp only[Act.put,sB,sZ,sS])
 (refine tkL 10 (v:=?_) rfl (by kernel_rfl) (fun _ _ _ h=>h) rfl (by assumption) ?_ ?_;rotate_left;(focus(intro w' h;(try dsimp only at h);go_simp;try with_reducible rfl));simp only[Act.put,sB,sZ,sS])
 (refine tkL 11 (v:=?_) rfl (by kernel_rfl) (fun _ _ _ h=>h) rfl (by assumption) ?_ ?_;rotate_left;(focus(intro w' h;(try dsimp only at h);go_simp;try with_reducible rfl));simp only[Act.put,sB,sZ,sS])
 (refine tkL 12 (v:=?_) rfl (by kernel_rfl) (fun _ _ _ h=>h) rfl (by assumption) ?_ ?_;rotate_left;(focus(intro w' h;(try dsimp only at h);go_simp;try with_reducible rfl));simp only[Act.put,sB,sZ,sS])
 (refine tkL 13 (v:=?_) rfl (by kernel_rfl) (fun _ _ _ h=>h) rfl (by assumption) ?_ ?_;rotate_left;(focus(intro w' h;(try dsimp only at h);go_simp;try with_reducible rfl));simp only[Act.put,sB,sZ,sS])
 refine zj (rs:=[1,14]) (by kernel_rfl) (by simp) ?_
 refine zc.consL rfl (fun K c=>?_) (zc.consL rfl (fun K c=>?_) zc.nil)
 focus
  go_simp;refine c.out _ _ (KS.out _ (by repeat(first|exact b.out|exact bZ|refine Below.drew ?_|refine zk ?_ _))) (fun hS=>?_)
  clear c K;simp only[sZ,sS];refine zj (rs:=[6,14]) (by kernel_rfl) (by simp) ?_
  refine zc.consL rfl (fun K c=>?_) (zc.consL rfl (fun K c=>?_) zc.nil)
  focus
   refine zP (by rfl) (.tmp 227) (.tmp 231) 142 (by rfl) 228 i0 (.agg #[int i64 0,int i64 0,int i64 0,.bool false]) 4 32 Tryz.underlying142 ii b4 b5 b6 rfl (by decide) y.heap.size _ (by rfl) (by first|exact Nat.le_refl _|omega|(simp;done)|(simp;omega)) (by repeat(first|((with_reducible refine Qa _ _ _ ?_);(first|rfl|(simp;done)))|with_reducible refine zK ?_|with_reducible refine zd ?_ _)) d l.ron f (zw l.ro l.ron) (by rfl) HN.out (qK _ _) (Qv (c9.out _ (by repeat(first|exact bZ|refine Below.drew ?_|refine zk ?_ _)))) (Z5 _ _) (by unfold maxLen;omega) (by omega) ?_;intro p1 q1 u1 M U F;clear F;have b:Hid (Below y.heap.size y u1):=(by show Below _ _ _;refine ze ?_ (zr M);exact(by repeat(first|exact bZ|refine Below.drew ?_|refine zk ?_ _)));refine c.out _ _ (KS.out _ b.out) (fun hS=>?_)
   clear c K;simp only[Act.put,sB,sZ,sS];refine zj (rs:=[14]) (by kernel_rfl) (by simp) ?_
   refine zc.consL rfl (fun K c=>?_) zc.nil
   focus
    go_simp;refine c.out _ _ (KS.out _ (by repeat(first|exact b.out|exact bZ|refine Below.drew ?_|refine zk ?_ _))) (fun hS=>?_)
    clear c K;simp only[sZ,sS]
  rotate_left 1
  focus
   go_simp;refine c.out _ _ (KS.out _ (by repeat(first|exact b.out|exact bZ|refine Below.drew ?_|refine zk ?_ _))) (fun hS=>?_)
   clear c K;simp only[sZ,sS];refine zj (rs:=[6]) (by kernel_rfl) (by simp) ?_
   refine zc.consL rfl (fun K c=>?_) zc.nil
   focus
    refine zP (by rfl) (.tmp 227) (.tmp 231) 142 (by rfl) 228 i0 (.agg #[int i64 0,int i64 0,int i64 0,.bool false]) 4 32 Tryz.underlying142 ii b4 b5 b6 rfl (by decide) y.heap.size _ (by rfl) (by first|exact Nat.le_refl _|omega|(simp;done)|(simp;omega)) (by repeat(first|((with_reducible refine Qa _ _ _ ?_);(first|rfl|(simp;done)))|with_reducible refine zK ?_|with_reducible refine zd ?_ _)) d l.ron f (zw l.ro l.ron) (by rfl) HN.out (qK _ _) (Qv (c9.out _ (by repeat(first|exact bZ|refine Below.drew ?_|refine zk ?_ _)))) (Z5 _ _) (by unfold maxLen;omega) (by omega) ?_;intro p1 q1 u1 M U F;clear F;have b:Hid (Below y.heap.size y u1):=(by show Below _ _ _;refine ze ?_ (zr M);exact(by repeat(first|exact bZ|refine Below.drew ?_|refine zk ?_ _)));refine c.out _ _ (KS.out _ b.out) (fun hS=>?_)
    clear c K;simp only[Act.put,sB,sZ,sS]
 rotate_left 2
 focus
  go_simp;refine c.out _ _ (KS.out _ (by repeat(first|exact b.out|exact bZ|refine Below.drew ?_|refine zk ?_ _))) (fun hS=>?_)
  clear c K;simp only[sZ,sS];refine zj (rs:=[1]) (by kernel_rfl) (by simp) ?_
  refine zc.consL rfl (fun K c=>?_) zc.nil
  focus
   go_simp;refine c.out _ _ (KS.out _ (by repeat(first|exact b.out|exact bZ|refine Below.drew ?_|refine zk ?_ _))) (fun hS=>?_)
   clear c K;simp only[sZ,sS];refine zj (rs:=[6]) (by kernel_rfl) (by simp) ?_
   refine zc.consL rfl (fun K c=>?_) zc.nil
   focus
    refine zP (by rfl) (.tmp 227) (.tmp 231) 142 (by rfl) 228 i0 (.agg #[int i64 0,int i64 0,int i64 0,.bool false]) 4 32 Tryz.underlying142 ii b4 b5 b6 rfl (by decide) y.heap.size _ (by rfl) (by first|exact Nat.le_refl _|omega|(simp;done)|(simp;omega)) (by repeat(first|((with_reducible refine Qa _ _ _ ?_);(first|rfl|(simp;done)))|with_reducible refine zK ?_|with_reducible refine zd ?_ _)) d l.ron f (zw l.ro l.ron) (by rfl) HN.out (qK _ _) (Qv (c9.out _ (by repeat(first|exact bZ|refine Below.drew ?_|refine zk ?_ _)))) (Z5 _ _) (by unfold maxLen;omega) (by omega) ?_;intro p1 q1 u1 M U F;clear F;have b:Hid (Below y.heap.size y u1):=(by show Below _ _ _;refine ze ?_ (zr M);exact(by repeat(first|exact bZ|refine Below.drew ?_|refine zk ?_ _)));refine c.out _ _ (KS.out _ b.out) (fun hS=>?_)
    clear c K;simp only[Act.put,sB,sZ,sS]
 all_goals
  refine zj (rs:=[15]) (by kernel_rfl) (by simp) ?_
  refine zc.consL rfl (fun K c=>?_) zc.nil
  refine step_append_lies _ (by rfl) (.tmp 232) (.tmp 240) 142 (by rfl) y.heap.size 228 i0 (.agg #[int i64 0,int i64 0,int i64 0,.bool false]) 4 32 Tryz.underlying142 ii b4 b5 b6 rfl (by decide) _ l.ron (zw l.ro l.ron) (by rfl) (by first|exact U|exact U.alloc _|exact zo (zk bZ _) U) _ 1 1 [int i64 who,int i64 (m:Int),int i64 (be),.bool false] (by rfl) (by rfl) (by refine World.news_of_block (cs:=#[int i64 who,int i64 (m:Int),int i64 (be),.bool false]) (t:=228) (fr:=(0,0)) ?_;exact(by repeat(first|((with_reducible refine Qa _ _ _ ?_);(first|rfl|(simp;done)))|with_reducible refine zK ?_|with_reducible refine zd ?_ _|with_reducible refine zb ?_ (zr M)))) (by intro u hu;simp at hu;rcases hu with rfl|rfl|rfl|rfl <;> rfl) (by decide) (by unfold maxLen;omega) (by omega) (by first|exact b.out.size|(have:=b.out.size;simp;omega)) _ rfl ?_;intro g2 h6 u2 h5 h4 h7 i3;refine(fun (a3:Hid (Below y.heap.size y u2))=>?_) (Below.grown ?_ h4 ?_ (fun j hj=>(U.lt j hj).1));rotate_left;(focus(repeat(first|exact bZ|refine Below.drew ?_|refine zk ?_ _|refine ze ?_ (zr M))));(focus(first|exact b.out.size|(have:=b.out.size;simp;omega)));have q0:=(a3.out.cell (p:=⟨i,k*3+1,none⟩) (zM V)).trans e6;have q1:=zg (zb V a3.out) (k*3+1);refine c.out _ _ (KS.out _ a3.out) (fun hS=>?_)
  clear c K;simp only[Act.put,sB,sZ,sS]
  (refine tkL 16 (v:=?_) rfl (by kernel_rfl) (fun _ _ _ h=>h) rfl (by assumption) ?_ ?_;rotate_left;(focus(intro w' h;(try dsimp only at h);go_simp;try with_reducible rfl));simp only[Act.put,sB,sZ,sS])
  (refine tkL 17 (v:=?_) rfl (by kernel_rfl) (fun _ _ _ h=>h) rfl (by assumption) ?_ ?_;rotate_left;(focus(intro w' h;(try dsimp only at h);go_simp;try with_reducible rfl));simp only[Act.put,sB,sZ,sS])
  refine zj (rs:=[18]) (by kernel_rfl) (by simp) ?_
  refine zc.lastL rfl (fun K c=>?_)
  go_simp;refine c.out _ _ ?_;clear c K;refine zX (by kernel_rfl) ?_ _
  have HF:Hid _:=doRo (k:=k) (n:=l.ron+1) (T:=ZE l.ro l.ron (fun _=>⟨who,(m:Int),be,false⟩)) (v:=⟨leg,1,false,who,⟨pe,len,hei,cl,false,be⟩⟩) HO.out HQ.out g4.out (ze J a3.out) (zu (by rw[zfA,Q6,show zw (fun _=>(⟨who,(m:Int),be,false⟩:qN)) 0=[] from rfl,List.nil_append];exact h5) J.size) (by rw[b9.out];exact .addBerth m rfl rfl rfl (by rw[← e5.out,← b9.out];exact e4.out))
  go_wp2;go_ret;exact HF.out
theorem zfv (l:Option Addr)(n c:Nat)(S:Nat->Qe)(x:Int)(w:World)(hn:n<=1048576)(s:qE w l n S) :
  Calls Tryz.prog 154 #[.slice l n c,int i64 x] w fun e w'=>qX (Has (zag S) n x) e/\Below w.heap.size w w':=by
 go_enter Tryz.func154,Tryz.ntmps154;go_wp2;go_loopw [6,9] (fun _ i wr=>∃ k:Nat,k<=n/\i=int i64 k/\(∀ j,j<k->zag S j≠x)/\Below w.heap.size w wr) (fun _ i _=>n - (intOf i).toNat)
 case atStart=>exact⟨0,Nat.zero_le _,rfl,fun j r=>by omega,bZ⟩
 case round =>
  obtain⟨k,hk,rfl,d,a⟩:=hrel;have h:=hI d;clear d
  by_cases hlt2:k<n
  ·obtain⟨b,off,rfl,g,h1⟩:=s k hlt2
   have m:=World.block_lt_of_cell? w _ g;have c0:=(a.cell (p:=⟨b,off+k*2,none⟩) m).trans g;have c1:=(a.cell (p:=⟨b,off+k*2+1,none⟩) m).trans h1;clear g h1
   by_cases he:zag S k=x
   ·have q:((S k).who == x)=true:=by unfold zag at he;simpa using he
    have f:Hid (Has (zag S) n x):=⟨k,hlt2,he⟩;clear he;go_wp2;go_ret;exact⟨zR f.out,zk a _⟩
   ·have q:((S k).who == x)=false:=by unfold zag at he;simpa using he
    have o:=hI he;clear he;go_wp2;go_roundw
    case rel=>exact⟨k+1,by omega,by go_num,fun j r=>by
     by_cases e:j=k
     ·subst e;exact o.out
     ·exact h.out j (by omega),zk a _⟩
    case measure=>simp[intOf];omega
  ·obtain rfl:k=n:=by omega
   have f:=hI (zdp h.out);go_wp2;go_ret;exact⟨zl f.out,a⟩
theorem zcY (bo:Option Addr)(n c:Nat)(S:Nat->Qe)(w:World)(hn:n<=60)(h:∀ j,j<n->In (S j).many 1 20)(m:qE w bo n S) :
  Calls Tryz.prog 155 #[.slice bo n c] w fun e w'=>e=.returned (int i64 (QN S n))/\Below w.heap.size w w':=by
 have f:=hI h;clear h;go_enter Tryz.func155,Tryz.ntmps155;go_wp2;go_loopw [3,5,8] (fun v _ i wr=>∃ k:Nat,k<=n/\i=int i64 k/\v=int i64 (QN S k)/\Below w.heap.size w wr) (fun _ _ i _=>n - (intOf i).toNat)
 case atStart=>exact⟨0,Nat.zero_le _,rfl,rfl,bZ⟩
 case round =>
  obtain⟨k,hk,rfl,rfl,a⟩:=hrel
  by_cases hlt:k<n
  ·obtain⟨b,off,rfl,d,h1⟩:=m k hlt
   have g:=World.block_lt_of_cell? w _ d;have c0:=(a.cell (p:=⟨b,off+k*2,none⟩) g).trans d;have c1:=(a.cell (p:=⟨b,off+k*2+1,none⟩) g).trans h1;clear d h1;have l:IntKind.i64.wrap (QN S k+(S k).many)=QN S (k+1):=by
    have h1:=zek S k (fun j hj=>f.out j (by omega))
    have h2:=f.out k hlt;unfold In at h2;have h3:QN S (k+1)=QN S k+(S k).many:=rfl;rw[h3,IntKind.wrap_i64];omega
   go_wp2;go_roundw
   case rel=>exact⟨k+1,by omega,by go_num,rfl,zk a _⟩
   case measure=>simp[intOf];omega
  ·obtain rfl:k=n:=by omega
   go_wp2;go_ret;exact⟨rfl,a⟩
theorem zji (most:Int)(bo:Option Addr)(n c:Nat)(S:Nat->Qe)(w:World)(hn:n<=2097152)(hc:n<=c)(L:qE w bo n S) :
  Calls Tryz.prog 84 #[int i64 most,.slice bo n c] w fun e w'=>qX (Qx most n S) e/\Below w.heap.size w w':=by
 have t:=hI L;clear L
 by_cases g0:In most 0 500
 ·have J:decide (In most 0 500)=true:=decide_eq_true g0
  have z:=hI g0;clear g0
  by_cases h60:n<=60
  ·have I:decide (60<n)=false:=by simp;omega
   go_enter Tryz.func84,Tryz.ntmps84;go_wp2_with (first|(go_at_call 148;refine sC (zt _ _ _ _) ?_))
   go_loopw [5,6,17] (fun _ _ i wr=>∃ k:Nat,k<=n/\i=int i64 k/\(∀ j,j<k->In (S j).who 1 9999/\¬ Has (zag S) j (S j).who/\In (S j).many 1 20)/\Below w.heap.size w wr) (fun _ _ i _=>n - (intOf i).toNat)
   case atStart=>exact⟨0,Nat.zero_le _,rfl,fun j H=>by omega,bZ⟩
   case round =>
    obtain⟨i,s,rfl,m,a⟩:=hrel;have C:=hI m;clear m J I
    by_cases hlt:i<n
    ·obtain⟨b,off,rfl,F,h1⟩:=t.out i hlt
     have K:=World.block_lt_of_cell? w _ F;have M:=(a.cell (p:=⟨b,off+i*2,none⟩) K).trans F;have c1:=(a.cell (p:=⟨b,off+i*2+1,none⟩) K).trans h1;have d:=heap_alloc_new wr (.cells #[int i64 (S i).who,int i64 (S i).many] 234);have f:=zk a (.cells #[int i64 (S i).who,int i64 (S i).many] 234);clear F h1;go_upto_region 6 with fail;generalize hW:wr.alloc (.cells #[int i64 (S i).who,int i64 (S i).many] 234)=W at d f ⊢;clear hW;have y:wr.heap.size<W.heap.size:=zM d;have z0:∀ g:zn W,g.val.cell? ⟨wr.heap.size,0,none⟩=some (int i64 (S i).who):=fun g=>(g.bel.cell y).trans (za d 0 _ rfl)
     have z1:∀ g:zn W,g.val.cell? ⟨wr.heap.size,1,none⟩=some (int i64 (S i).many):=fun g=>(g.bel.cell y).trans (za d 1 _ rfl)
     have i1:(0:Int)<=(i:Int):=by omega
     have i2:(i:Int)<=(c:Int):=by omega
     clear M c1 d a
     by_cases g1:In (S i).who 1 9999
     ·have u:decide (In (S i).who 1 9999)=true:=decide_eq_true g1
      have A:=hI g1;clear g1
      by_cases g2:Has (zag S) i (S i).who
      ·have r:=hI g2
       clear g2;refine zh (by kernel_rfl) (by kernel_rfl) ?_
       repeat(first|go_big_quiet_skip|(go_big_quiet_want;go_big_quiet_op;first|go_big_quiet_on|(apply Exists.intro;refine⟨fun g=>?_,?_⟩;(focus(first|(go_at_call 89;refine zf (v:=.bool true) ((Qz _ _).mono ?_);rintro e o ⟨rfl,rfl⟩;exact⟨by rw[u],bZ⟩)|(go_at_call 154;refine zf (v:=.bool true) ((zfv _ i c S (S i).who _ (by omega) ((t.out.upto (by omega)).below (ze f g.bel))).mono ?_);rintro e o ⟨⟨bb,rfl,s⟩,l⟩;obtain rfl:=s.2 r.out;exact⟨rfl,l⟩)));go_big_quiet_on)))
       refine wpQuiet_nil ?_;rintro _ ⟨g,rfl⟩;go_wp2;go_ret;exact⟨zl (fun h=>(h.2.2.1 i hlt).2.1 r.out),ze f g.bel⟩
      ·have r:=hI g2
       clear g2
       by_cases g3:In (S i).many 1 20
       ·have E:decide (In (S i).many 1 20)=true:=decide_eq_true g3
        have B:=hI g3;clear g3;refine zh (by kernel_rfl) (by kernel_rfl) ?_
        repeat(first|go_big_quiet_skip|(go_big_quiet_want;go_big_quiet_op;first|go_big_quiet_on|(apply Exists.intro;refine⟨fun g=>?_,?_⟩;(focus(first|(go_at_call 89;refine zf (v:=.bool true) ((Qz _ _).mono ?_);rintro e o ⟨rfl,rfl⟩;exact⟨by rw[u],bZ⟩)|(go_at_call 154;refine zf (v:=.bool false) ((zfv _ i c S (S i).who _ (by omega) ((t.out.upto (by omega)).below (ze f g.bel))).mono ?_);rintro e o ⟨⟨bb,rfl,s⟩,l⟩;obtain rfl:=Bool.eq_false_iff.2 (fun e=>r.out (s.1 e));exact⟨rfl,l⟩)|(go_at_call 148;refine zf (v:=.bool true) ((zt _ _ _ _).mono ?_);rintro e o ⟨rfl,rfl⟩;exact⟨by rw[E],bZ⟩)));go_big_quiet_on)))
        refine wpQuiet_nil ?_;rintro _ ⟨g,rfl⟩;go_wp2;have D:Hid (∀ j,j<i+1->In (S j).who 1 9999/\¬ Has (zag S) j (S j).who/\In (S j).many 1 20):=fun j H=>by
         by_cases e:j=i
         ·subst e;exact⟨A.out,r.out,B.out⟩
         ·exact C.out j (by omega)
        go_roundw
        case rel=>exact⟨i+1,by omega,by go_num,D.out,ze f g.bel⟩
        case measure=>simp[intOf];omega
       ·have E:decide (In (S i).many 1 20)=false:=decide_eq_false g3
        have B:=hI g3;clear g3;refine zh (by kernel_rfl) (by kernel_rfl) ?_
        repeat(first|go_big_quiet_skip|(go_big_quiet_want;go_big_quiet_op;first|go_big_quiet_on|(apply Exists.intro;refine⟨fun g=>?_,?_⟩;(focus(first|(go_at_call 89;refine zf (v:=.bool true) ((Qz _ _).mono ?_);rintro e o ⟨rfl,rfl⟩;exact⟨by rw[u],bZ⟩)|(go_at_call 154;refine zf (v:=.bool false) ((zfv _ i c S (S i).who _ (by omega) ((t.out.upto (by omega)).below (ze f g.bel))).mono ?_);rintro e o ⟨⟨bb,rfl,s⟩,l⟩;obtain rfl:=Bool.eq_false_iff.2 (fun e=>r.out (s.1 e));exact⟨rfl,l⟩)|(go_at_call 148;refine zf (v:=.bool false) ((zt _ _ _ _).mono ?_);rintro e o ⟨rfl,rfl⟩;exact⟨by rw[E],bZ⟩)));go_big_quiet_on)))
        refine wpQuiet_nil ?_;rintro _ ⟨g,rfl⟩;go_wp2;go_ret;exact⟨zl (fun h=>B.out (h.2.2.1 i hlt).2.2),ze f g.bel⟩
     ·have u:decide (In (S i).who 1 9999)=false:=decide_eq_false g1
      have A:=hI g1;clear g1;refine zh (by kernel_rfl) (by kernel_rfl) ?_
      repeat(first|go_big_quiet_skip|(go_big_quiet_want;go_big_quiet_op;first|go_big_quiet_on|(apply Exists.intro;refine⟨fun g=>?_,?_⟩;(focus(first|(go_at_call 89;refine zf (v:=.bool false) ((Qz _ _).mono ?_);rintro e o ⟨rfl,rfl⟩;exact⟨by rw[u],bZ⟩)));go_big_quiet_on)))
      refine wpQuiet_nil ?_;rintro _ ⟨g,rfl⟩;go_wp2;go_ret;exact⟨zl (fun h=>A.out (h.2.2.1 i hlt).1),ze f g.bel⟩
    ·obtain rfl:i=n:=by omega
     go_wp2_with fail;refine(zcY bo i c S _ h60 (fun j H=>(C.out j H).2.2) (t.out.below a)).mono ?_
     rintro e w2 ⟨rfl,G⟩;have x:=ze a G
     by_cases hle:QN S i<=most
     ·have N:decide (QN S i<=most)=true:=decide_eq_true hle
      have q:=hI hle;clear hle;go_wp2;go_ret;exact⟨zR ⟨z.out,h60,C.out,q.out⟩,x⟩
     ·have N:decide (QN S i<=most)=false:=decide_eq_false hle
      have q:=hI hle;clear hle;go_wp2;go_ret;exact⟨zl (fun h=>by have:=q.out;have:=h.2.2.2;omega),x⟩
  ·have I:decide (60<n)=true:=by simp;omega
   go_enter Tryz.func84,Tryz.ntmps84;go_wp2_with (first|(go_at_call 148;refine sC (zt _ _ _ _) ?_))
   go_ret;exact⟨zl (fun h=>h60 h.2.1),bZ⟩
 ·have J:decide (In most 0 500)=false:=decide_eq_false g0
  have z:=hI g0;clear g0;go_enter Tryz.func84,Tryz.ntmps84;go_wp2_with (first|(go_at_call 148;refine sC (zt _ _ _ _) ?_))
  go_ret;exact⟨zl (fun h=>z.out h.1),bZ⟩
theorem l7Do_g (g base N R k a5 b2 d8:Nat)(d7 d6 d5:Option Addr)(leg who:Int)(p:Qh)(x:Off)(L C A B D E:Nat->Value)(w:World)(hq:w.heap[g]?=some (.cells #[.slice d7 N a5,.slice d6 N b2,.slice d5 R d8] 38 (0,0)))(ho:zF w base (.slice d7 N a5) (.slice d6 N b2) (.slice d5 R d8) N N R x L C A B D E)(hN:N<=1048576)(hk:zW x.sa leg N=k)(U:k<N)(e8:qm (x.sa k) (x.ld k))(hp:In p.pe 0 20) :
  Calls Tryz.prog 92 #[.pointer (some ⟨g,0,none⟩),.agg #[int i64 leg,int i64 2,.bool false,int i64 who,int i64 p.pe,int i64 p.len,int i64 p.hei,int i64 p.cl,.bool p.all,int i64 p.be]] w fun e w'=>zfW g base N R k a5 b2 d8 d7 d6 d5 ⟨leg,2,false,who,p⟩ x L C E w e w':=by
 obtain⟨i0,ii,b7,b8,b9⟩:=info_parts Tryz.infoSeat;obtain⟨F,rfl,g8,b5⟩:=qh ho.ld.row (by omega)
 have HO:=hI ho;have HK:=hI hk;have I:=hI e8;have g0:Hid (base<=w.heap.size):=by show base<=w.heap.size;omega
 have HQ:=hI hq;have c9:=hI ho.sa.at;obtain⟨cs,e7⟩:=zA ho.ld.row F rfl;obtain⟨b1,b4,eA,m1,m2,m3⟩:=zp (ho.ld.st k U);obtain⟨a9,b3,eB,m4,m5,m6⟩:=zp (ho.ld.ro k U);obtain⟨b,d,eD,m7,m8,m9⟩:=zp (ho.ld.se k U);have g5:Hid (w.ownsRow base 220 4 (.slice b1 (x.ld k).stn b4) (x.ld k).stn (zy (x.ld k).st (x.ld k).stn)):=by show w.ownsRow _ _ _ _ _ _;rw[← eA];exact ho.ld.st k U
 have g4:Hid (w.ownsRow base 228 4 (.slice a9 (x.ld k).ron b3) (x.ld k).ron (zw (x.ld k).ro (x.ld k).ron)):=by show w.ownsRow _ _ _ _ _ _;rw[← eB];exact ho.ld.ro k U
 have a3:Hid (w.ownsRow base 234 2 (.slice b (x.ld k).sen d) (x.ld k).sen (zB (x.ld k).se (x.ld k).sen)):=by show w.ownsRow _ _ _ _ _ _;rw[← eD];exact ho.ld.se k U
 have e3:Hid (w.cell? ⟨F,k*3,none⟩=some (.slice b1 (x.ld k).stn b4)):=by
  have h:=zs ho.ld.row (k*3+0) (by omega) rfl
  rw[zC 3 _ k 0 (by decide)] at h
  rw[← eA];exact h
 have e4:Hid (w.cell? ⟨F,k*3+1,none⟩=some (.slice a9 (x.ld k).ron b3)):=by
  have h:=zs ho.ld.row (k*3+1) (by omega) rfl
  rw[zC 3 _ k 1 (by decide)] at h
  rw[← eB];exact h
 have d2:Hid (w.cell? ⟨F,k*3+2,none⟩=some (.slice b (x.ld k).sen d)):=by
  have h:=zs ho.ld.row (k*3+2) (by omega) rfl
  rw[zC 3 _ k 2 (by decide)] at h
  rw[← eD];exact h
 have e5:Hid ((b1=none->(x.ld k).stn=0/\b4=0)/\(a9=none->(x.ld k).ron=0/\b3=0)/\(b=none->(x.ld k).sen=0/\d=0)):=⟨m3,m6,m9⟩;obtain⟨s,b6⟩:∃ s,s=x.sa k:=⟨_,rfl⟩;obtain⟨l,e1⟩:∃ l,l=x.ld k:=⟨_,rfl⟩;rw[← e1] at g5 g4 a3 e3 e4 d2 e5 I;rw[← b6] at I;have d4:=hI b6;have a2:=hI e1;have g3:=hI e7;obtain⟨a,P,la,lc,ca,cc,rfl,f0,f1,f2,f3,f4,f5,f6,f7,e0,d9,f9,f8⟩:=c9.out k U;rw[← b6] at f0 f1 f2 f3 f4 f5 f6 f7 e0 d9 f9 f8;have h7:Hid (zG w la s.la/\zG w ca s.ca):=⟨e0,d9⟩;have g1:Hid (∀ W,Below w.heap.size w W->W.cell? ⟨a,P+k*8,none⟩=some (int i64 s.id)/\W.cell? ⟨a,P+k*8+1,none⟩=some (.string s.fr)/\W.cell? ⟨a,P+k*8+2,none⟩=some (.string s.dst)/\W.cell? ⟨a,P+k*8+3,none⟩=some (int i64 s.dep)/\W.cell? ⟨a,P+k*8+4,none⟩=some (int i64 s.arr)/\W.cell? ⟨a,P+k*8+5,none⟩=some (.slice la s.la.n lc)/\W.cell? ⟨a,P+k*8+6,none⟩=some (.slice ca s.ca.n cc)/\W.cell? ⟨a,P+k*8+7,none⟩=some (int i64 s.most)):=fun W hb=>by
  have O:=World.block_lt_of_cell? w _ f0;exact⟨(hb.cell (p:=⟨a,P+k*8,none⟩) O).trans f0,(hb.cell (p:=⟨a,P+k*8+1,none⟩) O).trans f1,(hb.cell (p:=⟨a,P+k*8+2,none⟩) O).trans f2,(hb.cell (p:=⟨a,P+k*8+3,none⟩) O).trans f3,(hb.cell (p:=⟨a,P+k*8+4,none⟩) O).trans f4,(hb.cell (p:=⟨a,P+k*8+5,none⟩) O).trans f5,(hb.cell (p:=⟨a,P+k*8+6,none⟩) O).trans f6,(hb.cell (p:=⟨a,P+k*8+7,none⟩) O).trans f7⟩
 clear f0 f1 f2 f3 f4 f5 f6 f7 e0 d9 f9 f8 b6 e1 e7 eA eB eD m1 m2 m3 m4 m5 m6 m7 m8 m9 e8 hk g8;have i1:(0:Int)<=(k:Int):=by omega
 have i2:(k:Int)<(N:Int):=by omega
 have a6:Below w.heap.size w (w.alloc (.cells #[int i64 leg,int i64 2,.bool false,int i64 who,int i64 p.pe,int i64 p.len,int i64 p.hei,int i64 p.cl,.bool p.all,int i64 p.be] 159)):=zk bZ _;have b0:=heap_alloc_new w (.cells #[int i64 leg,int i64 2,.bool false,int i64 who,int i64 p.pe,int i64 p.len,int i64 p.hei,int i64 p.cl,.bool p.all,int i64 p.be] 159);go_enter Tryz.func92,Tryz.ntmps92;go_upto_region 1 with fail;generalize (w.alloc (.cells #[int i64 leg,int i64 2,.bool false,int i64 who,int i64 p.pe,int i64 p.len,int i64 p.hei,int i64 p.cl,.bool p.all,int i64 p.be] 159))=W at a6 b0 ⊢;have z0:∀ G:zn W,G.val.cell? ⟨g,0,none⟩=some (.slice (some ⟨a,P,none⟩) N a5):=fun G=>za (zb HQ.out (ze a6 G.bel)) 0 _ rfl
 have z1:∀ G:zn W,G.val.cell? ⟨w.heap.size,0,none⟩=some (int i64 leg):=fun G=>za (zb b0 G.bel) 0 _ rfl
 refine zh (by kernel_rfl) (by kernel_rfl) ?_
 repeat(first|go_big_quiet_skip|(go_big_quiet_want;go_big_quiet_op;first|go_big_quiet_on|(apply Exists.intro;refine⟨fun G=>?_,?_⟩;(focus(first|(go_at_call 161;refine zf (v:=int i64 (k:Int)) ((Q9 _ N a5 x.sa leg _ hN (c9.out.below (ze a6 G.bel))).mono ?_);rintro e w2 ⟨he,Q⟩;refine⟨?_,Q⟩;rw[HK.out] at he;rcases he with⟨_,rfl⟩|⟨h,_⟩;rfl;omega)));go_big_quiet_on)))
 refine wpQuiet_nil ?_;rintro _ ⟨G,rfl⟩;clear z0 z1;have a7:=ze a6 G.bel;have bW:=zb b0 G.bel;obtain⟨c0,c1,c2,c3,c4,c5,c6,c7⟩:=g1.out G.val a7;have y0:=za (zb HQ.out a7) 0 _ rfl;have y1:∀ o,(G.val.alloc o).cell? ⟨g,1,none⟩=some (.slice (some ⟨F,0,none⟩) N b2):=fun o=>za (zb HQ.out (zk a7 o)) 1 _ rfl
 have y4:∀ o,(G.val.alloc o).cell? ⟨w.heap.size,4,none⟩=some (int i64 p.pe):=fun o=>za (zd bW o) 4 _ rfl
 have y5:∀ o,(G.val.alloc o).cell? ⟨w.heap.size,5,none⟩=some (int i64 p.len):=fun o=>za (zd bW o) 5 _ rfl
 have y6:∀ o,(G.val.alloc o).cell? ⟨w.heap.size,6,none⟩=some (int i64 p.hei):=fun o=>za (zd bW o) 6 _ rfl
 have y7:∀ o,(G.val.alloc o).cell? ⟨w.heap.size,7,none⟩=some (int i64 p.cl):=fun o=>za (zd bW o) 7 _ rfl
 have y8:∀ o,(G.val.alloc o).cell? ⟨w.heap.size,8,none⟩=some (.bool p.all):=fun o=>za (zd bW o) 8 _ rfl
 have y9:∀ o,(G.val.alloc o).cell? ⟨w.heap.size,9,none⟩=some (int i64 p.be):=fun o=>za (zd bW o) 9 _ rfl
 go_upto_region 8 with fail;have i:Below w.heap.size w ((G.val.alloc (.cells #[int i64 s.id,.string s.fr,.string s.dst,int i64 s.dep,int i64 s.arr,.slice la s.la.n lc,.slice ca s.ca.n cc,int i64 s.most] 140)).alloc (.cells #[int i64 p.pe,int i64 p.len,int i64 p.hei,int i64 p.cl,.bool p.all,int i64 p.be] 45)):=zk (zk a7 _) _;have r:=zd (zd bW (.cells #[int i64 s.id,.string s.fr,.string s.dst,int i64 s.dep,int i64 s.arr,.slice la s.la.n lc,.slice ca s.ca.n cc,int i64 s.most] 140)) (.cells #[int i64 p.pe,int i64 p.len,int i64 p.hei,int i64 p.cl,.bool p.all,int i64 p.be] 45);have Z:=zd (heap_alloc_new G.val (.cells #[int i64 s.id,.string s.fr,.string s.dst,int i64 s.dep,int i64 s.arr,.slice la s.la.n lc,.slice ca s.ca.n cc,int i64 s.most] 140)) (.cells #[int i64 p.pe,int i64 p.len,int i64 p.hei,int i64 p.cl,.bool p.all,int i64 p.be] 45);have y:=zfT G.val (.cells #[int i64 s.id,.string s.fr,.string s.dst,int i64 s.dep,int i64 s.arr,.slice la s.la.n lc,.slice ca s.ca.n cc,int i64 s.most] 140) (.cells #[int i64 p.pe,int i64 p.len,int i64 p.hei,int i64 p.cl,.bool p.all,int i64 p.be] 45);generalize hx0:(G.val.alloc (.cells #[int i64 s.id,.string s.fr,.string s.dst,int i64 s.dep,int i64 s.arr,.slice la s.la.n lc,.slice ca s.ca.n cc,int i64 s.most] 140)).alloc (.cells #[int i64 p.pe,int i64 p.len,int i64 p.hei,int i64 p.cl,.bool p.all,int i64 p.be] 45)=X at i r Z y ⊢;generalize hsb:G.val.heap.size=sb at Z y ⊢;clear c0 c1 c2 c3 c4 c5 c6 c7 y0 y1 y4 y5 y6 y7 y8 y9 bW a7 a6 b0 hx0 hsb G W;have w1:=za r 1 _ rfl;have w2:=za r 2 _ rfl;have w3:=za r 3 _ rfl;have L0:X.cell? ⟨F,k*3,none⟩=some (.slice b1 l.stn b4):=(i.cell (p:=⟨F,k*3,none⟩) b5).trans e3.out;have L1:X.cell? ⟨F,k*3+1,none⟩=some (.slice a9 l.ron b3):=(i.cell (p:=⟨F,k*3+1,none⟩) b5).trans e4.out;have L2:X.cell? ⟨F,k*3+2,none⟩=some (.slice b l.sen d):=(i.cell (p:=⟨F,k*3+2,none⟩) b5).trans d2.out;have bG:=zb g3.out i;unfold In at hp;have V:l.sen<=60:=I.out.2.2.2.1;have e9:=zek l.se l.sen (fun j hj=>(I.out.2.2.2.2.1 j hj).2.2)
 obtain⟨q,e2⟩:∃ q,q=QN l.se l.sen:=⟨_,rfl⟩;rw[← e2] at e9;have a4:=hI e2;clear e2;have i3:IntKind.i64.wrap (q+p.pe)=q+p.pe:=by rw[IntKind.wrap_i64];omega
 have s6:∀ G:zn X,G.val.cell? ⟨F,k*3+2,none⟩=some (.slice b l.sen d):=fun G=>(G.bel.cell (p:=⟨F,k*3+2,none⟩) (zM bG)).trans L2
 have s7:∀ G:zn X,G.val.cell? ⟨sb,7,none⟩=some (int i64 s.most):=fun G=>za (zb Z G.bel) 7 _ rfl
 have p0:∀ G:zn X,G.val.cell? ⟨sb+1,0,none⟩=some (int i64 p.pe):=fun G=>za (zb y G.bel) 0 _ rfl
 go_upto_region 5 with fail
 by_cases h60:l.sen=60
 ·have g6:(l.sen == 60)=true:=by simpa using h60
  have g7:((l.sen:Int) == 60)=true:=by simp;omega
  have d0:=hI h60;clear h60;refine zh (by kernel_rfl) (by kernel_rfl) ?_
  repeat(first|go_big_quiet_skip|(go_big_quiet_want;go_big_quiet_op;first|go_big_quiet_on|(apply Exists.intro;refine⟨fun G=>?_,?_⟩;(focus(first|(go_at_call 155;refine zf (v:=int i64 q) ((zcY b l.sen d l.se _ V (fun j hj=>(I.out.2.2.2.2.1 j hj).2.2) ((QS a3.out).below (ze i G.bel))).mono ?_);rintro e w2 ⟨rfl,Q⟩;exact⟨by rw[a4.out],Q⟩)));go_big_quiet_on)))
  refine wpQuiet_nil ?_;rintro _ ⟨G,rfl⟩;have m:=ze i G.bel;have a0:=zb r G.bel;have Y:=zb y G.bel;have J:=zb bG G.bel;clear w1 w2 w3 L0 L1 L2 s6 s7 p0;generalize G.val=H at m a0 Y J ⊢;clear i r Z y bG G X;have HF:Hid _:=doNo (k:=k) (code:=7) (v:=⟨leg,2,false,who,p⟩) HO.out HQ.out m (by
   refine .seats rfl rfl ?_;rw[← d4.out,← a2.out];exact .inl d0.out)
  go_wp2;go_ret;exact HF.out
 have g6:(l.sen == 60)=false:=by simpa using h60
 have g7:((l.sen:Int) == 60)=false:=by simp;omega
 have d0:=hI h60;clear h60
 by_cases hm:s.most<q+p.pe
 ·have d1:decide (s.most<q+p.pe)=true:=decide_eq_true hm
  have HM:=hI hm;clear hm;refine zh (by kernel_rfl) (by kernel_rfl) ?_
  repeat(first|go_big_quiet_skip|(go_big_quiet_want;go_big_quiet_op;first|go_big_quiet_on|(apply Exists.intro;refine⟨fun G=>?_,?_⟩;(focus(first|(go_at_call 155;refine zf (v:=int i64 q) ((zcY b l.sen d l.se _ V (fun j hj=>(I.out.2.2.2.2.1 j hj).2.2) ((QS a3.out).below (ze i G.bel))).mono ?_);rintro e w2 ⟨rfl,Q⟩;exact⟨by rw[a4.out],Q⟩)));go_big_quiet_on)))
  refine wpQuiet_nil ?_;rintro _ ⟨G,rfl⟩;have m:=ze i G.bel;have a0:=zb r G.bel;have Y:=zb y G.bel;have J:=zb bG G.bel;clear w1 w2 w3 L0 L1 L2 s6 s7 p0;generalize G.val=H at m a0 Y J ⊢;clear i r Z y bG G X;have HF:Hid _:=doNo (k:=k) (code:=7) (v:=⟨leg,2,false,who,p⟩) HO.out HQ.out m (by
   refine .seats rfl rfl ?_;rw[← d4.out,← a2.out];exact .inr (by rw[← a4.out];exact HM.out))
  go_wp2;go_ret;exact HF.out
 have d1:decide (s.most<q+p.pe)=false:=decide_eq_false hm;have HM:=hI hm;clear hm;refine zh (by kernel_rfl) (by kernel_rfl) ?_
 repeat(first|go_big_quiet_skip|(go_big_quiet_want;go_big_quiet_op;first|go_big_quiet_on|(apply Exists.intro;refine⟨fun G=>?_,?_⟩;(focus(first|(go_at_call 155;refine zf (v:=int i64 q) ((zcY b l.sen d l.se _ V (fun j hj=>(I.out.2.2.2.2.1 j hj).2.2) ((QS a3.out).below (ze i G.bel))).mono ?_);rintro e w2 ⟨rfl,Q⟩;exact⟨by rw[a4.out],Q⟩)));go_big_quiet_on)))
 refine wpQuiet_nil ?_;rintro _ ⟨G,rfl⟩;have m:=ze i G.bel;have a0:=zb r G.bel;have Y:=zb y G.bel;have J:=zb bG G.bel;clear w1 w2 w3 L0 L1 L2 s6 s7 p0;generalize G.val=H at m a0 Y J ⊢;clear i r Z y bG G X;go_upto_region 7 with fail;have HN:=hI e5.out.2.2;have d3:Hid (∀ z,Below H.heap.size H z->qE z b l.sen l.se):=fun z h=>(QS a3.out).below (ze m h)
 have V:l.sen<=60:=I.out.2.2.2.1;have e6:H.cell? ⟨F,k*3+2,none⟩=some (.slice b l.sen d):=(m.cell (p:=⟨F,k*3+2,none⟩) b5).trans d2.out;have KS:Hid (∀ z,Below H.heap.size H z->(z.cell? ⟨w.heap.size,3,none⟩=some (int i64 who)/\z.cell? ⟨sb+1,0,none⟩=some (int i64 p.pe))/\z.cell? ⟨F,k*3+2,none⟩=some (.slice b l.sen d)):=fun z h=>⟨⟨za (zb a0 h) 3 _ rfl,za (zb Y h) 0 _ rfl⟩,(h.cell (p:=⟨F,k*3+2,none⟩) (zM J)).trans e6⟩
 refine qg 16 17 (fun w'=>(w'.cell? ⟨w.heap.size,3,none⟩=some (int i64 who)/\w'.cell? ⟨sb+1,0,none⟩=some (int i64 p.pe))/\w'.cell? ⟨F,k*3+2,none⟩=some (.slice b l.sen d)) rfl (by kernel_rfl) (KS.out _ (Below.drew bZ)) (fun hS=>?_)
 simp only[List.replicate_succ,List.replicate_zero]
 (refine tkL 0 (v:=?_) rfl (by kernel_rfl) (fun _ _ _ h=>h) rfl (by assumption) ?_ ?_;rotate_left;(focus(intro w' h;(try dsimp only at h);go_simp;try with_reducible rfl));simp only[Act.put,sB,sZ,sS])
 (refine tkL 2 (v:=?_) rfl (by kernel_rfl) (fun _ _ _ h=>h) rfl (by assumption) ?_ ?_;rotate_left;(focus(intro w' h;(try dsimp only at h);go_simp;try with_reducible rfl));simp only[Act.put,sB,sZ,sS])
 (refine tkL 3 (v:=?_) rfl (by kernel_rfl) (fun _ _ _ h=>h) rfl (by assumption) ?_ ?_;rotate_left;(focus(intro w' h;(try dsimp only at h);go_simp;try with_reducible rfl));simp only[Act.put,sB,sZ,sS])
 (refine tkL 4 (v:=?_) rfl (by kernel_rfl) (fun _ _ _ h=>h) rfl (by assumption) ?_ ?_;rotate_left;(focus(intro w' h;(try dsimp only at h);go_simp;try with_reducible rfl));simp only[Act.put,sB,sZ,sS])
 (refine tkL 5 (v:=?_) rfl (by kernel_rfl) (fun _ _ _ h=>h) rfl (by assumption) ?_ ?_;rotate_left;(focus(intro w' h;(try dsimp only at h);go_simp;try with_reducible rfl));simp only[Act.put,sB,sZ,sS])
 (refine tkL 7 (v:=?_) rfl (by kernel_rfl) (fun _ _ _ h=>h) rfl (by assumption) ?_ ?_;rotate_left;(focus(intro w' h;(try dsimp only at h);go_simp;try with_reducible rfl));simp only[Act.put,sB,sZ,sS])
 (refine tkL 8 (v:=?_) rfl (by kernel_rfl) (fun _ _ _ h=>h) rfl (by assumption) ?_ ?_;rotate_left;(focus(intro w' h;(try dsimp only at h);go_simp;try with_reducible rfl));simp only[Act.put,sB,sZ,sS])
 (refine tkL 9 (v:=?_) rfl (by kernel_rfl) (fun _ _ _ h=>h) rfl (by assumption) ?_ ?_;rotate_left;(focus(intro w' h;(try dsimp only at h);go_simp;try with_reducible rfl));simp only[Act.put,sB,sZ,sS])
 (refine tkL 10 (v:=?_) rfl (by kernel_rfl) (fun _ _ _ h=>h) rfl (by assumption) ?_ ?_;rotate_left;(focus(intro w' h;(try dsimp only at h);go_simp;try with_reducible rfl));simp only[Act.put,sB,sZ,sS])
 (refine tkL 11 (v:=?_) rfl (by kernel_rfl) (fun _ _ _ h=>h) rfl (by assumption) ?_ ?_;rotate_left;(focus(intro w' h;(try dsimp only at h);go_simp;try with_reducible rfl));simp only[Act.put,sB,sZ,sS])
 refine zj (rs:=[1,12]) (by kernel_rfl) (by simp) ?_
 refine zc.consL rfl (fun K f=>?_) (zc.consL rfl (fun K f=>?_) zc.nil)
 focus
  go_simp;refine f.out _ _ (KS.out _ (by repeat(first|exact c.out|exact bZ|refine Below.drew ?_|refine zk ?_ _))) (fun hS=>?_)
  clear f K;simp only[sZ,sS];refine zj (rs:=[6,12]) (by kernel_rfl) (by simp) ?_
  refine zc.consL rfl (fun K f=>?_) (zc.consL rfl (fun K f=>?_) zc.nil)
  focus
   refine zP (by rfl) (.tmp 60) (.tmp 64) 143 (by rfl) 234 i0 (.agg #[int i64 0,int i64 0]) 2 16 Tryz.underlying143 ii b7 b8 b9 rfl (by decide) H.heap.size _ (by rfl) (by first|exact Nat.le_refl _|omega|(simp;done)|(simp;omega)) (by repeat(first|((with_reducible refine Qa _ _ _ ?_);(first|rfl|(simp;done)))|with_reducible refine zK ?_|with_reducible refine zd ?_ _)) b l.sen d (zB l.se l.sen) (by rfl) HN.out (Zo _ _) (zaP (d3.out _ (by repeat(first|exact bZ|refine Below.drew ?_|refine zk ?_ _)))) (zar _ _) (by unfold maxLen;omega) (by omega) ?_;intro p1 q1 u1 S a1 M;clear M;have c:Hid (Below H.heap.size H u1):=(by show Below _ _ _;refine ze ?_ (zr S);exact(by repeat(first|exact bZ|refine Below.drew ?_|refine zk ?_ _)));refine f.out _ _ (KS.out _ c.out) (fun hS=>?_)
   clear f K;simp only[Act.put,sB,sZ,sS];refine zj (rs:=[12]) (by kernel_rfl) (by simp) ?_
   refine zc.consL rfl (fun K f=>?_) zc.nil
   focus
    go_simp;refine f.out _ _ (KS.out _ (by repeat(first|exact c.out|exact bZ|refine Below.drew ?_|refine zk ?_ _))) (fun hS=>?_)
    clear f K;simp only[sZ,sS]
  rotate_left 1
  focus
   go_simp;refine f.out _ _ (KS.out _ (by repeat(first|exact c.out|exact bZ|refine Below.drew ?_|refine zk ?_ _))) (fun hS=>?_)
   clear f K;simp only[sZ,sS];refine zj (rs:=[6]) (by kernel_rfl) (by simp) ?_
   refine zc.consL rfl (fun K f=>?_) zc.nil
   focus
    refine zP (by rfl) (.tmp 60) (.tmp 64) 143 (by rfl) 234 i0 (.agg #[int i64 0,int i64 0]) 2 16 Tryz.underlying143 ii b7 b8 b9 rfl (by decide) H.heap.size _ (by rfl) (by first|exact Nat.le_refl _|omega|(simp;done)|(simp;omega)) (by repeat(first|((with_reducible refine Qa _ _ _ ?_);(first|rfl|(simp;done)))|with_reducible refine zK ?_|with_reducible refine zd ?_ _)) b l.sen d (zB l.se l.sen) (by rfl) HN.out (Zo _ _) (zaP (d3.out _ (by repeat(first|exact bZ|refine Below.drew ?_|refine zk ?_ _)))) (zar _ _) (by unfold maxLen;omega) (by omega) ?_;intro p1 q1 u1 S a1 M;clear M;have c:Hid (Below H.heap.size H u1):=(by show Below _ _ _;refine ze ?_ (zr S);exact(by repeat(first|exact bZ|refine Below.drew ?_|refine zk ?_ _)));refine f.out _ _ (KS.out _ c.out) (fun hS=>?_)
    clear f K;simp only[Act.put,sB,sZ,sS]
 rotate_left 2
 focus
  go_simp;refine f.out _ _ (KS.out _ (by repeat(first|exact c.out|exact bZ|refine Below.drew ?_|refine zk ?_ _))) (fun hS=>?_)
  clear f K;simp only[sZ,sS];refine zj (rs:=[1]) (by kernel_rfl) (by simp) ?_
  refine zc.consL rfl (fun K f=>?_) zc.nil
  focus
   go_simp;refine f.out _ _ (KS.out _ (by repeat(first|exact c.out|exact bZ|refine Below.drew ?_|refine zk ?_ _))) (fun hS=>?_)
   clear f K;simp only[sZ,sS];refine zj (rs:=[6]) (by kernel_rfl) (by simp) ?_
   refine zc.consL rfl (fun K f=>?_) zc.nil
   focus
    refine zP (by rfl) (.tmp 60) (.tmp 64) 143 (by rfl) 234 i0 (.agg #[int i64 0,int i64 0]) 2 16 Tryz.underlying143 ii b7 b8 b9 rfl (by decide) H.heap.size _ (by rfl) (by first|exact Nat.le_refl _|omega|(simp;done)|(simp;omega)) (by repeat(first|((with_reducible refine Qa _ _ _ ?_);(first|rfl|(simp;done)))|with_reducible refine zK ?_|with_reducible refine zd ?_ _)) b l.sen d (zB l.se l.sen) (by rfl) HN.out (Zo _ _) (zaP (d3.out _ (by repeat(first|exact bZ|refine Below.drew ?_|refine zk ?_ _)))) (zar _ _) (by unfold maxLen;omega) (by omega) ?_;intro p1 q1 u1 S a1 M;clear M;have c:Hid (Below H.heap.size H u1):=(by show Below _ _ _;refine ze ?_ (zr S);exact(by repeat(first|exact bZ|refine Below.drew ?_|refine zk ?_ _)));refine f.out _ _ (KS.out _ c.out) (fun hS=>?_)
    clear f K;simp only[Act.put,sB,sZ,sS]
 all_goals
  refine zj (rs:=[13]) (by kernel_rfl) (by simp) ?_
  refine zc.consL rfl (fun K f=>?_) zc.nil
  refine step_append_lies _ (by rfl) (.tmp 65) (.tmp 71) 143 (by rfl) H.heap.size 234 i0 (.agg #[int i64 0,int i64 0]) 2 16 Tryz.underlying143 ii b7 b8 b9 rfl (by decide) _ l.sen (zB l.se l.sen) (by rfl) (by first|exact a1|exact a1.alloc _|exact zo (zk bZ _) a1) _ 1 1 [int i64 who,int i64 p.pe] (by rfl) (by rfl) (by refine World.news_of_block (cs:=#[int i64 who,int i64 p.pe]) (t:=234) (fr:=(0,0)) ?_;exact(by repeat(first|((with_reducible refine Qa _ _ _ ?_);(first|rfl|(simp;done)))|with_reducible refine zK ?_|with_reducible refine zd ?_ _|with_reducible refine zb ?_ (zr S)))) (by intro u hu;simp at hu;rcases hu with rfl|rfl <;> rfl) (by decide) (by unfold maxLen;omega) (by omega) (by first|exact c.out.size|(have:=c.out.size;simp;omega)) _ rfl ?_;intro g2 h4 u2 h0 g9 h5 h6;refine(fun (a8:Hid (Below H.heap.size H u2))=>?_) (Below.grown ?_ g9 ?_ (fun j hj=>(a1.lt j hj).1));rotate_left;(focus(repeat(first|exact bZ|refine Below.drew ?_|refine zk ?_ _|refine ze ?_ (zr S))));(focus(first|exact c.out.size|(have:=c.out.size;simp;omega)));have q0:=(a8.out.cell (p:=⟨F,k*3+2,none⟩) (zM J)).trans e6;have q1:=zg (zb J a8.out) (k*3+2);refine f.out _ _ (KS.out _ a8.out) (fun hS=>?_)
  clear f K;simp only[Act.put,sB,sZ,sS]
  (refine tkL 14 (v:=?_) rfl (by kernel_rfl) (fun _ _ _ h=>h) rfl (by assumption) ?_ ?_;rotate_left;(focus(intro w' h;(try dsimp only at h);go_simp;try with_reducible rfl));simp only[Act.put,sB,sZ,sS])
  (refine tkL 15 (v:=?_) rfl (by kernel_rfl) (fun _ _ _ h=>h) rfl (by assumption) ?_ ?_;rotate_left;(focus(intro w' h;(try dsimp only at h);go_simp;try with_reducible rfl));simp only[Act.put,sB,sZ,sS])
  refine zj (rs:=[16]) (by kernel_rfl) (by simp) ?_
  refine zc.lastL rfl (fun K f=>?_)
  go_simp;refine f.out _ _ ?_;clear f K;refine zX (by kernel_rfl) ?_ _
  have HF:Hid _:=doSe (k:=k) (n:=l.sen+1) (T:=zam l.se l.sen (fun _=>⟨who,p.pe⟩)) (v:=⟨leg,2,false,who,p⟩) HO.out HQ.out g0.out (ze m a8.out) (zu (by rw[zjK,zax,show zB (fun _=>(⟨who,p.pe⟩:Qe)) 0=[] from rfl,List.nil_append];exact h0) m.size) (by rw[a2.out];refine .addSeat rfl rfl (by rw[← a2.out];exact d0.out) ?_;rw[← d4.out,← a2.out,← a4.out];have:=HM.out;show q+p.pe<=s.most;omega)
  go_wp2;go_ret;exact HF.out
theorem l7Do_any (g base N R k h f d:Nat)(c b a:Option Addr)(v:Wk)(x:Off)(L C A B D E:Nat->Value)(w:World)(o:w.heap[g]?=some (.cells #[.slice c N h,.slice b N f,.slice a R d] 38 (0,0)))(n:zF w base (.slice c N h) (.slice b N f) (.slice a R d) N N R x L C A B D E)(l:N<=1048576)(m:zW x.sa v.leg N=k)(j:k<N)(i:qm (x.sa k) (x.ld k))(hr:v.res<3)(s:v.goes=true->zfn (x.ld k) v.res v.who)(t:v.goes=false->In v.p.pe 0 20) :
  Calls Tryz.prog 92 #[.pointer (some ⟨g,0,none⟩),.agg #[int i64 v.leg,int i64 (v.res:Int),.bool v.goes,int i64 v.who,int i64 v.p.pe,int i64 v.p.len,int i64 v.p.hei,int i64 v.p.cl,.bool v.p.all,int i64 v.p.be]] w fun e w'=>zfW g base N R k h f d c b a v x L C E w e w':=by
 obtain⟨leg,res,goes,who,p⟩:=v;have hr:res<3:=hr
 cases goes with
 | true =>
  have q:=s rfl;obtain rfl|rfl|rfl:res=0∨res=1∨res=2:=by omega
  ·obtain⟨r,h1,h2,h3⟩:=zcs i.stays_one q
   exact l7Do_a g base N R k h f d c b a leg who p x L C A B D E w o n l m j i r h1 h2 h3
  ·obtain⟨r,h1,h2,h3⟩:=zcs i.rooms_one q
   exact l7Do_b g base N R k h f d c b a leg who p x L C A B D E w o n l m j i r h1 h2 h3
  ·obtain⟨r,h1,h2,h3⟩:=zcs i.seats_one q
   exact l7Do_c g base N R k h f d c b a leg who p x L C A B D E w o n l m j i r h1 h2 h3
 | false =>
  obtain rfl|rfl|rfl:res=0∨res=1∨res=2:=by omega
  ·exact l7Do_d g base N R k h f d c b a leg who p x L C A B D E w o n l m j i
  ·obtain⟨pe,len,hei,cl,all,be⟩:=p
   cases all with
   | true=>exact l7Do_e g base N R k h f d c b a leg who pe len hei cl be x L C A B D E w o n l m j i
   | false=>exact l7Do_f g base N R k h f d c b a leg who pe len hei cl be x L C A B D E w o n l m j i
  ·exact l7Do_g g base N R k h f d c b a leg who p x L C A B D E w o n l m j i (t rfl)
theorem znX {x:Off}{y:OpD}{m:Nat}(h:ZT x.san x.bkn m x y 0)(f:zac y->In y.kind 4 8->y.name=(m:Int)+1):ZZ x y m:=by
 obtain⟨h1,h2,h3,h4⟩:=h;have a:zac y:=by
  by_cases c:zac y
  ·exact c
  ·have:=h1 c;omega
 have d:¬ Qk x.san x y:=fun c=>by have:=h2 a c;omega
 refine⟨a,d,fun e=>?_⟩
 obtain⟨g,i,n3⟩:=h3 a d e;have b:m<x.bkn:=by
  by_cases c:x.bkn<=m
  ·have:=g c;omega
  ·omega
 exact⟨f a e,b,fun c=>by have:=i b c;omega⟩
def zhG (x:Off)(a:Int)(y:OpD)(m:Nat)(b:Off)(code name price:Int):Prop :=
 (code≠0/\b=x/\name=0/\price=0/\ZT x.san x.bkn m x y code) ∨
 (ZZ x y m/\code≠0/\b=x/\name=0/\price=0/\∃ j M v k,zav x (qk x a y m) j M/\(qk x a y m)[j]?=some v/\zW x.sa v.leg x.san=k/\k<x.san/\qV (x.sa k) v (M k) code (M k)) ∨
 (ZZ x y m/\∃ M x3,zav x (qk x a y m) (qk x a y m).length M/\zfu { x with ld:=M } a y m x3 code name price/\((code≠0∨y.kind=1)->b=x)/\(¬ (code≠0∨y.kind=1)->b=x3))
def RowsBe (x:Off)(a:Int)(y:OpD)(m:Nat)(code:Int)(w':World)(c:Value):Prop :=
 (c=.slice none 0 0/\(y.kind=9->code≠0))∨∃ M b,ZZ x y m/\zav x (qk x a y m) (qk x a y m).length M/\zdA { x with ld:=M } y b w' c
def OpAns (x:Off)(a:Int)(y:OpD)(m base:Nat)(e:Ending)(w':World):Prop :=
 ∃ x2 a1 c1 a2 c2 a3 c3 code name price rv L C A B D E,e=.returned (.tuple #[.agg #[.slice a1 x2.san c1,.slice a2 x2.ldn c2,.slice a3 x2.bkn c3],.agg #[int i64 code,int i64 name,int i64 price,rv]]) /\
  zF w' base (.slice a1 x2.san c1) (.slice a2 x2.ldn c2) (.slice a3 x2.bkn c3) x2.san x2.ldn x2.bkn x2 L C A B D E/\zhG x a y m x2 code name price/\RowsBe x a y m code w' rv
theorem zkX:∀ (l:List Wk)(j:Nat)(v:Wk),l[j]?=some v->∀ r,r<10->(zgE l)[j*10+r]?=(wkC v)[r]?
 | [],j,v,h,_,_=>by simp at h
 | u :: l,0,v,h,r,hr=>by
  have e:u=v:=by simpa using h
  subst e
  show(wkC u++zgE l)[0*10+r]?=_
  rw[List.getElem?_append_left (by show 0*10+r<10;omega),Nat.zero_mul,Nat.zero_add]
 | u :: l,j+1,v,h,r,hr=>by
  have h2:l[j]?=some v:=by simpa using h
  show(wkC u++zgE l)[(j+1)*10+r]?=_
  rw[List.getElem?_append_right (by show 10<=(j+1)*10+r;omega)]
  have e:(j+1)*10+r - (wkC u).length=j*10+r:=by show(j+1)*10+r - 10=_;omega
  rw[e];exact zkX l j v h2 r hr
theorem zfu.size {x:Off}{a:Int}{y:OpD}{m:Nat}{b:Off}{code name price:Int}(h:zfu x a y m b code name price):b.san=x.san/\b.ldn=x.ldn:=by
 rcases h with⟨_,rfl,_⟩|⟨_,rfl,_⟩|⟨_,_,rfl,_⟩|⟨_,_,rfl,_⟩|⟨_,_,rfl,_⟩ <;> exact⟨rfl,rfl⟩
theorem zfu.nine {x:Off}{a:Int}{y:OpD}{m:Nat}{b:Off}{code name price:Int}(h:zfu x a y m b code name price)(hc:code≠0∨y.kind=1):y.kind≠9:=by
 rcases h with⟨h1,_,h2,_⟩|⟨h1,_,h2,_⟩|⟨h1,_,_,h2,_⟩|⟨h1,_,_,h2,_⟩|⟨h1,_,_,h2,_⟩ <;> first|omega|(unfold In at h1;omega)
theorem zie {w Z:World}{a c base o p q:Nat}{v1 v2 v3 s t u u0 u1 u2 u3:Value}{x:Off}{L C A B D E:Nat->Value}(m:Below w.heap.size w Z)(j:zF Z base v1 v2 v3 o p q x L C A B D E)(g:Z.heap[a]?=some (.cells #[s,t,u] 38 (0,0)))(f:Z.heap[c]?=some (.cells #[u0,u1,u2,u3] 41 (0,0)))(h1:w.heap.size<=a)(h2:w.heap.size<=c)(i c1 c2 c3:Value){F:World}
  (r:F=((((((Z.setCell ⟨a,0,none⟩ v1).setCell ⟨a,1,none⟩ v2).setCell ⟨a,2,none⟩ v3).setCell ⟨c,0,none⟩ i).setCell ⟨c,1,none⟩ c1).setCell ⟨c,2,none⟩ c2).setCell ⟨c,3,none⟩ c3) :
  zF F base v1 v2 v3 o p q x L C A B D E/\F.heap[a]?=some (.cells #[v1,v2,v3] 38 (0,0))/\F.heap[c]?=some (.cells #[i,c1,c2,c3] 41 (0,0))/\Below w.heap.size w F/\zx Z F (fun b=>b=a∨b=c):=by
 subst r;have h:a≠c:=fun e=>by subst e;rw[g] at f;simp at f
 have k:=zkQ Z a v1 v2 v3;have d:=k.blk f (fun e=>h e.symm)
 have l:=zaU (((Z.setCell ⟨a,0,none⟩ v1).setCell ⟨a,1,none⟩ v2).setCell ⟨a,2,none⟩ v3) c i c1 c2 c3;have n:=(k.mono (T:=fun b=>b=a∨b=c) (fun b e=>.inl e)).trans (l.mono (T:=fun b=>b=a∨b=c) (fun b e=>.inr e))
 exact⟨(j.box k g (by decide)).box l d (by decide),l.blk (zeN g v1 v2 v3) h,zcJ d _ _ _ _,zx.below m m.size n (fun b e=>by rcases e with e|e <;> omega),n⟩
theorem zeQ {x:Off}{y:OpD}{b:Nat}{z a:World}{v:Value}{T:Nat->Prop}(h:zdA x y b z v)(i:zx z a T)(e:∀ g,T g->∃ cs t,z.heap[g]?=some (.cells cs t (0,0))/\203≠t):zdA x y b a v:=by
 refine⟨fun h9=>?_,h.2⟩
 obtain⟨k,h1,h2,h3⟩:=h.1 h9;exact⟨k,h1,h2,i.own h3 (fun g f s=>by obtain⟨cs,t,c,d⟩:=e g s;exact zQ h3 c d g f rfl)⟩
end Go.Proofs.YtmdnjgihooflfaaGreatDoor
