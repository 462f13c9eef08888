import Derived.Test.YtgmdnkngnhkgbaaGreatB38
namespace Go.Proofs.YtgmdnkngnhkgbaaGreat
open Go.RowKit
open Go.Value (int)
open Go.IntKind (i64)
set_option maxHeartbeats 64000000
set_option maxRecDepth 1000000
theorem l7Do_f (g base N R k a0 a9 e4:Nat)(e2 e0 d9:Option Addr)(leg who:Int)(pe len hei cl be:Int)(x:Off)(L C A B D E:Nat->Value)(w:World)(hq:w.heap[g]?=some (.cells #[.slice e2 N a0,.slice e0 N a9,.slice d9 R e4] 27 (0,0)))(S:zy w base (.slice e2 N a0) (.slice e0 N a9) (.slice d9 R e4) N N R x L C A B D E)(hN:N<=1048576)(hk:zH x.sa leg N=k)(O:k<N)(g6:zV (x.sa k) (x.ld k)) :
  Calls Tryz.prog 118 #[.pointer (some ⟨g,0,none⟩),.agg #[int i64 leg,int i64 1,.bool false,int i64 who,int i64 pe,int i64 len,int i64 hei,int i64 cl,.bool false,int i64 be]] w fun e w'=>zcl g base N R k a0 a9 e4 e2 e0 d9 ⟨leg,1,false,who,⟨pe,len,hei,cl,false,be⟩⟩ x L C E w e w':=by
 obtain⟨i0,ii,b9,c8,c9⟩:=info_parts Tryz.infoRoom;obtain⟨i,rfl,i4,b7⟩:=own_addr S.ld.row (by omega)
 have HO:=hI S;have HK:=hI hk;have a5:=hI g6;have h3:Hid (base<=w.heap.size):=by show base<=w.heap.size;omega
 have HQ:=hI hq;have d0:=hI S.sa.at;obtain⟨cs,g5⟩:=zG S.ld.row i rfl;obtain⟨a8,b6,eA,m1,m2,m3⟩:=zr (S.ld.st k O);obtain⟨d,f,eB,m4,m5,m6⟩:=zr (S.ld.ro k O);obtain⟨a7,b5,eD,m7,m8,m9⟩:=zr (S.ld.se k O);have i3:Hid (w.ownsRow base 84 4 (.slice a8 (x.ld k).stn b6) (x.ld k).stn (zN (x.ld k).st (x.ld k).stn)):=by show w.ownsRow _ _ _ _ _ _;rw[← eA];exact S.ld.st k O
 have d8:Hid (w.ownsRow base 93 4 (.slice d (x.ld k).ron f) (x.ld k).ron (zK (x.ld k).ro (x.ld k).ron)):=by show w.ownsRow _ _ _ _ _ _;rw[← eB];exact S.ld.ro k O
 have h9:Hid (w.ownsRow base 99 2 (.slice a7 (x.ld k).sen b5) (x.ld k).sen (zJ (x.ld k).se (x.ld k).sen)):=by show w.ownsRow _ _ _ _ _ _;rw[← eD];exact S.ld.se k O
 have e9:Hid (w.cell? ⟨i,k*3,none⟩=some (.slice a8 (x.ld k).stn b6)):=by
  have h:=zx S.ld.row (k*3+0) (by omega) rfl
  rw[zz 3 _ k 0 (by decide)] at h
  rw[← eA];exact h
 have d5:Hid (w.cell? ⟨i,k*3+1,none⟩=some (.slice d (x.ld k).ron f)):=by
  have h:=zx S.ld.row (k*3+1) (by omega) rfl
  rw[zz 3 _ k 1 (by decide)] at h
  rw[← eB];exact h
 have f8:Hid (w.cell? ⟨i,k*3+2,none⟩=some (.slice a7 (x.ld k).sen b5)):=by
  have h:=zx S.ld.row (k*3+2) (by omega) rfl
  rw[zz 3 _ k 2 (by decide)] at h
  rw[← eD];exact h
 have f9:Hid ((a8=none->(x.ld k).stn=0/\b6=0)/\(d=none->(x.ld k).ron=0/\f=0)/\(a7=none->(x.ld k).sen=0/\b5=0)):=⟨m3,m6,m9⟩;obtain⟨s,b8⟩:∃ s,s=x.sa k:=⟨_,rfl⟩;obtain⟨l,e8⟩:∃ l,l=x.ld k:=⟨_,rfl⟩;rw[← e8] at i3 d8 h9 e9 d5 f8 f9 a5;rw[← b8] at a5;have g1:=hI b8;have d6:=hI e8;have h5:=hI g5;obtain⟨a,I,la,lc,ca,cc,rfl,f0,f1,f2,f3,f4,f5,f6,f7,e7,e6,h1,h0⟩:=d0.out k O;rw[← b8] at f0 f1 f2 f3 f4 f5 f6 f7 e7 e6 h1 h0;have h6:Hid (zT w la s.la/\zT w ca s.ca):=⟨e7,e6⟩;have h4:Hid (∀ W,Below w.heap.size w W->W.cell? ⟨a,I+k*8,none⟩=some (int i64 s.id)/\W.cell? ⟨a,I+k*8+1,none⟩=some (.string s.fr)/\W.cell? ⟨a,I+k*8+2,none⟩=some (.string s.dst)/\W.cell? ⟨a,I+k*8+3,none⟩=some (int i64 s.dep)/\W.cell? ⟨a,I+k*8+4,none⟩=some (int i64 s.arr)/\W.cell? ⟨a,I+k*8+5,none⟩=some (.slice la s.la.n lc)/\W.cell? ⟨a,I+k*8+6,none⟩=some (.slice ca s.ca.n cc)/\W.cell? ⟨a,I+k*8+7,none⟩=some (int i64 s.most)):=fun W hb=>by
  have H:=World.block_lt_of_cell? w _ f0;exact⟨(hb.cell (p:=⟨a,I+k*8,none⟩) H).trans f0,(hb.cell (p:=⟨a,I+k*8+1,none⟩) H).trans f1,(hb.cell (p:=⟨a,I+k*8+2,none⟩) H).trans f2,(hb.cell (p:=⟨a,I+k*8+3,none⟩) H).trans f3,(hb.cell (p:=⟨a,I+k*8+4,none⟩) H).trans f4,(hb.cell (p:=⟨a,I+k*8+5,none⟩) H).trans f5,(hb.cell (p:=⟨a,I+k*8+6,none⟩) H).trans f6,(hb.cell (p:=⟨a,I+k*8+7,none⟩) H).trans f7⟩
 clear f0 f1 f2 f3 f4 f5 f6 f7 e7 e6 h1 h0 b8 e8 g5 eA eB eD m1 m2 m3 m4 m5 m6 m7 m8 m9 g6 hk i4;have i1:(0:Int)<=(k:Int):=by omega
 have i2:(k:Int)<(N:Int):=by omega
 have a1:Below w.heap.size w (w.alloc (.cells #[int i64 leg,int i64 1,.bool false,int i64 who,int i64 pe,int i64 len,int i64 hei,int i64 cl,.bool false,int i64 be] 169)):=zl bZ _;have b0:=heap_alloc_new w (.cells #[int i64 leg,int i64 1,.bool false,int i64 who,int i64 pe,int i64 len,int i64 hei,int i64 cl,.bool false,int i64 be] 169);go_enter Tryz.func118,Tryz.ntmps118;go_upto_region 1 with fail;generalize (w.alloc (.cells #[int i64 leg,int i64 1,.bool false,int i64 who,int i64 pe,int i64 len,int i64 hei,int i64 cl,.bool false,int i64 be] 169))=W at a1 b0 ⊢;have z0:∀ G:zv W,G.val.cell? ⟨g,0,none⟩=some (.slice (some ⟨a,I,none⟩) N a0):=fun G=>za (zb HQ.out (zf a1 G.bel)) 0 _ rfl
 have z1:∀ G:zv W,G.val.cell? ⟨w.heap.size,0,none⟩=some (int i64 leg):=fun G=>za (zb b0 G.bel) 0 _ rfl
 refine zg (by kernel_rfl) (by kernel_rfl) ?_
 repeat(first|go_big_quiet_skip|(go_big_quiet_want;go_big_quiet_op;first|go_big_quiet_on|(apply Exists.intro;refine⟨fun G=>?_,?_⟩;(focus(first|(go_at_call 87;refine zh (v:=int i64 (k:Int)) ((Zr _ N a0 x.sa leg _ hN (d0.out.below (zf a1 G.bel))).mono ?_);rintro e w2 ⟨he,e5⟩;refine⟨?_,e5⟩;rw[HK.out] at he;rcases he with⟨_,rfl⟩|⟨h,_⟩;rfl;omega)));go_big_quiet_on)))
 refine wpQuiet_nil ?_;rintro _ ⟨G,rfl⟩;clear z0 z1;have a2:=zf a1 G.bel;have bW:=zb b0 G.bel;obtain⟨c0,c1,c2,c3,c4,c5,c6,c7⟩:=h4.out G.val a2;have y0:=za (zb HQ.out a2) 0 _ rfl;have y1:∀ o,(G.val.alloc o).cell? ⟨g,1,none⟩=some (.slice (some ⟨i,0,none⟩) N a9):=fun o=>za (zb HQ.out (zl a2 o)) 1 _ rfl
 have y4:∀ o,(G.val.alloc o).cell? ⟨w.heap.size,4,none⟩=some (int i64 pe):=fun o=>za (zc bW o) 4 _ rfl
 have y5:∀ o,(G.val.alloc o).cell? ⟨w.heap.size,5,none⟩=some (int i64 len):=fun o=>za (zc bW o) 5 _ rfl
 have y6:∀ o,(G.val.alloc o).cell? ⟨w.heap.size,6,none⟩=some (int i64 hei):=fun o=>za (zc bW o) 6 _ rfl
 have y7:∀ o,(G.val.alloc o).cell? ⟨w.heap.size,7,none⟩=some (int i64 cl):=fun o=>za (zc bW o) 7 _ rfl
 have y8:∀ o,(G.val.alloc o).cell? ⟨w.heap.size,8,none⟩=some (.bool false):=fun o=>za (zc bW o) 8 _ rfl
 have y9:∀ o,(G.val.alloc o).cell? ⟨w.heap.size,9,none⟩=some (int i64 be):=fun o=>za (zc bW o) 9 _ rfl
 go_upto_region 8 with fail;have q:Below w.heap.size w ((G.val.alloc (.cells #[int i64 s.id,.string s.fr,.string s.dst,int i64 s.dep,int i64 s.arr,.slice la s.la.n lc,.slice ca s.ca.n cc,int i64 s.most] 33)).alloc (.cells #[int i64 pe,int i64 len,int i64 hei,int i64 cl,.bool false,int i64 be] 41)):=zl (zl a2 _) _;have Q:=zc (zc bW (.cells #[int i64 s.id,.string s.fr,.string s.dst,int i64 s.dep,int i64 s.arr,.slice la s.la.n lc,.slice ca s.ca.n cc,int i64 s.most] 33)) (.cells #[int i64 pe,int i64 len,int i64 hei,int i64 cl,.bool false,int i64 be] 41);have Z:=zc (heap_alloc_new G.val (.cells #[int i64 s.id,.string s.fr,.string s.dst,int i64 s.dep,int i64 s.arr,.slice la s.la.n lc,.slice ca s.ca.n cc,int i64 s.most] 33)) (.cells #[int i64 pe,int i64 len,int i64 hei,int i64 cl,.bool false,int i64 be] 41);have P:=zbZ G.val (.cells #[int i64 s.id,.string s.fr,.string s.dst,int i64 s.dep,int i64 s.arr,.slice la s.la.n lc,.slice ca s.ca.n cc,int i64 s.most] 33) (.cells #[int i64 pe,int i64 len,int i64 hei,int i64 cl,.bool false,int i64 be] 41);generalize hx0:(G.val.alloc (.cells #[int i64 s.id,.string s.fr,.string s.dst,int i64 s.dep,int i64 s.arr,.slice la s.la.n lc,.slice ca s.ca.n cc,int i64 s.most] 33)).alloc (.cells #[int i64 pe,int i64 len,int i64 hei,int i64 cl,.bool false,int i64 be] 41)=X at q Q Z P ⊢;generalize hsb:G.val.heap.size=sb at Z P ⊢;clear c0 c1 c2 c3 c4 c5 c6 c7 y0 y1 y4 y5 y6 y7 y8 y9 bW a2 a1 b0 hx0 hsb G W;have w1:=za Q 1 _ rfl;have w2:=za Q 2 _ rfl;have w3:=za Q 3 _ rfl;have L0:X.cell? ⟨i,k*3,none⟩=some (.slice a8 l.stn b6):=(q.cell (p:=⟨i,k*3,none⟩) b7).trans e9.out;have L1:X.cell? ⟨i,k*3+1,none⟩=some (.slice d l.ron f):=(q.cell (p:=⟨i,k*3+1,none⟩) b7).trans d5.out;have L2:X.cell? ⟨i,k*3+2,none⟩=some (.slice a7 l.sen b5):=(q.cell (p:=⟨i,k*3+2,none⟩) b7).trans f8.out;have bG:=zb h5.out q;obtain⟨rb,g8⟩:=zel l.ron s.ca.n (zbr s.ca l.ron l.ro cl be);have a6:=hI g8;clear g8;have s5:∀ G:zv X,G.val.cell? ⟨sb,6,none⟩=some (.slice ca s.ca.n cc):=fun G=>za (zb Z G.bel) 6 _ rfl
 have s6:∀ G:zv X,G.val.cell? ⟨i,k*3+1,none⟩=some (.slice d l.ron f):=fun G=>(G.bel.cell (p:=⟨i,k*3+1,none⟩) (zQ bG)).trans L1
 have p1:∀ G:zv X,G.val.cell? ⟨sb+1,3,none⟩=some (int i64 cl):=fun G=>za (zb P G.bel) 3 _ rfl
 have p2:∀ G:zv X,G.val.cell? ⟨sb+1,5,none⟩=some (int i64 be):=fun G=>za (zb P G.bel) 5 _ rfl
 go_upto_region 34 with fail;refine zg (by kernel_rfl) (by kernel_rfl) ?_
 repeat(first|go_big_quiet_skip|(go_big_quiet_want;go_big_quiet_op;first|go_big_quiet_on|(apply Exists.intro;refine⟨fun G=>?_,?_⟩;(focus(first|(go_at_call 127;refine zh (v:=int i64 rb) ((zcd ca d s.ca.n cc l.ron f s.ca l.ro cl be _ rfl a5.out.2.1 (h6.out.2.below (zf q G.bel)) ((Zn d8.out).below (zf q G.bel))).mono ?_);rintro e w2 ⟨⟨r',rfl,o1⟩,e5⟩;exact⟨by rw[zgb o1 a6.out],e5⟩)));go_big_quiet_on)))
 refine wpQuiet_nil ?_;rintro _ ⟨G,rfl⟩;have J:=zf q G.bel;have e3:=zb Q G.bel;have g4:=zb Z G.bel;have Y:=zb P G.bel;have V:=zb bG G.bel;clear w1 w2 w3 L0 L1 L2 s5 s6 p1 p2;generalize G.val=W5 at J e3 g4 Y V ⊢;clear q Q Z P bG G X;have r4:=za Y 4 _ rfl;have r5:=za Y 5 _ rfl;obtain⟨r,g7⟩:∃ r,r=rb:=⟨_,rfl⟩;rw[← g7] at a6 ⊢;have g0:=hI a6;clear a6 g7 rb;obtain⟨y,g9⟩:∃ y,y=W5:=⟨_,rfl⟩;rw[← g9] at J e3 g4 Y V r4 r5 ⊢;clear g9 W5
 by_cases hr:r<0
 ·have e1:decide (r<0)=true:=decide_eq_true hr
  have HF:Hid _:=doNo (k:=k) (code:=6) (v:=⟨leg,1,false,who,⟨pe,len,hei,cl,false,be⟩⟩) HO.out HQ.out J (by
   refine .berth rfl rfl rfl ?_;rw[← g1.out,← d6.out]
   rcases g0.out with⟨j,h,_⟩|⟨h,h2⟩
   ·omega
   ·exact .inr ⟨rfl,h2⟩)
  go_wp2;go_ret;exact HF.out
 obtain⟨m,rfl⟩:∃ m:Nat,r=(m:Int):=⟨r.toNat,by omega⟩
 have e1:decide ((m:Int)<0)=false:=decide_eq_false hr;clear hr;go_upto_region 42 with fail;have HN:=hI f9.out.2.1;have d7:Hid (∀ z,Below y.heap.size y z->qo z d l.ron l.ro):=fun z h=>(Zn d8.out).below (zf J h)
 have j0:l.ron<=60:=a5.out.2.1.2.1;have g3:y.cell? ⟨i,k*3+1,none⟩=some (.slice d l.ron f):=(J.cell (p:=⟨i,k*3+1,none⟩) b7).trans d5.out;have KS:Hid (∀ z,Below y.heap.size y z->(z.cell? ⟨w.heap.size,3,none⟩=some (int i64 who)/\z.cell? ⟨sb+1,4,none⟩=some (.bool false))/\z.cell? ⟨i,k*3+1,none⟩=some (.slice d l.ron f)):=fun z h=>⟨⟨za (zb e3 h) 3 _ rfl,za (zb Y h) 4 _ rfl⟩,(h.cell (p:=⟨i,k*3+1,none⟩) (zQ V)).trans g3⟩
 refine qt 18 19 (fun w'=>(w'.cell? ⟨w.heap.size,3,none⟩=some (int i64 who)/\w'.cell? ⟨sb+1,4,none⟩=some (.bool false))/\w'.cell? ⟨i,k*3+1,none⟩=some (.slice d l.ron f)) rfl (by kernel_rfl) (KS.out _ (Below.drew bZ)) (fun hS=>?_)
 simp only[List.replicate_succ,List.replicate_zero]
 (refine tkL 0 (v:=?_) rfl (by kernel_rfl) (fun _ _ _ h=>h) rfl (by assumption) ?_ ?_;rotate_left;(focus(intro w' h;(try dsimp only at h);go_simp;try with_reducible rfl));simp only[Act.put,sB,sZ,sS])
 (refine tkL 2 (v:=?_) rfl (by kernel_rfl) (fun _ _ _ h=>h) rfl (by assumption) ?_ ?_;rotate_left;(focus(intro w' h;(try dsimp only at h);go_simp;try with_reducible rfl));simp only[Act.put,sB,sZ,sS])
 (refine tkL 3 (v:=?_) rfl (by kernel_rfl) (fun _ _ _ h=>h) rfl (by assumption) ?_ ?_;rotate_left;(focus(intro w' h;(try dsimp only at h);go_simp;try with_reducible rfl));simp only[Act.put,sB,sZ,sS])
 (refine tkL 4 (v:=?_) rfl (by kernel_rfl) (fun _ _ _ h=>h) rfl (by assumption) ?_ ?_;rotate_left;(focus(intro w' h;(try dsimp only at h);go_simp;try with_reducible rfl));simp only[Act.put,sB,sZ,sS])
 (refine tkL 5 (v:=?_) rfl (by kernel_rfl) (fun _ _ _ h=>h) rfl (by assumption) ?_ ?_;rotate_left;(focus(intro w' h;(try dsimp only at h);go_simp;try with_reducible rfl));simp only[Act.put,sB,sZ,sS])
 (refine tkL 7 (v:=?_) rfl (by kernel_rfl) (fun _ _ _ h=>h) rfl (by assumption) ?_ ?_;rotate_left;(focus(intro w' h;(try dsimp only at h);go_simp;try with_reducible rfl));simp only[Act.put,sB,sZ,sS])
 (refine tkL 8 (v:=?_) rfl (by kernel_rfl) (fun _ _ _ h=>h) rfl (by assumption) ?_ ?_;rotate_left;(focus(intro w' h;(try dsimp only at h);go_simp;try with_reducible rfl));simp only[Act.put,sB,sZ,sS])
 (refine tkL 9 (v:=?_) rfl (by kernel_rfl) (fun _ _ _ h=>h) rfl (by assumption) ?_ ?_;rotate_left;(focus(intro w' h;(try dsimp only at h);go_simp;try with_reducible rfl));simp only[Act.put,sB,sZ,sS])
 (refine tkL 10 (v:=?_) rfl (by kernel_rfl) (fun _ _ _ h=>h) rfl (by assumption) ?_ ?_;rotate_left;(focus(intro w' h;(try dsimp only at h);go_simp;try with_reducible rfl));simp only[Act.put,sB,sZ,sS])
 (refine tkL 11 (v:=?_) rfl (by kernel_rfl) (fun _ _ _ h=>h) rfl (by assumption) ?_ ?_;rotate_left;(focus(intro w' h;(try dsimp only at h);go_simp;try with_reducible rfl));simp only[Act.put,sB,sZ,sS])
 (refine tkL 12 (v:=?_) rfl (by kernel_rfl) (fun _ _ _ h=>h) rfl (by assumption) ?_ ?_;rotate_left;(focus(intro w' h;(try dsimp only at h);go_simp;try with_reducible rfl));simp only[Act.put,sB,sZ,sS])
 (refine tkL 13 (v:=?_) rfl (by kernel_rfl) (fun _ _ _ h=>h) rfl (by assumption) ?_ ?_;rotate_left;(focus(intro w' h;(try dsimp only at h);go_simp;try with_reducible rfl));simp only[Act.put,sB,sZ,sS])
 refine zj (rs:=[1,14]) (by kernel_rfl) (by simp) ?_
 refine zd.consL rfl (fun K c=>?_) (zd.consL rfl (fun K c=>?_) zd.nil)
 focus
  go_simp;refine c.out _ _ (KS.out _ (by repeat(first|exact b.out|exact bZ|refine Below.drew ?_|refine zl ?_ _))) (fun hS=>?_)
  clear c K;simp only[sZ,sS];refine zj (rs:=[6,14]) (by kernel_rfl) (by simp) ?_
  refine zd.consL rfl (fun K c=>?_) (zd.consL rfl (fun K c=>?_) zd.nil)
  focus
   refine zD (by rfl) (.tmp 227) (.tmp 231) 52 (by rfl) 93 i0 (.agg #[int i64 0,int i64 0,int i64 0,.bool false]) 4 32 Tryz.underlying52 ii b9 c8 c9 rfl (by decide) y.heap.size _ (by rfl) (by first|exact Nat.le_refl _|omega|(simp;done)|(simp;omega)) (by repeat(first|((with_reducible refine qI _ _ _ ?_);(first|rfl|(simp;done)))|with_reducible refine zE ?_|with_reducible refine zc ?_ _)) d l.ron f (zK l.ro l.ron) (by rfl) HN.out (qP _ _) (ZF (d7.out _ (by repeat(first|exact bZ|refine Below.drew ?_|refine zl ?_ _)))) (Zm _ _) (by unfold maxLen;omega) (by omega) ?_;intro p1 q1 u1 M U F;clear F;have b:Hid (Below y.heap.size y u1):=(by show Below _ _ _;refine zf ?_ (zm M);exact(by repeat(first|exact bZ|refine Below.drew ?_|refine zl ?_ _)));refine c.out _ _ (KS.out _ b.out) (fun hS=>?_)
   clear c K;simp only[Act.put,sB,sZ,sS];refine zj (rs:=[14]) (by kernel_rfl) (by simp) ?_
   refine zd.consL rfl (fun K c=>?_) zd.nil
   focus
    go_simp;refine c.out _ _ (KS.out _ (by repeat(first|exact b.out|exact bZ|refine Below.drew ?_|refine zl ?_ _))) (fun hS=>?_)
    clear c K;simp only[sZ,sS]
  rotate_left 1
  focus
   go_simp;refine c.out _ _ (KS.out _ (by repeat(first|exact b.out|exact bZ|refine Below.drew ?_|refine zl ?_ _))) (fun hS=>?_)
   clear c K;simp only[sZ,sS];refine zj (rs:=[6]) (by kernel_rfl) (by simp) ?_
   refine zd.consL rfl (fun K c=>?_) zd.nil
   focus
    refine zD (by rfl) (.tmp 227) (.tmp 231) 52 (by rfl) 93 i0 (.agg #[int i64 0,int i64 0,int i64 0,.bool false]) 4 32 Tryz.underlying52 ii b9 c8 c9 rfl (by decide) y.heap.size _ (by rfl) (by first|exact Nat.le_refl _|omega|(simp;done)|(simp;omega)) (by repeat(first|((with_reducible refine qI _ _ _ ?_);(first|rfl|(simp;done)))|with_reducible refine zE ?_|with_reducible refine zc ?_ _)) d l.ron f (zK l.ro l.ron) (by rfl) HN.out (qP _ _) (ZF (d7.out _ (by repeat(first|exact bZ|refine Below.drew ?_|refine zl ?_ _)))) (Zm _ _) (by unfold maxLen;omega) (by omega) ?_;intro p1 q1 u1 M U F;clear F;have b:Hid (Below y.heap.size y u1):=(by show Below _ _ _;refine zf ?_ (zm M);exact(by repeat(first|exact bZ|refine Below.drew ?_|refine zl ?_ _)));refine c.out _ _ (KS.out _ b.out) (fun hS=>?_)
    clear c K;simp only[Act.put,sB,sZ,sS]
 rotate_left 2
 focus
  go_simp;refine c.out _ _ (KS.out _ (by repeat(first|exact b.out|exact bZ|refine Below.drew ?_|refine zl ?_ _))) (fun hS=>?_)
  clear c K;simp only[sZ,sS];refine zj (rs:=[1]) (by kernel_rfl) (by simp) ?_
  refine zd.consL rfl (fun K c=>?_) zd.nil
  focus
   go_simp;refine c.out _ _ (KS.out _ (by repeat(first|exact b.out|exact bZ|refine Below.drew ?_|refine zl ?_ _))) (fun hS=>?_)
   clear c K;simp only[sZ,sS];refine zj (rs:=[6]) (by kernel_rfl) (by simp) ?_
   refine zd.consL rfl (fun K c=>?_) zd.nil
   focus
    refine zD (by rfl) (.tmp 227) (.tmp 231) 52 (by rfl) 93 i0 (.agg #[int i64 0,int i64 0,int i64 0,.bool false]) 4 32 Tryz.underlying52 ii b9 c8 c9 rfl (by decide) y.heap.size _ (by rfl) (by first|exact Nat.le_refl _|omega|(simp;done)|(simp;omega)) (by repeat(first|((with_reducible refine qI _ _ _ ?_);(first|rfl|(simp;done)))|with_reducible refine zE ?_|with_reducible refine zc ?_ _)) d l.ron f (zK l.ro l.ron) (by rfl) HN.out (qP _ _) (ZF (d7.out _ (by repeat(first|exact bZ|refine Below.drew ?_|refine zl ?_ _)))) (Zm _ _) (by unfold maxLen;omega) (by omega) ?_;intro p1 q1 u1 M U F;clear F;have b:Hid (Below y.heap.size y u1):=(by show Below _ _ _;refine zf ?_ (zm M);exact(by repeat(first|exact bZ|refine Below.drew ?_|refine zl ?_ _)));refine c.out _ _ (KS.out _ b.out) (fun hS=>?_)
    clear c K;simp only[Act.put,sB,sZ,sS]
 all_goals
  refine zj (rs:=[15]) (by kernel_rfl) (by simp) ?_
  refine zd.consL rfl (fun K c=>?_) zd.nil
  refine step_append_lies _ (by rfl) (.tmp 232) (.tmp 240) 52 (by rfl) y.heap.size 93 i0 (.agg #[int i64 0,int i64 0,int i64 0,.bool false]) 4 32 Tryz.underlying52 ii b9 c8 c9 rfl (by decide) _ l.ron (zK l.ro l.ron) (by rfl) (by first|exact U|exact U.alloc _|exact zp (zl bZ _) U) _ 1 1 [int i64 who,int i64 (m:Int),int i64 (be),.bool false] (by rfl) (by rfl) (by refine World.news_of_block (cs:=#[int i64 who,int i64 (m:Int),int i64 (be),.bool false]) (t:=93) (fr:=(0,0)) ?_;exact(by repeat(first|((with_reducible refine qI _ _ _ ?_);(first|rfl|(simp;done)))|with_reducible refine zE ?_|with_reducible refine zc ?_ _|with_reducible refine zb ?_ (zm M)))) (by intro u hu;simp at hu;rcases hu with rfl|rfl|rfl|rfl <;> rfl) (by decide) (by unfold maxLen;omega) (by omega) (by first|exact b.out.size|(have:=b.out.size;simp;omega)) _ rfl ?_;intro g2 i7 u2 i6 i5 i8 i9;refine(fun (a3:Hid (Below y.heap.size y u2))=>?_) (Below.grown ?_ i5 ?_ (fun j hj=>(U.lt j hj).1));rotate_left;(focus(repeat(first|exact bZ|refine Below.drew ?_|refine zl ?_ _|refine zf ?_ (zm M))));(focus(first|exact b.out.size|(have:=b.out.size;simp;omega)));have q0:=(a3.out.cell (p:=⟨i,k*3+1,none⟩) (zQ V)).trans g3;have q1:=ze (zb V a3.out) (k*3+1);refine c.out _ _ (KS.out _ a3.out) (fun hS=>?_)
  clear c K;simp only[Act.put,sB,sZ,sS]
  (refine tkL 16 (v:=?_) rfl (by kernel_rfl) (fun _ _ _ h=>h) rfl (by assumption) ?_ ?_;rotate_left;(focus(intro w' h;(try dsimp only at h);go_simp;try with_reducible rfl));simp only[Act.put,sB,sZ,sS])
  (refine tkL 17 (v:=?_) rfl (by kernel_rfl) (fun _ _ _ h=>h) rfl (by assumption) ?_ ?_;rotate_left;(focus(intro w' h;(try dsimp only at h);go_simp;try with_reducible rfl));simp only[Act.put,sB,sZ,sS])
  refine zj (rs:=[18]) (by kernel_rfl) (by simp) ?_
  refine zd.lastL rfl (fun K c=>?_)
  go_simp;refine c.out _ _ ?_;clear c K;refine qd (by kernel_rfl) ?_ _
  have HF:Hid _:=doRo (k:=k) (n:=l.ron+1) (T:=ZR l.ro l.ron (fun _=>⟨who,(m:Int),be,false⟩)) (v:=⟨leg,1,false,who,⟨pe,len,hei,cl,false,be⟩⟩) HO.out HQ.out h3.out (zf J a3.out) (zC (by rw[zbX,ZQ,show zK (fun _=>(⟨who,(m:Int),be,false⟩:qH)) 0=[] from rfl,List.nil_append];exact i6) J.size) (by rw[d6.out];exact .addBerth m rfl rfl rfl (by rw[← g1.out,← d6.out];exact g0.out))
  go_wp2;go_ret;exact HF.out
end Go.Proofs.YtgmdnkngnhkgbaaGreat
