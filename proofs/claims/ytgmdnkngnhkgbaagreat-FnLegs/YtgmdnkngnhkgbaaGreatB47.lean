import Derived.Test.YtgmdnkngnhkgbaaGreatB46
import Derived.Test.YtgmdnkngnhkgbaaGreatB40
import Derived.Test.YtgmdnkngnhkgbaaGreatB36
namespace Go.Proofs.YtgmdnkngnhkgbaaGreat
open Go.RowKit
open Go.Value (int)
open Go.IntKind (i64)
set_option maxHeartbeats 64000000
set_option maxRecDepth 1000000
def DopAns (x:Off)(a:Int)(y:OpD)(m base:Nat)(e:Ending)(w':World):Prop :=
 (ql x/\zcU x.bkn x.bk a/\∃ x2 a1 c1 a2 c2 a3 c3 code name price rv L C A B D E,e=.returned (.tuple #[.agg #[.slice a1 x2.san c1,.slice a2 x2.ldn c2,.slice a3 x2.bkn c3],.agg #[int i64 code,int i64 name,int i64 price,rv],.bool true]) /\
  zy w' base (.slice a1 x2.san c1) (.slice a2 x2.ldn c2) (.slice a3 x2.bkn c3) x2.san x2.ldn x2.bkn x2 L C A B D E/\OpTo x a y m x2 code name price/\(rv=.slice none 0 0∨∃ M b,zbe { x with ld:=M } y b w' rv)) ∨
 (¬ (ql x/\zcU x.bkn x.bk a)/\e=.returned (.tuple #[.agg #[.slice none 0 0,.slice none 0 0,.slice none 0 0],.agg #[int i64 0,int i64 0,int i64 0,.slice none 0 0],.bool false]))
theorem zgi (x:Off)(k i f j:Option Addr)(q o l p m:Nat)(s:Int)(y:OpD)(w:World)(hs:Off.Short x 1048576)(b6:SailsAt w k x.san x.sa)(a8:Zw w i x.ldn x.ld)(a5:qK w f x.bkn x.bk)(e4:x.bkn<=l)(a9:zX w j y.lgn y.lg)(b7:zZ j y.lgn p)(hl:y.lgn<=1048576)(ho:y.own.size<=1048576)(hm:QZ y->In y.kind 4 8->y.name=(m:Int)+1/\m<=1048576) :
  Calls Tryz.prog 65 #[.agg #[.slice k x.san q,.slice i x.ldn o,.slice f x.bkn l],int i64 s,.agg #[int i64 y.kind,.string y.own,int i64 y.name,.slice j y.lgn p,int i64 y.pe,int i64 y.len,int i64 y.hei,int i64 y.cl,.bool y.all,int i64 y.be,int i64 y.unt,int i64 y.now]] w fun e w'=>DopAns x s y m w.heap.size e w'/\Below w.heap.size w w':=by
 have HS:=hI hs;have N:Hid (SailsAt w k x.san x.sa/\Zw w i x.ldn x.ld/\qK w f x.bkn x.bk/\zX w j y.lgn y.lg/\zZ j y.lgn p):=⟨b6,a8,a5,a9,b7⟩;have HN:=hI hm;clear hs b6 a8 a5 a9 b7 hm;have a:Below w.heap.size w ((((w.alloc (.cells #[.slice k x.san q,.slice i x.ldn o,.slice f x.bkn l] 27)).alloc (.cells #[int i64 y.kind,.string y.own,int i64 y.name,.slice j y.lgn p,int i64 y.pe,int i64 y.len,int i64 y.hei,int i64 y.cl,.bool y.all,int i64 y.be,int i64 y.unt,int i64 y.now] 120)).alloc (.cells #[.slice none 0 0,.slice none 0 0,.slice none 0 0] 27)).alloc (.cells #[int i64 0,int i64 0,int i64 0,.slice none 0 0] 116)):=zl (zl (zl (zl bZ _) _) _) _;have P:=zc (zc (zc (heap_alloc_new w (.cells #[.slice k x.san q,.slice i x.ldn o,.slice f x.bkn l] 27)) (.cells #[int i64 y.kind,.string y.own,int i64 y.name,.slice j y.lgn p,int i64 y.pe,int i64 y.len,int i64 y.hei,int i64 y.cl,.bool y.all,int i64 y.be,int i64 y.unt,int i64 y.now] 120)) (.cells #[.slice none 0 0,.slice none 0 0,.slice none 0 0] 27)) (.cells #[int i64 0,int i64 0,int i64 0,.slice none 0 0] 116);have b1:=zc (zc (zbZ w (.cells #[.slice k x.san q,.slice i x.ldn o,.slice f x.bkn l] 27) (.cells #[int i64 y.kind,.string y.own,int i64 y.name,.slice j y.lgn p,int i64 y.pe,int i64 y.len,int i64 y.hei,int i64 y.cl,.bool y.all,int i64 y.be,int i64 y.unt,int i64 y.now] 120)) (.cells #[.slice none 0 0,.slice none 0 0,.slice none 0 0] 27)) (.cells #[int i64 0,int i64 0,int i64 0,.slice none 0 0] 116);have b2:=zc (show(((w.alloc (.cells #[.slice k x.san q,.slice i x.ldn o,.slice f x.bkn l] 27)).alloc (.cells #[int i64 y.kind,.string y.own,int i64 y.name,.slice j y.lgn p,int i64 y.pe,int i64 y.len,int i64 y.hei,int i64 y.cl,.bool y.all,int i64 y.be,int i64 y.unt,int i64 y.now] 120)).alloc (.cells #[.slice none 0 0,.slice none 0 0,.slice none 0 0] 27)).heap[w.heap.size+1+1]?=some (.cells #[.slice none 0 0,.slice none 0 0,.slice none 0 0] 27 (0,0)) from by simpa using heap_alloc_new ((w.alloc (.cells #[.slice k x.san q,.slice i x.ldn o,.slice f x.bkn l] 27)).alloc (.cells #[int i64 y.kind,.string y.own,int i64 y.name,.slice j y.lgn p,int i64 y.pe,int i64 y.len,int i64 y.hei,int i64 y.cl,.bool y.all,int i64 y.be,int i64 y.unt,int i64 y.now] 120)) (.cells #[.slice none 0 0,.slice none 0 0,.slice none 0 0] 27)) (.cells #[int i64 0,int i64 0,int i64 0,.slice none 0 0] 116)
 have b3:((((w.alloc (.cells #[.slice k x.san q,.slice i x.ldn o,.slice f x.bkn l] 27)).alloc (.cells #[int i64 y.kind,.string y.own,int i64 y.name,.slice j y.lgn p,int i64 y.pe,int i64 y.len,int i64 y.hei,int i64 y.cl,.bool y.all,int i64 y.be,int i64 y.unt,int i64 y.now] 120)).alloc (.cells #[.slice none 0 0,.slice none 0 0,.slice none 0 0] 27)).alloc (.cells #[int i64 0,int i64 0,int i64 0,.slice none 0 0] 116)).heap[w.heap.size+1+1+1]?=some (.cells #[int i64 0,int i64 0,int i64 0,.slice none 0 0] 116 (0,0)):=by simpa using heap_alloc_new (((w.alloc (.cells #[.slice k x.san q,.slice i x.ldn o,.slice f x.bkn l] 27)).alloc (.cells #[int i64 y.kind,.string y.own,int i64 y.name,.slice j y.lgn p,int i64 y.pe,int i64 y.len,int i64 y.hei,int i64 y.cl,.bool y.all,int i64 y.be,int i64 y.unt,int i64 y.now] 120)).alloc (.cells #[.slice none 0 0,.slice none 0 0,.slice none 0 0] 27)) (.cells #[int i64 0,int i64 0,int i64 0,.slice none 0 0] 116)
 go_enter Tryz.func65,Tryz.ntmps65;go_wp2_with fail;generalize ((((w.alloc (.cells #[.slice k x.san q,.slice i x.ldn o,.slice f x.bkn l] 27)).alloc (.cells #[int i64 y.kind,.string y.own,int i64 y.name,.slice j y.lgn p,int i64 y.pe,int i64 y.len,int i64 y.hei,int i64 y.cl,.bool y.all,int i64 y.be,int i64 y.unt,int i64 y.now] 120)).alloc (.cells #[.slice none 0 0,.slice none 0 0,.slice none 0 0] 27)).alloc (.cells #[int i64 0,int i64 0,int i64 0,.slice none 0 0] 116))=W at a P b1 b2 b3 ⊢;refine(zcS x k i f q o l _ HS.out (N.out.1.below a) (N.out.2.1.below a) (N.out.2.2.1.below a) e4).mono ?_;rintro e V ⟨⟨t0,rfl,b8⟩,n⟩;have S:=hI b8;replace a:=zf a n;replace P:=zb P n;replace b1:=zb b1 n;replace b2:=zb b2 n;replace b3:=zb b3 n;clear n W b8;obtain⟨f0,f1,f2⟩:=ce3 P
 cases t0 with
 | false =>
  have HF:Hid (¬ (ql x/\zcU x.bkn x.bk s)):=fun h=>by have:=S.out.2 h.1;cases this
  obtain⟨s0,s1,s2⟩:=ce3 b2;obtain⟨c1,c2,c3⟩:=fe3 b2;obtain⟨t0,t1,t2,t3⟩:=ce4 b3;obtain⟨c4,c5,c6,c7⟩:=fe4 b3;have U:=(zeR _ (w.heap.size+1+1) (.slice none 0 0) (.slice none 0 0) (.slice none 0 0)).blk b3 (by show ¬ _=_;omega)
  have q2:=zbn b2 (.slice none 0 0) (.slice none 0 0) (.slice none 0 0);have q3:=(Qv _ (w.heap.size+1+1+1) (int i64 0) (int i64 0) (int i64 0) (.slice none 0 0)).blk q2 (by show ¬ _=_;omega)
  have q4:=zem U (int i64 0) (int i64 0) (int i64 0) (.slice none 0 0);have Q:Hid _:=zA.below (zA.below a a.size (zeR _ (w.heap.size+1+1) (.slice none 0 0) (.slice none 0 0) (.slice none 0 0)) (fun b e=>by have e:b=w.heap.size+1+1:=e;omega)) (by have:=a.size;simpa using this) (Qv _ (w.heap.size+1+1+1) (int i64 0) (int i64 0) (int i64 0) (.slice none 0 0)) (fun b e=>by have e:b=w.heap.size+1+1+1:=e;omega)
  go_wp2;obtain⟨x0,x1,d⟩:=ce3 q3;obtain⟨z0,z1,z2,z3⟩:=ce4 q4;exact bodyPost_ret (v:=.tuple #[.agg #[.slice none 0 0,.slice none 0 0,.slice none 0 0],.agg #[int i64 0,int i64 0,int i64 0,.slice none 0 0],.bool false]) (by simp[results,Tryz.results65,go_sem,x0,x1,d,z0,z1,z2,z3]) rfl ⟨.inr ⟨HF.out,rfl⟩,Q.out⟩
 | true =>
 have a0:Hid (ql x):=S.out.1 rfl;clear S;go_wp2_with fail;refine(zgh k i f x.san x.ldn x.bkn q o l x s _ (by have:=HS.out.2.2.1;omega) (N.out.2.2.1.below a)).mono ?_
 rintro e V2 ⟨⟨t1,rfl,b9⟩,n⟩;have T:=hI b9;replace a:=zf a n;replace P:=zb P n;replace b1:=zb b1 n;replace b2:=zb b2 n;replace b3:=zb b3 n;clear n b9 f0 f1 f2 V
 cases t1 with
 | false =>
  have HF:Hid (¬ (ql x/\zcU x.bkn x.bk s)):=fun h=>by have:=T.out.2 h.2;cases this
  obtain⟨s0,s1,s2⟩:=ce3 b2;obtain⟨c1,c2,c3⟩:=fe3 b2;obtain⟨t0,t1,t2,t3⟩:=ce4 b3;obtain⟨c4,c5,c6,c7⟩:=fe4 b3;have U:=(zeR _ (w.heap.size+1+1) (.slice none 0 0) (.slice none 0 0) (.slice none 0 0)).blk b3 (by show ¬ _=_;omega)
  have q2:=zbn b2 (.slice none 0 0) (.slice none 0 0) (.slice none 0 0);have q3:=(Qv _ (w.heap.size+1+1+1) (int i64 0) (int i64 0) (int i64 0) (.slice none 0 0)).blk q2 (by show ¬ _=_;omega)
  have q4:=zem U (int i64 0) (int i64 0) (int i64 0) (.slice none 0 0);have Q:Hid _:=zA.below (zA.below a a.size (zeR _ (w.heap.size+1+1) (.slice none 0 0) (.slice none 0 0) (.slice none 0 0)) (fun b e=>by have e:b=w.heap.size+1+1:=e;omega)) (by have:=a.size;simpa using this) (Qv _ (w.heap.size+1+1+1) (int i64 0) (int i64 0) (int i64 0) (.slice none 0 0)) (fun b e=>by have e:b=w.heap.size+1+1+1:=e;omega)
  go_wp2;obtain⟨x0,x1,d⟩:=ce3 q3;obtain⟨z0,z1,z2,z3⟩:=ce4 q4;exact bodyPost_ret (v:=.tuple #[.agg #[.slice none 0 0,.slice none 0 0,.slice none 0 0],.agg #[int i64 0,int i64 0,int i64 0,.slice none 0 0],.bool false]) (by simp[results,Tryz.results65,go_sem,x0,x1,d,z0,z1,z2,z3]) rfl ⟨.inr ⟨HF.out,rfl⟩,Q.out⟩
 | true =>
 have R:Hid (zcU x.bkn x.bk s):=T.out.1 rfl;clear T;obtain⟨f0,f1,f2⟩:=ce3 P;obtain⟨h0,h1,Y,h3,h4,h5,h6,h7,h8,h9,d8,d9⟩:=ce12 b1;go_wp2_with fail;refine(l7Op_any x k i f j q o l p m s y _ HS.out (N.out.1.below a) (N.out.2.1.below a) (N.out.2.2.1.below a) (N.out.2.2.2.1.below a) N.out.2.2.2.2 hl ho a0.out R.out.1 R.out.2 HN.out).mono ?_;rintro e u ⟨⟨d,d1,I,d2,J,d3,K,code,name,price,rv,L,C,A,B,D,E,rfl,b5,c0,X⟩,O⟩;have d5:=hI (b5.lower a.size);have d7:=hI c0;obtain⟨F,H,G,rfl⟩:∃ F H G,rv=.slice F H G:=by
  rcases X with h|⟨M,b,h⟩
  ·exact⟨_,_,_,h⟩
  ·by_cases h9:y.kind=9
   ·obtain⟨_,_,_,h3⟩:=h.1 h9
    obtain⟨ao,c,e,_⟩:=zr h3;exact⟨ao,_,c,e⟩
   ·exact⟨none,0,0,h.2 h9⟩
 have d6:Hid _:=X;replace a:=zf a O;replace b2:=zb b2 O;replace b3:=zb b3 O;clear b5 c0 X O f0 f1 f2 h0 h1 Y h3 h4 h5 h6 h7 h8 h9 d8 d9 P b1 V2;have e0:w.heap.size+1+1+1<u.heap.size:=zQ b3;go_upto_region 4 with fail;have pA:=zc (heap_alloc_new u (.cells #[.slice d1 d.san I,.slice d2 d.ldn J,.slice d3 d.bkn K] 27)) (.cells #[int i64 code,int i64 name,int i64 price,.slice F H G] 116);have pB:=zbZ u (.cells #[.slice d1 d.san I,.slice d2 d.ldn J,.slice d3 d.bkn K] 27) (.cells #[int i64 code,int i64 name,int i64 price,.slice F H G] 116);have t:Below u.heap.size u ((u.alloc (.cells #[.slice d1 d.san I,.slice d2 d.ldn J,.slice d3 d.bkn K] 27)).alloc (.cells #[int i64 code,int i64 name,int i64 price,.slice F H G] 116)):=zl (zl bZ _) _;have a1:Hid _:=d5.out.below t;have r2:=zb b2 t;have r3:=zb b3 t;have a6:=zf a t;have a2:Hid (zA u ((u.alloc (.cells #[.slice d1 d.san I,.slice d2 d.ldn J,.slice d3 d.bkn K] 27)).alloc (.cells #[int i64 code,int i64 name,int i64 price,.slice F H G] 116)) (fun b=>b=w.heap.size+1+1∨b=w.heap.size+1+1+1)):=zA.of_below t
 generalize (u.alloc (.cells #[.slice d1 d.san I,.slice d2 d.ldn J,.slice d3 d.bkn K] 27)).alloc (.cells #[int i64 code,int i64 name,int i64 price,.slice F H G] 116)=wf at pA pB t a1 r2 r3 a6 a2 ⊢;generalize u.heap.size=r at pA pB e0 ⊢;have p0:=pA;have pT:=pB;have KS:Hid (∀ z:World,z.heap[r]?=some (.cells #[.slice d1 d.san I,.slice d2 d.ldn J,.slice d3 d.bkn K] 27 (0,0))->z.heap[r+1]?=some (.cells #[int i64 code,int i64 name,int i64 price,.slice F H G] 116 (0,0))->z.cell? ⟨r,0,none⟩=some (.slice d1 d.san I)/\z.cell? ⟨r,1,none⟩=some (.slice d2 d.ldn J)/\z.cell? ⟨r,2,none⟩=some (.slice d3 d.bkn K)/\z.cell? ⟨r+1,0,none⟩=some (int i64 code)/\z.cell? ⟨r+1,1,none⟩=some (int i64 name)/\z.cell? ⟨r+1,2,none⟩=some (int i64 price)/\z.cell? ⟨r+1,3,none⟩=some (.slice F H G)):=fun z h1 Y=>⟨za h1 0 _ rfl,za h1 1 _ rfl,za h1 2 _ rfl,za Y 0 _ rfl,za Y 1 _ rfl,za Y 2 _ rfl,za Y 3 _ rfl⟩
 obtain⟨s0,s1,s2⟩:=ce3 r2;obtain⟨c1,c2,c3⟩:=fe3 r2;obtain⟨t0,t1,t2,t3⟩:=ce4 r3;obtain⟨c4,c5,c6,c7⟩:=fe4 r3;go_region_held3 (fun w'=>w'.cell? ⟨r,0,none⟩=some (.slice d1 d.san I)/\w'.cell? ⟨r,1,none⟩=some (.slice d2 d.ldn J)/\w'.cell? ⟨r,2,none⟩=some (.slice d3 d.bkn K)/\w'.cell? ⟨r+1,0,none⟩=some (int i64 code)/\w'.cell? ⟨r+1,1,none⟩=some (int i64 name)/\w'.cell? ⟨r+1,2,none⟩=some (int i64 price)/\w'.cell? ⟨r+1,3,none⟩=some (.slice F H G))
  (first|(refine KS.out _ ?_ ?_ <;> (repeat(first|with_reducible exact p0|with_reducible exact pT|(with_reducible refine zE ?_)|(with_reducible refine zB ?_ _ _ ?_;rotate_left;(focus omega))))))
  (fail)
 obtain⟨Z,e5,e6,a3,a7⟩:=zdO a6 a1.out r2 r3 (by omega) (by omega) (int i64 code) (int i64 name) (int i64 price) (.slice F H G) rfl
 have d0:Hid _:=Z.below (Below.drew bZ);have c8:Hid _:=Below.drew a3;have c9:Hid _:=a7.trans (zA.of_below (Below.drew bZ));clear Z a3 a7;obtain⟨x0,x1,e7⟩:=ce3 (zE e5);obtain⟨z0,z1,z2,z3⟩:=ce4 (zE e6);go_wp2;refine bodyPost_ret (v:=.tuple #[.agg #[.slice d1 d.san I,.slice d2 d.ldn J,.slice d3 d.bkn K],.agg #[int i64 code,int i64 name,int i64 price,.slice F H G],.bool true]) (by simp[results,Tryz.results65,go_sem,x0,x1,e7,z0,z1,z2,z3]) rfl ⟨.inl ⟨a0.out,R.out,d,d1,I,d2,J,d3,K,code,name,price,.slice F H G,L,C,A,B,D,E,rfl,?_,d7.out,?_⟩,c8.out⟩
 ·exact d0.out
 ·rcases d6.out with h|⟨M,b,h⟩
  ·exact .inl h
  ·exact .inr ⟨M,b,zfy h (a2.out.trans c9.out) (fun g e=>by rcases e with e|e;exact⟨_,_,by rw[e];exact b2,by decide⟩;exact⟨_,_,by rw[e];exact b3,by decide⟩)⟩
theorem Off.Short.up {x:Off}{B c:Nat}(h:Off.Short x B)(a:B<=c):Off.Short x c :=
 ⟨⟨Nat.le_trans h.1.1 a,fun i b=>have g:=h.1.2 i b;⟨Nat.le_trans g.1 a,Nat.le_trans g.2.1 a,Nat.le_trans g.2.2.1 a,Nat.le_trans g.2.2.2 a⟩⟩,⟨Nat.le_trans h.2.1.1 a,fun i b=>have g:=h.2.1.2 i b;⟨Nat.le_trans g.1 a,Nat.le_trans g.2.1 a,Nat.le_trans g.2.2 a⟩⟩,⟨Nat.le_trans h.2.2.1 a,fun i b=>have g:=h.2.2.2 i b;⟨Nat.le_trans g.1 a,Nat.le_trans g.2 a⟩⟩⟩
theorem zgj {x:Off}{M:Nat->qm}{n B:Nat}(hB:60<=B)(hn:n=x.san)(h:∀ i,i<x.san->zV (x.sa i) (M i)):zbI n M B:=fun i hi=>by
 have g:=h i (by omega)
 exact⟨by have:=((Zd _ _ _).1 g.1).2.1;show(M i).stn<=_;omega,by have:=g.2.1.2.1;show(M i).ron<=_;omega,by have:=g.2.2.2.1;show(M i).sen<=_;omega⟩
theorem zeq.short {x:Off}{a:Int}{y:OpD}{m:Nat}{k:Off}{code name price:Int}{B:Nat}(h:zeq x a y m k code name price)(o:Off.Short x B)(hB:60<=B)(j:y.own.size<=B)(hl:y.lgn<=3):Off.Short k B:=by
 obtain⟨d,e,b⟩:=o
 rcases h with⟨_,rfl,_⟩|⟨_,rfl,_⟩|⟨_,_,rfl,_⟩|⟨_,l,rfl,_⟩|⟨_,n,rfl,_⟩
 ·exact⟨d,e,b⟩
 ·exact⟨d,e,b⟩
 ·exact⟨d,e,b⟩
 ·refine⟨d,e,by show x.bkn+1<=B;omega,fun i g=>?_⟩
  by_cases c:i=x.bkn
  ·show qi.Short (Zl x.bk x.bkn (ZI x.bkn a y) i) B
   rw[c,qA];exact⟨j,by show y.lgn<=B;omega⟩
  ·show qi.Short (Zl x.bk x.bkn (ZI x.bkn a y) i) B
   rw[Zp _ _ _ c];exact b.2 i (by have:i<x.bkn+1:=g;omega)
 ·refine⟨d,e,b.1,fun i g=>?_⟩
  show qi.Short (Zl x.bk m (qg (x.bk m) a y) i) B
  by_cases c:i=m
  ·rw[c,qA]
   have f:=b.2 m n;unfold qg
   split
   ·exact f
   ·split
    ·exact⟨f.1,by show y.lgn<=B;omega⟩
    ·split
     ·exact f
     ·split
      ·exact⟨j,f.2⟩
      ·exact f
  ·rw[Zp _ _ _ c]
   exact b.2 i g
theorem OpTo.short {x:Off}{b:Int}{y:OpD}{m:Nat}{f:Off}{code name price:Int}{B:Nat}(h:OpTo x b y m f code name price)(j:ql x)(a:Off.Short x B)(e:60<=B)(n:y.own.size<=B):Off.Short f B:=by
 rcases h with⟨_,rfl,_⟩|⟨_,_,rfl,_⟩|⟨l,M,x3,d,k,g,i⟩
 ·exact a
 ·exact a
 ·by_cases c:code≠0∨y.kind=1
  ·rw[g c];exact a
  ·rw[i c]
   exact k.short ⟨a.1,⟨a.2.1.1,zgj e j.2.1 d.good⟩,a.2.2⟩ e n (zgg l.1).2
theorem OpTo.few {x:Off}{d:Int}{y:OpD}{m:Nat}{b:Off}{code name price:Int}(h:OpTo x d y m b code name price)(i:ql x):b.bkn<=30/\b.san=x.san/\b.sa=x.sa:=by
 have a:=i.2.2.1
 rcases h with⟨_,rfl,_⟩|⟨_,_,rfl,_⟩|⟨hf,M,x3,k,j,f,g⟩
 ·exact⟨a,rfl,rfl⟩
 ·exact⟨a,rfl,rfl⟩
 ·by_cases c:code≠0∨y.kind=1
  ·rw[f c];exact⟨a,rfl,rfl⟩
  ·rw[g c]
   rcases j with⟨_,rfl,_⟩|⟨_,rfl,_⟩|⟨_,_,rfl,_⟩|⟨_,e,rfl,_⟩|⟨_,_,rfl,_⟩
   ·exact⟨a,rfl,rfl⟩
   ·exact⟨a,rfl,rfl⟩
   ·exact⟨a,rfl,rfl⟩
   ·exact⟨by have e:x.bkn<30:=e;show x.bkn+1<=30;omega,rfl,rfl⟩
   ·exact⟨a,rfl,rfl⟩
def ZX (base:Nat)(san:Nat)(b1 b2 b3:Option Addr)(m1 m2 m3 d1 d2 d3:Nat)(tb:Bool)(u:World):Prop :=
 tb=false∨∃ (a:Off) (L C A B D E:Nat->Value),m1=a.san/\m2=a.ldn/\m3=a.bkn/\a.san=san/\a.bkn<=30/\Off.Short a 1000/\zy u base (.slice b1 m1 d1) (.slice b2 m2 d2) (.slice b3 m3 d3) a.san a.ldn a.bkn a L C A B D E
theorem ZX.below {base san:Nat}{b1 b2 b3:Option Addr}{m1 m2 m3 d1 d2 d3:Nat}{tb:Bool}{u a:World}(h:ZX base san b1 b2 b3 m1 m2 m3 d1 d2 d3 tb u)(i:Below u.heap.size u a):ZX base san b1 b2 b3 m1 m2 m3 d1 d2 d3 tb a:=by
 rcases h with h|⟨j,L,C,A,B,D,E,b,c,d,e,f,g,h7⟩
 ·exact .inl h
 ·exact .inr ⟨j,L,C,A,B,D,E,b,c,d,e,f,g,h7.below i⟩
theorem ZX.lower {base a san:Nat}{b1 b2 b3:Option Addr}{m1 m2 m3 d1 d2 d3:Nat}{tb:Bool}{u:World}(h:ZX base san b1 b2 b3 m1 m2 m3 d1 d2 d3 tb u)(i:a<=base):ZX a san b1 b2 b3 m1 m2 m3 d1 d2 d3 tb u:=by
 rcases h with h|⟨j,L,C,A,B,D,E,b,c,d,e,f,g,h7⟩
 ·exact .inl h
 ·exact .inr ⟨j,L,C,A,B,D,E,b,c,d,e,f,g,h7.lower i⟩
theorem ZX.box {base san:Nat}{b1 b2 b3:Option Addr}{m1 m2 m3 d1 d2 d3:Nat}{tb:Bool}{u a:World}{g t:Nat}{cs:Array Value}(h:ZX base san b1 b2 b3 m1 m2 m3 d1 d2 d3 tb u)(l:zA u a (fun b=>b=g))(k:u.heap[g]?=some (.cells cs t (0,0)))
  (m:33≠t/\88≠t/\96≠t/\55≠t/\84≠t/\93≠t/\99≠t/\43≠t/\3≠t):ZX base san b1 b2 b3 m1 m2 m3 d1 d2 d3 tb a:=by
 rcases h with h|⟨n,L,C,A,B,D,E,c,d,e,f,i,j,h7⟩
 ·exact .inl h
 ·exact .inr ⟨n,L,C,A,B,D,E,c,d,e,f,i,j,h7.box l k m⟩
theorem dop_next (x:Off)(f d c a:Option Addr)(m l g i:Nat)(j:Int)(y:OpD)(w:World)(K:Off.Short x 1000)(v:SailsAt w f x.san x.sa)(s:Zw w d x.ldn x.ld)(q:qK w c x.bkn x.bk)(r:x.bkn<=g)(t:zX w a y.lgn y.lg)(F:zZ a y.lgn i)(hl:y.lgn<=1048576)(I:y.own.size<=1000) :
  Calls Tryz.prog 65 #[.agg #[.slice f x.san m,.slice d x.ldn l,.slice c x.bkn g],int i64 j,.agg #[int i64 y.kind,.string y.own,int i64 y.name,.slice a y.lgn i,int i64 y.pe,int i64 y.len,int i64 y.hei,int i64 y.cl,.bool y.all,int i64 y.be,int i64 y.unt,int i64 y.now]] w fun e w' =>
   (∃ b1 b2 b3 b4 m1 m2 m3 m4 d1 d2 d3 d4 k1 k2 k3 tb,e=.returned (.tuple #[.agg #[.slice b1 m1 d1,.slice b2 m2 d2,.slice b3 m3 d3],.agg #[int i64 k1,int i64 k2,int i64 k3,.slice b4 m4 d4],.bool tb])/\Hid (ZX w.heap.size x.san b1 b2 b3 m1 m2 m3 d1 d2 d3 tb w'))/\Below w.heap.size w w':=by
 refine(zgi x f d c a m l g i (y.name - 1).toNat j y w (K.up (by decide)) v s q r t F hl (Nat.le_trans I (by decide)) (fun T U=>?_)).mono ?_
 ·have p:=T.2.2.1
  unfold ZA at p;rw[if_pos U] at p;unfold In at p
  omega
 ·rintro e w' ⟨h,V⟩
  refine⟨?_,V⟩
  rcases h with⟨G,_,Y,N,Q,O,R,P,S,code,name,price,X,L,C,A,B,D,E,rfl,n,o,u⟩|⟨_,rfl⟩
  ·have H:=o.few G
   have z:=o.short G K (by decide) I
   obtain⟨b4,m4,d4,rfl⟩:∃ b4 m4 d4,X=.slice b4 m4 d4:=by
    rcases u with rfl|⟨M,b,J⟩
    ·exact⟨_,_,_,rfl⟩
    ·by_cases c9:y.kind=9
     ·obtain⟨k,_,_,W⟩:=J.1 c9
      obtain⟨q1,q2,e,_⟩:=zr W;exact⟨_,_,_,e⟩
     ·exact⟨_,_,_,J.2 c9⟩
   exact⟨N,O,P,b4,_,_,_,m4,Q,R,S,d4,code,name,price,true,rfl,.inr ⟨Y,L,C,A,B,D,E,rfl,rfl,rfl,H.2.1,H.1,z,n⟩⟩
  ·exact⟨none,none,none,none,0,0,0,0,0,0,0,0,0,0,0,false,rfl,.inl rfl⟩
section
open Go.RowKit
structure NX where
 b1:Option Addr
 b2:Option Addr
 b3:Option Addr
 b4:Option Addr
 m1:Nat
 m2:Nat
 m3:Nat
 m4:Nat
 d1:Nat
 d2:Nat
 d3:Nat
 d4:Nat
 k1:Int
 k2:Int
 k3:Int
 tb:Bool
def NX.Ok (q:NX)(base san:Nat)(u:World):Prop:=ZX base san q.b1 q.b2 q.b3 q.m1 q.m2 q.m3 q.d1 q.d2 q.d3 q.tb u
def n3:Array Value:=#[.slice none 0 0,.slice none 0 0,.slice none 0 0]
def a4:Array Value:=#[int i64 0,int i64 0,int i64 0,.slice none 0 0]
structure R8 (w u:World)(m:Nat)(i:Option Addr)(n c a d:Nat)(x:Off)(e g h:Option Addr)(j k l:Nat)(L C A B D E:Nat->Value)(p r:Option Nat)(lg:Option (OpD × Option Addr × Nat))(o:Option NX):Prop where
 f:zat w u m i n c a d x e g h j k l L C A B D E
 h7:∀ b,p=some b->d<b/\u.heap[b]?=some (.cells n3 27 (0,0))
 h8:∀ b,r=some b->d<b/\u.heap[b]?=some (.cells a4 116 (0,0))
 hl:∀ y ag cg,lg=some (y,ag,cg)->u.ownsRow w.heap.size 3 1 (.slice ag y.lgn cg) y.lgn (zw y.lg y.lgn)
 hn:∀ q,o=some q->q.Ok w.heap.size x.san u
section
variable {w u u' : World} {cb : Nat} {ao : Option Addr} {n c a a' ob : Nat} {x : Off} {a1 a2 a3 : Option Addr} {c1 c2 c3 : Nat} {L C A B D E : Nat -> Value} {p7 p8 : Option Nat} {lg : Option (OpD × Option Addr × Nat)} {nx : Option NX}
theorem R8.below (h:R8 w u cb ao n c a ob x a1 a2 a3 c1 c2 c3 L C A B D E p7 p8 lg nx)(d:Below u.heap.size u u'):R8 w u' cb ao n c a ob x a1 a2 a3 c1 c2 c3 L C A B D E p7 p8 lg nx :=
 ⟨h.f.below d,fun b e=>⟨(h.h7 b e).1,zb (h.h7 b e).2 d⟩,fun b e=>⟨(h.h8 b e).1,zb (h.h8 b e).2 d⟩,fun y f g e=>zp d (h.hl y f g e),fun q e=>(h.hn q e).below d⟩
theorem R8.al7 (h:R8 w u cb ao n c a ob x a1 a2 a3 c1 c2 c3 L C A B D E none p8 lg nx):R8 w (u.alloc (.cells #[.slice none 0 0,.slice none 0 0,.slice none 0 0] 27)) cb ao n c a ob x a1 a2 a3 c1 c2 c3 L C A B D E (some u.heap.size) p8 lg nx:=by
 have k:=h.below (zl (Below.refl _ u) (.cells #[.slice none 0 0,.slice none 0 0,.slice none 0 0] 27));exact⟨k.f,fun b e=>by cases e;exact⟨h.f.ob_lt,heap_alloc_new u _⟩,k.h8,k.hl,k.hn⟩
theorem R8.al8 (h:R8 w u cb ao n c a ob x a1 a2 a3 c1 c2 c3 L C A B D E p7 none lg nx):R8 w (u.alloc (.cells #[int i64 0,int i64 0,int i64 0,.slice none 0 0] 116)) cb ao n c a ob x a1 a2 a3 c1 c2 c3 L C A B D E p7 (some u.heap.size) lg nx:=by
 have k:=h.below (zl (Below.refl _ u) (.cells #[int i64 0,int i64 0,int i64 0,.slice none 0 0] 116));exact⟨k.f,k.h7,fun b e=>by cases e;exact⟨h.f.ob_lt,heap_alloc_new u _⟩,k.hl,k.hn⟩
theorem own_okR {w:World}{base e size n c:Nat}{a:Option Addr}{j:List Value}(h:w.ownsRow base e size (.slice a n c) n j):zZ a n c:=by
 obtain⟨b,d,e,f,g,i⟩:=zr h
 cases e
 exact⟨f,g,i⟩
theorem R8.op (h:R8 w u cb ao n c a ob x a1 a2 a3 c1 c2 c3 L C A B D E p7 p8 none nx)(g:cb<w.heap.size)(r:a<=600000000000000000)(o:x.san<=1000)(p:x.bkn<=1000) :
  Calls Tryz.prog 66 #[.pointer (some ⟨cb,0,none⟩),.agg #[.slice a1 x.san c1,.slice a2 x.ldn c2,.slice a3 x.bkn c3]] u fun e k=>∃ (y:OpD) (d:Option Addr) (f:Nat),e=.returned (.agg (zah y (.slice d y.lgn f)))/\y.own.size<=10/\y.lgn<=7/\Hid (R8 w k cb ao n c (a+300) ob x a1 a2 a3 c1 c2 c3 L C A B D E p7 p8 (some (y,d,f)) none):=by
 refine(op_any cb ao n c a a1 a2 a3 x.san c1 x.ldn c2 x.bkn c3 x.sa u r o p h.f.cur h.f.sails).mono ?_;rintro e k ⟨⟨y,d,f,rfl,k1,k2,j⟩,s,i⟩;have t:=h.f.lt;exact⟨y,d,f,rfl,k1,k2,h.f.on g s i,fun b e=>⟨(h.h7 b e).1,i.blk (h.h7 b e).2 (fun q=>by have q:b=cb:=q;have:=(h.h7 b e).1;omega)⟩,fun b e=>⟨(h.h8 b e).1,i.blk (h.h8 b e).2 (fun q=>by have q:b=cb:=q;have:=(h.h8 b e).1;omega)⟩,fun y' l m e=>by cases e;exact zC j h.f.kept.size,fun q e=>by cases e⟩
theorem R8.dop {y:OpD}{b:Option Addr}{d:Nat}(h:R8 w u cb ao n c a ob x a1 a2 a3 c1 c2 c3 L C A B D E p7 p8 (some (y,b,d)) nx)(l:Off.Short x 1000)(k1:y.own.size<=10)(k2:y.lgn<=7)(i:Int) :
  Calls Tryz.prog 65 #[.agg #[.slice a1 x.san c1,.slice a2 x.ldn c2,.slice a3 x.bkn c3],int i64 i,.agg (zah y (.slice b y.lgn d))] u fun e g=>∃ q:NX,e=.returned (.tuple #[.agg #[.slice q.b1 q.m1 q.d1,.slice q.b2 q.m2 q.d2,.slice q.b3 q.m3 q.d3],.agg #[int i64 q.k1,int i64 q.k2,int i64 q.k3,.slice q.b4 q.m4 q.d4],.bool q.tb])/\Hid (R8 w g cb ao n c a ob x a1 a2 a3 c1 c2 c3 L C A B D E p7 p8 none (some q)):=by
 have hl:=h.hl y b d rfl;refine(dop_next x a1 a2 a3 b c1 c2 c3 d i y u l h.f.own.sa.at h.f.own.ld.at h.f.own.bk.at h.f.cap (own_ints hl) (own_okR hl) (by omega) (by omega)).mono ?_
 rintro e g ⟨⟨b1,b2,b3,b4,m1,m2,m3,m4,d1,d2,d3,d4,k1,k2,k3,tb,rfl,f⟩,j⟩;have k:=h.below j;exact⟨⟨b1,b2,b3,b4,m1,m2,m3,m4,d1,d2,d3,d4,k1,k2,k3,tb⟩,rfl,k.f,k.h7,k.h8,fun _ _ _ e=>(by cases e),fun q e=>by cases e;exact f.out.lower h.f.kept.size⟩
end
end
section
open Go.RowKit
structure zbk (w u:World)(d:Nat)(f:Option Addr)(n c a e:Nat)(g h i:Value):Prop where
 cur:CurIs u d f n c a
 kept:zA w u (fun b=>b=d)
 lt:w.heap.size<e
 res:u.heap[w.heap.size]?=some (.cells #[.slice none 0 0,.slice none 0 0,.slice none 0 0] 27 (0,0))
 box:u.heap[e]?=some (.cells #[g,h,i] 27 (0,0))
section
variable {w u u' : World} {cb n c a a' ob : Nat} {ao : Option Addr} {p1 p2 p3 : Value}
theorem zat.x {x:Off}{b d e:Option Addr}{f g i:Nat}{L C A B D E:Nat->Value}(h:zat w u cb ao n c a ob x b d e f g i L C A B D E):zbk w u cb ao n c a ob (.slice b x.san f) (.slice d x.ldn g) (.slice e x.bkn i):=⟨h.cur,h.kept,h.lt,h.res,h.box⟩
theorem zbk.f {x:Off}{b d e:Option Addr}{f g i:Nat}{L C A B D E:Nat->Value}(h:zbk w u cb ao n c a ob (.slice b x.san f) (.slice d x.ldn g) (.slice e x.bkn i))(k:zy u w.heap.size (.slice b x.san f) (.slice d x.ldn g) (.slice e x.bkn i) x.san x.ldn x.bkn x L C A B D E)(j:a<=a'):zat w u cb ao n c a' ob x b d e f g i L C A B D E:=⟨h.cur.more j,h.kept,h.lt,h.res,h.box,k⟩
theorem zbk.on (h:zbk w u cb ao n c a ob p1 p2 p3)(f:cb<w.heap.size)(e:CurIs u' cb ao n c a')(d:zA u u' (fun b=>b=cb)):zbk w u' cb ao n c a' ob p1 p2 p3:=by
 have h1:=h.lt;exact⟨e,h.kept.trans d,h.lt,d.blk h.res (by omega),d.blk h.box (by omega)⟩
theorem zbk.below (h:zbk w u cb ao n c a ob p1 p2 p3)(b:Below u.heap.size u u'):zbk w u' cb ao n c a ob p1 p2 p3 :=
 ⟨h.cur.below b,h.kept.trans (zA.of_below b),h.lt,zb h.res b,zb h.box b⟩
theorem zbk.s (h:zbk w u cb ao n c a ob p1 p2 p3):u.cell? ⟨ob,0,none⟩=some p1/\u.cell? ⟨ob,1,none⟩=some p2/\u.cell? ⟨ob,2,none⟩=some p3 :=
 ⟨za h.box 0 _ rfl,za h.box 1 _ rfl,za h.box 2 _ rfl⟩
theorem zbk.far {T:Nat->Prop}(h:zbk w u cb ao n c a ob p1 p2 p3)(o:cb<w.heap.size)(hl:qO w ao n)(f:zA u u' T)
  (d:∀ b,T b->w.heap.size<=b/\∃ cs t,u.heap[b]?=some (.cells cs t (0,0))/\27≠t):zbk w u' cb ao n c a ob p1 p2 p3:=by
 have ne:∀ b cs,u.heap[b]?=some (.cells cs 27 (0,0))->¬ T b:=fun b cs m p=>by
  obtain⟨_,j,t,g,l⟩:=d b p;rw[m] at g;simp only[Option.some.injEq,Obj.cells.injEq] at g;exact l g.2.1
 exact⟨h.cur.far f (fun t=>by have:=(d _ t).1;omega) (fun k i b off e t=>by have:=hl k i b off e;have:=(d _ t).1;omega),h.kept.over f (fun b t=>(d b t).1),h.lt,f.blk h.res (ne _ _ h.res),f.blk h.box (ne _ _ h.box)⟩
theorem zbk.put2 (h:zbk w u cb ao n c a ob p1 p2 p3)(d:cb<w.heap.size)(hl:qO w ao n)(q:Value):zbk w (u.setCell ⟨ob,2,none⟩ q) cb ao n c a ob p1 p2 q:=by
 have h0:=h.lt;exact⟨h.cur.box (by omega) (fun k f b off e=>by have:=hl k f b off e;omega) 2 _,ZB h.kept (by omega) _ _,h.lt,zB h.res 2 _ (by omega),zt h.box 2 _⟩
theorem zat.fin {x:Off}{l m o:Option Addr}{p q r:Nat}{L C A B D E:Nat->Value}(h:zat w u cb ao n c a ob x l m o p q r L C A B D E)(s:cb<w.heap.size)(hl:qO w ao n)(d f g:Value) :
  CurIs (((u.setCell ⟨w.heap.size,0,none⟩ d).setCell ⟨w.heap.size,1,none⟩ f).setCell ⟨w.heap.size,2,none⟩ g) cb ao n c a/\zA w (((u.setCell ⟨w.heap.size,0,none⟩ d).setCell ⟨w.heap.size,1,none⟩ f).setCell ⟨w.heap.size,2,none⟩ g) (fun b=>b=cb)/\(((u.setCell ⟨w.heap.size,0,none⟩ d).setCell ⟨w.heap.size,1,none⟩ f).setCell ⟨w.heap.size,2,none⟩ g).heap[w.heap.size]?=some (.cells #[d,f,g] 27 (0,0)) /\
   zy (((u.setCell ⟨w.heap.size,0,none⟩ d).setCell ⟨w.heap.size,1,none⟩ f).setCell ⟨w.heap.size,2,none⟩ g) w.heap.size (.slice l x.san p) (.slice m x.ldn q) (.slice o x.bkn r) x.san x.ldn x.bkn x L C A B D E:=by
 have i:zA u (((u.setCell ⟨w.heap.size,0,none⟩ d).setCell ⟨w.heap.size,1,none⟩ f).setCell ⟨w.heap.size,2,none⟩ g) (fun b=>b=w.heap.size):=(((zA.refl u (fun b=>b=w.heap.size)).set (a:=⟨w.heap.size,0,none⟩) rfl _).set (a:=⟨w.heap.size,1,none⟩) rfl _).set (a:=⟨w.heap.size,2,none⟩) rfl _
 exact⟨h.cur.far i (by omega) (fun k j b off e=>by have:=hl k j b off e;omega),h.kept.over i (fun b e=>by have e:b=w.heap.size:=e;omega),zdE h.res _ _ _,h.own.box i h.res (by decide)⟩
end
theorem Off.Short.load {x:Off}{B a:Nat}(h:Off.Short x B)(b:B<=a)(k:Nat){y:qm}(d:qm.Short y a):Off.Short { x with ld:=zcs x.ld k y } a:=by
 have g:=h.up b;refine⟨g.1,⟨g.2.1.1,fun i c=>?_⟩,g.2.2⟩
 show qm.Short (zcs x.ld k y i) a
 by_cases e:i=k
 ·subst e;rw[Qa];exact d
 ·rw[Qb _ _ _ e];exact g.2.1.2 i c
theorem Off.Short.book {x:Off}{B:Nat}(h:Off.Short x B)(k:Nat){y:qi}(d:qi.Short y B){N:Nat}(b:N<=B)(a:∀ i,i<N->i≠k->i<x.bkn):Off.Short { x with bkn:=N,bk:=Zl x.bk k y } B:=by
 refine⟨h.1,h.2.1,b,fun i c=>?_⟩
 show qi.Short (Zl x.bk k y i) B
 by_cases e:i=k
 ·subst e;rw[qA];exact d
 ·rw[Zp _ _ _ e];exact h.2.2.2 i (a i c e)
section
variable {w w' : World} {base g c k n1 n2 n3 : Nat} {v1 v2 v3 u v' lv : Value} {x : Off} {L C A B D E : Nat -> Value}
theorem zy.addBk {lim:Nat}{nb:qi}(h:zy w base v1 v2 v3 n1 n2 k x L C A B D E)(a:∀ i,i<k->∀ b,(E i).ownBlock=some b->b<lim)
  (hl:w.ownsRow lim 3 1 lv nb.lgn (zw nb.lg nb.lgn)) (c:base<=lim) (l:w.grownBy w' v3.ownBlock)
  (d:w'.ownsRow base 43 13 v' (k+1) (Qq x.bk E k++bkC (Zl x.bk k nb) (atV E k lv) k)):zy w' base v1 v2 v' n1 n2 (k+1) { x with bkn:=k+1,bk:=Zl x.bk k nb } L C A B D (atV E k lv):=by
 have g:=h.bk.congr (S':=Zl x.bk k nb) (fun i hi=>(Zp _ _ _ (by omega)).symm)
 have f:zy w base v1 v2 v3 n1 n2 k { x with bkn:=k+1,bk:=Zl x.bk k nb } L C A B D E:=⟨h.sa,h.ld,g⟩;have e:Qq x.bk E k=Qq (Zl x.bk k nb) E k:=List.map_congr_left fun j m=>by
  have n:j<k*13:=by simpa using m
  unfold recCell bkC;rw[Zp _ _ _ (show j / 13≠k by omega)]
 rw[e] at d;exact f.book a (by show w.ownsRow lim 3 1 lv (Zl x.bk k nb k).lgn (zw (Zl x.bk k nb k).lg (Zl x.bk k nb k).lgn);rw[qA];exact hl) c l d
theorem zy.setC {y:qi}{j:Nat}(h:zy w base v1 v2 (.slice (some ⟨g,0,none⟩) n3 c) n1 n2 n3 x L C A B D E)(hn:0<n3)(m:y.lgn=(x.bk 0).lgn/\y.lg=(x.bk 0).lg)(hj:j<13)
  (p:∀ r,r<13->(if r=j then u else (bkC x.bk E 0).getD r (.bool false))=(bkC (Zl x.bk 0 y) E 0).getD r (.bool false)) :
  zy (w.setCell ⟨g,j,none⟩ u) base v1 v2 (.slice (some ⟨g,0,none⟩) n3 c) n1 n2 n3 { x with bk:=Zl x.bk 0 y } L C A B D (atV E 0 (E 0)):=by
 have n:atV E 0 (E 0)=E:=by
  funext i
  by_cases e:i=0
  ·subst e;exact atV_at _ _ _
  ·exact atV_ne _ _ _ _ e
 refine h.putBk ((zA.refl w (fun b=>b=g)).set (a:=⟨g,j,none⟩) rfl _) ?_ (by rw[m.1,m.2];exact h.bk.legs 0 hn) (h.bk.far_same hn)
 rw[n];refine own_congr (own_store h.bk.row j u) (fun i _=>zbd 13 (by decide) (k:=0) (C:=bkC x.bk E) (C':=bkC (Zl x.bk 0 y) E) (f:=fun i=>if i=j then u else recCell 13 (bkC x.bk E) i) (fun r l=>?_) (fun i d=>?_) (fun i d=>?_) i)
 ·have o:=zz 13 (bkC x.bk E) 0 r l
  rw[← p r l,o,show 0*13+r=r by omega]
 ·rw[if_neg (by omega)]
 ·unfold bkC
  rw[Zp _ _ _ d]
theorem zy.setUn (q:Int)(h:zy w base v1 v2 (.slice (some ⟨g,0,none⟩) n3 c) n1 n2 n3 x L C A B D E)(hn:0<n3):zy (w.setCell ⟨g,11,none⟩ (int i64 q)) base v1 v2 (.slice (some ⟨g,0,none⟩) n3 c) n1 n2 n3 { x with bk:=Zl x.bk 0 { x.bk 0 with unt:=q } } L C A B D (atV E 0 (E 0)):=by
 refine h.setC hn ⟨rfl,rfl⟩ (by decide) fun r hr=>?_
 unfold bkC;rw[qA];have a:r=0∨r=1∨r=2∨r=3∨r=4∨r=5∨r=6∨r=7∨r=8∨r=9∨r=10∨r=11∨r=12:=by omega
 rcases a with rfl|rfl|rfl|rfl|rfl|rfl|rfl|rfl|rfl|rfl|rfl|rfl|rfl <;> rfl
theorem zy.setSta (q:Int)(h:zy w base v1 v2 (.slice (some ⟨g,0,none⟩) n3 c) n1 n2 n3 x L C A B D E)(hn:0<n3):zy (w.setCell ⟨g,10,none⟩ (int i64 q)) base v1 v2 (.slice (some ⟨g,0,none⟩) n3 c) n1 n2 n3 { x with bk:=Zl x.bk 0 { x.bk 0 with state:=q } } L C A B D (atV E 0 (E 0)):=by
 refine h.setC hn ⟨rfl,rfl⟩ (by decide) fun r hr=>?_
 unfold bkC;rw[qA];have a:r=0∨r=1∨r=2∨r=3∨r=4∨r=5∨r=6∨r=7∨r=8∨r=9∨r=10∨r=11∨r=12:=by omega
 rcases a with rfl|rfl|rfl|rfl|rfl|rfl|rfl|rfl|rfl|rfl|rfl|rfl|rfl <;> rfl
end
section
variable {w w' : World} {base g c k N m : Nat} {S : Nat -> qm} {A B C : Nat -> Value} {u : Value}
theorem qz.growSe {T:Nat->Qo}(h:qz w base (.slice (some ⟨g,0,none⟩) N c) N S A B C)(E:k<N)(M:w.grownBy w' (C k).ownBlock)(hl:w'.ownsRow base 99 2 u m (zJ T m))(J:∀ b,u.ownBlock=some b->(C k).ownBlock=some b∨b=w.heap.size) :
  qz (w'.setCell ⟨g,k*3+2,none⟩ u) base (.slice (some ⟨g,0,none⟩) N c) N (zcs S k { S k with sen:=m,se:=T }) A B (atV C k u):=by
 have F:=zS M;have o:=F.own h.row (fun q s y=>own_apart (h.se k E) h.row (by decide) q y s)
 have G:zA w' (w'.setCell ⟨g,k*3+2,none⟩ u) (fun x=>x=g):=(zA.refl w' (fun x=>x=g)).set (a:=⟨g,k*3+2,none⟩) rfl _
 have far:∀ {t K n:Nat} {v:Value} {L:List Value},w'.ownsRow base t K v n L->55≠t->(w'.setCell ⟨g,k*3+2,none⟩ u).ownsRow base t K v n L:=fun l O=>G.own l (fun q H I=>own_apart o l O q (by rw[I];rfl) H)
 refine⟨zdN o,fun i d=>?_,fun i d=>?_,fun i d=>?_,h.far.1,h.far.2.1,fun i j d D f b z r=>?_⟩
 ·have l:=far (F.own (h.st i d) (fun q s y=>own_apart (h.se k E) (h.st i d) (by decide) q y s)) (by decide)
  by_cases e:i=k
  ·subst e;rw[Qa];exact l
  ·rw[Qb _ _ _ e];exact l
 ·have l:=far (F.own (h.ro i d) (fun q s y=>own_apart (h.se k E) (h.ro i d) (by decide) q y s)) (by decide)
  by_cases e:i=k
  ·subst e;rw[Qa];exact l
  ·rw[Qb _ _ _ e];exact l
 ·by_cases e:i=k
  ·subst e;rw[atV_at,Qa];exact far hl (by decide)
  ·rw[atV_ne _ _ _ _ e,Qb _ _ _ e];exact far (F.own (h.se i d) (fun q s y=>h.far.2.2 i k d E e q s y)) (by decide)
 ·by_cases ei:i=k
  ·subst ei
   rw[atV_at] at z;rw[atV_ne _ _ _ _ (fun h=>f h.symm)] at r
   rcases J b z with p|p
   ·exact h.far.2.2 i j d D f b p r
   ·have:=((h.se j D).lt b r).2
    omega
  ·rw[atV_ne _ _ _ _ ei] at z
   by_cases ej:j=k
   ·subst ej
    rw[atV_at] at r
    rcases J b r with p|p
    ·exact h.far.2.2 i j d D f b z p
    ·have:=((h.se i d).lt b z).2
     omega
   ·rw[atV_ne _ _ _ _ ej] at r
    exact h.far.2.2 i j d D f b z r
end
section
variable {w w' : World} {base g c k m n1 n2 n3 : Nat} {v1 v3 u : Value} {x : Off} {L C A B D E : Nat -> Value}
theorem zy.growSe {T:Nat->Qo}(h:zy w base v1 (.slice (some ⟨g,0,none⟩) n2 c) v3 n1 n2 n3 x L C A B D E)(j:k<n2)(n:w.grownBy w' (D k).ownBlock)(hl:w'.ownsRow base 99 2 u m (zJ T m))(t:∀ b,u.ownBlock=some b->(D k).ownBlock=some b∨b=w.heap.size) :
  zy (w'.setCell ⟨g,k*3+2,none⟩ u) base v1 (.slice (some ⟨g,0,none⟩) n2 c) v3 n1 n2 n3 { x with ld:=zcs x.ld k { x.ld k with sen:=m,se:=T } } L C A B (atV D k u) E:=by
 have l:=zS n;have d:=l.own h.ld.row (fun q o p=>own_apart (h.ld.se k j) h.ld.row (by decide) q p o)
 have i:zA w' (w'.setCell ⟨g,k*3+2,none⟩ u) (fun x=>x=g):=(zA.refl w' (fun x=>x=g)).set (a:=⟨g,k*3+2,none⟩) rfl _
 have s:=h.sa.other l (fun q e=>by obtain⟨cs,f⟩:=zG (h.ld.se k j) q e;exact⟨cs,_,f,by decide,by decide,by decide⟩)
 have r:=h.bk.other l (fun q e=>by obtain⟨cs,f⟩:=zG (h.ld.se k j) q e;exact⟨cs,_,f,by decide,by decide⟩)
 exact⟨s.other i (fun q e=>by obtain⟨cs,f⟩:=zG d q (by rw[show q=g from e];rfl);exact⟨cs,_,f,by decide,by decide,by decide⟩),h.ld.growSe j n hl t,r.other i (fun q e=>by obtain⟨cs,f⟩:=zG d q (by rw[show q=g from e];rfl);exact⟨cs,_,f,by decide,by decide⟩)⟩
end
end
def zeE (p:zP)(n:Nat)(S:Nat->qH)(e:Ending):Prop :=
 (zfh p n S/\e=.returned (.tuple #[six (qV p S n),.bool true]))∨(¬ zfh p n S/\e=.returned (.tuple #[six (fun _=>0),.bool false]))
theorem zbU {w:World}{g t:Nat}{u0 u1 u2 u3 u4 u5:Value}(h:w.heap[g]?=some (.cells #[u0,u1,u2,u3,u4,u5] t (0,0)))(a b c d e f:Value) :
  ((((((w.setCell ⟨g,0,none⟩ a).setCell ⟨g,1,none⟩ b).setCell ⟨g,2,none⟩ c).setCell ⟨g,3,none⟩ d).setCell ⟨g,4,none⟩ e).setCell ⟨g,5,none⟩ f).heap[g]?=some (.cells #[a,b,c,d,e,f] t (0,0)):=by
 have:=zt (zt (zt (zt (zt (zt h 0 a) 1 b) 2 c) 3 d) 4 e) 5 f
 simpa using this
theorem zac {w w':World}{g:Nat}(h:Below w.heap.size w w')(a:w.heap.size<=g)(b c d e f i:Value):Below w.heap.size w ((((((w'.setCell ⟨g,0,none⟩ b).setCell ⟨g,1,none⟩ c).setCell ⟨g,2,none⟩ d).setCell ⟨g,3,none⟩ e).setCell ⟨g,4,none⟩ f).setCell ⟨g,5,none⟩ i) :=
 (((((h.setCell a _).setCell a _).setCell a _).setCell a _).setCell a _).setCell a _
theorem zero_row6 {w:World}{g t:Nat}(h:w.heap[g]?=some (.cells #[int i64 0,int i64 0,int i64 0,int i64 0,int i64 0,int i64 0] t (0,0))):w.rowIs g t 6 (fun k=>int i64 (upto 0 (fun _=>(0:Int)) 0 k)):=by
 refine⟨_,h,rfl,fun i hi=>?_⟩
 have:i=0∨i=1∨i=2∨i=3∨i=4∨i=5:=by omega
 rcases this with rfl|rfl|rfl|rfl|rfl|rfl <;> rfl
theorem zas (ao bo:Option Addr)(m mc n c:Nat)(p:zP)(S:Nat->qH)(w:World)(hl:p.n=m)(hm:m<=1048576)(hn:n<=1048576)(hc:n<=c)(hx:zT w ao p)(hz:qo w bo n S) :
  Calls Tryz.prog 76 #[.slice ao m mc,.slice bo n c] w fun e w'=>zeE p n S e/\Below w.heap.size w w':=by
 have V:=hI hl;have HX:=hI hx;have HZ:=hI hz;clear hl hx hz;have a0:Below w.heap.size w (w.alloc (.cells #[int i64 0,int i64 0,int i64 0,int i64 0,int i64 0,int i64 0] 131)):=zl bZ _;have r0:(w.alloc (.cells #[int i64 0,int i64 0,int i64 0,int i64 0,int i64 0,int i64 0] 131)).heap[w.heap.size]?=some (.cells #[int i64 0,int i64 0,int i64 0,int i64 0,int i64 0,int i64 0] 131 (0,0)):=heap_alloc_new w _;go_enter Tryz.func76,Tryz.ntmps76;go_wp2_with fail;refine(zaT ao m mc p _ V.out hm (HX.out.below a0)).mono ?_;rintro e w1 ⟨⟨q,rfl,hq⟩,a1⟩;have N:=zf a0 a1;have P:=zb r0 a1;clear a0 r0 a1
 cases q with
 | false =>
  have R:Hid (¬ zdj p):=fun h=>by have:=hq.2 h;cases this
  clear hq;obtain⟨o0,o1,o2,o3,o4,o5⟩:=ce6 P;obtain⟨f0,f1,f2,f3,f4,f5⟩:=fe6 P;go_wp2;have K:=zbU P (int i64 0) (int i64 0) (int i64 0) (int i64 0) (int i64 0) (int i64 0);obtain⟨D,E,F,H,I,J⟩:=ce6 K;exact bodyPost_ret (v:=.tuple #[six (fun _=>0),.bool false]) (by simp[results,Tryz.results76,go_sem,D,E,F,H,I,J,six]) rfl ⟨.inr ⟨fun h=>R.out h.1,rfl⟩,zac N (Nat.le_refl _) _ _ _ _ _ _⟩
 | true =>
  have R:Hid (zdj p):=hq.1 rfl;have c9:m<=6:=by rw[← V.out];exact R.out.1
  clear hq
  by_cases h60:n<=60
  ·have d0:decide (60<n)=false:=by simp;omega
   go_upto_region 4 with fail;have r2:=zc P (.cells #[int i64 0,int i64 0,int i64 0,int i64 0,int i64 0,int i64 0] 131);have x2:=zero_row6 (heap_alloc_new w1 (.cells #[int i64 0,int i64 0,int i64 0,int i64 0,int i64 0,int i64 0] 131));have X:=zl N (.cells #[int i64 0,int i64 0,int i64 0,int i64 0,int i64 0,int i64 0] 131);have hf:w.heap.size<w1.heap.size:=zQ P;generalize w1.alloc (.cells #[int i64 0,int i64 0,int i64 0,int i64 0,int i64 0,int i64 0] 131)=w2 at r2 x2 X ⊢;generalize w1.heap.size=f at hf x2 ⊢;clear P N;go_wp2;go_loopw [7,8,22] (fun _ _ i wr=>∃ k:Nat,k<=m/\i=int i64 k/\wr.rowIs f 131 6 (fun j=>int i64 (upto k p.B 0 j))/\wr.heap[w.heap.size]?=some (.cells #[int i64 0,int i64 0,int i64 0,int i64 0,int i64 0,int i64 0] 131 (0,0))/\Below w.heap.size w wr) (fun _ _ i _=>m - (intOf i).toNat)
   case atStart=>exact⟨0,Nat.zero_le _,rfl,x2.congr (fun j _=>by unfold upto;rw[if_neg (Nat.not_lt_zero _),if_neg (Nat.not_lt_zero _)]),r2,X⟩
   case round =>
    obtain⟨k,hk,rfl,x,hr,t⟩:=hrel;clear r2 x2 X
    by_cases hlt:k<m
    ·obtain⟨b,off,rfl,Y,Z⟩:=HX.out k (by rw[V.out];exact hlt)
     have hb:=World.block_lt_of_cell? w _ Y;have c1:=(t.cell (p:=⟨b,off+k*2,none⟩) hb).trans Y;have c2:=(t.cell (p:=⟨b,off+k*2+1,none⟩) hb).trans Z;have i1:(0:Int)<=(k:Int):=by omega
     have i2:(k:Int)<6:=by omega
     have C:=row_below x (zl (Below.refl _ wr) (.cells #[int i64 (p.A k),int i64 (p.B k)] 96));have a7:=zc hr (.cells #[int i64 (p.A k),int i64 (p.B k)] 96);have a3:=heap_alloc_new wr (.cells #[int i64 (p.A k),int i64 (p.B k)] 96);have a2:=zl t (.cells #[int i64 (p.A k),int i64 (p.B k)] 96);clear Y Z;go_upto_region 7 with fail;generalize hW:wr.alloc (.cells #[int i64 (p.A k),int i64 (p.B k)] 96)=W at C a7 a3 a2 ⊢;clear hW;have o0:=C.cell (i:=k) (by omega)
     have f0:=C.frozen k;have z1:=za a3 1 _ rfl;have b9:=hI C;have c6:=hI a7;have b8:=hI a2;clear C a7 a3 a2 x hr t c1 c2;go_wp2;go_roundw
     case rel=>exact⟨k+1,by omega,by go_num,(b9.out.set k _).congr (fun j _=>by
      by_cases e:j=k
      ·subst e;rw[if_pos rfl,upto_lt _ _ (Nat.lt_succ_self _)]
      ·rw[if_neg e,upto_step _ _ _ _ e]),zB c6.out _ _ (by omega),b8.out.setCell (by show w.heap.size<=f;omega) _⟩
     case measure=>simp[intOf];omega
    ·obtain rfl:k=m:=by omega
     have B:wr.rowIs f 131 6 (fun j=>int i64 (qV p S 0 j)):=x.congr (fun j _=>by rw[freeR_0,V.out])
     clear x;go_wp2;go_loopw [9,10,34] (fun _ _ i wr=>∃ k:Nat,k<=n/\i=int i64 k/\(∀ j,j<k->In (S j).who 1 9999/\¬ Has (Zh S) j (S j).who/\QA p (qk p S j) (S j))/\wr.rowIs f 131 6 (fun j=>int i64 (qV p S k j))/\wr.heap[w.heap.size]?=some (.cells #[int i64 0,int i64 0,int i64 0,int i64 0,int i64 0,int i64 0] 131 (0,0))/\Below w.heap.size w wr) (fun _ _ i _=>n - (intOf i).toNat)
     case atStart=>exact⟨0,Nat.zero_le _,rfl,fun j hj=>by omega,B,hr,t⟩
     case round =>
      obtain⟨i,hi,rfl,T,a,A,d⟩:=hrel;have HA:=hI T;clear T B hr t
      by_cases hlt2:i<n
      ·obtain⟨b,off,rfl,h0,Y,Z,h3⟩:=HZ.out i hlt2
       have hb:=World.block_lt_of_cell? w _ h0;have c0:=(d.cell (p:=⟨b,off+i*4,none⟩) hb).trans h0;have c1:=(d.cell (p:=⟨b,off+i*4+1,none⟩) hb).trans Y;have c2:=(d.cell (p:=⟨b,off+i*4+2,none⟩) hb).trans Z;have c3:=(d.cell (p:=⟨b,off+i*4+3,none⟩) hb).trans h3;have o:=heap_alloc_new wr (.cells #[int i64 (S i).who,int i64 (S i).cab,int i64 (S i).many,.bool (S i).all] 93);have r:=zl d (.cells #[int i64 (S i).who,int i64 (S i).cab,int i64 (S i).many,.bool (S i).all] 93);have z:=zc A (.cells #[int i64 (S i).who,int i64 (S i).cab,int i64 (S i).many,.bool (S i).all] 93);have s:=row_below a (zl (Below.refl _ wr) (.cells #[int i64 (S i).who,int i64 (S i).cab,int i64 (S i).many,.bool (S i).all] 93));clear h0 Y Z h3;go_upto_region 12 with fail;generalize hW:wr.alloc (.cells #[int i64 (S i).who,int i64 (S i).cab,int i64 (S i).many,.bool (S i).all] 93)=W at o r z s ⊢;clear hW;have O:wr.heap.size<W.heap.size:=zQ o;have y:f<W.heap.size:=s.lt;have b6:=hI s;have z0:∀ g:zv W,g.val.cell? ⟨wr.heap.size,0,none⟩=some (int i64 (S i).who):=fun g=>(g.bel.cell O).trans (za o 0 _ rfl)
       have z1:∀ g:zv W,g.val.cell? ⟨wr.heap.size,1,none⟩=some (int i64 (S i).cab):=fun g=>(g.bel.cell O).trans (za o 1 _ rfl)
       have z2:∀ g:zv W,g.val.cell? ⟨wr.heap.size,2,none⟩=some (int i64 (S i).many):=fun g=>(g.bel.cell O).trans (za o 2 _ rfl)
       have z3:∀ g:zv W,g.val.cell? ⟨wr.heap.size,3,none⟩=some (.bool (S i).all):=fun g=>(g.bel.cell O).trans (za o 3 _ rfl)
       have y0:∀ g:zv W,g.val.cell? ⟨f,0,none⟩=some (int i64 (qV p S i 0)):=fun g=>(g.bel.cell y).trans (s.cell (i:=0) (by omega))
       have y1:∀ g:zv W,g.val.cell? ⟨f,1,none⟩=some (int i64 (qV p S i 1)):=fun g=>(g.bel.cell y).trans (s.cell (i:=1) (by omega))
       have y2:∀ g:zv W,g.val.cell? ⟨f,2,none⟩=some (int i64 (qV p S i 2)):=fun g=>(g.bel.cell y).trans (s.cell (i:=2) (by omega))
       have y3:∀ g:zv W,g.val.cell? ⟨f,3,none⟩=some (int i64 (qV p S i 3)):=fun g=>(g.bel.cell y).trans (s.cell (i:=3) (by omega))
       have y4:∀ g:zv W,g.val.cell? ⟨f,4,none⟩=some (int i64 (qV p S i 4)):=fun g=>(g.bel.cell y).trans (s.cell (i:=4) (by omega))
       have y5:∀ g:zv W,g.val.cell? ⟨f,5,none⟩=some (int i64 (qV p S i 5)):=fun g=>(g.bel.cell y).trans (s.cell (i:=5) (by omega))
       have i1:(0:Int)<=(i:Int):=by omega
       have i2:(i:Int)<=(c:Int):=by omega
       clear c0 c1 c2 c3 o a A d s
       by_cases g1:In (S i).who 1 9999
       ·have e1:decide (In (S i).who 1 9999)=true:=decide_eq_true g1
        have H1:=hI g1;clear g1
        by_cases hh:Has (Zh S) i (S i).who
        ·have e2:decide (0<=qL (Zh S) (S i).who i)=true:=decide_eq_true ((QX _ _ _).2 hh)
         have HH:=hI hh;clear hh;refine zg (by kernel_rfl) (by kernel_rfl) ?_
         repeat(first|go_big_quiet_skip|(go_big_quiet_want;go_big_quiet_op;first|go_big_quiet_on|(apply Exists.intro;refine⟨fun g=>?_,?_⟩;(focus(first|(go_at_call 77;refine zh (v:=.bool true) ((ZJ _ _).mono ?_);rintro e U ⟨rfl,rfl⟩;exact⟨by rw[e1],bZ⟩)|(go_at_call 57;refine zh (v:=int i64 (qL (Zh S) (S i).who i)) ((Qx _ i c S (S i).who _ (by omega) ((HZ.out.upto (by omega)).below (zf r g.bel))).mono ?_);rintro e U ⟨rfl,u⟩;exact⟨rfl,u⟩)));go_big_quiet_on)))
         refine wpQuiet_nil ?_;rintro _ ⟨g,rfl⟩;have L:=zb z g.bel;obtain⟨o0,o1,o2,o3,o4,o5⟩:=ce6 L;obtain⟨f0,f1,f2,f3,f4,f5⟩:=fe6 L;go_wp2;have K:=zbU L (int i64 0) (int i64 0) (int i64 0) (int i64 0) (int i64 0) (int i64 0);obtain⟨D,E,F,H,I,J⟩:=ce6 K;exact bodyPost_ret (v:=.tuple #[six (fun _=>0),.bool false]) (by simp[results,Tryz.results76,go_sem,D,E,F,H,I,J,six]) rfl ⟨.inr ⟨fun h=>(h.2.2 i hlt2).2.1 HH.out,rfl⟩,zac (zf r g.bel) (Nat.le_refl _) _ _ _ _ _ _⟩
        ·have e2:decide (0<=qL (Zh S) (S i).who i)=false:=decide_eq_false (fun h=>hh ((QX _ _ _).1 h))
         have HH:=hI hh;clear hh
         by_cases hfit:QA p (qV p S i) (S i)
         ·have M:=hI hfit
          clear hfit;refine zg (by kernel_rfl) (by kernel_rfl) ?_
          repeat(first|go_big_quiet_skip|(go_big_quiet_want;go_big_quiet_op;first|go_big_quiet_on|(apply Exists.intro;refine⟨fun g=>?_,?_⟩;(focus(first|(go_at_call 77;refine zh (v:=.bool true) ((ZJ _ _).mono ?_);rintro e U ⟨rfl,rfl⟩;exact⟨by rw[e1],bZ⟩)|(go_at_call 57;refine zh (v:=int i64 (qL (Zh S) (S i).who i)) ((Qx _ i c S (S i).who _ (by omega) ((HZ.out.upto (by omega)).below (zf r g.bel))).mono ?_);rintro e U ⟨rfl,u⟩;exact⟨rfl,u⟩)|(go_at_call 105;refine zh (v:=.bool true) ((zci _ _ mc p (qV p S i) (S i).who (S i).cab (S i).many (S i).all _ V.out R.out (HX.out.below (zf r g.bel))).mono ?_);rintro e U ⟨⟨bb,rfl,hi⟩,u⟩;obtain rfl:=hi.2 M.out;exact⟨rfl,u⟩)));go_big_quiet_on)))
          refine wpQuiet_nil ?_;rintro _ ⟨g,rfl⟩;obtain⟨l,hl⟩:∃ l:Nat,(S i).cab=l:=⟨(S i).cab.toNat,by have:=M.out.1;unfold In at this;omega⟩
          have a5:l<p.n:=by have:=M.out.1;unfold In at this;omega
          have a9:=hI hl;have l4:l<6:=by have:=V.out;omega
          have v1:g.val.cell? ⟨wr.heap.size,1,none⟩=some (int i64 (l:Int)):=by rw[z1 g,hl]
          have v2:=z2 g;have Q:=row_below b6.out g.bel;have v3:=Q.cell (i:=l) l4;have v4:=Q.frozen l;have l1:(0:Int)<=(l:Int):=by omega
          have l2:(l:Int)<6:=by omega
          have d5:IntKind.i64.wrap (qV p S i l - (S i).many)=qV p S i l - (S i).many:=by
           have st:=zcM (n:=i+1) R.out (fun j hj=>by
            by_cases e:j=i
            ·subst e;exact zba.1 M.out
            ·exact(HA.out j (by omega)).2.2)
           have Y:=zca R.out (show i<=60 by omega) (st i (by omega)).1 a5
           have Z:=(st (i+1) (Nat.le_refl _)).1 i (by omega)
           unfold In at Z;rw[zbw a5,IntKind.wrap_i64];omega
          have b0:=hI (zb z g.bel);have a8:=hI (zf r g.bel);have b5:=hI Q;clear hl Q z0 z1 z2 z3 y0 y1 y2 y3 y4 y5 z r;generalize g.val=G at *;go_upto_region 14 with fail;have a6:Hid ((G.setCell ⟨f,l,none⟩ (int i64 (qV p S i l - (S i).many))).drew.rowIs f 131 6 (fun j=>int i64 (qV p S (i+1) j))):=by
           refine(b5.out.set l _).congr (fun j _=>?_)
           rw[← zgK p S i l j a5 a9.out]
           split <;> rfl
          have c8:Hid ((G.setCell ⟨f,l,none⟩ (int i64 (qV p S i l - (S i).many))).drew.heap[w.heap.size]?=some (.cells #[int i64 0,int i64 0,int i64 0,int i64 0,int i64 0,int i64 0] 131 (0,0))):=zE (zB b0.out _ _ (by omega))
          have c7:Hid (Below w.heap.size w (G.setCell ⟨f,l,none⟩ (int i64 (qV p S i l - (S i).many))).drew):=(a8.out.setCell (by show w.heap.size<=f;omega) _).drew
          have b7:Hid (∀ j,j<i+1->In (S j).who 1 9999/\¬ Has (Zh S) j (S j).who/\QA p (qk p S j) (S j)):=fun j hj=>by
           by_cases e:j=i
           ·subst e;exact⟨H1.out,HH.out,zba.1 M.out⟩
           ·exact HA.out j (by omega)
          clear HH M HA a9 b0 a8 b5 b6;go_region
          all_goals (go_wp2;go_roundw)
          all_goals first|(exact⟨i+1,by omega,by go_num,b7.out,a6.out,c8.out,c7.out⟩)|(simp[intOf];omega)
         ·have M:=hI hfit
          clear hfit;refine zg (by kernel_rfl) (by kernel_rfl) ?_
          repeat(first|go_big_quiet_skip|(go_big_quiet_want;go_big_quiet_op;first|go_big_quiet_on|(apply Exists.intro;refine⟨fun g=>?_,?_⟩;(focus(first|(go_at_call 77;refine zh (v:=.bool true) ((ZJ _ _).mono ?_);rintro e U ⟨rfl,rfl⟩;exact⟨by rw[e1],bZ⟩)|(go_at_call 57;refine zh (v:=int i64 (qL (Zh S) (S i).who i)) ((Qx _ i c S (S i).who _ (by omega) ((HZ.out.upto (by omega)).below (zf r g.bel))).mono ?_);rintro e U ⟨rfl,u⟩;exact⟨rfl,u⟩)|(go_at_call 105;refine zh (v:=.bool false) ((zci _ _ mc p (qV p S i) (S i).who (S i).cab (S i).many (S i).all _ V.out R.out (HX.out.below (zf r g.bel))).mono ?_);rintro e U ⟨⟨bb,rfl,hi⟩,u⟩;obtain rfl:=Bool.eq_false_iff.2 (fun e=>M.out (hi.1 e));exact⟨rfl,u⟩)));go_big_quiet_on)))
          refine wpQuiet_nil ?_;rintro _ ⟨g,rfl⟩;have L:=zb z g.bel;obtain⟨o0,o1,o2,o3,o4,o5⟩:=ce6 L;obtain⟨f0,f1,f2,f3,f4,f5⟩:=fe6 L;go_wp2;have K:=zbU L (int i64 0) (int i64 0) (int i64 0) (int i64 0) (int i64 0) (int i64 0);obtain⟨D,E,F,H,I,J⟩:=ce6 K;exact bodyPost_ret (v:=.tuple #[six (fun _=>0),.bool false]) (by simp[results,Tryz.results76,go_sem,D,E,F,H,I,J,six]) rfl ⟨.inr ⟨fun h=>M.out (zba.2 (h.2.2 i hlt2).2.2),rfl⟩,zac (zf r g.bel) (Nat.le_refl _) _ _ _ _ _ _⟩
       ·have e1:decide (In (S i).who 1 9999)=false:=decide_eq_false g1
        have H1:=hI g1;clear g1;refine zg (by kernel_rfl) (by kernel_rfl) ?_
        repeat(first|go_big_quiet_skip|(go_big_quiet_want;go_big_quiet_op;first|go_big_quiet_on|(apply Exists.intro;refine⟨fun g=>?_,?_⟩;(focus(first|(go_at_call 77;refine zh (v:=.bool false) ((ZJ _ _).mono ?_);rintro e U ⟨rfl,rfl⟩;exact⟨by rw[e1],bZ⟩)));go_big_quiet_on)))
        refine wpQuiet_nil ?_;rintro _ ⟨g,rfl⟩;have L:=zb z g.bel;obtain⟨o0,o1,o2,o3,o4,o5⟩:=ce6 L;obtain⟨f0,f1,f2,f3,f4,f5⟩:=fe6 L;go_wp2;have K:=zbU L (int i64 0) (int i64 0) (int i64 0) (int i64 0) (int i64 0) (int i64 0);obtain⟨D,E,F,H,I,J⟩:=ce6 K;exact bodyPost_ret (v:=.tuple #[six (fun _=>0),.bool false]) (by simp[results,Tryz.results76,go_sem,D,E,F,H,I,J,six]) rfl ⟨.inr ⟨fun h=>H1.out (h.2.2 i hlt2).1,rfl⟩,zac (zf r g.bel) (Nat.le_refl _) _ _ _ _ _ _⟩
      ·obtain rfl:i=n:=by omega
       obtain⟨o0,o1,o2,o3,o4,o5⟩:=ce6 A;obtain⟨f0,f1,f2,f3,f4,f5⟩:=fe6 A;have c0:=a.cell (i:=0) (by omega)
       have c1:=a.cell (i:=1) (by omega)
       have c2:=a.cell (i:=2) (by omega)
       have c3:=a.cell (i:=3) (by omega)
       have c4:=a.cell (i:=4) (by omega)
       have c5:=a.cell (i:=5) (by omega)
       go_wp2;have K:=zbU A (int i64 (qV p S i 0)) (int i64 (qV p S i 1)) (int i64 (qV p S i 2)) (int i64 (qV p S i 3)) (int i64 (qV p S i 4)) (int i64 (qV p S i 5));obtain⟨D,E,F,H,I,J⟩:=ce6 K;exact bodyPost_ret (v:=.tuple #[six (qV p S i),.bool true]) (by simp[results,Tryz.results76,go_sem,D,E,F,H,I,J,six]) rfl ⟨.inl ⟨⟨R.out,h60,HA.out⟩,rfl⟩,zac d (Nat.le_refl _) _ _ _ _ _ _⟩
  ·have d0:decide (60<n)=true:=by simp;omega
   obtain⟨o0,o1,o2,o3,o4,o5⟩:=ce6 P;obtain⟨f0,f1,f2,f3,f4,f5⟩:=fe6 P;go_wp2;have K:=zbU P (int i64 0) (int i64 0) (int i64 0) (int i64 0) (int i64 0) (int i64 0);obtain⟨D,E,F,H,I,J⟩:=ce6 K;exact bodyPost_ret (v:=.tuple #[six (fun _=>0),.bool false]) (by simp[results,Tryz.results76,go_sem,D,E,F,H,I,J,six]) rfl ⟨.inr ⟨fun h=>h60 h.2.1,rfl⟩,zac N (Nat.le_refl _) _ _ _ _ _ _⟩
theorem six_ints {w:World}{f t m:Nat}{F G:Nat->Int}(h:w.heap[f]?=some (.cells #[int i64 (F 0),int i64 (F 1),int i64 (F 2),int i64 (F 3),int i64 (F 4),int i64 (F 5)] t (0,0)))(hm:m<=6)(a:∀ k,k<m->F k=G k):zX w (some ⟨f,0,none⟩) m G:=by
 intro k b;refine⟨f,0,rfl,?_⟩;rw[Nat.zero_add,← a k b];have:k=0∨k=1∨k=2∨k=3∨k=4∨k=5:=by omega
 rcases this with rfl|rfl|rfl|rfl|rfl|rfl
 ·exact za h 0 _ rfl
 ·exact za h 1 _ rfl
 ·exact za h 2 _ rfl
 ·exact za h 3 _ rfl
 ·exact za h 4 _ rfl
 ·exact za h 5 _ rfl
theorem zeF (g i:Option Addr)(m l n c:Nat)(p:zP)(S:Nat->qH)(w:World)(hl:p.n=m)(t:m<=1048576)(hn:n<=1048576)(s:n<=c)(j:zT w g p)(k:qo w i n S) :
  Calls Tryz.prog 29 #[.slice g m l,.slice i n c] w fun e w'=>SaysIf (qX p n S) e/\Below w.heap.size w w':=by
 have q:=hI j;have r:=hI k;have o:=hI hl;clear j k hl;go_enter Tryz.func29,Tryz.ntmps29;go_wp2_with fail;refine(zas g i m l n c p S _ o.out t hn s q.out r.out).mono ?_;rintro e w1 ⟨b,a⟩;unfold zeE six at b
 rcases b with⟨d,rfl⟩|⟨d,rfl⟩
 ·have f:=hI (zbx.1 d)
  clear d;go_wp2;go_ret;exact⟨zI f.out,(by first|exact a|exact zl a _)⟩
 ·have f:Hid (¬ qX p n S):=fun h=>d (zbx.2 h)
  clear d;go_wp2;go_ret;exact⟨zk f.out,(by first|exact a|exact zl a _)⟩
theorem zdl (j l:Option Addr)(m x n c:Nat)(p:zP)(S:Nat->qH)(w:World)(hl:p.n=m)(s:m<=1048576)(hn:n<=1048576)(B:n<=c)(t:zT w j p)(u:qo w l n S) :
  Calls Tryz.prog 59 #[.slice j m x,.slice l n c] w fun e w'=>zcE w' w.heap.size 3 p n S e/\Below w.heap.size w w':=by
 have z:=hI t;have A:=hI u;have g:=hI hl;clear t u hl;go_enter Tryz.func59,Tryz.ntmps59;go_wp2_with fail;refine(zas j l m x n c p S _ g.out s hn B z.out A.out).mono ?_;rintro e r ⟨a,d⟩;unfold zeE six at a
 rcases a with⟨b,rfl⟩|⟨b,rfl⟩
 ·have i:=hI (zbx.1 b)
  have q:m<=6:=by rw[← g.out];exact b.1.1
  clear b;have i1:(0:Int)<=(m:Int):=by omega
  have i2:(m:Int)<=6:=by omega
  have f:=zl d (.cells #[int i64 (qV p S n 0),int i64 (qV p S n 1),int i64 (qV p S n 2),int i64 (qV p S n 3),int i64 (qV p S n 4),int i64 (qV p S n 5)] 131);have y:Hid (zX (r.alloc (.cells #[int i64 (qV p S n 0),int i64 (qV p S n 1),int i64 (qV p S n 2),int i64 (qV p S n 3),int i64 (qV p S n 4),int i64 (qV p S n 5)] 131)) (some ⟨r.heap.size,0,none⟩) m (qk p S n)):=six_ints (F:=qV p S n) (heap_alloc_new r _) q (fun k C=>if_pos (by rw[g.out];exact C))
  go_wp2_with (first|(go_at_call 93;refine(zfI _ m _ (qk p S n) _ s y.out).mono ?_;rintro e w2 ⟨⟨v,rfl,D⟩,o⟩))
  exact bodyPost_ret (v:=.tuple #[v,.bool true]) (by simp[results,Tryz.results59,go_sem]) rfl ⟨zec i.out g.out (zC D f.size),zf f o⟩
 ·have i:Hid (¬ qX p n S):=fun h=>b (zbx.2 h)
  clear b;go_wp2;exact bodyPost_ret (v:=.tuple #[.slice none 0 0,.bool false]) (by simp[results,Tryz.results59,go_sem]) rfl ⟨zeY i.out,zl d _⟩
theorem zeH (x:Off)(P O:Option Addr)(e2 e0:Nat)(w:World)(hs:Off.Short x 1048576)(b0:SailsAt w P x.san x.sa)(A:Zw w O x.ldn x.ld) :
  Calls Tryz.prog 11 #[.slice P x.san e2,.slice O x.ldn e0] w fun e w'=>SaysIf (x.ldn=x.san/\∀ k,k<x.san->zV (x.sa k) (x.ld k)) e/\Below w.heap.size w w':=by
 have d9:Hid (SailsAt w P x.san x.sa):=b0;have d5:Hid (Zw w O x.ldn x.ld):=A;have a6:Hid (Off.Short x 1048576):=hs;have n1:x.san<=1048576:=hs.1.1;clear b0 A hs
 by_cases g1:x.ldn=x.san
 case neg =>
  have e1:((x.ldn:Int) != (x.san:Int))=true:=by simp;omega
  have K:Hid (¬ (x.ldn=x.san/\∀ k,k<x.san->zV (x.sa k) (x.ld k))):=fun h=>g1 h.1
  clear g1;go_enter Tryz.func11,Tryz.ntmps11;go_wp2;go_ret;exact⟨zk K.out,bZ⟩
 have e1:((x.ldn:Int) != (x.san:Int))=false:=by simp;omega
 have HE:Hid (x.ldn=x.san):=g1;clear g1;go_enter Tryz.func11,Tryz.ntmps11;go_wp2;clear e1;go_loopw [5,6,7,15] (fun _ _ _ i wr=>∃ k:Nat,k<=x.san/\i=int i64 k/\(∀ j,j<k->zV (x.sa j) (x.ld j))/\Below w.heap.size w wr) (fun _ _ _ i _=>x.san - (intOf i).toNat)
 case atStart=>exact⟨0,Nat.zero_le _,rfl,fun j hj=>by omega,bZ⟩
 case round =>
  obtain⟨k,hk,rfl,G,a⟩:=hrel;have HA:Hid (∀ j,j<k->zV (x.sa j) (x.ld j)):=G;clear G
  by_cases hlt:k<x.san
  ·obtain⟨H,I,la,lc,ca,cc,rfl,f0,f1,f2,f3,f4,f5,f6,f7,R,Q,b9,b8⟩:=d9.out k hlt
   obtain⟨s,U⟩:∃ s,s=x.sa k:=⟨_,rfl⟩;have F:=a6.out.1.2 k hlt;rw[← U] at f0 f1 f2 f3 f4 f5 f6 f7 R Q b9 b8 F;have D:Hid (s=x.sa k):=U;have v:=World.block_lt_of_cell? w _ f0;have c0:=(a.cell (p:=⟨H,I+k*8,none⟩) v).trans f0;have c1:=(a.cell (p:=⟨H,I+k*8+1,none⟩) v).trans f1;have c2:=(a.cell (p:=⟨H,I+k*8+2,none⟩) v).trans f2;have c3:=(a.cell (p:=⟨H,I+k*8+3,none⟩) v).trans f3;have c4:=(a.cell (p:=⟨H,I+k*8+4,none⟩) v).trans f4;have c5:=(a.cell (p:=⟨H,I+k*8+5,none⟩) v).trans f5;have c6:=(a.cell (p:=⟨H,I+k*8+6,none⟩) v).trans f6;have c7:=(a.cell (p:=⟨H,I+k*8+7,none⟩) v).trans f7;obtain⟨C,hC,a9⟩:=d5.out;have E:k<x.ldn:=by have:=HE.out;omega
   obtain⟨Y,lo,rfl,hc⟩:=hC k E;obtain⟨l,A⟩:∃ l,l=x.ld k:=⟨_,rfl⟩;have S:=a6.out.2.1.2 k E;obtain⟨m,u,f,r,g,t,eC,X,a2,T,a0,W,a1⟩:=a9 k E;rw[← A] at eC X a2 T a0 W a1 S;have B:Hid (l=x.ld k):=A;have Z:Y<w.heap.size:=World.block_lt_of_cell? w _ (hc 0 (by decide))
   have d0:∀ o,(wr.alloc o).cell? ⟨Y,lo+k*3,none⟩=some (.slice m l.stn u):=fun o=>((zl a o).cell (p:=⟨Y,lo+k*3,none⟩) Z).trans (by have:=hc 0 (by decide);rw[eC] at this;exact this)
   have d1:∀ o,(wr.alloc o).cell? ⟨Y,lo+k*3+1,none⟩=some (.slice f l.ron r):=fun o=>((zl a o).cell (p:=⟨Y,lo+k*3+1,none⟩) Z).trans (by have:=hc 1 (by decide);rw[eC] at this;exact this)
   have d2:∀ o,(wr.alloc o).cell? ⟨Y,lo+k*3+2,none⟩=some (.slice g l.sen t):=fun o=>((zl a o).cell (p:=⟨Y,lo+k*3+2,none⟩) Z).trans (by have:=hc 2 (by decide);rw[eC] at this;exact this)
   have c9:Hid (zT w la s.la):=R;have c8:Hid (zT w ca s.ca):=Q;have a8:Hid (qp w m l.stn l.st/\l.stn<=u):=⟨X,a2.1⟩;have a3:Hid (qo w f l.ron l.ro/\l.ron<=r):=⟨T,a0.1⟩;have a5:Hid (qx w g l.sen l.se/\l.sen<=t):=⟨W,a1.1⟩;have J:Hid (qm.Short l 1048576):=S;have a7:Hid (s.la.n<=1048576/\s.ca.n<=1048576):=⟨F.2.2.1,F.2.2.2⟩;have h0:(0:Int)<=(k:Int):=by omega
   have h1:(k:Int)<(x.ldn:Int):=by omega
   clear hC a9 hc eC U A f0 f1 f2 f3 f4 f5 f6 f7 R Q b9 b8 X a2 T a0 W a1 S F E;have b:=zl (zl a (.cells #[int i64 s.id,.string s.fr,.string s.dst,int i64 s.dep,int i64 s.arr,.slice la s.la.n lc,.slice ca s.ca.n cc,int i64 s.most] 33)) (.cells #[.slice m l.stn u,.slice f l.ron r,.slice g l.sen t] 55);have z:((wr.alloc (.cells #[int i64 s.id,.string s.fr,.string s.dst,int i64 s.dep,int i64 s.arr,.slice la s.la.n lc,.slice ca s.ca.n cc,int i64 s.most] 33)).alloc (.cells #[.slice m l.stn u,.slice f l.ron r,.slice g l.sen t] 55)).heap[wr.heap.size]?=some (.cells #[int i64 s.id,.string s.fr,.string s.dst,int i64 s.dep,int i64 s.arr,.slice la s.la.n lc,.slice ca s.ca.n cc,int i64 s.most] 33 (0,0)):=zc (heap_alloc_new wr _) _;have y:((wr.alloc (.cells #[int i64 s.id,.string s.fr,.string s.dst,int i64 s.dep,int i64 s.arr,.slice la s.la.n lc,.slice ca s.ca.n cc,int i64 s.most] 33)).alloc (.cells #[.slice m l.stn u,.slice f l.ron r,.slice g l.sen t] 55)).heap[wr.heap.size+1]?=some (.cells #[.slice m l.stn u,.slice f l.ron r,.slice g l.sen t] 55 (0,0)):=by simpa using heap_alloc_new (wr.alloc _) _
   have y5:=za z 5 _ rfl;have m0:=za y 0 _ rfl;go_wp2_with fail;generalize hBx:wr.heap.size=Bx at z y y5 m0 ⊢;generalize (wr.alloc (.cells #[int i64 s.id,.string s.fr,.string s.dst,int i64 s.dep,int i64 s.arr,.slice la s.la.n lc,.slice ca s.ca.n cc,int i64 s.most] 33)).alloc (.cells #[.slice m l.stn u,.slice f l.ron r,.slice g l.sen t] 55)=V at b z y y5 m0 ⊢;clear hBx c0 c1 c2 c3 c4 c5 c6 c7 d0 d1 d2 y5 m0 a;refine(zfG la m s.la.n lc l.stn u s.la l.st _ rfl a7.out.1 J.out.1 a8.out.2 (c9.out.below b) (a8.out.1.below b)).mono ?_;rintro e V0 ⟨⟨t0,rfl,b5⟩,c⟩;have L:Hid (t0=true↔zaf s.la l.stn l.st):=b5;have q:=zb z c;have n:=zb y c;have d:=zf b c;clear z y b c b5;have z:=q;have y:=n;have b:=d;clear q n d
   cases t0 with
   | false =>
    have K:Hid (¬ (x.ldn=x.san/\∀ k,k<x.san->zV (x.sa k) (x.ld k))):=fun h=>by have h:=h.2 k hlt;rw[← D.out,← B.out] at h;have:=L.out.2 ((Zd _ _ _).1 h.1);cases this
    go_wp2;go_ret;exact⟨zk K.out,b⟩
   | true =>
   have d6:Hid (zaf s.la l.stn l.st):=L.out.1 rfl;clear L;have y6:=za z 6 _ rfl;have m1:=za y 1 _ rfl;go_wp2_with fail;clear y6 m1;refine(zeF ca f s.ca.n cc l.ron r s.ca l.ro _ rfl a7.out.2 J.out.2.1 a3.out.2 (c8.out.below b) (a3.out.1.below b)).mono ?_;rintro e V1 ⟨⟨t1,rfl,b6⟩,c⟩;have M:Hid (t1=true↔qX s.ca l.ron l.ro):=b6;have q:=zb z c;have n:=zb y c;have d:=zf b c;clear z y b c b6;have z:=q;have y:=n;have b:=d;clear q n d
   cases t1 with
   | false =>
    have K:Hid (¬ (x.ldn=x.san/\∀ k,k<x.san->zV (x.sa k) (x.ld k))):=fun h=>by have h:=h.2 k hlt;rw[← D.out,← B.out] at h;have:=M.out.2 (h.2.1);cases this
    go_wp2;go_ret;exact⟨zk K.out,b⟩
   | true =>
   have d7:Hid (qX s.ca l.ron l.ro):=M.out.1 rfl;clear M;have m2:=za y 2 _ rfl;have y7:=za z 7 _ rfl;go_wp2_with fail;clear y7 m2;refine(zeG s.most g l.sen t l.se _ (by have:=J.out.2.2;omega) a5.out.2 (a5.out.1.below b)).mono ?_
   rintro e V2 ⟨⟨t2,rfl,b7⟩,c⟩;have N:Hid (t2=true↔Z4 s.most l.sen l.se):=b7;have q:=zb z c;have n:=zb y c;have d:=zf b c;clear z y b c b7;have z:=q;have y:=n;have b:=d;clear q n d
   cases t2 with
   | false =>
    have K:Hid (¬ (x.ldn=x.san/\∀ k,k<x.san->zV (x.sa k) (x.ld k))):=fun h=>by have h:=h.2 k hlt;rw[← D.out,← B.out] at h;have:=N.out.2 (h.2.2);cases this
    go_wp2;go_ret;exact⟨zk K.out,b⟩
   | true =>
   have d8:Hid (Z4 s.most l.sen l.se):=N.out.1 rfl;clear N;go_wp2;go_roundw
   case rel=>exact⟨k+1,by omega,by go_num,fun j hj=>by
    by_cases e:j=k
    ·subst e;rw[← D.out,← B.out];exact⟨(Zd _ _ _).2 d6.out,d7.out,d8.out⟩
    ·exact HA.out j (by omega),b⟩
   case measure=>simp[intOf];omega
  ·obtain rfl:k=x.san:=by omega
   go_wp2;go_ret;exact⟨zI ⟨HE.out,HA.out⟩,a⟩
theorem zcw {x:Off}{i:Nat}:qv x i↔(x.bk i).name=i+1/\(In (x.bk i).who 1 9999/\¬ Has (zfO x.bk) i (x.bk i).who)/\zdk x.san x.sa (x.bk i):=by
 unfold qv zdk
 constructor
 ·rintro⟨a,b,c,d,f,g,h7,h8,h⟩
  exact⟨a,⟨b,fun ⟨j,k,e⟩=>h8 j k e⟩,c,d,f,g,h,h7⟩
 ·rintro⟨a,⟨b,h8⟩,c,d,f,g,h,h7⟩
  exact⟨a,b,c,d,f,g,h7,fun j k e=>h8 ⟨j,k,e⟩,h⟩
theorem zco (x:Off)(z F:Option Addr)(G r:Nat)(w:World)(hs:Off.Short x 1048576)(hT:Z2 x.san x.sa)(N:SailsAt w z x.san x.sa)(a0:qK w F x.bkn x.bk)(a2:x.bkn<=r) :
  Calls Tryz.prog 12 #[.slice z x.san G,.slice F x.bkn r] w fun e w'=>SaysIf (x.bkn<=30/\∀ i,i<x.bkn->qv x i) e/\Below w.heap.size w w':=by
 have J:Hid (SailsAt w z x.san x.sa):=N;have E:Hid (Off.Short x 1048576):=hs;have HT:Hid (Z2 x.san x.sa):=hT;have n1:x.san<=1048576:=hs.1.1;obtain⟨C,hC,M⟩:=a0;have P:Hid (RecsAt w F x.bkn 13 C):=hC;have Q:Hid (∀ k,k<x.bkn->qi.Is w (C k) (x.bk k)):=M;clear N hs hT hC M
 by_cases g1:x.bkn<=30
 case neg =>
  have R:decide ((30:Int)<(x.bkn:Int))=true:=by simp;omega
  have D:Hid (¬ (x.bkn<=30/\∀ i,i<x.bkn->qv x i)):=fun h=>g1 h.1
  clear g1;go_enter Tryz.func12,Tryz.ntmps12;go_wp2;go_ret;exact⟨zk D.out,bZ⟩
 have R:decide ((30:Int)<(x.bkn:Int))=false:=by simp;omega
 go_enter Tryz.func12,Tryz.ntmps12;go_wp2;clear R;go_loopw [5,6,12] (fun _ _ i wr=>∃ k:Nat,k<=x.bkn/\i=int i64 k/\(∀ j,j<k->qv x j)/\Below w.heap.size w wr) (fun _ _ i _=>x.bkn - (intOf i).toNat)
 case atStart=>exact⟨0,Nat.zero_le _,rfl,fun j T=>by omega,bZ⟩
 case round =>
  obtain⟨k,hk,rfl,B,c⟩:=hrel;have HA:Hid (∀ j,j<k->qv x j):=B;clear B
  by_cases hlt:k<x.bkn
  ·obtain⟨f,n,rfl,u⟩:=P.out k hlt
   obtain⟨q,s,t,H,_⟩:=Q.out k hlt;obtain⟨b,S⟩:∃ b,b=x.bk k:=⟨_,rfl⟩;rw[← S] at t H;have O:Hid (b=x.bk k):=S;have I:Hid (zX w q b.lgn b.lg):=H;have K:Hid (qi.Short b 1048576):=by rw[S];exact E.out.2.2.2 k hlt
   have d:f<w.heap.size:=World.block_lt_of_cell? w _ (u 0 (by decide))
   have c0:wr.cell? ⟨f,n+k*13,none⟩=some (int i64 b.name):=(c.cell (p:=⟨f,n+k*13,none⟩) d).trans (by have:=u 0 (by decide);rw[t] at this;exact this)
   have c1:wr.cell? ⟨f,n+k*13+1,none⟩=some (int i64 b.who):=(c.cell (p:=⟨f,n+k*13+1,none⟩) d).trans (by have:=u 1 (by decide);rw[t] at this;exact this)
   have c2:wr.cell? ⟨f,n+k*13+2,none⟩=some (.string b.own):=(c.cell (p:=⟨f,n+k*13+2,none⟩) d).trans (by have:=u 2 (by decide);rw[t] at this;exact this)
   have c3:wr.cell? ⟨f,n+k*13+3,none⟩=some (.slice q b.lgn s):=(c.cell (p:=⟨f,n+k*13+3,none⟩) d).trans (by have:=u 3 (by decide);rw[t] at this;exact this)
   have c4:wr.cell? ⟨f,n+k*13+4,none⟩=some (int i64 b.pe):=(c.cell (p:=⟨f,n+k*13+4,none⟩) d).trans (by have:=u 4 (by decide);rw[t] at this;exact this)
   have c5:wr.cell? ⟨f,n+k*13+5,none⟩=some (int i64 b.len):=(c.cell (p:=⟨f,n+k*13+5,none⟩) d).trans (by have:=u 5 (by decide);rw[t] at this;exact this)
   have c6:wr.cell? ⟨f,n+k*13+6,none⟩=some (int i64 b.hei):=(c.cell (p:=⟨f,n+k*13+6,none⟩) d).trans (by have:=u 6 (by decide);rw[t] at this;exact this)
   have c7:wr.cell? ⟨f,n+k*13+7,none⟩=some (int i64 b.cl):=(c.cell (p:=⟨f,n+k*13+7,none⟩) d).trans (by have:=u 7 (by decide);rw[t] at this;exact this)
   have c8:wr.cell? ⟨f,n+k*13+8,none⟩=some (.bool b.all):=(c.cell (p:=⟨f,n+k*13+8,none⟩) d).trans (by have:=u 8 (by decide);rw[t] at this;exact this)
   have c9:wr.cell? ⟨f,n+k*13+9,none⟩=some (int i64 b.be):=(c.cell (p:=⟨f,n+k*13+9,none⟩) d).trans (by have:=u 9 (by decide);rw[t] at this;exact this)
   have X:wr.cell? ⟨f,n+k*13+10,none⟩=some (int i64 b.state):=(c.cell (p:=⟨f,n+k*13+10,none⟩) d).trans (by have:=u 10 (by decide);rw[t] at this;exact this)
   have Y:wr.cell? ⟨f,n+k*13+11,none⟩=some (int i64 b.unt):=(c.cell (p:=⟨f,n+k*13+11,none⟩) d).trans (by have:=u 11 (by decide);rw[t] at this;exact this)
   have Z:wr.cell? ⟨f,n+k*13+12,none⟩=some (int i64 b.price):=(c.cell (p:=⟨f,n+k*13+12,none⟩) d).trans (by have:=u 12 (by decide);rw[t] at this;exact this)
   clear u t S H;have l:=zl c (.cells #[int i64 b.name,int i64 b.who,.string b.own,.slice q b.lgn s,int i64 b.pe,int i64 b.len,int i64 b.hei,int i64 b.cl,.bool b.all,int i64 b.be,int i64 b.state,int i64 b.unt,int i64 b.price] 43);have a:=heap_alloc_new wr (.cells #[int i64 b.name,int i64 b.who,.string b.own,.slice q b.lgn s,int i64 b.pe,int i64 b.len,int i64 b.hei,int i64 b.cl,.bool b.all,int i64 b.be,int i64 b.state,int i64 b.unt,int i64 b.price] 43);go_upto_region 6 with fail;generalize hBx:wr.heap.size=y at a ⊢;generalize wr.alloc (.cells #[int i64 b.name,int i64 b.who,.string b.own,.slice q b.lgn s,int i64 b.pe,int i64 b.len,int i64 b.hei,int i64 b.cl,.bool b.all,int i64 b.be,int i64 b.state,int i64 b.unt,int i64 b.price] 43)=W at l a ⊢;clear hBx c0 c1 c2 c3 c4 c5 c6 c7 c8 c9 X Y Z;have m:y<W.heap.size:=zQ a;have z0:∀ g:zv W,g.val.cell? ⟨y,0,none⟩=some (int i64 b.name):=fun g=>(g.bel.cell m).trans (za a 0 _ rfl)
   have z1:∀ g:zv W,g.val.cell? ⟨y,1,none⟩=some (int i64 b.who):=fun g=>(g.bel.cell m).trans (za a 1 _ rfl)
   have z2:∀ g:zv W,g.val.cell? ⟨y,2,none⟩=some (.string b.own):=fun g=>(g.bel.cell m).trans (za a 2 _ rfl)
   have z3:∀ g:zv W,g.val.cell? ⟨y,3,none⟩=some (.slice q b.lgn s):=fun g=>(g.bel.cell m).trans (za a 3 _ rfl)
   have z4:∀ g:zv W,g.val.cell? ⟨y,4,none⟩=some (int i64 b.pe):=fun g=>(g.bel.cell m).trans (za a 4 _ rfl)
   have z5:∀ g:zv W,g.val.cell? ⟨y,5,none⟩=some (int i64 b.len):=fun g=>(g.bel.cell m).trans (za a 5 _ rfl)
   have z6:∀ g:zv W,g.val.cell? ⟨y,6,none⟩=some (int i64 b.hei):=fun g=>(g.bel.cell m).trans (za a 6 _ rfl)
   have z7:∀ g:zv W,g.val.cell? ⟨y,7,none⟩=some (int i64 b.cl):=fun g=>(g.bel.cell m).trans (za a 7 _ rfl)
   have z8:∀ g:zv W,g.val.cell? ⟨y,8,none⟩=some (.bool b.all):=fun g=>(g.bel.cell m).trans (za a 8 _ rfl)
   have z9:∀ g:zv W,g.val.cell? ⟨y,9,none⟩=some (int i64 b.be):=fun g=>(g.bel.cell m).trans (za a 9 _ rfl)
   have a7:∀ g:zv W,g.val.cell? ⟨y,10,none⟩=some (int i64 b.state):=fun g=>(g.bel.cell m).trans (za a 10 _ rfl)
   have a8:∀ g:zv W,g.val.cell? ⟨y,11,none⟩=some (int i64 b.unt):=fun g=>(g.bel.cell m).trans (za a 11 _ rfl)
   have a9:∀ g:zv W,g.val.cell? ⟨y,12,none⟩=some (int i64 b.price):=fun g=>(g.bel.cell m).trans (za a 12 _ rfl)
   clear a;have a6:IntKind.i64.wrap ((k:Int)+1)=(k:Int)+1:=by rw[IntKind.wrap_i64];omega
   have a3:(0:Int)<=(k:Int):=by omega
   have a5:(k:Int)<=(r:Int):=by omega
   have a1:k<=r:=by omega
   by_cases p1:b.name=(k:Int)+1
   case neg =>
    have R:(b.name != (k:Int)+1)=true:=by simpa using p1
    have D:Hid (¬ (x.bkn<=30/\∀ i,i<x.bkn->qv x i)):=fun h=>p1 (by rw[O.out];exact(zcw.1 (h.2 k hlt)).1)
    clear p1;refine zg (by kernel_rfl) (by kernel_rfl) ?_
    repeat(first|go_big_quiet_skip|(go_big_quiet_want;go_big_quiet_op;first|go_big_quiet_on))
    refine wpQuiet_nil ?_;rintro _ ⟨g,rfl⟩;go_wp2;go_ret;exact⟨zk D.out,zf l g.bel⟩
   have R:(b.name != (k:Int)+1)=false:=by simpa using p1
   have P1:Hid (b.name=(k:Int)+1):=p1;clear p1
   by_cases p2:In b.who 1 9999/\¬ Has (zfO x.bk) k b.who
   case neg =>
    have L:Hid (¬ (In b.who 1 9999/\¬ Has (zfO x.bk) k b.who)):=p2;have D:Hid (¬ (x.bkn<=30/\∀ i,i<x.bkn->qv x i)):=fun h=>p2 (by rw[O.out];exact(zcw.1 (h.2 k hlt)).2.1)
    clear p2;refine zg (by kernel_rfl) (by kernel_rfl) ?_
    repeat(first|go_big_quiet_skip|(go_big_quiet_want;go_big_quiet_op;first|go_big_quiet_on|(apply Exists.intro;refine⟨fun g=>?_,?_⟩;(focus(go_at_call 31;refine zh (v:=.bool false) ((zbg _ k r x.bk b.who _ (by omega) ⟨C,(P.out.upto (by omega)).below (zf l g.bel),fun j T=>(Q.out j (by omega)).below (zf l g.bel)⟩).mono ?_);rintro e U ⟨⟨f,rfl,A⟩,o⟩;obtain rfl:=Bool.eq_false_iff.2 (fun e=>L.out (A.1 e));exact⟨rfl,o⟩));go_big_quiet_on)))
    refine wpQuiet_nil ?_;rintro _ ⟨g,rfl⟩;go_wp2;go_ret;exact⟨zk D.out,zf l g.bel⟩
   have L:Hid (In b.who 1 9999/\¬ Has (zfO x.bk) k b.who):=p2;clear p2
   by_cases p3:zdk x.san x.sa b
   case neg =>
    have V:Hid (¬ zdk x.san x.sa b):=p3;have D:Hid (¬ (x.bkn<=30/\∀ i,i<x.bkn->qv x i)):=fun h=>p3 (by rw[O.out];exact(zcw.1 (h.2 k hlt)).2.2)
    clear p3;refine zg (by kernel_rfl) (by kernel_rfl) ?_
    repeat(first|go_big_quiet_skip|(go_big_quiet_want;go_big_quiet_op;first|go_big_quiet_on|(apply Exists.intro;refine⟨fun g=>?_,?_⟩;(focus(go_at_call 31;refine zh (v:=.bool true) ((zbg _ k r x.bk b.who _ (by omega) ⟨C,(P.out.upto (by omega)).below (zf l g.bel),fun j T=>(Q.out j (by omega)).below (zf l g.bel)⟩).mono ?_);rintro e U ⟨⟨f,rfl,A⟩,o⟩;obtain rfl:=A.2 L.out;exact⟨rfl,o⟩));go_big_quiet_on)|(apply Exists.intro;refine⟨fun g=>?_,?_⟩;(focus(go_at_call 32;refine zh (v:=.bool false) ((zaH x.san x.sa z G b q s _ n1 E.out.1.2 K.out HT.out (J.out.below (zf l g.bel)) (I.out.below (zf l g.bel))).mono ?_);rintro e U ⟨⟨f,rfl,A⟩,o⟩;obtain rfl:=Bool.eq_false_iff.2 (fun e=>V.out (A.1 e));exact⟨rfl,o⟩));go_big_quiet_on)))
    refine wpQuiet_nil ?_;rintro _ ⟨g,rfl⟩;go_wp2;go_ret;exact⟨zk D.out,zf l g.bel⟩
   have V:Hid (zdk x.san x.sa b):=p3;have HK:Hid (qv x k):=zcw.2 (by rw[← O.out];exact⟨P1.out,L.out,p3⟩)
   clear p3;refine zg (by kernel_rfl) (by kernel_rfl) ?_
   repeat(first|go_big_quiet_skip|(go_big_quiet_want;go_big_quiet_op;first|go_big_quiet_on|(apply Exists.intro;refine⟨fun g=>?_,?_⟩;(focus(go_at_call 31;refine zh (v:=.bool true) ((zbg _ k r x.bk b.who _ (by omega) ⟨C,(P.out.upto (by omega)).below (zf l g.bel),fun j T=>(Q.out j (by omega)).below (zf l g.bel)⟩).mono ?_);rintro e U ⟨⟨f,rfl,A⟩,o⟩;obtain rfl:=A.2 L.out;exact⟨rfl,o⟩));go_big_quiet_on)|(apply Exists.intro;refine⟨fun g=>?_,?_⟩;(focus(go_at_call 32;refine zh (v:=.bool true) ((zaH x.san x.sa z G b q s _ n1 E.out.1.2 K.out HT.out (J.out.below (zf l g.bel)) (I.out.below (zf l g.bel))).mono ?_);rintro e U ⟨⟨f,rfl,A⟩,o⟩;obtain rfl:=A.2 V.out;exact⟨rfl,o⟩));go_big_quiet_on)))
   refine wpQuiet_nil ?_;rintro _ ⟨g,rfl⟩;go_wp2;go_roundw
   case rel=>exact⟨k+1,by omega,by go_num,fun j T=>by
    by_cases e:j=k
    ·subst e;exact HK.out
    ·exact HA.out j (by omega),zf l g.bel⟩
   case measure=>simp[intOf];omega
  ·obtain rfl:k=x.bkn:=by omega
   go_wp2;go_ret;exact⟨zI ⟨g1,HA.out⟩,c⟩
theorem zbh (x:Off)(u y g:Option Addr)(B A n:Nat)(w:World)(hs:Off.Short x 1048576)(e4:SailsAt w u x.san x.sa)(H:Zw w y x.ldn x.ld)(e2:qK w g x.bkn x.bk)(h6:x.bkn<=n) :
  Calls Tryz.prog 5 #[.agg #[.slice u x.san B,.slice y x.ldn A,.slice g x.bkn n]] w fun e w'=>SaysIf (ql x) e/\Below w.heap.size w w':=by
 have W:Hid (SailsAt w u x.san x.sa):=e4;have d5:Hid (Zw w y x.ldn x.ld):=H;have c8:Hid (qK w g x.bkn x.bk):=e2;have G:Hid (Off.Short x 1048576):=hs;have n1:x.san<=1048576:=hs.1.1;clear e4 H e2 hs;have f:Below w.heap.size w (w.alloc (.cells #[.slice u x.san B,.slice y x.ldn A,.slice g x.bkn n] 27)):=zl bZ _;have v:=heap_alloc_new w (.cells #[.slice u x.san B,.slice y x.ldn A,.slice g x.bkn n] 27);go_enter Tryz.func5,Tryz.ntmps5;go_wp2_with fail;generalize w.alloc (.cells #[.slice u x.san B,.slice y x.ldn A,.slice g x.bkn n] 27)=V at f v ⊢;refine(zcY u x.san B x.sa _ n1 G.out.1.2 (W.out.below f)).mono ?_;rintro e V0 ⟨⟨t0,rfl,e5⟩,q⟩;have a6:Hid (t0=true↔Z2 x.san x.sa):=e5;have z:=zb v q;have m:=zf f q;clear v f q e5;have v:=z;have f:=m;clear z m;obtain⟨o0,o1,o2⟩:=ce3 v
 cases t0 with
 | false =>
  have HN:Hid (¬ ql x):=fun h=>by have:=a6.out.2 (h.1);cases this
  go_wp2;go_ret;exact⟨zk HN.out,f⟩
 | true =>
 have d8:Hid (Z2 x.san x.sa):=a6.out.1 rfl;clear a6;go_wp2_with fail;clear o0 o1 o2;refine(zeH x u y B A _ G.out (W.out.below f) (d5.out.below f)).mono ?_;rintro e V1 ⟨⟨t1,rfl,e6⟩,q⟩;have a7:Hid (t1=true↔x.ldn=x.san/\∀ k,k<x.san->zV (x.sa k) (x.ld k)):=e6;have z:=zb v q;have m:=zf f q;clear v f q e6;have v:=z;have f:=m;clear z m;obtain⟨o0,o1,o2⟩:=ce3 v
 cases t1 with
 | false =>
  have HN:Hid (¬ ql x):=fun h=>by have:=a7.out.2 (⟨h.2.1,h.2.2.2.1⟩);cases this
  go_wp2;go_ret;exact⟨zk HN.out,f⟩
 | true =>
 have U:Hid (x.ldn=x.san/\∀ k,k<x.san->zV (x.sa k) (x.ld k)):=a7.out.1 rfl;clear a7;go_wp2_with fail;clear o0 o1 o2;refine(zco x u g B n _ G.out d8.out (W.out.below f) (c8.out.below f) h6).mono ?_;rintro e V2 ⟨⟨t2,rfl,e7⟩,q⟩;have a8:Hid (t2=true↔x.bkn<=30/\∀ i,i<x.bkn->qv x i):=e7;have z:=zb v q;have m:=zf f q;clear v f q e7;have v:=z;have f:=m;clear z m;obtain⟨o0,o1,o2⟩:=ce3 v
 cases t2 with
 | false =>
  have HN:Hid (¬ ql x):=fun h=>by have:=a8.out.2 (⟨h.2.2.1,h.2.2.2.2.1⟩);cases this
  go_wp2;go_ret;exact⟨zk HN.out,f⟩
 | true =>
 have a5:Hid (x.bkn<=30/\∀ i,i<x.bkn->qv x i):=a8.out.1 rfl;clear a8;go_wp2;clear o0 o1 o2;obtain⟨C,hC,e0⟩:=c8.out;have HC:Hid (RecsAt w g x.bkn 13 C):=hC;have HI:Hid (∀ k,k<x.bkn->qi.Is w (C k) (x.bk k)):=e0;have g5:Hid (V2.heap[w.heap.size]?=some (.cells #[.slice u x.san B,.slice y x.ldn A,.slice g x.bkn n] 27 (0,0))):=v;have a3:Hid (Below w.heap.size w V2):=f;clear hC e0 v f;go_loopw [3,4,28] (fun _ _ i wr=>∃ k:Nat,k<=x.san/\i=int i64 k/\(∀ j,j<k->Z5 x j)/\Below V2.heap.size V2 wr) (fun _ _ i _=>x.san - (intOf i).toNat)
 case atStart=>exact⟨0,Nat.zero_le _,rfl,fun j hj=>by omega,bZ⟩
 case round =>
  obtain⟨k,hk,rfl,a2,J⟩:=hrel;have HA:Hid (∀ j,j<k->Z5 x j):=a2;clear a2
  by_cases hlt:k<x.san
  ·have r:=zf a3.out J
   obtain⟨sb,so,la,lc,ca,cc,rfl,f0,f1,f2,f3,f4,f5,f6,f7,e3,a9,f8,e9⟩:=W.out k hlt;obtain⟨s,a1⟩:∃ s,s=x.sa k:=⟨_,rfl⟩;rw[← a1] at f0 f1 f2 f3 f4 f5 f6 f7 e3 a9 f8 e9;have d9:Hid (s=x.sa k):=a1;have E:=World.block_lt_of_cell? w _ f0;have c0:=(r.cell (p:=⟨sb,so+k*8,none⟩) E).trans f0;have c1:=(r.cell (p:=⟨sb,so+k*8+1,none⟩) E).trans f1;have c2:=(r.cell (p:=⟨sb,so+k*8+2,none⟩) E).trans f2;have c3:=(r.cell (p:=⟨sb,so+k*8+3,none⟩) E).trans f3;have c4:=(r.cell (p:=⟨sb,so+k*8+4,none⟩) E).trans f4;have c5:=(r.cell (p:=⟨sb,so+k*8+5,none⟩) E).trans f5;have c6:=(r.cell (p:=⟨sb,so+k*8+6,none⟩) E).trans f6;have c7:=(r.cell (p:=⟨sb,so+k*8+7,none⟩) E).trans f7;obtain⟨D,hD,hJ⟩:=d5.out;have a0:k<x.ldn:=by have:=U.out.1;omega
   obtain⟨I,lo,rfl,hc⟩:=hD k a0;obtain⟨l,H⟩:∃ l,l=x.ld k:=⟨_,rfl⟩;have b0:=G.out.2.1.2 k a0;obtain⟨N,S,L,Q,M,R,eC,b8,g4,b6,f9,b7,g0⟩:=hJ k a0;rw[← H] at eC b8 g4 b6 f9 b7 g0 b0;have d6:Hid (l=x.ld k):=H;have b9:I<w.heap.size:=World.block_lt_of_cell? w _ (hc 0 (by decide))
   have HD:Hid (∀ w',Below w.heap.size w w'->w'.cell? ⟨I,lo+k*3,none⟩=some (.slice N l.stn S)/\w'.cell? ⟨I,lo+k*3+1,none⟩=some (.slice L l.ron Q)/\w'.cell? ⟨I,lo+k*3+2,none⟩=some (.slice M l.sen R)):=fun w' h =>
    ⟨(h.cell (p:=⟨I,lo+k*3,none⟩) b9).trans (by have:=hc 0 (by decide);rw[eC] at this;exact this),(h.cell (p:=⟨I,lo+k*3+1,none⟩) b9).trans (by have:=hc 1 (by decide);rw[eC] at this;exact this),(h.cell (p:=⟨I,lo+k*3+2,none⟩) b9).trans (by have:=hc 2 (by decide);rw[eC] at this;exact this)⟩
   have g6:Hid (zT w ca s.ca):=a9;have h2:Hid (qp w N l.stn l.st):=b8;have g8:Hid (qo w L l.ron l.ro):=b6;have g9:Hid (qx w M l.sen l.se):=b7;have g7:Hid (qm.Short l 1048576):=b0;have b5:=U.out.2 k hlt;rw[← a1,← H] at b5;have d7:Hid (zV s l):=b5;have h0:(0:Int)<=(k:Int):=by omega
   have h1:(k:Int)<(x.ldn:Int):=by omega
   clear hD hJ hc eC a1 H f0 f1 f2 f3 f4 f5 f6 f7 e3 a9 f8 e9 b8 g4 b6 f9 b7 g0 b0 a0 b5;have Z:=zl J (.cells #[int i64 s.id,.string s.fr,.string s.dst,int i64 s.dep,int i64 s.arr,.slice la s.la.n lc,.slice ca s.ca.n cc,int i64 s.most] 33);have K:=heap_alloc_new wr (.cells #[int i64 s.id,.string s.fr,.string s.dst,int i64 s.dep,int i64 s.arr,.slice la s.la.n lc,.slice ca s.ca.n cc,int i64 s.most] 33);go_upto_region 6 with fail;generalize hBx:wr.heap.size=F at K ⊢;generalize wr.alloc (.cells #[int i64 s.id,.string s.fr,.string s.dst,int i64 s.dep,int i64 s.arr,.slice la s.la.n lc,.slice ca s.ca.n cc,int i64 s.most] 33)=X at Z K ⊢;clear hBx c0 c1 c2 c3 c4 c5 c6 c7 J r;have v:=zb g5.out Z;have e1:=zf a3.out Z;have BW:Hid (∀ w',Below X.heap.size X w'->Below w.heap.size w w'):=fun w' h=>zf e1 h
   have KS:Hid (∀ w',Below X.heap.size X w'->(w'.cell? ⟨F,0,none⟩=some (int i64 s.id)/\w'.cell? ⟨F,1,none⟩=some (.string s.fr)/\w'.cell? ⟨F,2,none⟩=some (.string s.dst)/\w'.cell? ⟨F,3,none⟩=some (int i64 s.dep)/\w'.cell? ⟨F,4,none⟩=some (int i64 s.arr)/\w'.cell? ⟨F,5,none⟩=some (.slice la s.la.n lc)/\w'.cell? ⟨F,6,none⟩=some (.slice ca s.ca.n cc)/\w'.cell? ⟨F,7,none⟩=some (int i64 s.most) /\
     w'.cell? ⟨w.heap.size,1,none⟩=some (.slice (some ⟨I,lo,none⟩) x.ldn A)/\w'.cell? ⟨w.heap.size,2,none⟩=some (.slice g x.bkn n) /\
     w'.cell? ⟨I,lo+k*3,none⟩=some (.slice N l.stn S)/\w'.cell? ⟨I,lo+k*3+1,none⟩=some (.slice L l.ron Q)/\w'.cell? ⟨I,lo+k*3+2,none⟩=some (.slice M l.sen R))):=fun w' h=>by
    have g1:=zb K h;have g2:=zb v h;have g3:=HD.out w' (zf e1 h);exact⟨za g1 0 _ rfl,za g1 1 _ rfl,za g1 2 _ rfl,za g1 3 _ rfl,za g1 4 _ rfl,za g1 5 _ rfl,za g1 6 _ rfl,za g1 7 _ rfl,za g2 1 _ rfl,za g2 2 _ rfl,g3.1,g3.2.1,g3.2.2⟩
   obtain⟨P,hP⟩:∃ P:Nat->Prop,P=fun i=>OnB (x.bk i) s.id:=⟨_,rfl⟩
   have c9:Hid (∀ w',Below w.heap.size w w'->Calls Tryz.prog 14 #[.slice g x.bkn n,int i64 s.id] w' fun e w2=>(∃ Y c,e=.returned (.slice Y (onL P x.bkn).length c)/\w2.ownsRow w.heap.size 43 13 (.slice Y (onL P x.bkn).length c) (onL P x.bkn).length (zdc C P x.bkn))/\Below w'.heap.size w' w2):=fun w' h =>
    (zaU g x.bkn n x.bk C s.id w' G.out.2.2.1 G.out.2.2.2 (HC.out.below h) (fun j hj=>(HI.out j hj).below h)).mono fun _ _ ⟨⟨Y,c,a,_,b⟩,d⟩=>by
     rw[hP];exact⟨⟨Y,c,a,zC b h.size⟩,d⟩
   have d0:Hid (∀ w' Y c,Below w.heap.size w w'->w'.ownsRow w.heap.size 43 13 (.slice Y (onL P x.bkn).length c) (onL P x.bkn).length (zdc C P x.bkn)->Calls Tryz.prog 13 #[.agg #[int i64 s.id,.string s.fr,.string s.dst,int i64 s.dep,int i64 s.arr,.slice la s.la.n lc,.slice ca s.ca.n cc,int i64 s.most],.agg #[.slice N l.stn S,.slice L l.ron Q,.slice M l.sen R],.slice Y (onL P x.bkn).length c] w' fun e w2=>SaysIf (Z5 x k) e/\Below w'.heap.size w' w2):=fun w' Y c h ho=>by
    have i0:zcW s l (onL P x.bkn).length (fun j=>x.bk (onI P x.bkn j))↔Z5 x k:=by
     have:=just_iff (o:=x) (k:=k) (by rw[← d9.out,← d6.out];exact d7.out) (fun i hi=>(a5.out.2 i hi).2.2.2.2.1)
     rw[hP,d9.out,d6.out];exact this
    refine(zeD s l (onL P x.bkn).length (fun j=>x.bk (onI P x.bkn j)) (fun j=>C (onI P x.bkn j)) la ca N L M Y lc cc S Q R c w' (Nat.le_trans (onL_le P _) G.out.2.2.1) g7.out (zeZ d7.out.2.1) (g6.out.below h) (h2.out.below h) (g8.out.below h) (g9.out.below h) (RecsAt.of_own ho) (fun j hj=>(HI.out _ (zgC P x.bkn j hj).1).below h)).mono ?_
    rintro e w2 ⟨⟨b,rfl,hb⟩,hd⟩;exact⟨⟨b,rfl,by rw[hb,i0]⟩,hd⟩
   clear hP v K;go_cut [28,45] (fun i c wx=>i=int i64 k/\Tells (Z5 x k) c/\Below w.heap.size w wx/\Below V2.heap.size V2 wx)
   case first =>
    go_region_held3 (fun w'=>w'.cell? ⟨F,0,none⟩=some (int i64 s.id)/\w'.cell? ⟨F,1,none⟩=some (.string s.fr)/\w'.cell? ⟨F,2,none⟩=some (.string s.dst)/\w'.cell? ⟨F,3,none⟩=some (int i64 s.dep)/\w'.cell? ⟨F,4,none⟩=some (int i64 s.arr)/\w'.cell? ⟨F,5,none⟩=some (.slice la s.la.n lc)/\w'.cell? ⟨F,6,none⟩=some (.slice ca s.ca.n cc)/\w'.cell? ⟨F,7,none⟩=some (int i64 s.most) /\
      w'.cell? ⟨w.heap.size,1,none⟩=some (.slice (some ⟨I,lo,none⟩) x.ldn A)/\w'.cell? ⟨w.heap.size,2,none⟩=some (.slice g x.bkn n) /\
      w'.cell? ⟨I,lo+k*3,none⟩=some (.slice N l.stn S)/\w'.cell? ⟨I,lo+k*3+1,none⟩=some (.slice L l.ron Q)/\w'.cell? ⟨I,lo+k*3+2,none⟩=some (.slice M l.sen R))
     ((refine KS.out _ ?_;exact(by repeat(first|exact bZ|refine Below.drew ?_|refine zf ?_ T|refine zf ?_ O))))
     (first
      | (go_at_call 14;refine Calls.mono (c9.out _ (BW.out _ (by repeat(first | exact bZ | refine Below.drew ?_ | refine zf ?_ T | refine zf ?_ O)))) ?_;rintro e w4 ⟨⟨h3,c4,rfl,h9⟩,T⟩)
      | (go_at_call 13;refine Calls.mono (d0.out _ h3 c4 (BW.out _ (by repeat(first | exact bZ | refine Below.drew ?_ | refine zf ?_ T | refine zf ?_ O))) (zp (w:=w4) (by repeat(first | exact bZ | refine Below.drew ?_ | refine zf ?_ O)) h9)) ?_;rintro e w5 ⟨⟨t5,rfl,e8⟩,O⟩))
    all_goals
     go_wp2;go_meet;refine⟨rfl,?_,BW.out _ (by repeat(first|exact bZ|refine Below.drew ?_|refine zf ?_ T|refine zf ?_ O)),zf Z (by repeat(first|exact bZ|refine Below.drew ?_|refine zf ?_ T|refine zf ?_ O))⟩
     cases t5 with
     | true=>exact tells_good (e8.1 rfl)
     | false=>exact tells_bad (fun h=>by have:=e8.2 h;cases this)
   case rest =>
    obtain⟨rfl,⟨t,rfl,ht⟩,h4,h5⟩:=hcut;have HT:Hid (t=false↔Z5 x k):=ht;clear ht KS BW c9 d0 HD
    cases t with
    | true =>
     have HN:Hid (¬ ql x):=fun h=>by have:=HT.out.2 (h.2.2.2.2.2 k hlt);cases this
     go_wp2;go_ret;exact⟨zk HN.out,h4⟩
    | false =>
     have HK:Hid (Z5 x k):=HT.out.1 rfl;clear HT;go_wp2;go_roundw
     case rel=>exact⟨k+1,by omega,by go_num,fun j hj=>by
      by_cases e:j=k
      ·subst e;exact HK.out
      ·exact HA.out j (by omega),h5⟩
     case measure=>simp[intOf];omega
  ·obtain rfl:k=x.san:=by omega
   have HY:Hid (ql x):=⟨d8.out,U.out.1,a5.out.1,U.out.2,a5.out.2,HA.out⟩;have r:=zf a3.out J;clear HA;go_wp2;go_ret;exact⟨zI HY.out,r⟩
end Go.Proofs.YtgmdnkngnhkgbaaGreat
