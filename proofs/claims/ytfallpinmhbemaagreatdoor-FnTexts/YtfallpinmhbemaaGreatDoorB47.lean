import Derived.Test.YtfallpinmhbemaaGreatDoorB46
import Derived.Test.YtfallpinmhbemaaGreatDoorB38
import Derived.Test.YtfallpinmhbemaaGreatDoorB17
namespace Go.Proofs.YtfallpinmhbemaaGreatDoor
open Go.RowKit
open Go.Value (int)
open Go.IntKind (i64)
set_option maxHeartbeats 64000000
set_option maxRecDepth 1000000
def DopAns (x:Off)(a:Int)(y:OpD)(m base:Nat)(e:Ending)(w':World):Prop :=
 (Zy x/\zdq x.bkn x.bk a/\∃ x2 a1 c1 a2 c2 a3 c3 code name price rv L C A B D E,e=.returned (.tuple #[.agg #[.slice a1 x2.san c1,.slice a2 x2.ldn c2,.slice a3 x2.bkn c3],.agg #[int i64 code,int i64 name,int i64 price,rv],.bool true]) /\
  zV w' base (.slice a1 x2.san c1) (.slice a2 x2.ldn c2) (.slice a3 x2.bkn c3) x2.san x2.ldn x2.bkn x2 L C A B D E/\OpTo x a y m x2 code name price/\(rv=.slice none 0 0∨∃ M b,zbC { x with ld:=M } y b w' rv)) ∨
 (¬ (Zy x/\zdq x.bkn x.bk a)/\e=.returned (.tuple #[.agg #[.slice none 0 0,.slice none 0 0,.slice none 0 0],.agg #[int i64 0,int i64 0,int i64 0,.slice none 0 0],.bool false]))
theorem zhk (x:Off)(k i f j:Option Addr)(q o l p m:Nat)(s:Int)(y:OpD)(w:World)(hs:Off.Short x 1048576)(b6:SailsAt w k x.san x.sa)(a8:QE w i x.ldn x.ld)(a5:ZU w f x.bkn x.bk)(e4:x.bkn<=l)(a9:IntsAt w j y.lgn y.lg)(b7:SliceOk j y.lgn p)(hl:y.lgn<=1048576)(ho:y.own.size<=1048576)(hm:Qz y->In y.kind 4 8->y.name=(m:Int)+1/\m<=1048576) :
  Calls Tryz.prog 80 #[.agg #[.slice k x.san q,.slice i x.ldn o,.slice f x.bkn l],int i64 s,.agg #[int i64 y.kind,.string y.own,int i64 y.name,.slice j y.lgn p,int i64 y.pe,int i64 y.len,int i64 y.hei,int i64 y.cl,.bool y.all,int i64 y.be,int i64 y.unt,int i64 y.now]] w fun e w'=>DopAns x s y m w.heap.size e w'/\Below w.heap.size w w':=by
 have HS:=hI hs;have N:Hid (SailsAt w k x.san x.sa/\QE w i x.ldn x.ld/\ZU w f x.bkn x.bk/\IntsAt w j y.lgn y.lg/\SliceOk j y.lgn p):=⟨b6,a8,a5,a9,b7⟩;have HN:=hI hm;clear hs b6 a8 a5 a9 b7 hm;have a:Below w.heap.size w ((((w.alloc (.cells #[.slice k x.san q,.slice i x.ldn o,.slice f x.bkn l] 66)).alloc (.cells #[int i64 y.kind,.string y.own,int i64 y.name,.slice j y.lgn p,int i64 y.pe,int i64 y.len,int i64 y.hei,int i64 y.cl,.bool y.all,int i64 y.be,int i64 y.unt,int i64 y.now] 27)).alloc (.cells #[.slice none 0 0,.slice none 0 0,.slice none 0 0] 66)).alloc (.cells #[int i64 0,int i64 0,int i64 0,.slice none 0 0] 127)):=zr (zr (zr (zr bZ _) _) _) _;have P:=ze (ze (ze (heap_alloc_new w (.cells #[.slice k x.san q,.slice i x.ldn o,.slice f x.bkn l] 66)) (.cells #[int i64 y.kind,.string y.own,int i64 y.name,.slice j y.lgn p,int i64 y.pe,int i64 y.len,int i64 y.hei,int i64 y.cl,.bool y.all,int i64 y.be,int i64 y.unt,int i64 y.now] 27)) (.cells #[.slice none 0 0,.slice none 0 0,.slice none 0 0] 66)) (.cells #[int i64 0,int i64 0,int i64 0,.slice none 0 0] 127);have b1:=ze (ze (zcC w (.cells #[.slice k x.san q,.slice i x.ldn o,.slice f x.bkn l] 66) (.cells #[int i64 y.kind,.string y.own,int i64 y.name,.slice j y.lgn p,int i64 y.pe,int i64 y.len,int i64 y.hei,int i64 y.cl,.bool y.all,int i64 y.be,int i64 y.unt,int i64 y.now] 27)) (.cells #[.slice none 0 0,.slice none 0 0,.slice none 0 0] 66)) (.cells #[int i64 0,int i64 0,int i64 0,.slice none 0 0] 127);have b2:=ze (show(((w.alloc (.cells #[.slice k x.san q,.slice i x.ldn o,.slice f x.bkn l] 66)).alloc (.cells #[int i64 y.kind,.string y.own,int i64 y.name,.slice j y.lgn p,int i64 y.pe,int i64 y.len,int i64 y.hei,int i64 y.cl,.bool y.all,int i64 y.be,int i64 y.unt,int i64 y.now] 27)).alloc (.cells #[.slice none 0 0,.slice none 0 0,.slice none 0 0] 66)).heap[w.heap.size+1+1]?=some (.cells #[.slice none 0 0,.slice none 0 0,.slice none 0 0] 66 (0,0)) from by simpa using heap_alloc_new ((w.alloc (.cells #[.slice k x.san q,.slice i x.ldn o,.slice f x.bkn l] 66)).alloc (.cells #[int i64 y.kind,.string y.own,int i64 y.name,.slice j y.lgn p,int i64 y.pe,int i64 y.len,int i64 y.hei,int i64 y.cl,.bool y.all,int i64 y.be,int i64 y.unt,int i64 y.now] 27)) (.cells #[.slice none 0 0,.slice none 0 0,.slice none 0 0] 66)) (.cells #[int i64 0,int i64 0,int i64 0,.slice none 0 0] 127)
 have b3:((((w.alloc (.cells #[.slice k x.san q,.slice i x.ldn o,.slice f x.bkn l] 66)).alloc (.cells #[int i64 y.kind,.string y.own,int i64 y.name,.slice j y.lgn p,int i64 y.pe,int i64 y.len,int i64 y.hei,int i64 y.cl,.bool y.all,int i64 y.be,int i64 y.unt,int i64 y.now] 27)).alloc (.cells #[.slice none 0 0,.slice none 0 0,.slice none 0 0] 66)).alloc (.cells #[int i64 0,int i64 0,int i64 0,.slice none 0 0] 127)).heap[w.heap.size+1+1+1]?=some (.cells #[int i64 0,int i64 0,int i64 0,.slice none 0 0] 127 (0,0)):=by simpa using heap_alloc_new (((w.alloc (.cells #[.slice k x.san q,.slice i x.ldn o,.slice f x.bkn l] 66)).alloc (.cells #[int i64 y.kind,.string y.own,int i64 y.name,.slice j y.lgn p,int i64 y.pe,int i64 y.len,int i64 y.hei,int i64 y.cl,.bool y.all,int i64 y.be,int i64 y.unt,int i64 y.now] 27)).alloc (.cells #[.slice none 0 0,.slice none 0 0,.slice none 0 0] 66)) (.cells #[int i64 0,int i64 0,int i64 0,.slice none 0 0] 127)
 go_enter Tryz.func80,Tryz.ntmps80;go_wp2_with fail;generalize ((((w.alloc (.cells #[.slice k x.san q,.slice i x.ldn o,.slice f x.bkn l] 66)).alloc (.cells #[int i64 y.kind,.string y.own,int i64 y.name,.slice j y.lgn p,int i64 y.pe,int i64 y.len,int i64 y.hei,int i64 y.cl,.bool y.all,int i64 y.be,int i64 y.unt,int i64 y.now] 27)).alloc (.cells #[.slice none 0 0,.slice none 0 0,.slice none 0 0] 66)).alloc (.cells #[int i64 0,int i64 0,int i64 0,.slice none 0 0] 127))=W at a P b1 b2 b3 ⊢;refine(zhi x k i f q o l _ HS.out (N.out.1.below a) (N.out.2.1.below a) (N.out.2.2.1.below a) e4).mono ?_;rintro e V ⟨⟨t0,rfl,b8⟩,n⟩;have S:=hI b8;replace a:=zj a n;replace P:=zc P n;replace b1:=zc b1 n;replace b2:=zc b2 n;replace b3:=zc b3 n;clear n W b8;obtain⟨f0,f1,f2⟩:=ce3 P
 cases t0 with
 | false =>
  have HF:Hid (¬ (Zy x/\zdq x.bkn x.bk s)):=fun h=>by have:=S.out.2 h.1;cases this
  obtain⟨s0,s1,s2⟩:=ce3 b2;obtain⟨c1,c2,c3⟩:=fe3 b2;obtain⟨t0,t1,t2,t3⟩:=ce4 b3;obtain⟨c4,c5,c6,c7⟩:=fe4 b3;have U:=(zfK _ (w.heap.size+1+1) (.slice none 0 0) (.slice none 0 0) (.slice none 0 0)).blk b3 (by show ¬ _=_;omega)
  have q2:=zbI b2 (.slice none 0 0) (.slice none 0 0) (.slice none 0 0);have q3:=(QQ _ (w.heap.size+1+1+1) (int i64 0) (int i64 0) (int i64 0) (.slice none 0 0)).blk q2 (by show ¬ _=_;omega)
  have q4:=zeV U (int i64 0) (int i64 0) (int i64 0) (.slice none 0 0);have Q:Hid _:=zA.below (zA.below a a.size (zfK _ (w.heap.size+1+1) (.slice none 0 0) (.slice none 0 0) (.slice none 0 0)) (fun b e=>by have e:b=w.heap.size+1+1:=e;omega)) (by have:=a.size;simpa using this) (QQ _ (w.heap.size+1+1+1) (int i64 0) (int i64 0) (int i64 0) (.slice none 0 0)) (fun b e=>by have e:b=w.heap.size+1+1+1:=e;omega)
  go_wp2;obtain⟨x0,x1,d⟩:=ce3 q3;obtain⟨z0,z1,z2,z3⟩:=ce4 q4;exact bodyPost_ret (v:=.tuple #[.agg #[.slice none 0 0,.slice none 0 0,.slice none 0 0],.agg #[int i64 0,int i64 0,int i64 0,.slice none 0 0],.bool false]) (by simp[results,Tryz.results80,go_sem,x0,x1,d,z0,z1,z2,z3]) rfl ⟨.inr ⟨HF.out,rfl⟩,Q.out⟩
 | true =>
 have a0:Hid (Zy x):=S.out.1 rfl;clear S;go_wp2_with fail;refine(zhj k i f x.san x.ldn x.bkn q o l x s _ (by have:=HS.out.2.2.1;omega) (N.out.2.2.1.below a)).mono ?_
 rintro e V2 ⟨⟨t1,rfl,b9⟩,n⟩;have T:=hI b9;replace a:=zj a n;replace P:=zc P n;replace b1:=zc b1 n;replace b2:=zc b2 n;replace b3:=zc b3 n;clear n b9 f0 f1 f2 V
 cases t1 with
 | false =>
  have HF:Hid (¬ (Zy x/\zdq x.bkn x.bk s)):=fun h=>by have:=T.out.2 h.2;cases this
  obtain⟨s0,s1,s2⟩:=ce3 b2;obtain⟨c1,c2,c3⟩:=fe3 b2;obtain⟨t0,t1,t2,t3⟩:=ce4 b3;obtain⟨c4,c5,c6,c7⟩:=fe4 b3;have U:=(zfK _ (w.heap.size+1+1) (.slice none 0 0) (.slice none 0 0) (.slice none 0 0)).blk b3 (by show ¬ _=_;omega)
  have q2:=zbI b2 (.slice none 0 0) (.slice none 0 0) (.slice none 0 0);have q3:=(QQ _ (w.heap.size+1+1+1) (int i64 0) (int i64 0) (int i64 0) (.slice none 0 0)).blk q2 (by show ¬ _=_;omega)
  have q4:=zeV U (int i64 0) (int i64 0) (int i64 0) (.slice none 0 0);have Q:Hid _:=zA.below (zA.below a a.size (zfK _ (w.heap.size+1+1) (.slice none 0 0) (.slice none 0 0) (.slice none 0 0)) (fun b e=>by have e:b=w.heap.size+1+1:=e;omega)) (by have:=a.size;simpa using this) (QQ _ (w.heap.size+1+1+1) (int i64 0) (int i64 0) (int i64 0) (.slice none 0 0)) (fun b e=>by have e:b=w.heap.size+1+1+1:=e;omega)
  go_wp2;obtain⟨x0,x1,d⟩:=ce3 q3;obtain⟨z0,z1,z2,z3⟩:=ce4 q4;exact bodyPost_ret (v:=.tuple #[.agg #[.slice none 0 0,.slice none 0 0,.slice none 0 0],.agg #[int i64 0,int i64 0,int i64 0,.slice none 0 0],.bool false]) (by simp[results,Tryz.results80,go_sem,x0,x1,d,z0,z1,z2,z3]) rfl ⟨.inr ⟨HF.out,rfl⟩,Q.out⟩
 | true =>
 have R:Hid (zdq x.bkn x.bk s):=T.out.1 rfl;clear T;obtain⟨f0,f1,f2⟩:=ce3 P;obtain⟨h0,h1,Y,h3,h4,h5,h6,h7,h8,h9,d8,d9⟩:=ce12 b1;go_wp2_with fail;refine(l7Op_any x k i f j q o l p m s y _ HS.out (N.out.1.below a) (N.out.2.1.below a) (N.out.2.2.1.below a) (N.out.2.2.2.1.below a) N.out.2.2.2.2 hl ho a0.out R.out.1 R.out.2 HN.out).mono ?_;rintro e u ⟨⟨d,d1,I,d2,J,d3,K,code,name,price,rv,L,C,A,B,D,E,rfl,b5,c0,X⟩,O⟩;have d5:=hI (b5.lower a.size);have d7:=hI c0;obtain⟨F,H,G,rfl⟩:∃ F H G,rv=.slice F H G:=by
  rcases X with h|⟨M,b,h⟩
  ·exact⟨_,_,_,h⟩
  ·by_cases h9:y.kind=9
   ·obtain⟨_,_,_,h3⟩:=h.1 h9
    obtain⟨ao,c,e,_⟩:=zt h3;exact⟨ao,_,c,e⟩
   ·exact⟨none,0,0,h.2 h9⟩
 have d6:Hid _:=X;replace a:=zj a O;replace b2:=zc b2 O;replace b3:=zc b3 O;clear b5 c0 X O f0 f1 f2 h0 h1 Y h3 h4 h5 h6 h7 h8 h9 d8 d9 P b1 V2;have e0:w.heap.size+1+1+1<u.heap.size:=zZ b3;go_upto_region 4 with fail;have pA:=ze (heap_alloc_new u (.cells #[.slice d1 d.san I,.slice d2 d.ldn J,.slice d3 d.bkn K] 66)) (.cells #[int i64 code,int i64 name,int i64 price,.slice F H G] 127);have pB:=zcC u (.cells #[.slice d1 d.san I,.slice d2 d.ldn J,.slice d3 d.bkn K] 66) (.cells #[int i64 code,int i64 name,int i64 price,.slice F H G] 127);have t:Below u.heap.size u ((u.alloc (.cells #[.slice d1 d.san I,.slice d2 d.ldn J,.slice d3 d.bkn K] 66)).alloc (.cells #[int i64 code,int i64 name,int i64 price,.slice F H G] 127)):=zr (zr bZ _) _;have a1:Hid _:=d5.out.below t;have r2:=zc b2 t;have r3:=zc b3 t;have a6:=zj a t;have a2:Hid (zA u ((u.alloc (.cells #[.slice d1 d.san I,.slice d2 d.ldn J,.slice d3 d.bkn K] 66)).alloc (.cells #[int i64 code,int i64 name,int i64 price,.slice F H G] 127)) (fun b=>b=w.heap.size+1+1∨b=w.heap.size+1+1+1)):=zA.of_below t
 generalize (u.alloc (.cells #[.slice d1 d.san I,.slice d2 d.ldn J,.slice d3 d.bkn K] 66)).alloc (.cells #[int i64 code,int i64 name,int i64 price,.slice F H G] 127)=wf at pA pB t a1 r2 r3 a6 a2 ⊢;generalize u.heap.size=r at pA pB e0 ⊢;have p0:=pA;have pT:=pB;have KS:Hid (∀ z:World,z.heap[r]?=some (.cells #[.slice d1 d.san I,.slice d2 d.ldn J,.slice d3 d.bkn K] 66 (0,0))->z.heap[r+1]?=some (.cells #[int i64 code,int i64 name,int i64 price,.slice F H G] 127 (0,0))->z.cell? ⟨r,0,none⟩=some (.slice d1 d.san I)/\z.cell? ⟨r,1,none⟩=some (.slice d2 d.ldn J)/\z.cell? ⟨r,2,none⟩=some (.slice d3 d.bkn K)/\z.cell? ⟨r+1,0,none⟩=some (int i64 code)/\z.cell? ⟨r+1,1,none⟩=some (int i64 name)/\z.cell? ⟨r+1,2,none⟩=some (int i64 price)/\z.cell? ⟨r+1,3,none⟩=some (.slice F H G)):=fun z h1 Y=>⟨za h1 0 _ rfl,za h1 1 _ rfl,za h1 2 _ rfl,za Y 0 _ rfl,za Y 1 _ rfl,za Y 2 _ rfl,za Y 3 _ rfl⟩
 obtain⟨s0,s1,s2⟩:=ce3 r2;obtain⟨c1,c2,c3⟩:=fe3 r2;obtain⟨t0,t1,t2,t3⟩:=ce4 r3;obtain⟨c4,c5,c6,c7⟩:=fe4 r3;go_region_held3 (fun w'=>w'.cell? ⟨r,0,none⟩=some (.slice d1 d.san I)/\w'.cell? ⟨r,1,none⟩=some (.slice d2 d.ldn J)/\w'.cell? ⟨r,2,none⟩=some (.slice d3 d.bkn K)/\w'.cell? ⟨r+1,0,none⟩=some (int i64 code)/\w'.cell? ⟨r+1,1,none⟩=some (int i64 name)/\w'.cell? ⟨r+1,2,none⟩=some (int i64 price)/\w'.cell? ⟨r+1,3,none⟩=some (.slice F H G))
  (first|(refine KS.out _ ?_ ?_ <;> (repeat(first|with_reducible exact p0|with_reducible exact pT|(with_reducible refine zF ?_)|(with_reducible refine zD ?_ _ _ ?_;rotate_left;(focus omega))))))
  (fail)
 obtain⟨Z,e5,e6,a3,a7⟩:=zes a6 a1.out r2 r3 (by omega) (by omega) (int i64 code) (int i64 name) (int i64 price) (.slice F H G) rfl
 have d0:Hid _:=Z.below (Below.drew bZ);have c8:Hid _:=Below.drew a3;have c9:Hid _:=a7.trans (zA.of_below (Below.drew bZ));clear Z a3 a7;obtain⟨x0,x1,e7⟩:=ce3 (zF e5);obtain⟨z0,z1,z2,z3⟩:=ce4 (zF e6);go_wp2;refine bodyPost_ret (v:=.tuple #[.agg #[.slice d1 d.san I,.slice d2 d.ldn J,.slice d3 d.bkn K],.agg #[int i64 code,int i64 name,int i64 price,.slice F H G],.bool true]) (by simp[results,Tryz.results80,go_sem,x0,x1,e7,z0,z1,z2,z3]) rfl ⟨.inl ⟨a0.out,R.out,d,d1,I,d2,J,d3,K,code,name,price,.slice F H G,L,C,A,B,D,E,rfl,?_,d7.out,?_⟩,c8.out⟩
 ·exact d0.out
 ·rcases d6.out with h|⟨M,b,h⟩
  ·exact .inl h
  ·exact .inr ⟨M,b,zgk h (a2.out.trans c9.out) (fun g e=>by rcases e with e|e;exact⟨_,_,by rw[e];exact b2,by decide⟩;exact⟨_,_,by rw[e];exact b3,by decide⟩)⟩
def qv (base:Nat)(san:Nat)(b1 b2 b3:Option Addr)(m1 m2 m3 d1 d2 d3:Nat)(tb:Bool)(u:World):Prop :=
 tb=false∨∃ (a:Off) (L C A B D E:Nat->Value),m1=a.san/\m2=a.ldn/\m3=a.bkn/\a.san=san/\a.bkn<=30/\Off.Short a 1048576/\zV u base (.slice b1 m1 d1) (.slice b2 m2 d2) (.slice b3 m3 d3) a.san a.ldn a.bkn a L C A B D E
theorem qv.below {base san:Nat}{b1 b2 b3:Option Addr}{m1 m2 m3 d1 d2 d3:Nat}{tb:Bool}{u a:World}(h:qv base san b1 b2 b3 m1 m2 m3 d1 d2 d3 tb u)(i:Below u.heap.size u a):qv base san b1 b2 b3 m1 m2 m3 d1 d2 d3 tb a:=by
 rcases h with h|⟨j,L,C,A,B,D,E,b,c,d,e,f,g,h7⟩
 ·exact .inl h
 ·exact .inr ⟨j,L,C,A,B,D,E,b,c,d,e,f,g,h7.below i⟩
theorem qv.lower {base a san:Nat}{b1 b2 b3:Option Addr}{m1 m2 m3 d1 d2 d3:Nat}{tb:Bool}{u:World}(h:qv base san b1 b2 b3 m1 m2 m3 d1 d2 d3 tb u)(i:a<=base):qv a san b1 b2 b3 m1 m2 m3 d1 d2 d3 tb u:=by
 rcases h with h|⟨j,L,C,A,B,D,E,b,c,d,e,f,g,h7⟩
 ·exact .inl h
 ·exact .inr ⟨j,L,C,A,B,D,E,b,c,d,e,f,g,h7.lower i⟩
theorem qv.box {base san:Nat}{b1 b2 b3:Option Addr}{m1 m2 m3 d1 d2 d3:Nat}{tb:Bool}{u a:World}{g t:Nat}{cs:Array Value}(h:qv base san b1 b2 b3 m1 m2 m3 d1 d2 d3 tb u)(l:zA u a (fun b=>b=g))(k:u.heap[g]?=some (.cells cs t (0,0)))
  (m:37≠t/\106≠t/\110≠t/\136≠t/\186≠t/\190≠t/\138≠t/\131≠t/\3≠t):qv base san b1 b2 b3 m1 m2 m3 d1 d2 d3 tb a:=by
 rcases h with h|⟨n,L,C,A,B,D,E,c,d,e,f,i,j,h7⟩
 ·exact .inl h
 ·exact .inr ⟨n,L,C,A,B,D,E,c,d,e,f,i,j,h7.box l k m⟩
theorem dop_next (x:Off)(f d c a:Option Addr)(m l g i:Nat)(j:Int)(y:OpD)(w:World)(K:Off.Short x 1048576)(v:SailsAt w f x.san x.sa)(s:QE w d x.ldn x.ld)(q:ZU w c x.bkn x.bk)(r:x.bkn<=g)(t:IntsAt w a y.lgn y.lg)(F:SliceOk a y.lgn i)(hl:y.lgn<=1048576)(I:y.own.size<=1048576) :
  Calls Tryz.prog 80 #[.agg #[.slice f x.san m,.slice d x.ldn l,.slice c x.bkn g],int i64 j,.agg #[int i64 y.kind,.string y.own,int i64 y.name,.slice a y.lgn i,int i64 y.pe,int i64 y.len,int i64 y.hei,int i64 y.cl,.bool y.all,int i64 y.be,int i64 y.unt,int i64 y.now]] w fun e w' =>
   (∃ b1 b2 b3 b4 m1 m2 m3 m4 d1 d2 d3 d4 k1 k2 k3 tb,e=.returned (.tuple #[.agg #[.slice b1 m1 d1,.slice b2 m2 d2,.slice b3 m3 d3],.agg #[int i64 k1,int i64 k2,int i64 k3,.slice b4 m4 d4],.bool tb])/\Hid (qv w.heap.size x.san b1 b2 b3 m1 m2 m3 d1 d2 d3 tb w'))/\Below w.heap.size w w':=by
 refine(zhk x f d c a m l g i (y.name - 1).toNat j y w K v s q r t F hl I (fun T U=>?_)).mono ?_
 ·have p:=T.2.2.1
  unfold Zp at p;rw[if_pos U] at p;unfold In at p
  omega
 ·rintro e w' ⟨h,V⟩
  refine⟨?_,V⟩
  rcases h with⟨G,_,Y,N,Q,O,R,P,S,code,name,price,X,L,C,A,B,D,E,rfl,n,o,u⟩|⟨_,rfl⟩
  ·have H:=o.few G
   have z:=o.short G K (by decide) I
   obtain⟨b4,m4,d4,rfl⟩:∃ b4 m4 d4,X=.slice b4 m4 d4:=by
    rcases u with rfl|⟨M,b,J⟩
    ·exact⟨_,_,_,rfl⟩
    ·by_cases c9:y.kind=9
     ·obtain⟨k,_,_,W⟩:=J.1 c9
      obtain⟨q1,q2,e,_⟩:=zt W;exact⟨_,_,_,e⟩
     ·exact⟨_,_,_,J.2 c9⟩
   exact⟨N,O,P,b4,_,_,_,m4,Q,R,S,d4,code,name,price,true,rfl,.inr ⟨Y,L,C,A,B,D,E,rfl,rfl,rfl,H.2.1,H.1,z,n⟩⟩
  ·exact⟨none,none,none,none,0,0,0,0,0,0,0,0,0,0,0,false,rfl,.inl rfl⟩
section
open Go.RowKit
structure NX where
 b1:Option Addr
 b2:Option Addr
 b3:Option Addr
 b4:Option Addr
 m1:Nat
 m2:Nat
 m3:Nat
 m4:Nat
 d1:Nat
 d2:Nat
 d3:Nat
 d4:Nat
 k1:Int
 k2:Int
 k3:Int
 tb:Bool
def NX.Ok (q:NX)(base san:Nat)(u:World):Prop:=qv base san q.b1 q.b2 q.b3 q.m1 q.m2 q.m3 q.d1 q.d2 q.d3 q.tb u
def n3:Array Value:=#[.slice none 0 0,.slice none 0 0,.slice none 0 0]
def a4:Array Value:=#[int i64 0,int i64 0,int i64 0,.slice none 0 0]
structure R8 (w u:World)(m:Nat)(i:Option Addr)(n c a d:Nat)(x:Off)(e g h:Option Addr)(j k l:Nat)(L C A B D E:Nat->Value)(o p:Option Nat)(lg:Option (OpD × Option Addr × Nat))(nx:Option NX):Prop where
 f:zbu w u m i n c a d x e g h j k l L C A B D E
 h7:∀ b,o=some b->d<b/\u.heap[b]?=some (.cells n3 66 (0,0))
 h8:∀ b,p=some b->d<b/\u.heap[b]?=some (.cells a4 127 (0,0))
 hl:∀ y ag cg,lg=some (y,ag,cg)->u.ownsRow w.heap.size 3 1 (.slice ag y.lgn cg) y.lgn (zJ y.lg y.lgn)
 hn:∀ q,nx=some q->q.Ok w.heap.size x.san u
section
variable {w u u' : World} {cb : Nat} {ao : Option Addr} {n c a a' ob : Nat} {x : Off} {a1 a2 a3 : Option Addr} {c1 c2 c3 : Nat} {L C A B D E : Nat -> Value} {p7 p8 : Option Nat} {lg : Option (OpD × Option Addr × Nat)} {nx : Option NX}
theorem R8.below (h:R8 w u cb ao n c a ob x a1 a2 a3 c1 c2 c3 L C A B D E p7 p8 lg nx)(d:Below u.heap.size u u'):R8 w u' cb ao n c a ob x a1 a2 a3 c1 c2 c3 L C A B D E p7 p8 lg nx :=
 ⟨h.f.below d,fun b e=>⟨(h.h7 b e).1,zc (h.h7 b e).2 d⟩,fun b e=>⟨(h.h8 b e).1,zc (h.h8 b e).2 d⟩,fun y f g e=>zm d (h.hl y f g e),fun q e=>(h.hn q e).below d⟩
theorem R8.al7 (h:R8 w u cb ao n c a ob x a1 a2 a3 c1 c2 c3 L C A B D E none p8 lg nx):R8 w (u.alloc (.cells #[.slice none 0 0,.slice none 0 0,.slice none 0 0] 66)) cb ao n c a ob x a1 a2 a3 c1 c2 c3 L C A B D E (some u.heap.size) p8 lg nx:=by
 have k:=h.below (zr (Below.refl _ u) (.cells #[.slice none 0 0,.slice none 0 0,.slice none 0 0] 66));exact⟨k.f,fun b e=>by cases e;exact⟨h.f.ob_lt,heap_alloc_new u _⟩,k.h8,k.hl,k.hn⟩
theorem R8.al8 (h:R8 w u cb ao n c a ob x a1 a2 a3 c1 c2 c3 L C A B D E p7 none lg nx):R8 w (u.alloc (.cells #[int i64 0,int i64 0,int i64 0,.slice none 0 0] 127)) cb ao n c a ob x a1 a2 a3 c1 c2 c3 L C A B D E p7 (some u.heap.size) lg nx:=by
 have k:=h.below (zr (Below.refl _ u) (.cells #[int i64 0,int i64 0,int i64 0,.slice none 0 0] 127));exact⟨k.f,k.h7,fun b e=>by cases e;exact⟨h.f.ob_lt,heap_alloc_new u _⟩,k.hl,k.hn⟩
theorem own_okR {w:World}{base e size n c:Nat}{a:Option Addr}{j:List Value}(h:w.ownsRow base e size (.slice a n c) n j):SliceOk a n c:=by
 obtain⟨b,d,e,f,g,i⟩:=zt h
 cases e
 exact⟨f,g,i⟩
theorem R8.op (h:R8 w u cb ao n c a ob x a1 a2 a3 c1 c2 c3 L C A B D E p7 p8 none nx)(g:cb<w.heap.size)(r:a<=600000000000000000)(o:x.san<=1000)(p:x.bkn<=1000) :
  Calls Tryz.prog 29 #[.pointer (some ⟨cb,0,none⟩),.agg #[.slice a1 x.san c1,.slice a2 x.ldn c2,.slice a3 x.bkn c3]] u fun e k=>∃ (y:OpD) (d:Option Addr) (f:Nat),e=.returned (.agg (ZV y (.slice d y.lgn f)))/\y.own.size<=10/\y.lgn<=7/\Hid (R8 w k cb ao n c (a+300) ob x a1 a2 a3 c1 c2 c3 L C A B D E p7 p8 (some (y,d,f)) none):=by
 refine(op_any cb ao n c a a1 a2 a3 x.san c1 x.ldn c2 x.bkn c3 x.sa u r o p h.f.cur h.f.sails).mono ?_;rintro e k ⟨⟨y,d,f,rfl,k1,k2,j⟩,s,i⟩;have t:=h.f.lt;exact⟨y,d,f,rfl,k1,k2,h.f.on g s i,fun b e=>⟨(h.h7 b e).1,i.blk (h.h7 b e).2 (fun q=>by have q:b=cb:=q;have:=(h.h7 b e).1;omega)⟩,fun b e=>⟨(h.h8 b e).1,i.blk (h.h8 b e).2 (fun q=>by have q:b=cb:=q;have:=(h.h8 b e).1;omega)⟩,fun y' l m e=>by cases e;exact zE j h.f.kept.size,fun q e=>by cases e⟩
theorem R8.dop {y:OpD}{b:Option Addr}{d:Nat}(h:R8 w u cb ao n c a ob x a1 a2 a3 c1 c2 c3 L C A B D E p7 p8 (some (y,b,d)) nx)(l:Off.Short x 1048576)(k1:y.own.size<=10)(k2:y.lgn<=7)(i:Int) :
  Calls Tryz.prog 80 #[.agg #[.slice a1 x.san c1,.slice a2 x.ldn c2,.slice a3 x.bkn c3],int i64 i,.agg (ZV y (.slice b y.lgn d))] u fun e g=>∃ q:NX,e=.returned (.tuple #[.agg #[.slice q.b1 q.m1 q.d1,.slice q.b2 q.m2 q.d2,.slice q.b3 q.m3 q.d3],.agg #[int i64 q.k1,int i64 q.k2,int i64 q.k3,.slice q.b4 q.m4 q.d4],.bool q.tb])/\Hid (R8 w g cb ao n c a ob x a1 a2 a3 c1 c2 c3 L C A B D E p7 p8 none (some q)):=by
 have hl:=h.hl y b d rfl;refine(dop_next x a1 a2 a3 b c1 c2 c3 d i y u l h.f.own.sa.at h.f.own.ld.at h.f.own.bk.at h.f.cap (own_ints hl) (own_okR hl) (by omega) (by omega)).mono ?_
 rintro e g ⟨⟨b1,b2,b3,b4,m1,m2,m3,m4,d1,d2,d3,d4,k1,k2,k3,tb,rfl,f⟩,j⟩;have k:=h.below j;exact⟨⟨b1,b2,b3,b4,m1,m2,m3,m4,d1,d2,d3,d4,k1,k2,k3,tb⟩,rfl,k.f,k.h7,k.h8,fun _ _ _ e=>(by cases e),fun q e=>by cases e;exact f.out.lower h.f.kept.size⟩
end
end
theorem same_text {a b:OpD}(e:zgy a b)(h:qn b):qn a/\opT a=opT b:=by
 obtain⟨k,o,n,ln,f,p1,p2,p3,p4,p5,p6,u,v⟩:=b;obtain⟨k',o',n',c,t,q1,q2,q3,q4,q5,q6,u',v'⟩:=a;obtain⟨l,m,p,q,g,j,r,s⟩:=e;dsimp only[OpD.p] at l m p q g j r s;simp only[Zf.mk.injEq] at j;obtain⟨rfl,rfl,rfl,rfl,rfl,rfl⟩:=j;subst l m p q r s;have hl:ZB c t=ZB c f:=by
  unfold ZB
  congr 1
  refine List.map_congr_left fun i d=>?_
  rw[g i (List.mem_range.1 d)]
 refine⟨⟨h.1,fun i d=>?_⟩,?_⟩
 ·have:=h.2 i d
  dsimp only at this ⊢;rw[g i d];exact this
 ·unfold opT zcv zcg zbX zbW
  dsimp only;rw[hl]
  rfl
theorem read_op {y:OpD}{w w':World}{z:OpR}{ok:Bool}(h:zfx (opT y) w w' z ok)(c:qn y):ok=true/\zgy z.d y:=by
 obtain⟨x,a,b⟩:=h.ans;have e:=b y c rfl;have t:=same_text e c
 rcases a with⟨rfl,_,_,rfl⟩|⟨_,n,_⟩
 ·exact⟨rfl,e⟩
 ·exact absurd t n
theorem wd_lt {l:List ByteArray}{x:ByteArray}{i:Nat}(h:i<l.length):wd (l++[x]) i=wd l i:=by
 unfold wd;rw[List.getD_eq_getElem?_getD,List.getD_eq_getElem?_getD,List.getElem?_append_left h]
theorem wd_last (l:List ByteArray)(x:ByteArray):wd (l++[x]) l.length=x:=by
 unfold wd;rw[List.getD_eq_getElem?_getD,List.getElem?_append_right (Nat.le_refl _)];simp
theorem zhU (l:List ByteArray)(x:ByteArray):zG (prs (l++[x]))=zG (prs l)++[int i64 (zI (Z4 47 x)),int i64 (zI (Z5 47 x))]:=by
 unfold zG;have e:(prs (l++[x])).n*2=(prs l).n*2+1+1:=by simp[prs];omega
 rw[e,List.range_succ,List.range_succ,List.map_append,List.map_append,List.append_assoc]
 congr 1
 ·refine List.map_congr_left fun j a=>?_
  have a:j<l.length*2:=by simpa [prs] using a
  have d:j / 2<l.length:=by omega
  unfold pairCell prs;dsimp only;rw[wd_lt d]
 ·have c:(prs l).n=l.length:=rfl
  have b:l.length*2 / 2=l.length:=by omega
  have d1:(l.length*2+1) / 2=l.length:=by omega
  have f:l.length*2 % 2=0:=by omega
  have m1:¬ (l.length*2+1) % 2=0:=by omega
  simp only[List.map_cons,List.map_nil,c];unfold pairCell;rw[if_pos f,if_neg m1,b,d1];unfold prs;dsimp only;rw[wd_last]
  rfl
theorem zdF {l:List ByteArray}{k:Nat}(h:k<l.length):l.take (k+1)=l.take k++[l[k]'h]:=by
 rw[List.take_add_one,List.getElem?_eq_getElem h]
 rfl
theorem ziF (s:ByteArray)(w:World)(r:s.size<=1000000000000)(q:PowAt w) :
  Calls Tryz.prog 70 #[.string s] w fun e w'=>e=.returned (.agg #[int i64 (zI (Z4 47 s)),int i64 (zI (Z5 47 s))])/\Below w.heap.size w w':=by
 have p:=hI q;have m:=heap_alloc_new w (.cells #[int i64 0,int i64 0] 106);have c:Below w.heap.size w (w.alloc (.cells #[int i64 0,int i64 0] 106)):=zr bZ _;have j:Hid (∀ i,PowAt i->Calls Tryz.prog 93 #[.string s] i fun e w'=>e=.returned (.tuple #[int i64 (zI (Z4 47 s)),int i64 (zI (Z5 47 s))])/\Below i.heap.size i w'):=fun i h=>zcy s i r h
 generalize zI (Z4 47 s)=a at j ⊢;generalize zI (Z5 47 s)=b at j ⊢;go_enter Tryz.func70,Tryz.ntmps70;go_upto_region 1 with fail;generalize w.alloc (.cells #[int i64 0,int i64 0] 106)=W at m c ⊢;have t:=c.size;have n:=j.out W (p.out.below c);go_wp2_with fail;refine n.mono ?_;clear n;rintro e y ⟨rfl,f⟩;have b2:=zc m f;have d:=zj c f;have y0:=za b2 0 _ rfl;have y1:=za b2 1 _ rfl;have g0:=zg b2 0;have g1:=zg b2 1;have o:=zy (zy b2 0 (int i64 a)) 1 (int i64 b);have l:Hid (Below w.heap.size w _):=zA.below d d.size (((zA.refl y (fun g=>g=w.heap.size)).set (a:=⟨w.heap.size,0,none⟩) rfl (int i64 a)).set (a:=⟨w.heap.size,1,none⟩) rfl (int i64 b)) (fun k e=>by have e:k=w.heap.size:=e;omega)
 clear m c f b2 d;go_wp2;have u:=za o 0 _ rfl;have x:=za o 1 _ rfl;exact bodyPost_ret (v:=.agg #[int i64 a,int i64 b]) (by simp[results,Tryz.results70,go_sem,u,x]) rfl ⟨rfl,l.out⟩
theorem zdS (s:ByteArray)(w:World)(hs:s.size<=1048576)(V:PowAt w) :
  Calls Tryz.prog 69 #[.string s,.func (.func 70) #[] #[]] w fun e w'=>∃ v l,e=.returned v/\w'.ownsRow w.heap.size 106 2 v l.length (zG (prs l))/\Hid (PRd s l)/\Below w.heap.size w w':=by
 have HP:=hI V;clear V;obtain⟨j0,ji,R,S,T⟩:=info_parts Tryz.infoLane
 by_cases h45:s=⟨#[45]⟩
 ·have z:(s.toList == (⟨#[45]⟩:ByteArray).toList)=true:=Q4.2 h45
  have HR:Hid (PRd s []):=⟨by simp,.inl ⟨h45,rfl⟩⟩
  have L:s.toList=[45]:=by rw[h45];simp[ByteArray.toList_eq]
  clear h45;go_enter Tryz.func69,Tryz.ntmps69;go_wp2;go_ret;exact⟨_,[],rfl,World.ownsRow_nil _ _ _ _,HR,bZ⟩
 ·have z:(s.toList == [45])=false:=by
   rw[beq_eq_false_iff_ne];intro e;exact h45 (QU (by rw[e];simp[ByteArray.toList_eq]))
  have L:¬ s.toList=[45]:=by rwa [beq_eq_false_iff_ne] at z
  have I:=hI h45;clear h45;go_enter Tryz.func69,Tryz.ntmps69;go_wp2_with fail;refine(zaO s 44 _ (by decide) hs).mono ?_
  rintro e w2 ⟨v,l,rfl,P,E,N⟩;obtain⟨pa,U,rfl,a1,a2,a3⟩:=zt P;have f:=hI P;have y:=hI E.out;have a0:l.length<=1048577:=by have:=E.out.2;omega
  have K:Hid (∀ q,q ∈ l->q.size<=1000000000000):=fun q hq=>by have:=zdd E.out.1 q hq;omega
  clear P E;go_wp2;go_loopw [5,7,13] (fun v _ i wr=>∃ k:Nat,k<=l.length/\i=int i64 k/\Hid (wr.ownsRow w.heap.size 106 2 v k (zG (prs (l.take k))))/\Hid (zcZ wr w.heap.size (.slice pa l.length U) l)/\Below w.heap.size w wr)
   (fun _ _ i _=>l.length - (intOf i).toNat)
  case atStart=>exact⟨0,Nat.zero_le _,rfl,World.ownsRow_nil _ _ _ _,f.out,N⟩
  case round =>
   clear f;obtain⟨k,hk,rfl,t,f,a⟩:=hrel
   by_cases hlt:k<l.length
   ·obtain⟨g,Q,_,hg⟩:=qw f.out (by omega)
    subst Q;have Y:l[k]?=some (l[k]'hlt):=List.getElem?_eq_getElem hlt;have W:wr.cell? ⟨g,k,none⟩=some (.string (l[k]'hlt)):=by rw[World.ownsRow.cellAt f.out k (by omega),List.getElem?_map,Y];rfl
    have F:=hI (zdF hlt);have n:Hid ((l[k]'hlt).size<=1000000000000):=K.out _ (List.getElem_mem hlt);generalize l[k]'hlt=x at W F n;obtain⟨va,vc,rfl,_⟩:=zt t.out;have D:=ziF x wr n.out (HP.out.below a);have c:Hid (zG (prs (l.take (k+1)))=zG (prs (l.take k))++[int i64 (zI (Z4 47 x)),int i64 (zI (Z5 47 x))]):=by rw[F.out];exact zhU _ _
    generalize zI (Z4 47 x)=ca at D c;generalize zI (Z5 47 x)=C at D c;clear Y F n;go_wp2_with fail;refine D.mono ?_;clear D;rintro e B ⟨rfl,d⟩;have b:Hid (World.ownsRow (B.alloc (.cells #[int i64 ca,int i64 C] 106)) w.heap.size 106 2 (.slice va k vc) k (zG (prs (l.take k)))):=zm (zr bZ _) (zm d t.out);have m:Hid (zcZ (B.alloc (.cells #[int i64 ca,int i64 C] 106)) w.heap.size (.slice (some ⟨g,0,none⟩) l.length U) l):=zm (zr bZ _) (zm d f.out);have o:Below w.heap.size w (B.alloc (.cells #[int i64 ca,int i64 C] 106)):=zr (zj a d) _;have r:=o.size;clear t f a d W;go_wp2_with (first|(at_builtin;refine zz _ (by rfl) (.tmp 17) (.tmp 21) 34 (by rfl) w.heap.size 106 j0 (.agg #[int i64 0,int i64 0]) 2 16 Tryz.underlying34 ji R S T rfl (by decide) _ k (zG (prs (l.take k))) (by rfl) b.out (some ⟨B.heap.size,0,none⟩) 1 1 [int i64 ca,int i64 C] (by rfl) (fun h=>by cases h) (by rfl) (fun ad h=>by cases h;exact World.news_of_block (heap_alloc_new B _)) (by intro u X;simp only[List.mem_cons,List.not_mem_nil,or_false] at X;rcases X with rfl|rfl <;> rfl) (by unfold maxLen;omega) (by omega) r ?_;intro v9 Z A p))
    have H:Hid (World.ownsRow Z w.heap.size 106 2 v9 (k+1) (zG (prs (l.take (k+1))))):=by
     rw[c.out];exact A
    have J:Hid (zcZ Z w.heap.size (.slice (some ⟨g,0,none⟩) l.length U) l):=(zO p).own m.out (fun g1 h1 L=>own_apart m.out b.out (by decide) g1 h1 L)
    have O:=o.grown p r (fun j hj=>(World.ownsRow.lt b.out j hj).1)
    clear b m o A p r c;go_roundw
    case rel=>exact⟨k+1,by omega,by go_num,H.out,J.out,O⟩
    case measure=>simp[intOf];omega
   ·obtain rfl:k=l.length:=by omega
    have HF:Hid (PRd s l):=⟨y.out.2,.inr ⟨I.out,y.out.1⟩⟩;have M:=t.out;rw[List.take_of_length_le (Nat.le_refl _)] at M;have G:=hI M;clear t M;go_wp2;go_ret;exact⟨_,_,rfl,G.out,HF,a⟩
theorem zhA (s:ByteArray)(w:World)(r:s.size<=1000000000000)(q:PowAt w) :
  Calls Tryz.prog 72 #[.string s] w fun e w'=>e=.returned (.agg #[int i64 (zI (Z4 47 s)),int i64 (zI (Z5 47 s))])/\Below w.heap.size w w':=by
 have p:=hI q;have m:=heap_alloc_new w (.cells #[int i64 0,int i64 0] 110);have c:Below w.heap.size w (w.alloc (.cells #[int i64 0,int i64 0] 110)):=zr bZ _;have j:Hid (∀ i,PowAt i->Calls Tryz.prog 93 #[.string s] i fun e w'=>e=.returned (.tuple #[int i64 (zI (Z4 47 s)),int i64 (zI (Z5 47 s))])/\Below i.heap.size i w'):=fun i h=>zcy s i r h
 generalize zI (Z4 47 s)=a at j ⊢;generalize zI (Z5 47 s)=b at j ⊢;go_enter Tryz.func72,Tryz.ntmps72;go_upto_region 1 with fail;generalize w.alloc (.cells #[int i64 0,int i64 0] 110)=W at m c ⊢;have t:=c.size;have n:=j.out W (p.out.below c);go_wp2_with fail;refine n.mono ?_;clear n;rintro e y ⟨rfl,f⟩;have b2:=zc m f;have d:=zj c f;have y0:=za b2 0 _ rfl;have y1:=za b2 1 _ rfl;have g0:=zg b2 0;have g1:=zg b2 1;have o:=zy (zy b2 0 (int i64 a)) 1 (int i64 b);have l:Hid (Below w.heap.size w _):=zA.below d d.size (((zA.refl y (fun g=>g=w.heap.size)).set (a:=⟨w.heap.size,0,none⟩) rfl (int i64 a)).set (a:=⟨w.heap.size,1,none⟩) rfl (int i64 b)) (fun k e=>by have e:k=w.heap.size:=e;omega)
 clear m c f b2 d;go_wp2;have u:=za o 0 _ rfl;have x:=za o 1 _ rfl;exact bodyPost_ret (v:=.agg #[int i64 a,int i64 b]) (by simp[results,Tryz.results72,go_sem,u,x]) rfl ⟨rfl,l.out⟩
theorem zdG (s:ByteArray)(w:World)(hs:s.size<=1048576)(V:PowAt w) :
  Calls Tryz.prog 71 #[.string s,.func (.func 72) #[] #[]] w fun e w'=>∃ v l,e=.returned v/\w'.ownsRow w.heap.size 110 2 v l.length (zG (prs l))/\Hid (PRd s l)/\Below w.heap.size w w':=by
 have HP:=hI V;clear V;obtain⟨j0,ji,R,S,T⟩:=info_parts Tryz.infoCabin
 by_cases h45:s=⟨#[45]⟩
 ·have z:(s.toList == (⟨#[45]⟩:ByteArray).toList)=true:=Q4.2 h45
  have HR:Hid (PRd s []):=⟨by simp,.inl ⟨h45,rfl⟩⟩
  have L:s.toList=[45]:=by rw[h45];simp[ByteArray.toList_eq]
  clear h45;go_enter Tryz.func71,Tryz.ntmps71;go_wp2;go_ret;exact⟨_,[],rfl,World.ownsRow_nil _ _ _ _,HR,bZ⟩
 ·have z:(s.toList == [45])=false:=by
   rw[beq_eq_false_iff_ne];intro e;exact h45 (QU (by rw[e];simp[ByteArray.toList_eq]))
  have L:¬ s.toList=[45]:=by rwa [beq_eq_false_iff_ne] at z
  have I:=hI h45;clear h45;go_enter Tryz.func71,Tryz.ntmps71;go_wp2_with fail;refine(zaO s 44 _ (by decide) hs).mono ?_
  rintro e w2 ⟨v,l,rfl,P,E,N⟩;obtain⟨pa,U,rfl,a1,a2,a3⟩:=zt P;have f:=hI P;have y:=hI E.out;have a0:l.length<=1048577:=by have:=E.out.2;omega
  have K:Hid (∀ q,q ∈ l->q.size<=1000000000000):=fun q hq=>by have:=zdd E.out.1 q hq;omega
  clear P E;go_wp2;go_loopw [5,7,13] (fun v _ i wr=>∃ k:Nat,k<=l.length/\i=int i64 k/\Hid (wr.ownsRow w.heap.size 110 2 v k (zG (prs (l.take k))))/\Hid (zcZ wr w.heap.size (.slice pa l.length U) l)/\Below w.heap.size w wr)
   (fun _ _ i _=>l.length - (intOf i).toNat)
  case atStart=>exact⟨0,Nat.zero_le _,rfl,World.ownsRow_nil _ _ _ _,f.out,N⟩
  case round =>
   clear f;obtain⟨k,hk,rfl,t,f,a⟩:=hrel
   by_cases hlt:k<l.length
   ·obtain⟨g,Q,_,hg⟩:=qw f.out (by omega)
    subst Q;have Y:l[k]?=some (l[k]'hlt):=List.getElem?_eq_getElem hlt;have W:wr.cell? ⟨g,k,none⟩=some (.string (l[k]'hlt)):=by rw[World.ownsRow.cellAt f.out k (by omega),List.getElem?_map,Y];rfl
    have F:=hI (zdF hlt);have n:Hid ((l[k]'hlt).size<=1000000000000):=K.out _ (List.getElem_mem hlt);generalize l[k]'hlt=x at W F n;obtain⟨va,vc,rfl,_⟩:=zt t.out;have D:=zhA x wr n.out (HP.out.below a);have c:Hid (zG (prs (l.take (k+1)))=zG (prs (l.take k))++[int i64 (zI (Z4 47 x)),int i64 (zI (Z5 47 x))]):=by rw[F.out];exact zhU _ _
    generalize zI (Z4 47 x)=ca at D c;generalize zI (Z5 47 x)=C at D c;clear Y F n;go_wp2_with fail;refine D.mono ?_;clear D;rintro e B ⟨rfl,d⟩;have b:Hid (World.ownsRow (B.alloc (.cells #[int i64 ca,int i64 C] 110)) w.heap.size 110 2 (.slice va k vc) k (zG (prs (l.take k)))):=zm (zr bZ _) (zm d t.out);have m:Hid (zcZ (B.alloc (.cells #[int i64 ca,int i64 C] 110)) w.heap.size (.slice (some ⟨g,0,none⟩) l.length U) l):=zm (zr bZ _) (zm d f.out);have o:Below w.heap.size w (B.alloc (.cells #[int i64 ca,int i64 C] 110)):=zr (zj a d) _;have r:=o.size;clear t f a d W;go_wp2_with (first|(at_builtin;refine zz _ (by rfl) (.tmp 17) (.tmp 21) 35 (by rfl) w.heap.size 110 j0 (.agg #[int i64 0,int i64 0]) 2 16 Tryz.underlying35 ji R S T rfl (by decide) _ k (zG (prs (l.take k))) (by rfl) b.out (some ⟨B.heap.size,0,none⟩) 1 1 [int i64 ca,int i64 C] (by rfl) (fun h=>by cases h) (by rfl) (fun ad h=>by cases h;exact World.news_of_block (heap_alloc_new B _)) (by intro u X;simp only[List.mem_cons,List.not_mem_nil,or_false] at X;rcases X with rfl|rfl <;> rfl) (by unfold maxLen;omega) (by omega) r ?_;intro v9 Z A p))
    have H:Hid (World.ownsRow Z w.heap.size 110 2 v9 (k+1) (zG (prs (l.take (k+1))))):=by
     rw[c.out];exact A
    have J:Hid (zcZ Z w.heap.size (.slice (some ⟨g,0,none⟩) l.length U) l):=(zO p).own m.out (fun g1 h1 L=>own_apart m.out b.out (by decide) g1 h1 L)
    have O:=o.grown p r (fun j hj=>(World.ownsRow.lt b.out j hj).1)
    clear b m o A p r c;go_roundw
    case rel=>exact⟨k+1,by omega,by go_num,H.out,J.out,O⟩
    case measure=>simp[intOf];omega
   ·obtain rfl:k=l.length:=by omega
    have HF:Hid (PRd s l):=⟨y.out.2,.inr ⟨I.out,y.out.1⟩⟩;have M:=t.out;rw[List.take_of_length_le (Nat.le_refl _)] at M;have G:=hI M;clear t M;go_wp2;go_ret;exact⟨_,_,rfl,G.out,HF,a⟩
section
open Go.RowKit
structure SRc where
 id:Int
 fr:ByteArray
 dst:ByteArray
 dep:Int
 arr:Int
 vl:Value
 vc:Value
 la:List ByteArray
 lc:List ByteArray
 most:Int
def SRc.cs (x:SRc):Array Value:=#[int i64 x.id,.string x.fr,.string x.dst,int i64 x.dep,int i64 x.arr,x.vl,x.vc,int i64 x.most]
noncomputable def SRc.d (x:SRc):Sail:=⟨x.id,x.fr,x.dst,x.dep,x.arr,prs x.la,prs x.lc,x.most⟩
theorem zfy (l:List ByteArray)(i:Nat):hd (l.drop i)=wd l i:=by
 unfold hd wd;rw[List.headD_eq_head?_getD,List.head?_drop,List.getD_eq_getElem?_getD]
theorem zhB (b:Nat)(l:List ByteArray)(i:Nat)(w:World)(h:WSt w b (l.drop i)) :
  Calls Tryz.prog 51 #[.pointer (some ⟨b,0,none⟩)] w fun e w'=>e=.returned (.string (wd l i))/\Hid (WSt w' b (l.drop (i+1)))/\zA w w' (fun k=>k=b):=by
 have c:=zfu b (l.drop i) w h;rw[zfy,List.tail_drop] at c;exact c
theorem name_at (b:Nat)(l:List ByteArray)(i:Nat)(w:World)(h:WSt w b (l.drop i))(hl:(wd l i).size<=1048576) :
  Calls Tryz.prog 53 #[.pointer (some ⟨b,0,none⟩)] w fun e w'=>e=.returned (.string (wd l i))/\Hid (WSt w' b (l.drop (i+1)))/\zA w w' (fun k=>k=b):=by
 have c:=name_hd b (l.drop i) w h (by rw[zfy];exact hl)
 rw[zfy,List.tail_drop] at c;exact c
theorem zce (b:Nat)(l:List ByteArray)(i:Nat)(w:World)(h:WSt w b (l.drop i))(a:PowAt w)(d:4≠b) :
  Calls Tryz.prog 52 #[.pointer (some ⟨b,0,none⟩)] w fun e w'=>e=.returned (int i64 (zI (wd l i)))/\Hid (WSt w' b (l.drop (i+1)))/\zA w w' (fun k=>k=b):=by
 have c:=zcc b (l.drop i) w h a d;rw[zfy,List.tail_drop] at c;exact c
theorem zhC {l:List ByteArray}(hl:∀ q,q ∈ l->q.size<=1048576)(i:Nat):(wd l i).size<=1048576:=by
 unfold wd;rw[List.getD_eq_getElem?_getD]
 cases h:l[i]? with
 | none=>exact Nat.zero_le _
 | some q=>exact hl q (List.mem_of_getElem? h)
structure SIn (w a:World)(b d c:Nat)(x:SRc)(L:List ByteArray):Prop where
 r:a.heap[d]?=some (.cells #[int i64 0,.string ⟨#[]⟩,.string ⟨#[]⟩,int i64 0,int i64 0,.slice none 0 0,.slice none 0 0,int i64 0] 37 (0,0))
 o:a.heap[c]?=some (.cells x.cs 37 (0,0))
 ws:WSt a b L
 ne:d≠c
 lo:w.heap.size<=d/\w.heap.size<=c
 la:a.ownsRow w.heap.size 106 2 x.vl x.la.length (zG (prs x.la))
 ca:a.ownsRow w.heap.size 110 2 x.vc x.lc.length (zG (prs x.lc))
 kept:zA w a (fun g=>g=b)
section
variable {w wx wy : World} {b rb ob : Nat} {x : SRc} {L L' : List ByteArray}
theorem SIn.below (h:SIn w wx b rb ob x L)(a:Below wx.heap.size wx wy):SIn w wy b rb ob x L :=
 ⟨zc h.r a,zc h.o a,h.ws.below a,h.ne,h.lo,zm a h.la,zm a h.ca,h.kept.trans (zA.of_below a)⟩
theorem SIn.words (h:SIn w wx b rb ob x L)(d:WSt wy b L')(a:zA wx wy (fun g=>g=b)):SIn w wy b rb ob x L':=by
 obtain⟨_,_,c,_⟩:=id h.ws;exact⟨a.blk h.r (QT h.ws h.r (by decide)),a.blk h.o (QT h.ws h.o (by decide)),d,h.ne,h.lo,a.own h.la (Zt h.la c (by decide)),a.own h.ca (Zt h.ca c (by decide)),h.kept.trans a⟩
theorem SIn.store (h:SIn w wx b rb ob x L)(i:Nat)(u:Value)(y:SRc)(j:y.cs=x.cs.setIfInBounds i u)(hl:wx.ownsRow w.heap.size 106 2 y.vl y.la.length (zG (prs y.la)))(f:wx.ownsRow w.heap.size 110 2 y.vc y.lc.length (zG (prs y.lc))):SIn w (wx.setCell ⟨ob,i,none⟩ u) b rb ob y L:=by
 have d:zA wx (wx.setCell ⟨ob,i,none⟩ u) (fun g=>g=ob):=(zA.refl wx (fun g=>g=ob)).set (a:=⟨ob,i,none⟩) rfl u
 refine⟨d.blk h.r h.ne,?_,?_,h.ne,h.lo,d.own hl (Zt hl h.o (by decide)),d.own f (Zt f h.o (by decide)),?_⟩
 ·rw[j]
  exact zy h.o i u
 ·refine h.ws.kept d (fun e=>QT h.ws h.o (by decide) e.symm) (fun g cur c e=>?_)
  have e:g=ob:=e;rw[e,h.o] at c;simp only[Option.some.injEq,Obj.cells.injEq] at c;exact absurd c.2.1 (by decide)
 ·refine⟨h.kept.os,h.kept.tape,h.kept.output,by rw[World.size_setCell];exact h.kept.size,fun g c hn=>?_⟩
  rw[d.block g (by have:=h.kept.size;omega) (fun e=>by have e:g=ob:=e;have:=h.lo.2;omega)]
  exact h.kept.block g c hn
theorem SIn.done {z:World}(h:SIn w wx b rb ob x L)(a:zA wx z (fun g=>g=rb)):z.ownsRow w.heap.size 106 2 x.vl x.la.length (zG (prs x.la))/\z.ownsRow w.heap.size 110 2 x.vc x.lc.length (zG (prs x.lc))/\zA w z (fun g=>g=b):=by
 refine⟨a.own h.la (Zt h.la h.r (by decide)),a.own h.ca (Zt h.ca h.r (by decide)),⟨a.os.trans h.kept.os,a.tape.trans h.kept.tape,a.output.trans h.kept.output,Nat.le_trans h.kept.size a.size,fun g c hn=>?_⟩⟩
 rw[a.block g (by have:=h.kept.size;omega) (fun e=>by have e:g=rb:=e;have:=h.lo.1;omega)]
 exact h.kept.block g c hn
end
theorem zfz (b:Nat)(l:List ByteArray)(w:World)(hl:∀ q,q ∈ l->q.size<=1048576)(h:WSt w b l)(hP:PowAt w)(G:4≠b) :
  Calls Tryz.prog 28 #[.pointer (some ⟨b,0,none⟩)] w fun e w'=>∃ x:SRc,e=.returned (.agg x.cs)/\w'.ownsRow w.heap.size 106 2 x.vl x.la.length (zG (prs x.la))/\w'.ownsRow w.heap.size 110 2 x.vc x.lc.length (zG (prs x.lc))/\Hid (x.d=readS l x.la x.lc/\PRd (wd l 7) x.la/\PRd (wd l 8) x.lc)/\zA w w' (fun g=>g=b):=by
 have t:Hid (∀ wx,zA w wx (fun g=>g=b)->PowAt wx):=fun wx f=>zfs (S:=fun g=>g=b) hP f G
 have P:Hid (∀ i,(wd l i).size<=1048576):=fun i=>zhC hl i
 have hr:=heap_alloc_new w (.cells #[int i64 0,.string ⟨#[]⟩,.string ⟨#[]⟩,int i64 0,int i64 0,.slice none 0 0,.slice none 0 0,int i64 0] 37);have R:Below w.heap.size w (w.alloc (.cells #[int i64 0,.string ⟨#[]⟩,.string ⟨#[]⟩,int i64 0,int i64 0,.slice none 0 0,.slice none 0 0,int i64 0] 37)):=zr bZ _;have Q:=hI (h.below R);clear h hP hl;go_enter Tryz.func28,Tryz.ntmps28;go_upto_region 1 with fail;generalize w.alloc (.cells #[int i64 0,.string ⟨#[]⟩,.string ⟨#[]⟩,int i64 0,int i64 0,.slice none 0 0,.slice none 0 0,int i64 0] 37)=W at hr R Q ⊢;have a3:zA w W (fun g=>g=b):=zA.of_below R
 go_wp2_with fail;refine(zhB b l 0 _ Q.out).mono ?_;rintro e U ⟨rfl,a1,Y⟩;have a5:¬ w.heap.size=b:=QT Q.out hr (by decide)
 have a0:=Y.blk hr a5;have a2:=a3.trans Y;have V:=zZ a0;clear hr R Q a3 Y a5;have b3:=heap_alloc_new U (.cells #[int i64 0,.string ⟨#[]⟩,.string ⟨#[]⟩,int i64 0,int i64 0,.slice none 0 0,.slice none 0 0,int i64 0] 37);have p3:Below U.heap.size U (U.alloc (.cells #[int i64 0,.string ⟨#[]⟩,.string ⟨#[]⟩,int i64 0,int i64 0,.slice none 0 0,.slice none 0 0,int i64 0] 37)):=zr bZ _;have r:Hid (SIn w (U.alloc (.cells #[int i64 0,.string ⟨#[]⟩,.string ⟨#[]⟩,int i64 0,int i64 0,.slice none 0 0,.slice none 0 0,int i64 0] 37)) b w.heap.size U.heap.size ⟨0,⟨#[]⟩,⟨#[]⟩,0,0,.slice none 0 0,.slice none 0 0,[],[],0⟩ (l.drop 1)) :=
  ⟨zc a0 p3,b3,a1.out.below p3,by omega,⟨Nat.le_refl _,by omega⟩,World.ownsRow_nil _ _ _ _,World.ownsRow_nil _ _ _ _,a2.trans (zA.of_below p3)⟩
 clear a0 a2 b3 p3 a1;go_upto_region 3 with fail;generalize U.alloc (.cells #[int i64 0,.string ⟨#[]⟩,.string ⟨#[]⟩,int i64 0,int i64 0,.slice none 0 0,.slice none 0 0,int i64 0] 37)=W0 at r ⊢;generalize U.heap.size=j at r V ⊢;clear U W;generalize w.heap.size=T at r V ⊢;go_wp2_with fail;refine(zce b l 1 _ r.out.ws (t.out _ r.out.kept) G).mono ?_;rintro e v0 ⟨rfl,k,f⟩;have a:=hI (r.out.words k.out f);have d:=a.out.o;have s:=za d 0 _ rfl;have p:=zg d 0;have K:Hid (SIn w (v0.setCell ⟨j,0,none⟩ (int i64 (zI (wd l 1)))) b T j ⟨(zI (wd l 1)),⟨#[]⟩,⟨#[]⟩,0,0,(.slice none 0 0),(.slice none 0 0),[],[],0⟩ (l.drop 2)):=a.out.store 0 (int i64 (zI (wd l 1))) ⟨(zI (wd l 1)),⟨#[]⟩,⟨#[]⟩,0,0,(.slice none 0 0),(.slice none 0 0),[],[],0⟩ rfl a.out.la a.out.ca;clear d a k f r;go_upto_region 4 with fail;generalize v0.setCell ⟨j,0,none⟩ (int i64 (zI (wd l 1)))=W1 at K ⊢;clear s p;go_wp2_with fail;refine(name_at b l 2 _ K.out.ws (P.out 2)).mono ?_;rintro e v1 ⟨rfl,k,f⟩;have a:=hI (K.out.words k.out f);have d:=a.out.o;have s:=za d 1 _ rfl;have p:=zg d 1;have L:Hid (SIn w (v1.setCell ⟨j,1,none⟩ (.string (wd l 2))) b T j ⟨(zI (wd l 1)),(wd l 2),⟨#[]⟩,0,0,(.slice none 0 0),(.slice none 0 0),[],[],0⟩ (l.drop 3)):=a.out.store 1 (.string (wd l 2)) ⟨(zI (wd l 1)),(wd l 2),⟨#[]⟩,0,0,(.slice none 0 0),(.slice none 0 0),[],[],0⟩ rfl a.out.la a.out.ca;clear d a k f K;go_upto_region 5 with fail;generalize v1.setCell ⟨j,1,none⟩ (.string (wd l 2))=W2 at L ⊢;clear s p;go_wp2_with fail;refine(name_at b l 3 _ L.out.ws (P.out 3)).mono ?_;rintro e v2 ⟨rfl,k,f⟩;have a:=hI (L.out.words k.out f);have d:=a.out.o;have s:=za d 2 _ rfl;have p:=zg d 2;have B:Hid (SIn w (v2.setCell ⟨j,2,none⟩ (.string (wd l 3))) b T j ⟨(zI (wd l 1)),(wd l 2),(wd l 3),0,0,(.slice none 0 0),(.slice none 0 0),[],[],0⟩ (l.drop 4)):=a.out.store 2 (.string (wd l 3)) ⟨(zI (wd l 1)),(wd l 2),(wd l 3),0,0,(.slice none 0 0),(.slice none 0 0),[],[],0⟩ rfl a.out.la a.out.ca;clear d a k f L;go_upto_region 6 with fail;generalize v2.setCell ⟨j,2,none⟩ (.string (wd l 3))=W3 at B ⊢;clear s p;go_wp2_with fail;refine(zce b l 4 _ B.out.ws (t.out _ B.out.kept) G).mono ?_;rintro e v3 ⟨rfl,k,f⟩;have a:=hI (B.out.words k.out f);have d:=a.out.o;have s:=za d 3 _ rfl;have p:=zg d 3;have C:Hid (SIn w (v3.setCell ⟨j,3,none⟩ (int i64 (zI (wd l 4)))) b T j ⟨(zI (wd l 1)),(wd l 2),(wd l 3),(zI (wd l 4)),0,(.slice none 0 0),(.slice none 0 0),[],[],0⟩ (l.drop 5)):=a.out.store 3 (int i64 (zI (wd l 4))) ⟨(zI (wd l 1)),(wd l 2),(wd l 3),(zI (wd l 4)),0,(.slice none 0 0),(.slice none 0 0),[],[],0⟩ rfl a.out.la a.out.ca;clear d a k f B;go_upto_region 7 with fail;generalize v3.setCell ⟨j,3,none⟩ (int i64 (zI (wd l 4)))=W4 at C ⊢;clear s p;go_wp2_with fail;refine(zce b l 5 _ C.out.ws (t.out _ C.out.kept) G).mono ?_;rintro e v4 ⟨rfl,k,f⟩;have a:=hI (C.out.words k.out f);have d:=a.out.o;have s:=za d 4 _ rfl;have p:=zg d 4;have D:Hid (SIn w (v4.setCell ⟨j,4,none⟩ (int i64 (zI (wd l 5)))) b T j ⟨(zI (wd l 1)),(wd l 2),(wd l 3),(zI (wd l 4)),(zI (wd l 5)),(.slice none 0 0),(.slice none 0 0),[],[],0⟩ (l.drop 6)):=a.out.store 4 (int i64 (zI (wd l 5))) ⟨(zI (wd l 1)),(wd l 2),(wd l 3),(zI (wd l 4)),(zI (wd l 5)),(.slice none 0 0),(.slice none 0 0),[],[],0⟩ rfl a.out.la a.out.ca;clear d a k f C;go_upto_region 8 with fail;generalize v4.setCell ⟨j,4,none⟩ (int i64 (zI (wd l 5)))=W5 at D ⊢;clear s p;go_wp2_with fail;refine(zce b l 6 _ D.out.ws (t.out _ D.out.kept) G).mono ?_;rintro e v5 ⟨rfl,k,f⟩;have a:=hI (D.out.words k.out f);have d:=a.out.o;have s:=za d 7 _ rfl;have p:=zg d 7;have M:Hid (SIn w (v5.setCell ⟨j,7,none⟩ (int i64 (zI (wd l 6)))) b T j ⟨(zI (wd l 1)),(wd l 2),(wd l 3),(zI (wd l 4)),(zI (wd l 5)),(.slice none 0 0),(.slice none 0 0),[],[],(zI (wd l 6))⟩ (l.drop 7)):=a.out.store 7 (int i64 (zI (wd l 6))) ⟨(zI (wd l 1)),(wd l 2),(wd l 3),(zI (wd l 4)),(zI (wd l 5)),(.slice none 0 0),(.slice none 0 0),[],[],(zI (wd l 6))⟩ rfl a.out.la a.out.ca;clear d a k f D;go_upto_region 9 with fail;generalize v5.setCell ⟨j,7,none⟩ (int i64 (zI (wd l 6)))=W6 at M ⊢;clear s p;go_wp2_with fail;refine(zhB b l 7 _ M.out.ws).mono ?_;rintro e z6 ⟨rfl,k,f⟩;have I:=hI (M.out.words k.out f);clear k f M;go_wp2_with fail;refine(zdS (wd l 7) _ (P.out 7) (t.out _ I.out.kept)).mono ?_;rintro e v6 ⟨vv,m,rfl,Z,J,H⟩;have a:=hI (I.out.below H);have z:=hI (zE Z I.out.kept.size);obtain⟨u,y,rfl,_⟩:=zt Z;clear Z H I;have d:=a.out.o;have s:=za d 5 _ rfl;have p:=zg d 5;have N:Hid (SIn w (v6.setCell ⟨j,5,none⟩ (.slice u m.length y)) b T j ⟨(zI (wd l 1)),(wd l 2),(wd l 3),(zI (wd l 4)),(zI (wd l 5)),(.slice u m.length y),(.slice none 0 0),m,[],(zI (wd l 6))⟩ (l.drop 8)):=a.out.store 5 (.slice u m.length y) ⟨(zI (wd l 1)),(wd l 2),(wd l 3),(zI (wd l 4)),(zI (wd l 5)),(.slice u m.length y),(.slice none 0 0),m,[],(zI (wd l 6))⟩ rfl z.out a.out.ca;clear d a z;go_upto_region 10 with fail;generalize v6.setCell ⟨j,5,none⟩ (.slice u m.length y)=W7 at N ⊢;clear s p;go_wp2_with fail;refine(zhB b l 8 _ N.out.ws).mono ?_;rintro e z7 ⟨rfl,k,f⟩;have I:=hI (N.out.words k.out f);clear k f N;go_wp2_with fail;refine(zdG (wd l 8) _ (P.out 8) (t.out _ I.out.kept)).mono ?_;rintro e v7 ⟨vv,o,rfl,Z,A,H⟩;have a:=hI (I.out.below H);have z:=hI (zE Z I.out.kept.size);obtain⟨E,F,rfl,_⟩:=zt Z;clear Z H I;have d:=a.out.o;have s:=za d 6 _ rfl;have p:=zg d 6;have O:Hid (SIn w (v7.setCell ⟨j,6,none⟩ (.slice E o.length F)) b T j ⟨(zI (wd l 1)),(wd l 2),(wd l 3),(zI (wd l 4)),(zI (wd l 5)),(.slice u m.length y),(.slice E o.length F),m,o,(zI (wd l 6))⟩ (l.drop 9)):=a.out.store 6 (.slice E o.length F) ⟨(zI (wd l 1)),(wd l 2),(wd l 3),(zI (wd l 4)),(zI (wd l 5)),(.slice u m.length y),(.slice E o.length F),m,o,(zI (wd l 6))⟩ rfl a.out.la z.out;clear d a z;go_upto_region 11 with fail;generalize v7.setCell ⟨j,6,none⟩ (.slice E o.length F)=W8 at O ⊢;clear s p;have a8:Hid (SRc.d ⟨(zI (wd l 1)),(wd l 2),(wd l 3),(zI (wd l 4)),(zI (wd l 5)),(.slice u m.length y),(.slice E o.length F),m,o,(zI (wd l 6))⟩=readS l m o/\PRd (wd l 7) m/\PRd (wd l 8) o):=⟨rfl,J.out,A.out⟩;have c:=O.out.r;have n:W8.heap[j]?=some (.cells #[int i64 (zI (wd l 1)),.string (wd l 2),.string (wd l 3),int i64 (zI (wd l 4)),int i64 (zI (wd l 5)),.slice u m.length y,.slice E o.length F,int i64 (zI (wd l 6))] 37 (0,0)):=O.out.o;have s0:=za c 0 _ rfl;have g0:=zg c 0;have p0:=za n 0 _ rfl;have s1:=za c 1 _ rfl;have g1:=zg c 1;have p1:=za n 1 _ rfl;have s2:=za c 2 _ rfl;have g2:=zg c 2;have p2:=za n 2 _ rfl;have s3:=za c 3 _ rfl;have g3:=zg c 3;have p3:=za n 3 _ rfl;have s4:=za c 4 _ rfl;have g4:=zg c 4;have p4:=za n 4 _ rfl;have s5:=za c 5 _ rfl;have p:=zg c 5;have p5:=za n 5 _ rfl;have s6:=za c 6 _ rfl;have g6:=zg c 6;have p6:=za n 6 _ rfl;have s7:=za c 7 _ rfl;have g7:=zg c 7;have p7:=za n 7 _ rfl;have rF:=box_8 c (int i64 (zI (wd l 1))) (.string (wd l 2)) (.string (wd l 3)) (int i64 (zI (wd l 4))) (int i64 (zI (wd l 5))) (.slice u m.length y) (.slice E o.length F) (int i64 (zI (wd l 6)));have X:Hid _:=O.out.done (keep_8 W8 T (int i64 (zI (wd l 1))) (.string (wd l 2)) (.string (wd l 3)) (int i64 (zI (wd l 4))) (int i64 (zI (wd l 5))) (.slice u m.length y) (.slice E o.length F) (int i64 (zI (wd l 6))));clear c n;go_wp2;obtain⟨t0,t1,t2,t3,t4,t5,t6,t7⟩:=ce8 rF;refine bodyPost_ret (v:=.agg #[int i64 (zI (wd l 1)),.string (wd l 2),.string (wd l 3),int i64 (zI (wd l 4)),int i64 (zI (wd l 5)),.slice u m.length y,.slice E o.length F,int i64 (zI (wd l 6))]) (by simp[results,Tryz.results28,go_sem,t0,t1,t2,t3,t4,t5,t6,t7]) rfl ?_
 exact⟨⟨(zI (wd l 1)),(wd l 2),(wd l 3),(zI (wd l 4)),(zI (wd l 5)),(.slice u m.length y),(.slice E o.length F),m,o,(zI (wd l 6))⟩,rfl,X.out.1,X.out.2.1,a8,X.out.2.2⟩
end
structure SOut (s:ByteArray)(w w':World)(y:Sail)(vl vc:Value)(ok:Bool):Prop where
 ans:AnsS s y ok
 la:w'.ownsRow w.heap.size 106 2 vl y.la.n (zG y.la)
 ca:w'.ownsRow w.heap.size 110 2 vc y.ca.n (zG y.ca)
 bel:Below w.heap.size w w'
def SPost (s:ByteArray)(w:World)(e:Ending)(w':World):Prop:=∃ y vl vc ok,e=.returned (.tuple #[.agg #[int i64 y.id,.string y.fr,.string y.dst,int i64 y.dep,int i64 y.arr,vl,vc,int i64 y.most],.bool ok])/\SOut s w w' y vl vc ok
theorem ziG {p:UInt8}{s q:ByteArray}{l:List ByteArray}(h:Q2 p s l)(c:q ∈ l.tail):q.size+1<=s.size:=by
 cases l with
 | nil=>simp at c
 | cons a r =>
  cases r with
  | nil=>simp at c
  | cons b r =>
   have d:=h.list.2.1;simp only[List.map_cons] at d;rw[zaN] at d;have h2:=zfv p (b.data.toList :: r.map (·.data.toList)) q.data.toList (by
    have c:q ∈ b :: r:=c;rw[← List.map_cons (f:=fun x:ByteArray=>x.data.toList)]
    exact List.mem_map.2 ⟨q,c,rfl⟩)
   have e:=congrArg List.length d;simp only[List.length_append,List.length_cons] at e;have e1:q.data.toList.length=q.size:=Array.length_toList;have e2:s.data.toList.length=s.size:=Array.length_toList
   omega
theorem prd_few {s:ByteArray}{l m:List ByteArray}{i:Nat}(h:Q2 32 s l)(hs:s.size<=1048576)(a:PRd (wd l (i+1)) m):m.length<=1048576:=by
 have h1:=a.1;have h2:(wd l (i+1)).size+1<=1048576:=by
  unfold wd;rw[List.getD_eq_getElem?_getD]
  cases hq:l[i+1]? with
  | none=>show 0+1<=1048576;omega
  | some q =>
   have:q ∈ l.tail:=by
    refine List.mem_of_getElem? (i:=i) ?_;rw[List.getElem?_tail];exact hq
   have:=ziG h this
   show q.size+1<=1048576
   omega
 omega
theorem zfA (s:ByteArray)(w:World)(hs:s.size<=1048576)(hP:PowAt w)(hL:zaT w) :
  Calls Tryz.prog 12 #[.string s] w fun e w'=>SPost s w e w':=by
 have HT:Hid (PowAt w/\zaT w):=⟨hP,hL⟩;have b8:4<w.heap.size:=by
  have h:=hP;unfold PowAt Lib.TabIs World.var? at h;rw[Tryz.gPow] at h;simp only[Option.bind_some] at h
  rcases Nat.lt_or_ge 4 w.heap.size with h'|h'
  ·exact h'
  ·rw[Array.getElem?_eq_none h'] at h;simp at h
 clear hP hL;have hr:=heap_alloc_new w (.cells #[int i64 0,.string ⟨#[]⟩,.string ⟨#[]⟩,int i64 0,int i64 0,.slice none 0 0,.slice none 0 0,int i64 0] 37);have B:Below w.heap.size w (w.alloc (.cells #[int i64 0,.string ⟨#[]⟩,.string ⟨#[]⟩,int i64 0,int i64 0,.slice none 0 0,.slice none 0 0,int i64 0] 37)):=zr bZ _;go_enter Tryz.func12,Tryz.ntmps12;go_upto_region 1 with fail;generalize w.alloc (.cells #[int i64 0,.string ⟨#[]⟩,.string ⟨#[]⟩,int i64 0,int i64 0,.slice none 0 0,.slice none 0 0,int i64 0] 37)=W at hr B ⊢;have c6:=B.size;go_wp2_with fail;refine(zdB s _ hs).mono ?_;rintro e w1 ⟨b,l,rfl,b7,c,C⟩;have m:=zj B C;have X:=zc hr C;have HL:Hid (∀ q,q ∈ l->q.size<=1048576):=fun q hq=>by have:=zdd c.out.2.1 q hq;omega
 have c3:=C.size;go_wp2_with fail;refine(zfz b l _ HL.out c.out.1 (HT.out.1.below m) (by omega)).mono ?_
 rintro e t ⟨x,rfl,F,E,a,D⟩;have Z:¬ w.heap.size=b:=by have:=zZ hr;omega
 have G:=D.blk X Z;have U:Below w.heap.size w t:=zA.below m m.size D (fun k e=>by have e:k=b:=e;omega)
 have b9:x.la.length<=1048576:=prd_few (i:=6) c.out.2.1 hs a.out.2.1;have c0:x.lc.length<=1048576:=prd_few (i:=7) c.out.2.1 hs a.out.2.2;have P:Hid (x.fr.size<=1000000000000000/\x.dst.size<=1000000000000000):=by
  have e:=a.out.1;have e1:x.fr=wd l 2:=congrArg Sail.fr e;have e2:x.dst=wd l 3:=congrArg Sail.dst e;have w1:=zhC HL.out 2;have t:=zhC HL.out 3
  show x.fr.size<=_/\x.dst.size<=_
  rw[e1,e2]
  omega
 have a9:Hid (¬ (zU x.d/\QS x.d=s)->AnsS s Sail.zero false):=fun hn=>ans_not c.out.2.1 a.out.2.1 a.out.2.2 (by rw[← a.out.1];exact hn)
 have Q:Hid (t.ownsRow w.heap.size 106 2 x.vl x.la.length (zG (prs x.la))/\t.ownsRow w.heap.size 110 2 x.vc x.lc.length (zG (prs x.lc))):=⟨zE F m.size,zE E m.size⟩;obtain⟨d,g,I,a0,a5,a7⟩:=zt F;obtain⟨f,j,J,a3,a6,a8⟩:=zt E;have HV:Hid (x.vl=.slice d x.la.length g/\x.vc=.slice f x.lc.length j):=⟨I,J⟩;have S:x.cs=#[int i64 x.id,.string x.fr,.string x.dst,int i64 x.dep,int i64 x.arr,.slice d x.la.length g,.slice f x.lc.length j,int i64 x.most]:=by unfold SRc.cs;rw[I,J]
 rw[S];clear hr B C m X c3 c HL a D Z F E I J S b7 b8 a0 a5 a7 a3 a6 a8;have b3:=heap_alloc_new t (.cells #[int i64 x.id,.string x.fr,.string x.dst,int i64 x.dep,int i64 x.arr,.slice d x.la.length g,.slice f x.lc.length j,int i64 x.most] 37);have M:Below t.heap.size t (t.alloc (.cells #[int i64 x.id,.string x.fr,.string x.dst,int i64 x.dep,int i64 x.arr,.slice d x.la.length g,.slice f x.lc.length j,int i64 x.most] 37)):=zr bZ _;go_upto_region 2 with fail;generalize t.alloc (.cells #[int i64 x.id,.string x.fr,.string x.dst,int i64 x.dep,int i64 x.arr,.slice d x.la.length g,.slice f x.lc.length j,int i64 x.most] 37)=N at b3 M ⊢;have z:=zj U M;have Y:=zc G M;have r:Hid (N.ownsRow w.heap.size 106 2 (.slice d x.la.length g) x.la.length (zG (prs x.la))/\N.ownsRow w.heap.size 110 2 (.slice f x.lc.length j) x.lc.length (zG (prs x.lc))):=by
  have h:=Q.out;rw[HV.out.1,HV.out.2] at h;exact⟨zm M h.1,zm M h.2⟩
 have c4:=zZ G;obtain⟨y0,y1,y2,y3,y4,y5,y6,y7⟩:=ce8 b3;have ct:Calls Tryz.prog 10 #[.agg #[int i64 x.id,.string x.fr,.string x.dst,int i64 x.dep,int i64 x.arr,.slice d x.la.length g,.slice f x.lc.length j,int i64 x.most]] N fun e w'=>e=.returned (.tuple #[.string (zfp x.d),.bool (zdv x.d)])/\Below N.heap.size N w':=zaM x.d d f g j N P.out.1 P.out.2 b9 c0 (pairs_of_own (p:=prs x.la) r.out.1) (pairs_of_own (p:=prs x.lc) r.out.2) (HT.out.1.below z) (HT.out.2.below z)
 generalize V:zfp x.d=T at ct;generalize hH:zdv x.d=H at ct;have y:Hid (zfp x.d=T/\zdv x.d=H):=⟨V,hH⟩;clear V hH;go_wp2_with fail;refine ct.mono ?_;clear ct;rintro e w4 ⟨rfl,n⟩;have A:=zj z n;have o:=zc Y n;have b4:=zc b3 n;have u:Hid (w4.ownsRow w.heap.size 106 2 (.slice d x.la.length g) x.la.length (zG (prs x.la))/\w4.ownsRow w.heap.size 110 2 (.slice f x.lc.length j) x.lc.length (zG (prs x.lc))):=⟨zm n r.out.1,zm n r.out.2⟩;clear y0 y1 y2 y3 y4 y5 y6 y7 U z G Y b3 M n Q r;have c5:¬ w.heap.size=t.heap.size:=by omega
 obtain⟨s0,s1,s2,s3,s4,s5,s6,s7⟩:=ce8 o;obtain⟨g0,g1,g2,g3,g4,g5,g6,g7⟩:=fe8 o
 by_cases hok:H=true/\T=s
 case neg =>
  have b6:Hid (AnsS s Sail.zero false):=a9.out (fun h=>hok (by
   have O:=zaw h.1;rw[y.out.1,y.out.2] at O;exact⟨O.2,by rw[O.1];exact h.2⟩))
  have rF:=box_8 o (int i64 0) (.string ⟨#[]⟩) (.string ⟨#[]⟩) (int i64 0) (int i64 0) (.slice none 0 0) (.slice none 0 0) (int i64 0);have L:=keep_8 w4 w.heap.size (int i64 0) (.string ⟨#[]⟩) (.string ⟨#[]⟩) (int i64 0) (int i64 0) (.slice none 0 0) (.slice none 0 0) (int i64 0);have b0:Hid (SOut s w _ Sail.zero (.slice none 0 0) (.slice none 0 0) false):=⟨b6.out,World.ownsRow_nil _ _ _ _,World.ownsRow_nil _ _ _ _,zA.below A A.size L (fun k e=>by have e:k=w.heap.size:=e;omega)⟩
  clear L;go_upto_region 3 with fail;go_cut [21] (fun v wx=>v=.bool true/\wx=w4)
  case first =>
   cases H with
   | false =>
    go_wp2;go_meet;exact⟨rfl,rfl⟩
   | true =>
    have V:T≠s:=fun e=>hok ⟨rfl,e⟩
    have et:(T.toList == s.toList)=false:=zaz.2 V;clear V hok;go_wp2;go_meet;exact⟨rfl,rfl⟩
  case rest =>
  obtain⟨rfl,K⟩:=hcut;have K:=K.symm;subst K;clear hok;go_wp2;obtain⟨t0,t1,t2,t3,t4,t5,t6,t7⟩:=ce8 rF;refine bodyPost_ret (v:=.tuple #[.agg #[int i64 0,.string ⟨#[]⟩,.string ⟨#[]⟩,int i64 0,int i64 0,.slice none 0 0,.slice none 0 0,int i64 0],.bool false]) (by simp[results,Tryz.results12,go_sem,t0,t1,t2,t3,t4,t5,t6,t7]) rfl ?_
  exact⟨Sail.zero,_,_,false,rfl,b0.out⟩
 case pos =>
  obtain⟨rfl,rfl⟩:=hok;have R:Hid (AnsS T x.d true):=by
   have O:zU x.d:=(zdw x.d).1 y.out.2;have h2:=(zaw O).1;rw[y.out.1] at h2;exact .inl ⟨rfl,O,h2.symm⟩
  have et:(T.toList == T.toList)=true:=by simp
  obtain⟨p0,p1,p2,M,p4,p5,p6,p7⟩:=ce8 b4;have rF:=box_8 o (int i64 x.id) (.string x.fr) (.string x.dst) (int i64 x.dep) (int i64 x.arr) (.slice d x.la.length g) (.slice f x.lc.length j) (int i64 x.most);have L:=keep_8 w4 w.heap.size (int i64 x.id) (.string x.fr) (.string x.dst) (int i64 x.dep) (int i64 x.arr) (.slice d x.la.length g) (.slice f x.lc.length j) (int i64 x.most);have b5:Hid (SOut T w _ x.d (.slice d x.la.length g) (.slice f x.lc.length j) true):=⟨R.out,L.own u.out.1 (Zt u.out.1 o (by decide)),L.own u.out.2 (Zt u.out.2 o (by decide)),zA.below A A.size L (fun k e=>by have e:k=w.heap.size:=e;omega)⟩
  clear L;go_wp2;obtain⟨t0,t1,t2,t3,t4,t5,t6,t7⟩:=ce8 rF;refine bodyPost_ret (v:=.tuple #[.agg #[int i64 x.id,.string x.fr,.string x.dst,int i64 x.dep,int i64 x.arr,.slice d x.la.length g,.slice f x.lc.length j,int i64 x.most],.bool true]) (by simp[results,Tryz.results12,go_sem,t0,t1,t2,t3,t4,t5,t6,t7]) rfl ?_
  exact⟨x.d,_,_,true,rfl,b5.out⟩
end Go.Proofs.YtfallpinmhbemaaGreatDoor
