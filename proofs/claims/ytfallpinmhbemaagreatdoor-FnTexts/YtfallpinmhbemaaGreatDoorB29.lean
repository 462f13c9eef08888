/-
  OWN TEXT: SpecFsh, SpecDop, PlainOs, DopN, KitR8.
-/
import Derived.Deep.DeepCutAuto
import Derived.Test.YtfallpinmhbemaaGreatDoorB28
namespace Go.Proofs.YtfallpinmhbemaaGreatDoor
open Go.RowKit
open Go.Value (int)
open Go.IntKind (i64)
set_option maxHeartbeats 64000000
set_option maxRecDepth 100000
def zdq (n:Nat)(S:Nat->ZK)(a:Int):Prop:=In a 1 9999/\∀ i,i<n->(S i).who≠a
theorem zhj (s r m:Option Addr)(N M R y v u:Nat)(x:Off)(g:Int)(w:World)(hR:R<=1048576)(z:ZU w m R x.bk) :
  Calls Tryz.prog 103 #[.agg #[.slice s N y,.slice r M v,.slice m R u],int i64 g] w fun e w'=>SaysIf (zdq R x.bk g) e/\Below w.heap.size w w':=by
 have C:=hI z;clear z;have F:Below w.heap.size w (w.alloc (.cells #[.slice s N y,.slice r M v,.slice m R u] 66)):=zr bZ _;go_enter Tryz.func103,Tryz.ntmps103;go_wp2;go_loopw [6,10] (fun _ i l=>∃ t:Nat,t<=R/\i=int i64 t/\Hid (∀ j,j<t->(x.bk j).who≠g)/\Below w.heap.size w l) (fun _ i _=>R - (intOf i).toNat)
 case atStart=>exact⟨0,Nat.zero_le _,rfl,(fun j Q=>by omega),F⟩
 case round =>
  obtain⟨t,ht,rfl,G,a⟩:=hrel
  by_cases hlt:t<R
  ·obtain⟨Cc,B,A⟩:=C.out
   obtain⟨f,off,rfl,k⟩:=B t hlt;obtain⟨E,D,n,P,S⟩:=A t hlt;obtain⟨b,o⟩:∃ b,b=x.bk t:=⟨_,rfl⟩;rw[← o] at n;have q:=hI o.symm;rw[n] at k;have d:=World.block_lt_of_cell? w _ (k 0 (by decide))
   have i0:(0:Int)<=(t:Int):=by omega
   have i1:(t:Int)<(R:Int):=by omega
   have c0:l.cell? ⟨f,off+t*13,none⟩=some (int i64 b.name):=(a.cell (p:=⟨f,off+t*13,none⟩) d).trans (k 0 (by decide))
   have c1:l.cell? ⟨f,off+t*13+1,none⟩=some (int i64 b.who):=(a.cell (p:=⟨f,off+t*13+1,none⟩) d).trans (k 1 (by decide))
   have c2:l.cell? ⟨f,off+t*13+2,none⟩=some (.string b.own):=(a.cell (p:=⟨f,off+t*13+2,none⟩) d).trans (k 2 (by decide))
   have c3:l.cell? ⟨f,off+t*13+3,none⟩=some (.slice E b.lgn D):=(a.cell (p:=⟨f,off+t*13+3,none⟩) d).trans (k 3 (by decide))
   have c4:l.cell? ⟨f,off+t*13+4,none⟩=some (int i64 b.pe):=(a.cell (p:=⟨f,off+t*13+4,none⟩) d).trans (k 4 (by decide))
   have c5:l.cell? ⟨f,off+t*13+5,none⟩=some (int i64 b.len):=(a.cell (p:=⟨f,off+t*13+5,none⟩) d).trans (k 5 (by decide))
   have c6:l.cell? ⟨f,off+t*13+6,none⟩=some (int i64 b.hei):=(a.cell (p:=⟨f,off+t*13+6,none⟩) d).trans (k 6 (by decide))
   have c7:l.cell? ⟨f,off+t*13+7,none⟩=some (int i64 b.cl):=(a.cell (p:=⟨f,off+t*13+7,none⟩) d).trans (k 7 (by decide))
   have c8:l.cell? ⟨f,off+t*13+8,none⟩=some (.bool b.all):=(a.cell (p:=⟨f,off+t*13+8,none⟩) d).trans (k 8 (by decide))
   have c9:l.cell? ⟨f,off+t*13+9,none⟩=some (int i64 b.be):=(a.cell (p:=⟨f,off+t*13+9,none⟩) d).trans (k 9 (by decide))
   have J:l.cell? ⟨f,off+t*13+10,none⟩=some (int i64 b.state):=(a.cell (p:=⟨f,off+t*13+10,none⟩) d).trans (k 10 (by decide))
   have K:l.cell? ⟨f,off+t*13+11,none⟩=some (int i64 b.unt):=(a.cell (p:=⟨f,off+t*13+11,none⟩) d).trans (k 11 (by decide))
   have L:l.cell? ⟨f,off+t*13+12,none⟩=some (int i64 b.price):=(a.cell (p:=⟨f,off+t*13+12,none⟩) d).trans (k 12 (by decide))
   clear k n P S B A o
   by_cases he:b.who=g
   ·have O:(b.who == g)=true:=by simpa using he
    have I:Hid (¬ zdq R x.bk g):=fun h=>h.2 t hlt (by rw[q.out];exact he)
    clear he;go_wp2;go_ret;exact⟨zC I.out,zr a _⟩
   ·have O:(b.who == g)=false:=by simpa using he
    have H:Hid (∀ j,j<t+1->(x.bk j).who≠g):=fun j Q=>by
     by_cases c:j=t
     ·rw[c,q.out];exact he
     ·exact G.out j (by omega)
    clear he;go_wp2;go_roundw
    case rel=>exact⟨t+1,by omega,by go_num,H.out,zr a _⟩
    case measure=>simp[intOf];omega
  ·obtain rfl:t=R:=by omega
   go_wp2_with (first|(go_at_call 119;refine sC (ZE _ _) ?_))
   go_ret;refine⟨⟨_,rfl,?_⟩,a⟩;rw[decide_eq_true_eq];exact⟨fun h=>⟨h,G.out⟩,fun h=>h.1⟩
def DopAns (x:Off)(a:Int)(y:OpD)(m base:Nat)(e:Ending)(w':World):Prop :=
 (Zy x/\zdq x.bkn x.bk a/\∃ x2 a1 c1 a2 c2 a3 c3 code name price rv L C A B D E,e=.returned (.tuple #[.agg #[.slice a1 x2.san c1,.slice a2 x2.ldn c2,.slice a3 x2.bkn c3],.agg #[int i64 code,int i64 name,int i64 price,rv],.bool true]) /\
  zV w' base (.slice a1 x2.san c1) (.slice a2 x2.ldn c2) (.slice a3 x2.bkn c3) x2.san x2.ldn x2.bkn x2 L C A B D E/\OpTo x a y m x2 code name price/\(rv=.slice none 0 0∨∃ M b,zbC { x with ld:=M } y b w' rv)) ∨
 (¬ (Zy x/\zdq x.bkn x.bk a)/\e=.returned (.tuple #[.agg #[.slice none 0 0,.slice none 0 0,.slice none 0 0],.agg #[int i64 0,int i64 0,int i64 0,.slice none 0 0],.bool false]))
theorem zhk (x:Off)(j f d i:Option Addr)(q o l p m:Nat)(s:Int)(y:OpD)(w:World)(hs:Off.Short x 1048576)(b6:SailsAt w j x.san x.sa)(a8:QE w f x.ldn x.ld)(a5:ZU w d x.bkn x.bk)(e4:x.bkn<=l)(a9:IntsAt w i y.lgn y.lg)(b7:SliceOk i y.lgn p)(hl:y.lgn<=1048576)(ho:y.own.size<=1048576)(hm:Qz y->In y.kind 4 8->y.name=(m:Int)+1/\m<=1048576) :
  Calls Tryz.prog 80 #[.agg #[.slice j x.san q,.slice f x.ldn o,.slice d x.bkn l],int i64 s,.agg #[int i64 y.kind,.string y.own,int i64 y.name,.slice i y.lgn p,int i64 y.pe,int i64 y.len,int i64 y.hei,int i64 y.cl,.bool y.all,int i64 y.be,int i64 y.unt,int i64 y.now]] w fun e w'=>DopAns x s y m w.heap.size e w'/\Below w.heap.size w w':=by
 have HS:=hI hs;have I:Hid (SailsAt w j x.san x.sa/\QE w f x.ldn x.ld/\ZU w d x.bkn x.bk/\IntsAt w i y.lgn y.lg/\SliceOk i y.lgn p):=⟨b6,a8,a5,a9,b7⟩;have HN:=hI hm;clear hs b6 a8 a5 a9 b7 hm;have a:Below w.heap.size w ((((w.alloc (.cells #[.slice j x.san q,.slice f x.ldn o,.slice d x.bkn l] 66)).alloc (.cells #[int i64 y.kind,.string y.own,int i64 y.name,.slice i y.lgn p,int i64 y.pe,int i64 y.len,int i64 y.hei,int i64 y.cl,.bool y.all,int i64 y.be,int i64 y.unt,int i64 y.now] 27)).alloc (.cells #[.slice none 0 0,.slice none 0 0,.slice none 0 0] 66)).alloc (.cells #[int i64 0,int i64 0,int i64 0,.slice none 0 0] 127)):=zr (zr (zr (zr bZ _) _) _) _;have P:=ze (ze (ze (heap_alloc_new w (.cells #[.slice j x.san q,.slice f x.ldn o,.slice d x.bkn l] 66)) (.cells #[int i64 y.kind,.string y.own,int i64 y.name,.slice i y.lgn p,int i64 y.pe,int i64 y.len,int i64 y.hei,int i64 y.cl,.bool y.all,int i64 y.be,int i64 y.unt,int i64 y.now] 27)) (.cells #[.slice none 0 0,.slice none 0 0,.slice none 0 0] 66)) (.cells #[int i64 0,int i64 0,int i64 0,.slice none 0 0] 127);have b1:=ze (ze (zcC w (.cells #[.slice j x.san q,.slice f x.ldn o,.slice d x.bkn l] 66) (.cells #[int i64 y.kind,.string y.own,int i64 y.name,.slice i y.lgn p,int i64 y.pe,int i64 y.len,int i64 y.hei,int i64 y.cl,.bool y.all,int i64 y.be,int i64 y.unt,int i64 y.now] 27)) (.cells #[.slice none 0 0,.slice none 0 0,.slice none 0 0] 66)) (.cells #[int i64 0,int i64 0,int i64 0,.slice none 0 0] 127);have b2:=ze (show(((w.alloc (.cells #[.slice j x.san q,.slice f x.ldn o,.slice d x.bkn l] 66)).alloc (.cells #[int i64 y.kind,.string y.own,int i64 y.name,.slice i y.lgn p,int i64 y.pe,int i64 y.len,int i64 y.hei,int i64 y.cl,.bool y.all,int i64 y.be,int i64 y.unt,int i64 y.now] 27)).alloc (.cells #[.slice none 0 0,.slice none 0 0,.slice none 0 0] 66)).heap[w.heap.size+1+1]?=some (.cells #[.slice none 0 0,.slice none 0 0,.slice none 0 0] 66 (0,0)) from by simpa using heap_alloc_new ((w.alloc (.cells #[.slice j x.san q,.slice f x.ldn o,.slice d x.bkn l] 66)).alloc (.cells #[int i64 y.kind,.string y.own,int i64 y.name,.slice i y.lgn p,int i64 y.pe,int i64 y.len,int i64 y.hei,int i64 y.cl,.bool y.all,int i64 y.be,int i64 y.unt,int i64 y.now] 27)) (.cells #[.slice none 0 0,.slice none 0 0,.slice none 0 0] 66)) (.cells #[int i64 0,int i64 0,int i64 0,.slice none 0 0] 127)
 have b3:((((w.alloc (.cells #[.slice j x.san q,.slice f x.ldn o,.slice d x.bkn l] 66)).alloc (.cells #[int i64 y.kind,.string y.own,int i64 y.name,.slice i y.lgn p,int i64 y.pe,int i64 y.len,int i64 y.hei,int i64 y.cl,.bool y.all,int i64 y.be,int i64 y.unt,int i64 y.now] 27)).alloc (.cells #[.slice none 0 0,.slice none 0 0,.slice none 0 0] 66)).alloc (.cells #[int i64 0,int i64 0,int i64 0,.slice none 0 0] 127)).heap[w.heap.size+1+1+1]?=some (.cells #[int i64 0,int i64 0,int i64 0,.slice none 0 0] 127 (0,0)):=by simpa using heap_alloc_new (((w.alloc (.cells #[.slice j x.san q,.slice f x.ldn o,.slice d x.bkn l] 66)).alloc (.cells #[int i64 y.kind,.string y.own,int i64 y.name,.slice i y.lgn p,int i64 y.pe,int i64 y.len,int i64 y.hei,int i64 y.cl,.bool y.all,int i64 y.be,int i64 y.unt,int i64 y.now] 27)).alloc (.cells #[.slice none 0 0,.slice none 0 0,.slice none 0 0] 66)) (.cells #[int i64 0,int i64 0,int i64 0,.slice none 0 0] 127)
 go_enter Tryz.func80,Tryz.ntmps80;go_wp2_with fail;generalize ((((w.alloc (.cells #[.slice j x.san q,.slice f x.ldn o,.slice d x.bkn l] 66)).alloc (.cells #[int i64 y.kind,.string y.own,int i64 y.name,.slice i y.lgn p,int i64 y.pe,int i64 y.len,int i64 y.hei,int i64 y.cl,.bool y.all,int i64 y.be,int i64 y.unt,int i64 y.now] 27)).alloc (.cells #[.slice none 0 0,.slice none 0 0,.slice none 0 0] 66)).alloc (.cells #[int i64 0,int i64 0,int i64 0,.slice none 0 0] 127))=W at a P b1 b2 b3 ⊢;refine(zhi x j f d q o l _ HS.out (I.out.1.below a) (I.out.2.1.below a) (I.out.2.2.1.below a) e4).mono ?_;rintro e V ⟨⟨t0,rfl,b8⟩,n⟩;have S:=hI b8;replace a:=zj a n;replace P:=zc P n;replace b1:=zc b1 n;replace b2:=zc b2 n;replace b3:=zc b3 n;clear n W b8;obtain⟨f0,f1,f2⟩:=ce3 P
 cases t0 with
 | false =>
  have HF:Hid (¬ (Zy x/\zdq x.bkn x.bk s)):=fun h=>by have:=S.out.2 h.1;cases this
  obtain⟨s0,s1,s2⟩:=ce3 b2;obtain⟨c1,c2,c3⟩:=fe3 b2;obtain⟨t0,t1,t2,t3⟩:=ce4 b3;obtain⟨c4,c5,c6,c7⟩:=fe4 b3;have U:=(zfK _ (w.heap.size+1+1) (.slice none 0 0) (.slice none 0 0) (.slice none 0 0)).blk b3 (by show ¬ _=_;omega)
  have q2:=zbI b2 (.slice none 0 0) (.slice none 0 0) (.slice none 0 0);have q3:=(QQ _ (w.heap.size+1+1+1) (int i64 0) (int i64 0) (int i64 0) (.slice none 0 0)).blk q2 (by show ¬ _=_;omega)
  have q4:=zeV U (int i64 0) (int i64 0) (int i64 0) (.slice none 0 0);have Q:Hid _:=zA.below (zA.below a a.size (zfK _ (w.heap.size+1+1) (.slice none 0 0) (.slice none 0 0) (.slice none 0 0)) (fun b e=>by have e:b=w.heap.size+1+1:=e;omega)) (by have:=a.size;simpa using this) (QQ _ (w.heap.size+1+1+1) (int i64 0) (int i64 0) (int i64 0) (.slice none 0 0)) (fun b e=>by have e:b=w.heap.size+1+1+1:=e;omega)
  go_wp2;obtain⟨x0,x1,k⟩:=ce3 q3;obtain⟨z0,z1,z2,z3⟩:=ce4 q4;exact bodyPost_ret (v:=.tuple #[.agg #[.slice none 0 0,.slice none 0 0,.slice none 0 0],.agg #[int i64 0,int i64 0,int i64 0,.slice none 0 0],.bool false]) (by simp[results,Tryz.results80,go_sem,x0,x1,k,z0,z1,z2,z3]) rfl ⟨.inr ⟨HF.out,rfl⟩,Q.out⟩
 | true =>
 have a0:Hid (Zy x):=S.out.1 rfl;clear S;go_wp2_with fail;refine(zhj j f d x.san x.ldn x.bkn q o l x s _ (by have:=HS.out.2.2.1;omega) (I.out.2.2.1.below a)).mono ?_
 rintro e V2 ⟨⟨t1,rfl,b9⟩,n⟩;have T:=hI b9;replace a:=zj a n;replace P:=zc P n;replace b1:=zc b1 n;replace b2:=zc b2 n;replace b3:=zc b3 n;clear n b9 f0 f1 f2 V
 cases t1 with
 | false =>
  have HF:Hid (¬ (Zy x/\zdq x.bkn x.bk s)):=fun h=>by have:=T.out.2 h.2;cases this
  obtain⟨s0,s1,s2⟩:=ce3 b2;obtain⟨c1,c2,c3⟩:=fe3 b2;obtain⟨t0,t1,t2,t3⟩:=ce4 b3;obtain⟨c4,c5,c6,c7⟩:=fe4 b3;have U:=(zfK _ (w.heap.size+1+1) (.slice none 0 0) (.slice none 0 0) (.slice none 0 0)).blk b3 (by show ¬ _=_;omega)
  have q2:=zbI b2 (.slice none 0 0) (.slice none 0 0) (.slice none 0 0);have q3:=(QQ _ (w.heap.size+1+1+1) (int i64 0) (int i64 0) (int i64 0) (.slice none 0 0)).blk q2 (by show ¬ _=_;omega)
  have q4:=zeV U (int i64 0) (int i64 0) (int i64 0) (.slice none 0 0);have Q:Hid _:=zA.below (zA.below a a.size (zfK _ (w.heap.size+1+1) (.slice none 0 0) (.slice none 0 0) (.slice none 0 0)) (fun b e=>by have e:b=w.heap.size+1+1:=e;omega)) (by have:=a.size;simpa using this) (QQ _ (w.heap.size+1+1+1) (int i64 0) (int i64 0) (int i64 0) (.slice none 0 0)) (fun b e=>by have e:b=w.heap.size+1+1+1:=e;omega)
  go_wp2;obtain⟨x0,x1,k⟩:=ce3 q3;obtain⟨z0,z1,z2,z3⟩:=ce4 q4;exact bodyPost_ret (v:=.tuple #[.agg #[.slice none 0 0,.slice none 0 0,.slice none 0 0],.agg #[int i64 0,int i64 0,int i64 0,.slice none 0 0],.bool false]) (by simp[results,Tryz.results80,go_sem,x0,x1,k,z0,z1,z2,z3]) rfl ⟨.inr ⟨HF.out,rfl⟩,Q.out⟩
 | true =>
 have R:Hid (zdq x.bkn x.bk s):=T.out.1 rfl;clear T;obtain⟨f0,f1,f2⟩:=ce3 P;obtain⟨h0,h1,Y,h3,h4,h5,h6,h7,h8,h9,d8,d9⟩:=ce12 b1;go_wp2_with fail;refine(l7Op_any x j f d i q o l p m s y _ HS.out (I.out.1.below a) (I.out.2.1.below a) (I.out.2.2.1.below a) (I.out.2.2.2.1.below a) I.out.2.2.2.2 hl ho a0.out R.out.1 R.out.2 HN.out).mono ?_;rintro e u ⟨⟨k,d1,J,d2,K,d3,N,code,name,price,rv,L,C,A,B,D,E,rfl,b5,c0,X⟩,O⟩;have d5:=hI (b5.lower a.size);have d7:=hI c0;obtain⟨F,H,G,rfl⟩:∃ F H G,rv=.slice F H G:=by
  rcases X with h|⟨M,b,h⟩
  ·exact⟨_,_,_,h⟩
  ·by_cases h9:y.kind=9
   ·obtain⟨_,_,_,h3⟩:=h.1 h9
    obtain⟨ao,c,e,_⟩:=zt h3;exact⟨ao,_,c,e⟩
   ·exact⟨none,0,0,h.2 h9⟩
 have d6:Hid _:=X;replace a:=zj a O;replace b2:=zc b2 O;replace b3:=zc b3 O;clear b5 c0 X O f0 f1 f2 h0 h1 Y h3 h4 h5 h6 h7 h8 h9 d8 d9 P b1 V2;have e0:w.heap.size+1+1+1<u.heap.size:=zZ b3;go_upto_region 4 with fail;have pA:=ze (heap_alloc_new u (.cells #[.slice d1 k.san J,.slice d2 k.ldn K,.slice d3 k.bkn N] 66)) (.cells #[int i64 code,int i64 name,int i64 price,.slice F H G] 127);have pB:=zcC u (.cells #[.slice d1 k.san J,.slice d2 k.ldn K,.slice d3 k.bkn N] 66) (.cells #[int i64 code,int i64 name,int i64 price,.slice F H G] 127);have t:Below u.heap.size u ((u.alloc (.cells #[.slice d1 k.san J,.slice d2 k.ldn K,.slice d3 k.bkn N] 66)).alloc (.cells #[int i64 code,int i64 name,int i64 price,.slice F H G] 127)):=zr (zr bZ _) _;have a1:Hid _:=d5.out.below t;have r2:=zc b2 t;have r3:=zc b3 t;have a6:=zj a t;have a2:=hI (zA.of_below t);generalize (u.alloc (.cells #[.slice d1 k.san J,.slice d2 k.ldn K,.slice d3 k.bkn N] 66)).alloc (.cells #[int i64 code,int i64 name,int i64 price,.slice F H G] 127)=wf at pA pB t a1 r2 r3 a6 a2 ⊢;generalize u.heap.size=r at pA pB e0 ⊢;have p0:=pA;have pT:=pB;have KS:Hid (∀ z:World,z.heap[r]?=some (.cells #[.slice d1 k.san J,.slice d2 k.ldn K,.slice d3 k.bkn N] 66 (0,0))->z.heap[r+1]?=some (.cells #[int i64 code,int i64 name,int i64 price,.slice F H G] 127 (0,0))->z.cell? ⟨r,0,none⟩=some (.slice d1 k.san J)/\z.cell? ⟨r,1,none⟩=some (.slice d2 k.ldn K)/\z.cell? ⟨r,2,none⟩=some (.slice d3 k.bkn N)/\z.cell? ⟨r+1,0,none⟩=some (int i64 code)/\z.cell? ⟨r+1,1,none⟩=some (int i64 name)/\z.cell? ⟨r+1,2,none⟩=some (int i64 price)/\z.cell? ⟨r+1,3,none⟩=some (.slice F H G)):=fun z h1 Y=>⟨za h1 0 _ rfl,za h1 1 _ rfl,za h1 2 _ rfl,za Y 0 _ rfl,za Y 1 _ rfl,za Y 2 _ rfl,za Y 3 _ rfl⟩
 obtain⟨s0,s1,s2⟩:=ce3 r2;obtain⟨c1,c2,c3⟩:=fe3 r2;obtain⟨t0,t1,t2,t3⟩:=ce4 r3;obtain⟨c4,c5,c6,c7⟩:=fe4 r3;go_region_held3 (fun w'=>w'.cell? ⟨r,0,none⟩=some (.slice d1 k.san J)/\w'.cell? ⟨r,1,none⟩=some (.slice d2 k.ldn K)/\w'.cell? ⟨r,2,none⟩=some (.slice d3 k.bkn N)/\w'.cell? ⟨r+1,0,none⟩=some (int i64 code)/\w'.cell? ⟨r+1,1,none⟩=some (int i64 name)/\w'.cell? ⟨r+1,2,none⟩=some (int i64 price)/\w'.cell? ⟨r+1,3,none⟩=some (.slice F H G))
  (first|(refine KS.out _ ?_ ?_ <;> (repeat(first|with_reducible exact p0|with_reducible exact pT|(with_reducible refine zF ?_)|(with_reducible refine zD ?_ _ _ ?_;rotate_left;(focus omega))))))
  (fail)
 obtain⟨Z,e5,e6,a3,a7⟩:=zes a6 a1.out r2 r3 (by omega) (by omega) (int i64 code) (int i64 name) (int i64 price) (.slice F H G) rfl
 have d0:Hid _:=Z.below (Below.drew bZ);have c8:Hid _:=Below.drew a3;have c9:Hid _:=a7.trans (zA.of_below (Below.drew bZ));clear Z a3 a7;obtain⟨x0,x1,e7⟩:=ce3 (zF e5);obtain⟨z0,z1,z2,z3⟩:=ce4 (zF e6);go_wp2;refine bodyPost_ret (v:=.tuple #[.agg #[.slice d1 k.san J,.slice d2 k.ldn K,.slice d3 k.bkn N],.agg #[int i64 code,int i64 name,int i64 price,.slice F H G],.bool true]) (by simp[results,Tryz.results80,go_sem,x0,x1,e7,z0,z1,z2,z3]) rfl ⟨.inl ⟨a0.out,R.out,k,d1,J,d2,K,d3,N,code,name,price,.slice F H G,L,C,A,B,D,E,rfl,?_,d7.out,?_⟩,c8.out⟩
 ·exact d0.out
 ·rcases d6.out with h|⟨M,b,h⟩
  ·exact .inl h
  ·exact .inr ⟨M,b,zgk h (a2.out.trans c9.out) (fun g e=>by rcases e with e|e;exact⟨_,_,by rw[e];exact b2,by decide⟩;exact⟨_,_,by rw[e];exact b3,by decide⟩)⟩
theorem zhl {x:Off}{M:Nat->qT}{n B:Nat}(hB:60<=B)(hn:n=x.san)(h:∀ i,i<x.san->qJ (x.sa i) (M i)):zci n M B:=fun i hi=>by
 have g:=h i (by omega)
 exact⟨by have:=((Ql _ _ _).1 g.1).2.1;show(M i).stn<=_;omega,by have:=g.2.1.2.1;show(M i).ron<=_;omega,by have:=g.2.2.2.1;show(M i).sen<=_;omega⟩
theorem zeZ.short {x:Off}{a:Int}{y:OpD}{m:Nat}{k:Off}{code name price:Int}{B:Nat}(h:zeZ x a y m k code name price)(o:Off.Short x B)(hB:60<=B)(j:y.own.size<=B)(hl:y.lgn<=3):Off.Short k B:=by
 obtain⟨d,e,b⟩:=o
 rcases h with⟨_,rfl,_⟩|⟨_,rfl,_⟩|⟨_,_,rfl,_⟩|⟨_,l,rfl,_⟩|⟨_,n,rfl,_⟩
 ·exact⟨d,e,b⟩
 ·exact⟨d,e,b⟩
 ·exact⟨d,e,b⟩
 ·refine⟨d,e,by show x.bkn+1<=B;omega,fun i g=>?_⟩
  by_cases c:i=x.bkn
  ·show ZK.Short (QC x.bk x.bkn (Qa x.bkn a y) i) B
   rw[c,Zn];exact⟨j,by show y.lgn<=B;omega⟩
  ·show ZK.Short (QC x.bk x.bkn (Qa x.bkn a y) i) B
   rw[Qr _ _ _ c];exact b.2 i (by have:i<x.bkn+1:=g;omega)
 ·refine⟨d,e,b.1,fun i g=>?_⟩
  show ZK.Short (QC x.bk m (qA (x.bk m) a y) i) B
  by_cases c:i=m
  ·rw[c,Zn]
   have f:=b.2 m n;unfold qA
   split
   ·exact f
   ·split
    ·exact⟨f.1,by show y.lgn<=B;omega⟩
    ·split
     ·exact f
     ·split
      ·exact⟨j,f.2⟩
      ·exact f
  ·rw[Qr _ _ _ c]
   exact b.2 i g
theorem OpTo.short {x:Off}{b:Int}{y:OpD}{m:Nat}{f:Off}{code name price:Int}{B:Nat}(h:OpTo x b y m f code name price)(j:Zy x)(a:Off.Short x B)(e:60<=B)(n:y.own.size<=B):Off.Short f B:=by
 rcases h with⟨_,rfl,_⟩|⟨_,_,rfl,_⟩|⟨l,M,x3,d,k,g,i⟩
 ·exact a
 ·exact a
 ·by_cases c:code≠0∨y.kind=1
  ·rw[g c];exact a
  ·rw[i c]
   exact k.short ⟨a.1,⟨a.2.1.1,zhl e j.2.1 d.good⟩,a.2.2⟩ e n (zhh l.1).2
theorem OpTo.few {x:Off}{d:Int}{y:OpD}{m:Nat}{b:Off}{code name price:Int}(h:OpTo x d y m b code name price)(i:Zy x):b.bkn<=30/\b.san=x.san/\b.sa=x.sa:=by
 have a:=i.2.2.1
 rcases h with⟨_,rfl,_⟩|⟨_,_,rfl,_⟩|⟨hf,M,x3,k,j,f,g⟩
 ·exact⟨a,rfl,rfl⟩
 ·exact⟨a,rfl,rfl⟩
 ·by_cases c:code≠0∨y.kind=1
  ·rw[f c];exact⟨a,rfl,rfl⟩
  ·rw[g c]
   rcases j with⟨_,rfl,_⟩|⟨_,rfl,_⟩|⟨_,_,rfl,_⟩|⟨_,e,rfl,_⟩|⟨_,_,rfl,_⟩
   ·exact⟨a,rfl,rfl⟩
   ·exact⟨a,rfl,rfl⟩
   ·exact⟨a,rfl,rfl⟩
   ·exact⟨by have e:x.bkn<30:=e;show x.bkn+1<=30;omega,rfl,rfl⟩
   ·exact⟨a,rfl,rfl⟩
def qv (base:Nat)(san:Nat)(b1 b2 b3:Option Addr)(m1 m2 m3 d1 d2 d3:Nat)(tb:Bool)(u:World):Prop :=
 tb=false∨∃ (a:Off) (L C A B D E:Nat->Value),m1=a.san/\m2=a.ldn/\m3=a.bkn/\a.san=san/\a.bkn<=30/\Off.Short a 1048576/\zV u base (.slice b1 m1 d1) (.slice b2 m2 d2) (.slice b3 m3 d3) a.san a.ldn a.bkn a L C A B D E
theorem qv.below {base san:Nat}{b1 b2 b3:Option Addr}{m1 m2 m3 d1 d2 d3:Nat}{tb:Bool}{u a:World}(h:qv base san b1 b2 b3 m1 m2 m3 d1 d2 d3 tb u)(i:Below u.heap.size u a):qv base san b1 b2 b3 m1 m2 m3 d1 d2 d3 tb a:=by
 rcases h with h|⟨j,L,C,A,B,D,E,b,c,d,e,f,g,h7⟩
 ·exact .inl h
 ·exact .inr ⟨j,L,C,A,B,D,E,b,c,d,e,f,g,h7.below i⟩
theorem qv.lower {base a san:Nat}{b1 b2 b3:Option Addr}{m1 m2 m3 d1 d2 d3:Nat}{tb:Bool}{u:World}(h:qv base san b1 b2 b3 m1 m2 m3 d1 d2 d3 tb u)(i:a<=base):qv a san b1 b2 b3 m1 m2 m3 d1 d2 d3 tb u:=by
 rcases h with h|⟨j,L,C,A,B,D,E,b,c,d,e,f,g,h7⟩
 ·exact .inl h
 ·exact .inr ⟨j,L,C,A,B,D,E,b,c,d,e,f,g,h7.lower i⟩
theorem qv.box {base san:Nat}{b1 b2 b3:Option Addr}{m1 m2 m3 d1 d2 d3:Nat}{tb:Bool}{u a:World}{g t:Nat}{cs:Array Value}(h:qv base san b1 b2 b3 m1 m2 m3 d1 d2 d3 tb u)(l:zA u a (fun b=>b=g))(k:u.heap[g]?=some (.cells cs t (0,0)))
  (m:37≠t/\106≠t/\110≠t/\136≠t/\186≠t/\190≠t/\138≠t/\131≠t/\3≠t):qv base san b1 b2 b3 m1 m2 m3 d1 d2 d3 tb a:=by
 rcases h with h|⟨n,L,C,A,B,D,E,c,d,e,f,i,j,h7⟩
 ·exact .inl h
 ·exact .inr ⟨n,L,C,A,B,D,E,c,d,e,f,i,j,h7.box l k m⟩
theorem dop_next (x:Off)(f d c a:Option Addr)(m l g i:Nat)(j:Int)(y:OpD)(w:World)(K:Off.Short x 1048576)(v:SailsAt w f x.san x.sa)(s:QE w d x.ldn x.ld)(q:ZU w c x.bkn x.bk)(r:x.bkn<=g)(t:IntsAt w a y.lgn y.lg)(F:SliceOk a y.lgn i)(hl:y.lgn<=1048576)(I:y.own.size<=1048576) :
  Calls Tryz.prog 80 #[.agg #[.slice f x.san m,.slice d x.ldn l,.slice c x.bkn g],int i64 j,.agg #[int i64 y.kind,.string y.own,int i64 y.name,.slice a y.lgn i,int i64 y.pe,int i64 y.len,int i64 y.hei,int i64 y.cl,.bool y.all,int i64 y.be,int i64 y.unt,int i64 y.now]] w fun e w' =>
   (∃ b1 b2 b3 b4 m1 m2 m3 m4 d1 d2 d3 d4 k1 k2 k3 tb,e=.returned (.tuple #[.agg #[.slice b1 m1 d1,.slice b2 m2 d2,.slice b3 m3 d3],.agg #[int i64 k1,int i64 k2,int i64 k3,.slice b4 m4 d4],.bool tb])/\Hid (qv w.heap.size x.san b1 b2 b3 m1 m2 m3 d1 d2 d3 tb w'))/\Below w.heap.size w w':=by
 refine(zhk x f d c a m l g i (y.name - 1).toNat j y w K v s q r t F hl I (fun T U=>?_)).mono ?_
 ·have p:=T.2.2.1
  unfold Zp at p;rw[if_pos U] at p;unfold In at p
  omega
 ·rintro e w' ⟨h,V⟩
  refine⟨?_,V⟩
  rcases h with⟨G,_,Y,N,Q,O,R,P,S,code,name,price,X,L,C,A,B,D,E,rfl,n,o,u⟩|⟨_,rfl⟩
  ·have H:=o.few G
   have z:=o.short G K (by decide) I
   obtain⟨b4,m4,d4,rfl⟩:∃ b4 m4 d4,X=.slice b4 m4 d4:=by
    rcases u with rfl|⟨M,b,J⟩
    ·exact⟨_,_,_,rfl⟩
    ·by_cases c9:y.kind=9
     ·obtain⟨k,_,_,W⟩:=J.1 c9
      obtain⟨q1,q2,e,_⟩:=zt W;exact⟨_,_,_,e⟩
     ·exact⟨_,_,_,J.2 c9⟩
   exact⟨N,O,P,b4,_,_,_,m4,Q,R,S,d4,code,name,price,true,rfl,.inr ⟨Y,L,C,A,B,D,E,rfl,rfl,rfl,H.2.1,H.1,z,n⟩⟩
  ·exact⟨none,none,none,none,0,0,0,0,0,0,0,0,0,0,0,false,rfl,.inl rfl⟩
section
open Go.RowKit
structure NX where
 b1:Option Addr
 b2:Option Addr
 b3:Option Addr
 b4:Option Addr
 m1:Nat
 m2:Nat
 m3:Nat
 m4:Nat
 d1:Nat
 d2:Nat
 d3:Nat
 d4:Nat
 k1:Int
 k2:Int
 k3:Int
 tb:Bool
def NX.Ok (q:NX)(base san:Nat)(u:World):Prop:=qv base san q.b1 q.b2 q.b3 q.m1 q.m2 q.m3 q.d1 q.d2 q.d3 q.tb u
def n3:Array Value:=#[.slice none 0 0,.slice none 0 0,.slice none 0 0]
def a4:Array Value:=#[int i64 0,int i64 0,int i64 0,.slice none 0 0]
structure R8 (w u:World)(m:Nat)(i:Option Addr)(n c a d:Nat)(x:Off)(e g h:Option Addr)(j k l:Nat)(L C A B D E:Nat->Value)(o p:Option Nat)(lg:Option (OpD × Option Addr × Nat))(nx:Option NX):Prop where
 f:zbu w u m i n c a d x e g h j k l L C A B D E
 h7:∀ b,o=some b->d<b/\u.heap[b]?=some (.cells n3 66 (0,0))
 h8:∀ b,p=some b->d<b/\u.heap[b]?=some (.cells a4 127 (0,0))
 hl:∀ y ag cg,lg=some (y,ag,cg)->u.ownsRow w.heap.size 3 1 (.slice ag y.lgn cg) y.lgn (zJ y.lg y.lgn)
 hn:∀ q,nx=some q->q.Ok w.heap.size x.san u
section
variable {w u u' : World} {cb : Nat} {ao : Option Addr} {n c a a' ob : Nat} {x : Off} {a1 a2 a3 : Option Addr} {c1 c2 c3 : Nat} {L C A B D E : Nat -> Value} {p7 p8 : Option Nat} {lg : Option (OpD × Option Addr × Nat)} {nx : Option NX}
theorem R8.below (h:R8 w u cb ao n c a ob x a1 a2 a3 c1 c2 c3 L C A B D E p7 p8 lg nx)(d:Below u.heap.size u u'):R8 w u' cb ao n c a ob x a1 a2 a3 c1 c2 c3 L C A B D E p7 p8 lg nx :=
 ⟨h.f.below d,fun b e=>⟨(h.h7 b e).1,zc (h.h7 b e).2 d⟩,fun b e=>⟨(h.h8 b e).1,zc (h.h8 b e).2 d⟩,fun y f g e=>zm d (h.hl y f g e),fun q e=>(h.hn q e).below d⟩
theorem R8.al7 (h:R8 w u cb ao n c a ob x a1 a2 a3 c1 c2 c3 L C A B D E none p8 lg nx):R8 w (u.alloc (.cells #[.slice none 0 0,.slice none 0 0,.slice none 0 0] 66)) cb ao n c a ob x a1 a2 a3 c1 c2 c3 L C A B D E (some u.heap.size) p8 lg nx:=by
 have k:=h.below (zr (Below.refl _ u) (.cells #[.slice none 0 0,.slice none 0 0,.slice none 0 0] 66));exact⟨k.f,fun b e=>by cases e;exact⟨h.f.ob_lt,heap_alloc_new u _⟩,k.h8,k.hl,k.hn⟩
theorem R8.al8 (h:R8 w u cb ao n c a ob x a1 a2 a3 c1 c2 c3 L C A B D E p7 none lg nx):R8 w (u.alloc (.cells #[int i64 0,int i64 0,int i64 0,.slice none 0 0] 127)) cb ao n c a ob x a1 a2 a3 c1 c2 c3 L C A B D E p7 (some u.heap.size) lg nx:=by
 have k:=h.below (zr (Below.refl _ u) (.cells #[int i64 0,int i64 0,int i64 0,.slice none 0 0] 127));exact⟨k.f,k.h7,fun b e=>by cases e;exact⟨h.f.ob_lt,heap_alloc_new u _⟩,k.hl,k.hn⟩
theorem own_okR {w:World}{base e size n c:Nat}{a:Option Addr}{j:List Value}(h:w.ownsRow base e size (.slice a n c) n j):SliceOk a n c:=by
 obtain⟨b,d,e,f,g,i⟩:=zt h
 cases e
 exact⟨f,g,i⟩
theorem R8.op (h:R8 w u cb ao n c a ob x a1 a2 a3 c1 c2 c3 L C A B D E p7 p8 none nx)(g:cb<w.heap.size)(r:a<=600000000000000000)(o:x.san<=1000)(p:x.bkn<=1000) :
  Calls Tryz.prog 29 #[.pointer (some ⟨cb,0,none⟩),.agg #[.slice a1 x.san c1,.slice a2 x.ldn c2,.slice a3 x.bkn c3]] u fun e k=>∃ (y:OpD) (d:Option Addr) (f:Nat),e=.returned (.agg (ZV y (.slice d y.lgn f)))/\y.own.size<=10/\y.lgn<=7/\Hid (R8 w k cb ao n c (a+300) ob x a1 a2 a3 c1 c2 c3 L C A B D E p7 p8 (some (y,d,f)) none):=by
 refine(op_any cb ao n c a a1 a2 a3 x.san c1 x.ldn c2 x.bkn c3 x.sa u r o p h.f.cur h.f.sails).mono ?_;rintro e k ⟨⟨y,d,f,rfl,k1,k2,j⟩,s,i⟩;have t:=h.f.lt;exact⟨y,d,f,rfl,k1,k2,h.f.on g s i,fun b e=>⟨(h.h7 b e).1,i.blk (h.h7 b e).2 (fun q=>by have q:b=cb:=q;have:=(h.h7 b e).1;omega)⟩,fun b e=>⟨(h.h8 b e).1,i.blk (h.h8 b e).2 (fun q=>by have q:b=cb:=q;have:=(h.h8 b e).1;omega)⟩,fun y' l m e=>by cases e;exact zE j h.f.kept.size,fun q e=>by cases e⟩
theorem R8.dop {y:OpD}{b:Option Addr}{d:Nat}(h:R8 w u cb ao n c a ob x a1 a2 a3 c1 c2 c3 L C A B D E p7 p8 (some (y,b,d)) nx)(l:Off.Short x 1048576)(k1:y.own.size<=10)(k2:y.lgn<=7)(i:Int) :
  Calls Tryz.prog 80 #[.agg #[.slice a1 x.san c1,.slice a2 x.ldn c2,.slice a3 x.bkn c3],int i64 i,.agg (ZV y (.slice b y.lgn d))] u fun e g=>∃ q:NX,e=.returned (.tuple #[.agg #[.slice q.b1 q.m1 q.d1,.slice q.b2 q.m2 q.d2,.slice q.b3 q.m3 q.d3],.agg #[int i64 q.k1,int i64 q.k2,int i64 q.k3,.slice q.b4 q.m4 q.d4],.bool q.tb])/\Hid (R8 w g cb ao n c a ob x a1 a2 a3 c1 c2 c3 L C A B D E p7 p8 none (some q)):=by
 have hl:=h.hl y b d rfl;refine(dop_next x a1 a2 a3 b c1 c2 c3 d i y u l h.f.own.sa.at h.f.own.ld.at h.f.own.bk.at h.f.cap (own_ints hl) (own_okR hl) (by omega) (by omega)).mono ?_
 rintro e g ⟨⟨b1,b2,b3,b4,m1,m2,m3,m4,d1,d2,d3,d4,k1,k2,k3,tb,rfl,f⟩,j⟩;have k:=h.below j;exact⟨⟨b1,b2,b3,b4,m1,m2,m3,m4,d1,d2,d3,d4,k1,k2,k3,tb⟩,rfl,k.f,k.h7,k.h8,fun _ _ _ e=>(by cases e),fun q e=>by cases e;exact f.out.lower h.f.kept.size⟩
end
end
end Go.Proofs.YtfallpinmhbemaaGreatDoor
