import Derived.Test.YtfallpinmhbemaaGreatDoorB45
namespace Go.Proofs.YtfallpinmhbemaaGreatDoor
open Go.RowKit
open Go.Value (int)
open Go.IntKind (i64)
set_option maxHeartbeats 64000000
set_option maxRecDepth 1000000
theorem zik {x:Off}{y:OpD}{m:Nat}(h:Z2 x.san x.bkn m x y 0)(j:Qz y->In y.kind 4 8->y.name=(m:Int)+1):zah x y m:=by
 obtain⟨f,g,i,h4⟩:=h;have a:Qz y:=by
  by_cases c:Qz y
  ·exact c
  ·have:=f c;omega
 have d:¬ Qu x.san x y:=fun c=>by have:=g a c;omega
 refine⟨a,d,fun e=>?_⟩
 obtain⟨k,l,n3⟩:=i a d e;have b:m<x.bkn:=by
  by_cases c:x.bkn<=m
  ·have:=k c;omega
  ·omega
 exact⟨j a e,b,fun c=>by have:=l b c;omega⟩
def OpTo (x:Off)(a:Int)(y:OpD)(m:Nat)(b:Off)(code name price:Int):Prop :=
 (code≠0/\b=x/\name=0/\price=0/\Z2 x.san x.bkn m x y code) ∨
 (zah x y m/\code≠0/\b=x/\name=0/\price=0/\∃ j M v k,zct x (qN x a y m) j M/\(qN x a y m)[j]?=some v/\qo x.sa v.leg x.san=k/\k<x.san/\ZT (x.sa k) v (M k) code (M k)) ∨
 (zah x y m/\∃ M x3,zct x (qN x a y m) (qN x a y m).length M/\zeZ { x with ld:=M } a y m x3 code name price/\((code≠0∨y.kind=1)->b=x)/\(¬ (code≠0∨y.kind=1)->b=x3))
def OpAns (x:Off)(a:Int)(y:OpD)(m base:Nat)(e:Ending)(w':World):Prop :=
 ∃ x2 a1 c1 a2 c2 a3 c3 code name price rv L C A B D E,e=.returned (.tuple #[.agg #[.slice a1 x2.san c1,.slice a2 x2.ldn c2,.slice a3 x2.bkn c3],.agg #[int i64 code,int i64 name,int i64 price,rv]]) /\
  zV w' base (.slice a1 x2.san c1) (.slice a2 x2.ldn c2) (.slice a3 x2.bkn c3) x2.san x2.ldn x2.bkn x2 L C A B D E/\OpTo x a y m x2 code name price/\(rv=.slice none 0 0∨∃ M b,zbC { x with ld:=M } y b w' rv)
theorem zgj:∀ (l:List Wk)(j:Nat)(v:Wk),l[j]?=some v->∀ r,r<10->(zdm l)[j*10+r]?=(wkC v)[r]?
 | [],j,v,h,_,_=>by simp at h
 | u :: l,0,v,h,r,hr=>by
  have e:u=v:=by simpa using h
  subst e
  show(wkC u++zdm l)[0*10+r]?=_
  rw[List.getElem?_append_left (by show 0*10+r<10;omega),Nat.zero_mul,Nat.zero_add]
 | u :: l,j+1,v,h,r,hr=>by
  have a:l[j]?=some v:=by simpa using h
  show(wkC u++zdm l)[(j+1)*10+r]?=_
  rw[List.getElem?_append_right (by show 10<=(j+1)*10+r;omega)]
  have e:(j+1)*10+r - (wkC u).length=j*10+r:=by show(j+1)*10+r - 10=_;omega
  rw[e];exact zgj l j v a r hr
theorem zeZ.size {x:Off}{a:Int}{y:OpD}{m:Nat}{b:Off}{code name price:Int}(h:zeZ x a y m b code name price):b.san=x.san/\b.ldn=x.ldn:=by
 rcases h with⟨_,rfl,_⟩|⟨_,rfl,_⟩|⟨_,_,rfl,_⟩|⟨_,_,rfl,_⟩|⟨_,_,rfl,_⟩ <;> exact⟨rfl,rfl⟩
theorem zeZ.nine {x:Off}{c:Int}{y:OpD}{m:Nat}{d:Off}{code name price:Int}(h:zeZ x c y m d code name price)(hc:code≠0∨y.kind=1):y.kind≠9:=by
 rcases h with⟨a,_,b,_⟩|⟨a,_,b,_⟩|⟨a,_,_,b,_⟩|⟨a,_,_,b,_⟩|⟨a,_,_,b,_⟩ <;> first|omega|(unfold In at a;omega)
theorem zes {w Z:World}{a c base s t n3:Nat}{h i j v y z u0 u1 u2 u3:Value}{x:Off}{L C A B D E:Nat->Value}(q:Below w.heap.size w Z)(p:zV Z base h i j s t n3 x L C A B D E)(g:Z.heap[a]?=some (.cells #[v,y,z] 66 (0,0)))(f:Z.heap[c]?=some (.cells #[u0,u1,u2,u3] 127 (0,0)))(h1:w.heap.size<=a)(h2:w.heap.size<=c)(l m n o:Value){F:World}
  (u:F=((((((Z.setCell ⟨a,0,none⟩ h).setCell ⟨a,1,none⟩ i).setCell ⟨a,2,none⟩ j).setCell ⟨c,0,none⟩ l).setCell ⟨c,1,none⟩ m).setCell ⟨c,2,none⟩ n).setCell ⟨c,3,none⟩ o) :
  zV F base h i j s t n3 x L C A B D E/\F.heap[a]?=some (.cells #[h,i,j] 66 (0,0))/\F.heap[c]?=some (.cells #[l,m,n,o] 127 (0,0))/\Below w.heap.size w F/\zA Z F (fun b=>b=a∨b=c):=by
 subst u;have k:a≠c:=fun e=>by subst e;rw[g] at f;simp at f
 have k1:=zfK Z a h i j;have d:=k1.blk f (fun e=>k e.symm)
 have k2:=QQ (((Z.setCell ⟨a,0,none⟩ h).setCell ⟨a,1,none⟩ i).setCell ⟨a,2,none⟩ j) c l m n o;have r:=(k1.mono (T:=fun b=>b=a∨b=c) (fun b e=>.inl e)).trans (k2.mono (T:=fun b=>b=a∨b=c) (fun b e=>.inr e))
 exact⟨(p.box k1 g (by decide)).box k2 d (by decide),k2.blk (zbI g h i j) k,zeV d _ _ _ _,zA.below q q.size r (fun b e=>by rcases e with e|e <;> omega),r⟩
theorem zgk {x:Off}{y:OpD}{b:Nat}{z c:World}{v:Value}{T:Nat->Prop}(h:zbC x y b z v)(n:zA z c T)(l:∀ g,T g->∃ cs t,z.heap[g]?=some (.cells cs t (0,0))/\212≠t):zbC x y b c v:=by
 refine⟨fun j=>?_,h.2⟩
 obtain⟨k,f,i,a⟩:=h.1 j;exact⟨k,f,i,n.own a (fun g m s=>by obtain⟨cs,t,d,e⟩:=l g s;exact qR a d e g m rfl)⟩
theorem l7Op_any (x:Off)(p n f G:Option Addr)(F t s J m:Nat)(a0:Int)(y:OpD)(w:World)(hs:Off.Short x 1048576)(m5:SailsAt w p x.san x.sa)(l5:QE w n x.ldn x.ld)(l2:ZU w f x.bkn x.bk)(l6:IntsAt w G y.lgn y.lg)(m6:SliceOk G y.lgn J)(hl:y.lgn<=1048576)(ho:y.own.size<=1048576)(hO:Zy x)(hb:In a0 1 9999)(hx:∀ i,i<x.bkn->(x.bk i).who≠a0)(hm:Qz y->In y.kind 4 8->y.name=(m:Int)+1/\m<=1048576) :
  Calls Tryz.prog 104 #[.agg #[.slice p x.san F,.slice n x.ldn t,.slice f x.bkn s],int i64 a0,.agg #[int i64 y.kind,.string y.own,int i64 y.name,.slice G y.lgn J,int i64 y.pe,int i64 y.len,int i64 y.hei,int i64 y.cl,.bool y.all,int i64 y.be,int i64 y.unt,int i64 y.now]] w fun e w'=>OpAns x a0 y m w.heap.size e w'/\Below w.heap.size w w':=by
 have HS:=hI hs;have HM:Hid (SailsAt w p x.san x.sa/\QE w n x.ldn x.ld/\ZU w f x.bkn x.bk/\IntsAt w G y.lgn y.lg/\SliceOk G y.lgn J):=⟨m5,l5,l2,l6,m6⟩;have HG:Hid (Zy x/\In a0 1 9999/\∀ i,i<x.bkn->(x.bk i).who≠a0):=⟨hO,hb,hx⟩;have HN:=hI hm;have p6:x.san<=6:=hO.1.1;have l1:x.bkn<=30:=hO.2.2.1;have e7:=hI hO.2.1;clear hs m5 l5 l2 l6 m6 hO hb hx hm;have q:Below w.heap.size w ((((w.alloc (.cells #[.slice p x.san F,.slice n x.ldn t,.slice f x.bkn s] 66)).alloc (.cells #[int i64 y.kind,.string y.own,int i64 y.name,.slice G y.lgn J,int i64 y.pe,int i64 y.len,int i64 y.hei,int i64 y.cl,.bool y.all,int i64 y.be,int i64 y.unt,int i64 y.now] 27)).alloc (.cells #[.slice none 0 0,.slice none 0 0,.slice none 0 0] 66)).alloc (.cells #[int i64 0,int i64 0,int i64 0,.slice none 0 0] 127)):=zr (zr (zr (zr bZ _) _) _) _;have K:=ze (ze (ze (heap_alloc_new w (.cells #[.slice p x.san F,.slice n x.ldn t,.slice f x.bkn s] 66)) (.cells #[int i64 y.kind,.string y.own,int i64 y.name,.slice G y.lgn J,int i64 y.pe,int i64 y.len,int i64 y.hei,int i64 y.cl,.bool y.all,int i64 y.be,int i64 y.unt,int i64 y.now] 27)) (.cells #[.slice none 0 0,.slice none 0 0,.slice none 0 0] 66)) (.cells #[int i64 0,int i64 0,int i64 0,.slice none 0 0] 127);have b1:=ze (ze (zcC w (.cells #[.slice p x.san F,.slice n x.ldn t,.slice f x.bkn s] 66) (.cells #[int i64 y.kind,.string y.own,int i64 y.name,.slice G y.lgn J,int i64 y.pe,int i64 y.len,int i64 y.hei,int i64 y.cl,.bool y.all,int i64 y.be,int i64 y.unt,int i64 y.now] 27)) (.cells #[.slice none 0 0,.slice none 0 0,.slice none 0 0] 66)) (.cells #[int i64 0,int i64 0,int i64 0,.slice none 0 0] 127);have b2:=ze (show(((w.alloc (.cells #[.slice p x.san F,.slice n x.ldn t,.slice f x.bkn s] 66)).alloc (.cells #[int i64 y.kind,.string y.own,int i64 y.name,.slice G y.lgn J,int i64 y.pe,int i64 y.len,int i64 y.hei,int i64 y.cl,.bool y.all,int i64 y.be,int i64 y.unt,int i64 y.now] 27)).alloc (.cells #[.slice none 0 0,.slice none 0 0,.slice none 0 0] 66)).heap[w.heap.size+1+1]?=some (.cells #[.slice none 0 0,.slice none 0 0,.slice none 0 0] 66 (0,0)) from by simpa using heap_alloc_new ((w.alloc (.cells #[.slice p x.san F,.slice n x.ldn t,.slice f x.bkn s] 66)).alloc (.cells #[int i64 y.kind,.string y.own,int i64 y.name,.slice G y.lgn J,int i64 y.pe,int i64 y.len,int i64 y.hei,int i64 y.cl,.bool y.all,int i64 y.be,int i64 y.unt,int i64 y.now] 27)) (.cells #[.slice none 0 0,.slice none 0 0,.slice none 0 0] 66)) (.cells #[int i64 0,int i64 0,int i64 0,.slice none 0 0] 127)
 have b3:((((w.alloc (.cells #[.slice p x.san F,.slice n x.ldn t,.slice f x.bkn s] 66)).alloc (.cells #[int i64 y.kind,.string y.own,int i64 y.name,.slice G y.lgn J,int i64 y.pe,int i64 y.len,int i64 y.hei,int i64 y.cl,.bool y.all,int i64 y.be,int i64 y.unt,int i64 y.now] 27)).alloc (.cells #[.slice none 0 0,.slice none 0 0,.slice none 0 0] 66)).alloc (.cells #[int i64 0,int i64 0,int i64 0,.slice none 0 0] 127)).heap[w.heap.size+1+1+1]?=some (.cells #[int i64 0,int i64 0,int i64 0,.slice none 0 0] 127 (0,0)):=by simpa using heap_alloc_new (((w.alloc (.cells #[.slice p x.san F,.slice n x.ldn t,.slice f x.bkn s] 66)).alloc (.cells #[int i64 y.kind,.string y.own,int i64 y.name,.slice G y.lgn J,int i64 y.pe,int i64 y.len,int i64 y.hei,int i64 y.cl,.bool y.all,int i64 y.be,int i64 y.unt,int i64 y.now] 27)).alloc (.cells #[.slice none 0 0,.slice none 0 0,.slice none 0 0] 66)) (.cells #[int i64 0,int i64 0,int i64 0,.slice none 0 0] 127)
 go_enter Tryz.func104,Tryz.ntmps104;go_wp2_with fail;generalize ((((w.alloc (.cells #[.slice p x.san F,.slice n x.ldn t,.slice f x.bkn s] 66)).alloc (.cells #[int i64 y.kind,.string y.own,int i64 y.name,.slice G y.lgn J,int i64 y.pe,int i64 y.len,int i64 y.hei,int i64 y.cl,.bool y.all,int i64 y.be,int i64 y.unt,int i64 y.now] 27)).alloc (.cells #[.slice none 0 0,.slice none 0 0,.slice none 0 0] 66)).alloc (.cells #[int i64 0,int i64 0,int i64 0,.slice none 0 0] 127))=W at q K b1 b2 b3 ⊢;refine(zhg p n f G x.san x.ldn x.bkn F t s J m x y _ (by omega) (by omega) hl (by omega) (HM.out.1.below q) (HM.out.2.2.1.below q) ⟨G,J,rfl,HM.out.2.2.2.1.below q,HM.out.2.2.2.2⟩ HN.out).mono ?_
 rintro e V ⟨⟨code,rfl,e6⟩,c9⟩;have j9:=hI e6;clear e6;replace q:=zj q c9;replace K:=zc K c9;replace b1:=zc b1 c9;replace b2:=zc b2 c9;replace b3:=zc b3 c9;clear c9 W;obtain⟨f0,f1,f2⟩:=ce3 K
 by_cases hc:code=0
 case neg =>
  have d1:(code != 0)=true:=by simpa using hc
  have d2:(code == 0)=false:=by simpa using hc
  have HC:=hI hc;clear hc;go_wp2_with fail;refine(zaj p n f x.san x.ldn x.bkn F t s x _ rfl rfl rfl HS.out (HM.out.1.below q) (HM.out.2.1.below q) (HM.out.2.2.1.below q)).mono ?_;rintro e V9 ⟨⟨a1,c1,R,S,a3,c3,L9,C9,A9,B9,D9,E9,rfl,U⟩,c0⟩;have e5:=zj q c0;have Q:=zc b2 c0;have N:=zc b3 c0;obtain⟨O,b6,b7,P,_⟩:=zes e5 (U.lower q.size) Q N (by omega) (by omega) (int i64 code) (int i64 0) (int i64 0) (.slice none 0 0) rfl
  have a9:Hid _:=O;have a8:Hid _:=P;clear O P U;obtain⟨s0,s1,s2⟩:=ce3 Q;obtain⟨f9,g3,g4⟩:=fe3 Q;obtain⟨t0,t1,t2,t3⟩:=ce4 N;obtain⟨g5,g6,g7,g8⟩:=fe4 N;go_wp2;obtain⟨x0,x1,x2⟩:=ce3 b6;obtain⟨z0,z1,z2,z3⟩:=ce4 b7;exact bodyPost_ret (v:=.tuple #[.agg #[.slice a1 x.san c1,.slice R x.ldn S,.slice a3 x.bkn c3],.agg #[int i64 code,int i64 0,int i64 0,.slice none 0 0]]) (by simp[results,Tryz.results104,go_sem,x0,x1,x2,z0,z1,z2,z3]) rfl ⟨⟨x,_,_,_,_,_,_,_,_,_,_,_,_,_,_,_,_,rfl,a9.out,.inl ⟨HC.out,rfl,rfl,rfl,j9.out⟩,.inl rfl⟩,a8.out⟩
 subst hc;have p7:w.heap.size+1+1+1<V.heap.size:=zZ b3;have a6:Hid (zah x y m):=zik j9.out (fun h1 T=>(HN.out h1 T).1)
 go_wp2_with fail;refine(zaj p n f x.san x.ldn x.bkn F t s x _ rfl rfl rfl HS.out (HM.out.1.below q) (HM.out.2.1.below q) (HM.out.2.2.1.below q)).mono ?_;rintro e V2 ⟨⟨a1,c1,R,S,a3,c3,L,C,A,B,D,E,rfl,U⟩,H⟩;have k7:=hI U;have i0:w.heap.size<=V.heap.size:=q.size;replace q:=zj q H;replace K:=zc K H;replace b1:=zc b1 H;replace b2:=zc b2 H;replace b3:=zc b3 H;have e0:=hI (zZ b3);clear f0 f1 f2 U;have g0:∀ o,(V2.alloc o).cell? ⟨w.heap.size,0,none⟩=some (.slice p x.san F):=fun o=>za (ze K o) 0 _ rfl
 have g1:∀ o,(V2.alloc o).cell? ⟨w.heap.size,1,none⟩=some (.slice n x.ldn t):=fun o=>za (ze K o) 1 _ rfl
 have g2:∀ o,(V2.alloc o).cell? ⟨w.heap.size,2,none⟩=some (.slice f x.bkn s):=fun o=>za (ze K o) 2 _ rfl
 have h0:∀ o,(V2.alloc o).cell? ⟨w.heap.size+1,0,none⟩=some (int i64 y.kind):=fun o=>za (ze b1 o) 0 _ rfl
 have h1:∀ o,(V2.alloc o).cell? ⟨w.heap.size+1,1,none⟩=some (.string y.own):=fun o=>za (ze b1 o) 1 _ rfl
 have T:∀ o,(V2.alloc o).cell? ⟨w.heap.size+1,2,none⟩=some (int i64 y.name):=fun o=>za (ze b1 o) 2 _ rfl
 have h3:∀ o,(V2.alloc o).cell? ⟨w.heap.size+1,3,none⟩=some (.slice G y.lgn J):=fun o=>za (ze b1 o) 3 _ rfl
 have h4:∀ o,(V2.alloc o).cell? ⟨w.heap.size+1,4,none⟩=some (int i64 y.pe):=fun o=>za (ze b1 o) 4 _ rfl
 have h5:∀ o,(V2.alloc o).cell? ⟨w.heap.size+1,5,none⟩=some (int i64 y.len):=fun o=>za (ze b1 o) 5 _ rfl
 have h6:∀ o,(V2.alloc o).cell? ⟨w.heap.size+1,6,none⟩=some (int i64 y.hei):=fun o=>za (ze b1 o) 6 _ rfl
 have h7:∀ o,(V2.alloc o).cell? ⟨w.heap.size+1,7,none⟩=some (int i64 y.cl):=fun o=>za (ze b1 o) 7 _ rfl
 have h8:∀ o,(V2.alloc o).cell? ⟨w.heap.size+1,8,none⟩=some (.bool y.all):=fun o=>za (ze b1 o) 8 _ rfl
 have h9:∀ o,(V2.alloc o).cell? ⟨w.heap.size+1,9,none⟩=some (int i64 y.be):=fun o=>za (ze b1 o) 9 _ rfl
 have j4:∀ o,(V2.alloc o).cell? ⟨w.heap.size+1,10,none⟩=some (int i64 y.unt):=fun o=>za (ze b1 o) 10 _ rfl
 have j5:∀ o,(V2.alloc o).cell? ⟨w.heap.size+1,11,none⟩=some (int i64 y.now):=fun o=>za (ze b1 o) 11 _ rfl
 go_wp2_with fail;have bQ:=heap_alloc_new V2 (.cells #[.slice a1 x.san c1,.slice R x.ldn S,.slice a3 x.bkn c3] 66);have i3:V.heap.size<=V2.heap.size:=H.size;have j0:Hid (zV (V2.alloc (.cells #[.slice a1 x.san c1,.slice R x.ldn S,.slice a3 x.bkn c3] 66)) V.heap.size (.slice a1 x.san c1) (.slice R x.ldn S) (.slice a3 x.bkn c3) x.san x.ldn x.bkn x L C A B D E):=k7.out.below (zr bZ _);replace q:=zr q (.cells #[.slice a1 x.san c1,.slice R x.ldn S,.slice a3 x.bkn c3] 66);replace K:=ze K (.cells #[.slice a1 x.san c1,.slice R x.ldn S,.slice a3 x.bkn c3] 66);replace b1:=ze b1 (.cells #[.slice a1 x.san c1,.slice R x.ldn S,.slice a3 x.bkn c3] 66);replace b2:=ze b2 (.cells #[.slice a1 x.san c1,.slice R x.ldn S,.slice a3 x.bkn c3] 66);replace b3:=ze b3 (.cells #[.slice a1 x.san c1,.slice R x.ldn S,.slice a3 x.bkn c3] 66);have o8:w.heap.size+1+1+1<V2.heap.size:=e0.out;generalize V2.alloc (.cells #[.slice a1 x.san c1,.slice R x.ldn S,.slice a3 x.bkn c3] 66)=X at bQ j0 q K b1 b2 b3 ⊢;have c4:=zZ bQ;generalize V2.heap.size=qb at bQ i3 o8 c4 ⊢;have m0:=hI c4;clear c4;clear e0 g0 g1 g2 h0 h1 T h3 h4 h5 h6 h7 h8 h9 j4 j5 k7 H V2;refine(zgZ p n f G x.san x.ldn x.bkn F t s J m x y a0 _ (by omega) HS.out.2.2.2 hl (HM.out.2.2.1.below q) (HM.out.2.2.2.1.below q) (fun hk=>⟨(a6.out.2.2 (zaH hk)).1,(a6.out.2.2 (zaH hk)).2.1⟩)).mono ?_
 rintro e Y ⟨v,rfl,f8,b5⟩;have e9:=hI (works_fit HG.out.1 a6.out HG.out.2.1 HG.out.2.2);obtain⟨l,f4⟩:∃ l,l=qN x a0 y m:=⟨_,rfl⟩;rw[← f4] at f8 e9;have HL:=hI f4;have q5:l.length<=1000:=by
  rw[f4];unfold qN;have q1:=zhh a6.out.1;have q2:=QX true (x.bk m).who ⟨(x.bk m).pe,(x.bk m).len,(x.bk m).hei,(x.bk m).cl,(x.bk m).all,(x.bk m).be⟩ (x.bk m).lg (x.bk m).lgn;have q3:=QX false a0 ⟨y.pe,y.len,y.hei,y.cl,y.all,y.be⟩ y.lg y.lgn;have q4:zaa y.kind->(x.bk m).lgn<=3:=fun hk=>(HG.out.1.2.2.2.2.1 m (a6.out.2.2 (zaH hk)).2.1).2.2.2.1.2.1
  rw[List.length_append];have p1:(if zaa y.kind then qZ true (x.bk m).who ⟨(x.bk m).pe,(x.bk m).len,(x.bk m).hei,(x.bk m).cl,(x.bk m).all,(x.bk m).be⟩ (x.bk m).lg (x.bk m).lgn else []).length<=9:=by
   by_cases c:zaa y.kind
   ·rw[if_pos c];have:=q4 c;omega
   ·rw[if_neg c];decide
  have p2:(if zR y.kind then qZ false a0 ⟨y.pe,y.len,y.hei,y.cl,y.all,y.be⟩ y.lg y.lgn else []).length<=9:=by
   by_cases c:zR y.kind
   ·rw[if_pos c];omega
   ·rw[if_neg c];decide
  omega
 clear f4;obtain⟨aw,cw,rfl,w1,w2,w3⟩:=zt f8;have k9:=hI f8;have e8:=hI (j0.out.below b5);have m8:X.heap.size<=Y.heap.size:=b5.size;replace q:=zj q b5;replace K:=zc K b5;replace b1:=zc b1 b5;replace b2:=zc b2 b5;replace b3:=zc b3 b5;replace bQ:=zc bQ b5;have p3:qb<X.heap.size:=m0.out;clear f8 b5 w1 w2 w3 j0;rw[e7.out] at e8 bQ ⊢;have g9:Hid (∀ wr,zA Y wr (fun b=>(Value.slice R x.san S).ownBlock=some b)->Below w.heap.size w wr/\wr.heap[w.heap.size]?=some (.cells #[.slice p x.san F,.slice n x.ldn t,.slice f x.bkn s] 66 (0,0))/\wr.heap[w.heap.size+1]?=some (.cells #[int i64 y.kind,.string y.own,int i64 y.name,.slice G y.lgn J,int i64 y.pe,int i64 y.len,int i64 y.hei,int i64 y.cl,.bool y.all,int i64 y.be,int i64 y.unt,int i64 y.now] 27 (0,0))/\wr.heap[w.heap.size+1+1]?=some (.cells #[.slice none 0 0,.slice none 0 0,.slice none 0 0] 66 (0,0))/\wr.heap[w.heap.size+1+1+1]?=some (.cells #[int i64 0,int i64 0,int i64 0,.slice none 0 0] 127 (0,0))/\wr.ownsRow X.heap.size 175 10 (.slice aw l.length cw) l.length (zdm l)):=fun wr hk=>by
  have I:∀ b,(Value.slice R x.san S).ownBlock=some b->V.heap.size<=b:=fun b e=>(e8.out.ld.row.lt b e).1
  exact⟨zA.below q q.size hk (fun b e=>Nat.le_trans i0 (I b e)),hk.blk K (fun e=>by have:=I _ e;omega),hk.blk b1 (fun e=>by have:=I _ e;omega),hk.blk b2 (fun e=>by have:=I _ e;omega),hk.blk b3 (fun e=>by have:=I _ e;omega),hk.own k9.out (fun g h1 T=>own_apart e8.out.ld.row k9.out (by decide) g T h1)⟩
 go_wp2;go_loopw [11,12,30] (fun _ _ i wr=>∃ (j:Nat) (M:Nat->qT) (A B D:Nat->Value),j<=l.length/\i=int i64 j/\Hid (zct x l j M)/\Hid (zV wr V.heap.size (.slice a1 x.san c1) (.slice R x.san S) (.slice a3 x.bkn c3) x.san x.san x.bkn { x with ld:=M } L C A B D E)/\Hid (wr.heap[qb]?=some (.cells #[.slice a1 x.san c1,.slice R x.san S,.slice a3 x.bkn c3] 66 (0,0)))/\Hid (zA Y wr (fun b=>(Value.slice R x.san S).ownBlock=some b))) (fun _ _ i _=>l.length - (intOf i).toNat)
 case atStart=>exact⟨0,x.ld,_,_,_,Nat.zero_le _,rfl,zct.start HG.out.1 (fun v hv=>(e9.out.2 v hv).1),e8.out,bQ,zA.refl _ _⟩
 case round =>
  clear K b1 b2 b3 bQ q;obtain⟨j,M,A,B,D,hj,rfl,a7,i9,j8,i7⟩:=hrel;obtain⟨d,K,b1,b2,b3,j6⟩:=g9.out wr i7.out
  by_cases hlt:j<l.length
  ·obtain⟨v,hv⟩:∃ v,l[j]?=some v:=⟨l[j],List.getElem?_eq_getElem hlt⟩
   have HV:=hI hv;have d6:Hid (WkOk x v):=(e9.out.2 v (List.mem_of_getElem? hv)).2;obtain⟨gw,rfl,_,p8⟩:=qw j6 (by omega)
   have a5:Hid (∀ r u,r<10->(wkC v)[r]?=some u->wr.cell? ⟨gw,j*10+r,none⟩=some u):=fun r u hr hu=>by
    rw[j6.cellAt (j*10+r) (by omega),zgj l j v HV.out r hr]
    exact hu
   have n8:wr.cell? ⟨gw,j*10,none⟩=some (int i64 v.leg):=a5.out 0 _ (by decide) rfl
   have n9:=a5.out 1 _ (by decide) rfl
   have o0:=a5.out 2 _ (by decide) rfl
   have o1:=a5.out 3 _ (by decide) rfl
   have o2:=a5.out 4 _ (by decide) rfl
   have o3:=a5.out 5 _ (by decide) rfl
   have o4:=a5.out 6 _ (by decide) rfl
   have o5:=a5.out 7 _ (by decide) rfl
   have o6:=a5.out 8 _ (by decide) rfl
   have o7:=a5.out 9 _ (by decide) rfl
   clear hv j6;obtain⟨k,hk⟩:∃ k,qo x.sa v.leg x.san=k:=⟨_,rfl⟩;have HK:=hI hk;have b9:Hid (k<x.san):=by have h:=d6.out.2.1;rw[hk] at h;exact h
   clear hk;have i1:(0:Int)<=(j:Int):=by omega
   have i2:(j:Int)<(l.length:Int):=by omega
   go_wp2_with fail;have f5:Below wr.heap.size wr (wr.alloc (.cells #[int i64 v.leg,int i64 (v.res:Int),.bool v.goes,int i64 v.who,int i64 v.p.pe,int i64 v.p.len,int i64 v.p.hei,int i64 v.p.cl,.bool v.p.all,int i64 v.p.be] 175)):=zr bZ _;have k5:=hI (i9.out.below f5);have j7:Hid ((wr.alloc (.cells #[int i64 v.leg,int i64 (v.res:Int),.bool v.goes,int i64 v.who,int i64 v.p.pe,int i64 v.p.len,int i64 v.p.hei,int i64 v.p.cl,.bool v.p.all,int i64 v.p.be] 175)).heap[qb]?=some (.cells #[.slice a1 x.san c1,.slice R x.san S,.slice a3 x.bkn c3] 66 (0,0))):=ze j8.out _;have k0:=hI (i7.out.trans (zA.of_below f5));generalize wr.alloc (.cells #[int i64 v.leg,int i64 (v.res:Int),.bool v.goes,int i64 v.who,int i64 v.p.pe,int i64 v.p.len,int i64 v.p.hei,int i64 v.p.cl,.bool v.p.all,int i64 v.p.be] 175)=wa at f5 k5 j7 k0 ⊢;clear n8 n9 o0 o1 o2 o3 o4 o5 o6 o7 K b1 b2 b3 d f5;refine(l7Do_any qb V.heap.size x.san x.bkn k c1 S c3 a1 R a3 v { x with ld:=M } L C A B D E wa j7.out k5.out (by omega) HK.out b9.out (a7.out.good k b9.out) d6.out.1 (fun hg=>a7.out.there HV.out HK.out b9.out hg) (fun hg=>by have h:=(d6.out.2.2 hg).2.1.1;unfold In at h ⊢;omega)).mono ?_
   rintro e wd ⟨code,z,A',B',D',rfl,m9,l7,l9,l4⟩;have j1:=hI m9;have n5:=hI l7;have n6:Hid _:=l9;have k4:=hI (k0.out.trans l4);clear m9 l7 l9 l4
   by_cases hc:code=0
   ·subst hc
    go_wp2;go_roundw
    case rel=>exact⟨j+1,zfC M k z,A',B',D',by omega,by go_num,a7.out.next e9.out.1 HV.out HK.out b9.out d6.out j1.out,n5.out,n6.out,k4.out⟩
    case measure=>simp[intOf];omega
   ·have d1:(code != 0)=true:=by simpa using hc
    have d2:(code == 0)=false:=by simpa using hc
    have HC:=hI hc;clear hc;obtain⟨d,K,b1,b2,b3,_⟩:=g9.out wd k4.out;have n0:z=M k:=by
     rcases j1.out.on (a7.out.good k b9.out) (a7.out.comes HV.out HK.out b9.out d6.out) with⟨h,_⟩|⟨_,h⟩
     ·exact absurd h HC.out
     ·exact h
    have n7:Hid (ZT (x.sa k) v (M k) code (M k)):=by have h:=j1.out;rw[n0] at h;exact h
    clear n0;obtain⟨f0,f1,f2⟩:=ce3 K;go_wp2_with fail;refine(zaj p n f x.san x.ldn x.bkn F t s x _ rfl rfl rfl HS.out (HM.out.1.below d) (HM.out.2.1.below d) (HM.out.2.2.1.below d)).mono ?_;rintro e V9 ⟨⟨a1,c1,R,S,a3,c3,L9,C9,A9,B9,D9,E9,rfl,U⟩,c0⟩;have e5:=zj d c0;have Q:=zc b2 c0;have N:=zc b3 c0;obtain⟨O,b6,b7,P,_⟩:=zes e5 (U.lower d.size) Q N (by omega) (by omega) (int i64 code) (int i64 0) (int i64 0) (.slice none 0 0) rfl
    have a9:Hid _:=O;have a8:Hid _:=P;clear O P U;obtain⟨s0,s1,s2⟩:=ce3 Q;obtain⟨f9,g3,g4⟩:=fe3 Q;obtain⟨t0,t1,t2,t3⟩:=ce4 N;obtain⟨g5,g6,g7,g8⟩:=fe4 N;go_wp2;obtain⟨x0,x1,x2⟩:=ce3 b6;obtain⟨z0,z1,z2,z3⟩:=ce4 b7;exact bodyPost_ret (v:=.tuple #[.agg #[.slice a1 x.san c1,.slice R x.ldn S,.slice a3 x.bkn c3],.agg #[int i64 code,int i64 0,int i64 0,.slice none 0 0]]) (by simp[results,Tryz.results104,go_sem,x0,x1,x2,z0,z1,z2,z3]) rfl ⟨⟨x,_,_,_,_,_,_,_,_,_,_,_,_,_,_,_,_,rfl,a9.out,.inr (.inl ⟨a6.out,HC.out,rfl,rfl,rfl,j,M,v,k,by rw[← HL.out];exact a7.out,by rw[← HL.out];exact HV.out,HK.out,b9.out,n7.out⟩),.inl rfl⟩,a8.out⟩
  ·obtain rfl:j=l.length:=by omega
   obtain⟨h0,h1,T,h3,h4,h5,h6,h7,h8,h9,j4,j5⟩:=ce12 b1;go_wp2_with fail;refine(l7End_any qb V.heap.size x.san x.bkn c1 S c3 J m a1 R a3 G a0 y { x with ld:=M } L C A B D E wr j8.out i9.out rfl rfl e7.out (Nat.le_trans (Nat.le_trans i3 (Nat.le_of_lt (Nat.lt_of_lt_of_le p3 m8))) i7.out.size) (HM.out.2.2.2.1.below d) HM.out.2.2.2.2 (fun h0 a ea=>by obtain⟨b',p5,e',o9⟩:=HM.out.2.2.2.1 0 h0;rw[ea] at e';cases e';have h1:=World.block_lt_of_cell? w _ o9;have T:b'<w.heap.size:=h1;show b'<V.heap.size;omega) a6.out HG.out.1.1 l1 ⟨HS.out.1,⟨HS.out.2.1.1,fun i hi=>by have h:=a7.out.good i (by have:=e7.out;have h9:i<x.ldn:=hi;omega);exact⟨by have:=((Ql _ _ _).1 h.1).2.1;show(M i).stn<=_;omega,by have:=h.2.1.2.1;show(M i).ron<=_;omega,by have:=h.2.2.2.1;show(M i).sen<=_;omega⟩⟩,HS.out.2.2⟩ (fun i hi=>(HG.out.1.2.2.2.2.1 i hi).2.2.2.1)).mono ?_
   rintro e we ⟨x3,code,name,price,l3,d7,d8,rv,E',rfl,f7,l8,f6,d0⟩;obtain⟨ra,rn,rc,rfl⟩:∃ ra rn rc,rv=.slice ra rn rc:=by
    by_cases h9:y.kind=9
    ·obtain⟨_,_,_,h3⟩:=f7.1 h9
     obtain⟨ao,c,e,_⟩:=zt h3;exact⟨ao,_,c,e⟩
    ·exact⟨none,0,0,f7.2 h9⟩
   have c5:=hI l3;have k8:=hI f7;have i8:=hI l8;have I:∀ b,b=qb∨(Value.slice a3 x.bkn c3).ownBlock=some b->V.heap.size<=b:=fun b e=>by
    rcases e with e|e
    ·omega
    ·exact(i9.out.bk.row.lt b e).1
   replace K:=d0.blk K (fun e=>by have:=I _ e;omega)
   replace b1:=d0.blk b1 (fun e=>by have:=I _ e;omega)
   replace b2:=d0.blk b2 (fun e=>by have:=I _ e;omega)
   replace b3:=d0.blk b3 (fun e=>by have:=I _ e;omega)
   replace d:=zA.below d d.size d0 (fun b e=>by have:=I _ e;omega)
   clear h0 h1 T h3 h4 h5 h6 h7 h8 h9 j4 j5 l3 f7 l8 d0 I;have p9:∀ o,(we.alloc o).cell? ⟨w.heap.size+1,0,none⟩=some (int i64 y.kind):=fun o=>za (ze b1 o) 0 _ rfl
   by_cases hc:code=0/\y.kind≠1
   case neg =>
    have HC:Hid (code≠0∨y.kind=1):=by
     by_cases h:code=0
     ·exact .inr (by by_cases T:y.kind=1;exact T;exact absurd ⟨h,T⟩ hc)
     ·exact .inl h
    have p4:=k8.out.2 (c5.out.nine HC.out)
    cases p4
    clear hc
    by_cases hc:code=0
    ·have hk:y.kind=1:=by rcases HC.out with h|h;exact absurd hc h;exact h
     subst hc;have d1:(y.kind == 1)=true:=by simpa using hk
     have q0:=hk;clear hk;have bT:=heap_alloc_new we (.cells #[int i64 0,int i64 name,int i64 price,.slice none 0 0] 127);have d9:w.heap.size+1+1+1<we.heap.size:=zZ b3;go_upto_region 14 with fail;replace K:=ze K (.cells #[int i64 0,int i64 name,int i64 price,.slice none 0 0] 127);have j2:=b2;have j3:=b3;replace b2:=ze b2 (.cells #[int i64 0,int i64 name,int i64 price,.slice none 0 0] 127);replace b3:=ze b3 (.cells #[int i64 0,int i64 name,int i64 price,.slice none 0 0] 127);replace d:=zr d (.cells #[int i64 0,int i64 name,int i64 price,.slice none 0 0] 127);have d5:=ze f6 (.cells #[int i64 0,int i64 name,int i64 price,.slice none 0 0] 127);have c6:Hid _:=i8.out.below (zr bZ (.cells #[int i64 0,int i64 name,int i64 price,.slice none 0 0] 127));have c7:Hid (zA we (we.alloc (.cells #[int i64 0,int i64 name,int i64 price,.slice none 0 0] 127)) (fun b=>b=w.heap.size+1+1∨b=w.heap.size+1+1+1)):=zA.of_below (zr bZ _)
     generalize we.alloc (.cells #[int i64 0,int i64 name,int i64 price,.slice none 0 0] 127)=wf at bT K b2 b3 d d5 c6 c7 ⊢;generalize we.heap.size=tb at bT d9 ⊢;have p0:=K;have pT:=bT;have KS:Hid (∀ z:World,z.heap[w.heap.size]?=some (.cells #[.slice p x.san F,.slice n x.ldn t,.slice f x.bkn s] 66 (0,0))->z.heap[tb]?=some (.cells #[int i64 0,int i64 name,int i64 price,.slice none 0 0] 127 (0,0))->z.cell? ⟨w.heap.size,0,none⟩=some (.slice p x.san F)/\z.cell? ⟨w.heap.size,1,none⟩=some (.slice n x.ldn t)/\z.cell? ⟨w.heap.size,2,none⟩=some (.slice f x.bkn s)/\z.cell? ⟨tb,0,none⟩=some (int i64 0)/\z.cell? ⟨tb,1,none⟩=some (int i64 name)/\z.cell? ⟨tb,2,none⟩=some (int i64 price)/\z.cell? ⟨tb,3,none⟩=some (.slice none 0 0)):=fun z h1 T=>⟨za h1 0 _ rfl,za h1 1 _ rfl,za h1 2 _ rfl,za T 0 _ rfl,za T 1 _ rfl,za T 2 _ rfl,za T 3 _ rfl⟩
     have i5:Hid (∀ Z,Below wf.heap.size wf Z->Calls Tryz.prog 101 #[.agg #[.slice p x.san F,.slice n x.ldn t,.slice f x.bkn s]] Z fun e u=>(∃ d1 e1 d2 e2 d3 e3 L C A B D E,e=.returned (.agg #[.slice d1 x.san e1,.slice d2 x.ldn e2,.slice d3 x.bkn e3])/\Hid (zV u w.heap.size (.slice d1 x.san e1) (.slice d2 x.ldn e2) (.slice d3 x.bkn e3) x.san x.ldn x.bkn x L C A B D E))/\Below wf.heap.size wf u):=fun Z hZ=>by
      refine(zaj p n f x.san x.ldn x.bkn F t s x Z rfl rfl rfl HS.out (HM.out.1.below (zj d hZ)) (HM.out.2.1.below (zj d hZ)) (HM.out.2.2.1.below (zj d hZ))).mono ?_;rintro e u ⟨⟨d1,e1,d2,e2,d3,e3,L',C',A',B',D',E',rfl,h⟩,hb⟩;exact⟨⟨d1,e1,d2,e2,d3,e3,L',C',A',B',D',E',rfl,h.lower (zj d hZ).size⟩,zj hZ hb⟩
     go_region_held3 (fun w'=>w'.cell? ⟨w.heap.size,0,none⟩=some (.slice p x.san F)/\w'.cell? ⟨w.heap.size,1,none⟩=some (.slice n x.ldn t)/\w'.cell? ⟨w.heap.size,2,none⟩=some (.slice f x.bkn s)/\w'.cell? ⟨tb,0,none⟩=some (int i64 0)/\w'.cell? ⟨tb,1,none⟩=some (int i64 name)/\w'.cell? ⟨tb,2,none⟩=some (int i64 price)/\w'.cell? ⟨tb,3,none⟩=some (.slice none 0 0))
      (first|(refine KS.out _ ?_ ?_ <;> (repeat(first|with_reducible exact p0|with_reducible exact pT|(with_reducible refine zF ?_)|(with_reducible refine zD ?_ _ _ ?_;rotate_left;(focus omega))))))
      (first
       | (go_simp;go_at_call 101;(with_reducible refine Calls.mono (i5.out _ ?_) ?_);(focus(repeat(first | exact bZ | refine Below.drew ?_ | refine zr ?_ _)));rintro e u2 ⟨⟨d1,e1,d2,e2,d3,e3,L9,C9,A9,B9,D9,E9,rfl,U⟩,H⟩;have i4:=hI H;replace p0:=zc p0 H;replace pT:=zc pT H;have Q:=zc b2 H;have N:=zc b3 H;have s0:=za Q 0 _ rfl;have f9:=zg Q 0;have s1:=za Q 1 _ rfl;have g3:=zg Q 1;have s2:=za Q 2 _ rfl;have g4:=zg Q 2;have t0:=za N 0 _ rfl;have g5:=zg N 0;have t1:=za N 1 _ rfl;have g6:=zg N 1;have t2:=za N 2 _ rfl;have g7:=zg N 2;have t3:=za N 3 _ rfl;have g8:=zg N 3;dsimp only))
     ·have e4:=zj d i4.out
      obtain⟨O,b6,b7,P,b8⟩:=zes e4 U.out Q N (by omega) (by omega) (int i64 0) (int i64 name) (int i64 price) (.slice none 0 0) rfl
      have a9:Hid _:=O;have a8:Hid _:=P;have i6:Hid _:=b8;clear O P b8;obtain⟨x0,x1,x2⟩:=ce3 b6;obtain⟨z0,z1,z2,z3⟩:=ce4 b7;go_wp2;exact bodyPost_ret (v:=.tuple #[.agg #[.slice d1 x.san e1,.slice d2 x.ldn e2,.slice d3 x.bkn e3],.agg #[int i64 0,int i64 name,int i64 price,.slice none 0 0]]) (by simp[results,Tryz.results104,go_sem,x0,x1,x2,z0,z1,z2,z3]) rfl ⟨⟨x,_,_,_,_,_,_,_,_,_,_,_,_,_,_,_,_,rfl,a9.out,.inr (.inr ⟨a6.out,M,x3,by rw[← HL.out];exact a7.out,c5.out,fun _=>rfl,fun h=>absurd HC.out h⟩),.inl rfl⟩,a8.out⟩
    ·have d1:(code != 0)=true:=by simpa using hc
     have d2:(code == 0)=false:=by simpa using hc
     clear hc;have bT:=heap_alloc_new we (.cells #[int i64 code,int i64 name,int i64 price,.slice none 0 0] 127);have d9:w.heap.size+1+1+1<we.heap.size:=zZ b3;go_upto_region 14 with fail;replace K:=ze K (.cells #[int i64 code,int i64 name,int i64 price,.slice none 0 0] 127);have j2:=b2;have j3:=b3;replace b2:=ze b2 (.cells #[int i64 code,int i64 name,int i64 price,.slice none 0 0] 127);replace b3:=ze b3 (.cells #[int i64 code,int i64 name,int i64 price,.slice none 0 0] 127);replace d:=zr d (.cells #[int i64 code,int i64 name,int i64 price,.slice none 0 0] 127);have d5:=ze f6 (.cells #[int i64 code,int i64 name,int i64 price,.slice none 0 0] 127);have c6:Hid _:=i8.out.below (zr bZ (.cells #[int i64 code,int i64 name,int i64 price,.slice none 0 0] 127));have c7:Hid (zA we (we.alloc (.cells #[int i64 code,int i64 name,int i64 price,.slice none 0 0] 127)) (fun b=>b=w.heap.size+1+1∨b=w.heap.size+1+1+1)):=zA.of_below (zr bZ _)
     generalize we.alloc (.cells #[int i64 code,int i64 name,int i64 price,.slice none 0 0] 127)=wf at bT K b2 b3 d d5 c6 c7 ⊢;generalize we.heap.size=tb at bT d9 ⊢;have p0:=K;have pT:=bT;have KS:Hid (∀ z:World,z.heap[w.heap.size]?=some (.cells #[.slice p x.san F,.slice n x.ldn t,.slice f x.bkn s] 66 (0,0))->z.heap[tb]?=some (.cells #[int i64 code,int i64 name,int i64 price,.slice none 0 0] 127 (0,0))->z.cell? ⟨w.heap.size,0,none⟩=some (.slice p x.san F)/\z.cell? ⟨w.heap.size,1,none⟩=some (.slice n x.ldn t)/\z.cell? ⟨w.heap.size,2,none⟩=some (.slice f x.bkn s)/\z.cell? ⟨tb,0,none⟩=some (int i64 code)/\z.cell? ⟨tb,1,none⟩=some (int i64 name)/\z.cell? ⟨tb,2,none⟩=some (int i64 price)/\z.cell? ⟨tb,3,none⟩=some (.slice none 0 0)):=fun z h1 T=>⟨za h1 0 _ rfl,za h1 1 _ rfl,za h1 2 _ rfl,za T 0 _ rfl,za T 1 _ rfl,za T 2 _ rfl,za T 3 _ rfl⟩
     have i5:Hid (∀ Z,Below wf.heap.size wf Z->Calls Tryz.prog 101 #[.agg #[.slice p x.san F,.slice n x.ldn t,.slice f x.bkn s]] Z fun e u=>(∃ d1 e1 d2 e2 d3 e3 L C A B D E,e=.returned (.agg #[.slice d1 x.san e1,.slice d2 x.ldn e2,.slice d3 x.bkn e3])/\Hid (zV u w.heap.size (.slice d1 x.san e1) (.slice d2 x.ldn e2) (.slice d3 x.bkn e3) x.san x.ldn x.bkn x L C A B D E))/\Below wf.heap.size wf u):=fun Z hZ=>by
      refine(zaj p n f x.san x.ldn x.bkn F t s x Z rfl rfl rfl HS.out (HM.out.1.below (zj d hZ)) (HM.out.2.1.below (zj d hZ)) (HM.out.2.2.1.below (zj d hZ))).mono ?_;rintro e u ⟨⟨d1,e1,d2,e2,d3,e3,L',C',A',B',D',E',rfl,h⟩,hb⟩;exact⟨⟨d1,e1,d2,e2,d3,e3,L',C',A',B',D',E',rfl,h.lower (zj d hZ).size⟩,zj hZ hb⟩
     go_region_held3 (fun w'=>w'.cell? ⟨w.heap.size,0,none⟩=some (.slice p x.san F)/\w'.cell? ⟨w.heap.size,1,none⟩=some (.slice n x.ldn t)/\w'.cell? ⟨w.heap.size,2,none⟩=some (.slice f x.bkn s)/\w'.cell? ⟨tb,0,none⟩=some (int i64 code)/\w'.cell? ⟨tb,1,none⟩=some (int i64 name)/\w'.cell? ⟨tb,2,none⟩=some (int i64 price)/\w'.cell? ⟨tb,3,none⟩=some (.slice none 0 0))
      (first|(refine KS.out _ ?_ ?_ <;> (repeat(first|with_reducible exact p0|with_reducible exact pT|(with_reducible refine zF ?_)|(with_reducible refine zD ?_ _ _ ?_;rotate_left;(focus omega))))))
      (first
       | (go_simp;go_at_call 101;(with_reducible refine Calls.mono (i5.out _ ?_) ?_);(focus(repeat(first | exact bZ | refine Below.drew ?_ | refine zr ?_ _)));rintro e u2 ⟨⟨d1,e1,d2,e2,d3,e3,L9,C9,A9,B9,D9,E9,rfl,U⟩,H⟩;have i4:=hI H;replace p0:=zc p0 H;replace pT:=zc pT H;have Q:=zc b2 H;have N:=zc b3 H;have s0:=za Q 0 _ rfl;have f9:=zg Q 0;have s1:=za Q 1 _ rfl;have g3:=zg Q 1;have s2:=za Q 2 _ rfl;have g4:=zg Q 2;have t0:=za N 0 _ rfl;have g5:=zg N 0;have t1:=za N 1 _ rfl;have g6:=zg N 1;have t2:=za N 2 _ rfl;have g7:=zg N 2;have t3:=za N 3 _ rfl;have g8:=zg N 3;dsimp only))
     ·have e4:=zj d i4.out
      obtain⟨O,b6,b7,P,b8⟩:=zes e4 U.out Q N (by omega) (by omega) (int i64 code) (int i64 name) (int i64 price) (.slice none 0 0) rfl
      have a9:Hid _:=O;have a8:Hid _:=P;have i6:Hid _:=b8;clear O P b8;obtain⟨x0,x1,x2⟩:=ce3 b6;obtain⟨z0,z1,z2,z3⟩:=ce4 b7;go_wp2;exact bodyPost_ret (v:=.tuple #[.agg #[.slice d1 x.san e1,.slice d2 x.ldn e2,.slice d3 x.bkn e3],.agg #[int i64 code,int i64 name,int i64 price,.slice none 0 0]]) (by simp[results,Tryz.results104,go_sem,x0,x1,x2,z0,z1,z2,z3]) rfl ⟨⟨x,_,_,_,_,_,_,_,_,_,_,_,_,_,_,_,_,rfl,a9.out,.inr (.inr ⟨a6.out,M,x3,by rw[← HL.out];exact a7.out,c5.out,fun _=>rfl,fun h=>absurd HC.out h⟩),.inl rfl⟩,a8.out⟩
   obtain⟨hc,hk⟩:=hc;subst hc;have d1:(y.kind == 1)=false:=by simpa using hk
   have n4:=hI hk;clear hk;have m7:x3.san=x.san/\x3.ldn=x.san:=⟨c5.out.size.1,c5.out.size.2.trans e7.out⟩;obtain⟨q7,n2,q6,n1,c8,l0⟩:=x3;obtain⟨e1,e2⟩:=m7;dsimp only at e1 e2 f6;subst e1;subst e2;have k6:=hI i8.out;have bT:=heap_alloc_new we (.cells #[int i64 0,int i64 name,int i64 price,.slice ra rn rc] 127);have d9:w.heap.size+1+1+1<we.heap.size:=zZ b3;go_upto_region 15 with fail;replace K:=ze K (.cells #[int i64 0,int i64 name,int i64 price,.slice ra rn rc] 127);have j2:=b2;have j3:=b3;replace b2:=ze b2 (.cells #[int i64 0,int i64 name,int i64 price,.slice ra rn rc] 127);replace b3:=ze b3 (.cells #[int i64 0,int i64 name,int i64 price,.slice ra rn rc] 127);replace d:=zr d (.cells #[int i64 0,int i64 name,int i64 price,.slice ra rn rc] 127);have d5:=ze f6 (.cells #[int i64 0,int i64 name,int i64 price,.slice ra rn rc] 127);have c6:Hid _:=k6.out.below (zr bZ (.cells #[int i64 0,int i64 name,int i64 price,.slice ra rn rc] 127));have c7:Hid (zA we (we.alloc (.cells #[int i64 0,int i64 name,int i64 price,.slice ra rn rc] 127)) (fun b=>b=w.heap.size+1+1∨b=w.heap.size+1+1+1)):=zA.of_below (zr bZ _)
   generalize we.alloc (.cells #[int i64 0,int i64 name,int i64 price,.slice ra rn rc] 127)=wf at bT K b2 b3 d d5 c6 c7 ⊢;generalize we.heap.size=tb at bT d9 ⊢;have p0:=d5;have pT:=bT;have KS:Hid (∀ z:World,z.heap[qb]?=some (.cells #[.slice a1 x.san c1,.slice R x.san S,.slice d7 c8 d8] 66 (0,0))->z.heap[tb]?=some (.cells #[int i64 0,int i64 name,int i64 price,.slice ra rn rc] 127 (0,0))->z.cell? ⟨qb,0,none⟩=some (.slice a1 x.san c1)/\z.cell? ⟨qb,1,none⟩=some (.slice R x.san S)/\z.cell? ⟨qb,2,none⟩=some (.slice d7 c8 d8)/\z.cell? ⟨tb,0,none⟩=some (int i64 0)/\z.cell? ⟨tb,1,none⟩=some (int i64 name)/\z.cell? ⟨tb,2,none⟩=some (int i64 price)/\z.cell? ⟨tb,3,none⟩=some (.slice ra rn rc)):=fun z h1 T=>⟨za h1 0 _ rfl,za h1 1 _ rfl,za h1 2 _ rfl,za T 0 _ rfl,za T 1 _ rfl,za T 2 _ rfl,za T 3 _ rfl⟩
   have Q:=b2;have N:=b3;obtain⟨s0,s1,s2⟩:=ce3 Q;obtain⟨f9,g3,g4⟩:=fe3 Q;obtain⟨t0,t1,t2,t3⟩:=ce4 N;obtain⟨g5,g6,g7,g8⟩:=fe4 N;go_region_held3 (fun w'=>w'.cell? ⟨qb,0,none⟩=some (.slice a1 x.san c1)/\w'.cell? ⟨qb,1,none⟩=some (.slice R x.san S)/\w'.cell? ⟨qb,2,none⟩=some (.slice d7 c8 d8)/\w'.cell? ⟨tb,0,none⟩=some (int i64 0)/\w'.cell? ⟨tb,1,none⟩=some (int i64 name)/\w'.cell? ⟨tb,2,none⟩=some (int i64 price)/\w'.cell? ⟨tb,3,none⟩=some (.slice ra rn rc))
    (first|(refine KS.out _ ?_ ?_ <;> (repeat(first|with_reducible exact p0|with_reducible exact pT|(with_reducible refine zF ?_)|(with_reducible refine zD ?_ _ _ ?_;rotate_left;(focus omega))))))
    (fail)
   ·have e4:=d
    obtain⟨O,b6,b7,P,b8⟩:=zes e4 (c6.out.lower i0) Q N (by omega) (by omega) (int i64 0) (int i64 name) (int i64 price) (.slice ra rn rc) rfl
    have a9:Hid _:=O.below (Below.drew bZ);have a8:Hid _:=Below.drew P;have i6:Hid _:=b8.trans (zA.of_below (Below.drew bZ));clear O P b8;obtain⟨x0,x1,x2⟩:=ce3 (zF b6);obtain⟨z0,z1,z2,z3⟩:=ce4 (zF b7);go_wp2;refine bodyPost_ret (v:=.tuple #[.agg #[.slice a1 x.san c1,.slice R x.san S,.slice d7 c8 d8],.agg #[int i64 0,int i64 name,int i64 price,.slice ra rn rc]]) (by simp[results,Tryz.results104,go_sem,x0,x1,x2,z0,z1,z2,z3]) rfl ⟨⟨⟨x.san,n2,x.san,n1,c8,l0⟩,a1,c1,R,S,d7,d8,0,name,price,.slice ra rn rc,L,C,A,B,D,E',rfl,?_,?_,?_⟩,a8.out⟩
    ·exact a9.out
    ·exact .inr (.inr ⟨a6.out,M,⟨x.san,n2,x.san,n1,c8,l0⟩,by rw[← HL.out];exact a7.out,c5.out,fun h=>by rcases h with h|h;exact absurd rfl h;exact absurd h n4.out,fun _=>rfl⟩)
    ·exact .inr ⟨M,_,zgk k8.out (c7.out.trans i6.out) (fun g e=>by rcases e with e|e;exact⟨_,_,by rw[e];exact j2,by decide⟩;exact⟨_,_,by rw[e];exact j3,by decide⟩)⟩
theorem zhl {x:Off}{M:Nat->qT}{n B:Nat}(hB:60<=B)(hn:n=x.san)(h:∀ i,i<x.san->qJ (x.sa i) (M i)):zci n M B:=fun i hi=>by
 have g:=h i (by omega)
 exact⟨by have:=((Ql _ _ _).1 g.1).2.1;show(M i).stn<=_;omega,by have:=g.2.1.2.1;show(M i).ron<=_;omega,by have:=g.2.2.2.1;show(M i).sen<=_;omega⟩
theorem zeZ.short {x:Off}{a:Int}{y:OpD}{m:Nat}{k:Off}{code name price:Int}{B:Nat}(h:zeZ x a y m k code name price)(o:Off.Short x B)(hB:60<=B)(j:y.own.size<=B)(hl:y.lgn<=3):Off.Short k B:=by
 obtain⟨d,e,b⟩:=o
 rcases h with⟨_,rfl,_⟩|⟨_,rfl,_⟩|⟨_,_,rfl,_⟩|⟨_,l,rfl,_⟩|⟨_,n,rfl,_⟩
 ·exact⟨d,e,b⟩
 ·exact⟨d,e,b⟩
 ·exact⟨d,e,b⟩
 ·refine⟨d,e,by show x.bkn+1<=B;omega,fun i g=>?_⟩
  by_cases c:i=x.bkn
  ·show ZK.Short (QC x.bk x.bkn (Qa x.bkn a y) i) B
   rw[c,Zn];exact⟨j,by show y.lgn<=B;omega⟩
  ·show ZK.Short (QC x.bk x.bkn (Qa x.bkn a y) i) B
   rw[Qr _ _ _ c];exact b.2 i (by have:i<x.bkn+1:=g;omega)
 ·refine⟨d,e,b.1,fun i g=>?_⟩
  show ZK.Short (QC x.bk m (qA (x.bk m) a y) i) B
  by_cases c:i=m
  ·rw[c,Zn]
   have f:=b.2 m n;unfold qA
   split
   ·exact f
   ·split
    ·exact⟨f.1,by show y.lgn<=B;omega⟩
    ·split
     ·exact f
     ·split
      ·exact⟨j,f.2⟩
      ·exact f
  ·rw[Qr _ _ _ c]
   exact b.2 i g
theorem OpTo.short {x:Off}{b:Int}{y:OpD}{m:Nat}{f:Off}{code name price:Int}{B:Nat}(h:OpTo x b y m f code name price)(j:Zy x)(a:Off.Short x B)(e:60<=B)(n:y.own.size<=B):Off.Short f B:=by
 rcases h with⟨_,rfl,_⟩|⟨_,_,rfl,_⟩|⟨l,M,x3,d,k,g,i⟩
 ·exact a
 ·exact a
 ·by_cases c:code≠0∨y.kind=1
  ·rw[g c];exact a
  ·rw[i c]
   exact k.short ⟨a.1,⟨a.2.1.1,zhl e j.2.1 d.good⟩,a.2.2⟩ e n (zhh l.1).2
theorem OpTo.few {x:Off}{d:Int}{y:OpD}{m:Nat}{b:Off}{code name price:Int}(h:OpTo x d y m b code name price)(i:Zy x):b.bkn<=30/\b.san=x.san/\b.sa=x.sa:=by
 have a:=i.2.2.1
 rcases h with⟨_,rfl,_⟩|⟨_,_,rfl,_⟩|⟨hf,M,x3,k,j,f,g⟩
 ·exact⟨a,rfl,rfl⟩
 ·exact⟨a,rfl,rfl⟩
 ·by_cases c:code≠0∨y.kind=1
  ·rw[f c];exact⟨a,rfl,rfl⟩
  ·rw[g c]
   rcases j with⟨_,rfl,_⟩|⟨_,rfl,_⟩|⟨_,_,rfl,_⟩|⟨_,e,rfl,_⟩|⟨_,_,rfl,_⟩
   ·exact⟨a,rfl,rfl⟩
   ·exact⟨a,rfl,rfl⟩
   ·exact⟨a,rfl,rfl⟩
   ·exact⟨by have e:x.bkn<30:=e;show x.bkn+1<=30;omega,rfl,rfl⟩
   ·exact⟨a,rfl,rfl⟩
theorem zfv (p:UInt8):∀ (l:List (List UInt8))(q:List UInt8),q ∈ l->q.length<=(Lib.join l [p]).length
 | [],_,h=>by cases h
 | [a],q,h=>by simp at h;rw[Lib.join_one,h];exact Nat.le_refl _
 | a :: b :: r,q,h=>by
  rw[zaN]
  rcases List.mem_cons.1 h with h|h
  ·rw[h];simp
  ·have:=zfv p (b :: r) q h
   simp
   omega
theorem zdd {p:UInt8}{s:ByteArray}{l:List ByteArray}(h:Q2 p s l):∀ q,q ∈ l->q.size<=s.size:=fun q b=>by
 have a:=zfv p (l.map (·.data.toList)) q.data.toList (List.mem_map.2 ⟨q,b,rfl⟩);rw[h.list.2.1] at a
 simpa using a
def zgy (x y:OpD):Prop:=x.kind=y.kind/\x.own=y.own/\x.name=y.name/\x.lgn=y.lgn/\(∀ i,i<y.lgn->x.lg i=y.lg i)/\x.p=y.p/\x.unt=y.unt/\x.now=y.now
def zbF (p:UInt8)(s:ByteArray):Prop:=p∉s.data.toList
theorem qB {p:UInt8}(b:¬ ZS p){m:Int}(h:0<=m):zbF p (qf m):=fun a=>by
 rw[zay h] at a;exact b (zex _ p a)
theorem Zu {p:UInt8}{a b:ByteArray}(c:zbF p a)(d:zbF p b):zbF p (a++b):=by
 unfold zbF at *;simp[c,d]
theorem zae {p q:UInt8}(h:p≠q):zbF p ⟨#[q]⟩:=by
 unfold zbF
 simpa using h
theorem zcd (p:UInt8):zbF p ⟨#[]⟩:=by
 unfold zbF;simp
theorem zdC {p:UInt8}{s:ByteArray}(h:qK s)(g:¬ Qx (p.toNat:Int)):zbF p s:=fun f=>by
 obtain⟨i,b⟩:=List.mem_iff_getElem?.1 f;have a:i<s.size:=by
  rcases Nat.lt_or_ge i s.data.toList.length with c|c
  ·rwa [Array.length_toList] at c
  ·rw[List.getElem?_eq_none c] at b;cases b
 rw[zez a] at b;have d:=h.2.2 i a;rw[← zbG s i a] at d;have e:s[i]'a=p:=by simpa using b
 rw[e] at d;exact g d
theorem zgz {p q:UInt8}(g:p≠q):∀ (l:List ByteArray),(∀ x,x ∈ l->zbF p x)->zbF p (qD (oneT q) l):=by
 intro l hl;have o:∀ m:List (List UInt8),(∀ x,x ∈ m->p∉x)->p∉Lib.join m [q]:=by
  intro m
  match m with
  | []=>intro _;simp[Lib.join_nil]
  | [a]=>intro h;rw[Lib.join_one];exact h a (by simp)
  | a :: b :: r =>
   intro h;have n:=fun s=>(show p∉Lib.join (b :: r) [q] from by
    have:∀ k:List (List UInt8),k.length<=(b :: r).length->(∀ x,x ∈ k->p∉x)->p∉Lib.join k [q]:=by
     intro k
     induction k with
     | nil=>intro _ _;simp[Lib.join_nil]
     | cons c t n =>
      intro f e
      cases t with
      | nil=>rw[Lib.join_one];exact e c (by simp)
      | cons d u =>
       rw[zaN];have v:=n (by simp at f ⊢;omega) (fun x i=>e x (by simp at i ⊢;exact .inr i))
       have j:=e c (by simp)
       simp[v,j,g]
    exact this (b :: r) (Nat.le_refl _) s)
   rw[zaN];have j:=h a (by simp)
   have w:=n (fun x e=>h x (by simp at e ⊢;exact .inr e))
   simp[j,w,g]
 have:=o (l.map (·.data.toList)) (fun x e=>by
  obtain⟨y,z,rfl⟩:=List.mem_map.1 e;exact hl y z)
 unfold zbF qD oneT
 simpa using this
theorem zcP {p:UInt8}{s a b:ByteArray}{f:Bool}(h:zgv p s a b f):Z4 p s=a/\Z5 p s=b/\zbw p s=f:=cut_one (cut_is p s) h
theorem zfw {p:UInt8}{s:ByteArray}(h:zbF p s):zgv p s s ⟨#[]⟩ false:=⟨h,.inr ⟨rfl,rfl,rfl⟩⟩
theorem zgA {p:UInt8}{s a b:ByteArray}(h:zbF p a)(e:s=a++(⟨#[p]⟩++b)):zgv p s a b true:=⟨h,.inl ⟨rfl,by rw[e];simp⟩⟩
theorem nd64:¬ ZS 64:=by unfold ZS;decide
theorem nd43:¬ ZS 43:=by unfold ZS;decide
theorem nd47:¬ ZS 47:=by unfold ZS;decide
theorem nd120:¬ ZS 120:=by unfold ZS;decide
theorem nd44:¬ ZS 44:=by unfold ZS;decide
theorem nd32:¬ ZS 32:=by unfold ZS;decide
theorem ziB {p:Zf}(n:qI p):zcb (qC p)=p:=by
 obtain⟨pe,len,hei,cl,all,be⟩:=p;have r:=n;unfold qI Q3 zbH In at n;dsimp only at n;have i:0<=pe/\pe<=99999:=by omega
 have b1:0<=len/\len<=99999:=by omega
 have b2:0<=hei/\hei<=99999:=by omega
 have b3:0<=cl/\cl<=99999:=by omega
 have b4:0<=be/\be<=99999:=by omega
 have g:∀ q:UInt8,¬ ZS q->q≠43->q≠47->zbF q (zaS ⟨pe,len,hei,cl,all,be⟩):=fun q d j f=>by
  unfold zaS
  split
  ·exact zcd q
  ·exact Zu (zae j) (Zu (Zu (qB d b1.1) (zae f)) (qB d b2.1))
 -- ahead of the cabin: people and car
 have k:Z4 43 (qf pe++zaS ⟨pe,len,hei,cl,all,be⟩)=qf pe/\(if zbw 43 (qf pe++zaS ⟨pe,len,hei,cl,all,be⟩) then zI (Z4 47 (Z5 43 (qf pe++zaS ⟨pe,len,hei,cl,all,be⟩))) else 0)=len/\(if zbw 43 (qf pe++zaS ⟨pe,len,hei,cl,all,be⟩) then zI (Z5 47 (Z5 43 (qf pe++zaS ⟨pe,len,hei,cl,all,be⟩))) else 0)=hei:=by
  by_cases c:len=0/\hei=0
  ·have e:qf pe++zaS ⟨pe,len,hei,cl,all,be⟩=qf pe:=by
    unfold zaS;rw[if_pos c];exact ByteArray.append_empty
   rw[e];obtain⟨d,_,f⟩:=zcP (zfw (qB nd43 i.1));rw[d,f];exact⟨rfl,c.1.symm,c.2.symm⟩
  ·have e:zaS ⟨pe,len,hei,cl,all,be⟩=⟨#[43]⟩++(qf len++⟨#[47]⟩++qf hei):=by unfold zaS;rw[if_neg c]
   rw[e];obtain⟨d,j,f⟩:=zcP (zgA (p:=43) (a:=qf pe) (b:=qf len++⟨#[47]⟩++qf hei) (qB nd43 i.1) rfl);obtain⟨k1,k2,_⟩:=zcP (zgA (p:=47) (s:=qf len++⟨#[47]⟩++qf hei) (a:=qf len) (b:=qf hei) (qB nd47 b1.1) (by rw[ByteArray.append_assoc]))
   rw[d,j,f,k1,k2];exact⟨rfl,qH b1,qH b2⟩
 by_cases c:cl=0
 ·have e:qC ⟨pe,len,hei,cl,all,be⟩=qf pe++zaS ⟨pe,len,hei,cl,all,be⟩:=by unfold qC;rw[if_pos c]
  have m:zbF 64 (qf pe++zaS ⟨pe,len,hei,cl,all,be⟩):=Zu (qB nd64 i.1) (g 64 nd64 (by decide) (by decide))
  obtain⟨d,j,f⟩:=zcP (zfw m);have o:all=false/\be=0:=by
   rcases r.2.2 with h|h
   ·exact h.2
   ·have:=h.1.1
    have:1<=cl:=this
    omega
  rw[e];unfold zcb;rw[d,f,k.1,k.2.1,k.2.2,qH i];obtain⟨rfl,rfl⟩:=o;subst c
  rfl
 ·have e:qC ⟨pe,len,hei,cl,all,be⟩=(qf pe++zaS ⟨pe,len,hei,cl,all,be⟩)++(⟨#[64]⟩++(qf cl++zhN ⟨pe,len,hei,cl,all,be⟩)):=by
   unfold qC cabT;rw[if_neg c,if_neg c];simp only[ByteArray.append_assoc]
  have m:zbF 64 (qf pe++zaS ⟨pe,len,hei,cl,all,be⟩):=Zu (qB nd64 i.1) (g 64 nd64 (by decide) (by decide))
  obtain⟨d,j,f⟩:=zcP (zgA m rfl);have o:=r.2.2;rw[e];unfold zcb;rw[d,j,f,k.1,k.2.1,k.2.2,qH i]
  cases all with
  | true =>
   have l:qf cl++zhN ⟨pe,len,hei,cl,true,be⟩=qf cl:=by
    unfold zhN;rw[if_pos rfl];exact ByteArray.append_empty
   obtain⟨k1,k2,k3⟩:=zcP (zfw (qB nd120 b3.1));rw[l,k1,k3,qH b3];have t:be=0:=by
    rcases o with h|h
    ·exact absurd h.1 c
    ·rcases h.2 with h|h
     ·exact h.2
     ·exact absurd h.1 (by simp)
   subst t
   rfl
  | false =>
   have l:qf cl++zhN ⟨pe,len,hei,cl,false,be⟩=qf cl++(⟨#[120]⟩++qf be):=by
    unfold zhN;rw[if_neg (by simp)]
   obtain⟨k1,k2,k3⟩:=zcP (zgA (p:=120) (a:=qf cl) (b:=qf be) (qB nd120 b3.1) rfl);rw[l,k1,k2,k3,qH b3,qH b4]
   rfl
theorem zeB {n:Nat}{f:Nat->Int}(hn:0<n)(h:∀ i,i<n->In (f i) 0 99999):Q2 44 (ZB n f) ((List.range n).map (fun i=>qf (f i))):=by
 refine⟨by intro e;have:=congrArg List.length e;simp at this;omega,rfl,fun q b=>?_⟩
 obtain⟨i,a,rfl⟩:=List.mem_map.1 b;exact qB nd44 (h i (by simpa using a)).1
theorem legs_not {n:Nat}{f:Nat->Int}(hn:0<n)(h:∀ i,i<n->In (f i) 0 99999):ZB n f≠⟨#[45]⟩:=fun e=>by
 have c:=zeB hn h;rw[e] at c;have a:Q2 44 ⟨#[45]⟩ [⟨#[45]⟩]:=⟨by simp,ZH _ _,fun q a=>by simp at a;rw[a];simp⟩
 have d:=zax c a;have b:((List.range n).map (fun i=>qf (f i)))[0]?=some (qf (f 0)):=by
  rw[List.getElem?_map,List.getElem?_range hn]
  rfl
 rw[d] at b;have g:(⟨#[45]⟩:ByteArray)=qf (f 0):=by simpa using b
 have:zbF 45 (qf (f 0)):=qB (by unfold ZS;decide) (h 0 hn).1
 rw[← g] at this;exact this (by simp)
theorem legs_back {n:Nat}{f:Nat->Int}{L:List Int}(hn:0<n)(h:∀ i,i<n->In (f i) 0 99999)(b:zbr (ZB n f) L):L.length=n/\∀ i,i<n->getI L i=f i:=by
 rcases b.2 with⟨e,_⟩|⟨_,l,hl,rfl⟩
 ·exact absurd e (legs_not hn h)
 ·have e:=zax hl (zeB hn h)
  subst e;refine⟨by simp,fun i a=>?_⟩
  unfold getI;rw[List.getD_eq_getElem?_getD,List.getElem?_map,List.getElem?_map,List.getElem?_range a];exact qH (h i a)
theorem free_word:∀ k,k<10->zbF 32 (zP k):=by
 intro k hk;unfold zbF;have a:k=0∨k=1∨k=2∨k=3∨k=4∨k=5∨k=6∨k=7∨k=8∨k=9:=by omega
 rcases a with rfl|rfl|rfl|rfl|rfl|rfl|rfl|rfl|rfl|rfl <;> decide
theorem ziC {q:UInt8}(a:¬ ZS q)(i:q≠43)(j:q≠47)(k:q≠64)(l:q≠120){p:Zf}(n:qI p):zbF q (qC p):=by
 unfold qI Q3 zbH In at n;have b:=qB a (m:=p.pe) (by omega)
 have d:=qB a (m:=p.len) (by omega)
 have e:=qB a (m:=p.hei) (by omega)
 have f:=qB a (m:=p.cl) (by omega)
 have a4:=qB a (m:=p.be) (by omega)
 have c:zbF q (zaS p):=by
  unfold zaS
  split
  ·exact zcd q
  ·exact Zu (zae i) (Zu (Zu d (zae j)) e)
 have g:zbF q (cabT p):=by
  unfold cabT
  split
  ·exact zcd q
  ·exact Zu (zae k) f
 have h:zbF q (zhN p):=by
  unfold zhN
  split
  ·exact zcd q
  ·exact Zu (zae l) a4
 unfold qC
 split
 ·exact Zu b c
 ·exact Zu (Zu (Zu b c) g) h
theorem zcz {b:Bool}{q p:ByteArray}(h:p ∈ opt b q):b=true/\p=q:=by
 unfold opt at h
 cases b with
 | false=>simp at h
 | true=>simp at h;exact⟨rfl,h⟩
theorem parts_op {y:OpD}(h:qn y):Q2 32 (opT y) (zcv y):=by
 refine⟨by simp[zcv,zcg,zbX,zbW,zcf,zbV,zcJ],rfl,fun p a=>?_⟩
 obtain⟨k,b⟩:∃ k,k=y.kind.toNat:=⟨_,rfl⟩;have d:k<10:=by have:=h.1.1;unfold In at this;omega
 unfold zcv zcg zbX zbW zcf zbV zcJ at a;rw[← b] at a;simp only[List.mem_append,List.mem_singleton] at a
 rcases a with((((((a|a)|a)|a)|a)|a)|a)
 ·rw[a];exact free_word k d
 ·obtain⟨q,rfl⟩:=zcz a
  exact qB nd32 (rng1 h b.symm q).1
 ·obtain⟨q,rfl⟩:=zcz a
  have c:=h.1.2.1;unfold qO at c
  split at c
  ·exact zdC c (by unfold Qx;decide)
  ·have e:y.own=⟨#[]⟩:=by
    apply ByteArray.ext
    exact Array.eq_empty_of_size_eq_zero c
   rw[e];exact zcd 32
 ·obtain⟨q,rfl⟩:=zcz a
  exact zgz (q:=44) (by decide) _ (fun x g=>by
   obtain⟨i,f,rfl⟩:=List.mem_map.1 g;exact qB nd32 (h.2 i (by simpa using f)).1)
 ·obtain⟨q,rfl⟩:=zcz a
  exact ziC nd32 (by decide) (by decide) (by decide) (by decide) (rng4 h b.symm q)
 ·obtain⟨q,rfl⟩:=zcz a
  exact qB nd32 (rng5 h b.symm q).1
 ·obtain⟨q,rfl⟩:=zcz a
  exact qB nd32 (rng6 h b.symm q).1
theorem zgB (b:Bool)(p:ByteArray)(L:List ByteArray):nx b (opt b p++L)=L:=by
 cases b <;> rfl
theorem zeC {b:Bool}(h:b=true)(p:ByteArray)(L:List ByteArray):hd (opt b p++L)=p:=by
 subst h
 rfl
theorem op_list (y:OpD):zcv y=zP y.kind.toNat :: (opt (qM y.kind.toNat) (qf y.name)++(opt (qr y.kind.toNat) y.own++(opt (decide (0<qx y.kind.toNat)) (ZB y.lgn y.lg)++(opt (qp y.kind.toNat) (qC y.p)++(opt (qs y.kind.toNat) (qf y.unt)++(opt (Qg y.kind.toNat) (qf y.now)++[])))))):=by
 unfold zcv zcg zbX zbW zcf zbV zcJ;simp only[List.append_assoc,List.cons_append,List.nil_append,List.append_nil]
theorem zero_name {y:OpD}{k:Nat}(h:qn y)(hk:y.kind.toNat=k)(b:qM k=false):y.name=0:=by
 have a:=h.1.2.2.1;have d:=h.1.1;unfold Zp at a;unfold In at d;rw[if_neg] at a
 ·exact a
 ·intro c
  unfold In at c;unfold qM at b;exact absurd (⟨by omega,by omega⟩:4<=k/\k<=8) (of_decide_eq_false b)
theorem zero_own {y:OpD}{k:Nat}(h:qn y)(hk:y.kind.toNat=k)(b:qr k=false):y.own=⟨#[]⟩:=by
 have a:=h.1.2.1;have c:=h.1.1;unfold qO at a;unfold In at c;unfold qr at b;have b:=of_decide_eq_false b;rw[if_neg (by omega)] at a
 apply ByteArray.ext
 exact Array.eq_empty_of_size_eq_zero a
theorem zero_legs {y:OpD}{k:Nat}(h:qn y)(hk:y.kind.toNat=k)(a:decide (0<qx k)=false):y.lgn=0:=by
 have b:=h.1.2.2.2.1;have e:=h.1.1;have a:=of_decide_eq_false a;unfold In at e;unfold qj at b;unfold qx at a
 by_cases c:zR y.kind
 ·unfold zR at c
  rw[if_pos (by omega)] at a
  omega
 ·rw[if_neg c] at b
  unfold zR at c;rw[if_neg (by omega)] at a
  by_cases d:y.kind=9
  ·rw[if_pos (by omega)] at a
   omega
  ·rw[if_neg d] at b
   exact b
theorem ziD {y:OpD}{k:Nat}(h:qn y)(j:y.kind.toNat=k)(i:qp k=false):y.p=ZA:=by
 have g:=h.1.2.2.2.2.1;unfold qt at g;rw[if_neg (fun c=>by rw[(zcw h j).2 c] at i;cases i)] at g
 unfold zby at g;generalize y.p=p at g;obtain⟨a,b,c,d,e,f⟩:=p;obtain⟨rfl,rfl,rfl,rfl,rfl,rfl⟩:=g
 rfl
theorem zero_unt {y:OpD}{k:Nat}(h:qn y)(hk:y.kind.toNat=k)(b:qs k=false):y.unt=0:=by
 have a:=h.1.2.2.2.2.2.1;unfold qs at b;have b:=of_decide_eq_false b
 rcases a with a|a
 ·exact a
 ·exact absurd (by omega) b
theorem zero_now {y:OpD}{k:Nat}(h:qn y)(hk:y.kind.toNat=k)(b:Qg k=false):y.now=0:=by
 have a:=h.1.2.2.2.2.2.2;unfold Qg at b;have b:=of_decide_eq_false b
 rcases a with a|a
 ·exact a
 ·exact absurd (by omega) b
theorem read_back {y:OpD}(h:qn y){l:List ByteArray}{x:OpR}(hl:Q2 32 (opT y) l)(d:zhR l x):zgy x.d y:=by
 have e:=zax hl (parts_op h);obtain⟨k,a⟩:∃ k,y.kind.toNat=k:=⟨_,rfl⟩;have p:y.kind=(k:Int):=by have:=h.1.1;unfold In at this;omega
 have o:k<10:=by have:=h.1.1;unfold In at this;omega
 rw[op_list,a] at e;have s:=d.kind;have f:=d.name;have g:=d.own;have b:=d.legs;have j:=d.party;have m:=d.unt;have n:=d.now;have u:hd l=zP k:=by rw[e];rfl
 have v:Zl (hd l)=k:=by rw[u];exact zhy o
 rw[v] at s f g b j m n;have d1:wd1 l=opt (qM k) (qf y.name)++(opt (qr k) y.own++(opt (decide (0<qx k)) (ZB y.lgn y.lg)++(opt (qp k) (qC y.p)++(opt (qs k) (qf y.unt)++(opt (Qg k) (qf y.now)++[]))))):=by rw[e];rfl
 have d2:wd2 k l=opt (qr k) y.own++(opt (decide (0<qx k)) (ZB y.lgn y.lg)++(opt (qp k) (qC y.p)++(opt (qs k) (qf y.unt)++(opt (Qg k) (qf y.now)++[])))):=by unfold wd2;rw[d1,zgB]
 have d3:wd3 k l=opt (decide (0<qx k)) (ZB y.lgn y.lg)++(opt (qp k) (qC y.p)++(opt (qs k) (qf y.unt)++(opt (Qg k) (qf y.now)++[]))):=by unfold wd3;rw[d2,zgB]
 have d4:wd4 k l=opt (qp k) (qC y.p)++(opt (qs k) (qf y.unt)++(opt (Qg k) (qf y.now)++[])):=by unfold wd4;rw[d3,zgB]
 have q:wd5 k l=opt (qs k) (qf y.unt)++(opt (Qg k) (qf y.now)++[]):=by unfold wd5;rw[d4,zgB]
 have t:wd6 k l=opt (Qg k) (qf y.now)++[]:=by unfold wd6;rw[q,zgB]
 rw[d1] at f;rw[d2] at g;rw[d3] at b;rw[d4] at j;rw[q] at m;rw[t] at n;have w:x.name=y.name:=by
  cases c:qM k with
  | false=>rw[c] at f;rw[zero_name h a c];exact f
  | true =>
   rw[zeC c,c] at f;have:=rng1 h a c;rw[f];exact qH ⟨this.1,by omega⟩
 have z:x.own=y.own:=by
  cases c:qr k with
  | false=>rw[c] at g;rw[zero_own h a c];exact g
  | true=>rw[zeC c,c] at g;exact g
 have r:x.L.length=y.lgn/\∀ i,i<y.lgn->getI x.L i=y.lg i:=by
  cases c:decide (0<qx k) with
  | false =>
   have b:x.L=[]:=b.2 c;rw[zero_legs h a c,b];exact⟨rfl,fun i hi=>by omega⟩
  | true =>
   have b:=b.1 c;rw[zeC c] at b;exact legs_back (rng3 h a c).1 h.2 b
 have A:x.p=y.p:=by
  cases c:qp k with
  | false=>rw[c] at j;rw[ziD h a c];exact j
  | true =>
   rw[zeC c,c] at j;rw[j];exact ziB (rng4 h a c)
 have B:x.unt=y.unt:=by
  cases c:qs k with
  | false=>rw[c] at m;rw[zero_unt h a c];exact m
  | true =>
   rw[zeC c,c] at m;have:=rng5 h a c;rw[m];exact qH ⟨this.1,by omega⟩
 have C:x.now=y.now:=by
  cases c:Qg k with
  | false=>rw[c] at n;rw[zero_now h a c];exact n
  | true =>
   rw[zeC c,c] at n;have:=rng6 h a c;rw[n];exact qH ⟨this.1,by omega⟩
 exact⟨by rw[p];exact s,z,w,r.1,r.2,A,B,C⟩
def noOp:OpR:=⟨0,⟨#[]⟩,0,.slice none 0 0,[],ZA,0,0⟩
def AnsOp (s:ByteArray)(x y:OpR)(ok:Bool):Prop:=(ok=true/\qn x.d/\opT x.d=s/\y=x)∨(ok=false/\¬ (qn x.d/\opT x.d=s)/\y=noOp)
structure zfx (s:ByteArray)(w w':World)(y:OpR)(ok:Bool):Prop where
 ans:∃ x,AnsOp s x y ok/\∀ z,qn z->opT z=s->zgy x.d z
 own:w'.ownsRow w.heap.size 3 1 y.v y.L.length (QK y.L)
 few:y.L.length<=4194304
 bel:Below w.heap.size w w'
def ReadPost (s:ByteArray)(w:World)(e:Ending)(w':World):Prop:=∃ y ok,e=.returned (.tuple #[.agg y.cs,.bool ok])/\zfx s w w' y ok
theorem legs_few {l:List ByteArray}{x:OpR}(h:zhR l x)(hl:∀ q,q ∈ l->q.size<=1048576):x.L.length<=1048577/\x.own.size<=1048576:=by
 have a:∀ q,q ∈ wd1 l->q ∈ l:=fun q e=>List.mem_of_mem_tail e
 have d:∀ (b:Bool) (L:List ByteArray),(∀ q,q ∈ L->q ∈ l)->∀ q,q ∈ nx b L->q ∈ l:=fun b L f q e=>by
  unfold nx at e
  split at e
  ·exact f q (List.mem_of_mem_tail e)
  ·exact f q e
 have g:∀ L:List ByteArray,(∀ q,q ∈ L->q ∈ l)->(hd L).size<=1048576:=fun L f=>by
  unfold hd
  cases L with
  | nil=>exact Nat.zero_le _
  | cons q r=>exact hl q (f q (by simp))
 constructor
 ·cases c:decide (0<qx (Zl (hd l))) with
  | true =>
   have h1:=(h.legs.1 c).1;have h2:=g (wd3 (Zl (hd l)) l) (d _ _ (d _ _ a))
   omega
  | false=>rw[h.legs.2 c];simp
 ·rw[h.own]
  split
  ·exact g _ (d _ _ a)
  ·exact Nat.zero_le _
theorem zgC (s:ByteArray)(w:World)(hs:s.size<=1048576)(hP:PowAt w)(hF:Qb w)(hW:Qc w) :
  Calls Tryz.prog 7 #[.string s] w fun e w'=>ReadPost s w e w':=by
 have I:Hid (PowAt w/\Qb w/\Qc w):=⟨hP,hF,hW⟩;have a3:4<w.heap.size/\0<w.heap.size/\1<w.heap.size:=⟨by
  have h:=hP;unfold PowAt Lib.TabIs World.var? at h;rw[Tryz.gPow] at h;simp only[Option.bind_some] at h
  rcases Nat.lt_or_ge 4 w.heap.size with h'|h'
  ·exact h'
  ·rw[Array.getElem?_eq_none h'] at h;simp at h,hF.lt,hW.lt⟩
 clear hP hF hW;have Y:=heap_alloc_new w (.cells #[int i64 0,.string ⟨#[]⟩,int i64 0,.slice none 0 0,int i64 0,int i64 0,int i64 0,int i64 0,.bool false,int i64 0,int i64 0,int i64 0] 27);have n:Below w.heap.size w (w.alloc (.cells #[int i64 0,.string ⟨#[]⟩,int i64 0,.slice none 0 0,int i64 0,int i64 0,int i64 0,int i64 0,.bool false,int i64 0,int i64 0,int i64 0] 27)):=zr bZ _;go_enter Tryz.func7,Tryz.ntmps7;go_upto_region 1 with fail;generalize w.alloc (.cells #[int i64 0,.string ⟨#[]⟩,int i64 0,.slice none 0 0,int i64 0,int i64 0,int i64 0,int i64 0,.bool false,int i64 0,int i64 0,int i64 0] 27)=W at Y n ⊢;have b9:=n.size;go_wp2_with fail;refine(zdB s _ hs).mono ?_;rintro e w1 ⟨b,l,rfl,a2,j,o⟩;have a:=zj n o;have U:=zc Y o;have HL:Hid (∀ q,q ∈ l->q.size<=1048576):=fun q hq=>by have:=zdd j.out.2.1 q hq;omega
 have a5:=o.size;go_wp2_with fail;refine(opIn_any b l _ HL.out j.out.1 (I.out.1.below a) (I.out.2.1.below a) (I.out.2.2.below a) (by omega) (by omega) (by omega)).mono ?_
 rintro e G ⟨x,rfl,B,u,A⟩;have X:¬ w.heap.size=b:=by have:=zZ Y;omega
 have C:=A.blk U X;have S:Below w.heap.size w G:=zA.below a a.size A (fun k e=>by have e:k=b:=e;omega)
 have r:=hI (legs_few u.out HL.out);have N:Hid (∀ z,qn z->opT z=s->zgy x.d z):=fun z hz e=>read_back hz (by rw[e];exact j.out.2.1) u.out
 have Q:=hI (zE B a.size);obtain⟨g,vc,hv,a6,a7,a8⟩:=zt B;have HV:=hI hv;have y:x.cs=#[int i64 x.kind,.string x.own,int i64 x.name,.slice g x.L.length vc,int i64 x.p.pe,int i64 x.p.len,int i64 x.p.hei,int i64 x.p.cl,.bool x.p.all,int i64 x.p.be,int i64 x.unt,int i64 x.now]:=by unfold OpR.cs;rw[hv]
 rw[y];have O:=hI y;clear Y n o a U a5 j HL u A X B hv y a2 a3;have b3:=heap_alloc_new G (.cells #[int i64 x.kind,.string x.own,int i64 x.name,.slice g x.L.length vc,int i64 x.p.pe,int i64 x.p.len,int i64 x.p.hei,int i64 x.p.cl,.bool x.p.all,int i64 x.p.be,int i64 x.unt,int i64 x.now] 27);have M:Below G.heap.size G (G.alloc (.cells #[int i64 x.kind,.string x.own,int i64 x.name,.slice g x.L.length vc,int i64 x.p.pe,int i64 x.p.len,int i64 x.p.hei,int i64 x.p.cl,.bool x.p.all,int i64 x.p.be,int i64 x.unt,int i64 x.now] 27)):=zr bZ _;go_upto_region 2 with fail;generalize G.alloc (.cells #[int i64 x.kind,.string x.own,int i64 x.name,.slice g x.L.length vc,int i64 x.p.pe,int i64 x.p.len,int i64 x.p.hei,int i64 x.p.cl,.bool x.p.all,int i64 x.p.be,int i64 x.unt,int i64 x.now] 27)=W3 at b3 M ⊢;have c:=zj S M;have V:=zc C M;have t:=hI (zm M Q.out);have b7:=zZ C;have P:Hid (OpD.Is W3 [int i64 x.kind,.string x.own,int i64 x.name,.slice g x.L.length vc,int i64 x.p.pe,int i64 x.p.len,int i64 x.p.hei,int i64 x.p.cl,.bool x.p.all,int i64 x.p.be,int i64 x.unt,int i64 x.now] x.d):=⟨g,vc,rfl,own_ints (by have h:=t.out;rw[HV.out] at h;exact h),⟨a6,a7,a8⟩⟩
 obtain⟨y0,y1,y2,y3,y4,y5,y6,y7,y8,y9,a9,b0⟩:=ce12 b3;generalize K:zbj x.d=T;generalize hH:ziv x.d=H;have ct:=zcK [int i64 x.kind,.string x.own,int i64 x.name,.slice g x.L.length vc,int i64 x.p.pe,int i64 x.p.len,int i64 x.p.hei,int i64 x.p.cl,.bool x.p.all,int i64 x.p.be,int i64 x.unt,int i64 x.now] x.d W3 (by have h:=r.out.2;show x.own.size<=_;omega) P.out (by have h:=r.out.1;show x.L.length<=_;omega) (I.out.1.below c) (I.out.2.1.below c) (I.out.2.2.below c)
 rw[K,hH] at ct;have i:Hid (zbj x.d=T/\ziv x.d=H):=⟨K,hH⟩;clear K hH;go_wp2_with fail;refine ct.mono ?_;clear ct;rintro e w4 ⟨rfl,d⟩;have m:=zj c d;have f:=zc V d;have b4:=zc b3 d;have R:=hI (zm d t.out);clear y0 y1 y2 y3 y4 y5 y6 y7 y8 y9 a9 b0 S c C V b3 M d Q t P;have b8:¬ w.heap.size=G.heap.size:=by omega
 obtain⟨s0,s1,s2,s3,s4,s5,s6,s7,s8,s9,c2,c3⟩:=ce12 f;obtain⟨g0,g1,g2,g3,g4,g5,g6,g7,g8,g9,b5,b6⟩:=fe12 f
 by_cases hok:H=true/\T=s
 case neg =>
  have a1:Hid (¬ (qn x.d/\opT x.d=s)):=fun h=>hok (by
   have J:=zav h.1;rw[i.out.1,i.out.2] at J;exact⟨J.2,by rw[J.1];exact h.2⟩)
  have rF:=box_12 f (int i64 0) (.string ⟨#[]⟩) (int i64 0) (.slice none 0 0) (int i64 0) (int i64 0) (int i64 0) (int i64 0) (.bool false) (int i64 0) (int i64 0) (int i64 0);have L:=zhw w4 w.heap.size (int i64 0) (.string ⟨#[]⟩) (int i64 0) (.slice none 0 0) (int i64 0) (int i64 0) (int i64 0) (int i64 0) (.bool false) (int i64 0) (int i64 0) (int i64 0);have Z:Hid (zfx s w _ noOp false):=⟨⟨x,.inr ⟨rfl,a1.out,rfl⟩,N.out⟩,World.ownsRow_nil _ _ _ _,Nat.zero_le _,zA.below m m.size L (fun k e=>by have e:k=w.heap.size:=e;omega)⟩
  clear L;go_upto_region 3 with fail;go_cut [21] (fun v wx=>v=.bool true/\wx=w4)
  case first =>
   cases H with
   | false =>
    go_wp2;go_meet;exact⟨rfl,rfl⟩
   | true =>
    have K:T≠s:=fun e=>hok ⟨rfl,e⟩
    have et:(T.toList == s.toList)=false:=zaz.2 K;clear K hok;go_wp2;go_meet;exact⟨rfl,rfl⟩
  case rest =>
  obtain⟨rfl,D⟩:=hcut;have D:=D.symm;subst D;clear hok;go_wp2;obtain⟨t0,t1,t2,t3,t4,t5,t6,t7,t8,t9,E,F⟩:=ce12 rF;refine bodyPost_ret (v:=.tuple #[.agg #[int i64 0,.string ⟨#[]⟩,int i64 0,.slice none 0 0,int i64 0,int i64 0,int i64 0,int i64 0,.bool false,int i64 0,int i64 0,int i64 0],.bool false]) (by simp[results,Tryz.results7,go_sem,t0,t1,t2,t3,t4,t5,t6,t7,t8,t9,E,F]) rfl ?_
  exact⟨noOp,false,rfl,Z.out⟩
 case pos =>
  obtain⟨rfl,rfl⟩:=hok;have p:Hid (qn x.d/\opT x.d=T):=by
   have J:qn x.d:=(zfk x.d).1 i.out.2;have h2:=(zav J).1;rw[i.out.1] at h2;exact⟨J,h2.symm⟩
  have et:(T.toList == T.toList)=true:=by simp
  obtain⟨p0,p1,p2,M,p4,p5,p6,p7,p8,p9,c0,c1⟩:=ce12 b4;have rF:=box_12 f (int i64 x.kind) (.string x.own) (int i64 x.name) (.slice g x.L.length vc) (int i64 x.p.pe) (int i64 x.p.len) (int i64 x.p.hei) (int i64 x.p.cl) (.bool x.p.all) (int i64 x.p.be) (int i64 x.unt) (int i64 x.now);have L:=zhw w4 w.heap.size (int i64 x.kind) (.string x.own) (int i64 x.name) (.slice g x.L.length vc) (int i64 x.p.pe) (int i64 x.p.len) (int i64 x.p.hei) (int i64 x.p.cl) (.bool x.p.all) (int i64 x.p.be) (int i64 x.unt) (int i64 x.now);have a0:Hid (zfx T w _ x true):=⟨⟨x,.inl ⟨rfl,p.out.1,p.out.2,rfl⟩,N.out⟩,L.own R.out (Zt R.out f (by decide)),by have:=r.out.1;omega,zA.below m m.size L (fun k e=>by have e:k=w.heap.size:=e;omega)⟩
  clear L;go_wp2;obtain⟨t0,t1,t2,t3,t4,t5,t6,t7,t8,t9,E,F⟩:=ce12 rF;refine bodyPost_ret (v:=.tuple #[.agg #[int i64 x.kind,.string x.own,int i64 x.name,.slice g x.L.length vc,int i64 x.p.pe,int i64 x.p.len,int i64 x.p.hei,int i64 x.p.cl,.bool x.p.all,int i64 x.p.be,int i64 x.unt,int i64 x.now],.bool true]) (by simp[results,Tryz.results7,go_sem,t0,t1,t2,t3,t4,t5,t6,t7,t8,t9,E,F]) rfl ?_
  exact⟨x,true,by rw[O.out],a0.out⟩
def wd (W:List ByteArray)(i:Nat):ByteArray:=W.getD i ⟨#[]⟩
noncomputable def prs (l:List ByteArray):qi:=⟨l.length,fun i=>zI (Z4 47 (wd l i)),fun i=>zI (Z5 47 (wd l i))⟩
def PRd (s:ByteArray)(l:List ByteArray):Prop:=l.length<=s.size+1/\((s=⟨#[45]⟩/\l=[])∨(s≠⟨#[45]⟩/\Q2 44 s l))
noncomputable def readS (W la lc:List ByteArray):Sail:=⟨zI (wd W 1),wd W 2,wd W 3,zI (wd W 4),zI (wd W 5),prs la,prs lc,zI (wd W 6)⟩
def zhz (p q:qi):Prop:=p.n=q.n/\∀ i,i<q.n->p.A i=q.A i/\p.B i=q.B i
structure zhS (x y:Sail):Prop where
 id:x.id=y.id
 fr:x.fr=y.fr
 dst:x.dst=y.dst
 dep:x.dep=y.dep
 arr:x.arr=y.arr
 most:x.most=y.most
 la:zhz x.la y.la
 ca:zhz x.ca y.ca
theorem zhz.good {p q:qi}{m:Nat}{a b c d:Int}(h:zhz p q)(k:ZG q m a b c d):ZG p m a b c d:=⟨by rw[h.1];exact k.1,fun i e=>by
 rw[h.1] at e;rw[(h.2 i e).1,(h.2 i e).2];exact k.2 i e⟩
theorem zhz.text {p q:qi}(h:zhz p q):qu p=qu q:=by
 unfold qu;rw[h.1];have e:(List.range q.n).map (fun i=>Zo (p.A i) (p.B i))=(List.range q.n).map (fun i=>Zo (q.A i) (q.B i)):=List.map_congr_left fun i a=>by
  have:=h.2 i (List.mem_range.1 a);rw[this.1,this.2]
 rw[e]
theorem same_good {x z:Sail}(h:zhS x z)(k:zU z):zU x/\QS x=QS z:=by
 constructor
 ·obtain⟨k1,k2,k3,b,c,d,e,f,g,a⟩:=k
  exact⟨by rw[h.id];exact k1,by rw[h.fr];exact k2,by rw[h.dst];exact k3,by rw[h.fr,h.dst];exact b,by rw[h.dep];exact c,by rw[h.dep,h.arr];exact d,by rw[h.arr];exact e,h.la.good f,h.ca.good g,by rw[h.most];exact a⟩
 ·unfold QS zfo
  rw[h.id,h.fr,h.dst,h.dep,h.arr,h.most,h.la.text,h.ca.text]
theorem pair_back {a b:Int}(c:In a 0 99999)(d:In b 0 99999):zI (Z4 47 (Zo a b))=a/\zI (Z5 47 (Zo a b))=b:=by
 obtain⟨k1,k2,_⟩:=zcP (zgA (p:=47) (s:=Zo a b) (a:=qf a) (b:=qf b) (qB nd47 c.1) (by unfold Zo;rw[ByteArray.append_assoc]))
 rw[k1,k2];exact⟨qH c,qH d⟩
theorem zdD {q:UInt8}(c:¬ ZS q)(d:q≠47){a b:Int}(e:0<=a)(f:0<=b):zbF q (Zo a b):=Zu (Zu (qB c e) (zae d)) (qB c f)
def zeD (p:qi):Prop:=∀ i,i<p.n->In (p.A i) 0 99999/\In (p.B i) 0 99999
theorem zdE {p:qi}(hn:0<p.n)(h:zeD p):Q2 44 (qD coT ((List.range p.n).map (fun i=>Zo (p.A i) (p.B i)))) ((List.range p.n).map (fun i=>Zo (p.A i) (p.B i))):=by
 refine⟨by intro e;have:=congrArg List.length e;simp at this;omega,rfl,fun q b=>?_⟩
 obtain⟨i,a,rfl⟩:=List.mem_map.1 b;have:=h i (by simpa using a)
 exact zdD nd44 (by decide) this.1.1 this.2.1
theorem pairs_not {p:qi}(hn:0<p.n)(h:zeD p):qD coT ((List.range p.n).map (fun i=>Zo (p.A i) (p.B i)))≠⟨#[45]⟩:=fun e=>by
 have c:=zdE hn h;rw[e] at c;have a:Q2 44 ⟨#[45]⟩ [⟨#[45]⟩]:=⟨by simp,ZH _ _,fun q a=>by simp at a;rw[a];simp⟩
 have d:=zax c a;have b:((List.range p.n).map (fun i=>Zo (p.A i) (p.B i)))[0]?=some (Zo (p.A 0) (p.B 0)):=by
  rw[List.getElem?_map,List.getElem?_range hn]
  rfl
 rw[d] at b;have f:(⟨#[45]⟩:ByteArray)=Zo (p.A 0) (p.B 0):=by simpa using b
 have:zbF 45 (Zo (p.A 0) (p.B 0)):=zdD (by unfold ZS;decide) (by decide) (h 0 hn).1.1 (h 0 hn).2.1
 rw[← f] at this;exact this (by simp)
def partsP (p:qi):List ByteArray:=(List.range p.n).map (fun i=>Zo (p.A i) (p.B i))
theorem zhT {p:qi}{l:List ByteArray}(h:zeD p)(d:PRd (qu p) l):zhz (prs l) p:=by
 by_cases c:p.n=0
 ·have e:qu p=⟨#[45]⟩:=by unfold qu;rw[if_pos c]
  rcases d.2 with⟨_,rfl⟩|⟨n,_⟩
  ·exact⟨c.symm,fun i a=>by omega⟩
  ·exact absurd e n
 ·have e:qu p=qD coT (partsP p):=by unfold qu;rw[if_neg c];rfl
  rw[e] at d
  rcases d.2 with⟨b,_⟩|⟨_,hl⟩
  ·exact absurd b (pairs_not (by omega) h)
  ·have b:=zax hl (zdE (by omega) h)
   subst b;refine⟨by simp[prs],fun i a=>?_⟩
   have f:wd ((List.range p.n).map (fun i=>Zo (p.A i) (p.B i))) i=Zo (p.A i) (p.B i):=by
    unfold wd;rw[List.getD_eq_getElem?_getD,List.getElem?_map,List.getElem?_range a]
    rfl
   unfold prs;dsimp only;rw[f];exact pair_back (h i a).1 (h i a).2
theorem good_9 {s:Sail}(h:zU s):zeD s.la/\zeD s.ca:=by
 obtain⟨_,_,_,_,_,_,_,b,c,_⟩:=h
 constructor
 ·intro i a
  have:=b.2 i a;unfold In at *
  omega
 ·intro i a
  have:=c.2 i a;unfold In at *
  omega
theorem zeE {q:UInt8}(a:¬ ZS q)(b:q≠47)(c:q≠44)(d:q≠45){p:qi}(h:zeD p):zbF q (qu p):=by
 unfold qu
 split
 ·exact zae d
 ·exact zgz (q:=44) c _ (fun x f=>by
   obtain⟨i,e,rfl⟩:=List.mem_map.1 f;have:=h i (by simpa using e)
   exact zdD a b this.1.1 this.2.1)
theorem ziE {s:Sail}(h:zU s):Q2 32 (QS s) (zfo s):=by
 refine⟨by simp[zfo],rfl,fun p a=>?_⟩
 have r:=zbY h;have b:=good_9 h;have c:zbF 32 s.fr:=zdC h.2.1 (by unfold Qx;decide)
 have d:zbF 32 s.dst:=zdC h.2.2.1 (by unfold Qx;decide)
 unfold zfo at a;simp only[List.mem_cons,List.not_mem_nil,or_false] at a
 rcases a with rfl|rfl|rfl|rfl|rfl|rfl|rfl|rfl|rfl
 ·unfold zcU;decide
 ·exact qB nd32 r.1.1
 ·exact c
 ·exact d
 ·exact qB nd32 r.2.1.1
 ·exact qB nd32 r.2.2.1.1
 ·exact qB nd32 r.2.2.2.1.1
 ·exact zeE nd32 (by decide) (by decide) (by decide) b.1
 ·exact zeE nd32 (by decide) (by decide) (by decide) b.2
theorem sail_back {z:Sail}(h:zU z){W la lc:List ByteArray}(d:Q2 32 (QS z) W)(e:PRd (wd W 7) la)(f:PRd (wd W 8) lc):zhS (readS W la lc) z:=by
 obtain rfl:=zax d (ziE h);have c:=good_9 h;have k:=h;unfold zU In at k;have a:PRd (qu z.la) la:=e;have b:PRd (qu z.ca) lc:=f;refine⟨?_,rfl,rfl,?_,?_,?_,zhT c.1 a,zhT c.2 b⟩
 ·show zI (qf z.id)=z.id
  exact qH ⟨by omega,by omega⟩
 ·show zI (qf z.dep)=z.dep
  exact qH ⟨by omega,by omega⟩
 ·show zI (qf z.arr)=z.arr
  exact qH ⟨by omega,by omega⟩
 ·show zI (qf z.most)=z.most
  exact qH ⟨by omega,by omega⟩
def AnsS (s:ByteArray)(y:Sail)(ok:Bool):Prop:=(ok=true/\zU y/\QS y=s)∨(ok=false/\y=Sail.zero/\∀ z,zU z->QS z≠s)
theorem ans_not {s:ByteArray}{W la lc:List ByteArray}(b:Q2 32 s W)(c:PRd (wd W 7) la)(d:PRd (wd W 8) lc)(hn:¬ (zU (readS W la lc)/\QS (readS W la lc)=s)):AnsS s Sail.zero false :=
 .inr ⟨rfl,rfl,fun z a e=>by
  have h:=same_good (sail_back a (by rw[e];exact b) c d) a
  exact hn ⟨h.1,h.2.trans e⟩⟩
end Go.Proofs.YtfallpinmhbemaaGreatDoor
