/-
  OWN TEXT: SpecDo, KitOq, SpecOp, SpecBk, SpecOff.
-/
import Derived.Deep.DeepCutAuto
import Derived.Deep.RegionHeld3
import Derived.Great.Walk
import Derived.Deep.LoopGhost
import Derived.Test.YtfallpinmhbemaaGreatDoorB27
import Derived.Test.YtfallpinmhbemaaGreatDoorB25
namespace Go.Proofs.YtfallpinmhbemaaGreatDoor
open Go.RowKit
open Go.Value (int)
open Go.IntKind (i64)
set_option maxHeartbeats 64000000
set_option maxRecDepth 100000
theorem l7Do_any (g base N R k h f d:Nat)(c b a:Option Addr)(v:Wk)(x:Off)(L C A B D E:Nat->Value)(w:World)(o:w.heap[g]?=some (.cells #[.slice c N h,.slice b N f,.slice a R d] 66 (0,0)))(n:zV w base (.slice c N h) (.slice b N f) (.slice a R d) N N R x L C A B D E)(l:N<=1048576)(m:qo x.sa v.leg N=k)(j:k<N)(i:qJ (x.sa k) (x.ld k))(y:v.res<3)(z:v.goes=true->zeR (x.ld k) v.res v.who)(F:v.goes=false->In v.p.pe 0 20) :
  Calls Tryz.prog 122 #[.pointer (some ⟨g,0,none⟩),.agg #[int i64 v.leg,int i64 (v.res:Int),.bool v.goes,int i64 v.who,int i64 v.p.pe,int i64 v.p.len,int i64 v.p.hei,int i64 v.p.cl,.bool v.p.all,int i64 v.p.be]] w fun e w'=>zcR g base N R k h f d c b a v x L C E w e w':=by
 obtain⟨leg,res,goes,who,p⟩:=v;have y:res<3:=y
 cases goes with
 | true =>
  have u:=z rfl;obtain rfl|rfl|rfl:res=0∨res=1∨res=2:=by omega
  ·obtain⟨r,q,s,t⟩:=zdl i.stays_one u
   exact l7Do_a g base N R k h f d c b a leg who p x L C A B D E w o n l m j i r q s t
  ·obtain⟨r,q,s,t⟩:=zdl i.rooms_one u
   exact l7Do_b g base N R k h f d c b a leg who p x L C A B D E w o n l m j i r q s t
  ·obtain⟨r,q,s,t⟩:=zdl i.seats_one u
   exact l7Do_c g base N R k h f d c b a leg who p x L C A B D E w o n l m j i r q s t
 | false =>
  obtain rfl|rfl|rfl:res=0∨res=1∨res=2:=by omega
  ·exact l7Do_d g base N R k h f d c b a leg who p x L C A B D E w o n l m j i
  ·obtain⟨pe,len,hei,cl,all,be⟩:=p
   cases all with
   | true=>exact l7Do_e g base N R k h f d c b a leg who pe len hei cl be x L C A B D E w o n l m j i
   | false=>exact l7Do_f g base N R k h f d c b a leg who pe len hei cl be x L C A B D E w o n l m j i
  ·exact l7Do_g g base N R k h f d c b a leg who p x L C A B D E w o n l m j i (F rfl)
theorem zik {x:Off}{y:OpD}{m:Nat}(h:Z2 x.san x.bkn m x y 0)(j:Qz y->In y.kind 4 8->y.name=(m:Int)+1):zah x y m:=by
 obtain⟨f,g,i,h4⟩:=h;have a:Qz y:=by
  by_cases c:Qz y
  ·exact c
  ·have:=f c;omega
 have d:¬ Qu x.san x y:=fun c=>by have:=g a c;omega
 refine⟨a,d,fun e=>?_⟩
 obtain⟨k,l,n3⟩:=i a d e;have b:m<x.bkn:=by
  by_cases c:x.bkn<=m
  ·have:=k c;omega
  ·omega
 exact⟨j a e,b,fun c=>by have:=l b c;omega⟩
def OpTo (x:Off)(a:Int)(y:OpD)(m:Nat)(b:Off)(code name price:Int):Prop :=
 (code≠0/\b=x/\name=0/\price=0/\Z2 x.san x.bkn m x y code) ∨
 (zah x y m/\code≠0/\b=x/\name=0/\price=0/\∃ j M v k,zct x (qN x a y m) j M/\(qN x a y m)[j]?=some v/\qo x.sa v.leg x.san=k/\k<x.san/\ZT (x.sa k) v (M k) code (M k)) ∨
 (zah x y m/\∃ M x3,zct x (qN x a y m) (qN x a y m).length M/\zeZ { x with ld:=M } a y m x3 code name price/\((code≠0∨y.kind=1)->b=x)/\(¬ (code≠0∨y.kind=1)->b=x3))
def OpAns (x:Off)(a:Int)(y:OpD)(m base:Nat)(e:Ending)(w':World):Prop :=
 ∃ x2 a1 c1 a2 c2 a3 c3 code name price rv L C A B D E,e=.returned (.tuple #[.agg #[.slice a1 x2.san c1,.slice a2 x2.ldn c2,.slice a3 x2.bkn c3],.agg #[int i64 code,int i64 name,int i64 price,rv]]) /\
  zV w' base (.slice a1 x2.san c1) (.slice a2 x2.ldn c2) (.slice a3 x2.bkn c3) x2.san x2.ldn x2.bkn x2 L C A B D E/\OpTo x a y m x2 code name price/\(rv=.slice none 0 0∨∃ M b,zbC { x with ld:=M } y b w' rv)
theorem zgj:∀ (l:List Wk)(j:Nat)(v:Wk),l[j]?=some v->∀ r,r<10->(zdm l)[j*10+r]?=(wkC v)[r]?
 | [],j,v,h,_,_=>by simp at h
 | u :: l,0,v,h,r,hr=>by
  have e:u=v:=by simpa using h
  subst e
  show(wkC u++zdm l)[0*10+r]?=_
  rw[List.getElem?_append_left (by show 0*10+r<10;omega),Nat.zero_mul,Nat.zero_add]
 | u :: l,j+1,v,h,r,hr=>by
  have a:l[j]?=some v:=by simpa using h
  show(wkC u++zdm l)[(j+1)*10+r]?=_
  rw[List.getElem?_append_right (by show 10<=(j+1)*10+r;omega)]
  have e:(j+1)*10+r - (wkC u).length=j*10+r:=by show(j+1)*10+r - 10=_;omega
  rw[e];exact zgj l j v a r hr
theorem zeZ.size {x:Off}{a:Int}{y:OpD}{m:Nat}{b:Off}{code name price:Int}(h:zeZ x a y m b code name price):b.san=x.san/\b.ldn=x.ldn:=by
 rcases h with⟨_,rfl,_⟩|⟨_,rfl,_⟩|⟨_,_,rfl,_⟩|⟨_,_,rfl,_⟩|⟨_,_,rfl,_⟩ <;> exact⟨rfl,rfl⟩
theorem zeZ.nine {x:Off}{c:Int}{y:OpD}{m:Nat}{d:Off}{code name price:Int}(h:zeZ x c y m d code name price)(hc:code≠0∨y.kind=1):y.kind≠9:=by
 rcases h with⟨a,_,b,_⟩|⟨a,_,b,_⟩|⟨a,_,_,b,_⟩|⟨a,_,_,b,_⟩|⟨a,_,_,b,_⟩ <;> first|omega|(unfold In at a;omega)
theorem zes {w Z:World}{a c base s t n3:Nat}{h i j v y z u0 u1 u2 u3:Value}{x:Off}{L C A B D E:Nat->Value}(q:Below w.heap.size w Z)(p:zV Z base h i j s t n3 x L C A B D E)(g:Z.heap[a]?=some (.cells #[v,y,z] 66 (0,0)))(f:Z.heap[c]?=some (.cells #[u0,u1,u2,u3] 127 (0,0)))(h1:w.heap.size<=a)(h2:w.heap.size<=c)(l m n o:Value){F:World}
  (u:F=((((((Z.setCell ⟨a,0,none⟩ h).setCell ⟨a,1,none⟩ i).setCell ⟨a,2,none⟩ j).setCell ⟨c,0,none⟩ l).setCell ⟨c,1,none⟩ m).setCell ⟨c,2,none⟩ n).setCell ⟨c,3,none⟩ o) :
  zV F base h i j s t n3 x L C A B D E/\F.heap[a]?=some (.cells #[h,i,j] 66 (0,0))/\F.heap[c]?=some (.cells #[l,m,n,o] 127 (0,0))/\Below w.heap.size w F/\zA Z F (fun b=>b=a∨b=c):=by
 subst u;have k:a≠c:=fun e=>by subst e;rw[g] at f;simp at f
 have k1:=zfK Z a h i j;have d:=k1.blk f (fun e=>k e.symm)
 have k2:=QQ (((Z.setCell ⟨a,0,none⟩ h).setCell ⟨a,1,none⟩ i).setCell ⟨a,2,none⟩ j) c l m n o;have r:=(k1.mono (T:=fun b=>b=a∨b=c) (fun b e=>.inl e)).trans (k2.mono (T:=fun b=>b=a∨b=c) (fun b e=>.inr e))
 exact⟨(p.box k1 g (by decide)).box k2 d (by decide),k2.blk (zbI g h i j) k,zeV d _ _ _ _,zA.below q q.size r (fun b e=>by rcases e with e|e <;> omega),r⟩
theorem zgk {x:Off}{y:OpD}{b:Nat}{z c:World}{v:Value}{T:Nat->Prop}(h:zbC x y b z v)(n:zA z c T)(l:∀ g,T g->∃ cs t,z.heap[g]?=some (.cells cs t (0,0))/\212≠t):zbC x y b c v:=by
 refine⟨fun j=>?_,h.2⟩
 obtain⟨k,f,i,a⟩:=h.1 j;exact⟨k,f,i,n.own a (fun g m s=>by obtain⟨cs,t,d,e⟩:=l g s;exact qR a d e g m rfl)⟩
theorem l7Op_any (x:Off)(p n f G:Option Addr)(F t s J m:Nat)(a0:Int)(y:OpD)(w:World)(hs:Off.Short x 1048576)(m5:SailsAt w p x.san x.sa)(l5:QE w n x.ldn x.ld)(l2:ZU w f x.bkn x.bk)(l6:IntsAt w G y.lgn y.lg)(m6:SliceOk G y.lgn J)(hl:y.lgn<=1048576)(ho:y.own.size<=1048576)(hO:Zy x)(hb:In a0 1 9999)(hx:∀ i,i<x.bkn->(x.bk i).who≠a0)(hm:Qz y->In y.kind 4 8->y.name=(m:Int)+1/\m<=1048576) :
  Calls Tryz.prog 104 #[.agg #[.slice p x.san F,.slice n x.ldn t,.slice f x.bkn s],int i64 a0,.agg #[int i64 y.kind,.string y.own,int i64 y.name,.slice G y.lgn J,int i64 y.pe,int i64 y.len,int i64 y.hei,int i64 y.cl,.bool y.all,int i64 y.be,int i64 y.unt,int i64 y.now]] w fun e w'=>OpAns x a0 y m w.heap.size e w'/\Below w.heap.size w w':=by
 have HS:=hI hs;have HM:Hid (SailsAt w p x.san x.sa/\QE w n x.ldn x.ld/\ZU w f x.bkn x.bk/\IntsAt w G y.lgn y.lg/\SliceOk G y.lgn J):=⟨m5,l5,l2,l6,m6⟩;have HG:Hid (Zy x/\In a0 1 9999/\∀ i,i<x.bkn->(x.bk i).who≠a0):=⟨hO,hb,hx⟩;have HN:=hI hm;have p6:x.san<=6:=hO.1.1;have l1:x.bkn<=30:=hO.2.2.1;have e7:=hI hO.2.1;clear hs m5 l5 l2 l6 m6 hO hb hx hm;have q:Below w.heap.size w ((((w.alloc (.cells #[.slice p x.san F,.slice n x.ldn t,.slice f x.bkn s] 66)).alloc (.cells #[int i64 y.kind,.string y.own,int i64 y.name,.slice G y.lgn J,int i64 y.pe,int i64 y.len,int i64 y.hei,int i64 y.cl,.bool y.all,int i64 y.be,int i64 y.unt,int i64 y.now] 27)).alloc (.cells #[.slice none 0 0,.slice none 0 0,.slice none 0 0] 66)).alloc (.cells #[int i64 0,int i64 0,int i64 0,.slice none 0 0] 127)):=zr (zr (zr (zr bZ _) _) _) _;have K:=ze (ze (ze (heap_alloc_new w (.cells #[.slice p x.san F,.slice n x.ldn t,.slice f x.bkn s] 66)) (.cells #[int i64 y.kind,.string y.own,int i64 y.name,.slice G y.lgn J,int i64 y.pe,int i64 y.len,int i64 y.hei,int i64 y.cl,.bool y.all,int i64 y.be,int i64 y.unt,int i64 y.now] 27)) (.cells #[.slice none 0 0,.slice none 0 0,.slice none 0 0] 66)) (.cells #[int i64 0,int i64 0,int i64 0,.slice none 0 0] 127);have b1:=ze (ze (zcC w (.cells #[.slice p x.san F,.slice n x.ldn t,.slice f x.bkn s] 66) (.cells #[int i64 y.kind,.string y.own,int i64 y.name,.slice G y.lgn J,int i64 y.pe,int i64 y.len,int i64 y.hei,int i64 y.cl,.bool y.all,int i64 y.be,int i64 y.unt,int i64 y.now] 27)) (.cells #[.slice none 0 0,.slice none 0 0,.slice none 0 0] 66)) (.cells #[int i64 0,int i64 0,int i64 0,.slice none 0 0] 127);have b2:=ze (show(((w.alloc (.cells #[.slice p x.san F,.slice n x.ldn t,.slice f x.bkn s] 66)).alloc (.cells #[int i64 y.kind,.string y.own,int i64 y.name,.slice G y.lgn J,int i64 y.pe,int i64 y.len,int i64 y.hei,int i64 y.cl,.bool y.all,int i64 y.be,int i64 y.unt,int i64 y.now] 27)).alloc (.cells #[.slice none 0 0,.slice none 0 0,.slice none 0 0] 66)).heap[w.heap.size+1+1]?=some (.cells #[.slice none 0 0,.slice none 0 0,.slice none 0 0] 66 (0,0)) from by simpa using heap_alloc_new ((w.alloc (.cells #[.slice p x.san F,.slice n x.ldn t,.slice f x.bkn s] 66)).alloc (.cells #[int i64 y.kind,.string y.own,int i64 y.name,.slice G y.lgn J,int i64 y.pe,int i64 y.len,int i64 y.hei,int i64 y.cl,.bool y.all,int i64 y.be,int i64 y.unt,int i64 y.now] 27)) (.cells #[.slice none 0 0,.slice none 0 0,.slice none 0 0] 66)) (.cells #[int i64 0,int i64 0,int i64 0,.slice none 0 0] 127)
 have b3:((((w.alloc (.cells #[.slice p x.san F,.slice n x.ldn t,.slice f x.bkn s] 66)).alloc (.cells #[int i64 y.kind,.string y.own,int i64 y.name,.slice G y.lgn J,int i64 y.pe,int i64 y.len,int i64 y.hei,int i64 y.cl,.bool y.all,int i64 y.be,int i64 y.unt,int i64 y.now] 27)).alloc (.cells #[.slice none 0 0,.slice none 0 0,.slice none 0 0] 66)).alloc (.cells #[int i64 0,int i64 0,int i64 0,.slice none 0 0] 127)).heap[w.heap.size+1+1+1]?=some (.cells #[int i64 0,int i64 0,int i64 0,.slice none 0 0] 127 (0,0)):=by simpa using heap_alloc_new (((w.alloc (.cells #[.slice p x.san F,.slice n x.ldn t,.slice f x.bkn s] 66)).alloc (.cells #[int i64 y.kind,.string y.own,int i64 y.name,.slice G y.lgn J,int i64 y.pe,int i64 y.len,int i64 y.hei,int i64 y.cl,.bool y.all,int i64 y.be,int i64 y.unt,int i64 y.now] 27)).alloc (.cells #[.slice none 0 0,.slice none 0 0,.slice none 0 0] 66)) (.cells #[int i64 0,int i64 0,int i64 0,.slice none 0 0] 127)
 go_enter Tryz.func104,Tryz.ntmps104;go_wp2_with fail;generalize ((((w.alloc (.cells #[.slice p x.san F,.slice n x.ldn t,.slice f x.bkn s] 66)).alloc (.cells #[int i64 y.kind,.string y.own,int i64 y.name,.slice G y.lgn J,int i64 y.pe,int i64 y.len,int i64 y.hei,int i64 y.cl,.bool y.all,int i64 y.be,int i64 y.unt,int i64 y.now] 27)).alloc (.cells #[.slice none 0 0,.slice none 0 0,.slice none 0 0] 66)).alloc (.cells #[int i64 0,int i64 0,int i64 0,.slice none 0 0] 127))=W at q K b1 b2 b3 ⊢;refine(zhg p n f G x.san x.ldn x.bkn F t s J m x y _ (by omega) (by omega) hl (by omega) (HM.out.1.below q) (HM.out.2.2.1.below q) ⟨G,J,rfl,HM.out.2.2.2.1.below q,HM.out.2.2.2.2⟩ HN.out).mono ?_
 rintro e V ⟨⟨code,rfl,e6⟩,c9⟩;have j9:=hI e6;clear e6;replace q:=zj q c9;replace K:=zc K c9;replace b1:=zc b1 c9;replace b2:=zc b2 c9;replace b3:=zc b3 c9;clear c9 W;obtain⟨f0,f1,f2⟩:=ce3 K
 by_cases hc:code=0
 case neg =>
  have d1:(code != 0)=true:=by simpa using hc
  have d2:(code == 0)=false:=by simpa using hc
  have HC:=hI hc;clear hc;go_wp2_with fail;refine(zaj p n f x.san x.ldn x.bkn F t s x _ rfl rfl rfl HS.out (HM.out.1.below q) (HM.out.2.1.below q) (HM.out.2.2.1.below q)).mono ?_;rintro e V9 ⟨⟨a1,c1,R,S,a3,c3,L9,C9,A9,B9,D9,E9,rfl,U⟩,c0⟩;have e5:=zj q c0;have Q:=zc b2 c0;have N:=zc b3 c0;obtain⟨O,b6,b7,P,_⟩:=zes e5 (U.lower q.size) Q N (by omega) (by omega) (int i64 code) (int i64 0) (int i64 0) (.slice none 0 0) rfl
  have a9:Hid _:=O;have a8:Hid _:=P;clear O P U;obtain⟨s0,s1,s2⟩:=ce3 Q;obtain⟨f9,g3,g4⟩:=fe3 Q;obtain⟨t0,t1,t2,t3⟩:=ce4 N;obtain⟨g5,g6,g7,g8⟩:=fe4 N;go_wp2;obtain⟨x0,x1,x2⟩:=ce3 b6;obtain⟨z0,z1,z2,z3⟩:=ce4 b7;exact bodyPost_ret (v:=.tuple #[.agg #[.slice a1 x.san c1,.slice R x.ldn S,.slice a3 x.bkn c3],.agg #[int i64 code,int i64 0,int i64 0,.slice none 0 0]]) (by simp[results,Tryz.results104,go_sem,x0,x1,x2,z0,z1,z2,z3]) rfl ⟨⟨x,_,_,_,_,_,_,_,_,_,_,_,_,_,_,_,_,rfl,a9.out,.inl ⟨HC.out,rfl,rfl,rfl,j9.out⟩,.inl rfl⟩,a8.out⟩
 subst hc;have p7:w.heap.size+1+1+1<V.heap.size:=zZ b3;have a6:Hid (zah x y m):=zik j9.out (fun h1 T=>(HN.out h1 T).1)
 go_wp2_with fail;refine(zaj p n f x.san x.ldn x.bkn F t s x _ rfl rfl rfl HS.out (HM.out.1.below q) (HM.out.2.1.below q) (HM.out.2.2.1.below q)).mono ?_;rintro e V2 ⟨⟨a1,c1,R,S,a3,c3,L,C,A,B,D,E,rfl,U⟩,H⟩;have k7:=hI U;have i0:w.heap.size<=V.heap.size:=q.size;replace q:=zj q H;replace K:=zc K H;replace b1:=zc b1 H;replace b2:=zc b2 H;replace b3:=zc b3 H;have e0:=hI (zZ b3);clear f0 f1 f2 U;have g0:∀ o,(V2.alloc o).cell? ⟨w.heap.size,0,none⟩=some (.slice p x.san F):=fun o=>za (ze K o) 0 _ rfl
 have g1:∀ o,(V2.alloc o).cell? ⟨w.heap.size,1,none⟩=some (.slice n x.ldn t):=fun o=>za (ze K o) 1 _ rfl
 have g2:∀ o,(V2.alloc o).cell? ⟨w.heap.size,2,none⟩=some (.slice f x.bkn s):=fun o=>za (ze K o) 2 _ rfl
 have h0:∀ o,(V2.alloc o).cell? ⟨w.heap.size+1,0,none⟩=some (int i64 y.kind):=fun o=>za (ze b1 o) 0 _ rfl
 have h1:∀ o,(V2.alloc o).cell? ⟨w.heap.size+1,1,none⟩=some (.string y.own):=fun o=>za (ze b1 o) 1 _ rfl
 have T:∀ o,(V2.alloc o).cell? ⟨w.heap.size+1,2,none⟩=some (int i64 y.name):=fun o=>za (ze b1 o) 2 _ rfl
 have h3:∀ o,(V2.alloc o).cell? ⟨w.heap.size+1,3,none⟩=some (.slice G y.lgn J):=fun o=>za (ze b1 o) 3 _ rfl
 have h4:∀ o,(V2.alloc o).cell? ⟨w.heap.size+1,4,none⟩=some (int i64 y.pe):=fun o=>za (ze b1 o) 4 _ rfl
 have h5:∀ o,(V2.alloc o).cell? ⟨w.heap.size+1,5,none⟩=some (int i64 y.len):=fun o=>za (ze b1 o) 5 _ rfl
 have h6:∀ o,(V2.alloc o).cell? ⟨w.heap.size+1,6,none⟩=some (int i64 y.hei):=fun o=>za (ze b1 o) 6 _ rfl
 have h7:∀ o,(V2.alloc o).cell? ⟨w.heap.size+1,7,none⟩=some (int i64 y.cl):=fun o=>za (ze b1 o) 7 _ rfl
 have h8:∀ o,(V2.alloc o).cell? ⟨w.heap.size+1,8,none⟩=some (.bool y.all):=fun o=>za (ze b1 o) 8 _ rfl
 have h9:∀ o,(V2.alloc o).cell? ⟨w.heap.size+1,9,none⟩=some (int i64 y.be):=fun o=>za (ze b1 o) 9 _ rfl
 have j4:∀ o,(V2.alloc o).cell? ⟨w.heap.size+1,10,none⟩=some (int i64 y.unt):=fun o=>za (ze b1 o) 10 _ rfl
 have j5:∀ o,(V2.alloc o).cell? ⟨w.heap.size+1,11,none⟩=some (int i64 y.now):=fun o=>za (ze b1 o) 11 _ rfl
 go_wp2_with fail;have bQ:=heap_alloc_new V2 (.cells #[.slice a1 x.san c1,.slice R x.ldn S,.slice a3 x.bkn c3] 66);have i3:V.heap.size<=V2.heap.size:=H.size;have j0:Hid (zV (V2.alloc (.cells #[.slice a1 x.san c1,.slice R x.ldn S,.slice a3 x.bkn c3] 66)) V.heap.size (.slice a1 x.san c1) (.slice R x.ldn S) (.slice a3 x.bkn c3) x.san x.ldn x.bkn x L C A B D E):=k7.out.below (zr bZ _);replace q:=zr q (.cells #[.slice a1 x.san c1,.slice R x.ldn S,.slice a3 x.bkn c3] 66);replace K:=ze K (.cells #[.slice a1 x.san c1,.slice R x.ldn S,.slice a3 x.bkn c3] 66);replace b1:=ze b1 (.cells #[.slice a1 x.san c1,.slice R x.ldn S,.slice a3 x.bkn c3] 66);replace b2:=ze b2 (.cells #[.slice a1 x.san c1,.slice R x.ldn S,.slice a3 x.bkn c3] 66);replace b3:=ze b3 (.cells #[.slice a1 x.san c1,.slice R x.ldn S,.slice a3 x.bkn c3] 66);have o8:w.heap.size+1+1+1<V2.heap.size:=e0.out;generalize V2.alloc (.cells #[.slice a1 x.san c1,.slice R x.ldn S,.slice a3 x.bkn c3] 66)=X at bQ j0 q K b1 b2 b3 ⊢;have c4:=zZ bQ;generalize V2.heap.size=qb at bQ i3 o8 c4 ⊢;have m0:=hI c4;clear c4;clear e0 g0 g1 g2 h0 h1 T h3 h4 h5 h6 h7 h8 h9 j4 j5 k7 H V2;refine(zgZ p n f G x.san x.ldn x.bkn F t s J m x y a0 _ (by omega) HS.out.2.2.2 hl (HM.out.2.2.1.below q) (HM.out.2.2.2.1.below q) (fun hk=>⟨(a6.out.2.2 (zaH hk)).1,(a6.out.2.2 (zaH hk)).2.1⟩)).mono ?_
 rintro e Y ⟨v,rfl,f8,b5⟩;have e9:=hI (works_fit HG.out.1 a6.out HG.out.2.1 HG.out.2.2);obtain⟨l,f4⟩:∃ l,l=qN x a0 y m:=⟨_,rfl⟩;rw[← f4] at f8 e9;have HL:=hI f4;have q5:l.length<=1000:=by
  rw[f4];unfold qN;have q1:=zhh a6.out.1;have q2:=QX true (x.bk m).who ⟨(x.bk m).pe,(x.bk m).len,(x.bk m).hei,(x.bk m).cl,(x.bk m).all,(x.bk m).be⟩ (x.bk m).lg (x.bk m).lgn;have q3:=QX false a0 ⟨y.pe,y.len,y.hei,y.cl,y.all,y.be⟩ y.lg y.lgn;have q4:zaa y.kind->(x.bk m).lgn<=3:=fun hk=>(HG.out.1.2.2.2.2.1 m (a6.out.2.2 (zaH hk)).2.1).2.2.2.1.2.1
  rw[List.length_append];have p1:(if zaa y.kind then qZ true (x.bk m).who ⟨(x.bk m).pe,(x.bk m).len,(x.bk m).hei,(x.bk m).cl,(x.bk m).all,(x.bk m).be⟩ (x.bk m).lg (x.bk m).lgn else []).length<=9:=by
   by_cases c:zaa y.kind
   ·rw[if_pos c];have:=q4 c;omega
   ·rw[if_neg c];decide
  have p2:(if zR y.kind then qZ false a0 ⟨y.pe,y.len,y.hei,y.cl,y.all,y.be⟩ y.lg y.lgn else []).length<=9:=by
   by_cases c:zR y.kind
   ·rw[if_pos c];omega
   ·rw[if_neg c];decide
  omega
 clear f4;obtain⟨aw,cw,rfl,w1,w2,w3⟩:=zt f8;have k9:=hI f8;have e8:=hI (j0.out.below b5);have m8:X.heap.size<=Y.heap.size:=b5.size;replace q:=zj q b5;replace K:=zc K b5;replace b1:=zc b1 b5;replace b2:=zc b2 b5;replace b3:=zc b3 b5;replace bQ:=zc bQ b5;have p3:qb<X.heap.size:=m0.out;clear f8 b5 w1 w2 w3 j0;rw[e7.out] at e8 bQ ⊢;have g9:Hid (∀ wr,zA Y wr (fun b=>(Value.slice R x.san S).ownBlock=some b)->Below w.heap.size w wr/\wr.heap[w.heap.size]?=some (.cells #[.slice p x.san F,.slice n x.ldn t,.slice f x.bkn s] 66 (0,0))/\wr.heap[w.heap.size+1]?=some (.cells #[int i64 y.kind,.string y.own,int i64 y.name,.slice G y.lgn J,int i64 y.pe,int i64 y.len,int i64 y.hei,int i64 y.cl,.bool y.all,int i64 y.be,int i64 y.unt,int i64 y.now] 27 (0,0))/\wr.heap[w.heap.size+1+1]?=some (.cells #[.slice none 0 0,.slice none 0 0,.slice none 0 0] 66 (0,0))/\wr.heap[w.heap.size+1+1+1]?=some (.cells #[int i64 0,int i64 0,int i64 0,.slice none 0 0] 127 (0,0))/\wr.ownsRow X.heap.size 175 10 (.slice aw l.length cw) l.length (zdm l)):=fun wr hk=>by
  have I:∀ b,(Value.slice R x.san S).ownBlock=some b->V.heap.size<=b:=fun b e=>(e8.out.ld.row.lt b e).1
  exact⟨zA.below q q.size hk (fun b e=>Nat.le_trans i0 (I b e)),hk.blk K (fun e=>by have:=I _ e;omega),hk.blk b1 (fun e=>by have:=I _ e;omega),hk.blk b2 (fun e=>by have:=I _ e;omega),hk.blk b3 (fun e=>by have:=I _ e;omega),hk.own k9.out (fun g h1 T=>own_apart e8.out.ld.row k9.out (by decide) g T h1)⟩
 go_wp2;go_loopw [11,12,30] (fun _ _ i wr=>∃ (j:Nat) (M:Nat->qT) (A B D:Nat->Value),j<=l.length/\i=int i64 j/\Hid (zct x l j M)/\Hid (zV wr V.heap.size (.slice a1 x.san c1) (.slice R x.san S) (.slice a3 x.bkn c3) x.san x.san x.bkn { x with ld:=M } L C A B D E)/\Hid (wr.heap[qb]?=some (.cells #[.slice a1 x.san c1,.slice R x.san S,.slice a3 x.bkn c3] 66 (0,0)))/\Hid (zA Y wr (fun b=>(Value.slice R x.san S).ownBlock=some b))) (fun _ _ i _=>l.length - (intOf i).toNat)
 case atStart=>exact⟨0,x.ld,_,_,_,Nat.zero_le _,rfl,zct.start HG.out.1 (fun v hv=>(e9.out.2 v hv).1),e8.out,bQ,zA.refl _ _⟩
 case round =>
  clear K b1 b2 b3 bQ q;obtain⟨j,M,A,B,D,hj,rfl,a7,i9,j8,i7⟩:=hrel;obtain⟨d,K,b1,b2,b3,j6⟩:=g9.out wr i7.out
  by_cases hlt:j<l.length
  ·obtain⟨v,hv⟩:∃ v,l[j]?=some v:=⟨l[j],List.getElem?_eq_getElem hlt⟩
   have HV:=hI hv;have d6:Hid (WkOk x v):=(e9.out.2 v (List.mem_of_getElem? hv)).2;obtain⟨gw,rfl,_,p8⟩:=qw j6 (by omega)
   have a5:Hid (∀ r u,r<10->(wkC v)[r]?=some u->wr.cell? ⟨gw,j*10+r,none⟩=some u):=fun r u hr hu=>by
    rw[j6.cellAt (j*10+r) (by omega),zgj l j v HV.out r hr]
    exact hu
   have n8:wr.cell? ⟨gw,j*10,none⟩=some (int i64 v.leg):=a5.out 0 _ (by decide) rfl
   have n9:=a5.out 1 _ (by decide) rfl
   have o0:=a5.out 2 _ (by decide) rfl
   have o1:=a5.out 3 _ (by decide) rfl
   have o2:=a5.out 4 _ (by decide) rfl
   have o3:=a5.out 5 _ (by decide) rfl
   have o4:=a5.out 6 _ (by decide) rfl
   have o5:=a5.out 7 _ (by decide) rfl
   have o6:=a5.out 8 _ (by decide) rfl
   have o7:=a5.out 9 _ (by decide) rfl
   clear hv j6;obtain⟨k,hk⟩:∃ k,qo x.sa v.leg x.san=k:=⟨_,rfl⟩;have HK:=hI hk;have b9:Hid (k<x.san):=by have h:=d6.out.2.1;rw[hk] at h;exact h
   clear hk;have i1:(0:Int)<=(j:Int):=by omega
   have i2:(j:Int)<(l.length:Int):=by omega
   go_wp2_with fail;have f5:Below wr.heap.size wr (wr.alloc (.cells #[int i64 v.leg,int i64 (v.res:Int),.bool v.goes,int i64 v.who,int i64 v.p.pe,int i64 v.p.len,int i64 v.p.hei,int i64 v.p.cl,.bool v.p.all,int i64 v.p.be] 175)):=zr bZ _;have k5:=hI (i9.out.below f5);have j7:Hid ((wr.alloc (.cells #[int i64 v.leg,int i64 (v.res:Int),.bool v.goes,int i64 v.who,int i64 v.p.pe,int i64 v.p.len,int i64 v.p.hei,int i64 v.p.cl,.bool v.p.all,int i64 v.p.be] 175)).heap[qb]?=some (.cells #[.slice a1 x.san c1,.slice R x.san S,.slice a3 x.bkn c3] 66 (0,0))):=ze j8.out _;have k0:=hI (i7.out.trans (zA.of_below f5));generalize wr.alloc (.cells #[int i64 v.leg,int i64 (v.res:Int),.bool v.goes,int i64 v.who,int i64 v.p.pe,int i64 v.p.len,int i64 v.p.hei,int i64 v.p.cl,.bool v.p.all,int i64 v.p.be] 175)=wa at f5 k5 j7 k0 ⊢;clear n8 n9 o0 o1 o2 o3 o4 o5 o6 o7 K b1 b2 b3 d f5;refine(l7Do_any qb V.heap.size x.san x.bkn k c1 S c3 a1 R a3 v { x with ld:=M } L C A B D E wa j7.out k5.out (by omega) HK.out b9.out (a7.out.good k b9.out) d6.out.1 (fun hg=>a7.out.there HV.out HK.out b9.out hg) (fun hg=>by have h:=(d6.out.2.2 hg).2.1.1;unfold In at h ⊢;omega)).mono ?_
   rintro e wd ⟨code,z,A',B',D',rfl,m9,l7,l9,l4⟩;have j1:=hI m9;have n5:=hI l7;have n6:Hid _:=l9;have k4:=hI (k0.out.trans l4);clear m9 l7 l9 l4
   by_cases hc:code=0
   ·subst hc
    go_wp2;go_roundw
    case rel=>exact⟨j+1,zfC M k z,A',B',D',by omega,by go_num,a7.out.next e9.out.1 HV.out HK.out b9.out d6.out j1.out,n5.out,n6.out,k4.out⟩
    case measure=>simp[intOf];omega
   ·have d1:(code != 0)=true:=by simpa using hc
    have d2:(code == 0)=false:=by simpa using hc
    have HC:=hI hc;clear hc;obtain⟨d,K,b1,b2,b3,_⟩:=g9.out wd k4.out;have n0:z=M k:=by
     rcases j1.out.on (a7.out.good k b9.out) (a7.out.comes HV.out HK.out b9.out d6.out) with⟨h,_⟩|⟨_,h⟩
     ·exact absurd h HC.out
     ·exact h
    have n7:Hid (ZT (x.sa k) v (M k) code (M k)):=by have h:=j1.out;rw[n0] at h;exact h
    clear n0;obtain⟨f0,f1,f2⟩:=ce3 K;go_wp2_with fail;refine(zaj p n f x.san x.ldn x.bkn F t s x _ rfl rfl rfl HS.out (HM.out.1.below d) (HM.out.2.1.below d) (HM.out.2.2.1.below d)).mono ?_;rintro e V9 ⟨⟨a1,c1,R,S,a3,c3,L9,C9,A9,B9,D9,E9,rfl,U⟩,c0⟩;have e5:=zj d c0;have Q:=zc b2 c0;have N:=zc b3 c0;obtain⟨O,b6,b7,P,_⟩:=zes e5 (U.lower d.size) Q N (by omega) (by omega) (int i64 code) (int i64 0) (int i64 0) (.slice none 0 0) rfl
    have a9:Hid _:=O;have a8:Hid _:=P;clear O P U;obtain⟨s0,s1,s2⟩:=ce3 Q;obtain⟨f9,g3,g4⟩:=fe3 Q;obtain⟨t0,t1,t2,t3⟩:=ce4 N;obtain⟨g5,g6,g7,g8⟩:=fe4 N;go_wp2;obtain⟨x0,x1,x2⟩:=ce3 b6;obtain⟨z0,z1,z2,z3⟩:=ce4 b7;exact bodyPost_ret (v:=.tuple #[.agg #[.slice a1 x.san c1,.slice R x.ldn S,.slice a3 x.bkn c3],.agg #[int i64 code,int i64 0,int i64 0,.slice none 0 0]]) (by simp[results,Tryz.results104,go_sem,x0,x1,x2,z0,z1,z2,z3]) rfl ⟨⟨x,_,_,_,_,_,_,_,_,_,_,_,_,_,_,_,_,rfl,a9.out,.inr (.inl ⟨a6.out,HC.out,rfl,rfl,rfl,j,M,v,k,by rw[← HL.out];exact a7.out,by rw[← HL.out];exact HV.out,HK.out,b9.out,n7.out⟩),.inl rfl⟩,a8.out⟩
  ·obtain rfl:j=l.length:=by omega
   obtain⟨h0,h1,T,h3,h4,h5,h6,h7,h8,h9,j4,j5⟩:=ce12 b1;go_wp2_with fail;refine(l7End_any qb V.heap.size x.san x.bkn c1 S c3 J m a1 R a3 G a0 y { x with ld:=M } L C A B D E wr j8.out i9.out rfl rfl e7.out (Nat.le_trans (Nat.le_trans i3 (Nat.le_of_lt (Nat.lt_of_lt_of_le p3 m8))) i7.out.size) (HM.out.2.2.2.1.below d) HM.out.2.2.2.2 (fun h0 a ea=>by obtain⟨b',p5,e',o9⟩:=HM.out.2.2.2.1 0 h0;rw[ea] at e';cases e';have h1:=World.block_lt_of_cell? w _ o9;have T:b'<w.heap.size:=h1;show b'<V.heap.size;omega) a6.out HG.out.1.1 l1 ⟨HS.out.1,⟨HS.out.2.1.1,fun i hi=>by have h:=a7.out.good i (by have:=e7.out;have h9:i<x.ldn:=hi;omega);exact⟨by have:=((Ql _ _ _).1 h.1).2.1;show(M i).stn<=_;omega,by have:=h.2.1.2.1;show(M i).ron<=_;omega,by have:=h.2.2.2.1;show(M i).sen<=_;omega⟩⟩,HS.out.2.2⟩ (fun i hi=>(HG.out.1.2.2.2.2.1 i hi).2.2.2.1)).mono ?_
   rintro e we ⟨x3,code,name,price,l3,d7,d8,rv,E',rfl,f7,l8,f6,d0⟩;obtain⟨ra,rn,rc,rfl⟩:∃ ra rn rc,rv=.slice ra rn rc:=by
    by_cases h9:y.kind=9
    ·obtain⟨_,_,_,h3⟩:=f7.1 h9
     obtain⟨ao,c,e,_⟩:=zt h3;exact⟨ao,_,c,e⟩
    ·exact⟨none,0,0,f7.2 h9⟩
   have c5:=hI l3;have k8:=hI f7;have i8:=hI l8;have I:∀ b,b=qb∨(Value.slice a3 x.bkn c3).ownBlock=some b->V.heap.size<=b:=fun b e=>by
    rcases e with e|e
    ·omega
    ·exact(i9.out.bk.row.lt b e).1
   replace K:=d0.blk K (fun e=>by have:=I _ e;omega)
   replace b1:=d0.blk b1 (fun e=>by have:=I _ e;omega)
   replace b2:=d0.blk b2 (fun e=>by have:=I _ e;omega)
   replace b3:=d0.blk b3 (fun e=>by have:=I _ e;omega)
   replace d:=zA.below d d.size d0 (fun b e=>by have:=I _ e;omega)
   clear h0 h1 T h3 h4 h5 h6 h7 h8 h9 j4 j5 l3 f7 l8 d0 I;have p9:∀ o,(we.alloc o).cell? ⟨w.heap.size+1,0,none⟩=some (int i64 y.kind):=fun o=>za (ze b1 o) 0 _ rfl
   by_cases hc:code=0/\y.kind≠1
   case neg =>
    have HC:Hid (code≠0∨y.kind=1):=by
     by_cases h:code=0
     ·exact .inr (by by_cases T:y.kind=1;exact T;exact absurd ⟨h,T⟩ hc)
     ·exact .inl h
    have p4:=k8.out.2 (c5.out.nine HC.out)
    cases p4
    clear hc
    by_cases hc:code=0
    ·have hk:y.kind=1:=by rcases HC.out with h|h;exact absurd hc h;exact h
     subst hc;have d1:(y.kind == 1)=true:=by simpa using hk
     have q0:=hk;clear hk;have bT:=heap_alloc_new we (.cells #[int i64 0,int i64 name,int i64 price,.slice none 0 0] 127);have d9:w.heap.size+1+1+1<we.heap.size:=zZ b3;go_upto_region 14 with fail;replace K:=ze K (.cells #[int i64 0,int i64 name,int i64 price,.slice none 0 0] 127);have j2:=b2;have j3:=b3;replace b2:=ze b2 (.cells #[int i64 0,int i64 name,int i64 price,.slice none 0 0] 127);replace b3:=ze b3 (.cells #[int i64 0,int i64 name,int i64 price,.slice none 0 0] 127);replace d:=zr d (.cells #[int i64 0,int i64 name,int i64 price,.slice none 0 0] 127);have d5:=ze f6 (.cells #[int i64 0,int i64 name,int i64 price,.slice none 0 0] 127);have c6:Hid _:=i8.out.below (zr bZ (.cells #[int i64 0,int i64 name,int i64 price,.slice none 0 0] 127));have c7:Hid (zA we (we.alloc (.cells #[int i64 0,int i64 name,int i64 price,.slice none 0 0] 127)) (fun b=>b=w.heap.size+1+1∨b=w.heap.size+1+1+1)):=zA.of_below (zr bZ _)
     generalize we.alloc (.cells #[int i64 0,int i64 name,int i64 price,.slice none 0 0] 127)=wf at bT K b2 b3 d d5 c6 c7 ⊢;generalize we.heap.size=tb at bT d9 ⊢;have p0:=K;have pT:=bT;have KS:Hid (∀ z:World,z.heap[w.heap.size]?=some (.cells #[.slice p x.san F,.slice n x.ldn t,.slice f x.bkn s] 66 (0,0))->z.heap[tb]?=some (.cells #[int i64 0,int i64 name,int i64 price,.slice none 0 0] 127 (0,0))->z.cell? ⟨w.heap.size,0,none⟩=some (.slice p x.san F)/\z.cell? ⟨w.heap.size,1,none⟩=some (.slice n x.ldn t)/\z.cell? ⟨w.heap.size,2,none⟩=some (.slice f x.bkn s)/\z.cell? ⟨tb,0,none⟩=some (int i64 0)/\z.cell? ⟨tb,1,none⟩=some (int i64 name)/\z.cell? ⟨tb,2,none⟩=some (int i64 price)/\z.cell? ⟨tb,3,none⟩=some (.slice none 0 0)):=fun z h1 T=>⟨za h1 0 _ rfl,za h1 1 _ rfl,za h1 2 _ rfl,za T 0 _ rfl,za T 1 _ rfl,za T 2 _ rfl,za T 3 _ rfl⟩
     have i5:Hid (∀ Z,Below wf.heap.size wf Z->Calls Tryz.prog 101 #[.agg #[.slice p x.san F,.slice n x.ldn t,.slice f x.bkn s]] Z fun e u=>(∃ d1 e1 d2 e2 d3 e3 L C A B D E,e=.returned (.agg #[.slice d1 x.san e1,.slice d2 x.ldn e2,.slice d3 x.bkn e3])/\Hid (zV u w.heap.size (.slice d1 x.san e1) (.slice d2 x.ldn e2) (.slice d3 x.bkn e3) x.san x.ldn x.bkn x L C A B D E))/\Below wf.heap.size wf u):=fun Z hZ=>by
      refine(zaj p n f x.san x.ldn x.bkn F t s x Z rfl rfl rfl HS.out (HM.out.1.below (zj d hZ)) (HM.out.2.1.below (zj d hZ)) (HM.out.2.2.1.below (zj d hZ))).mono ?_;rintro e u ⟨⟨d1,e1,d2,e2,d3,e3,L',C',A',B',D',E',rfl,h⟩,hb⟩;exact⟨⟨d1,e1,d2,e2,d3,e3,L',C',A',B',D',E',rfl,h.lower (zj d hZ).size⟩,zj hZ hb⟩
     go_region_held3 (fun w'=>w'.cell? ⟨w.heap.size,0,none⟩=some (.slice p x.san F)/\w'.cell? ⟨w.heap.size,1,none⟩=some (.slice n x.ldn t)/\w'.cell? ⟨w.heap.size,2,none⟩=some (.slice f x.bkn s)/\w'.cell? ⟨tb,0,none⟩=some (int i64 0)/\w'.cell? ⟨tb,1,none⟩=some (int i64 name)/\w'.cell? ⟨tb,2,none⟩=some (int i64 price)/\w'.cell? ⟨tb,3,none⟩=some (.slice none 0 0))
      (first|(refine KS.out _ ?_ ?_ <;> (repeat(first|with_reducible exact p0|with_reducible exact pT|(with_reducible refine zF ?_)|(with_reducible refine zD ?_ _ _ ?_;rotate_left;(focus omega))))))
      (first
       | (go_simp;go_at_call 101;(with_reducible refine Calls.mono (i5.out _ ?_) ?_);(focus(repeat(first | exact bZ | refine Below.drew ?_ | refine zr ?_ _)));rintro e u2 ⟨⟨d1,e1,d2,e2,d3,e3,L9,C9,A9,B9,D9,E9,rfl,U⟩,H⟩;have i4:=hI H;replace p0:=zc p0 H;replace pT:=zc pT H;have Q:=zc b2 H;have N:=zc b3 H;have s0:=za Q 0 _ rfl;have f9:=zg Q 0;have s1:=za Q 1 _ rfl;have g3:=zg Q 1;have s2:=za Q 2 _ rfl;have g4:=zg Q 2;have t0:=za N 0 _ rfl;have g5:=zg N 0;have t1:=za N 1 _ rfl;have g6:=zg N 1;have t2:=za N 2 _ rfl;have g7:=zg N 2;have t3:=za N 3 _ rfl;have g8:=zg N 3;dsimp only))
     ·have e4:=zj d i4.out
      obtain⟨O,b6,b7,P,b8⟩:=zes e4 U.out Q N (by omega) (by omega) (int i64 0) (int i64 name) (int i64 price) (.slice none 0 0) rfl
      have a9:Hid _:=O;have a8:Hid _:=P;have i6:Hid _:=b8;clear O P b8;obtain⟨x0,x1,x2⟩:=ce3 b6;obtain⟨z0,z1,z2,z3⟩:=ce4 b7;go_wp2;exact bodyPost_ret (v:=.tuple #[.agg #[.slice d1 x.san e1,.slice d2 x.ldn e2,.slice d3 x.bkn e3],.agg #[int i64 0,int i64 name,int i64 price,.slice none 0 0]]) (by simp[results,Tryz.results104,go_sem,x0,x1,x2,z0,z1,z2,z3]) rfl ⟨⟨x,_,_,_,_,_,_,_,_,_,_,_,_,_,_,_,_,rfl,a9.out,.inr (.inr ⟨a6.out,M,x3,by rw[← HL.out];exact a7.out,c5.out,fun _=>rfl,fun h=>absurd HC.out h⟩),.inl rfl⟩,a8.out⟩
    ·have d1:(code != 0)=true:=by simpa using hc
     have d2:(code == 0)=false:=by simpa using hc
     clear hc;have bT:=heap_alloc_new we (.cells #[int i64 code,int i64 name,int i64 price,.slice none 0 0] 127);have d9:w.heap.size+1+1+1<we.heap.size:=zZ b3;go_upto_region 14 with fail;replace K:=ze K (.cells #[int i64 code,int i64 name,int i64 price,.slice none 0 0] 127);have j2:=b2;have j3:=b3;replace b2:=ze b2 (.cells #[int i64 code,int i64 name,int i64 price,.slice none 0 0] 127);replace b3:=ze b3 (.cells #[int i64 code,int i64 name,int i64 price,.slice none 0 0] 127);replace d:=zr d (.cells #[int i64 code,int i64 name,int i64 price,.slice none 0 0] 127);have d5:=ze f6 (.cells #[int i64 code,int i64 name,int i64 price,.slice none 0 0] 127);have c6:Hid _:=i8.out.below (zr bZ (.cells #[int i64 code,int i64 name,int i64 price,.slice none 0 0] 127));have c7:Hid (zA we (we.alloc (.cells #[int i64 code,int i64 name,int i64 price,.slice none 0 0] 127)) (fun b=>b=w.heap.size+1+1∨b=w.heap.size+1+1+1)):=zA.of_below (zr bZ _)
     generalize we.alloc (.cells #[int i64 code,int i64 name,int i64 price,.slice none 0 0] 127)=wf at bT K b2 b3 d d5 c6 c7 ⊢;generalize we.heap.size=tb at bT d9 ⊢;have p0:=K;have pT:=bT;have KS:Hid (∀ z:World,z.heap[w.heap.size]?=some (.cells #[.slice p x.san F,.slice n x.ldn t,.slice f x.bkn s] 66 (0,0))->z.heap[tb]?=some (.cells #[int i64 code,int i64 name,int i64 price,.slice none 0 0] 127 (0,0))->z.cell? ⟨w.heap.size,0,none⟩=some (.slice p x.san F)/\z.cell? ⟨w.heap.size,1,none⟩=some (.slice n x.ldn t)/\z.cell? ⟨w.heap.size,2,none⟩=some (.slice f x.bkn s)/\z.cell? ⟨tb,0,none⟩=some (int i64 code)/\z.cell? ⟨tb,1,none⟩=some (int i64 name)/\z.cell? ⟨tb,2,none⟩=some (int i64 price)/\z.cell? ⟨tb,3,none⟩=some (.slice none 0 0)):=fun z h1 T=>⟨za h1 0 _ rfl,za h1 1 _ rfl,za h1 2 _ rfl,za T 0 _ rfl,za T 1 _ rfl,za T 2 _ rfl,za T 3 _ rfl⟩
     have i5:Hid (∀ Z,Below wf.heap.size wf Z->Calls Tryz.prog 101 #[.agg #[.slice p x.san F,.slice n x.ldn t,.slice f x.bkn s]] Z fun e u=>(∃ d1 e1 d2 e2 d3 e3 L C A B D E,e=.returned (.agg #[.slice d1 x.san e1,.slice d2 x.ldn e2,.slice d3 x.bkn e3])/\Hid (zV u w.heap.size (.slice d1 x.san e1) (.slice d2 x.ldn e2) (.slice d3 x.bkn e3) x.san x.ldn x.bkn x L C A B D E))/\Below wf.heap.size wf u):=fun Z hZ=>by
      refine(zaj p n f x.san x.ldn x.bkn F t s x Z rfl rfl rfl HS.out (HM.out.1.below (zj d hZ)) (HM.out.2.1.below (zj d hZ)) (HM.out.2.2.1.below (zj d hZ))).mono ?_;rintro e u ⟨⟨d1,e1,d2,e2,d3,e3,L',C',A',B',D',E',rfl,h⟩,hb⟩;exact⟨⟨d1,e1,d2,e2,d3,e3,L',C',A',B',D',E',rfl,h.lower (zj d hZ).size⟩,zj hZ hb⟩
     go_region_held3 (fun w'=>w'.cell? ⟨w.heap.size,0,none⟩=some (.slice p x.san F)/\w'.cell? ⟨w.heap.size,1,none⟩=some (.slice n x.ldn t)/\w'.cell? ⟨w.heap.size,2,none⟩=some (.slice f x.bkn s)/\w'.cell? ⟨tb,0,none⟩=some (int i64 code)/\w'.cell? ⟨tb,1,none⟩=some (int i64 name)/\w'.cell? ⟨tb,2,none⟩=some (int i64 price)/\w'.cell? ⟨tb,3,none⟩=some (.slice none 0 0))
      (first|(refine KS.out _ ?_ ?_ <;> (repeat(first|with_reducible exact p0|with_reducible exact pT|(with_reducible refine zF ?_)|(with_reducible refine zD ?_ _ _ ?_;rotate_left;(focus omega))))))
      (first
       | (go_simp;go_at_call 101;(with_reducible refine Calls.mono (i5.out _ ?_) ?_);(focus(repeat(first | exact bZ | refine Below.drew ?_ | refine zr ?_ _)));rintro e u2 ⟨⟨d1,e1,d2,e2,d3,e3,L9,C9,A9,B9,D9,E9,rfl,U⟩,H⟩;have i4:=hI H;replace p0:=zc p0 H;replace pT:=zc pT H;have Q:=zc b2 H;have N:=zc b3 H;have s0:=za Q 0 _ rfl;have f9:=zg Q 0;have s1:=za Q 1 _ rfl;have g3:=zg Q 1;have s2:=za Q 2 _ rfl;have g4:=zg Q 2;have t0:=za N 0 _ rfl;have g5:=zg N 0;have t1:=za N 1 _ rfl;have g6:=zg N 1;have t2:=za N 2 _ rfl;have g7:=zg N 2;have t3:=za N 3 _ rfl;have g8:=zg N 3;dsimp only))
     ·have e4:=zj d i4.out
      obtain⟨O,b6,b7,P,b8⟩:=zes e4 U.out Q N (by omega) (by omega) (int i64 code) (int i64 name) (int i64 price) (.slice none 0 0) rfl
      have a9:Hid _:=O;have a8:Hid _:=P;have i6:Hid _:=b8;clear O P b8;obtain⟨x0,x1,x2⟩:=ce3 b6;obtain⟨z0,z1,z2,z3⟩:=ce4 b7;go_wp2;exact bodyPost_ret (v:=.tuple #[.agg #[.slice d1 x.san e1,.slice d2 x.ldn e2,.slice d3 x.bkn e3],.agg #[int i64 code,int i64 name,int i64 price,.slice none 0 0]]) (by simp[results,Tryz.results104,go_sem,x0,x1,x2,z0,z1,z2,z3]) rfl ⟨⟨x,_,_,_,_,_,_,_,_,_,_,_,_,_,_,_,_,rfl,a9.out,.inr (.inr ⟨a6.out,M,x3,by rw[← HL.out];exact a7.out,c5.out,fun _=>rfl,fun h=>absurd HC.out h⟩),.inl rfl⟩,a8.out⟩
   obtain⟨hc,hk⟩:=hc;subst hc;have d1:(y.kind == 1)=false:=by simpa using hk
   have n4:=hI hk;clear hk;have m7:x3.san=x.san/\x3.ldn=x.san:=⟨c5.out.size.1,c5.out.size.2.trans e7.out⟩;obtain⟨q7,n2,q6,n1,c8,l0⟩:=x3;obtain⟨e1,e2⟩:=m7;dsimp only at e1 e2 f6;subst e1;subst e2;have k6:=hI i8.out;have bT:=heap_alloc_new we (.cells #[int i64 0,int i64 name,int i64 price,.slice ra rn rc] 127);have d9:w.heap.size+1+1+1<we.heap.size:=zZ b3;go_upto_region 15 with fail;replace K:=ze K (.cells #[int i64 0,int i64 name,int i64 price,.slice ra rn rc] 127);have j2:=b2;have j3:=b3;replace b2:=ze b2 (.cells #[int i64 0,int i64 name,int i64 price,.slice ra rn rc] 127);replace b3:=ze b3 (.cells #[int i64 0,int i64 name,int i64 price,.slice ra rn rc] 127);replace d:=zr d (.cells #[int i64 0,int i64 name,int i64 price,.slice ra rn rc] 127);have d5:=ze f6 (.cells #[int i64 0,int i64 name,int i64 price,.slice ra rn rc] 127);have c6:Hid _:=k6.out.below (zr bZ (.cells #[int i64 0,int i64 name,int i64 price,.slice ra rn rc] 127));have c7:Hid (zA we (we.alloc (.cells #[int i64 0,int i64 name,int i64 price,.slice ra rn rc] 127)) (fun b=>b=w.heap.size+1+1∨b=w.heap.size+1+1+1)):=zA.of_below (zr bZ _)
   generalize we.alloc (.cells #[int i64 0,int i64 name,int i64 price,.slice ra rn rc] 127)=wf at bT K b2 b3 d d5 c6 c7 ⊢;generalize we.heap.size=tb at bT d9 ⊢;have p0:=d5;have pT:=bT;have KS:Hid (∀ z:World,z.heap[qb]?=some (.cells #[.slice a1 x.san c1,.slice R x.san S,.slice d7 c8 d8] 66 (0,0))->z.heap[tb]?=some (.cells #[int i64 0,int i64 name,int i64 price,.slice ra rn rc] 127 (0,0))->z.cell? ⟨qb,0,none⟩=some (.slice a1 x.san c1)/\z.cell? ⟨qb,1,none⟩=some (.slice R x.san S)/\z.cell? ⟨qb,2,none⟩=some (.slice d7 c8 d8)/\z.cell? ⟨tb,0,none⟩=some (int i64 0)/\z.cell? ⟨tb,1,none⟩=some (int i64 name)/\z.cell? ⟨tb,2,none⟩=some (int i64 price)/\z.cell? ⟨tb,3,none⟩=some (.slice ra rn rc)):=fun z h1 T=>⟨za h1 0 _ rfl,za h1 1 _ rfl,za h1 2 _ rfl,za T 0 _ rfl,za T 1 _ rfl,za T 2 _ rfl,za T 3 _ rfl⟩
   have Q:=b2;have N:=b3;obtain⟨s0,s1,s2⟩:=ce3 Q;obtain⟨f9,g3,g4⟩:=fe3 Q;obtain⟨t0,t1,t2,t3⟩:=ce4 N;obtain⟨g5,g6,g7,g8⟩:=fe4 N;go_region_held3 (fun w'=>w'.cell? ⟨qb,0,none⟩=some (.slice a1 x.san c1)/\w'.cell? ⟨qb,1,none⟩=some (.slice R x.san S)/\w'.cell? ⟨qb,2,none⟩=some (.slice d7 c8 d8)/\w'.cell? ⟨tb,0,none⟩=some (int i64 0)/\w'.cell? ⟨tb,1,none⟩=some (int i64 name)/\w'.cell? ⟨tb,2,none⟩=some (int i64 price)/\w'.cell? ⟨tb,3,none⟩=some (.slice ra rn rc))
    (first|(refine KS.out _ ?_ ?_ <;> (repeat(first|with_reducible exact p0|with_reducible exact pT|(with_reducible refine zF ?_)|(with_reducible refine zD ?_ _ _ ?_;rotate_left;(focus omega))))))
    (fail)
   ·have e4:=d
    obtain⟨O,b6,b7,P,b8⟩:=zes e4 (c6.out.lower i0) Q N (by omega) (by omega) (int i64 0) (int i64 name) (int i64 price) (.slice ra rn rc) rfl
    have a9:Hid _:=O.below (Below.drew bZ);have a8:Hid _:=Below.drew P;have i6:Hid _:=b8.trans (zA.of_below (Below.drew bZ));clear O P b8;obtain⟨x0,x1,x2⟩:=ce3 (zF b6);obtain⟨z0,z1,z2,z3⟩:=ce4 (zF b7);go_wp2;refine bodyPost_ret (v:=.tuple #[.agg #[.slice a1 x.san c1,.slice R x.san S,.slice d7 c8 d8],.agg #[int i64 0,int i64 name,int i64 price,.slice ra rn rc]]) (by simp[results,Tryz.results104,go_sem,x0,x1,x2,z0,z1,z2,z3]) rfl ⟨⟨⟨x.san,n2,x.san,n1,c8,l0⟩,a1,c1,R,S,d7,d8,0,name,price,.slice ra rn rc,L,C,A,B,D,E',rfl,?_,?_,?_⟩,a8.out⟩
    ·exact a9.out
    ·exact .inr (.inr ⟨a6.out,M,⟨x.san,n2,x.san,n1,c8,l0⟩,by rw[← HL.out];exact a7.out,c5.out,fun h=>by rcases h with h|h;exact absurd rfl h;exact absurd h n4.out,fun _=>rfl⟩)
    ·exact .inr ⟨M,_,zgk k8.out (c7.out.trans i6.out) (fun g e=>by rcases e with e|e;exact⟨_,_,by rw[e];exact j2,by decide⟩;exact⟨_,_,by rw[e];exact j3,by decide⟩)⟩
theorem zfc (x:Off)(z F:Option Addr)(c f B H y:Nat)(i:Nat)(C:Nat->List Value)(w:World)(hi:i<x.bkn)(hs:Off.Short x 1048576)
  (d7:SailsAt w z x.san x.sa) (hC:RecsAt w (some ⟨c,f,none⟩) x.bkn 13 C) (hI:∀ k,k<x.bkn->ZK.Is w (C k) (x.bk k)) (h0:x.bkn<=y) :
  Calls Tryz.prog 115 #[.agg #[.slice z x.san B,.slice F x.ldn H,.slice (some ⟨c,f,none⟩) x.bkn y],int i64 i] w fun e w'=>SaysIf (Zx x i) e/\Below w.heap.size w w':=by
 have e6:=hI d7;have HC:=hI hC;have HI:=hI hI;have d5:=hI hs;have f9:x.bkn<=1048576:=hs.2.2.1;clear d7 hC hI hs;obtain⟨b0,f8,e0,n⟩:=HC.out i hi;simp only[Option.some.injEq,Addr.mk.injEq,and_true] at e0;obtain⟨rfl,rfl⟩:=e0;obtain⟨G,I,m,a2,e4⟩:=HI.out i hi;obtain⟨b,hb⟩:∃ b,b=x.bk i:=⟨_,rfl⟩;rw[← hb] at m a2 e4;have A:=hI hb;have e5:=hI a2;have d0:Hid (ZK.Short b 1048576):=by rw[hb];exact d5.out.2.2.2 i hi
 have a:c<w.heap.size:=World.block_lt_of_cell? w _ (n 0 (by decide))
 have g0:w.cell? ⟨c,f+i*13,none⟩=some (int i64 b.name):=by have:=n 0 (by decide);rw[m] at this;exact this
 have g1:w.cell? ⟨c,f+i*13+1,none⟩=some (int i64 b.who):=by have:=n 1 (by decide);rw[m] at this;exact this
 have g2:w.cell? ⟨c,f+i*13+2,none⟩=some (.string b.own):=by have:=n 2 (by decide);rw[m] at this;exact this
 have g3:w.cell? ⟨c,f+i*13+3,none⟩=some (.slice G b.lgn I):=by have:=n 3 (by decide);rw[m] at this;exact this
 have g4:w.cell? ⟨c,f+i*13+4,none⟩=some (int i64 b.pe):=by have:=n 4 (by decide);rw[m] at this;exact this
 have g5:w.cell? ⟨c,f+i*13+5,none⟩=some (int i64 b.len):=by have:=n 5 (by decide);rw[m] at this;exact this
 have g6:w.cell? ⟨c,f+i*13+6,none⟩=some (int i64 b.hei):=by have:=n 6 (by decide);rw[m] at this;exact this
 have g7:w.cell? ⟨c,f+i*13+7,none⟩=some (int i64 b.cl):=by have:=n 7 (by decide);rw[m] at this;exact this
 have g8:w.cell? ⟨c,f+i*13+8,none⟩=some (.bool b.all):=by have:=n 8 (by decide);rw[m] at this;exact this
 have g9:w.cell? ⟨c,f+i*13+9,none⟩=some (int i64 b.be):=by have:=n 9 (by decide);rw[m] at this;exact this
 have Z:w.cell? ⟨c,f+i*13+10,none⟩=some (int i64 b.state):=by have:=n 10 (by decide);rw[m] at this;exact this
 have a0:w.cell? ⟨c,f+i*13+11,none⟩=some (int i64 b.unt):=by have:=n 11 (by decide);rw[m] at this;exact this
 have a1:w.cell? ⟨c,f+i*13+12,none⟩=some (int i64 b.price):=by have:=n 12 (by decide);rw[m] at this;exact this
 have d6:Below w.heap.size w (w.alloc (.cells #[.slice z x.san B,.slice F x.ldn H,.slice (some ⟨c,f,none⟩) x.bkn y] 66)):=zr bZ _;have bO:=heap_alloc_new w (.cells #[.slice z x.san B,.slice F x.ldn H,.slice (some ⟨c,f,none⟩) x.bkn y] 66);have c0:∀ o,(w.alloc o).cell? ⟨c,f+i*13,none⟩=some (int i64 b.name):=fun o=>((zr (Below.refl _ w) o).cell (p:=⟨c,f+i*13,none⟩) a).trans g0
 have c1:∀ o,(w.alloc o).cell? ⟨c,f+i*13+1,none⟩=some (int i64 b.who):=fun o=>((zr (Below.refl _ w) o).cell (p:=⟨c,f+i*13+1,none⟩) a).trans g1
 have c2:∀ o,(w.alloc o).cell? ⟨c,f+i*13+2,none⟩=some (.string b.own):=fun o=>((zr (Below.refl _ w) o).cell (p:=⟨c,f+i*13+2,none⟩) a).trans g2
 have c3:∀ o,(w.alloc o).cell? ⟨c,f+i*13+3,none⟩=some (.slice G b.lgn I):=fun o=>((zr (Below.refl _ w) o).cell (p:=⟨c,f+i*13+3,none⟩) a).trans g3
 have c4:∀ o,(w.alloc o).cell? ⟨c,f+i*13+4,none⟩=some (int i64 b.pe):=fun o=>((zr (Below.refl _ w) o).cell (p:=⟨c,f+i*13+4,none⟩) a).trans g4
 have c5:∀ o,(w.alloc o).cell? ⟨c,f+i*13+5,none⟩=some (int i64 b.len):=fun o=>((zr (Below.refl _ w) o).cell (p:=⟨c,f+i*13+5,none⟩) a).trans g5
 have c6:∀ o,(w.alloc o).cell? ⟨c,f+i*13+6,none⟩=some (int i64 b.hei):=fun o=>((zr (Below.refl _ w) o).cell (p:=⟨c,f+i*13+6,none⟩) a).trans g6
 have c7:∀ o,(w.alloc o).cell? ⟨c,f+i*13+7,none⟩=some (int i64 b.cl):=fun o=>((zr (Below.refl _ w) o).cell (p:=⟨c,f+i*13+7,none⟩) a).trans g7
 have c8:∀ o,(w.alloc o).cell? ⟨c,f+i*13+8,none⟩=some (.bool b.all):=fun o=>((zr (Below.refl _ w) o).cell (p:=⟨c,f+i*13+8,none⟩) a).trans g8
 have c9:∀ o,(w.alloc o).cell? ⟨c,f+i*13+9,none⟩=some (int i64 b.be):=fun o=>((zr (Below.refl _ w) o).cell (p:=⟨c,f+i*13+9,none⟩) a).trans g9
 have e8:∀ o,(w.alloc o).cell? ⟨c,f+i*13+10,none⟩=some (int i64 b.state):=fun o=>((zr (Below.refl _ w) o).cell (p:=⟨c,f+i*13+10,none⟩) a).trans Z
 have e9:∀ o,(w.alloc o).cell? ⟨c,f+i*13+11,none⟩=some (int i64 b.unt):=fun o=>((zr (Below.refl _ w) o).cell (p:=⟨c,f+i*13+11,none⟩) a).trans a0
 have f0:∀ o,(w.alloc o).cell? ⟨c,f+i*13+12,none⟩=some (int i64 b.price):=fun o=>((zr (Below.refl _ w) o).cell (p:=⟨c,f+i*13+12,none⟩) a).trans a1
 clear n m a2 e4 hb g0 g1 g2 g3 g4 g5 g6 g7 g8 g9 Z a0 a1;have f4:IntKind.i64.wrap ((i:Int)+1)=(i:Int)+1:=by rw[IntKind.wrap_i64];omega
 have h1:(0:Int)<=(i:Int):=by omega
 have h2:(i:Int)<(x.bkn:Int):=by omega
 have g:Below w.heap.size w ((w.alloc (.cells #[.slice z x.san B,.slice F x.ldn H,.slice (some ⟨c,f,none⟩) x.bkn y] 66)).alloc (.cells #[int i64 b.name,int i64 b.who,.string b.own,.slice G b.lgn I,int i64 b.pe,int i64 b.len,int i64 b.hei,int i64 b.cl,.bool b.all,int i64 b.be,int i64 b.state,int i64 b.unt,int i64 b.price] 131)):=zr d6 _;have s:((w.alloc (.cells #[.slice z x.san B,.slice F x.ldn H,.slice (some ⟨c,f,none⟩) x.bkn y] 66)).alloc (.cells #[int i64 b.name,int i64 b.who,.string b.own,.slice G b.lgn I,int i64 b.pe,int i64 b.len,int i64 b.hei,int i64 b.cl,.bool b.all,int i64 b.be,int i64 b.state,int i64 b.unt,int i64 b.price] 131)).heap[w.heap.size]?=some (.cells #[.slice z x.san B,.slice F x.ldn H,.slice (some ⟨c,f,none⟩) x.bkn y] 66 (0,0)):=ze bO _;have r:((w.alloc (.cells #[.slice z x.san B,.slice F x.ldn H,.slice (some ⟨c,f,none⟩) x.bkn y] 66)).alloc (.cells #[int i64 b.name,int i64 b.who,.string b.own,.slice G b.lgn I,int i64 b.pe,int i64 b.len,int i64 b.hei,int i64 b.cl,.bool b.all,int i64 b.be,int i64 b.state,int i64 b.unt,int i64 b.price] 131)).heap[w.heap.size+1]?=some (.cells #[int i64 b.name,int i64 b.who,.string b.own,.slice G b.lgn I,int i64 b.pe,int i64 b.len,int i64 b.hei,int i64 b.cl,.bool b.all,int i64 b.be,int i64 b.state,int i64 b.unt,int i64 b.price] 131 (0,0)):=by simpa using heap_alloc_new (w.alloc _) _
 clear d6 bO
 by_cases n1:b.name=(i:Int)+1
 case neg =>
  have e1:(b.name != (i:Int)+1)=true:=by simpa using n1
  have E:Hid (¬ Zx x i):=fun h=>n1 (by rw[A.out];exact h.1)
  clear n1;go_enter Tryz.func115,Tryz.ntmps115;go_wp2;go_ret;exact⟨zC E.out,g⟩
 have e1:(b.name != (i:Int)+1)=false:=by simpa using n1
 have a8:=hI n1;clear n1;go_enter Tryz.func115,Tryz.ntmps115;go_wp2_with fail;generalize (w.alloc (.cells #[.slice z x.san B,.slice F x.ldn H,.slice (some ⟨c,f,none⟩) x.bkn y] 66)).alloc (.cells #[int i64 b.name,int i64 b.who,.string b.own,.slice G b.lgn I,int i64 b.pe,int i64 b.len,int i64 b.hei,int i64 b.cl,.bool b.all,int i64 b.be,int i64 b.state,int i64 b.unt,int i64 b.price] 131)=W at g s r ⊢;clear c0 c1 c2 c3 c4 c5 c6 c7 c8 c9 e8 e9 f0 e1 f4;obtain⟨y0,y1,y2,y3,y4,y5,y6,y7,y8,y9,L,M,Q⟩:=ce13 r;have z0:=za s 0 _ rfl;have z2:=za s 2 _ rfl;refine(ZE _ _).mono ?_;obtain⟨t0,a3⟩:∃ t,t=decide (In b.who 1 9999):=⟨_,rfl⟩;rw[← a3];have S:Hid (t0=true↔In b.who 1 9999):=by show t0=true↔In b.who 1 9999;rw[a3,decide_eq_true_eq]
 clear a3;rintro e v ⟨rfl,J⟩;have J:=J.symm;subst J
 cases t0 with
 | false =>
  have E:Hid (¬ Zx x i):=fun h=>by have h:=(show Zx x i from h);unfold Zx at h;rw[← A.out] at h;have:=S.out.2 h.2.1;cases this
  go_wp2;go_ret;exact⟨zC E.out,g⟩
 | true =>
 have a9:Hid (In b.who 1 9999):=S.out.1 rfl;clear S;go_wp2_with fail;refine(qz _ _ (by have:=d0.out.1;omega)).mono ?_
 obtain⟨t1,a5⟩:∃ t,t=decide (qK b.own):=⟨_,rfl⟩;rw[← a5];have T:Hid (t1=true↔qK b.own):=by show t1=true↔qK b.own;rw[a5,decide_eq_true_eq]
 clear a5;rintro e v ⟨rfl,J⟩;have J:=J.symm;subst J
 cases t1 with
 | false =>
  have E:Hid (¬ Zx x i):=fun h=>by have h:=(show Zx x i from h);unfold Zx at h;rw[← A.out] at h;have:=T.out.2 h.2.2.1;cases this
  go_wp2;go_ret;exact⟨zC E.out,g⟩
 | true =>
 have b5:Hid (qK b.own):=T.out.1 rfl;clear T;go_wp2_with fail;refine(zdh z G x.san b.lgn B I x.sa b.lg _ d5.out.1.1 d0.out.2 (e6.out.below g) (e5.out.below g)).mono ?_;rintro e v2 ⟨⟨t2,rfl,d8⟩,D⟩;have U:=hI d8;clear d8;have O:=zc s D;have N:=zc r D;have P:=zj g D;clear y0 y1 y2 y3 y4 y5 y6 y7 y8 y9 L M Q z0 z2 g s r D;have g:=P;have s:=O;have r:=N;clear P O N;obtain⟨y0,y1,y2,y3,y4,y5,y6,y7,y8,y9,L,M,Q⟩:=ce13 r;have z0:=za s 0 _ rfl;have z2:=za s 2 _ rfl
 cases t2 with
 | false =>
  have E:Hid (¬ Zx x i):=fun h=>by have h:=(show Zx x i from h);unfold Zx at h;rw[← A.out] at h;have:=U.out.2 h.2.2.2.1;cases this
  go_wp2;go_ret;exact⟨zC E.out,g⟩
 | true =>
 have b6:Hid (zba x.san x.sa b.lgn b.lg):=U.out.1 rfl;clear U;go_wp2_with fail;refine(Qm b.pe b.len b.hei b.cl b.all b.be _).mono ?_;rintro e v3 ⟨⟨t3,rfl,d9⟩,D⟩;have V:=hI d9;clear d9;have O:=zc s D;have N:=zc r D;have P:=zj g D;clear y0 y1 y2 y3 y4 y5 y6 y7 y8 y9 L M Q z0 z2 g s r D;have g:=P;have s:=O;have r:=N;clear P O N;obtain⟨y0,y1,y2,y3,y4,y5,y6,y7,y8,y9,L,M,Q⟩:=ce13 r;have z0:=za s 0 _ rfl;have z2:=za s 2 _ rfl
 cases t3 with
 | false =>
  have E:Hid (¬ Zx x i):=fun h=>by have h:=(show Zx x i from h);unfold Zx at h;rw[← A.out] at h;have:=V.out.2 h.2.2.2.2.1;cases this
  go_wp2;go_ret;exact⟨zC E.out,g⟩
 | true =>
 have b7:Hid (qI b.p):=V.out.1 rfl;clear V;go_wp2_with fail;refine(zx _ _ _ _).mono ?_;obtain⟨t4,a6⟩:∃ t,t=decide (In b.state 1 4):=⟨_,rfl⟩;rw[← a6];have X:Hid (t4=true↔In b.state 1 4):=by show t4=true↔In b.state 1 4;rw[a6,decide_eq_true_eq]
 clear a6;rintro e v ⟨rfl,J⟩;have J:=J.symm;subst J
 cases t4 with
 | false =>
  have E:Hid (¬ Zx x i):=fun h=>by have h:=(show Zx x i from h);unfold Zx at h;rw[← A.out] at h;have:=X.out.2 h.2.2.2.2.2.1;cases this
  go_wp2;go_ret;exact⟨zC E.out,g⟩
 | true =>
 have b8:Hid (In b.state 1 4):=X.out.1 rfl;clear X;go_wp2_with fail;refine(zx _ _ _ _).mono ?_;obtain⟨t5,a7⟩:∃ t,t=decide (In b.price 0 1000000):=⟨_,rfl⟩;rw[← a7];have Y:Hid (t5=true↔In b.price 0 1000000):=by show t5=true↔In b.price 0 1000000;rw[a7,decide_eq_true_eq]
 clear a7;rintro e v ⟨rfl,J⟩;have J:=J.symm;subst J
 cases t5 with
 | false =>
  have E:Hid (¬ Zx x i):=fun h=>by have h:=(show Zx x i from h);unfold Zx at h;rw[← A.out] at h;have:=Y.out.2 h.2.2.2.2.2.2.1;cases this
  go_wp2;go_ret;exact⟨zC E.out,g⟩
 | true =>
 have b9:Hid (In b.price 0 1000000):=Y.out.1 rfl;clear Y;have f7:(x.bkn:Int)<=(y:Int):=by omega
 have h3:(i:Int)<=(y:Int):=by omega
 go_wp2;clear y0 y1 y2 y3 y4 y5 y6 y7 y8 y9 L M Q z0 z2;go_loopw [7,61] (fun _ q K=>∃ k:Nat,k<=i/\q=int i64 k/\(∀ j,j<k->(x.bk j).who≠b.who)/\Below v3.heap.size v3 K) (fun _ q _=>i - (intOf q).toNat)
 case atStart=>exact⟨0,Nat.zero_le _,rfl,fun j hj=>by omega,bZ⟩
 case round =>
  obtain⟨k,hk,rfl,R,u⟩:=hrel;have HA:=hI R;clear R
  by_cases hlt:k<i
  ·obtain⟨b2,o2,e2,n⟩:=HC.out k (by omega)
   simp only[Option.some.injEq,Addr.mk.injEq,and_true] at e2;obtain⟨rfl,rfl⟩:=e2;obtain⟨e7,f1,m,_,_⟩:=HI.out k (by omega)
   obtain⟨d,hd⟩:∃ d,d=x.bk k:=⟨_,rfl⟩;rw[← hd] at m;have HD:=hI hd;clear hd;have l:=zj g u;have g0:K.cell? ⟨c,f+k*13,none⟩=some (int i64 d.name):=(l.cell (p:=⟨c,f+k*13,none⟩) a).trans (by have:=n 0 (by decide);rw[m] at this;exact this)
   have g1:K.cell? ⟨c,f+k*13+1,none⟩=some (int i64 d.who):=(l.cell (p:=⟨c,f+k*13+1,none⟩) a).trans (by have:=n 1 (by decide);rw[m] at this;exact this)
   have g2:K.cell? ⟨c,f+k*13+2,none⟩=some (.string d.own):=(l.cell (p:=⟨c,f+k*13+2,none⟩) a).trans (by have:=n 2 (by decide);rw[m] at this;exact this)
   have g3:K.cell? ⟨c,f+k*13+3,none⟩=some (.slice e7 d.lgn f1):=(l.cell (p:=⟨c,f+k*13+3,none⟩) a).trans (by have:=n 3 (by decide);rw[m] at this;exact this)
   have g4:K.cell? ⟨c,f+k*13+4,none⟩=some (int i64 d.pe):=(l.cell (p:=⟨c,f+k*13+4,none⟩) a).trans (by have:=n 4 (by decide);rw[m] at this;exact this)
   have g5:K.cell? ⟨c,f+k*13+5,none⟩=some (int i64 d.len):=(l.cell (p:=⟨c,f+k*13+5,none⟩) a).trans (by have:=n 5 (by decide);rw[m] at this;exact this)
   have g6:K.cell? ⟨c,f+k*13+6,none⟩=some (int i64 d.hei):=(l.cell (p:=⟨c,f+k*13+6,none⟩) a).trans (by have:=n 6 (by decide);rw[m] at this;exact this)
   have g7:K.cell? ⟨c,f+k*13+7,none⟩=some (int i64 d.cl):=(l.cell (p:=⟨c,f+k*13+7,none⟩) a).trans (by have:=n 7 (by decide);rw[m] at this;exact this)
   have g8:K.cell? ⟨c,f+k*13+8,none⟩=some (.bool d.all):=(l.cell (p:=⟨c,f+k*13+8,none⟩) a).trans (by have:=n 8 (by decide);rw[m] at this;exact this)
   have g9:K.cell? ⟨c,f+k*13+9,none⟩=some (int i64 d.be):=(l.cell (p:=⟨c,f+k*13+9,none⟩) a).trans (by have:=n 9 (by decide);rw[m] at this;exact this)
   have Z:K.cell? ⟨c,f+k*13+10,none⟩=some (int i64 d.state):=(l.cell (p:=⟨c,f+k*13+10,none⟩) a).trans (by have:=n 10 (by decide);rw[m] at this;exact this)
   have a0:K.cell? ⟨c,f+k*13+11,none⟩=some (int i64 d.unt):=(l.cell (p:=⟨c,f+k*13+11,none⟩) a).trans (by have:=n 11 (by decide);rw[m] at this;exact this)
   have a1:K.cell? ⟨c,f+k*13+12,none⟩=some (int i64 d.price):=(l.cell (p:=⟨c,f+k*13+12,none⟩) a).trans (by have:=n 12 (by decide);rw[m] at this;exact this)
   have y1:∀ o,(K.alloc o).cell? ⟨w.heap.size+1,1,none⟩=some (int i64 b.who):=fun o=>za (ze (zc r u) o) 1 _ rfl
   clear n m l
   by_cases e3:d.who=b.who
   ·have f2:(d.who == b.who)=true:=by simpa using e3
    have E:Hid (¬ Zx x i):=fun h=>h.2.2.2.2.2.2.2.1 k hlt (by rw[← HD.out,← A.out];exact e3)
    clear e3;go_wp2;go_ret;exact⟨zC E.out,zr (zj g u) _⟩
   ·have f2:(d.who == b.who)=false:=by simpa using e3
    have E:Hid ((x.bk k).who≠b.who):=by rw[← HD.out];exact e3
    clear e3;go_wp2;go_roundw
    case rel=>exact⟨k+1,by omega,by go_num,fun j hj=>by
     by_cases e:j=k
     ·subst e;exact E.out
     ·exact HA.out j (by omega),zr u _⟩
    case measure=>simp[intOf];omega
  ·obtain rfl:k=i:=by omega
   have l:=zj g u;have L:=za (zc r u) 10 _ rfl;have M:=za (zc r u) 11 _ rfl;have HF:Hid (Zx x k↔Q9 b):=by
    show Zx x k↔Q9 b
    unfold Zx;rw[← A.out];exact⟨fun h=>h.2.2.2.2.2.2.2.2,fun h=>⟨a8.out,a9.out,b5.out,b6.out,b7.out,b8.out,b9.out,HA.out,h⟩⟩
   clear a8 a9 b5 b6 b7 b8 b9 HA u
   by_cases s1:b.state=1
   ·have f5:(b.state == 1)=true:=by simpa using s1
    have HU:Hid (Q9 b↔In b.unt 0 10000):=by show Q9 b↔In b.unt 0 10000;unfold Q9;rw[if_pos (.inl s1)]
    clear s1;go_wp2_with (first|(go_at_call 19;refine sC (zx _ _ _ _) ?_))
    go_ret;exact⟨⟨_,rfl,by rw[decide_eq_true_eq,HF.out,HU.out]⟩,l⟩
   ·have f5:(b.state == 1)=false:=by simpa using s1
    by_cases s4:b.state=4
    ·have f6:(b.state == 4)=true:=by simpa using s4
     have HU:Hid (Q9 b↔In b.unt 0 10000):=by show Q9 b↔In b.unt 0 10000;unfold Q9;rw[if_pos (.inr s4)]
     clear s1 s4;go_wp2_with (first|(go_at_call 19;refine sC (zx _ _ _ _) ?_))
     go_ret;exact⟨⟨_,rfl,by rw[decide_eq_true_eq,HF.out,HU.out]⟩,l⟩
    ·have f6:(b.state == 4)=false:=by simpa using s4
     have HU:Hid (Q9 b↔b.unt=0):=by show Q9 b↔b.unt=0;unfold Q9;rw[if_neg (fun h=>by rcases h with h|h;exact s1 h;exact s4 h)]
     clear s1 s4;go_wp2;go_ret;exact⟨⟨_,rfl,by rw[beq_iff_eq,HF.out,HU.out]⟩,l⟩
section
open Go.RowKit
theorem zhi (x:Off)(b7 g0 f9:Option Addr)(g1 d5 b9:Nat)(w:World)(hs:Off.Short x 1048576)(k4:SailsAt w b7 x.san x.sa)(Q:QE w g0 x.ldn x.ld)(k0:ZU w f9 x.bkn x.bk)(m9:x.bkn<=b9) :
  Calls Tryz.prog 102 #[.agg #[.slice b7 x.san g1,.slice g0 x.ldn d5,.slice f9 x.bkn b9]] w fun e w'=>SaysIf (Zy x) e/\Below w.heap.size w w':=by
 have h4:=hI k4;have j6:=hI Q;have j3:=hI k0;have a7:=hI hs;have n1:x.san<=1048576:=hs.1.1;have n2:x.ldn<=1048576:=hs.2.1.1;have n3:x.bkn<=1048576:=hs.2.2.1;clear k4 Q k0 hs;have h6:Below w.heap.size w (w.alloc (.cells #[.slice b7 x.san g1,.slice g0 x.ldn d5,.slice f9 x.bkn b9] 66)):=zr bZ _;have bO:=heap_alloc_new w (.cells #[.slice b7 x.san g1,.slice g0 x.ldn d5,.slice f9 x.bkn b9] 66);go_enter Tryz.func102,Tryz.ntmps102;go_wp2_with fail;generalize w.alloc (.cells #[.slice b7 x.san g1,.slice g0 x.ldn d5,.slice f9 x.bkn b9] 66)=V0 at h6 bO ⊢;refine(zdf b7 x.san g1 x.sa _ n1 a7.out.1.2 (h4.out.below h6)).mono ?_;rintro e V ⟨⟨t0,rfl,k5⟩,i8⟩;have i7:=hI k5;have b8:=zc bO i8;have z:=zj h6 i8;clear k5 h6 bO i8 V0;obtain⟨z0,z1,z2⟩:=ce3 b8
 cases t0 with
 | false =>
  have E:Hid (¬ Zy x):=fun h=>by have:=i7.out.2 h.1;cases this
  go_wp2;go_ret;exact⟨zC E.out,z⟩
 | true =>
 have j8:Hid (zch x.san x.sa):=i7.out.1 rfl;clear i7
 by_cases m1:x.ldn=x.san
 case neg =>
  have e1:((x.ldn:Int) != (x.san:Int))=true:=by simp;omega
  have E:Hid (¬ Zy x):=fun h=>m1 h.2.1
  clear m1;go_wp2;go_ret;exact⟨zC E.out,z⟩
 have e1:((x.ldn:Int) != (x.san:Int))=false:=by simp;omega
 by_cases m2:x.bkn<=30
 case neg =>
  have e2:decide ((30:Int)<(x.bkn:Int))=true:=by simp;omega
  have E:Hid (¬ Zy x):=fun h=>m2 h.2.2.1
  clear m1 m2;go_wp2;go_ret;exact⟨zC E.out,z⟩
 have e2:decide ((30:Int)<(x.bkn:Int))=false:=by simp;omega
 have g:=hI m1;have U:=hI m2;clear m1;go_wp2;clear e1 e2 z0 z1 z2;go_loopw [3,4,5,37] (fun _ _ _ q d=>∃ k:Nat,k<=x.san/\q=int i64 k/\(∀ j,j<k->qJ (x.sa j) (x.ld j))/\Below V.heap.size V d) (fun _ _ _ q _=>x.san - (intOf q).toNat)
 case atStart=>exact⟨0,Nat.zero_le _,rfl,fun j hj=>by omega,bZ⟩
 case round =>
  obtain⟨k,hk,rfl,y,c⟩:=hrel;have HA:=hI y;clear y;have a:=zj z c
  by_cases hlt:k<x.san
  ·obtain⟨B,D,la,lc,ca,cc,rfl,f0,f1,f2,f3,f4,f5,f6,f7,d9,d8,h0,g9⟩:=h4.out k hlt
   obtain⟨s,Z⟩:∃ s,s=x.sa k:=⟨_,rfl⟩;rw[← Z] at f0 f1 f2 f3 f4 f5 f6 f7 d9 d8 h0 g9;have R:=hI Z;have i5:Hid (ShortS s 1048576):=by rw[Z];exact a7.out.1.2 k hlt
   have A:=World.block_lt_of_cell? w _ f0;have c0:d.cell? ⟨B,D+k*8,none⟩=some (int i64 s.id):=(a.cell (p:=⟨B,D+k*8,none⟩) A).trans f0;have c1:d.cell? ⟨B,D+k*8+1,none⟩=some (.string s.fr):=(a.cell (p:=⟨B,D+k*8+1,none⟩) A).trans f1;have c2:d.cell? ⟨B,D+k*8+2,none⟩=some (.string s.dst):=(a.cell (p:=⟨B,D+k*8+2,none⟩) A).trans f2;have c3:d.cell? ⟨B,D+k*8+3,none⟩=some (int i64 s.dep):=(a.cell (p:=⟨B,D+k*8+3,none⟩) A).trans f3;have c4:d.cell? ⟨B,D+k*8+4,none⟩=some (int i64 s.arr):=(a.cell (p:=⟨B,D+k*8+4,none⟩) A).trans f4;have c5:d.cell? ⟨B,D+k*8+5,none⟩=some (.slice la s.la.n lc):=(a.cell (p:=⟨B,D+k*8+5,none⟩) A).trans f5;have c6:d.cell? ⟨B,D+k*8+6,none⟩=some (.slice ca s.ca.n cc):=(a.cell (p:=⟨B,D+k*8+6,none⟩) A).trans f6;have c7:d.cell? ⟨B,D+k*8+7,none⟩=some (int i64 s.most):=(a.cell (p:=⟨B,D+k*8+7,none⟩) A).trans f7;obtain⟨C,hC,hI⟩:=j6.out;obtain⟨lb,lo,rfl,N⟩:=hC k (by have:=g.out;omega)
   obtain⟨l,Q⟩:∃ l,l=x.ld k:=⟨_,rfl⟩;obtain⟨H,v,F,r,G,u,M,e5,e9,e0,e7,e4,e8⟩:=hI k (by have:=g.out;omega)
   rw[← Q] at M e5 e9 e0 e7 e4 e8;have a0:=hI Q;have a6:Hid (qT.Short l 1048576):=by rw[Q];exact a7.out.2.1.2 k (by have:=g.out;omega)
   have e6:lb<w.heap.size:=World.block_lt_of_cell? w _ (N 0 (by decide))
   have d0:∀ o,(d.alloc o).cell? ⟨lb,lo+k*3,none⟩=some (.slice H l.stn v):=fun o=>((a.alloc a.size o).cell (p:=⟨lb,lo+k*3,none⟩) e6).trans (by have:=N 0 (by decide);rw[M] at this;exact this)
   have d1:∀ o,(d.alloc o).cell? ⟨lb,lo+k*3+1,none⟩=some (.slice F l.ron r):=fun o=>((a.alloc a.size o).cell (p:=⟨lb,lo+k*3+1,none⟩) e6).trans (by have:=N 1 (by decide);rw[M] at this;exact this)
   have d2:∀ o,(d.alloc o).cell? ⟨lb,lo+k*3+2,none⟩=some (.slice G l.sen u):=fun o=>((a.alloc a.size o).cell (p:=⟨lb,lo+k*3+2,none⟩) e6).trans (by have:=N 2 (by decide);rw[M] at this;exact this)
   have j5:=hI d9;have i2:=hI d8;have i6:=hI e5;have i3:=hI e0;have i4:=hI e4;have q1:l.stn<=v:=e9.1;have q2:l.ron<=r:=e7.1;have q3:l.sen<=u:=e8.1;clear hC hI N M Z Q f0 f1 f2 f3 f4 f5 f6 f7 d9 d8 h0 g9 e5 e9 e0 e7 e4 e8;have n0:(0:Int)<=(k:Int):=by omega
   have n4:(k:Int)<(x.ldn:Int):=by have:=g.out;omega
   have z1:∀ o,(d.alloc o).cell? ⟨w.heap.size,1,none⟩=some (.slice (some ⟨lb,lo,none⟩) x.ldn d5):=fun o=>za (ze (zc b8 c) o) 1 _ rfl
   go_wp2_with fail;have f:Below V.heap.size V ((d.alloc (.cells #[int i64 s.id,.string s.fr,.string s.dst,int i64 s.dep,int i64 s.arr,.slice la s.la.n lc,.slice ca s.ca.n cc,int i64 s.most] 37)).alloc (.cells #[.slice H l.stn v,.slice F l.ron r,.slice G l.sen u] 136)):=(c.alloc c.size _).alloc (by have:=c.size;simp;omega) _
   have T:((d.alloc (.cells #[int i64 s.id,.string s.fr,.string s.dst,int i64 s.dep,int i64 s.arr,.slice la s.la.n lc,.slice ca s.ca.n cc,int i64 s.most] 37)).alloc (.cells #[.slice H l.stn v,.slice F l.ron r,.slice G l.sen u] 136)).heap[d.heap.size]?=some (.cells #[int i64 s.id,.string s.fr,.string s.dst,int i64 s.dep,int i64 s.arr,.slice la s.la.n lc,.slice ca s.ca.n cc,int i64 s.most] 37 (0,0)):=ze (heap_alloc_new d _) _;have S:((d.alloc (.cells #[int i64 s.id,.string s.fr,.string s.dst,int i64 s.dep,int i64 s.arr,.slice la s.la.n lc,.slice ca s.ca.n cc,int i64 s.most] 37)).alloc (.cells #[.slice H l.stn v,.slice F l.ron r,.slice G l.sen u] 136)).heap[d.heap.size+1]?=some (.cells #[.slice H l.stn v,.slice F l.ron r,.slice G l.sen u] 136 (0,0)):=by simpa using heap_alloc_new (d.alloc _) _
   generalize ((d.alloc (.cells #[int i64 s.id,.string s.fr,.string s.dst,int i64 s.dep,int i64 s.arr,.slice la s.la.n lc,.slice ca s.ca.n cc,int i64 s.most] 37)).alloc (.cells #[.slice H l.stn v,.slice F l.ron r,.slice G l.sen u] 136))=X at f T S ⊢;clear c0 c1 c2 c3 c4 c5 c6 c7 d0 d1 d2 z1 a;have a:=zj z f;have s6:=za T 6 _ rfl;have s7:=za T 7 _ rfl;have l1:=za S 1 _ rfl;have l2:=za S 2 _ rfl;refine(zgb la H s.la.n lc l.stn v s.la l.st _ rfl i5.out.2.2.1 a6.out.1 q1 (j5.out.below a) (i6.out.below a)).mono ?_;rintro e X1 ⟨⟨t1,rfl,g2⟩,n⟩;have a8:=hI g2;clear g2;have a3:=zc T n;have a2:=zc S n;have P:=zj f n;clear s6 s7 l1 l2 T S f a n;have T:=a3;have S:=a2;have f:=P;clear a3 a2 P;have a:=zj z f;have s6:=za T 6 _ rfl;have s7:=za T 7 _ rfl;have l1:=za S 1 _ rfl;have l2:=za S 2 _ rfl
   cases t1 with
   | false =>
    have E:Hid (¬ Zy x):=fun h=>by have h:=h.2.2.2.1 k hlt;rw[← R.out,← a0.out] at h;have:=a8.out.2 h.1;cases this
    go_wp2;go_ret;exact⟨zC E.out,a⟩
   | true =>
   have l7:Hid (DeckS s.la l.stn l.st):=a8.out.1 rfl;clear a8;go_wp2_with fail;refine(zeT ca F s.ca.n cc l.ron r s.ca l.ro _ rfl i5.out.2.2.2 a6.out.2.1 q2 (i2.out.below a) (i3.out.below a)).mono ?_;rintro e X2 ⟨⟨t2,rfl,g7⟩,n⟩;have a9:=hI g7;clear g7;have a3:=zc T n;have a2:=zc S n;have P:=zj f n;clear s6 s7 l1 l2 T S f a n;have T:=a3;have S:=a2;have f:=P;clear a3 a2 P;have a:=zj z f;have s6:=za T 6 _ rfl;have s7:=za T 7 _ rfl;have l1:=za S 1 _ rfl;have l2:=za S 2 _ rfl
   cases t2 with
   | false =>
    have E:Hid (¬ Zy x):=fun h=>by have h:=h.2.2.2.1 k hlt;rw[← R.out,← a0.out] at h;have:=a9.out.2 h.2.1;cases this
    go_wp2;go_ret;exact⟨zC E.out,a⟩
   | true =>
   have l8:Hid (QL s.ca l.ron l.ro):=a9.out.1 rfl;clear a9;go_wp2_with fail;refine(zfb s.most G l.sen u l.se _ (by have:=a6.out.2.2;omega) q3 (i4.out.below a)).mono ?_
   rintro e X3 ⟨⟨t3,rfl,g8⟩,n⟩;have b0:=hI g8;clear g8;have a3:=zc T n;have a2:=zc S n;have P:=zj f n;clear s6 s7 l1 l2 T S f a n;have T:=a3;have S:=a2;have f:=P;clear a3 a2 P;have a:=zj z f;have s6:=za T 6 _ rfl;have s7:=za T 7 _ rfl;have l1:=za S 1 _ rfl;have l2:=za S 2 _ rfl
   cases t3 with
   | false =>
    have E:Hid (¬ Zy x):=fun h=>by have h:=h.2.2.2.1 k hlt;rw[← R.out,← a0.out] at h;have:=b0.out.2 h.2.2;cases this
    go_wp2;go_ret;exact⟨zC E.out,a⟩
   | true =>
   have l9:Hid (zbb s.most l.sen l.se):=b0.out.1 rfl;clear b0;have g3:Hid (qJ (x.sa k) (x.ld k)):=by show qJ (x.sa k) (x.ld k);rw[← R.out,← a0.out];exact⟨l7.out,l8.out,l9.out⟩
   clear s6 s7 l1 l2;go_wp2;go_roundw
   case rel=>exact⟨k+1,by omega,by go_num,fun j hj=>by
    by_cases e:j=k
    ·subst e;exact g3.out
    ·exact HA.out j (by omega),f⟩
   case measure=>simp[intOf];omega
  ·obtain rfl:k=x.san:=by omega
   have j4:=hI HA.out;have j2:=hI c;have z2:=za (zc b8 c) 2 _ rfl;clear HA c a hk hlt;go_wp2;clear z2;go_loopw [6,73] (fun _ q d=>∃ k:Nat,k<=x.bkn/\q=int i64 k/\(∀ j,j<k->Zx x j)/\Below V.heap.size V d) (fun _ q _=>x.bkn - (intOf q).toNat)
   case atStart=>exact⟨0,Nat.zero_le _,rfl,fun j hj=>by omega,j2.out⟩
   case round =>
    obtain⟨k,hk,rfl,y,c⟩:=hrel;have HA:=hI y;clear y;have a:=zj z c
    by_cases hlt:k<x.bkn
    ·obtain⟨C,hC,hI⟩:=j3.out
     obtain⟨I,K,rfl,_⟩:=hC k hlt;have l3:=hI (hC.below a);have l4:Hid (∀ k,k<x.bkn->ZK.Is d (C k) (x.bk k)):=fun k hk=>(hI k hk).below a
     obtain⟨z0,z1,z2⟩:=ce3 (zc b8 c);clear hC hI;go_wp2_with fail;refine(zfc x b7 g0 I K g1 d5 b9 k C _ hlt a7.out (h4.out.below a) l3.out l4.out m9).mono ?_;rintro e X ⟨⟨t,rfl,ht⟩,f⟩;have HT:=hI ht;clear ht z0 z1 z2
     cases t with
     | false =>
      have E:Hid (¬ Zy x):=fun h=>by have:=HT.out.2 (h.2.2.2.2.1 k hlt);cases this
      go_wp2;go_ret;exact⟨zC E.out,zj a f⟩
     | true =>
      have HP:Hid (Zx x k):=HT.out.1 rfl;clear HT;go_wp2;go_roundw
      case rel=>exact⟨k+1,by omega,by go_num,fun j hj=>by
       by_cases e:j=k
       ·subst e;exact HP.out
       ·exact HA.out j (by omega),zj c f⟩
      case measure=>simp[intOf];omega
    ·obtain rfl:k=x.bkn:=by omega
     have l5:=hI HA.out;have k7:=hI c;have z0:=za (zc b8 c) 0 _ rfl;clear HA c a hk hlt j2;go_wp2;clear z0;go_loopw [7,8,9,10,11,12,14,84,95,96,97] (fun _ _ _ _ _ _ _ q _ _ _ d=>∃ k:Nat,k<=x.san/\q=int i64 k/\(∀ j,j<k->zcl x j)/\Below V.heap.size V d) (fun _ _ _ _ _ _ _ q _ _ _ _=>x.san - (intOf q).toNat)
     case atStart=>exact⟨0,Nat.zero_le _,rfl,fun j hj=>by omega,k7.out⟩
     case round =>
      obtain⟨k,hk,rfl,y,c⟩:=hrel;have HA:=hI y;clear y;have a:=zj z c
      by_cases hlt:k<x.san
      ·obtain⟨B,D,la,lc,ca,cc,rfl,f0,f1,f2,f3,f4,f5,f6,f7,d9,d8,h0,g9⟩:=h4.out k hlt
       obtain⟨s,Z⟩:∃ s,s=x.sa k:=⟨_,rfl⟩;rw[← Z] at f0 f1 f2 f3 f4 f5 f6 f7 d9 d8 h0 g9;have R:=hI Z;have i5:Hid (ShortS s 1048576):=by rw[Z];exact a7.out.1.2 k hlt
       have A:=World.block_lt_of_cell? w _ f0;have c0:d.cell? ⟨B,D+k*8,none⟩=some (int i64 s.id):=(a.cell (p:=⟨B,D+k*8,none⟩) A).trans f0;have c1:d.cell? ⟨B,D+k*8+1,none⟩=some (.string s.fr):=(a.cell (p:=⟨B,D+k*8+1,none⟩) A).trans f1;have c2:d.cell? ⟨B,D+k*8+2,none⟩=some (.string s.dst):=(a.cell (p:=⟨B,D+k*8+2,none⟩) A).trans f2;have c3:d.cell? ⟨B,D+k*8+3,none⟩=some (int i64 s.dep):=(a.cell (p:=⟨B,D+k*8+3,none⟩) A).trans f3;have c4:d.cell? ⟨B,D+k*8+4,none⟩=some (int i64 s.arr):=(a.cell (p:=⟨B,D+k*8+4,none⟩) A).trans f4;have c5:d.cell? ⟨B,D+k*8+5,none⟩=some (.slice la s.la.n lc):=(a.cell (p:=⟨B,D+k*8+5,none⟩) A).trans f5;have c6:d.cell? ⟨B,D+k*8+6,none⟩=some (.slice ca s.ca.n cc):=(a.cell (p:=⟨B,D+k*8+6,none⟩) A).trans f6;have c7:d.cell? ⟨B,D+k*8+7,none⟩=some (int i64 s.most):=(a.cell (p:=⟨B,D+k*8+7,none⟩) A).trans f7;obtain⟨C,hC,hI⟩:=j6.out;obtain⟨lb,lo,rfl,N⟩:=hC k (by have:=g.out;omega)
       obtain⟨l,Q⟩:∃ l,l=x.ld k:=⟨_,rfl⟩;obtain⟨H,v,F,r,G,u,M,e5,e9,e0,e7,e4,e8⟩:=hI k (by have:=g.out;omega)
       rw[← Q] at M e5 e9 e0 e7 e4 e8;have a0:=hI Q;have a6:Hid (qT.Short l 1048576):=by rw[Q];exact a7.out.2.1.2 k (by have:=g.out;omega)
       have e6:lb<w.heap.size:=World.block_lt_of_cell? w _ (N 0 (by decide))
       have d0:∀ o,(d.alloc o).cell? ⟨lb,lo+k*3,none⟩=some (.slice H l.stn v):=fun o=>((a.alloc a.size o).cell (p:=⟨lb,lo+k*3,none⟩) e6).trans (by have:=N 0 (by decide);rw[M] at this;exact this)
       have d1:∀ o,(d.alloc o).cell? ⟨lb,lo+k*3+1,none⟩=some (.slice F l.ron r):=fun o=>((a.alloc a.size o).cell (p:=⟨lb,lo+k*3+1,none⟩) e6).trans (by have:=N 1 (by decide);rw[M] at this;exact this)
       have d2:∀ o,(d.alloc o).cell? ⟨lb,lo+k*3+2,none⟩=some (.slice G l.sen u):=fun o=>((a.alloc a.size o).cell (p:=⟨lb,lo+k*3+2,none⟩) e6).trans (by have:=N 2 (by decide);rw[M] at this;exact this)
       have j5:=hI d9;have i2:=hI d8;have i6:=hI e5;have i3:=hI e0;have i4:=hI e4;have q1:l.stn<=v:=e9.1;have q2:l.ron<=r:=e7.1;have q3:l.sen<=u:=e8.1;clear hC hI N M Z Q f0 f1 f2 f3 f4 f5 f6 f7 d9 d8 h0 g9 e5 e9 e0 e7 e4 e8;have g3:=j4.out k hlt;rw[← R.out,← a0.out] at g3;have k9:Hid (∀ j,j<l.ron->0<=(l.ro j).cab/\(l.ro j).cab<s.ca.n):=fun j hj=>rooms_cab g3.2.1 j hj
       clear g3;have n0:(0:Int)<=(k:Int):=by omega
       have n4:(k:Int)<(x.ldn:Int):=by have:=g.out;omega
       have z1:∀ o,(d.alloc o).cell? ⟨w.heap.size,1,none⟩=some (.slice (some ⟨lb,lo,none⟩) x.ldn d5):=fun o=>za (ze (zc b8 c) o) 1 _ rfl
       have z2:∀ o p,((d.alloc o).alloc p).cell? ⟨w.heap.size,2,none⟩=some (.slice f9 x.bkn b9):=fun o p=>za (ze (ze (zc b8 c) o) p) 2 _ rfl
       go_wp2;have f:Below V.heap.size V ((d.alloc (.cells #[int i64 s.id,.string s.fr,.string s.dst,int i64 s.dep,int i64 s.arr,.slice la s.la.n lc,.slice ca s.ca.n cc,int i64 s.most] 37)).alloc (.cells #[.slice H l.stn v,.slice F l.ron r,.slice G l.sen u] 136)):=(c.alloc c.size _).alloc (by have:=c.size;simp;omega) _
       have T:((d.alloc (.cells #[int i64 s.id,.string s.fr,.string s.dst,int i64 s.dep,int i64 s.arr,.slice la s.la.n lc,.slice ca s.ca.n cc,int i64 s.most] 37)).alloc (.cells #[.slice H l.stn v,.slice F l.ron r,.slice G l.sen u] 136)).heap[d.heap.size]?=some (.cells #[int i64 s.id,.string s.fr,.string s.dst,int i64 s.dep,int i64 s.arr,.slice la s.la.n lc,.slice ca s.ca.n cc,int i64 s.most] 37 (0,0)):=ze (heap_alloc_new d _) _;have S:((d.alloc (.cells #[int i64 s.id,.string s.fr,.string s.dst,int i64 s.dep,int i64 s.arr,.slice la s.la.n lc,.slice ca s.ca.n cc,int i64 s.most] 37)).alloc (.cells #[.slice H l.stn v,.slice F l.ron r,.slice G l.sen u] 136)).heap[d.heap.size+1]?=some (.cells #[.slice H l.stn v,.slice F l.ron r,.slice G l.sen u] 136 (0,0)):=by simpa using heap_alloc_new (d.alloc _) _
       generalize ((d.alloc (.cells #[int i64 s.id,.string s.fr,.string s.dst,int i64 s.dep,int i64 s.arr,.slice la s.la.n lc,.slice ca s.ca.n cc,int i64 s.most] 37)).alloc (.cells #[.slice H l.stn v,.slice F l.ron r,.slice G l.sen u] 136))=X at f T S ⊢;generalize d.heap.size=o9 at T S ⊢;clear c0 c1 c2 c3 c4 c5 c6 c7 d0 d1 d2 z1 z2 a c;go_loopw [10,11,12,14,97] (fun n6 n7 n8 _ q wq=>∃ (i:Nat),i<=x.bkn/\q=int i64 i/\n6=int i64 (cnt (fun i=>On x k i/\0<(x.bk i).len) i:Nat)/\n7=int i64 (cnt (fun i=>On x k i/\0<(x.bk i).cl) i:Nat)/\n8=int i64 (cnt (On x k) i:Nat)/\(∀ j,j<i->On x k j->zbd s l (x.bk j))/\Below X.heap.size X wq) (fun _ _ _ _ q _=>x.bkn - (intOf q).toNat)
       case atStart=>exact⟨0,Nat.zero_le _,rfl,rfl,rfl,rfl,fun j hj=>by omega,bZ⟩
       case round =>
        obtain⟨i,hi,rfl,rfl,rfl,rfl,y,c⟩:=hrel;have HW:=hI y;clear y;have a:=zj (zj z f) c;obtain⟨m0,h9⟩:∃ m,m=cnt (fun i=>On x k i/\0<(x.bk i).len) i:=⟨_,rfl⟩
        have o2:m0<=i:=by rw[h9];exact cnt_le _ _
        have a1:=hI h9;rw[← h9];clear h9;obtain⟨m1,i0⟩:∃ m,m=cnt (fun i=>On x k i/\0<(x.bk i).cl) i:=⟨_,rfl⟩
        have o3:m1<=i:=by rw[i0];exact cnt_le _ _
        have g:=hI i0;rw[← i0];clear i0;obtain⟨m2,i1⟩:∃ m,m=cnt (On x k) i:=⟨_,rfl⟩;have o4:m2<=i:=by rw[i1];exact cnt_le _ _
        have U:=hI i1;rw[← i1];clear i1
        by_cases hlt2:i<x.bkn
        ·obtain⟨C,hC,hI⟩:=j3.out
         obtain⟨I,K,rfl,N⟩:=hC i hlt2;obtain⟨b6,d6,M,i9,k6⟩:=hI i hlt2;obtain⟨b,hb⟩:∃ b,b=x.bk i:=⟨_,rfl⟩;rw[← hb] at M i9 k6;have L:=hI hb;have l6:=hI i9;have k8:Hid (ZK.Short b 1048576):=by rw[hb];exact a7.out.2.2.2 i hlt2
         have O:I<w.heap.size:=World.block_lt_of_cell? w _ (N 0 (by decide))
         have c0:d.cell? ⟨I,K+i*13,none⟩=some (int i64 b.name):=(a.cell (p:=⟨I,K+i*13,none⟩) O).trans (by have:=N 0 (by decide);rw[M] at this;exact this)
         have c1:d.cell? ⟨I,K+i*13+1,none⟩=some (int i64 b.who):=(a.cell (p:=⟨I,K+i*13+1,none⟩) O).trans (by have:=N 1 (by decide);rw[M] at this;exact this)
         have c2:d.cell? ⟨I,K+i*13+2,none⟩=some (.string b.own):=(a.cell (p:=⟨I,K+i*13+2,none⟩) O).trans (by have:=N 2 (by decide);rw[M] at this;exact this)
         have c3:d.cell? ⟨I,K+i*13+3,none⟩=some (.slice b6 b.lgn d6):=(a.cell (p:=⟨I,K+i*13+3,none⟩) O).trans (by have:=N 3 (by decide);rw[M] at this;exact this)
         have c4:d.cell? ⟨I,K+i*13+4,none⟩=some (int i64 b.pe):=(a.cell (p:=⟨I,K+i*13+4,none⟩) O).trans (by have:=N 4 (by decide);rw[M] at this;exact this)
         have c5:d.cell? ⟨I,K+i*13+5,none⟩=some (int i64 b.len):=(a.cell (p:=⟨I,K+i*13+5,none⟩) O).trans (by have:=N 5 (by decide);rw[M] at this;exact this)
         have c6:d.cell? ⟨I,K+i*13+6,none⟩=some (int i64 b.hei):=(a.cell (p:=⟨I,K+i*13+6,none⟩) O).trans (by have:=N 6 (by decide);rw[M] at this;exact this)
         have c7:d.cell? ⟨I,K+i*13+7,none⟩=some (int i64 b.cl):=(a.cell (p:=⟨I,K+i*13+7,none⟩) O).trans (by have:=N 7 (by decide);rw[M] at this;exact this)
         have c8:d.cell? ⟨I,K+i*13+8,none⟩=some (.bool b.all):=(a.cell (p:=⟨I,K+i*13+8,none⟩) O).trans (by have:=N 8 (by decide);rw[M] at this;exact this)
         have c9:d.cell? ⟨I,K+i*13+9,none⟩=some (int i64 b.be):=(a.cell (p:=⟨I,K+i*13+9,none⟩) O).trans (by have:=N 9 (by decide);rw[M] at this;exact this)
         have m6:d.cell? ⟨I,K+i*13+10,none⟩=some (int i64 b.state):=(a.cell (p:=⟨I,K+i*13+10,none⟩) O).trans (by have:=N 10 (by decide);rw[M] at this;exact this)
         have m7:d.cell? ⟨I,K+i*13+11,none⟩=some (int i64 b.unt):=(a.cell (p:=⟨I,K+i*13+11,none⟩) O).trans (by have:=N 11 (by decide);rw[M] at this;exact this)
         have m8:d.cell? ⟨I,K+i*13+12,none⟩=some (int i64 b.price):=(a.cell (p:=⟨I,K+i*13+12,none⟩) O).trans (by have:=N 12 (by decide);rw[M] at this;exact this)
         clear hC hI N M hb i9 k6;go_wp2_with fail;have bB:=heap_alloc_new d (.cells #[int i64 b.name,int i64 b.who,.string b.own,.slice b6 b.lgn d6,int i64 b.pe,int i64 b.len,int i64 b.hei,int i64 b.cl,.bool b.all,int i64 b.be,int i64 b.state,int i64 b.unt,int i64 b.price] 131);have n:Below X.heap.size X (d.alloc (.cells #[int i64 b.name,int i64 b.who,.string b.own,.slice b6 b.lgn d6,int i64 b.pe,int i64 b.len,int i64 b.hei,int i64 b.cl,.bool b.all,int i64 b.be,int i64 b.state,int i64 b.unt,int i64 b.price] 131)):=zr c _;generalize d.alloc (.cells #[int i64 b.name,int i64 b.who,.string b.own,.slice b6 b.lgn d6,int i64 b.pe,int i64 b.len,int i64 b.hei,int i64 b.cl,.bool b.all,int i64 b.be,int i64 b.state,int i64 b.unt,int i64 b.price] 131)=Y at bB n ⊢;generalize d.heap.size=o8 at bB ⊢;clear c0 c1 c2 c3 c4 c5 c6 c7 c8 c9 m6 m7 m8 c a;refine(zcq b b6 d6 _).mono ?_;rintro e Y1 ⟨rfl,d7⟩;have h5:=zc bB d7;have J:=zj n d7;clear bB n d7;obtain⟨t1,g2⟩:∃ t,t=decide (zee b):=⟨_,rfl⟩;rw[← g2];have a8:Hid (t1=true↔zee b):=by show t1=true↔zee b;rw[g2,decide_eq_true_eq]
         clear g2
         cases t1 with
         | false =>
          have E:Hid (¬ On x k i):=fun h=>by unfold On at h;rw[← L.out,← R.out] at h;have:=a8.out.2 h.1;cases this
          go_wp2;go_roundw
          case rel=>exact⟨i+1,by omega,by go_num,by rw[zaQ (fun h=>E.out h.1),← a1.out],by rw[zaQ (fun h=>E.out h.1),← g.out],by rw[zaQ E.out,← U.out],fun j hj ho=>by
           by_cases e:j=i
           ·subst e;exact absurd ho E.out
           ·exact HW.out j (by omega) ho,J⟩
          case measure=>simp[intOf];omega
         | true =>
          have j7:Hid (zee b):=a8.out.1 rfl;clear a8;have y3:=za h5 3 _ rfl;have s0:=za (zc T J) 0 _ rfl;go_wp2_with fail;refine(zgh b6 b.lgn d6 b.lg s.id _ k8.out.2 (l6.out.below (zj (zj z f) J))).mono ?_;rintro e Y2 ⟨⟨t2,rfl,g7⟩,j0⟩;have j0:=j0.symm;subst j0;have a9:=hI g7;clear g7 y3 s0
          cases t2 with
          | false =>
           have E:Hid (¬ On x k i):=fun h=>by unfold On at h;rw[← L.out,← R.out] at h;have:=a9.out.2 h.2;cases this
           go_wp2;go_roundw
           case rel=>exact⟨i+1,by omega,by go_num,by rw[zaQ (fun h=>E.out h.1),← a1.out],by rw[zaQ (fun h=>E.out h.1),← g.out],by rw[zaQ E.out,← U.out],fun j hj ho=>by
            by_cases e:j=i
            ·subst e;exact absurd ho E.out
            ·exact HW.out j (by omega) ho,J⟩
           case measure=>simp[intOf];omega
          | true =>
           have W:Hid (On x k i):=by show On x k i;unfold On;rw[← L.out,← R.out];exact⟨j7.out,a9.out.1 rfl⟩
           clear a9 j7;obtain⟨y0,y1,y2,y3,y4,y5,y6,y7,y8,y9,n9,o0,o1⟩:=ce13 h5;obtain⟨s0,s1,s2,s3,s4,s5,s6,s7⟩:=ce8 (zc T J);obtain⟨l0,l1,l2⟩:=ce3 (zc S J);have g6:=zj (zj z f) J;go_wp2_with fail;refine(zge s la ca lc cc l H F G v r u b b6 d6 _ a6.out.1 a6.out.2.1 a6.out.2.2 (i2.out.below g6) (i6.out.below g6) (i3.out.below g6) (i4.out.below g6) k9.out).mono ?_;rintro e Y3 ⟨⟨t3,rfl,g8⟩,d7⟩;have b0:=hI g8;have j9:=zc h5 d7;have a5:=zj J d7;clear g8 y0 y1 y2 y3 y4 y5 y6 y7 y8 y9 n9 o0 o1 s0 s1 s2 s3 s4 s5 s6 s7 l0 l1 l2 h5 J d7 g6
           cases t3 with
           | false =>
            have E:Hid (¬ Zy x):=fun h=>by have h:=(h.2.2.2.2.2 k hlt).1 i hlt2 W.out;rw[← L.out,← R.out,← a0.out] at h;have:=b0.out.2 h;cases this
            go_wp2;go_ret;exact⟨zC E.out,zj (zj z f) a5⟩
           | true =>
            have f8:Hid (zbd s l (x.bk i)):=by show zbd s l (x.bk i);rw[← L.out];exact b0.out.1 rfl
            clear b0;have y5:=za j9 5 _ rfl;have y7:=za j9 7 _ rfl;have o5:IntKind.i64.wrap ((m0:Int)+1)=(m0:Int)+1:=by rw[IntKind.wrap_i64];omega
            have o6:IntKind.i64.wrap ((m1:Int)+1)=(m1:Int)+1:=by rw[IntKind.wrap_i64];omega
            have o7:IntKind.i64.wrap ((m2:Int)+1)=(m2:Int)+1:=by rw[IntKind.wrap_i64];omega
            by_cases u1:0<b.len
            ·have n5:decide (0<b.len)=true:=decide_eq_true u1
             have g5:=hI u1;clear u1
             by_cases u2:0<b.cl
             ·have j1:decide (0<b.cl)=true:=decide_eq_true u2
              have b5:=hI u2;clear u2;go_wp2;go_roundw
              case rel=>exact⟨i+1,by omega,by go_num,by rw[zag ⟨W.out,by rw[← L.out];exact g5.out⟩,← a1.out];simp,by rw[zag ⟨W.out,by rw[← L.out];exact b5.out⟩,← g.out];simp,by rw[zag W.out,← U.out];simp,fun j hj ho=>by
               by_cases e:j=i
               ·subst e;exact f8.out
               ·exact HW.out j (by omega) ho,a5⟩
              case measure=>simp[intOf];omega
             ·have j1:decide (0<b.cl)=false:=decide_eq_false u2
              have b5:=hI u2;clear u2;go_wp2;go_roundw
              case rel=>exact⟨i+1,by omega,by go_num,by rw[zag ⟨W.out,by rw[← L.out];exact g5.out⟩,← a1.out];simp,by rw[zaQ (fun h=>by have h1:=h.2;rw[← L.out] at h1;have h2:=b5.out;omega),← g.out],by rw[zag W.out,← U.out];simp,fun j hj ho=>by
               by_cases e:j=i
               ·subst e;exact f8.out
               ·exact HW.out j (by omega) ho,a5⟩
              case measure=>simp[intOf];omega
            ·have n5:decide (0<b.len)=false:=decide_eq_false u1
             have g5:=hI u1;clear u1
             by_cases u2:0<b.cl
             ·have j1:decide (0<b.cl)=true:=decide_eq_true u2
              have b5:=hI u2;clear u2;go_wp2;go_roundw
              case rel=>exact⟨i+1,by omega,by go_num,by rw[zaQ (fun h=>by have h1:=h.2;rw[← L.out] at h1;have h2:=g5.out;omega),← a1.out],by rw[zag ⟨W.out,by rw[← L.out];exact b5.out⟩,← g.out];simp,by rw[zag W.out,← U.out];simp,fun j hj ho=>by
               by_cases e:j=i
               ·subst e;exact f8.out
               ·exact HW.out j (by omega) ho,a5⟩
              case measure=>simp[intOf];omega
             ·have j1:decide (0<b.cl)=false:=decide_eq_false u2
              have b5:=hI u2;clear u2;go_wp2;go_roundw
              case rel=>exact⟨i+1,by omega,by go_num,by rw[zaQ (fun h=>by have h1:=h.2;rw[← L.out] at h1;have h2:=g5.out;omega),← a1.out],by rw[zaQ (fun h=>by have h1:=h.2;rw[← L.out] at h1;have h2:=b5.out;omega),← g.out],by rw[zag W.out,← U.out];simp,fun j hj ho=>by
               by_cases e:j=i
               ·subst e;exact f8.out
               ·exact HW.out j (by omega) ho,a5⟩
              case measure=>simp[intOf];omega
        ·obtain rfl:i=x.bkn:=by omega
         obtain⟨l0,l1,l2⟩:=ce3 (zc S c);have g4:Hid (zcl x k↔l.stn=m0/\l.ron=m1/\l.sen=m2):=by
          show zcl x k↔l.stn=m0/\l.ron=m1/\l.sen=m2
          unfold zcl;rw[← R.out,← a0.out,a1.out,g.out,U.out];exact⟨fun h=>h.2,fun h=>⟨HW.out,h⟩⟩
         have h3:=hI (zj f c);clear c a1 g U HW
         by_cases v1:l.stn=m0
         case neg =>
          have e1:((l.stn:Int) != (m0:Int))=true:=by simp;omega
          have E:Hid (¬ Zy x):=fun h=>v1 (g4.out.1 (h.2.2.2.2.2 k hlt)).1
          clear v1;go_wp2;go_ret;exact⟨zC E.out,zj z h3.out⟩
         have e1:((l.stn:Int) != (m0:Int))=false:=by simp;omega
         by_cases v2:l.ron=m1
         case neg =>
          have e2:((l.ron:Int) != (m1:Int))=true:=by simp;omega
          have E:Hid (¬ Zy x):=fun h=>v2 (g4.out.1 (h.2.2.2.2.2 k hlt)).2.1
          clear v1 v2;go_wp2;go_ret;exact⟨zC E.out,zj z h3.out⟩
         have e2:((l.ron:Int) != (m1:Int))=false:=by simp;omega
         by_cases v3:l.sen=m2
         case neg =>
          have e3:((l.sen:Int) != (m2:Int))=true:=by simp;omega
          have E:Hid (¬ Zy x):=fun h=>v3 (g4.out.1 (h.2.2.2.2.2 k hlt)).2.2
          clear v1 v2 v3;go_wp2;go_ret;exact⟨zC E.out,zj z h3.out⟩
         have e3:((l.sen:Int) != (m2:Int))=false:=by simp;omega
         have m5:Hid (zcl x k):=g4.out.2 ⟨v1,v2,v3⟩;clear v1 v2 v3 g4;go_wp2;go_roundw
         case rel=>exact⟨k+1,by omega,by go_num,fun j hj=>by
          by_cases e:j=k
          ·subst e;exact m5.out
          ·exact HA.out j (by omega),h3.out⟩
         case measure=>simp[intOf];omega
      ·obtain rfl:k=x.san:=by omega
       have HY:Hid (Zy x):=⟨j8.out,g.out,U.out,j4.out,l5.out,HA.out⟩;clear HA;go_wp2;go_ret;exact⟨says_yes HY.out,a⟩
open Classical in
noncomputable instance (x:Off):Decidable (Zy x):=propDecidable _
end
end Go.Proofs.YtfallpinmhbemaaGreatDoor
