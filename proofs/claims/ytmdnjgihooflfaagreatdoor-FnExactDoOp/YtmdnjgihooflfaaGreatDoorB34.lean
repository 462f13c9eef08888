/-
  OWN TEXT: SpecDop, SpecRes, MarkPq, MarkX, MarkTx, MarkTz, MarkPP.
-/
import Derived.Deep.RegionHeld3
import Derived.Deep.LoopGhost
import Derived.Test.YtmdnjgihooflfaaGreatDoorRows
import Derived.Test.YtmdnjgihooflfaaGreatDoorB33
namespace Go.Proofs.YtmdnjgihooflfaaGreatDoor
open Go.RowKit
open Go.Value (int)
open Go.IntKind (i64)
open Tryz
set_option maxHeartbeats 64000000
set_option maxRecDepth 100000
def DopAns (x:Off)(a:Int)(y:OpD)(m base:Nat)(e:Ending)(w':World):Prop :=
 (Zk x/\zbn x.bkn x.bk a/\∃ x2 a1 c1 a2 c2 a3 c3 code name price rv L C A B D E,e=.returned (.tuple #[.agg #[.slice a1 x2.san c1,.slice a2 x2.ldn c2,.slice a3 x2.bkn c3],.agg #[int i64 code,int i64 name,int i64 price,rv],.bool true]) /\
  zF w' base (.slice a1 x2.san c1) (.slice a2 x2.ldn c2) (.slice a3 x2.bkn c3) x2.san x2.ldn x2.bkn x2 L C A B D E/\zhG x a y m x2 code name price/\RowsBe x a y m code w' rv) ∨
 (¬ (Zk x/\zbn x.bkn x.bk a)/\e=.returned (.tuple #[.agg #[True,True,True],.agg #[(),(),(),True],.bool false]))
theorem zmp (x:Off)(l k j o:Option Addr)(q p n t m:Nat)(F:Int)(y:OpD)(w:World)(hs:Off.Short x 1048576)(b5:qB w l x.san x.sa)(a8:ZG w k x.ldn x.ld)(a5:qO w j x.bkn x.bk)(f4:x.bkn<=n)(a9:zT w o y.lgn y.lg)(b6:qj o y.lgn t)(hl:y.lgn<=1048576)(ho:y.own.size<=1048576)(hm:zac y->In y.kind 4 8->y.name=(m:Int)+1/\m<=1048576) :
  Calls prog 8 #[.agg #[(l,x.san,q),(k,x.ldn,p),(j,x.bkn,n)],F,.agg (y,o,t)] w λe w'=>DopAns x F y m w.heap.size e w'/\Below w.heap.size w w':=by
 have HS:=hI hs;have G:Hid (_/\_/\_/\_/\_):=⟨b5,a8,a5,a9,b6⟩;have HN:=hI hm;clear hs b5 a8 a5 a9 b6 hm;have a:Below _ w ((((w.alloc (.cells #[(l,x.san,q),(k,x.ldn,p),(j,x.bkn,n)] 38)).alloc (.cells (y,o,t) 47)).alloc (.cells #[True,True,True] 38)).alloc (.cells #[(),(),(),True] 41)):=zk (zk (zk (zk bZ _) _) _) _;have O:=zd (zd (zd (Jb w (.cells #[(l,x.san,q),(k,x.ldn,p),(j,x.bkn,n)] 38)) (.cells (y,o,t) 47)) (.cells #[True,True,True] 38)) (.cells #[(),(),(),True] 41);have T:=zd (zd (zfT w (.cells #[(l,x.san,q),(k,x.ldn,p),(j,x.bkn,n)] 38) (.cells (y,o,t) 47)) (.cells #[True,True,True] 38)) (.cells #[(),(),(),True] 41);have s:=zd (show(((w.alloc (.cells #[(l,x.san,q),(k,x.ldn,p),(j,x.bkn,n)] 38)).alloc (.cells (y,o,t) 47)).alloc _).heap[w.heap.size+1+1]?=some (.cells #[True,True,True] 38 (0,0)) from by simpa using Jb ((w.alloc _).alloc _) _) (.cells #[(),(),(),True] 41)
 have r:=nw4B3 a;go_enter func8,ntmps8;go_wp2_with fail;generalize ((((w.alloc _).alloc _).alloc _).alloc _)=W at a O T s r ⊢;refine(zmo x l k j q p n _ HS (G.1.below a) (G.2.1.below a) (G.2.2.1.below a) f4).mono ?_;rintro e V ⟨⟨t0,rfl,b7⟩,d⟩;have R:=hI b7;replace a:=ze a d;replace O:=zb O d;replace T:=zb T d;replace s:=zb s d;replace r:=zb r d;clear d W b7;obtain⟨f0,f1,f2⟩:=ce3 O
 cases t0 with
 | false =>
  have HF:Hid (¬ (_/\zbn x.bkn x.bk F)):=λh=>by have:=R.2 h.1;cases this
  obtain⟨s0,s1,s2⟩:=ce3 s;obtain⟨c0,c9,d0⟩:=fe3 s;obtain⟨t0,t1,t2,t3⟩:=ce4 r;obtain⟨d4,d5,d6,d7⟩:=fe4 r;have U:=(zkQ _ (w.heap.size+1+1) True True True).blk r (by show _;omega)
  have q2:=zeN s True True True;have q3:=(zaU _ (w.heap.size+1+1+1) () () () True).blk q2 (by show _;omega)
  have q4:=zcJ U () () () True;have P:=hI (zx.below (zx.below a a.size (zkQ _ (w.heap.size+1+1) True True True) (λb e=>by have e:=e;omega)) (by have:=a.size;simpa using this) (zaU _ (w.heap.size+1+1+1) () () () True) (λb e=>by have e:=e;omega))
  go_wp2;obtain⟨x0,x1,i⟩:=ce3 q3;obtain⟨z0,z1,z2,z3⟩:=ce4 q4;exact Jj (by simp[results,results8,go_sem,x0,x1,i,z0,z1,z2,z3]) rfl ⟨.inr ⟨HF.out,rfl⟩,P.out⟩
 | true =>
 have a1:=hI (R.1 rfl);clear R;go_wp2_with fail;refine(zmh l k j _ _ _ q p n x F _ (by have:=HS.2.2.1;omega) (G.2.2.1.below a)).mono ?_
 rintro e V2 ⟨⟨t1,rfl,b8⟩,d⟩;have S:=hI b8;replace a:=ze a d;replace O:=zb O d;replace T:=zb T d;replace s:=zb s d;replace r:=zb r d;clear d b8 f0 f1 f2 V
 cases t1 with
 | false =>
  have HF:Hid (¬ (Zk x/\_)):=λh=>by have:=S.2 h.2;cases this
  obtain⟨s0,s1,s2⟩:=ce3 s;obtain⟨c0,c9,d0⟩:=fe3 s;obtain⟨t0,t1,t2,t3⟩:=ce4 r;obtain⟨d4,d5,d6,d7⟩:=fe4 r;have U:=(zkQ _ (w.heap.size+1+1) True True True).blk r (by show _;omega)
  have q2:=zeN s True True True;have q3:=(zaU _ (w.heap.size+1+1+1) () () () True).blk q2 (by show _;omega)
  have q4:=zcJ U () () () True;have P:=hI (zx.below (zx.below a a.size (zkQ _ (w.heap.size+1+1) True True True) (λb e=>by have e:=e;omega)) (by have:=a.size;simpa using this) (zaU _ (w.heap.size+1+1+1) () () () True) (λb e=>by have e:=e;omega))
  go_wp2;obtain⟨x0,x1,i⟩:=ce3 q3;obtain⟨z0,z1,z2,z3⟩:=ce4 q4;exact Jj (by simp[results,results8,go_sem,x0,x1,i,z0,z1,z2,z3]) rfl ⟨.inr ⟨HF.out,rfl⟩,P.out⟩
 | true =>
 have Q:=hI (S.1 rfl);clear S;obtain⟨f0,f1,f2⟩:=ce3 O;obtain⟨h0,h1,h2,h3,h4,h5,h6,h7,h8,h9,e7,e8⟩:=zeW T;go_wp2_with fail;refine(l7Op_any x l k j o q p n t m F y _ HS (G.1.below a) (G.2.1.below a) (G.2.2.1.below a) (G.2.2.2.1.below a) G.2.2.2.2 hl ho a1 Q.1 Q.2 HN).mono ?_;rintro e u ⟨⟨i,Y,e1,Z,e2,d3,e3,f,name,price,rv,L,C,A,B,D,E,rfl,b4,b9,X⟩,H⟩;have e4:=hI (b4.lower a.size);have e6:=hI b9;obtain⟨J,N,K,rfl⟩:∃ J N K,rv=.slice J N K:=by
  rcases X with⟨h,_⟩|⟨M,b,_,_,h⟩
  ·exact⟨_,_,_,h⟩
  ·by_cases h9:y.kind=9
   ·obtain⟨_,_,_,h3⟩:=h.1 h9
    obtain⟨ao,c,e,_⟩:=zp h3;exact⟨ao,_,c,e⟩
   ·exact⟨_,0,0,h.2 h9⟩
 have e5:Hid _:=X;replace a:=ze a H;replace s:=zb s H;replace r:=zb r H;clear b4 b9 X H f0 f1 f2 h0 h1 h2 h3 h4 h5 h6 h7 h8 h9 e7 e8 O T V2;have e9:=zM r;go_upto_region 4 with fail;have pA:=zd (Jb u (.cells #[(Y,i.san,e1),(Z,i.ldn,e2),(d3,i.bkn,e3)] 38)) (.cells #[f,name,price,(J,N,K)] 41);have pB:=zfT u (.cells #[(Y,i.san,e1),(Z,i.ldn,e2),(d3,i.bkn,e3)] 38) (.cells #[f,name,price,(J,N,K)] 41);have v:Below _ u ((u.alloc (.cells #[(Y,i.san,e1),(Z,i.ldn,e2),(d3,i.bkn,e3)] 38)).alloc (.cells #[f,name,price,(J,N,K)] 41)):=zk (zk bZ _) _;have a2:=hI (e4.below v);have r2:=zb s v;have r3:=zb r v;have a6:=ze a v;have a3:Hid (zx u _ (λb=>b=w.heap.size+1+1∨b=w.heap.size+1+1+1)):=zx.of_below v
 generalize (u.alloc _).alloc _=wf at pA pB v a2 r2 r3 a6 a3 ⊢;generalize u.heap.size=I at pA pB e9 ⊢;have p0:=pA;have pT:=pB;have KS:Hid (∀ z:World,z.heap[I]?=some (.cells #[_,_,_] 38 _)->z.heap[I+1]?=some (.cells #[_,_,_,_] 41 _)->z.cell? _=some (Y,i.san,e1)/\z.cell? _=some (Z,i.ldn,e2)/\z.cell? _=some (d3,i.bkn,e3)/\z.cell? _=some (int i64 f)/\z.cell? _=some (int i64 name)/\z.cell? _=some (int i64 price)/\z.cell? _=some (J,N,K)):=λz h1 h2=>⟨za h1 0 _ rfl,za h1 1 _ rfl,za h1 2 _ rfl,za h2 0 _ rfl,za h2 1 _ rfl,za h2 2 _ rfl,za h2 3 _ rfl⟩
 obtain⟨s0,s1,s2⟩:=ce3 r2;obtain⟨c0,c9,d0⟩:=fe3 r2;obtain⟨t0,t1,t2,t3⟩:=ce4 r3;obtain⟨d4,d5,d6,d7⟩:=fe4 r3;go_region_held3 (λw'=>w'.cell? (I,0)=some (Y,i.san,e1)/\w'.cell? (I,1)=some (Z,i.ldn,e2)/\w'.cell? (I,2)=some (d3,i.bkn,e3)/\w'.cell? (I+1,0)=some (int i64 f)/\w'.cell? (I+1,1)=some (int i64 name)/\w'.cell? (I+1,2)=some (int i64 price)/\w'.cell? (I+1,3)=some (J,N,K))
  (first|(refine KS _ ?_ ?_ <;> (repeat(first|with_reducible exact p0|with_reducible exact pT|(with_reducible refine zK ?_)|(with_reducible refine zD ?_ _ _ ?_;rotate_left;(focus omega))))))
  (fail)
 obtain⟨a0,f7,f8,a4,a7⟩:=zie a6 a2.out r2 r3 (by omega) (by omega) (int i64 f) (int i64 name) (int i64 price) (.slice J N K) rfl
 have e0:=hI (a0.below (Jh bZ));have d8:=hI (Jh a4);have d9:=hI (a7.trans (zx.of_below (Jh bZ)));clear a0 a4 a7;obtain⟨x0,x1,f9⟩:=ce3 (zK f7);obtain⟨z0,z1,z2,z3⟩:=ce4 (zK f8);go_wp2;refine Jj (by simp[results,results8,go_sem,x0,x1,f9,z0,z1,z2,z3]) rfl ⟨.inl ⟨a1.out,Q.out,i,Y,e1,Z,e2,d3,e3,_,_,_,.slice J N K,L,C,A,B,D,E,rfl,?_,e6.out,?_⟩,d8.out⟩
 ·exact e0
 ·rcases e5 with h|⟨M,b,f5,f6,h⟩
  ·exact .inl h
  ·exact .inr ⟨M,b,f5,f6,zeQ h (a3.trans d9) (λg e=>by rcases e with e|e;exact⟨_,_,by rw[e];exact s,by decide⟩;exact⟨_,_,by rw[e];exact r,by decide⟩)⟩
theorem DopAns.res {x:Off}{d:Int}{y:OpD}{m base:Nat}{e:Ending}{w':World}(h:DopAns x d y m base e w'):∃ rb c a name price N T ok,Res x d y m c a name price N T ok/\zmO base rb c a name price N T ok e w':=by
 rcases h with⟨h1,h2,c,f,c1,g,c2,i,c3,a,name,price,rv,L,C,A,B,D,E,rfl,j,l,hr⟩|⟨h,rfl⟩
 ·rcases hr with⟨rfl,hr⟩|⟨M,b,r,s,hr⟩
  ·exact⟨0,c,_,_,_,0,zeM [],_,.inl ⟨⟨h1,h2⟩,rfl,l,.inl ⟨rfl,hr⟩⟩,f,c1,g,c2,i,c3,_,0,L,C,A,B,D,E,rfl,j,zbS w' 0 _ _⟩
  ·by_cases h9:y.kind=9
   ·obtain rfl:=s.nine h9
    obtain⟨k,rfl,_,n⟩:=hr.1 h9;obtain⟨o,p,rfl,_⟩:=zp n;exact⟨b,c,_,_,_,_,_,_,.inl ⟨⟨h1,h2⟩,rfl,l,.inr ⟨h9,r,rfl,rfl⟩⟩,f,c1,g,c2,i,c3,o,p,L,C,A,B,D,E,rfl,j,n⟩
   ·obtain rfl:=hr.2 h9
    exact⟨0,c,_,_,_,0,zeM [],_,.inl ⟨⟨h1,h2⟩,rfl,l,.inl ⟨rfl,λq=>absurd q h9⟩⟩,f,c1,g,c2,i,c3,_,0,L,C,A,B,D,E,rfl,j,zbS w' 0 _ _⟩
 ·exact⟨0,_,0,0,0,0,zeM [],_,.inr ⟨h,rfl,rfl,rfl,rfl,rfl,rfl⟩,zmO.no x _ 0 _ w'⟩
def zea (k:Nat)(p:zH):zH:=⟨p.n,λi=>(k+2*i:Nat),λi=>(k+2*i+1:Nat)⟩
theorem zih (k:Nat)(p:zH)(j:Nat):qn (zea k p) j=int i64 ((k+j:Nat):Int):=by
 unfold qn zea
 by_cases h:j % 2=0
 ·rw[Jf h];show Value.int _ ((_:Nat):Int)=_;rw[show k+2*(j / 2)=k+j by omega]
 ·rw[Je h];show Value.int _ ((_:Nat):Int)=_;rw[show k+2*(j / 2)+1=k+j by omega]
theorem markLaneP (m:Option Addr)(c base k0:Nat)(p:zH)(w:World)(F:p.n<=1048576)(h1:k0<=100000000000000)(y:w.ownsRow base 223 2 (m,p.n,c) p.n (qd p)) :
  Calls prog 127 #[(m,p.n,c),(k0:Int)] w λe w'=>e=.returned ((k0+2*p.n:Nat):Int)/\w'.ownsRow base 223 2 (m,p.n,c) p.n (qd (zea k0 p))/\zx w w' (λb=>(Value.slice m p.n c).ownBlock=some b):=by
 obtain⟨n,l⟩:∃ n,n=p.n:=⟨_,rfl⟩;rw[← l] at F y ⊢;have o:=hI l;clear l;go_enter func127,ntmps127;go_wp2;go_loopw [1,5] (λq i wr=>∃ (t k:Nat),t<=n/\i=int i64 t/\q=int i64 k/\k=k0+2*t/\wr.ownsRow base 223 2 (m,n,c) n ((List.range (n*2)).map (λj=>if j<t*2 then int i64 ((k0+j:Nat):Int) else qn p j))/\zx w wr (λb=>(Value.slice m n c).ownBlock=some b)) (λ_ i _=>n - (intOf i).toNat)
 case atStart =>
  refine⟨0,k0,Jq _,rfl,rfl,by omega,?_,zx.refl _ _⟩
  have:(List.range (n*2)).map (λj=>if j<0*2 then int i64 ((k0+j:Nat):Int) else qn p j)=qd p:=by
   unfold qd;rw[← o.out];exact List.map_congr_left (λj _=>Je (by omega))
  rw[this];exact y
 case round =>
  clear y;obtain⟨t,k,ht,rfl,rfl,r,d,x⟩:=hrel;have f:=hI r;have kb:k<=200000000000000:=by omega
  clear r
  by_cases hlt:t<n
  ·obtain⟨g,rfl,_,_⟩:=qh d (by omega)
   obtain⟨v0,B⟩:∃ v,_=some v:=⟨_,zs d (t*2) (by omega) rfl⟩
   obtain⟨v1,C⟩:∃ v,_=some v:=⟨_,zs d (t*2+1) (by omega) rfl⟩
   have D:=d.frozenAt (t*2);have E:=d.frozenAt (t*2+1);have h:Hid _:=d;have s:=hI x;clear d x;go_wp2;go_roundw
   case rel =>
    refine⟨t+1,k+2,by omega,by go_num,by go_num,by have:=f.out;omega,qR (zL (zL h.out _ _) _ _) (λj A=>?_),(s.out.set (a:=⟨g,t*2,_⟩) rfl _).set (a:=⟨g,_+1,_⟩) rfl _⟩
    have z:=f
    by_cases h1:j=t*2+1
    ·rw[Jf h1,Jf (by omega)];congr 1;subst h1;subst z;omega
    ·rw[Je h1]
     by_cases h0:j=t*2
     ·rw[Jf h0,Jf (by omega)];congr 1;subst h0;subst z;omega
     ·rw[Je h0]
      by_cases h2:j<t*2
      ·rw[Jf h2,Jf (by omega)]
      ·rw[Je h2,Je (by omega)]
   case measure=>simp[intOf];omega
  ·obtain rfl:t=n:=by omega
   have h:Hid _:=d;clear d;go_wp2;go_ret;refine⟨by rw[f.out];rfl,?_,x⟩
   have:qd (zea k0 p)=(List.range (t*2)).map (λj=>if j<t*2 then int i64 ((k0+j:Nat):Int) else qn p j):=by
    unfold qd;rw[show(zea k0 p).n=t from o.out.symm];refine List.map_congr_left (λj A=>?_)
    have u:=by simpa using A
    rw[Jf u,zih]
   rw[this];exact h
theorem heldLaneP (g:Option Addr)(c k0:Nat)(p:zH)(w:World)(o:p.n<=1048576)(h1:k0<=100000000000000)(h:zG w g (zea k0 p)) :
  Calls prog 132 #[(g,p.n,c),(k0:Int)] w λe w'=>e=.returned ((k0+2*p.n:Nat):Int)/\w'=w:=by
 obtain⟨n,f⟩:∃ n,n=p.n:=⟨_,rfl⟩;have l:Hid (∀ j,j<n->∃ b off,g=some ⟨b,off,none⟩/\w.cell? ⟨b,off+j*2,none⟩=some (int i64 ((k0+2*j:Nat):Int))/\w.cell? ⟨b,off+j*2+1,none⟩=some (int i64 ((k0+2*j+1:Nat):Int))):=by rw[f];exact h
 rw[← f] at o ⊢;clear f h;go_enter func132,ntmps132;go_wp2;go_loopw [1,5] (λq i wr=>∃ (t k:Nat),t<=n/\i=int i64 t/\q=int i64 k/\k=k0+2*t/\wr=w) (λ_ i _=>n - (intOf i).toNat)
 case atStart=>exact⟨0,k0,Jq _,rfl,rfl,by omega,rfl⟩
 case round =>
  obtain⟨t,k,ht,rfl,rfl,a,rfl⟩:=hrel;have kb:k<=200000000000000:=by omega
  by_cases hlt:t<n
  ·obtain⟨b,off,rfl,m,c1⟩:=l t hlt
   rw[← a] at m c1;have d:=hI a;have c1:wr.cell? (b,off+t*2+1)=some (int i64 ((k:Int)+1)):=by rw[c1];rfl
   have i1:(0:Int)<=(t:Int):=by omega
   have i2:(t:Int)<(n:Int):=by omega
   clear a;go_wp2;go_roundw
   case rel=>exact⟨t+1,k+2,by omega,by go_num,by go_num,by have:=d.out;omega,trivial⟩
   case measure=>simp[intOf];omega
  ·obtain rfl:t=n:=by omega
   have d:=hI a;clear a;go_wp2;go_ret;exact⟨by rw[d.out];rfl,rfl⟩
theorem zob (m:Option Addr)(c base k0:Nat)(p:zH)(w:World)(F:p.n<=1048576)(h1:k0<=100000000000000)(y:w.ownsRow base 231 2 (m,p.n,c) p.n (qd p)) :
  Calls prog 128 #[(m,p.n,c),(k0:Int)] w λe w'=>e=.returned ((k0+2*p.n:Nat):Int)/\w'.ownsRow base 231 2 (m,p.n,c) p.n (qd (zea k0 p))/\zx w w' (λb=>(Value.slice m p.n c).ownBlock=some b):=by
 obtain⟨n,l⟩:∃ n,n=p.n:=⟨_,rfl⟩;rw[← l] at F y ⊢;have o:=hI l;clear l;go_enter func128,ntmps128;go_wp2;go_loopw [1,5] (λq i wr=>∃ (t k:Nat),t<=n/\i=int i64 t/\q=int i64 k/\k=k0+2*t/\wr.ownsRow base 231 2 (m,n,c) n ((List.range (n*2)).map (λj=>if j<t*2 then int i64 ((k0+j:Nat):Int) else qn p j))/\zx w wr (λb=>(Value.slice m n c).ownBlock=some b)) (λ_ i _=>n - (intOf i).toNat)
 case atStart =>
  refine⟨0,k0,Jq _,rfl,rfl,by omega,?_,zx.refl _ _⟩
  have:(List.range (n*2)).map (λj=>if j<0*2 then int i64 ((k0+j:Nat):Int) else qn p j)=qd p:=by
   unfold qd;rw[← o.out];exact List.map_congr_left (λj _=>Je (by omega))
  rw[this];exact y
 case round =>
  clear y;obtain⟨t,k,ht,rfl,rfl,r,d,x⟩:=hrel;have f:=hI r;have kb:k<=200000000000000:=by omega
  clear r
  by_cases hlt:t<n
  ·obtain⟨g,rfl,_,_⟩:=qh d (by omega)
   obtain⟨v0,B⟩:∃ v,_=some v:=⟨_,zs d (t*2) (by omega) rfl⟩
   obtain⟨v1,C⟩:∃ v,_=some v:=⟨_,zs d (t*2+1) (by omega) rfl⟩
   have D:=d.frozenAt (t*2);have E:=d.frozenAt (t*2+1);have h:Hid _:=d;have s:=hI x;clear d x;go_wp2;go_roundw
   case rel =>
    refine⟨t+1,k+2,by omega,by go_num,by go_num,by have:=f.out;omega,qR (zL (zL h.out _ _) _ _) (λj A=>?_),(s.out.set (a:=⟨g,t*2,_⟩) rfl _).set (a:=⟨g,_+1,_⟩) rfl _⟩
    have z:=f
    by_cases h1:j=t*2+1
    ·rw[Jf h1,Jf (by omega)];congr 1;subst h1;subst z;omega
    ·rw[Je h1]
     by_cases h0:j=t*2
     ·rw[Jf h0,Jf (by omega)];congr 1;subst h0;subst z;omega
     ·rw[Je h0]
      by_cases h2:j<t*2
      ·rw[Jf h2,Jf (by omega)]
      ·rw[Je h2,Je (by omega)]
   case measure=>simp[intOf];omega
  ·obtain rfl:t=n:=by omega
   have h:Hid _:=d;clear d;go_wp2;go_ret;refine⟨by rw[f.out];rfl,?_,x⟩
   have:qd (zea k0 p)=(List.range (t*2)).map (λj=>if j<t*2 then int i64 ((k0+j:Nat):Int) else qn p j):=by
    unfold qd;rw[show(zea k0 p).n=t from o.out.symm];refine List.map_congr_left (λj A=>?_)
    have u:=by simpa using A
    rw[Jf u,zih]
   rw[this];exact h
theorem zoc (g:Option Addr)(c k0:Nat)(p:zH)(w:World)(o:p.n<=1048576)(h1:k0<=100000000000000)(h:zG w g (zea k0 p)) :
  Calls prog 133 #[(g,p.n,c),(k0:Int)] w λe w'=>e=.returned ((k0+2*p.n:Nat):Int)/\w'=w:=by
 obtain⟨n,f⟩:∃ n,n=p.n:=⟨_,rfl⟩;have l:Hid (∀ j,j<n->∃ b off,g=some ⟨b,off,none⟩/\w.cell? ⟨b,off+j*2,none⟩=some (int i64 ((k0+2*j:Nat):Int))/\w.cell? ⟨b,off+j*2+1,none⟩=some (int i64 ((k0+2*j+1:Nat):Int))):=by rw[f];exact h
 rw[← f] at o ⊢;clear f h;go_enter func133,ntmps133;go_wp2;go_loopw [1,5] (λq i wr=>∃ (t k:Nat),t<=n/\i=int i64 t/\q=int i64 k/\k=k0+2*t/\wr=w) (λ_ i _=>n - (intOf i).toNat)
 case atStart=>exact⟨0,k0,Jq _,rfl,rfl,by omega,rfl⟩
 case round =>
  obtain⟨t,k,ht,rfl,rfl,a,rfl⟩:=hrel;have kb:k<=200000000000000:=by omega
  by_cases hlt:t<n
  ·obtain⟨b,off,rfl,m,c1⟩:=l t hlt
   rw[← a] at m c1;have d:=hI a;have c1:wr.cell? (b,off+t*2+1)=some (int i64 ((k:Int)+1)):=by rw[c1];rfl
   have i1:(0:Int)<=(t:Int):=by omega
   have i2:(t:Int)<(n:Int):=by omega
   clear a;go_wp2;go_roundw
   case rel=>exact⟨t+1,k+2,by omega,by go_num,by go_num,by have:=d.out;omega,trivial⟩
   case measure=>simp[intOf];omega
  ·obtain rfl:t=n:=by omega
   have d:=hI a;clear a;go_wp2;go_ret;exact⟨by rw[d.out];rfl,rfl⟩
theorem zlb (k:Nat)(w:World)(hk:k<=1000000000000000) :
  Calls prog 71 #[int i64 k] w λe w'=>(∃ s,e=.returned (.string s))/\Below w.heap.size w w':=by
 by_cases h0:k=0
 ·subst h0
  go_enter func71,ntmps71;go_wp2;go_ret;exact⟨⟨_,rfl⟩,bZ⟩
 ·have d0:decide ((k:Int)<=0)=false:=Jc (by omega)
  go_enter func71,ntmps71;go_wp2;go_loopw [0,3] (λf g wr=>∃ (q:Nat) (s:ByteArray),f=int i64 q/\g=.string s/\s.size+q<=1000000000000000/\Below w.heap.size w wr) (λf _ _=>(intOf f).toNat)
  case atStart=>exact⟨k,_,rfl,rfl,by show 0+k<=_;omega,bZ⟩
  case round =>
   obtain⟨q,s,rfl,rfl,hs,a⟩:=hrel
   by_cases hq:q=0
   ·subst hq
    have b:=run_string_add_sum (P:=prog) (w:=wr) ⟨#[109]⟩ s (by show 1+s.size<=_;omega)
    go_wp2;go_ret;exact⟨⟨_,rfl⟩,a⟩
   ·have dq:decide ((0:Int)<(q:Int))=true:=Jd (by omega)
    have c:(convert 209 9 (some (wr.heap.size,0),1,1)).run prog (wr.alloc (.cells #[.int .u8 (48+(q:Int) % 10)] 5))=.ok (.string (ByteArray.empty.push (UInt8.ofNat (48+(q:Int) % 10).toNat))) (wr.alloc (.cells #[.int .u8 (48+(q:Int) % 10)] 5)):=by
     rw[run_convert_bytes_string _ 209 9 5 _ 1 1 underlying209 underlying5 underlying9];exact run_bytesToString _ _ 1 1 [_] (run_loadCells_list _ _ [_] (λj v d=>by
      cases j with
      | zero=>simp at d;subst d;simp[Addr.add,World.cell?_alloc_mark]
      | succ j=>simp at d))
    have b:=run_string_add_sum (P:=prog) (w:=wr.alloc (.cells #[.int .u8 (48+(q:Int) % 10)] 5)) (ByteArray.empty.push (UInt8.ofNat (48+(q:Int) % 10).toNat)) s (by show 1+s.size<=_;omega)
    go_wp2;refine⟨⟨q / 10,_,by simp,rfl,?_,zk a _⟩,?_⟩
    ·have e:(ByteArray.empty.push (48+UInt8.ofNat (q % 10))++s).size=1+s.size:=by
      rw[ByteArray.size_append];rfl
     rw[e];omega
    ·simp only[intOf];omega
theorem zdD (k:Int)(w:World)(a:0<=k)(hk:k<=1000000000000000) :
  Calls prog 71 #[int i64 k] w λe w'=>(∃ s,e=.returned (.string s))/\Below w.heap.size w w':=by
 obtain⟨q,rfl⟩:=Int.eq_ofNat_of_zero_le a;exact zlb q w (by omega)
def zcc (q:Nat)(s:ByteArray):ByteArray :=
 if _h:q=0 then ⟨#[109]⟩++s else zcc (q / 10) (ByteArray.empty.push (48+UInt8.ofNat (q % 10))++s)
termination_by q
decreasing_by omega
theorem markFin_0 (s:ByteArray):zcc 0 s=⟨#[109]⟩++s:=by rw[zcc];simp
theorem markFin_s {q:Nat}(h:q≠0)(s:ByteArray):zcc q s=zcc (q / 10) (ByteArray.empty.push (48+UInt8.ofNat (q % 10))++s):=by rw[zcc];simp[h]
def zbl (k:Nat):ByteArray:=if k=0 then ⟨#[109,48]⟩ else zcc k ⟨#[]⟩
theorem zho (k:Nat)(w:World)(hk:k<=1000000000000000) :
  Calls prog 71 #[int i64 k] w λe w'=>e=.returned (.string (zbl k))/\Below w.heap.size w w':=by
 by_cases h0:k=0
 ·subst h0
  go_enter func71,ntmps71;go_wp2;go_ret;exact⟨rfl,bZ⟩
 ·have d0:decide ((k:Int)<=0)=false:=Jc (by omega)
  have h:Hid (zbl k=zcc k ⟨#[]⟩):=by show _=_;unfold zbl;rw[Je h0]
  go_enter func71,ntmps71;go_wp2;go_loopw [0,3] (λg i wr=>∃ (q:Nat) (s:ByteArray),g=int i64 q/\i=.string s/\s.size+q<=1000000000000000/\Hid (zcc q s=zbl k)/\Below w.heap.size w wr) (λg _ _=>(intOf g).toNat)
  case atStart=>exact⟨k,_,rfl,rfl,by show 0+k<=_;omega,h.symm,bZ⟩
  case round =>
   obtain⟨q,s,rfl,rfl,hs,b,a⟩:=hrel
   by_cases hq:q=0
   ·subst hq
    have c:=run_string_add_sum (P:=prog) (w:=wr) ⟨#[109]⟩ s (by show 1+s.size<=_;omega)
    go_wp2;go_ret;refine⟨?_,a⟩;rw[← b.out,markFin_0]
    rfl
   ·have dq:decide ((0:Int)<(q:Int))=true:=Jd (by omega)
    have d:(convert 209 9 (some (wr.heap.size,0),1,1)).run prog (wr.alloc (.cells #[.int .u8 (48+(q:Int) % 10)] 5))=.ok (.string (ByteArray.empty.push (UInt8.ofNat (48+(q:Int) % 10).toNat))) (wr.alloc (.cells #[.int .u8 (48+(q:Int) % 10)] 5)):=by
     rw[run_convert_bytes_string _ 209 9 5 _ 1 1 underlying209 underlying5 underlying9];exact run_bytesToString _ _ 1 1 [_] (run_loadCells_list _ _ [_] (λj v f=>by
      cases j with
      | zero=>simp at f;subst f;simp[Addr.add,World.cell?_alloc_mark]
      | succ j=>simp at f))
    have c:=run_string_add_sum (P:=prog) (w:=wr.alloc (.cells #[.int .u8 (48+(q:Int) % 10)] 5)) (ByteArray.empty.push (UInt8.ofNat (48+(q:Int) % 10).toNat)) s (by show 1+s.size<=_;omega)
    go_wp2;refine⟨⟨q / 10,_,by simp,rfl,?_,?_,zk a _⟩,?_⟩
    ·have e:(ByteArray.empty.push (48+UInt8.ofNat (q % 10))++s).size=1+s.size:=by
      rw[ByteArray.size_append];rfl
     rw[e];omega
    ·show _=_
     rw[← b.out,markFin_s hq]
    ·simp only[intOf];omega
theorem zau (z:Int)(w:World)(a:0<=z)(hk:z<=1000000000000000) :
  Calls prog 71 #[int i64 z] w λe w'=>e=.returned (.string (zbl z.toNat))/\Below w.heap.size w w':=by
 obtain⟨q,rfl⟩:=Int.eq_ofNat_of_zero_le a;exact zho q w (by omega)
section
open Go.RowKit
end
end Go.Proofs.YtmdnjgihooflfaaGreatDoor
