import Derived.Test.YtgmdnkngnhkgbaaGreatB45
import Derived.Test.YtgmdnkngnhkgbaaGreatB39
import Derived.Test.YtgmdnkngnhkgbaaGreatB31
import Derived.Test.YtgmdnkngnhkgbaaGreatB33
import Derived.Test.YtgmdnkngnhkgbaaGreatB34
import Derived.Test.YtgmdnkngnhkgbaaGreatB41
import Derived.Test.YtgmdnkngnhkgbaaGreatB42
import Derived.Test.YtgmdnkngnhkgbaaGreatB43
import Derived.Test.YtgmdnkngnhkgbaaGreatB44
namespace Go.Proofs.YtgmdnkngnhkgbaaGreat
open Go.RowKit
open Go.Value (int)
open Go.IntKind (i64)
set_option maxHeartbeats 64000000
set_option maxRecDepth 1000000
theorem zgS {N n:Nat}{S:Nat->Sail}{G:Nat->Int}(c:Z2 N S)(h:Qz N S n G):∀ d j,j+d+1<n->(S (zH S (G j) N)).arr<=(S (zH S (G (j+d+1)) N)).dep:=by
 intro d
 induction d with
 | zero =>
  intro j f;have:=(h.2.2 (j+1) (by omega)).2 (by omega)
  simpa using this.2
 | succ d ih =>
  intro j f;have h1:=ih j (by omega)
  have a:=((h.2.2 (j+(d+1)+1) (by omega)).2 (by omega)).2
  have b:=(c.2 _ (h.2.2 (j+d+1) (by omega)).1).1
  have e:j+(d+1)+1 - 1=j+d+1:=by omega
  rw[e] at a;have h4:(S (zH S (G (j+d+1)) N)).dep<(S (zH S (G (j+d+1)) N)).arr:=b.2.2.2.2.2.1
  omega
theorem zak {N n:Nat}{S:Nat->Sail}{G:Nat->Int}(a:Z2 N S)(h:Qz N S n G):∀ i,i<n->∀ j,j<i->G j≠G i:=fun i f j hj e=>by
 obtain⟨d,rfl⟩:∃ d,i=j+d+1:=⟨i - j - 1,by omega⟩
 have b:=zgS a h d j f;rw[← e] at b;have c:=(a.2 _ (h.2.2 j (by omega)).1).1
 have h4:(S (zH S (G j) N)).dep<(S (zH S (G j) N)).arr:=c.2.2.2.2.2.1
 omega
def WkOk (x:Off)(v:Wk):Prop:=v.res<3/\zH x.sa v.leg x.san<x.san/\(v.goes=false->In v.who 1 9999/\qw v.p/\zai v.p.len v.p.cl v.res=true)
def QQ (x:Off)(y:OpD)(m:Nat):Prop:=QZ y/\¬ Qf x.san x y/\(In y.kind 4 8->y.name=(m:Int)+1/\m<x.bkn/\¬ zbc (x.bk m) y)
theorem QQ.legs {x:Off}{y:OpD}{m:Nat}(h:QQ x y m)(a:zO y.kind):Qz x.san x.sa y.lgn y.lg:=by
 by_cases c:Qz x.san x.sa y.lgn y.lg
 ·exact c
 ·exact absurd (.inl ⟨a,c⟩) h.2.1
theorem QQ.party {x:Off}{y:OpD}{m:Nat}(h:QQ x y m)(a:zO y.kind):qw ⟨y.pe,y.len,y.hei,y.cl,y.all,y.be⟩:=by
 have:=h.1.2.2.2.2.1;unfold qf at this;rw[if_pos a] at this;exact this
theorem zal {k:Int}(h:QM k):In k 4 8:=by
 unfold QM at h;unfold In
 omega
theorem works_fit {x:Off}{y:OpD}{m:Nat}{d:Int}(j:ql x)(h:QQ x y m)(s:In d 1 9999)(q:∀ i,i<x.bkn->(x.bk i).who≠d) :
  (qu x d y m).Pairwise zcQ/\∀ v ∈ qu x d y m,Apt x x.ld v/\WkOk x v:=by
 have k:=j.1;have g:QM y.kind->m<x.bkn/\zaZ (x.bk m)/\Qz x.san x.sa (x.bk m).lgn (x.bk m).lg:=fun t=>by
  obtain⟨_,a,r⟩:=h.2.2 (zal t);refine⟨a,?_,(j.2.2.2.2.1 m a).2.2.2.1⟩
  by_cases c:zaZ (x.bk m)
  ·exact c
  ·exact absurd (.inl c) r
 constructor
 ·unfold qu
  by_cases h1:QM y.kind
  ·obtain⟨n,hl,f⟩:=g h1
   rw[if_pos h1]
   by_cases a:zO y.kind
   ·rw[if_pos a]
    exact zfj (zak k f) (zak k (h.legs a)) (q m n)
   ·rw[if_neg a,List.append_nil]
    exact Qm _ _ _ _ _ (zak k f)
  ·rw[if_neg h1,List.nil_append]
   by_cases a:zO y.kind
   ·rw[if_pos a]
    exact Qm _ _ _ _ _ (zak k (h.legs a))
   ·rw[if_neg a]
    exact List.Pairwise.nil
 ·intro v b
  unfold qu at b
  rcases List.mem_append.1 b with b|b
  ·by_cases h1:QM y.kind
   ·rw[if_pos h1] at b
    obtain⟨n,hl,f⟩:=g h1;refine⟨j.apt_goes n hl rfl rfl b,?_⟩;obtain⟨⟨i,l,e⟩,o,p,_⟩:=Ql b;exact⟨o,by rw[e];exact(f.2.2 i l).1,fun c=>by rw[p] at c;cases c⟩
   ·rw[if_neg h1] at b
    cases b
  ·by_cases a:zO y.kind
   ·rw[if_pos a] at b
    refine⟨j.apt_comes q b,?_⟩;obtain⟨⟨i,l,e⟩,o,p,z,u,w⟩:=Ql b;refine⟨o,by rw[e];exact((h.legs a).2.2 i l).1,fun _=>?_⟩
    rw[z,u];exact⟨s,h.party a,w⟩
   ·rw[if_neg a] at b
    cases b
inductive Done (x:Off):List Wk->(Nat->qm)->(Nat->qm)->Prop
 | nil (L:Nat->qm):Done x [] L L
 | snoc (l:List Wk) (L M:Nat->qm) (v:Wk) (k:Nat) (z:qm) (h:Done x l L M) (hk:zH x.sa v.leg x.san=k) (hl:k<x.san) (hw:Zv (x.sa k) v (M k) 0 z):Done x (l++[v]) L (zcs M k z)
structure zbS (x:Off)(l:List Wk)(j:Nat)(M:Nat->qm):Prop where
 done:Done x (l.take j) x.ld M
 good:∀ i,i<x.san->zV (x.sa i) (M i)
 apt:∀ v ∈ l.drop j,Apt x M v
theorem zbS.start {x:Off}{l:List Wk}(a:ql x)(b:∀ v ∈ l,Apt x x.ld v):zbS x l 0 x.ld :=
 ⟨by rw[List.take_zero];exact .nil _,a.2.2.2.1,by rw[List.drop_zero];exact b⟩
theorem zbS.comes {x:Off}{l:List Wk}{j:Nat}{M:Nat->qm}{v:Wk}{k:Nat}(h:zbS x l j M)(f:l[j]?=some v)(b:zH x.sa v.leg x.san=k)(hl:k<x.san)(i:WkOk x v):ComesOk v (M k):=fun a=>by
 obtain⟨c,d,e⟩:=i.2.2 a;refine⟨c,d,e,?_⟩;have g:v ∈ l.drop j:=by
  rw[List.mem_iff_getElem?];exact⟨0,by rw[List.getElem?_drop];simpa using f⟩
 have:=(h.apt v g).2 k hl (by rw[← b];exact QW _ _ _ (by rw[b];exact hl))
 rw[if_neg (by rw[a];decide)] at this
 exact this
theorem zbS.there {x:Off}{l:List Wk}{j:Nat}{M:Nat->qm}{v:Wk}{k:Nat}(h:zbS x l j M)(c:l[j]?=some v)(a:zH x.sa v.leg x.san=k)(hl:k<x.san)(b:v.goes=true):zei (M k) v.res v.who:=by
 have d:v ∈ l.drop j:=by
  rw[List.mem_iff_getElem?];exact⟨0,by rw[List.getElem?_drop];simpa using c⟩
 have:=(h.apt v d).2 k hl (by rw[← a];exact QW _ _ _ (by rw[a];exact hl))
 rw[if_pos b] at this;exact this
theorem zbS.next {x:Off}{l:List Wk}{j:Nat}{M:Nat->qm}{v:Wk}{k:Nat}{z:qm}(h:zbS x l j M)(p:l.Pairwise zcQ)(d:l[j]?=some v)(f:zH x.sa v.leg x.san=k)(hl:k<x.san)(q:WkOk x v)(o:Zv (x.sa k) v (M k) 0 z):zbS x l (j+1) (zcs M k z):=by
 have c:QN (x.sa k) v (M k) z:=by
  rcases o.on (h.good k hl) (h.comes d f hl q) with⟨_,h⟩|⟨h,_⟩
  ·exact h
  ·unfold In at h;omega
 have g:(x.sa k).id=v.leg:=by rw[← f];exact QW _ _ _ (by rw[f];exact hl)
 have i:j<l.length:=(List.getElem?_eq_some_iff.1 d).1;have b:l.drop j=v :: l.drop (j+1):=by
  rw[List.drop_eq_getElem_cons i]
  congr 1
  exact(List.getElem?_eq_some_iff.1 d).2
 refine⟨?_,zgN h.good c,fun u n=>?_⟩
 ·rw[List.take_add_one,d]
  exact .snoc _ _ _ _ k z h.done f hl o
 ·refine(h.apt u (by rw[b];exact List.mem_cons_of_mem _ n)).after g c ?_
  have m:(l.drop j).Pairwise zcQ:=p.sublist (List.drop_sublist _ _);rw[b,List.pairwise_cons] at m;have a:=m.1 u n
  rcases a with a|a|a
  ·exact .inl (fun e=>a e.symm)
  ·exact .inr (.inl (fun e=>a e.symm))
  ·exact .inr (.inr (fun e=>a e.symm))
theorem l7End_9 (g base N R l i o j:Nat)(f d m t:Option Addr)(d0:Int)(y:OpD)(x:Off)(L C A B D E:Nat->Value)(w:World)(hq:w.heap[g]?=some (.cells #[.slice f N l,.slice d N i,.slice m R o] 27 (0,0)))(ho:zy w base (.slice f N l) (.slice d N i) (.slice m R o) N N R x L C A B D E)(b8:x.bkn=R)(a8:base<=w.heap.size)(J:y.kind=9)(d7:In y.pe 0 20)(f4:y.lgn<=3)(K:zX w t y.lgn y.lg)(b7:zZ t y.lgn j)(b6:0<y.lgn->∀ a,t=some a->a.block<base)(k:Nat)(b5:0<y.lgn)(I:zH x.sa (y.lg 0) N=k)(b0:k<N)(hs:Off.Short x 1048576)(c4:x.san=N)(b9:x.ldn=N)(a0:x.bkn<=30) :
  Calls Tryz.prog 119 #[.pointer (some ⟨g,0,none⟩),int i64 d0,.agg #[int i64 y.kind,.string y.own,int i64 y.name,.slice t y.lgn j,int i64 y.pe,int i64 y.len,int i64 y.hei,int i64 y.cl,.bool y.all,int i64 y.be,int i64 y.unt,int i64 y.now]] w fun e w'=>zaD g base N l i f d (fun _=>False) x 0 0 0 (fun z v=>z.ownsRow w.heap.size 45 5 v (q9 (x.ld k) x.bk (y.lg 0) x.bkn).length (qC (zbj (q9 (x.ld k) x.bk (y.lg 0) x.bkn)) (q9 (x.ld k) x.bk (y.lg 0) x.bkn).length)) L C A B D w e w':=by
 have c8:Hid (zH x.sa (y.lg 0) N=k/\k<N/\Off.Short x 1048576/\x.san=N/\x.ldn=N/\x.bkn<=30/\0<y.lgn):=⟨I,b0,hs,c4,b9,a0,b5⟩;clear I b0 hs c4 b9 a0;rw[J];obtain⟨q,lo,rfl,a9⟩:=K 0 b5;have HO:=hI ho;have Y:=hI hq;have d9:=hI J;have s:=hI b8;have d8:=hI a8;have e4:=hI K;have e7:=hI b7;have e5:=hI b6;clear ho hq J b8 a8 K b7 b6;obtain⟨pr,M⟩:∃ pr,pr=qN ⟨y.pe,y.len,y.hei,y.cl,y.all,y.be⟩ (y.lgn:Int):=⟨_,rfl⟩;have e6:=hI M;have b:Below w.heap.size w ((w.alloc (.cells #[int i64 9,.string y.own,int i64 y.name,.slice (some (⟨q,lo,none⟩:Addr)) y.lgn j,int i64 y.pe,int i64 y.len,int i64 y.hei,int i64 y.cl,.bool y.all,int i64 y.be,int i64 y.unt,int i64 y.now] 120)).alloc (.cells #[int i64 0,int i64 0,int i64 0,.slice none 0 0] 116)):=zl (zl bZ _) _;have bO:=zc (heap_alloc_new w (.cells #[int i64 9,.string y.own,int i64 y.name,.slice (some (⟨q,lo,none⟩:Addr)) y.lgn j,int i64 y.pe,int i64 y.len,int i64 y.hei,int i64 y.cl,.bool y.all,int i64 y.be,int i64 y.unt,int i64 y.now] 120)) (.cells #[int i64 0,int i64 0,int i64 0,.slice none 0 0] 116);have P:=zbZ w (.cells #[int i64 9,.string y.own,int i64 y.name,.slice (some (⟨q,lo,none⟩:Addr)) y.lgn j,int i64 y.pe,int i64 y.len,int i64 y.hei,int i64 y.cl,.bool y.all,int i64 y.be,int i64 y.unt,int i64 y.now] 120) (.cells #[int i64 0,int i64 0,int i64 0,.slice none 0 0] 116);go_enter Tryz.func119,Tryz.ntmps119;go_wp2_with fail;generalize ((w.alloc (.cells #[int i64 9,.string y.own,int i64 y.name,.slice (some (⟨q,lo,none⟩:Addr)) y.lgn j,int i64 y.pe,int i64 y.len,int i64 y.hei,int i64 y.cl,.bool y.all,int i64 y.be,int i64 y.unt,int i64 y.now] 120)).alloc (.cells #[int i64 0,int i64 0,int i64 0,.slice none 0 0] 116))=W at b bO P ⊢;refine(qB y.pe y.len y.hei y.cl y.all y.be (y.lgn:Int) _ d7 (by unfold In;omega)).mono ?_
 rintro e V ⟨rfl,F⟩;rw[← M];clear M;replace b:=zf b F;replace bO:=zb bO F;replace P:=zb P F;clear F W;have o0:=za bO 0 _ rfl;have f2:g<w.heap.size:=zQ Y.out;have d6:q<w.heap.size:=World.block_lt_of_cell? w _ a9;have i5:(0:Int)<(y.lgn:Int):=by omega
 have KS:Hid (∀ z,Below V.heap.size V z->z.cell? ⟨g,0,none⟩=some (.slice f N l)/\z.cell? ⟨g,1,none⟩=some (.slice d N i)/\z.cell? ⟨g,2,none⟩=some (.slice m R o)/\z.cell? ⟨w.heap.size,3,none⟩=some (.slice (some ⟨q,lo,none⟩) y.lgn j)/\z.cell? ⟨q,lo,none⟩=some (int i64 (y.lg 0))):=fun z h=>⟨za (zb Y.out (zf b h)) 0 _ rfl,za (zb Y.out (zf b h)) 1 _ rfl,za (zb Y.out (zf b h)) 2 _ rfl,za (zb bO h) 3 _ rfl,((zf b h).cell (p:=⟨q,lo,none⟩) d6).trans a9⟩
 have KT:Hid (∀ z,Below V.heap.size V z->∀ c0 c1 c2 c3 O,O=(((z.setCell ⟨w.heap.size+1,0,none⟩ c0).setCell ⟨w.heap.size+1,1,none⟩ c1).setCell ⟨w.heap.size+1,2,none⟩ c2).setCell ⟨w.heap.size+1,3,none⟩ c3->O.cell? ⟨g,0,none⟩=some (.slice f N l)/\O.cell? ⟨g,1,none⟩=some (.slice d N i)/\O.cell? ⟨g,2,none⟩=some (.slice m R o)/\O.cell? ⟨w.heap.size,3,none⟩=some (.slice (some ⟨q,lo,none⟩) y.lgn j)/\O.cell? ⟨q,lo,none⟩=some (int i64 (y.lg 0))):=fun z h c0 c1 c2 c3 O e=>by
  subst e;obtain⟨a1,a2,a3,a4,a5⟩:=KS.out z h;have I:=Qv z (w.heap.size+1) c0 c1 c2 c3;exact⟨Zq I a1 (by show ¬ _=_;dsimp only;omega),Zq I a2 (by show ¬ _=_;dsimp only;omega),Zq I a3 (by show ¬ _=_;dsimp only;omega),Zq I a4 (by show ¬ _=_;dsimp only;omega),Zq I a5 (by show ¬ _=_;dsimp only;omega)⟩
 have c5:Hid (∀ Z,Below V.heap.size V Z->Calls Tryz.prog 130 #[.agg #[.slice f N l,.slice d N i,.slice m R o],int i64 (y.lg 0)] Z fun e w5=>(∃ G n H,e=.returned (.slice G n H)/\Hid (w5.ownsRow w.heap.size 45 5 (.slice G n H) (q9 (x.ld k) x.bk (y.lg 0) x.bkn).length (qC (zbj (q9 (x.ld k) x.bk (y.lg 0) x.bkn)) (q9 (x.ld k) x.bk (y.lg 0) x.bkn).length)))/\Below V.heap.size V w5):=fun Z hZ=>by
  have hh:=(HO.out.below (zf b hZ));obtain⟨q1,q2,q3,q4,q5,q6,_⟩:=c8.out;have e1:Calls Tryz.prog 130 #[.agg #[.slice f x.san l,.slice d x.ldn i,.slice m x.bkn o],int i64 (y.lg 0)] Z _:=zfw x f d m l i o k (y.lg 0) Z q3 (by rw[q4];exact hh.sa.at) (by rw[q5];exact hh.ld.at) (by rw[s.out];exact hh.bk.at) q6 (by rw[q4];exact q1) (by rw[q4];exact q2) (by rw[q4,q5])
  rw[q4,q5,s.out] at e1;refine e1.mono ?_;rintro e w5 ⟨⟨u,rfl,o1⟩,d5⟩;rw[s.out];obtain⟨G,H,rfl,_⟩:=zr o1;exact⟨⟨G,_,H,rfl,zC o1 (Nat.le_trans b.size hZ.size)⟩,zf hZ d5⟩
 obtain⟨v0,v1,v2,v3⟩:=ce4 P;obtain⟨e0,e1,e2,e3⟩:=fe4 P;go_upto_region 6 with fail;go_region_held3 (fun w'=>w'.cell? ⟨g,0,none⟩=some (.slice f N l)/\w'.cell? ⟨g,1,none⟩=some (.slice d N i)/\w'.cell? ⟨g,2,none⟩=some (.slice m R o)/\w'.cell? ⟨w.heap.size,3,none⟩=some (.slice (some ⟨q,lo,none⟩) y.lgn j)/\w'.cell? ⟨q,lo,none⟩=some (int i64 (y.lg 0)))
  (first|(with_reducible exact KT.out _ r.out _ _ _ _ _ rfl)|(refine KS.out _ ?_;repeat(first|exact r.out|exact bZ|refine Below.drew ?_|refine zl ?_ _)))
  (first
   | (go_simp;go_at_call 130;(with_reducible refine Calls.mono (c5.out _ ?_) ?_);(focus(repeat(first | exact bZ | refine Below.drew ?_ | refine zl ?_ _)));rintro e u2 ⟨⟨G,n,H,rfl,X⟩,a7⟩;have r:=hI a7;have c:=zb P a7;have f5:=za c 0 _ rfl;have e8:=ze c 0;have f6:=za c 1 _ rfl;have e9:=ze c 1;have f7:=za c 2 _ rfl;have f0:=ze c 2;have f8:=za c 3 _ rfl;have f1:=ze c 3;dsimp only))
 obtain⟨U,a6,S,bF⟩:=QE (T:=(fun _=>False)) (zA.of_below (zf b r.out)) (HO.out.below (zf b r.out)) (zb Y.out (zf b r.out)) c (by omega) (int i64 0) (int i64 0) (int i64 0) (.slice G n H) rfl
 have c9:Hid _:=(Qv u2 (w.heap.size+1) (int i64 0) (int i64 0) (int i64 0) (.slice G n H)).own X.out (qD X.out c (by decide))
 have Q:Hid _:=U;have c7:Hid _:=a6;have c6:Hid _:=S;clear U a6 S;go_wp2;obtain⟨x0,x1,x2,x3⟩:=ce4 bF;refine bodyPost_ret (v:=.agg #[int i64 0,int i64 0,int i64 0,.slice G n H]) (by simp[results,Tryz.results119,go_sem,x0,x1,x2,x3]) rfl ?_
 have hR:=s.out;subst hR;exact⟨_,_,_,_,rfl,c9.out,Q.out,c7.out,c6.out⟩
def zan (x:Off)(b:qi)(y:OpD):Int :=
 if y.kind=4 then b.price
 else if y.kind=5 then qN ⟨y.pe,y.len,y.hei,y.cl,y.all,y.be⟩ y.lgn
 else if y.kind=6 then Qd b.price ((x.sa (zH x.sa (b.lg 0) x.san)).dep - y.now)
 else 0
def zeq (x:Off)(a:Int)(y:OpD)(m:Nat)(b:Off)(code name price:Int):Prop :=
 (y.kind=1/\b=x/\code=0/\name=0/\price=qN ⟨y.pe,y.len,y.hei,y.cl,y.all,y.be⟩ y.lgn) ∨
 (y.kind=9/\b=x/\code=0/\name=0/\price=0) ∨
 ((y.kind=2∨y.kind=3)/\x.bkn=30/\b=x/\code=8/\name=0/\price=0) ∨
 ((y.kind=2∨y.kind=3)/\x.bkn<30/\b={ x with bkn:=x.bkn+1,bk:=Zl x.bk x.bkn (ZI x.bkn a y) }/\code=0/\name=(x.bkn:Int)+1/\price=qN ⟨y.pe,y.len,y.hei,y.cl,y.all,y.be⟩ y.lgn) ∨
 (In y.kind 4 8/\m<x.bkn/\b={ x with bk:=Zl x.bk m (qg (x.bk m) a y) }/\code=0/\name=y.name/\price=zan x (x.bk m) y)
def zbe (x:Off)(y:OpD)(base:Nat)(z:World)(v:Value):Prop :=
 (y.kind=9->∃ k,zH x.sa (y.lg 0) x.san=k/\k<x.san/\z.ownsRow base 45 5 v (q9 (x.ld k) x.bk (y.lg 0) x.bkn).length (qC (zbj (q9 (x.ld k) x.bk (y.lg 0) x.bkn)) (q9 (x.ld k) x.bk (y.lg 0) x.bkn).length))/\(y.kind≠9->v=.slice none 0 0)
theorem zaD.mono {g base N l k:Nat}{j i:Option Addr}{T n:Nat->Prop}{o:Off}{code name price:Int}{m f:World->Value->Prop}{L C A B D:Nat->Value}{w:World}{e:Ending}{w':World}(h:zaD g base N l k j i T o code name price m L C A B D w e w')(x:∀ b,T b->n b)(u:∀ v,m w' v->f w' v):zaD g base N l k j i n o code name price f L C A B D w e w':=by
 obtain⟨a,b,c,d,p,q,r,s,t⟩:=h;exact⟨a,b,c,d,p,u _ q,r,s,t.mono x⟩
theorem zgg {y:OpD}(h:QZ y):In y.pe 0 20/\y.lgn<=3:=by
 have a:=h.2.2.2.2.1;have b:=h.2.2.2.1;unfold qf at a;unfold zY at b
 by_cases c:zO y.kind
 ·rw[if_pos c] at a b
  have:In y.pe 1 20:=a.1;unfold In at this ⊢
  omega
 ·rw[if_neg c] at a b
  have:y.pe=0:=a.1;refine⟨by rw[this];unfold In;omega,?_⟩
  split at b <;> omega
theorem l7End_any (g base N R n l k r m:Nat)(j f d o:Option Addr)(p:Int)(y:OpD)(x:Off)(L C A B D E:Nat->Value)(w:World)(M:w.heap[g]?=some (.cells #[.slice j N n,.slice f N l,.slice d R k] 27 (0,0)))(K:zy w base (.slice j N n) (.slice f N l) (.slice d R k) N N R x L C A B D E)(q:x.bkn=R)(I:x.san=N)(Z:x.ldn=N)(s:base<=w.heap.size)(t:zX w o y.lgn y.lg)(H:zZ o y.lgn r)(F:0<y.lgn->∀ a,o=some a->a.block<base)
  (T:QQ x y m) (hT:Z2 x.san x.sa) (hR:R<=30) (hs:Off.Short x 1048576) (X:∀ i,i<R->Qz x.san x.sa (x.bk i).lgn (x.bk i).lg) :
  Calls Tryz.prog 119 #[.pointer (some ⟨g,0,none⟩),int i64 p,.agg #[int i64 y.kind,.string y.own,int i64 y.name,.slice o y.lgn r,int i64 y.pe,int i64 y.len,int i64 y.hei,int i64 y.cl,.bool y.all,int i64 y.be,int i64 y.unt,int i64 y.now]] w fun e w'=>∃ x2 code name price,zeq x p y m x2 code name price/\zaD g base N n l j f (fun b=>b=g∨(Value.slice d R k).ownBlock=some b) x2 code name price (zbe x y w.heap.size) L C A B D w e w':=by
 obtain⟨G,u⟩:=zgg T.1;have hN:N<=6:=by rw[← I];exact hT.1
 have hk:=T.1.1;have nil:∀ z v,y.kind≠9->v=Value.slice none 0 0->zbe x y w.heap.size z v:=fun z v h e=>⟨fun V=>absurd V h,fun _=>e⟩
 by_cases hnamed:In y.kind 4 8
 ·obtain⟨J,O,_⟩:=T.2.2 hnamed
  rw[q] at O;have n9:y.kind≠9:=by unfold In at hnamed;omega
  have fin:∀ {e w' price},price=zan x (x.bk m) y->zaD g base N n l j f (fun b=>b=g∨(Value.slice d R k).ownBlock=some b) { x with bk:=Zl x.bk m (qg (x.bk m) p y) } 0 y.name price (fun _ v=>v=.slice none 0 0) L C A B D w e w' ->
    ∃ x2 code name price,zeq x p y m x2 code name price/\zaD g base N n l j f (fun b=>b=g∨(Value.slice d R k).ownBlock=some b) x2 code name price (zbe x y w.heap.size) L C A B D w e w':=fun hp h =>
   ⟨_,_,_,_,.inr (.inr (.inr (.inr ⟨hnamed,by rw[q];exact O,rfl,rfl,rfl,hp⟩))),h.mono (fun _ h=>h) (fun v h=>nil _ v n9 h)⟩
  have c:y.kind=4∨y.kind=5∨y.kind=6∨y.kind=7∨y.kind=8:=by unfold In at hnamed;omega
  rcases c with c|c|c|c|c
  ·refine(l7End_4 g base N R n l k r m j f d o p y x L C A B D E w M K q s c G u t H F J O (by omega)).mono (fun e w' h=>fin ?_ h)
   unfold zan;rw[if_pos c]
  ·refine(l7End_5 g base N R n l k r m j f d o p y x L C A B D E w M K q s c G u t H F J O (by omega)).mono (fun e w' h=>fin ?_ h)
   unfold zan;rw[if_neg (by omega),if_pos c]
  ·have W:=X m O
   have P:=(W.2.2 0 (by have:=W.1;omega)).1
   have S:=(hT.2 _ P).1;have U:=T.1.2.2.2.2.2.2;refine(l7End_6 g base N R n l k r m j f d o p y x L C A B D E w M K q s c G u t H F J O (by omega) (zH x.sa ((x.bk m).lg 0) x.san) (by have:=W.1;omega) (by rw[I]) (by rw[I] at P ⊢;exact P) ?_ (by omega)).mono (fun e w' h=>fin ?_ h)
   ·have h1:0<=(x.sa (zH x.sa ((x.bk m).lg 0) x.san)).dep:=S.2.2.2.2.1
    have h2:(x.sa (zH x.sa ((x.bk m).lg 0) x.san)).dep<(x.sa (zH x.sa ((x.bk m).lg 0) x.san)).arr:=S.2.2.2.2.2.1;have h3:(x.sa (zH x.sa ((x.bk m).lg 0) x.san)).arr<=10000:=S.2.2.2.2.2.2.1;unfold zbu In at U
    omega
   ·unfold zan;rw[if_neg (by omega),if_neg (by omega),if_pos c]
  ·refine(l7End_7 g base N R n l k r m j f d o p y x L C A B D E w M K q s c G u t H F J O (by omega)).mono (fun e w' h=>fin ?_ h)
   unfold zan;rw[if_neg (by omega),if_neg (by omega),if_neg (by omega)]
  ·refine(l7End_8 g base N R n l k r m j f d o p y x L C A B D E w M K q s c G u t H F J O (by omega)).mono (fun e w' h=>fin ?_ h)
   unfold zan;rw[if_neg (by omega),if_neg (by omega),if_neg (by omega)]
 ·have c:y.kind=1∨y.kind=2∨y.kind=3∨y.kind=9:=by unfold In at hnamed hk;omega
  rcases c with c|c|c|c
  ·refine(l7End_1 g base N R n l k r j f d o p y x L C A B D E w M K q s c G u t H F).mono (fun e w' h=>?_)
   exact⟨_,_,_,_,.inl ⟨c,rfl,rfl,rfl,rfl⟩,h.mono (fun _ h=>h.elim) (fun v h=>nil _ v (by omega) h)⟩
  ·by_cases h30:R=30
   ·refine(l7End_2f g base N R n l k r j f d o p y x L C A B D E w M K q s c G u t H F h30).mono (fun e w' h=>?_)
    exact⟨_,_,_,_,.inr (.inr (.inl ⟨.inl c,by omega,rfl,rfl,rfl,rfl⟩)),h.mono (fun _ h=>h.elim) (fun v h=>nil _ v (by omega) h)⟩
   ·refine(l7End_2 g base N R n l k r j f d o p y x L C A B D E w M K q s c G u t H F (by omega)).mono (fun e w' h=>?_)
    subst q;exact⟨_,_,_,_,.inr (.inr (.inr (.inl ⟨.inl c,by omega,rfl,rfl,rfl,rfl⟩))),h.mono (fun _ h=>h) (fun v h=>nil _ v (by omega) h)⟩
  ·by_cases h30:R=30
   ·refine(l7End_3f g base N R n l k r j f d o p y x L C A B D E w M K q s c G u t H F h30).mono (fun e w' h=>?_)
    exact⟨_,_,_,_,.inr (.inr (.inl ⟨.inr c,by omega,rfl,rfl,rfl,rfl⟩)),h.mono (fun _ h=>h.elim) (fun v h=>nil _ v (by omega) h)⟩
   ·refine(l7End_3 g base N R n l k r j f d o p y x L C A B D E w M K q s c G u t H F (by omega)).mono (fun e w' h=>?_)
    subst q;exact⟨_,_,_,_,.inr (.inr (.inr (.inl ⟨.inr c,by omega,rfl,rfl,rfl,rfl⟩))),h.mono (fun _ h=>h) (fun v h=>nil _ v (by omega) h)⟩
  ·have Y:0<y.lgn:=by
    have:=T.1.2.2.2.1;unfold zY at this;rw[if_neg (by unfold zO;omega),if_pos c] at this
    omega
   have Q:zH x.sa (y.lg 0) x.san<x.san:=by
    have h1:=zay x.sa (y.lg 0) x.san
    rcases Nat.lt_or_eq_of_le h1 with h|h
    ·exact h
    ·exact absurd (.inr ⟨c,h⟩) T.2.1
   refine(l7End_9 g base N R n l k r j f d o p y x L C A B D E w M K q s c G u t H F (zH x.sa (y.lg 0) x.san) Y (by rw[I]) (by rw[I] at Q ⊢;exact Q) hs I Z (by omega)).mono (fun e w' h=>?_)
   exact⟨_,_,_,_,.inr (.inl ⟨c,rfl,rfl,rfl,rfl⟩),h.mono (fun _ h=>h.elim) (fun v h=>⟨fun _=>⟨_,rfl,Q,h⟩,fun V=>absurd c V⟩)⟩
theorem l7Do_any (g base N R k h f d:Nat)(c b a:Option Addr)(v:Wk)(x:Off)(L C A B D E:Nat->Value)(w:World)(o:w.heap[g]?=some (.cells #[.slice c N h,.slice b N f,.slice a R d] 27 (0,0)))(n:zy w base (.slice c N h) (.slice b N f) (.slice a R d) N N R x L C A B D E)(l:N<=1048576)(m:zH x.sa v.leg N=k)(j:k<N)(i:zV (x.sa k) (x.ld k))(y:v.res<3)(z:v.goes=true->zei (x.ld k) v.res v.who)(F:v.goes=false->In v.p.pe 0 20) :
  Calls Tryz.prog 118 #[.pointer (some ⟨g,0,none⟩),.agg #[int i64 v.leg,int i64 (v.res:Int),.bool v.goes,int i64 v.who,int i64 v.p.pe,int i64 v.p.len,int i64 v.p.hei,int i64 v.p.cl,.bool v.p.all,int i64 v.p.be]] w fun e w'=>zcl g base N R k h f d c b a v x L C E w e w':=by
 obtain⟨leg,res,goes,who,p⟩:=v;have y:res<3:=y
 cases goes with
 | true =>
  have u:=z rfl;obtain rfl|rfl|rfl:res=0∨res=1∨res=2:=by omega
  ·obtain⟨r,q,s,t⟩:=zcL i.stays_one u
   exact l7Do_a g base N R k h f d c b a leg who p x L C A B D E w o n l m j i r q s t
  ·obtain⟨r,q,s,t⟩:=zcL i.rooms_one u
   exact l7Do_b g base N R k h f d c b a leg who p x L C A B D E w o n l m j i r q s t
  ·obtain⟨r,q,s,t⟩:=zcL i.seats_one u
   exact l7Do_c g base N R k h f d c b a leg who p x L C A B D E w o n l m j i r q s t
 | false =>
  obtain rfl|rfl|rfl:res=0∨res=1∨res=2:=by omega
  ·exact l7Do_d g base N R k h f d c b a leg who p x L C A B D E w o n l m j i
  ·obtain⟨pe,len,hei,cl,all,be⟩:=p
   cases all with
   | true=>exact l7Do_e g base N R k h f d c b a leg who pe len hei cl be x L C A B D E w o n l m j i
   | false=>exact l7Do_f g base N R k h f d c b a leg who pe len hei cl be x L C A B D E w o n l m j i
  ·exact l7Do_g g base N R k h f d c b a leg who p x L C A B D E w o n l m j i (F rfl)
theorem zgV {x:Off}{y:OpD}{m:Nat}(h:ZE x.san x.bkn m x y 0)(j:QZ y->In y.kind 4 8->y.name=(m:Int)+1):QQ x y m:=by
 obtain⟨f,g,i,h4⟩:=h;have a:QZ y:=by
  by_cases c:QZ y
  ·exact c
  ·have:=f c;omega
 have d:¬ Qf x.san x y:=fun c=>by have:=g a c;omega
 refine⟨a,d,fun e=>?_⟩
 obtain⟨k,l,n3⟩:=i a d e;have b:m<x.bkn:=by
  by_cases c:x.bkn<=m
  ·have:=k c;omega
  ·omega
 exact⟨j a e,b,fun c=>by have:=l b c;omega⟩
def OpTo (x:Off)(a:Int)(y:OpD)(m:Nat)(b:Off)(code name price:Int):Prop :=
 (code≠0/\b=x/\name=0/\price=0/\ZE x.san x.bkn m x y code) ∨
 (QQ x y m/\code≠0/\b=x/\name=0/\price=0/\∃ j M v k,zbS x (qu x a y m) j M/\(qu x a y m)[j]?=some v/\zH x.sa v.leg x.san=k/\k<x.san/\Zv (x.sa k) v (M k) code (M k)) ∨
 (QQ x y m/\∃ M x3,zbS x (qu x a y m) (qu x a y m).length M/\zeq { x with ld:=M } a y m x3 code name price/\((code≠0∨y.kind=1)->b=x)/\(¬ (code≠0∨y.kind=1)->b=x3))
def OpAns (x:Off)(a:Int)(y:OpD)(m base:Nat)(e:Ending)(w':World):Prop :=
 ∃ x2 a1 c1 a2 c2 a3 c3 code name price rv L C A B D E,e=.returned (.tuple #[.agg #[.slice a1 x2.san c1,.slice a2 x2.ldn c2,.slice a3 x2.bkn c3],.agg #[int i64 code,int i64 name,int i64 price,rv]]) /\
  zy w' base (.slice a1 x2.san c1) (.slice a2 x2.ldn c2) (.slice a3 x2.bkn c3) x2.san x2.ldn x2.bkn x2 L C A B D E/\OpTo x a y m x2 code name price/\(rv=.slice none 0 0∨∃ M b,zbe { x with ld:=M } y b w' rv)
theorem zfx:∀ (l:List Wk)(j:Nat)(v:Wk),l[j]?=some v->∀ r,r<10->(zcP l)[j*10+r]?=(wkC v)[r]?
 | [],j,v,h,_,_=>by simp at h
 | u :: l,0,v,h,r,hr=>by
  have e:u=v:=by simpa using h
  subst e
  show(wkC u++zcP l)[0*10+r]?=_
  rw[List.getElem?_append_left (by show 0*10+r<10;omega),Nat.zero_mul,Nat.zero_add]
 | u :: l,j+1,v,h,r,hr=>by
  have a:l[j]?=some v:=by simpa using h
  show(wkC u++zcP l)[(j+1)*10+r]?=_
  rw[List.getElem?_append_right (by show 10<=(j+1)*10+r;omega)]
  have e:(j+1)*10+r - (wkC u).length=j*10+r:=by show(j+1)*10+r - 10=_;omega
  rw[e];exact zfx l j v a r hr
theorem zeq.size {x:Off}{a:Int}{y:OpD}{m:Nat}{b:Off}{code name price:Int}(h:zeq x a y m b code name price):b.san=x.san/\b.ldn=x.ldn:=by
 rcases h with⟨_,rfl,_⟩|⟨_,rfl,_⟩|⟨_,_,rfl,_⟩|⟨_,_,rfl,_⟩|⟨_,_,rfl,_⟩ <;> exact⟨rfl,rfl⟩
theorem zeq.nine {x:Off}{c:Int}{y:OpD}{m:Nat}{d:Off}{code name price:Int}(h:zeq x c y m d code name price)(hc:code≠0∨y.kind=1):y.kind≠9:=by
 rcases h with⟨a,_,b,_⟩|⟨a,_,b,_⟩|⟨a,_,_,b,_⟩|⟨a,_,_,b,_⟩|⟨a,_,_,b,_⟩ <;> first|omega|(unfold In at a;omega)
theorem zdO {w Z:World}{a c base s t n3:Nat}{h i j v y z u0 u1 u2 u3:Value}{x:Off}{L C A B D E:Nat->Value}(q:Below w.heap.size w Z)(p:zy Z base h i j s t n3 x L C A B D E)(g:Z.heap[a]?=some (.cells #[v,y,z] 27 (0,0)))(f:Z.heap[c]?=some (.cells #[u0,u1,u2,u3] 116 (0,0)))(h1:w.heap.size<=a)(h2:w.heap.size<=c)(l m n o:Value){F:World}
  (u:F=((((((Z.setCell ⟨a,0,none⟩ h).setCell ⟨a,1,none⟩ i).setCell ⟨a,2,none⟩ j).setCell ⟨c,0,none⟩ l).setCell ⟨c,1,none⟩ m).setCell ⟨c,2,none⟩ n).setCell ⟨c,3,none⟩ o) :
  zy F base h i j s t n3 x L C A B D E/\F.heap[a]?=some (.cells #[h,i,j] 27 (0,0))/\F.heap[c]?=some (.cells #[l,m,n,o] 116 (0,0))/\Below w.heap.size w F/\zA Z F (fun b=>b=a∨b=c):=by
 subst u;have k:a≠c:=fun e=>by subst e;rw[g] at f;simp at f
 have k1:=zeR Z a h i j;have d:=k1.blk f (fun e=>k e.symm)
 have k2:=Qv (((Z.setCell ⟨a,0,none⟩ h).setCell ⟨a,1,none⟩ i).setCell ⟨a,2,none⟩ j) c l m n o;have r:=(k1.mono (T:=fun b=>b=a∨b=c) (fun b e=>.inl e)).trans (k2.mono (T:=fun b=>b=a∨b=c) (fun b e=>.inr e))
 exact⟨(p.box k1 g (by decide)).box k2 d (by decide),k2.blk (zbn g h i j) k,zem d _ _ _ _,zA.below q q.size r (fun b e=>by rcases e with e|e <;> omega),r⟩
theorem zfy {x:Off}{y:OpD}{b:Nat}{z c:World}{v:Value}{T:Nat->Prop}(h:zbe x y b z v)(n:zA z c T)(l:∀ g,T g->∃ cs t,z.heap[g]?=some (.cells cs t (0,0))/\45≠t):zbe x y b c v:=by
 refine⟨fun j=>?_,h.2⟩
 obtain⟨k,f,i,a⟩:=h.1 j;exact⟨k,f,i,n.own a (fun g m s=>by obtain⟨cs,t,d,e⟩:=l g s;exact qD a d e g m rfl)⟩
theorem l7Op_any (x:Off)(p n f G:Option Addr)(F t s J m:Nat)(a0:Int)(y:OpD)(w:World)(hs:Off.Short x 1048576)(m5:SailsAt w p x.san x.sa)(l5:Zw w n x.ldn x.ld)(l2:qK w f x.bkn x.bk)(l6:zX w G y.lgn y.lg)(m6:zZ G y.lgn J)(hl:y.lgn<=1048576)(ho:y.own.size<=1048576)(hO:ql x)(hb:In a0 1 9999)(hx:∀ i,i<x.bkn->(x.bk i).who≠a0)(hm:QZ y->In y.kind 4 8->y.name=(m:Int)+1/\m<=1048576) :
  Calls Tryz.prog 98 #[.agg #[.slice p x.san F,.slice n x.ldn t,.slice f x.bkn s],int i64 a0,.agg #[int i64 y.kind,.string y.own,int i64 y.name,.slice G y.lgn J,int i64 y.pe,int i64 y.len,int i64 y.hei,int i64 y.cl,.bool y.all,int i64 y.be,int i64 y.unt,int i64 y.now]] w fun e w'=>OpAns x a0 y m w.heap.size e w'/\Below w.heap.size w w':=by
 have HS:=hI hs;have HM:Hid (SailsAt w p x.san x.sa/\Zw w n x.ldn x.ld/\qK w f x.bkn x.bk/\zX w G y.lgn y.lg/\zZ G y.lgn J):=⟨m5,l5,l2,l6,m6⟩;have HG:Hid (ql x/\In a0 1 9999/\∀ i,i<x.bkn->(x.bk i).who≠a0):=⟨hO,hb,hx⟩;have HN:=hI hm;have p6:x.san<=6:=hO.1.1;have l1:x.bkn<=30:=hO.2.2.1;have e7:=hI hO.2.1;clear hs m5 l5 l2 l6 m6 hO hb hx hm;have q:Below w.heap.size w ((((w.alloc (.cells #[.slice p x.san F,.slice n x.ldn t,.slice f x.bkn s] 27)).alloc (.cells #[int i64 y.kind,.string y.own,int i64 y.name,.slice G y.lgn J,int i64 y.pe,int i64 y.len,int i64 y.hei,int i64 y.cl,.bool y.all,int i64 y.be,int i64 y.unt,int i64 y.now] 120)).alloc (.cells #[.slice none 0 0,.slice none 0 0,.slice none 0 0] 27)).alloc (.cells #[int i64 0,int i64 0,int i64 0,.slice none 0 0] 116)):=zl (zl (zl (zl bZ _) _) _) _;have K:=zc (zc (zc (heap_alloc_new w (.cells #[.slice p x.san F,.slice n x.ldn t,.slice f x.bkn s] 27)) (.cells #[int i64 y.kind,.string y.own,int i64 y.name,.slice G y.lgn J,int i64 y.pe,int i64 y.len,int i64 y.hei,int i64 y.cl,.bool y.all,int i64 y.be,int i64 y.unt,int i64 y.now] 120)) (.cells #[.slice none 0 0,.slice none 0 0,.slice none 0 0] 27)) (.cells #[int i64 0,int i64 0,int i64 0,.slice none 0 0] 116);have b1:=zc (zc (zbZ w (.cells #[.slice p x.san F,.slice n x.ldn t,.slice f x.bkn s] 27) (.cells #[int i64 y.kind,.string y.own,int i64 y.name,.slice G y.lgn J,int i64 y.pe,int i64 y.len,int i64 y.hei,int i64 y.cl,.bool y.all,int i64 y.be,int i64 y.unt,int i64 y.now] 120)) (.cells #[.slice none 0 0,.slice none 0 0,.slice none 0 0] 27)) (.cells #[int i64 0,int i64 0,int i64 0,.slice none 0 0] 116);have b2:=zc (show(((w.alloc (.cells #[.slice p x.san F,.slice n x.ldn t,.slice f x.bkn s] 27)).alloc (.cells #[int i64 y.kind,.string y.own,int i64 y.name,.slice G y.lgn J,int i64 y.pe,int i64 y.len,int i64 y.hei,int i64 y.cl,.bool y.all,int i64 y.be,int i64 y.unt,int i64 y.now] 120)).alloc (.cells #[.slice none 0 0,.slice none 0 0,.slice none 0 0] 27)).heap[w.heap.size+1+1]?=some (.cells #[.slice none 0 0,.slice none 0 0,.slice none 0 0] 27 (0,0)) from by simpa using heap_alloc_new ((w.alloc (.cells #[.slice p x.san F,.slice n x.ldn t,.slice f x.bkn s] 27)).alloc (.cells #[int i64 y.kind,.string y.own,int i64 y.name,.slice G y.lgn J,int i64 y.pe,int i64 y.len,int i64 y.hei,int i64 y.cl,.bool y.all,int i64 y.be,int i64 y.unt,int i64 y.now] 120)) (.cells #[.slice none 0 0,.slice none 0 0,.slice none 0 0] 27)) (.cells #[int i64 0,int i64 0,int i64 0,.slice none 0 0] 116)
 have b3:((((w.alloc (.cells #[.slice p x.san F,.slice n x.ldn t,.slice f x.bkn s] 27)).alloc (.cells #[int i64 y.kind,.string y.own,int i64 y.name,.slice G y.lgn J,int i64 y.pe,int i64 y.len,int i64 y.hei,int i64 y.cl,.bool y.all,int i64 y.be,int i64 y.unt,int i64 y.now] 120)).alloc (.cells #[.slice none 0 0,.slice none 0 0,.slice none 0 0] 27)).alloc (.cells #[int i64 0,int i64 0,int i64 0,.slice none 0 0] 116)).heap[w.heap.size+1+1+1]?=some (.cells #[int i64 0,int i64 0,int i64 0,.slice none 0 0] 116 (0,0)):=by simpa using heap_alloc_new (((w.alloc (.cells #[.slice p x.san F,.slice n x.ldn t,.slice f x.bkn s] 27)).alloc (.cells #[int i64 y.kind,.string y.own,int i64 y.name,.slice G y.lgn J,int i64 y.pe,int i64 y.len,int i64 y.hei,int i64 y.cl,.bool y.all,int i64 y.be,int i64 y.unt,int i64 y.now] 120)).alloc (.cells #[.slice none 0 0,.slice none 0 0,.slice none 0 0] 27)) (.cells #[int i64 0,int i64 0,int i64 0,.slice none 0 0] 116)
 go_enter Tryz.func98,Tryz.ntmps98;go_wp2_with fail;generalize ((((w.alloc (.cells #[.slice p x.san F,.slice n x.ldn t,.slice f x.bkn s] 27)).alloc (.cells #[int i64 y.kind,.string y.own,int i64 y.name,.slice G y.lgn J,int i64 y.pe,int i64 y.len,int i64 y.hei,int i64 y.cl,.bool y.all,int i64 y.be,int i64 y.unt,int i64 y.now] 120)).alloc (.cells #[.slice none 0 0,.slice none 0 0,.slice none 0 0] 27)).alloc (.cells #[int i64 0,int i64 0,int i64 0,.slice none 0 0] 116))=W at q K b1 b2 b3 ⊢;refine(zge p n f G x.san x.ldn x.bkn F t s J m x y _ (by omega) (by omega) hl (by omega) (HM.out.1.below q) (HM.out.2.2.1.below q) ⟨G,J,rfl,HM.out.2.2.2.1.below q,HM.out.2.2.2.2⟩ HN.out).mono ?_
 rintro e V ⟨⟨code,rfl,e6⟩,c9⟩;have j9:=hI e6;clear e6;replace q:=zf q c9;replace K:=zb K c9;replace b1:=zb b1 c9;replace b2:=zb b2 c9;replace b3:=zb b3 c9;clear c9 W;obtain⟨f0,f1,f2⟩:=ce3 K
 by_cases hc:code=0
 case neg =>
  have d1:(code != 0)=true:=by simpa using hc
  have d2:(code == 0)=false:=by simpa using hc
  have HC:=hI hc;clear hc;go_wp2_with fail;refine(QV p n f x.san x.ldn x.bkn F t s x _ rfl rfl rfl HS.out (HM.out.1.below q) (HM.out.2.1.below q) (HM.out.2.2.1.below q)).mono ?_;rintro e V9 ⟨⟨a1,c1,R,S,a3,c3,L9,C9,A9,B9,D9,E9,rfl,U⟩,c0⟩;have e5:=zf q c0;have Q:=zb b2 c0;have N:=zb b3 c0;obtain⟨O,b6,b7,P,_⟩:=zdO e5 (U.lower q.size) Q N (by omega) (by omega) (int i64 code) (int i64 0) (int i64 0) (.slice none 0 0) rfl
  have a9:Hid _:=O;have a8:Hid _:=P;clear O P U;obtain⟨s0,s1,s2⟩:=ce3 Q;obtain⟨f9,g3,g4⟩:=fe3 Q;obtain⟨t0,t1,t2,t3⟩:=ce4 N;obtain⟨g5,g6,g7,g8⟩:=fe4 N;go_wp2;obtain⟨x0,x1,x2⟩:=ce3 b6;obtain⟨z0,z1,z2,z3⟩:=ce4 b7;exact bodyPost_ret (v:=.tuple #[.agg #[.slice a1 x.san c1,.slice R x.ldn S,.slice a3 x.bkn c3],.agg #[int i64 code,int i64 0,int i64 0,.slice none 0 0]]) (by simp[results,Tryz.results98,go_sem,x0,x1,x2,z0,z1,z2,z3]) rfl ⟨⟨x,_,_,_,_,_,_,_,_,_,_,_,_,_,_,_,_,rfl,a9.out,.inl ⟨HC.out,rfl,rfl,rfl,j9.out⟩,.inl rfl⟩,a8.out⟩
 subst hc;have p7:w.heap.size+1+1+1<V.heap.size:=zQ b3;have a6:Hid (QQ x y m):=zgV j9.out (fun h1 T=>(HN.out h1 T).1)
 go_wp2_with fail;refine(QV p n f x.san x.ldn x.bkn F t s x _ rfl rfl rfl HS.out (HM.out.1.below q) (HM.out.2.1.below q) (HM.out.2.2.1.below q)).mono ?_;rintro e V2 ⟨⟨a1,c1,R,S,a3,c3,L,C,A,B,D,E,rfl,U⟩,H⟩;have k7:=hI U;have i0:w.heap.size<=V.heap.size:=q.size;replace q:=zf q H;replace K:=zb K H;replace b1:=zb b1 H;replace b2:=zb b2 H;replace b3:=zb b3 H;have e0:=hI (zQ b3);clear f0 f1 f2 U;have g0:∀ o,(V2.alloc o).cell? ⟨w.heap.size,0,none⟩=some (.slice p x.san F):=fun o=>za (zc K o) 0 _ rfl
 have g1:∀ o,(V2.alloc o).cell? ⟨w.heap.size,1,none⟩=some (.slice n x.ldn t):=fun o=>za (zc K o) 1 _ rfl
 have g2:∀ o,(V2.alloc o).cell? ⟨w.heap.size,2,none⟩=some (.slice f x.bkn s):=fun o=>za (zc K o) 2 _ rfl
 have h0:∀ o,(V2.alloc o).cell? ⟨w.heap.size+1,0,none⟩=some (int i64 y.kind):=fun o=>za (zc b1 o) 0 _ rfl
 have h1:∀ o,(V2.alloc o).cell? ⟨w.heap.size+1,1,none⟩=some (.string y.own):=fun o=>za (zc b1 o) 1 _ rfl
 have T:∀ o,(V2.alloc o).cell? ⟨w.heap.size+1,2,none⟩=some (int i64 y.name):=fun o=>za (zc b1 o) 2 _ rfl
 have h3:∀ o,(V2.alloc o).cell? ⟨w.heap.size+1,3,none⟩=some (.slice G y.lgn J):=fun o=>za (zc b1 o) 3 _ rfl
 have h4:∀ o,(V2.alloc o).cell? ⟨w.heap.size+1,4,none⟩=some (int i64 y.pe):=fun o=>za (zc b1 o) 4 _ rfl
 have h5:∀ o,(V2.alloc o).cell? ⟨w.heap.size+1,5,none⟩=some (int i64 y.len):=fun o=>za (zc b1 o) 5 _ rfl
 have h6:∀ o,(V2.alloc o).cell? ⟨w.heap.size+1,6,none⟩=some (int i64 y.hei):=fun o=>za (zc b1 o) 6 _ rfl
 have h7:∀ o,(V2.alloc o).cell? ⟨w.heap.size+1,7,none⟩=some (int i64 y.cl):=fun o=>za (zc b1 o) 7 _ rfl
 have h8:∀ o,(V2.alloc o).cell? ⟨w.heap.size+1,8,none⟩=some (.bool y.all):=fun o=>za (zc b1 o) 8 _ rfl
 have h9:∀ o,(V2.alloc o).cell? ⟨w.heap.size+1,9,none⟩=some (int i64 y.be):=fun o=>za (zc b1 o) 9 _ rfl
 have j4:∀ o,(V2.alloc o).cell? ⟨w.heap.size+1,10,none⟩=some (int i64 y.unt):=fun o=>za (zc b1 o) 10 _ rfl
 have j5:∀ o,(V2.alloc o).cell? ⟨w.heap.size+1,11,none⟩=some (int i64 y.now):=fun o=>za (zc b1 o) 11 _ rfl
 go_wp2_with fail;have bQ:=heap_alloc_new V2 (.cells #[.slice a1 x.san c1,.slice R x.ldn S,.slice a3 x.bkn c3] 27);have i3:V.heap.size<=V2.heap.size:=H.size;have j0:Hid (zy (V2.alloc (.cells #[.slice a1 x.san c1,.slice R x.ldn S,.slice a3 x.bkn c3] 27)) V.heap.size (.slice a1 x.san c1) (.slice R x.ldn S) (.slice a3 x.bkn c3) x.san x.ldn x.bkn x L C A B D E):=k7.out.below (zl bZ _);replace q:=zl q (.cells #[.slice a1 x.san c1,.slice R x.ldn S,.slice a3 x.bkn c3] 27);replace K:=zc K (.cells #[.slice a1 x.san c1,.slice R x.ldn S,.slice a3 x.bkn c3] 27);replace b1:=zc b1 (.cells #[.slice a1 x.san c1,.slice R x.ldn S,.slice a3 x.bkn c3] 27);replace b2:=zc b2 (.cells #[.slice a1 x.san c1,.slice R x.ldn S,.slice a3 x.bkn c3] 27);replace b3:=zc b3 (.cells #[.slice a1 x.san c1,.slice R x.ldn S,.slice a3 x.bkn c3] 27);have o8:w.heap.size+1+1+1<V2.heap.size:=e0.out;generalize V2.alloc (.cells #[.slice a1 x.san c1,.slice R x.ldn S,.slice a3 x.bkn c3] 27)=X at bQ j0 q K b1 b2 b3 ⊢;have c4:=zQ bQ;generalize V2.heap.size=qb at bQ i3 o8 c4 ⊢;have m0:=hI c4;clear c4;clear e0 g0 g1 g2 h0 h1 T h3 h4 h5 h6 h7 h8 h9 j4 j5 k7 H V2;refine(zfX p n f G x.san x.ldn x.bkn F t s J m x y a0 _ (by omega) HS.out.2.2.2 hl (HM.out.2.2.1.below q) (HM.out.2.2.2.1.below q) (fun hk=>⟨(a6.out.2.2 (zal hk)).1,(a6.out.2.2 (zal hk)).2.1⟩)).mono ?_
 rintro e Y ⟨v,rfl,f8,b5⟩;have e9:=hI (works_fit HG.out.1 a6.out HG.out.2.1 HG.out.2.2);obtain⟨l,f4⟩:∃ l,l=qu x a0 y m:=⟨_,rfl⟩;rw[← f4] at f8 e9;have HL:=hI f4;have q5:l.length<=1000:=by
  rw[f4];unfold qu;have q1:=zgg a6.out.1;have q2:=QB true (x.bk m).who ⟨(x.bk m).pe,(x.bk m).len,(x.bk m).hei,(x.bk m).cl,(x.bk m).all,(x.bk m).be⟩ (x.bk m).lg (x.bk m).lgn;have q3:=QB false a0 ⟨y.pe,y.len,y.hei,y.cl,y.all,y.be⟩ y.lg y.lgn;have q4:QM y.kind->(x.bk m).lgn<=3:=fun hk=>(HG.out.1.2.2.2.2.1 m (a6.out.2.2 (zal hk)).2.1).2.2.2.1.2.1
  rw[List.length_append];have p1:(if QM y.kind then qJ true (x.bk m).who ⟨(x.bk m).pe,(x.bk m).len,(x.bk m).hei,(x.bk m).cl,(x.bk m).all,(x.bk m).be⟩ (x.bk m).lg (x.bk m).lgn else []).length<=9:=by
   by_cases c:QM y.kind
   ·rw[if_pos c];have:=q4 c;omega
   ·rw[if_neg c];decide
  have p2:(if zO y.kind then qJ false a0 ⟨y.pe,y.len,y.hei,y.cl,y.all,y.be⟩ y.lg y.lgn else []).length<=9:=by
   by_cases c:zO y.kind
   ·rw[if_pos c];omega
   ·rw[if_neg c];decide
  omega
 clear f4;obtain⟨aw,cw,rfl,w1,w2,w3⟩:=zr f8;have k9:=hI f8;have e8:=hI (j0.out.below b5);have m8:X.heap.size<=Y.heap.size:=b5.size;replace q:=zf q b5;replace K:=zb K b5;replace b1:=zb b1 b5;replace b2:=zb b2 b5;replace b3:=zb b3 b5;replace bQ:=zb bQ b5;have p3:qb<X.heap.size:=m0.out;clear f8 b5 w1 w2 w3 j0;rw[e7.out] at e8 bQ ⊢;have g9:Hid (∀ wr,zA Y wr (fun b=>(Value.slice R x.san S).ownBlock=some b)->Below w.heap.size w wr/\wr.heap[w.heap.size]?=some (.cells #[.slice p x.san F,.slice n x.ldn t,.slice f x.bkn s] 27 (0,0))/\wr.heap[w.heap.size+1]?=some (.cells #[int i64 y.kind,.string y.own,int i64 y.name,.slice G y.lgn J,int i64 y.pe,int i64 y.len,int i64 y.hei,int i64 y.cl,.bool y.all,int i64 y.be,int i64 y.unt,int i64 y.now] 120 (0,0))/\wr.heap[w.heap.size+1+1]?=some (.cells #[.slice none 0 0,.slice none 0 0,.slice none 0 0] 27 (0,0))/\wr.heap[w.heap.size+1+1+1]?=some (.cells #[int i64 0,int i64 0,int i64 0,.slice none 0 0] 116 (0,0))/\wr.ownsRow X.heap.size 169 10 (.slice aw l.length cw) l.length (zcP l)):=fun wr hk=>by
  have I:∀ b,(Value.slice R x.san S).ownBlock=some b->V.heap.size<=b:=fun b e=>(e8.out.ld.row.lt b e).1
  exact⟨zA.below q q.size hk (fun b e=>Nat.le_trans i0 (I b e)),hk.blk K (fun e=>by have:=I _ e;omega),hk.blk b1 (fun e=>by have:=I _ e;omega),hk.blk b2 (fun e=>by have:=I _ e;omega),hk.blk b3 (fun e=>by have:=I _ e;omega),hk.own k9.out (fun g h1 T=>own_apart e8.out.ld.row k9.out (by decide) g T h1)⟩
 go_wp2;go_loopw [11,12,30] (fun _ _ i wr=>∃ (j:Nat) (M:Nat->qm) (A B D:Nat->Value),j<=l.length/\i=int i64 j/\Hid (zbS x l j M)/\Hid (zy wr V.heap.size (.slice a1 x.san c1) (.slice R x.san S) (.slice a3 x.bkn c3) x.san x.san x.bkn { x with ld:=M } L C A B D E)/\Hid (wr.heap[qb]?=some (.cells #[.slice a1 x.san c1,.slice R x.san S,.slice a3 x.bkn c3] 27 (0,0)))/\Hid (zA Y wr (fun b=>(Value.slice R x.san S).ownBlock=some b))) (fun _ _ i _=>l.length - (intOf i).toNat)
 case atStart=>exact⟨0,x.ld,_,_,_,Nat.zero_le _,rfl,zbS.start HG.out.1 (fun v hv=>(e9.out.2 v hv).1),e8.out,bQ,zA.refl _ _⟩
 case round =>
  clear K b1 b2 b3 bQ q;obtain⟨j,M,A,B,D,hj,rfl,a7,i9,j8,i7⟩:=hrel;obtain⟨d,K,b1,b2,b3,j6⟩:=g9.out wr i7.out
  by_cases hlt:j<l.length
  ·obtain⟨v,hv⟩:∃ v,l[j]?=some v:=⟨l[j],List.getElem?_eq_getElem hlt⟩
   have HV:=hI hv;have d6:Hid (WkOk x v):=(e9.out.2 v (List.mem_of_getElem? hv)).2;obtain⟨gw,rfl,_,p8⟩:=own_addr j6 (by omega)
   have a5:Hid (∀ r u,r<10->(wkC v)[r]?=some u->wr.cell? ⟨gw,j*10+r,none⟩=some u):=fun r u hr hu=>by
    rw[j6.cellAt (j*10+r) (by omega),zfx l j v HV.out r hr]
    exact hu
   have n8:wr.cell? ⟨gw,j*10,none⟩=some (int i64 v.leg):=a5.out 0 _ (by decide) rfl
   have n9:=a5.out 1 _ (by decide) rfl
   have o0:=a5.out 2 _ (by decide) rfl
   have o1:=a5.out 3 _ (by decide) rfl
   have o2:=a5.out 4 _ (by decide) rfl
   have o3:=a5.out 5 _ (by decide) rfl
   have o4:=a5.out 6 _ (by decide) rfl
   have o5:=a5.out 7 _ (by decide) rfl
   have o6:=a5.out 8 _ (by decide) rfl
   have o7:=a5.out 9 _ (by decide) rfl
   clear hv j6;obtain⟨k,hk⟩:∃ k,zH x.sa v.leg x.san=k:=⟨_,rfl⟩;have HK:=hI hk;have b9:Hid (k<x.san):=by have h:=d6.out.2.1;rw[hk] at h;exact h
   clear hk;have i1:(0:Int)<=(j:Int):=by omega
   have i2:(j:Int)<(l.length:Int):=by omega
   go_wp2_with fail;have f5:Below wr.heap.size wr (wr.alloc (.cells #[int i64 v.leg,int i64 (v.res:Int),.bool v.goes,int i64 v.who,int i64 v.p.pe,int i64 v.p.len,int i64 v.p.hei,int i64 v.p.cl,.bool v.p.all,int i64 v.p.be] 169)):=zl bZ _;have k5:=hI (i9.out.below f5);have j7:Hid ((wr.alloc (.cells #[int i64 v.leg,int i64 (v.res:Int),.bool v.goes,int i64 v.who,int i64 v.p.pe,int i64 v.p.len,int i64 v.p.hei,int i64 v.p.cl,.bool v.p.all,int i64 v.p.be] 169)).heap[qb]?=some (.cells #[.slice a1 x.san c1,.slice R x.san S,.slice a3 x.bkn c3] 27 (0,0))):=zc j8.out _;have k0:=hI (i7.out.trans (zA.of_below f5));generalize wr.alloc (.cells #[int i64 v.leg,int i64 (v.res:Int),.bool v.goes,int i64 v.who,int i64 v.p.pe,int i64 v.p.len,int i64 v.p.hei,int i64 v.p.cl,.bool v.p.all,int i64 v.p.be] 169)=wa at f5 k5 j7 k0 ⊢;clear n8 n9 o0 o1 o2 o3 o4 o5 o6 o7 K b1 b2 b3 d f5;refine(l7Do_any qb V.heap.size x.san x.bkn k c1 S c3 a1 R a3 v { x with ld:=M } L C A B D E wa j7.out k5.out (by omega) HK.out b9.out (a7.out.good k b9.out) d6.out.1 (fun hg=>a7.out.there HV.out HK.out b9.out hg) (fun hg=>by have h:=(d6.out.2.2 hg).2.1.1;unfold In at h ⊢;omega)).mono ?_
   rintro e wd ⟨code,z,A',B',D',rfl,m9,l7,l9,l4⟩;have j1:=hI m9;have n5:=hI l7;have n6:Hid _:=l9;have k4:=hI (k0.out.trans l4);clear m9 l7 l9 l4
   by_cases hc:code=0
   ·subst hc
    go_wp2;go_roundw
    case rel=>exact⟨j+1,zcs M k z,A',B',D',by omega,by go_num,a7.out.next e9.out.1 HV.out HK.out b9.out d6.out j1.out,n5.out,n6.out,k4.out⟩
    case measure=>simp[intOf];omega
   ·have d1:(code != 0)=true:=by simpa using hc
    have d2:(code == 0)=false:=by simpa using hc
    have HC:=hI hc;clear hc;obtain⟨d,K,b1,b2,b3,_⟩:=g9.out wd k4.out;have n0:z=M k:=by
     rcases j1.out.on (a7.out.good k b9.out) (a7.out.comes HV.out HK.out b9.out d6.out) with⟨h,_⟩|⟨_,h⟩
     ·exact absurd h HC.out
     ·exact h
    have n7:Hid (Zv (x.sa k) v (M k) code (M k)):=by have h:=j1.out;rw[n0] at h;exact h
    clear n0;obtain⟨f0,f1,f2⟩:=ce3 K;go_wp2_with fail;refine(QV p n f x.san x.ldn x.bkn F t s x _ rfl rfl rfl HS.out (HM.out.1.below d) (HM.out.2.1.below d) (HM.out.2.2.1.below d)).mono ?_;rintro e V9 ⟨⟨a1,c1,R,S,a3,c3,L9,C9,A9,B9,D9,E9,rfl,U⟩,c0⟩;have e5:=zf d c0;have Q:=zb b2 c0;have N:=zb b3 c0;obtain⟨O,b6,b7,P,_⟩:=zdO e5 (U.lower d.size) Q N (by omega) (by omega) (int i64 code) (int i64 0) (int i64 0) (.slice none 0 0) rfl
    have a9:Hid _:=O;have a8:Hid _:=P;clear O P U;obtain⟨s0,s1,s2⟩:=ce3 Q;obtain⟨f9,g3,g4⟩:=fe3 Q;obtain⟨t0,t1,t2,t3⟩:=ce4 N;obtain⟨g5,g6,g7,g8⟩:=fe4 N;go_wp2;obtain⟨x0,x1,x2⟩:=ce3 b6;obtain⟨z0,z1,z2,z3⟩:=ce4 b7;exact bodyPost_ret (v:=.tuple #[.agg #[.slice a1 x.san c1,.slice R x.ldn S,.slice a3 x.bkn c3],.agg #[int i64 code,int i64 0,int i64 0,.slice none 0 0]]) (by simp[results,Tryz.results98,go_sem,x0,x1,x2,z0,z1,z2,z3]) rfl ⟨⟨x,_,_,_,_,_,_,_,_,_,_,_,_,_,_,_,_,rfl,a9.out,.inr (.inl ⟨a6.out,HC.out,rfl,rfl,rfl,j,M,v,k,by rw[← HL.out];exact a7.out,by rw[← HL.out];exact HV.out,HK.out,b9.out,n7.out⟩),.inl rfl⟩,a8.out⟩
  ·obtain rfl:j=l.length:=by omega
   obtain⟨h0,h1,T,h3,h4,h5,h6,h7,h8,h9,j4,j5⟩:=ce12 b1;go_wp2_with fail;refine(l7End_any qb V.heap.size x.san x.bkn c1 S c3 J m a1 R a3 G a0 y { x with ld:=M } L C A B D E wr j8.out i9.out rfl rfl e7.out (Nat.le_trans (Nat.le_trans i3 (Nat.le_of_lt (Nat.lt_of_lt_of_le p3 m8))) i7.out.size) (HM.out.2.2.2.1.below d) HM.out.2.2.2.2 (fun h0 a ea=>by obtain⟨b',p5,e',o9⟩:=HM.out.2.2.2.1 0 h0;rw[ea] at e';cases e';have h1:=World.block_lt_of_cell? w _ o9;have T:b'<w.heap.size:=h1;show b'<V.heap.size;omega) a6.out HG.out.1.1 l1 ⟨HS.out.1,⟨HS.out.2.1.1,fun i hi=>by have h:=a7.out.good i (by have:=e7.out;have h9:i<x.ldn:=hi;omega);exact⟨by have:=((Zd _ _ _).1 h.1).2.1;show(M i).stn<=_;omega,by have:=h.2.1.2.1;show(M i).ron<=_;omega,by have:=h.2.2.2.1;show(M i).sen<=_;omega⟩⟩,HS.out.2.2⟩ (fun i hi=>(HG.out.1.2.2.2.2.1 i hi).2.2.2.1)).mono ?_
   rintro e we ⟨x3,code,name,price,l3,d7,d8,rv,E',rfl,f7,l8,f6,d0⟩;obtain⟨ra,rn,rc,rfl⟩:∃ ra rn rc,rv=.slice ra rn rc:=by
    by_cases h9:y.kind=9
    ·obtain⟨_,_,_,h3⟩:=f7.1 h9
     obtain⟨ao,c,e,_⟩:=zr h3;exact⟨ao,_,c,e⟩
    ·exact⟨none,0,0,f7.2 h9⟩
   have c5:=hI l3;have k8:=hI f7;have i8:=hI l8;have I:∀ b,b=qb∨(Value.slice a3 x.bkn c3).ownBlock=some b->V.heap.size<=b:=fun b e=>by
    rcases e with e|e
    ·omega
    ·exact(i9.out.bk.row.lt b e).1
   replace K:=d0.blk K (fun e=>by have:=I _ e;omega)
   replace b1:=d0.blk b1 (fun e=>by have:=I _ e;omega)
   replace b2:=d0.blk b2 (fun e=>by have:=I _ e;omega)
   replace b3:=d0.blk b3 (fun e=>by have:=I _ e;omega)
   replace d:=zA.below d d.size d0 (fun b e=>by have:=I _ e;omega)
   clear h0 h1 T h3 h4 h5 h6 h7 h8 h9 j4 j5 l3 f7 l8 d0 I;have p9:∀ o,(we.alloc o).cell? ⟨w.heap.size+1,0,none⟩=some (int i64 y.kind):=fun o=>za (zc b1 o) 0 _ rfl
   by_cases hc:code=0/\y.kind≠1
   case neg =>
    have HC:Hid (code≠0∨y.kind=1):=by
     by_cases h:code=0
     ·exact .inr (by by_cases T:y.kind=1;exact T;exact absurd ⟨h,T⟩ hc)
     ·exact .inl h
    have p4:=k8.out.2 (c5.out.nine HC.out)
    cases p4
    clear hc
    by_cases hc:code=0
    ·have hk:y.kind=1:=by rcases HC.out with h|h;exact absurd hc h;exact h
     subst hc;have d1:(y.kind == 1)=true:=by simpa using hk
     have q0:=hk;clear hk;have bT:=heap_alloc_new we (.cells #[int i64 0,int i64 name,int i64 price,.slice none 0 0] 116);have d9:w.heap.size+1+1+1<we.heap.size:=zQ b3;go_upto_region 14 with fail;replace K:=zc K (.cells #[int i64 0,int i64 name,int i64 price,.slice none 0 0] 116);have j2:=b2;have j3:=b3;replace b2:=zc b2 (.cells #[int i64 0,int i64 name,int i64 price,.slice none 0 0] 116);replace b3:=zc b3 (.cells #[int i64 0,int i64 name,int i64 price,.slice none 0 0] 116);replace d:=zl d (.cells #[int i64 0,int i64 name,int i64 price,.slice none 0 0] 116);have d5:=zc f6 (.cells #[int i64 0,int i64 name,int i64 price,.slice none 0 0] 116);have c6:Hid _:=i8.out.below (zl bZ (.cells #[int i64 0,int i64 name,int i64 price,.slice none 0 0] 116));have c7:Hid (zA we (we.alloc (.cells #[int i64 0,int i64 name,int i64 price,.slice none 0 0] 116)) (fun b=>b=w.heap.size+1+1∨b=w.heap.size+1+1+1)):=zA.of_below (zl bZ _)
     generalize we.alloc (.cells #[int i64 0,int i64 name,int i64 price,.slice none 0 0] 116)=wf at bT K b2 b3 d d5 c6 c7 ⊢;generalize we.heap.size=tb at bT d9 ⊢;have p0:=K;have pT:=bT;have KS:Hid (∀ z:World,z.heap[w.heap.size]?=some (.cells #[.slice p x.san F,.slice n x.ldn t,.slice f x.bkn s] 27 (0,0))->z.heap[tb]?=some (.cells #[int i64 0,int i64 name,int i64 price,.slice none 0 0] 116 (0,0))->z.cell? ⟨w.heap.size,0,none⟩=some (.slice p x.san F)/\z.cell? ⟨w.heap.size,1,none⟩=some (.slice n x.ldn t)/\z.cell? ⟨w.heap.size,2,none⟩=some (.slice f x.bkn s)/\z.cell? ⟨tb,0,none⟩=some (int i64 0)/\z.cell? ⟨tb,1,none⟩=some (int i64 name)/\z.cell? ⟨tb,2,none⟩=some (int i64 price)/\z.cell? ⟨tb,3,none⟩=some (.slice none 0 0)):=fun z h1 T=>⟨za h1 0 _ rfl,za h1 1 _ rfl,za h1 2 _ rfl,za T 0 _ rfl,za T 1 _ rfl,za T 2 _ rfl,za T 3 _ rfl⟩
     have i5:Hid (∀ Z,Below wf.heap.size wf Z->Calls Tryz.prog 94 #[.agg #[.slice p x.san F,.slice n x.ldn t,.slice f x.bkn s]] Z fun e u=>(∃ d1 e1 d2 e2 d3 e3 L C A B D E,e=.returned (.agg #[.slice d1 x.san e1,.slice d2 x.ldn e2,.slice d3 x.bkn e3])/\Hid (zy u w.heap.size (.slice d1 x.san e1) (.slice d2 x.ldn e2) (.slice d3 x.bkn e3) x.san x.ldn x.bkn x L C A B D E))/\Below wf.heap.size wf u):=fun Z hZ=>by
      refine(QV p n f x.san x.ldn x.bkn F t s x Z rfl rfl rfl HS.out (HM.out.1.below (zf d hZ)) (HM.out.2.1.below (zf d hZ)) (HM.out.2.2.1.below (zf d hZ))).mono ?_;rintro e u ⟨⟨d1,e1,d2,e2,d3,e3,L',C',A',B',D',E',rfl,h⟩,hb⟩;exact⟨⟨d1,e1,d2,e2,d3,e3,L',C',A',B',D',E',rfl,h.lower (zf d hZ).size⟩,zf hZ hb⟩
     go_region_held3 (fun w'=>w'.cell? ⟨w.heap.size,0,none⟩=some (.slice p x.san F)/\w'.cell? ⟨w.heap.size,1,none⟩=some (.slice n x.ldn t)/\w'.cell? ⟨w.heap.size,2,none⟩=some (.slice f x.bkn s)/\w'.cell? ⟨tb,0,none⟩=some (int i64 0)/\w'.cell? ⟨tb,1,none⟩=some (int i64 name)/\w'.cell? ⟨tb,2,none⟩=some (int i64 price)/\w'.cell? ⟨tb,3,none⟩=some (.slice none 0 0))
      (first|(refine KS.out _ ?_ ?_ <;> (repeat(first|with_reducible exact p0|with_reducible exact pT|(with_reducible refine zE ?_)|(with_reducible refine zB ?_ _ _ ?_;rotate_left;(focus omega))))))
      (first
       | (go_simp;go_at_call 94;(with_reducible refine Calls.mono (i5.out _ ?_) ?_);(focus(repeat(first | exact bZ | refine Below.drew ?_ | refine zl ?_ _)));rintro e u2 ⟨⟨d1,e1,d2,e2,d3,e3,L9,C9,A9,B9,D9,E9,rfl,U⟩,H⟩;have i4:=hI H;replace p0:=zb p0 H;replace pT:=zb pT H;have Q:=zb b2 H;have N:=zb b3 H;have s0:=za Q 0 _ rfl;have f9:=ze Q 0;have s1:=za Q 1 _ rfl;have g3:=ze Q 1;have s2:=za Q 2 _ rfl;have g4:=ze Q 2;have t0:=za N 0 _ rfl;have g5:=ze N 0;have t1:=za N 1 _ rfl;have g6:=ze N 1;have t2:=za N 2 _ rfl;have g7:=ze N 2;have t3:=za N 3 _ rfl;have g8:=ze N 3;dsimp only))
     ·have e4:=zf d i4.out
      obtain⟨O,b6,b7,P,b8⟩:=zdO e4 U.out Q N (by omega) (by omega) (int i64 0) (int i64 name) (int i64 price) (.slice none 0 0) rfl
      have a9:Hid _:=O;have a8:Hid _:=P;have i6:Hid _:=b8;clear O P b8;obtain⟨x0,x1,x2⟩:=ce3 b6;obtain⟨z0,z1,z2,z3⟩:=ce4 b7;go_wp2;exact bodyPost_ret (v:=.tuple #[.agg #[.slice d1 x.san e1,.slice d2 x.ldn e2,.slice d3 x.bkn e3],.agg #[int i64 0,int i64 name,int i64 price,.slice none 0 0]]) (by simp[results,Tryz.results98,go_sem,x0,x1,x2,z0,z1,z2,z3]) rfl ⟨⟨x,_,_,_,_,_,_,_,_,_,_,_,_,_,_,_,_,rfl,a9.out,.inr (.inr ⟨a6.out,M,x3,by rw[← HL.out];exact a7.out,c5.out,fun _=>rfl,fun h=>absurd HC.out h⟩),.inl rfl⟩,a8.out⟩
    ·have d1:(code != 0)=true:=by simpa using hc
     have d2:(code == 0)=false:=by simpa using hc
     clear hc;have bT:=heap_alloc_new we (.cells #[int i64 code,int i64 name,int i64 price,.slice none 0 0] 116);have d9:w.heap.size+1+1+1<we.heap.size:=zQ b3;go_upto_region 14 with fail;replace K:=zc K (.cells #[int i64 code,int i64 name,int i64 price,.slice none 0 0] 116);have j2:=b2;have j3:=b3;replace b2:=zc b2 (.cells #[int i64 code,int i64 name,int i64 price,.slice none 0 0] 116);replace b3:=zc b3 (.cells #[int i64 code,int i64 name,int i64 price,.slice none 0 0] 116);replace d:=zl d (.cells #[int i64 code,int i64 name,int i64 price,.slice none 0 0] 116);have d5:=zc f6 (.cells #[int i64 code,int i64 name,int i64 price,.slice none 0 0] 116);have c6:Hid _:=i8.out.below (zl bZ (.cells #[int i64 code,int i64 name,int i64 price,.slice none 0 0] 116));have c7:Hid (zA we (we.alloc (.cells #[int i64 code,int i64 name,int i64 price,.slice none 0 0] 116)) (fun b=>b=w.heap.size+1+1∨b=w.heap.size+1+1+1)):=zA.of_below (zl bZ _)
     generalize we.alloc (.cells #[int i64 code,int i64 name,int i64 price,.slice none 0 0] 116)=wf at bT K b2 b3 d d5 c6 c7 ⊢;generalize we.heap.size=tb at bT d9 ⊢;have p0:=K;have pT:=bT;have KS:Hid (∀ z:World,z.heap[w.heap.size]?=some (.cells #[.slice p x.san F,.slice n x.ldn t,.slice f x.bkn s] 27 (0,0))->z.heap[tb]?=some (.cells #[int i64 code,int i64 name,int i64 price,.slice none 0 0] 116 (0,0))->z.cell? ⟨w.heap.size,0,none⟩=some (.slice p x.san F)/\z.cell? ⟨w.heap.size,1,none⟩=some (.slice n x.ldn t)/\z.cell? ⟨w.heap.size,2,none⟩=some (.slice f x.bkn s)/\z.cell? ⟨tb,0,none⟩=some (int i64 code)/\z.cell? ⟨tb,1,none⟩=some (int i64 name)/\z.cell? ⟨tb,2,none⟩=some (int i64 price)/\z.cell? ⟨tb,3,none⟩=some (.slice none 0 0)):=fun z h1 T=>⟨za h1 0 _ rfl,za h1 1 _ rfl,za h1 2 _ rfl,za T 0 _ rfl,za T 1 _ rfl,za T 2 _ rfl,za T 3 _ rfl⟩
     have i5:Hid (∀ Z,Below wf.heap.size wf Z->Calls Tryz.prog 94 #[.agg #[.slice p x.san F,.slice n x.ldn t,.slice f x.bkn s]] Z fun e u=>(∃ d1 e1 d2 e2 d3 e3 L C A B D E,e=.returned (.agg #[.slice d1 x.san e1,.slice d2 x.ldn e2,.slice d3 x.bkn e3])/\Hid (zy u w.heap.size (.slice d1 x.san e1) (.slice d2 x.ldn e2) (.slice d3 x.bkn e3) x.san x.ldn x.bkn x L C A B D E))/\Below wf.heap.size wf u):=fun Z hZ=>by
      refine(QV p n f x.san x.ldn x.bkn F t s x Z rfl rfl rfl HS.out (HM.out.1.below (zf d hZ)) (HM.out.2.1.below (zf d hZ)) (HM.out.2.2.1.below (zf d hZ))).mono ?_;rintro e u ⟨⟨d1,e1,d2,e2,d3,e3,L',C',A',B',D',E',rfl,h⟩,hb⟩;exact⟨⟨d1,e1,d2,e2,d3,e3,L',C',A',B',D',E',rfl,h.lower (zf d hZ).size⟩,zf hZ hb⟩
     go_region_held3 (fun w'=>w'.cell? ⟨w.heap.size,0,none⟩=some (.slice p x.san F)/\w'.cell? ⟨w.heap.size,1,none⟩=some (.slice n x.ldn t)/\w'.cell? ⟨w.heap.size,2,none⟩=some (.slice f x.bkn s)/\w'.cell? ⟨tb,0,none⟩=some (int i64 code)/\w'.cell? ⟨tb,1,none⟩=some (int i64 name)/\w'.cell? ⟨tb,2,none⟩=some (int i64 price)/\w'.cell? ⟨tb,3,none⟩=some (.slice none 0 0))
      (first|(refine KS.out _ ?_ ?_ <;> (repeat(first|with_reducible exact p0|with_reducible exact pT|(with_reducible refine zE ?_)|(with_reducible refine zB ?_ _ _ ?_;rotate_left;(focus omega))))))
      (first
       | (go_simp;go_at_call 94;(with_reducible refine Calls.mono (i5.out _ ?_) ?_);(focus(repeat(first | exact bZ | refine Below.drew ?_ | refine zl ?_ _)));rintro e u2 ⟨⟨d1,e1,d2,e2,d3,e3,L9,C9,A9,B9,D9,E9,rfl,U⟩,H⟩;have i4:=hI H;replace p0:=zb p0 H;replace pT:=zb pT H;have Q:=zb b2 H;have N:=zb b3 H;have s0:=za Q 0 _ rfl;have f9:=ze Q 0;have s1:=za Q 1 _ rfl;have g3:=ze Q 1;have s2:=za Q 2 _ rfl;have g4:=ze Q 2;have t0:=za N 0 _ rfl;have g5:=ze N 0;have t1:=za N 1 _ rfl;have g6:=ze N 1;have t2:=za N 2 _ rfl;have g7:=ze N 2;have t3:=za N 3 _ rfl;have g8:=ze N 3;dsimp only))
     ·have e4:=zf d i4.out
      obtain⟨O,b6,b7,P,b8⟩:=zdO e4 U.out Q N (by omega) (by omega) (int i64 code) (int i64 name) (int i64 price) (.slice none 0 0) rfl
      have a9:Hid _:=O;have a8:Hid _:=P;have i6:Hid _:=b8;clear O P b8;obtain⟨x0,x1,x2⟩:=ce3 b6;obtain⟨z0,z1,z2,z3⟩:=ce4 b7;go_wp2;exact bodyPost_ret (v:=.tuple #[.agg #[.slice d1 x.san e1,.slice d2 x.ldn e2,.slice d3 x.bkn e3],.agg #[int i64 code,int i64 name,int i64 price,.slice none 0 0]]) (by simp[results,Tryz.results98,go_sem,x0,x1,x2,z0,z1,z2,z3]) rfl ⟨⟨x,_,_,_,_,_,_,_,_,_,_,_,_,_,_,_,_,rfl,a9.out,.inr (.inr ⟨a6.out,M,x3,by rw[← HL.out];exact a7.out,c5.out,fun _=>rfl,fun h=>absurd HC.out h⟩),.inl rfl⟩,a8.out⟩
   obtain⟨hc,hk⟩:=hc;subst hc;have d1:(y.kind == 1)=false:=by simpa using hk
   have n4:=hI hk;clear hk;have m7:x3.san=x.san/\x3.ldn=x.san:=⟨c5.out.size.1,c5.out.size.2.trans e7.out⟩;obtain⟨q7,n2,q6,n1,c8,l0⟩:=x3;obtain⟨e1,e2⟩:=m7;dsimp only at e1 e2 f6;subst e1;subst e2;have k6:=hI i8.out;have bT:=heap_alloc_new we (.cells #[int i64 0,int i64 name,int i64 price,.slice ra rn rc] 116);have d9:w.heap.size+1+1+1<we.heap.size:=zQ b3;go_upto_region 15 with fail;replace K:=zc K (.cells #[int i64 0,int i64 name,int i64 price,.slice ra rn rc] 116);have j2:=b2;have j3:=b3;replace b2:=zc b2 (.cells #[int i64 0,int i64 name,int i64 price,.slice ra rn rc] 116);replace b3:=zc b3 (.cells #[int i64 0,int i64 name,int i64 price,.slice ra rn rc] 116);replace d:=zl d (.cells #[int i64 0,int i64 name,int i64 price,.slice ra rn rc] 116);have d5:=zc f6 (.cells #[int i64 0,int i64 name,int i64 price,.slice ra rn rc] 116);have c6:Hid _:=k6.out.below (zl bZ (.cells #[int i64 0,int i64 name,int i64 price,.slice ra rn rc] 116));have c7:Hid (zA we (we.alloc (.cells #[int i64 0,int i64 name,int i64 price,.slice ra rn rc] 116)) (fun b=>b=w.heap.size+1+1∨b=w.heap.size+1+1+1)):=zA.of_below (zl bZ _)
   generalize we.alloc (.cells #[int i64 0,int i64 name,int i64 price,.slice ra rn rc] 116)=wf at bT K b2 b3 d d5 c6 c7 ⊢;generalize we.heap.size=tb at bT d9 ⊢;have p0:=d5;have pT:=bT;have KS:Hid (∀ z:World,z.heap[qb]?=some (.cells #[.slice a1 x.san c1,.slice R x.san S,.slice d7 c8 d8] 27 (0,0))->z.heap[tb]?=some (.cells #[int i64 0,int i64 name,int i64 price,.slice ra rn rc] 116 (0,0))->z.cell? ⟨qb,0,none⟩=some (.slice a1 x.san c1)/\z.cell? ⟨qb,1,none⟩=some (.slice R x.san S)/\z.cell? ⟨qb,2,none⟩=some (.slice d7 c8 d8)/\z.cell? ⟨tb,0,none⟩=some (int i64 0)/\z.cell? ⟨tb,1,none⟩=some (int i64 name)/\z.cell? ⟨tb,2,none⟩=some (int i64 price)/\z.cell? ⟨tb,3,none⟩=some (.slice ra rn rc)):=fun z h1 T=>⟨za h1 0 _ rfl,za h1 1 _ rfl,za h1 2 _ rfl,za T 0 _ rfl,za T 1 _ rfl,za T 2 _ rfl,za T 3 _ rfl⟩
   have Q:=b2;have N:=b3;obtain⟨s0,s1,s2⟩:=ce3 Q;obtain⟨f9,g3,g4⟩:=fe3 Q;obtain⟨t0,t1,t2,t3⟩:=ce4 N;obtain⟨g5,g6,g7,g8⟩:=fe4 N;go_region_held3 (fun w'=>w'.cell? ⟨qb,0,none⟩=some (.slice a1 x.san c1)/\w'.cell? ⟨qb,1,none⟩=some (.slice R x.san S)/\w'.cell? ⟨qb,2,none⟩=some (.slice d7 c8 d8)/\w'.cell? ⟨tb,0,none⟩=some (int i64 0)/\w'.cell? ⟨tb,1,none⟩=some (int i64 name)/\w'.cell? ⟨tb,2,none⟩=some (int i64 price)/\w'.cell? ⟨tb,3,none⟩=some (.slice ra rn rc))
    (first|(refine KS.out _ ?_ ?_ <;> (repeat(first|with_reducible exact p0|with_reducible exact pT|(with_reducible refine zE ?_)|(with_reducible refine zB ?_ _ _ ?_;rotate_left;(focus omega))))))
    (fail)
   ·have e4:=d
    obtain⟨O,b6,b7,P,b8⟩:=zdO e4 (c6.out.lower i0) Q N (by omega) (by omega) (int i64 0) (int i64 name) (int i64 price) (.slice ra rn rc) rfl
    have a9:Hid _:=O.below (Below.drew bZ);have a8:Hid _:=Below.drew P;have i6:Hid _:=b8.trans (zA.of_below (Below.drew bZ));clear O P b8;obtain⟨x0,x1,x2⟩:=ce3 (zE b6);obtain⟨z0,z1,z2,z3⟩:=ce4 (zE b7);go_wp2;refine bodyPost_ret (v:=.tuple #[.agg #[.slice a1 x.san c1,.slice R x.san S,.slice d7 c8 d8],.agg #[int i64 0,int i64 name,int i64 price,.slice ra rn rc]]) (by simp[results,Tryz.results98,go_sem,x0,x1,x2,z0,z1,z2,z3]) rfl ⟨⟨⟨x.san,n2,x.san,n1,c8,l0⟩,a1,c1,R,S,d7,d8,0,name,price,.slice ra rn rc,L,C,A,B,D,E',rfl,?_,?_,?_⟩,a8.out⟩
    ·exact a9.out
    ·exact .inr (.inr ⟨a6.out,M,⟨x.san,n2,x.san,n1,c8,l0⟩,by rw[← HL.out];exact a7.out,c5.out,fun h=>by rcases h with h|h;exact absurd rfl h;exact absurd h n4.out,fun _=>rfl⟩)
    ·exact .inr ⟨M,_,zfy k8.out (c7.out.trans i6.out) (fun g e=>by rcases e with e|e;exact⟨_,_,by rw[e];exact j2,by decide⟩;exact⟨_,_,by rw[e];exact j3,by decide⟩)⟩
end Go.Proofs.YtgmdnkngnhkgbaaGreat
