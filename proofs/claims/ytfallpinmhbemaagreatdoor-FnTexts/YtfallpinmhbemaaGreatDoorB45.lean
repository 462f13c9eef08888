import Derived.Test.YtfallpinmhbemaaGreatDoorB44
import Derived.Test.YtfallpinmhbemaaGreatDoorB33
import Derived.Test.YtfallpinmhbemaaGreatDoorB34
import Derived.Test.YtfallpinmhbemaaGreatDoorB39
import Derived.Test.YtfallpinmhbemaaGreatDoorB40
import Derived.Test.YtfallpinmhbemaaGreatDoorB41
import Derived.Test.YtfallpinmhbemaaGreatDoorB42
namespace Go.Proofs.YtfallpinmhbemaaGreatDoor
open Go.RowKit
open Go.Value (int)
open Go.IntKind (i64)
set_option maxHeartbeats 64000000
set_option maxRecDepth 1000000
theorem zig {N n:Nat}{S:Nat->Sail}{G:Nat->Int}(c:zch N S)(h:zba N S n G):∀ d j,j+d+1<n->(S (qo S (G j) N)).arr<=(S (qo S (G (j+d+1)) N)).dep:=by
 intro d
 induction d with
 | zero =>
  intro j f;have:=(h.2.2 (j+1) (by omega)).2 (by omega)
  simpa using this.2
 | succ d ih =>
  intro j f;have h1:=ih j (by omega)
  have a:=((h.2.2 (j+(d+1)+1) (by omega)).2 (by omega)).2
  have b:=(c.2 _ (h.2.2 (j+d+1) (by omega)).1).1
  have e:j+(d+1)+1 - 1=j+d+1:=by omega
  rw[e] at a;have h4:(S (qo S (G (j+d+1)) N)).dep<(S (qo S (G (j+d+1)) N)).arr:=b.2.2.2.2.2.1
  omega
theorem zaG {N n:Nat}{S:Nat->Sail}{G:Nat->Int}(a:zch N S)(h:zba N S n G):∀ i,i<n->∀ j,j<i->G j≠G i:=fun i f j hj e=>by
 obtain⟨d,rfl⟩:∃ d,i=j+d+1:=⟨i - j - 1,by omega⟩
 have b:=zig a h d j f;rw[← e] at b;have c:=(a.2 _ (h.2.2 j (by omega)).1).1
 have h4:(S (qo S (G j) N)).dep<(S (qo S (G j) N)).arr:=c.2.2.2.2.2.1
 omega
def WkOk (x:Off)(v:Wk):Prop:=v.res<3/\qo x.sa v.leg x.san<x.san/\(v.goes=false->In v.who 1 9999/\qI v.p/\zbz v.p.len v.p.cl v.res=true)
def zah (x:Off)(y:OpD)(m:Nat):Prop:=Qz y/\¬ Qu x.san x y/\(In y.kind 4 8->y.name=(m:Int)+1/\m<x.bkn/\¬ zbB (x.bk m) y)
theorem zah.legs {x:Off}{y:OpD}{m:Nat}(h:zah x y m)(a:zR y.kind):zba x.san x.sa y.lgn y.lg:=by
 by_cases c:zba x.san x.sa y.lgn y.lg
 ·exact c
 ·exact absurd (.inl ⟨a,c⟩) h.2.1
theorem zah.party {x:Off}{y:OpD}{m:Nat}(h:zah x y m)(a:zR y.kind):qI ⟨y.pe,y.len,y.hei,y.cl,y.all,y.be⟩:=by
 have:=h.1.2.2.2.2.1;unfold qt at this;rw[if_pos a] at this;exact this
theorem zaH {k:Int}(h:zaa k):In k 4 8:=by
 unfold zaa at h;unfold In
 omega
theorem works_fit {x:Off}{y:OpD}{m:Nat}{d:Int}(j:Zy x)(h:zah x y m)(s:In d 1 9999)(q:∀ i,i<x.bkn->(x.bk i).who≠d) :
  (qN x d y m).Pairwise zdn/\∀ v ∈ qN x d y m,Apt x x.ld v/\WkOk x v:=by
 have k:=j.1;have g:zaa y.kind->m<x.bkn/\zee (x.bk m)/\zba x.san x.sa (x.bk m).lgn (x.bk m).lg:=fun t=>by
  obtain⟨_,a,r⟩:=h.2.2 (zaH t);refine⟨a,?_,(j.2.2.2.2.1 m a).2.2.2.1⟩
  by_cases c:zee (x.bk m)
  ·exact c
  ·exact absurd (.inl c) r
 constructor
 ·unfold qN
  by_cases h1:zaa y.kind
  ·obtain⟨n,hl,f⟩:=g h1
   rw[if_pos h1]
   by_cases a:zR y.kind
   ·rw[if_pos a]
    exact zfZ (zaG k f) (zaG k (h.legs a)) (q m n)
   ·rw[if_neg a,List.append_nil]
    exact QB _ _ _ _ _ (zaG k f)
  ·rw[if_neg h1,List.nil_append]
   by_cases a:zR y.kind
   ·rw[if_pos a]
    exact QB _ _ _ _ _ (zaG k (h.legs a))
   ·rw[if_neg a]
    exact List.Pairwise.nil
 ·intro v b
  unfold qN at b
  rcases List.mem_append.1 b with b|b
  ·by_cases h1:zaa y.kind
   ·rw[if_pos h1] at b
    obtain⟨n,hl,f⟩:=g h1;refine⟨j.apt_goes n hl rfl rfl b,?_⟩;obtain⟨⟨i,l,e⟩,o,p,_⟩:=QA b;exact⟨o,by rw[e];exact(f.2.2 i l).1,fun c=>by rw[p] at c;cases c⟩
   ·rw[if_neg h1] at b
    cases b
  ·by_cases a:zR y.kind
   ·rw[if_pos a] at b
    refine⟨j.apt_comes q b,?_⟩;obtain⟨⟨i,l,e⟩,o,p,z,u,w⟩:=QA b;refine⟨o,by rw[e];exact((h.legs a).2.2 i l).1,fun _=>?_⟩
    rw[z,u];exact⟨s,h.party a,w⟩
   ·rw[if_neg a] at b
    cases b
inductive Done (x:Off):List Wk->(Nat->qT)->(Nat->qT)->Prop
 | nil (L:Nat->qT):Done x [] L L
 | snoc (l:List Wk) (L M:Nat->qT) (v:Wk) (k:Nat) (z:qT) (h:Done x l L M) (hk:qo x.sa v.leg x.san=k) (hl:k<x.san) (hw:ZT (x.sa k) v (M k) 0 z):Done x (l++[v]) L (zfC M k z)
structure zct (x:Off)(l:List Wk)(j:Nat)(M:Nat->qT):Prop where
 done:Done x (l.take j) x.ld M
 good:∀ i,i<x.san->qJ (x.sa i) (M i)
 apt:∀ v ∈ l.drop j,Apt x M v
theorem zct.start {x:Off}{l:List Wk}(a:Zy x)(b:∀ v ∈ l,Apt x x.ld v):zct x l 0 x.ld :=
 ⟨by rw[List.take_zero];exact .nil _,a.2.2.2.1,by rw[List.drop_zero];exact b⟩
theorem zct.comes {x:Off}{l:List Wk}{j:Nat}{M:Nat->qT}{v:Wk}{k:Nat}(h:zct x l j M)(f:l[j]?=some v)(b:qo x.sa v.leg x.san=k)(hl:k<x.san)(i:WkOk x v):ComesOk v (M k):=fun a=>by
 obtain⟨c,d,e⟩:=i.2.2 a;refine⟨c,d,e,?_⟩;have g:v ∈ l.drop j:=by
  rw[List.mem_iff_getElem?];exact⟨0,by rw[List.getElem?_drop];simpa using f⟩
 have:=(h.apt v g).2 k hl (by rw[← b];exact zaZ _ _ _ (by rw[b];exact hl))
 rw[if_neg (by rw[a];decide)] at this
 exact this
theorem zct.there {x:Off}{l:List Wk}{j:Nat}{M:Nat->qT}{v:Wk}{k:Nat}(h:zct x l j M)(c:l[j]?=some v)(a:qo x.sa v.leg x.san=k)(hl:k<x.san)(b:v.goes=true):zeR (M k) v.res v.who:=by
 have d:v ∈ l.drop j:=by
  rw[List.mem_iff_getElem?];exact⟨0,by rw[List.getElem?_drop];simpa using c⟩
 have:=(h.apt v d).2 k hl (by rw[← a];exact zaZ _ _ _ (by rw[a];exact hl))
 rw[if_pos b] at this;exact this
theorem zct.next {x:Off}{l:List Wk}{j:Nat}{M:Nat->qT}{v:Wk}{k:Nat}{z:qT}(h:zct x l j M)(hd:l.Pairwise zdn)(d:l[j]?=some v)(f:qo x.sa v.leg x.san=k)(hl:k<x.san)(p:WkOk x v)(o:ZT (x.sa k) v (M k) 0 z):zct x l (j+1) (zfC M k z):=by
 have c:zab (x.sa k) v (M k) z:=by
  rcases o.on (h.good k hl) (h.comes d f hl p) with⟨_,h⟩|⟨h,_⟩
  ·exact h
  ·unfold In at h;omega
 have g:(x.sa k).id=v.leg:=by rw[← f];exact zaZ _ _ _ (by rw[f];exact hl)
 have i:j<l.length:=(List.getElem?_eq_some_iff.1 d).1;have b:l.drop j=v :: l.drop (j+1):=by
  rw[List.drop_eq_getElem_cons i]
  congr 1
  exact(List.getElem?_eq_some_iff.1 d).2
 refine⟨?_,zib h.good c,fun u n=>?_⟩
 ·rw[List.take_add_one,d]
  exact .snoc _ _ _ _ k z h.done f hl o
 ·refine(h.apt u (by rw[b];exact List.mem_cons_of_mem _ n)).after g c ?_
  have m:(l.drop j).Pairwise zdn:=hd.sublist (List.drop_sublist _ _);rw[b,List.pairwise_cons] at m;have a:=m.1 u n
  rcases a with a|a|a
  ·exact .inl (fun e=>a e.symm)
  ·exact .inr (.inl (fun e=>a e.symm))
  ·exact .inr (.inr (fun e=>a e.symm))
theorem l7End_9 (g base N R l i o j:Nat)(f d m t:Option Addr)(d0:Int)(y:OpD)(x:Off)(L C A B D E:Nat->Value)(w:World)(hq:w.heap[g]?=some (.cells #[.slice f N l,.slice d N i,.slice m R o] 66 (0,0)))(ho:zV w base (.slice f N l) (.slice d N i) (.slice m R o) N N R x L C A B D E)(b8:x.bkn=R)(a8:base<=w.heap.size)(J:y.kind=9)(d7:In y.pe 0 20)(f4:y.lgn<=3)(K:IntsAt w t y.lgn y.lg)(b7:SliceOk t y.lgn j)(b6:0<y.lgn->∀ a,t=some a->a.block<base)(k:Nat)(b5:0<y.lgn)(I:qo x.sa (y.lg 0) N=k)(b0:k<N)(hs:Off.Short x 1048576)(c4:x.san=N)(b9:x.ldn=N)(a0:x.bkn<=30) :
  Calls Tryz.prog 123 #[.pointer (some ⟨g,0,none⟩),int i64 d0,.agg #[int i64 y.kind,.string y.own,int i64 y.name,.slice t y.lgn j,int i64 y.pe,int i64 y.len,int i64 y.hei,int i64 y.cl,.bool y.all,int i64 y.be,int i64 y.unt,int i64 y.now]] w fun e w'=>zbf g base N l i f d (fun _=>False) x 0 0 0 (fun z v=>z.ownsRow w.heap.size 212 5 v (QJ (x.ld k) x.bk (y.lg 0) x.bkn).length (ZW (zii (QJ (x.ld k) x.bk (y.lg 0) x.bkn)) (QJ (x.ld k) x.bk (y.lg 0) x.bkn).length)) L C A B D w e w':=by
 have c8:Hid (qo x.sa (y.lg 0) N=k/\k<N/\Off.Short x 1048576/\x.san=N/\x.ldn=N/\x.bkn<=30/\0<y.lgn):=⟨I,b0,hs,c4,b9,a0,b5⟩;clear I b0 hs c4 b9 a0;rw[J];obtain⟨q,lo,rfl,a9⟩:=K 0 b5;have HO:=hI ho;have Y:=hI hq;have d9:=hI J;have s:=hI b8;have d8:=hI a8;have e4:=hI K;have e7:=hI b7;have e5:=hI b6;clear ho hq J b8 a8 K b7 b6;obtain⟨pr,M⟩:∃ pr,pr=Zg ⟨y.pe,y.len,y.hei,y.cl,y.all,y.be⟩ (y.lgn:Int):=⟨_,rfl⟩;have e6:=hI M;have b:Below w.heap.size w ((w.alloc (.cells #[int i64 9,.string y.own,int i64 y.name,.slice (some (⟨q,lo,none⟩:Addr)) y.lgn j,int i64 y.pe,int i64 y.len,int i64 y.hei,int i64 y.cl,.bool y.all,int i64 y.be,int i64 y.unt,int i64 y.now] 27)).alloc (.cells #[int i64 0,int i64 0,int i64 0,.slice none 0 0] 127)):=zr (zr bZ _) _;have bO:=ze (heap_alloc_new w (.cells #[int i64 9,.string y.own,int i64 y.name,.slice (some (⟨q,lo,none⟩:Addr)) y.lgn j,int i64 y.pe,int i64 y.len,int i64 y.hei,int i64 y.cl,.bool y.all,int i64 y.be,int i64 y.unt,int i64 y.now] 27)) (.cells #[int i64 0,int i64 0,int i64 0,.slice none 0 0] 127);have P:=zcC w (.cells #[int i64 9,.string y.own,int i64 y.name,.slice (some (⟨q,lo,none⟩:Addr)) y.lgn j,int i64 y.pe,int i64 y.len,int i64 y.hei,int i64 y.cl,.bool y.all,int i64 y.be,int i64 y.unt,int i64 y.now] 27) (.cells #[int i64 0,int i64 0,int i64 0,.slice none 0 0] 127);go_enter Tryz.func123,Tryz.ntmps123;go_wp2_with fail;generalize ((w.alloc (.cells #[int i64 9,.string y.own,int i64 y.name,.slice (some (⟨q,lo,none⟩:Addr)) y.lgn j,int i64 y.pe,int i64 y.len,int i64 y.hei,int i64 y.cl,.bool y.all,int i64 y.be,int i64 y.unt,int i64 y.now] 27)).alloc (.cells #[int i64 0,int i64 0,int i64 0,.slice none 0 0] 127))=W at b bO P ⊢;refine(qV y.pe y.len y.hei y.cl y.all y.be (y.lgn:Int) _ d7 (by unfold In;omega)).mono ?_
 rintro e V ⟨rfl,F⟩;rw[← M];clear M;replace b:=zj b F;replace bO:=zc bO F;replace P:=zc P F;clear F W;have o0:=za bO 0 _ rfl;have f2:g<w.heap.size:=zZ Y.out;have d6:q<w.heap.size:=World.block_lt_of_cell? w _ a9;have i5:(0:Int)<(y.lgn:Int):=by omega
 have KS:Hid (∀ z,Below V.heap.size V z->z.cell? ⟨g,0,none⟩=some (.slice f N l)/\z.cell? ⟨g,1,none⟩=some (.slice d N i)/\z.cell? ⟨g,2,none⟩=some (.slice m R o)/\z.cell? ⟨w.heap.size,3,none⟩=some (.slice (some ⟨q,lo,none⟩) y.lgn j)/\z.cell? ⟨q,lo,none⟩=some (int i64 (y.lg 0))):=fun z h=>⟨za (zc Y.out (zj b h)) 0 _ rfl,za (zc Y.out (zj b h)) 1 _ rfl,za (zc Y.out (zj b h)) 2 _ rfl,za (zc bO h) 3 _ rfl,((zj b h).cell (p:=⟨q,lo,none⟩) d6).trans a9⟩
 have KT:Hid (∀ z,Below V.heap.size V z->∀ c0 c1 c2 c3 O,O=(((z.setCell ⟨w.heap.size+1,0,none⟩ c0).setCell ⟨w.heap.size+1,1,none⟩ c1).setCell ⟨w.heap.size+1,2,none⟩ c2).setCell ⟨w.heap.size+1,3,none⟩ c3->O.cell? ⟨g,0,none⟩=some (.slice f N l)/\O.cell? ⟨g,1,none⟩=some (.slice d N i)/\O.cell? ⟨g,2,none⟩=some (.slice m R o)/\O.cell? ⟨w.heap.size,3,none⟩=some (.slice (some ⟨q,lo,none⟩) y.lgn j)/\O.cell? ⟨q,lo,none⟩=some (int i64 (y.lg 0))):=fun z h c0 c1 c2 c3 O e=>by
  subst e;obtain⟨a1,a2,a3,a4,a5⟩:=KS.out z h;have I:=QQ z (w.heap.size+1) c0 c1 c2 c3;exact⟨ZN I a1 (by show ¬ _=_;dsimp only;omega),ZN I a2 (by show ¬ _=_;dsimp only;omega),ZN I a3 (by show ¬ _=_;dsimp only;omega),ZN I a4 (by show ¬ _=_;dsimp only;omega),ZN I a5 (by show ¬ _=_;dsimp only;omega)⟩
 have c5:Hid (∀ Z,Below V.heap.size V Z->Calls Tryz.prog 144 #[.agg #[.slice f N l,.slice d N i,.slice m R o],int i64 (y.lg 0)] Z fun e w5=>(∃ G n H,e=.returned (.slice G n H)/\Hid (w5.ownsRow w.heap.size 212 5 (.slice G n H) (QJ (x.ld k) x.bk (y.lg 0) x.bkn).length (ZW (zii (QJ (x.ld k) x.bk (y.lg 0) x.bkn)) (QJ (x.ld k) x.bk (y.lg 0) x.bkn).length)))/\Below V.heap.size V w5):=fun Z hZ=>by
  have hh:=(HO.out.below (zj b hZ));obtain⟨q1,q2,q3,q4,q5,q6,_⟩:=c8.out;have e1:Calls Tryz.prog 144 #[.agg #[.slice f x.san l,.slice d x.ldn i,.slice m x.bkn o],int i64 (y.lg 0)] Z _:=zgi x f d m l i o k (y.lg 0) Z q3 (by rw[q4];exact hh.sa.at) (by rw[q5];exact hh.ld.at) (by rw[s.out];exact hh.bk.at) q6 (by rw[q4];exact q1) (by rw[q4];exact q2) (by rw[q4,q5])
  rw[q4,q5,s.out] at e1;refine e1.mono ?_;rintro e w5 ⟨⟨u,rfl,o1⟩,d5⟩;rw[s.out];obtain⟨G,H,rfl,_⟩:=zt o1;exact⟨⟨G,_,H,rfl,zE o1 (Nat.le_trans b.size hZ.size)⟩,zj hZ d5⟩
 obtain⟨v0,v1,v2,v3⟩:=ce4 P;obtain⟨e0,e1,e2,e3⟩:=fe4 P;go_upto_region 6 with fail;go_region_held3 (fun w'=>w'.cell? ⟨g,0,none⟩=some (.slice f N l)/\w'.cell? ⟨g,1,none⟩=some (.slice d N i)/\w'.cell? ⟨g,2,none⟩=some (.slice m R o)/\w'.cell? ⟨w.heap.size,3,none⟩=some (.slice (some ⟨q,lo,none⟩) y.lgn j)/\w'.cell? ⟨q,lo,none⟩=some (int i64 (y.lg 0)))
  (first|(with_reducible exact KT.out _ r.out _ _ _ _ _ rfl)|(refine KS.out _ ?_;repeat(first|exact r.out|exact bZ|refine Below.drew ?_|refine zr ?_ _)))
  (first
   | (go_simp;go_at_call 144;(with_reducible refine Calls.mono (c5.out _ ?_) ?_);(focus(repeat(first | exact bZ | refine Below.drew ?_ | refine zr ?_ _)));rintro e u2 ⟨⟨G,n,H,rfl,X⟩,a7⟩;have r:=hI a7;have c:=zc P a7;have f5:=za c 0 _ rfl;have e8:=zg c 0;have f6:=za c 1 _ rfl;have e9:=zg c 1;have f7:=za c 2 _ rfl;have f0:=zg c 2;have f8:=za c 3 _ rfl;have f1:=zg c 3;dsimp only))
 obtain⟨U,a6,S,bF⟩:=Q0 (T:=(fun _=>False)) (zA.of_below (zj b r.out)) (HO.out.below (zj b r.out)) (zc Y.out (zj b r.out)) c (by omega) (int i64 0) (int i64 0) (int i64 0) (.slice G n H) rfl
 have c9:Hid _:=(QQ u2 (w.heap.size+1) (int i64 0) (int i64 0) (int i64 0) (.slice G n H)).own X.out (qR X.out c (by decide))
 have Q:Hid _:=U;have c7:Hid _:=a6;have c6:Hid _:=S;clear U a6 S;go_wp2;obtain⟨x0,x1,x2,x3⟩:=ce4 bF;refine bodyPost_ret (v:=.agg #[int i64 0,int i64 0,int i64 0,.slice G n H]) (by simp[results,Tryz.results123,go_sem,x0,x1,x2,x3]) rfl ?_
 have hR:=s.out;subst hR;exact⟨_,_,_,_,rfl,c9.out,Q.out,c7.out,c6.out⟩
def zaI (x:Off)(b:ZK)(y:OpD):Int :=
 if y.kind=4 then b.price
 else if y.kind=5 then Zg ⟨y.pe,y.len,y.hei,y.cl,y.all,y.be⟩ y.lgn
 else if y.kind=6 then Qs b.price ((x.sa (qo x.sa (b.lg 0) x.san)).dep - y.now)
 else 0
def zeZ (x:Off)(a:Int)(y:OpD)(m:Nat)(b:Off)(code name price:Int):Prop :=
 (y.kind=1/\b=x/\code=0/\name=0/\price=Zg ⟨y.pe,y.len,y.hei,y.cl,y.all,y.be⟩ y.lgn) ∨
 (y.kind=9/\b=x/\code=0/\name=0/\price=0) ∨
 ((y.kind=2∨y.kind=3)/\x.bkn=30/\b=x/\code=8/\name=0/\price=0) ∨
 ((y.kind=2∨y.kind=3)/\x.bkn<30/\b={ x with bkn:=x.bkn+1,bk:=QC x.bk x.bkn (Qa x.bkn a y) }/\code=0/\name=(x.bkn:Int)+1/\price=Zg ⟨y.pe,y.len,y.hei,y.cl,y.all,y.be⟩ y.lgn) ∨
 (In y.kind 4 8/\m<x.bkn/\b={ x with bk:=QC x.bk m (qA (x.bk m) a y) }/\code=0/\name=y.name/\price=zaI x (x.bk m) y)
def zbC (x:Off)(y:OpD)(base:Nat)(z:World)(v:Value):Prop :=
 (y.kind=9->∃ k,qo x.sa (y.lg 0) x.san=k/\k<x.san/\z.ownsRow base 212 5 v (QJ (x.ld k) x.bk (y.lg 0) x.bkn).length (ZW (zii (QJ (x.ld k) x.bk (y.lg 0) x.bkn)) (QJ (x.ld k) x.bk (y.lg 0) x.bkn).length))/\(y.kind≠9->v=.slice none 0 0)
theorem zbf.mono {g base N l k:Nat}{j i:Option Addr}{T n:Nat->Prop}{o:Off}{code name price:Int}{m f:World->Value->Prop}{L C A B D:Nat->Value}{w:World}{e:Ending}{w':World}(h:zbf g base N l k j i T o code name price m L C A B D w e w')(x:∀ b,T b->n b)(u:∀ v,m w' v->f w' v):zbf g base N l k j i n o code name price f L C A B D w e w':=by
 obtain⟨a,b,c,d,p,q,r,s,t⟩:=h;exact⟨a,b,c,d,p,u _ q,r,s,t.mono x⟩
theorem zhh {y:OpD}(h:Qz y):In y.pe 0 20/\y.lgn<=3:=by
 have a:=h.2.2.2.2.1;have b:=h.2.2.2.1;unfold qt at a;unfold qj at b
 by_cases c:zR y.kind
 ·rw[if_pos c] at a b
  have:In y.pe 1 20:=a.1;unfold In at this ⊢
  omega
 ·rw[if_neg c] at a b
  have:y.pe=0:=a.1;refine⟨by rw[this];unfold In;omega,?_⟩
  split at b <;> omega
theorem l7End_any (g base N R n l k r m:Nat)(j f d o:Option Addr)(p:Int)(y:OpD)(x:Off)(L C A B D E:Nat->Value)(w:World)(M:w.heap[g]?=some (.cells #[.slice j N n,.slice f N l,.slice d R k] 66 (0,0)))(K:zV w base (.slice j N n) (.slice f N l) (.slice d R k) N N R x L C A B D E)(q:x.bkn=R)(I:x.san=N)(Z:x.ldn=N)(s:base<=w.heap.size)(t:IntsAt w o y.lgn y.lg)(H:SliceOk o y.lgn r)(F:0<y.lgn->∀ a,o=some a->a.block<base)
  (T:zah x y m) (hT:zch x.san x.sa) (hR:R<=30) (hs:Off.Short x 1048576) (X:∀ i,i<R->zba x.san x.sa (x.bk i).lgn (x.bk i).lg) :
  Calls Tryz.prog 123 #[.pointer (some ⟨g,0,none⟩),int i64 p,.agg #[int i64 y.kind,.string y.own,int i64 y.name,.slice o y.lgn r,int i64 y.pe,int i64 y.len,int i64 y.hei,int i64 y.cl,.bool y.all,int i64 y.be,int i64 y.unt,int i64 y.now]] w fun e w'=>∃ x2 code name price,zeZ x p y m x2 code name price/\zbf g base N n l j f (fun b=>b=g∨(Value.slice d R k).ownBlock=some b) x2 code name price (zbC x y w.heap.size) L C A B D w e w':=by
 obtain⟨G,u⟩:=zhh T.1;have hN:N<=6:=by rw[← I];exact hT.1
 have hk:=T.1.1;have nil:∀ z v,y.kind≠9->v=Value.slice none 0 0->zbC x y w.heap.size z v:=fun z v h e=>⟨fun V=>absurd V h,fun _=>e⟩
 by_cases hnamed:In y.kind 4 8
 ·obtain⟨J,O,_⟩:=T.2.2 hnamed
  rw[q] at O;have n9:y.kind≠9:=by unfold In at hnamed;omega
  have fin:∀ {e w' price},price=zaI x (x.bk m) y->zbf g base N n l j f (fun b=>b=g∨(Value.slice d R k).ownBlock=some b) { x with bk:=QC x.bk m (qA (x.bk m) p y) } 0 y.name price (fun _ v=>v=.slice none 0 0) L C A B D w e w' ->
    ∃ x2 code name price,zeZ x p y m x2 code name price/\zbf g base N n l j f (fun b=>b=g∨(Value.slice d R k).ownBlock=some b) x2 code name price (zbC x y w.heap.size) L C A B D w e w':=fun hp h =>
   ⟨_,_,_,_,.inr (.inr (.inr (.inr ⟨hnamed,by rw[q];exact O,rfl,rfl,rfl,hp⟩))),h.mono (fun _ h=>h) (fun v h=>nil _ v n9 h)⟩
  have c:y.kind=4∨y.kind=5∨y.kind=6∨y.kind=7∨y.kind=8:=by unfold In at hnamed;omega
  rcases c with c|c|c|c|c
  ·refine(l7End_4 g base N R n l k r m j f d o p y x L C A B D E w M K q s c G u t H F J O (by omega)).mono (fun e w' h=>fin ?_ h)
   unfold zaI;rw[if_pos c]
  ·refine(l7End_5 g base N R n l k r m j f d o p y x L C A B D E w M K q s c G u t H F J O (by omega)).mono (fun e w' h=>fin ?_ h)
   unfold zaI;rw[if_neg (by omega),if_pos c]
  ·have W:=X m O
   have P:=(W.2.2 0 (by have:=W.1;omega)).1
   have S:=(hT.2 _ P).1;have U:=T.1.2.2.2.2.2.2;refine(l7End_6 g base N R n l k r m j f d o p y x L C A B D E w M K q s c G u t H F J O (by omega) (qo x.sa ((x.bk m).lg 0) x.san) (by have:=W.1;omega) (by rw[I]) (by rw[I] at P ⊢;exact P) ?_ (by omega)).mono (fun e w' h=>fin ?_ h)
   ·have h1:0<=(x.sa (qo x.sa ((x.bk m).lg 0) x.san)).dep:=S.2.2.2.2.1
    have h2:(x.sa (qo x.sa ((x.bk m).lg 0) x.san)).dep<(x.sa (qo x.sa ((x.bk m).lg 0) x.san)).arr:=S.2.2.2.2.2.1;have h3:(x.sa (qo x.sa ((x.bk m).lg 0) x.san)).arr<=10000:=S.2.2.2.2.2.2.1;unfold zak In at U
    omega
   ·unfold zaI;rw[if_neg (by omega),if_neg (by omega),if_pos c]
  ·refine(l7End_7 g base N R n l k r m j f d o p y x L C A B D E w M K q s c G u t H F J O (by omega)).mono (fun e w' h=>fin ?_ h)
   unfold zaI;rw[if_neg (by omega),if_neg (by omega),if_neg (by omega)]
  ·refine(l7End_8 g base N R n l k r m j f d o p y x L C A B D E w M K q s c G u t H F J O (by omega)).mono (fun e w' h=>fin ?_ h)
   unfold zaI;rw[if_neg (by omega),if_neg (by omega),if_neg (by omega)]
 ·have c:y.kind=1∨y.kind=2∨y.kind=3∨y.kind=9:=by unfold In at hnamed hk;omega
  rcases c with c|c|c|c
  ·refine(l7End_1 g base N R n l k r j f d o p y x L C A B D E w M K q s c G u t H F).mono (fun e w' h=>?_)
   exact⟨_,_,_,_,.inl ⟨c,rfl,rfl,rfl,rfl⟩,h.mono (fun _ h=>h.elim) (fun v h=>nil _ v (by omega) h)⟩
  ·by_cases h30:R=30
   ·refine(l7End_2f g base N R n l k r j f d o p y x L C A B D E w M K q s c G u t H F h30).mono (fun e w' h=>?_)
    exact⟨_,_,_,_,.inr (.inr (.inl ⟨.inl c,by omega,rfl,rfl,rfl,rfl⟩)),h.mono (fun _ h=>h.elim) (fun v h=>nil _ v (by omega) h)⟩
   ·refine(l7End_2 g base N R n l k r j f d o p y x L C A B D E w M K q s c G u t H F (by omega)).mono (fun e w' h=>?_)
    subst q;exact⟨_,_,_,_,.inr (.inr (.inr (.inl ⟨.inl c,by omega,rfl,rfl,rfl,rfl⟩))),h.mono (fun _ h=>h) (fun v h=>nil _ v (by omega) h)⟩
  ·by_cases h30:R=30
   ·refine(l7End_3f g base N R n l k r j f d o p y x L C A B D E w M K q s c G u t H F h30).mono (fun e w' h=>?_)
    exact⟨_,_,_,_,.inr (.inr (.inl ⟨.inr c,by omega,rfl,rfl,rfl,rfl⟩)),h.mono (fun _ h=>h.elim) (fun v h=>nil _ v (by omega) h)⟩
   ·refine(l7End_3 g base N R n l k r j f d o p y x L C A B D E w M K q s c G u t H F (by omega)).mono (fun e w' h=>?_)
    subst q;exact⟨_,_,_,_,.inr (.inr (.inr (.inl ⟨.inr c,by omega,rfl,rfl,rfl,rfl⟩))),h.mono (fun _ h=>h) (fun v h=>nil _ v (by omega) h)⟩
  ·have Y:0<y.lgn:=by
    have:=T.1.2.2.2.1;unfold qj at this;rw[if_neg (by unfold zR;omega),if_pos c] at this
    omega
   have Q:qo x.sa (y.lg 0) x.san<x.san:=by
    have h1:=zbK x.sa (y.lg 0) x.san
    rcases Nat.lt_or_eq_of_le h1 with h|h
    ·exact h
    ·exact absurd (.inr ⟨c,h⟩) T.2.1
   refine(l7End_9 g base N R n l k r j f d o p y x L C A B D E w M K q s c G u t H F (qo x.sa (y.lg 0) x.san) Y (by rw[I]) (by rw[I] at Q ⊢;exact Q) hs I Z (by omega)).mono (fun e w' h=>?_)
   exact⟨_,_,_,_,.inr (.inl ⟨c,rfl,rfl,rfl,rfl⟩),h.mono (fun _ h=>h.elim) (fun v h=>⟨fun _=>⟨_,rfl,Q,h⟩,fun V=>absurd c V⟩)⟩
theorem l7Do_any (g base N R k h f d:Nat)(c b a:Option Addr)(v:Wk)(x:Off)(L C A B D E:Nat->Value)(w:World)(o:w.heap[g]?=some (.cells #[.slice c N h,.slice b N f,.slice a R d] 66 (0,0)))(n:zV w base (.slice c N h) (.slice b N f) (.slice a R d) N N R x L C A B D E)(l:N<=1048576)(m:qo x.sa v.leg N=k)(j:k<N)(i:qJ (x.sa k) (x.ld k))(y:v.res<3)(z:v.goes=true->zeR (x.ld k) v.res v.who)(F:v.goes=false->In v.p.pe 0 20) :
  Calls Tryz.prog 122 #[.pointer (some ⟨g,0,none⟩),.agg #[int i64 v.leg,int i64 (v.res:Int),.bool v.goes,int i64 v.who,int i64 v.p.pe,int i64 v.p.len,int i64 v.p.hei,int i64 v.p.cl,.bool v.p.all,int i64 v.p.be]] w fun e w'=>zcR g base N R k h f d c b a v x L C E w e w':=by
 obtain⟨leg,res,goes,who,p⟩:=v;have y:res<3:=y
 cases goes with
 | true =>
  have u:=z rfl;obtain rfl|rfl|rfl:res=0∨res=1∨res=2:=by omega
  ·obtain⟨r,q,s,t⟩:=zdl i.stays_one u
   exact l7Do_a g base N R k h f d c b a leg who p x L C A B D E w o n l m j i r q s t
  ·obtain⟨r,q,s,t⟩:=zdl i.rooms_one u
   exact l7Do_b g base N R k h f d c b a leg who p x L C A B D E w o n l m j i r q s t
  ·obtain⟨r,q,s,t⟩:=zdl i.seats_one u
   exact l7Do_c g base N R k h f d c b a leg who p x L C A B D E w o n l m j i r q s t
 | false =>
  obtain rfl|rfl|rfl:res=0∨res=1∨res=2:=by omega
  ·exact l7Do_d g base N R k h f d c b a leg who p x L C A B D E w o n l m j i
  ·obtain⟨pe,len,hei,cl,all,be⟩:=p
   cases all with
   | true=>exact l7Do_e g base N R k h f d c b a leg who pe len hei cl be x L C A B D E w o n l m j i
   | false=>exact l7Do_f g base N R k h f d c b a leg who pe len hei cl be x L C A B D E w o n l m j i
  ·exact l7Do_g g base N R k h f d c b a leg who p x L C A B D E w o n l m j i (F rfl)
theorem zgq (cs:List Value)(x:OpD)(w:World)(X:x.own.size<=1000000000000000)(h:OpD.Is w cs x)(hn:x.lgn<=1000000000) :
  Calls Tryz.prog 6 #[.agg cs.toArray] w fun e w'=>e=.returned (.tuple #[.string (zbj x),.bool (ziv x)])/\Below w.heap.size w w':=by
 have T:=hI h;obtain⟨a,c,rfl,t,_⟩:=h;have s:=hI t;have j:Below w.heap.size w (w.alloc (.cells #[int i64 x.kind,.string x.own,int i64 x.name,.slice a x.lgn c,int i64 x.pe,int i64 x.len,int i64 x.hei,int i64 x.cl,.bool x.all,int i64 x.be,int i64 x.unt,int i64 x.now] 27)):=zr bZ _;have y:=heap_alloc_new w (.cells #[int i64 x.kind,.string x.own,int i64 x.name,.slice a x.lgn c,int i64 x.pe,int i64 x.len,int i64 x.hei,int i64 x.cl,.bool x.all,int i64 x.be,int i64 x.unt,int i64 x.now] 27);clear t;go_enter Tryz.func6,Tryz.ntmps6;go_upto_region 1 with fail;generalize w.alloc (.cells #[int i64 x.kind,.string x.own,int i64 x.name,.slice a x.lgn c,int i64 x.pe,int i64 x.len,int i64 x.hei,int i64 x.cl,.bool x.all,int i64 x.be,int i64 x.unt,int i64 x.now] 27)=W at j y ⊢;obtain⟨G,H,I,J,K,L,M,N,O,P,o,p⟩:=ce12 y;go_wp2_with fail;obtain⟨q,D⟩:∃ q,q=decide (Qz x):=⟨_,rfl⟩;have u:Hid (q=true↔Qz x):=by show q=true↔Qz x;rw[D,decide_eq_true_eq]
 have A:=zeq [int i64 x.kind,.string x.own,int i64 x.name,.slice a x.lgn c,int i64 x.pe,int i64 x.len,int i64 x.hei,int i64 x.cl,.bool x.all,int i64 x.be,int i64 x.unt,int i64 x.now] x W X (T.out.below j);rw[← D] at A;clear D;refine A.mono ?_;clear A;rintro e F ⟨rfl,n⟩;have b2:=zc y n;have f:=zj j n;clear G H I J K L M N O P o p y j n
 cases q with
 | false =>
  have d:¬ qn x:=fun h=>by have:=u.out.2 h.1;cases this
  have m:=hI (zau d);clear d;go_wp2;exact bodyPost_ret (v:=.tuple #[.string ⟨#[]⟩,.bool false]) (by simp[results,Tryz.results6,go_sem]) rfl ⟨by rw[m.out.1,m.out.2],f⟩
 | true =>
  have z:Hid (Qz x):=by first|exact u.out.1 rfl|exact u.out.1 trivial
  have Y:=za b2 3 _ rfl;clear u;go_wp2;go_loopw [5,12] (fun _ E wr=>∃ k:Nat,k<=x.lgn/\E=int i64 k/\Hid (∀ i,i<k->In (x.lg i) 0 99999)/\Hid (Below F.heap.size F wr)) (fun _ E _=>x.lgn - (intOf E).toNat)
  case atStart=>exact⟨0,Nat.zero_le _,rfl,fun i V=>by omega,bZ⟩
  case round =>
   clear Y;obtain⟨k,hk,rfl,Q,r⟩:=hrel
   by_cases hlt:k<x.lgn
   ·obtain⟨b,off,rfl,C⟩:=s.out.below f k hlt
    have U:wr.cell? ⟨b,off+k,none⟩=some (int i64 (x.lg k)):=(r.out.cell (World.block_lt_of_cell? F _ C)).trans C;clear C
    by_cases hin:In (x.lg k) 0 99999
    ·go_wp2_with fail
     refine(zhE (x.lg k) 0 99999 _ hin.1 hin.2).mono ?_;rintro e S ⟨rfl,l⟩;go_wp2;go_roundw
     case rel=>exact⟨k+1,by omega,by go_num,fun i V=>by
       by_cases e:i=k
       ·rw[e];exact hin
       ·exact Q.out i (by omega),l ▸ r.out⟩
     case measure=>simp[intOf];omega
    ·have d:¬ qn x:=fun h=>hin (h.2 k hlt)
     have m:=hI (zau d);clear d;go_wp2_with fail;refine(l1In_no (x.lg k) 0 99999 _ hin).mono ?_;rintro e S ⟨rfl,l⟩;have g:Below w.heap.size w S:=l ▸ zj f r.out;clear l;go_wp2;exact bodyPost_ret (v:=.tuple #[.string ⟨#[]⟩,.bool false]) (by simp[results,Tryz.results6,go_sem]) rfl ⟨by rw[m.out.1,m.out.2],g⟩
   ·obtain rfl:x.lgn=k:=by omega
    have R:Hid (qn x):=⟨z.out,Q.out⟩;have m:=hI (zav R.out);have b3:=zc b2 r.out;have g:=zj f r.out;obtain⟨G,H,I,J,K,L,M,N,O,P,o,p⟩:=ce12 b3;go_wp2_with fail;refine(l11Op_any x a c _ R.out (s.out.below g)).mono ?_;rintro e w4 ⟨rfl,B⟩;clear G H I J K L M N O P o p;go_wp2;exact bodyPost_ret (v:=.tuple #[.string (opT x),.bool true]) (by simp[results,Tryz.results6,go_sem]) rfl ⟨by rw[m.out.1,m.out.2],zj g B⟩
section
open Go.RowKit
noncomputable def zcb (s:ByteArray):Zf :=
 ⟨zI (Z4 43 (Z4 64 s)),if zbw 43 (Z4 64 s) then zI (Z4 47 (Z5 43 (Z4 64 s))) else 0,if zbw 43 (Z4 64 s) then zI (Z5 47 (Z5 43 (Z4 64 s))) else 0,
  if zbw 64 s then zI (Z4 120 (Z5 64 s)) else 0,if zbw 64 s then !(zbw 120 (Z5 64 s)) else false,if zbw 64 s && zbw 120 (Z5 64 s) then zI (Z5 120 (Z5 64 s)) else 0⟩
structure PBx (w d:World)(c a:Nat)(p:Zf):Prop where
 r:d.heap[c]?=some (.cells #[int i64 0,int i64 0,int i64 0,int i64 0,.bool false,int i64 0] 25 (0,0))
 b:d.heap[a]?=some (.cells #[int i64 p.pe,int i64 p.len,int i64 p.hei,int i64 p.cl,.bool p.all,int i64 p.be] 25 (0,0))
 ne:c≠a
 lo:w.heap.size<=c/\w.heap.size<=a
 bel:Below w.heap.size w d
section
variable {w wx wy : World} {rb pb : Nat} {p : Zf}
theorem PBx.below (h:PBx w wx rb pb p)(a:Below wx.heap.size wx wy):PBx w wy rb pb p:=⟨zc h.r a,zc h.b a,h.ne,h.lo,zj h.bel a⟩
theorem PBx.len (h:PBx w wx rb pb p)(v:Int):PBx w (wx.setCell ⟨pb,1,none⟩ (int i64 v)) rb pb { p with len:=v } :=
 ⟨zD h.r 1 _ h.ne,(by simpa using zy h.b 1 (int i64 v)),h.ne,h.lo,h.bel.setCell h.lo.2 _⟩
theorem PBx.hei (h:PBx w wx rb pb p)(v:Int):PBx w (wx.setCell ⟨pb,2,none⟩ (int i64 v)) rb pb { p with hei:=v } :=
 ⟨zD h.r 2 _ h.ne,(by simpa using zy h.b 2 (int i64 v)),h.ne,h.lo,h.bel.setCell h.lo.2 _⟩
theorem PBx.cl (h:PBx w wx rb pb p)(v:Int):PBx w (wx.setCell ⟨pb,3,none⟩ (int i64 v)) rb pb { p with cl:=v } :=
 ⟨zD h.r 3 _ h.ne,(by simpa using zy h.b 3 (int i64 v)),h.ne,h.lo,h.bel.setCell h.lo.2 _⟩
theorem PBx.all (h:PBx w wx rb pb p)(v:Bool):PBx w (wx.setCell ⟨pb,4,none⟩ (.bool v)) rb pb { p with all:=v } :=
 ⟨zD h.r 4 _ h.ne,(by simpa using zy h.b 4 (.bool v)),h.ne,h.lo,h.bel.setCell h.lo.2 _⟩
theorem PBx.be (h:PBx w wx rb pb p)(v:Int):PBx w (wx.setCell ⟨pb,5,none⟩ (int i64 v)) rb pb { p with be:=v } :=
 ⟨zD h.r 5 _ h.ne,(by simpa using zy h.b 5 (int i64 v)),h.ne,h.lo,h.bel.setCell h.lo.2 _⟩
end
theorem partyDone {w b:World}{a l:Nat}{p:Zf}(h:PBx w b a l p)(c d f g i j:Value):Below w.heap.size w (World.setCell (World.setCell (World.setCell (World.setCell (World.setCell (World.setCell b ⟨a,0,none⟩ c) ⟨a,1,none⟩ d) ⟨a,2,none⟩ f) ⟨a,3,none⟩ g) ⟨a,4,none⟩ i) ⟨a,5,none⟩ j) :=
 zA.below h.bel h.bel.size (keep_6 b a c d f g i j) (fun k e=>by have e:k=a:=e;rw[e];exact h.lo.1)
theorem zhx (s:ByteArray)(w:World)(hs:s.size<=1000000000)(hP:PowAt w) :
  Calls Tryz.prog 56 #[.string s] w fun e w'=>e=.returned (.agg #[int i64 (zcb s).pe,int i64 (zcb s).len,int i64 (zcb s).hei,int i64 (zcb s).cl,.bool (zcb s).all,int i64 (zcb s).be])/\Below w.heap.size w w':=by
 have Q:=hI hP;clear hP;have O:=zhQ 64 s;have P:=zhQ 43 (Z4 64 s);have E:=fun W=>zft s 64 W (by omega)
 have A:=fun W=>zft (Z4 64 s) 43 W (by omega)
 have F:=fun W t=>zcy (Z5 43 (Z4 64 s)) W (by omega) t
 have B:=fun W=>zft (Z5 64 s) 120 W (by omega)
 have T:=fun W t=>ZO (Z4 43 (Z4 64 s)) W t
 have U:=fun W t=>ZO (Z4 120 (Z5 64 s)) W t
 have n3:=fun W t=>ZO (Z5 120 (Z5 64 s)) W t
 have m:zcb s=⟨zI (Z4 43 (Z4 64 s)),if zbw 43 (Z4 64 s) then zI (Z4 47 (Z5 43 (Z4 64 s))) else 0,if zbw 43 (Z4 64 s) then zI (Z5 47 (Z5 43 (Z4 64 s))) else 0,
  if zbw 64 s then zI (Z4 120 (Z5 64 s)) else 0,if zbw 64 s then !(zbw 120 (Z5 64 s)) else false,if zbw 64 s && zbw 120 (Z5 64 s) then zI (Z5 120 (Z5 64 s)) else 0⟩:=rfl
 generalize zcb s=R at m ⊢;generalize zI (Z4 47 (Z5 43 (Z4 64 s)))=m1 at F m;generalize zI (Z5 47 (Z5 43 (Z4 64 s)))=m2 at F m;generalize zI (Z4 43 (Z4 64 s))=L at T m;generalize zI (Z4 120 (Z5 64 s))=m3 at U m;generalize zI (Z5 120 (Z5 64 s))=m4 at n3 m;generalize zbw 120 (Z5 64 s)=f3 at B m;generalize zbw 43 (Z4 64 s)=G at A m;generalize zbw 64 s=S at E m;generalize Z4 120 (Z5 64 s)=a3 at B U;generalize Z5 120 (Z5 64 s)=b3 at B n3;generalize Z4 43 (Z4 64 s)=a2 at A T;generalize Z5 43 (Z4 64 s)=b2 at A F P;generalize Z5 64 s=b1 at E B O;generalize Z4 64 s=a1 at E A O P;have C1:Hid _:=E;have C2:Hid _:=A;have C3:Hid _:=F;have C4:Hid _:=B;have N1:Hid _:=T;have N2:Hid _:=U;have N3:Hid _:=n3;have HR:=hI m;clear E A F B T U n3 m O P;have hr:=heap_alloc_new w (.cells #[int i64 0,int i64 0,int i64 0,int i64 0,.bool false,int i64 0] 25);have u:Below w.heap.size w (w.alloc (.cells #[int i64 0,int i64 0,int i64 0,int i64 0,.bool false,int i64 0] 25)):=zr bZ _;go_enter Tryz.func56,Tryz.ntmps56;go_upto_region 1 with fail;generalize w.alloc (.cells #[int i64 0,int i64 0,int i64 0,int i64 0,.bool false,int i64 0] 25)=W at hr u ⊢;go_wp2_with fail;refine(C1.out _).mono ?_;rintro e w1 ⟨rfl,g⟩;have J:=zc hr g;have H:=zj u g;clear hr u g;go_wp2_with fail;refine(C2.out _).mono ?_;rintro e w2 ⟨rfl,g⟩;have K:=zc J g;have x:=zj H g;clear J H g;go_wp2_with fail;refine(N1.out _ (Q.out.below x)).mono ?_;rintro e N ⟨rfl,g⟩;have y:=zc K g;have I:=zj x g;have a0:=zZ y;have o:Hid (PBx w (N.alloc (.cells #[int i64 L,int i64 0,int i64 0,int i64 0,.bool false,int i64 0] 25)) w.heap.size N.heap.size ⟨L,0,0,0,false,0⟩) :=
  ⟨ze y _,heap_alloc_new N _,by omega,⟨Nat.le_refl _,by omega⟩,zr I _⟩
 clear K x g y I;go_upto_region 4 with fail;generalize N.alloc (.cells #[int i64 L,int i64 0,int i64 0,int i64 0,.bool false,int i64 0] 25)=W3 at o ⊢;generalize N.heap.size=M at o ⊢;go_upto_if 28 with fail;go_cut [] (fun wx=>Hid (PBx w wx w.heap.size M ⟨L,if G then m1 else 0,if G then m2 else 0,0,false,0⟩))
 case first =>
  cases G with
  | false =>
   go_wp2;go_meet;exact o.out
  | true =>
   go_wp2_with fail;refine(C3.out _ (Q.out.below o.out.bel)).mono ?_;rintro e w4 ⟨rfl,g⟩;have j:Hid _:=o.out.below g;have b4:=j.out.b;have x1:=za b4 1 _ rfl;have x2:=za b4 2 _ rfl;have g1:=zg b4 1;have g2:=zg b4 2;have k:Hid _:=(j.out.len m1).hei m2;clear b4 o;go_wp2;go_meet;exact k.out
 case rest =>
 have z:=hcut;clear hcut o;obtain⟨q,hq⟩:∃ q:Zf,q=⟨L,if G then m1 else 0,if G then m2 else 0,0,false,0⟩:=⟨_,rfl⟩;rw[← hq] at z;have HQ:=hI hq;clear hq;have n:Hid (R={ q with cl:=if S then m3 else 0,all:=if S then !f3 else false,be:=if S && f3 then m4 else 0 }):=by
  show R=_
  rw[HR.out,HQ.out]
 have p:Hid (q.cl=0/\q.all=false/\q.be=0):=by rw[HQ.out];exact⟨rfl,rfl,rfl⟩
 clear HR HQ;go_upto_if 36 with fail;go_cut [] (fun wx=>Hid (PBx w wx w.heap.size M R))
 case first =>
  cases S with
  | false =>
   have e:R=q:=by
    rw[n.out];obtain⟨a,b,c,d,e,f⟩:=q;have h:=p.out;dsimp only at h;obtain⟨rfl,rfl,rfl⟩:=h
    rfl
   have X:Hid (PBx w wc w.heap.size M R):=by rw[e];exact z.out
   clear e z;go_wp2;go_meet;exact X.out
  | true =>
   go_wp2_with fail;refine(C4.out _).mono ?_;rintro e w4 ⟨rfl,g⟩;have j:Hid _:=z.out.below g;clear z g;go_wp2_with fail;refine(N2.out _ (Q.out.below j.out.bel)).mono ?_;rintro e w5 ⟨rfl,g⟩;have k:=hI (j.out.below g);clear j g;have D:=k.out.b;have x3:=za D 3 _ rfl;have x4:=za D 4 _ rfl;have g3:=zg D 3;have g4:=zg D 4;have l:Hid _:=(k.out.cl m3).all (!f3);clear D k;go_upto_if 49 with fail
   cases f3 with
   | false =>
    have e:R={ q with cl:=m3,all:=true }:=by
     rw[n.out];obtain⟨a,b,c,d,e,f⟩:=q;have h:=p.out;dsimp only at h;obtain⟨rfl,rfl,rfl⟩:=h
     rfl
    have Z:=hI e;clear e;go_wp2;go_meet;rw[Z.out];exact l.out
   | true =>
    have e:R={ q with cl:=m3,all:=false,be:=m4 }:=by
     rw[n.out]
     rfl
    have Z:=hI e;clear e;generalize World.setCell (World.setCell w5 ⟨M,3,none⟩ (int i64 m3)) ⟨M,4,none⟩ _=W6 at l ⊢;go_wp2_with fail;refine(N3.out _ (Q.out.below l.out.bel)).mono ?_;rintro e w7 ⟨rfl,g⟩;have C:Hid _:=l.out.below g;have b7:=C.out.b;have x5:=za b7 5 _ rfl;have g5:=zg b7 5;have V:Hid _:=C.out.be m4;clear b7 l g;go_wp2;go_meet;rw[Z.out];exact V.out
 case rest =>
 have Y:=hcut;clear hcut z n p;have r:=Y.out.b;have i:=Y.out.r;have p0:=za r 0 _ rfl;have r0:=za i 0 _ rfl;have q0:=zg i 0;have p1:=za r 1 _ rfl;have r1:=za i 1 _ rfl;have q1:=zg i 1;have p2:=za r 2 _ rfl;have r2:=za i 2 _ rfl;have q2:=zg i 2;have p3:=za r 3 _ rfl;have r3:=za i 3 _ rfl;have q3:=zg i 3;have p4:=za r 4 _ rfl;have r4:=za i 4 _ rfl;have q4:=zg i 4;have p5:=za r 5 _ rfl;have r5:=za i 5 _ rfl;have q5:=zg i 5;have rF:=box_6 i (int i64 R.pe) (int i64 R.len) (int i64 R.hei) (int i64 R.cl) (.bool R.all) (int i64 R.be);have HF:Hid _:=partyDone Y.out (int i64 R.pe) (int i64 R.len) (int i64 R.hei) (int i64 R.cl) (.bool R.all) (int i64 R.be);clear r i;go_wp2;obtain⟨z0,O,P,z3,z4,z5⟩:=ce6 rF;exact bodyPost_ret (v:=.agg #[int i64 R.pe,int i64 R.len,int i64 R.hei,int i64 R.cl,.bool R.all,int i64 R.be]) (by simp[results,Tryz.results56,go_sem,z0,O,P,z3,z4,z5]) rfl ⟨rfl,HF.out⟩
end
def zbr (s:ByteArray)(L:List Int):Prop:=L.length<=s.size+1/\((s=⟨#[45]⟩/\L=[])∨(s≠⟨#[45]⟩/\∃ l,Q2 44 s l/\L=l.map zI))
theorem ziA (s:ByteArray)(w:World)(hs:s.size<=1048576)(T:PowAt w) :
  Calls Tryz.prog 54 #[.string s,.func (.func 55) #[] #[]] w fun e w'=>∃ v L,e=.returned v/\w'.ownsRow w.heap.size 3 1 v L.length (QK L)/\Hid (zbr s L)/\Below w.heap.size w w':=by
 have Y:=hI T;clear T;obtain⟨j0,ji,N,O,P⟩:=info_parts Tryz.infoInt
 by_cases h45:s=⟨#[45]⟩
 ·have r:(s.toList == (⟨#[45]⟩:ByteArray).toList)=true:=Q4.2 h45
  have Z:Hid (zbr s []):=⟨by simp,.inl ⟨h45,rfl⟩⟩
  have E:s.toList=[45]:=by rw[h45];simp[ByteArray.toList_eq]
  clear h45;go_enter Tryz.func54,Tryz.ntmps54;go_wp2;go_ret;exact⟨_,[],rfl,World.ownsRow_nil _ _ _ _,Z,bZ⟩
 ·have r:(s.toList == [45])=false:=by
   rw[beq_eq_false_iff_ne];intro e;exact h45 (QU (by rw[e];simp[ByteArray.toList_eq]))
  have E:¬ s.toList=[45]:=by rwa [beq_eq_false_iff_ne] at r
  have C:=hI h45;clear h45;go_enter Tryz.func54,Tryz.ntmps54;go_wp2_with fail;refine(zaO s 44 _ (by decide) hs).mono ?_
  rintro e w2 ⟨v,l,rfl,I,J,G⟩;obtain⟨pa,Q,rfl,a2,a3,a5⟩:=zt I;have d:=hI I;have q:=hI J.out;have a1:l.length<=1048577:=by have:=J.out.2;omega
  clear I J;go_wp2;go_loopw [5,7,13] (fun v _ i wr=>∃ k:Nat,k<=l.length/\i=int i64 k/\Hid (wr.ownsRow w.heap.size 3 1 v k (QK ((l.take k).map zI)))/\Hid (zcZ wr w.heap.size (.slice pa l.length Q) l)/\Below w.heap.size w wr)
   (fun _ _ i _=>l.length - (intOf i).toNat)
  case atStart=>exact⟨0,Nat.zero_le _,rfl,World.ownsRow_nil _ _ _ _,d.out,G⟩
  case round =>
   clear d;obtain⟨k,hk,rfl,p,d,a⟩:=hrel
   by_cases hlt:k<l.length
   ·obtain⟨g,K,_,hg⟩:=qw d.out (by omega)
    subst K;have M:l[k]?=some (l[k]'hlt):=List.getElem?_eq_getElem hlt;have U:wr.cell? ⟨g,k,none⟩=some (.string (l[k]'hlt)):=by rw[World.ownsRow.cellAt d.out k (by omega),List.getElem?_map,M];rfl
    have S:(l.take (k+1)).map zI=(l.take k).map zI++[zI (l[k]'hlt)]:=by rw[List.take_add_one,M,List.map_append];rfl
    have R:=hI S;have a0:((l.take k).map zI).length=k:=by rw[List.length_map,List.length_take];omega
    generalize l[k]'hlt=x at U R;obtain⟨va,vc,rfl,_⟩:=zt p.out;clear M S;go_wp2_with fail;refine(ZO x _ (Y.out.below a)).mono ?_;rintro e z ⟨rfl,c⟩;have b:Hid (World.ownsRow (z.alloc (.cells #[int i64 (zI x)] 3)) w.heap.size 3 1 (.slice va k vc) k (QK ((l.take k).map zI))):=zm (zr bZ _) (zm c p.out);have f:Hid (zcZ (z.alloc (.cells #[int i64 (zI x)] 3)) w.heap.size (.slice (some ⟨g,0,none⟩) l.length Q) l):=zm (zr bZ _) (zm c d.out);have m:Below w.heap.size w (z.alloc (.cells #[int i64 (zI x)] 3)):=zr (zj a c) _;have o:=m.size;clear p d a c U;go_wp2_with (first|(at_builtin;refine zz _ (by rfl) (.tmp 17) (.tmp 21) 23 (by rfl) w.heap.size 3 j0 (int i64 0) 1 8 Tryz.underlying23 ji N O P rfl (by decide) _ k (QK ((l.take k).map zI)) (by rfl) b.out (some ⟨z.heap.size,0,none⟩) 1 1 [int i64 (zI x)] (by rfl) (fun h=>by cases h) (by rfl) (fun ad h=>by cases h;exact World.news_of_block (heap_alloc_new z _)) (by intro u V;simp only[List.mem_cons,List.not_mem_nil,or_false] at V;subst V;rfl) (by unfold maxLen;omega) (by omega) o ?_;intro v9 W y n))
    have B:Hid (World.ownsRow W w.heap.size 3 1 v9 (k+1) (QK ((l.take (k+1)).map zI))):=by
     rw[R.out,zgH];exact y
    have D:Hid (zcZ W w.heap.size (.slice (some ⟨g,0,none⟩) l.length Q) l):=(zO n).own f.out (fun g1 h1 E=>own_apart f.out b.out (by decide) g1 h1 E)
    have H:=m.grown n o (fun j hj=>(World.ownsRow.lt b.out j hj).1)
    clear b f m y n o;go_roundw
    case rel=>exact⟨k+1,by omega,by go_num,B.out,D.out,H⟩
    case measure=>simp[intOf];omega
   ·obtain rfl:k=l.length:=by omega
    have X:Hid (zbr s (l.map zI)):=⟨by rw[List.length_map];exact q.out.2,.inr ⟨C.out,l,q.out.1,rfl⟩⟩
    have F:=p.out;rw[List.take_of_length_le (Nat.le_refl _)] at F;have t:(l.map zI).length=l.length:=by simp
    have A:Hid (wr.ownsRow w.heap.size 3 1 u5 (l.map zI).length (QK (l.map zI))):=by rw[t];exact F
    clear p F t;go_wp2;go_ret;exact⟨_,_,rfl,A.out,X,a⟩
def zcO (s:ByteArray):Nat->Nat
 | 0=>0
 | n+1=>if zcO s n<n then zcO s n else if zP n=s then n else n+1
def Zl (s:ByteArray):Nat:=if zcO s 10<10 then zcO s 10 else 0
theorem zeA {s:ByteArray}{n:Nat}(h:∀ j,j<n->zP j≠s):zcO s n=n:=by
 induction n with
 | zero=>rfl
 | succ n ih =>
  unfold zcO;rw[ih (fun j hj=>h j (by omega)),if_neg (by omega),if_neg (h n (by omega))]
theorem kindTo_at {s:ByteArray}{n k:Nat}(hk:k<n)(a:zP k=s)(h:∀ j,j<k->zP j≠s):zcO s n=k:=by
 induction n with
 | zero=>omega
 | succ n ih =>
  unfold zcO
  by_cases c:k<n
  ·rw[ih c,if_pos c]
  ·obtain rfl:k=n:=by omega
   rw[zeA h,if_neg (by omega),if_pos a]
theorem kindOf_lt (s:ByteArray):Zl s<10:=by
 unfold Zl
 split <;> omega
theorem zhy:∀ {k:Nat},k<10->Zl (zP k)=k:=by decide
theorem ten_0 (w:World):(Instr.index 84 (.agg #[.string (zP 0),.string (zP 1),.string (zP 2),.string (zP 3),.string (zP 4),.string (zP 5),.string (zP 6),.string (zP 7),.string (zP 8),.string (zP 9)]) (int i64 0)).run Tryz.prog w=.ok (.string (zP 0)) w:=by kernel_rfl
theorem ten_1 (w:World):(Instr.index 84 (.agg #[.string (zP 0),.string (zP 1),.string (zP 2),.string (zP 3),.string (zP 4),.string (zP 5),.string (zP 6),.string (zP 7),.string (zP 8),.string (zP 9)]) (int i64 1)).run Tryz.prog w=.ok (.string (zP 1)) w:=by kernel_rfl
theorem ten_2 (w:World):(Instr.index 84 (.agg #[.string (zP 0),.string (zP 1),.string (zP 2),.string (zP 3),.string (zP 4),.string (zP 5),.string (zP 6),.string (zP 7),.string (zP 8),.string (zP 9)]) (int i64 2)).run Tryz.prog w=.ok (.string (zP 2)) w:=by kernel_rfl
theorem ten_3 (w:World):(Instr.index 84 (.agg #[.string (zP 0),.string (zP 1),.string (zP 2),.string (zP 3),.string (zP 4),.string (zP 5),.string (zP 6),.string (zP 7),.string (zP 8),.string (zP 9)]) (int i64 3)).run Tryz.prog w=.ok (.string (zP 3)) w:=by kernel_rfl
theorem ten_4 (w:World):(Instr.index 84 (.agg #[.string (zP 0),.string (zP 1),.string (zP 2),.string (zP 3),.string (zP 4),.string (zP 5),.string (zP 6),.string (zP 7),.string (zP 8),.string (zP 9)]) (int i64 4)).run Tryz.prog w=.ok (.string (zP 4)) w:=by kernel_rfl
theorem ten_5 (w:World):(Instr.index 84 (.agg #[.string (zP 0),.string (zP 1),.string (zP 2),.string (zP 3),.string (zP 4),.string (zP 5),.string (zP 6),.string (zP 7),.string (zP 8),.string (zP 9)]) (int i64 5)).run Tryz.prog w=.ok (.string (zP 5)) w:=by kernel_rfl
theorem ten_6 (w:World):(Instr.index 84 (.agg #[.string (zP 0),.string (zP 1),.string (zP 2),.string (zP 3),.string (zP 4),.string (zP 5),.string (zP 6),.string (zP 7),.string (zP 8),.string (zP 9)]) (int i64 6)).run Tryz.prog w=.ok (.string (zP 6)) w:=by kernel_rfl
theorem ten_7 (w:World):(Instr.index 84 (.agg #[.string (zP 0),.string (zP 1),.string (zP 2),.string (zP 3),.string (zP 4),.string (zP 5),.string (zP 6),.string (zP 7),.string (zP 8),.string (zP 9)]) (int i64 7)).run Tryz.prog w=.ok (.string (zP 7)) w:=by kernel_rfl
theorem ten_8 (w:World):(Instr.index 84 (.agg #[.string (zP 0),.string (zP 1),.string (zP 2),.string (zP 3),.string (zP 4),.string (zP 5),.string (zP 6),.string (zP 7),.string (zP 8),.string (zP 9)]) (int i64 8)).run Tryz.prog w=.ok (.string (zP 8)) w:=by kernel_rfl
theorem ten_9 (w:World):(Instr.index 84 (.agg #[.string (zP 0),.string (zP 1),.string (zP 2),.string (zP 3),.string (zP 4),.string (zP 5),.string (zP 6),.string (zP 7),.string (zP 8),.string (zP 9)]) (int i64 9)).run Tryz.prog w=.ok (.string (zP 9)) w:=by kernel_rfl
theorem ten_at (w:World)(k:Nat)(hk:k<10):(Instr.index 84 (.agg #[.string (zP 0),.string (zP 1),.string (zP 2),.string (zP 3),.string (zP 4),.string (zP 5),.string (zP 6),.string (zP 7),.string (zP 8),.string (zP 9)]) (int i64 k)).run Tryz.prog w=.ok (.string (zP k)) w:=by
 have a:k=0∨k=1∨k=2∨k=3∨k=4∨k=5∨k=6∨k=7∨k=8∨k=9:=by omega
 rcases a with rfl|rfl|rfl|rfl|rfl|rfl|rfl|rfl|rfl|rfl
 ·exact ten_0 w
 ·exact ten_1 w
 ·exact ten_2 w
 ·exact ten_3 w
 ·exact ten_4 w
 ·exact ten_5 w
 ·exact ten_6 w
 ·exact ten_7 w
 ·exact ten_8 w
 ·exact ten_9 w
theorem zgx (s:ByteArray)(w:World)(a:Qc w) :
  Calls Tryz.prog 50 #[.string s] w fun e w'=>e=.returned (int i64 (Zl s))/\Below w.heap.size w w':=by
 have o:=a 0 (by decide)
 have p:=a 1 (by decide)
 have q:=a 2 (by decide)
 have r:=a 3 (by decide)
 have t:=a 4 (by decide)
 have u:=a 5 (by decide)
 have v:=a 6 (by decide)
 have x:=a 7 (by decide)
 have y:=a 8 (by decide)
 have A:=a 9 (by decide)
 clear a;have l:Hid (∀ k:Nat,k<10->∀ W:World,(Instr.index 84 (.agg #[.string (zP 0),.string (zP 1),.string (zP 2),.string (zP 3),.string (zP 4),.string (zP 5),.string (zP 6),.string (zP 7),.string (zP 8),.string (zP 9)]) (int i64 k)).run Tryz.prog W=.ok (.string (zP k)) W):=fun k h W=>ten_at W k h
 go_enter Tryz.func50,Tryz.ntmps50;go_wp2;clear o p q r t u v x y A;go_loopw [3,4,6] (fun _ _ i wr=>∃ k:Nat,k<=10/\i=int i64 k/\Hid (∀ j,j<k->zP j≠s)/\wr=w) (fun _ _ i _=>10 - (intOf i).toNat)
 case atStart=>exact⟨0,Nat.zero_le _,rfl,fun j n=>by omega,rfl⟩
 case round =>
  obtain⟨k,h,rfl,c,b⟩:=hrel;have b:=b.symm;subst b
  by_cases hlt:k<10
  ·have hx:=l.out k hlt
   have d1:decide ((k:Int)<10)=true:=decide_eq_true (by omega)
   by_cases he:zP k=s
   ·have m:(s.toList == (zP k).toList)=true:=Q4.2 he.symm
    have f:Hid ((k:Int)=(Zl s:Int)):=by
     have g:=kindTo_at hlt he c.out
     show(k:Int)=(Zl s:Int)
     unfold Zl;rw[g,if_pos hlt]
    clear he;go_wp2;go_ret;exact⟨congrArg (fun z=>Ending.returned (Value.int .i64 z)) f.out,bZ⟩
   ·have m:(s.toList == (zP k).toList)=false:=zaz.2 (fun e=>he e.symm)
    have d:Hid (∀ j,j<k+1->zP j≠s):=fun j n=>by
     by_cases e:j=k
     ·rw[e];exact he
     ·exact c.out j (by omega)
    clear he;go_wp2;go_roundw
    case rel=>exact⟨k+1,by omega,by go_num,d,trivial⟩
    case measure=>simp[intOf];omega
  ·have d1:decide ((k:Int)<10)=false:=decide_eq_false (by omega)
   have f:Hid (0=(Zl s:Int)):=by
    obtain rfl:k=10:=by omega
    have g:=zeA c.out
    show 0=(Zl s:Int)
    unfold Zl;rw[g,if_neg (by omega)]
    rfl
   go_wp2;go_ret;exact⟨congrArg (fun z=>Ending.returned (Value.int .i64 z)) f.out,bZ⟩
section
open Go.RowKit
structure OpR where
 kind:Int
 own:ByteArray
 name:Int
 v:Value
 L:List Int
 p:Zf
 unt:Int
 now:Int
def OpR.cs (x:OpR):Array Value:=#[int i64 x.kind,.string x.own,int i64 x.name,x.v,int i64 x.p.pe,int i64 x.p.len,int i64 x.p.hei,int i64 x.p.cl,.bool x.p.all,int i64 x.p.be,int i64 x.unt,int i64 x.now]
def OpR.d (x:OpR):OpD:=⟨x.kind,x.own,x.name,x.L.length,getI x.L,x.p.pe,x.p.len,x.p.hei,x.p.cl,x.p.all,x.p.be,x.unt,x.now⟩
def ZA:Zf:=⟨0,0,0,0,false,0⟩
def nx (b:Bool)(l:List ByteArray):List ByteArray:=if b then l.tail else l
def hd (l:List ByteArray):ByteArray:=l.headD ⟨#[]⟩
def wd1 (l:List ByteArray):List ByteArray:=l.tail
def wd2 (k:Nat)(l:List ByteArray):List ByteArray:=nx (qM k) (wd1 l)
def wd3 (k:Nat)(l:List ByteArray):List ByteArray:=nx (qr k) (wd2 k l)
def wd4 (k:Nat)(l:List ByteArray):List ByteArray:=nx (decide (0<qx k)) (wd3 k l)
def wd5 (k:Nat)(l:List ByteArray):List ByteArray:=nx (qp k) (wd4 k l)
def wd6 (k:Nat)(l:List ByteArray):List ByteArray:=nx (qs k) (wd5 k l)
def wd7 (k:Nat)(l:List ByteArray):List ByteArray:=nx (Qg k) (wd6 k l)
theorem zfu (b:Nat)(l:List ByteArray)(w:World)(h:WSt w b l) :
  Calls Tryz.prog 51 #[.pointer (some ⟨b,0,none⟩)] w fun e w'=>e=.returned (.string (hd l))/\Hid (WSt w' b l.tail)/\zA w w' (fun k=>k=b):=zbm b l w h
theorem name_hd (b:Nat)(l:List ByteArray)(w:World)(h:WSt w b l)(hl:(hd l).size<=1048576) :
  Calls Tryz.prog 53 #[.pointer (some ⟨b,0,none⟩)] w fun e w'=>e=.returned (.string (hd l))/\Hid (WSt w' b l.tail)/\zA w w' (fun k=>k=b):=name_any b l w h (by unfold hd at hl;omega)
theorem zcc (b:Nat)(l:List ByteArray)(w:World)(h:WSt w b l)(a:PowAt w)(c:4≠b) :
  Calls Tryz.prog 52 #[.pointer (some ⟨b,0,none⟩)] w fun e w'=>e=.returned (int i64 (zI (hd l)))/\Hid (WSt w' b l.tail)/\zA w w' (fun k=>k=b):=ziz b l w h a c
structure zhR (l:List ByteArray)(x:OpR):Prop where
 kind:x.kind=(Zl (hd l):Int)
 name:x.name=if qM (Zl (hd l)) then zI (hd (wd1 l)) else 0
 own:x.own=if qr (Zl (hd l)) then hd (wd2 (Zl (hd l)) l) else ⟨#[]⟩
 legs:(decide (0<qx (Zl (hd l)))=true->zbr (hd (wd3 (Zl (hd l)) l)) x.L)/\(decide (0<qx (Zl (hd l)))=false->x.L=[])
 party:x.p=if qp (Zl (hd l)) then zcb (hd (wd4 (Zl (hd l)) l)) else ZA
 unt:x.unt=if qs (Zl (hd l)) then zI (hd (wd5 (Zl (hd l)) l)) else 0
 now:x.now=if Qg (Zl (hd l)) then zI (hd (wd6 (Zl (hd l)) l)) else 0
structure OSt (w a:World)(b d c e:Nat)(k:Nat)(x:OpR)(L:List ByteArray):Prop where
 r:a.heap[d]?=some (.cells #[int i64 0,.string ⟨#[]⟩,int i64 0,.slice none 0 0,int i64 0,int i64 0,int i64 0,int i64 0,.bool false,int i64 0,int i64 0,int i64 0] 27 (0,0))
 o:a.heap[c]?=some (.cells x.cs 27 (0,0))
 f:a.heap[e]?=some (.cells #[.bool (qr k),.bool (qM k),int i64 (qx k),.bool (qp k),.bool (qs k),.bool (Qg k),.bool (Zc k)] 69 (0,0))
 ws:WSt a b L
 ne:d≠c
 lo:w.heap.size<=d/\w.heap.size<=c/\w.heap.size<=e
 leg:a.ownsRow w.heap.size 3 1 x.v x.L.length (QK x.L)
 kept:zA w a (fun g=>g=b)
section
variable {w wx wy : World} {b rb ob fb k : Nat} {x : OpR} {L L' : List ByteArray}
theorem OSt.below (h:OSt w wx b rb ob fb k x L)(a:Below wx.heap.size wx wy):OSt w wy b rb ob fb k x L :=
 ⟨zc h.r a,zc h.o a,zc h.f a,h.ws.below a,h.ne,h.lo,zm a h.leg,h.kept.trans (zA.of_below a)⟩
theorem QT {w:World}{b g t:Nat}{L:List ByteArray}{cs:Array Value}(h:WSt w b L)(c:w.heap[g]?=some (.cells cs t (0,0)))(d:t≠94):¬ g=b:=by
 rintro rfl;obtain⟨_,_,a,_⟩:=h;rw[c] at a;simp only[Option.some.injEq,Obj.cells.injEq] at a;exact d a.2.1
theorem OSt.words (h:OSt w wx b rb ob fb k x L)(d:WSt wy b L')(a:zA wx wy (fun g=>g=b)):OSt w wy b rb ob fb k x L':=by
 obtain⟨_,_,c,_⟩:=id h.ws;exact⟨a.blk h.r (QT h.ws h.r (by decide)),a.blk h.o (QT h.ws h.o (by decide)),a.blk h.f (QT h.ws h.f (by decide)),d,h.ne,h.lo,a.own h.leg (Zt h.leg c (by decide)),h.kept.trans a⟩
theorem OSt.store (h:OSt w wx b rb ob fb k x L)(i:Nat)(u:Value)(y:OpR)(l:y.cs=x.cs.setIfInBounds i u)(hl:wx.ownsRow w.heap.size 3 1 y.v y.L.length (QK y.L)):OSt w (wx.setCell ⟨ob,i,none⟩ u) b rb ob fb k y L:=by
 have d:zA wx (wx.setCell ⟨ob,i,none⟩ u) (fun g=>g=ob):=(zA.refl wx (fun g=>g=ob)).set (a:=⟨ob,i,none⟩) rfl u
 have j:¬ fb=ob:=by
  rintro rfl;have f:=h.f;rw[h.o] at f;simp only[Option.some.injEq,Obj.cells.injEq] at f;exact absurd f.2.1 (by decide)
 refine⟨d.blk h.r h.ne,?_,d.blk h.f j,?_,h.ne,h.lo,d.own hl (Zt hl h.o (by decide)),?_⟩
 ·rw[l]
  exact zy h.o i u
 ·refine h.ws.kept d (fun e=>QT h.ws h.o (by decide) e.symm) (fun g cur c e=>?_)
  have e:g=ob:=e;rw[e,h.o] at c;simp only[Option.some.injEq,Obj.cells.injEq] at c;exact absurd c.2.1 (by decide)
 ·refine⟨h.kept.os,h.kept.tape,h.kept.output,by rw[World.size_setCell];exact h.kept.size,fun g c hn=>?_⟩
  rw[d.block g (by have:=h.kept.size;omega) (fun e=>by have e:g=ob:=e;have:=h.lo.2.1;omega)]
  exact h.kept.block g c hn
end
theorem opDone {w d z:World}{b c j f k:Nat}{x:OpR}{L:List ByteArray}(h:OSt w d b c j f k x L)(a:zA d z (fun g=>g=c)):z.ownsRow w.heap.size 3 1 x.v x.L.length (QK x.L)/\zA w z (fun g=>g=b):=by
 refine⟨a.own h.leg (Zt h.leg h.r (by decide)),⟨a.os.trans h.kept.os,a.tape.trans h.kept.tape,a.output.trans h.kept.output,Nat.le_trans h.kept.size a.size,fun g i hn=>?_⟩⟩
 rw[a.block g (by have:=h.kept.size;omega) (fun e=>by have e:g=c:=e;have:=h.lo.1;omega)]
 exact h.kept.block g i hn
theorem opIn_any (b:Nat)(l:List ByteArray)(w:World)(hl:∀ q,q ∈ l->q.size<=1048576)(h:WSt w b l)(hP:PowAt w)(hF:Qb w)(hW:Qc w)(a8:4≠b)(i1:0≠b)(i2:1≠b) :
  Calls Tryz.prog 21 #[.pointer (some ⟨b,0,none⟩)] w fun e w'=>∃ x:OpR,e=.returned (.agg x.cs)/\w'.ownsRow w.heap.size 3 1 x.v x.L.length (QK x.L)/\Hid (zhR l x)/\zA w w' (fun g=>g=b):=by
 have O:Hid (∀ o,zA w o (fun g=>g=b)->PowAt o):=fun o hk=>zfs (S:=fun g=>g=b) hP hk a8
 have i0:Hid (∀ o,zA w o (fun g=>g=b)->Qc o):=fun o hk j hj=>by
  rw[← hW j hj];exact World.cell?_of_block (hk.block _ hW.lt i2)
 have g7:Hid (∀ o,zA w o (fun g=>g=b)->Qb o):=fun o hk=>by
  have e:=hk.block _ hF.lt i1;intro j hj;obtain⟨h0,h1,h2,h3,h4,h5,h6⟩:=hF j hj;exact⟨(World.cell?_of_block e).trans h0,(World.cell?_of_block e).trans h1,(World.cell?_of_block e).trans h2,(World.cell?_of_block e).trans h3,(World.cell?_of_block e).trans h4,(World.cell?_of_block e).trans h5,(World.cell?_of_block e).trans h6⟩
 have c1:Hid (∀ L:List ByteArray,(∀ q,q ∈ L->q ∈ l)->(hd L).size<=1048576):=fun L hL=>by
  unfold hd
  cases L with
  | nil=>exact Nat.zero_le _
  | cons q r=>exact hl q (hL q (by simp))
 have D:∀ q,q ∈ wd1 l->q ∈ l:=fun q hq=>List.mem_of_mem_tail hq
 have G:∀ (b:Bool) (L:List ByteArray),(∀ q,q ∈ L->q ∈ l)->∀ q,q ∈ nx b L->q ∈ l:=fun b L hL q hq=>by
  unfold nx at hq
  split at hq
  ·exact hL q (List.mem_of_mem_tail hq)
  ·exact hL q hq
 have c0:Hid ((∀ q,q ∈ wd1 l->q ∈ l)/\(∀ q,q ∈ wd2 (Zl (hd l)) l->q ∈ l)/\(∀ q,q ∈ wd3 (Zl (hd l)) l->q ∈ l)/\(∀ q,q ∈ wd4 (Zl (hd l)) l->q ∈ l)) :=
  ⟨D,G _ _ D,G _ _ (G _ _ D),G _ _ (G _ _ (G _ _ D))⟩
 have hr:=heap_alloc_new w (.cells #[int i64 0,.string ⟨#[]⟩,int i64 0,.slice none 0 0,int i64 0,int i64 0,int i64 0,int i64 0,.bool false,int i64 0,int i64 0,int i64 0] 27);have a7:Below w.heap.size w (w.alloc (.cells #[int i64 0,.string ⟨#[]⟩,int i64 0,.slice none 0 0,int i64 0,int i64 0,int i64 0,int i64 0,.bool false,int i64 0,int i64 0,int i64 0] 27)):=zr bZ _;have a5:=hI (h.below a7);clear h hP hF hW D G hl;go_enter Tryz.func21,Tryz.ntmps21;go_upto_region 1 with fail;generalize w.alloc (.cells #[int i64 0,.string ⟨#[]⟩,int i64 0,.slice none 0 0,int i64 0,int i64 0,int i64 0,int i64 0,.bool false,int i64 0,int i64 0,int i64 0] 27)=W at hr a7 a5 ⊢;have e5:zA w W (fun g=>g=b):=zA.of_below a7
 go_wp2_with fail;refine(zfu b l _ a5.out).mono ?_;rintro e w2 ⟨rfl,e2,c3⟩;have i6:¬ w.heap.size=b:=QT a5.out hr (by decide)
 have e9:=c3.blk hr i6;have c2:=e5.trans c3;clear hr a7 a5 e5 c3;go_wp2_with fail;refine(zgx (hd l) _ (i0.out _ c2)).mono ?_;rintro e w3 ⟨rfl,hb⟩;have d5:=zc e9 hb;have e4:=c2.trans (zA.of_below (S:=fun g=>g=b) hb)
 have e3:=hI (e2.out.below hb);have e6:=kindOf_lt (hd l);have e7:=zZ d5;obtain⟨k,hk⟩:∃ k,k=Zl (hd l):=⟨_,rfl⟩;have V:=hI hk.symm;rw[← hk] at e6 ⊢;clear e9 hb c2 e2 hk;have b4:=heap_alloc_new w3 (.cells #[int i64 (k:Int),.string ⟨#[]⟩,int i64 0,.slice none 0 0,int i64 0,int i64 0,int i64 0,int i64 0,.bool false,int i64 0,int i64 0,int i64 0] 27);have p4:Below w3.heap.size w3 (w3.alloc (.cells #[int i64 (k:Int),.string ⟨#[]⟩,int i64 0,.slice none 0 0,int i64 0,int i64 0,int i64 0,int i64 0,.bool false,int i64 0,int i64 0,int i64 0] 27)):=zr bZ _;go_upto_region 2 with fail;generalize w3.alloc (.cells #[int i64 (k:Int),.string ⟨#[]⟩,int i64 0,.slice none 0 0,int i64 0,int i64 0,int i64 0,int i64 0,.bool false,int i64 0,int i64 0,int i64 0] 27)=B at b4 p4 ⊢;have a6:=e4.trans (zA.of_below (S:=fun g=>g=b) p4)
 have f0:=zc d5 p4;have A:=hI (e3.out.below p4);have C:=g7.out B a6;have t0:B.cell? ⟨0,k*7,none⟩=some (.bool (qr k)):=(C k (by omega)).1
 have t1:B.cell? ⟨0,k*7+1,none⟩=some (.bool (qM k)):=(C k (by omega)).2.1
 have t2:B.cell? ⟨0,k*7+2,none⟩=some (int i64 (qx k)):=(C k (by omega)).2.2.1
 have t3:B.cell? ⟨0,k*7+3,none⟩=some (.bool (qp k)):=(C k (by omega)).2.2.2.1
 have t4:B.cell? ⟨0,k*7+4,none⟩=some (.bool (qs k)):=(C k (by omega)).2.2.2.2.1
 have t5:B.cell? ⟨0,k*7+5,none⟩=some (.bool (Qg k)):=(C k (by omega)).2.2.2.2.2.1
 have t6:B.cell? ⟨0,k*7+6,none⟩=some (.bool (Zc k)):=(C k (by omega)).2.2.2.2.2.2
 have y0:=za b4 0 _ rfl;have i3:(0:Int)<=(k:Int):=by omega
 have i4:(k:Int)<10:=by omega
 have b5:=heap_alloc_new B (.cells #[.bool (qr k),.bool (qM k),int i64 (qx k),.bool (qp k),.bool (qs k),.bool (Qg k),.bool (Zc k)] 69);have p5:Below B.heap.size B (B.alloc (.cells #[.bool (qr k),.bool (qM k),int i64 (qx k),.bool (qp k),.bool (qs k),.bool (Qg k),.bool (Zc k)] 69)):=zr bZ _;have i5:=zZ b4;have p:Hid (OSt w (B.alloc (.cells #[.bool (qr k),.bool (qM k),int i64 (qx k),.bool (qp k),.bool (qs k),.bool (Qg k),.bool (Zc k)] 69)) b w.heap.size w3.heap.size B.heap.size k ⟨k,⟨#[]⟩,0,.slice none 0 0,[],ZA,0,0⟩ (wd1 l)) :=
  ⟨zc f0 p5,zc b4 p5,b5,A.out.below p5,by omega,⟨Nat.le_refl _,by omega,by have:=a6.size;omega⟩,World.ownsRow_nil _ _ _ _,a6.trans (zA.of_below p5)⟩
 clear d5 e4 e3 f0 b4 p4 b5 p5 A C;go_upto_region 3 with fail;generalize B.alloc (.cells #[.bool (qr k),.bool (qM k),int i64 (qx k),.bool (qp k),.bool (qs k),.bool (Qg k),.bool (Zc k)] 69)=W5 at p ⊢;generalize B.heap.size=y at p ⊢;generalize w3.heap.size=t at p ⊢;clear t0 t1 t2 t3 t4 t5 t6 y0 i3 i4 a6 i5 e7;clear B w3 w2 W;generalize w.heap.size=u at p ⊢;have f1:=za p.out.f 1 _ rfl;obtain⟨q1,c5⟩:∃ q,q=qM k:=⟨_,rfl⟩;have X:=hI c5.symm;rw[← c5] at f1;clear c5;go_upto_if 14 with fail;go_cut [] (fun o=>∃ c,Hid (OSt w o b u t y k ⟨(k:Int),⟨#[]⟩,c,(.slice none 0 0),[],ZA,0,0⟩ (wd2 k l)/\(c=if qM k then zI (hd (wd1 l)) else 0)))
 case first =>
  clear f1
  cases q1 with
  | false =>
   go_wp2;go_meet;exact⟨0,(show OSt w _ b u t y k ⟨(k:Int),⟨#[]⟩,0,(.slice none 0 0),[],ZA,0,0⟩ (wd2 k l) from by unfold wd2 nx;rw[X.out];exact p.out),by rw[X.out];rfl⟩
  | true =>
   have M:Hid (wd2 k l=(wd1 l).tail):=by show wd2 k l=(wd1 l).tail;unfold wd2 nx;rw[X.out];rfl
   go_wp2_with fail;refine(zcc b (wd1 l) _ p.out.ws (O.out _ p.out.kept) a8).mono ?_;rintro e w5 ⟨rfl,E,F⟩;have m:Hid (OSt w w5 b u t y k ⟨(k:Int),⟨#[]⟩,0,(.slice none 0 0),[],ZA,0,0⟩ (wd2 k l)):=p.out.words (by rw[M.out];exact E.out) F
   have d:=m.out.o;have x5:=za d 2 _ rfl;have g5:=zg d 2;have N:Hid _:=m.out.store 2 (int i64 (zI (hd (wd1 l)))) ⟨(k:Int),⟨#[]⟩,(zI (hd (wd1 l))),(.slice none 0 0),[],ZA,0,0⟩ rfl m.out.leg;clear d m;go_wp2;go_meet;exact⟨_,N.out,by rw[X.out];rfl⟩
 case rest =>
 obtain⟨c,a9⟩:=hcut;have P:=hI a9.out.1;have d6:=hI a9.out.2;clear a9 p f1;have f2:=za P.out.f 0 _ rfl;obtain⟨q2,c6⟩:∃ q,q=qr k:=⟨_,rfl⟩;have Y:=hI c6.symm;rw[← c6] at f2;clear c6;go_upto_if 19 with fail;go_cut [] (fun o=>∃ i,Hid (OSt w o b u t y k ⟨(k:Int),i,c,(.slice none 0 0),[],ZA,0,0⟩ (wd3 k l)/\(i=if qr k then hd (wd2 k l) else ⟨#[]⟩)))
 case first =>
  clear f2
  cases q2 with
  | false =>
   go_wp2;go_meet;exact⟨⟨#[]⟩,(show OSt w _ b u t y k ⟨(k:Int),⟨#[]⟩,c,(.slice none 0 0),[],ZA,0,0⟩ (wd3 k l) from by unfold wd3 nx;rw[Y.out];exact P.out),by rw[Y.out];rfl⟩
  | true =>
   have M:Hid (wd3 k l=(wd2 k l).tail):=by show wd3 k l=(wd2 k l).tail;unfold wd3 nx;rw[Y.out];rfl
   go_wp2_with fail;refine(name_hd b (wd2 k l) _ P.out.ws (c1.out (wd2 k l) (by rw[← V.out];exact c0.out.2.1))).mono ?_
   rintro e w5 ⟨rfl,E,F⟩;have m:Hid (OSt w w5 b u t y k ⟨(k:Int),⟨#[]⟩,c,(.slice none 0 0),[],ZA,0,0⟩ (wd3 k l)):=P.out.words (by rw[M.out];exact E.out) F
   have d:=m.out.o;have x5:=za d 1 _ rfl;have g5:=zg d 1;have N:Hid _:=m.out.store 1 (.string (hd (wd2 k l))) ⟨(k:Int),(hd (wd2 k l)),c,(.slice none 0 0),[],ZA,0,0⟩ rfl m.out.leg;clear d m;go_wp2;go_meet;exact⟨_,N.out,by rw[Y.out];rfl⟩
 case rest =>
 obtain⟨i,b0⟩:=hcut;have Q:=hI b0.out.1;have d7:=hI b0.out.2;clear b0 P f2;have f3:=za Q.out.f 2 _ rfl;obtain⟨q3,c7⟩:∃ q,q=decide (0<qx k):=⟨_,rfl⟩;have Z:=hI c7.symm;have e8:decide ((0:Int)<qx k)=q3:=c7.symm;clear c7;go_upto_if 25 with fail;go_cut [] (fun o=>∃ s f,Hid (OSt w o b u t y k ⟨(k:Int),i,c,s,f,ZA,0,0⟩ (wd4 k l)/\((decide (0<qx k)=true->zbr (hd (wd3 k l)) f)/\(decide (0<qx k)=false->f=[]))))
 case first =>
  clear f3
  cases q3 with
  | false =>
   go_wp2;go_meet;exact⟨_,[],(show OSt w _ b u t y k ⟨(k:Int),i,c,(.slice none 0 0),[],ZA,0,0⟩ (wd4 k l) from by unfold wd4 nx;rw[Z.out];exact Q.out),fun h=>(by rw[Z.out] at h;cases h),fun _=>rfl⟩
  | true =>
   have M:Hid (wd4 k l=(wd3 k l).tail):=by show wd4 k l=(wd3 k l).tail;unfold wd4 nx;rw[Z.out];rfl
   go_wp2_with fail;refine(zfu b (wd3 k l) _ Q.out.ws).mono ?_;rintro e w4 ⟨rfl,A,U⟩;have H4:Hid (OSt w w4 b u t y k ⟨(k:Int),i,c,(.slice none 0 0),[],ZA,0,0⟩ (wd4 k l)):=Q.out.words (by rw[M.out];exact A.out) U
   clear A U;go_wp2_with fail;refine(ziA (hd (wd3 k l)) _ (c1.out (wd3 k l) (by rw[← V.out];exact c0.out.2.2.1)) (O.out _ H4.out.kept)).mono ?_
   rintro e w5 ⟨vl,yl,rfl,c4,g8,T⟩;have m:=hI (H4.out.below T);have g9:=hI (zE c4 H4.out.kept.size);obtain⟨f9,g6,rfl,_⟩:=zt c4;clear H4 c4 T;have d:=m.out.o;have x5:=za d 3 _ rfl;have g5:=zg d 3;have N:Hid _:=m.out.store 3 (.slice f9 yl.length g6) ⟨(k:Int),i,c,(.slice f9 yl.length g6),yl,ZA,0,0⟩ rfl g9.out;clear d m;go_wp2;go_meet;exact⟨_,yl,N.out,fun _=>g8.out,fun h=>(by rw[Z.out] at h;cases h)⟩
 case rest =>
 obtain⟨s,f,b6⟩:=hcut;have R:=hI b6.out.1;have d8:=hI b6.out.2;clear b6 Q f3 e8;have f4:=za R.out.f 3 _ rfl;obtain⟨q4,c8⟩:∃ q,q=qp k:=⟨_,rfl⟩;have a0:=hI c8.symm;rw[← c8] at f4;clear c8;go_upto_if 31 with fail;go_cut [] (fun o=>∃ a,Hid (OSt w o b u t y k ⟨(k:Int),i,c,s,f,a,0,0⟩ (wd5 k l)/\(a=if qp k then zcb (hd (wd4 k l)) else ZA)))
 case first =>
  clear f4
  cases q4 with
  | false =>
   go_wp2;go_meet;exact⟨ZA,(show OSt w _ b u t y k ⟨(k:Int),i,c,s,f,ZA,0,0⟩ (wd5 k l) from by unfold wd5 nx;rw[a0.out];exact R.out),by rw[a0.out];rfl⟩
  | true =>
   have M:Hid (wd5 k l=(wd4 k l).tail):=by show wd5 k l=(wd4 k l).tail;unfold wd5 nx;rw[a0.out];rfl
   go_wp2_with fail;refine(zfu b (wd4 k l) _ R.out.ws).mono ?_;rintro e w4 ⟨rfl,A,U⟩;have H4:Hid (OSt w w4 b u t y k ⟨(k:Int),i,c,s,f,ZA,0,0⟩ (wd5 k l)):=R.out.words (by rw[M.out];exact A.out) U
   clear A U;go_wp2_with fail;refine(zhx (hd (wd4 k l)) _ (by have:=c1.out (wd4 k l) (by rw[← V.out];exact c0.out.2.2.2);omega) (O.out _ H4.out.kept)).mono ?_
   rintro e w5 ⟨rfl,T⟩;have m:=hI (H4.out.below T);clear H4 T;have d:=m.out.o;have x0:=za d 4 _ rfl;have x1:=za d 5 _ rfl;have x2:=za d 6 _ rfl;have x3:=za d 7 _ rfl;have x4:=za d 8 _ rfl;have x5:=za d 9 _ rfl;have g0:=zg d 4;have g1:=zg d 5;have g2:=zg d 6;have g3:=zg d 7;have g4:=zg d 8;have g5:=zg d 9;generalize hz:zcb (hd (wd4 k l))=z;have K0:=m.out.store 4 (int i64 z.pe) ⟨(k:Int),i,c,s,f,⟨z.pe,0,0,0,false,0⟩,0,0⟩ rfl m.out.leg;have K1:=K0.store 5 (int i64 z.len) ⟨(k:Int),i,c,s,f,⟨z.pe,z.len,0,0,false,0⟩,0,0⟩ rfl K0.leg;have K2:=K1.store 6 (int i64 z.hei) ⟨(k:Int),i,c,s,f,⟨z.pe,z.len,z.hei,0,false,0⟩,0,0⟩ rfl K1.leg;have K3:=K2.store 7 (int i64 z.cl) ⟨(k:Int),i,c,s,f,⟨z.pe,z.len,z.hei,z.cl,false,0⟩,0,0⟩ rfl K2.leg;have K4:=K3.store 8 (.bool z.all) ⟨(k:Int),i,c,s,f,⟨z.pe,z.len,z.hei,z.cl,z.all,0⟩,0,0⟩ rfl K3.leg;have K5:=K4.store 9 (int i64 z.be) ⟨(k:Int),i,c,s,f,⟨z.pe,z.len,z.hei,z.cl,z.all,z.be⟩,0,0⟩ rfl K4.leg;have N:Hid _:=K5;clear K0 K1 K2 K3 K4 K5 d m;go_wp2;go_meet;exact⟨z,N.out,by rw[a0.out,hz];rfl⟩
 case rest =>
 obtain⟨a,b7⟩:=hcut;have H:=hI b7.out.1;have d9:=hI b7.out.2;clear b7 R f4;have f5:=za H.out.f 4 _ rfl;obtain⟨q5,c9⟩:∃ q,q=qs k:=⟨_,rfl⟩;have a1:=hI c9.symm;rw[← c9] at f5;clear c9;go_upto_if 37 with fail;go_cut [] (fun o=>∃ K,Hid (OSt w o b u t y k ⟨(k:Int),i,c,s,f,a,K,0⟩ (wd6 k l)/\(K=if qs k then zI (hd (wd5 k l)) else 0)))
 case first =>
  clear f5
  cases q5 with
  | false =>
   go_wp2;go_meet;exact⟨0,(show OSt w _ b u t y k ⟨(k:Int),i,c,s,f,a,0,0⟩ (wd6 k l) from by unfold wd6 nx;rw[a1.out];exact H.out),by rw[a1.out];rfl⟩
  | true =>
   have M:Hid (wd6 k l=(wd5 k l).tail):=by show wd6 k l=(wd5 k l).tail;unfold wd6 nx;rw[a1.out];rfl
   go_wp2_with fail;refine(zcc b (wd5 k l) _ H.out.ws (O.out _ H.out.kept) a8).mono ?_;rintro e w5 ⟨rfl,E,F⟩;have m:Hid (OSt w w5 b u t y k ⟨(k:Int),i,c,s,f,a,0,0⟩ (wd6 k l)):=H.out.words (by rw[M.out];exact E.out) F
   have d:=m.out.o;have x5:=za d 10 _ rfl;have g5:=zg d 10;have N:Hid _:=m.out.store 10 (int i64 (zI (hd (wd5 k l)))) ⟨(k:Int),i,c,s,f,a,(zI (hd (wd5 k l))),0⟩ rfl m.out.leg;clear d m;go_wp2;go_meet;exact⟨_,N.out,by rw[a1.out];rfl⟩
 case rest =>
 obtain⟨K,b8⟩:=hcut;have I:=hI b8.out.1;have e0:=hI b8.out.2;clear b8 H f5;have f6:=za I.out.f 5 _ rfl;obtain⟨q6,d0⟩:∃ q,q=Qg k:=⟨_,rfl⟩;have a2:=hI d0.symm;rw[← d0] at f6;clear d0;go_upto_if 42 with fail;go_cut [] (fun o=>∃ z6,Hid (OSt w o b u t y k ⟨(k:Int),i,c,s,f,a,K,z6⟩ (wd7 k l)/\(z6=if Qg k then zI (hd (wd6 k l)) else 0)))
 case first =>
  clear f6
  cases q6 with
  | false =>
   go_wp2;go_meet;exact⟨0,(show OSt w _ b u t y k ⟨(k:Int),i,c,s,f,a,K,0⟩ (wd7 k l) from by unfold wd7 nx;rw[a2.out];exact I.out),by rw[a2.out];rfl⟩
  | true =>
   have M:Hid (wd7 k l=(wd6 k l).tail):=by show wd7 k l=(wd6 k l).tail;unfold wd7 nx;rw[a2.out];rfl
   go_wp2_with fail;refine(zcc b (wd6 k l) _ I.out.ws (O.out _ I.out.kept) a8).mono ?_;rintro e w5 ⟨rfl,E,F⟩;have m:Hid (OSt w w5 b u t y k ⟨(k:Int),i,c,s,f,a,K,0⟩ (wd7 k l)):=I.out.words (by rw[M.out];exact E.out) F
   have d:=m.out.o;have x5:=za d 11 _ rfl;have g5:=zg d 11;have N:Hid _:=m.out.store 11 (int i64 (zI (hd (wd6 k l)))) ⟨(k:Int),i,c,s,f,a,K,(zI (hd (wd6 k l)))⟩ rfl m.out.leg;clear d m;go_wp2;go_meet;exact⟨_,N.out,by rw[a2.out];rfl⟩
 case rest =>
 obtain⟨z6,b9⟩:=hcut;have a3:=hI b9.out.1;have e1:=hI b9.out.2;clear b9 I f6;have h9:Hid (zhR l ⟨(k:Int),i,c,s,f,a,K,z6⟩):=by
  constructor
  ·rw[V.out]
  ·rw[V.out];exact d6.out
  ·rw[V.out];exact d7.out
  ·rw[V.out];exact d8.out
  ·rw[V.out];exact d9.out
  ·rw[V.out];exact e0.out
  ·rw[V.out];exact e1.out
 obtain⟨va,vc,rfl,_⟩:=zt (show wc.ownsRow w.heap.size 3 1 s f.length (QK f) from a3.out.leg);have J:wc.heap[t]?=some (.cells #[int i64 (k:Int),.string i,int i64 c,.slice va f.length vc,int i64 a.pe,int i64 a.len,int i64 a.hei,int i64 a.cl,.bool a.all,int i64 a.be,int i64 K,int i64 z6] 27 (0,0)):=a3.out.o;have n:=a3.out.r;have p0:=za J 0 _ rfl;have r0:=za n 0 _ rfl;have s0:=zg n 0;have p1:=za J 1 _ rfl;have r1:=za n 1 _ rfl;have s1:=zg n 1;have p2:=za J 2 _ rfl;have r2:=za n 2 _ rfl;have s2:=zg n 2;have p3:=za J 3 _ rfl;have r3:=za n 3 _ rfl;have s3:=zg n 3;have p4:=za J 4 _ rfl;have r4:=za n 4 _ rfl;have s4:=zg n 4;have p5:=za J 5 _ rfl;have r5:=za n 5 _ rfl;have s5:=zg n 5;have p6:=za J 6 _ rfl;have r6:=za n 6 _ rfl;have s6:=zg n 6;have p7:=za J 7 _ rfl;have r7:=za n 7 _ rfl;have s7:=zg n 7;have p8:=za J 8 _ rfl;have r8:=za n 8 _ rfl;have s8:=zg n 8;have p9:=za J 9 _ rfl;have r9:=za n 9 _ rfl;have s9:=zg n 9;have j7:=za J 10 _ rfl;have j9:=za n 10 _ rfl;have k4:=zg n 10;have j8:=za J 11 _ rfl;have k0:=za n 11 _ rfl;have k5:=zg n 11;have rF:=box_12 n (int i64 (k:Int)) (.string i) (int i64 c) (.slice va f.length vc) (int i64 a.pe) (int i64 a.len) (int i64 a.hei) (int i64 a.cl) (.bool a.all) (int i64 a.be) (int i64 K) (int i64 z6);have kF:=zhw wc u (int i64 (k:Int)) (.string i) (int i64 c) (.slice va f.length vc) (int i64 a.pe) (int i64 a.len) (int i64 a.hei) (int i64 a.cl) (.bool a.all) (int i64 a.be) (int i64 K) (int i64 z6);have HF:Hid _:=opDone a3.out kF;clear J n kF d6 d7 d8 d9 e0 e1;go_wp2;obtain⟨i7,i8,i9,j0,j1,j2,j3,j4,j5,j6,f7,f8⟩:=ce12 rF;refine bodyPost_ret (v:=.agg #[int i64 (k:Int),.string i,int i64 c,.slice va f.length vc,int i64 a.pe,int i64 a.len,int i64 a.hei,int i64 a.cl,.bool a.all,int i64 a.be,int i64 K,int i64 z6]) (by simp[results,Tryz.results21,go_sem,i7,i8,i9,j0,j1,j2,j3,j4,j5,j6,f7,f8]) rfl ?_
 exact⟨OpR.mk (k:Int) i c (.slice va f.length vc) f a K z6,rfl,HF.out.1,h9.out,HF.out.2⟩
end
end Go.Proofs.YtfallpinmhbemaaGreatDoor
