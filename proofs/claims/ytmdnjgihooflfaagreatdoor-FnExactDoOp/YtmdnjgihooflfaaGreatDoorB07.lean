/-
  OWN TEXT: PriceI, RefundI, SettA, KitAt, Plain3, KitB, KitBks.
-/
import Derived.Deep.DeepCutAuto
import Derived.Test.YtmdnjgihooflfaaGreatDoorB06
namespace Go.Proofs.YtmdnjgihooflfaaGreatDoor
open Go.RowKit
open Go.Value (int)
open Go.IntKind (i64)
open Tryz
set_option maxHeartbeats 64000000
set_option maxRecDepth 100000
theorem zlF (pe len hei cl:Int)(all:Bool)(be:Int)(w:World)(p:In pe 1 20)(n:Zq w)(o:Zu w) :
  Calls prog 285 #[.agg #[pe,len,hei,cl,all,be]] w λe w'=>e=.returned (int i64 (40*pe+Ql len hei+Zs cl all be))/\Below w.heap.size w w':=by
 obtain⟨h,d⟩:∃ c,c=Ql len hei:=⟨_,rfl⟩;obtain⟨k,b⟩:∃ c,c=Zs cl all be:=⟨_,rfl⟩;rw[← d,← b];have u:0<=h/\h<=500:=by rw[d];exact zbV len hei
 have x:0<=k/\k<=320:=by rw[b];exact zbf cl all be
 have m:=hI d;have l:=hI b;have q:=hI n;have r:=hI o;unfold In at p;have y:IntKind.i64.wrap (40*pe)=40*pe:=by rw[Jk];omega
 have z:IntKind.i64.wrap (40*pe+h)=40*pe+h:=by rw[Jk];omega
 have A:IntKind.i64.wrap (40*pe+h+k)=40*pe+h+k:=by rw[Jk];omega
 clear d b n o u x p;go_enter func285,ntmps285;go_upto_region 1 with fail;have a:Below _ w (w.alloc (.cells #[pe,len,hei,cl,all,be] 45)):=zk bZ _;have f:=zoP a;generalize w.alloc _=W at a f ⊢;have j:=zM f;have C:∀ g:zn W,g.val.cell? _=some (.int _ pe):=λg=>(g.bel.cell j).trans (za f 0 _ rfl)
 have D:∀ g:zn W,g.val.cell? _=some (.int _ len):=λg=>(g.bel.cell j).trans (za f 1 _ rfl)
 have E:∀ g:zn W,g.val.cell? _=some (.int _ hei):=λg=>(g.bel.cell j).trans (za f 2 _ rfl)
 have F:∀ g:zn W,g.val.cell? _=some (.int _ cl):=λg=>(g.bel.cell j).trans (za f 3 _ rfl)
 have G:∀ g:zn W,g.val.cell? _=some (.bool all):=λg=>(g.bel.cell j).trans (za f 4 _ rfl)
 have H:∀ g:zn W,g.val.cell? _=some (.int _ be):=λg=>(g.bel.cell j).trans (za f 5 _ rfl)
 have s:Hid (∀ g:zn W,_):=λg=>(q.below a).below g.bel
 have t:Hid (∀ g:zn W,_):=λg=>(r.below a).below g.bel
 refine zh (by kernel_rfl) (by kernel_rfl) ?_
 repeat(first|go_big_quiet_skip|(go_big_quiet_want;go_big_quiet_op;first|go_big_quiet_on|(apply Jg;refine⟨λg=>?_,?_⟩;(focus(first|(go_at_call 292;refine zf (v:=int i64 h) ((zlE _ _ _ (s g)).mono ?_);rintro e B ⟨rfl,i⟩;exact⟨by rw[m.out],i⟩)|(go_at_call 293;refine zf (v:=int i64 k) ((ziv _ _ _ _ (t g)).mono ?_);rintro e B ⟨rfl,i⟩;exact⟨by rw[l.out],i⟩)));go_big_quiet_on)))
 refine Jl ?_;rintro _ ⟨g,rfl⟩;clear C D E F G H;go_wp2;go_ret;exact⟨rfl,ze a g.bel⟩
theorem ziw (pe len hei cl:Int)(all:Bool)(be legs:Int)(w:World)(y:Zq w)(i:Zu w) :
  Calls prog 253 #[.agg #[pe,len,hei,cl,all,be],legs] w λe w'=>zdJ ⟨pe,len,hei,cl,all,be⟩ legs e/\Below w.heap.size w w':=by
 have z:=hI y;have A:=hI i;clear y i;go_enter func253,ntmps253;go_wp2_with fail;have f:Below _ w (w.alloc (.cells #[pe,len,hei,cl,all,be] 45)):=zk bZ _;have t:=zoP f;generalize w.alloc _=W at f t ⊢;refine(Qw pe len hei cl all be _).mono ?_;rintro e w1 ⟨⟨q,rfl,r⟩,j⟩;have n:=zb t j;have a:=ze f j;obtain⟨O,P,Q,R,S,T⟩:=ce6 n;clear f t j
 cases q with
 | false =>
  have B:Hid (¬ _):=λh=>by have:=r.2 h;cases this
  clear r n;go_wp2;exact Jj (by simp[results,results253,go_sem]) rfl ⟨zgo (λh=>B h.1),a⟩
 | true =>
  have l:=hI (r.1 rfl);clear r
  by_cases k1:In legs 1 3
  ·have N:=Jd k1
   have m:=hI k1;obtain⟨F,i⟩:∃ F,F=40*pe+Ql len hei+Zs cl all be:=⟨_,rfl⟩;have s:=hI i;have u:0<=F/\F<=2000:=by
    have h1:=zbV len hei;have h2:=zbf cl all be;have h3:=l.1;unfold In at h3;dsimp only at h3;rw[i];omega
   obtain⟨V,x⟩:∃ V,V=zE ⟨pe,len,hei,cl,all,be⟩ legs:=⟨_,rfl⟩;obtain⟨M,p⟩:∃ M,M=legs*F:=⟨_,rfl⟩;have b:Hid (V=zdb pe legs M):=by show V=_;rw[x,p,i];rfl
   have c:=hI x;have o:0<=M/\M<=10000:=by
    have h3:legs=1∨legs=2∨legs=3:=by unfold In at k1;omega
    rw[p]
    rcases h3 with rfl|rfl|rfl <;> omega
   have C:IntKind.i64.wrap (legs*F)=M:=by rw[← p,Jk];omega
   clear k1 i x p u;go_wp2_with (first|(go_at_call 191;refine sC (zz _ _ _ _) ?_))
   refine(zlF pe len hei cl all be _ l.1 (z.below a) (A.below a)).mono ?_;rw[← s.out];rintro e w2 ⟨rfl,k⟩;have c0:=za (zb n k) 0 _ rfl;have d:=ze a k;clear O P Q R S T n k;have q1:Int.tdiv M 20=M / 20:=by rw[Int.tdiv_eq_ediv_of_nonneg o.1]
   have q2:Int.tdiv M 10=M / 10:=by rw[Int.tdiv_eq_ediv_of_nonneg o.1]
   have D:IntKind.i64.wrap (M / 20)=M / 20:=by rw[Jk];omega
   have E:IntKind.i64.wrap (M - M / 20)=M - M / 20:=by rw[Jk];omega
   have G:IntKind.i64.wrap (M / 10)=M / 10:=by rw[Jk];omega
   have H:IntKind.i64.wrap (M - M / 10)=M - M / 10:=by rw[Jk];omega
   have q3:Int.tdiv (M - M / 20) 10=(M - M / 20) / 10:=by rw[Int.tdiv_eq_ediv_of_nonneg (by omega)]
   have I:IntKind.i64.wrap ((M - M / 20) / 10)=(M - M / 20) / 10:=by rw[Jk];omega
   have J:IntKind.i64.wrap (M - M / 20 - (M - M / 20) / 10)=M - M / 20 - (M - M / 20) / 10:=by rw[Jk];omega
   by_cases j1:8<=pe
   ·have K:=Jd j1
    by_cases j2:legs=3
    ·subst j2
     have g:Hid (zE ⟨pe,len,hei,cl,all,be⟩ 3=M - M / 20 - (M - M / 20) / 10):=by show _=_;rw[← c.out,b.out];unfold zdb;rw[Jf j1,Jf rfl]
     clear j1;go_wp2;exact Jj (v:=.tuple #[int i64 (M - M / 20 - (M - M / 20) / 10),.bool true]) (by simp[results,results253,go_sem]) rfl ⟨by rw[← g.out];exact zbL ⟨l,m⟩,d⟩
    ·have L:(legs == 3)=false:=by simpa using j2
     have g:Hid (zE ⟨pe,len,hei,cl,all,be⟩ legs=M - M / 20):=by show _=_;rw[← c.out,b.out];unfold zdb;rw[Jf j1,Je j2]
     clear j1 j2;go_wp2;exact Jj (v:=.tuple #[int i64 (M - M / 20),.bool true]) (by simp[results,results253,go_sem]) rfl ⟨by rw[← g.out];exact zbL ⟨l,m⟩,d⟩
   ·have K:=Jc j1
    by_cases j2:legs=3
    ·subst j2
     have g:Hid (zE ⟨pe,len,hei,cl,all,be⟩ 3=M - M / 10):=by show _=_;rw[← c.out,b.out];unfold zdb;rw[Je j1,Jf rfl]
     clear j1;go_wp2;exact Jj (v:=.tuple #[int i64 (M - M / 10),.bool true]) (by simp[results,results253,go_sem]) rfl ⟨by rw[← g.out];exact zbL ⟨l,m⟩,d⟩
    ·have L:(legs == 3)=false:=by simpa using j2
     have g:Hid (zE ⟨pe,len,hei,cl,all,be⟩ legs=M):=by show _=_;rw[← c.out,b.out];unfold zdb;rw[Je j1,Je j2]
     clear j1 j2;go_wp2;exact Jj (v:=.tuple #[M,.bool true]) (by simp[results,results253,go_sem]) rfl ⟨by rw[← g.out];exact zbL ⟨l,m⟩,d⟩
  ·have N:=Jc k1
   have m:=hI k1;clear k1 n;go_wp2_with (first|(go_at_call 191;refine sC (zz _ _ _ _) ?_))
   exact Jj (by simp[results,results253,go_sem]) rfl ⟨zgo (λh=>m h.2),a⟩
theorem i6Ref_is (x y:Int)(w:World) :
  Calls prog 254 #[x,y] w λe w'=>e=.returned (Z6 x y)/\w'=w:=by
 obtain⟨V,d⟩:∃ V,V=Z6 x y:=⟨_,rfl⟩;rw[← d];have b:=hI d;clear d
 by_cases h1:In x 0 1000000
 ·have f:=Jd h1
  by_cases h2:In y (-10000) 10000
  ·have g:=Jd h2
   have k:=h1.1;have l:=h1.2;have c:Hid (_/\_):=⟨h1,h2⟩;clear h1 h2
   by_cases h3:100<=y
   ·have i:=Jd h3
    have a:Hid (V=x):=by show V=x;rw[b.out];unfold Z6;rw[Jf c.out,Jf h3]
    rw[a.out];clear h3;go_enter func254,ntmps254;go_wp2_with (first|(go_at_call 191;refine sC (zz _ _ _ _) ?_))
    go_ret;exact⟨rfl,rfl⟩
   ·have i:=Jc h3
    by_cases h4:20<=y
    ·have j:=Jd h4
     have a:Hid (V=x / 2):=by show V=_;rw[b.out];unfold Z6;rw[Jf c.out,Je h3,Jf h4]
     have hq:Int.tdiv x 2=x / 2:=by rw[Int.tdiv_eq_ediv_of_nonneg k]
     have m:IntKind.i64.wrap (x / 2)=x / 2:=by rw[Jk];omega
     rw[a.out];clear h3 h4;go_enter func254,ntmps254;go_wp2_with (first|(go_at_call 191;refine sC (zz _ _ _ _) ?_))
     go_ret;exact⟨rfl,rfl⟩
    ·have j:=Jc h4
     have a:Hid (V=0):=by show V=0;rw[b.out];unfold Z6;rw[Jf c.out,Je h3,Je h4]
     rw[a.out];clear h3 h4;go_enter func254,ntmps254;go_wp2_with (first|(go_at_call 191;refine sC (zz _ _ _ _) ?_))
     go_ret;exact⟨rfl,rfl⟩
  ·have g:=Jc h2
   have a:Hid (V=0):=by rw[b.out];exact Je (λh=>h2 h.2)
   rw[a.out];clear h1 h2;go_enter func254,ntmps254;go_wp2_with (first|(go_at_call 191;refine sC (zz _ _ _ _) ?_))
   go_ret;exact⟨rfl,rfl⟩
 ·have f:=Jc h1
  have a:Hid (V=0):=by rw[b.out];exact Je (λh=>h1 h.1)
  rw[a.out];clear h1;go_enter func254,ntmps254;go_wp2_with (first|(go_at_call 191;refine sC (zz _ _ _ _) ?_))
  go_ret;exact⟨rfl,rfl⟩
theorem zhz (x y:Int)(w:World):Calls prog 254 #[x,y] w λe w'=>e=.returned (Z6 x y)/\Below w.heap.size w w':=(i6Ref_is x y w).mono λ_ _ ⟨a,b⟩=>⟨a,by rw[b];exact bZ⟩
theorem zcG (y:OpD)(c:Option Addr)(d:Nat)(w:World)(p:Zq w)(q:Zu w)(h:QU ⟨y.pe,y.len,y.hei,y.cl,y.all,y.be⟩ y.lgn) :
  Calls prog 202 #[.agg (y,c,d)] w λe w'=>e=.returned (zE ⟨y.pe,y.len,y.hei,y.cl,y.all,y.be⟩ y.lgn)/\Below w.heap.size w w':=by
 have a:Below _ w (w.alloc (.cells (y,c,d) 47)):=zk bZ _;have b:=zoP a;go_enter func202,ntmps202;go_upto_region 1 with fail;generalize w.alloc _=V at a b ⊢;have i:=za b 3 _ rfl;have j:=za b 4 _ rfl;have k:=za b 5 _ rfl;have l:=za b 6 _ rfl;have m:=za b 7 _ rfl;have n:=za b 8 _ rfl;have o:=za b 9 _ rfl;go_wp2_with fail;clear i j k l m n o;refine(ziw _ _ _ _ _ _ _ V (p.below a) (q.below a)).mono ?_;rintro e W ⟨hr,f⟩;have g:=by unfold zdJ at hr;rw[Jf h,Jd h] at hr;exact hr
 subst g;clear hr;go_wp2;go_ret;exact⟨rfl,ze a f⟩
def zne (b:ql)(dep:Int)(y:OpD):Int:=if y.kind=4 then b.price else if y.kind=5 then zE ⟨y.pe,y.len,y.hei,y.cl,y.all,y.be⟩ y.lgn else if y.kind=6 then Z6 b.price (dep - y.now) else 0
theorem told_any (b:ql)(m:Option Addr)(l:Nat)(dep:Int)(y:OpD)(d:Option Addr)(f:Nat)(w:World)(u:Zq w)(v:Zu w)(n:y.kind=5->QU ⟨y.pe,y.len,y.hei,y.cl,y.all,y.be⟩ y.lgn)(j:In dep 0 1000000/\(y.kind=6->In y.now 0 1000000)) :
  Calls prog 206 #[.agg (b,m,l),dep,.agg (y,d,f)] w λe w'=>e=.returned (zne b dep y)/\Below w.heap.size w w':=by
 have a:Below _ w ((w.alloc (.cells (b,m,l) 150)).alloc (.cells (y,d,f) 47)):=zk (zk bZ _) _;have i:=zoQ a;have c:=zoR a;unfold zne
 by_cases k4:y.kind=4
 ·have r:(y.kind == 4)=true:=by simpa using k4
  rw[Jf k4];clear k4 n j;go_enter func206,ntmps206;go_upto_region 1 with fail;generalize (w.alloc _).alloc _=V at a i c ⊢;have o:=za c 0 _ rfl;have k:=za i 12 _ rfl;go_wp2;go_ret;exact⟨rfl,a⟩
 have r:(y.kind == 4)=false:=by simpa using k4
 rw[Je k4]
 by_cases k5:y.kind=5
 ·have s:(y.kind == 5)=true:=by simpa using k5
  have q:=hI (n k5);rw[Jf k5];clear k4 k5 n j;go_enter func206,ntmps206;go_upto_region 1 with fail;generalize (w.alloc _).alloc _=V at a i c ⊢;obtain⟨o,x,z,A,B,C,D,E,F,G,p,h⟩:=zeW c;go_wp2_with fail;clear o x z A B C D E F G p h;refine(zcG y d f V (u.below a) (v.below a) q).mono ?_;rintro e W ⟨rfl,g⟩;go_wp2;go_ret;exact⟨rfl,ze a g⟩
 have s:(y.kind == 5)=false:=by simpa using k5
 rw[Je k5]
 by_cases k6:y.kind=6
 ·have t:(y.kind == 6)=true:=by simpa using k6
  have hw:IntKind.i64.wrap (dep - y.now)=dep - y.now:=by have h1:=j.1;have h2:=j.2 k6;unfold In at h1 h2;rw[Jk];omega
  rw[Jf k6];clear k4 k5 k6 n j;go_enter func206,ntmps206;go_upto_region 1 with fail;generalize (w.alloc _).alloc _=V at a i c ⊢;have o:=za c 0 _ rfl;have h:=za c 11 _ rfl;have k:=za i 12 _ rfl;go_wp2_with fail;refine(zhz _ _ V).mono ?_;rintro e W ⟨rfl,g⟩;clear o h k;go_wp2;go_ret;exact⟨rfl,ze a g⟩
 ·have t:(y.kind == 6)=false:=by simpa using k6
  rw[Je k6];clear k4 k5 k6 n j;go_enter func206,ntmps206;go_upto_region 1 with fail;generalize (w.alloc _).alloc _=V at a i c ⊢;have o:=za c 0 _ rfl;go_wp2;go_ret;exact⟨rfl,a⟩
def atV (f:Nat->Value)(q:Nat)(u:Value)(i:Nat):Value:=if i=q then u else f i
theorem qu (f:Nat->Value)(q:Nat)(u:Value):atV f q u q=u:=Jf rfl
theorem qf (f:Nat->Value)(q:Nat)(u:Value)(i:Nat)(h:i≠q):atV f q u i=f i:=Je h
theorem qJ {w w':World}{row:Option Nat}(h:w.grownBy w' row):zx w w' (λb=>row=some b):=⟨h.os,h.tape,h.output,h.size,λi a c=>h.block i a (λe=>c e.symm)⟩
section
def getI (l:List Int)(j:Nat):Int:=l.getD j 0
def zab (l:List Int):List Value:=zS (getI l) l.length
end
theorem zv {P:Program}(w:World){l:Array Oper}{rest:List Oper}{o:Oper}{a:Act}{Q:Exit->Act->World->Prop}
  (B:o.guard=none) (s x:Operand) (t:TypeId) (k:o.op=Op.call { callee:=Callee.builtin Builtin.append,args:=#[s,x],argTypes:=#[t,t] })
  (base:Nat) (e:TypeId) (i:TypeInfo) (z:Value) (size bytes:Nat) (h1:P.underlying t=some (.slice e)) (h2:P.info? e=some i) (h3:i.zero=some z) (H:i.size=size) (I:i.bytes=bytes) (J:z.cells.size=size) (K:0<size)
  (v:Value) (n:Nat) (q:List Value) (D:a.eval s=v) (h:w.ownsRow base e size v n q)
  (sa:Option Addr) (m c:Nat) (b:List Value) (E:a.eval x=.slice sa m c) (g:sa=none->m=0/\c=0) (C:b.length=m*size) (L:∀ ad,sa=some ad->∀ j u,b[j]?=some u->w.cell? (ad.add j)=some u) (r:∀ u ∈ b,u.oneCell'=true)
  (F:n+m<=maxLen) (G:(n+m)*bytes<=140737488355328) (d:base<=w.heap.size)
  (A:∀ p w',w'.ownsRow base e size p (n+m) (q++b)->w.grownBy w' v.ownBlock->wpList P l Q rest (a.put o.dst p) w') :
  wpList P l Q (o :: rest) a w:=by
 cases sa with
 | none =>
  obtain⟨rfl,rfl⟩:=g rfl;have f:=List.eq_nil_of_length_eq_zero (by simpa using C)
  subst f;refine wpList_append_own_none B s x t k _ e i _ h1 h2 v n q D h E (A v w ?_ (World.grownBy.refl w _));rw[Nat.add_zero,List.append_nil];exact h
 | some ad =>
  refine wpList_append_own w B s x t k _ e i z _ _ h1 h2 h3 H I J K v n q D h ad m c _ E C (L ad rfl) r F G d ?_;intro p w' M y _;exact A p w' M y
theorem znf {w:World}{d:Option Addr}{c:List Int}(h:zT w d c.length (getI c)):∀ a,d=some a->∀ j u,(zab c)[j]?=some u->w.cell? (a.add j)=some u:=by
 intro a e j u k;obtain⟨i,rfl⟩:=zcD _ _ _ _ k;obtain⟨b,off,f,g⟩:=h j i;rw[e] at f
 cases f
 rw[Addr.add_lit];exact g
theorem zeu (a:List Int):(zab a).length=a.length:=by unfold zab;exact Zn _ _
theorem zhQ (a:List Int):∀ u ∈ zab a,u.oneCell'=true:=Qd _ _
theorem zix (a b:List Int):zab (a++b)=zab a++zab b:=by
 have c:∀ l,zab l=l.map (λx=>int i64 x):=by
  intro l;unfold zab zS getI
  apply List.ext_getElem?
  intro i
  by_cases hi:i<l.length
  ·rw[List.getElem?_map,List.getElem?_range hi,List.getElem?_map,List.getElem?_eq_getElem hi]
   simp[List.getD_eq_getElem?_getD,List.getElem?_eq_getElem hi]
  ·rw[List.getElem?_eq_none (by simpa using hi),List.getElem?_eq_none (by simpa using hi)]
 rw[c,c,c,List.map_append]
theorem own_legs {w:World}{base e c:Nat}{b:Option Addr}{a:List Int}{n:Nat}(d:a.length=n)(h:w.ownsRow base e 1 (b,n,c) n (zab a)):zT w b n (getI a):=by
 subst d;exact zbo h
section
open Go.RowKit
theorem zQ {w:World}{base e size n:Nat}{v:Value}{k:List Value}(h:w.ownsRow base e size v n k){b t:Nat}{cs:Array Value}(a:w.heap[b]?=some (.cells cs t (0,0)))(f:e≠t):∀ g,v.ownBlock=some g->¬ g=b:=by
 rintro g c rfl
 rcases h.2 with⟨rfl,_⟩|⟨g',i,j,rfl,_,d,_⟩
 ·simp[Value.ownBlock] at c
 ·simp only[Value.ownBlock,Option.some.injEq] at c
  subst c;rw[d] at a;simp only[Option.some.injEq,Obj.cells.injEq] at a;exact f a.2.1
def bkC (S:Nat->ql)(L:Nat->Value)(k:Nat):List Value :=
 [int i64 (S k).name,int i64 (S k).who,.string (S k).own,L k,int i64 (S k).pe,int i64 (S k).len,int i64 (S k).hei,int i64 (S k).cl,.bool (S k).all,int i64 (S k).be,int i64 (S k).state,int i64 (S k).unt,int i64 (S k).price]
def zbg (S:Nat->ql)(L:Nat->Value)(N:Nat):List Value:=(List.range (N*13)).map (zZ 13 (bkC S L))
structure ZC (w:World)(base:Nat)(v:Value)(N:Nat)(S:Nat->ql)(L:Nat->Value):Prop where
 row:w.ownsRow base 150 13 v N (zbg S L N)
 legs:∀ i,i<N->w.ownsRow base 3 1 (L i) (S i).lgn (zS (S i).lg (S i).lgn)
 apart:∀ i j,i<j->j<N->∀ b,(L i).ownBlock=some b->(L j).ownBlock≠some b
theorem zfD (sz:Nat)(b:0<sz)(C a:Nat->List Value)(k:Nat)(c:List Value)(hv:c.length=sz)(d:∀ i,i<k->a i=C i)(f:a k=c) :
  (List.range ((k+1)*sz)).map (zZ sz a)=(List.range (k*sz)).map (zZ sz C)++c:=by
 apply List.ext_getElem?
 intro j;have h1:((List.range (k*sz)).map (zZ sz C)).length=k*sz:=by simp
 by_cases h:j<k*sz
 ·have g:=(Nat.div_lt_iff_lt_mul b).2 h
  rw[List.getElem?_append_left (by rw[h1];exact h),List.getElem?_map,List.getElem?_map,List.getElem?_range h,List.getElem?_range (by rw[Nat.add_mul];omega)]
  simp only[Option.map_some];unfold zZ;rw[d _ g]
 ·rw[List.getElem?_append_right (by rw[h1];omega),h1,List.getElem?_map]
  by_cases h2:j<(k+1)*sz
  ·rw[List.getElem?_range h2]
   simp only[Option.map_some];obtain⟨i,rfl⟩:∃ i,j=k*sz+i:=⟨j - k*sz,by omega⟩
   have e:i<sz:=by rw[Nat.add_mul] at h2;omega
   rw[zC sz a k i e,f,Nat.add_sub_cancel_left,List.getD_eq_getElem?_getD,List.getElem?_eq_getElem (by omega)]
   rfl
  ·rw[List.getElem?_eq_none (by simpa using h2),List.getElem?_eq_none (by rw[Nat.add_mul] at h2;omega)]
   rfl
theorem zng (S:Nat->ql)(L:Nat->Value)(k:Nat)(a:Value):zbg S (atV L k a) (k+1)=zbg S L k++bkC S (atV L k a) k :=
 zfD 13 (by decide) (bkC S L) (bkC S (atV L k a)) k _ rfl (λi hi=>by unfold bkC;rw[qf _ _ _ _ (by omega)]) rfl
section
variable {w w' : World} {base : Nat} {v : Value} {N : Nat} {S : Nat -> ql} {L : Nat -> Value}
theorem ZC.below (h:ZC w base v N S L)(a:Below w.heap.size w w'):ZC w' base v N S L :=
 ⟨zo a h.row,λi b=>zo a (h.legs i b),h.apart⟩
theorem ZC.other {T:Nat->Prop}(h:ZC w base v N S L)(e:zx w w' T)(c:∀ b,T b->∃ cs t,w.heap[b]?=some (.cells cs t (0,0))/\150≠t/\3≠t):ZC w' base v N S L :=
 ⟨e.own h.row (λg a s=>by obtain⟨cs,t,h1,h2,_⟩:=c g s;exact zQ h.row h1 h2 g a rfl),λi d=>e.own (h.legs i d) (λg a s=>by obtain⟨cs,t,h1,_,h2⟩:=c g s;exact zQ (h.legs i d) h1 h2 g a rfl),h.apart⟩
theorem ZC.lower {a b:Nat}(h:ZC w a v N S L)(c:b<=a):ZC w b v N S L :=
 ⟨zu h.row c,λi d=>zu (h.legs i d) c,h.apart⟩
theorem ZC.nil (w:World)(base:Nat)(S:Nat->ql)(L:Nat->Value):ZC w base True 0 S L :=
 ⟨⟨rfl,.inl ⟨rfl,rfl⟩⟩,λi a=>by omega,λi j a hj=>by omega⟩
theorem ZC.is (h:ZC w base v N S L){k:Nat}(a:k<N):ql.Is w (bkC S L k) (S k):=by
 obtain⟨f,g,e,b,c,d⟩:=zp (h.legs k a);have o:=h.legs k a;rw[e] at o;unfold maxLen at c;exact⟨f,g,by unfold bkC;rw[e],zbo o,⟨b,by omega,d⟩⟩
theorem ZC.at {a:Option Addr}{c:Nat}(h:ZC w base (a,N,c) N S L):qO w a N S:=by
 refine⟨_,λk b=>?_,λk b=>h.is b⟩
 obtain⟨g,rfl,_,_⟩:=qh h.row (by omega)
 refine⟨g,0,rfl,λj d=>?_⟩
 rw[Nat.zero_add,zs h.row _ (by omega) rfl,zC 13 _ k j d]
theorem ZC.snoc {k:Nat}{r p:Value}{lim:Nat}(h:ZC w base v k S L)(n:∀ i,i<k->∀ b,(L i).ownBlock=some b->b<lim)
  (o:w.ownsRow lim 3 1 p (S k).lgn (zS (S k).lg (S k).lgn)) (l:base<=lim) (s:w.grownBy w' v.ownBlock)
  (t:w'.ownsRow base 150 13 r (k+1) (zbg S L k++bkC S (atV L k p) k)):ZC w' base r (k+1) S (atV L k p):=by
 have q:=qJ s;refine⟨by rw[zng];exact t,λi hi=>?_,λi j m hj=>?_⟩
 ·by_cases e:i=k
  ·subst e;rw[qu];exact q.own (zu o l) (λg d f=>zI h.row (zu o l) (by decide) g f d)
  ·rw[qf _ _ _ _ e];exact q.own (h.legs i (by omega)) (λg d f=>zI h.row (h.legs i (by omega)) (by decide) g f d)
 ·by_cases e:j=k
  ·subst e
   rw[qu,qf _ _ _ _ (by omega)]
   intro b h1 h3;have a:=n i m b h1;have c:=(o.lt b h3).1
   omega
  ·rw[qf _ _ _ _ e,qf _ _ _ _ (by omega)]
   exact h.apart i j m (by omega)
theorem ZC.congr {S':Nat->ql}(h:ZC w base v N S L)(e:∀ i,i<N->S i=S' i):ZC w base v N S' L:=by
 refine⟨?_,λi a=>by rw[← e i a];exact h.legs i a,h.apart⟩
 have b:zbg S' L N=zbg S L N:=List.map_congr_left λj c=>by
  have d:=by simpa using c
  unfold zZ bkC;rw[e _ (by omega)]
 rw[b];exact h.row
end
end
end Go.Proofs.YtmdnjgihooflfaaGreatDoor
