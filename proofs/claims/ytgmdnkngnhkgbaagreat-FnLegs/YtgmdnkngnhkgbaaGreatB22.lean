import Derived.Lib.AppendZeros
import Derived.Lib.SliceRun
import Derived.Laws.CopyRow
import Derived.ProofKit
import Derived.OpenShut
import Derived.ChangeOld
import Derived.SizedLaws
import Derived.Deep.Slices
import Derived.Deep.Strs
import Derived.Lib.SmallJoins
import Derived.Test.YtgmdnkngnhkgbaaGreatB17
import Derived.Test.YtgmdnkngnhkgbaaGreatB04
namespace Go.Proofs.YtgmdnkngnhkgbaaGreat
open Go.RowKit
open Go.Value (int)
open Go.IntKind (i64)
set_option maxHeartbeats 64000000
set_option maxRecDepth 1000000
theorem Q1 {S:Nat->qW}{r i:Nat}(h:i<r):Zi S r i=S i:=if_pos h
theorem zaK {S:Nat->qW}{r i:Nat}(h:r<=i):Zi S r i=S (i+1):=if_neg (by omega)
theorem zcJ {S:Nat->qW}{r i:Nat}{x:Int}(h:Has (Zb (Zi S r)) i x):Has (Zb S) (i+1) x:=by
 obtain⟨j,hj,e⟩:=h
 by_cases c:j<r
 ·exact⟨j,by omega,by rw[← e];unfold Zb;rw[Q1 c]⟩
 ·exact⟨j+1,by omega,by rw[← e];unfold Zb;rw[zaK (by omega)]⟩
theorem zff (S:Nat->qW)(r k i:Nat)(h:r<=i):zeU (Zi S r) k i+(if (S r).ln=(k:Int) then (S r).len else 0)=zeU S k (i+1):=by
 induction i with
 | zero =>
  have e:r=0:=by omega
  subst e
  rfl
 | succ i ih =>
  by_cases c:r=i+1
  ·subst c
   rw[zdH k (i+1) (fun j b=>Q1 b)]
   rfl
  ·have a:=ih (by omega)
   rw[zeU,zaK (by omega:r<=i)]
   rw[show zeU S k (i+1+1)=zeU S k (i+1)+(if (S (i+1)).ln=(k:Int) then (S (i+1)).len else 0) from rfl,← a]
   omega
theorem zfg {p:zP}{n:Nat}{S:Nat->qW}{r:Nat}(h:zaf p (n+1) S)(u:r<=n):zaf p n (Zi S r):=by
 obtain⟨s,hn,o,q⟩:=(Zd p (n+1) S).2 h;refine(Zd p n _).1 ⟨s,by omega,fun i hi=>?_,fun k t=>?_⟩
 ·by_cases c:i<r
  ·obtain⟨d,e,f,g,l⟩:=o i (by omega)
   unfold OkS;rw[Q1 c];refine⟨d,e,f,g,fun m=>l ((zcI (fun j hj=>?_)).1 m)⟩
   unfold Zb;rw[Q1 (by omega)]
  ·obtain⟨d,e,f,g,l⟩:=o (i+1) (by omega)
   unfold OkS;rw[zaK (by omega)]
   exact⟨d,e,f,g,fun m=>l (zcJ m)⟩
 ·have a:=q k t
  have b:=zff S r k n u;have c:=(o r (by omega)).2.2.1
  unfold In at c;unfold Zy at a ⊢
  split at b <;> omega
theorem zef {S:Nat->qW}{n r:Nat}{x:Int}(hr:r<=n)(b:(S r).who≠x):Has (Zb (Zi S r)) n x↔Has (Zb S) (n+1) x:=by
 refine⟨zcJ,?_⟩;rintro⟨j,hj,e⟩
 by_cases c:j<r
 ·exact⟨j,by omega,by rw[← e];unfold Zb;rw[Q1 c]⟩
 ·have a:j≠r:=fun q=>b (by rw[← q];exact e)
  refine⟨j - 1,by omega,?_⟩
  rw[← e];unfold Zb;rw[zaK (by omega),show j - 1+1=j by omega]
section
open Go.RowKit
section
variable {P : Program} {ops : Array Oper} {Q : Exit -> Act -> World -> Prop} {md : Region.Mode} {S : World -> Prop} {z : Nat}
theorem zeu {i:Nat}{s:Oper}{v:Value}(G:ops[i]?=some s)(hz:z=ops.size)(p:∀ (j:Nat)(o:Oper) cs b,ops[j]?=some o->o.op≠.select cs b)
  (O:∀ c a w,Q (.panic c) (a.put s.dst v) w->Q (.panic c) a w) :
  ∀ (f:Nat) (d:Array Bool) (a:Act) (w:World),
   (∀ j t,ops[j]?=some t->j≠i->d.getD j true=false->(∀ e ∈ t.after,Region.binds md e=true->e.on≠i)->s.apart ops t=true) ->
   i ∈ Region.ready md ops d->YieldsIf P ops S s v a->S w ->
   Zk P md ops Q S z f (d.setIfInBounds i true) (a.put s.dst v) w->Zk P md ops Q S z (f+1) d a w:=by
 intro f
 induction f with
 | zero =>
  intro d a w _ r D u H;refine⟨fun h=>(by rw[h] at r;cases r),fun j C=>?_⟩
  by_cases hji:j=i
  ·subst hji;exact D.wpOp G u ⟨fun _=>u,H⟩
  ·have:=ready_mono C hji
   rw[H.1] at this
   cases this
 | succ f ih =>
  intro d a w g r D u H;refine⟨fun h=>(by rw[h] at r;cases r),fun j C=>?_⟩
  by_cases hji:j=i
  ·subst hji;exact D.wpOp G u ⟨fun _=>u,H⟩
  ·have q:=H.2 j (ready_mono C hji)
   obtain⟨n,t,m,x⟩:=mem_ready.1 C;have I:j≠z:=fun e=>by
    have:=(Array.getElem?_eq_some_iff.1 m).1
    omega
   have y:∀ e ∈ t.after,Region.binds md e=true->e.on≠i:=fun e T R F=>by
    have q:=x e T R;have L:=(mem_ready.1 r).1;rw[F] at q
    rcases Nat.lt_or_ge i d.size with E|E
    ·simp[E] at L q;rw[L] at q;cases q
    ·simp[Array.getElem?_eq_none E] at q
   have N:=wpOp_putIf m (g j t m hji n y) (fun cs b=>p i s cs b G) (fun cs b=>p j t cs b m) O D q
   have l:∀ k ok,ops[k]?=some ok->k≠i->(d.setIfInBounds j true).getD k true=false ->
     (∀ e ∈ ok.after,Region.binds md e=true->e.on≠i)->s.apart ops ok=true:=fun k ok U J A K=>by
    refine g k ok U J ?_ K
    by_cases hjk:j=k
    ·subst hjk;exact n
    ·rw[getD_set_ne true hjk] at A;exact A
   refine wpOp_mono (fun M w' B=>⟨B.2.1,ih (d.setIfInBounds j true) M w' l (ready_mono r (Ne.symm hji)) B.1 (B.2.1 I) ?_⟩) N
   rw[Array.setIfInBounds_comm _ _ hji];exact B.2.2
end
section
variable {P : Program} {l : List Oper} {Q : Exit -> Act -> World -> Prop} {md : Region.Mode} {S : World -> Prop} {z : Nat}
theorem zfz {i:Nat}{f:Oper}{v:Value}{d:Nat}{b:List Bool}{a:Act}{w:World}(g:l[i]?=some f)
  (e:(Region.noSelect l.toArray && Region.free md l.toArray b.toArray i && (Region.ready md l.toArray b.toArray).contains i && (z == l.toArray.size))=true)
  (j:∀ c a w,Q (.panic c) (a.put f.dst v) w->Q (.panic c) a w) (m:YieldsIf P l.toArray S f v a) (k:S w)
  (h:Zk P md l.toArray Q S z d (b.set i true).toArray (a.put f.dst v) w):Zk P md l.toArray Q S z (d+1) b.toArray a w:=by
 rw[Bool.and_eq_true,Bool.and_eq_true,Bool.and_eq_true] at e;exact zeu (i:=i) (by simpa using g) (by simpa using e.2) (Region.noSelect_spec e.1.1.1) j d _ a w (Region.free_spec (by simpa using g) e.1.1.2) (by simpa using e.1.2) m k (by simpa using h)
end
theorem tkN {P:Program}{l:List Oper}{Q:Exit->Act->World->Prop}{f:Region.Mode}{S:World->Prop}{z:Nat}(i:Nat){e:Oper}{v:Value}{d:Nat}{b:List Bool}{a:Act}{w:World}(k:l[i]?=some e)
  (m:(Region.noSelect l.toArray && Region.free f l.toArray b.toArray i && (Region.ready f l.toArray b.toArray).contains i && (z == l.toArray.size))=true)
  (g:∀ c a w,Q (.panic c) (a.put e.dst v) w->Q (.panic c) a w) (n:Region.wanted e (yielded l.toArray a.tmps)=true) (j:S w) (o:∀ w,S w->(execOp a.eval e).run P w=.ok (.value v) w)
  (h:Zk P f l.toArray Q S z d (b.set i true).toArray (a.put e.dst v) w):Zk P f l.toArray Q S z (d+1) b.toArray a w:=zfz k m g (Or.inl ⟨n,o⟩) j h
end
section
open Go.RowKit
def atG {α:Type}(f:Nat->α)(k:Nat)(v:α):Nat->α:=fun i=>if i=k then v else f i
theorem zce {α:Type}(f:Nat->α)(k:Nat)(v:α):atG f k v k=v:=if_pos rfl
theorem zcf {α:Type}(f:Nat->α)(k:Nat)(v:α)(i:Nat)(h:i≠k):atG f k v i=f i:=if_neg h
structure qS (w:World)(base:Nat)(v:Value)(N:Nat)(S:Nat->Sail)(L C:Nat->Value):Prop where
 row:w.ownsRow base 33 8 v N ((List.range (N*8)).map (sailCell S L C))
 la:∀ i,i<N->w.ownsRow base 88 2 (L i) (S i).la.n (zR (S i).la)
 ca:∀ i,i<N->w.ownsRow base 96 2 (C i) (S i).ca.n (zR (S i).ca)
section
variable {w w' : World} {base N : Nat} {v : Value} {S : Nat -> Sail} {L C : Nat -> Value}
theorem qS.below (h:qS w base v N S L C)(a:Below w.heap.size w w'):qS w' base v N S L C :=
 ⟨zp a h.row,fun i b=>zp a (h.la i b),fun i b=>zp a (h.ca i b)⟩
theorem qS.kept {T:Nat->Prop}(h:qS w base v N S L C)(e:zA w w' T)(d:∀ b,T b->b<base):qS w' base v N S L C :=
 ⟨e.own h.row (fun g a s=>by have:=(h.row.lt g a).1;have:=d g s;omega),fun i c=>e.own (h.la i c) (fun g a s=>by have:=((h.la i c).lt g a).1;have:=d g s;omega),
  fun i c=>e.own (h.ca i c) (fun g a s=>by have:=((h.ca i c).lt g a).1;have:=d g s;omega)⟩
theorem qS.box {b:Nat}{cs:Array Value}(h:qS w base v N S L C)(e:w.heap[b]?=some (.cells cs 33 (0,0)))(d:∀ g,v.ownBlock=some g->¬ g=b)(c:zA w w' (fun k=>k=b)):qS w' base v N S L C :=
 ⟨c.own h.row d,fun i a=>c.own (h.la i a) (own_not (h.la i a) e (by decide)),fun i a=>c.own (h.ca i a) (own_not (h.ca i a) e (by decide))⟩
theorem qS.at {b:Option Addr}{c:Nat}(h:qS w base (.slice b N c) N S L C):SailsAt w b N S:=by
 intro k a;obtain⟨g,rfl,_,_⟩:=own_addr h.row (by omega)
 obtain⟨la,r,d,o,p,q⟩:=zr (h.la k a);obtain⟨ca,n,e,j,l,m⟩:=zr (h.ca k a);have f:=h.la k a;have i:=h.ca k a;rw[d] at f;rw[e] at i;refine⟨g,0,la,r,ca,n,rfl,?_,?_,?_,?_,?_,?_,?_,?_,pairs_of_own f,pairs_of_own i,⟨o,p,q⟩,⟨j,l,m⟩⟩
 ·rw[Nat.zero_add,zx h.row (k*8) (by omega) rfl,sailCell_0]
 ·rw[Nat.zero_add,zx h.row (k*8+1) (by omega) rfl,sailCell_1]
 ·rw[Nat.zero_add,zx h.row (k*8+2) (by omega) rfl,sailCell_2]
 ·rw[Nat.zero_add,zx h.row (k*8+3) (by omega) rfl,sailCell_3]
 ·rw[Nat.zero_add,zx h.row (k*8+4) (by omega) rfl,sailCell_4]
 ·rw[Nat.zero_add,zx h.row (k*8+5) (by omega) rfl,sailCell_5,d]
 ·rw[Nat.zero_add,zx h.row (k*8+6) (by omega) rfl,sailCell_6,e]
 ·rw[Nat.zero_add,zx h.row (k*8+7) (by omega) rfl,sailCell_7]
theorem qS.nil (w:World)(base:Nat)(S:Nat->Sail)(L C:Nat->Value):qS w base (.slice none 0 0) 0 S L C :=
 ⟨⟨rfl,.inl ⟨rfl,rfl⟩⟩,fun i a=>by omega,fun i a=>by omega⟩
theorem zev (S:Nat->Sail)(L C:Nat->Value)(k:Nat)(x:Sail)(b a:Value) :
  (List.range ((k+1)*8)).map (sailCell (atG S k x) (atG L k b) (atG C k a))=(List.range (k*8)).map (sailCell S L C)++[int i64 x.id,.string x.fr,.string x.dst,int i64 x.dep,int i64 x.arr,b,a,int i64 x.most]:=by
 rw[show(k+1)*8=k*8+1+1+1+1+1+1+1+1 by omega,List.range_succ,List.range_succ,List.range_succ,List.range_succ,List.range_succ,List.range_succ,List.range_succ,List.range_succ]
 simp only[List.map_append,List.map_cons,List.map_nil,List.append_assoc,List.cons_append,List.nil_append];rw[sailCell_0,sailCell_1,show k*8+1+1=k*8+2 by omega,sailCell_2,show k*8+2+1=k*8+3 by omega,sailCell_3,show k*8+3+1=k*8+4 by omega,sailCell_4,show k*8+4+1=k*8+5 by omega,sailCell_5,show k*8+5+1=k*8+6 by omega,sailCell_6,show k*8+6+1=k*8+7 by omega,sailCell_7,zce,zce,zce]
 congr 1
 refine List.map_congr_left fun j c=>?_
 have d:j<k*8:=by simpa using c
 unfold sailCell;rw[zcf _ _ _ _ (show j / 8≠k by omega),zcf _ _ _ _ (show j / 8≠k by omega),zcf _ _ _ _ (show j / 8≠k by omega)]
theorem qS.snoc {x:Sail}{v' f d:Value}(h:qS w base v N S L C)(hl:w.ownsRow base 88 2 f x.la.n (zR x.la))(j:w.ownsRow base 96 2 d x.ca.n (zR x.ca))(k:w.grownBy w' v.ownBlock)
  (m:w'.ownsRow base 33 8 v' (N+1) ((List.range (N*8)).map (sailCell S L C)++[int i64 x.id,.string x.fr,.string x.dst,int i64 x.dep,int i64 x.arr,f,d,int i64 x.most])) :
  qS w' base v' (N+1) (atG S N x) (atG L N f) (atG C N d):=by
 have c:=zS k;refine⟨by rw[zev];exact m,fun i l=>?_,fun i l=>?_⟩
 ·by_cases e:i=N
  ·subst e;rw[zce,zce];exact c.own hl (fun g a b=>own_apart h.row hl (by decide) g b a)
  ·rw[zcf _ _ _ _ e,zcf _ _ _ _ e];exact c.own (h.la i (by omega)) (fun g a b=>own_apart h.row (h.la i (by omega)) (by decide) g b a)
 ·by_cases e:i=N
  ·subst e;rw[zce,zce];exact c.own j (fun g a b=>own_apart h.row j (by decide) g b a)
  ·rw[zcf _ _ _ _ e,zcf _ _ _ _ e];exact c.own (h.ca i (by omega)) (fun g a b=>own_apart h.row (h.ca i (by omega)) (by decide) g b a)
end
structure zfN (w wr:World)(d:Nat)(e:Option Addr)(n c a:Nat)(v:Value)(N:Nat)(S:Nat->Sail)(L C:Nat->Value):Prop where
 cur:CurX wr d e n c a
 kept:zA w wr (fun b=>b=d)
 lie:qS wr w.heap.size v N S L C
 short:ShortAll N S 100
structure zau (w wr:World)(b h:Nat)(f:Option Addr)(n c a:Nat)(v:Value)(N:Nat)(S:Nat->Sail)(L C:Nat->Value)(x:Sail)(e d:Value):Prop where
 l:zfN w wr h f n c a v N S L C
 lo:w.heap.size<=b
 box:wr.heap[b]?=some (.cells #[int i64 x.id,.string x.fr,.string x.dst,int i64 x.dep,int i64 x.arr,e,d,int i64 x.most] 33 (0,0))
 ne:∀ g,v.ownBlock=some g->¬ g=b
 la:wr.ownsRow w.heap.size 88 2 e x.la.n (zR x.la)
 ca:wr.ownsRow w.heap.size 96 2 d x.ca.n (zR x.ca)
 sx:ShortS x 100
section
variable {w wr w' : World} {xb cb n c a N : Nat} {ao : Option Addr} {v : Value} {S : Nat -> Sail} {L C : Nat -> Value} {x : Sail} {vl vc : Value}
theorem zfN.on {d:Nat}(h:zfN w wr cb ao n c a v N S L C)(i:cb<w.heap.size)(g:CurX w' cb ao n c d)(f:zA wr w' (fun b=>b=cb)):zfN w w' cb ao n c d v N S L C :=
 ⟨g,h.kept.trans f,h.lie.kept f (fun b e=>by have e:b=cb:=e;omega),h.short⟩
theorem zfN.below (h:zfN w wr cb ao n c a v N S L C)(b:Below wr.heap.size wr w'):zfN w w' cb ao n c a v N S L C :=
 ⟨h.cur.below b,h.kept.trans (zA.of_below b),h.lie.below b,h.short⟩
theorem zfN.more {b:Nat}(h:zfN w wr cb ao n c a v N S L C)(d:a<=b):zfN w wr cb ao n c b v N S L C:=⟨h.cur.more d,h.kept,h.lie,h.short⟩
theorem zau.on {j:Nat}(h:zau w wr xb cb ao n c a v N S L C x vl vc)(f:cb<w.heap.size)(k:CurX w' cb ao n c j)(d:zA wr w' (fun b=>b=cb)):zau w w' xb cb ao n c j v N S L C x vl vc:=by
 have l:=h.lo;exact⟨h.l.on f k d,h.lo,d.blk h.box (by show ¬ xb=cb;omega),h.ne,d.own h.la (fun g i e=>by have e:g=cb:=e;have:=(h.la.lt g i).1;omega),d.own h.ca (fun g i e=>by have e:g=cb:=e;have:=(h.ca.lt g i).1;omega),h.sx⟩
theorem zau.below (h:zau w wr xb cb ao n c a v N S L C x vl vc)(b:Below wr.heap.size wr w'):zau w w' xb cb ao n c a v N S L C x vl vc :=
 ⟨h.l.below b,h.lo,zb h.box b,h.ne,zp b h.la,zp b h.ca,h.sx⟩
theorem zau.more {b:Nat}(h:zau w wr xb cb ao n c a v N S L C x vl vc)(d:a<=b):zau w wr xb cb ao n c b v N S L C x vl vc:=⟨h.l.more d,h.lo,h.box,h.ne,h.la,h.ca,h.sx⟩
theorem zau.put (h:zau w wr xb cb ao n c a v N S L C x vl vc)(p:cb<w.heap.size)(hl:CodeLow w ao n){y:Sail}{i wc:Value}(d:zA wr w' (fun b=>b=xb))
  (o:w'.heap[xb]?=some (.cells #[int i64 y.id,.string y.fr,.string y.dst,int i64 y.dep,int i64 y.arr,i,wc,int i64 y.most] 33 (0,0)))
  (h7:wr.ownsRow w.heap.size 88 2 i y.la.n (zR y.la)) (h8:wr.ownsRow w.heap.size 96 2 wc y.ca.n (zR y.ca)) (m:ShortS y 100):zau w w' xb cb ao n c a v N S L C y i wc:=by
 have g:=h.lo;exact⟨⟨h.l.cur.far d (by show ¬ cb=xb;omega) (fun k f b off l j=>by have j:b=xb:=j;have:=hl k f b off l;omega),kept_away' h.l.kept d (fun b e=>by have e:b=xb:=e;omega),h.l.lie.box h.box h.ne d,h.l.short⟩,
  g,o,h.ne,d.own h7 (own_not h7 h.box (by decide)),d.own h8 (own_not h8 h.box (by decide)),m⟩
theorem zcv (w:World)(b i:Nat)(u:Value):zA w (w.setCell ⟨b,i,none⟩ u) (fun k=>k=b):=(zA.refl w (fun k=>k=b)).set (a:=⟨b,i,none⟩) rfl u
theorem zau.fr (h:zau w wr xb cb ao n c a v N S L C x vl vc)(b:cb<w.heap.size)(hl:CodeLow w ao n)(s:ByteArray)(d:s.size<=100):zau w (wr.setCell ⟨xb,1,none⟩ (.string s)) xb cb ao n c a v N S L C { x with fr:=s } vl vc:=h.put b hl (zcv _ _ _ _) (by simpa using zt h.box 1 (.string s)) h.la h.ca ⟨d,h.sx.2.1,h.sx.2.2.1,h.sx.2.2.2⟩
theorem zau.to (h:zau w wr xb cb ao n c a v N S L C x vl vc)(b:cb<w.heap.size)(hl:CodeLow w ao n)(s:ByteArray)(d:s.size<=100):zau w (wr.setCell ⟨xb,2,none⟩ (.string s)) xb cb ao n c a v N S L C { x with dst:=s } vl vc:=h.put b hl (zcv _ _ _ _) (by simpa using zt h.box 2 (.string s)) h.la h.ca ⟨h.sx.1,d,h.sx.2.2.1,h.sx.2.2.2⟩
theorem zau.dep (h:zau w wr xb cb ao n c a v N S L C x vl vc)(b:cb<w.heap.size)(hl:CodeLow w ao n)(z:Int):zau w (wr.setCell ⟨xb,3,none⟩ (int i64 z)) xb cb ao n c a v N S L C { x with dep:=z } vl vc:=h.put b hl (zcv _ _ _ _) (by simpa using zt h.box 3 (int i64 z)) h.la h.ca h.sx
theorem zau.arr (h:zau w wr xb cb ao n c a v N S L C x vl vc)(b:cb<w.heap.size)(hl:CodeLow w ao n)(z:Int):zau w (wr.setCell ⟨xb,4,none⟩ (int i64 z)) xb cb ao n c a v N S L C { x with arr:=z } vl vc:=h.put b hl (zcv _ _ _ _) (by simpa using zt h.box 4 (int i64 z)) h.la h.ca h.sx
theorem zau.whole (h:zau w wr xb cb ao n c a v N S L C x vl vc)(d:cb<w.heap.size)(hl:CodeLow w ao n){y:Sail}{e wc:Value}{z:World}
  (f:z=((((((((wr.setCell ⟨xb,0,none⟩ (int i64 y.id)).setCell ⟨xb,1,none⟩ (.string y.fr)).setCell ⟨xb,2,none⟩ (.string y.dst)).setCell ⟨xb,3,none⟩ (int i64 y.dep)).setCell ⟨xb,4,none⟩ (int i64 y.arr)).setCell ⟨xb,5,none⟩ e).setCell ⟨xb,6,none⟩ wc).setCell ⟨xb,7,none⟩ (int i64 y.most)))
  (h7:wr.ownsRow w.heap.size 88 2 e y.la.n (zR y.la)) (h8:wr.ownsRow w.heap.size 96 2 wc y.ca.n (zR y.ca)) (g:ShortS y 100):zau w z xb cb ao n c a v N S L C y e wc:=by
 refine h.put d hl ?_ ?_ h7 h8 g
 ·rw[f]
  exact((((((((zA.refl wr (fun b=>b=xb)).set (a:=⟨xb,0,none⟩) rfl _).set (a:=⟨xb,1,none⟩) rfl _).set (a:=⟨xb,2,none⟩) rfl _).set (a:=⟨xb,3,none⟩) rfl _).set (a:=⟨xb,4,none⟩) rfl _).set (a:=⟨xb,5,none⟩) rfl _).set (a:=⟨xb,6,none⟩) rfl _).set (a:=⟨xb,7,none⟩) rfl _
 ·rw[f]
  exact box_eight h.box _ _ _ _ _ _ _ _
theorem zau.snoc {v':Value}(h:zau w wr xb cb ao n c a v N S L C x vl vc)(o:cb<w.heap.size)(hl:CodeLow w ao n)(g:wr.grownBy w' v.ownBlock)
  (p:w'.ownsRow w.heap.size 33 8 v' (N+1) ((List.range (N*8)).map (sailCell S L C)++[int i64 x.id,.string x.fr,.string x.dst,int i64 x.dep,int i64 x.arr,vl,vc,int i64 x.most])) :
  zfN w w' cb ao n c a v' (N+1) (atG S N x) (atG L N vl) (atG C N vc):=by
 have j:=zS g;have d:∀ b,v.ownBlock=some b->w.heap.size<=b:=fun b e=>(h.l.lie.row.lt b e).1
 refine⟨h.l.cur.far j (fun e=>by have:=d _ e;omega) (fun k f b off l m=>by have:=d _ m;have:=hl k f b off l;omega),kept_away' h.l.kept j (fun b e=>d b e),h.l.lie.snoc h.la h.ca g p,fun i hi=>?_⟩
 by_cases e:i=N
 ·subst e;rw[zce];exact h.sx
 ·rw[zcf _ _ _ _ e];exact h.l.short i (by omega)
end
end
section
open Go.RowKit Classical
noncomputable def onL (P:Nat->Prop):Nat->List Nat
 | 0=>[]
 | n+1=>if P n then onL P n++[n] else onL P n
theorem QR {P:Nat->Prop}{n:Nat}(h:P n):onL P (n+1)=onL P n++[n]:=by rw[onL,if_pos h]
theorem zcg {P:Nat->Prop}{n:Nat}(h:¬ P n):onL P (n+1)=onL P n:=by rw[onL,if_neg h]
noncomputable def onI (P:Nat->Prop)(n j:Nat):Nat:=(onL P n).getD j 0
theorem zaM (P:Nat->Prop){n:Nat}(h:P n):onI P (n+1) (onL P n).length=n:=by unfold onI;rw[QR h];simp
theorem zap (P:Nat->Prop){n j:Nat}(a:j<(onL P n).length):onI P (n+1) j=onI P n j:=by
 unfold onI
 by_cases h:P n
 ·rw[QR h,List.getD_eq_getElem?_getD,List.getD_eq_getElem?_getD,List.getElem?_append_left a]
 ·rw[zcg h]
theorem zex (P:Nat->Prop)(n:Nat):(onL P n).length=cnt P n:=by
 induction n with
 | zero=>rfl
 | succ n ih =>
  by_cases h:P n
  ·rw[QR h,Ze h,List.length_append,ih];rfl
  ·rw[zcg h,Zu h,ih]
theorem zgC (P:Nat->Prop)(n:Nat):∀ j,j<(onL P n).length->onI P n j<n/\P (onI P n j):=by
 induction n with
 | zero=>intro j a;simp[onL] at a
 | succ n ih =>
  intro j a
  by_cases h:P n
  ·rw[QR h,List.length_append] at a
   by_cases e:j=(onL P n).length
   ·subst e;rw[zaM P h];exact⟨by omega,h⟩
   ·have b:j<(onL P n).length:=by simp at a;omega
    rw[zap P b];have:=ih j b;exact⟨by omega,this.2⟩
  ·rw[zcg h] at a
   rw[zap P a];have:=ih j a;exact⟨by omega,this.2⟩
theorem onI_all (P:Nat->Prop)(n:Nat):∀ i,i<n->P i->∃ j,j<(onL P n).length/\onI P n j=i:=by
 induction n with
 | zero=>intro i c;omega
 | succ n ih =>
  intro i c a
  by_cases e:i=n
  ·subst e
   exact⟨(onL P i).length,by rw[QR a];simp,zaM P a⟩
  ·obtain⟨j,b,d⟩:=ih i (by omega) a
   refine⟨j,?_,by rw[zap P b];exact d⟩
   by_cases h:P n
   ·rw[QR h,List.length_append];omega
   ·rw[zcg h];exact b
theorem zbC {P Q:Nat->Prop}{n:Nat}(h:∀ i,i<n->(P i↔Q i)):cnt P n=cnt Q n:=by
 induction n with
 | zero=>rfl
 | succ n ih =>
  have b:=ih (fun i hi=>h i (by omega))
  have a:=h n (by omega)
  by_cases c:P n
  ·rw[Ze c,Ze (a.1 c),b]
  ·rw[Zu c,Zu (fun q=>c (a.2 q)),b]
theorem cnt_on (P Q:Nat->Prop)(n:Nat):cnt (fun j=>Q (onI P n j)) (onL P n).length=cnt (fun i=>P i/\Q i) n:=by
 induction n with
 | zero=>rfl
 | succ n ih =>
  have a:cnt (fun j=>Q (onI P (n+1) j)) (onL P n).length=cnt (fun i=>P i/\Q i) n:=by
   rw[← ih];exact zbC (fun j b=>by rw[zap P b])
  by_cases h:P n
  ·rw[show(onL P (n+1)).length=(onL P n).length+1 by rw[QR h];simp]
   by_cases q:Q n
   ·rw[Ze (P:=fun j=>Q (onI P (n+1) j)) (by rw[zaM P h];exact q),Ze (P:=fun i=>P i/\Q i) ⟨h,q⟩,a]
   ·rw[Zu (P:=fun j=>Q (onI P (n+1) j)) (by rw[zaM P h];exact q),Zu (P:=fun i=>P i/\Q i) (fun c=>q c.2),a]
  ·rw[zcg h,Zu (P:=fun i=>P i/\Q i) (fun c=>h c.1)]
   rw[← ih];exact zbC (fun j b=>by rw[zap P b])
def zaq (b:qi):Prop:=b.len=0/\b.hei=0
instance (b:qi):Decidable (zaq b):=by unfold zaq;exact inferInstance
def QS (b:qi):Prop:=b.cl=0/\b.all=false/\b.be=0
instance (b:qi):Decidable (QS b):=by unfold QS;exact inferInstance
def zcm (l:qm)(b:qi):Prop:=zaq b∨(ZC (Zb l.st) b.who l.stn<l.stn/\(l.st (ZC (Zb l.st) b.who l.stn)).len=b.len/\(l.st (ZC (Zb l.st) b.who l.stn)).hei=b.hei)
def zbD (s:Sail)(l:qm)(b:qi):Prop:=QS b∨(ZC (Zh l.ro) b.who l.ron<l.ron/\(l.ro (ZC (Zh l.ro) b.who l.ron)).all=b.all/\(b.all=true∨(l.ro (ZC (Zh l.ro) b.who l.ron)).many=b.be)/\s.ca.A (l.ro (ZC (Zh l.ro) b.who l.ron)).cab.toNat=b.cl)
def zcn (l:qm)(b:qi):Prop:=ZC (ZG l.se) b.who l.sen<l.sen/\(l.se (ZC (ZG l.se) b.who l.sen)).many=b.pe
def Holds (s:Sail)(l:qm)(b:qi):Prop:=zcm l b/\zbD s l b/\zcn l b
def zcW (s:Sail)(l:qm)(m:Nat)(B:Nat->qi):Prop :=
 (∀ j,j<m->Holds s l (B j))/\l.stn=cnt (fun j=>¬ zaq (B j)) m/\l.ron=cnt (fun j=>¬ QS (B j)) m/\l.sen=m
theorem one_of {F:Nat->Int}{n:Nat}(h:∀ i,i<n->¬ Has F i (F i)){j x:Nat}(a:j<n)(b:x<n)(e:F j=F x):j=x:=by
 by_cases c:j<x
 ·exact absurd ⟨j,c,e⟩ (h x b)
 ·by_cases c2:x<j
  ·exact absurd ⟨x,c2,e.symm⟩ (h j a)
  ·omega
theorem zbE {F:Nat->Int}{n:Nat}(h:∀ i,i<n->¬ Has F i (F i)){j:Nat}{q:Int}(b:j<n)(e:F j=q):ZC F q n=j:=by
 have a:ZC F q n<n:=(zaA F n q).1 ⟨j,b,e⟩;exact(one_of h b a (e.trans (zaz F q n a).symm)).symm
theorem zfC {b:qi}(h:qw b.p):zaq b↔b.len=0:=by
 unfold zaq
 constructor
 ·exact fun h=>h.1
 ·intro e
  rcases h.2.1 with c|c
  ·exact c
  ·have:=c.1;unfold In qi.p at this;simp at this;omega
theorem zgY {b:qi}(h:qw b.p):¬ zaq b↔0<b.len:=by
 rw[zfC h]
 rcases h.2.1 with c|c
 ·have:=c.1;unfold qi.p at this;simp at this;omega
 ·have:=c.1;unfold In qi.p at this;simp at this;omega
theorem zfD {b:qi}(h:qw b.p):QS b↔b.cl=0:=by
 unfold QS
 constructor
 ·exact fun h=>h.1
 ·intro e
  rcases h.2.2 with c|c
  ·exact c
  ·have:=c.1;unfold In qi.p at this;simp at this;omega
theorem zgZ {b:qi}(h:qw b.p):¬ QS b↔0<b.cl:=by
 rw[zfD h]
 rcases h.2.2 with c|c
 ·have:=c.1;unfold qi.p at this;simp at this;omega
 ·have:=c.1;unfold In qi.p at this;simp at this;omega
theorem zfE {s:Sail}{l:qm}{b:qi}(hl:zV s l)(n:qw b.p):Holds s l b↔QP s l b:=by
 obtain⟨t,u,v⟩:=hl;have u1:∀ i,i<l.stn->¬ Has (Zb l.st) i (Zb l.st i):=fun i a=>(t.2.2.1 i a).2.2.2.2
 have u2:∀ i,i<l.ron->¬ Has (Zh l.ro) i (Zh l.ro i):=fun i a=>(u.2.2.1 i a).1.2.1
 have u3:∀ i,i<l.sen->¬ Has (ZG l.se) i (ZG l.se i):=fun i a=>(v.2.2.1 i a).2.1
 unfold Holds QP zcm zbD zcn;rw[zfC n,zfD n]
 constructor
 ·rintro⟨r,k,c⟩
  refine⟨⟨_,c.1,zaz (ZG l.se) _ _ c.1,c.2⟩,?_,?_⟩
  ·rcases r with h|h
   ·exact .inl h
   ·exact .inr ⟨_,h.1,zaz (Zb l.st) _ _ h.1,h.2.1,h.2.2⟩
  ·rcases k with h|h
   ·exact .inl h
   ·exact .inr ⟨_,h.1,zaz (Zh l.ro) _ _ h.1,h.2.1,h.2.2.2,h.2.2.1⟩
 ·rintro⟨⟨j,m,p,q⟩,k,c⟩
  refine⟨?_,?_,?_⟩
  ·rcases k with h|⟨i,a,d,f,g⟩
   ·exact .inl h
   ·have e:ZC (Zb l.st) b.who l.stn=i:=zbE u1 a d
    rw[e];exact .inr ⟨a,f,g⟩
  ·rcases c with h|⟨i,a,d,f,g,o⟩
   ·exact .inl h
   ·have e:ZC (Zh l.ro) b.who l.ron=i:=zbE u2 a d
    rw[e];exact .inr ⟨a,f,o,g⟩
  ·have e:ZC (ZG l.se) b.who l.sen=j:=zbE u3 m p
   rw[e];exact⟨m,q⟩
theorem just_iff {o:Off}{k:Nat}(c:zV (o.sa k) (o.ld k))(f:∀ i,i<o.bkn->qw (o.bk i).p) :
  zcW (o.sa k) (o.ld k) (onL (On o k) o.bkn).length (fun j=>o.bk (onI (On o k) o.bkn j))↔Z5 o k:=by
 have b:∀ j,j<(onL (On o k) o.bkn).length->qw (o.bk (onI (On o k) o.bkn j)).p:=fun j a=>f _ (zgC (On o k) o.bkn j a).1
 have d:cnt (fun j=>¬ zaq (o.bk (onI (On o k) o.bkn j))) (onL (On o k) o.bkn).length=cnt (fun i=>On o k i/\0<(o.bk i).len) o.bkn:=by
  rw[← cnt_on (On o k) (fun i=>0<(o.bk i).len) o.bkn]
  exact zbC (fun j a=>zgY (b j a))
 have e:cnt (fun j=>¬ QS (o.bk (onI (On o k) o.bkn j))) (onL (On o k) o.bkn).length=cnt (fun i=>On o k i/\0<(o.bk i).cl) o.bkn:=by
  rw[← cnt_on (On o k) (fun i=>0<(o.bk i).cl) o.bkn]
  exact zbC (fun j a=>zgZ (b j a))
 unfold zcW Z5;rw[d,e,zex]
 constructor
 ·rintro⟨h,r⟩
  refine⟨fun i g l=>?_,r⟩
  obtain⟨j,a,rfl⟩:=onI_all (On o k) o.bkn i g l;exact(zfE c (b j a)).1 (h j (by rw[← zex];exact a))
 ·rintro⟨h,r⟩
  refine⟨fun j a=>?_,r⟩
  rw[← zex] at a;have:=zgC (On o k) o.bkn j a;exact(zfE c (b j a)).2 (h _ this.1 this.2)
end
theorem zha (x lo a:Int)(w:World)(h:In x lo a) :
  Calls Tryz.prog 74 #[int i64 x,int i64 lo,int i64 a] w fun e w'=>e=.returned (.bool true)/\w'=w:=by
 have e1:decide (lo<=x)=true:=by simpa using h.1
 have e2:decide (x<=a)=true:=by simpa using h.2
 clear h;go_enter Tryz.func74,Tryz.ntmps74;go_wp2;go_ret;exact⟨rfl,rfl⟩
theorem within_no (x lo a:Int)(w:World)(h:¬ In x lo a) :
  Calls Tryz.prog 74 #[int i64 x,int i64 lo,int i64 a] w fun e w'=>e=.returned (.bool false)/\w'=w:=by
 by_cases h1:lo<=x
 ·have b:decide (lo<=x)=true:=by simpa using h1
  have e2:decide (x<=a)=false:=by simp;exact Int.not_le.1 (fun c=>h ⟨h1,c⟩)
  clear h h1;go_enter Tryz.func74,Tryz.ntmps74;go_wp2;go_ret;exact⟨rfl,rfl⟩
 ·have b:decide (lo<=x)=false:=by simpa using h1
  clear h h1;go_enter Tryz.func74,Tryz.ntmps74;go_wp2;go_ret;exact⟨rfl,rfl⟩
theorem zM (x lo a:Int)(w:World) :
  Calls Tryz.prog 74 #[int i64 x,int i64 lo,int i64 a] w fun e w'=>e=.returned (.bool (decide (In x lo a)))/\w'=w:=by
 by_cases h:In x lo a
 ·rw[decide_eq_true h];exact zha x lo a w h
 ·rw[decide_eq_false h];exact within_no x lo a w h
theorem growI_nil (k:Nat)(w:World)(d:0<k)(hk:k<=4194304) :
  Calls Tryz.prog 132 #[.slice none 0 0,int i64 k] w fun e w'=>(∃ v,e=.returned v/\w'.ownsRow w.heap.size 3 1 v 0 [])/\Below w.heap.size w w':=by
 obtain⟨g,h,b,i,c⟩:=info_parts Tryz.infoInt;have a:=Lib.run_append_nil_zeros (P:=Tryz.prog) w 37 3 37 3 g (int i64 0) .i64 .i64 Tryz.underlying37 Tryz.underlying3 h b k d (by omega) (by omega) (by rw[c];omega)
 have d0:decide ((k:Int)<0)=false:=by simp
 have d1:decide (0<k)=true:=by simpa using d
 go_enter Tryz.func132,Tryz.ntmps132;go_wp2_with (first|(at_builtin;refine Lib.wpList_append_run _ rfl _ _ _ _ rfl _ _ rfl rfl _ _ a ?_))
 go_ret;have f:=grownCap_ge w k 0 3;refine⟨⟨_,rfl,rfl,.inr ⟨w.heap.size,_,_,rfl,Nat.le_refl _,heap_alloc_new w _,Nat.zero_le _,grownCap_le_maxLen w k 0 _ (by unfold maxLen;omega),?_,rfl⟩⟩,(zl (Below.refl _ w) _).drew⟩
 rw[Array.size_append,size_zeroCells,size_zeroCells]
 show k*1+(_ - k)*1=_*1
 omega
def cumI (n r:Nat):Nat:=if r=0 then 0 else if r=1 then n else n+1
def partI (a:List Int)(x:Int)(r:Nat):List Int:=if r=0 then [] else if r=1 then a else a++[x]
theorem zgk (A z:Nat)(m:Option Addr)(n B:Nat)(b:List Int)(x:Int)(w:World)(N:b.length=n)(hn:n<=1048576)
  (t:w.heap[A]?=some (.cells #[.slice m n B,.slice (some ⟨z,0,none⟩) 1 1] 37 (0,0))) (U:zX w m n (getI b)) (V:w.cell? ⟨z,0,none⟩=some (int i64 x)) (Q:m=none->n=0/\B=0) :
  Calls Tryz.prog 121 #[.slice (some ⟨A,0,none⟩) 2 2] w fun e w'=>(∃ d J,e=.returned (.slice d (n+1) J)/\w'.ownsRow w.heap.size 3 1 (.slice d (n+1) J) (n+1) (Zt (b++[x])))/\Below w.heap.size w w':=by
 obtain⟨W,X,F,G,H⟩:=info_parts Tryz.infoInt;have E1:=hI N;have S:=World.block_lt_of_cell? w _ V;have HX:Hid (zX w m b.length (getI b)):=by rw[Hid,N];exact U
 clear N U;have Y:w.cell? ⟨A,0,none⟩=some (.slice m n B):=za t 0 _ rfl;have Z:w.cell? ⟨A,1,none⟩=some (.slice (some ⟨z,0,none⟩) 1 1):=za t 1 _ rfl;have c0:cumI n 0=0:=rfl;have T:cumI n 1=n:=rfl;have M:cumI n 2=n+1:=rfl;go_enter Tryz.func121,Tryz.ntmps121;go_wp2;go_loopg [3,5,11] 2 (fun g s _ i wr=>∃ r:Nat,r<=2/\g=2 - r/\i=int i64 r/\s=int i64 (cumI n r)/\wr=w)
 case atStart=>exact⟨0,by omega,rfl,rfl,rfl,rfl⟩
 case round =>
  obtain⟨r,hr,rfl,rfl,rfl,D⟩:=hrel;have E:=D.symm;subst E;clear D;have o:r=0∨r=1∨r=2:=by omega
  rcases o with rfl|rfl|rfl
  ·go_wp2
   go_roundg 1
   case measure=>omega
   case rel=>exact⟨1,by omega,rfl,by go_num,by rw[T],rfl⟩
  ·have hd:decide ((n:Int)+1<0)=false:=by simp;omega
   go_wp2;go_roundg 0
   case measure=>omega
   case rel=>exact⟨2,by omega,rfl,by go_num,by rw[M];go_num,rfl⟩
  ·go_wp2_with fail
   refine(growI_nil (n+1) _ (by omega) (by omega)).mono ?_
   rintro e w1 ⟨⟨v,rfl,R⟩,P⟩;clear Y Z;go_wp2;go_loopg [6,8,27] 2 (fun g u _ i wr=>∃ r:Nat,r<=2/\g=2 - r/\i=int i64 r/\wr.ownsRow w.heap.size 3 1 u (cumI n r) (Zt (partI b x r))/\Below w.heap.size w wr)
   case atStart=>exact⟨0,by omega,rfl,rfl,R,P⟩
   case round =>
    obtain⟨r,hr,rfl,rfl,y,a⟩:=hrel;obtain⟨I,O⟩:∃ x,x=wr:=⟨_,rfl⟩;subst O;have k:=a.size;have l:=zb t a;have Y:I.cell? ⟨A,0,none⟩=some (.slice m n B):=za l 0 _ rfl;have Z:I.cell? ⟨A,1,none⟩=some (.slice (some ⟨z,0,none⟩) 1 1):=za l 1 _ rfl;have o:r=0∨r=1∨r=2:=by omega
    rcases o with rfl|rfl|rfl
    ·have K:=hI (zgF (HX.out.below a))
     go_wp2_with (first|(at_builtin;refine zu _ (by rfl) (.tmp 31) (.tmp 32) 37 (by rfl) w.heap.size 3 W (int i64 0) 1 8 Tryz.underlying37 X F G H rfl (by decide) _ 0 [] (by rfl) y m n B (Zt b) (by rfl) Q (by rw[zbm,E1.out,Nat.mul_one]) K.out (zdz b) (by unfold maxLen;omega) (by omega) k ?_;intro v' w3 f q))
     go_roundg 1
     case measure=>omega
     case rel=>exact⟨1,by omega,rfl,by go_num,by
      rw[T];rw[Nat.zero_add,List.nil_append] at f;exact f,a.grown q k (fun j C=>(y.lt j C).1)⟩
    ·have K:Hid (∀ L,(some ⟨z,0,none⟩:Option Addr)=some L->∀ j u,(Zt [x])[j]?=some u->I.cell? (L.add j)=some u):=by
      intro L e j u hu
      cases e
      obtain⟨C,rfl⟩:=intList_get _ _ _ _ hu;obtain rfl:j=0:=by simpa using C
      exact(a.cell (p:=⟨z,0,none⟩) S).trans V
     have c:I.ownsRow w.heap.size 3 1 u6 n (Zt b):=y;clear y;go_wp2_with (first|(at_builtin;refine zu _ (by rfl) (.tmp 31) (.tmp 32) 37 (by rfl) w.heap.size 3 W (int i64 0) 1 8 Tryz.underlying37 X F G H rfl (by decide) _ n (Zt b) (by rfl) c (some ⟨z,0,none⟩) 1 1 (Zt [x]) (by rfl) (fun h=>(by cases h)) (by rw[zbm];rfl) K.out (zdz _) (by unfold maxLen;omega) (by omega) k ?_;intro v' w3 f q))
     go_roundg 0
     case measure=>omega
     case rel=>exact⟨2,by omega,rfl,by go_num,by
      rw[M];have:Zt (partI b x 2)=Zt b++Zt [x]:=zdV _ _;rw[this];exact f,a.grown q k (fun j C=>(c.lt j C).1)⟩
    ·rw[M] at y
     have c:I.ownsRow w.heap.size 3 1 u6 (n+1) (Zt (b++[x])):=y;clear y;obtain⟨d,J,rfl,_⟩:=zr c;go_wp2;go_ret;exact⟨⟨d,J,rfl,c⟩,a⟩
theorem Tryz.infoBooking:(Tryz.prog.info? 43).map (fun i=>(i.zero,i.size,i.bytes))=some (some (.agg #[int i64 0,int i64 0,.string ⟨#[]⟩,.slice none 0 0,int i64 0,int i64 0,int i64 0,int i64 0,.bool false,int i64 0,int i64 0,int i64 0,int i64 0]),13,128):=by kernel_rfl
theorem zgq {w:World}{c:Option Addr}{n:Nat}{F:Nat->Int}(h:zX w c n F):∀ a,c=some a->∀ j u,(zw F n)[j]?=some u->w.cell? (a.add j)=some u:=by
 intro a e j u i;obtain⟨g,rfl⟩:=intList_get _ _ _ _ i;obtain⟨b,off,d,f⟩:=h j g;rw[e] at d
 cases d
 rw[Addr.add_lit];exact f
theorem zfI (f:Addr)(n c:Nat)(F:Nat->Int)(w:World)(hn:n<=1048576)(s:zX w (some f) n F) :
  Calls Tryz.prog 93 #[.slice (some f) n c] w fun e w'=>(∃ v,e=.returned v/\w'.ownsRow w.heap.size 3 1 v n (zw F n))/\Below w.heap.size w w':=by
 obtain⟨t,u,k,l,m⟩:=info_parts Tryz.infoInt;have b:Below w.heap.size w (w.alloc (.cells #[] 3)):=zl bZ _;have p:(w.alloc (.cells #[] 3)).ownsRow w.heap.size 3 1 (.slice (some ⟨w.heap.size,0,none⟩) 0 0) 0 []:=⟨rfl,.inr ⟨w.heap.size,0,#[],rfl,Nat.le_refl _,heap_alloc_new w _,Nat.le_refl _,Nat.zero_le _,rfl,rfl⟩⟩;have q:=hI (zgq (s.below b));have qT:∀ (w:World) (a:Option Addr) (n c o g:Nat),(binOp .eql 37 (.slice a n c) (.slice none o g)).run Tryz.prog w=.ok (.bool a.isNone) w:=fun w a n c o g=>Lib.run_eql_slice_nil w _ _ a n c o g Tryz.underlying37
 go_enter Tryz.func93,Tryz.ntmps93;go_wp2_with (first|(at_builtin;refine zu _ (by rfl) (.tmp 5) (.tmp 6) 37 (by rfl) w.heap.size 3 t (int i64 0) 1 8 Tryz.underlying37 u k l m rfl (by decide) _ 0 [] (by rfl) p (some f) n c (zw F n) (by rfl) (fun h=>(by cases h)) (by rw[zW,Nat.mul_one]) q.out (intList_one _ _) (by unfold maxLen;omega) (by omega) (by simp) ?_;intro v' w3 d i))
 go_ret;rw[Nat.zero_add,List.nil_append] at d;exact⟨⟨_,rfl,d⟩,b.grown i (by simp) (fun j r=>(p.lt j r).1)⟩
section
open Go.RowKit
end
section
open Go.RowKit
open Classical in
/-- Whether the deck is good. -/
noncomputable def zdT (p:zP)(n:Nat)(S:Nat->qW):Bool:=decide (zaf p n S)
noncomputable def zbV (p:zP)(n:Nat)(S:Nat->qW):Nat:=if zdT p n S then p.n else 0
theorem zbW {p:zP}{n:Nat}{S:Nat->qW}(h:zaf p n S):zdT p n S=true:=by unfold zdT;simpa using h
theorem zfJ {p:zP}{n:Nat}{S:Nat->qW}(h:¬ zaf p n S):zdT p n S=false:=by unfold zdT;simpa using h
theorem zdd {p:zP}{n:Nat}{S:Nat->qW}(h:zaf p n S):zbV p n S=p.n:=by unfold zbV;rw[zbW h];rfl
theorem zhh {p:zP}{n:Nat}{S:Nat->qW}(h:¬ zaf p n S):zbV p n S=0:=by unfold zbV;rw[zfJ h];rfl
def zgs (w':World)(base:Nat)(p:zP)(n:Nat)(S:Nat->qW)(e:Ending):Prop :=
 ∃ v,e=.returned (.tuple #[v,.bool (zdT p n S)])/\w'.ownsRow base 3 1 v (zbV p n S) (zw (Zy p S n) (zbV p n S))
theorem zhi {w:World}{base:Nat}{p:zP}{n:Nat}{S:Nat->qW}(h:¬ zaf p n S):zgs w base p n S (.returned (.tuple #[.slice none 0 0,.bool false])) :=
 ⟨_,by rw[zfJ h],by rw[zhh h];exact⟨rfl,.inl ⟨rfl,rfl⟩⟩⟩
theorem zgt {w:World}{base m:Nat}{p:zP}{n:Nat}{S:Nat->qW}{v:Value}(h:zaf p n S)(a:p.n=m)(b:w.ownsRow base 3 1 v m (zw (Zy p S n) m)):zgs w base p n S (.returned (.tuple #[v,.bool true])) :=
 ⟨_,by rw[zbW h],by rw[zdd h,a];exact b⟩
end
section
open Go.ChangeShapes Go.WideShapes Go.ChangeAt Go.RowKit Go.Deep
section
variable {H : Type} {enc : TypeId × Value -> H} {P : Program} {w : World} {base : Nat} {spare : Nat -> Bool} {held : Bool}
def LenIs (d:DataW H)(n:Nat):Prop:=(d=.nil/\n=0)∨∃ els rest,d=.slice els rest/\els.length=n
theorem len_reach {t e n:Nat}{d:DataW H}{bytes:Nat}(f:P.underlying t=some (.slice e))(b:P.bytesOf e=bytes)(c:LenIs d n)(g:∀ x ∈ DataW.weights P t d,x<=reachBytes):n*bytes<=reachBytes:=by
 rcases c with⟨_,rfl⟩|⟨a,rest,rfl,rfl⟩
 ·omega
 ·have:=g ((a.length+rest.length)*P.bytesOf e) (by simp[DataW.weights,f])
  rw[b] at this;exact Nat.le_trans (Nat.mul_le_mul_right _ (Nat.le_add_right _ _)) this
end
end
section
open Go.ChangeShapes Go.WideShapes Go.ChangeAt Go.RowKit Go.Deep Go.Joins
theorem Tryz.own:ownKnob Tryz.prog.godebug=none:=by kernel_rfl
theorem Tryz.laidOut:laidOutB Tryz.prog=true:=by kernel_rfl
theorem Tryz.cellsByte:Tryz.prog.cellsOf 5=1:=by kernel_rfl
theorem Tryz.bytesByte:Tryz.prog.bytesOf 5=1:=by kernel_rfl
theorem zde {P:Program}{t e:Nat}{w:World}{r:Reach}{base:Nat}{v:Value}(a:P.underlying t=some (.slice e))(h:Value.okWide P w r base t v):v.cells.toList=[v]:=by
 simp only[Value.okWide,a,Cell.okWide] at h
 cases v <;> simp_all [Cell.ok,Value.cells]
theorem wf_u8_in {n:Int}(h:(Lit.int .u8 n).wf=true):0<=n/\n<=255:=by
 have h1:IntKind.u8.min=0:=rfl;have h2:IntKind.u8.max=255:=rfl;simp[Lit.wf] at h
 omega
theorem open_code {H:Type}{enc:TypeId × Value->H}{W:World}{base:Nat}{v:Value}{d:DataW H}{p:List MemPlace}(t:Value.okWide Tryz.prog W .any base 22 v)
  (h:DataW.Trod enc Tryz.prog W 0 (fun _=>true) true 22 v d p) (u:∀ x ∈ DataW.weights Tryz.prog 22 d,x<=reachBytes) :
  ∃ ao n c,v=.slice ao n c/\n<=1000000000000000/\BytesAt W ao n:=by
 obtain⟨l,o⟩:=h;rw[zde Tryz.underlying22 t] at o
 rcases open_ints Tryz.underlying22 Tryz.underlying5 Tryz.cellsByte o with⟨e,q⟩|⟨a,n,cap,g,e,_,hl,hm,w,q,f,j⟩
 ·simp at e
  subst e;exact⟨none,0,0,rfl,by omega,fun k r=>by omega⟩
 ·simp at e
  subst e;simp only[if_true] at w;have s:=len_reach (H:=H) (n:=n) Tryz.underlying22 Tryz.bytesByte (.inr ⟨lits .u8 (g.take n),lits .u8 (g.drop n),by simpa using congrArg Prod.fst q,by simp[lits];omega⟩) u
  unfold reachBytes at s;refine⟨some a,n,cap,rfl,by omega,fun k r=>?_⟩
  obtain⟨b,off,rfl,i⟩:=ints_at f (by omega)
  have m:=wf_u8_in (j (g.getD k 0) (by rw[List.getD_eq_getElem?_getD,List.getElem?_eq_getElem (by omega)];exact List.getElem_mem _))
  exact⟨b,off,g.getD k 0,rfl,i k (by omega),m.1,m.2⟩
end
end Go.Proofs.YtgmdnkngnhkgbaaGreat
