/-
  OWN TEXT: KitY, KitTt.
-/
import Derived.Test.YtfallpinmhbemaaGreatDoorB13
import Derived.Test.YtfallpinmhbemaaGreatDoorB04
namespace Go.Proofs.YtfallpinmhbemaaGreatDoor
open Go.RowKit
open Go.Value (int)
open Go.IntKind (i64)
set_option maxHeartbeats 64000000
set_option maxRecDepth 100000
section
open Go.RowKit
section
variable {P : Program} {ops : Array Oper} {Q : Exit -> Act -> World -> Prop} {md : Region.Mode} {S : World -> Prop} {z : Nat}
theorem zfd {i:Nat}{r:Oper}{v:Value}(F:ops[i]?=some r)(hz:z=ops.size)(n:∀ (j:Nat)(o:Oper) cs b,ops[j]?=some o->o.op≠.select cs b)
  (N:∀ c a w,Q (.panic c) (a.put r.dst v) w->Q (.panic c) a w) :
  ∀ (fuel:Nat) (d:Array Bool) (a:Act) (w:World),
   (∀ j s,ops[j]?=some s->j≠i->d.getD j true=false->(∀ e ∈ s.after,Region.binds md e=true->e.on≠i)->r.apart ops s=true) ->
   i ∈ Region.ready md ops d->YieldsIf P ops S r v a->S w ->
   ZJ P md ops Q S z fuel (d.setIfInBounds i true) (a.put r.dst v) w->ZJ P md ops Q S z (fuel+1) d a w:=by
 intro fuel
 induction fuel with
 | zero =>
  intro d a w _ q C t H;refine⟨fun h=>(by rw[h] at q;cases q),fun j B=>?_⟩
  by_cases hji:j=i
  ·subst hji;exact C.wpOp F t ⟨fun _=>t,H⟩
  ·have:=ready_mono B hji
   rw[H.1] at this
   cases this
 | succ fuel ih =>
  intro d a w f q C t H;refine⟨fun h=>(by rw[h] at q;cases q),fun j B=>?_⟩
  by_cases hji:j=i
  ·subst hji;exact C.wpOp F t ⟨fun _=>t,H⟩
  ·have p:=H.2 j (ready_mono B hji)
   obtain⟨m,s,l,u⟩:=mem_ready.1 B;have G:j≠z:=fun e=>by
    have:=(Array.getElem?_eq_some_iff.1 l).1
    omega
   have x:∀ e ∈ s.after,Region.binds md e=true->e.on≠i:=fun e R O E=>by
    have p:=u e R O;have K:=(mem_ready.1 q).1;rw[E] at p
    rcases Nat.lt_or_ge i d.size with D|D
    ·simp[D] at K p;rw[K] at p;cases p
    ·simp[Array.getElem?_eq_none D] at p
   have M:=wpOp_putIf l (f j s l hji m x) (fun cs b=>n i r cs b F) (fun cs b=>n j s cs b l) N C p
   have g:∀ k ok,ops[k]?=some ok->k≠i->(d.setIfInBounds j true).getD k true=false ->
     (∀ e ∈ ok.after,Region.binds md e=true->e.on≠i)->r.apart ops ok=true:=fun k ok T I y J=>by
    refine f k ok T I ?_ J
    by_cases hjk:j=k
    ·subst hjk;exact m
    ·rw[getD_set_ne true hjk] at y;exact y
   refine wpOp_mono (fun L w' A=>⟨A.2.1,ih (d.setIfInBounds j true) L w' g (ready_mono q (Ne.symm hji)) A.1 (A.2.1 G) ?_⟩) M
   rw[Array.setIfInBounds_comm _ _ hji];exact A.2.2
end
section
variable {P : Program} {l : List Oper} {Q : Exit -> Act -> World -> Prop} {md : Region.Mode} {S : World -> Prop} {z : Nat}
theorem zB {i:Nat}{e:Oper}{v:Value}{fuel:Nat}{b:List Bool}{a:Act}{w:World}(f:l[i]?=some e)
  (d:(Region.noSelect l.toArray && Region.free md l.toArray b.toArray i && (Region.ready md l.toArray b.toArray).contains i && (z == l.toArray.size))=true)
  (g:∀ c a w,Q (.panic c) (a.put e.dst v) w->Q (.panic c) a w) (k:YieldsIf P l.toArray S e v a) (j:S w)
  (h:ZJ P md l.toArray Q S z fuel (b.set i true).toArray (a.put e.dst v) w):ZJ P md l.toArray Q S z (fuel+1) b.toArray a w:=by
 rw[Bool.and_eq_true,Bool.and_eq_true,Bool.and_eq_true] at d;exact zfd (i:=i) (by simpa using f) (by simpa using d.2) (Region.noSelect_spec d.1.1.1) g fuel _ a w (Region.free_spec (by simpa using f) d.1.1.2) (by simpa using d.1.2) k j (by simpa using h)
end
theorem tkN {P:Program}{l:List Oper}{Q:Exit->Act->World->Prop}{e:Region.Mode}{S:World->Prop}{z:Nat}(i:Nat){d:Oper}{v:Value}{fuel:Nat}{b:List Bool}{a:Act}{w:World}(j:l[i]?=some d)
  (k:(Region.noSelect l.toArray && Region.free e l.toArray b.toArray i && (Region.ready e l.toArray b.toArray).contains i && (z == l.toArray.size))=true)
  (f:∀ c a w,Q (.panic c) (a.put d.dst v) w->Q (.panic c) a w) (m:Region.wanted d (yielded l.toArray a.tmps)=true) (g:S w) (n:∀ w,S w->(execOp a.eval d).run P w=.ok (.value v) w)
  (h:ZJ P e l.toArray Q S z fuel (b.set i true).toArray (a.put d.dst v) w):ZJ P e l.toArray Q S z (fuel+1) b.toArray a w:=zB j k f (Or.inl ⟨m,n⟩) g h
end
section
open Go.RowKit
def atG {α:Type}(f:Nat->α)(k:Nat)(v:α):Nat->α:=fun i=>if i=k then v else f i
theorem zcH {α:Type}(f:Nat->α)(k:Nat)(v:α):atG f k v k=v:=if_pos rfl
theorem zcI {α:Type}(f:Nat->α)(k:Nat)(v:α)(i:Nat)(h:i≠k):atG f k v i=f i:=if_neg h
structure Zk (w:World)(base:Nat)(v:Value)(N:Nat)(S:Nat->Sail)(L C:Nat->Value):Prop where
 row:w.ownsRow base 37 8 v N ((List.range (N*8)).map (sailCell S L C))
 la:∀ i,i<N->w.ownsRow base 106 2 (L i) (S i).la.n (zG (S i).la)
 ca:∀ i,i<N->w.ownsRow base 110 2 (C i) (S i).ca.n (zG (S i).ca)
section
variable {w w' : World} {base N : Nat} {v : Value} {S : Nat -> Sail} {L C : Nat -> Value}
theorem Zk.below (h:Zk w base v N S L C)(a:Below w.heap.size w w'):Zk w' base v N S L C :=
 ⟨zm a h.row,fun i b=>zm a (h.la i b),fun i b=>zm a (h.ca i b)⟩
theorem Zk.kept {T:Nat->Prop}(h:Zk w base v N S L C)(e:zA w w' T)(d:∀ b,T b->b<base):Zk w' base v N S L C :=
 ⟨e.own h.row (fun g a s=>by have:=(h.row.lt g a).1;have:=d g s;omega),fun i c=>e.own (h.la i c) (fun g a s=>by have:=((h.la i c).lt g a).1;have:=d g s;omega),
  fun i c=>e.own (h.ca i c) (fun g a s=>by have:=((h.ca i c).lt g a).1;have:=d g s;omega)⟩
theorem Zk.box {b:Nat}{cs:Array Value}(h:Zk w base v N S L C)(e:w.heap[b]?=some (.cells cs 37 (0,0)))(d:∀ g,v.ownBlock=some g->¬ g=b)(c:zA w w' (fun k=>k=b)):Zk w' base v N S L C :=
 ⟨c.own h.row d,fun i a=>c.own (h.la i a) (own_not (h.la i a) e (by decide)),fun i a=>c.own (h.ca i a) (own_not (h.ca i a) e (by decide))⟩
theorem Zk.at {b:Option Addr}{c:Nat}(h:Zk w base (.slice b N c) N S L C):SailsAt w b N S:=by
 intro k a;obtain⟨g,rfl,_,_⟩:=qw h.row (by omega)
 obtain⟨la,lc,d,o,p,q⟩:=zt (h.la k a);obtain⟨ca,n,e,j,l,m⟩:=zt (h.ca k a);have f:=h.la k a;have i:=h.ca k a;rw[d] at f;rw[e] at i;refine⟨g,0,la,lc,ca,n,rfl,?_,?_,?_,?_,?_,?_,?_,?_,pairs_of_own f,pairs_of_own i,⟨o,p,q⟩,⟨j,l,m⟩⟩
 ·rw[Nat.zero_add,zK h.row (k*8) (by omega) rfl,sailCell_0]
 ·rw[Nat.zero_add,zK h.row (k*8+1) (by omega) rfl,sailCell_1]
 ·rw[Nat.zero_add,zK h.row (k*8+2) (by omega) rfl,sailCell_2]
 ·rw[Nat.zero_add,zK h.row (k*8+3) (by omega) rfl,sailCell_3]
 ·rw[Nat.zero_add,zK h.row (k*8+4) (by omega) rfl,sailCell_4]
 ·rw[Nat.zero_add,zK h.row (k*8+5) (by omega) rfl,sailCell_5,d]
 ·rw[Nat.zero_add,zK h.row (k*8+6) (by omega) rfl,sailCell_6,e]
 ·rw[Nat.zero_add,zK h.row (k*8+7) (by omega) rfl,sailCell_7]
theorem Zk.nil (w:World)(base:Nat)(S:Nat->Sail)(L C:Nat->Value):Zk w base (.slice none 0 0) 0 S L C :=
 ⟨⟨rfl,.inl ⟨rfl,rfl⟩⟩,fun i a=>by omega,fun i a=>by omega⟩
theorem zfe (S:Nat->Sail)(L C:Nat->Value)(k:Nat)(x:Sail)(vl vc:Value) :
  (List.range ((k+1)*8)).map (sailCell (atG S k x) (atG L k vl) (atG C k vc))=(List.range (k*8)).map (sailCell S L C)++[int i64 x.id,.string x.fr,.string x.dst,int i64 x.dep,int i64 x.arr,vl,vc,int i64 x.most]:=by
 rw[show(k+1)*8=k*8+1+1+1+1+1+1+1+1 by omega,List.range_succ,List.range_succ,List.range_succ,List.range_succ,List.range_succ,List.range_succ,List.range_succ,List.range_succ]
 simp only[List.map_append,List.map_cons,List.map_nil,List.append_assoc,List.cons_append,List.nil_append];rw[sailCell_0,sailCell_1,show k*8+1+1=k*8+2 by omega,sailCell_2,show k*8+2+1=k*8+3 by omega,sailCell_3,show k*8+3+1=k*8+4 by omega,sailCell_4,show k*8+4+1=k*8+5 by omega,sailCell_5,show k*8+5+1=k*8+6 by omega,sailCell_6,show k*8+6+1=k*8+7 by omega,sailCell_7,zcH,zcH,zcH]
 congr 1
 refine List.map_congr_left fun j a=>?_
 have b:j<k*8:=by simpa using a
 unfold sailCell;rw[zcI _ _ _ _ (show j / 8≠k by omega),zcI _ _ _ _ (show j / 8≠k by omega),zcI _ _ _ _ (show j / 8≠k by omega)]
theorem Zk.snoc {x:Sail}{f vl vc:Value}(h:Zk w base v N S L C)(hl:w.ownsRow base 106 2 vl x.la.n (zG x.la))(d:w.ownsRow base 110 2 vc x.ca.n (zG x.ca))(j:w.grownBy w' v.ownBlock)
  (l:w'.ownsRow base 37 8 f (N+1) ((List.range (N*8)).map (sailCell S L C)++[int i64 x.id,.string x.fr,.string x.dst,int i64 x.dep,int i64 x.arr,vl,vc,int i64 x.most])) :
  Zk w' base f (N+1) (atG S N x) (atG L N vl) (atG C N vc):=by
 have c:=zO j;refine⟨by rw[zfe];exact l,fun i k=>?_,fun i k=>?_⟩
 ·by_cases e:i=N
  ·subst e;rw[zcH,zcH];exact c.own hl (fun g a b=>own_apart h.row hl (by decide) g b a)
  ·rw[zcI _ _ _ _ e,zcI _ _ _ _ e];exact c.own (h.la i (by omega)) (fun g a b=>own_apart h.row (h.la i (by omega)) (by decide) g b a)
 ·by_cases e:i=N
  ·subst e;rw[zcH,zcH];exact c.own d (fun g a b=>own_apart h.row d (by decide) g b a)
  ·rw[zcI _ _ _ _ e,zcI _ _ _ _ e];exact c.own (h.ca i (by omega)) (fun g a b=>own_apart h.row (h.ca i (by omega)) (by decide) g b a)
end
structure zgG (w d:World)(e:Nat)(f:Option Addr)(n c a:Nat)(v:Value)(N:Nat)(S:Nat->Sail)(L C:Nat->Value):Prop where
 cur:CurX d e f n c a
 kept:zA w d (fun b=>b=e)
 lie:Zk d w.heap.size v N S L C
 short:ShortAll N S 100
structure zaV (w b:World)(d f:Nat)(e:Option Addr)(n c a:Nat)(v:Value)(N:Nat)(S:Nat->Sail)(L C:Nat->Value)(x:Sail)(vl vc:Value):Prop where
 l:zgG w b f e n c a v N S L C
 lo:w.heap.size<=d
 box:b.heap[d]?=some (.cells #[int i64 x.id,.string x.fr,.string x.dst,int i64 x.dep,int i64 x.arr,vl,vc,int i64 x.most] 37 (0,0))
 ne:∀ g,v.ownBlock=some g->¬ g=d
 la:b.ownsRow w.heap.size 106 2 vl x.la.n (zG x.la)
 ca:b.ownsRow w.heap.size 110 2 vc x.ca.n (zG x.ca)
 sx:ShortS x 100
section
variable {w wr w' : World} {xb cb n c a N : Nat} {ao : Option Addr} {v : Value} {S : Nat -> Sail} {L C : Nat -> Value} {x : Sail} {vl vc : Value}
theorem zgG.on {d:Nat}(h:zgG w wr cb ao n c a v N S L C)(i:cb<w.heap.size)(g:CurX w' cb ao n c d)(f:zA wr w' (fun b=>b=cb)):zgG w w' cb ao n c d v N S L C :=
 ⟨g,h.kept.trans f,h.lie.kept f (fun b e=>by have e:b=cb:=e;omega),h.short⟩
theorem zgG.below (h:zgG w wr cb ao n c a v N S L C)(b:Below wr.heap.size wr w'):zgG w w' cb ao n c a v N S L C :=
 ⟨h.cur.below b,h.kept.trans (zA.of_below b),h.lie.below b,h.short⟩
theorem zgG.more {b:Nat}(h:zgG w wr cb ao n c a v N S L C)(d:a<=b):zgG w wr cb ao n c b v N S L C:=⟨h.cur.more d,h.kept,h.lie,h.short⟩
theorem zaV.on {j:Nat}(h:zaV w wr xb cb ao n c a v N S L C x vl vc)(f:cb<w.heap.size)(k:CurX w' cb ao n c j)(d:zA wr w' (fun b=>b=cb)):zaV w w' xb cb ao n c j v N S L C x vl vc:=by
 have l:=h.lo;exact⟨h.l.on f k d,h.lo,d.blk h.box (by show ¬ xb=cb;omega),h.ne,d.own h.la (fun g i e=>by have e:g=cb:=e;have:=(h.la.lt g i).1;omega),d.own h.ca (fun g i e=>by have e:g=cb:=e;have:=(h.ca.lt g i).1;omega),h.sx⟩
theorem zaV.below (h:zaV w wr xb cb ao n c a v N S L C x vl vc)(b:Below wr.heap.size wr w'):zaV w w' xb cb ao n c a v N S L C x vl vc :=
 ⟨h.l.below b,h.lo,zc h.box b,h.ne,zm b h.la,zm b h.ca,h.sx⟩
theorem zaV.more {b:Nat}(h:zaV w wr xb cb ao n c a v N S L C x vl vc)(d:a<=b):zaV w wr xb cb ao n c b v N S L C x vl vc:=⟨h.l.more d,h.lo,h.box,h.ne,h.la,h.ca,h.sx⟩
theorem zaV.put (h:zaV w wr xb cb ao n c a v N S L C x vl vc)(p:cb<w.heap.size)(hl:CodeLow w ao n){y:Sail}{i wc:Value}(d:zA wr w' (fun b=>b=xb))
  (o:w'.heap[xb]?=some (.cells #[int i64 y.id,.string y.fr,.string y.dst,int i64 y.dep,int i64 y.arr,i,wc,int i64 y.most] 37 (0,0)))
  (h7:wr.ownsRow w.heap.size 106 2 i y.la.n (zG y.la)) (h8:wr.ownsRow w.heap.size 110 2 wc y.ca.n (zG y.ca)) (m:ShortS y 100):zaV w w' xb cb ao n c a v N S L C y i wc:=by
 have g:=h.lo;exact⟨⟨h.l.cur.far d (by show ¬ cb=xb;omega) (fun k f b off l j=>by have j:b=xb:=j;have:=hl k f b off l;omega),kept_away' h.l.kept d (fun b e=>by have e:b=xb:=e;omega),h.l.lie.box h.box h.ne d,h.l.short⟩,
  g,o,h.ne,d.own h7 (own_not h7 h.box (by decide)),d.own h8 (own_not h8 h.box (by decide)),m⟩
theorem zcX (w:World)(b i:Nat)(u:Value):zA w (w.setCell ⟨b,i,none⟩ u) (fun k=>k=b):=(zA.refl w (fun k=>k=b)).set (a:=⟨b,i,none⟩) rfl u
theorem zaV.fr (h:zaV w wr xb cb ao n c a v N S L C x vl vc)(b:cb<w.heap.size)(hl:CodeLow w ao n)(s:ByteArray)(d:s.size<=100):zaV w (wr.setCell ⟨xb,1,none⟩ (.string s)) xb cb ao n c a v N S L C { x with fr:=s } vl vc:=h.put b hl (zcX _ _ _ _) (by simpa using zy h.box 1 (.string s)) h.la h.ca ⟨d,h.sx.2.1,h.sx.2.2.1,h.sx.2.2.2⟩
theorem zaV.to (h:zaV w wr xb cb ao n c a v N S L C x vl vc)(b:cb<w.heap.size)(hl:CodeLow w ao n)(s:ByteArray)(d:s.size<=100):zaV w (wr.setCell ⟨xb,2,none⟩ (.string s)) xb cb ao n c a v N S L C { x with dst:=s } vl vc:=h.put b hl (zcX _ _ _ _) (by simpa using zy h.box 2 (.string s)) h.la h.ca ⟨h.sx.1,d,h.sx.2.2.1,h.sx.2.2.2⟩
theorem zaV.dep (h:zaV w wr xb cb ao n c a v N S L C x vl vc)(b:cb<w.heap.size)(hl:CodeLow w ao n)(z:Int):zaV w (wr.setCell ⟨xb,3,none⟩ (int i64 z)) xb cb ao n c a v N S L C { x with dep:=z } vl vc:=h.put b hl (zcX _ _ _ _) (by simpa using zy h.box 3 (int i64 z)) h.la h.ca h.sx
theorem zaV.arr (h:zaV w wr xb cb ao n c a v N S L C x vl vc)(b:cb<w.heap.size)(hl:CodeLow w ao n)(z:Int):zaV w (wr.setCell ⟨xb,4,none⟩ (int i64 z)) xb cb ao n c a v N S L C { x with arr:=z } vl vc:=h.put b hl (zcX _ _ _ _) (by simpa using zy h.box 4 (int i64 z)) h.la h.ca h.sx
theorem zaV.whole (h:zaV w wr xb cb ao n c a v N S L C x vl vc)(d:cb<w.heap.size)(hl:CodeLow w ao n){y:Sail}{e wc:Value}{z:World}
  (f:z=((((((((wr.setCell ⟨xb,0,none⟩ (int i64 y.id)).setCell ⟨xb,1,none⟩ (.string y.fr)).setCell ⟨xb,2,none⟩ (.string y.dst)).setCell ⟨xb,3,none⟩ (int i64 y.dep)).setCell ⟨xb,4,none⟩ (int i64 y.arr)).setCell ⟨xb,5,none⟩ e).setCell ⟨xb,6,none⟩ wc).setCell ⟨xb,7,none⟩ (int i64 y.most)))
  (h7:wr.ownsRow w.heap.size 106 2 e y.la.n (zG y.la)) (h8:wr.ownsRow w.heap.size 110 2 wc y.ca.n (zG y.ca)) (g:ShortS y 100):zaV w z xb cb ao n c a v N S L C y e wc:=by
 refine h.put d hl ?_ ?_ h7 h8 g
 ·rw[f]
  exact((((((((zA.refl wr (fun b=>b=xb)).set (a:=⟨xb,0,none⟩) rfl _).set (a:=⟨xb,1,none⟩) rfl _).set (a:=⟨xb,2,none⟩) rfl _).set (a:=⟨xb,3,none⟩) rfl _).set (a:=⟨xb,4,none⟩) rfl _).set (a:=⟨xb,5,none⟩) rfl _).set (a:=⟨xb,6,none⟩) rfl _).set (a:=⟨xb,7,none⟩) rfl _
 ·rw[f]
  exact box_eight h.box _ _ _ _ _ _ _ _
theorem zaV.snoc {l:Value}(h:zaV w wr xb cb ao n c a v N S L C x vl vc)(p:cb<w.heap.size)(hl:CodeLow w ao n)(g:wr.grownBy w' v.ownBlock)
  (q:w'.ownsRow w.heap.size 37 8 l (N+1) ((List.range (N*8)).map (sailCell S L C)++[int i64 x.id,.string x.fr,.string x.dst,int i64 x.dep,int i64 x.arr,vl,vc,int i64 x.most])) :
  zgG w w' cb ao n c a l (N+1) (atG S N x) (atG L N vl) (atG C N vc):=by
 have j:=zO g;have d:∀ b,v.ownBlock=some b->w.heap.size<=b:=fun b e=>(h.l.lie.row.lt b e).1
 refine⟨h.l.cur.far j (fun e=>by have:=d _ e;omega) (fun k f b off m o=>by have:=d _ o;have:=hl k f b off m;omega),kept_away' h.l.kept j (fun b e=>d b e),h.l.lie.snoc h.la h.ca g q,fun i hi=>?_⟩
 by_cases e:i=N
 ·subst e;rw[zcH];exact h.sx
 ·rw[zcI _ _ _ _ e];exact h.l.short i (by omega)
end
end
end Go.Proofs.YtfallpinmhbemaaGreatDoor
