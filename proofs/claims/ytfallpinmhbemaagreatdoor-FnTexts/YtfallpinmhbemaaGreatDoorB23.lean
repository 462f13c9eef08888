import Derived.Shelf.Lay
import Derived.Shelf.Strconv.Itoa3
import Derived.Shelf.Strings.OnBuilder
import Derived.Lib.AppendIntMem
import Derived.Test.YtfallpinmhbemaaGreatDoorB14
import Derived.Test.YtfallpinmhbemaaGreatDoorB04
namespace Go.Proofs.YtfallpinmhbemaaGreatDoor
open Go.RowKit
open Go.Value (int)
open Go.IntKind (i64)
set_option maxHeartbeats 64000000
set_option maxRecDepth 1000000
structure zer where
 name:Int
 own:ByteArray
 pe:Int
 ln:Int
 cab:Int
def zer.zero:zer:=⟨0,⟨#[]⟩,0,0,0⟩
instance:Inhabited zer:=⟨zer.zero⟩
def QH (S:Nat->zer)(j:Nat):Value :=
 if j % 5=0 then int i64 (S (j / 5)).name else if j % 5=1 then .string (S (j / 5)).own else if j % 5=2 then int i64 (S (j / 5)).pe else if j % 5=3 then int i64 (S (j / 5)).ln else int i64 (S (j / 5)).cab
theorem rowCell_0 (S:Nat->zer)(k:Nat):QH S (k*5)=int i64 (S k).name:=by
 unfold QH;rw[if_pos (by omega),show k*5 / 5=k by omega]
theorem rowCell_1 (S:Nat->zer)(k:Nat):QH S (k*5+1)=.string (S k).own:=by
 unfold QH;rw[if_neg (by omega),if_pos (by omega),show(k*5+1) / 5=k by omega]
theorem rowCell_2 (S:Nat->zer)(k:Nat):QH S (k*5+2)=int i64 (S k).pe:=by
 unfold QH;rw[if_neg (by omega),if_neg (by omega),if_pos (by omega),show(k*5+2) / 5=k by omega]
theorem rowCell_3 (S:Nat->zer)(k:Nat):QH S (k*5+3)=int i64 (S k).ln:=by
 unfold QH;rw[if_neg (by omega),if_neg (by omega),if_neg (by omega),if_pos (by omega),show(k*5+3) / 5=k by omega]
theorem rowCell_4 (S:Nat->zer)(k:Nat):QH S (k*5+4)=int i64 (S k).cab:=by
 unfold QH;rw[if_neg (by omega),if_neg (by omega),if_neg (by omega),if_neg (by omega),show(k*5+4) / 5=k by omega]
def ZW (S:Nat->zer)(n:Nat):List Value:=(List.range (n*5)).map (QH S)
theorem zgf (S:Nat->zer)(k:Nat):ZW S (k+1)=ZW S k++[int i64 (S k).name,.string (S k).own,int i64 (S k).pe,int i64 (S k).ln,int i64 (S k).cab]:=by
 unfold ZW;rw[show(k+1)*5=k*5+1+1+1+1+1 by omega,List.range_succ,List.range_succ,List.range_succ,List.range_succ,List.range_succ]
 simp only[List.map_append,List.map_cons,List.map_nil,List.append_assoc,List.cons_append,List.nil_append,rowCell_0,rowCell_1,rowCell_2,rowCell_3,rowCell_4]
theorem zeY {S a:Nat->zer}{n:Nat}(h:∀ i,i<n->S i=a i):ZW S n=ZW a n:=by
 unfold ZW;refine List.map_congr_left (fun j b=>?_)
 have c:j<n*5:=by simpa using b
 unfold QH;rw[h (j / 5) (by omega)]
theorem l1Has_no (c:Option Addr)(n cap:Nat)(f:Nat->Int)(x:Int)(w:World)(hn:n<=1048576)(g:IntsAt w c n f)(a:∀ j,j<n->f j≠x) :
  Calls Tryz.prog 117 #[.slice c n cap,int i64 x] w fun e w'=>e=.returned (.bool false)/\w'=w:=by
 go_enter Tryz.func117,Tryz.ntmps117;go_wp2;go_loop [9] (fun i=>∃ k:Nat,k<=n/\i=int i64 k) (fun i=>n - (intOf i).toNat)
 case atStart=>exact⟨0,Nat.zero_le _,rfl⟩
 case round =>
  obtain⟨k,hk,rfl⟩:=hrel
  by_cases hlt:k<n
  ·obtain⟨b,off,rfl,hc⟩:=g k hlt
   have d:(f k == x)=false:=by simpa using a k hlt
   go_wp2;go_round
   case rel=>exact⟨k+1,by omega,by go_num⟩
   case measure=>simp[intOf];omega
  ·go_wp2
   go_ret;exact⟨rfl,rfl⟩
theorem l1Has_yes (h:Option Addr)(n cap:Nat)(f:Nat->Int)(x:Int)(w:World)(hn:n<=1048576)(o:IntsAt w h n f)(c:∃ j,j<n/\f j=x) :
  Calls Tryz.prog 117 #[.slice h n cap,int i64 x] w fun e w'=>e=.returned (.bool true)/\w'=w:=by
 have H:=hI c;clear c;go_enter Tryz.func117,Tryz.ntmps117;go_wp2;go_loop [9] (fun i=>∃ k:Nat,k<=n/\i=int i64 k/\∀ j,j<k->f j≠x) (fun i=>n - (intOf i).toNat)
 case atStart=>exact⟨0,Nat.zero_le _,rfl,by omega⟩
 case round =>
  obtain⟨k,hk,rfl,a⟩:=hrel;have g:=hI a;clear a
  by_cases hlt:k<n
  ·obtain⟨b,off,rfl,hc⟩:=o k hlt
   by_cases he:f k=x
   ·have d:(f k == x)=true:=by simpa using he
    clear he;go_wp2;go_ret;exact⟨rfl,rfl⟩
   ·have d:(f k == x)=false:=by simpa using he
    have l:=hI he;clear he;go_wp2;go_round
    case rel=>exact⟨k+1,by omega,by go_num,fun j m=>by
     by_cases e:j=k
     ·rw[e];exact l.out
     ·exact g.out j (by omega)⟩
    case measure=>simp[intOf];omega
  ·exfalso
   obtain⟨j,m,e⟩:=H.out;exact g.out j (by omega) e
theorem zgh (c:Option Addr)(n cap:Nat)(f:Nat->Int)(x:Int)(w:World)(hn:n<=1048576)(d:IntsAt w c n f) :
  Calls Tryz.prog 117 #[.slice c n cap,int i64 x] w fun e w'=>(∃ b:Bool,e=.returned (.bool b)/\(b=true↔∃ j,j<n/\f j=x))/\w'=w:=by
 by_cases h:∃ j,j<n/\f j=x
 ·exact(l1Has_yes c n cap f x w hn d h).mono fun _ _ ⟨a,b⟩=>⟨⟨true,a,⟨fun _=>h,fun _=>rfl⟩⟩,b⟩
 ·exact(l1Has_no c n cap f x w hn d (fun j g e=>h ⟨j,g,e⟩)).mono fun _ _ ⟨a,b⟩=>⟨⟨false,a,⟨fun e=>(by cases e),fun e=>absurd e h⟩⟩,b⟩
theorem Q1 {P:Program}{d:Array Oper}{o:Oper}{a:Act}{w:World}{K:Act->World->Prop}{Q:Exit->Act->World->Prop}{E:Prop}(h:o.guard=none)(t e:TypeId)(len:Nat)(b:Array (Nat × Operand))(j:o.op=.buildSlice t len b)(k:P.underlying t=some (.slice e))(cells:Array Value)
  (c:P.builtSlice e len (b.map fun (i,x)=>(i,a.eval x)).toList=some cells) (g:K (a.put o.dst (.slice (some ⟨w.heap.size,0,none⟩) len len)) (w.alloc (.cells cells e))) :
  if Region.wanted o (yielded d a.tmps)=true then Oper.wp P o a w K Q else E:=by
 have l:Region.wanted o (yielded d a.tmps)=true:=by simp[Region.wanted,h]
 rw[if_pos l];unfold Program.builtSlice at c
 cases hie:P.info? e with
 | none=>simp[hie] at c
 | some ie =>
  simp only[hie] at c
  cases hz:ie.zero with
  | none=>simp[hz] at c
  | some z =>
   simp only[hz] at c
   by_cases hc:len*ie.size > 2 ^ 24∨len*ie.size=0
   ·simp[hc] at c
   ·rw[if_neg hc] at c
    exact wp_buildSlice t e len b j cells ie z k hie hz (fun f=>hc (Or.inl f)) (fun f=>hc (Or.inr f)) c g
theorem zcV {w:World}{g t:Nat}{u0 u1 u2 u3 u4 u5 u6 u7 u8 u9 u10 u11 u12:Value}(h:w.heap[g]?=some (.cells #[u0,u1,u2,u3,u4,u5,u6,u7,u8,u9,u10,u11,u12] t (0,0)))(d e f i j k l m n o a b c:Value) :
  (((((((((((((w.setCell ⟨g,0,none⟩ d).setCell ⟨g,1,none⟩ e).setCell ⟨g,2,none⟩ f).setCell ⟨g,3,none⟩ i).setCell ⟨g,4,none⟩ j).setCell ⟨g,5,none⟩ k).setCell ⟨g,6,none⟩ l).setCell ⟨g,7,none⟩ m).setCell ⟨g,8,none⟩ n).setCell ⟨g,9,none⟩ o).setCell ⟨g,10,none⟩ a).setCell ⟨g,11,none⟩ b).setCell ⟨g,12,none⟩ c).heap[g]?=some (.cells #[d,e,f,i,j,k,l,m,n,o,a,b,c] t (0,0)):=by
 simpa using zy (zy (zy (zy (zy (zy (zy (zy (zy (zy (zy (zy (zy h 0 d) 1 e) 2 f) 3 i) 4 j) 5 k) 6 l) 7 m) 8 n) 9 o) 10 a) 11 b) 12 c
theorem zcW {W w:World}{b:Nat}(h:Below W.heap.size W w)(a:W.heap.size<=b)(f g i j k l m n o q c d e:Value) :
  Below W.heap.size W (((((((((((((w.setCell ⟨b,0,none⟩ f).setCell ⟨b,1,none⟩ g).setCell ⟨b,2,none⟩ i).setCell ⟨b,3,none⟩ j).setCell ⟨b,4,none⟩ k).setCell ⟨b,5,none⟩ l).setCell ⟨b,6,none⟩ m).setCell ⟨b,7,none⟩ n).setCell ⟨b,8,none⟩ o).setCell ⟨b,9,none⟩ q).setCell ⟨b,10,none⟩ c).setCell ⟨b,11,none⟩ d).setCell ⟨b,12,none⟩ e):=by
 exact(Below.setCell (p:=⟨b,12,none⟩) (Below.setCell (p:=⟨b,11,none⟩) (Below.setCell (p:=⟨b,10,none⟩) (Below.setCell (p:=⟨b,9,none⟩) (Below.setCell (p:=⟨b,8,none⟩) (Below.setCell (p:=⟨b,7,none⟩) (Below.setCell (p:=⟨b,6,none⟩) (Below.setCell (p:=⟨b,5,none⟩) (Below.setCell (p:=⟨b,4,none⟩) (Below.setCell (p:=⟨b,3,none⟩) (Below.setCell (p:=⟨b,2,none⟩) (Below.setCell (p:=⟨b,1,none⟩) (Below.setCell (p:=⟨b,0,none⟩) h a f) a g) a i) a j) a k) a l) a m) a n) a o) a q) a c) a d) a e)
theorem zbS (w:World)(b:Nat)(f g h i j k l m n o c d e:Value) :
  zA w (((((((((((((w.setCell ⟨b,0,none⟩ f).setCell ⟨b,1,none⟩ g).setCell ⟨b,2,none⟩ h).setCell ⟨b,3,none⟩ i).setCell ⟨b,4,none⟩ j).setCell ⟨b,5,none⟩ k).setCell ⟨b,6,none⟩ l).setCell ⟨b,7,none⟩ m).setCell ⟨b,8,none⟩ n).setCell ⟨b,9,none⟩ o).setCell ⟨b,10,none⟩ c).setCell ⟨b,11,none⟩ d).setCell ⟨b,12,none⟩ e) (fun x=>x=b):=by
 exact((((((((((((((zA.refl w (fun x=>x=b)).set (a:=⟨b,0,none⟩) rfl f).set (a:=⟨b,1,none⟩) rfl g).set (a:=⟨b,2,none⟩) rfl h).set (a:=⟨b,3,none⟩) rfl i).set (a:=⟨b,4,none⟩) rfl j).set (a:=⟨b,5,none⟩) rfl k).set (a:=⟨b,6,none⟩) rfl l).set (a:=⟨b,7,none⟩) rfl m).set (a:=⟨b,8,none⟩) rfl n).set (a:=⟨b,9,none⟩) rfl o).set (a:=⟨b,10,none⟩) rfl c).set (a:=⟨b,11,none⟩) rfl d).set (a:=⟨b,12,none⟩) rfl e)
section
open Go.RowKit
section
variable {P : Program} {ops : Array Oper} {Q : Exit -> Act -> World -> Prop} {md : Region.Mode} {S : World -> Prop} {z : Nat}
theorem zfd {i:Nat}{r:Oper}{v:Value}(F:ops[i]?=some r)(hz:z=ops.size)(n:∀ (j:Nat)(o:Oper) cs b,ops[j]?=some o->o.op≠.select cs b)
  (N:∀ c a w,Q (.panic c) (a.put r.dst v) w->Q (.panic c) a w) :
  ∀ (fuel:Nat) (d:Array Bool) (a:Act) (w:World),
   (∀ j s,ops[j]?=some s->j≠i->d.getD j true=false->(∀ e ∈ s.after,Region.binds md e=true->e.on≠i)->r.apart ops s=true) ->
   i ∈ Region.ready md ops d->YieldsIf P ops S r v a->S w ->
   ZJ P md ops Q S z fuel (d.setIfInBounds i true) (a.put r.dst v) w->ZJ P md ops Q S z (fuel+1) d a w:=by
 intro fuel
 induction fuel with
 | zero =>
  intro d a w _ q C t H;refine⟨fun h=>(by rw[h] at q;cases q),fun j B=>?_⟩
  by_cases hji:j=i
  ·subst hji;exact C.wpOp F t ⟨fun _=>t,H⟩
  ·have:=ready_mono B hji
   rw[H.1] at this
   cases this
 | succ fuel ih =>
  intro d a w f q C t H;refine⟨fun h=>(by rw[h] at q;cases q),fun j B=>?_⟩
  by_cases hji:j=i
  ·subst hji;exact C.wpOp F t ⟨fun _=>t,H⟩
  ·have p:=H.2 j (ready_mono B hji)
   obtain⟨m,s,l,u⟩:=mem_ready.1 B;have G:j≠z:=fun e=>by
    have:=(Array.getElem?_eq_some_iff.1 l).1
    omega
   have x:∀ e ∈ s.after,Region.binds md e=true->e.on≠i:=fun e R O E=>by
    have p:=u e R O;have K:=(mem_ready.1 q).1;rw[E] at p
    rcases Nat.lt_or_ge i d.size with D|D
    ·simp[D] at K p;rw[K] at p;cases p
    ·simp[Array.getElem?_eq_none D] at p
   have M:=wpOp_putIf l (f j s l hji m x) (fun cs b=>n i r cs b F) (fun cs b=>n j s cs b l) N C p
   have g:∀ k ok,ops[k]?=some ok->k≠i->(d.setIfInBounds j true).getD k true=false ->
     (∀ e ∈ ok.after,Region.binds md e=true->e.on≠i)->r.apart ops ok=true:=fun k ok T I y J=>by
    refine f k ok T I ?_ J
    by_cases hjk:j=k
    ·subst hjk;exact m
    ·rw[getD_set_ne true hjk] at y;exact y
   refine wpOp_mono (fun L w' A=>⟨A.2.1,ih (d.setIfInBounds j true) L w' g (ready_mono q (Ne.symm hji)) A.1 (A.2.1 G) ?_⟩) M
   rw[Array.setIfInBounds_comm _ _ hji];exact A.2.2
end
section
variable {P : Program} {l : List Oper} {Q : Exit -> Act -> World -> Prop} {md : Region.Mode} {S : World -> Prop} {z : Nat}
theorem zB {i:Nat}{e:Oper}{v:Value}{fuel:Nat}{b:List Bool}{a:Act}{w:World}(f:l[i]?=some e)
  (d:(Region.noSelect l.toArray && Region.free md l.toArray b.toArray i && (Region.ready md l.toArray b.toArray).contains i && (z == l.toArray.size))=true)
  (g:∀ c a w,Q (.panic c) (a.put e.dst v) w->Q (.panic c) a w) (k:YieldsIf P l.toArray S e v a) (j:S w)
  (h:ZJ P md l.toArray Q S z fuel (b.set i true).toArray (a.put e.dst v) w):ZJ P md l.toArray Q S z (fuel+1) b.toArray a w:=by
 rw[Bool.and_eq_true,Bool.and_eq_true,Bool.and_eq_true] at d;exact zfd (i:=i) (by simpa using f) (by simpa using d.2) (Region.noSelect_spec d.1.1.1) g fuel _ a w (Region.free_spec (by simpa using f) d.1.1.2) (by simpa using d.1.2) k j (by simpa using h)
end
theorem tkN {P:Program}{l:List Oper}{Q:Exit->Act->World->Prop}{e:Region.Mode}{S:World->Prop}{z:Nat}(i:Nat){d:Oper}{v:Value}{fuel:Nat}{b:List Bool}{a:Act}{w:World}(j:l[i]?=some d)
  (k:(Region.noSelect l.toArray && Region.free e l.toArray b.toArray i && (Region.ready e l.toArray b.toArray).contains i && (z == l.toArray.size))=true)
  (f:∀ c a w,Q (.panic c) (a.put d.dst v) w->Q (.panic c) a w) (m:Region.wanted d (yielded l.toArray a.tmps)=true) (g:S w) (n:∀ w,S w->(execOp a.eval d).run P w=.ok (.value v) w)
  (h:ZJ P e l.toArray Q S z fuel (b.set i true).toArray (a.put d.dst v) w):ZJ P e l.toArray Q S z (fuel+1) b.toArray a w:=zB j k f (Or.inl ⟨m,n⟩) g h
end
section
open Go.RowKit
def atG {α:Type}(f:Nat->α)(k:Nat)(v:α):Nat->α:=fun i=>if i=k then v else f i
theorem zcH {α:Type}(f:Nat->α)(k:Nat)(v:α):atG f k v k=v:=if_pos rfl
theorem zcI {α:Type}(f:Nat->α)(k:Nat)(v:α)(i:Nat)(h:i≠k):atG f k v i=f i:=if_neg h
structure Zk (w:World)(base:Nat)(v:Value)(N:Nat)(S:Nat->Sail)(L C:Nat->Value):Prop where
 row:w.ownsRow base 37 8 v N ((List.range (N*8)).map (sailCell S L C))
 la:∀ i,i<N->w.ownsRow base 106 2 (L i) (S i).la.n (zG (S i).la)
 ca:∀ i,i<N->w.ownsRow base 110 2 (C i) (S i).ca.n (zG (S i).ca)
section
variable {w w' : World} {base N : Nat} {v : Value} {S : Nat -> Sail} {L C : Nat -> Value}
theorem Zk.below (h:Zk w base v N S L C)(a:Below w.heap.size w w'):Zk w' base v N S L C :=
 ⟨zm a h.row,fun i b=>zm a (h.la i b),fun i b=>zm a (h.ca i b)⟩
theorem Zk.kept {T:Nat->Prop}(h:Zk w base v N S L C)(e:zA w w' T)(d:∀ b,T b->b<base):Zk w' base v N S L C :=
 ⟨e.own h.row (fun g a s=>by have:=(h.row.lt g a).1;have:=d g s;omega),fun i c=>e.own (h.la i c) (fun g a s=>by have:=((h.la i c).lt g a).1;have:=d g s;omega),
  fun i c=>e.own (h.ca i c) (fun g a s=>by have:=((h.ca i c).lt g a).1;have:=d g s;omega)⟩
theorem Zk.box {b:Nat}{cs:Array Value}(h:Zk w base v N S L C)(e:w.heap[b]?=some (.cells cs 37 (0,0)))(d:∀ g,v.ownBlock=some g->¬ g=b)(c:zA w w' (fun k=>k=b)):Zk w' base v N S L C :=
 ⟨c.own h.row d,fun i a=>c.own (h.la i a) (own_not (h.la i a) e (by decide)),fun i a=>c.own (h.ca i a) (own_not (h.ca i a) e (by decide))⟩
theorem Zk.at {b:Option Addr}{c:Nat}(h:Zk w base (.slice b N c) N S L C):SailsAt w b N S:=by
 intro k a;obtain⟨g,rfl,_,_⟩:=qw h.row (by omega)
 obtain⟨la,lc,d,o,p,q⟩:=zt (h.la k a);obtain⟨ca,n,e,j,l,m⟩:=zt (h.ca k a);have f:=h.la k a;have i:=h.ca k a;rw[d] at f;rw[e] at i;refine⟨g,0,la,lc,ca,n,rfl,?_,?_,?_,?_,?_,?_,?_,?_,pairs_of_own f,pairs_of_own i,⟨o,p,q⟩,⟨j,l,m⟩⟩
 ·rw[Nat.zero_add,zK h.row (k*8) (by omega) rfl,sailCell_0]
 ·rw[Nat.zero_add,zK h.row (k*8+1) (by omega) rfl,sailCell_1]
 ·rw[Nat.zero_add,zK h.row (k*8+2) (by omega) rfl,sailCell_2]
 ·rw[Nat.zero_add,zK h.row (k*8+3) (by omega) rfl,sailCell_3]
 ·rw[Nat.zero_add,zK h.row (k*8+4) (by omega) rfl,sailCell_4]
 ·rw[Nat.zero_add,zK h.row (k*8+5) (by omega) rfl,sailCell_5,d]
 ·rw[Nat.zero_add,zK h.row (k*8+6) (by omega) rfl,sailCell_6,e]
 ·rw[Nat.zero_add,zK h.row (k*8+7) (by omega) rfl,sailCell_7]
theorem Zk.nil (w:World)(base:Nat)(S:Nat->Sail)(L C:Nat->Value):Zk w base (.slice none 0 0) 0 S L C :=
 ⟨⟨rfl,.inl ⟨rfl,rfl⟩⟩,fun i a=>by omega,fun i a=>by omega⟩
theorem zfe (S:Nat->Sail)(L C:Nat->Value)(k:Nat)(x:Sail)(vl vc:Value) :
  (List.range ((k+1)*8)).map (sailCell (atG S k x) (atG L k vl) (atG C k vc))=(List.range (k*8)).map (sailCell S L C)++[int i64 x.id,.string x.fr,.string x.dst,int i64 x.dep,int i64 x.arr,vl,vc,int i64 x.most]:=by
 rw[show(k+1)*8=k*8+1+1+1+1+1+1+1+1 by omega,List.range_succ,List.range_succ,List.range_succ,List.range_succ,List.range_succ,List.range_succ,List.range_succ,List.range_succ]
 simp only[List.map_append,List.map_cons,List.map_nil,List.append_assoc,List.cons_append,List.nil_append];rw[sailCell_0,sailCell_1,show k*8+1+1=k*8+2 by omega,sailCell_2,show k*8+2+1=k*8+3 by omega,sailCell_3,show k*8+3+1=k*8+4 by omega,sailCell_4,show k*8+4+1=k*8+5 by omega,sailCell_5,show k*8+5+1=k*8+6 by omega,sailCell_6,show k*8+6+1=k*8+7 by omega,sailCell_7,zcH,zcH,zcH]
 congr 1
 refine List.map_congr_left fun j a=>?_
 have b:j<k*8:=by simpa using a
 unfold sailCell;rw[zcI _ _ _ _ (show j / 8≠k by omega),zcI _ _ _ _ (show j / 8≠k by omega),zcI _ _ _ _ (show j / 8≠k by omega)]
theorem Zk.snoc {x:Sail}{f vl vc:Value}(h:Zk w base v N S L C)(hl:w.ownsRow base 106 2 vl x.la.n (zG x.la))(d:w.ownsRow base 110 2 vc x.ca.n (zG x.ca))(j:w.grownBy w' v.ownBlock)
  (l:w'.ownsRow base 37 8 f (N+1) ((List.range (N*8)).map (sailCell S L C)++[int i64 x.id,.string x.fr,.string x.dst,int i64 x.dep,int i64 x.arr,vl,vc,int i64 x.most])) :
  Zk w' base f (N+1) (atG S N x) (atG L N vl) (atG C N vc):=by
 have c:=zO j;refine⟨by rw[zfe];exact l,fun i k=>?_,fun i k=>?_⟩
 ·by_cases e:i=N
  ·subst e;rw[zcH,zcH];exact c.own hl (fun g a b=>own_apart h.row hl (by decide) g b a)
  ·rw[zcI _ _ _ _ e,zcI _ _ _ _ e];exact c.own (h.la i (by omega)) (fun g a b=>own_apart h.row (h.la i (by omega)) (by decide) g b a)
 ·by_cases e:i=N
  ·subst e;rw[zcH,zcH];exact c.own d (fun g a b=>own_apart h.row d (by decide) g b a)
  ·rw[zcI _ _ _ _ e,zcI _ _ _ _ e];exact c.own (h.ca i (by omega)) (fun g a b=>own_apart h.row (h.ca i (by omega)) (by decide) g b a)
end
structure zgG (w wr:World)(d:Nat)(e:Option Addr)(n c a:Nat)(v:Value)(N:Nat)(S:Nat->Sail)(L C:Nat->Value):Prop where
 cur:CurX wr d e n c a
 kept:zA w wr (fun b=>b=d)
 lie:Zk wr w.heap.size v N S L C
 short:ShortAll N S 100
structure zaV (w wr:World)(b e:Nat)(d:Option Addr)(n c a:Nat)(v:Value)(N:Nat)(S:Nat->Sail)(L C:Nat->Value)(x:Sail)(vl vc:Value):Prop where
 l:zgG w wr e d n c a v N S L C
 lo:w.heap.size<=b
 box:wr.heap[b]?=some (.cells #[int i64 x.id,.string x.fr,.string x.dst,int i64 x.dep,int i64 x.arr,vl,vc,int i64 x.most] 37 (0,0))
 ne:∀ g,v.ownBlock=some g->¬ g=b
 la:wr.ownsRow w.heap.size 106 2 vl x.la.n (zG x.la)
 ca:wr.ownsRow w.heap.size 110 2 vc x.ca.n (zG x.ca)
 sx:ShortS x 100
section
variable {w wr w' : World} {xb cb n c a N : Nat} {ao : Option Addr} {v : Value} {S : Nat -> Sail} {L C : Nat -> Value} {x : Sail} {vl vc : Value}
theorem zgG.on {d:Nat}(h:zgG w wr cb ao n c a v N S L C)(i:cb<w.heap.size)(g:CurX w' cb ao n c d)(f:zA wr w' (fun b=>b=cb)):zgG w w' cb ao n c d v N S L C :=
 ⟨g,h.kept.trans f,h.lie.kept f (fun b e=>by have e:b=cb:=e;omega),h.short⟩
theorem zgG.below (h:zgG w wr cb ao n c a v N S L C)(b:Below wr.heap.size wr w'):zgG w w' cb ao n c a v N S L C :=
 ⟨h.cur.below b,h.kept.trans (zA.of_below b),h.lie.below b,h.short⟩
theorem zgG.more {b:Nat}(h:zgG w wr cb ao n c a v N S L C)(d:a<=b):zgG w wr cb ao n c b v N S L C:=⟨h.cur.more d,h.kept,h.lie,h.short⟩
theorem zaV.on {j:Nat}(h:zaV w wr xb cb ao n c a v N S L C x vl vc)(f:cb<w.heap.size)(k:CurX w' cb ao n c j)(d:zA wr w' (fun b=>b=cb)):zaV w w' xb cb ao n c j v N S L C x vl vc:=by
 have l:=h.lo;exact⟨h.l.on f k d,h.lo,d.blk h.box (by show ¬ xb=cb;omega),h.ne,d.own h.la (fun g i e=>by have e:g=cb:=e;have:=(h.la.lt g i).1;omega),d.own h.ca (fun g i e=>by have e:g=cb:=e;have:=(h.ca.lt g i).1;omega),h.sx⟩
theorem zaV.below (h:zaV w wr xb cb ao n c a v N S L C x vl vc)(b:Below wr.heap.size wr w'):zaV w w' xb cb ao n c a v N S L C x vl vc :=
 ⟨h.l.below b,h.lo,zc h.box b,h.ne,zm b h.la,zm b h.ca,h.sx⟩
theorem zaV.more {b:Nat}(h:zaV w wr xb cb ao n c a v N S L C x vl vc)(d:a<=b):zaV w wr xb cb ao n c b v N S L C x vl vc:=⟨h.l.more d,h.lo,h.box,h.ne,h.la,h.ca,h.sx⟩
theorem zaV.put (h:zaV w wr xb cb ao n c a v N S L C x vl vc)(p:cb<w.heap.size)(hl:CodeLow w ao n){y:Sail}{i wc:Value}(d:zA wr w' (fun b=>b=xb))
  (o:w'.heap[xb]?=some (.cells #[int i64 y.id,.string y.fr,.string y.dst,int i64 y.dep,int i64 y.arr,i,wc,int i64 y.most] 37 (0,0)))
  (h7:wr.ownsRow w.heap.size 106 2 i y.la.n (zG y.la)) (h8:wr.ownsRow w.heap.size 110 2 wc y.ca.n (zG y.ca)) (m:ShortS y 100):zaV w w' xb cb ao n c a v N S L C y i wc:=by
 have g:=h.lo;exact⟨⟨h.l.cur.far d (by show ¬ cb=xb;omega) (fun k f b off l j=>by have j:b=xb:=j;have:=hl k f b off l;omega),kept_away' h.l.kept d (fun b e=>by have e:b=xb:=e;omega),h.l.lie.box h.box h.ne d,h.l.short⟩,
  g,o,h.ne,d.own h7 (own_not h7 h.box (by decide)),d.own h8 (own_not h8 h.box (by decide)),m⟩
theorem zcX (w:World)(b i:Nat)(u:Value):zA w (w.setCell ⟨b,i,none⟩ u) (fun k=>k=b):=(zA.refl w (fun k=>k=b)).set (a:=⟨b,i,none⟩) rfl u
theorem zaV.fr (h:zaV w wr xb cb ao n c a v N S L C x vl vc)(b:cb<w.heap.size)(hl:CodeLow w ao n)(s:ByteArray)(d:s.size<=100):zaV w (wr.setCell ⟨xb,1,none⟩ (.string s)) xb cb ao n c a v N S L C { x with fr:=s } vl vc:=h.put b hl (zcX _ _ _ _) (by simpa using zy h.box 1 (.string s)) h.la h.ca ⟨d,h.sx.2.1,h.sx.2.2.1,h.sx.2.2.2⟩
theorem zaV.to (h:zaV w wr xb cb ao n c a v N S L C x vl vc)(b:cb<w.heap.size)(hl:CodeLow w ao n)(s:ByteArray)(d:s.size<=100):zaV w (wr.setCell ⟨xb,2,none⟩ (.string s)) xb cb ao n c a v N S L C { x with dst:=s } vl vc:=h.put b hl (zcX _ _ _ _) (by simpa using zy h.box 2 (.string s)) h.la h.ca ⟨h.sx.1,d,h.sx.2.2.1,h.sx.2.2.2⟩
theorem zaV.dep (h:zaV w wr xb cb ao n c a v N S L C x vl vc)(b:cb<w.heap.size)(hl:CodeLow w ao n)(z:Int):zaV w (wr.setCell ⟨xb,3,none⟩ (int i64 z)) xb cb ao n c a v N S L C { x with dep:=z } vl vc:=h.put b hl (zcX _ _ _ _) (by simpa using zy h.box 3 (int i64 z)) h.la h.ca h.sx
theorem zaV.arr (h:zaV w wr xb cb ao n c a v N S L C x vl vc)(b:cb<w.heap.size)(hl:CodeLow w ao n)(z:Int):zaV w (wr.setCell ⟨xb,4,none⟩ (int i64 z)) xb cb ao n c a v N S L C { x with arr:=z } vl vc:=h.put b hl (zcX _ _ _ _) (by simpa using zy h.box 4 (int i64 z)) h.la h.ca h.sx
theorem zaV.whole (h:zaV w wr xb cb ao n c a v N S L C x vl vc)(d:cb<w.heap.size)(hl:CodeLow w ao n){y:Sail}{e wc:Value}{z:World}
  (f:z=((((((((wr.setCell ⟨xb,0,none⟩ (int i64 y.id)).setCell ⟨xb,1,none⟩ (.string y.fr)).setCell ⟨xb,2,none⟩ (.string y.dst)).setCell ⟨xb,3,none⟩ (int i64 y.dep)).setCell ⟨xb,4,none⟩ (int i64 y.arr)).setCell ⟨xb,5,none⟩ e).setCell ⟨xb,6,none⟩ wc).setCell ⟨xb,7,none⟩ (int i64 y.most)))
  (h7:wr.ownsRow w.heap.size 106 2 e y.la.n (zG y.la)) (h8:wr.ownsRow w.heap.size 110 2 wc y.ca.n (zG y.ca)) (g:ShortS y 100):zaV w z xb cb ao n c a v N S L C y e wc:=by
 refine h.put d hl ?_ ?_ h7 h8 g
 ·rw[f]
  exact((((((((zA.refl wr (fun b=>b=xb)).set (a:=⟨xb,0,none⟩) rfl _).set (a:=⟨xb,1,none⟩) rfl _).set (a:=⟨xb,2,none⟩) rfl _).set (a:=⟨xb,3,none⟩) rfl _).set (a:=⟨xb,4,none⟩) rfl _).set (a:=⟨xb,5,none⟩) rfl _).set (a:=⟨xb,6,none⟩) rfl _).set (a:=⟨xb,7,none⟩) rfl _
 ·rw[f]
  exact box_eight h.box _ _ _ _ _ _ _ _
theorem zaV.snoc {l:Value}(h:zaV w wr xb cb ao n c a v N S L C x vl vc)(p:cb<w.heap.size)(hl:CodeLow w ao n)(g:wr.grownBy w' v.ownBlock)
  (q:w'.ownsRow w.heap.size 37 8 l (N+1) ((List.range (N*8)).map (sailCell S L C)++[int i64 x.id,.string x.fr,.string x.dst,int i64 x.dep,int i64 x.arr,vl,vc,int i64 x.most])) :
  zgG w w' cb ao n c a l (N+1) (atG S N x) (atG L N vl) (atG C N vc):=by
 have j:=zO g;have d:∀ b,v.ownBlock=some b->w.heap.size<=b:=fun b e=>(h.l.lie.row.lt b e).1
 refine⟨h.l.cur.far j (fun e=>by have:=d _ e;omega) (fun k f b off m o=>by have:=d _ o;have:=hl k f b off m;omega),kept_away' h.l.kept j (fun b e=>d b e),h.l.lie.snoc h.la h.ca g q,fun i hi=>?_⟩
 by_cases e:i=N
 ·subst e;rw[zcH];exact h.sx
 ·rw[zcI _ _ _ _ e];exact h.l.short i (by omega)
end
end
end Go.Proofs.YtfallpinmhbemaaGreatDoor
namespace Go.Proofs
open Go.Value (int)
open Go.IntKind (i64)
open Go.Shelf
shelf_lay LaysM.n171 Nm 171 at Tryz as Tryz.lays171
shelf_lay Lays.n156 Nm 156 at Tryz as Tryz.lays156
set_option maxRecDepth 1000000 in
theorem Tryz.extra156:Builder.Extra Tryz.prog Tryz.lays156_ren where
 sizeBuilder:=by kernel_rfl
 liesBuilder:=by kernel_rfl
 t5:=Tryz.underlying5
 a5:=Tryz.isAgg5
 z5:=Tryz.sizeOf5
 v5:=Tryz.zeroValue5
 infoByte:=by kernel_rfl
 cellsByte:=by kernel_rfl
 sizeByte:=by kernel_rfl
 neB5:=by decide
end Go.Proofs
namespace Go.Proofs.YtfallpinmhbemaaGreatDoor
open Go.Value (int)
open Go.IntKind (i64)
open Go.RowKit
theorem Tryz.gPow : Tryz.prog.globalNamed "internal/strconv.uint64pow10" = some 4 := by kernel_rfl
def PowAt (w : World) : Prop := Lib.TabIs Tryz.prog w "internal/strconv.uint64pow10" .u64 Lib.pow10Tab
theorem PowAt.below {w w':World}(h:PowAt w)(a:Below w.heap.size w w'):PowAt w':=by
 exact Lib.tabBelow_of_tabIs h w' a
def qf (n:Int):ByteArray:=⟨(Lib.itoa n).toArray⟩
theorem Z3 (n:Int)(a:-9223372036854775808<=n)(b:n<=9223372036854775807)(w:World)(h:PowAt w) :
  Calls Tryz.prog 39 #[int i64 n] w fun e w'=>e=.returned (.string (qf n))/\Below w.heap.size w w' :=
 (Any.strconv_Itoa Tryz.lays171 n a b w h).mono fun e w' ⟨he,k,os,hw⟩=>⟨he,by subst hw;exact Lib.below_grow _ _ (Nat.le_refl _) _ _⟩
def qD (sep:ByteArray)(l:List ByteArray):ByteArray:=⟨(Lib.join (l.map (·.data.toList)) sep.data.toList).toArray⟩
def zcZ (w:World)(base:Nat)(v:Value)(l:List ByteArray):Prop:=w.ownsRow base 9 1 v l.length (l.map Value.string)
theorem zhL (sep:ByteArray)(l:List ByteArray)(v:Value)(base:Nat)(w:World)(h:zcZ w base v l)(hN:l.length<=1048576)(hl:(qD sep l).size<=140737488355328) :
  Calls Tryz.prog 16 #[v,.string sep] w fun e w'=>e=.returned (.string (qD sep l))/\Below w.heap.size w w':=by
 obtain⟨d,c,rfl,f,_⟩:=zt h
 by_cases h0:l.length=0
 ·have e:l=[]:=List.length_eq_zero_iff.1 h0
  subst e;exact(Any.strings_Join_none Tryz.lays156 Tryz.extra156 d c sep w).mono fun e w' ⟨he,hw⟩=>⟨he,by subst hw;exact bZ⟩
 ·obtain⟨g,rfl,_,i⟩:=qw h (by omega)
  refine Any.strings_Join Tryz.lays156 Tryz.extra156 g 0 c l sep w (fun j x b=>?_) i (by omega) f (by
   have e:(qD sep l).size=(Lib.join (l.map (·.data.toList)) sep.data.toList).length:=by show(Lib.join (l.map (·.data.toList)) sep.data.toList).toArray.size=_;simp
   rw[← e];exact hl)
  have hj:j<l.length:=by
   rcases Nat.lt_or_ge j l.length with a|a
   ·exact a
   ·rw[List.getElem?_eq_none a] at b;cases b
  rw[Nat.zero_add];rw[h.cellAt j (by omega),List.getElem?_map,b];rfl
end Go.Proofs.YtfallpinmhbemaaGreatDoor
namespace Go.Proofs.YtfallpinmhbemaaGreatDoor
open Go.RowKit
open Go.Value (int)
open Go.IntKind (i64)
set_option maxHeartbeats 64000000
set_option maxRecDepth 1000000
def qr (k:Nat):Bool:=decide (k=2∨k=3∨k=7)
def qM (k:Nat):Bool:=decide (4<=k/\k<=8)
def qx (k:Nat):Int:=if k=1∨k=2∨k=3∨k=5 then 3 else if k=9 then 1 else 0
def qp (k:Nat):Bool:=decide (k=1∨k=2∨k=3∨k=5)
def qs (k:Nat):Bool:=decide (k=2)
def Qg (k:Nat):Bool:=decide (k=6∨k=8)
def Zc (k:Nat):Bool:=decide (k=5∨k=6∨k=8)
def Qb (w:World):Prop:=∀ k,k<10 ->
 w.cell? ⟨0,k*7,none⟩=some (.bool (qr k))/\w.cell? ⟨0,k*7+1,none⟩=some (.bool (qM k))/\w.cell? ⟨0,k*7+2,none⟩=some (int i64 (qx k)) /\
 w.cell? ⟨0,k*7+3,none⟩=some (.bool (qp k))/\w.cell? ⟨0,k*7+4,none⟩=some (.bool (qs k))/\w.cell? ⟨0,k*7+5,none⟩=some (.bool (Qg k))/\w.cell? ⟨0,k*7+6,none⟩=some (.bool (Zc k))
theorem Qb.lt {w:World}(h:Qb w):0<w.heap.size:=World.block_lt_of_cell? w _ (h 0 (by decide)).1
theorem Qb.below {w w':World}(h:Qb w)(a:Below w.heap.size w w'):Qb w':=by
 intro k j;obtain⟨b,c,d,e,f,g,i⟩:=h k j;have hl:=h.lt;exact⟨(a.cell hl).trans b,(a.cell hl).trans c,(a.cell hl).trans d,(a.cell hl).trans e,(a.cell hl).trans f,(a.cell hl).trans g,(a.cell hl).trans i⟩
theorem zeu (x lo a:Int)(w:World)(h:In x lo a) :
  Calls Tryz.prog 31 #[int i64 x,int i64 lo,int i64 a] w fun e w'=>e=.returned (.bool true)/\w'=w:=by
 have e1:decide (lo<=x)=true:=by simpa using h.1
 have e2:decide (x<=a)=true:=by simpa using h.2
 clear h;go_enter Tryz.func31,Tryz.ntmps31;go_wp2;go_ret;exact⟨rfl,rfl⟩
theorem zgn (x lo a:Int)(w:World)(h:¬ In x lo a) :
  Calls Tryz.prog 31 #[int i64 x,int i64 lo,int i64 a] w fun e w'=>e=.returned (.bool false)/\w'=w:=by
 by_cases h1:lo<=x
 ·have b:decide (lo<=x)=true:=by simpa using h1
  have e2:decide (x<=a)=false:=by simp;exact Int.not_le.1 (fun c=>h ⟨h1,c⟩)
  clear h h1;go_enter Tryz.func31,Tryz.ntmps31;go_wp2;go_ret;exact⟨rfl,rfl⟩
 ·have b:decide (lo<=x)=false:=by simpa using h1
  clear h h1;go_enter Tryz.func31,Tryz.ntmps31;go_wp2;go_ret;exact⟨rfl,rfl⟩
theorem ql (x lo a:Int)(w:World) :
  Calls Tryz.prog 31 #[int i64 x,int i64 lo,int i64 a] w fun e w'=>e=.returned (.bool (decide (In x lo a)))/\w'=w:=by
 by_cases h:In x lo a
 ·rw[decide_eq_true h];exact zeu x lo a w h
 ·rw[decide_eq_false h];exact zgn x lo a w h
theorem box_6 {w:World}{b t:Nat}{u m l k i g:Value}(h:w.heap[b]?=some (.cells #[u,m,l,k,i,g] t (0,0)))(a c d e f j:Value) :
  (World.setCell (World.setCell (World.setCell (World.setCell (World.setCell (World.setCell w ⟨b,0,none⟩ a) ⟨b,1,none⟩ c) ⟨b,2,none⟩ d) ⟨b,3,none⟩ e) ⟨b,4,none⟩ f) ⟨b,5,none⟩ j).heap[b]?=some (.cells #[a,c,d,e,f,j] t (0,0)):=by
 have n:(World.setCell w ⟨b,0,none⟩ a).heap[b]?=some (.cells #[a,m,l,k,i,g] t (0,0)):=by simpa using zy h 0 a
 have o:(World.setCell (World.setCell w ⟨b,0,none⟩ a) ⟨b,1,none⟩ c).heap[b]?=some (.cells #[a,c,l,k,i,g] t (0,0)):=by simpa using zy n 1 c
 have p:(World.setCell (World.setCell (World.setCell w ⟨b,0,none⟩ a) ⟨b,1,none⟩ c) ⟨b,2,none⟩ d).heap[b]?=some (.cells #[a,c,d,k,i,g] t (0,0)):=by simpa using zy o 2 d
 have q:(World.setCell (World.setCell (World.setCell (World.setCell w ⟨b,0,none⟩ a) ⟨b,1,none⟩ c) ⟨b,2,none⟩ d) ⟨b,3,none⟩ e).heap[b]?=some (.cells #[a,c,d,e,i,g] t (0,0)):=by simpa using zy p 3 e
 have r:(World.setCell (World.setCell (World.setCell (World.setCell (World.setCell w ⟨b,0,none⟩ a) ⟨b,1,none⟩ c) ⟨b,2,none⟩ d) ⟨b,3,none⟩ e) ⟨b,4,none⟩ f).heap[b]?=some (.cells #[a,c,d,e,f,g] t (0,0)):=by simpa using zy q 4 f
 have s:(World.setCell (World.setCell (World.setCell (World.setCell (World.setCell (World.setCell w ⟨b,0,none⟩ a) ⟨b,1,none⟩ c) ⟨b,2,none⟩ d) ⟨b,3,none⟩ e) ⟨b,4,none⟩ f) ⟨b,5,none⟩ j).heap[b]?=some (.cells #[a,c,d,e,f,j] t (0,0)):=by simpa using zy r 5 j
 exact s
theorem keep_6 (w:World)(b:Nat)(c d e f g h:Value):zA w (World.setCell (World.setCell (World.setCell (World.setCell (World.setCell (World.setCell w ⟨b,0,none⟩ c) ⟨b,1,none⟩ d) ⟨b,2,none⟩ e) ⟨b,3,none⟩ f) ⟨b,4,none⟩ g) ⟨b,5,none⟩ h) (fun k=>k=b):=(((((((zA.refl w (fun k=>k=b)).set (a:=⟨b,0,none⟩) rfl c).set (a:=⟨b,1,none⟩) rfl d).set (a:=⟨b,2,none⟩) rfl e).set (a:=⟨b,3,none⟩) rfl f).set (a:=⟨b,4,none⟩) rfl g).set (a:=⟨b,5,none⟩) rfl h)
theorem box_8 {w:World}{b t:Nat}{A q p o m l j i:Value}(h:w.heap[b]?=some (.cells #[A,q,p,o,m,l,j,i] t (0,0)))(a c d e f g k n:Value) :
  (World.setCell (World.setCell (World.setCell (World.setCell (World.setCell (World.setCell (World.setCell (World.setCell w ⟨b,0,none⟩ a) ⟨b,1,none⟩ c) ⟨b,2,none⟩ d) ⟨b,3,none⟩ e) ⟨b,4,none⟩ f) ⟨b,5,none⟩ g) ⟨b,6,none⟩ k) ⟨b,7,none⟩ n).heap[b]?=some (.cells #[a,c,d,e,f,g,k,n] t (0,0)):=by
 have r:(World.setCell w ⟨b,0,none⟩ a).heap[b]?=some (.cells #[a,q,p,o,m,l,j,i] t (0,0)):=by simpa using zy h 0 a
 have s:(World.setCell (World.setCell w ⟨b,0,none⟩ a) ⟨b,1,none⟩ c).heap[b]?=some (.cells #[a,c,p,o,m,l,j,i] t (0,0)):=by simpa using zy r 1 c
 have u:(World.setCell (World.setCell (World.setCell w ⟨b,0,none⟩ a) ⟨b,1,none⟩ c) ⟨b,2,none⟩ d).heap[b]?=some (.cells #[a,c,d,o,m,l,j,i] t (0,0)):=by simpa using zy s 2 d
 have v:(World.setCell (World.setCell (World.setCell (World.setCell w ⟨b,0,none⟩ a) ⟨b,1,none⟩ c) ⟨b,2,none⟩ d) ⟨b,3,none⟩ e).heap[b]?=some (.cells #[a,c,d,e,m,l,j,i] t (0,0)):=by simpa using zy u 3 e
 have x:(World.setCell (World.setCell (World.setCell (World.setCell (World.setCell w ⟨b,0,none⟩ a) ⟨b,1,none⟩ c) ⟨b,2,none⟩ d) ⟨b,3,none⟩ e) ⟨b,4,none⟩ f).heap[b]?=some (.cells #[a,c,d,e,f,l,j,i] t (0,0)):=by simpa using zy v 4 f
 have y:(World.setCell (World.setCell (World.setCell (World.setCell (World.setCell (World.setCell w ⟨b,0,none⟩ a) ⟨b,1,none⟩ c) ⟨b,2,none⟩ d) ⟨b,3,none⟩ e) ⟨b,4,none⟩ f) ⟨b,5,none⟩ g).heap[b]?=some (.cells #[a,c,d,e,f,g,j,i] t (0,0)):=by simpa using zy x 5 g
 have z:(World.setCell (World.setCell (World.setCell (World.setCell (World.setCell (World.setCell (World.setCell w ⟨b,0,none⟩ a) ⟨b,1,none⟩ c) ⟨b,2,none⟩ d) ⟨b,3,none⟩ e) ⟨b,4,none⟩ f) ⟨b,5,none⟩ g) ⟨b,6,none⟩ k).heap[b]?=some (.cells #[a,c,d,e,f,g,k,i] t (0,0)):=by simpa using zy y 6 k
 have h7:(World.setCell (World.setCell (World.setCell (World.setCell (World.setCell (World.setCell (World.setCell (World.setCell w ⟨b,0,none⟩ a) ⟨b,1,none⟩ c) ⟨b,2,none⟩ d) ⟨b,3,none⟩ e) ⟨b,4,none⟩ f) ⟨b,5,none⟩ g) ⟨b,6,none⟩ k) ⟨b,7,none⟩ n).heap[b]?=some (.cells #[a,c,d,e,f,g,k,n] t (0,0)):=by simpa using zy z 7 n
 exact h7
theorem keep_8 (w:World)(b:Nat)(c d e f g h i j:Value):zA w (World.setCell (World.setCell (World.setCell (World.setCell (World.setCell (World.setCell (World.setCell (World.setCell w ⟨b,0,none⟩ c) ⟨b,1,none⟩ d) ⟨b,2,none⟩ e) ⟨b,3,none⟩ f) ⟨b,4,none⟩ g) ⟨b,5,none⟩ h) ⟨b,6,none⟩ i) ⟨b,7,none⟩ j) (fun k=>k=b):=(((((((((zA.refl w (fun k=>k=b)).set (a:=⟨b,0,none⟩) rfl c).set (a:=⟨b,1,none⟩) rfl d).set (a:=⟨b,2,none⟩) rfl e).set (a:=⟨b,3,none⟩) rfl f).set (a:=⟨b,4,none⟩) rfl g).set (a:=⟨b,5,none⟩) rfl h).set (a:=⟨b,6,none⟩) rfl i).set (a:=⟨b,7,none⟩) rfl j)
theorem box_12 {w:World}{b t:Nat}{L C B y x v u s q p e c:Value}(h:w.heap[b]?=some (.cells #[L,C,B,y,x,v,u,s,q,p,e,c] t (0,0)))(a d f g i j l m o r k n:Value) :
  (World.setCell (World.setCell (World.setCell (World.setCell (World.setCell (World.setCell (World.setCell (World.setCell (World.setCell (World.setCell (World.setCell (World.setCell w ⟨b,0,none⟩ a) ⟨b,1,none⟩ d) ⟨b,2,none⟩ f) ⟨b,3,none⟩ g) ⟨b,4,none⟩ i) ⟨b,5,none⟩ j) ⟨b,6,none⟩ l) ⟨b,7,none⟩ m) ⟨b,8,none⟩ o) ⟨b,9,none⟩ r) ⟨b,10,none⟩ k) ⟨b,11,none⟩ n).heap[b]?=some (.cells #[a,d,f,g,i,j,l,m,o,r,k,n] t (0,0)):=by
 have D:(World.setCell w ⟨b,0,none⟩ a).heap[b]?=some (.cells #[a,C,B,y,x,v,u,s,q,p,e,c] t (0,0)):=by simpa using zy h 0 a
 have E:(World.setCell (World.setCell w ⟨b,0,none⟩ a) ⟨b,1,none⟩ d).heap[b]?=some (.cells #[a,d,B,y,x,v,u,s,q,p,e,c] t (0,0)):=by simpa using zy D 1 d
 have F:(World.setCell (World.setCell (World.setCell w ⟨b,0,none⟩ a) ⟨b,1,none⟩ d) ⟨b,2,none⟩ f).heap[b]?=some (.cells #[a,d,f,y,x,v,u,s,q,p,e,c] t (0,0)):=by simpa using zy E 2 f
 have G:(World.setCell (World.setCell (World.setCell (World.setCell w ⟨b,0,none⟩ a) ⟨b,1,none⟩ d) ⟨b,2,none⟩ f) ⟨b,3,none⟩ g).heap[b]?=some (.cells #[a,d,f,g,x,v,u,s,q,p,e,c] t (0,0)):=by simpa using zy F 3 g
 have H:(World.setCell (World.setCell (World.setCell (World.setCell (World.setCell w ⟨b,0,none⟩ a) ⟨b,1,none⟩ d) ⟨b,2,none⟩ f) ⟨b,3,none⟩ g) ⟨b,4,none⟩ i).heap[b]?=some (.cells #[a,d,f,g,i,v,u,s,q,p,e,c] t (0,0)):=by simpa using zy G 4 i
 have I:(World.setCell (World.setCell (World.setCell (World.setCell (World.setCell (World.setCell w ⟨b,0,none⟩ a) ⟨b,1,none⟩ d) ⟨b,2,none⟩ f) ⟨b,3,none⟩ g) ⟨b,4,none⟩ i) ⟨b,5,none⟩ j).heap[b]?=some (.cells #[a,d,f,g,i,j,u,s,q,p,e,c] t (0,0)):=by simpa using zy H 5 j
 have J:(World.setCell (World.setCell (World.setCell (World.setCell (World.setCell (World.setCell (World.setCell w ⟨b,0,none⟩ a) ⟨b,1,none⟩ d) ⟨b,2,none⟩ f) ⟨b,3,none⟩ g) ⟨b,4,none⟩ i) ⟨b,5,none⟩ j) ⟨b,6,none⟩ l).heap[b]?=some (.cells #[a,d,f,g,i,j,l,s,q,p,e,c] t (0,0)):=by simpa using zy I 6 l
 have h7:(World.setCell (World.setCell (World.setCell (World.setCell (World.setCell (World.setCell (World.setCell (World.setCell w ⟨b,0,none⟩ a) ⟨b,1,none⟩ d) ⟨b,2,none⟩ f) ⟨b,3,none⟩ g) ⟨b,4,none⟩ i) ⟨b,5,none⟩ j) ⟨b,6,none⟩ l) ⟨b,7,none⟩ m).heap[b]?=some (.cells #[a,d,f,g,i,j,l,m,q,p,e,c] t (0,0)):=by simpa using zy J 7 m
 have h8:(World.setCell (World.setCell (World.setCell (World.setCell (World.setCell (World.setCell (World.setCell (World.setCell (World.setCell w ⟨b,0,none⟩ a) ⟨b,1,none⟩ d) ⟨b,2,none⟩ f) ⟨b,3,none⟩ g) ⟨b,4,none⟩ i) ⟨b,5,none⟩ j) ⟨b,6,none⟩ l) ⟨b,7,none⟩ m) ⟨b,8,none⟩ o).heap[b]?=some (.cells #[a,d,f,g,i,j,l,m,o,p,e,c] t (0,0)):=by simpa using zy h7 8 o
 have K:(World.setCell (World.setCell (World.setCell (World.setCell (World.setCell (World.setCell (World.setCell (World.setCell (World.setCell (World.setCell w ⟨b,0,none⟩ a) ⟨b,1,none⟩ d) ⟨b,2,none⟩ f) ⟨b,3,none⟩ g) ⟨b,4,none⟩ i) ⟨b,5,none⟩ j) ⟨b,6,none⟩ l) ⟨b,7,none⟩ m) ⟨b,8,none⟩ o) ⟨b,9,none⟩ r).heap[b]?=some (.cells #[a,d,f,g,i,j,l,m,o,r,e,c] t (0,0)):=by simpa using zy h8 9 r
 have z:(World.setCell (World.setCell (World.setCell (World.setCell (World.setCell (World.setCell (World.setCell (World.setCell (World.setCell (World.setCell (World.setCell w ⟨b,0,none⟩ a) ⟨b,1,none⟩ d) ⟨b,2,none⟩ f) ⟨b,3,none⟩ g) ⟨b,4,none⟩ i) ⟨b,5,none⟩ j) ⟨b,6,none⟩ l) ⟨b,7,none⟩ m) ⟨b,8,none⟩ o) ⟨b,9,none⟩ r) ⟨b,10,none⟩ k).heap[b]?=some (.cells #[a,d,f,g,i,j,l,m,o,r,k,c] t (0,0)):=by simpa using zy K 10 k
 have A:(World.setCell (World.setCell (World.setCell (World.setCell (World.setCell (World.setCell (World.setCell (World.setCell (World.setCell (World.setCell (World.setCell (World.setCell w ⟨b,0,none⟩ a) ⟨b,1,none⟩ d) ⟨b,2,none⟩ f) ⟨b,3,none⟩ g) ⟨b,4,none⟩ i) ⟨b,5,none⟩ j) ⟨b,6,none⟩ l) ⟨b,7,none⟩ m) ⟨b,8,none⟩ o) ⟨b,9,none⟩ r) ⟨b,10,none⟩ k) ⟨b,11,none⟩ n).heap[b]?=some (.cells #[a,d,f,g,i,j,l,m,o,r,k,n] t (0,0)):=by simpa using zy z 11 n
 exact A
theorem zhw (w:World)(b:Nat)(e f g h i j l m n o c d:Value):zA w (World.setCell (World.setCell (World.setCell (World.setCell (World.setCell (World.setCell (World.setCell (World.setCell (World.setCell (World.setCell (World.setCell (World.setCell w ⟨b,0,none⟩ e) ⟨b,1,none⟩ f) ⟨b,2,none⟩ g) ⟨b,3,none⟩ h) ⟨b,4,none⟩ i) ⟨b,5,none⟩ j) ⟨b,6,none⟩ l) ⟨b,7,none⟩ m) ⟨b,8,none⟩ n) ⟨b,9,none⟩ o) ⟨b,10,none⟩ c) ⟨b,11,none⟩ d) (fun k=>k=b):=(((((((((((((zA.refl w (fun k=>k=b)).set (a:=⟨b,0,none⟩) rfl e).set (a:=⟨b,1,none⟩) rfl f).set (a:=⟨b,2,none⟩) rfl g).set (a:=⟨b,3,none⟩) rfl h).set (a:=⟨b,4,none⟩) rfl i).set (a:=⟨b,5,none⟩) rfl j).set (a:=⟨b,6,none⟩) rfl l).set (a:=⟨b,7,none⟩) rfl m).set (a:=⟨b,8,none⟩) rfl n).set (a:=⟨b,9,none⟩) rfl o).set (a:=⟨b,10,none⟩) rfl c).set (a:=⟨b,11,none⟩) rfl d)
end Go.Proofs.YtfallpinmhbemaaGreatDoor
