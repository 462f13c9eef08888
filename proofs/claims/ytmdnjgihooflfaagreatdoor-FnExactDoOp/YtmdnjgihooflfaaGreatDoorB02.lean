/-
  OWN TEXT: KitRoom, InfoRoom, LRoom, KitSeat, InfoSeat, LSeat, KitLoad.
-/
import Derived.Test.YtmdnjgihooflfaaGreatDoorRows
import Derived.Deep.RegionHeld3
import Derived.Test.YtmdnjgihooflfaaGreatDoorB01
namespace Go.Proofs.YtmdnjgihooflfaaGreatDoor
open Go.RowKit
open Go.Value (int)
open Go.IntKind (i64)
open Tryz
set_option maxHeartbeats 64000000
set_option maxRecDepth 100000
section
open Go.RowKit
variable{w w':World}{n i g t k j:Nat}{a:Option Addr}
structure qN where
 who:Int
 cab:Int
 many:Int
 all:Bool
def qN.zero:qN:=⟨0,0,0,false⟩
instance:Inhabited qN:=⟨qN.zero⟩
def qp (w:World)(a:Option Addr)(n:Nat)(S:Nat->qN):Prop :=
 ∀ k,k<n->∃ b off,a=some ⟨b,off,none⟩/\w.cell? ⟨b,off+k*4,none⟩=some (int i64 (S k).who)/\w.cell? ⟨b,off+k*4+1,none⟩=some (int i64 (S k).cab)/\w.cell? ⟨b,off+k*4+2,none⟩=some (int i64 (S k).many)/\w.cell? ⟨b,off+k*4+3,none⟩=some (.bool (S k).all)
theorem qp.below {d:Option Addr}{S:Nat->qN}(h:qp w d n S)(c:Below w.heap.size w w'):qp w' d n S:=by
 intro k g;obtain⟨b,off,e,f,h1,h2,h3⟩:=h k g;have a:b<w.heap.size:=Ja w _ f;exact⟨b,off,e,(c.cell a).trans f,(c.cell a).trans h1,(c.cell a).trans h2,(c.cell a).trans h3⟩
theorem qp.upto {S:Nat->qN}(h:qp w a n S)(hi:i<=n):qp w a i S:=λk hk=>h k (by omega)
def qs (S:Nat->qN)(j:Nat):Value :=
 if j % 4=0 then int i64 (S (j / 4)).who else if j % 4=1 then int i64 (S (j / 4)).cab else if j % 4=2 then int i64 (S (j / 4)).many else .bool (S (j / 4)).all
theorem zaJ (S:Nat->qN)(k:Nat):qs S (k*4)=int i64 (S k).who:=by
 unfold qs;rw[Jf (by omega),show k*4 / 4=k by omega]
theorem zaK (S:Nat->qN)(k:Nat):qs S (k*4+1)=int i64 (S k).cab:=by
 unfold qs;rw[Je (by omega),Jf (by omega),show(k*4+1) / 4=k by omega]
theorem zaL (S:Nat->qN)(k:Nat):qs S (k*4+2)=int i64 (S k).many:=by
 unfold qs;rw[Je (by omega),Je (by omega),Jf (by omega),show(k*4+2) / 4=k by omega]
theorem zaM (S:Nat->qN)(k:Nat):qs S (k*4+3)=.bool (S k).all:=by
 unfold qs;rw[Je (by omega),Je (by omega),Je (by omega),show(k*4+3) / 4=k by omega]
theorem qp.of_row {S:Nat->qN}(h:w.rowIs g t (n*4) (qs S)):qp w (some ⟨g,0,none⟩) n S:=by
 intro k hk;refine⟨g,0,rfl,?_,?_,?_,?_⟩
 ·rw[Nat.zero_add,h.cell (by omega),zaJ]
 ·rw[Nat.zero_add,h.cell (by omega),zaK]
 ·rw[Nat.zero_add,h.cell (by omega),zaL]
 ·rw[Nat.zero_add,h.cell (by omega),zaM]
theorem zmT (n:Nat)(j:Nat)(a:j<n*4):(madeCells (Value.agg #[(),(),(),.bool false]).cells (n*4)).toList.getD j (.bool false)=qs (λ_=>qN.zero) j:=by
 have b:(Value.agg #[_,_,_,_]).cells=#[int i64 0,int i64 0,int i64 0,.bool false]:=rfl;rw[b];simp only[madeCells,Array.toList_map,List.getD_eq_getElem?_getD,List.getElem?_map,Array.toList_range,List.getElem?_range a,Option.map_some,Option.getD_some];unfold qs;have:j % 4=0∨j % 4=1∨j % 4=2∨j % 4=3:=by omega
 rcases this with h|h|h|h <;> simp[h,qN.zero]
theorem room_set {S S':Nat->qN}(h:w.rowIs g t n (qs S))(a:∀ i,i≠k->S' i=S i) :
  ((((w.setCell (g,k*4) (S' k).who).setCell (g,k*4+1) (S' k).cab).setCell (g,k*4+2) (S' k).many).setCell (g,k*4+3) (S' k).all).rowIs g t n (qs S'):=by
 refine((((h.set _ _).set _ _).set _ _).set _ _).congr λj _=>?_
 by_cases h3:j=k*4+3
 ·subst h3;rw[Jf rfl,zaM]
 rw[Je h3]
 by_cases h2:j=k*4+2
 ·subst h2;rw[Jf rfl,zaL]
 rw[Je h2]
 by_cases h1:j=k*4+1
 ·subst h1;rw[Jf rfl,zaK]
 rw[Je h1]
 by_cases h0:j=k*4
 ·subst h0;rw[Jf rfl,zaJ]
 rw[Je h0];have b:j / 4≠k:=by omega
 unfold qs;rw[a _ b]
def zw (S:Nat->qN)(n:Nat):List Value:=(List.range (n*4)).map (qs S)
theorem qK (S:Nat->qN)(n:Nat):(zw S n).length=n*4:=by simp[zw]
theorem zfz {S:Nat->qN}{u:Value}(h:(zw S n)[j]?=some u):j<n*4/\u=qs S j:=by
 unfold zw at h;rw[List.getElem?_map] at h
 by_cases hj:j<n*4
 ·rw[List.getElem?_range hj] at h;simp at h;exact⟨hj,h.symm⟩
 ·rw[List.getElem?_eq_none (by simpa using hj)] at h;cases h
theorem Z5 (S:Nat->qN)(n:Nat):∀ u ∈ zw S n,u.oneCell'=true:=by
 intro u a;unfold zw at a;simp only[List.mem_map] at a;obtain⟨j,_,rfl⟩:=a;unfold qs
 repeat' split
 all_goals rfl
theorem Q6 (S:Nat->qN)(k:Nat):zw S (k+1)=zw S k++[int i64 (S k).who,int i64 (S k).cab,int i64 (S k).many,.bool (S k).all]:=by
 unfold zw;rw[show(k+1)*4=k*4+1+1+1+1 by omega,List.range_succ,List.range_succ,List.range_succ,List.range_succ]
 simp only[List.map_append,List.map_cons,List.map_nil,List.append_assoc,List.cons_append,List.nil_append,zaJ,zaK,zaL,zaM]
theorem zeb {S S':Nat->qN}(h:∀ i,i<n->S i=S' i):zw S n=zw S' n:=by
 unfold zw;refine List.map_congr_left (λj a=>?_)
 have b:=by simpa using a
 unfold qs;rw[h _ (by omega)]
def ZE (S:Nat->qN)(n:Nat)(T:Nat->qN)(i:Nat):qN:=if i<n then S i else T (i - n)
theorem zfA (S T:Nat->qN)(n j:Nat):zw (ZE S n T) (n+j)=zw S n++zw T j:=by
 induction j with
 | zero =>
  have:zw T 0=[]:=by simp[zw]
  rw[this,List.append_nil,Nat.add_zero];exact zeb (λi a=>Jf a)
 | succ j ih =>
  rw[show n+(j+1)=n+j+1 by omega,Q6,Q6,ih,List.append_assoc]
  have:ZE S n T (n+j)=T j:=by unfold ZE;rw[Je (by omega),show n+j - n=j by omega]
  rw[this]
theorem Qv {f:Option Addr}{S:Nat->qN}(h:qp w f n S):∀ c,f=some c->∀ j u,(zw S n)[j]?=some u->w.cell? (c.add j)=some u:=by
 intro c e j u i;obtain⟨hj,rfl⟩:=zfz i;obtain⟨b,off,d,g,h1,h2,h3⟩:=h (j / 4) (by omega)
 rw[e] at d;simp only[Option.some.injEq] at d;subst d;rw[Addr.add_lit];have a:j % 4=0∨j % 4=1∨j % 4=2∨j % 4=3:=by omega
 rcases a with a|a|a|a
 ·rw[show off+j=off+j / 4*4 by omega,g];unfold qs;simp[a]
 ·rw[show off+j=off+j / 4*4+1 by omega,h1];unfold qs;simp[a]
 ·rw[show off+j=off+j / 4*4+2 by omega,h2];unfold qs;simp[a]
 ·rw[show off+j=off+j / 4*4+3 by omega,h3];unfold qs;simp[a]
theorem QR {base e c:Nat}{S:Nat->qN}(h:w.ownsRow base e 4 (.slice a n c) n (zw S n)):qp w a n S:=by
 intro k hk;obtain⟨g,rfl,_,_⟩:=qh h (by omega)
 have b:=zs h (k*4) (by omega) rfl
 rw[zaJ] at b;have c1:=zs h (k*4+1) (by omega) rfl
 rw[zaK] at c1;have c2:=zs h (k*4+2) (by omega) rfl
 rw[zaL] at c2;have c3:=zs h (k*4+3) (by omega) rfl
 rw[zaM] at c3;exact⟨g,0,rfl,by rw[Nat.zero_add];exact b,by rw[Nat.zero_add];exact c1,by rw[Nat.zero_add];exact c2,by rw[Nat.zero_add];exact c3⟩
end
theorem Tryz.infoRoom:(Tryz.prog.info? 228).map (λi=>(i.zero,i.size,i.bytes))=some (some (.agg #[int i64 0,int i64 0,int i64 0,.bool false]),4,32):=by kernel_rfl
theorem zmU (a:Int)(b:Int)(c:Int)(d:Bool)(w:World) :
  Calls prog 230 #[.agg #[a,b,c,d]] w λe w'=>e=.returned (.agg #[a,b,c,d])/\Below w.heap.size w w':=by
 go_enter func230,ntmps230;go_wp2;exact Jj (by simp[results,results230,go_sem]) rfl ⟨rfl,zk (zk (zk bZ _) _) _⟩
theorem zlt (a:Int)(b:Int)(c:Int)(d:Bool)(w:World) :
  Calls prog 258 #[.agg #[a,b,c,d],.agg #[a,b,c,d]] w λe w'=>e=.returned (.bool true)/\Below w.heap.size w w':=by
 go_enter func258,ntmps258;go_wp2;go_ret;exact⟨rfl,zk (zk bZ _) _⟩
/-- toRoomS: a copy in a new row. -/
theorem zlu (x:Option Addr)(n r:Nat)(S:Nat->qN)(w:World)(hn:n<=1048576)(A:qp w x n S) :
  Calls prog 175 #[(x,n,r)] w λe w'=>∃ g,e=.returned (some (g,0),n,n)/\w.heap.size<=g /\
   w'.rowIs g 228 (n*4) (qs S)/\Below w.heap.size w w':=by
 obtain⟨B,z,t,u,v⟩:=info_parts Tryz.infoRoom;go_enter func175,ntmps175;go_wp2_with (first|(at_make;refine wpList_make_full _ rfl _ _ 142 rfl _ 228 B _ 4 underlying142 z t u _ _ _ _ n rfl rfl rfl rfl (by rw[v];omega) (by unfold maxLen;omega) (Jr _) ?_;intro w1 l f))
 go_loopw [4] (λi wr=>∃ k,k<=n/\i=int i64 k/\wr.rowIs w.heap.size 228 (n*4) (qs (zbJ k S qN.zero))/\Below w.heap.size w wr)
  (λi _=>n - (intOf i).toNat)
 case atStart=>exact⟨0,Jq _,rfl,(ZP l).congr (λj y=>zmT n j y),bZ.grown f (Jr _) (by simp)⟩
 case round =>
  obtain⟨k,hk,rfl,m,c⟩:=hrel;clear l f
  by_cases hlt:k<n
  ·obtain⟨b,off,rfl,s,h1,h2,h3⟩:=A k (by omega)
   have q:=Ja w _ s;have c0:=(c.cell q).trans s;have c1:=(c.cell (p:=⟨b,_+1,_⟩) q).trans h1;have c2:=(c.cell (p:=⟨b,_+2,_⟩) q).trans h2;have c3:=(c.cell (p:=⟨b,_+3,_⟩) q).trans h3;clear s h1 h2 h3;go_wp2_with (first|(go_at_call 230;refine(zmU _ _ _ _ _).mono ?_;rintro e w2 ⟨rfl,o⟩;have d:=m.of_block (o.block _ m.lt);have o0:=d.cell (i:=k*4) (by omega);have o1:=d.cell (i:=k*4+1) (by omega);have o2:=d.cell (i:=k*4+2) (by omega);have o3:=d.cell (i:=k*4+3) (by omega);have f0:=d.frozen (k*4);have f1:=d.frozen (k*4+1);have f2:=d.frozen (k*4+2);have f3:=d.frozen (k*4+3)))
   go_roundw
   case rel =>
    refine⟨k+1,by omega,by go_num,?_,?_⟩
    ·have:=room_set (S':=zbJ _ S _) d (λi h=>QB _ _ _ _ h)
     simp only[qr _ _ (Nat.lt_succ_self k)] at this;exact this
    ·exact(((((ze c o).setCell (Jr _) _).setCell (Jr _) _).setCell (Jr _) _).setCell (Jr _) _)
   case measure=>simp[intOf];omega
  ·go_wp2
   go_ret;exact⟨_,rfl,Jr _,m.congr (λj y=>by unfold qs;rw[qr _ _ (by omega)]),c⟩
/-- eqRoomS at two lists that are one. -/
theorem zjJ (q bo:Option Addr)(n c1 c2:Nat)(S:Nat->qN)(w:World)(hn:n<=2097152)(A:qp w q n S)(B:qp w bo n S) :
  Calls prog 220 #[(q,n,c1),(bo,n,c2)] w λe w'=>e=.returned (.bool true)/\Below w.heap.size w w':=by
 go_enter func220,ntmps220;go_wp2;go_loopw [5] (λi wr=>∃ k,k<=n/\i=int i64 k/\Below w.heap.size w wr) (λi _=>n - (intOf i).toNat)
 case atStart=>exact⟨0,Jq _,rfl,bZ⟩
 case round =>
  obtain⟨k,hk,rfl,a⟩:=hrel
  by_cases hlt:k<n
  ·obtain⟨b,off,rfl,o,h1,h2,h3⟩:=A k (by omega)
   obtain⟨j,f,rfl,m,x,y,z⟩:=B k (by omega)
   have l:=Ja w _ o;have g:=Ja w _ m;have r:=(a.cell l).trans o;have s:=(a.cell g).trans m;have c1:=(a.cell (p:=⟨b,_+1,_⟩) l).trans h1;have t:=(a.cell (p:=⟨j,_+1,_⟩) g).trans x;have c2:=(a.cell (p:=⟨b,_+2,_⟩) l).trans h2;have u:=(a.cell (p:=⟨j,_+2,_⟩) g).trans y;have c3:=(a.cell (p:=⟨b,_+3,_⟩) l).trans h3;have v:=(a.cell (p:=⟨j,_+3,_⟩) g).trans z;clear o m h1 x h2 y h3 z;have h:b<wr.heap.size:=Nat.lt_of_lt_of_le l a.size;have d:j<wr.heap.size:=Nat.lt_of_lt_of_le g a.size;have i1:(0:Int)<=(k:Int):=by omega
   have i2:(k:Int)<(n:Int):=by omega
   go_wp2;go_region_held3 (λw'=>w'.cell? (b,off+k*4)=some (S k).who/\w'.cell? (b,off+k*4+1)=some (S k).cab/\w'.cell? (b,off+k*4+2)=some (S k).many/\w'.cell? (b,off+k*4+3)=some (S k).all/\w'.cell? (j,f+k*4)=some (S k).who/\w'.cell? (j,f+k*4+1)=some (S k).cab/\w'.cell? (j,f+k*4+2)=some (S k).many/\w'.cell? (j,f+k*4+3)=some (S k).all)
    (first|exact⟨r,c1,c2,c3,s,t,u,v⟩|exact⟨(c.cell h).trans r,(c.cell h).trans c1,(c.cell h).trans c2,(c.cell h).trans c3,(c.cell d).trans s,(c.cell d).trans t,(c.cell d).trans u,(c.cell d).trans v⟩)
    (first|(go_at_call 258;refine(zlt _ _ _ _ _).mono ?_;rintro e w2 ⟨rfl,c⟩))
   go_wp2;go_roundw
   case rel=>exact⟨k+1,by omega,by go_num,ze a.drew c⟩
   case measure=>simp[intOf];omega
  ·go_wp2
   go_ret;exact⟨rfl,a⟩
theorem zlv (a:Option Addr)(n c:Nat)(L:Int)(w:World)(h0:0<=L)(hL:L<=1048576)(hn:n<=1000000000000000) :
  Calls prog 144 #[(a,n,c),L] w λe w'=>∃ r:Int,e=.returned r/\(r=-1∨(0<=r/\r<=L/\n<=1048576))/\Below w.heap.size w w':=by
 by_cases h:(n:Int)<=L
 ·go_enter func144,ntmps144
  go_wp2;go_ret;exact⟨_,rfl,.inr ⟨by omega,by omega,by omega⟩,bZ⟩
 ·go_enter func144,ntmps144
  go_wp2;go_ret;exact⟨_,rfl,.inl rfl,bZ⟩
section
open Go.RowKit
variable{w w':World}{n i g t k j:Nat}{a:Option Addr}
structure Qe where
 who:Int
 many:Int
def Qe.zero:Qe:=⟨0,0⟩
instance:Inhabited Qe:=⟨Qe.zero⟩
def qE (w:World)(a:Option Addr)(n:Nat)(S:Nat->Qe):Prop :=
 ∀ k,k<n->∃ b off,a=some ⟨b,off,none⟩/\w.cell? ⟨b,off+k*2,none⟩=some (int i64 (S k).who)/\w.cell? ⟨b,off+k*2+1,none⟩=some (int i64 (S k).many)
theorem qE.below {c:Option Addr}{S:Nat->Qe}(h:qE w c n S)(f:Below w.heap.size w w'):qE w' c n S:=by
 intro k g;obtain⟨b,off,e,d,h1⟩:=h k g;have a:b<w.heap.size:=Ja w _ d;exact⟨b,off,e,(f.cell a).trans d,(f.cell a).trans h1⟩
theorem qE.upto {S:Nat->Qe}(h:qE w a n S)(hi:i<=n):qE w a i S:=λk hk=>h k (by omega)
def qL (S:Nat->Qe)(j:Nat):Value :=
 if j % 2=0 then int i64 (S (j / 2)).who else int i64 (S (j / 2)).many
theorem zaN (S:Nat->Qe)(k:Nat):qL S (k*2)=int i64 (S k).who:=by
 unfold qL;rw[Jf (by omega),show k*2 / 2=k by omega]
theorem zaO (S:Nat->Qe)(k:Nat):qL S (k*2+1)=int i64 (S k).many:=by
 unfold qL;rw[Je (by omega),show(k*2+1) / 2=k by omega]
theorem qE.of_row {S:Nat->Qe}(h:w.rowIs g t (n*2) (qL S)):qE w (some ⟨g,0,none⟩) n S:=by
 intro k hk;refine⟨g,0,rfl,?_,?_⟩
 ·rw[Nat.zero_add,h.cell (by omega),zaN]
 ·rw[Nat.zero_add,h.cell (by omega),zaO]
theorem zmV (n:Nat)(j:Nat)(a:j<n*2):(madeCells (Value.agg #[(),()]).cells (n*2)).toList.getD j (.bool false)=qL (λ_=>Qe.zero) j:=by
 have b:(Value.agg #[_,_]).cells=#[int i64 0,int i64 0]:=rfl;rw[b];simp only[madeCells,Array.toList_map,List.getD_eq_getElem?_getD,List.getElem?_map,Array.toList_range,List.getElem?_range a,Option.map_some,Option.getD_some];unfold qL;have:j % 2=0∨j % 2=1:=by omega
 rcases this with h|h <;> simp[h,Qe.zero]
theorem seat_set {S S':Nat->Qe}(h:w.rowIs g t n (qL S))(a:∀ i,i≠k->S' i=S i) :
  ((w.setCell (g,k*2) (S' k).who).setCell (g,k*2+1) (S' k).many).rowIs g t n (qL S'):=by
 refine((h.set _ _).set _ _).congr λj _=>?_
 by_cases h1:j=k*2+1
 ·subst h1;rw[Jf rfl,zaO]
 rw[Je h1]
 by_cases h0:j=k*2
 ·subst h0;rw[Jf rfl,zaN]
 rw[Je h0];have b:j / 2≠k:=by omega
 unfold qL;rw[a _ b]
def zB (S:Nat->Qe)(n:Nat):List Value:=(List.range (n*2)).map (qL S)
theorem Zo (S:Nat->Qe)(n:Nat):(zB S n).length=n*2:=by simp[zB]
theorem zfB {S:Nat->Qe}{u:Value}(h:(zB S n)[j]?=some u):j<n*2/\u=qL S j:=by
 unfold zB at h;rw[List.getElem?_map] at h
 by_cases hj:j<n*2
 ·rw[List.getElem?_range hj] at h;simp at h;exact⟨hj,h.symm⟩
 ·rw[List.getElem?_eq_none (by simpa using hj)] at h;cases h
theorem zar (S:Nat->Qe)(n:Nat):∀ u ∈ zB S n,u.oneCell'=true:=by
 intro u a;unfold zB at a;simp only[List.mem_map] at a;obtain⟨j,_,rfl⟩:=a;unfold qL
 repeat' split
 all_goals rfl
theorem zax (S:Nat->Qe)(k:Nat):zB S (k+1)=zB S k++[int i64 (S k).who,int i64 (S k).many]:=by
 unfold zB;rw[show(k+1)*2=k*2+1+1 by omega,List.range_succ,List.range_succ]
 simp only[List.map_append,List.map_cons,List.map_nil,List.append_assoc,List.cons_append,List.nil_append,zaN,zaO]
theorem zec {S S':Nat->Qe}(h:∀ i,i<n->S i=S' i):zB S n=zB S' n:=by
 unfold zB;refine List.map_congr_left (λj a=>?_)
 have b:=by simpa using a
 unfold qL;rw[h _ (by omega)]
def zam (S:Nat->Qe)(n:Nat)(T:Nat->Qe)(i:Nat):Qe:=if i<n then S i else T (i - n)
theorem zjK (S T:Nat->Qe)(n j:Nat):zB (zam S n T) (n+j)=zB S n++zB T j:=by
 induction j with
 | zero =>
  have:zB T 0=[]:=by simp[zB]
  rw[this,List.append_nil,Nat.add_zero];exact zec (λi a=>Jf a)
 | succ j ih =>
  rw[show n+(j+1)=n+j+1 by omega,zax,zax,ih,List.append_assoc]
  have:zam S n T (n+j)=T j:=by unfold zam;rw[Je (by omega),show n+j - n=j by omega]
  rw[this]
theorem zaP {f:Option Addr}{S:Nat->Qe}(h:qE w f n S):∀ c,f=some c->∀ j u,(zB S n)[j]?=some u->w.cell? (c.add j)=some u:=by
 intro c e j u i;obtain⟨hj,rfl⟩:=zfB i;obtain⟨b,off,d,g,h1⟩:=h (j / 2) (by omega)
 rw[e] at d;simp only[Option.some.injEq] at d;subst d;rw[Addr.add_lit];have a:j % 2=0∨j % 2=1:=by omega
 rcases a with a|a
 ·rw[show off+j=off+j / 2*2 by omega,g];unfold qL;simp[a]
 ·rw[show off+j=off+j / 2*2+1 by omega,h1];unfold qL;simp[a]
theorem QS {base e c:Nat}{S:Nat->Qe}(h:w.ownsRow base e 2 (.slice a n c) n (zB S n)):qE w a n S:=by
 intro k hk;obtain⟨g,rfl,_,_⟩:=qh h (by omega)
 have b:=zs h (k*2) (by omega) rfl
 rw[zaN] at b;have c1:=zs h (k*2+1) (by omega) rfl
 rw[zaO] at c1;exact⟨g,0,rfl,by rw[Nat.zero_add];exact b,by rw[Nat.zero_add];exact c1⟩
end
theorem Tryz.infoSeat:(Tryz.prog.info? 234).map (λi=>(i.zero,i.size,i.bytes))=some (some (.agg #[int i64 0,int i64 0]),2,16):=by kernel_rfl
theorem zmW (a:Int)(b:Int)(w:World) :
  Calls prog 231 #[.agg #[a,b]] w λe w'=>e=.returned (.agg #[a,b])/\Below w.heap.size w w':=by
 go_enter func231,ntmps231;go_wp2;exact Jj (by simp[results,results231,go_sem]) rfl ⟨rfl,zk (zk (zk bZ _) _) _⟩
theorem zlw (a:Int)(b:Int)(w:World) :
  Calls prog 259 #[.agg #[a,b],.agg #[a,b]] w λe w'=>e=.returned (.bool true)/\Below w.heap.size w w':=by
 go_enter func259,ntmps259;go_wp2;go_ret;exact⟨rfl,zk (zk bZ _) _⟩
/-- toSeatS: a copy in a new row. -/
theorem zlx (v:Option Addr)(n q:Nat)(S:Nat->Qe)(w:World)(hn:n<=1048576)(A:qE w v n S) :
  Calls prog 176 #[(v,n,q)] w λe w'=>∃ g,e=.returned (some (g,0),n,n)/\w.heap.size<=g /\
   w'.rowIs g 234 (n*2) (qL S)/\Below w.heap.size w w':=by
 obtain⟨B,z,s,t,u⟩:=info_parts Tryz.infoSeat;go_enter func176,ntmps176;go_wp2_with (first|(at_make;refine wpList_make_full _ rfl _ _ 143 rfl _ 234 B _ 2 underlying143 z s t _ _ _ _ n rfl rfl rfl rfl (by rw[u];omega) (by unfold maxLen;omega) (Jr _) ?_;intro w1 f d))
 go_loopw [4] (λi wr=>∃ k,k<=n/\i=int i64 k/\wr.rowIs w.heap.size 234 (n*2) (qL (zbJ k S Qe.zero))/\Below w.heap.size w wr)
  (λi _=>n - (intOf i).toNat)
 case atStart=>exact⟨0,Jq _,rfl,(ZP f).congr (λj y=>zmV n j y),bZ.grown d (Jr _) (by simp)⟩
 case round =>
  obtain⟨k,hk,rfl,m,c⟩:=hrel;clear f d
  by_cases hlt:k<n
  ·obtain⟨b,off,rfl,r,h1⟩:=A k (by omega)
   have x:=Ja w _ r;have c0:=(c.cell x).trans r;have c1:=(c.cell (p:=⟨b,_+1,_⟩) x).trans h1;clear r h1;go_wp2_with (first|(go_at_call 231;refine(zmW _ _ _).mono ?_;rintro e w2 ⟨rfl,o⟩;have l:=m.of_block (o.block _ m.lt);have o0:=l.cell (i:=k*2) (by omega);have o1:=l.cell (i:=k*2+1) (by omega);have f0:=l.frozen (k*2);have f1:=l.frozen (k*2+1)))
   go_roundw
   case rel =>
    refine⟨k+1,by omega,by go_num,?_,?_⟩
    ·have:=seat_set (S':=zbJ _ S _) l (λi h=>QB _ _ _ _ h)
     simp only[qr _ _ (Nat.lt_succ_self k)] at this;exact this
    ·exact(((ze c o).setCell (Jr _) _).setCell (Jr _) _)
   case measure=>simp[intOf];omega
  ·go_wp2
   go_ret;exact⟨_,rfl,Jr _,m.congr (λj y=>by unfold qL;rw[qr _ _ (by omega)]),c⟩
/-- eqSeatS at two lists that are one. -/
theorem zjL (q bo:Option Addr)(n c1 c2:Nat)(S:Nat->Qe)(w:World)(hn:n<=2097152)(v:qE w q n S)(x:qE w bo n S) :
  Calls prog 221 #[(q,n,c1),(bo,n,c2)] w λe w'=>e=.returned (.bool true)/\Below w.heap.size w w':=by
 go_enter func221,ntmps221;go_wp2;go_loopw [5] (λi wr=>∃ k,k<=n/\i=int i64 k/\Below w.heap.size w wr) (λi _=>n - (intOf i).toNat)
 case atStart=>exact⟨0,Jq _,rfl,bZ⟩
 case round =>
  obtain⟨k,hk,rfl,a⟩:=hrel
  by_cases hlt:k<n
  ·obtain⟨b,off,rfl,m,h1⟩:=v k (by omega)
   obtain⟨j,f,rfl,l,u⟩:=x k (by omega)
   have o:=Ja w _ m;have g:=Ja w _ l;have r:=(a.cell o).trans m;have s:=(a.cell g).trans l;have c1:=(a.cell (p:=⟨b,_+1,_⟩) o).trans h1;have t:=(a.cell (p:=⟨j,_+1,_⟩) g).trans u;clear m l h1 u;have h:b<wr.heap.size:=Nat.lt_of_lt_of_le o a.size;have d:j<wr.heap.size:=Nat.lt_of_lt_of_le g a.size;have i1:(0:Int)<=(k:Int):=by omega
   have i2:(k:Int)<(n:Int):=by omega
   go_wp2;go_region_held3 (λw'=>w'.cell? (b,off+k*2)=some (S k).who/\w'.cell? (b,off+k*2+1)=some (S k).many/\w'.cell? (j,f+k*2)=some (S k).who/\w'.cell? (j,f+k*2+1)=some (S k).many)
    (first|exact⟨r,c1,s,t⟩|exact⟨(c.cell h).trans r,(c.cell h).trans c1,(c.cell d).trans s,(c.cell d).trans t⟩)
    (first|(go_at_call 259;refine(zlw _ _ _).mono ?_;rintro e w2 ⟨rfl,c⟩))
   go_wp2;go_roundw
   case rel=>exact⟨k+1,by omega,by go_num,ze a.drew c⟩
   case measure=>simp[intOf];omega
  ·go_wp2
   go_ret;exact⟨rfl,a⟩
theorem zly (a:Option Addr)(n c:Nat)(L:Int)(w:World)(h0:0<=L)(hL:L<=1048576)(hn:n<=1000000000000000) :
  Calls prog 145 #[(a,n,c),L] w λe w'=>∃ r:Int,e=.returned r/\(r=-1∨(0<=r/\r<=L/\n<=1048576))/\Below w.heap.size w w':=by
 by_cases h:(n:Int)<=L
 ·go_enter func145,ntmps145
  go_wp2;go_ret;exact⟨_,rfl,.inr ⟨by omega,by omega,by omega⟩,bZ⟩
 ·go_enter func145,ntmps145
  go_wp2;go_ret;exact⟨_,rfl,.inl rfl,bZ⟩
section
open Go.RowKit
variable{w w':World}{cs:List Value}{lo j i g N k:Nat}{a:Option Addr}
structure zY where
 stn:Nat
 st:Nat->Zp
 ron:Nat
 ro:Nat->qN
 sen:Nat
 se:Nat->Qe
def zY.Is (w:World)(cs:List Value)(x:zY):Prop :=
 ∃ ast cst aro cro ase cse,cs=[.slice ast x.stn cst,.slice aro x.ron cro,.slice ase x.sen cse]/\qw w ast x.stn x.st/\qj ast x.stn cst/\qp w aro x.ron x.ro/\qj aro x.ron cro/\qE w ase x.sen x.se/\qj ase x.sen cse
theorem zY.Is.below {x:zY}(h:zY.Is w cs x)(i:Below w.heap.size w w'):zY.Is w' cs x:=by
 obtain⟨c,g,a,d,b,f,e,l,o,j,m,k,n⟩:=h;exact⟨c,g,a,d,b,f,e,l.below i,o,j.below i,m,k.below i,n⟩
def zY.Short (x:zY)(B:Nat):Prop:=x.stn<=B/\x.ron<=B/\x.sen<=B
def zY.In (w:World)(lo a:Nat)(cs:List Value)(x:zY):Prop :=
 ∃ lst lro lse,cs=[ZY lst x.stn,ZY lro x.ron,ZY lse x.sen]/\(lo<=lst/\lst<a/\w.rowIs lst 220 (x.stn*4) (qv x.st))/\(lo<=lro/\lro<a/\w.rowIs lro 228 (x.ron*4) (qs x.ro))/\(lo<=lse/\lse<a/\w.rowIs lse 234 (x.sen*2) (qL x.se))
theorem zY.In.below {x:zY}(h:zY.In w lo j cs x)(d:Below w.heap.size w w'):zY.In w' lo j cs x:=by
 obtain⟨i,f,g,e,c,a,b⟩:=h;exact⟨i,f,g,e,⟨c.1,c.2.1,qo c.2.2 d⟩,⟨a.1,a.2.1,qo a.2.2 d⟩,⟨b.1,b.2.1,qo b.2.2 d⟩⟩
theorem zY.In.wide {lo' hi':Nat}{x:zY}(h:zY.In w lo i cs x)(h1:lo'<=lo)(h2:i<=hi'):zY.In w lo' hi' cs x:=by
 obtain⟨g,d,f,e,c,a,b⟩:=h;exact⟨g,d,f,e,⟨Jp h1 c.1,Nat.lt_of_lt_of_le c.2.1 h2,c.2.2⟩,⟨Jp h1 a.1,Nat.lt_of_lt_of_le a.2.1 h2,a.2.2⟩,⟨Jp h1 b.1,Nat.lt_of_lt_of_le b.2.1 h2,b.2.2⟩⟩
theorem zY.In.kept {S:Nat->Prop}{x:zY}(h:zY.In w lo g cs x)(i:zx w w' S)(f:∀ b,S b->b<lo∨g<=b):zY.In w' lo g cs x:=by
 obtain⟨l,j,k,e,d,a,c⟩:=h;exact⟨l,j,k,e,⟨d.1,d.2.1,d.2.2.of_block (i.block _ d.2.2.lt (λs=>by have:=f _ s;omega))⟩,⟨a.1,a.2.1,a.2.2.of_block (i.block _ a.2.2.lt (λs=>by have:=f _ s;omega))⟩,⟨c.1,c.2.1,c.2.2.of_block (i.block _ c.2.2.lt (λs=>by have:=f _ s;omega))⟩⟩
theorem zY.In.is {d:Nat}{x:zY}(h:zY.In w lo d cs x)(f:zY.Short x 1048576):zY.Is w cs x:=by
 obtain⟨j,g,i,e,c,a,b⟩:=h;obtain⟨m,k,l⟩:=f;exact⟨_,_,_,_,_,_,e,qw.of_row c.2.2,⟨Jr _,by omega,λh=>by cases h⟩,qp.of_row a.2.2,⟨Jr _,by omega,λh=>by cases h⟩,qE.of_row b.2.2,⟨Jr _,by omega,λh=>by cases h⟩⟩
def ZG (w:World)(a:Option Addr)(N:Nat)(S:Nat->zY):Prop:=∃ C,QT w a N 3 C/\∀ k,k<N->zY.Is w (C k) (S k)
theorem ZG.below {S:Nat->zY}(h:ZG w a N S)(b:Below w.heap.size w w'):ZG w' a N S:=by
 obtain⟨C,h1,h2⟩:=h;exact⟨C,h1.below b,λk c=>(h2 k c).below b⟩
def ZA (N:Nat)(S:Nat->zY)(B:Nat):Prop:=∀ i,i<N->zY.Short (S i) B
structure zan (w:World)(k lo a g N:Nat)(S:Nat->zY)(C:Nat->List Value):Prop where
 row:w.rowIs g 145 (N*3) (zZ 3 (zbJ k C (#[True,True,True]:Array Value).toList))
 glo:lo<=g
 ghi:g<a
 each:∀ i,i<k->zY.In w (g+1) a (C i) (S i)
theorem zan.below {a:Nat}{S:Nat->zY}{C:Nat->List Value}(r:zan w k lo a g N S C)(b:Below w.heap.size w w'):zan w' k lo a g N S C :=
 ⟨qo r.row b,r.glo,r.ghi,λi a=>(r.each i a).below b⟩
theorem zan.wide {a lo' hi':Nat}{S:Nat->zY}{C:Nat->List Value}(r:zan w k lo a g N S C)(h1:lo'<=lo)(h2:a<=hi'):zan w k lo' hi' g N S C :=
 ⟨r.row,Jp h1 r.glo,Nat.lt_of_lt_of_le r.ghi h2,λi a=>(r.each i a).wide (Jr _) h2⟩
theorem zan.kept {a:Nat}{S:Nat->zY}{C:Nat->List Value}{T:Nat->Prop}(r:zan w k lo a g N S C)(d:zx w w' T)(c:∀ b,T b->b<lo∨a<=b):zan w' k lo a g N S C :=
 ⟨r.row.of_block (d.block _ r.row.lt (λs=>by have:=c _ s;have:=r.glo;have:=r.ghi;omega)),r.glo,r.ghi,λi a=>(r.each i a).kept d (λb s=>by have:=c b s;have:=r.glo;omega)⟩
theorem zan.at {b:Nat}{S:Nat->zY}{C:Nat->List Value}(r:zan w N lo b g N S C)(c:ZA N S 1048576):ZG w (some (g,0)) N S:=by
 refine⟨_,QT.of_row r.row,λk a=>?_⟩
 rw[qr _ _ a];exact(r.each k a).is (c k a)
end
end Go.Proofs.YtmdnjgihooflfaaGreatDoor
