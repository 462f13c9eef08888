/-
  OWN TEXT: InfoSeat, LSeat, KitD, KitLoad, KitG, LLoad, LLoads.
-/
import Derived.Test.YtmdnjgihooflfaaGreatDoorRows
import Derived.Deep.RegionHeld3
import Derived.Test.YtmdnjgihooflfaaGreatDoorKitCo
import Derived.BigQuiet
import Derived.Deep.DeepCutAuto
import Derived.Test.YtmdnjgihooflfaaGreatDoorB01
namespace Go.Proofs.YtmdnjgihooflfaaGreatDoor
open Go.RowKit
open Go.Value (int)
open Go.IntKind (i64)
open Tryz
set_option maxHeartbeats 64000000
set_option maxRecDepth 100000
theorem Tryz.infoSeat:(Tryz.prog.info? 234).map (λi=>(i.zero,i.size,i.bytes))=some (some (.agg #[int i64 0,int i64 0]),2,16):=by kernel_rfl
theorem zmW (a:Int)(b:Int)(w:World) :
  Calls prog 231 #[.agg #[a,b]] w λe w'=>e=.returned (.agg #[a,b])/\Below w.heap.size w w':=by
 go_enter func231,ntmps231;go_wp2;exact Jj (by simp[results,results231,go_sem]) rfl ⟨rfl,zk (zk (zk bZ _) _) _⟩
theorem zlw (a:Int)(b:Int)(w:World) :
  Calls prog 259 #[.agg #[a,b],.agg #[a,b]] w λe w'=>e=.returned (.bool true)/\Below w.heap.size w w':=by
 go_enter func259,ntmps259;go_wp2;go_ret;exact⟨rfl,zk (zk bZ _) _⟩
/-- toSeatS: a copy in a new row. -/
theorem zlx (v:Option Addr)(n q:Nat)(S:Nat->Qe)(w:World)(hn:n<=1048576)(A:qE w v n S) :
  Calls prog 176 #[(v,n,q)] w λe w'=>∃ g,e=.returned (some (g,0),n,n)/\w.heap.size<=g /\
   w'.rowIs g 234 (n*2) (qL S)/\Below w.heap.size w w':=by
 obtain⟨B,z,s,t,u⟩:=info_parts Tryz.infoSeat;go_enter func176,ntmps176;go_wp2_with (first|(at_make;refine wpList_make_full _ rfl _ _ 143 rfl _ 234 B _ 2 underlying143 z s t _ _ _ _ n rfl rfl rfl rfl (by rw[u];omega) (by unfold maxLen;omega) (Jr _) ?_;intro w1 f d))
 go_loopw [4] (λi wr=>∃ k,k<=n/\i=int i64 k/\wr.rowIs w.heap.size 234 (n*2) (qL (zbJ k S Qe.zero))/\Below w.heap.size w wr)
  (λi _=>n - (intOf i).toNat)
 case atStart=>exact⟨0,Jq _,rfl,(ZP f).congr (λj y=>zmV n j y),bZ.grown d (Jr _) (by simp)⟩
 case round =>
  obtain⟨k,hk,rfl,m,c⟩:=hrel;clear f d
  by_cases hlt:k<n
  ·obtain⟨b,off,rfl,r,h1⟩:=A k (by omega)
   have x:=Ja w _ r;have c0:=(c.cell x).trans r;have c1:=(c.cell (p:=⟨b,_+1,_⟩) x).trans h1;clear r h1;go_wp2_with (first|(go_at_call 231;refine(zmW _ _ _).mono ?_;rintro e w2 ⟨rfl,o⟩;have l:=m.of_block (o.block _ m.lt);have o0:=l.cell (i:=k*2) (by omega);have o1:=l.cell (i:=k*2+1) (by omega);have f0:=l.frozen (k*2);have f1:=l.frozen (k*2+1)))
   go_roundw
   case rel =>
    refine⟨k+1,by omega,by go_num,?_,?_⟩
    ·have:=seat_set (S':=zbJ _ S _) l (λi h=>QB _ _ _ _ h)
     simp only[qr _ _ (Nat.lt_succ_self k)] at this;exact this
    ·exact(((ze c o).setCell (Jr _) _).setCell (Jr _) _)
   case measure=>simp[intOf];omega
  ·go_wp2
   go_ret;exact⟨_,rfl,Jr _,m.congr (λj y=>by unfold qL;rw[qr _ _ (by omega)]),c⟩
/-- eqSeatS at two lists that are one. -/
theorem zjL (q bo:Option Addr)(n c1 c2:Nat)(S:Nat->Qe)(w:World)(hn:n<=2097152)(v:qE w q n S)(x:qE w bo n S) :
  Calls prog 221 #[(q,n,c1),(bo,n,c2)] w λe w'=>e=.returned (.bool true)/\Below w.heap.size w w':=by
 go_enter func221,ntmps221;go_wp2;go_loopw [5] (λi wr=>∃ k,k<=n/\i=int i64 k/\Below w.heap.size w wr) (λi _=>n - (intOf i).toNat)
 case atStart=>exact⟨0,Jq _,rfl,bZ⟩
 case round =>
  obtain⟨k,hk,rfl,a⟩:=hrel
  by_cases hlt:k<n
  ·obtain⟨b,off,rfl,m,h1⟩:=v k (by omega)
   obtain⟨j,f,rfl,l,u⟩:=x k (by omega)
   have o:=Ja w _ m;have g:=Ja w _ l;have r:=(a.cell o).trans m;have s:=(a.cell g).trans l;have c1:=(a.cell (p:=⟨b,_+1,_⟩) o).trans h1;have t:=(a.cell (p:=⟨j,_+1,_⟩) g).trans u;clear m l h1 u;have h:b<wr.heap.size:=Nat.lt_of_lt_of_le o a.size;have d:j<wr.heap.size:=Nat.lt_of_lt_of_le g a.size;have i1:(0:Int)<=(k:Int):=by omega
   have i2:(k:Int)<(n:Int):=by omega
   go_wp2;go_region_held3 (λw'=>w'.cell? (b,off+k*2)=some (S k).who/\w'.cell? (b,off+k*2+1)=some (S k).many/\w'.cell? (j,f+k*2)=some (S k).who/\w'.cell? (j,f+k*2+1)=some (S k).many)
    (first|exact⟨r,c1,s,t⟩|exact⟨(c.cell h).trans r,(c.cell h).trans c1,(c.cell d).trans s,(c.cell d).trans t⟩)
    (first|(go_at_call 259;refine(zlw _ _ _).mono ?_;rintro e w2 ⟨rfl,c⟩))
   go_wp2;go_roundw
   case rel=>exact⟨k+1,by omega,by go_num,ze a.drew c⟩
   case measure=>simp[intOf];omega
  ·go_wp2
   go_ret;exact⟨rfl,a⟩
theorem zly (a:Option Addr)(n c:Nat)(L:Int)(w:World)(h0:0<=L)(hL:L<=1048576)(hn:n<=1000000000000000) :
  Calls prog 145 #[(a,n,c),L] w λe w'=>∃ r:Int,e=.returned r/\(r=-1∨(0<=r/\r<=L/\n<=1048576))/\Below w.heap.size w w':=by
 by_cases h:(n:Int)<=L
 ·go_enter func145,ntmps145
  go_wp2;go_ret;exact⟨_,rfl,.inr ⟨by omega,by omega,by omega⟩,bZ⟩
 ·go_enter func145,ntmps145
  go_wp2;go_ret;exact⟨_,rfl,.inl rfl,bZ⟩
section
open Go.RowKit
variable{g t n b sz k N:Nat}{w w':World}{a:Option Addr}
def zZ (sz:Nat)(C:Nat->List Value)(j:Nat):Value:=(C (j / sz)).getD (j % sz) (.bool false)
theorem zC (sz:Nat)(C:Nat->List Value)(k j:Nat)(a:j<sz):zZ sz C (k*sz+j)=(C k).getD j (.bool false):=by
 unfold zZ;have b:0<sz:=by omega
 rw[show(k*sz+j) / sz=k by rw[Nat.add_comm,Nat.add_mul_div_right _ _ b,Nat.div_eq_of_lt a,Nat.zero_add],show(k*sz+j) % sz=j by rw[Nat.add_comm,Nat.add_mul_mod_self_right,Nat.mod_eq_of_lt a]]
def qH (w:World)(g:Nat):Nat->List Value->World
 | _,[]=>w
 | o,v :: vs=>qH (w.setCell ⟨g,o,none⟩ v) g (o+1) vs
theorem qD {x:Nat}{f:Nat->Value}(a:x≠g):∀ (b:List Value)(o:Nat)(w:World),w.rowIs x t n f->(qH w g o b).rowIs x t n f
 | [],_,_,h=>h
 | v :: r,o,_,h=>qD a r (o+1) _ (h.setOther (by exact a) v)
theorem qe {x:Obj}(a:b≠g):∀ (c:List Value)(o:Nat)(w:World),w.heap[b]?=some x->(qH w g o c).heap[b]?=some x
 | [],_,_,h=>h
 | v :: r,o,_,h=>qe a r (o+1) _ (zD h o v a)
theorem qZ {a:World}(b:a.heap.size<=g):∀ (c:List Value)(o:Nat)(w:World),Below a.heap.size a w->Below a.heap.size a (qH w g o c)
 | [],_,_,h=>h
 | v :: r,o,_,h=>qZ b r (o+1) _ (h.setCell (by exact b) v)
theorem zdf {S:Nat->Prop}{c:World}(b:S g):∀ (d:List Value)(o:Nat)(w:World),zx c w S->zx c (qH w g o d) S
 | [],_,_,h=>h
 | v :: r,o,_,h=>zdf b r (o+1) _ (h.set (a:=⟨g,o,none⟩) b v)
theorem zdg (g:Nat):∀ (a:List Value)(o:Nat)(w:World),(qH w g o a).heap.size=w.heap.size
 | [],_,_=>rfl
 | v :: r,o,w=>by rw[qH,zdg g r _,World.size_setCell]
theorem zgi:∀ (a:List Value)(o:Nat)(w:World)(f:Nat->Value),w.rowIs b t n f->(qH w b o a).rowIs b t n (λj=>if o<=j/\j<o+a.length then a.getD (j - o) (.bool false) else f j)
 | [],o,w,f,h=>h.congr (λj _=>by rw[Je (by simp)])
 | v :: r,o,w,f,h=>by
  have c:=zgi r (o+1) _ _ (h.set o v);refine c.congr (λj _=>?_)
  by_cases h1:j=o
  ·subst h1
   rw[Je (by omega),Jf rfl,Jf (by simp),Nat.sub_self]
   rfl
  ·by_cases h2:o+1<=j/\j<o+1+r.length
   ·rw[Jf h2,Jf (by simp;omega),show j - o=(j - (o+1))+1 by omega]
    simp
   ·rw[Je h2,Je h1,Je (by simp;omega)]
theorem rec_set {C c:Nat->List Value}{b:List Value}(h:w.rowIs g t n (zZ sz C))(m:b.length=sz)(d:0<sz)(f:∀ i,i≠k->c i=C i)(l:c k=b) :
  (qH w g (k*sz) b).rowIs g t n (zZ sz c):=by
 refine(zgi b _ w _ h).congr λj _=>?_
 by_cases e:j / sz=k
 ·have h1:k*sz<=j:=by rw[← e];exact Nat.div_mul_le_self j sz
  have h2:=by
   have:=Nat.lt_div_mul_add d (a:=j);rw[e] at this;exact this
  rw[Jf ⟨h1,by omega⟩]
  unfold zZ;rw[e,l,show j % sz=j - k*sz by have:=Nat.div_add_mod j sz;rw[e,Nat.mul_comm] at this;omega]
 ·rw[Je (by
   rintro⟨h1,h2⟩
   apply e
   rw[m] at h2;have:j=(j - k*sz)+k*sz:=by omega
   rw[this,Nat.add_mul_div_right _ _ d,Nat.div_eq_of_lt (by omega),Nat.zero_add])]
  unfold zZ;rw[f _ e]
def QT (w:World)(a:Option Addr)(N sz:Nat)(C:Nat->List Value):Prop :=
 ∀ k,k<N->∃ b off,a=some ⟨b,off,none⟩/\∀ j,j<sz->w.cell? ⟨b,off+k*sz+j,none⟩=some ((C k).getD j (.bool false))
theorem QT.below {C:Nat->List Value}(h:QT w a N sz C)(f:Below w.heap.size w w'):QT w' a N sz C:=by
 intro k g;obtain⟨b,off,e,c⟩:=h k g;exact⟨b,off,e,λj d=>(f.cell (Ja w _ (c j d))).trans (c j d)⟩
theorem QT.of_row {C:Nat->List Value}(h:w.rowIs g t (N*sz) (zZ sz C)):QT w (some ⟨g,0,none⟩) N sz C:=by
 intro k b;refine⟨g,0,rfl,λj a=>?_⟩
 have:k*sz+j<N*sz:=by
  have h1:(k+1)*sz<=_:=Nat.mul_le_mul_right sz b;rw[Nat.add_mul] at h1
  omega
 rw[Nat.zero_add,h.cell this,zC sz C k j a]
theorem QT.upto {M:Nat}{C:Nat->List Value}(h:QT w a N sz C)(hM:M<=N):QT w a M sz C:=λk hk=>h k (by omega)
theorem zes {z:Array Value}(b:z.size=sz)(n j:Nat)(d:j<n*sz):(madeCells z (n*sz)).toList.getD j (.bool false)=zZ sz (λ_=>z.toList) j:=by
 have c:0<sz:=by rcases Nat.eq_zero_or_pos sz with h|h;subst h;omega;exact h
 simp only[madeCells,Array.toList_map,List.getD_eq_getElem?_getD,List.getElem?_map,Array.toList_range,List.getElem?_range d,Option.map_some,Option.getD_some];unfold zZ;rw[List.getD_eq_getElem?_getD];have a:j % sz<z.size:=by rw[b];exact Nat.mod_lt _ c
 simp[b];rw[getElem!_pos z _ a,Array.getElem?_eq_getElem a]
 rfl
end
section
open Go.RowKit
variable{w w':World}{cs:List Value}{lo g N k b:Nat}{a:Option Addr}
structure zY where
 stn:Nat
 st:Nat->Zp
 ron:Nat
 ro:Nat->qN
 sen:Nat
 se:Nat->Qe
def zY.Is (w:World)(cs:List Value)(x:zY):Prop :=
 ∃ ast cst aro cro ase cse,cs=[.slice ast x.stn cst,.slice aro x.ron cro,.slice ase x.sen cse]/\qw w ast x.stn x.st/\qj ast x.stn cst/\qp w aro x.ron x.ro/\qj aro x.ron cro/\qE w ase x.sen x.se/\qj ase x.sen cse
theorem zY.Is.below {x:zY}(h:zY.Is w cs x)(i:Below w.heap.size w w'):zY.Is w' cs x:=by
 obtain⟨c,g,a,d,b,f,e,l,o,j,m,k,n⟩:=h;exact⟨c,g,a,d,b,f,e,l.below i,o,j.below i,m,k.below i,n⟩
def zY.Short (x:zY)(B:Nat):Prop:=x.stn<=B/\x.ron<=B/\x.sen<=B
def zY.In (w:World)(lo a:Nat)(cs:List Value)(x:zY):Prop :=
 ∃ lst lro lse,cs=[ZY lst x.stn,ZY lro x.ron,ZY lse x.sen]/\(lo<=lst/\lst<a/\w.rowIs lst 220 (x.stn*4) (qv x.st))/\(lo<=lro/\lro<a/\w.rowIs lro 228 (x.ron*4) (qs x.ro))/\(lo<=lse/\lse<a/\w.rowIs lse 234 (x.sen*2) (qL x.se))
theorem zY.In.below {j:Nat}{x:zY}(h:zY.In w lo j cs x)(d:Below w.heap.size w w'):zY.In w' lo j cs x:=by
 obtain⟨i,f,g,e,c,a,b⟩:=h;exact⟨i,f,g,e,⟨c.1,c.2.1,qo c.2.2 d⟩,⟨a.1,a.2.1,qo a.2.2 d⟩,⟨b.1,b.2.1,qo b.2.2 d⟩⟩
theorem zY.In.wide {i lo' hi':Nat}{x:zY}(h:zY.In w lo i cs x)(h1:lo'<=lo)(h2:i<=hi'):zY.In w lo' hi' cs x:=by
 obtain⟨g,d,f,e,c,a,b⟩:=h;exact⟨g,d,f,e,⟨Jp h1 c.1,Nat.lt_of_lt_of_le c.2.1 h2,c.2.2⟩,⟨Jp h1 a.1,Nat.lt_of_lt_of_le a.2.1 h2,a.2.2⟩,⟨Jp h1 b.1,Nat.lt_of_lt_of_le b.2.1 h2,b.2.2⟩⟩
theorem zY.In.kept {S:Nat->Prop}{x:zY}(h:zY.In w lo g cs x)(i:zx w w' S)(f:∀ b,S b->b<lo∨g<=b):zY.In w' lo g cs x:=by
 obtain⟨l,j,k,e,d,a,c⟩:=h;exact⟨l,j,k,e,⟨d.1,d.2.1,d.2.2.of_block (i.block _ d.2.2.lt (λs=>by have:=f _ s;omega))⟩,⟨a.1,a.2.1,a.2.2.of_block (i.block _ a.2.2.lt (λs=>by have:=f _ s;omega))⟩,⟨c.1,c.2.1,c.2.2.of_block (i.block _ c.2.2.lt (λs=>by have:=f _ s;omega))⟩⟩
theorem zY.In.is {d:Nat}{x:zY}(h:zY.In w lo d cs x)(f:zY.Short x 1048576):zY.Is w cs x:=by
 obtain⟨j,g,i,e,c,a,b⟩:=h;obtain⟨m,k,l⟩:=f;exact⟨_,_,_,_,_,_,e,qw.of_row c.2.2,⟨Jr _,by omega,λh=>by cases h⟩,qp.of_row a.2.2,⟨Jr _,by omega,λh=>by cases h⟩,qE.of_row b.2.2,⟨Jr _,by omega,λh=>by cases h⟩⟩
def ZG (w:World)(a:Option Addr)(N:Nat)(S:Nat->zY):Prop:=∃ C,QT w a N 3 C/\∀ k,k<N->zY.Is w (C k) (S k)
theorem ZG.below {S:Nat->zY}(h:ZG w a N S)(b:Below w.heap.size w w'):ZG w' a N S:=by
 obtain⟨C,h1,h2⟩:=h;exact⟨C,h1.below b,λk c=>(h2 k c).below b⟩
def ZA (N:Nat)(S:Nat->zY)(B:Nat):Prop:=∀ i,i<N->zY.Short (S i) B
structure zan (w:World)(k lo a g N:Nat)(S:Nat->zY)(C:Nat->List Value):Prop where
 row:w.rowIs g 145 (N*3) (zZ 3 (zbJ k C (#[True,True,True]:Array Value).toList))
 glo:lo<=g
 ghi:g<a
 each:∀ i,i<k->zY.In w (g+1) a (C i) (S i)
theorem zan.below {a:Nat}{S:Nat->zY}{C:Nat->List Value}(r:zan w k lo a g N S C)(b:Below w.heap.size w w'):zan w' k lo a g N S C :=
 ⟨qo r.row b,r.glo,r.ghi,λi a=>(r.each i a).below b⟩
theorem zan.wide {a lo' hi':Nat}{S:Nat->zY}{C:Nat->List Value}(r:zan w k lo a g N S C)(h1:lo'<=lo)(h2:a<=hi'):zan w k lo' hi' g N S C :=
 ⟨r.row,Jp h1 r.glo,Nat.lt_of_lt_of_le r.ghi h2,λi a=>(r.each i a).wide (Jr _) h2⟩
theorem zan.kept {a:Nat}{S:Nat->zY}{C:Nat->List Value}{T:Nat->Prop}(r:zan w k lo a g N S C)(d:zx w w' T)(c:∀ b,T b->b<lo∨a<=b):zan w' k lo a g N S C :=
 ⟨r.row.of_block (d.block _ r.row.lt (λs=>by have:=c _ s;have:=r.glo;have:=r.ghi;omega)),r.glo,r.ghi,λi a=>(r.each i a).kept d (λb s=>by have:=c b s;have:=r.glo;omega)⟩
theorem zan.at {S:Nat->zY}{C:Nat->List Value}(r:zan w N lo b g N S C)(c:ZA N S 1048576):ZG w (some (g,0)) N S:=by
 refine⟨_,QT.of_row r.row,λk a=>?_⟩
 rw[qr _ _ a];exact(r.each k a).is (c k a)
end
structure zn (W:World) where
 val:World
 bel:Below W.heap.size W val
instance (W:World):Nonempty (zn W):=⟨⟨W,bZ⟩⟩
theorem zh {P:Program}{id:Nat}{Q:Exit->Act->World->Prop}{a:Act}{w:World}{l:List Oper}(d:P.follows .mixedOrders=true)(c:Region.lexB .any l.toArray=true)
  (h:wpQuiet P l.toArray (λw'=>∃ g:zn w,w'=g.val) (λb=>∀ w',(∃ g:zn w,w'=g.val)->Q .normal b w') l a):(Code.region id l.toArray true).wp P Q a w :=
 wp_region_quiet (C:=λw'=>∃ g:zn w,w'=g.val) d c ⟨⟨_,(Ji _ w).drew⟩,rfl⟩ (by simpa using h)
theorem zf {P:Program}{f:FuncId}{args:Array Value}{W:World}{g:zn W}{v:Value}
  (h:Calls P f args g.val λe w'=>e=.returned v/\Below g.val.heap.size g.val w'):Calls P f args g.val λe a=>e=.returned v/\∃ g':zn W,a=g'.val :=
 h.mono λ_ w' ⟨he,hb⟩=>⟨he,⟨w',ze g.bel hb⟩,rfl⟩
section
open Go.RowKit
variable{w:World}{g t:Nat}{u0 u1 u2:Value}
theorem zjM {v0:Value}(h:w.heap[g]?=some (.cells #[u0,u1,u2] t (0,0))):(qH w g 0 [v0]).heap[g]?=some (.cells #[v0,u1,u2] t (0,0)):=by
 have:=(zm h 0 v0);simp only[qH]
 simpa using this
theorem zjN {v1:Value}(h:w.heap[g]?=some (.cells #[u0,u1,u2] t (0,0))):(qH w g 1 [v1]).heap[g]?=some (.cells #[u0,v1,u2] t (0,0)):=by
 have:=(zm h 1 v1);simp only[qH]
 simpa using this
theorem zjO {v2:Value}(h:w.heap[g]?=some (.cells #[u0,u1,u2] t (0,0))):(qH w g 2 [v2]).heap[g]?=some (.cells #[u0,u1,v2] t (0,0)):=by
 have:=(zm h 2 v2);simp only[qH]
 simpa using this
theorem zjP {v0 v1 v2:Value}(h:w.heap[g]?=some (.cells #[u0,u1,u2] t (0,0))):(qH w g 0 [v0,v1,v2]).heap[g]?=some (.cells #[v0,v1,v2] t (0,0)):=by
 have:=(zm (zm (zm h 0 v0) 1 v1) 2 v2);simp only[qH]
 simpa using this
theorem zmX (d:Option Addr)(stn h:Nat)(b:Option Addr)(ron f:Nat)(c:Option Addr)(sen g:Nat)(L:Int)(w:World)(h0:0<=L)(hL:L<=1048576)(s:stn<=1000000000000000)(p:ron<=1000000000000000)(q:sen<=1000000000000000) :
  Calls prog 79 #[.agg #[(d,stn,h),(b,ron,f),(c,sen,g)],L] w λe w'=>∃ r:Int,e=.returned r/\(r=-1∨(0<=r/\r<=L/\stn<=1048576/\ron<=1048576/\sen<=1048576))/\Below w.heap.size w w':=by
 have u:Below _ w (w.alloc (.cells #[(d,stn,h),(b,ron,f),(c,sen,g)] 132)):=zk bZ _;have t:=Jb w (.cells #[(d,stn,h),(b,ron,f),(c,sen,g)] 132);go_enter func79,ntmps79;go_wp2_with fail;refine(zls d stn h (L) _ (by omega) (by omega) s).mono ?_
 rintro e w0 ⟨J,rfl,v,j⟩;have a:=zb t j;have m:=ze u j
 rcases v with rfl|⟨z,K,A⟩
 ·go_wp2
  go_ret;exact⟨_,rfl,.inl rfl,m⟩
 ·have d0:decide (J<0)=false:=by simpa using z
  have G:=za a 1 _ rfl;have H:=za a 2 _ rfl;go_wp2_with fail;refine(zlv b ron f _ _ (by omega) (by omega) p).mono ?_
  rintro e w1 ⟨M,rfl,x,k⟩;have i:=zb a k;have n:=ze m k
  rcases x with rfl|⟨B,N,C⟩
  ·go_wp2
   go_ret;exact⟨_,rfl,.inl rfl,n⟩
  ·have d1:decide (M<0)=false:=by simpa using B
   have I:=za i 2 _ rfl;go_wp2_with fail;refine(zly c sen g _ _ (by omega) (by omega) q).mono ?_
   rintro e w2 ⟨O,rfl,y,l⟩;have F:=zb i l;have o:=ze n l
   rcases y with rfl|⟨D,P,E⟩
   ·go_wp2
    go_ret;exact⟨_,rfl,.inl rfl,o⟩
   ·have d2:decide (O<0)=false:=by simpa using D
    go_wp2;go_ret;exact⟨_,rfl,.inr ⟨by omega,by omega,A,C,E⟩,o⟩
theorem zmY (m:Option Addr)(stn q:Nat)(st:Nat->Zp)(k:Option Addr)(ron o:Nat)(ro:Nat->qN)(l:Option Addr)(sen p:Nat)(se:Nat->Qe)(w:World)(b6:stn<=1048576)(b4:ron<=1048576)(b5:sen<=1048576)(b3:qw w m stn st)(b1:qp w k ron ro)(b2:qE w l sen se) :
  Calls prog 95 #[.agg #[(m,stn,q),(k,ron,o),(l,sen,p)]] w λe w'=>∃ d f g,e=.returned (.agg #[(some (d,0),stn,stn),(some (f,0),ron,ron),(some (g,0),sen,sen)])/\(w.heap.size<=d/\d<w'.heap.size/\w'.rowIs d 220 (stn*4) (qv st))/\(w.heap.size<=f/\f<w'.heap.size/\w'.rowIs f 228 (ron*4) (qs ro))/\(w.heap.size<=g/\g<w'.heap.size/\w'.rowIs g 234 (sen*2) (qL se))/\Below w.heap.size w w':=by
 go_enter func95,ntmps95;go_wp2_with fail;obtain⟨W0,y⟩:∃ W,W=(((w.alloc (.cells #[(m,stn,q),(k,ron,o),(l,sen,p)] 132)).alloc (.cells #[True,True,True] 145)).alloc (.cells #[True,True,True] 145)):=⟨_,rfl⟩;have H0:Below w.heap.size w W0:=by rw[y];exact zk (zk (zk bZ _) _) _
 have A0:W0.heap[w.heap.size]?=some (.cells #[(m,stn,q),(k,ron,o),(l,sen,p)] 132 (0,0)):=by rw[y];exact zd (zd (Jb w _) _) _
 have R0:W0.heap[w.heap.size+1]?=some (.cells #[True,True,True] 145 (0,0)):=by rw[y];exact zd (by simpa using Jb (w.alloc _) _) _
 have O0:W0.heap[w.heap.size+1+1]?=some (.cells #[True,True,True] 145 (0,0)):=by rw[y];simpa using Jb ((w.alloc _).alloc _) _
 rw[← y];clear y;refine(zlr m stn q st _ b6 (b3.below H0)).mono ?_;rintro e v0 ⟨d,rfl,a3,a,A⟩;have K:=zb A0 A;have V:=zb R0 A;have C:=zb O0 A;have S:=ze H0 A;have d0:w.heap.size+1+1<d:=by have:=zM O0;omega
 have a0:w.heap.size<=d:=by omega
 clear A0 R0 O0 H0 A a3;have b7:=za K 1 _ rfl;have O:=za C 0 _ rfl;have a8:=zg C 0;go_wp2_with fail;clear b7 a8 O;obtain⟨Q,r⟩:∃ W,W=qH v0 (w.heap.size+1+1) 0 [(some (d,0),stn,stn)]:=⟨_,rfl⟩;have A1:Q.heap[w.heap.size]?=some (.cells #[(m,stn,q),(k,ron,o),(l,sen,p)] 132 (0,0)):=by rw[r];exact qe (by omega) _ _ _ K
 have R1:Q.heap[w.heap.size+1]?=some (.cells #[True,True,True] 145 (0,0)):=by rw[r];exact qe (by omega) _ _ _ V
 have O1:Q.heap[w.heap.size+1+1]?=some (.cells #[(some (d,0),stn,stn),True,True] 145 (0,0)):=by rw[r];exact zjM C
 have H1:Below w.heap.size w Q:=by rw[r];exact qZ (by omega) _ _ _ S
 have b:Q.rowIs d 220 (stn*4) (qv st):=by rw[r];exact qD (by omega) _ _ _ a
 have a4:Q=(v0.setCell (w.heap.size+1+1,0) (some (d,0),stn,stn)):=by rw[r];rfl
 rw[← a4];clear r a4 K V C S a;have a:=b;clear b;refine(zlu k ron o ro _ b4 (b1.below H1)).mono ?_;rintro e v1 ⟨f,rfl,a1,c,z⟩;have L:=zb A1 z;have X:=zb R1 z;have D:=zb O1 z;have T:=ze H1 z;have v:=qo a z;have c0:w.heap.size+1+1<f:=by have:=zM O1;omega
 have Y:w.heap.size<=f:=by omega
 clear A1 R1 O1 H1 z a1 a;have a:=v;clear v;have b8:=za L 2 _ rfl;have P:=za D 1 _ rfl;have a9:=zg D 1;go_wp2_with fail;clear b8 a9 P;obtain⟨M,n⟩:∃ W,W=qH v1 (w.heap.size+1+1) 1 [(some (f,0),ron,ron)]:=⟨_,rfl⟩;have A2:M.heap[w.heap.size]?=some (.cells #[(m,stn,q),(k,ron,o),(l,sen,p)] 132 (0,0)):=by rw[n];exact qe (by omega) _ _ _ L
 have R2:M.heap[w.heap.size+1]?=some (.cells #[True,True,True] 145 (0,0)):=by rw[n];exact qe (by omega) _ _ _ X
 have O2:M.heap[w.heap.size+1+1]?=some (.cells #[(some (d,0),stn,stn),(some (f,0),ron,ron),True] 145 (0,0)):=by rw[n];exact zjN D
 have H2:Below w.heap.size w M:=by rw[n];exact qZ (by omega) _ _ _ T
 have b:M.rowIs d 220 (stn*4) (qv st):=by rw[n];exact qD (by omega) _ _ _ a
 have h:M.rowIs f 228 (ron*4) (qs ro):=by rw[n];exact qD (by omega) _ _ _ c
 have a5:M=(v1.setCell (w.heap.size+1+1,1) (some (f,0),ron,ron)):=by rw[n];rfl
 rw[← a5];clear n a5 L X D T a c;have a:=b;clear b;have c:=h;clear h;refine(zlx l sen p se _ b5 (b2.below H2)).mono ?_;rintro e v2 ⟨g,rfl,a2,j,s⟩;have R:=zb A2 s;have G:=zb R2 s;have E:=zb O2 s;have U:=ze H2 s;have x:=qo a s;have t:=qo c s;have c9:w.heap.size+1+1<g:=by have:=zM O2;omega
 have Z:w.heap.size<=g:=by omega
 clear A2 R2 O2 H2 s a2 a c;have a:=x;clear x;have c:=t;clear t;obtain⟨O,P,b9⟩:=ce3 E;have b0:=zg E 2;obtain⟨y0,y1,y2⟩:=ce3 G;obtain⟨z0,z1,z2⟩:=fe3 G;go_wp2;clear b0 O P b9 z0 y0 z1 y1 z2 y2;obtain⟨B,i⟩:∃ W,W=qH v2 (w.heap.size+1+1) 2 [(some (g,0),sen,sen)]:=⟨_,rfl⟩;have A3:B.heap[w.heap.size]?=some (.cells #[(m,stn,q),(k,ron,o),(l,sen,p)] 132 (0,0)):=by rw[i];exact qe (by omega) _ _ _ R
 have R3:B.heap[w.heap.size+1]?=some (.cells #[True,True,True] 145 (0,0)):=by rw[i];exact qe (by omega) _ _ _ G
 have O3:B.heap[w.heap.size+1+1]?=some (.cells #[(some (d,0),stn,stn),(some (f,0),ron,ron),(some (g,0),sen,sen)] 145 (0,0)):=by rw[i];exact zjO E
 have H3:Below w.heap.size w B:=by rw[i];exact qZ (by omega) _ _ _ U
 have b:B.rowIs d 220 (stn*4) (qv st):=by rw[i];exact qD (by omega) _ _ _ a
 have h:B.rowIs f 228 (ron*4) (qs ro):=by rw[i];exact qD (by omega) _ _ _ c
 have u:B.rowIs g 234 (sen*2) (qL se):=by rw[i];exact qD (by omega) _ _ _ j
 have a6:B=(v2.setCell (w.heap.size+1+1,2) (some (g,0),sen,sen)):=by rw[i];rfl
 rw[← a6];clear i a6 R G E U a c j;have a:=b;clear b;have c:=h;clear h;have j:=u;clear u;obtain⟨F,N⟩:∃ F,F=qH B (w.heap.size+1) 0 [(some (d,0),stn,stn),(some (f,0),ron,ron),(some (g,0),sen,sen)]:=⟨_,rfl⟩;have RF:F.heap[w.heap.size+1]?=some (.cells #[(some (d,0),stn,stn),(some (f,0),ron,ron),(some (g,0),sen,sen)] 145 (0,0)):=by rw[N];exact zjP R3
 have HF:Below w.heap.size w F:=by rw[N];exact qZ (by omega) _ _ _ H3
 have J:F.rowIs d 220 (stn*4) (qv st):=by rw[N];exact qD (by omega) _ _ _ a
 have H:F.rowIs f 228 (ron*4) (qs ro):=by rw[N];exact qD (by omega) _ _ _ c
 have I:F.rowIs g 234 (sen*2) (qL se):=by rw[N];exact qD (by omega) _ _ _ j
 have a7:F=(((B.setCell (w.heap.size+1,0) (some (d,0),stn,stn)).setCell (w.heap.size+1,1) (some (f,0),ron,ron)).setCell (w.heap.size+1,2) (some (g,0),sen,sen)):=by rw[N];rfl
 rw[← a7];clear N a7;obtain⟨z0,z1,z2⟩:=ce3 RF;exact Jj (by simp[results,results95,go_sem,z0,z1,z2]) rfl ⟨d,f,g,rfl,⟨a0,J.lt,J⟩,⟨Y,H.lt,H⟩,⟨Z,I.lt,I⟩,HF⟩
theorem zmZ (j:Option Addr)(stn m:Nat)(st:Nat->Zp)(h:Option Addr)(ron k:Nat)(ro:Nat->qN)(i:Option Addr)(sen l:Nat)(se:Nat->Qe)(c:Option Addr)(g:Nat)(a:Option Addr)(d:Nat)(b:Option Addr)(f:Nat)(w:World)(O:stn<=1048576)(M:ron<=1048576)(N:sen<=1048576)(G:qw w j stn st)(E:qp w h ron ro)(F:qE w i sen se)(t:qw w c stn st)(r:qp w a ron ro)(s:qE w b sen se) :
  Calls prog 124 #[.agg #[(j,stn,m),(h,ron,k),(i,sen,l)],.agg #[(c,stn,g),(a,ron,d),(b,sen,f)]] w λe w'=>e=.returned (.bool true)/\Below w.heap.size w w':=by
 have q:Below _ w ((w.alloc (.cells #[(j,stn,m),(h,ron,k),(i,sen,l)] 145)).alloc (.cells #[(c,stn,g),(a,ron,d),(b,sen,f)] 145)):=zk (zk bZ _) _;have y:((w.alloc _).alloc (.cells #[(c,stn,g),(a,ron,d),(b,sen,f)] 145)).heap[w.heap.size]?=some (.cells #[(j,stn,m),(h,ron,k),(i,sen,l)] 145 (0,0)):=zd (Jb w _) _;have B:((w.alloc (.cells #[(j,stn,m),(h,ron,k),(i,sen,l)] 145)).alloc (.cells #[(c,stn,g),(a,ron,d),(b,sen,f)] 145)).heap[w.heap.size+1]?=some (.cells #[(c,stn,g),(a,ron,d),(b,sen,f)] 145 (0,0)):=by simpa using Jb (w.alloc _) _
 go_enter func124,ntmps124;go_wp2_with fail;generalize (w.alloc _).alloc _=v at q y B ⊢;refine(zjI j _ stn m _ st _ (by omega) (G.below q) (t.below q)).mono ?_
 rintro e v0 ⟨rfl,n⟩;have z:=zb y n;have C:=zb B n;have u:=ze q n;clear y B q n;have H:=za z 1 _ rfl;have J:=za C 1 _ rfl;go_wp2_with fail;clear H J;refine(zjJ h _ ron k _ ro _ (by omega) (E.below u) (r.below u)).mono ?_
 rintro e v1 ⟨rfl,o⟩;have A:=zb z o;have D:=zb C o;have x:=ze u o;clear z C u o;have I:=za A 2 _ rfl;have K:=za D 2 _ rfl;go_wp2_with fail;clear I K;refine(zjL i _ sen l _ se _ (by omega) (F.below x) (s.below x)).mono ?_
 rintro e v2 ⟨rfl,p⟩;have A3:=zb A p;have B3:=zb D p;have L:=ze x p;clear A D x p;go_wp2;go_ret;exact⟨rfl,L⟩
theorem zna (cs:List Value)(x:zY)(L:Int)(w:World)(l:0<=L)(m:L<=1048576)(o:zY.Short x 1000000000000000)(h:zY.Is w cs x) :
  Calls prog 79 #[.agg cs.toArray,L] w λe w'=>∃ r:Int,e=.returned r/\(r=-1∨(0<=r/\r<=L/\zY.Short x 1048576))/\Below w.heap.size w w':=by
 obtain⟨g,k,d,i,f,j,rfl,q,u,n,s,p,t⟩:=h;obtain⟨c,a,b⟩:=o;exact zmX _ _ _ _ _ _ _ _ _ L w l m c a b
theorem znb (cs:List Value)(x:zY)(w:World)(y:zY.Short x 1048576)(h:zY.Is w cs x) :
  Calls prog 95 #[.agg cs.toArray] w λe w'=>∃ cs',e=.returned (.agg cs'.toArray)/\zY.In w' w.heap.size w'.heap.size cs' x/\Below w.heap.size w w':=by
 obtain⟨q,t,o,r,p,s,rfl,g,B,d,z,f,A⟩:=h;obtain⟨c,a,b⟩:=y;refine(zmY _ _ _ _ _ _ _ _ _ _ _ _ w c a b g d f).mono ?_;rintro e w' ⟨k,i,j,v,n,l,m,u⟩;exact⟨_,v,⟨k,i,j,rfl,n,l,m⟩,u⟩
theorem zlz (cs r:List Value)(x:zY)(w:World)(E:zY.Short x 1048576)(h:zY.Is w cs x)(D:zY.Is w r x) :
  Calls prog 124 #[.agg cs.toArray,.agg r.toArray] w λe w'=>e=.returned (.bool true)/\Below w.heap.size w w':=by
 obtain⟨z,C,v,A,y,B,rfl,k,H,i,F,j,G⟩:=h;obtain⟨n,q,l,o,m,p,rfl,c,u,a,s,b,t⟩:=D;obtain⟨g,d,f⟩:=E;exact zmZ _ _ _ _ _ _ _ _ _ _ _ _ _ _ _ _ _ _ w g d f k i j c a b
end
theorem zlA (G:Option Addr)(N c:Nat)(S:Nat->zY)(g:Int)(w:World)(h0:0<=g)(R:g<=1048576)(hN:N<=1000000000000000)(J:ZA N S 1000000000000000)(K:ZG w G N S) :
  Calls prog 39 #[(G,N,c),g] w λe w'=>∃ r:Int,e=.returned r/\(r=-1∨(0<=r/\r<=g/\N<=1048576/\ZA N S 1048576))/\Below w.heap.size w w':=by
 have P:=hI J;have Q:=hI K;clear J K
 by_cases hf:(N:Int)<=g
 ·have H:decide (g - (N:Int)<0)=false:=by simp;omega
  go_enter func39,ntmps39;go_wp2;go_loopw [1,5] (λl i wr=>∃ (k:Nat) (L:Int),k<=N/\i=int i64 k/\l=int i64 L/\0<=L/\L<=g/\ZA k S 1048576/\Below w.heap.size w wr) (λ_ i _=>N - (intOf i).toNat)
  case atStart=>exact⟨0,_,Jq _,rfl,rfl,by omega,by omega,λi T=>by omega,bZ⟩
  case round =>
   obtain⟨k,L,hk,rfl,rfl,M,U,f,a⟩:=hrel;have F:=hI f;clear f H
   by_cases hlt:k<N
   ·obtain⟨C,I,hI⟩:=Q
    obtain⟨b,off,rfl,v⟩:=I k hlt;have h:=hI (hI k hlt);obtain⟨n,s,j,o,m,q,t,f,E,z,B,A,D⟩:=hI k hlt;have d:b<w.heap.size:=Ja w _ (v 0 (by decide))
    have c0:wr.cell? _=some (.slice n _ s):=(a.cell (p:=⟨b,off+_,_⟩) d).trans (by have:=v 0 (by decide);rw[t] at this;exact this)
    have c1:wr.cell? _=some (.slice j _ o):=(a.cell d).trans (by have:=v 1 (by decide);rw[t] at this;exact this)
    have c2:wr.cell? _=some (.slice m _ q):=(a.cell d).trans (by have:=v 2 (by decide);rw[t] at this;exact this)
    have x:Hid (zY.Is wr [(n,(S k).stn,s),(j,(S k).ron,o),(m,(S k).sen,q)] (S k)):=by show zY.Is wr _ _;rw[← t];exact h.below a
    have y:=hI (P k hlt);clear I hI v t h f E z B A D;go_wp2_with fail;refine(zna _ _ L _ M (by omega) y x).mono ?_
    rintro e w2 ⟨r,rfl,hr,u⟩
    rcases hr with rfl|⟨O,r1,V⟩
    ·go_wp2
     go_ret;exact⟨_,rfl,.inl rfl,ze a u⟩
    ·have d1:decide (r<0)=false:=by simpa using O
     go_wp2;go_roundw
     case rel =>
      refine⟨k+1,r,by omega,by go_num,rfl,O,by omega,λi T=>?_,ze a u⟩
      by_cases e:i=k
      ·subst e;exact V
      ·exact F i (by omega)
     case measure=>simp[intOf];omega
   ·obtain rfl:k=N:=by omega
    go_wp2;go_ret;exact⟨_,rfl,.inr ⟨M,U,by omega,F⟩,a⟩
 ·have H:decide (g - (N:Int)<0)=true:=by simp;omega
  go_enter func39,ntmps39;go_wp2;go_ret;exact⟨_,rfl,.inl rfl,bZ⟩
theorem Tryz.infoLoad:(Tryz.prog.info? 145).map (λi=>(i.zero,i.size,i.bytes))=some (some (.agg #[True,True,True]),3,72):=by kernel_rfl
/-- toLoadS: a copy, its lists in new memory behind its own row. -/
theorem zlB (ao:Option Addr)(N T:Nat)(S:Nat->zY)(w:World)(hN:N<=1048576)(hs:ZA N S 1048576)(hz:ZG w ao N S) :
  Calls prog 46 #[(ao,N,T)] w λe w'=>∃ g C,e=.returned (some (g,0),N,N)/\zan w' N w.heap.size w'.heap.size g N S C/\Below w.heap.size w w':=by
 obtain⟨i0,U,Z,a0,a1⟩:=info_parts Tryz.infoLoad;have HS:=hI hs;have HX:=hI hz;clear hs hz;go_enter func46,ntmps46;go_wp2_with (first|(at_make;refine wpList_make_full _ rfl _ _ 35 rfl _ 145 i0 _ 3 underlying35 U Z a0 _ _ _ _ N rfl rfl rfl rfl (by rw[a1];omega) (by unfold maxLen;omega) (Jr _) ?_;intro w1 f l))
 go_loopw [4] (λi wr=>∃ (k:Nat) (C:_),k<=N/\i=int i64 k/\zan wr k w.heap.size wr.heap.size w.heap.size N S C/\Below w.heap.size w wr)
  (λi _=>N - (intOf i).toNat)
 case atStart=>exact⟨0,λ_=>[],Jq _,rfl,⟨(ZP f).congr (λj hj=>(zes (z:=#[_,_,_]) (sz:=3) rfl N j hj).trans (by unfold zZ;rw[zbT _ _ (by omega)])),Jr _,(ZP f).lt,λi U=>by omega⟩,bZ.grown l (Jr _) (by simp)⟩
 case round =>
  obtain⟨k,C,hk,rfl,n,c⟩:=hrel;clear f l
  by_cases hlt:k<N
  ·obtain⟨E,hE,hI⟩:=HX
   obtain⟨b,off,rfl,K⟩:=hE k hlt;have y:=hI (hI k hlt);obtain⟨D,H,A,F,B,G,I,Y,a4,V,a2,X,a3⟩:=hI k hlt;have m:b<w.heap.size:=Ja w _ (K 0 (by decide))
   have c0:wr.cell? _=some (.slice D _ H):=(c.cell (p:=⟨b,off+_,_⟩) m).trans (by have:=K 0 (by decide);rw[I] at this;exact this)
   have c1:wr.cell? _=some (.slice A _ F):=(c.cell m).trans (by have:=K 1 (by decide);rw[I] at this;exact this)
   have c2:wr.cell? _=some (.slice B _ G):=(c.cell m).trans (by have:=K 2 (by decide);rw[I] at this;exact this)
   have Q:Hid (zY.Is wr [(D,(S k).stn,H),(A,(S k).ron,F),(B,(S k).sen,G)] (S k)):=by show zY.Is wr _ _;rw[← I];exact y.below c
   have R:=hI (HS k hlt);have o:Hid _:=n;clear hE hI K I y n Y a4 V a2 X a3;go_wp2_with fail;refine(znb _ _ _ R Q).mono ?_;rintro e O ⟨cs',rfl,L,s⟩;have P:=hI L;obtain⟨v,t,u,rfl,_,_,_⟩:=L;unfold ZY;have d:=(o.below s).wide (Jr _) s.size;have a5:=o.ghi;clear c0 c1 c2;have o0:=d.row.cell (i:=k*3) (by omega)
   have f0:=d.row.frozen (k*3);have o1:=d.row.cell (i:=k*3+1) (by omega)
   have f1:=d.row.frozen (k*3+1);have o2:=d.row.cell (i:=k*3+2) (by omega)
   have f2:=d.row.frozen (k*3+2);have r:=hI d;clear d;go_wp2;go_roundw
   case rel =>
    clear o0 f0 o1 f1 o2 f2;obtain⟨W,J⟩:∃ W,W=qH O w.heap.size (k*3) [(some (v,0),(S k).stn,(S k).stn),(some (t,0),(S k).ron,(S k).ron),(some (u,0),(S k).sen,(S k).sen)]:=⟨_,rfl⟩;have hC:W=(((O.setCell (w.heap.size,k*3) (some (v,0),(S k).stn,(S k).stn)).setCell (w.heap.size,k*3+1) (some (t,0),(S k).ron,(S k).ron)).setCell (w.heap.size,k*3+2) (some (u,0),(S k).sen,(S k).sen)):=by rw[J];rfl
    rw[← hC];clear hC;have M:zx O W (λx=>x=w.heap.size):=by rw[J];exact zdf (S:=λx=>x=w.heap.size) rfl _ _ _ (zx.refl _ _)
    have q:W.heap.size=O.heap.size:=by rw[J,zdg]
    refine⟨k+1,λi=>if i=k then [(some (v,0),(S k).stn,(S k).stn),(some (t,0),(S k).ron,(S k).ron),(some (u,0),(S k).sen,(S k).sen)] else C i,by omega,by go_num,⟨?_,Jr _,by rw[q];exact r.ghi,λi U=>?_⟩,by rw[J];exact qZ (Jr _) _ _ _ (ze c s)⟩
    ·rw[J]
     refine rec_set r.row rfl (by decide) (λi e=>?_) ?_
     ·rw[QB _ _ _ _ e];unfold zbJ;by_cases h:i<k
      ·rw[Jf h,Jf h];exact Je e
      ·rw[Je h,Je h]
     ·rw[qr _ _ (Nat.lt_succ_self k)];exact Jf rfl
    ·rw[q]
     by_cases e:i=k
     ·subst e
      rw[Jf rfl];exact(P.wide (by omega) (Jr _)).kept M (λb h=>by QW;omega)
     ·rw[Je e]
      exact(r.each i (by omega)).kept M (λb h=>by QW;omega)
   case measure=>simp[intOf];omega
  ·obtain rfl:k=N:=by omega
   go_wp2;go_ret;exact⟨_,C,rfl,n,c⟩
/-- eqLoadS at two lists that are one. -/
theorem zjQ (Q bo:Option Addr)(N c1 c2:Nat)(S:Nat->zY)(w:World)(hN:N<=1048576)(hs:ZA N S 1048576)(hx:ZG w Q N S)(hy:ZG w bo N S) :
  Calls prog 58 #[(Q,N,c1),(bo,N,c2)] w λe w'=>e=.returned (.bool true)/\Below w.heap.size w w':=by
 have HS:=hI hs;have HX:=hI hx;have HY:=hI hy;clear hs hx hy;go_enter func58,ntmps58;go_wp2;go_loopw [5] (λi wr=>∃ k,k<=N/\i=int i64 k/\Below w.heap.size w wr) (λi _=>N - (intOf i).toNat)
 case atStart=>exact⟨0,Jq _,rfl,bZ⟩
 case round =>
  obtain⟨k,hk,rfl,a⟩:=hrel
  by_cases hlt:k<N
  ·obtain⟨C,Z,hI⟩:=HX
   obtain⟨D,hD,F⟩:=HY;obtain⟨b,off,rfl,j⟩:=Z k hlt;obtain⟨V,q,rfl,l⟩:=hD k hlt;have c:=hI (hI k hlt);have d:=hI (F k hlt);obtain⟨z,E,x,A,y,B,f,J,P,H,M,I,O⟩:=hI k hlt;obtain⟨U,Y,R,W,T,X,h,o,t,m,r,n,s⟩:=F k hlt;have K:b<w.heap.size:=Ja w _ (j 0 (by decide))
   have L:V<w.heap.size:=Ja w _ (l 0 (by decide))
   have i1:(0:Int)<=(k:Int):=by omega
   have i2:(k:Int)<(N:Int):=by omega
   have z0:∀ g:zn wr,g.val.cell? _=some (.slice z _ E):=λg=>((a.trans (g.bel.mono a.size)).cell (p:=⟨b,off+_,_⟩) K).trans (by have:=j 0 (by decide);rw[f] at this;exact this)
   have y0:∀ g:zn wr,g.val.cell? _=some (.slice _ _ _):=λg=>((a.trans (g.bel.mono a.size)).cell (p:=⟨V,q+_,_⟩) L).trans (by have:=l 0 (by decide);rw[h] at this;exact this)
   have z1:∀ g:zn wr,g.val.cell? _=some (.slice x _ A):=λg=>((a.trans (g.bel.mono a.size)).cell K).trans (by have:=j 1 (by decide);rw[f] at this;exact this)
   have y1:∀ g:zn wr,g.val.cell? _=some (.slice _ _ _):=λg=>((a.trans (g.bel.mono a.size)).cell L).trans (by have:=l 1 (by decide);rw[h] at this;exact this)
   have z2:∀ g:zn wr,g.val.cell? _=some (.slice y _ B):=λg=>((a.trans (g.bel.mono a.size)).cell K).trans (by have:=j 2 (by decide);rw[f] at this;exact this)
   have y2:∀ g:zn wr,g.val.cell? _=some (.slice _ _ _):=λg=>((a.trans (g.bel.mono a.size)).cell L).trans (by have:=l 2 (by decide);rw[h] at this;exact this)
   have ZI:Hid (∀ g:zn wr,zY.Is _ [_,_,_] _):=λg=>by rw[← f];exact(c.below a).below g.bel
   have ZJ:Hid (∀ g:zn wr,zY.Is _ [_,_,_] _):=λg=>by rw[← h];exact(d.below a).below g.bel
   have u:=hI (HS k hlt);clear Z hI hD F j l f h c d J P o t H M m r I O n s;go_upto_region 6 with fail;refine zh (by kernel_rfl) (by kernel_rfl) ?_
   repeat(first|go_big_quiet_skip|(go_big_quiet_want;go_big_quiet_op;first|go_big_quiet_on|(apply Jg;refine⟨λg=>?_,?_⟩;(focus(first|(go_at_call 124;refine zf (v:=.bool true) ((zlz _ _ _ _ u (ZI g) (ZJ g)).mono ?_);rintro e w2 ⟨rfl,G⟩;exact⟨rfl,G⟩)));go_big_quiet_on)))
   refine Jl ?_;rintro _ ⟨g,rfl⟩;clear z0 y0 z1 y1 z2 y2;go_wp2;go_roundw
   case rel=>exact⟨k+1,by omega,by go_num,ze a g.bel⟩
   case measure=>simp[intOf];omega
  ·go_wp2
   go_ret;exact⟨rfl,a⟩
end Go.Proofs.YtmdnjgihooflfaaGreatDoor
