/-
  OWN TEXT: KitBooking, LBookings0, InfoI, IntsEq, Ints, IntsSz, PlainS.
-/
import Derived.Test.YtmdnjgihooflfaaGreatDoorRows
import Derived.Test.YtmdnjgihooflfaaGreatDoorKitCo
import Derived.Test.YtmdnjgihooflfaaGreatDoorB02
namespace Go.Proofs.YtmdnjgihooflfaaGreatDoor
open Go.RowKit
open Go.Value (int)
open Go.IntKind (i64)
open Tryz
set_option maxHeartbeats 64000000
set_option maxRecDepth 100000
section
open Go.RowKit
variable{w w':World}{cs:List Value}{lo c N k a g:Nat}
structure ql where
 name:Int
 who:Int
 own:ByteArray
 lgn:Nat
 lg:Nat->Int
 pe:Int
 len:Int
 hei:Int
 cl:Int
 all:Bool
 be:Int
 state:Int
 unt:Int
 price:Int
def ql.Is (w:World)(cs:List Value)(x:ql):Prop :=
 ∃ alg clg,cs=[int i64 x.name,int i64 x.who,.string x.own,.slice alg x.lgn clg,int i64 x.pe,int i64 x.len,int i64 x.hei,int i64 x.cl,.bool x.all,int i64 x.be,int i64 x.state,int i64 x.unt,int i64 x.price]/\zT w alg x.lgn x.lg/\qj alg x.lgn clg
theorem ql.Is.below {x:ql}(h:ql.Is w cs x)(f:Below w.heap.size w w'):ql.Is w' cs x:=by
 obtain⟨a,b,e,c,d⟩:=h;exact⟨a,b,e,c.below f,d⟩
theorem ql.Is.length {x:ql}(h:ql.Is w cs x):cs.length=13:=by
 obtain⟨_,_,rfl,_⟩:=h
 rfl
def ql.Short (x:ql)(B:Nat):Prop:=x.own.size<=B/\x.lgn<=B
def ql.In (w:World)(lo a:Nat)(cs:List Value)(x:ql):Prop :=
 ∃ llg,cs=[int i64 x.name,int i64 x.who,.string x.own,ZY llg x.lgn,int i64 x.pe,int i64 x.len,int i64 x.hei,int i64 x.cl,.bool x.all,int i64 x.be,int i64 x.state,int i64 x.unt,int i64 x.price]/\(lo<=llg/\llg<a/\w.rowIs llg 3 x.lgn (λk=>int i64 (x.lg k)))
theorem ql.In.below {x:ql}(h:ql.In w lo c cs x)(d:Below w.heap.size w w'):ql.In w' lo c cs x:=by
 obtain⟨b,e,a⟩:=h;exact⟨b,e,⟨a.1,a.2.1,qo a.2.2 d⟩⟩
theorem ql.In.wide {lo' hi':Nat}{x:ql}(h:ql.In w lo c cs x)(h1:lo'<=lo)(h2:c<=hi'):ql.In w lo' hi' cs x:=by
 obtain⟨b,e,a⟩:=h;exact⟨b,e,⟨Jp h1 a.1,Nat.lt_of_lt_of_le a.2.1 h2,a.2.2⟩⟩
theorem ql.In.kept {S:Nat->Prop}{x:ql}(h:ql.In w lo c cs x)(g:zx w w' S)(f:∀ b,S b->b<lo∨c<=b):ql.In w' lo c cs x:=by
 obtain⟨d,e,a⟩:=h;exact⟨d,e,⟨a.1,a.2.1,a.2.2.of_block (g.block _ a.2.2.lt (λs=>by have:=f _ s;omega))⟩⟩
theorem ql.In.is {b:Nat}{x:ql}(h:ql.In w lo b cs x)(c:ql.Short x 1048576):ql.Is w cs x:=by
 obtain⟨d,e,a⟩:=h;obtain⟨_,f⟩:=c;exact⟨_,_,e,zT.of_row a.2.2,⟨Jr _,by omega,λh=>by cases h⟩⟩
def qO (w:World)(a:Option Addr)(N:Nat)(S:Nat->ql):Prop:=∃ C,QT w a N 13 C/\∀ k,k<N->ql.Is w (C k) (S k)
theorem qO.below {a:Option Addr}{S:Nat->ql}(h:qO w a N S)(b:Below w.heap.size w w'):qO w' a N S:=by
 obtain⟨C,h1,h2⟩:=h;exact⟨C,h1.below b,λk c=>(h2 k c).below b⟩
def Z2 (N:Nat)(S:Nat->ql)(B:Nat):Prop:=∀ i,i<N->ql.Short (S i) B
structure zao (w:World)(k lo a g N:Nat)(S:Nat->ql)(C:Nat->List Value):Prop where
 row:w.rowIs g 150 (N*13) (zZ 13 (zbJ k C (#[int i64 0,int i64 0,.string ⟨#[]⟩,.slice none 0 0,int i64 0,int i64 0,int i64 0,int i64 0,.bool false,int i64 0,int i64 0,int i64 0,int i64 0]:Array Value).toList))
 glo:lo<=g
 ghi:g<a
 each:∀ i,i<k->ql.In w (g+1) a (C i) (S i)
theorem zao.below {S:Nat->ql}{C:Nat->List Value}(r:zao w k lo a g N S C)(b:Below w.heap.size w w'):zao w' k lo a g N S C :=
 ⟨qo r.row b,r.glo,r.ghi,λi a=>(r.each i a).below b⟩
theorem zao.wide {lo' hi':Nat}{S:Nat->ql}{C:Nat->List Value}(r:zao w k lo a g N S C)(h1:lo'<=lo)(h2:a<=hi'):zao w k lo' hi' g N S C :=
 ⟨r.row,Jp h1 r.glo,Nat.lt_of_lt_of_le r.ghi h2,λi a=>(r.each i a).wide (Jr _) h2⟩
theorem zao.kept {S:Nat->ql}{C:Nat->List Value}{T:Nat->Prop}(r:zao w k lo a g N S C)(d:zx w w' T)(c:∀ b,T b->b<lo∨a<=b):zao w' k lo a g N S C :=
 ⟨r.row.of_block (d.block _ r.row.lt (λs=>by have:=c _ s;have:=r.glo;have:=r.ghi;omega)),r.glo,r.ghi,λi a=>(r.each i a).kept d (λb s=>by have:=c b s;have:=r.glo;omega)⟩
theorem zao.at {b:Nat}{S:Nat->ql}{C:Nat->List Value}(r:zao w N lo b g N S C)(c:Z2 N S 1048576):qO w (some ⟨g,0,none⟩) N S:=by
 refine⟨_,QT.of_row r.row,λk a=>?_⟩
 rw[qr _ _ a];exact(r.each k a).is (c k a)
end
theorem Tryz.infoBooking:(Tryz.prog.info? 150).map (λi=>(i.zero,i.size,i.bytes))=some (some (.agg #[int i64 0,int i64 0,.string ⟨#[]⟩,.slice none 0 0,int i64 0,int i64 0,int i64 0,int i64 0,.bool false,int i64 0,int i64 0,int i64 0,int i64 0]),13,128):=by kernel_rfl
theorem Tryz.infoInt:(Tryz.prog.info? 3).map (λi=>(i.zero,i.size,i.bytes))=some (some (int i64 0),1,8):=by kernel_rfl
theorem zgj (g bo:Option Addr)(n c1 c2:Nat)(f:Nat->Int)(w:World)(hn:n<=1048576)(m:zT w g n f)(o:zT w bo n f) :
  Calls prog 26 #[(g,n,c1),(bo,n,c2)] w λe w'=>e=.returned (.bool true)/\Below w.heap.size w w':=by
 go_enter func26,ntmps26;go_wp2;go_loopw [5] (λi wr=>∃ k,k<=n/\i=int i64 k/\Below w.heap.size w wr) (λi _=>n - (intOf i).toNat)
 case atStart=>exact⟨0,Jq _,rfl,bZ⟩
 case round =>
  obtain⟨k,hk,rfl,a⟩:=hrel
  by_cases hlt:k<n
  ·obtain⟨b,off,rfl,c⟩:=m k (by omega)
   obtain⟨b2,h,rfl,d⟩:=o k (by omega)
   have j:=(a.cell (Ja w _ c)).trans c;have l:=(a.cell (Ja w _ d)).trans d;clear c d;go_wp2;go_quiet (fail);go_wp2;go_roundw
   case rel=>exact⟨k+1,by omega,by go_num,dN a _⟩
   case measure=>simp[intOf];omega
  ·go_wp2
   go_ret;exact⟨rfl,a⟩
/-- toIntS: a copy of the numbers in a new row. -/
theorem zhM (m:Option Addr)(n h:Nat)(f:Nat->Int)(w:World)(hn:n<=1048576)(s:zT w m n f) :
  Calls prog 22 #[(m,n,h)] w λe w'=>∃ g,e=.returned (some (g,0),n,n)/\w.heap.size<=g /\
   w'.rowIs g 3 n (λk=>int i64 (f k))/\Below w.heap.size w w':=by
 have q:=run_make_row' 27 3 _ 8 underlying27 Tryz.infoInt rfl .i64 .i64 n (by omega) (by omega)
 go_enter func22,ntmps22;go_wp2;go_loopw [4] (λi wr=>∃ k,k<=n/\i=int i64 k/\wr.rowIs w.heap.size 3 n (λj=>if j<k then int i64 (f j) else int i64 0)/\Below w.heap.size w wr)
  (λi _=>n - (intOf i).toNat)
 case atStart=>exact⟨0,Jq _,rfl,(World.rowIs_made _ _ _ _).congr (by simp),bZ.alloc (Jr _) _⟩
 case round =>
  obtain⟨k,hk,rfl,c,d⟩:=hrel
  by_cases hlt:k<n
  ·obtain⟨b,off,rfl,l⟩:=(s k (by omega))
   have o:=(d.cell (Ja w _ l)).trans l;have r:=c.cell hlt;have hf:=c.frozen k;simp only[Nat.lt_irrefl,if_false] at r;clear l;go_wp2;go_roundw
   case rel=>exact⟨_,by omega,by go_num,(c.set k _).congr (λj p=>fill_step (λj=>Value.int _ _) _ k j),d.setCell (Jr _) _⟩
   case measure=>simp[intOf];omega
  ·go_wp2
   go_ret;exact⟨_,rfl,Jr _,c.congr (λj p=>by rw[Jf (by omega)]),d⟩
theorem zhN (a:Option Addr)(n c:Nat)(L:Int)(w:World)(h0:0<=L)(hL:L<=1048576)(hn:n<=1000000000000000) :
  Calls prog 41 #[.slice a n c,int i64 L] w λe w'=>∃ r:Int,e=.returned (int i64 r)/\(r=-1∨(0<=r/\r<=L/\n<=1048576))/\Below w.heap.size w w':=by
 by_cases h:(n:Int)<=L
 ·go_enter func41,ntmps41
  go_wp2;go_ret;exact⟨_,rfl,.inr ⟨by omega,by omega,by omega⟩,bZ⟩
 ·go_enter func41,ntmps41
  go_wp2;go_ret;exact⟨_,rfl,.inl rfl,bZ⟩
def zcj (b:Int):Prop:=(97<=b/\b<=122)∨(65<=b/\b<=90)
def zed (s:ByteArray)(k:Nat):Int:=if h:k<s.size then ((s[k]'h).toNat:Int) else 0
theorem zgk (s:ByteArray)(k:Nat)(h:k<s.size):((s[k]'h).toNat:Int)=zed s k:=by unfold zed;rw[dif_pos h]
instance (b:Int):Decidable (zcj b):=by unfold zcj;exact inferInstance
def Zg (s:ByteArray):Prop:=1<=s.size/\s.size<=12/\∀ k,k<s.size->zcj (zed s k)
instance (s:ByteArray):Decidable (Zg s):=by unfold Zg;exact inferInstance
def In (x lo a:Int):Prop:=lo<=x/\x<=a
instance (x lo a:Int):Decidable (In x lo a):=by unfold In;exact inferInstance
def zaZ (p:zH)(most:Nat)(a b c d:Int):Prop:=p.n<=most/\∀ k,k<p.n->In (p.A k) a b/\In (p.B k) c d
def Zf (s:Zj):Prop :=
 In s.id 1 99/\Zg s.fr/\Zg s.dst/\s.fr≠s.dst/\0<=s.dep/\s.dep<s.arr/\s.arr<=10000/\zaZ s.la 4 1 5000 100 500/\zaZ s.ca 6 1 3 1 4/\In s.most 0 500
def QJ (N:Nat)(S:Nat->Zj):Prop:=N<=6/\∀ k,k<N->Zf (S k)/\(0<k->(S (k - 1)).id<(S k).id)
theorem zhO {a b:ByteArray}(h:a.toList=b.toList):a=b:=by
 rw[ByteArray.toList_eq,ByteArray.toList_eq] at h;obtain⟨⟨x⟩⟩:=a;obtain⟨⟨y⟩⟩:=b;simp at h;rw[h]
theorem zet {a b:ByteArray}:(a.toList == b.toList)=true↔a=b:=by
 rw[beq_iff_eq];exact⟨zhO,λh=>by rw[h]⟩
theorem zga {a b:ByteArray}:(a.toList == b.toList)=false↔a≠b:=by
 rw[beq_eq_false_iff_ne];exact⟨λh e=>h (by rw[e]),λh e=>h (zhO e)⟩
def zda (a b:ByteArray):Prop:=Zg a/\Zg b/\a≠b
instance (a b:ByteArray):Decidable (zda a b):=by unfold zda;exact inferInstance
theorem bool_eq {a b:Bool}{P:Prop}(h1:a=true↔P)(h2:b=true↔P):a=b:=by
 cases a <;> cases b <;> simp_all
end Go.Proofs.YtmdnjgihooflfaaGreatDoor
