/-
  OWN TEXT: KitSeat, KitLoad, KitBooking, Plain3, InfoI.
-/
import Derived.Test.YtgmdnkngnhkgbaaGreatRows
import Derived.Test.YtgmdnkngnhkgbaaGreatB06
namespace Go.Proofs.YtgmdnkngnhkgbaaGreat
open Go.RowKit
open Go.Value (int)
open Go.IntKind (i64)
set_option maxHeartbeats 64000000
set_option maxRecDepth 100000
structure Qo where
 who:Int
 many:Int
def qx (w:World)(a:Option Addr)(n:Nat)(S:Nat->Qo):Prop :=
 ∀ k,k<n->∃ b off,a=some ⟨b,off,none⟩/\w.cell? ⟨b,off+k*2,none⟩=some (int i64 (S k).who)/\w.cell? ⟨b,off+k*2+1,none⟩=some (int i64 (S k).many)
theorem qx.below {w w':World}{c:Option Addr}{n:Nat}{S:Nat->Qo}(h:qx w c n S)(f:Below w.heap.size w w'):qx w' c n S:=by
 intro k i;obtain⟨b,off,e,d,g⟩:=h k i;have a:b<w.heap.size:=World.block_lt_of_cell? w _ d;exact⟨b,off,e,(f.cell a).trans d,(f.cell a).trans g⟩
theorem qx.upto {w:World}{a:Option Addr}{n i:Nat}{S:Nat->Qo}(h:qx w a n S)(hi:i<=n):qx w a i S:=fun k hk=>h k (by omega)
def Qe (S:Nat->Qo)(j:Nat):Value :=
 if j % 2=0 then int i64 (S (j / 2)).who else int i64 (S (j / 2)).many
theorem zdx (S:Nat->Qo)(k:Nat):Qe S (k*2)=int i64 (S k).who:=by
 unfold Qe;rw[if_pos (by omega),show k*2 / 2=k by omega]
theorem zdy (S:Nat->Qo)(k:Nat):Qe S (k*2+1)=int i64 (S k).many:=by
 unfold Qe;rw[if_neg (by omega),show(k*2+1) / 2=k by omega]
def zJ (S:Nat->Qo)(n:Nat):List Value:=(List.range (n*2)).map (Qe S)
theorem ZS (S:Nat->Qo)(n:Nat):(zJ S n).length=n*2:=by simp[zJ]
theorem zeO {S:Nat->Qo}{n j:Nat}{u:Value}(h:(zJ S n)[j]?=some u):j<n*2/\u=Qe S j:=by
 unfold zJ at h;rw[List.getElem?_map] at h
 by_cases hj:j<n*2
 ·rw[List.getElem?_range hj] at h;simp at h;exact⟨hj,h.symm⟩
 ·rw[List.getElem?_eq_none (by simpa using hj)] at h;cases h
theorem QK (S:Nat->Qo)(n:Nat):∀ u ∈ zJ S n,u.oneCell'=true:=by
 intro u a;unfold zJ at a;simp only[List.mem_map] at a;obtain⟨j,_,rfl⟩:=a;unfold Qe
 repeat' split
 all_goals rfl
theorem ZT (S:Nat->Qo)(k:Nat):zJ S (k+1)=zJ S k++[int i64 (S k).who,int i64 (S k).many]:=by
 unfold zJ;rw[show(k+1)*2=k*2+1+1 by omega,List.range_succ,List.range_succ]
 simp only[List.map_append,List.map_cons,List.map_nil,List.append_assoc,List.cons_append,List.nil_append,zdx,zdy]
theorem zaQ {S S':Nat->Qo}{n:Nat}(h:∀ i,i<n->S i=S' i):zJ S n=zJ S' n:=by
 unfold zJ;refine List.map_congr_left (fun j a=>?_)
 have b:j<n*2:=by simpa using a
 unfold Qe;rw[h (j / 2) (by omega)]
def Qy (S:Nat->Qo)(n:Nat)(T:Nat->Qo)(i:Nat):Qo:=if i<n then S i else T (i - n)
theorem zeP (S T:Nat->Qo)(n j:Nat):zJ (Qy S n T) (n+j)=zJ S n++zJ T j:=by
 induction j with
 | zero =>
  have:zJ T 0=[]:=by simp[zJ]
  rw[this,List.append_nil,Nat.add_zero];exact zaQ (fun i a=>if_pos a)
 | succ j ih =>
  rw[show n+(j+1)=n+j+1 by omega,ZT,ZT,ih,List.append_assoc]
  have:Qy S n T (n+j)=T j:=by unfold Qy;rw[if_neg (by omega),show n+j - n=j by omega]
  rw[this]
theorem zae {w:World}{f:Option Addr}{n:Nat}{S:Nat->Qo}(h:qx w f n S):∀ c,f=some c->∀ j u,(zJ S n)[j]?=some u->w.cell? (c.add j)=some u:=by
 intro c e j u k;obtain⟨hj,rfl⟩:=zeO k;obtain⟨b,off,d,g,i⟩:=h (j / 2) (by omega)
 rw[e] at d;simp only[Option.some.injEq] at d;subst d;rw[Addr.add_lit];have a:j % 2=0∨j % 2=1:=by omega
 rcases a with a|a
 ·rw[show off+j=off+j / 2*2 by omega,g];unfold Qe;simp[a]
 ·rw[show off+j=off+j / 2*2+1 by omega,i];unfold Qe;simp[a]
theorem ZK {w:World}{base e n c:Nat}{a:Option Addr}{S:Nat->Qo}(h:w.ownsRow base e 2 (.slice a n c) n (zJ S n)):qx w a n S:=by
 intro k hk;obtain⟨g,rfl,_,_⟩:=own_addr h (by omega)
 have b:=zx h (k*2) (by omega) rfl
 rw[zdx] at b;have d:=zx h (k*2+1) (by omega) rfl
 rw[zdy] at d;exact⟨g,0,rfl,by rw[Nat.zero_add];exact b,by rw[Nat.zero_add];exact d⟩
structure qm where
 stn:Nat
 st:Nat->qW
 ron:Nat
 ro:Nat->qH
 sen:Nat
 se:Nat->Qo
def qm.Is (w:World)(cs:List Value)(x:qm):Prop :=
 ∃ ast cst aro cro ase cse,cs=[.slice ast x.stn cst,.slice aro x.ron cro,.slice ase x.sen cse]/\qp w ast x.stn x.st/\zZ ast x.stn cst/\qo w aro x.ron x.ro/\zZ aro x.ron cro/\qx w ase x.sen x.se/\zZ ase x.sen cse
theorem qm.Is.below {w w':World}{cs:List Value}{x:qm}(h:qm.Is w cs x)(i:Below w.heap.size w w'):qm.Is w' cs x:=by
 obtain⟨c,g,a,d,b,f,e,l,o,j,m,k,n⟩:=h;exact⟨c,g,a,d,b,f,e,l.below i,o,j.below i,m,k.below i,n⟩
def qm.Short (x:qm)(B:Nat):Prop:=x.stn<=B/\x.ron<=B/\x.sen<=B
def Zw (w:World)(a:Option Addr)(N:Nat)(S:Nat->qm):Prop:=∃ C,RecsAt w a N 3 C/\∀ k,k<N->qm.Is w (C k) (S k)
theorem Zw.below {w w':World}{a:Option Addr}{N:Nat}{S:Nat->qm}(h:Zw w a N S)(b:Below w.heap.size w w'):Zw w' a N S:=by
 obtain⟨C,c,d⟩:=h;exact⟨C,c.below b,fun k e=>(d k e).below b⟩
def zbI (N:Nat)(S:Nat->qm)(B:Nat):Prop:=∀ i,i<N->qm.Short (S i) B
structure qi where
 name:Int
 who:Int
 own:ByteArray
 lgn:Nat
 lg:Nat->Int
 pe:Int
 len:Int
 hei:Int
 cl:Int
 all:Bool
 be:Int
 state:Int
 unt:Int
 price:Int
def qi.Is (w:World)(cs:List Value)(x:qi):Prop :=
 ∃ alg clg,cs=[int i64 x.name,int i64 x.who,.string x.own,.slice alg x.lgn clg,int i64 x.pe,int i64 x.len,int i64 x.hei,int i64 x.cl,.bool x.all,int i64 x.be,int i64 x.state,int i64 x.unt,int i64 x.price]/\zX w alg x.lgn x.lg/\zZ alg x.lgn clg
theorem qi.Is.below {w w':World}{cs:List Value}{x:qi}(h:qi.Is w cs x)(f:Below w.heap.size w w'):qi.Is w' cs x:=by
 obtain⟨a,b,e,c,d⟩:=h;exact⟨a,b,e,c.below f,d⟩
theorem qi.Is.length {w:World}{cs:List Value}{x:qi}(h:qi.Is w cs x):cs.length=13:=by
 obtain⟨_,_,rfl,_⟩:=h
 rfl
def qi.Short (x:qi)(B:Nat):Prop:=x.own.size<=B/\x.lgn<=B
def qK (w:World)(a:Option Addr)(N:Nat)(S:Nat->qi):Prop:=∃ C,RecsAt w a N 13 C/\∀ k,k<N->qi.Is w (C k) (S k)
theorem qK.below {w w':World}{a:Option Addr}{N:Nat}{S:Nat->qi}(h:qK w a N S)(b:Below w.heap.size w w'):qK w' a N S:=by
 obtain⟨C,c,d⟩:=h;exact⟨C,c.below b,fun k e=>(d k e).below b⟩
def QU (N:Nat)(S:Nat->qi)(B:Nat):Prop:=∀ i,i<N->qi.Short (S i) B
section
def getI (l:List Int)(j:Nat):Int:=l.getD j 0
def Zt (l:List Int):List Value:=zw (getI l) l.length
end
theorem Tryz.infoInt:(Tryz.prog.info? 3).map (fun i=>(i.zero,i.size,i.bytes))=some (some (int i64 0),1,8):=by kernel_rfl
end Go.Proofs.YtgmdnkngnhkgbaaGreat
