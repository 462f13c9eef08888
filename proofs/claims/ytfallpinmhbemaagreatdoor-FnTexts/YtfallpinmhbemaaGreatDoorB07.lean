/-
  OWN TEXT: KitSeat, KitLoad, KitBooking, Plain3, InfoI.
-/
import Derived.Test.YtfallpinmhbemaaGreatDoorRows
import Derived.Test.YtfallpinmhbemaaGreatDoorB06
namespace Go.Proofs.YtfallpinmhbemaaGreatDoor
open Go.RowKit
open Go.Value (int)
open Go.IntKind (i64)
set_option maxHeartbeats 64000000
set_option maxRecDepth 100000
structure zaf where
 who:Int
 many:Int
def ZI (w:World)(a:Option Addr)(n:Nat)(S:Nat->zaf):Prop :=
 ∀ k,k<n->∃ b off,a=some ⟨b,off,none⟩/\w.cell? ⟨b,off+k*2,none⟩=some (int i64 (S k).who)/\w.cell? ⟨b,off+k*2+1,none⟩=some (int i64 (S k).many)
theorem ZI.below {w w':World}{c:Option Addr}{n:Nat}{S:Nat->zaf}(h:ZI w c n S)(f:Below w.heap.size w w'):ZI w' c n S:=by
 intro k i;obtain⟨b,off,e,d,g⟩:=h k i;have a:b<w.heap.size:=World.block_lt_of_cell? w _ d;exact⟨b,off,e,(f.cell a).trans d,(f.cell a).trans g⟩
theorem ZI.upto {w:World}{a:Option Addr}{n i:Nat}{S:Nat->zaf}(h:ZI w a n S)(hi:i<=n):ZI w a i S:=fun k hk=>h k (by omega)
def Qt (S:Nat->zaf)(j:Nat):Value :=
 if j % 2=0 then int i64 (S (j / 2)).who else int i64 (S (j / 2)).many
theorem zec (S:Nat->zaf)(k:Nat):Qt S (k*2)=int i64 (S k).who:=by
 unfold Qt;rw[if_pos (by omega),show k*2 / 2=k by omega]
theorem zed (S:Nat->zaf)(k:Nat):Qt S (k*2+1)=int i64 (S k).many:=by
 unfold Qt;rw[if_neg (by omega),show(k*2+1) / 2=k by omega]
def zW (S:Nat->zaf)(n:Nat):List Value:=(List.range (n*2)).map (Qt S)
theorem Qk (S:Nat->zaf)(n:Nat):(zW S n).length=n*2:=by simp[zW]
theorem zfH {S:Nat->zaf}{n j:Nat}{u:Value}(h:(zW S n)[j]?=some u):j<n*2/\u=Qt S j:=by
 unfold zW at h;rw[List.getElem?_map] at h
 by_cases hj:j<n*2
 ·rw[List.getElem?_range hj] at h;simp at h;exact⟨hj,h.symm⟩
 ·rw[List.getElem?_eq_none (by simpa using hj)] at h;cases h
theorem Q7 (S:Nat->zaf)(n:Nat):∀ u ∈ zW S n,u.oneCell'=true:=by
 intro u a;unfold zW at a;simp only[List.mem_map] at a;obtain⟨j,_,rfl⟩:=a;unfold Qt
 repeat' split
 all_goals rfl
theorem QN (S:Nat->zaf)(k:Nat):zW S (k+1)=zW S k++[int i64 (S k).who,int i64 (S k).many]:=by
 unfold zW;rw[show(k+1)*2=k*2+1+1 by omega,List.range_succ,List.range_succ]
 simp only[List.map_append,List.map_cons,List.map_nil,List.append_assoc,List.cons_append,List.nil_append,zec,zed]
theorem zdN {S a:Nat->zaf}{n:Nat}(h:∀ i,i<n->S i=a i):zW S n=zW a n:=by
 unfold zW;refine List.map_congr_left (fun j b=>?_)
 have c:j<n*2:=by simpa using b
 unfold Qt;rw[h (j / 2) (by omega)]
def QW (S:Nat->zaf)(n:Nat)(T:Nat->zaf)(i:Nat):zaf:=if i<n then S i else T (i - n)
theorem zfI (S T:Nat->zaf)(n j:Nat):zW (QW S n T) (n+j)=zW S n++zW T j:=by
 induction j with
 | zero =>
  have:zW T 0=[]:=by simp[zW]
  rw[this,List.append_nil,Nat.add_zero];exact zdN (fun i a=>if_pos a)
 | succ j ih =>
  rw[show n+(j+1)=n+j+1 by omega,QN,QN,ih,List.append_assoc]
  have:QW S n T (n+j)=T j:=by unfold QW;rw[if_neg (by omega),show n+j - n=j by omega]
  rw[this]
theorem zaB {w:World}{f:Option Addr}{n:Nat}{S:Nat->zaf}(h:ZI w f n S):∀ c,f=some c->∀ j u,(zW S n)[j]?=some u->w.cell? (c.add j)=some u:=by
 intro c e j u k;obtain⟨hj,rfl⟩:=zfH k;obtain⟨b,off,d,g,i⟩:=h (j / 2) (by omega)
 rw[e] at d;simp only[Option.some.injEq] at d;subst d;rw[Addr.add_lit];have a:j % 2=0∨j % 2=1:=by omega
 rcases a with a|a
 ·rw[show off+j=off+j / 2*2 by omega,g];unfold Qt;simp[a]
 ·rw[show off+j=off+j / 2*2+1 by omega,i];unfold Qt;simp[a]
theorem Qd {w:World}{base e n c:Nat}{a:Option Addr}{S:Nat->zaf}(h:w.ownsRow base e 2 (.slice a n c) n (zW S n)):ZI w a n S:=by
 intro k hk;obtain⟨g,rfl,_,_⟩:=qw h (by omega)
 have b:=zK h (k*2) (by omega) rfl
 rw[zec] at b;have d:=zK h (k*2+1) (by omega) rfl
 rw[zed] at d;exact⟨g,0,rfl,by rw[Nat.zero_add];exact b,by rw[Nat.zero_add];exact d⟩
structure qT where
 stn:Nat
 st:Nat->ZX
 ron:Nat
 ro:Nat->ZF
 sen:Nat
 se:Nat->zaf
def qT.Is (w:World)(cs:List Value)(x:qT):Prop :=
 ∃ ast cst aro cro ase cse,cs=[.slice ast x.stn cst,.slice aro x.ron cro,.slice ase x.sen cse]/\Zv w ast x.stn x.st/\SliceOk ast x.stn cst/\Zm w aro x.ron x.ro/\SliceOk aro x.ron cro/\ZI w ase x.sen x.se/\SliceOk ase x.sen cse
theorem qT.Is.below {w w':World}{cs:List Value}{x:qT}(h:qT.Is w cs x)(i:Below w.heap.size w w'):qT.Is w' cs x:=by
 obtain⟨c,g,a,d,b,f,e,l,o,j,m,k,n⟩:=h;exact⟨c,g,a,d,b,f,e,l.below i,o,j.below i,m,k.below i,n⟩
def qT.Short (x:qT)(B:Nat):Prop:=x.stn<=B/\x.ron<=B/\x.sen<=B
def QE (w:World)(a:Option Addr)(N:Nat)(S:Nat->qT):Prop:=∃ C,RecsAt w a N 3 C/\∀ k,k<N->qT.Is w (C k) (S k)
theorem QE.below {w w':World}{a:Option Addr}{N:Nat}{S:Nat->qT}(h:QE w a N S)(b:Below w.heap.size w w'):QE w' a N S:=by
 obtain⟨C,c,d⟩:=h;exact⟨C,c.below b,fun k e=>(d k e).below b⟩
def zci (N:Nat)(S:Nat->qT)(B:Nat):Prop:=∀ i,i<N->qT.Short (S i) B
structure ZK where
 name:Int
 who:Int
 own:ByteArray
 lgn:Nat
 lg:Nat->Int
 pe:Int
 len:Int
 hei:Int
 cl:Int
 all:Bool
 be:Int
 state:Int
 unt:Int
 price:Int
def ZK.Is (w:World)(cs:List Value)(x:ZK):Prop :=
 ∃ alg clg,cs=[int i64 x.name,int i64 x.who,.string x.own,.slice alg x.lgn clg,int i64 x.pe,int i64 x.len,int i64 x.hei,int i64 x.cl,.bool x.all,int i64 x.be,int i64 x.state,int i64 x.unt,int i64 x.price]/\IntsAt w alg x.lgn x.lg/\SliceOk alg x.lgn clg
theorem ZK.Is.below {w w':World}{cs:List Value}{x:ZK}(h:ZK.Is w cs x)(f:Below w.heap.size w w'):ZK.Is w' cs x:=by
 obtain⟨a,b,e,c,d⟩:=h;exact⟨a,b,e,c.below f,d⟩
def ZK.Short (x:ZK)(B:Nat):Prop:=x.own.size<=B/\x.lgn<=B
def ZU (w:World)(a:Option Addr)(N:Nat)(S:Nat->ZK):Prop:=∃ C,RecsAt w a N 13 C/\∀ k,k<N->ZK.Is w (C k) (S k)
theorem ZU.below {w w':World}{a:Option Addr}{N:Nat}{S:Nat->ZK}(h:ZU w a N S)(b:Below w.heap.size w w'):ZU w' a N S:=by
 obtain⟨C,c,d⟩:=h;exact⟨C,c.below b,fun k e=>(d k e).below b⟩
def zcj (N:Nat)(S:Nat->ZK)(B:Nat):Prop:=∀ i,i<N->ZK.Short (S i) B
section
def getI (l:List Int)(j:Nat):Int:=l.getD j 0
def QK (l:List Int):List Value:=zJ (getI l) l.length
theorem zgH (l:List Int)(x:Int):QK (l++[x])=QK l++[int i64 x]:=by
 unfold QK;rw[List.length_append,List.length_singleton,intList_succ]
 congr 1
 ·unfold zJ
  refine List.map_congr_left fun j b=>?_
  have a:j<l.length:=by simpa using b
  simp[getI,List.getElem?_append_left a]
 ·simp[getI]
end
theorem Tryz.infoInt:(Tryz.prog.info? 3).map (fun i=>(i.zero,i.size,i.bytes))=some (some (int i64 0),1,8):=by kernel_rfl
end Go.Proofs.YtfallpinmhbemaaGreatDoor
