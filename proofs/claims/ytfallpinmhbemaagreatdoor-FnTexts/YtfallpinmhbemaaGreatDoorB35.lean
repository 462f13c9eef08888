import Derived.Test.YtfallpinmhbemaaGreatDoorB27
import Derived.Test.YtfallpinmhbemaaGreatDoorB32
namespace Go.Proofs.YtfallpinmhbemaaGreatDoor
open Go.RowKit
open Go.Value (int)
open Go.IntKind (i64)
set_option maxHeartbeats 64000000
set_option maxRecDepth 1000000
def zeR (x:qT)(res:Nat)(who:Int):Prop :=
 if res=0 then Has (Q8 x.st) x.stn who else if res=1 then Has (zaW x.ro) x.ron who else Has (zaU x.se) x.sen who
inductive zab (s:Sail) (w:Wk) (x:qT):qT->Prop
 | noStay (r:Nat) (e:w.res=0) (g:w.goes=true) (h:r<x.stn) (q:(x.st r).who=w.who):zab s w x (x.noStay r)
 | noRoom (r:Nat) (e:w.res=1) (g:w.goes=true) (h:r<x.ron) (q:(x.ro r).who=w.who):zab s w x (x.noRoom r)
 | noSeat (r:Nat) (e:w.res=2) (g:w.goes=true) (h:r<x.sen) (q:(x.se r).who=w.who):zab s w x (x.noSeat r)
 | addStay (k:Nat) (e:w.res=0) (g:w.goes=false) (h:Places s.la x.stn x.st w.who w.p.len w.p.hei k):zab s w x (x.addStay ⟨w.who,(k:Int),w.p.len,w.p.hei⟩)
 | addRoom (r:ZF) (e:w.res=1) (g:w.goes=false) (q:r.who=w.who) (c:In r.who 1 9999) (a:¬ Has (zaW x.ro) x.ron r.who) (b:zcE s.ca (qW s.ca x.ro x.ron) r):zab s w x (x.addRoom r)
 | addSeat (r:zaf) (e:w.res=2) (g:w.goes=false) (q:r.who=w.who) (hn:x.sen≠60) (c:In r.who 1 9999) (hm:In r.many 1 20) (a:¬ Has (zaU x.se) x.sen r.who) (b:zbE x.se x.sen+r.many<=s.most):zab s w x (x.addSeat r)
theorem zab.good {s:Sail}{w:Wk}{x a:qT}(h:zab s w x a)(hl:qJ s x):qJ s a:=by
 cases h with
 | noStay r e g h q=>exact hl.noStay h
 | noRoom r e g h q=>exact hl.noRoom h
 | noSeat r e g h q=>exact hl.noSeat h
 | addStay k e g h=>exact hl.addStay h
 | addRoom r e g q hw hh hs=>exact hl.addRoom hw hh hs
 | addSeat r e g q hn hw hm hh hs=>exact hl.addSeat hn hw hm hh hs
theorem zeS {F G:Nat->Int}{n:Nat}{x:Int}(h:∀ j,j<n->G j=F j)(b:G n≠x):Has G (n+1) x↔Has F n x:=by
 constructor
 ·rintro⟨j,a,e⟩
  by_cases c:j=n
  ·subst c;exact absurd e b
  ·exact⟨j,by omega,by rw[← h j (by omega)];exact e⟩
 ·rintro⟨j,a,e⟩
  exact⟨j,by omega,by rw[h j a];exact e⟩
theorem zab.others {s:Sail}{w:Wk}{x f:qT}(h:zab s w x f){res:Nat}{who:Int}(hr:res<3)(hd:res≠w.res∨who≠w.who):zeR f res who↔zeR x res who:=by
 obtain rfl|rfl|rfl:res=0∨res=1∨res=2:=by omega
 all_goals
  cases h with
  | noStay r e g h q =>
   first
   | exact Iff.rfl
   | (have a:(x.st r).who≠who:=fun c=>by rcases hd with d | d;exact d e.symm;exact d (by rw[← c,q])
      have:=zeO (S:=x.st) (n:=x.stn - 1) (r:=r) (by omega) a
      rw[show x.stn - 1+1=x.stn by omega] at this
      exact this)
  | noRoom r e g h q =>
   first
   | exact Iff.rfl
   | (have a:zaW x.ro r≠who:=fun c=>by rcases hd with d | d;exact d e.symm;exact d (by rw[← c];exact q)
      have:=zdk (F:=zaW x.ro) (n:=x.ron - 1) (r:=r) (by omega) a
      rw[show x.ron - 1+1=x.ron by omega,← zeP] at this
      exact this)
  | noSeat r e g h q =>
   first
   | exact Iff.rfl
   | (have a:zaU x.se r≠who:=fun c=>by rcases hd with d | d;exact d e.symm;exact d (by rw[← c];exact q)
      have:=zdk (F:=zaU x.se) (n:=x.sen - 1) (r:=r) (by omega) a
      rw[show x.sen - 1+1=x.sen by omega,← zeQ] at this
      exact this)
  | addStay k e g h =>
   first
   | exact Iff.rfl
   | (have a:w.who≠who:=fun c=>by rcases hd with d | d;exact d e.symm;exact d c.symm
      exact zeS (fun j b=>by unfold Q8 qT.addStay;dsimp only;rw[zfV b]) (by unfold Q8 qT.addStay;dsimp only;rw[cat_n];exact a))
  | addRoom r e g q hw hh hs =>
   first
   | exact Iff.rfl
   | (have a:r.who≠who:=fun c=>by rcases hd with d | d;exact d e.symm;exact d (by rw[← c,q])
      exact zeS (fun j b=>by unfold zaW qT.addRoom;dsimp only;rw[zan b]) (by unfold zaW qT.addRoom;dsimp only;rw[zeo];exact a))
  | addSeat r e g q hn hw hm hh hs =>
   first
   | exact Iff.rfl
   | (have a:r.who≠who:=fun c=>by rcases hd with d | d;exact d e.symm;exact d (by rw[← c,q])
      exact zeS (fun j b=>by unfold zaU qT.addSeat;dsimp only;rw[zbo b]) (by unfold zaU qT.addSeat;dsimp only;rw[zcm];exact a))
def Apt (o:Off)(L:Nat->qT)(w:Wk):Prop:=w.res<3/\∀ k,k<o.san->(o.sa k).id=w.leg->if w.goes=true then zeR (L k) w.res w.who else ¬ zeR (L k) w.res w.who
def zdn (a b:Wk):Prop:=a.leg≠b.leg∨a.res≠b.res∨a.who≠b.who
def zfC (L:Nat->qT)(k:Nat)(x:qT)(j:Nat):qT:=if j=k then x else L j
theorem Apt.after {o:Off}{L:Nat->qT}{w v:Wk}{k:Nat}{x:qT}(h:Apt o L v)(g:(o.sa k).id=w.leg)(i:zab (o.sa k) w (L k) x)(hd:zdn v w):Apt o (zfC L k x) v:=by
 refine⟨h.1,fun j f e=>?_⟩
 have a:=h.2 j f e;unfold zfC
 by_cases c:j=k
 ·subst c
  rw[if_pos rfl];have b:v.res≠w.res∨v.who≠w.who:=by
   rcases hd with d|d
   ·exact absurd (by rw[← e,g]) d
   ·exact d
  rw[i.others h.1 b];exact a
 ·rw[if_neg c]
  exact a
theorem zib {o:Off}{L:Nat->qT}{w:Wk}{k:Nat}{x:qT}(h:∀ j,j<o.san->qJ (o.sa j) (L j))(b:zab (o.sa k) w (L k) x):∀ j,j<o.san->qJ (o.sa j) (zfC L k x j):=by
 intro j a;unfold zfC
 by_cases c:j=k
 ·subst c;rw[if_pos rfl];exact b.good (h j a)
 ·rw[if_neg c];exact h j a
theorem zbQ (goes:Bool)(who:Int)(p:Zf)(leg:Int):∀ j,(qL goes who p leg j).Pairwise zdn
 | 0=>List.Pairwise.nil
 | j+1=>by
  have d:=zbQ goes who p leg j;unfold qL
  split
  ·refine List.pairwise_append.2 ⟨d,List.pairwise_singleton _ _,fun a e b c=>?_⟩
   have:=(zap e).2.1;simp at c;subst c;exact .inr (.inl (by show a.res≠j;omega))
  ·exact d
theorem QB (goes:Bool)(who:Int)(p:Zf)(F:Nat->Int):∀ k,(∀ i,i<k->∀ j,j<i->F j≠F i)->(qZ goes who p F k).Pairwise zdn
 | 0,_=>List.Pairwise.nil
 | k+1,h=>by
  unfold qZ;refine List.pairwise_append.2 ⟨QB goes who p F k (fun i c=>h i (by omega)),zbQ _ _ _ _ _,fun a f b g=>?_⟩
  obtain⟨⟨i,c,e⟩,_⟩:=QA f;have d:=(zap g).1;exact .inl (by rw[e,d];exact h k (by omega) i c)
theorem zfZ {g h:Int}{p q:Zf}{c d:Nat->Int}{e f:Nat}(k:∀ i,i<e->∀ j,j<i->c j≠c i)(l:∀ i,i<f->∀ j,j<i->d j≠d i)(o:g≠h):(qZ true g p c e++qZ false h q d f).Pairwise zdn:=by
 refine List.pairwise_append.2 ⟨QB _ _ _ _ _ k,QB _ _ _ _ _ l,fun a m b n=>?_⟩
 exact .inr (.inr (by rw[(QA m).2.2.2.1,(QA n).2.2.2.1];exact o))
theorem Zy.apt_goes {o:Off}(h:Zy o){m:Nat}(w:m<o.bkn)(hl:zee (o.bk m)){p:Zf}(b:p.len=(o.bk m).len)(f:p.cl=(o.bk m).cl){v:Wk}(y:v ∈ qZ true (o.bk m).who p (o.bk m).lg (o.bk m).lgn):Apt o o.ld v:=by
 have g:zbz p.len p.cl 0=true->0<p.len:=by simp[zbz]
 have j:zbz p.len p.cl 1=true->0<p.cl:=by simp[zbz]
 obtain⟨⟨i,t,e⟩,x,s,z,_,a⟩:=QA y;refine⟨x,fun k u l=>?_⟩
 rw[if_pos s,z];obtain⟨n,q,r⟩:=h.here u w ⟨hl,i,t,by rw[l,e]⟩
 unfold zeR
 by_cases c:v.res=0
 ·rw[if_pos c]
  rw[c] at a;exact q (by rw[← b];exact g a)
 ·rw[if_neg c]
  by_cases d:v.res=1
  ·rw[if_pos d]
   rw[d] at a;exact r (by rw[← f];exact j a)
  ·rw[if_neg d]
   exact n
theorem Zy.apt_comes {o:Off}(h:Zy o){x:Int}(l:∀ i,i<o.bkn->(o.bk i).who≠x){p:Zf}{F:Nat->Int}{n:Nat}{v:Wk}(g:v ∈ qZ false x p F n):Apt o o.ld v:=by
 obtain⟨_,f,d,j,_,_⟩:=QA g;refine⟨f,fun k e _=>?_⟩
 rw[if_neg (by rw[d];decide),j]
 obtain⟨a,b,c⟩:=h.fresh l e;unfold zeR
 split
 ·exact b
 ·split
  ·exact c
  ·exact a
def zbA (p:qi)(n:Nat)(S:Nat->ZX)(len hei:Int)(r:Int):Prop :=
 (∃ k:Nat,r=(k:Int)/\n≠60/\Qy p (QF p S n) len hei k)∨(r=-1/\(n=60∨∀ k,¬ Qy p (QF p S n) len hei k))
theorem zhb (x y:Option Addr)(m M n c:Nat)(p:qi)(S:Nat->ZX)(len hei:Int)(w:World)(hl:p.n=m)(hd:zfO p n S)(K:qd w x p)(L:Zv w y n S) :
  Calls Tryz.prog 140 #[.slice x m M,.slice y n c,int i64 len,int i64 hei] w fun e w'=>(∃ r:Int,e=.returned (int i64 r)/\zbA p n S len hei r)/\Below w.heap.size w w':=by
 have u:=hI hl;have F:=hI hd;have G:=hI K;have O:=hI L;have R:m<=4:=by rw[← hl];exact hd.1.1
 have s:n<=60:=hd.2.1;clear hl hd K L
 by_cases h60:n=60
 ·have z:(n == 60)=true:=by simpa using h60
  have A:((n:Int) == 60)=true:=by simp;omega
  have o:=hI h60;clear h60;go_enter Tryz.func140,Tryz.ntmps140;go_wp2;go_ret;exact⟨⟨_,rfl,.inr ⟨rfl,.inl o.out⟩⟩,bZ⟩
 ·have z:(n == 60)=false:=by simpa using h60
  have A:((n:Int) == 60)=false:=by simp;omega
  have o:=hI h60;clear h60;go_enter Tryz.func140,Tryz.ntmps140;go_wp2_with fail;refine(zep x y m M n c p S _ u.out F.out.1 s F.out.lens G.out O.out).mono ?_;rintro e E ⟨⟨v,rfl,d⟩,f⟩;obtain⟨aw,cw,rfl,_⟩:=zt d;have N:=hI (own_ints d);clear d;go_wp2;go_loopw [10,11,20] (fun _ _ i wr=>∃ k:Nat,k<=m/\i=int i64 k/\(∀ j:Nat,j<k->¬ (hei<=p.B j/\len<=QF p S n j))/\Below E.heap.size E wr) (fun _ _ i _=>m - (intOf i).toNat)
  case atStart=>exact⟨0,Nat.zero_le _,rfl,fun j J=>by omega,bZ⟩
  case round =>
   obtain⟨k,hk,rfl,g,a⟩:=hrel;have t:=hI g;clear g
   by_cases hlt:k<m
   ·obtain⟨b,off,rfl,B,H⟩:=G.out k (by rw[u.out];exact hlt)
    have I:=World.block_lt_of_cell? w _ B;have c1:=((zj f a).cell (p:=⟨b,off+k*2,none⟩) I).trans B;have c2:=((zj f a).cell (p:=⟨b,off+k*2+1,none⟩) I).trans H;obtain⟨b3,l,rfl,C⟩:=N.out k hlt;have D:=World.block_lt_of_cell? E _ C;have c3:(wr.alloc (.cells #[int i64 (p.A k),int i64 (p.B k)] 106)).cell? ⟨b3,l+k,none⟩=some (int i64 (QF p S n k)):=((zr a _).cell (p:=⟨b3,l+k,none⟩) D).trans C;have i1:(0:Int)<=(k:Int):=by omega
    have i2:(k:Int)<(m:Int):=by omega
    clear B H C
    by_cases g1:hei<=p.B k
    ·have P:decide (hei<=p.B k)=true:=decide_eq_true g1
     by_cases g2:len<=QF p S n k
     ·have Q:decide (len<=QF p S n k)=true:=decide_eq_true g2
      have q:Hid (Qy p (QF p S n) len hei k):=⟨by rw[u.out];exact hlt,⟨g1,g2⟩,t.out⟩
      clear g1 g2;go_wp2;go_ret;exact⟨⟨_,rfl,.inl ⟨k,rfl,o.out,q.out⟩⟩,zj f (zr a _)⟩
     ·have Q:decide (len<=QF p S n k)=false:=decide_eq_false g2
      have q:Hid (¬ (hei<=p.B k/\len<=QF p S n k)):=fun h=>g2 h.2
      clear g1 g2;go_wp2;go_roundw
      case rel=>exact⟨k+1,by omega,by go_num,fun j J=>by
       by_cases e:j=k
       ·subst e;exact q.out
       ·exact t.out j (by omega),zr a _⟩
      case measure=>simp[intOf];omega
    ·have P:decide (hei<=p.B k)=false:=decide_eq_false g1
     have q:Hid (¬ (hei<=p.B k/\len<=QF p S n k)):=fun h=>g1 h.1
     clear g1;go_wp2;go_roundw
     case rel=>exact⟨k+1,by omega,by go_num,fun j J=>by
      by_cases e:j=k
      ·subst e;exact q.out
      ·exact t.out j (by omega),zr a _⟩
     case measure=>simp[intOf];omega
   ·obtain rfl:k=m:=by omega
    go_wp2;go_ret;exact⟨⟨_,rfl,.inr ⟨rfl,.inr (fun j h=>t.out j (by have:=h.1;rw[u.out] at this;exact this) h.2.1)⟩⟩,zj f a⟩
def Qv (r k:Nat):Nat:=if k<=r then k else k - 1
theorem zfa (H:Option Addr)(n c r:Nat)(S:Nat->ZX)(x:Int)(w:World)(hn:n<=60)(hr:r<n)(N:Q8 S r=x)(L:∀ j,j<n->j≠r->Q8 S j≠x)(O:Zv w H n S) :
  Calls Tryz.prog 139 #[.slice H n c,int i64 x] w fun e w'=>(∃ v,e=.returned v/\w'.ownsRow w.heap.size 186 4 v (n - 1) (zX (Z7 S r) (n - 1)))/\Below w.heap.size w w':=by
 obtain⟨X,Y,C,D,E⟩:=info_parts Tryz.infoStay;have R:=hI O;have G:=hI N;have Q:=hI L;clear O N L;go_enter Tryz.func139,Tryz.ntmps139;go_wp2;go_loopw [5,7,10] (fun v _ i wr=>∃ k:Nat,k<=n/\i=int i64 k/\wr.ownsRow w.heap.size 186 4 v (Qv r k) (zX (Z7 S r) (Qv r k))/\Below w.heap.size w wr) (fun _ _ i _=>n - (intOf i).toNat)
 case atStart=>exact⟨0,Nat.zero_le _,rfl,⟨rfl,.inl ⟨rfl,rfl⟩⟩,bZ⟩
 case round =>
  obtain⟨k,hk,rfl,d,a⟩:=hrel
  by_cases hlt:k<n
  ·obtain⟨b,off,rfl,y,I,J,K⟩:=R.out k hlt
   have o:=World.block_lt_of_cell? w _ y;have c0:=(a.cell (p:=⟨b,off+k*4,none⟩) o).trans y;have c1:=(a.cell (p:=⟨b,off+k*4+1,none⟩) o).trans I;have c2:=(a.cell (p:=⟨b,off+k*4+2,none⟩) o).trans J;have c3:=(a.cell (p:=⟨b,off+k*4+3,none⟩) o).trans K;clear y I J K
   by_cases he:k=r
   ·have T:((S k).who == x)=true:=by rw[he];simpa [Q8] using G.out
    have U:((S k).who != x)=false:=by rw[he];simpa [Q8] using G.out
    have l:Hid (Qv r (k+1)=Qv r k):=by
     have m:Qv r (k+1)=k+1 - 1:=if_neg (by omega)
     have f:Qv r k=k:=if_pos (by omega)
     show Qv r (k+1)=Qv r k
     omega
    clear he;go_wp2;go_roundw
    case rel=>exact⟨k+1,by omega,by go_num,by rw[l.out];exact zm (zr bZ _) d,zr a _⟩
    case measure=>simp[intOf];omega
   ·have g:=Q.out k hlt he
    have T:((S k).who == x)=false:=by simpa [Q8] using g
    have U:((S k).who != x)=true:=by simpa [Q8] using g
    have l:Hid (Qv r (k+1)=Qv r k+1/\Z7 S r (Qv r k)=S k/\Qv r k<=60):=by
     by_cases c:k<=r
     ·have m:Qv r (k+1)=k+1:=if_pos (by omega)
      have f:Qv r k=k:=if_pos c;have s:Z7 S r k=S k:=if_pos (by omega)
      rw[m,f,s];exact⟨rfl,rfl,by omega⟩
     ·have m:Qv r (k+1)=k+1 - 1:=if_neg (by omega)
      have f:Qv r k=k - 1:=if_neg c;have s:Z7 S r (k - 1)=S (k - 1+1):=if_neg (by omega)
      rw[m,f,s];exact⟨by omega,by rw[show k - 1+1=k by omega],by omega⟩
    clear he g;have W:=a.size;have z:=l.out.2.2;generalize hq:Qv r k=q at d z;have F:=hI hq;clear hq;have P:Hid (∀ t,(some ⟨wr.heap.size+1,0,none⟩:Option Addr)=some t->∀ j u,[Value.int .i64 (S k).who,int i64 (S k).ln,int i64 (S k).len,int i64 (S k).hei][j]?=some u->((wr.alloc (.cells #[int i64 (S k).who,int i64 (S k).ln,int i64 (S k).len,int i64 (S k).hei] 186)).alloc (.cells #[int i64 (S k).who,int i64 (S k).ln,int i64 (S k).len,int i64 (S k).hei] 186)).cell? (t.add j)=some u):=by
     intro t e
     cases e
     exact World.news_of_block (by simpa using heap_alloc_new (wr.alloc _) _)
    go_wp2_with (first|(at_builtin;refine zz _ (by rfl) (.tmp 18) (.tmp 20) 133 (by rfl) w.heap.size 186 X (.agg #[int i64 0,int i64 0,int i64 0,int i64 0]) 4 32 Tryz.underlying133 Y C D E rfl (by decide) _ q (zX (Z7 S r) q) (by rfl) ((d.alloc _).alloc _) (some ⟨wr.heap.size+1,0,none⟩) 1 1 [int i64 (S k).who,int i64 (S k).ln,int i64 (S k).len,int i64 (S k).hei] (by rfl) (fun h=>(by cases h)) (by rfl) P.out (by intro u M;simp at M;rcases M with rfl|rfl|rfl|rfl <;> rfl) (by unfold maxLen;omega) (by omega) (by simp;omega) ?_;intro v' w3 B A))
    go_roundw
    case rel =>
     refine⟨k+1,by omega,by go_num,?_,(zr (zr a _) _).grown A (by simp;omega) (fun j V=>(d.lt j V).1)⟩
     obtain⟨m,f,_⟩:=l.out;rw[m,F.out,QM];rw[F.out] at f;rw[f];exact B
    case measure=>simp[intOf];omega
  ·obtain rfl:k=n:=by omega
   have l:Hid (Qv r k=k - 1):=if_neg (by omega)
   rw[l.out] at d;go_wp2;go_ret;exact⟨⟨_,rfl,d⟩,a⟩
def zcU:ByteArray:=⟨#[115,97,105,108]⟩
def zfo (s:Sail):List ByteArray:=[zcU,qf s.id,s.fr,s.dst,qf s.dep,qf s.arr,qf s.most,qu s.la,qu s.ca]
def QS (s:Sail):ByteArray:=qD spT (zfo s)
noncomputable def zdv (s:Sail):Bool:=by classical exact decide (zU s)
theorem zdw (s:Sail):zdv s=true↔zU s:=by classical exact decide_eq_true_iff
noncomputable def zfp (s:Sail):ByteArray:=if zdv s=true then QS s else ⟨#[]⟩
theorem zdx {s:Sail}(h:¬ zU s):zfp s=⟨#[]⟩/\zdv s=false:=by
 have a:zdv s=false:=Bool.eq_false_iff.2 (fun e=>h ((zdw s).1 e))
 exact⟨by unfold zfp;rw[if_neg (by rw[a];decide)],a⟩
theorem zaw {s:Sail}(h:zU s):zfp s=QS s/\zdv s=true:=by
 have a:zdv s=true:=(zdw s).2 h;exact⟨by unfold zfp;rw[if_pos a],a⟩
theorem zbp {s:Sail}(h:zU s):zcL s.la:=by
 unfold zU ZG at h;obtain⟨_,_,_,_,_,_,_,a,_⟩:=h;refine⟨by omega,fun i b=>?_⟩
 have:=a.2 i b;unfold In at *
 omega
theorem zbq {s:Sail}(h:zU s):zcL s.ca:=by
 unfold zU ZG at h;obtain⟨_,_,_,_,_,_,_,_,a,_⟩:=h;refine⟨by omega,fun i b=>?_⟩
 have:=a.2 i b;unfold In at *
 omega
theorem zbY {s:Sail}(h:zU s):(0<=s.id/\s.id<=1000000)/\(0<=s.dep/\s.dep<=1000000)/\(0<=s.arr/\s.arr<=1000000)/\(0<=s.most/\s.most<=1000000)/\s.fr.size<=12/\s.dst.size<=12:=by
 unfold zU qK In at h
 omega
theorem zev {s:Sail}(h:zU s):(QS s).size<=20000:=by
 have r:=zbY h;have s1:=qh (n:=s.id) (by omega) (by omega)
 have s2:=qh (n:=s.dep) (by omega) (by omega)
 have s3:=qh (n:=s.arr) (by omega) (by omega)
 have s4:=qh (n:=s.most) (by omega) (by omega)
 have s5:=zaL (zbp h);have s6:=zaL (zbq h);have a:∀ (l:List ByteArray) (p:ByteArray),l≠[]->(qD spT (l++[p])).size=(qD spT l).size+1+p.size:=fun l p hl=>by
  rw[ZR spT p hl,ByteArray.size_append,ByteArray.size_append]
  show _+(1+_)=_
  omega
 unfold QS zfo;rw[show[zcU,qf s.id,s.fr,s.dst,qf s.dep,qf s.arr,qf s.most,qu s.la,qu s.ca]=((((((([zcU]++[qf s.id])++[s.fr])++[s.dst])++[qf s.dep])++[qf s.arr])++[qf s.most])++[qu s.la])++[qu s.ca] from rfl,
  a _ _ (by simp),a _ _ (by simp),a _ _ (by simp),a _ _ (by simp),a _ _ (by simp),a _ _ (by simp),a _ _ (by simp),a _ _ (by simp),ZH]
 have:zcU.size=4:=rfl
 omega
def zaT (w:World):Prop:=w.cell? ⟨2,2,none⟩=some (.string zcU)
theorem zaT.below {w w':World}(h:zaT w)(a:Below w.heap.size w w'):zaT w':=(a.cell (World.block_lt_of_cell? w _ h)).trans h
theorem zdy (s:Sail)(lo i:Option Addr)(k l:Nat)(w:World)(B:zU s)(G:qd w lo s.la)(H:qd w i s.ca)(F:PowAt w)(E:zaT w) :
  Calls Tryz.prog 25 #[.agg #[int i64 s.id,.string s.fr,.string s.dst,int i64 s.dep,int i64 s.arr,.slice lo s.la.n k,.slice i s.ca.n l,int i64 s.most]] w fun e w'=>∃ v,e=.returned v/\zcZ w' w.heap.size v (zfo s)/\Below w.heap.size w w':=by
 have C:=hI B;have x:Hid _:=zbY B;have g:Hid (qd w lo s.la/\qd w i s.ca/\PowAt w):=⟨G,H,F⟩;have c:Below w.heap.size w (w.alloc (.cells #[int i64 s.id,.string s.fr,.string s.dst,int i64 s.dep,int i64 s.arr,.slice lo s.la.n k,.slice i s.ca.n l,int i64 s.most] 37)):=zr bZ _;have A:=heap_alloc_new w (.cells #[int i64 s.id,.string s.fr,.string s.dst,int i64 s.dep,int i64 s.arr,.slice lo s.la.n k,.slice i s.ca.n l,int i64 s.most] 37);have h:=E.below c;unfold zaT at h;clear B G H F E;go_enter Tryz.func25,Tryz.ntmps25;go_upto_region 1 with fail;generalize w.alloc (.cells #[int i64 s.id,.string s.fr,.string s.dst,int i64 s.dep,int i64 s.arr,.slice lo s.la.n k,.slice i s.ca.n l,int i64 s.most] 37)=W at c A h ⊢;have D:Hid (∀ w',Below W.heap.size W w'->w'.cell? ⟨2,2,none⟩=some (.string zcU)/\w'.cell? ⟨w.heap.size,0,none⟩=some (int i64 s.id)/\w'.cell? ⟨w.heap.size,1,none⟩=some (.string s.fr)/\w'.cell? ⟨w.heap.size,2,none⟩=some (.string s.dst)/\w'.cell? ⟨w.heap.size,3,none⟩=some (int i64 s.dep)/\w'.cell? ⟨w.heap.size,4,none⟩=some (int i64 s.arr)/\w'.cell? ⟨w.heap.size,5,none⟩=some (.slice lo s.la.n k)/\w'.cell? ⟨w.heap.size,6,none⟩=some (.slice i s.ca.n l)/\w'.cell? ⟨w.heap.size,7,none⟩=some (int i64 s.most)):=fun w' f=>by
  have b:=zc A f;exact⟨(f.cell (World.block_lt_of_cell? W _ h)).trans h,za b 0 _ rfl,za b 1 _ rfl,za b 2 _ rfl,za b 3 _ rfl,za b 4 _ rfl,za b 5 _ rfl,za b 6 _ rfl,za b 7 _ rfl⟩
 have u:Hid (∀ (n:Int) d,0<=n/\n<=1000000->Below W.heap.size W d->Calls Tryz.prog 39 #[int i64 n] d fun e w'=>e=.returned (.string (qf n))/\Below W.heap.size W w'):=fun n d hn f =>
  (Z3 n (by omega) (by omega) d (g.out.2.2.below (zj c f))).mono fun e w' ⟨h1,h2⟩=>⟨h1,zj f h2⟩
 have z:Hid (∀ d,Below W.heap.size W d->Calls Tryz.prog 64 #[.slice lo s.la.n k,.func (.func 65) #[] #[]] d fun e w'=>e=.returned (.string (qu s.la))/\Below W.heap.size W w'):=fun d f =>
  (zgs lo k s.la d (zbp C.out) (g.out.1.below (zj c f)) (g.out.2.2.below (zj c f))).mono fun e w' ⟨h1,h2⟩=>⟨h1,zj f h2⟩
 have y:Hid (∀ d,Below W.heap.size W d->Calls Tryz.prog 66 #[.slice i s.ca.n l,.func (.func 67) #[] #[]] d fun e w'=>e=.returned (.string (qu s.ca))/\Below W.heap.size W w'):=fun d f =>
  (zfm i l s.ca d (zbq C.out) (g.out.2.1.below (zj c f)) (g.out.2.2.below (zj c f))).mono fun e w' ⟨h1,h2⟩=>⟨h1,zj f h2⟩
 obtain⟨k0,k1,k2,k3,k4,k5,k6,k7,k8⟩:=D.out W bZ;have m:=hI c;clear A h c;go_region_held3 (fun w'=>w'.cell? ⟨2,2,none⟩=some (.string zcU)/\w'.cell? ⟨w.heap.size,0,none⟩=some (int i64 s.id)/\w'.cell? ⟨w.heap.size,1,none⟩=some (.string s.fr)/\w'.cell? ⟨w.heap.size,2,none⟩=some (.string s.dst)/\w'.cell? ⟨w.heap.size,3,none⟩=some (int i64 s.dep)/\w'.cell? ⟨w.heap.size,4,none⟩=some (int i64 s.arr)/\w'.cell? ⟨w.heap.size,5,none⟩=some (.slice lo s.la.n k)/\w'.cell? ⟨w.heap.size,6,none⟩=some (.slice i s.ca.n l)/\w'.cell? ⟨w.heap.size,7,none⟩=some (int i64 s.most))
  (first|(refine D.out _ ?_;first|exact zr j.out _|exact j.out|exact t.out|exact r.out|exact q.out|exact p.out|exact o.out|exact bZ.drew|exact bZ))
  (first
   | (go_at_call 39;first
    | (with_reducible refine Calls.mono (u.out s.id _ x.out.1 ?_) ?_);(focus(first | exact bZ.drew | exact bZ));rintro e w1 ⟨rfl,a⟩;have o:=hI a;clear a
    | (with_reducible refine Calls.mono (u.out s.dep _ x.out.2.1 o.out) ?_);rintro e w2 ⟨rfl,a⟩;have p:=hI a;clear a
    | (with_reducible refine Calls.mono (u.out s.arr _ x.out.2.2.1 p.out) ?_);rintro e w3 ⟨rfl,a⟩;have q:=hI a;clear a
    | (with_reducible refine Calls.mono (u.out s.most _ x.out.2.2.2.1 q.out) ?_);rintro e w4 ⟨rfl,a⟩;have r:=hI a;clear a)
   | (go_at_call 64;(with_reducible refine Calls.mono (z.out _ r.out) ?_);rintro e w5 ⟨rfl,a⟩;have t:=hI a;clear a)
   | (go_at_call 66;(with_reducible refine Calls.mono (y.out _ t.out) ?_);rintro e I ⟨rfl,a⟩;have j:=hI a;clear a))
 go_wp2;go_ret;exact⟨_,rfl,⟨rfl,.inr ⟨I.heap.size,9,#[.string zcU,.string (qf s.id),.string s.fr,.string s.dst,.string (qf s.dep),.string (qf s.arr),.string (qf s.most),.string (qu s.la),.string (qu s.ca)],rfl,(zj m.out j.out).size,heap_alloc_new I _,Nat.le_refl _,by unfold maxLen;omega,rfl,rfl⟩⟩,zj m.out (zr j.out _)⟩
theorem zaM (s:Sail)(lo d:Option Addr)(i j:Nat)(w:World)(t:s.fr.size<=1000000000000000)(u:s.dst.size<=1000000000000000)(hn:s.la.n<=1048576)(M:s.ca.n<=1048576)(I:qd w lo s.la)(J:qd w d s.ca)(G:PowAt w)(F:zaT w) :
  Calls Tryz.prog 10 #[.agg #[int i64 s.id,.string s.fr,.string s.dst,int i64 s.dep,int i64 s.arr,.slice lo s.la.n i,.slice d s.ca.n j,int i64 s.most]] w fun e w'=>e=.returned (.tuple #[.string (zfp s),.bool (zdv s)])/\Below w.heap.size w w':=by
 have a:Hid (qd w lo s.la/\qd w d s.ca/\PowAt w/\zaT w):=⟨I,J,G,F⟩;have c:Below w.heap.size w (w.alloc (.cells #[int i64 s.id,.string s.fr,.string s.dst,int i64 s.dep,int i64 s.arr,.slice lo s.la.n i,.slice d s.ca.n j,int i64 s.most] 37)):=zr bZ _;have m:=heap_alloc_new w (.cells #[int i64 s.id,.string s.fr,.string s.dst,int i64 s.dep,int i64 s.arr,.slice lo s.la.n i,.slice d s.ca.n j,int i64 s.most] 37);clear I J G F;go_enter Tryz.func10,Tryz.ntmps10;go_upto_region 1 with fail;generalize w.alloc (.cells #[int i64 s.id,.string s.fr,.string s.dst,int i64 s.dep,int i64 s.arr,.slice lo s.la.n i,.slice d s.ca.n j,int i64 s.most] 37)=W at c m ⊢;obtain⟨x,y,z,A,B,C,D,E⟩:=ce8 m;go_wp2_with fail;refine(zdu _ _ _ _ _ _ _ _ _ _ _ _ s.la s.ca _ rfl rfl t u hn M (a.out.1.below c) (a.out.2.1.below c)).mono ?_;rintro e w2 ⟨⟨q,rfl,H⟩,f⟩;have o:=hI H;have b2:=zc m f;have b:=zj c f;clear x y z A B C D E m c f H
 cases q with
 | false =>
  have k:¬ zU s:=fun h=>by have:=o.out.2 h;cases this
  have g:=hI (zdx k);clear k;go_wp2;exact bodyPost_ret (v:=.tuple #[.string ⟨#[]⟩,.bool false]) (by simp[results,Tryz.results10,go_sem]) rfl ⟨by rw[g.out.1,g.out.2],b⟩
 | true =>
  have n:Hid (zU s):=by first|exact o.out.1 rfl|exact o.out.1 trivial
  have g:=hI (zaw n.out);obtain⟨x,y,z,A,B,C,D,E⟩:=ce8 b2;go_wp2_with fail;refine(zdy s lo d i j _ n.out (a.out.1.below b) (a.out.2.1.below b) (a.out.2.2.1.below b) (a.out.2.2.2.below b)).mono ?_;rintro e w4 ⟨v,rfl,l,p⟩;have K:=hI l;clear x y z A B C D E l;go_wp2_with fail;refine(zhL spT (zfo s) v _ _ K.out (by show 9<=_;omega) (by have L:=zev n.out;unfold QS at L;omega)).mono ?_
  rintro e w5 ⟨rfl,r⟩;go_wp2;exact bodyPost_ret (v:=.tuple #[.string (QS s),.bool true]) (by simp[results,Tryz.results10,go_sem,QS]) rfl ⟨by rw[g.out.1,g.out.2],zj (zj b p) r⟩
def zhq (w:World)(a:Option Addr)(p:qi):Prop:=∀ k,k<p.n->∃ b off g,a=some ⟨b,off,none⟩/\w.cell? ⟨b,off+k,none⟩=some (.slice (some ⟨g,0,none⟩) 2 2)/\w.heap[g]?=some (.cells #[int i64 (p.A k),int i64 (p.B k)] 3 (0,0))
theorem zhq.below {w w':World}{a:Option Addr}{p:qi}(h:zhq w a p)(d:Below w.heap.size w w'):zhq w' a p:=fun k i=>by
 obtain⟨b,off,g,e,c,f⟩:=h k i;exact⟨b,off,g,e,(d.cell (World.block_lt_of_cell? w _ c)).trans c,zc f d⟩
def pT (p:qi)(k:Nat):ByteArray:=qD coT ((List.range k).map (fun i=>Zo (p.A i) (p.B i)))
theorem pT_succ (p:qi)(k:Nat)(h:0<k):pT p (k+1)=pT p k++coT++Zo (p.A k) (p.B k):=by
 unfold pT;rw[List.range_succ,List.map_append,List.map_cons,List.map_nil,ZR _ _ (by
  intro e;have:=congrArg List.length e;simp at this
  omega),ByteArray.append_assoc]
theorem pT_one (p:qi):pT p 1=Zo (p.A 0) (p.B 0):=ZH _ _
theorem pT_size {p:qi}(h:zcL p)(k:Nat)(hk:k<=p.n):(pT p k).size<=6006:=by
 have:=zbU coT (by show 1<=1;omega) ((List.range k).map (fun i=>Zo (p.A i) (p.B i))) (fun q d=>by
  obtain⟨i,b,rfl⟩:=List.mem_map.1 d;have c:i<k:=by simpa using b
  have a:=h.2 i (by omega)
  have:=zcx a.1 a.2
  omega)
 rw[List.length_map,List.length_range] at this;have:=h.1;unfold pT
 omega
theorem zcM (C:Option Addr)(cap:Nat)(p:qi)(w:World)(y:zcL p)(D:zhq w C p) :
  Calls Tryz.prog 68 #[.slice C p.n cap] w fun e w'=>e=.returned (.string (qu p))/\Below w.heap.size w w':=by
 have B:=hI y;have x:=y.1;have F:=hI D;obtain⟨n,hn⟩:∃ n,n=p.n:=⟨_,rfl⟩;have o:=hI hn.symm;rw[← hn] at x ⊢;clear y D hn
 by_cases h0:n=0
 ·have G:((n:Int) == 0)=true:=by rw[beq_iff_eq];omega
  have r:Hid ((⟨#[45]⟩:ByteArray)=qu p):=by show _=qu p;unfold qu;rw[if_pos (by rw[o.out];exact h0)]
  clear h0;go_enter Tryz.func68,Tryz.ntmps68;go_wp2;go_ret;exact⟨congrArg (fun z=>Ending.returned (Value.string z)) r.out,bZ⟩
 have G:((n:Int) == 0)=false:=by rw[beq_eq_false_iff_ne];omega
 go_enter Tryz.func68,Tryz.ntmps68;go_wp2;go_loopw [3,4,5,11] (fun v _ _ i wr=>∃ k:Nat,k<=n/\i=int i64 k/\v=.string (pT p k)/\Below w.heap.size w wr)
  (fun _ _ _ i _=>n - (intOf i).toNat)
 case atStart=>exact⟨0,Nat.zero_le _,rfl,rfl,bZ⟩
 case round =>
  obtain⟨k,J,rfl,rfl,a⟩:=hrel
  by_cases hlt:k<n
  ·obtain⟨b,off,g,rfl,I,q⟩:=F.out.below a k (by rw[o.out];exact hlt)
   have d:=B.out.2 k (by rw[o.out];exact hlt)
   have f:=hI d;have sp:(Zo (p.A k) (p.B k)).size<=201:=zcx d.1 d.2;have sl:=pT_size B.out k (by rw[o.out];exact J)
   unfold In at d;have s1:=qh (n:=p.A k) (by omega) (by omega)
   have s2:=qh (n:=p.B k) (by omega) (by omega)
   have r1:=qk (qf (p.A k)) ⟨#[47]⟩ (by omega) (by show 1<=_;omega)
   have r2:∀ W:World,(Op.stringOp .add (qf (p.A k)++⟨#[47]⟩) (qf (p.B k))).run Tryz.prog W=.ok (.string (Zo (p.A k) (p.B k))) W:=qk (qf (p.A k)++⟨#[47]⟩) (qf (p.B k)) (by rw[ByteArray.size_append];show _+1<=_;omega) (by omega)
   have s:Hid (∀ W:World,Calls Tryz.prog 47 #[int i64 (p.A k)] W fun e w'=>e=.returned (.string (qf (p.A k)))/\Below W.heap.size W w'):=fun W=>Za (by have:=f.out.1.1;omega) (by have:=f.out.1.2;omega) W
   have t:Hid (∀ W:World,Calls Tryz.prog 47 #[int i64 (p.B k)] W fun e w'=>e=.returned (.string (qf (p.B k)))/\Below W.heap.size W w'):=fun W=>Za (by have:=f.out.2.1;omega) (by have:=f.out.2.2;omega) W
   have lg:=zZ q;have L:∀ h:qe wr,h.val.cell? ⟨g,0,none⟩=some (int i64 (p.A k)):=fun h=>(h.bel.cell lg).trans (za q 0 _ rfl)
   have M:∀ h:qe wr,h.val.cell? ⟨g,1,none⟩=some (int i64 (p.B k)):=fun h=>(h.bel.cell lg).trans (za q 1 _ rfl)
   clear q d;obtain⟨T,A,j⟩:∃ T,T++Zo (p.A k) (p.B k)=pT p (k+1)/\((¬ 0<k/\T=pT p k)∨(0<k/\T=pT p k++⟨#[44]⟩)):=by
    by_cases c:0<k
    ·exact⟨pT p k++⟨#[44]⟩,(show pT p k++⟨#[44]⟩++Zo (p.A k) (p.B k)=pT p (k+1) from (pT_succ p k c).symm),.inr ⟨c,rfl⟩⟩
    ·refine⟨pT p k,?_,.inl ⟨c,rfl⟩⟩
     have e:k=0:=by omega
     subst e
     show pT p 0++_=pT p 1
     rw[pT_one];exact ByteArray.empty_append
   have E:=hI A;clear A;have sT:T.size<=6007:=by
    rcases j with⟨_,rfl⟩|⟨_,rfl⟩
    ·omega
    ·rw[ByteArray.size_append];show _+1<=_;omega
   have r3:=qk T (Zo (p.A k) (p.B k)) (by omega) (by omega)
   go_upto_if 17 with fail;go_cut [3] (fun v K=>v=.string T/\K=wr)
   case first =>
    rcases j with⟨c,j⟩|⟨c,j⟩
    ·have H:decide ((0:Int)<(k:Int))=false:=decide_eq_false (by omega)
     have u:decide (0<k)=false:=decide_eq_false (by omega)
     have l:=hI j.symm;clear j;go_wp2;go_meet;exact⟨congrArg Value.string l.out,rfl⟩
    ·have H:decide ((0:Int)<(k:Int))=true:=decide_eq_true (by omega)
     have u:decide (0<k)=true:=decide_eq_true (by omega)
     have r4:=qk (pT p k) ⟨#[44]⟩ (by omega) (by show 1<=_;omega)
     have l:=hI j.symm;clear j;go_wp2;go_meet;exact⟨congrArg Value.string l.out,rfl⟩
   case rest =>
   obtain⟨rfl,m⟩:=hcut;have m:=m.symm;subst m;clear j I;go_upto_region 9 with fail;refine zp (by kernel_rfl) (by kernel_rfl) ?_
   repeat(first|go_big_quiet_skip|(go_big_quiet_want;go_big_quiet_op;first|go_big_quiet_on|(apply Exists.intro;refine⟨fun g=>?_,?_⟩;(focus(go_at_call 47;first|(with_reducible refine zi (v:=.string (qf (p.A k))) (s.out _))|(with_reducible refine zi (v:=.string (qf (p.B k))) (t.out _))));go_big_quiet_on)))
   refine wpQuiet_nil ?_;rintro _ ⟨h,rfl⟩;clear L M;go_wp2;go_roundw
   case rel=>exact⟨k+1,by omega,by go_num,by rw[← E.out],zj a h.bel⟩
   case measure=>simp[intOf];omega
  ·obtain rfl:n=k:=by omega
   have r:Hid (pT p n=qu p):=by show pT p n=qu p;unfold qu pT;rw[o.out,if_neg h0]
   go_wp2;go_ret;exact⟨congrArg (fun z=>Ending.returned (Value.string z)) r.out,a⟩
end Go.Proofs.YtfallpinmhbemaaGreatDoor
