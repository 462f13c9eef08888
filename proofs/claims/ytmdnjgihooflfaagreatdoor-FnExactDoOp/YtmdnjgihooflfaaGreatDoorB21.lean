/-
  OWN TEXT: DoneI, OnI, HoldI, KitMRow, PlainRows, InfoMRow, RowsI.
-/
import Derived.Deep.LoopGhost
import Derived.Deep.DeepCutAuto
import Derived.Test.YtmdnjgihooflfaaGreatDoorRows
import Derived.Deep.RegionHeld3
import Derived.Test.YtmdnjgihooflfaaGreatDoorB20
namespace Go.Proofs.YtmdnjgihooflfaaGreatDoor
open Go.RowKit
open Go.Value (int)
open Go.IntKind (i64)
set_option maxHeartbeats 64000000
set_option maxRecDepth 100000
def zaV (w:World)(base:Nat)(l l2:zY)(c a b:Option Addr)(f d e:Nat)(g:Option Addr)(j:Nat)(h:Option Addr)(k:Nat)(i:Option Addr)(m:Nat):Prop :=
 ((.slice g l2.stn j=Value.slice c l.stn f/\l2.stn=l.stn/\l2.st=l.st)∨w.ownsRow base 220 4 (.slice g l2.stn j) l2.stn (zy l2.st l2.stn))/\((.slice h l2.ron k=Value.slice a l.ron d/\l2.ron=l.ron/\l2.ro=l.ro)∨w.ownsRow base 228 4 (.slice h l2.ron k) l2.ron (zw l2.ro l2.ron))/\((.slice i l2.sen m=Value.slice b l.sen e/\l2.sen=l.sen/\l2.se=l.se)∨w.ownsRow base 234 2 (.slice i l2.sen m) l2.sen (zB l2.se l2.sen))
theorem zaV.box {w w':World}{base g:Nat}{l l2:zY}{d a c:Option Addr}{i e f:Nat}{m n p:Option Addr}{r s t:Nat}{cs:Array Value}(h:zaV w base l l2 d a c i e f m r n s p t)(k:zx w w' (fun b=>b=g))(j:w.heap[g]?=some (.cells cs 145 (0,0))):zaV w' base l l2 d a c i e f m r n s p t :=
 ⟨h.1.imp id (fun o=>k.own o (fun q h1 h2=>zQ o j (by decide) q h1 h2)),h.2.1.imp id (fun o=>k.own o (fun q h1 h2=>zQ o j (by decide) q h1 h2)),h.2.2.imp id (fun o=>k.own o (fun q h1 h2=>zQ o j (by decide) q h1 h2))⟩
theorem zaV.lower {w:World}{base a:Nat}{l l2:zY}{d b c:Option Addr}{g e f:Nat}{j k m:Option Addr}{n p q:Nat}(h:zaV w base l l2 d b c g e f j n k p m q)(i:a<=base):zaV w a l l2 d b c g e f j n k p m q :=
 ⟨h.1.imp id (fun o=>zu o i),h.2.1.imp id (fun o=>zu o i),h.2.2.imp id (fun o=>zu o i)⟩
def zgX (pe:Nat->Addr)(s:Zj)(v:Wk)(l:zY)(c a b:Option Addr)(g d f:Nat)(base:Nat)(e:Ending)(w:World):Prop :=
 (∃ (l2:zY) (h:Option Addr) (m:Nat) (i:Option Addr) (n:Nat) (j:Option Addr) (o:Nat),e=.returned (.agg #[.slice h l2.stn m,.slice i l2.ron n,.slice j l2.sen o])/\qV s v l 0 l2/\zaV w base l l2 c a b g d f h m i n j o)∨(∃ k:Nat,1<=k/\k<=8/\e=zmK pe k/\qV s v l (k:Int) l)
theorem done_goes (s:Zj)(v:Wk)(l:zY)(q o f c d:Option Addr)(t r j g i:Nat)(pe:Nat->Addr)(w:World)(N:v.goes=true)
  (h:∀ V,Below w.heap.size w V->Calls Tryz.prog 249 #[.agg #[int i64 v.leg,int i64 (v.res:Int),int i64 v.who,int i64 v.p.pe,int i64 v.p.len,int i64 v.p.hei,int i64 v.p.cl,.bool v.p.all,int i64 v.p.be,.bool v.goes],.agg #[.slice f l.stn j,.slice c l.ron g,.slice d l.sen i]] V fun e w'=>zgX pe s v l f c d j g i V.heap.size e w'/\Below V.heap.size V w') :
  Calls Tryz.prog 199 #[.agg #[int i64 v.leg,int i64 (v.res:Int),int i64 v.who,int i64 v.p.pe,int i64 v.p.len,int i64 v.p.hei,int i64 v.p.cl,.bool v.p.all,int i64 v.p.be,.bool v.goes],.agg #[int i64 s.id,.string s.fr,.string s.dst,int i64 s.dep,int i64 s.arr,.slice q s.la.n t,.slice o s.ca.n r,int i64 s.most],.agg #[.slice f l.stn j,.slice c l.ron g,.slice d l.sen i]] w fun e w'=>zgX pe s v l f c d j g i w.heap.size e w'/\Below w.heap.size w w':=by
 have H:=hI h;rw[N] at H ⊢;clear h N;obtain⟨J,L,G,I,K⟩:=zcT w (.cells #[int i64 v.leg,int i64 (v.res:Int),int i64 v.who,int i64 v.p.pe,int i64 v.p.len,int i64 v.p.hei,int i64 v.p.cl,.bool v.p.all,int i64 v.p.be,.bool true] 268) (.cells #[int i64 s.id,.string s.fr,.string s.dst,int i64 s.dep,int i64 s.arr,.slice q s.la.n t,.slice o s.ca.n r,int i64 s.most] 140) (.cells #[.slice f l.stn j,.slice c l.ron g,.slice d l.sen i] 145) (.cells #[.slice none 0 0,.slice none 0 0,.slice none 0 0] 145);have n:Below w.heap.size w ((((w.alloc (.cells #[int i64 v.leg,int i64 (v.res:Int),int i64 v.who,int i64 v.p.pe,int i64 v.p.len,int i64 v.p.hei,int i64 v.p.cl,.bool v.p.all,int i64 v.p.be,.bool true] 268)).alloc (.cells #[int i64 s.id,.string s.fr,.string s.dst,int i64 s.dep,int i64 s.arr,.slice q s.la.n t,.slice o s.ca.n r,int i64 s.most] 140)).alloc (.cells #[.slice f l.stn j,.slice c l.ron g,.slice d l.sen i] 145)).alloc (.cells #[.slice none 0 0,.slice none 0 0,.slice none 0 0] 145)):=zk (zk (zk (zk bZ _) _) _) _;go_enter Tryz.func199,Tryz.ntmps199;go_upto_region 1 with fail;generalize (((w.alloc (.cells #[int i64 v.leg,int i64 (v.res:Int),int i64 v.who,int i64 v.p.pe,int i64 v.p.len,int i64 v.p.hei,int i64 v.p.cl,.bool v.p.all,int i64 v.p.be,.bool true] 268)).alloc (.cells #[int i64 s.id,.string s.fr,.string s.dst,int i64 s.dep,int i64 s.arr,.slice q s.la.n t,.slice o s.ca.n r,int i64 s.most] 140)).alloc (.cells #[.slice f l.stn j,.slice c l.ron g,.slice d l.sen i] 145)).alloc (.cells #[.slice none 0 0,.slice none 0 0,.slice none 0 0] 145)=V at J L G I K n ⊢;obtain⟨w0,w1,w2,w3,w4,w5,w6,w7,w8,w9⟩:=ce10 J;obtain⟨W,X,l2⟩:=ce3 G;go_wp2_with fail;clear w0 w1 w2 w3 w4 w5 w6 w7 w8 w9  W X l2;refine(H.out V n).mono ?_;rintro e Y ⟨E,x⟩;have m:=zb I x;have u:=ze n x
 rcases E with⟨l2,y,B,z,C,A,D,rfl,F,M⟩|⟨k,h1,h8,rfl,F⟩
 ·have Q:=hI F
  obtain⟨Z,r1,r2⟩:=ce3 m;obtain⟨S,T,U⟩:=fe3 m;have R:Hid _:=zcq m (.slice y l2.stn B) (.slice z l2.ron C) (.slice A l2.sen D);have O:Hid (Below w.heap.size w (((Y.setCell ⟨w.heap.size+1+1+1,0,none⟩ (.slice y l2.stn B)).setCell ⟨w.heap.size+1+1+1,1,none⟩ (.slice z l2.ron C)).setCell ⟨w.heap.size+1+1+1,2,none⟩ (.slice A l2.sen D))):=((u.setCell (p:=⟨w.heap.size+1+1+1,0,none⟩) (by show _<=w.heap.size+1+1+1;omega) _).setCell (p:=⟨w.heap.size+1+1+1,1,none⟩) (by show _<=w.heap.size+1+1+1;omega) _).setCell (p:=⟨w.heap.size+1+1+1,2,none⟩) (by show _<=w.heap.size+1+1+1;omega) _
  have P:Hid (zaV (((Y.setCell ⟨w.heap.size+1+1+1,0,none⟩ (.slice y l2.stn B)).setCell ⟨w.heap.size+1+1+1,1,none⟩ (.slice z l2.ron C)).setCell ⟨w.heap.size+1+1+1,2,none⟩ (.slice A l2.sen D)) w.heap.size l l2 f c d j g i y B z C A D):=(M.lower n.size).box ((((zx.refl Y (fun b=>b=w.heap.size+1+1+1)).set (a:=⟨w.heap.size+1+1+1,0,none⟩) rfl _).set (a:=⟨w.heap.size+1+1+1,1,none⟩) rfl _).set (a:=⟨w.heap.size+1+1+1,2,none⟩) rfl _) m
  clear F M I J L G m n u x;go_wp2;clear Z r1 r2 S T U;obtain⟨z0,z1,z2⟩:=ce3 R.out;exact bodyPost_ret (v:=.agg #[.slice y l2.stn B,.slice z l2.ron C,.slice A l2.sen D]) (by simp[results,Tryz.results199,go_sem,z0,z1,z2]) rfl ⟨.inl ⟨l2,y,B,z,C,A,D,rfl,Q.out,P.out⟩,O.out⟩
 ·exact⟨rfl,.inr ⟨k,h1,h8,rfl,F⟩,u⟩
theorem znI (s:Zj)(v:Wk)(l:zY)(n m f c d:Option Addr)(r q j g i:Nat)(pe:Nat->Addr)(w:World)(N:v.goes=false)
  (h:∀ V,Below w.heap.size w V->Calls Tryz.prog 250 #[.agg #[int i64 v.leg,int i64 (v.res:Int),int i64 v.who,int i64 v.p.pe,int i64 v.p.len,int i64 v.p.hei,int i64 v.p.cl,.bool v.p.all,int i64 v.p.be,.bool v.goes],.agg #[int i64 s.id,.string s.fr,.string s.dst,int i64 s.dep,int i64 s.arr,.slice n s.la.n r,.slice m s.ca.n q,int i64 s.most],.agg #[.slice f l.stn j,.slice c l.ron g,.slice d l.sen i]] V fun e w'=>zgX pe s v l f c d j g i V.heap.size e w'/\Below V.heap.size V w') :
  Calls Tryz.prog 199 #[.agg #[int i64 v.leg,int i64 (v.res:Int),int i64 v.who,int i64 v.p.pe,int i64 v.p.len,int i64 v.p.hei,int i64 v.p.cl,.bool v.p.all,int i64 v.p.be,.bool v.goes],.agg #[int i64 s.id,.string s.fr,.string s.dst,int i64 s.dep,int i64 s.arr,.slice n s.la.n r,.slice m s.ca.n q,int i64 s.most],.agg #[.slice f l.stn j,.slice c l.ron g,.slice d l.sen i]] w fun e w'=>zgX pe s v l f c d j g i w.heap.size e w'/\Below w.heap.size w w':=by
 have H:=hI h;rw[N] at H ⊢;clear h N;obtain⟨K,J,G,I,L⟩:=zcT w (.cells #[int i64 v.leg,int i64 (v.res:Int),int i64 v.who,int i64 v.p.pe,int i64 v.p.len,int i64 v.p.hei,int i64 v.p.cl,.bool v.p.all,int i64 v.p.be,.bool false] 268) (.cells #[int i64 s.id,.string s.fr,.string s.dst,int i64 s.dep,int i64 s.arr,.slice n s.la.n r,.slice m s.ca.n q,int i64 s.most] 140) (.cells #[.slice f l.stn j,.slice c l.ron g,.slice d l.sen i] 145) (.cells #[.slice none 0 0,.slice none 0 0,.slice none 0 0] 145);have t:Below w.heap.size w ((((w.alloc (.cells #[int i64 v.leg,int i64 (v.res:Int),int i64 v.who,int i64 v.p.pe,int i64 v.p.len,int i64 v.p.hei,int i64 v.p.cl,.bool v.p.all,int i64 v.p.be,.bool false] 268)).alloc (.cells #[int i64 s.id,.string s.fr,.string s.dst,int i64 s.dep,int i64 s.arr,.slice n s.la.n r,.slice m s.ca.n q,int i64 s.most] 140)).alloc (.cells #[.slice f l.stn j,.slice c l.ron g,.slice d l.sen i] 145)).alloc (.cells #[.slice none 0 0,.slice none 0 0,.slice none 0 0] 145)):=zk (zk (zk (zk bZ _) _) _) _;go_enter Tryz.func199,Tryz.ntmps199;go_upto_region 1 with fail;generalize (((w.alloc (.cells #[int i64 v.leg,int i64 (v.res:Int),int i64 v.who,int i64 v.p.pe,int i64 v.p.len,int i64 v.p.hei,int i64 v.p.cl,.bool v.p.all,int i64 v.p.be,.bool false] 268)).alloc (.cells #[int i64 s.id,.string s.fr,.string s.dst,int i64 s.dep,int i64 s.arr,.slice n s.la.n r,.slice m s.ca.n q,int i64 s.most] 140)).alloc (.cells #[.slice f l.stn j,.slice c l.ron g,.slice d l.sen i] 145)).alloc (.cells #[.slice none 0 0,.slice none 0 0,.slice none 0 0] 145)=V at K J G I L t ⊢;obtain⟨w0,w1,w2,w3,w4,w5,w6,w7,w8,w9⟩:=ce10 K;obtain⟨s0,s1,s2,s3,s4,s5,s6,s7⟩:=ce8 J;obtain⟨W,X,l2⟩:=ce3 G;go_wp2_with fail;clear w0 w1 w2 w3 w4 w5 w6 w7 w8 w9 s0 s1 s2 s3 s4 s5 s6 s7 W X l2;refine(H.out V t).mono ?_;rintro e Y ⟨E,x⟩;have o:=zb I x;have u:=ze t x
 rcases E with⟨l2,y,B,z,C,A,D,rfl,F,M⟩|⟨k,h1,h8,rfl,F⟩
 ·have Q:=hI F
  obtain⟨Z,r1,r2⟩:=ce3 o;obtain⟨S,T,U⟩:=fe3 o;have R:Hid _:=zcq o (.slice y l2.stn B) (.slice z l2.ron C) (.slice A l2.sen D);have O:Hid (Below w.heap.size w (((Y.setCell ⟨w.heap.size+1+1+1,0,none⟩ (.slice y l2.stn B)).setCell ⟨w.heap.size+1+1+1,1,none⟩ (.slice z l2.ron C)).setCell ⟨w.heap.size+1+1+1,2,none⟩ (.slice A l2.sen D))):=((u.setCell (p:=⟨w.heap.size+1+1+1,0,none⟩) (by show _<=w.heap.size+1+1+1;omega) _).setCell (p:=⟨w.heap.size+1+1+1,1,none⟩) (by show _<=w.heap.size+1+1+1;omega) _).setCell (p:=⟨w.heap.size+1+1+1,2,none⟩) (by show _<=w.heap.size+1+1+1;omega) _
  have P:Hid (zaV (((Y.setCell ⟨w.heap.size+1+1+1,0,none⟩ (.slice y l2.stn B)).setCell ⟨w.heap.size+1+1+1,1,none⟩ (.slice z l2.ron C)).setCell ⟨w.heap.size+1+1+1,2,none⟩ (.slice A l2.sen D)) w.heap.size l l2 f c d j g i y B z C A D):=(M.lower t.size).box ((((zx.refl Y (fun b=>b=w.heap.size+1+1+1)).set (a:=⟨w.heap.size+1+1+1,0,none⟩) rfl _).set (a:=⟨w.heap.size+1+1+1,1,none⟩) rfl _).set (a:=⟨w.heap.size+1+1+1,2,none⟩) rfl _) o
  clear F M I K J G o t u x;go_wp2;clear Z r1 r2 S T U;obtain⟨z0,z1,z2⟩:=ce3 R.out;exact bodyPost_ret (v:=.agg #[.slice y l2.stn B,.slice z l2.ron C,.slice A l2.sen D]) (by simp[results,Tryz.results199,go_sem,z0,z1,z2]) rfl ⟨.inl ⟨l2,y,B,z,C,A,D,rfl,Q.out,P.out⟩,O.out⟩
 ·exact⟨rfl,.inr ⟨k,h1,h8,rfl,F⟩,u⟩
theorem done_any (s:Zj)(v:Wk)(l:zY)(p o d a b:Option Addr)(u t i f g:Nat)(pe:Nat->Addr)(w:World)(O:qY w pe)(D:qm s l)(hr:v.res<3)(T:v.goes=false->In v.who 1 9999/\qI v.p/\zaI v.p.len v.p.cl v.res=true)(n:if v.goes=true then zfn l v.res v.who else ¬ zfn l v.res v.who)
  (L:s.la.n<=1048576/\s.ca.n<=1048576) (P:zG w p s.la) (N:zG w o s.ca) (U:zY.Is w [.slice d l.stn i,.slice a l.ron f,.slice b l.sen g] l) :
  Calls Tryz.prog 199 #[.agg #[int i64 v.leg,int i64 (v.res:Int),int i64 v.who,int i64 v.p.pe,int i64 v.p.len,int i64 v.p.hei,int i64 v.p.cl,.bool v.p.all,int i64 v.p.be,.bool v.goes],.agg #[int i64 s.id,.string s.fr,.string s.dst,int i64 s.dep,int i64 s.arr,.slice p s.la.n u,.slice o s.ca.n t,int i64 s.most],.agg #[.slice d l.stn i,.slice a l.ron f,.slice b l.sen g]] w fun e w'=>zgX pe s v l d a b i f g w.heap.size e w'/\Below w.heap.size w w':=by
 have l1:l.stn<=60:=D.1.2.1;have l2:l.ron<=60:=D.2.1.2.1;have l3:l.sen<=60:=D.2.2.2.1;obtain⟨_,_,_,_,_,_,F,M,S,J,Q,K,R⟩:=U;simp only[List.cons.injEq,Value.slice.injEq,true_and,and_true] at F;obtain⟨⟨rfl,rfl⟩,⟨rfl,rfl⟩,rfl,rfl⟩:=F;have I:v.res=0∨v.res=1∨v.res=2:=by omega
 cases hg:v.goes with
 | true =>
  rw[hg,if_pos rfl] at n;rw[← hg];refine done_goes s v l p o d a b u t i f g pe w hg fun V y=>?_
  unfold zfn at n
  rcases I with m|m|m
  ·rw[if_pos m] at n
   obtain⟨r,h1,h2,h3⟩:=zcs D.stays_one n;refine(freed_0 v l d a b i f g r V m (by omega) h1 h2 (fun j H e=>Decidable.byContradiction fun c=>h3 j H c e) (M.below y)).mono ?_
   rintro e w' ⟨⟨B,C,rfl,A⟩,k⟩;exact⟨.inl ⟨l.noStay r,B,C,a,f,b,g,rfl,.noStay r m hg h1 h2,.inr A,.inl ⟨rfl,rfl,rfl⟩,.inl ⟨rfl,rfl,rfl⟩⟩,k⟩
  ·rw[if_neg (by omega),if_pos m] at n
   obtain⟨r,h1,h2,h3⟩:=zcs D.rooms_one n;refine(freed_1 v l d a b i f g r V m (by omega) h1 h2 (fun j H e=>Decidable.byContradiction fun c=>h3 j H c e) (J.below y)).mono ?_
   rintro e w' ⟨⟨B,C,rfl,A⟩,k⟩;exact⟨.inl ⟨l.noRoom r,d,i,B,C,b,g,rfl,.noRoom r m hg h1 h2,.inl ⟨rfl,rfl,rfl⟩,.inr A,.inl ⟨rfl,rfl,rfl⟩⟩,k⟩
  ·rw[if_neg (by omega),if_neg (by omega)] at n
   obtain⟨r,h1,h2,h3⟩:=zcs D.seats_one n;refine(freed_2 v l d a b i f g r V m (by omega) h1 h2 (fun j H e=>Decidable.byContradiction fun c=>h3 j H c e) (K.below y)).mono ?_
   rintro e w' ⟨⟨B,C,rfl,A⟩,k⟩;exact⟨.inl ⟨l.noSeat r,d,i,a,f,B,C,rfl,.noSeat r m hg h1 h2,.inl ⟨rfl,rfl,rfl⟩,.inl ⟨rfl,rfl,rfl⟩,.inr A⟩,k⟩
 | false =>
  rw[hg,if_neg (by decide)] at n
  obtain⟨c1,c2,c3⟩:=T hg;rw[← hg];refine znI s v l p o d a b u t i f g pe w hg fun V y=>?_
  unfold zfn at n;unfold zaI at c3
  rcases I with m|m|m
  ·rw[if_pos m] at n
   rw[if_neg (by omega),if_pos m,decide_eq_true_eq] at c3
   have G:zbA v.p.len v.p.hei:=c2.2.1.resolve_left (fun h=>by omega)
   refine(placed_0 s v l p o d a b u t i f g pe V (O.below y) D m hg c1 c2 G n L.1 (P.below y) (M.below y) S).mono ?_;rintro e w' ⟨⟨x,B,C,rfl,z,A⟩|⟨rfl,z⟩,k⟩
   ·exact⟨.inl ⟨l.addStay x,B,C,a,f,b,g,rfl,z,.inr A,.inl ⟨rfl,rfl,rfl⟩,.inl ⟨rfl,rfl,rfl⟩⟩,k⟩
   ·exact⟨.inr ⟨5,by decide,by decide,rfl,z⟩,k⟩
  ·rw[if_neg (by omega),if_pos m] at n
   rw[if_neg (by omega),if_neg (by omega),decide_eq_true_eq] at c3
   have E:zfN v.p.cl v.p.all v.p.be:=c2.2.2.resolve_left (fun h=>by omega)
   refine(placed_1 s v l p o d a b u t i f g pe V (O.below y) D m hg c1 c2 ⟨E.1,fun h=>E.2.elim (fun q=>by rw[q.1] at h;cases h) (fun q=>q.2)⟩ n L.2 (N.below y) (J.below y) Q).mono ?_
   rintro e w' ⟨⟨x,B,C,rfl,z,A⟩|⟨rfl,z⟩,k⟩
   ·exact⟨.inl ⟨l.addRoom x,d,i,B,C,b,g,rfl,z,.inl ⟨rfl,rfl,rfl⟩,.inr A,.inl ⟨rfl,rfl,rfl⟩⟩,k⟩
   ·exact⟨.inr ⟨6,by decide,by decide,rfl,z⟩,k⟩
  ·rw[if_neg (by omega),if_neg (by omega)] at n
   refine(placed_2 s v l p o d a b u t i f g pe V (O.below y) D m hg c1 c2 n (K.below y) R).mono ?_;rintro e w' ⟨⟨x,B,C,rfl,z,A⟩|⟨rfl,z⟩,k⟩
   ·exact⟨.inl ⟨l.addSeat x,d,i,a,f,B,C,rfl,z,.inl ⟨rfl,rfl,rfl⟩,.inl ⟨rfl,rfl,rfl⟩,.inr A⟩,k⟩
   ·exact⟨.inr ⟨7,by decide,by decide,rfl,z⟩,k⟩
def OnB (b:ql)(z:Int):Prop:=zez b/\HasLeg b z
theorem on1_any (b:ql)(a:Option Addr)(c:Nat)(z:Int)(p:Nat)(w:World)(A:b.lgn<=1048576)(v:zT w a b.lgn b.lg)(n:w.cell? ⟨p,0,none⟩=some (int i64 z)) :
  Calls Tryz.prog 188 #[.agg #[int i64 b.name,int i64 b.who,.string b.own,.slice a b.lgn c,int i64 b.pe,int i64 b.len,int i64 b.hei,int i64 b.cl,.bool b.all,int i64 b.be,int i64 b.state,int i64 b.unt,int i64 b.price],.pointer (some ⟨p,0,none⟩)] w fun e w'=>qX (OnB b z) e/\Below w.heap.size w w':=by
 have m:p<w.heap.size:=World.block_lt_of_cell? w _ n;have j:=hI v;clear v;have f:Below w.heap.size w (w.alloc (.cells #[int i64 b.name,int i64 b.who,.string b.own,.slice a b.lgn c,int i64 b.pe,int i64 b.len,int i64 b.hei,int i64 b.cl,.bool b.all,int i64 b.be,int i64 b.state,int i64 b.unt,int i64 b.price] 150)):=zk bZ _;have l:=heap_alloc_new w (.cells #[int i64 b.name,int i64 b.who,.string b.own,.slice a b.lgn c,int i64 b.pe,int i64 b.len,int i64 b.hei,int i64 b.cl,.bool b.all,int i64 b.be,int i64 b.state,int i64 b.unt,int i64 b.price] 150);go_enter Tryz.func188,Tryz.ntmps188;go_wp2_with fail;generalize w.alloc (.cells #[int i64 b.name,int i64 b.who,.string b.own,.slice a b.lgn c,int i64 b.pe,int i64 b.len,int i64 b.hei,int i64 b.cl,.bool b.all,int i64 b.be,int i64 b.state,int i64 b.unt,int i64 b.price] 150)=W at f l ⊢;refine(zhZ b a c _).mono ?_;rintro e w1 ⟨⟨t,rfl,r⟩,g⟩;have k:=hI r;have y:=zb l g;have d:=ze f g;have p1:=(d.cell m).trans n;clear r l f g n
 cases t with
 | false =>
  have i:Hid (¬ OnB b z):=fun h=>by have:=k.out.2 h.1;cases this
  go_wp2;go_ret;exact⟨zl i.out,d⟩
 | true =>
  have x:Hid (zez b):=k.out.1 rfl;have y3:=za y 3 _ rfl;clear k;go_wp2_with fail;refine(zny a b.lgn c b.lg z _ A (j.out.below d)).mono ?_;rintro e w2 ⟨⟨u,rfl,s⟩,o⟩;have o:=o.symm;subst o;have q:=hI s;clear s
  cases u with
  | false =>
   have i:Hid (¬ OnB b z):=fun h=>by have:=q.out.2 h.2;cases this
   go_wp2;go_ret;exact⟨zl i.out,d⟩
  | true =>
   have i:Hid (OnB b z):=⟨x.out,q.out.1 rfl⟩;go_wp2;go_ret;exact⟨zR i.out,d⟩
noncomputable def zgY (C:Nat->List Value)(P:Nat->Prop)(n:Nat):List Value:=(List.range ((onL P n).length*13)).map (zZ 13 (fun j=>C (onI P n j)))
theorem zmc (sz:Nat)(C:Nat->List Value)(m:Nat)(v:List Value)(hv:v.length=sz)(a:C m=v):(List.range ((m+1)*sz)).map (zZ sz C)=(List.range (m*sz)).map (zZ sz C)++v:=by
 apply List.ext_getElem?
 intro i;rw[List.getElem?_append,List.length_map,List.length_range]
 by_cases h1:i<m*sz
 ·rw[if_pos h1,List.getElem?_map,List.getElem?_map,List.getElem?_range h1,List.getElem?_range (by rw[Nat.add_mul];omega)]
 ·rw[if_neg h1]
  by_cases h2:i<(m+1)*sz
  ·have h3:i - m*sz<sz:=by rw[Nat.add_mul] at h2;omega
   rw[List.getElem?_map,List.getElem?_range h2,Option.map_some];rw[show i=m*sz+(i - m*sz) by omega,zC sz C m _ h3,a,show m*sz+(i - m*sz) - m*sz=i - m*sz by omega,List.getD_eq_getElem?_getD,List.getElem?_eq_getElem (by omega)]
   rfl
  ·rw[List.getElem?_eq_none (by simp;omega),List.getElem?_eq_none (by rw[Nat.add_mul] at h2;omega)]
theorem onRow_yes {C:Nat->List Value}{P:Nat->Prop}{n:Nat}(h:P n)(c:(C n).length=13):zgY C P (n+1)=zgY C P n++C n:=by
 unfold zgY;rw[show(onL P (n+1)).length=(onL P n).length+1 by rw[zbZ h];simp]
 rw[zmc 13 _ _ (C n) c (by rw[zdV P h])]
 congr 1
 refine List.map_congr_left fun j a=>?_
 have b:j<(onL P n).length*13:=by simpa using a
 unfold zZ;dsimp only;rw[zcQ P (show j / 13<(onL P n).length by omega)]
theorem onRow_no {C:Nat->List Value}{P:Nat->Prop}{n:Nat}(h:¬ P n):zgY C P (n+1)=zgY C P n:=by
 unfold zgY;rw[zfJ h];refine List.map_congr_left fun j a=>?_
 have b:j<(onL P n).length*13:=by simpa using a
 unfold zZ;dsimp only;rw[zcQ P (show j / 13<(onL P n).length by omega)]
theorem onL_le (P:Nat->Prop)(n:Nat):(onL P n).length<=n:=by rw[ziU];exact zhT P n
theorem QT.of_own {w:World}{base t sz n c:Nat}{b:Option Addr}{C:Nat->List Value}(h:w.ownsRow base t sz (.slice b n c) n ((List.range (n*sz)).map (zZ sz C))):QT w b n sz C:=by
 intro k e;obtain⟨g,rfl,_,_⟩:=qh h (by omega)
 refine⟨g,0,rfl,fun j d=>?_⟩
 have a:k*sz+j<n*sz:=by
  have h1:(k+1)*sz<=n*sz:=Nat.mul_le_mul_right sz e;rw[Nat.add_mul] at h1
  omega
 rw[Nat.zero_add,zs h _ a rfl,zC sz C k j d]
def OnAns (w':World)(base:Nat)(n:Nat)(S:Nat->ql)(C:Nat->List Value)(z:Int)(e:Ending):Prop :=
 ∃ ao c,e=.returned (.slice ao (onL (fun i=>OnB (S i) z) n).length c)/\(onL (fun i=>OnB (S i) z) n).length<=c/\w'.ownsRow base 150 13 (.slice ao (onL (fun i=>OnB (S i) z) n).length c) (onL (fun i=>OnB (S i) z) n).length (zgY C (fun i=>OnB (S i) z) n)
theorem ziY (ao:Option Addr)(n c:Nat)(S:Nat->ql)(C:Nat->List Value)(z:Int)(pa:Nat)(w:World)(hn:n<=1048576)(hs:Z2 n S 1048576)(hC:QT w ao n 13 C)(hI:∀ k,k<n->ql.Is w (C k) (S k))(hp:w.cell? ⟨pa,0,none⟩=some (int i64 z)) :
  Calls Tryz.prog 187 #[.slice ao n c,.func (.func 188) #[] #[.pointer (some ⟨pa,0,none⟩)]] w fun e w'=>OnAns w' w.heap.size n S C z e/\Below w.heap.size w w':=by
 obtain⟨j0,ji,a5,a6,a7⟩:=info_parts Tryz.infoBooking;have a2:=World.block_lt_of_cell? w _ hp;have HC:=hI hC;have HI:=hI hI;have HS:=hI hs;have HP:=hI hp;clear hC hI hs hp;obtain⟨P,hP⟩:∃ P:Nat->Prop,P=fun i=>OnB (S i) z:=⟨_,rfl⟩
 have U:Hid (∀ i,P i↔OnB (S i) z):=fun i=>by rw[hP]
 unfold OnAns;rw[← hP];clear hP;go_enter Tryz.func187,Tryz.ntmps187;go_wp2;go_loopw [5,7,10] (fun v _ i wr=>∃ k:Nat,k<=n/\i=int i64 k/\wr.ownsRow w.heap.size 150 13 v (onL P k).length (zgY C P k)/\Below w.heap.size w wr) (fun _ _ i _=>n - (intOf i).toNat)
 case atStart=>exact⟨0,Nat.zero_le _,rfl,World.ownsRow_nil _ _ _ _,bZ⟩
 case round =>
  obtain⟨k,hk,rfl,ho,a⟩:=hrel;have J:=hI ho;clear ho
  by_cases hlt2:k<n
  ·obtain⟨bb,bo,rfl,m⟩:=HC.out k hlt2
   have s:=(HI.out k hlt2).length;obtain⟨f,g,l,H,_⟩:=HI.out k hlt2;obtain⟨b,O⟩:∃ b,b=S k:=⟨_,rfl⟩;rw[← O] at l H;have HB:=hI O;have Q:=hI H;have I:=hI s;have a4:b.lgn<=1048576:=by rw[O];exact(HS.out k hlt2).2
   have d:bb<w.heap.size:=World.block_lt_of_cell? w _ (m 0 (by decide))
   have c0:wr.cell? ⟨bb,bo+k*13,none⟩=some (int i64 b.name):=(a.cell (p:=⟨bb,bo+k*13,none⟩) d).trans (by have:=m 0 (by decide);rw[l] at this;exact this)
   have c1:wr.cell? ⟨bb,bo+k*13+1,none⟩=some (int i64 b.who):=(a.cell (p:=⟨bb,bo+k*13+1,none⟩) d).trans (by have:=m 1 (by decide);rw[l] at this;exact this)
   have c2:wr.cell? ⟨bb,bo+k*13+2,none⟩=some (.string b.own):=(a.cell (p:=⟨bb,bo+k*13+2,none⟩) d).trans (by have:=m 2 (by decide);rw[l] at this;exact this)
   have c3:wr.cell? ⟨bb,bo+k*13+3,none⟩=some (.slice f b.lgn g):=(a.cell (p:=⟨bb,bo+k*13+3,none⟩) d).trans (by have:=m 3 (by decide);rw[l] at this;exact this)
   have c4:wr.cell? ⟨bb,bo+k*13+4,none⟩=some (int i64 b.pe):=(a.cell (p:=⟨bb,bo+k*13+4,none⟩) d).trans (by have:=m 4 (by decide);rw[l] at this;exact this)
   have c5:wr.cell? ⟨bb,bo+k*13+5,none⟩=some (int i64 b.len):=(a.cell (p:=⟨bb,bo+k*13+5,none⟩) d).trans (by have:=m 5 (by decide);rw[l] at this;exact this)
   have c6:wr.cell? ⟨bb,bo+k*13+6,none⟩=some (int i64 b.hei):=(a.cell (p:=⟨bb,bo+k*13+6,none⟩) d).trans (by have:=m 6 (by decide);rw[l] at this;exact this)
   have c7:wr.cell? ⟨bb,bo+k*13+7,none⟩=some (int i64 b.cl):=(a.cell (p:=⟨bb,bo+k*13+7,none⟩) d).trans (by have:=m 7 (by decide);rw[l] at this;exact this)
   have c8:wr.cell? ⟨bb,bo+k*13+8,none⟩=some (.bool b.all):=(a.cell (p:=⟨bb,bo+k*13+8,none⟩) d).trans (by have:=m 8 (by decide);rw[l] at this;exact this)
   have c9:wr.cell? ⟨bb,bo+k*13+9,none⟩=some (int i64 b.be):=(a.cell (p:=⟨bb,bo+k*13+9,none⟩) d).trans (by have:=m 9 (by decide);rw[l] at this;exact this)
   have X:wr.cell? ⟨bb,bo+k*13+10,none⟩=some (int i64 b.state):=(a.cell (p:=⟨bb,bo+k*13+10,none⟩) d).trans (by have:=m 10 (by decide);rw[l] at this;exact this)
   have Y:wr.cell? ⟨bb,bo+k*13+11,none⟩=some (int i64 b.unt):=(a.cell (p:=⟨bb,bo+k*13+11,none⟩) d).trans (by have:=m 11 (by decide);rw[l] at this;exact this)
   have Z:wr.cell? ⟨bb,bo+k*13+12,none⟩=some (int i64 b.price):=(a.cell (p:=⟨bb,bo+k*13+12,none⟩) d).trans (by have:=m 12 (by decide);rw[l] at this;exact this)
   have HE:=hI l;clear m l O H s;have A:=zk a (.cells #[int i64 b.name,int i64 b.who,.string b.own,.slice f b.lgn g,int i64 b.pe,int i64 b.len,int i64 b.hei,int i64 b.cl,.bool b.all,int i64 b.be,int i64 b.state,int i64 b.unt,int i64 b.price] 150);have o:=heap_alloc_new wr (.cells #[int i64 b.name,int i64 b.who,.string b.own,.slice f b.lgn g,int i64 b.pe,int i64 b.len,int i64 b.hei,int i64 b.cl,.bool b.all,int i64 b.be,int i64 b.state,int i64 b.unt,int i64 b.price] 150);have E:Hid ((wr.alloc (.cells #[int i64 b.name,int i64 b.who,.string b.own,.slice f b.lgn g,int i64 b.pe,int i64 b.len,int i64 b.hei,int i64 b.cl,.bool b.all,int i64 b.be,int i64 b.state,int i64 b.unt,int i64 b.price] 150)).ownsRow w.heap.size 150 13 u5 (onL P k).length (zgY C P k)):=zo (zk (Below.refl _ wr) _) J.out;clear J;go_wp2_with fail;generalize hBx:wr.heap.size=Bx at o ⊢;generalize wr.alloc (.cells #[int i64 b.name,int i64 b.who,.string b.own,.slice f b.lgn g,int i64 b.pe,int i64 b.len,int i64 b.hei,int i64 b.cl,.bool b.all,int i64 b.be,int i64 b.state,int i64 b.unt,int i64 b.price] 150)=W at A o E ⊢;clear hBx c0 c1 c2 c3 c4 c5 c6 c7 c8 c9 X Y Z a;refine(on1_any b f g z pa _ a4 (Q.out.below A) ((A.cell a2).trans HP.out)).mono ?_;rintro e M ⟨⟨t,rfl,ht⟩,B⟩;have G:=zb o B;have x:=ze A B;have N:Hid (t=true↔P k):=by show t=true↔P k;rw[U.out k,← HB.out];exact ht
   have q:=hI (zo B E.out);clear ht A o B E
   cases t with
   | true =>
    have r:Hid (P k):=N.out.1 rfl;clear N;obtain⟨y0,y1,y2,y3,y4,y5,y6,y7,y8,y9,a9,b0,b1⟩:=zeX G;have K:=heap_alloc_new M (.cells #[int i64 b.name,int i64 b.who,.string b.own,.slice f b.lgn g,int i64 b.pe,int i64 b.len,int i64 b.hei,int i64 b.cl,.bool b.all,int i64 b.be,int i64 b.state,int i64 b.unt,int i64 b.price] 150);have R:Hid (∀ j u,(C k)[j]?=some u->(M.alloc (.cells #[int i64 b.name,int i64 b.who,.string b.own,.slice f b.lgn g,int i64 b.pe,int i64 b.len,int i64 b.hei,int i64 b.cl,.bool b.all,int i64 b.be,int i64 b.state,int i64 b.unt,int i64 b.price] 150)).cell? ((⟨M.heap.size,0,none⟩:Addr).add j)=some u):=by
     rw[HE.out];exact World.news_of_block K
    have F:=zk (Below.refl _ M) (.cells #[int i64 b.name,int i64 b.who,.string b.own,.slice f b.lgn g,int i64 b.pe,int i64 b.len,int i64 b.hei,int i64 b.cl,.bool b.all,int i64 b.be,int i64 b.state,int i64 b.unt,int i64 b.price] 150);have T:Hid _:=zo F q.out;have y:=ze x F;have L:=y.size;have a8:=onL_le P k;have H1:Hid (∀ u ∈ C k,u.oneCell'=true):=by rw[HE.out];intro u hu;simp at hu;rcases hu with rfl|rfl|rfl|rfl|rfl|rfl|rfl|rfl|rfl|rfl|rfl|rfl|rfl <;> rfl
    clear K F;go_wp2_with (first|(at_builtin;refine zv _ (by rfl) (.tmp 17) (.tmp 19) 36 (by rfl) w.heap.size 150 j0 (.agg #[int i64 0,int i64 0,.string ⟨#[]⟩,.slice none 0 0,int i64 0,int i64 0,int i64 0,int i64 0,.bool false,int i64 0,int i64 0,int i64 0,int i64 0]) 13 128 Tryz.underlying36 ji a5 a6 a7 rfl (by decide) _ (onL P k).length _ (by rfl) T.out (some ⟨M.heap.size,0,none⟩) 1 1 (C k) (by rfl) (fun h=>(by cases h)) (by rw[I.out]) (fun ad e=>by cases e;exact R.out) H1.out (by unfold maxLen;omega) (by omega) L ?_;intro v' w4 a3 a1))
    go_roundw
    case rel =>
     refine⟨k+1,by omega,by go_num,?_,y.grown a1 L (fun j hj=>(q.out.lt j hj).1)⟩
     rw[onRow_yes r.out I.out,show(onL P (k+1)).length=(onL P k).length+1 by rw[zbZ r.out];simp]
     exact a3
    case measure=>simp[intOf];omega
   | false =>
    have r:Hid (¬ P k):=fun h=>by have:=N.out.2 h;cases this
    clear N;go_wp2;go_roundw
    case rel =>
     refine⟨k+1,by omega,by go_num,?_,x⟩
     rw[onRow_no r.out,show(onL P (k+1)).length=(onL P k).length by rw[zfJ r.out]]
     exact q.out
    case measure=>simp[intOf];omega
  ·obtain rfl:k=n:=by omega
   obtain⟨V,c',e',a0,_⟩:=zp J.out;have D:=J.out;rw[e'] at D;have q:Hid _:=D;subst e';clear J D;go_wp2;go_ret;exact⟨⟨V,c',rfl,a0,q.out⟩,a⟩
theorem zeg (d:Option Addr)(n c:Nat)(S:Nat->ql)(C:Nat->List Value)(z:Int)(w:World)(u:n<=1048576)(m:Z2 n S 1048576)(l:QT w d n 13 C)(hI:∀ k,k<n->ql.Is w (C k) (S k)) :
  Calls Tryz.prog 101 #[.slice d n c,int i64 z] w fun e w'=>OnAns w' w.heap.size n S C z e/\Below w.heap.size w w':=by
 have a:Below w.heap.size w (w.alloc (.cells #[int i64 z] 3)):=zk bZ _;have o:=hI (l.below a);have p:Hid (∀ k,k<n->ql.Is (w.alloc (.cells #[int i64 z] 3)) (C k) (S k)):=fun k s=>(hI k s).below a
 have q:Hid ((w.alloc (.cells #[int i64 z] 3)).cell? ⟨w.heap.size,0,none⟩=some (int i64 z)):=za (heap_alloc_new w _) 0 _ rfl;have t:∀ (j:Fn) (first b:Array Value) (w:World),(Instr.makeFunc j first b).run Tryz.prog w=.ok (.func j first b) w:=fun _ _ _ _=>rfl
 have r:=hI m;clear l hI m;go_enter Tryz.func101,Tryz.ntmps101;go_wp2_with (first|(go_at_call 187;refine(ziY d n c S C z _ _ u r.out o.out p.out q.out).mono ?_;rintro e w2 ⟨⟨f,c2,rfl,h,i⟩,g⟩))
 go_ret;exact⟨⟨f,c2,rfl,h,zu i a.size⟩,ze a g⟩
theorem zcz {G:Nat->Int}{x:Int}{n:Nat}(h:zaj G x n<n):Zv G x n=(zaj G x n:Int):=by unfold Zv;rw[if_pos h]
theorem zcA {G:Nat->Int}{x:Int}{n:Nat}(h:¬ zaj G x n<n):Zv G x n=-1:=zbM (fun c=>h ((zdo G n x).1 c))
theorem zbP (b:ql)(k:Option Addr)(m:Nat)(l:zY)(n:Option Addr)(t:Nat)(w:World)(Q:l.stn<=1048576)(K:qw w n l.stn l.st) :
  Calls Tryz.prog 184 #[.slice n l.stn t,.agg #[int i64 b.name,int i64 b.who,.string b.own,.slice k b.lgn m,int i64 b.pe,int i64 b.len,int i64 b.hei,int i64 b.cl,.bool b.all,int i64 b.be,int i64 b.state,int i64 b.unt,int i64 b.price]] w fun e w'=>qX (zfQ l b) e/\Below w.heap.size w w':=by
 have G:=hI K;clear K;obtain⟨c2,v⟩:∃ c,c=decide (¬ (b.len=0/\b.hei=0)):=⟨_,rfl⟩;have y:=hI v;clear v;have q:Below w.heap.size w (w.alloc (.cells #[int i64 b.name,int i64 b.who,.string b.own,.slice k b.lgn m,int i64 b.pe,int i64 b.len,int i64 b.hei,int i64 b.cl,.bool b.all,int i64 b.be,int i64 b.state,int i64 b.unt,int i64 b.price] 150)):=zk bZ _;have f:=heap_alloc_new w (.cells #[int i64 b.name,int i64 b.who,.string b.own,.slice k b.lgn m,int i64 b.pe,int i64 b.len,int i64 b.hei,int i64 b.cl,.bool b.all,int i64 b.be,int i64 b.state,int i64 b.unt,int i64 b.price] 150);go_enter Tryz.func184,Tryz.ntmps184;go_wp2_with fail;generalize hBx:w.heap.size=B at f ⊢;generalize w.alloc (.cells #[int i64 b.name,int i64 b.who,.string b.own,.slice k b.lgn m,int i64 b.pe,int i64 b.len,int i64 b.hei,int i64 b.cl,.bool b.all,int i64 b.be,int i64 b.state,int i64 b.unt,int i64 b.price] 150)=V at q f ⊢;have S:=za f 4 _ rfl;have T:=za f 5 _ rfl;have U:=za f 6 _ rfl;have X:=za f 7 _ rfl;have Y:=za f 8 _ rfl;have Z:=za f 9 _ rfl;refine(zcE b.pe b.len b.hei b.cl b.all b.be _).mono ?_;rw[← y.out];rintro e V1 ⟨rfl,a⟩;have o:=zb f a;have s:=ze q a;clear S T U X Y Z f q a
 cases c2 with
 | false =>
  have j:Hid (zfQ l b):=.inl (by have:=y.out;simp at this;exact⟨this.1,this.2⟩)
  go_wp2;go_ret;exact⟨zR j.out,s⟩
 | true =>
  have C:Hid (¬ zcR b):=by have:=of_decide_eq_true y.out.symm;exact fun h=>this h
  clear y;have R:=za o 1 _ rfl;go_upto_region 4 with(first|(go_at_call 243;refine(zbz n l.stn t l.st b.who _ Q (G.out.below s)).mono ?_;rintro e W ⟨rfl,a⟩;have E:=zb o a;have d:=ze s a))
  have u:B<W.heap.size:=zM E;clear R o a hBx
  by_cases hf:zaj (Qc l.st) b.who l.stn<l.stn
  case neg =>
   have M:decide (0<=Zv (Qc l.st) b.who l.stn)=false:=by rw[zcA hf];rfl
   have j:Hid (¬ zfQ l b):=fun h=>by rcases h with h|h;exact C.out h;exact hf h.1
   clear hf;generalize Zv (Qc l.st) b.who l.stn=r at M ⊢;refine zh (by kernel_rfl) (by kernel_rfl) ?_
   repeat(first|go_big_quiet_skip|(go_big_quiet_want;go_big_quiet_op;go_big_quiet_on))
   refine wpQuiet_nil ?_;rintro _ ⟨g,rfl⟩;go_wp2;go_ret;exact⟨zl j.out,ze d g.bel⟩
  rw[zcz hf];obtain⟨i,F⟩:∃ i,i=zaj (Qc l.st) b.who l.stn:=⟨_,rfl⟩;rw[← F] at hf ⊢;have D:=hI F;clear F;obtain⟨z,A,rfl,H,P,I,J⟩:=G.out i hf;have x:=World.block_lt_of_cell? w _ H;have q2:∀ g:zn W,g.val.cell? ⟨z,A+i*4+2,none⟩=some (int i64 (l.st i).len):=fun g=>((ze d g.bel).cell (p:=⟨z,A+i*4+2,none⟩) x).trans I
  have q3:∀ g:zn W,g.val.cell? ⟨z,A+i*4+3,none⟩=some (int i64 (l.st i).hei):=fun g=>((ze d g.bel).cell (p:=⟨z,A+i*4+3,none⟩) x).trans J
  have z5:∀ g:zn W,g.val.cell? ⟨B,5,none⟩=some (int i64 b.len):=fun g=>(g.bel.cell u).trans (za E 5 _ rfl)
  have z6:∀ g:zn W,g.val.cell? ⟨B,6,none⟩=some (int i64 b.hei):=fun g=>(g.bel.cell u).trans (za E 6 _ rfl)
  have i0:decide (0<=(i:Int))=true:=by simp
  have i1:(0:Int)<=(i:Int):=by omega
  have i2:(i:Int)<(l.stn:Int):=by omega
  have L:=hI hf;clear H P I J hf
  by_cases c1:(l.st i).len=b.len
  case neg =>
   have N:((l.st i).len == b.len)=false:=by simpa using c1
   have j:Hid (¬ zfQ l b):=fun h=>by rcases h with h|h;exact C.out h;exact c1 (by rw[D.out];exact h.2.1)
   clear c1;refine zh (by kernel_rfl) (by kernel_rfl) ?_
   repeat(first|go_big_quiet_skip|(go_big_quiet_want;go_big_quiet_op;go_big_quiet_on))
   refine wpQuiet_nil ?_;rintro _ ⟨g,rfl⟩;go_wp2;go_ret;exact⟨zl j.out,ze d g.bel⟩
  have N:((l.st i).len == b.len)=true:=by simpa using c1
  by_cases c2:(l.st i).hei=b.hei
  case neg =>
   have O:((l.st i).hei == b.hei)=false:=by simpa using c2
   have j:Hid (¬ zfQ l b):=fun h=>by rcases h with h|h;exact C.out h;exact c2 (by rw[D.out];exact h.2.2)
   clear c1 c2;refine zh (by kernel_rfl) (by kernel_rfl) ?_
   repeat(first|go_big_quiet_skip|(go_big_quiet_want;go_big_quiet_op;go_big_quiet_on))
   refine wpQuiet_nil ?_;rintro _ ⟨g,rfl⟩;go_wp2;go_ret;exact⟨zl j.out,ze d g.bel⟩
  have O:((l.st i).hei == b.hei)=true:=by simpa using c2
  have j:Hid (zfQ l b):=.inr (by rw[← D.out];exact⟨L.out,c1,c2⟩)
  clear c1 c2;refine zh (by kernel_rfl) (by kernel_rfl) ?_
  repeat(first|go_big_quiet_skip|(go_big_quiet_want;go_big_quiet_op;go_big_quiet_on))
  refine wpQuiet_nil ?_;rintro _ ⟨g,rfl⟩;go_wp2;go_ret;exact⟨zR j.out,ze d g.bel⟩
theorem zaW (b:ql)(a:Option Addr)(c:Nat)(l:zY)(f:Option Addr)(o:Nat)(w:World)(H:l.sen<=1048576)(B:qE w f l.sen l.se) :
  Calls Tryz.prog 186 #[.slice f l.sen o,.agg #[int i64 b.name,int i64 b.who,.string b.own,.slice a b.lgn c,int i64 b.pe,int i64 b.len,int i64 b.hei,int i64 b.cl,.bool b.all,int i64 b.be,int i64 b.state,int i64 b.unt,int i64 b.price]] w fun e w'=>qX (zfR l b) e/\Below w.heap.size w w':=by
 have x:=hI B;clear B;have j:Below w.heap.size w (w.alloc (.cells #[int i64 b.name,int i64 b.who,.string b.own,.slice a b.lgn c,int i64 b.pe,int i64 b.len,int i64 b.hei,int i64 b.cl,.bool b.all,int i64 b.be,int i64 b.state,int i64 b.unt,int i64 b.price] 150)):=zk bZ _;have n:=heap_alloc_new w (.cells #[int i64 b.name,int i64 b.who,.string b.own,.slice a b.lgn c,int i64 b.pe,int i64 b.len,int i64 b.hei,int i64 b.cl,.bool b.all,int i64 b.be,int i64 b.state,int i64 b.unt,int i64 b.price] 150);go_enter Tryz.func186,Tryz.ntmps186;go_wp2_with fail;generalize hBx:w.heap.size=u at n ⊢;generalize w.alloc (.cells #[int i64 b.name,int i64 b.who,.string b.own,.slice a b.lgn c,int i64 b.pe,int i64 b.len,int i64 b.hei,int i64 b.cl,.bool b.all,int i64 b.be,int i64 b.state,int i64 b.unt,int i64 b.price] 150)=V at j n ⊢;have I:=za n 1 _ rfl;refine(zdU f l.sen o l.se b.who _ H (x.out.below j)).mono ?_;rintro e W ⟨rfl,k⟩;have y:=zb n k;have d:=ze j k;have q:u<W.heap.size:=zM y;clear I n k hBx
 by_cases hf:zaj (zag l.se) b.who l.sen<l.sen
 case neg =>
  have F:decide (0<=Zv (zag l.se) b.who l.sen)=false:=by rw[zcA hf];rfl
  have m:Hid (¬ zfR l b):=fun h=>hf h.1
  clear hf;generalize Zv (zag l.se) b.who l.sen=r at F ⊢;go_upto_region 2 with fail;refine zh (by kernel_rfl) (by kernel_rfl) ?_
  repeat(first|go_big_quiet_skip|(go_big_quiet_want;go_big_quiet_op;go_big_quiet_on))
  refine wpQuiet_nil ?_;rintro _ ⟨g,rfl⟩;go_wp2;go_ret;exact⟨zl m.out,ze d g.bel⟩
 rw[zcz hf];obtain⟨i,s⟩:∃ i,i=zaj (zag l.se) b.who l.sen:=⟨_,rfl⟩;rw[← s] at hf ⊢;have v:=hI s;clear s;obtain⟨C,D,rfl,z,A⟩:=x.out i hf;have t:=World.block_lt_of_cell? w _ z;have q1:∀ g:zn W,g.val.cell? ⟨C,D+i*2+1,none⟩=some (int i64 (l.se i).many):=fun g=>((ze d g.bel).cell (p:=⟨C,D+i*2+1,none⟩) t).trans A
 have z4:∀ g:zn W,g.val.cell? ⟨u,4,none⟩=some (int i64 b.pe):=fun g=>(g.bel.cell q).trans (za y 4 _ rfl)
 have i0:decide (0<=(i:Int))=true:=by simp
 have i1:(0:Int)<=(i:Int):=by omega
 have i2:(i:Int)<(l.sen:Int):=by omega
 have E:=hI hf;clear z A hf
 by_cases c1:(l.se i).many=b.pe
 case neg =>
  have G:((l.se i).many == b.pe)=false:=by simpa using c1
  have m:Hid (¬ zfR l b):=fun h=>c1 (by rw[v.out];exact h.2)
  clear c1;go_upto_region 2 with fail;refine zh (by kernel_rfl) (by kernel_rfl) ?_
  repeat(first|go_big_quiet_skip|(go_big_quiet_want;go_big_quiet_op;go_big_quiet_on))
  refine wpQuiet_nil ?_;rintro _ ⟨g,rfl⟩;go_wp2;go_ret;exact⟨zl m.out,ze d g.bel⟩
 have G:((l.se i).many == b.pe)=true:=by simpa using c1
 have m:Hid (zfR l b):=by show zfR l b;unfold zfR;rw[← v.out];exact⟨E.out,c1⟩
 clear c1;go_upto_region 2 with fail;refine zh (by kernel_rfl) (by kernel_rfl) ?_
 repeat(first|go_big_quiet_skip|(go_big_quiet_want;go_big_quiet_op;go_big_quiet_on))
 refine wpQuiet_nil ?_;rintro _ ⟨g,rfl⟩;go_wp2;go_ret;exact⟨zR m.out,ze d g.bel⟩
theorem zaX (b:ql)(v:Option Addr)(x:Nat)(s:Zj)(l:zY)(K z:Option Addr)(U L:Nat)(w:World)(hn:l.ron<=1048576)(y:∀ j,j<l.ron->0<=(l.ro j).cab/\(l.ro j).cab<s.ca.n)(hx:zG w K s.ca)(hz:qp w z l.ron l.ro) :
  Calls Tryz.prog 185 #[.slice K s.ca.n U,.slice z l.ron L,.agg #[int i64 b.name,int i64 b.who,.string b.own,.slice v b.lgn x,int i64 b.pe,int i64 b.len,int i64 b.hei,int i64 b.cl,.bool b.all,int i64 b.be,int i64 b.state,int i64 b.unt,int i64 b.price]] w fun e w'=>qX (zeI s l b) e/\Below w.heap.size w w':=by
 have HZ:=hI hz;have HX:=hI hx;have I:=hI y;clear hz hx y;obtain⟨c2,M⟩:∃ c,c=decide (¬ (b.cl=0/\b.all=false/\b.be=0)):=⟨_,rfl⟩;have Q:=hI M;clear M;have C:Below w.heap.size w (w.alloc (.cells #[int i64 b.name,int i64 b.who,.string b.own,.slice v b.lgn x,int i64 b.pe,int i64 b.len,int i64 b.hei,int i64 b.cl,.bool b.all,int i64 b.be,int i64 b.state,int i64 b.unt,int i64 b.price] 150)):=zk bZ _;have u:=heap_alloc_new w (.cells #[int i64 b.name,int i64 b.who,.string b.own,.slice v b.lgn x,int i64 b.pe,int i64 b.len,int i64 b.hei,int i64 b.cl,.bool b.all,int i64 b.be,int i64 b.state,int i64 b.unt,int i64 b.price] 150);go_enter Tryz.func185,Tryz.ntmps185;go_wp2_with fail;generalize hBx:w.heap.size=t at u ⊢;generalize w.alloc (.cells #[int i64 b.name,int i64 b.who,.string b.own,.slice v b.lgn x,int i64 b.pe,int i64 b.len,int i64 b.hei,int i64 b.cl,.bool b.all,int i64 b.be,int i64 b.state,int i64 b.unt,int i64 b.price] 150)=V at C u ⊢;have y4:=za u 4 _ rfl;have y5:=za u 5 _ rfl;have y6:=za u 6 _ rfl;have y7:=za u 7 _ rfl;have y8:=za u 8 _ rfl;have y9:=za u 9 _ rfl;refine(Q7 b.pe b.len b.hei b.cl b.all b.be _).mono ?_;rw[← Q.out];rintro e V1 ⟨rfl,m⟩;have A:=zb u m;have D:=ze C m;clear y4 y5 y6 y7 y8 y9 u C m
 cases c2 with
 | false =>
  have f:Hid (zeI s l b):=.inl (by have:=Q.out;simp at this;exact⟨this.1,this.2.1,this.2.2⟩)
  go_wp2;go_ret;exact⟨zR f.out,D⟩
 | true =>
  have R:Hid (¬ zca b):=by have:=of_decide_eq_true Q.out.symm;exact fun h=>this h
  clear Q;have y1:=za A 1 _ rfl;go_upto_region 4 with(first|(go_at_call 244;refine(QF z l.ron L l.ro b.who _ hn (HZ.out.below D)).mono ?_;rintro e W ⟨rfl,m⟩;have S:=zb A m;have a:=ze D m))
  have B:t<W.heap.size:=zM S;clear y1 A m hBx
  by_cases hf:zaj (ZV l.ro) b.who l.ron<l.ron
  case neg =>
   have e0:decide (0<=Zv (ZV l.ro) b.who l.ron)=false:=by rw[zcA hf];rfl
   have f:Hid (¬ zeI s l b):=fun h=>by rcases h with h|h;exact R.out h;exact hf h.1
   clear hf;generalize Zv (ZV l.ro) b.who l.ron=r at e0 ⊢;refine zh (by kernel_rfl) (by kernel_rfl) ?_
   repeat(first|go_big_quiet_skip|(go_big_quiet_want;go_big_quiet_op;go_big_quiet_on))
   refine wpQuiet_nil ?_;rintro _ ⟨g,rfl⟩;go_wp2;go_ret;exact⟨zl f.out,ze a g.bel⟩
  rw[zcz hf];obtain⟨i,Z⟩:∃ i,i=zaj (ZV l.ro) b.who l.ron:=⟨_,rfl⟩;rw[← Z] at hf ⊢;have J:=hI Z;clear Z;obtain⟨n,N⟩:∃ k:Nat,(l.ro i).cab=(k:Int):=⟨(l.ro i).cab.toNat,by have:=I.out i hf;omega⟩
  have a0:n<s.ca.n:=by have:=I.out i hf;omega
  have T:Hid ((l.ro i).cab.toNat=n):=by show(l.ro i).cab.toNat=n;omega
  obtain⟨o,q,rfl,f0,f1,f2,f3⟩:=HZ.out i hf;obtain⟨xb,xo,rfl,Y,g1⟩:=HX.out n a0;have E:=World.block_lt_of_cell? w _ f0;have a1:=World.block_lt_of_cell? w _ Y;have q1:∀ g:zn W,g.val.cell? ⟨o,q+i*4+1,none⟩=some (int i64 (n:Int)):=fun g=>((ze a g.bel).cell (p:=⟨o,q+i*4+1,none⟩) E).trans (by rw[f1,N])
  have q2:∀ g:zn W,g.val.cell? ⟨o,q+i*4+2,none⟩=some (int i64 (l.ro i).many):=fun g=>((ze a g.bel).cell (p:=⟨o,q+i*4+2,none⟩) E).trans f2
  have p0:∀ g:zn W,g.val.cell? ⟨xb,xo+n*2,none⟩=some (int i64 (s.ca.A n)):=fun g=>((ze a g.bel).cell (p:=⟨xb,xo+n*2,none⟩) a1).trans Y
  have F:Hid (∀ g:zn W,g.val.cell? ⟨o,q+i*4+3,none⟩=some (.bool (l.ro i).all)):=fun g=>((ze a g.bel).cell (p:=⟨o,q+i*4+3,none⟩) E).trans f3
  have G:Hid (∀ g:zn W,g.val.cell? ⟨t,8,none⟩=some (.bool b.all)):=fun g=>(g.bel.cell B).trans (za S 8 _ rfl)
  have z7:∀ g:zn W,g.val.cell? ⟨t,7,none⟩=some (int i64 b.cl):=fun g=>(g.bel.cell B).trans (za S 7 _ rfl)
  have z9:∀ g:zn W,g.val.cell? ⟨t,9,none⟩=some (int i64 b.be):=fun g=>(g.bel.cell B).trans (za S 9 _ rfl)
  have i0:decide (0<=(i:Int))=true:=by simp
  have i1:(0:Int)<=(i:Int):=by omega
  have i2:(i:Int)<(l.ron:Int):=by omega
  have k1:(0:Int)<=(n:Int):=by omega
  have k2:(n:Int)<(s.ca.n:Int):=by omega
  have HF:=hI hf;clear f0 f1 f2 f3 Y g1 hf N
  by_cases ca:(l.ro i).all=b.all
  case neg =>
   have f:Hid (¬ zeI s l b):=fun h=>by rcases h with h|h;exact R.out h;exact ca (by rw[J.out];exact h.2.1)
   cases hba:b.all with
   | true =>
    have d:(l.ro i).all=false:=by cases d:(l.ro i).all;rfl;rw[d,hba] at ca;exact absurd rfl ca
    have O:∀ g:zn W,g.val.cell? ⟨o,q+i*4+3,none⟩=some (.bool false):=fun g=>by rw[F.out g,d]
    have P:∀ g:zn W,g.val.cell? ⟨t,8,none⟩=some (.bool true):=fun g=>by rw[G.out g,hba]
    clear ca hba d;refine zh (by kernel_rfl) (by kernel_rfl) ?_
    repeat(first|go_big_quiet_skip|(go_big_quiet_want;go_big_quiet_op;go_big_quiet_on))
    refine wpQuiet_nil ?_;rintro _ ⟨g,rfl⟩;go_wp2;go_ret;exact⟨zl f.out,ze a g.bel⟩
   | false =>
    have d:(l.ro i).all=true:=by cases d:(l.ro i).all;rw[d,hba] at ca;exact absurd rfl ca;rfl
    have O:∀ g:zn W,g.val.cell? ⟨o,q+i*4+3,none⟩=some (.bool true):=fun g=>by rw[F.out g,d]
    have P:∀ g:zn W,g.val.cell? ⟨t,8,none⟩=some (.bool false):=fun g=>by rw[G.out g,hba]
    clear ca hba d;refine zh (by kernel_rfl) (by kernel_rfl) ?_
    repeat(first|go_big_quiet_skip|(go_big_quiet_want;go_big_quiet_op;go_big_quiet_on))
    refine wpQuiet_nil ?_;rintro _ ⟨g,rfl⟩;go_wp2;go_ret;exact⟨zl f.out,ze a g.bel⟩
  have H:=hI ca
  by_cases cc:s.ca.A n=b.cl
  case neg =>
   have ec:(s.ca.A n == b.cl)=false:=by simpa using cc
   have f:Hid (¬ zeI s l b):=fun h=>by rcases h with h|h;exact R.out h;exact cc (by rw[← T.out,J.out];exact h.2.2.2)
   cases hba:b.all with
   | true =>
    have O:∀ g:zn W,g.val.cell? ⟨o,q+i*4+3,none⟩=some (.bool true):=fun g=>by rw[F.out g,ca,hba]
    have P:∀ g:zn W,g.val.cell? ⟨t,8,none⟩=some (.bool true):=fun g=>by rw[G.out g,hba]
    clear ca cc hba;refine zh (by kernel_rfl) (by kernel_rfl) ?_
    repeat(first|go_big_quiet_skip|(go_big_quiet_want;go_big_quiet_op;go_big_quiet_on))
    refine wpQuiet_nil ?_;rintro _ ⟨g,rfl⟩;go_wp2;go_ret;exact⟨zl f.out,ze a g.bel⟩
   | false =>
    have O:∀ g:zn W,g.val.cell? ⟨o,q+i*4+3,none⟩=some (.bool false):=fun g=>by rw[F.out g,ca,hba]
    have P:∀ g:zn W,g.val.cell? ⟨t,8,none⟩=some (.bool false):=fun g=>by rw[G.out g,hba]
    clear ca cc hba
    by_cases cm:(l.ro i).many=b.be
    ·have X:((l.ro i).many == b.be)=true:=by simpa using cm
     clear cm;refine zh (by kernel_rfl) (by kernel_rfl) ?_
     repeat(first|go_big_quiet_skip|(go_big_quiet_want;go_big_quiet_op;go_big_quiet_on))
     refine wpQuiet_nil ?_;rintro _ ⟨g,rfl⟩;go_wp2;go_ret;exact⟨zl f.out,ze a g.bel⟩
    ·have X:((l.ro i).many == b.be)=false:=by simpa using cm
     clear cm;refine zh (by kernel_rfl) (by kernel_rfl) ?_
     repeat(first|go_big_quiet_skip|(go_big_quiet_want;go_big_quiet_op;go_big_quiet_on))
     refine wpQuiet_nil ?_;rintro _ ⟨g,rfl⟩;go_wp2;go_ret;exact⟨zl f.out,ze a g.bel⟩
  have ec:(s.ca.A n == b.cl)=true:=by simpa using cc
  cases hba:b.all with
  | true =>
   have f:Hid (zeI s l b):=.inr (by rw[← J.out];exact⟨HF.out,H.out,.inl hba,by rw[T.out];exact cc⟩)
   have O:∀ g:zn W,g.val.cell? ⟨o,q+i*4+3,none⟩=some (.bool true):=fun g=>by rw[F.out g,ca,hba]
   have P:∀ g:zn W,g.val.cell? ⟨t,8,none⟩=some (.bool true):=fun g=>by rw[G.out g,hba]
   clear ca cc hba;refine zh (by kernel_rfl) (by kernel_rfl) ?_
   repeat(first|go_big_quiet_skip|(go_big_quiet_want;go_big_quiet_op;go_big_quiet_on))
   refine wpQuiet_nil ?_;rintro _ ⟨g,rfl⟩;go_wp2;go_ret;exact⟨zR f.out,ze a g.bel⟩
  | false =>
   have O:∀ g:zn W,g.val.cell? ⟨o,q+i*4+3,none⟩=some (.bool false):=fun g=>by rw[F.out g,ca,hba]
   have P:∀ g:zn W,g.val.cell? ⟨t,8,none⟩=some (.bool false):=fun g=>by rw[G.out g,hba]
   by_cases cm:(l.ro i).many=b.be
   ·have X:((l.ro i).many == b.be)=true:=by simpa using cm
    have f:Hid (zeI s l b):=.inr (by rw[← J.out];exact⟨HF.out,H.out,.inr cm,by rw[T.out];exact cc⟩)
    clear ca cc hba cm;refine zh (by kernel_rfl) (by kernel_rfl) ?_
    repeat(first|go_big_quiet_skip|(go_big_quiet_want;go_big_quiet_op;go_big_quiet_on))
    refine wpQuiet_nil ?_;rintro _ ⟨g,rfl⟩;go_wp2;go_ret;exact⟨zR f.out,ze a g.bel⟩
   ·have X:((l.ro i).many == b.be)=false:=by simpa using cm
    have f:Hid (¬ zeI s l b):=fun h=>by
     rcases h with h|h
     ·exact R.out h
     ·rcases h.2.2.1 with h|h
      ·rw[hba] at h;cases h
      ·exact cm (by rw[J.out];exact h)
    clear ca cc hba cm;refine zh (by kernel_rfl) (by kernel_rfl) ?_
    repeat(first|go_big_quiet_skip|(go_big_quiet_want;go_big_quiet_op;go_big_quiet_on))
    refine wpQuiet_nil ?_;rintro _ ⟨g,rfl⟩;go_wp2;go_ret;exact⟨zl f.out,ze a g.bel⟩
structure zcB where
 name:Int
 own:ByteArray
 pe:Int
 ln:Int
 cab:Int
def zcB.zero:zcB:=⟨0,⟨#[]⟩,0,0,0⟩
instance:Inhabited zcB:=⟨zcB.zero⟩
def zbk (w:World)(a:Option Addr)(n:Nat)(S:Nat->zcB):Prop :=
 ∀ k,k<n->∃ b off,a=some ⟨b,off,none⟩/\w.cell? ⟨b,off+k*5,none⟩=some (int i64 (S k).name)/\w.cell? ⟨b,off+k*5+1,none⟩=some (.string (S k).own)/\w.cell? ⟨b,off+k*5+2,none⟩=some (int i64 (S k).pe)/\w.cell? ⟨b,off+k*5+3,none⟩=some (int i64 (S k).ln)/\w.cell? ⟨b,off+k*5+4,none⟩=some (int i64 (S k).cab)
theorem zbk.below {w w':World}{d:Option Addr}{n:Nat}{S:Nat->zcB}(h:zbk w d n S)(c:Below w.heap.size w w'):zbk w' d n S:=by
 intro k i;obtain⟨b,off,e,f,h1,h2,h3,g⟩:=h k i;have a:b<w.heap.size:=World.block_lt_of_cell? w _ f;exact⟨b,off,e,(c.cell a).trans f,(c.cell a).trans h1,(c.cell a).trans h2,(c.cell a).trans h3,(c.cell a).trans g⟩
def QX (S:Nat->zcB)(j:Nat):Value :=
 if j % 5=0 then int i64 (S (j / 5)).name else if j % 5=1 then .string (S (j / 5)).own else if j % 5=2 then int i64 (S (j / 5)).pe else if j % 5=3 then int i64 (S (j / 5)).ln else int i64 (S (j / 5)).cab
theorem zgZ (S:Nat->zcB)(k:Nat):QX S (k*5)=int i64 (S k).name:=by
 unfold QX;rw[if_pos (by omega),show k*5 / 5=k by omega]
theorem zha (S:Nat->zcB)(k:Nat):QX S (k*5+1)=.string (S k).own:=by
 unfold QX;rw[if_neg (by omega),if_pos (by omega),show(k*5+1) / 5=k by omega]
theorem zhb (S:Nat->zcB)(k:Nat):QX S (k*5+2)=int i64 (S k).pe:=by
 unfold QX;rw[if_neg (by omega),if_neg (by omega),if_pos (by omega),show(k*5+2) / 5=k by omega]
theorem zhc (S:Nat->zcB)(k:Nat):QX S (k*5+3)=int i64 (S k).ln:=by
 unfold QX;rw[if_neg (by omega),if_neg (by omega),if_neg (by omega),if_pos (by omega),show(k*5+3) / 5=k by omega]
theorem zhd (S:Nat->zcB)(k:Nat):QX S (k*5+4)=int i64 (S k).cab:=by
 unfold QX;rw[if_neg (by omega),if_neg (by omega),if_neg (by omega),if_neg (by omega),show(k*5+4) / 5=k by omega]
def qW (S:Nat->zcB)(n:Nat):List Value:=(List.range (n*5)).map (QX S)
theorem zbd (S:Nat->zcB)(k:Nat):qW S (k+1)=qW S k++[int i64 (S k).name,.string (S k).own,int i64 (S k).pe,int i64 (S k).ln,int i64 (S k).cab]:=by
 unfold qW;rw[show(k+1)*5=k*5+1+1+1+1+1 by omega,List.range_succ,List.range_succ,List.range_succ,List.range_succ,List.range_succ]
 simp only[List.map_append,List.map_cons,List.map_nil,List.append_assoc,List.cons_append,List.nil_append,zgZ,zha,zhb,zhc,zhd]
theorem zcX {S S':Nat->zcB}{n:Nat}(h:∀ i,i<n->S i=S' i):qW S n=qW S' n:=by
 unfold qW;refine List.map_congr_left (fun j a=>?_)
 have b:j<n*5:=by simpa using a
 unfold QX;rw[h (j / 5) (by omega)]
theorem zbI {w:World}{base e n c:Nat}{a:Option Addr}{S:Nat->zcB}(h:w.ownsRow base e 5 (.slice a n c) n (qW S n)):zbk w a n S:=by
 intro k hk;obtain⟨g,rfl,_,_⟩:=qh h (by omega)
 have b:=zs h (k*5) (by omega) rfl
 rw[zgZ] at b;have c1:=zs h (k*5+1) (by omega) rfl
 rw[zha] at c1;have c2:=zs h (k*5+2) (by omega) rfl
 rw[zhb] at c2;have c3:=zs h (k*5+3) (by omega) rfl
 rw[zhc] at c3;have c4:=zs h (k*5+4) (by omega) rfl
 rw[zhd] at c4;exact⟨g,0,rfl,by rw[Nat.zero_add];exact b,by rw[Nat.zero_add];exact c1,by rw[Nat.zero_add];exact c2,by rw[Nat.zero_add];exact c3,by rw[Nat.zero_add];exact c4⟩
section
open Go.RowKit Classical
def zas (S:Nat->Zp)(q:Int):Nat->Int
 | 0=>-1
 | n+1=>if (S n).who=q then (S n).ln else zas S q n
def QA (S:Nat->qN)(q:Int):Nat->Int
 | 0=>-1
 | n+1=>if (S n).who=q then (S n).cab else QA S q n
def zhD (l:zY)(b:ql):zcB:=⟨b.name,b.own,b.pe,zas l.st b.who l.stn,QA l.ro b.who l.ron⟩
def OnZ (b:ql)(z:Int):Prop:=zez b/\HasLeg b z
noncomputable def Qn (l:zY)(S:Nat->ql)(z:Int):Nat->List zcB
 | 0=>[]
 | n+1=>if OnZ (S n) z then Qn l S z n++[zhD l (S n)] else Qn l S z n
theorem zeL {l:zY}{S:Nat->ql}{z:Int}{n:Nat}(h:OnZ (S n) z):Qn l S z (n+1)=Qn l S z n++[zhD l (S n)]:=by rw[Qn,if_pos h]
theorem zdW {l:zY}{S:Nat->ql}{z:Int}{n:Nat}(h:¬ OnZ (S n) z):Qn l S z (n+1)=Qn l S z n:=by rw[Qn,if_neg h]
theorem zmL (l:zY)(S:Nat->ql)(z:Int)(n:Nat):(Qn l S z n).length<=n:=by
 induction n with
 | zero=>exact Nat.le_refl _
 | succ n ih =>
  by_cases h:OnZ (S n) z
  ·rw[zeL h,List.length_append];simp;omega
  ·rw[zdW h];omega
def zeM (l:List zcB)(j:Nat):zcB:=l.getD j zcB.zero
theorem zkP (l:List zcB)(r:zcB):qW (zeM (l++[r])) (l.length+1)=qW (zeM l) l.length++[int i64 r.name,.string r.own,int i64 r.pe,int i64 r.ln,int i64 r.cab]:=by
 rw[zbd];have a:zeM (l++[r]) l.length=r:=by simp[zeM]
 have b:qW (zeM (l++[r])) l.length=qW (zeM l) l.length:=zcX (fun i c=>by unfold zeM;rw[List.getD_eq_getElem?_getD,List.getD_eq_getElem?_getD,List.getElem?_append_left c])
 rw[a,b]
end
theorem Tryz.infoRow:(Tryz.prog.info? 203).map (fun i=>(i.zero,i.size,i.bytes))=some (some (.agg #[int i64 0,.string ⟨#[]⟩,int i64 0,int i64 0,int i64 0]),5,48):=by kernel_rfl
section
open Go.RowKit Classical
theorem lastLn_no {S:Nat->Zp}{q:Int}{n:Nat}(h:∀ j,j<n->(S j).who≠q):zas S q n=-1:=by
 induction n with
 | zero=>rfl
 | succ n ih=>rw[zas,if_neg (h n (by omega)),ih (fun j hj=>h j (by omega))]
theorem lastLn_is {S:Nat->Zp}{q:Int}{n i:Nat}(hi:i<n)(a:(S i).who=q)(h:∀ j,j<n->(S j).who=q->j=i):zas S q n=(S i).ln:=by
 induction n with
 | zero=>omega
 | succ n ih =>
  by_cases c:(S n).who=q
  ·rw[zas,if_pos c,h n (by omega) c]
  ·rw[zas,if_neg c]
   exact ih (by have:i≠n:=fun e=>c (e ▸ a);omega) (fun j hj=>h j (by omega))
theorem znJ {S:Nat->qN}{q:Int}{n:Nat}(h:∀ j,j<n->(S j).who≠q):QA S q n=-1:=by
 induction n with
 | zero=>rfl
 | succ n ih=>rw[QA,if_neg (h n (by omega)),ih (fun j hj=>h j (by omega))]
theorem znK {S:Nat->qN}{q:Int}{n i:Nat}(hi:i<n)(a:(S i).who=q)(h:∀ j,j<n->(S j).who=q->j=i):QA S q n=(S i).cab:=by
 induction n with
 | zero=>omega
 | succ n ih =>
  by_cases c:(S n).who=q
  ·rw[QA,if_pos c,h n (by omega) c]
  ·rw[QA,if_neg c]
   exact ih (by have:i≠n:=fun e=>c (e ▸ a);omega) (fun j hj=>h j (by omega))
theorem lane_ix {s:Zj}{l:zY}(h:qm s l)(q:Int):zas l.st q l.stn=if zaj (Qc l.st) q l.stn<l.stn then (l.st (zaj (Qc l.st) q l.stn)).ln else -1:=by
 have u1:∀ i,i<l.stn->¬ Has (Qc l.st) i (Qc l.st i):=fun i b=>(h.1.2.2.1 i b).2.2.2.2
 by_cases c:zaj (Qc l.st) q l.stn<l.stn
 ·rw[if_pos c];exact lastLn_is c (zdn (Qc l.st) q _ c) (fun j a e=>(zeJ u1 a e).symm)
 ·rw[if_neg c];exact lastLn_no (fun j a e=>c ((zdo (Qc l.st) _ _).1 ⟨j,a,e⟩))
theorem cab_ix {s:Zj}{l:zY}(h:qm s l)(q:Int):QA l.ro q l.ron=if zaj (ZV l.ro) q l.ron<l.ron then (l.ro (zaj (ZV l.ro) q l.ron)).cab else -1:=by
 have u1:∀ i,i<l.ron->¬ Has (ZV l.ro) i (ZV l.ro i):=fun i b=>(h.2.1.2.2.1 i b).1.2.1
 by_cases c:zaj (ZV l.ro) q l.ron<l.ron
 ·rw[if_pos c];exact znK c (zdn (ZV l.ro) q _ c) (fun j a e=>(zeJ u1 a e).symm)
 ·rw[if_neg c];exact znJ (fun j a e=>c ((zdo (ZV l.ro) _ _).1 ⟨j,a,e⟩))
theorem rowsL_on (l:zY)(S:Nat->ql)(z:Int)(n:Nat):(Qn l S z n).length=(onL (fun i=>OnB (S i) z) n).length/\∀ j,j<(onL (fun i=>OnB (S i) z) n).length->zeM (Qn l S z n) j=zhD l (S (onI (fun i=>OnB (S i) z) n j)):=by
 induction n with
 | zero=>exact⟨rfl,fun j a=>by simp[onL] at a⟩
 | succ n ih =>
  obtain⟨c,f⟩:=ih
  by_cases h:OnB (S n) z
  ·have d:OnZ (S n) z:=h
   rw[zeL d,zbZ (P:=fun i=>OnB (S i) z) h,List.length_append,List.length_append,c]
   refine⟨rfl,fun j a=>?_⟩
   by_cases e:j=(onL (fun i=>OnB (S i) z) n).length
   ·subst e
    rw[zdV (fun i=>OnB (S i) z) h]
    unfold zeM;rw[← c];simp
   ·have b:j<(onL (fun i=>OnB (S i) z) n).length:=by simp at a;omega
    rw[zcQ _ b,← f j b];unfold zeM;rw[List.getD_eq_getElem?_getD,List.getD_eq_getElem?_getD,List.getElem?_append_left (by omega)]
  ·have d:¬ OnZ (S n) z:=h
   rw[zdW d,zfJ (P:=fun i=>OnB (S i) z) h]
   exact⟨c,fun j a=>by rw[zcQ _ a,← f j a]⟩
theorem rowLn_set {w:World}{g t:Nat}{u0 u1 u2 u3 u4:Value}(h:w.heap[g]?=some (.cells #[u0,u1,u2,u3,u4] t (0,0)))(v:Value):(w.setCell ⟨g,3,none⟩ v).heap[g]?=some (.cells #[u0,u1,u2,v,u4] t (0,0)):=by simpa using zm h 3 v
theorem zib {w:World}{g t:Nat}{u0 u1 u2 u3 u4:Value}(h:w.heap[g]?=some (.cells #[u0,u1,u2,u3,u4] t (0,0)))(v:Value):(w.setCell ⟨g,4,none⟩ v).heap[g]?=some (.cells #[u0,u1,u2,u3,v] t (0,0)):=by simpa using zm h 4 v
theorem znL (x:Off)(h6 h4 L:Option Addr)(a1 b2 O k:Nat)(w:World)(hs:Off.Short x 1048576)(i4:qB w h6 x.san x.sa)(d7:ZG w h4 x.ldn x.ld)(j8:qO w L x.bkn x.bk)(j9:x.bkn<=30)(k3:k<x.san)(k4:x.ldn=x.san)(f9:qm (x.sa k) (x.ld k)) :
  Calls Tryz.prog 204 #[.agg #[.slice h6 x.san a1,.slice h4 x.ldn b2,.slice L x.bkn O],int i64 k] w fun e w'=>(∃ v,e=.returned v/\w'.ownsRow w.heap.size 203 5 v (Qn (x.ld k) x.bk (x.sa k).id x.bkn).length (qW (zeM (Qn (x.ld k) x.bk (x.sa k).id x.bkn)) (Qn (x.ld k) x.bk (x.sa k).id x.bkn).length))/\Below w.heap.size w w':=by
 obtain⟨j0,ji,e0,e1,e2⟩:=info_parts Tryz.infoRow;have g9:=hI hs;obtain⟨sb,so,_,_,_,_,rfl,f0,_⟩:=i4 k k3;obtain⟨zi,i6⟩:∃ z,z=(x.sa k).id:=⟨_,rfl⟩;rw[← i6] at f0 ⊢;have k8:sb<w.heap.size:=World.block_lt_of_cell? w _ f0;obtain⟨D,hD,hJ⟩:=d7;obtain⟨lb,lo,rfl,S⟩:=hD k (by omega)
 obtain⟨l,d7⟩:∃ l,l=x.ld k:=⟨_,rfl⟩;obtain⟨Y,a2,W,a0,b1,b3,Q,g4,i9,g3,i7,i5,i8⟩:=hJ k (by omega)
 have d8:=hs.2.1.2 k (by omega)
 rw[← d7] at Q g4 i9 g3 i7 i5 i8 d8 f9 ⊢;have n2:l.stn<=1048576:=d8.1;have n3:l.ron<=1048576:=d8.2.1;have g5:lb<w.heap.size:=World.block_lt_of_cell? w _ (S 0 (by decide))
 have h0:=hI g4;have d6:=hI g3;have g8:=hI f9;obtain⟨C,hC,hI⟩:=j8;have HC:=hI hC;have HI:=hI hI;have g7:=hI f0;have d0:∀ o,(w.alloc o).cell? ⟨lb,lo+k*3,none⟩=some (.slice Y l.stn a2):=fun o=>((zk (Below.refl _ w) o).cell (p:=⟨lb,lo+k*3,none⟩) g5).trans (by have:=S 0 (by decide);rw[Q] at this;exact this)
 have d1:∀ o,(w.alloc o).cell? ⟨lb,lo+k*3+1,none⟩=some (.slice W l.ron a0):=fun o=>((zk (Below.refl _ w) o).cell (p:=⟨lb,lo+k*3+1,none⟩) g5).trans (by have:=S 1 (by decide);rw[Q] at this;exact this)
 have d2:∀ o,(w.alloc o).cell? ⟨lb,lo+k*3+2,none⟩=some (.slice b1 l.sen b3):=fun o=>((zk (Below.refl _ w) o).cell (p:=⟨lb,lo+k*3+2,none⟩) g5).trans (by have:=S 2 (by decide);rw[Q] at this;exact this)
 obtain⟨P,hP⟩:∃ P:Nat->Prop,P=fun i=>OnB (x.bk i) zi:=⟨_,rfl⟩
 obtain⟨m,d9⟩:∃ m,m=(onL P x.bkn).length:=⟨_,rfl⟩;have k9:m<=30:=by rw[d9];exact Nat.le_trans (onL_le P _) j9
 have e9:=hI d9;have e5:Hid ((Qn l x.bk zi x.bkn).length=m/\∀ j,j<m->zeM (Qn l x.bk zi x.bkn) j=zhD l (x.bk (onI P x.bkn j))):=by
  show(Qn l x.bk zi x.bkn).length=m/\∀ j,j<m->zeM (Qn l x.bk zi x.bkn) j=zhD l (x.bk (onI P x.bkn j))
  rw[d9,hP];exact rowsL_on l x.bk zi x.bkn
 obtain⟨B,f1⟩:∃ B:Nat->ql,B=fun j=>x.bk (onI P x.bkn j):=⟨_,rfl⟩
 obtain⟨C',f2⟩:∃ C':Nat->List Value,C'=fun j=>C (onI P x.bkn j):=⟨_,rfl⟩
 have j2:Hid (∀ j,j<m->ql.Is w (C' j) (B j)):=fun j hj=>by
  rw[f2,f1];exact HI.out _ (zmJ P x.bkn j (by rw[← e9.out];exact hj)).1
 have j3:Hid (∀ j,j<m->zeM (Qn l x.bk zi x.bkn) j=zhD l (B j)):=fun j hj=>by rw[f1];exact e5.out.2 j hj
 have g6:Hid (∀ w',Below w.heap.size w w'->Calls Tryz.prog 101 #[.slice L x.bkn O,int i64 zi] w' fun e w2=>(∃ ao c,e=.returned (.slice ao m c)/\QT w2 ao m 13 C')/\Below w'.heap.size w' w2):=fun w' h =>
  (zeg L x.bkn O x.bk C zi w' g9.out.2.2.1 g9.out.2.2.2 (HC.out.below h) (fun j hj=>(HI.out j hj).below h)).mono fun _ _ ⟨⟨ao,c,a,_,b⟩,d⟩=>by
   rw[e9.out,f2,hP];exact⟨⟨ao,c,a,QT.of_own b⟩,d⟩
 have k0:(0:Int)<=(k:Int):=by omega
 have k1:(k:Int)<(x.ldn:Int):=by omega
 have k2:(k:Int)<(x.san:Int):=by omega
 clear k4 i4 hD hJ S Q g4 i9 g3 i7 i5 i8 d8 hC hI f0 d9 f1 f2 hP hs f9 i6 d7 HC HI e9;have b7:Below w.heap.size w ((w.alloc (.cells #[.slice (some ⟨sb,so,none⟩) x.san a1,.slice (some ⟨lb,lo,none⟩) x.ldn b2,.slice L x.bkn O] 38)).alloc (.cells #[.slice Y l.stn a2,.slice W l.ron a0,.slice b1 l.sen b3] 145)):=zk (zk bZ _) _;have bO:((w.alloc (.cells #[.slice (some ⟨sb,so,none⟩) x.san a1,.slice (some ⟨lb,lo,none⟩) x.ldn b2,.slice L x.bkn O] 38)).alloc (.cells #[.slice Y l.stn a2,.slice W l.ron a0,.slice b1 l.sen b3] 145)).heap[w.heap.size]?=some (.cells #[.slice (some ⟨sb,so,none⟩) x.san a1,.slice (some ⟨lb,lo,none⟩) x.ldn b2,.slice L x.bkn O] 38 (0,0)):=zd (heap_alloc_new w _) _;have bL:((w.alloc (.cells #[.slice (some ⟨sb,so,none⟩) x.san a1,.slice (some ⟨lb,lo,none⟩) x.ldn b2,.slice L x.bkn O] 38)).alloc (.cells #[.slice Y l.stn a2,.slice W l.ron a0,.slice b1 l.sen b3] 145)).heap[w.heap.size+1]?=some (.cells #[.slice Y l.stn a2,.slice W l.ron a0,.slice b1 l.sen b3] 145 (0,0)):=by simpa using heap_alloc_new (w.alloc _) _
 go_enter Tryz.func204,Tryz.ntmps204;go_upto_region 3 with fail;generalize (w.alloc (.cells #[.slice (some ⟨sb,so,none⟩) x.san a1,.slice (some ⟨lb,lo,none⟩) x.ldn b2,.slice L x.bkn O] 38)).alloc (.cells #[.slice Y l.stn a2,.slice W l.ron a0,.slice b1 l.sen b3] 145)=X at b7 bO bL ⊢;clear d0 d1 d2;have BW:Hid (∀ w',Below X.heap.size X w'->Below w.heap.size w w'):=fun w' h=>ze b7 h
 have KS:Hid (∀ w',Below X.heap.size X w'->(w'.cell? ⟨w.heap.size,0,none⟩=some (.slice (some ⟨sb,so,none⟩) x.san a1)/\w'.cell? ⟨w.heap.size,2,none⟩=some (.slice L x.bkn O)/\w'.cell? ⟨sb,so+k*8,none⟩=some (int i64 zi))):=fun w' h=>by
  have g2:=zb bO h;exact⟨za g2 0 _ rfl,za g2 2 _ rfl,((ze b7 h).cell (p:=⟨sb,so+k*8,none⟩) k8).trans g7.out⟩
 go_cut [25,26,27] (fun v nn i wx=>∃ ao c,v=.slice ao m c/\nn=int i64 m/\i=int i64 0/\QT wx ao m 13 C'/\Below X.heap.size X wx)
 case first =>
  go_region_held3 (fun w'=>w'.cell? ⟨w.heap.size,0,none⟩=some (.slice (some ⟨sb,so,none⟩) x.san a1)/\w'.cell? ⟨w.heap.size,2,none⟩=some (.slice L x.bkn O)/\w'.cell? ⟨sb,so+k*8,none⟩=some (int i64 zi))
   ((refine KS.out _ ?_;exact(by repeat(first|exact bZ|refine Below.drew ?_|refine ze ?_ f3))))
   (first|(go_at_call 101;refine Calls.mono (g6.out _ (BW.out _ (by repeat(first|exact bZ|refine Below.drew ?_|refine ze ?_ f3)))) ?_;rintro e w4 ⟨⟨h5,c4,rfl,k5⟩,f3⟩))
  all_goals
   go_wp2;go_meet;exact⟨h5,c4,rfl,rfl,rfl,QT.below (w:=w4) k5 (by repeat(first|exact bZ|refine Below.drew ?_)),(by repeat(first|exact bZ|refine Below.drew ?_|refine ze ?_ f3))⟩
 case rest =>
 obtain⟨h5,c4,rfl,rfl,rfl,e7,f4⟩:=hcut;have j4:=hI e7;have a3:=ze b7 f4;have h7:=zb bL f4;have a6:=hI h7;clear e7 bO bL b7 f4 KS BW g6 g7 h7 k0 k1 k2;obtain⟨R,hR⟩:∃ R:Nat->zcB,R=fun j=>zhD l (B j):=⟨_,rfl⟩
 have HR:Hid (∀ j,R j=zhD l (B j)):=fun j=>by rw[hR]
 clear hR;go_wp2;go_loopw [5,8,9,10,11,27] (fun v _ _ _ _ q wr=>∃ i:Nat,i<=m/\q=int i64 i/\wr.ownsRow wc.heap.size 203 5 v i (qW R i)/\Below wc.heap.size wc wr) (fun _ _ _ _ _ q _=>m - (intOf q).toNat)
 case atStart=>exact⟨0,Nat.zero_le _,rfl,⟨rfl,.inl ⟨rfl,rfl⟩⟩,bZ⟩
 case round =>
  obtain⟨i,hi,rfl,b0,f⟩:=hrel;have i0:=ze a3 f
  by_cases hlt2:i<m
  ·obtain⟨bb,bo,rfl,S⟩:=j4.out i hlt2
   obtain⟨b,f5⟩:∃ b,b=B i:=⟨_,rfl⟩;obtain⟨V,Z,Q,_,_⟩:=j2.out i hlt2;rw[← f5] at Q;have j1:=hI f5;have J:bb<wc.heap.size:=World.block_lt_of_cell? wc _ (S 0 (by decide))
   have c0:wr.cell? ⟨bb,bo+i*13,none⟩=some (int i64 b.name):=(f.cell (p:=⟨bb,bo+i*13,none⟩) J).trans (by have:=S 0 (by decide);rw[Q] at this;exact this)
   have c1:wr.cell? ⟨bb,bo+i*13+1,none⟩=some (int i64 b.who):=(f.cell (p:=⟨bb,bo+i*13+1,none⟩) J).trans (by have:=S 1 (by decide);rw[Q] at this;exact this)
   have c2:wr.cell? ⟨bb,bo+i*13+2,none⟩=some (.string b.own):=(f.cell (p:=⟨bb,bo+i*13+2,none⟩) J).trans (by have:=S 2 (by decide);rw[Q] at this;exact this)
   have c3:wr.cell? ⟨bb,bo+i*13+3,none⟩=some (.slice V b.lgn Z):=(f.cell (p:=⟨bb,bo+i*13+3,none⟩) J).trans (by have:=S 3 (by decide);rw[Q] at this;exact this)
   have c4:wr.cell? ⟨bb,bo+i*13+4,none⟩=some (int i64 b.pe):=(f.cell (p:=⟨bb,bo+i*13+4,none⟩) J).trans (by have:=S 4 (by decide);rw[Q] at this;exact this)
   have c5:wr.cell? ⟨bb,bo+i*13+5,none⟩=some (int i64 b.len):=(f.cell (p:=⟨bb,bo+i*13+5,none⟩) J).trans (by have:=S 5 (by decide);rw[Q] at this;exact this)
   have c6:wr.cell? ⟨bb,bo+i*13+6,none⟩=some (int i64 b.hei):=(f.cell (p:=⟨bb,bo+i*13+6,none⟩) J).trans (by have:=S 6 (by decide);rw[Q] at this;exact this)
   have c7:wr.cell? ⟨bb,bo+i*13+7,none⟩=some (int i64 b.cl):=(f.cell (p:=⟨bb,bo+i*13+7,none⟩) J).trans (by have:=S 7 (by decide);rw[Q] at this;exact this)
   have c8:wr.cell? ⟨bb,bo+i*13+8,none⟩=some (.bool b.all):=(f.cell (p:=⟨bb,bo+i*13+8,none⟩) J).trans (by have:=S 8 (by decide);rw[Q] at this;exact this)
   have c9:wr.cell? ⟨bb,bo+i*13+9,none⟩=some (int i64 b.be):=(f.cell (p:=⟨bb,bo+i*13+9,none⟩) J).trans (by have:=S 9 (by decide);rw[Q] at this;exact this)
   have j5:wr.cell? ⟨bb,bo+i*13+10,none⟩=some (int i64 b.state):=(f.cell (p:=⟨bb,bo+i*13+10,none⟩) J).trans (by have:=S 10 (by decide);rw[Q] at this;exact this)
   have j6:wr.cell? ⟨bb,bo+i*13+11,none⟩=some (int i64 b.unt):=(f.cell (p:=⟨bb,bo+i*13+11,none⟩) J).trans (by have:=S 11 (by decide);rw[Q] at this;exact this)
   have j7:wr.cell? ⟨bb,bo+i*13+12,none⟩=some (int i64 b.price):=(f.cell (p:=⟨bb,bo+i*13+12,none⟩) J).trans (by have:=S 12 (by decide);rw[Q] at this;exact this)
   clear S Q f5;have bB:((wr.alloc (.cells #[int i64 b.name,int i64 b.who,.string b.own,.slice V b.lgn Z,int i64 b.pe,int i64 b.len,int i64 b.hei,int i64 b.cl,.bool b.all,int i64 b.be,int i64 b.state,int i64 b.unt,int i64 b.price] 150)).alloc (.cells #[int i64 b.name,.string b.own,int i64 b.pe,int i64 (-1),int i64 (-1)] 203)).heap[wr.heap.size]?=some (.cells #[int i64 b.name,int i64 b.who,.string b.own,.slice V b.lgn Z,int i64 b.pe,int i64 b.len,int i64 b.hei,int i64 b.cl,.bool b.all,int i64 b.be,int i64 b.state,int i64 b.unt,int i64 b.price] 150 (0,0)):=zd (heap_alloc_new wr _) _;have bR:((wr.alloc (.cells #[int i64 b.name,int i64 b.who,.string b.own,.slice V b.lgn Z,int i64 b.pe,int i64 b.len,int i64 b.hei,int i64 b.cl,.bool b.all,int i64 b.be,int i64 b.state,int i64 b.unt,int i64 b.price] 150)).alloc (.cells #[int i64 b.name,.string b.own,int i64 b.pe,int i64 (-1),int i64 (-1)] 203)).heap[wr.heap.size+1]?=some (.cells #[int i64 b.name,.string b.own,int i64 b.pe,int i64 (-1),int i64 (-1)] 203 (0,0)):=by simpa using heap_alloc_new (wr.alloc _) _
   have b8:Below wc.heap.size wc ((wr.alloc (.cells #[int i64 b.name,int i64 b.who,.string b.own,.slice V b.lgn Z,int i64 b.pe,int i64 b.len,int i64 b.hei,int i64 b.cl,.bool b.all,int i64 b.be,int i64 b.state,int i64 b.unt,int i64 b.price] 150)).alloc (.cells #[int i64 b.name,.string b.own,int i64 b.pe,int i64 (-1),int i64 (-1)] 203)):=zk (zk f _) _;have M:=zo (zk (zk (Below.refl _ wr) (.cells #[int i64 b.name,int i64 b.who,.string b.own,.slice V b.lgn Z,int i64 b.pe,int i64 b.len,int i64 b.hei,int i64 b.cl,.bool b.all,int i64 b.be,int i64 b.state,int i64 b.unt,int i64 b.price] 150)) (.cells #[int i64 b.name,.string b.own,int i64 b.pe,int i64 (-1),int i64 (-1)] 203)) b0;have b6:Hid (∀ g,u5.ownBlock=some g->g<wr.heap.size):=fun g hg=>(b0.lt g hg).2
   have e3:((wr.alloc (.cells #[int i64 b.name,int i64 b.who,.string b.own,.slice V b.lgn Z,int i64 b.pe,int i64 b.len,int i64 b.hei,int i64 b.cl,.bool b.all,int i64 b.be,int i64 b.state,int i64 b.unt,int i64 b.price] 150)).alloc (.cells #[int i64 b.name,.string b.own,int i64 b.pe,int i64 (-1),int i64 (-1)] 203)).cell? ⟨w.heap.size+1,0,none⟩=some (.slice Y l.stn a2):=za (zb a6.out b8) 0 _ rfl;have y1:=za bB 1 _ rfl;have k6:wc.heap.size<=wr.heap.size:=f.size;go_wp2_with fail;generalize hrb:wr.heap.size=F at bB bR b6 y1 k6 ⊢;generalize (wr.alloc (.cells #[int i64 b.name,int i64 b.who,.string b.own,.slice V b.lgn Z,int i64 b.pe,int i64 b.len,int i64 b.hei,int i64 b.cl,.bool b.all,int i64 b.be,int i64 b.state,int i64 b.unt,int i64 b.price] 150)).alloc (.cells #[int i64 b.name,.string b.own,int i64 b.pe,int i64 (-1),int i64 (-1)] 203)=R0 at bB bR b8 M e3 y1 ⊢;clear hrb c0 c1 c2 c3 c4 c5 c6 c7 c8 c9 j5 j6 j7 f i0 b0 e3 y1;refine(zbz Y l.stn a2 l.st b.who _ n2 (h0.out.below (ze a3 b8))).mono ?_;rintro e Y1 ⟨rfl,t⟩;have N:=zb bB t;have y:=zb bR t;have T:zx R0 Y1 (fun g=>g=F+1):=zx.of_below t
   have A:=ze b8 t;clear bB bR t b8;have l1:wc.heap.size<F+1:=by omega
   have e8:=hI (lane_ix g8.out b.who);have b4:=hI (cab_ix g8.out b.who);obtain⟨ln,f8⟩:∃ x,x=zas l.st b.who l.stn:=⟨_,rfl⟩;obtain⟨E,f6⟩:∃ x,x=QA l.ro b.who l.ron:=⟨_,rfl⟩;rw[← f8] at e8;rw[← f6] at b4;have d5:Hid (R i=⟨b.name,b.own,b.pe,ln,E⟩):=by show R i=_;rw[HR.out,← j1.out];unfold zhD;rw[f8,f6]
   clear f8 f6;have l0:¬ (w.heap.size+1=F+1):=by have:=zM a6.out;omega
   have b9:¬ (F=F+1):=by omega
   have f7:wc.heap.size<=F+1:=by omega
   by_cases hf1:zaj (Qc l.st) b.who l.stn<l.stn
   ·skip
    rw[zcz hf1];have b5:Hid (ln=(l.st (zaj (Qc l.st) b.who l.stn)).ln):=by have:=e8.out;rw[if_pos hf1] at this;exact this
    obtain⟨q1,e6⟩:∃ q,q=zaj (Qc l.st) b.who l.stn:=⟨_,rfl⟩;rw[← e6] at hf1 b5 ⊢;clear e6;obtain⟨tb,a5,rfl,g0,g1,_,_⟩:=h0.out q1 hf1;have d4:=World.block_lt_of_cell? w _ g0;have s1:Y1.cell? ⟨tb,a5+q1*4+1,none⟩=some (int i64 ln):=((ze a3 A).cell (p:=⟨tb,a5+q1*4+1,none⟩) d4).trans (by rw[b5.out];exact g1)
    have d0:decide (0<=(q1:Int))=true:=by simp
    have i1:(0:Int)<=(q1:Int):=by omega
    have i2:(q1:Int)<(l.stn:Int):=by omega
    have e3:=za (zb a6.out A) 0 _ rfl;have r3:=za y 3 _ rfl;have z3:=zg y 3;have G:=rowLn_set y (int i64 ln);have K:=zD N 3 (int i64 ln) b9;have H:=T.set (a:=⟨F+1,3,none⟩) rfl (int i64 ln);have s:Below wc.heap.size wc (Y1.setCell ⟨F+1,3,none⟩ (int i64 ln)):=A.setCell (p:=⟨F+1,3,none⟩) f7 _;have y1:=za K 1 _ rfl;have e4:=za (zb a6.out s) 1 _ rfl;go_wp2_with fail;generalize (Y1.setCell ⟨F+1,3,none⟩ (int i64 ln))=Z1 at G K H s y1 e4 ⊢;clear y N T A y1 e4 s1 d0 i1 i2 e3 r3 z3 g0 g1;refine(QF W l.ron a0 l.ro b.who _ n3 (d6.out.below (ze a3 s))).mono ?_;rintro e I ⟨rfl,t⟩;have N:=zb K t;have y:=zb G t;have T:zx R0 I (fun g=>g=F+1):=H.trans (zx.of_below t)
    have A:=ze s t;clear K G H s t
    by_cases hf2:zaj (ZV l.ro) b.who l.ron<l.ron
    ·skip
     rw[zcz hf2];have U:Hid (E=(l.ro (zaj (ZV l.ro) b.who l.ron)).cab):=by have:=b4.out;rw[if_pos hf2] at this;exact this
     obtain⟨q2,a4⟩:∃ q,q=zaj (ZV l.ro) b.who l.ron:=⟨_,rfl⟩;rw[← a4] at hf2 U ⊢;clear a4;obtain⟨tb,a5,rfl,g0,g1,_,_⟩:=d6.out q2 hf2;have d4:=World.block_lt_of_cell? w _ g0;have s1:I.cell? ⟨tb,a5+q2*4+1,none⟩=some (int i64 E):=((ze a3 A).cell (p:=⟨tb,a5+q2*4+1,none⟩) d4).trans (by rw[U.out];exact g1)
     have d0:decide (0<=(q2:Int))=true:=by simp
     have i1:(0:Int)<=(q2:Int):=by omega
     have i2:(q2:Int)<(l.ron:Int):=by omega
     have k7:=za (zb a6.out A) 1 _ rfl;have r3:=za y 4 _ rfl;have z3:=zg y 4;have G:=zib y (int i64 E);have K:=zD N 4 (int i64 E) b9;have H:=T.set (a:=⟨F+1,4,none⟩) rfl (int i64 E);have s:Below wc.heap.size wc (I.setCell ⟨F+1,4,none⟩ (int i64 E)):=A.setCell (p:=⟨F+1,4,none⟩) f7 _;obtain⟨t0,t1,t2,t3,t4⟩:=ce5 G;have n:=H.own M (fun g hg e=>by have:=b6.out g hg;have e:g=F+1:=e;omega)
     have r:wc.heap.size<=((I.setCell ⟨F+1,4,none⟩ (int i64 E)).alloc (.cells #[int i64 b.name,.string b.own,int i64 b.pe,int i64 ln,int i64 E] 203)).heap.size:=(zk s _).size;have a7:Hid (∀ ad,(some ⟨(I.setCell ⟨F+1,4,none⟩ (int i64 E)).heap.size,0,none⟩:Option Addr)=some ad->∀ j u,([int i64 b.name,.string b.own,int i64 b.pe,int i64 ln,int i64 E]:List Value)[j]?=some u->((I.setCell ⟨F+1,4,none⟩ (int i64 E)).alloc (.cells #[int i64 b.name,.string b.own,int i64 b.pe,int i64 ln,int i64 E] 203)).cell? (ad.add j)=some u):=by
      intro ad e
      cases e
      exact World.news_of_block (heap_alloc_new (I.setCell ⟨F+1,4,none⟩ (int i64 E)) _)
     go_wp2_with (first|(at_builtin;refine zv _ (by rfl) (.tmp 67) (.tmp 69) 39 (by rfl) wc.heap.size 203 j0 (.agg #[int i64 0,.string ⟨#[]⟩,int i64 0,int i64 0,int i64 0]) 5 48 Tryz.underlying39 ji e0 e1 e2 rfl (by decide) _ i (qW R i) (by rfl) (n.alloc _) (some ⟨I.heap.size,0,none⟩) 1 1 [int i64 b.name,.string b.own,int i64 b.pe,int i64 ln,int i64 E] (by rfl) (fun h=>(by cases h)) (by rfl) (by simpa using a7.out) (by intro u hu;simp at hu;rcases hu with rfl|rfl|rfl|rfl|rfl <;> rfl) (by unfold maxLen;omega) (by omega) (by first|exact r|simpa using r) ?_;intro v' w3 a9 a8))
     go_roundw
     case rel =>
      refine⟨i+1,by omega,by go_num,?_,(zk s _).grown a8 r (fun j hj=>(n.lt j hj).1)⟩
      rw[zbd,d5.out];exact a9
     case measure=>simp[intOf];omega
    ·skip
     have U:Hid (E=-1):=by have:=b4.out;rw[if_neg hf2] at this;exact this
     have d3:=zcA hf2;rw[d3];clear d3;have G:=y;have K:=N;have H:=T;have s:=A;obtain⟨t0,t1,t2,t3,t4⟩:=ce5 G;have n:=H.own M (fun g hg e=>by have:=b6.out g hg;have e:g=F+1:=e;omega)
     have r:wc.heap.size<=(I.alloc (.cells #[int i64 b.name,.string b.own,int i64 b.pe,int i64 ln,int i64 (-1)] 203)).heap.size:=(zk s _).size;have a7:Hid (∀ ad,(some ⟨I.heap.size,0,none⟩:Option Addr)=some ad->∀ j u,([int i64 b.name,.string b.own,int i64 b.pe,int i64 ln,int i64 (-1)]:List Value)[j]?=some u->(I.alloc (.cells #[int i64 b.name,.string b.own,int i64 b.pe,int i64 ln,int i64 (-1)] 203)).cell? (ad.add j)=some u):=by
      intro ad e
      cases e
      exact World.news_of_block (heap_alloc_new I _)
     go_wp2_with (first|(at_builtin;refine zv _ (by rfl) (.tmp 67) (.tmp 69) 39 (by rfl) wc.heap.size 203 j0 (.agg #[int i64 0,.string ⟨#[]⟩,int i64 0,int i64 0,int i64 0]) 5 48 Tryz.underlying39 ji e0 e1 e2 rfl (by decide) _ i (qW R i) (by rfl) (n.alloc _) (some ⟨I.heap.size,0,none⟩) 1 1 [int i64 b.name,.string b.own,int i64 b.pe,int i64 ln,int i64 (-1)] (by rfl) (fun h=>(by cases h)) (by rfl) (by exact a7.out) (by intro u hu;simp at hu;rcases hu with rfl|rfl|rfl|rfl|rfl <;> rfl) (by unfold maxLen;omega) (by omega) (by first|exact r|simpa using r) ?_;intro v' w3 a9 a8))
     go_roundw
     case rel =>
      refine⟨i+1,by omega,by go_num,?_,(zk s _).grown a8 r (fun j hj=>(n.lt j hj).1)⟩
      rw[zbd,d5.out];rw[U.out];exact a9
     case measure=>simp[intOf];omega
   ·skip
    have b5:Hid (ln=-1):=by have:=e8.out;rw[if_neg hf1] at this;exact this
    have i3:=zcA hf1;rw[i3];clear i3;have G:=y;have K:=N;have H:=T;have s:=A;have y1:=za K 1 _ rfl;have e4:=za (zb a6.out s) 1 _ rfl;go_wp2_with fail;clear y N T A y1 e4 ;refine(QF W l.ron a0 l.ro b.who _ n3 (d6.out.below (ze a3 s))).mono ?_;rintro e I ⟨rfl,t⟩;have N:=zb K t;have y:=zb G t;have T:zx R0 I (fun g=>g=F+1):=H.trans (zx.of_below t)
    have A:=ze s t;clear K G H s t
    by_cases hf2:zaj (ZV l.ro) b.who l.ron<l.ron
    ·skip
     rw[zcz hf2];have U:Hid (E=(l.ro (zaj (ZV l.ro) b.who l.ron)).cab):=by have:=b4.out;rw[if_pos hf2] at this;exact this
     obtain⟨q2,a4⟩:∃ q,q=zaj (ZV l.ro) b.who l.ron:=⟨_,rfl⟩;rw[← a4] at hf2 U ⊢;clear a4;obtain⟨tb,a5,rfl,g0,g1,_,_⟩:=d6.out q2 hf2;have d4:=World.block_lt_of_cell? w _ g0;have s1:I.cell? ⟨tb,a5+q2*4+1,none⟩=some (int i64 E):=((ze a3 A).cell (p:=⟨tb,a5+q2*4+1,none⟩) d4).trans (by rw[U.out];exact g1)
     have d0:decide (0<=(q2:Int))=true:=by simp
     have i1:(0:Int)<=(q2:Int):=by omega
     have i2:(q2:Int)<(l.ron:Int):=by omega
     have k7:=za (zb a6.out A) 1 _ rfl;have r3:=za y 4 _ rfl;have z3:=zg y 4;have G:=zib y (int i64 E);have K:=zD N 4 (int i64 E) b9;have H:=T.set (a:=⟨F+1,4,none⟩) rfl (int i64 E);have s:Below wc.heap.size wc (I.setCell ⟨F+1,4,none⟩ (int i64 E)):=A.setCell (p:=⟨F+1,4,none⟩) f7 _;obtain⟨t0,t1,t2,t3,t4⟩:=ce5 G;have n:=H.own M (fun g hg e=>by have:=b6.out g hg;have e:g=F+1:=e;omega)
     have r:wc.heap.size<=((I.setCell ⟨F+1,4,none⟩ (int i64 E)).alloc (.cells #[int i64 b.name,.string b.own,int i64 b.pe,int i64 (-1),int i64 E] 203)).heap.size:=(zk s _).size;have a7:Hid (∀ ad,(some ⟨(I.setCell ⟨F+1,4,none⟩ (int i64 E)).heap.size,0,none⟩:Option Addr)=some ad->∀ j u,([int i64 b.name,.string b.own,int i64 b.pe,int i64 (-1),int i64 E]:List Value)[j]?=some u->((I.setCell ⟨F+1,4,none⟩ (int i64 E)).alloc (.cells #[int i64 b.name,.string b.own,int i64 b.pe,int i64 (-1),int i64 E] 203)).cell? (ad.add j)=some u):=by
      intro ad e
      cases e
      exact World.news_of_block (heap_alloc_new (I.setCell ⟨F+1,4,none⟩ (int i64 E)) _)
     go_wp2_with (first|(at_builtin;refine zv _ (by rfl) (.tmp 67) (.tmp 69) 39 (by rfl) wc.heap.size 203 j0 (.agg #[int i64 0,.string ⟨#[]⟩,int i64 0,int i64 0,int i64 0]) 5 48 Tryz.underlying39 ji e0 e1 e2 rfl (by decide) _ i (qW R i) (by rfl) (n.alloc _) (some ⟨I.heap.size,0,none⟩) 1 1 [int i64 b.name,.string b.own,int i64 b.pe,int i64 (-1),int i64 E] (by rfl) (fun h=>(by cases h)) (by rfl) (by simpa using a7.out) (by intro u hu;simp at hu;rcases hu with rfl|rfl|rfl|rfl|rfl <;> rfl) (by unfold maxLen;omega) (by omega) (by first|exact r|simpa using r) ?_;intro v' w3 a9 a8))
     go_roundw
     case rel =>
      refine⟨i+1,by omega,by go_num,?_,(zk s _).grown a8 r (fun j hj=>(n.lt j hj).1)⟩
      rw[zbd,d5.out];rw[b5.out];exact a9
     case measure=>simp[intOf];omega
    ·skip
     have U:Hid (E=-1):=by have:=b4.out;rw[if_neg hf2] at this;exact this
     have d3:=zcA hf2;rw[d3];clear d3;have G:=y;have K:=N;have H:=T;have s:=A;obtain⟨t0,t1,t2,t3,t4⟩:=ce5 G;have n:=H.own M (fun g hg e=>by have:=b6.out g hg;have e:g=F+1:=e;omega)
     have r:wc.heap.size<=(I.alloc (.cells #[int i64 b.name,.string b.own,int i64 b.pe,int i64 (-1),int i64 (-1)] 203)).heap.size:=(zk s _).size;have a7:Hid (∀ ad,(some ⟨I.heap.size,0,none⟩:Option Addr)=some ad->∀ j u,([int i64 b.name,.string b.own,int i64 b.pe,int i64 (-1),int i64 (-1)]:List Value)[j]?=some u->(I.alloc (.cells #[int i64 b.name,.string b.own,int i64 b.pe,int i64 (-1),int i64 (-1)] 203)).cell? (ad.add j)=some u):=by
      intro ad e
      cases e
      exact World.news_of_block (heap_alloc_new I _)
     go_wp2_with (first|(at_builtin;refine zv _ (by rfl) (.tmp 67) (.tmp 69) 39 (by rfl) wc.heap.size 203 j0 (.agg #[int i64 0,.string ⟨#[]⟩,int i64 0,int i64 0,int i64 0]) 5 48 Tryz.underlying39 ji e0 e1 e2 rfl (by decide) _ i (qW R i) (by rfl) (n.alloc _) (some ⟨I.heap.size,0,none⟩) 1 1 [int i64 b.name,.string b.own,int i64 b.pe,int i64 (-1),int i64 (-1)] (by rfl) (fun h=>(by cases h)) (by rfl) (by exact a7.out) (by intro u hu;simp at hu;rcases hu with rfl|rfl|rfl|rfl|rfl <;> rfl) (by unfold maxLen;omega) (by omega) (by first|exact r|simpa using r) ?_;intro v' w3 a9 a8))
     go_roundw
     case rel =>
      refine⟨i+1,by omega,by go_num,?_,(zk s _).grown a8 r (fun j hj=>(n.lt j hj).1)⟩
      rw[zbd,d5.out];rw[b5.out];rw[U.out];exact a9
     case measure=>simp[intOf];omega
  ·obtain rfl:i=m:=by omega
   go_wp2;go_ret;refine⟨⟨_,rfl,?_⟩,i0⟩;rw[e5.out.1,zcX (S':=R) (fun j hj=>by rw[HR.out];exact j3.out j hj)]
   exact zu b0 a3.size
end
end Go.Proofs.YtmdnjgihooflfaaGreatDoor
