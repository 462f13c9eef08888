import Derived.Test.YtgmdnkngnhkgbaaGreatB25
import Derived.Test.YtgmdnkngnhkgbaaGreatB30
namespace Go.Proofs.YtgmdnkngnhkgbaaGreat
open Go.RowKit
open Go.Value (int)
open Go.IntKind (i64)
set_option maxHeartbeats 64000000
set_option maxRecDepth 1000000
def zei (x:qm)(res:Nat)(who:Int):Prop :=
 if res=0 then Has (Zb x.st) x.stn who else if res=1 then Has (Zh x.ro) x.ron who else Has (ZG x.se) x.sen who
inductive QN (s:Sail) (w:Wk) (x:qm):qm->Prop
 | noStay (r:Nat) (e:w.res=0) (g:w.goes=true) (h:r<x.stn) (q:(x.st r).who=w.who):QN s w x (x.noStay r)
 | noRoom (r:Nat) (e:w.res=1) (g:w.goes=true) (h:r<x.ron) (q:(x.ro r).who=w.who):QN s w x (x.noRoom r)
 | noSeat (r:Nat) (e:w.res=2) (g:w.goes=true) (h:r<x.sen) (q:(x.se r).who=w.who):QN s w x (x.noSeat r)
 | addStay (k:Nat) (e:w.res=0) (g:w.goes=false) (h:Places s.la x.stn x.st w.who w.p.len w.p.hei k):QN s w x (x.addStay ⟨w.who,(k:Int),w.p.len,w.p.hei⟩)
 | addRoom (r:qH) (e:w.res=1) (g:w.goes=false) (q:r.who=w.who) (c:In r.who 1 9999) (a:¬ Has (Zh x.ro) x.ron r.who) (b:QA s.ca (qk s.ca x.ro x.ron) r):QN s w x (x.addRoom r)
 | addSeat (r:Qo) (e:w.res=2) (g:w.goes=false) (q:r.who=w.who) (hn:x.sen≠60) (c:In r.who 1 9999) (hm:In r.many 1 20) (a:¬ Has (ZG x.se) x.sen r.who) (b:ZD x.se x.sen+r.many<=s.most):QN s w x (x.addSeat r)
theorem QN.good {s:Sail}{w:Wk}{x a:qm}(h:QN s w x a)(hl:zV s x):zV s a:=by
 cases h with
 | noStay r e g h q=>exact hl.noStay h
 | noRoom r e g h q=>exact hl.noRoom h
 | noSeat r e g h q=>exact hl.noSeat h
 | addStay k e g h=>exact hl.addStay h
 | addRoom r e g q hw hh hs=>exact hl.addRoom hw hh hs
 | addSeat r e g q hn hw hm hh hs=>exact hl.addSeat hn hw hm hh hs
theorem zej {F G:Nat->Int}{n:Nat}{x:Int}(h:∀ j,j<n->G j=F j)(b:G n≠x):Has G (n+1) x↔Has F n x:=by
 constructor
 ·rintro⟨j,a,e⟩
  by_cases c:j=n
  ·subst c;exact absurd e b
  ·exact⟨j,by omega,by rw[← h j (by omega)];exact e⟩
 ·rintro⟨j,a,e⟩
  exact⟨j,by omega,by rw[h j a];exact e⟩
theorem QN.others {s:Sail}{w:Wk}{x i:qm}(h:QN s w x i){res:Nat}{who:Int}(hr:res<3)(b:res≠w.res∨who≠w.who):zei i res who↔zei x res who:=by
 obtain rfl|rfl|rfl:res=0∨res=1∨res=2:=by omega
 all_goals
  cases h with
  | noStay r e g h q =>
   first
   | exact Iff.rfl
   | (have a:(x.st r).who≠who:=fun c=>by rcases b with d | d;exact d e.symm;exact d (by rw[← c,q])
      have:=zef (S:=x.st) (n:=x.stn - 1) (r:=r) (by omega) a
      rw[show x.stn - 1+1=x.stn by omega] at this
      exact this)
  | noRoom r e g h q =>
   first
   | exact Iff.rfl
   | (have a:Zh x.ro r≠who:=fun c=>by rcases b with d | d;exact d e.symm;exact d (by rw[← c];exact q)
      have:=zcK (F:=Zh x.ro) (n:=x.ron - 1) (r:=r) (by omega) a
      rw[show x.ron - 1+1=x.ron by omega,← zeg] at this
      exact this)
  | noSeat r e g h q =>
   first
   | exact Iff.rfl
   | (have a:ZG x.se r≠who:=fun c=>by rcases b with d | d;exact d e.symm;exact d (by rw[← c];exact q)
      have:=zcK (F:=ZG x.se) (n:=x.sen - 1) (r:=r) (by omega) a
      rw[show x.sen - 1+1=x.sen by omega,← zeh] at this
      exact this)
  | addStay k e g h =>
   first
   | exact Iff.rfl
   | (have a:w.who≠who:=fun c=>by rcases b with d | d;exact d e.symm;exact d c.symm
      exact zej (fun j f=>by unfold Zb qm.addStay;dsimp only;rw[zfe f]) (by unfold Zb qm.addStay;dsimp only;rw[cat_n];exact a))
  | addRoom r e g q hw hh hs =>
   first
   | exact Iff.rfl
   | (have a:r.who≠who:=fun c=>by rcases b with d | d;exact d e.symm;exact d (by rw[← c,q])
      exact zej (fun j f=>by unfold Zh qm.addRoom;dsimp only;rw[Q2 f]) (by unfold Zh qm.addRoom;dsimp only;rw[zdL];exact a))
  | addSeat r e g q hn hw hm hh hs =>
   first
   | exact Iff.rfl
   | (have a:r.who≠who:=fun c=>by rcases b with d | d;exact d e.symm;exact d (by rw[← c,q])
      exact zej (fun j f=>by unfold ZG qm.addSeat;dsimp only;rw[zaL f]) (by unfold ZG qm.addSeat;dsimp only;rw[zbM];exact a))
def Apt (o:Off)(L:Nat->qm)(w:Wk):Prop:=w.res<3/\∀ k,k<o.san->(o.sa k).id=w.leg->if w.goes=true then zei (L k) w.res w.who else ¬ zei (L k) w.res w.who
def zcQ (a b:Wk):Prop:=a.leg≠b.leg∨a.res≠b.res∨a.who≠b.who
def zcs (L:Nat->qm)(k:Nat)(x:qm)(j:Nat):qm:=if j=k then x else L j
theorem Apt.after {o:Off}{L:Nat->qm}{w v:Wk}{k:Nat}{x:qm}(h:Apt o L v)(i:(o.sa k).id=w.leg)(l:QN (o.sa k) w (L k) x)(f:zcQ v w):Apt o (zcs L k x) v:=by
 refine⟨h.1,fun j g e=>?_⟩
 have a:=h.2 j g e;unfold zcs
 by_cases c:j=k
 ·subst c
  rw[if_pos rfl];have b:v.res≠w.res∨v.who≠w.who:=by
   rcases f with d|d
   ·exact absurd (by rw[← e,i]) d
   ·exact d
  rw[l.others h.1 b];exact a
 ·rw[if_neg c]
  exact a
theorem zgN {o:Off}{L:Nat->qm}{w:Wk}{k:Nat}{x:qm}(h:∀ j,j<o.san->zV (o.sa j) (L j))(b:QN (o.sa k) w (L k) x):∀ j,j<o.san->zV (o.sa j) (zcs L k x j):=by
 intro j a;unfold zcs
 by_cases c:j=k
 ·subst c;rw[if_pos rfl];exact b.good (h j a)
 ·rw[if_neg c];exact h j a
theorem zby (goes:Bool)(who:Int)(p:ZO)(leg:Int):∀ j,(qs goes who p leg j).Pairwise zcQ
 | 0=>List.Pairwise.nil
 | j+1=>by
  have d:=zby goes who p leg j;unfold qs
  split
  ·refine List.pairwise_append.2 ⟨d,List.pairwise_singleton _ _,fun a e b c=>?_⟩
   have:=(Q5 e).2.1;simp at c;subst c;exact .inr (.inl (by show a.res≠j;omega))
  ·exact d
theorem Qm (goes:Bool)(who:Int)(p:ZO)(F:Nat->Int):∀ k,(∀ i,i<k->∀ j,j<i->F j≠F i)->(qJ goes who p F k).Pairwise zcQ
 | 0,_=>List.Pairwise.nil
 | k+1,h=>by
  unfold qJ;refine List.pairwise_append.2 ⟨Qm goes who p F k (fun i c=>h i (by omega)),zby _ _ _ _ _,fun a f b g=>?_⟩
  obtain⟨⟨i,c,e⟩,_⟩:=Ql f;have d:=(Q5 g).1;exact .inl (by rw[e,d];exact h k (by omega) i c)
theorem zfj {g h:Int}{p q:ZO}{c d:Nat->Int}{e f:Nat}(k:∀ i,i<e->∀ j,j<i->c j≠c i)(l:∀ i,i<f->∀ j,j<i->d j≠d i)(o:g≠h):(qJ true g p c e++qJ false h q d f).Pairwise zcQ:=by
 refine List.pairwise_append.2 ⟨Qm _ _ _ _ _ k,Qm _ _ _ _ _ l,fun a m b n=>?_⟩
 exact .inr (.inr (by rw[(Ql m).2.2.2.1,(Ql n).2.2.2.1];exact o))
theorem ql.apt_goes {o:Off}(h:ql o){m:Nat}(w:m<o.bkn)(hl:zaZ (o.bk m)){p:ZO}(b:p.len=(o.bk m).len)(f:p.cl=(o.bk m).cl){v:Wk}(y:v ∈ qJ true (o.bk m).who p (o.bk m).lg (o.bk m).lgn):Apt o o.ld v:=by
 have g:zai p.len p.cl 0=true->0<p.len:=by simp[zai]
 have j:zai p.len p.cl 1=true->0<p.cl:=by simp[zai]
 obtain⟨⟨i,t,e⟩,x,s,z,_,a⟩:=Ql y;refine⟨x,fun k u l=>?_⟩
 rw[if_pos s,z];obtain⟨n,q,r⟩:=h.here u w ⟨hl,i,t,by rw[l,e]⟩
 unfold zei
 by_cases c:v.res=0
 ·rw[if_pos c]
  rw[c] at a;exact q (by rw[← b];exact g a)
 ·rw[if_neg c]
  by_cases d:v.res=1
  ·rw[if_pos d]
   rw[d] at a;exact r (by rw[← f];exact j a)
  ·rw[if_neg d]
   exact n
theorem ql.apt_comes {o:Off}(h:ql o){x:Int}(l:∀ i,i<o.bkn->(o.bk i).who≠x){p:ZO}{F:Nat->Int}{n:Nat}{v:Wk}(g:v ∈ qJ false x p F n):Apt o o.ld v:=by
 obtain⟨_,f,d,j,_,_⟩:=Ql g;refine⟨f,fun k e _=>?_⟩
 rw[if_neg (by rw[d];decide),j]
 obtain⟨a,b,c⟩:=h.fresh l e;unfold zei
 split
 ·exact b
 ·split
  ·exact c
  ·exact a
theorem zeD (s:Sail)(l:qm)(m:Nat)(B:Nat->qi)(C:Nat->List Value)(d0 Q T R S f7:Option Addr)(d5 a3 a7 a5 a6 g9:Nat)(w:World)(hm:m<=1048576)(hl:qm.Short l 1048576)
  (f6:∀ j,j<l.ron->0<=(l.ro j).cab/\(l.ro j).cab<s.ca.n) (g2:zT w Q s.ca) (g5:qp w T l.stn l.st) (g3:qo w R l.ron l.ro) (g4:qx w S l.sen l.se) (hC:RecsAt w f7 m 13 C) (g1:∀ k,k<m->qi.Is w (C k) (B k)) :
  Calls Tryz.prog 13 #[.agg #[int i64 s.id,.string s.fr,.string s.dst,int i64 s.dep,int i64 s.arr,.slice d0 s.la.n d5,.slice Q s.ca.n a3,int i64 s.most],.agg #[.slice T l.stn a7,.slice R l.ron a5,.slice S l.sen a6],.slice f7 m g9] w fun e w'=>SaysIf (zcW s l m B) e/\Below w.heap.size w w':=by
 have e5:Hid (zT w Q s.ca):=g2;have e9:Hid (qp w T l.stn l.st):=g5;have e7:Hid (qo w R l.ron l.ro):=g3;have e8:Hid (qx w S l.sen l.se):=g4;have HC:Hid (RecsAt w f7 m 13 C):=hC;have HI:Hid (∀ k,k<m->qi.Is w (C k) (B k)):=g1;have e6:Hid (∀ j,j<l.ron->0<=(l.ro j).cab/\(l.ro j).cab<s.ca.n):=f6;have a2:Hid (qm.Short l 1048576):=hl;clear g2 g5 g3 g4 hC g1 f6 hl;have o:Below w.heap.size w ((w.alloc (.cells #[int i64 s.id,.string s.fr,.string s.dst,int i64 s.dep,int i64 s.arr,.slice d0 s.la.n d5,.slice Q s.ca.n a3,int i64 s.most] 33)).alloc (.cells #[.slice T l.stn a7,.slice R l.ron a5,.slice S l.sen a6] 55)):=zl (zl bZ _) _;have bS:((w.alloc (.cells #[int i64 s.id,.string s.fr,.string s.dst,int i64 s.dep,int i64 s.arr,.slice d0 s.la.n d5,.slice Q s.ca.n a3,int i64 s.most] 33)).alloc (.cells #[.slice T l.stn a7,.slice R l.ron a5,.slice S l.sen a6] 55)).heap[w.heap.size]?=some (.cells #[int i64 s.id,.string s.fr,.string s.dst,int i64 s.dep,int i64 s.arr,.slice d0 s.la.n d5,.slice Q s.ca.n a3,int i64 s.most] 33 (0,0)):=zc (heap_alloc_new w _) _;have bL:((w.alloc (.cells #[int i64 s.id,.string s.fr,.string s.dst,int i64 s.dep,int i64 s.arr,.slice d0 s.la.n d5,.slice Q s.ca.n a3,int i64 s.most] 33)).alloc (.cells #[.slice T l.stn a7,.slice R l.ron a5,.slice S l.sen a6] 55)).heap[w.heap.size+1]?=some (.cells #[.slice T l.stn a7,.slice R l.ron a5,.slice S l.sen a6] 55 (0,0)):=by simpa using heap_alloc_new (w.alloc _) _
 go_enter Tryz.func13,Tryz.ntmps13;go_wp2;generalize (w.alloc (.cells #[int i64 s.id,.string s.fr,.string s.dst,int i64 s.dep,int i64 s.arr,.slice d0 s.la.n d5,.slice Q s.ca.n a3,int i64 s.most] 33)).alloc (.cells #[.slice T l.stn a7,.slice R l.ron a5,.slice S l.sen a6] 55)=V at o bS bL ⊢;have a0:Hid (V.heap[w.heap.size]?=some (.cells #[int i64 s.id,.string s.fr,.string s.dst,int i64 s.dep,int i64 s.arr,.slice d0 s.la.n d5,.slice Q s.ca.n a3,int i64 s.most] 33 (0,0))):=bS;have O:Hid (V.heap[w.heap.size+1]?=some (.cells #[.slice T l.stn a7,.slice R l.ron a5,.slice S l.sen a6] 55 (0,0))):=bL;clear bS bL;go_loopw [7,8,10,13] (fun n1 n2 _ i wr=>∃ k:Nat,k<=m/\i=int i64 k/\n1=int i64 (cnt (fun j=>¬ zaq (B j)) k:Nat)/\n2=int i64 (cnt (fun j=>¬ QS (B j)) k:Nat)/\(∀ j,j<k->Holds s l (B j))/\Below V.heap.size V wr) (fun _ _ _ i _=>m - (intOf i).toNat)
 case atStart=>exact⟨0,Nat.zero_le _,rfl,rfl,rfl,fun j hj=>by omega,bZ⟩
 case round =>
  obtain⟨k,hk,rfl,rfl,rfl,f5,b5⟩:=hrel;have HA:Hid (∀ j,j<k->Holds s l (B j)):=f5;clear f5;obtain⟨m1,f2⟩:∃ x,x=cnt (fun j=>¬ zaq (B j)) k:=⟨_,rfl⟩
  obtain⟨m2,f4⟩:∃ x,x=cnt (fun j=>¬ QS (B j)) k:=⟨_,rfl⟩
  have l1:m1<=k:=by rw[f2];exact zdB _ _
  have l2:m2<=k:=by rw[f4];exact zdB _ _
  rw[← f2,← f4];have d9:Hid (m1=cnt (fun j=>¬ zaq (B j)) k):=f2
  have e0:Hid (m2=cnt (fun j=>¬ QS (B j)) k):=f4
  clear f2 f4
  by_cases hlt2:k<m
  ·have N:=zf o b5
   obtain⟨U,bo,rfl,hc⟩:=HC.out k hlt2;obtain⟨H,I,eC,_,_⟩:=HI.out k hlt2;obtain⟨b,hb⟩:∃ b,b=B k:=⟨_,rfl⟩;rw[← hb] at eC;have HB:Hid (b=B k):=hb;have E:U<w.heap.size:=World.block_lt_of_cell? w _ (hc 0 (by decide))
   have c0:wr.cell? ⟨U,bo+k*13,none⟩=some (int i64 b.name):=(N.cell (p:=⟨U,bo+k*13,none⟩) E).trans (by have:=hc 0 (by decide);rw[eC] at this;exact this)
   have c1:wr.cell? ⟨U,bo+k*13+1,none⟩=some (int i64 b.who):=(N.cell (p:=⟨U,bo+k*13+1,none⟩) E).trans (by have:=hc 1 (by decide);rw[eC] at this;exact this)
   have c2:wr.cell? ⟨U,bo+k*13+2,none⟩=some (.string b.own):=(N.cell (p:=⟨U,bo+k*13+2,none⟩) E).trans (by have:=hc 2 (by decide);rw[eC] at this;exact this)
   have c3:wr.cell? ⟨U,bo+k*13+3,none⟩=some (.slice H b.lgn I):=(N.cell (p:=⟨U,bo+k*13+3,none⟩) E).trans (by have:=hc 3 (by decide);rw[eC] at this;exact this)
   have c4:wr.cell? ⟨U,bo+k*13+4,none⟩=some (int i64 b.pe):=(N.cell (p:=⟨U,bo+k*13+4,none⟩) E).trans (by have:=hc 4 (by decide);rw[eC] at this;exact this)
   have c5:wr.cell? ⟨U,bo+k*13+5,none⟩=some (int i64 b.len):=(N.cell (p:=⟨U,bo+k*13+5,none⟩) E).trans (by have:=hc 5 (by decide);rw[eC] at this;exact this)
   have c6:wr.cell? ⟨U,bo+k*13+6,none⟩=some (int i64 b.hei):=(N.cell (p:=⟨U,bo+k*13+6,none⟩) E).trans (by have:=hc 6 (by decide);rw[eC] at this;exact this)
   have c7:wr.cell? ⟨U,bo+k*13+7,none⟩=some (int i64 b.cl):=(N.cell (p:=⟨U,bo+k*13+7,none⟩) E).trans (by have:=hc 7 (by decide);rw[eC] at this;exact this)
   have c8:wr.cell? ⟨U,bo+k*13+8,none⟩=some (.bool b.all):=(N.cell (p:=⟨U,bo+k*13+8,none⟩) E).trans (by have:=hc 8 (by decide);rw[eC] at this;exact this)
   have c9:wr.cell? ⟨U,bo+k*13+9,none⟩=some (int i64 b.be):=(N.cell (p:=⟨U,bo+k*13+9,none⟩) E).trans (by have:=hc 9 (by decide);rw[eC] at this;exact this)
   have g6:wr.cell? ⟨U,bo+k*13+10,none⟩=some (int i64 b.state):=(N.cell (p:=⟨U,bo+k*13+10,none⟩) E).trans (by have:=hc 10 (by decide);rw[eC] at this;exact this)
   have g7:wr.cell? ⟨U,bo+k*13+11,none⟩=some (int i64 b.unt):=(N.cell (p:=⟨U,bo+k*13+11,none⟩) E).trans (by have:=hc 11 (by decide);rw[eC] at this;exact this)
   have g8:wr.cell? ⟨U,bo+k*13+12,none⟩=some (int i64 b.price):=(N.cell (p:=⟨U,bo+k*13+12,none⟩) E).trans (by have:=hc 12 (by decide);rw[eC] at this;exact this)
   clear hc eC hb;have f8:=zl b5 (.cells #[int i64 b.name,int i64 b.who,.string b.own,.slice H b.lgn I,int i64 b.pe,int i64 b.len,int i64 b.hei,int i64 b.cl,.bool b.all,int i64 b.be,int i64 b.state,int i64 b.unt,int i64 b.price] 43);have d7:=heap_alloc_new wr (.cells #[int i64 b.name,int i64 b.who,.string b.own,.slice H b.lgn I,int i64 b.pe,int i64 b.len,int i64 b.hei,int i64 b.cl,.bool b.all,int i64 b.be,int i64 b.state,int i64 b.unt,int i64 b.price] 43);go_wp2_with fail;generalize hBx:wr.heap.size=Bx at d7 ⊢;generalize wr.alloc (.cells #[int i64 b.name,int i64 b.who,.string b.own,.slice H b.lgn I,int i64 b.pe,int i64 b.len,int i64 b.hei,int i64 b.cl,.bool b.all,int i64 b.be,int i64 b.state,int i64 b.unt,int i64 b.price] 43)=W at f8 d7 ⊢;clear hBx c0 c1 c2 c3 c4 c5 c6 c7 c8 c9 g6 g7 g8 b5 N;obtain⟨t1,f9⟩:∃ c,c=decide (¬ (b.len=0/\b.hei=0)):=⟨_,rfl⟩;have H1:Hid (t1=true↔¬ zaq b):=by show t1=true↔¬ zaq b;rw[f9,decide_eq_true_eq];exact Iff.rfl
   refine(zbf b.pe b.len b.hei b.cl b.all b.be _).mono ?_;rw[← f9];clear f9;rintro e W1 ⟨rfl,a⟩;have d8:=zf f8 a;have g:=zb d7 a;clear f8 d7 a W;obtain⟨t2,g0⟩:∃ c,c=decide (¬ (b.cl=0/\b.all=false/\b.be=0)):=⟨_,rfl⟩;have H2:Hid (t2=true↔¬ QS b):=by show t2=true↔¬ QS b;rw[g0,decide_eq_true_eq];exact Iff.rfl
   have f0:Hid (t2=decide (¬ (b.cl=0/\b.all=false/\b.be=0))):=g0;clear g0;have h0:IntKind.i64.wrap ((m1:Int)+1)=(m1:Int)+1:=by rw[IntKind.wrap_i64];omega
   have h2:IntKind.i64.wrap ((m2:Int)+1)=(m2:Int)+1:=by rw[IntKind.wrap_i64];omega
   have a1:Hid (k<m):=hlt2
   cases t1 with
   | true =>
    have e4:Hid (¬ zaq b):=H1.out.1 rfl;clear H1;have X:=za g 4 _ rfl;have Y:=za g 5 _ rfl;have Z:=za g 6 _ rfl;have y7:=za g 7 _ rfl;have y8:=za g 8 _ rfl;have y9:=za g 9 _ rfl;go_wp2_with fail;refine(ZZ b.pe b.len b.hei b.cl b.all b.be _).mono ?_;rw[← f0.out];rintro e W2 ⟨rfl,a⟩;have n:=zf d8 a;have t:=zb g a;clear X Y Z y7 y8 y9 d8 g a W1 f0
    cases t2 with
    | true =>
     have b9:Hid (¬ QS b):=H2.out.1 rfl;clear H2;obtain⟨y0,y1,y2,y3,X,Y,Z,y7,y8,y9,z,A,D⟩:=ce13 t;have s6:=za (zb a0.out n) 6 _ rfl;obtain⟨u,v,y⟩:=ce3 (zb O.out n);go_wp2_with fail;refine(QO b H I l T a7 _ a2.out.1 (e9.out.below (zf o n))).mono ?_;rintro e W3 ⟨⟨u0,rfl,a8⟩,a⟩;have K:Hid (u0=true↔zcm l b):=a8;have d:=zf n a;have q:=zb t a;clear y0 y1 y2 y3 X Y Z y7 y8 y9 z A D s6 u v y n t a a8 W2
     cases u0 with
     | false =>
      have J:Hid (¬ zcW s l m B):=fun h=>by have F:=(h.1 k a1.out).1;rw[← HB.out] at F;have:=K.out.2 F;cases this
      go_wp2;go_ret;exact⟨zk J.out,zf o d⟩
     | true =>
     have b6:Hid (zcm l b):=K.out.1 rfl;clear K;obtain⟨y0,y1,y2,y3,X,Y,Z,y7,y8,y9,z,A,D⟩:=ce13 q;have s6:=za (zb a0.out d) 6 _ rfl;obtain⟨u,v,y⟩:=ce3 (zb O.out d);go_wp2_with fail;refine(Qi b H I s l Q R a3 a5 _ a2.out.2.1 e6.out (e5.out.below (zf o d)) (e7.out.below (zf o d))).mono ?_;rintro e W4 ⟨⟨u1,rfl,a9⟩,a⟩;have L:Hid (u1=true↔zbD s l b):=a9;have f:=zf d a;have r:=zb q a;clear y0 y1 y2 y3 X Y Z y7 y8 y9 z A D s6 u v y d q a a9 W3
     cases u1 with
     | false =>
      have J:Hid (¬ zcW s l m B):=fun h=>by have F:=(h.1 k a1.out).2.1;rw[← HB.out] at F;have:=L.out.2 F;cases this
      go_wp2;go_ret;exact⟨zk J.out,zf o f⟩
     | true =>
     have b7:Hid (zbD s l b):=L.out.1 rfl;clear L;obtain⟨y0,y1,y2,y3,X,Y,Z,y7,y8,y9,z,A,D⟩:=ce13 r;have s6:=za (zb a0.out f) 6 _ rfl;obtain⟨u,v,y⟩:=ce3 (zb O.out f);go_wp2_with fail;refine(Qh b H I l S a6 _ a2.out.2.2 (e8.out.below (zf o f))).mono ?_;rintro e W5 ⟨⟨u2,rfl,b0⟩,a⟩;have M:Hid (u2=true↔zcn l b):=b0;have G:=zf f a;have d6:=zb r a;clear y0 y1 y2 y3 X Y Z y7 y8 y9 z A D s6 u v y f r a b0 W4
     cases u2 with
     | false =>
      have J:Hid (¬ zcW s l m B):=fun h=>by have F:=(h.1 k a1.out).2.2;rw[← HB.out] at F;have:=M.out.2 F;cases this
      go_wp2;go_ret;exact⟨zk J.out,zf o G⟩
     | true =>
     have b8:Hid (zcn l b):=M.out.1 rfl;clear M;go_wp2;go_roundw
     case rel=>exact⟨k+1,by omega,by go_num,by rw[Ze (P:=fun j=>¬ zaq (B j)) (by rw[← HB.out];exact e4.out),← d9.out];simp,by rw[Ze (P:=fun j=>¬ QS (B j)) (by rw[← HB.out];exact b9.out),← e0.out];simp,fun j hj=>by
      by_cases e:j=k
      ·subst e;rw[← HB.out];exact⟨b6.out,b7.out,b8.out⟩
      ·exact HA.out j (by omega),G⟩
     case measure=>simp[intOf];omega
    | false =>
     have b9:Hid (¬ ¬ QS b):=fun h=>by have:=H2.out.2 h;cases this
     clear H2;obtain⟨y0,y1,y2,y3,X,Y,Z,y7,y8,y9,z,A,D⟩:=ce13 t;have s6:=za (zb a0.out n) 6 _ rfl;obtain⟨u,v,y⟩:=ce3 (zb O.out n);go_wp2_with fail;refine(QO b H I l T a7 _ a2.out.1 (e9.out.below (zf o n))).mono ?_;rintro e W3 ⟨⟨u0,rfl,a8⟩,a⟩;have K:Hid (u0=true↔zcm l b):=a8;have d:=zf n a;have q:=zb t a;clear y0 y1 y2 y3 X Y Z y7 y8 y9 z A D s6 u v y n t a a8 W2
     cases u0 with
     | false =>
      have J:Hid (¬ zcW s l m B):=fun h=>by have F:=(h.1 k a1.out).1;rw[← HB.out] at F;have:=K.out.2 F;cases this
      go_wp2;go_ret;exact⟨zk J.out,zf o d⟩
     | true =>
     have b6:Hid (zcm l b):=K.out.1 rfl;clear K;obtain⟨y0,y1,y2,y3,X,Y,Z,y7,y8,y9,z,A,D⟩:=ce13 q;have s6:=za (zb a0.out d) 6 _ rfl;obtain⟨u,v,y⟩:=ce3 (zb O.out d);go_wp2_with fail;refine(Qi b H I s l Q R a3 a5 _ a2.out.2.1 e6.out (e5.out.below (zf o d)) (e7.out.below (zf o d))).mono ?_;rintro e W4 ⟨⟨u1,rfl,a9⟩,a⟩;have L:Hid (u1=true↔zbD s l b):=a9;have f:=zf d a;have r:=zb q a;clear y0 y1 y2 y3 X Y Z y7 y8 y9 z A D s6 u v y d q a a9 W3
     cases u1 with
     | false =>
      have J:Hid (¬ zcW s l m B):=fun h=>by have F:=(h.1 k a1.out).2.1;rw[← HB.out] at F;have:=L.out.2 F;cases this
      go_wp2;go_ret;exact⟨zk J.out,zf o f⟩
     | true =>
     have b7:Hid (zbD s l b):=L.out.1 rfl;clear L;obtain⟨y0,y1,y2,y3,X,Y,Z,y7,y8,y9,z,A,D⟩:=ce13 r;have s6:=za (zb a0.out f) 6 _ rfl;obtain⟨u,v,y⟩:=ce3 (zb O.out f);go_wp2_with fail;refine(Qh b H I l S a6 _ a2.out.2.2 (e8.out.below (zf o f))).mono ?_;rintro e W5 ⟨⟨u2,rfl,b0⟩,a⟩;have M:Hid (u2=true↔zcn l b):=b0;have G:=zf f a;have d6:=zb r a;clear y0 y1 y2 y3 X Y Z y7 y8 y9 z A D s6 u v y f r a b0 W4
     cases u2 with
     | false =>
      have J:Hid (¬ zcW s l m B):=fun h=>by have F:=(h.1 k a1.out).2.2;rw[← HB.out] at F;have:=M.out.2 F;cases this
      go_wp2;go_ret;exact⟨zk J.out,zf o G⟩
     | true =>
     have b8:Hid (zcn l b):=M.out.1 rfl;clear M;go_wp2;go_roundw
     case rel=>exact⟨k+1,by omega,by go_num,by rw[Ze (P:=fun j=>¬ zaq (B j)) (by rw[← HB.out];exact e4.out),← d9.out];simp,by rw[Zu (P:=fun j=>¬ QS (B j)) (by rw[← HB.out];exact b9.out),← e0.out],fun j hj=>by
      by_cases e:j=k
      ·subst e;rw[← HB.out];exact⟨b6.out,b7.out,b8.out⟩
      ·exact HA.out j (by omega),G⟩
     case measure=>simp[intOf];omega
   | false =>
    have e4:Hid (¬ ¬ zaq b):=fun h=>by have:=H1.out.2 h;cases this
    clear H1;have X:=za g 4 _ rfl;have Y:=za g 5 _ rfl;have Z:=za g 6 _ rfl;have y7:=za g 7 _ rfl;have y8:=za g 8 _ rfl;have y9:=za g 9 _ rfl;go_wp2_with fail;refine(ZZ b.pe b.len b.hei b.cl b.all b.be _).mono ?_;rw[← f0.out];rintro e W2 ⟨rfl,a⟩;have n:=zf d8 a;have t:=zb g a;clear X Y Z y7 y8 y9 d8 g a W1 f0
    cases t2 with
    | true =>
     have b9:Hid (¬ QS b):=H2.out.1 rfl;clear H2;obtain⟨y0,y1,y2,y3,X,Y,Z,y7,y8,y9,z,A,D⟩:=ce13 t;have s6:=za (zb a0.out n) 6 _ rfl;obtain⟨u,v,y⟩:=ce3 (zb O.out n);go_wp2_with fail;refine(QO b H I l T a7 _ a2.out.1 (e9.out.below (zf o n))).mono ?_;rintro e W3 ⟨⟨u0,rfl,a8⟩,a⟩;have K:Hid (u0=true↔zcm l b):=a8;have d:=zf n a;have q:=zb t a;clear y0 y1 y2 y3 X Y Z y7 y8 y9 z A D s6 u v y n t a a8 W2
     cases u0 with
     | false =>
      have J:Hid (¬ zcW s l m B):=fun h=>by have F:=(h.1 k a1.out).1;rw[← HB.out] at F;have:=K.out.2 F;cases this
      go_wp2;go_ret;exact⟨zk J.out,zf o d⟩
     | true =>
     have b6:Hid (zcm l b):=K.out.1 rfl;clear K;obtain⟨y0,y1,y2,y3,X,Y,Z,y7,y8,y9,z,A,D⟩:=ce13 q;have s6:=za (zb a0.out d) 6 _ rfl;obtain⟨u,v,y⟩:=ce3 (zb O.out d);go_wp2_with fail;refine(Qi b H I s l Q R a3 a5 _ a2.out.2.1 e6.out (e5.out.below (zf o d)) (e7.out.below (zf o d))).mono ?_;rintro e W4 ⟨⟨u1,rfl,a9⟩,a⟩;have L:Hid (u1=true↔zbD s l b):=a9;have f:=zf d a;have r:=zb q a;clear y0 y1 y2 y3 X Y Z y7 y8 y9 z A D s6 u v y d q a a9 W3
     cases u1 with
     | false =>
      have J:Hid (¬ zcW s l m B):=fun h=>by have F:=(h.1 k a1.out).2.1;rw[← HB.out] at F;have:=L.out.2 F;cases this
      go_wp2;go_ret;exact⟨zk J.out,zf o f⟩
     | true =>
     have b7:Hid (zbD s l b):=L.out.1 rfl;clear L;obtain⟨y0,y1,y2,y3,X,Y,Z,y7,y8,y9,z,A,D⟩:=ce13 r;have s6:=za (zb a0.out f) 6 _ rfl;obtain⟨u,v,y⟩:=ce3 (zb O.out f);go_wp2_with fail;refine(Qh b H I l S a6 _ a2.out.2.2 (e8.out.below (zf o f))).mono ?_;rintro e W5 ⟨⟨u2,rfl,b0⟩,a⟩;have M:Hid (u2=true↔zcn l b):=b0;have G:=zf f a;have d6:=zb r a;clear y0 y1 y2 y3 X Y Z y7 y8 y9 z A D s6 u v y f r a b0 W4
     cases u2 with
     | false =>
      have J:Hid (¬ zcW s l m B):=fun h=>by have F:=(h.1 k a1.out).2.2;rw[← HB.out] at F;have:=M.out.2 F;cases this
      go_wp2;go_ret;exact⟨zk J.out,zf o G⟩
     | true =>
     have b8:Hid (zcn l b):=M.out.1 rfl;clear M;go_wp2;go_roundw
     case rel=>exact⟨k+1,by omega,by go_num,by rw[Zu (P:=fun j=>¬ zaq (B j)) (by rw[← HB.out];exact e4.out),← d9.out],by rw[Ze (P:=fun j=>¬ QS (B j)) (by rw[← HB.out];exact b9.out),← e0.out];simp,fun j hj=>by
      by_cases e:j=k
      ·subst e;rw[← HB.out];exact⟨b6.out,b7.out,b8.out⟩
      ·exact HA.out j (by omega),G⟩
     case measure=>simp[intOf];omega
    | false =>
     have b9:Hid (¬ ¬ QS b):=fun h=>by have:=H2.out.2 h;cases this
     clear H2;obtain⟨y0,y1,y2,y3,X,Y,Z,y7,y8,y9,z,A,D⟩:=ce13 t;have s6:=za (zb a0.out n) 6 _ rfl;obtain⟨u,v,y⟩:=ce3 (zb O.out n);go_wp2_with fail;refine(QO b H I l T a7 _ a2.out.1 (e9.out.below (zf o n))).mono ?_;rintro e W3 ⟨⟨u0,rfl,a8⟩,a⟩;have K:Hid (u0=true↔zcm l b):=a8;have d:=zf n a;have q:=zb t a;clear y0 y1 y2 y3 X Y Z y7 y8 y9 z A D s6 u v y n t a a8 W2
     cases u0 with
     | false =>
      have J:Hid (¬ zcW s l m B):=fun h=>by have F:=(h.1 k a1.out).1;rw[← HB.out] at F;have:=K.out.2 F;cases this
      go_wp2;go_ret;exact⟨zk J.out,zf o d⟩
     | true =>
     have b6:Hid (zcm l b):=K.out.1 rfl;clear K;obtain⟨y0,y1,y2,y3,X,Y,Z,y7,y8,y9,z,A,D⟩:=ce13 q;have s6:=za (zb a0.out d) 6 _ rfl;obtain⟨u,v,y⟩:=ce3 (zb O.out d);go_wp2_with fail;refine(Qi b H I s l Q R a3 a5 _ a2.out.2.1 e6.out (e5.out.below (zf o d)) (e7.out.below (zf o d))).mono ?_;rintro e W4 ⟨⟨u1,rfl,a9⟩,a⟩;have L:Hid (u1=true↔zbD s l b):=a9;have f:=zf d a;have r:=zb q a;clear y0 y1 y2 y3 X Y Z y7 y8 y9 z A D s6 u v y d q a a9 W3
     cases u1 with
     | false =>
      have J:Hid (¬ zcW s l m B):=fun h=>by have F:=(h.1 k a1.out).2.1;rw[← HB.out] at F;have:=L.out.2 F;cases this
      go_wp2;go_ret;exact⟨zk J.out,zf o f⟩
     | true =>
     have b7:Hid (zbD s l b):=L.out.1 rfl;clear L;obtain⟨y0,y1,y2,y3,X,Y,Z,y7,y8,y9,z,A,D⟩:=ce13 r;have s6:=za (zb a0.out f) 6 _ rfl;obtain⟨u,v,y⟩:=ce3 (zb O.out f);go_wp2_with fail;refine(Qh b H I l S a6 _ a2.out.2.2 (e8.out.below (zf o f))).mono ?_;rintro e W5 ⟨⟨u2,rfl,b0⟩,a⟩;have M:Hid (u2=true↔zcn l b):=b0;have G:=zf f a;have d6:=zb r a;clear y0 y1 y2 y3 X Y Z y7 y8 y9 z A D s6 u v y f r a b0 W4
     cases u2 with
     | false =>
      have J:Hid (¬ zcW s l m B):=fun h=>by have F:=(h.1 k a1.out).2.2;rw[← HB.out] at F;have:=M.out.2 F;cases this
      go_wp2;go_ret;exact⟨zk J.out,zf o G⟩
     | true =>
     have b8:Hid (zcn l b):=M.out.1 rfl;clear M;go_wp2;go_roundw
     case rel=>exact⟨k+1,by omega,by go_num,by rw[Zu (P:=fun j=>¬ zaq (B j)) (by rw[← HB.out];exact e4.out),← d9.out],by rw[Zu (P:=fun j=>¬ QS (B j)) (by rw[← HB.out];exact b9.out),← e0.out],fun j hj=>by
      by_cases e:j=k
      ·subst e;rw[← HB.out];exact⟨b6.out,b7.out,b8.out⟩
      ·exact HA.out j (by omega),G⟩
     case measure=>simp[intOf];omega
  ·obtain rfl:k=m:=by omega
   obtain⟨u,v,y⟩:=ce3 (zb O.out b5);have HJ:Hid (zcW s l k B↔l.stn=m1/\l.ron=m2/\l.sen=k):=by
    show zcW s l k B↔l.stn=m1/\l.ron=m2/\l.sen=k
    unfold zcW;rw[← d9.out,← e0.out];exact⟨fun h=>h.2,fun h=>⟨HA.out,h⟩⟩
   have f1:=zf o b5;clear b5 d9 e0 HA
   by_cases v1:l.stn=m1
   case neg =>
    have e1:((l.stn:Int) == (m1:Int))=false:=by simp;omega
    have J:Hid (¬ zcW s l k B):=fun h=>v1 (HJ.out.1 h).1
    clear v1;go_wp2;go_ret;exact⟨zk J.out,f1⟩
   have e1:((l.stn:Int) == (m1:Int))=true:=by simp;omega
   by_cases v2:l.ron=m2
   case neg =>
    have e2:((l.ron:Int) == (m2:Int))=false:=by simp;omega
    have J:Hid (¬ zcW s l k B):=fun h=>v2 (HJ.out.1 h).2.1
    clear v1 v2;go_wp2;go_ret;exact⟨zk J.out,f1⟩
   have e2:((l.ron:Int) == (m2:Int))=true:=by simp;omega
   by_cases v3:l.sen=k
   case neg =>
    have e3:((l.sen:Int) == (k:Int))=false:=by simp;omega
    have J:Hid (¬ zcW s l k B):=fun h=>v3 (HJ.out.1 h).2.2
    clear v1 v2 v3;go_wp2;go_ret;exact⟨zk J.out,f1⟩
   have e3:((l.sen:Int) == (k:Int))=true:=by simp;omega
   have J:Hid (zcW s l k B):=HJ.out.2 ⟨v1,v2,v3⟩;clear v1 v2 v3;go_wp2;go_ret;exact⟨zI J.out,f1⟩
section
open Go.RowKit Classical
theorem lastLn_no {S:Nat->qW}{q:Int}{n:Nat}(h:∀ j,j<n->(S j).who≠q):ZM S q n=-1:=by
 induction n with
 | zero=>rfl
 | succ n ih=>rw[ZM,if_neg (h n (by omega)),ih (fun j hj=>h j (by omega))]
theorem lastLn_is {S:Nat->qW}{q:Int}{n i:Nat}(hi:i<n)(a:(S i).who=q)(h:∀ j,j<n->(S j).who=q->j=i):ZM S q n=(S i).ln:=by
 induction n with
 | zero=>omega
 | succ n ih =>
  by_cases c:(S n).who=q
  ·rw[ZM,if_pos c,h n (by omega) c]
  ·rw[ZM,if_neg c]
   exact ih (by have:i≠n:=fun e=>c (e ▸ a);omega) (fun j hj=>h j (by omega))
theorem zhe {S:Nat->qH}{q:Int}{n:Nat}(h:∀ j,j<n->(S j).who≠q):Zg S q n=-1:=by
 induction n with
 | zero=>rfl
 | succ n ih=>rw[Zg,if_neg (h n (by omega)),ih (fun j hj=>h j (by omega))]
theorem zhf {S:Nat->qH}{q:Int}{n i:Nat}(hi:i<n)(a:(S i).who=q)(h:∀ j,j<n->(S j).who=q->j=i):Zg S q n=(S i).cab:=by
 induction n with
 | zero=>omega
 | succ n ih =>
  by_cases c:(S n).who=q
  ·rw[Zg,if_pos c,h n (by omega) c]
  ·rw[Zg,if_neg c]
   exact ih (by have:i≠n:=fun e=>c (e ▸ a);omega) (fun j hj=>h j (by omega))
theorem lane_ix {s:Sail}{l:qm}(h:zV s l)(q:Int):ZM l.st q l.stn=if ZC (Zb l.st) q l.stn<l.stn then (l.st (ZC (Zb l.st) q l.stn)).ln else -1:=by
 have u1:∀ i,i<l.stn->¬ Has (Zb l.st) i (Zb l.st i):=fun i b=>(h.1.2.2.1 i b).2.2.2.2
 by_cases c:ZC (Zb l.st) q l.stn<l.stn
 ·rw[if_pos c];exact lastLn_is c (zaz (Zb l.st) q _ c) (fun j a e=>(zbE u1 a e).symm)
 ·rw[if_neg c];exact lastLn_no (fun j a e=>c ((zaA (Zb l.st) _ _).1 ⟨j,a,e⟩))
theorem cab_ix {s:Sail}{l:qm}(h:zV s l)(q:Int):Zg l.ro q l.ron=if ZC (Zh l.ro) q l.ron<l.ron then (l.ro (ZC (Zh l.ro) q l.ron)).cab else -1:=by
 have u1:∀ i,i<l.ron->¬ Has (Zh l.ro) i (Zh l.ro i):=fun i b=>(h.2.1.2.2.1 i b).1.2.1
 by_cases c:ZC (Zh l.ro) q l.ron<l.ron
 ·rw[if_pos c];exact zhf c (zaz (Zh l.ro) q _ c) (fun j a e=>(zbE u1 a e).symm)
 ·rw[if_neg c];exact zhe (fun j a e=>c ((zaA (Zh l.ro) _ _).1 ⟨j,a,e⟩))
theorem rowsL_on (l:qm)(S:Nat->qi)(z:Int)(n:Nat):(q9 l S z n).length=(onL (fun i=>OnB (S i) z) n).length/\∀ j,j<(onL (fun i=>OnB (S i) z) n).length->zbj (q9 l S z n) j=zck l (S (onI (fun i=>OnB (S i) z) n j)):=by
 induction n with
 | zero=>exact⟨rfl,fun j a=>by simp[onL] at a⟩
 | succ n ih =>
  obtain⟨c,f⟩:=ih
  by_cases h:OnB (S n) z
  ·have d:OnZ (S n) z:=h
   rw[zaE d,QR (P:=fun i=>OnB (S i) z) h,List.length_append,List.length_append,c]
   refine⟨rfl,fun j a=>?_⟩
   by_cases e:j=(onL (fun i=>OnB (S i) z) n).length
   ·subst e
    rw[zaM (fun i=>OnB (S i) z) h]
    unfold zbj;rw[← c];simp
   ·have b:j<(onL (fun i=>OnB (S i) z) n).length:=by simp at a;omega
    rw[zap _ b,← f j b];unfold zbj;rw[List.getD_eq_getElem?_getD,List.getD_eq_getElem?_getD,List.getElem?_append_left (by omega)]
  ·have d:¬ OnZ (S n) z:=h
   rw[zam d,zcg (P:=fun i=>OnB (S i) z) h]
   exact⟨c,fun j a=>by rw[zap _ a,← f j a]⟩
theorem rowLn_set {w:World}{g t:Nat}{u0 u1 u2 u3 u4:Value}(h:w.heap[g]?=some (.cells #[u0,u1,u2,u3,u4] t (0,0)))(v:Value):(w.setCell ⟨g,3,none⟩ v).heap[g]?=some (.cells #[u0,u1,u2,v,u4] t (0,0)):=by simpa using zt h 3 v
theorem zdS {w:World}{g t:Nat}{u0 u1 u2 u3 u4:Value}(h:w.heap[g]?=some (.cells #[u0,u1,u2,u3,u4] t (0,0)))(v:Value):(w.setCell ⟨g,4,none⟩ v).heap[g]?=some (.cells #[u0,u1,u2,u3,v] t (0,0)):=by simpa using zt h 4 v
theorem zhg (x:Off)(i7 i6 M:Option Addr)(a5 d5 U k:Nat)(w:World)(hs:Off.Short x 1048576)(j3:SailsAt w i7 x.san x.sa)(e6:Zw w i6 x.ldn x.ld)(l0:qK w M x.bkn x.bk)(l1:x.bkn<=30)(l2:k<x.san)(l3:x.ldn=x.san)(h3:zV (x.sa k) (x.ld k)) :
  Calls Tryz.prog 24 #[.agg #[.slice i7 x.san a5,.slice i6 x.ldn d5,.slice M x.bkn U],int i64 k] w fun e w'=>(∃ v,e=.returned v/\w'.ownsRow w.heap.size 45 5 v (q9 (x.ld k) x.bk (x.sa k).id x.bkn).length (qC (zbj (q9 (x.ld k) x.bk (x.sa k).id x.bkn)) (q9 (x.ld k) x.bk (x.sa k).id x.bkn).length))/\Below w.heap.size w w':=by
 obtain⟨j0,ji,e9,f1,f2⟩:=info_parts Tryz.infoRow;have i4:Hid (Off.Short x 1048576):=hs;obtain⟨sb,so,_,_,_,_,rfl,f0,_⟩:=j3 k l2;obtain⟨zi,j5⟩:∃ z,z=(x.sa k).id:=⟨_,rfl⟩;rw[← j5] at f0 ⊢;have l7:sb<w.heap.size:=World.block_lt_of_cell? w _ f0;obtain⟨D,hD,hJ⟩:=e6;obtain⟨lb,lo,rfl,W⟩:=hD k (by omega)
 obtain⟨l,e6⟩:∃ l,l=x.ld k:=⟨_,rfl⟩;obtain⟨S,a1,Q,a0,b5,b6,V,h5,j8,h4,j6,j4,j7⟩:=hJ k (by omega)
 have e7:=hs.2.1.2 k (by omega)
 rw[← e6] at V h5 j8 h4 j6 j4 j7 e7 h3 ⊢;have n2:l.stn<=1048576:=e7.1;have n3:l.ron<=1048576:=e7.2.1;have h6:lb<w.heap.size:=World.block_lt_of_cell? w _ (W 0 (by decide))
 have i5:Hid (qp w S l.stn l.st):=h5;have e5:Hid (qo w Q l.ron l.ro):=h4;have i3:Hid (zV (x.sa k) l):=h3;obtain⟨C,hC,i9⟩:=l0;have HC:Hid (RecsAt w M x.bkn 13 C):=hC;have HI:Hid (∀ k,k<x.bkn->qi.Is w (C k) (x.bk k)):=i9;have i0:Hid (w.cell? ⟨sb,so+k*8,none⟩=some (int i64 zi)):=f0;have d0:∀ o,(w.alloc o).cell? ⟨lb,lo+k*3,none⟩=some (.slice S l.stn a1):=fun o=>((zl (Below.refl _ w) o).cell (p:=⟨lb,lo+k*3,none⟩) h6).trans (by have:=W 0 (by decide);rw[V] at this;exact this)
 have d1:∀ o,(w.alloc o).cell? ⟨lb,lo+k*3+1,none⟩=some (.slice Q l.ron a0):=fun o=>((zl (Below.refl _ w) o).cell (p:=⟨lb,lo+k*3+1,none⟩) h6).trans (by have:=W 1 (by decide);rw[V] at this;exact this)
 have d2:∀ o,(w.alloc o).cell? ⟨lb,lo+k*3+2,none⟩=some (.slice b5 l.sen b6):=fun o=>((zl (Below.refl _ w) o).cell (p:=⟨lb,lo+k*3+2,none⟩) h6).trans (by have:=W 2 (by decide);rw[V] at this;exact this)
 obtain⟨P,hP⟩:∃ P:Nat->Prop,P=fun i=>OnB (x.bk i) zi:=⟨_,rfl⟩
 obtain⟨m,e8⟩:∃ m,m=(onL P x.bkn).length:=⟨_,rfl⟩;have l8:m<=30:=by rw[e8];exact Nat.le_trans (onL_le P _) l1
 have g3:Hid (m=(onL P x.bkn).length):=e8;have f6:Hid ((q9 l x.bk zi x.bkn).length=m/\∀ j,j<m->zbj (q9 l x.bk zi x.bkn) j=zck l (x.bk (onI P x.bkn j))):=by
  show(q9 l x.bk zi x.bkn).length=m/\∀ j,j<m->zbj (q9 l x.bk zi x.bkn) j=zck l (x.bk (onI P x.bkn j))
  rw[e8,hP];exact rowsL_on l x.bk zi x.bkn
 obtain⟨B,g5⟩:∃ B:Nat->qi,B=fun j=>x.bk (onI P x.bkn j):=⟨_,rfl⟩
 obtain⟨C',g6⟩:∃ C':Nat->List Value,C'=fun j=>C (onI P x.bkn j):=⟨_,rfl⟩
 have k4:Hid (∀ j,j<m->qi.Is w (C' j) (B j)):=fun j hj=>by
  rw[g6,g5];exact HI.out _ (zgC P x.bkn j (by rw[← g3.out];exact hj)).1
 have k5:Hid (∀ j,j<m->zbj (q9 l x.bk zi x.bkn) j=zck l (B j)):=fun j hj=>by rw[g5];exact f6.out.2 j hj
 have h9:Hid (∀ w',Below w.heap.size w w'->Calls Tryz.prog 14 #[.slice M x.bkn U,int i64 zi] w' fun e w2=>(∃ ao c,e=.returned (.slice ao m c)/\RecsAt w2 ao m 13 C')/\Below w'.heap.size w' w2):=fun w' h =>
  (zaU M x.bkn U x.bk C zi w' i4.out.2.2.1 i4.out.2.2.2 (HC.out.below h) (fun j hj=>(HI.out j hj).below h)).mono fun _ _ ⟨⟨ao,c,a,_,b⟩,d⟩=>by
   rw[g3.out,g6,hP];exact⟨⟨ao,c,a,RecsAt.of_own b⟩,d⟩
 have k0:(0:Int)<=(k:Int):=by omega
 have k1:(k:Int)<(x.ldn:Int):=by omega
 have k2:(k:Int)<(x.san:Int):=by omega
 clear l3 j3 hD hJ W V h5 j8 h4 j6 j4 j7 e7 hC i9 f0 e8 g5 g6 hP hs h3 j5 e6 HC HI g3;have d9:Below w.heap.size w ((w.alloc (.cells #[.slice (some ⟨sb,so,none⟩) x.san a5,.slice (some ⟨lb,lo,none⟩) x.ldn d5,.slice M x.bkn U] 27)).alloc (.cells #[.slice S l.stn a1,.slice Q l.ron a0,.slice b5 l.sen b6] 55)):=zl (zl bZ _) _;have bO:((w.alloc (.cells #[.slice (some ⟨sb,so,none⟩) x.san a5,.slice (some ⟨lb,lo,none⟩) x.ldn d5,.slice M x.bkn U] 27)).alloc (.cells #[.slice S l.stn a1,.slice Q l.ron a0,.slice b5 l.sen b6] 55)).heap[w.heap.size]?=some (.cells #[.slice (some ⟨sb,so,none⟩) x.san a5,.slice (some ⟨lb,lo,none⟩) x.ldn d5,.slice M x.bkn U] 27 (0,0)):=zc (heap_alloc_new w _) _;have bL:((w.alloc (.cells #[.slice (some ⟨sb,so,none⟩) x.san a5,.slice (some ⟨lb,lo,none⟩) x.ldn d5,.slice M x.bkn U] 27)).alloc (.cells #[.slice S l.stn a1,.slice Q l.ron a0,.slice b5 l.sen b6] 55)).heap[w.heap.size+1]?=some (.cells #[.slice S l.stn a1,.slice Q l.ron a0,.slice b5 l.sen b6] 55 (0,0)):=by simpa using heap_alloc_new (w.alloc _) _
 go_enter Tryz.func24,Tryz.ntmps24;go_upto_region 3 with fail;generalize (w.alloc (.cells #[.slice (some ⟨sb,so,none⟩) x.san a5,.slice (some ⟨lb,lo,none⟩) x.ldn d5,.slice M x.bkn U] 27)).alloc (.cells #[.slice S l.stn a1,.slice Q l.ron a0,.slice b5 l.sen b6] 55)=X at d9 bO bL ⊢;clear d0 d1 d2;have BW:Hid (∀ w',Below X.heap.size X w'->Below w.heap.size w w'):=fun w' h=>zf d9 h
 have KS:Hid (∀ w',Below X.heap.size X w'->(w'.cell? ⟨w.heap.size,0,none⟩=some (.slice (some ⟨sb,so,none⟩) x.san a5)/\w'.cell? ⟨w.heap.size,2,none⟩=some (.slice M x.bkn U)/\w'.cell? ⟨sb,so+k*8,none⟩=some (int i64 zi))):=fun w' h=>by
  have g2:=zb bO h;exact⟨za g2 0 _ rfl,za g2 2 _ rfl,((zf d9 h).cell (p:=⟨sb,so+k*8,none⟩) l7).trans i0.out⟩
 go_cut [25,26,27] (fun v nn i wx=>∃ ao c,v=.slice ao m c/\nn=int i64 m/\i=int i64 0/\RecsAt wx ao m 13 C'/\Below X.heap.size X wx)
 case first =>
  go_region_held3 (fun w'=>w'.cell? ⟨w.heap.size,0,none⟩=some (.slice (some ⟨sb,so,none⟩) x.san a5)/\w'.cell? ⟨w.heap.size,2,none⟩=some (.slice M x.bkn U)/\w'.cell? ⟨sb,so+k*8,none⟩=some (int i64 zi))
   ((refine KS.out _ ?_;exact(by repeat(first|exact bZ|refine Below.drew ?_|refine zf ?_ g7))))
   (first|(go_at_call 14;refine Calls.mono (h9.out _ (BW.out _ (by repeat(first|exact bZ|refine Below.drew ?_|refine zf ?_ g7)))) ?_;rintro e w4 ⟨⟨g4,c4,rfl,l4⟩,g7⟩))
  all_goals
   go_wp2;go_meet;exact⟨g4,c4,rfl,rfl,rfl,RecsAt.below (w:=w4) l4 (by repeat(first|exact bZ|refine Below.drew ?_)),(by repeat(first|exact bZ|refine Below.drew ?_|refine zf ?_ g7))⟩
 case rest =>
 obtain⟨g4,c4,rfl,rfl,rfl,f8,g8⟩:=hcut;have k6:Hid (RecsAt wc g4 m 13 C'):=f8;have a6:=zf d9 g8;have i8:=zb bL g8;have a9:Hid (wc.heap[w.heap.size+1]?=some (.cells #[.slice S l.stn a1,.slice Q l.ron a0,.slice b5 l.sen b6] 55 (0,0))):=i8;clear f8 bO bL d9 g8 KS BW h9 i0 i8 k0 k1 k2;obtain⟨R,hR⟩:∃ R:Nat->zbi,R=fun j=>zck l (B j):=⟨_,rfl⟩
 have HR:Hid (∀ j,R j=zck l (B j)):=fun j=>by rw[hR]
 clear hR;go_wp2;go_loopw [5,8,9,10,11,27] (fun v _ _ _ _ q wr=>∃ i:Nat,i<=m/\q=int i64 i/\wr.ownsRow wc.heap.size 45 5 v i (qC R i)/\Below wc.heap.size wc wr) (fun _ _ _ _ _ q _=>m - (intOf q).toNat)
 case atStart=>exact⟨0,Nat.zero_le _,rfl,⟨rfl,.inl ⟨rfl,rfl⟩⟩,bZ⟩
 case round =>
  obtain⟨i,hi,rfl,b9,f⟩:=hrel;have j1:=zf a6 f
  by_cases hlt2:i<m
  ·obtain⟨J,L,rfl,W⟩:=k6.out i hlt2
   obtain⟨b,g9⟩:∃ b,b=B i:=⟨_,rfl⟩;obtain⟨a2,a3,V,_,_⟩:=k4.out i hlt2;rw[← g9] at V;have j9:Hid (b=B i):=g9;have K:J<wc.heap.size:=World.block_lt_of_cell? wc _ (W 0 (by decide))
   have c0:wr.cell? ⟨J,L+i*13,none⟩=some (int i64 b.name):=(f.cell (p:=⟨J,L+i*13,none⟩) K).trans (by have:=W 0 (by decide);rw[V] at this;exact this)
   have c1:wr.cell? ⟨J,L+i*13+1,none⟩=some (int i64 b.who):=(f.cell (p:=⟨J,L+i*13+1,none⟩) K).trans (by have:=W 1 (by decide);rw[V] at this;exact this)
   have c2:wr.cell? ⟨J,L+i*13+2,none⟩=some (.string b.own):=(f.cell (p:=⟨J,L+i*13+2,none⟩) K).trans (by have:=W 2 (by decide);rw[V] at this;exact this)
   have c3:wr.cell? ⟨J,L+i*13+3,none⟩=some (.slice a2 b.lgn a3):=(f.cell (p:=⟨J,L+i*13+3,none⟩) K).trans (by have:=W 3 (by decide);rw[V] at this;exact this)
   have c4:wr.cell? ⟨J,L+i*13+4,none⟩=some (int i64 b.pe):=(f.cell (p:=⟨J,L+i*13+4,none⟩) K).trans (by have:=W 4 (by decide);rw[V] at this;exact this)
   have c5:wr.cell? ⟨J,L+i*13+5,none⟩=some (int i64 b.len):=(f.cell (p:=⟨J,L+i*13+5,none⟩) K).trans (by have:=W 5 (by decide);rw[V] at this;exact this)
   have c6:wr.cell? ⟨J,L+i*13+6,none⟩=some (int i64 b.hei):=(f.cell (p:=⟨J,L+i*13+6,none⟩) K).trans (by have:=W 6 (by decide);rw[V] at this;exact this)
   have c7:wr.cell? ⟨J,L+i*13+7,none⟩=some (int i64 b.cl):=(f.cell (p:=⟨J,L+i*13+7,none⟩) K).trans (by have:=W 7 (by decide);rw[V] at this;exact this)
   have c8:wr.cell? ⟨J,L+i*13+8,none⟩=some (.bool b.all):=(f.cell (p:=⟨J,L+i*13+8,none⟩) K).trans (by have:=W 8 (by decide);rw[V] at this;exact this)
   have c9:wr.cell? ⟨J,L+i*13+9,none⟩=some (int i64 b.be):=(f.cell (p:=⟨J,L+i*13+9,none⟩) K).trans (by have:=W 9 (by decide);rw[V] at this;exact this)
   have k7:wr.cell? ⟨J,L+i*13+10,none⟩=some (int i64 b.state):=(f.cell (p:=⟨J,L+i*13+10,none⟩) K).trans (by have:=W 10 (by decide);rw[V] at this;exact this)
   have k8:wr.cell? ⟨J,L+i*13+11,none⟩=some (int i64 b.unt):=(f.cell (p:=⟨J,L+i*13+11,none⟩) K).trans (by have:=W 11 (by decide);rw[V] at this;exact this)
   have k9:wr.cell? ⟨J,L+i*13+12,none⟩=some (int i64 b.price):=(f.cell (p:=⟨J,L+i*13+12,none⟩) K).trans (by have:=W 12 (by decide);rw[V] at this;exact this)
   clear W V g9;have bB:((wr.alloc (.cells #[int i64 b.name,int i64 b.who,.string b.own,.slice a2 b.lgn a3,int i64 b.pe,int i64 b.len,int i64 b.hei,int i64 b.cl,.bool b.all,int i64 b.be,int i64 b.state,int i64 b.unt,int i64 b.price] 43)).alloc (.cells #[int i64 b.name,.string b.own,int i64 b.pe,int i64 (-1),int i64 (-1)] 45)).heap[wr.heap.size]?=some (.cells #[int i64 b.name,int i64 b.who,.string b.own,.slice a2 b.lgn a3,int i64 b.pe,int i64 b.len,int i64 b.hei,int i64 b.cl,.bool b.all,int i64 b.be,int i64 b.state,int i64 b.unt,int i64 b.price] 43 (0,0)):=zc (heap_alloc_new wr _) _;have bR:((wr.alloc (.cells #[int i64 b.name,int i64 b.who,.string b.own,.slice a2 b.lgn a3,int i64 b.pe,int i64 b.len,int i64 b.hei,int i64 b.cl,.bool b.all,int i64 b.be,int i64 b.state,int i64 b.unt,int i64 b.price] 43)).alloc (.cells #[int i64 b.name,.string b.own,int i64 b.pe,int i64 (-1),int i64 (-1)] 45)).heap[wr.heap.size+1]?=some (.cells #[int i64 b.name,.string b.own,int i64 b.pe,int i64 (-1),int i64 (-1)] 45 (0,0)):=by simpa using heap_alloc_new (wr.alloc _) _
   have e0:Below wc.heap.size wc ((wr.alloc (.cells #[int i64 b.name,int i64 b.who,.string b.own,.slice a2 b.lgn a3,int i64 b.pe,int i64 b.len,int i64 b.hei,int i64 b.cl,.bool b.all,int i64 b.be,int i64 b.state,int i64 b.unt,int i64 b.price] 43)).alloc (.cells #[int i64 b.name,.string b.own,int i64 b.pe,int i64 (-1),int i64 (-1)] 45)):=zl (zl f _) _;have O:=zp (zl (zl (Below.refl _ wr) (.cells #[int i64 b.name,int i64 b.who,.string b.own,.slice a2 b.lgn a3,int i64 b.pe,int i64 b.len,int i64 b.hei,int i64 b.cl,.bool b.all,int i64 b.be,int i64 b.state,int i64 b.unt,int i64 b.price] 43)) (.cells #[int i64 b.name,.string b.own,int i64 b.pe,int i64 (-1),int i64 (-1)] 45)) b9;have d8:Hid (∀ g,u5.ownBlock=some g->g<wr.heap.size):=fun g hg=>(b9.lt g hg).2
   have f4:((wr.alloc (.cells #[int i64 b.name,int i64 b.who,.string b.own,.slice a2 b.lgn a3,int i64 b.pe,int i64 b.len,int i64 b.hei,int i64 b.cl,.bool b.all,int i64 b.be,int i64 b.state,int i64 b.unt,int i64 b.price] 43)).alloc (.cells #[int i64 b.name,.string b.own,int i64 b.pe,int i64 (-1),int i64 (-1)] 45)).cell? ⟨w.heap.size+1,0,none⟩=some (.slice S l.stn a1):=za (zb a9.out e0) 0 _ rfl;have y1:=za bB 1 _ rfl;have l5:wc.heap.size<=wr.heap.size:=f.size;go_wp2_with fail;generalize hrb:wr.heap.size=F at bB bR d8 y1 l5 ⊢;generalize (wr.alloc (.cells #[int i64 b.name,int i64 b.who,.string b.own,.slice a2 b.lgn a3,int i64 b.pe,int i64 b.len,int i64 b.hei,int i64 b.cl,.bool b.all,int i64 b.be,int i64 b.state,int i64 b.unt,int i64 b.price] 43)).alloc (.cells #[int i64 b.name,.string b.own,int i64 b.pe,int i64 (-1),int i64 (-1)] 45)=R0 at bB bR e0 O f4 y1 ⊢;clear hrb c0 c1 c2 c3 c4 c5 c6 c7 c8 c9 k7 k8 k9 f j1 b9 f4 y1;refine(Q8 S l.stn a1 l.st b.who _ n2 (i5.out.below (zf a6 e0))).mono ?_;rintro e Y1 ⟨rfl,t⟩;have T:=zb bB t;have y:=zb bR t;have Y:zA R0 Y1 (fun g=>g=F+1):=zA.of_below t
   have A:=zf e0 t;clear bB bR t e0;have m0:wc.heap.size<F+1:=by omega
   have f9:Hid (ZM l.st b.who l.stn=if ZC (Zb l.st) b.who l.stn<l.stn then (l.st (ZC (Zb l.st) b.who l.stn)).ln else -1):=lane_ix i3.out b.who;have d6:Hid (Zg l.ro b.who l.ron=if ZC (Zh l.ro) b.who l.ron<l.ron then (l.ro (ZC (Zh l.ro) b.who l.ron)).cab else -1):=cab_ix i3.out b.who;obtain⟨ln,h2⟩:∃ x,x=ZM l.st b.who l.stn:=⟨_,rfl⟩;obtain⟨E,h0⟩:∃ x,x=Zg l.ro b.who l.ron:=⟨_,rfl⟩;rw[← h2] at f9;rw[← h0] at d6;have e4:Hid (R i=⟨b.name,b.own,b.pe,ln,E⟩):=by show R i=_;rw[HR.out,← j9.out];unfold zck;rw[h2,h0]
   clear h2 h0;have l9:¬ (w.heap.size+1=F+1):=by have:=zQ a9.out;omega
   have e1:¬ (F=F+1):=by omega
   have h1:wc.heap.size<=F+1:=by omega
   by_cases hf1:ZC (Zb l.st) b.who l.stn<l.stn
   ·skip
    rw[Q9 hf1];have d7:Hid (ln=(l.st (ZC (Zb l.st) b.who l.stn)).ln):=by have:=f9.out;rw[if_pos hf1] at this;exact this
    obtain⟨q1,f7⟩:∃ q,q=ZC (Zb l.st) b.who l.stn:=⟨_,rfl⟩;rw[← f7] at hf1 d7 ⊢;clear f7;obtain⟨tb,a8,rfl,g0,g1,_,_⟩:=i5.out q1 hf1;have e3:=World.block_lt_of_cell? w _ g0;have s1:Y1.cell? ⟨tb,a8+q1*4+1,none⟩=some (int i64 ln):=((zf a6 A).cell (p:=⟨tb,a8+q1*4+1,none⟩) e3).trans (by rw[d7.out];exact g1)
    have d0:decide (0<=(q1:Int))=true:=by simp
    have i1:(0:Int)<=(q1:Int):=by omega
    have i2:(q1:Int)<(l.stn:Int):=by omega
    have f4:=za (zb a9.out A) 0 _ rfl;have r3:=za y 3 _ rfl;have z3:=ze y 3;have G:=rowLn_set y (int i64 ln);have N:=zB T 3 (int i64 ln) e1;have H:=Y.set (a:=⟨F+1,3,none⟩) rfl (int i64 ln);have s:Below wc.heap.size wc (Y1.setCell ⟨F+1,3,none⟩ (int i64 ln)):=A.setCell (p:=⟨F+1,3,none⟩) h1 _;have y1:=za N 1 _ rfl;have f5:=za (zb a9.out s) 1 _ rfl;go_wp2_with fail;generalize (Y1.setCell ⟨F+1,3,none⟩ (int i64 ln))=Z1 at G N H s y1 f5 ⊢;clear y T Y A y1 f5 s1 d0 i1 i2 f4 r3 z3 g0 g1;refine(Qx Q l.ron a0 l.ro b.who _ n3 (e5.out.below (zf a6 s))).mono ?_;rintro e I ⟨rfl,t⟩;have T:=zb N t;have y:=zb G t;have Y:zA R0 I (fun g=>g=F+1):=H.trans (zA.of_below t)
    have A:=zf s t;clear N G H s t
    by_cases hf2:ZC (Zh l.ro) b.who l.ron<l.ron
    ·skip
     rw[Q9 hf2];have Z:Hid (E=(l.ro (ZC (Zh l.ro) b.who l.ron)).cab):=by have:=d6.out;rw[if_pos hf2] at this;exact this
     obtain⟨q2,a7⟩:∃ q,q=ZC (Zh l.ro) b.who l.ron:=⟨_,rfl⟩;rw[← a7] at hf2 Z ⊢;clear a7;obtain⟨tb,a8,rfl,g0,g1,_,_⟩:=e5.out q2 hf2;have e3:=World.block_lt_of_cell? w _ g0;have s1:I.cell? ⟨tb,a8+q2*4+1,none⟩=some (int i64 E):=((zf a6 A).cell (p:=⟨tb,a8+q2*4+1,none⟩) e3).trans (by rw[Z.out];exact g1)
     have d0:decide (0<=(q2:Int))=true:=by simp
     have i1:(0:Int)<=(q2:Int):=by omega
     have i2:(q2:Int)<(l.ron:Int):=by omega
     have l6:=za (zb a9.out A) 1 _ rfl;have r3:=za y 4 _ rfl;have z3:=ze y 4;have G:=zdS y (int i64 E);have N:=zB T 4 (int i64 E) e1;have H:=Y.set (a:=⟨F+1,4,none⟩) rfl (int i64 E);have s:Below wc.heap.size wc (I.setCell ⟨F+1,4,none⟩ (int i64 E)):=A.setCell (p:=⟨F+1,4,none⟩) h1 _;obtain⟨t0,t1,t2,t3,t4⟩:=ce5 G;have n:=H.own O (fun g hg e=>by have:=d8.out g hg;have e:g=F+1:=e;omega)
     have r:wc.heap.size<=((I.setCell ⟨F+1,4,none⟩ (int i64 E)).alloc (.cells #[int i64 b.name,.string b.own,int i64 b.pe,int i64 ln,int i64 E] 45)).heap.size:=(zl s _).size;have b0:Hid (∀ ad,(some ⟨(I.setCell ⟨F+1,4,none⟩ (int i64 E)).heap.size,0,none⟩:Option Addr)=some ad->∀ j u,([int i64 b.name,.string b.own,int i64 b.pe,int i64 ln,int i64 E]:List Value)[j]?=some u->((I.setCell ⟨F+1,4,none⟩ (int i64 E)).alloc (.cells #[int i64 b.name,.string b.own,int i64 b.pe,int i64 ln,int i64 E] 45)).cell? (ad.add j)=some u):=by
      intro ad e
      cases e
      exact World.news_of_block (heap_alloc_new (I.setCell ⟨F+1,4,none⟩ (int i64 E)) _)
     go_wp2_with (first|(at_builtin;refine zu _ (by rfl) (.tmp 67) (.tmp 69) 34 (by rfl) wc.heap.size 45 j0 (.agg #[int i64 0,.string ⟨#[]⟩,int i64 0,int i64 0,int i64 0]) 5 48 Tryz.underlying34 ji e9 f1 f2 rfl (by decide) _ i (qC R i) (by rfl) (n.alloc _) (some ⟨I.heap.size,0,none⟩) 1 1 [int i64 b.name,.string b.own,int i64 b.pe,int i64 ln,int i64 E] (by rfl) (fun h=>(by cases h)) (by rfl) (by simpa using b0.out) (by intro u hu;simp at hu;rcases hu with rfl|rfl|rfl|rfl|rfl <;> rfl) (by unfold maxLen;omega) (by omega) (by first|exact r|simpa using r) ?_;intro v' w3 b8 b7))
     go_roundw
     case rel =>
      refine⟨i+1,by omega,by go_num,?_,(zl s _).grown b7 r (fun j hj=>(n.lt j hj).1)⟩
      rw[Qn,e4.out];exact b8
     case measure=>simp[intOf];omega
    ·skip
     have Z:Hid (E=-1):=by have:=d6.out;rw[if_neg hf2] at this;exact this
     have e2:=zaa hf2;rw[e2];clear e2;have G:=y;have N:=T;have H:=Y;have s:=A;obtain⟨t0,t1,t2,t3,t4⟩:=ce5 G;have n:=H.own O (fun g hg e=>by have:=d8.out g hg;have e:g=F+1:=e;omega)
     have r:wc.heap.size<=(I.alloc (.cells #[int i64 b.name,.string b.own,int i64 b.pe,int i64 ln,int i64 (-1)] 45)).heap.size:=(zl s _).size;have b0:Hid (∀ ad,(some ⟨I.heap.size,0,none⟩:Option Addr)=some ad->∀ j u,([int i64 b.name,.string b.own,int i64 b.pe,int i64 ln,int i64 (-1)]:List Value)[j]?=some u->(I.alloc (.cells #[int i64 b.name,.string b.own,int i64 b.pe,int i64 ln,int i64 (-1)] 45)).cell? (ad.add j)=some u):=by
      intro ad e
      cases e
      exact World.news_of_block (heap_alloc_new I _)
     go_wp2_with (first|(at_builtin;refine zu _ (by rfl) (.tmp 67) (.tmp 69) 34 (by rfl) wc.heap.size 45 j0 (.agg #[int i64 0,.string ⟨#[]⟩,int i64 0,int i64 0,int i64 0]) 5 48 Tryz.underlying34 ji e9 f1 f2 rfl (by decide) _ i (qC R i) (by rfl) (n.alloc _) (some ⟨I.heap.size,0,none⟩) 1 1 [int i64 b.name,.string b.own,int i64 b.pe,int i64 ln,int i64 (-1)] (by rfl) (fun h=>(by cases h)) (by rfl) (by exact b0.out) (by intro u hu;simp at hu;rcases hu with rfl|rfl|rfl|rfl|rfl <;> rfl) (by unfold maxLen;omega) (by omega) (by first|exact r|simpa using r) ?_;intro v' w3 b8 b7))
     go_roundw
     case rel =>
      refine⟨i+1,by omega,by go_num,?_,(zl s _).grown b7 r (fun j hj=>(n.lt j hj).1)⟩
      rw[Qn,e4.out];rw[Z.out];exact b8
     case measure=>simp[intOf];omega
   ·skip
    have d7:Hid (ln=-1):=by have:=f9.out;rw[if_neg hf1] at this;exact this
    have j2:=zaa hf1;rw[j2];clear j2;have G:=y;have N:=T;have H:=Y;have s:=A;have y1:=za N 1 _ rfl;have f5:=za (zb a9.out s) 1 _ rfl;go_wp2_with fail;clear y T Y A y1 f5 ;refine(Qx Q l.ron a0 l.ro b.who _ n3 (e5.out.below (zf a6 s))).mono ?_;rintro e I ⟨rfl,t⟩;have T:=zb N t;have y:=zb G t;have Y:zA R0 I (fun g=>g=F+1):=H.trans (zA.of_below t)
    have A:=zf s t;clear N G H s t
    by_cases hf2:ZC (Zh l.ro) b.who l.ron<l.ron
    ·skip
     rw[Q9 hf2];have Z:Hid (E=(l.ro (ZC (Zh l.ro) b.who l.ron)).cab):=by have:=d6.out;rw[if_pos hf2] at this;exact this
     obtain⟨q2,a7⟩:∃ q,q=ZC (Zh l.ro) b.who l.ron:=⟨_,rfl⟩;rw[← a7] at hf2 Z ⊢;clear a7;obtain⟨tb,a8,rfl,g0,g1,_,_⟩:=e5.out q2 hf2;have e3:=World.block_lt_of_cell? w _ g0;have s1:I.cell? ⟨tb,a8+q2*4+1,none⟩=some (int i64 E):=((zf a6 A).cell (p:=⟨tb,a8+q2*4+1,none⟩) e3).trans (by rw[Z.out];exact g1)
     have d0:decide (0<=(q2:Int))=true:=by simp
     have i1:(0:Int)<=(q2:Int):=by omega
     have i2:(q2:Int)<(l.ron:Int):=by omega
     have l6:=za (zb a9.out A) 1 _ rfl;have r3:=za y 4 _ rfl;have z3:=ze y 4;have G:=zdS y (int i64 E);have N:=zB T 4 (int i64 E) e1;have H:=Y.set (a:=⟨F+1,4,none⟩) rfl (int i64 E);have s:Below wc.heap.size wc (I.setCell ⟨F+1,4,none⟩ (int i64 E)):=A.setCell (p:=⟨F+1,4,none⟩) h1 _;obtain⟨t0,t1,t2,t3,t4⟩:=ce5 G;have n:=H.own O (fun g hg e=>by have:=d8.out g hg;have e:g=F+1:=e;omega)
     have r:wc.heap.size<=((I.setCell ⟨F+1,4,none⟩ (int i64 E)).alloc (.cells #[int i64 b.name,.string b.own,int i64 b.pe,int i64 (-1),int i64 E] 45)).heap.size:=(zl s _).size;have b0:Hid (∀ ad,(some ⟨(I.setCell ⟨F+1,4,none⟩ (int i64 E)).heap.size,0,none⟩:Option Addr)=some ad->∀ j u,([int i64 b.name,.string b.own,int i64 b.pe,int i64 (-1),int i64 E]:List Value)[j]?=some u->((I.setCell ⟨F+1,4,none⟩ (int i64 E)).alloc (.cells #[int i64 b.name,.string b.own,int i64 b.pe,int i64 (-1),int i64 E] 45)).cell? (ad.add j)=some u):=by
      intro ad e
      cases e
      exact World.news_of_block (heap_alloc_new (I.setCell ⟨F+1,4,none⟩ (int i64 E)) _)
     go_wp2_with (first|(at_builtin;refine zu _ (by rfl) (.tmp 67) (.tmp 69) 34 (by rfl) wc.heap.size 45 j0 (.agg #[int i64 0,.string ⟨#[]⟩,int i64 0,int i64 0,int i64 0]) 5 48 Tryz.underlying34 ji e9 f1 f2 rfl (by decide) _ i (qC R i) (by rfl) (n.alloc _) (some ⟨I.heap.size,0,none⟩) 1 1 [int i64 b.name,.string b.own,int i64 b.pe,int i64 (-1),int i64 E] (by rfl) (fun h=>(by cases h)) (by rfl) (by simpa using b0.out) (by intro u hu;simp at hu;rcases hu with rfl|rfl|rfl|rfl|rfl <;> rfl) (by unfold maxLen;omega) (by omega) (by first|exact r|simpa using r) ?_;intro v' w3 b8 b7))
     go_roundw
     case rel =>
      refine⟨i+1,by omega,by go_num,?_,(zl s _).grown b7 r (fun j hj=>(n.lt j hj).1)⟩
      rw[Qn,e4.out];rw[d7.out];exact b8
     case measure=>simp[intOf];omega
    ·skip
     have Z:Hid (E=-1):=by have:=d6.out;rw[if_neg hf2] at this;exact this
     have e2:=zaa hf2;rw[e2];clear e2;have G:=y;have N:=T;have H:=Y;have s:=A;obtain⟨t0,t1,t2,t3,t4⟩:=ce5 G;have n:=H.own O (fun g hg e=>by have:=d8.out g hg;have e:g=F+1:=e;omega)
     have r:wc.heap.size<=(I.alloc (.cells #[int i64 b.name,.string b.own,int i64 b.pe,int i64 (-1),int i64 (-1)] 45)).heap.size:=(zl s _).size;have b0:Hid (∀ ad,(some ⟨I.heap.size,0,none⟩:Option Addr)=some ad->∀ j u,([int i64 b.name,.string b.own,int i64 b.pe,int i64 (-1),int i64 (-1)]:List Value)[j]?=some u->(I.alloc (.cells #[int i64 b.name,.string b.own,int i64 b.pe,int i64 (-1),int i64 (-1)] 45)).cell? (ad.add j)=some u):=by
      intro ad e
      cases e
      exact World.news_of_block (heap_alloc_new I _)
     go_wp2_with (first|(at_builtin;refine zu _ (by rfl) (.tmp 67) (.tmp 69) 34 (by rfl) wc.heap.size 45 j0 (.agg #[int i64 0,.string ⟨#[]⟩,int i64 0,int i64 0,int i64 0]) 5 48 Tryz.underlying34 ji e9 f1 f2 rfl (by decide) _ i (qC R i) (by rfl) (n.alloc _) (some ⟨I.heap.size,0,none⟩) 1 1 [int i64 b.name,.string b.own,int i64 b.pe,int i64 (-1),int i64 (-1)] (by rfl) (fun h=>(by cases h)) (by rfl) (by exact b0.out) (by intro u hu;simp at hu;rcases hu with rfl|rfl|rfl|rfl|rfl <;> rfl) (by unfold maxLen;omega) (by omega) (by first|exact r|simpa using r) ?_;intro v' w3 b8 b7))
     go_roundw
     case rel =>
      refine⟨i+1,by omega,by go_num,?_,(zl s _).grown b7 r (fun j hj=>(n.lt j hj).1)⟩
      rw[Qn,e4.out];rw[d7.out];rw[Z.out];exact b8
     case measure=>simp[intOf];omega
  ·obtain rfl:i=m:=by omega
   go_wp2;go_ret;refine⟨⟨_,rfl,?_⟩,j1⟩;rw[f6.out.1,zbz (S':=R) (fun j hj=>by rw[HR.out];exact k5.out j hj)]
   exact zC b9 a6.size
end
end Go.Proofs.YtgmdnkngnhkgbaaGreat
