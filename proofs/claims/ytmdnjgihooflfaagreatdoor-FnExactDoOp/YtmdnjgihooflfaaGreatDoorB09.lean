/-
  OWN TEXT: KitEn, KitY, KitIt, SettB, PlainH2, PlainR5, PlainSe.
-/
import Derived.Test.YtmdnjgihooflfaaGreatDoorKitCo
import Derived.Deep.CutBlock
import Derived.Test.YtmdnjgihooflfaaGreatDoorB08
namespace Go.Proofs.YtmdnjgihooflfaaGreatDoor
open Go.RowKit
open Go.Value (int)
open Go.IntKind (i64)
open Tryz
set_option maxHeartbeats 64000000
set_option maxRecDepth 100000
section
open Go.RowKit
def zah (S:Nat->ql)(k:Nat)(b:ql)(i:Nat):ql:=if i=k then b else S i
theorem ZL (S:Nat->ql)(k:Nat)(b:ql):zah S k b k=b:=Jf rfl
theorem zaf (S:Nat->ql)(k:Nat)(b:ql){i:Nat}(h:i≠k):zah S k b i=S i:=Je h
theorem setB_setB (S:Nat->ql)(k:Nat)(a b:ql):zah (zah S k a) k b=zah S k b:=by
 funext i
 unfold zah
 split <;> rfl
def qx (b:ql)(a:Int)(y:OpD):ql :=
 if y.kind=4 then { b with state:=2,unt:=0 }
 else if y.kind=5 then { b with who:=a,lgn:=y.lgn,lg:=y.lg,pe:=y.pe,len:=y.len,hei:=y.hei,cl:=y.cl,all:=y.all,be:=y.be,price:=zE ⟨y.pe,y.len,y.hei,y.cl,y.all,y.be⟩ y.lgn }
 else if y.kind=6 then { b with state:=3,unt:=0 }
 else if y.kind=7 then { b with own:=y.own }
 else { b with state:=4 }
def Qf (n:Nat)(a:Int)(y:OpD):ql :=
 ⟨(n:Int)+1,a,y.own,y.lgn,y.lg,y.pe,y.len,y.hei,y.cl,y.all,y.be,if y.kind=2 then 1 else 2,if y.kind=2 then y.unt else 0,zE ⟨y.pe,y.len,y.hei,y.cl,y.all,y.be⟩ y.lgn⟩
theorem zfd (sz:Nat)(a:0<sz){C b:Nat->List Value}{f:Nat->Value}{k:Nat}(h1:∀ r,r<sz->f (k*sz+r)=(b k).getD r (.bool false))(h2:∀ j,j / sz≠k->f j=zZ sz C j)(h3:∀ i,i≠k->b i=C i)(j:Nat):f j=zZ sz b j:=by
 by_cases e:j / sz=k
 ·have c:j=k*sz+j % sz:=by rw[← e,Nat.mul_comm];exact(Nat.div_add_mod j sz).symm
  rw[c,h1 _ (Nat.mod_lt _ a),zC sz _ _ _ (Nat.mod_lt _ a)]
 ·rw[h2 j e]
  unfold zZ;rw[h3 _ e]
section
variable {w w' : World} {base g c k N : Nat} {S : Nat -> ql} {E : Nat -> Value} {u : Value} {y : ql}
theorem ZC.put (h:ZC w base (some (g,0),N,c) N S E)(s:zx w w' (λb=>b=g))(a:w'.ownsRow base 150 13 (some (g,0),N,c) N (zbg (zah S k y) (atV E k u) N))(t:w.ownsRow base 3 1 u y.lgn (zS y.lg y.lgn))(m:∀ i,i<N->i≠k->∀ b,(E i).ownBlock=some b->u.ownBlock≠some b) :
  ZC w' base (some (g,0),N,c) N (zah S k y) (atV E k u):=by
 have far:∀ {n} {v} {xs},_->w'.ownsRow base 3 1 v n xs:=λp=>s.own p (λq f l=>zI h.row p (by decide) q (by rw[l];rfl) f)
 refine⟨a,λi r=>?_,λi j d o b h1 h2=>?_⟩
 ·by_cases e:i=k
  ·subst e;rw[qu,ZL];exact far t
  ·rw[qf _ _ _ _ e,zaf _ _ _ e];exact far (h.legs i r)
 ·by_cases e:i=k
  ·subst e
   rw[qu] at h1;rw[qf _ _ _ _ (by omega)] at h2
   exact m j o (by omega) b h2 h1
  ·rw[qf _ _ _ _ e] at h1
   by_cases e2:j=k
   ·subst e2
    rw[qu] at h2;exact m i (by omega) e b h1 h2
   ·rw[qf _ _ _ _ e2] at h2
    exact h.apart i j d o b h1 h2
theorem ZC.far_same (h:ZC w base (some (g,0),N,c) N S E)(e:k<N):∀ i,i<N->i≠k->∀ b,(E i).ownBlock=some b->(E k).ownBlock≠some b:=λi d a b h1 h2=>by
 rcases Nat.lt_or_gt_of_ne a with c|c
 ·exact h.apart i k c e b h1 h2
 ·exact h.apart k i c d b h2 h1
end
section
variable {w w' : World} {base g c k n1 n2 n3 : Nat} {v1 v2 u : Value} {x : Off} {L C A B D E : Nat -> Value} {y : ql}
theorem zF.putBk (h:zF w base v1 v2 (some (g,0),n3,c) n1 n2 n3 x L C A B D E)(f:zx w w' (λb=>b=g))(a:w'.ownsRow base 150 13 (some (g,0),n3,c) n3 (zbg (zah x.bk k y) (atV E k u) n3))(l:w.ownsRow base 3 1 u y.lgn (zS y.lg y.lgn))(j:∀ i,i<n3->i≠k->∀ b,(E i).ownBlock=some b->u.ownBlock≠some b) :
  zF w' base v1 v2 (some (g,0),n3,c) n1 n2 n3 { x with bk:=zah x.bk k y } L C A B D (atV E k u) :=
 ⟨h.sa.other f (λq e=>by obtain⟨cs,d⟩:=zA h.bk.row q (by rw[show _ from e];rfl);exact⟨cs,_,d,by decide,by decide,by decide⟩),h.ld.other f (λq e=>by obtain⟨cs,d⟩:=zA h.bk.row q (by rw[show _ from e];rfl);exact⟨cs,_,d,by decide,by decide,by decide,by decide⟩),h.bk.put f a l j⟩
end
section
variable {w w' : World} {base k n1 n2 : Nat} {v1 v2 v3 v' lv : Value} {x : Off} {L C A B D E : Nat -> Value}
theorem zF.addBk {lim:Nat}{nb:ql}(h:zF w base v1 v2 v3 n1 n2 k x L C A B D E)(a:∀ i,i<k->∀ b,(E i).ownBlock=some b->b<lim)
  (n:w.ownsRow lim 3 1 lv nb.lgn (zS nb.lg nb.lgn)) (c:base<=lim) (g:w.grownBy w' v3.ownBlock)
  (d:w'.ownsRow base 150 13 v' (k+1) (zbg x.bk E k++bkC (zah x.bk k nb) (atV E k lv) k)):zF w' base v1 v2 v' n1 n2 (k+1) { x with bkn:=k+1,bk:=zah x.bk k nb } L C A B D (atV E k lv):=by
 have f:=h.bk.congr (S':=zah _ k nb) (λi hi=>(zaf _ _ _ (by omega)).symm)
 have h2:zF w _ v1 v2 v3 n1 n2 k { x with bkn:=k+1,bk:=zah _ k nb } L C A B D E:=⟨h.sa,h.ld,f⟩;have e:zbg _ E k=zbg (zah x.bk k nb) E k:=List.map_congr_left λj l=>by
  have m:=by simpa using l
  unfold zZ bkC;rw[zaf _ _ _ (show j / 13≠k by omega)]
 rw[e] at d;exact h2.book a (by show w.ownsRow lim 3 1 lv (zah _ k nb k).lgn (zS (zah _ k nb k).lg (zah _ k nb k).lgn);rw[ZL];exact n) c g d
end
def zdm (g base N f c:Nat)(b a:Option Addr)(T:Nat->Prop)(h:Off)(d name price:Int)(i:World->Value->Prop)(L C A B D:Nat->Value)(w:World)(e:Ending)(w':World):Prop :=
 ∃ abk cbk rv E,e=.returned (.agg #[d,name,price,rv])/\i w' rv/\zF w' base (b,N,f) (a,N,c) (abk,h.bkn,cbk) N N h.bkn h L C A B D E /\
  w'.heap[g]?=some (.cells #[.slice b N f,.slice a N c,.slice abk h.bkn cbk] 38 (0,0))/\zx w w' T
theorem zcJ {w:World}{g t:Nat}{u0 u1 u2 u3:Value}(h:w.heap[g]?=some (.cells #[u0,u1,u2,u3] t (0,0)))(v0 v1 v2 v3:Value):((((w.setCell (g,0) v0).setCell (g,1) v1).setCell (g,2) v2).setCell (g,3) v3).heap[g]?=some (.cells #[v0,v1,v2,v3] t (0,0)):=by
 simpa using zm (zm (zm (zm h 0 v0) 1 v1) 2 v2) 3 v3
theorem zaU (w:World)(g:Nat)(v0 v1 v2 v3:Value):zx w ((((w.setCell ⟨g,0,none⟩ v0).setCell ⟨g,1,none⟩ v1).setCell ⟨g,2,none⟩ v2).setCell ⟨g,3,none⟩ v3) (λb=>b=g):=((((zx.refl w (λb=>b=g)).set (a:=⟨g,0,none⟩) rfl v0).set (a:=⟨g,1,none⟩) rfl v1).set (a:=⟨g,2,none⟩) rfl v2).set (a:=⟨g,3,none⟩) rfl v3
theorem ans_at2 {w:World}{g t:Nat}{u0 u1 u2 u3:Value}(h:w.heap[g]?=some (.cells #[u0,u1,u2,u3] t (0,0)))(v:Value):(w.setCell (g,2) v).heap[g]?=some (.cells #[u0,u1,v,u3] t (0,0)):=by simpa using zm h 2 v
theorem keptN {w w':World}{T:Nat->Prop}(h:zx w w' T){b i:Nat}(hb:w.heap.size<=b)(u:Value):zx w (w'.setCell (b,i) u) T :=
 ⟨h.os,h.tape,h.output,by have:=h.size;simpa using this,λk a c=>(Below.heap_setCell w' (b,i) u k (by show k≠b;omega)).trans (h.block k a c)⟩
theorem ints_off {w w':World}{c:Option Addr}{n base gb:Nat}{F:Nat->Int}(g:zx w w' (λb=>b=gb))(h:zT w c n F)(e:0<n->∀ a,c=some a->a.block<base)(hg:base<=gb):zT w' c n F:=λk d=>by
 obtain⟨b,off,rfl,f⟩:=h k d;have hb:b<base:=e (by omega) _ rfl
 have i:=g.block b (Ja w _ f) (by show _;omega)
 refine⟨b,off,rfl,?_⟩;rw[← f];unfold World.cell?;simp only[i]
theorem QV {w w':World}{T:Nat->Prop}(h:zx w w' T){a:Addr}{v:Value}(b:w.cell? a=some v)(c:¬ T a.block):w'.cell? a=some v:=by
 have:=h.block _ (Ja w _ b) c;unfold World.cell? at b ⊢;rw[this];exact b
theorem zbC {w Z:World}{T:Nat->Prop}{g c base k l m:Nat}{v1 v2 v3 n o p u0 u1 u2 u3:Value}{x:Off}{L C A B D E:Nat->Value}(d:zx w Z T)(h:zF Z base v1 v2 v3 k l m x L C A B D E)(j:Z.heap[g]?=some (.cells #[n,o,p] 38 (0,0)))(b:Z.heap[c]?=some (.cells #[u0,u1,u2,u3] 41 (0,0)))(a:w.heap.size<=c)(i c1 c2 c3:Value){F:World}(q:F=(((Z.setCell ⟨c,0,none⟩ i).setCell ⟨c,1,none⟩ c1).setCell ⟨c,2,none⟩ c2).setCell ⟨c,3,none⟩ c3) :
  zF F base v1 v2 v3 k l m x L C A B D E/\F.heap[g]?=some (.cells #[n,o,p] 38 (0,0))/\zx w F T/\F.heap[c]?=some (.cells #[i,c1,c2,c3] 41 (0,0)):=by
 subst q;have f:g≠c:=λe=>by subst e;rw[j] at b;simp at b
 exact⟨h.box (zaU _ _ _ _ _ _) b (by decide),(zaU _ _ _ _ _ _).blk j f,keptN (keptN (keptN (keptN d a _) a _) a _) a _,zcJ b _ _ _ _⟩
theorem zgr {w Z:World}{T:Nat->Prop}{g h d base q r s:Nat}{v1 v2 v3 t u v u0 u1 u2 u3 y z I G:Value}{x:Off}{L C A B D E:Nat->Value}(k:zx w Z T)(m:zF Z base v1 v2 v3 q r s x L C A B D E)(o:Z.heap[g]?=some (.cells #[t,u,v] 38 (0,0)))(i:Z.heap[h]?=some (.cells #[u0,u1,u2,u3] 41 (0,0)))(c:Z.heap[d]?=some (.cells #[y,z,I,G] 41 (0,0)))(f:h≠d)(n:w.heap.size<=d)(p:Value){F:World}(H:F=Z.setCell (d,2) p) :
  zF F base v1 v2 v3 q r s x L C A B D E/\F.heap[g]?=some (.cells #[t,u,v] 38 (0,0))/\zx w F T/\F.heap[h]?=some (.cells #[u0,u1,u2,u3] 41 (0,0))/\F.heap[d]?=some (.cells #[y,z,p,G] 41 (0,0)):=by
 subst H;have l:g≠d:=λe=>by subst e;rw[o] at c;simp at c
 have j:=(zx.refl Z (λb=>b=d)).set (a:=(d,2)) rfl p
 exact⟨m.box j c (by decide),j.blk o l,keptN k n _,j.blk i f,ans_at2 c p⟩
end
section
open Go.RowKit
section
variable {P : Program} {ops : Array Oper} {Q : Exit -> Act -> World -> Prop} {md : Region.Mode} {S : World -> Prop} {z : Nat}
theorem ziB {i:Nat}{q:Oper}{v:Value}(C:ops[i]?=some q)(hz:z=ops.size)(n:∀ (j:Nat)(o:Oper) cs b,ops[j]?=some o->o.op≠.select cs b)
  (J:∀ c a w,Q (.panic c) (a.put q.dst v) w->Q (.panic c) a w) :
  ∀ (fuel:Nat) (d:Array Bool) (a:Act) (w:World),
   (∀ j p,ops[j]?=some p->j≠i->d.getD j true=false->(∀ e ∈ p.after,Region.binds md e=true->e.on≠i)->q.apart ops p=true) ->
   i ∈ Region.ready md ops d->YieldsIf P ops S q v a->S w ->
   QM P md ops Q S z fuel (d.setIfInBounds i true) (a.put q.dst v) w->QM P md ops Q S z (fuel+1) d a w:=by
 intro fuel
 induction fuel with
 | zero =>
  intro d a w _ hr y r H;refine⟨λh=>(by rw[h] at hr;cases hr),λj x=>?_⟩
  by_cases hji:j=i
  ·subst hji;exact y.wpOp C r ⟨λ_=>r,H⟩
  ·have:=ready_mono x hji
   rw[H.1] at this
   cases this
 | succ fuel ih =>
  intro d a w f hr y r H;refine⟨λh=>(by rw[h] at hr;cases hr),λj x=>?_⟩
  by_cases hji:j=i
  ·subst hji;exact y.wpOp C r ⟨λ_=>r,H⟩
  ·have h1:=H.2 j (ready_mono x hji)
   obtain⟨m,p,l,s⟩:=mem_ready.1 x;have D:j≠z:=λe=>by
    have:=(Array.getElem?_eq_some_iff.1 l).1
    omega
   have t:∀ e ∈ p.after,_->e.on≠i:=λe L K B=>by
    have h1:=s e L K;have G:=(mem_ready.1 hr).1;rw[B] at h1
    rcases Nat.lt_or_ge i d.size with A|A
    ·simp[A] at G h1;rw[G] at h1;cases h1
    ·simp[Array.getElem?_eq_none A] at h1
   have h2:=wpOp_putIf l (f j p l hji m t) (λcs b=>n i q cs b C) (λcs b=>n j p cs b l) J y h1
   have g:∀ k ok,_->_->(d.setIfInBounds j _).getD k _=false ->
     _:=λk ok M E u F=>by
    refine f k ok M E ?_ F
    by_cases hjk:j=k
    ·subst hjk;exact m
    ·rw[getD_set_ne _ hjk] at u;exact u
   refine wpOp_mono (λI w' h3=>⟨h3.2.1,ih _ I w' g (ready_mono hr (Ne.symm hji)) h3.1 (h3.2.1 D) ?_⟩) h2
   rw[Array.setIfInBounds_comm _ _ hji];exact h3.2.2
end
section
variable {P : Program} {l : List Oper} {Q : Exit -> Act -> World -> Prop} {md : Region.Mode} {S : World -> Prop} {z : Nat}
theorem zjZ {i:Nat}{e:Oper}{v:Value}{fuel:Nat}{b:List Bool}{a:Act}{w:World}(f:l[i]?=some e)
  (d:(Region.noSelect l.toArray && Region.free md l.toArray b.toArray i && (Region.ready md l.toArray b.toArray).contains i && (z == l.toArray.size))=true)
  (g:∀ c a w,Q (.panic c) (a.put e.dst v) w->Q (.panic c) a w) (k:YieldsIf P l.toArray S e v a) (j:S w)
  (h:QM P md l.toArray Q S z fuel (b.set i true).toArray (a.put e.dst v) w):QM P md l.toArray Q S z (fuel+1) b.toArray a w:=by
 rw[Bool.and_eq_true,Bool.and_eq_true,Bool.and_eq_true] at d;exact ziB (by simpa using f) (by simpa using d.2) (Region.noSelect_spec d.1.1.1) g _ _ a w (Region.free_spec (by simpa using f) d.1.1.2) (by simpa using d.1.2) k j (by simpa using h)
end
theorem tkN {P:Program}{l:List Oper}{Q:Exit->Act->World->Prop}{e:Region.Mode}{S:World->Prop}{z:Nat}(i:Nat){d:Oper}{v:Value}{fuel:Nat}{b:List Bool}{a:Act}{w:World}(j:l[i]?=some d)
  (k:(Region.noSelect l.toArray && Region.free e l.toArray b.toArray i && (Region.ready e l.toArray b.toArray).contains i && (z == l.toArray.size))=true)
  (f:∀ c a w,Q (.panic c) (a.put d.dst v) w->Q (.panic c) a w) (m:Region.wanted d (yielded l.toArray a.tmps)=true) (g:S w) (n:∀ w,S w->(execOp a.eval d).run P w=.ok (.value v) w)
  (h:QM P e l.toArray Q S z fuel (b.set i true).toArray (a.put d.dst v) w):QM P e l.toArray Q S z (fuel+1) b.toArray a w:=zjZ j k f (Or.inl ⟨m,n⟩) g h
end
section
open Go.RowKit
def nxt:List Oper->List Bool->Nat->Option (Nat × Oper)
 | o :: _,false :: _,i=>some (i,o)
 | _ :: l,true :: b,i=>nxt l b (i+1)
 | _,_,_=>none
theorem nxt_at:∀ (l:List Oper)(b:List Bool)(s i:Nat)(o:Oper),nxt l b s=some (i,o)->∃ j,i=s+j/\l[j]?=some o
 | o' :: l,false :: b,s,i,o,h=>by simp only[nxt,Option.some.injEq,Prod.mk.injEq] at h;obtain⟨rfl,rfl⟩:=h;exact⟨0,rfl,rfl⟩
 | o' :: l,true :: b,s,i,o,h=>by
  obtain⟨j,h1,h2⟩:=nxt_at l b (s+1) i o (by simpa only [nxt] using h)
  exact⟨j+1,by omega,by simpa using h2⟩
 | [],b,s,i,o,h=>by simp[nxt] at h
 | _ :: _,[],s,i,o,h=>by simp[nxt] at h
theorem nxt_get {l:List Oper}{b:List Bool}{k i:Nat}{o:Oper}(h:nxt (l.drop k) (b.drop k) k=some (i,o)):l[i]?=some o:=by
 obtain⟨j,rfl,h2⟩:=nxt_at _ _ _ _ _ h;rw[List.getElem?_drop] at h2;exact h2
section
variable {P : Program} {l : List Oper} {Q : Exit -> Act -> World -> Prop} {md : Region.Mode} {S : World -> Prop} {z : Nat}
theorem tFL (k:Nat){i:Nat}{d:Oper}{v:Value}{fuel:Nat}{b:List Bool}{a:Act}{w:World}(g:nxt (l.drop k) (b.drop k) k=some (i,d))
  (j:(Region.noSelect l.toArray && Region.free md l.toArray b.toArray i && (Region.ready md l.toArray b.toArray).contains i && (!(i == z) && zfc md l.toArray z && zoJ md l.toArray b.toArray && (z+1 == l.toArray.size)))=true)
  (e:∀ c a w,Q (.panic c) (a.put d.dst v) w->Q (.panic c) a w) (m:Region.wanted d (yielded l.toArray a.tmps)=true) (f:S w) (n:∀ w,S w->(execOp a.eval d).run P w=.ok (.value v) w)
  (h:QM P md l.toArray Q S z fuel (b.set i true).toArray (a.put d.dst v) w):QM P md l.toArray Q S z (fuel+1) b.toArray a w:=zjX (nxt_get g) j e (Or.inl ⟨m,n⟩) f h
theorem tFN (k:Nat){i:Nat}{d:Oper}{v:Value}{fuel:Nat}{b:List Bool}{a:Act}{w:World}(g:nxt (l.drop k) (b.drop k) k=some (i,d))
  (j:(Region.noSelect l.toArray && Region.free md l.toArray b.toArray i && (Region.ready md l.toArray b.toArray).contains i && (z == l.toArray.size))=true)
  (e:∀ c a w,Q (.panic c) (a.put d.dst v) w->Q (.panic c) a w) (m:Region.wanted d (yielded l.toArray a.tmps)=true) (f:S w) (n:∀ w,S w->(execOp a.eval d).run P w=.ok (.value v) w)
  (h:QM P md l.toArray Q S z fuel (b.set i true).toArray (a.put d.dst v) w):QM P md l.toArray Q S z (fuel+1) b.toArray a w:=zjZ (nxt_get g) j e (Or.inl ⟨m,n⟩) f h
end
end
section
open Go.RowKit
structure NBk (w u:World)(g f:Nat)(y:OpD)(d:Option Addr)(e:Nat)(h:Option (Option Addr × Nat))(i:Option Nat):Prop where
 bel:Below w.heap.size w u
 rl:w.heap.size<=f
 ban:Zq w
 far:Zu w
 pok:QU ⟨y.pe,y.len,y.hei,y.cl,y.all,y.be⟩ y.lgn
 legs:zT w d y.lgn y.lg
 box:u.heap[g]?=some (.cells (y,d,e) 47 (0,0))
 res:u.heap[f]?=some (.cells #[(),(),False,True,(),(),(),(),.bool false,(),(),(),()] 150 (0,0))
 h1:∀ a c,h=some (a,c)->u.ownsRow w.heap.size 3 1 (a,y.lgn,c) y.lgn (zS y.lg y.lgn)
 h2:∀ b,i=some b->w.heap.size<=b/\b≠f/\u.heap[b]?=some (.cells #[(),(),False,True,(),(),(),(),.bool false,(),(),(),()] 150 (0,0))
section
variable {w u : World} {ob rb : Nat} {y : OpD} {alg : Option Addr} {clg : Nat} {p1 : Option (Option Addr × Nat)} {p2 : Option Nat}
theorem NBk.s (h:NBk w u ob rb y alg clg p1 p2):u.cell? (ob,0)=some (int i64 y.kind)/\u.cell? (ob,1)=some (.string y.own)/\u.cell? (ob,2)=some (int i64 y.name)/\u.cell? (ob,3)=some (alg,y.lgn,clg)/\u.cell? (ob,4)=some (int i64 y.pe)/\u.cell? (ob,5)=some (int i64 y.len)/\u.cell? (ob,6)=some (int i64 y.hei)/\u.cell? (ob,7)=some (int i64 y.cl)/\u.cell? (ob,8)=some (.bool y.all)/\u.cell? (ob,9)=some (int i64 y.be)/\u.cell? (ob,10)=some (int i64 y.unt)/\u.cell? (ob,11)=some (int i64 y.now):=⟨za h.box 0 _ rfl,za h.box 1 _ rfl,za h.box 2 _ rfl,za h.box 3 _ rfl,za h.box 4 _ rfl,za h.box 5 _ rfl,za h.box 6 _ rfl,za h.box 7 _ rfl,za h.box 8 _ rfl,za h.box 9 _ rfl,za h.box 10 _ rfl,za h.box 11 _ rfl⟩
theorem NBk.below {f:World}(h:NBk w u ob rb y alg clg p1 p2)(d:Below u.heap.size u f):NBk w f ob rb y alg clg p1 p2:=⟨ze h.bel d,h.rl,h.ban,h.far,h.pok,h.legs,zb h.box d,zb h.res d,λa c e=>zo d (h.h1 a c e),λb e=>⟨(h.h2 b e).1,(h.h2 b e).2.1,zb (h.h2 b e).2.2 d⟩⟩
theorem NBk.c1 (h:NBk w u ob rb y alg clg none p2):Calls prog 212 #[(alg,y.lgn,clg)] u λe f=>∃ a c,e=.returned (a,y.lgn,c)/\Hid (NBk w f ob rb y alg clg (some (a,c)) p2):=by
 have h1:=h.pok.2;have hn:1<=y.lgn/\y.lgn<=3:=by unfold In at h1;omega
 obtain⟨b,o,g,_⟩:=h.legs 0 (by omega)
 subst g;have j:=h.legs;refine(zgp (b,o) y.lgn clg y.lg u (by omega) (j.below h.bel)).mono ?_
 rintro e f ⟨⟨v,rfl,d⟩,i⟩;obtain⟨a,c,rfl,_⟩:=zp d;have k:=h.below i;exact⟨a,c,rfl,k.bel,k.rl,k.ban,k.far,k.pok,k.legs,k.box,k.res,λa' c' e=>(by cases e;exact zu d h.bel.size),k.h2⟩
theorem NBk.c2 (h:NBk w u ob rb y alg clg p1 p2):Calls prog 202 #[.agg (y,alg,clg)] u λe c=>e=.returned (zE ⟨y.pe,y.len,y.hei,y.cl,y.all,y.be⟩ y.lgn)/\Hid (NBk w c ob rb y alg clg p1 p2) :=
 (zcG y alg clg u (h.ban.below h.bel) (h.far.below h.bel) h.pok).mono λ_ _ ⟨a,b⟩=>⟨a,h.below b⟩
theorem NBk.al (h:NBk w u ob rb y alg clg p1 none):NBk w (u.alloc (.cells #[(),(),False,True,(),(),(),(),.bool false,(),(),(),()] 150)) ob rb y alg clg p1 (some u.heap.size):=by
 have k:=h.below (zk (Ji _ u) (.cells #[(),(),False,True,(),(),(),(),.bool false,(),(),(),()] 150));exact⟨k.bel,k.rl,k.ban,k.far,k.pok,k.legs,k.box,k.res,k.h1,λb e=>(by cases e;exact⟨h.bel.size,λe=>by have:=zM h.res;omega,Jb u _⟩)⟩
end
theorem zhA (nm f:Int)(y:OpD)(l:Option Addr)(n:Nat)(w:World)(hB:Zq w)(o:Zu w)(hp:QU ⟨y.pe,y.len,y.hei,y.cl,y.all,y.be⟩ y.lgn)(O:zT w l y.lgn y.lg)(st:Int)(T:(y.kind=2->st=1)/\(y.kind≠2->st=2)) :
  Calls prog 203 #[nm,f,.agg (y,l,n)] w λe w'=>(∃ la j,e=.returned (.agg #[nm,f,y.own,.slice la y.lgn j,y.pe,y.len,y.hei,y.cl,y.all,y.be,st,y.unt,(zE ⟨y.pe,y.len,y.hei,y.cl,y.all,y.be⟩ y.lgn)])/\w'.ownsRow w.heap.size 3 1 (.slice la y.lgn j) y.lgn (zS y.lg y.lgn))/\Below w.heap.size w w':=by
 have c:Hid (NBk w ((w.alloc (.cells (y,l,n) 47)).alloc (.cells #[(),(),False,True,(),(),(),(),.bool false,(),(),(),()] 150)).drew w.heap.size (w.heap.size+1) y l n none none) :=
  ⟨(zk (zk bZ _) _).drew,by omega,hB,o,hp,O,zK (zd (Jb w _) _),zK (by simpa using Jb (w.alloc (.cells (y,l,n) 47)) _),λ_ _ e=>(by cases e),λ_ e=>(by cases e)⟩
 have S:=hI T;clear hB o hp O T;go_enter func203,ntmps203;go_upto_region 1 with fail;go_cut [7] (λs7 U=>∃ nb la j,s7=.pointer (some ⟨nb,0,none⟩)/\w.heap.size<=nb/\nb≠w.heap.size+1/\nb≠w.heap.size/\Hid (U.heap[nb]?=some (.cells #[nm,f,y.own,.slice la y.lgn j,y.pe,y.len,y.hei,y.cl,y.all,y.be,int i64 2,y.unt,(zE ⟨y.pe,y.len,y.hei,y.cl,y.all,y.be⟩ y.lgn)] 150 (0,0)))/\Hid (U.heap[w.heap.size]?=some (.cells (y,l,n) 47 (0,0)))/\Hid (U.heap[w.heap.size+1]?=some (.cells #[int i64 0,int i64 0,.string ⟨#[]⟩,.slice none 0 0,int i64 0,int i64 0,int i64 0,int i64 0,.bool false,int i64 0,int i64 0,int i64 0,int i64 0] 150 (0,0)))/\Hid (U.ownsRow w.heap.size 3 1 (.slice la y.lgn j) y.lgn (zS y.lg y.lgn))/\Below w.heap.size w U)
 case first =>
  refine qg 16 16 (λu=>u.cell? (w.heap.size,0)=some (int i64 y.kind)/\u.cell? (w.heap.size,1)=some (.string y.own)/\u.cell? (w.heap.size,2)=some (int i64 y.name)/\u.cell? (w.heap.size,3)=some (l,y.lgn,n)/\u.cell? (w.heap.size,4)=some (int i64 y.pe)/\u.cell? (w.heap.size,5)=some (int i64 y.len)/\u.cell? (w.heap.size,6)=some (int i64 y.hei)/\u.cell? (w.heap.size,7)=some (int i64 y.cl)/\u.cell? (w.heap.size,8)=some (.bool y.all)/\u.cell? (w.heap.size,9)=some (int i64 y.be)/\u.cell? (w.heap.size,10)=some (int i64 y.unt)/\u.cell? (w.heap.size,11)=some (int i64 y.now)) rfl (by kernel_rfl) c.s (λq=>?_)
  simp only[List.replicate_succ,List.replicate_zero];generalize ((w.alloc (.cells (y,l,n) 47)).alloc (.cells #[(),(),False,True,(),(),(),(),.bool false,(),(),(),()] 150)).drew=u0 at c q ⊢
  iterate 6 (refine tFN 0 (v:=?_) rfl (by kernel_rfl) (λ_ _ _ h=>h) rfl (by assumption) ?_ ?_;rotate_left;(focus(intro w' h;(try dsimp only at h);go_simp;try with_reducible rfl));simp only[Act.put,sB,sZ,sS])
  iterate 5 (refine tFN 7 (v:=?_) rfl (by kernel_rfl) (λ_ _ _ h=>h) rfl (by assumption) ?_ ?_;rotate_left;(focus(intro w' h;(try dsimp only at h);go_simp;try with_reducible rfl));simp only[Act.put,sB,sZ,sS])
  refine zj (rs:=[6,14]) (by kernel_rfl) (by simp) ?_
  refine zc.consL rfl (λK i=>?_) (zc.consL rfl (λK i=>?_) zc.nil)
  focus
   go_simp;go_at_call 212;refine Jm (c.c1) ?_;rintro e u1 ⟨la,j,rfl,c⟩;dsimp only;refine i _ _ c.s (λq=>?_)
   clear i K;simp only[sZ,sS];refine zj (rs:=[12,14]) (by kernel_rfl) (by simp) ?_
   refine zc.consL rfl (λK i=>?_) (zc.consL rfl (λK i=>?_) zc.nil)
   focus
    go_simp;go_at_call 202;refine Jm (c.c2) ?_;rintro e u2 ⟨rfl,c⟩;dsimp only;refine i _ _ c.s (λq=>?_)
    clear i K;simp only[sZ,sS]
    (refine tFN 13 (v:=?_) rfl (by kernel_rfl) (λ_ _ _ h=>h) rfl (by assumption) ?_ ?_;rotate_left;(focus(intro w' h;(try dsimp only at h);go_simp;try with_reducible rfl));simp only[Act.put,sB,sZ,sS])
    refine zj (rs:=[14]) (by kernel_rfl) (by simp) ?_
    refine zc.consL rfl (λK i=>?_) zc.nil
    focus
     go_simp;replace c:Hid _:=c.al;refine i _ _ c.s (λq=>?_)
     clear i K;simp only[sZ,sS];generalize u2.alloc (.cells #[(),(),False,True,(),(),(),(),.bool false,(),(),(),()] 150)=u3 at c q ⊢;generalize u2.heap.size=nb at c ⊢
   rotate_left 1
   focus
    go_simp;replace c:Hid _:=c.al;refine i _ _ c.s (λq=>?_)
    clear i K;simp only[sZ,sS];generalize u1.alloc (.cells #[(),(),False,True,(),(),(),(),.bool false,(),(),(),()] 150)=u2 at c q ⊢;generalize u1.heap.size=nb at c ⊢;refine zj (rs:=[12]) (by kernel_rfl) (by simp) ?_
    refine zc.consL rfl (λK i=>?_) zc.nil
    focus
     go_simp;go_at_call 202;refine Jm (c.c2) ?_;rintro e u3 ⟨rfl,c⟩;dsimp only;refine i _ _ c.s (λq=>?_)
     clear i K;simp only[sZ,sS]
     (refine tFN 13 (v:=?_) rfl (by kernel_rfl) (λ_ _ _ h=>h) rfl (by assumption) ?_ ?_;rotate_left;(focus(intro w' h;(try dsimp only at h);go_simp;try with_reducible rfl));simp only[Act.put,sB,sZ,sS])
  rotate_left 2
  focus
   go_simp;replace c:Hid _:=c.al;refine i _ _ c.s (λq=>?_)
   clear i K;simp only[sZ,sS];generalize u0.alloc (.cells #[(),(),False,True,(),(),(),(),.bool false,(),(),(),()] 150)=u1 at c q ⊢;generalize u0.heap.size=nb at c ⊢;refine zj (rs:=[6]) (by kernel_rfl) (by simp) ?_
   refine zc.consL rfl (λK i=>?_) zc.nil
   focus
    go_simp;go_at_call 212;refine Jm (c.c1) ?_;rintro e u2 ⟨la,j,rfl,c⟩;dsimp only;refine i _ _ c.s (λq=>?_)
    clear i K;simp only[sZ,sS];refine zj (rs:=[12]) (by kernel_rfl) (by simp) ?_
    refine zc.consL rfl (λK i=>?_) zc.nil
    focus
     go_simp;go_at_call 202;refine Jm (c.c2) ?_;rintro e u3 ⟨rfl,c⟩;dsimp only;refine i _ _ c.s (λq=>?_)
     clear i K;simp only[sZ,sS]
     (refine tFN 13 (v:=?_) rfl (by kernel_rfl) (λ_ _ _ h=>h) rfl (by assumption) ?_ ?_;rotate_left;(focus(intro w' h;(try dsimp only at h);go_simp;try with_reducible rfl));simp only[Act.put,sB,sZ,sS])
  all_goals
   obtain⟨z,A,V⟩:=c.h2 nb rfl;have B:Hid _:=V;have L:nb≠w.heap.size:=λe=>by have h:=c.box;rw[← e,V] at h;simp at h
   have D:Hid _:=zdl u3 nb nm f y.own (la,y.lgn,j) y.pe y.len y.hei y.cl y.all y.be (int i64 2) y.unt (zE ⟨y.pe,y.len,y.hei,y.cl,y.all,y.be⟩ y.lgn);have R:Hid _:=zev V nm f y.own (la,y.lgn,j) y.pe y.len y.hei y.cl y.all y.be (int i64 2) y.unt (zE ⟨y.pe,y.len,y.hei,y.cl,y.all,y.be⟩ y.lgn);have Y:Hid _:=zew c.bel z nm f y.own (la,y.lgn,j) y.pe y.len y.hei y.cl y.all y.be (int i64 2) y.unt (zE ⟨y.pe,y.len,y.hei,y.cl,y.all,y.be⟩ y.lgn);obtain⟨q0,q1,q2,q3,q4,q5,q6,q7,q8,q9,N,a3,a4⟩:=zeX B;obtain⟨g0,g1,g2,g3,g4,g5,g6,g7,g8,g9,G,a1,a2⟩:=fe13 B;refine zj (rs:=[15]) (by kernel_rfl) (by simp) ?_
   refine zc.consL rfl (λK i=>?_) zc.nil
   go_simp;have d:Hid _:=D.blk c.box (show ¬ w.heap.size=nb from λe=>L e.symm)
   have X:Hid _:=D.blk c.res (show ¬ w.heap.size+1=nb from λe=>A e.symm)
   have a0:Hid _:=D.own (c.h1 la j rfl) (λg h1 h2=>zQ (c.h1 la j rfl) B (by decide) g h1 h2)
   refine i _ _ ⟨za d 0 _ rfl,za d 1 _ rfl,za d 2 _ rfl,za d 3 _ rfl,za d 4 _ rfl,za d 5 _ rfl,za d 6 _ rfl,za d 7 _ rfl,za d 8 _ rfl,za d 9 _ rfl,za d 10 _ rfl,za d 11 _ rfl⟩ (λq=>?_)
   clear i K q0 g0 q1 g1 q2 g2 q3 g3 q4 g4 q5 g5 q6 g6 q7 g7 q8 g8 q9 g9 N G a3 a1 a4 a2 V;simp only[sZ,sS];refine zX (by kernel_rfl) ?_ _
   go_wp2;go_meet;exact⟨nb,la,j,rfl,z,A,L,R,d,X,a0,Y⟩
 case rest =>
 clear c;obtain⟨nb,la,j,rfl,z,A,L,E,HO,c,Q,x⟩:=hcut;have y0:=za HO 0 _ rfl
 by_cases k2:y.kind=2
 ·have d2:(y.kind == 2)=true:=by simpa using k2
  have C:=hI (S.1 k2);clear k2;have N:=za E 10 _ rfl;have G:=zg E 10;have I:zx wc (wc.setCell (nb,10) (int i64 1)) (λb=>b=nb):=(zx.refl wc (λb=>b=nb)).set (a:=(nb,10)) rfl _
  have s:(wc.setCell (nb,10) (int i64 1)).heap[nb]?=some (.cells #[nm,f,y.own,(la,y.lgn,j),y.pe,y.len,y.hei,y.cl,y.all,y.be,int i64 1,y.unt,(zE ⟨y.pe,y.len,y.hei,y.cl,y.all,y.be⟩ y.lgn)] 150 (0,0)):=by simpa using zm E 10 (int i64 1)
  have m:=I.blk c (show ¬ w.heap.size+1=nb from λe=>A e.symm)
  have r:=I.own Q (λg h1 h2=>zQ Q E (by decide) g h1 h2)
  have t:=x.setCell (p:=(nb,10)) z (int i64 1);go_upto_region 4 with fail;generalize wc.setCell (nb,10) (int i64 1)=W at s m r t ⊢;clear N G I E c Q x HO y0;refine wp_region_lit ?_;refine wpList_load_row rfl _ _ rfl nb rfl _ _ (0,0) _ s underlying150 rfl Tryz.sizeBk ?_;refine wpList_store_row rfl _ _ _ rfl (w.heap.size+1) _ rfl rfl _ _ m Tryz.sizeBk rfl (by simp[Value.oneCell']) ?_
  obtain⟨F,o⟩:∃ F,F=W.setRow (w.heap.size+1) #[nm,f,y.own,(la,y.lgn,j),y.pe,y.len,y.hei,y.cl,y.all,y.be,int i64 1,y.unt,(zE ⟨y.pe,y.len,y.hei,y.cl,y.all,y.be⟩ y.lgn)]:=⟨_,rfl⟩;have RF:F.heap[w.heap.size+1]?=some (.cells #[nm,f,y.own,(la,y.lgn,j),y.pe,y.len,y.hei,y.cl,y.all,y.be,int i64 1,y.unt,(zE ⟨y.pe,y.len,y.hei,y.cl,y.all,y.be⟩ y.lgn)] 150 (0,0)):=by rw[o];exact setRow_heap _ _ _ _ _ _ m
  have Z:Below w.heap.size w F:=by rw[o];exact below_setRow t (by omega) _
  have M:F.ownsRow w.heap.size 3 1 (la,y.lgn,j) y.lgn (zS y.lg y.lgn):=by
   have H:zx W F (λb=>b=w.heap.size+1):=by rw[o];exact⟨rfl,rfl,rfl,(below_setRow (Ji 0 W) (Jq _) _).size,λk _ J=>setRow_other _ _ _ _ J⟩
   exact H.own r (λg h1 h2=>zQ r m (by decide) g h1 h2)
  rw[← o];clear o;have O:=run_loadVar_row (P:=prog) F (w.heap.size+1) 150 150 _ (0,0) _ RF underlying150 rfl Tryz.sizeBk;go_wp2;exact Jj (v:=.agg #[nm,f,y.own,(la,y.lgn,j),y.pe,y.len,y.hei,y.cl,y.all,y.be,int i64 1,y.unt,(zE ⟨y.pe,y.len,y.hei,y.cl,y.all,y.be⟩ y.lgn)]) (Qq results203 rfl O) rfl ⟨⟨la,j,by rw[C.out],M⟩,Z⟩
 ·have d2:(y.kind == 2)=false:=by simpa using k2
  have C:=hI (S.2 k2);clear k2;have s:=E;have m:=c;have r:=Q;have t:=x;go_upto_region 4 with fail;clear E c Q x HO y0;refine wp_region_lit ?_;refine wpList_load_row rfl _ _ rfl nb rfl _ _ (0,0) _ s underlying150 rfl Tryz.sizeBk ?_;refine wpList_store_row rfl _ _ _ rfl (w.heap.size+1) _ rfl rfl _ _ m Tryz.sizeBk rfl (by simp[Value.oneCell']) ?_
  obtain⟨F,o⟩:∃ F,F=wc.setRow (w.heap.size+1) #[nm,f,y.own,(la,y.lgn,j),y.pe,y.len,y.hei,y.cl,y.all,y.be,int i64 2,y.unt,(zE ⟨y.pe,y.len,y.hei,y.cl,y.all,y.be⟩ y.lgn)]:=⟨_,rfl⟩;have RF:F.heap[w.heap.size+1]?=some (.cells #[nm,f,y.own,(la,y.lgn,j),y.pe,y.len,y.hei,y.cl,y.all,y.be,int i64 2,y.unt,(zE ⟨y.pe,y.len,y.hei,y.cl,y.all,y.be⟩ y.lgn)] 150 (0,0)):=by rw[o];exact setRow_heap _ _ _ _ _ _ m
  have Z:Below w.heap.size w F:=by rw[o];exact below_setRow t (by omega) _
  have M:F.ownsRow w.heap.size 3 1 (la,y.lgn,j) y.lgn (zS y.lg y.lgn):=by
   have H:zx wc F (λb=>b=w.heap.size+1):=by rw[o];exact⟨rfl,rfl,rfl,(below_setRow (Ji 0 wc) (Jq _) _).size,λk _ J=>setRow_other _ _ _ _ J⟩
   exact H.own r (λg h1 h2=>zQ r m (by decide) g h1 h2)
  rw[← o];clear o;have O:=run_loadVar_row (P:=prog) F (w.heap.size+1) 150 150 _ (0,0) _ RF underlying150 rfl Tryz.sizeBk;go_wp2;exact Jj (v:=.agg #[nm,f,y.own,(la,y.lgn,j),y.pe,y.len,y.hei,y.cl,y.all,y.be,int i64 2,y.unt,(zE ⟨y.pe,y.len,y.hei,y.cl,y.all,y.be⟩ y.lgn)]) (Qq results203 rfl O) rfl ⟨⟨la,j,by rw[C.out],M⟩,Z⟩
end
section
open Go.RowKit
variable{F:Nat->Int}{x:Int}{n:Nat}
def Has (F:Nat->Int)(n:Nat)(x:Int):Prop:=∃ j,j<n/\F j=x
def zaj (F:Nat->Int)(x:Int):Nat->Nat
 | 0=>0
 | n+1=>if zaj F x n<n then zaj F x n else if F n=x then n else n+1
theorem ixOf_le (F:Nat->Int)(x:Int)(n:Nat):zaj F x n<=n:=by
 induction n with
 | zero=>exact Jr _
 | succ n ih=>unfold zaj;split <;> (try split) <;> omega
theorem zgs (F:Nat->Int)(x:Int)(n:Nat):∀ j,j<zaj F x n->F j≠x:=by
 induction n with
 | zero=>intro j a;unfold zaj at a;omega
 | succ n ih =>
  intro j a;unfold zaj at a;have hl:=ixOf_le F x n
  by_cases h1:zaj F x n<n
  ·rw[Jf h1] at a;exact ih j a
  ·rw[Je h1] at a
   have he:zaj F x n=n:=by omega
   by_cases h2:F n=x
   ·rw[Jf h2] at a;exact ih j (by omega)
   ·rw[Je h2] at a
    by_cases e:j=n
    ·subst e;exact h2
    ·exact ih j (by omega)
theorem zdn (F:Nat->Int)(x:Int)(n:Nat)(h:zaj F x n<n):F (zaj F x n)=x:=by
 induction n with
 | zero=>omega
 | succ n ih =>
  unfold zaj at h ⊢
  by_cases h1:zaj F x n<n
  ·rw[Jf h1];exact ih h1
  ·rw[Je h1] at h ⊢
   by_cases h2:F n=x
   ·rw[Jf h2];exact h2
   ·rw[Je h2] at h;omega
theorem zfe {r:Nat}(hr:r<n)(b:F r=x)(a:∀ j,j<r->F j≠x):zaj F x n=r:=by
 have h1:=zgs F x n
 by_cases c:zaj F x n<r
 ·exact absurd (zdn F x n (by omega)) (a _ c)
 ·by_cases c2:r<zaj F x n
  ·exact absurd b (h1 r c2)
  ·omega
theorem zdo (F:Nat->Int)(n:Nat)(x:Int):Has F n x↔zaj F x n<n:=by
 constructor
 ·rintro⟨j,hj,e⟩
  by_cases c:zaj F x n<n
  ·exact c
  ·have:=ixOf_le F x n
   exact absurd e (zgs F x n j (by omega))
 ·intro h
  exact⟨_,h,zdn F x n h⟩
theorem zdp (h:∀ j,j<n->F j≠x):¬ Has F n x:=λ⟨j,hj,e⟩=>h j hj e
def Zv (F:Nat->Int)(x:Int)(n:Nat):Int:=if zaj F x n<n then (zaj F x n:Int) else -1
theorem QC (F:Nat->Int)(x:Int)(n:Nat):0<=Zv F x n↔Has F n x:=by
 rw[zdo];unfold Zv
 split <;> omega
theorem zbM (h:¬ Has F n x):Zv F x n=-1:=Je (λc=>h ((zdo F n x).2 c))
end
section
open Go.RowKit
variable{n k m base t:Nat}{P:Nat->Prop}{w:World}{x cl q:Int}{v:Value}
def ZV (S:Nat->qN)(j:Nat):Int:=(S j).who
def zai (S:Nat->qN)(k:Nat):Nat->Int
 | 0=>0
 | i+1=>zai S k i+(if (S i).cab=(k:Int) then (S i).many else 0)
def Za (p:zH)(S:Nat->qN)(i:Nat)(k:Nat):Int:=p.B k - zai S k i
theorem ziC (p:zH)(S:Nat->qN)(k:Nat):Za p S 0 k=p.B k:=by unfold Za zai;omega
theorem zdK (p:zH)(S:Nat->qN)(i k:Nat)(h:(S i).cab=(k:Int)):Za p S (i+1) k=Za p S i k - (S i).many:=by
 unfold Za;rw[zai,Jf h];omega
theorem zgb (p:zH)(S:Nat->qN)(i k:Nat)(h:(S i).cab≠(k:Int)):Za p S (i+1) k=Za p S i k:=by
 unfold Za;rw[zai,Je h];omega
theorem zka (S:Nat->qN)(k i:Nat)(h:∀ j,j<i->In (S j).many 1 4):0<=zai S k i/\zai S k i<=4*i:=by
 induction i with
 | zero=>exact⟨Int.le_refl _,by unfold zai;omega⟩
 | succ i ih =>
  have:=ih (λj hj=>h j (by omega))
  have a:=h i (by omega)
  unfold In at a;unfold zai
  split <;> omega
theorem zff (p:zH)(S:Nat->qN)(k i n:Nat)(a:i<=n)(h:∀ j,j<n->In (S j).many 1 4):Za p S n k<=Za p S i k:=by
 induction n with
 | zero=>rw[show i=0 by omega];exact Int.le_refl _
 | succ n ih =>
  by_cases e:i=n+1
  ·rw[e];exact Int.le_refl _
  ·have:=ih (by omega) (λj hj=>h j (by omega))
   have b:=h n (by omega)
   unfold In at b
   by_cases c:(S n).cab=(k:Int)
   ·rw[zdK p S n k c];omega
   ·rw[zgb p S n k c];exact this
def zgt (p:zH):Prop:=zaZ p 6 1 3 1 4
def OkR0 (p:zH)(S:Nat->qN)(i:Nat):Prop:=In (S i).who 1 9999/\¬ Has (ZV S) i (S i).who/\In (S i).cab 0 ((p.n:Int) - 1)/\In (S i).many 1 4/\((S i).all=true->(S i).many=p.B (S i).cab.toNat)
def OkR2 (S:Nat->qN)(i j:Nat):Prop:=(S j).cab=(S i).cab->(S j).all=false/\(S i).all=false
def OkR (p:zH)(S:Nat->qN)(i:Nat):Prop:=OkR0 p S i/\∀ j,j<i->OkR2 S i j
def Qr (p:zH)(n:Nat)(S:Nat->qN):Prop:=zgt p/\n<=60/\(∀ i,i<n->OkR p S i)/\∀ k,k<p.n->0<=Za p S n k
theorem Qr.manys {p:zH}{S:Nat->qN}(h:Qr p n S):∀ j,j<n->In (S j).many 1 4:=λj a=>(h.2.2.1 j a).1.2.2.2.1
theorem zdq {p:zH}{S:Nat->qN}(c:zgt p)(hn:n<=60)(e:∀ j,j<n->In (S j).many 1 4)(d:k<p.n):-240<=Za p S n k/\Za p S n k<=4:=by
 have a:=(c.2 k d).2;have b:=zka S k n e;unfold In at a;unfold Za
 omega
def ZH (m:Nat)(P:Nat->Prop)(k:Nat):Prop:=k<m/\P k/\∀ j,j<k->¬ P j
theorem zgu {j:Nat}(h1:ZH m P k)(h2:ZH m P j):k=j:=by
 by_cases c:k<j
 ·exact absurd h1.2.1 (h2.2.2 k c)
 ·by_cases c2:j<k
  ·exact absurd h2.2.1 (h1.2.2 j c2)
  ·omega
open Classical in
/-- The first, where G holds. -/
noncomputable def zfF (G:Prop)(m:Nat)(P:Nat->Prop):Option Nat:=if h:G/\∃ k,ZH m P k then some h.2.choose else none
theorem zdL {G:Prop}(b:G)(h:ZH m P k):zfF G m P=some k:=by
 have a:G/\∃ k,_:=⟨b,k,h⟩;unfold zfF;rw[dif_pos a,zgu a.2.choose_spec h]
theorem zkb {G:Prop}(h:∀ k,¬ (G/\ZH m P k)):zfF G m P=none:=by
 unfold zfF;rw[dif_neg (λ⟨g,k,hk⟩=>h k ⟨g,hk⟩)]
theorem zgv {G:Prop}(h:zfF G m P=some k):G/\ZH m P k:=by
 unfold zfF at h
 split at h
 ·rename_i he
  have:=he.2.choose_spec;simp only[Option.some.injEq] at h;rw[h] at this;exact⟨he.1,this⟩
 ·cases h
def PlaceG (p:zH)(n:Nat)(S:Nat->qN)(x:Int):Prop:=Qr p n S/\n≠60/\¬ Has (ZV S) n x/\In x 1 9999
def zmA (p:zH)(n:Nat)(S:Nat->qN)(x cl q:Int):Prop:=PlaceG p n S x/\In cl 1 3/\In q 1 20
def zbD (p:zH)(n:Nat)(S:Nat->qN)(cl q:Int)(k:Nat):Prop:=p.A k=cl/\Za p S n k=p.B k/\(q<=p.B k∨¬ ∃ j,j<p.n/\p.A j=cl/\q<=p.B j)
noncomputable def zdr (p:zH)(n:Nat)(S:Nat->qN)(x cl q:Int):Option Nat:=zfF (zmA p n S x cl q) p.n (zbD p n S cl q)
noncomputable def zgw (p:zH)(n:Nat)(S:Nat->qN)(x cl q:Int):Bool:=(zdr p n S x cl q).isSome
noncomputable def zcK (p:zH)(n:Nat)(S:Nat->qN)(x cl q:Int):Int:=((zdr p n S x cl q).getD 0:Nat)
noncomputable def zdM (p:zH)(n:Nat)(S:Nat->qN)(x cl q:Int):Nat:=if (zdr p n S x cl q).isSome then n+1 else 0
noncomputable def zdN (p:zH)(n:Nat)(S:Nat->qN)(x cl q:Int):Nat->qN:=ZE S n (λ_=>⟨x,zcK p n S x cl q,p.B ((zdr p n S x cl q).getD 0),true⟩)
def zgc (w':World)(base t:Nat)(p:zH)(n:Nat)(S:Nat->qN)(x cl q:Int)(e:Ending):Prop :=
 ∃ v,e=.returned (.tuple #[v,(zcK p n S x cl q),.bool (zgw p n S x cl q)])/\w'.ownsRow base t 4 v (zdM p n S x cl q) (zw (zdN p n S x cl q) (zdM p n S x cl q))
theorem zgx {p:zH}{S:Nat->qN}(h:∀ k,¬ (zmA p n S x cl q/\ZH p.n (zbD p n S cl q) k)):zgc w base t p n S x cl q (.returned (.tuple #[True,(),.bool false])):=by
 have e:zdr p n S x cl q=none:=zkb h;refine⟨.slice none 0 0,?_,?_⟩
 ·unfold zcK zgw;rw[e];rfl
 ·unfold zdM;rw[e];exact⟨rfl,.inl ⟨rfl,rfl⟩⟩
theorem zkc {p:zH}{S:Nat->qN}(a:zmA p n S x cl q)(h:ZH p.n (zbD p n S cl q) k)
  (b:w.ownsRow base t 4 v (n+1) (zw (ZE S n (λ_=>⟨x,(k:Int),p.B k,true⟩)) (n+1))):zgc w base t p n S x cl q (.returned (.tuple #[v,(k:Int),.bool true])):=by
 have e:zdr p n S x cl q=_:=zdL a h;refine⟨v,?_,?_⟩
 ·unfold zcK zgw;rw[e];rfl
 ·unfold zdN zcK zdM;rw[e];exact b
def zmB (p:zH)(n:Nat)(S:Nat->qN)(x cl q:Int):Prop:=PlaceG p n S x/\In cl 1 3/\In q 1 4
def zbN (p:zH)(n:Nat)(S:Nat->qN)(cl q:Int)(k:Nat):Prop:=p.A k=cl/\q<=Za p S n k
noncomputable def zej (p:zH)(n:Nat)(S:Nat->qN)(x cl q:Int):Option Nat:=zfF (zmB p n S x cl q) p.n (zbN p n S cl q)
noncomputable def zgy (p:zH)(n:Nat)(S:Nat->qN)(x cl q:Int):Bool:=(zej p n S x cl q).isSome
noncomputable def zcL (p:zH)(n:Nat)(S:Nat->qN)(x cl q:Int):Int:=((zej p n S x cl q).getD 0:Nat)
noncomputable def zdO (p:zH)(n:Nat)(S:Nat->qN)(x cl q:Int):Nat:=if (zej p n S x cl q).isSome then n+1 else 0
noncomputable def zdP (p:zH)(n:Nat)(S:Nat->qN)(x cl q:Int):Nat->qN:=ZE S n (λ_=>⟨x,zcL p n S x cl q,q,false⟩)
def zgd (w':World)(base t:Nat)(p:zH)(n:Nat)(S:Nat->qN)(x cl q:Int)(e:Ending):Prop :=
 ∃ v,e=.returned (.tuple #[v,(zcL p n S x cl q),.bool (zgy p n S x cl q)])/\w'.ownsRow base t 4 v (zdO p n S x cl q) (zw (zdP p n S x cl q) (zdO p n S x cl q))
theorem zlL {p:zH}{S:Nat->qN}(h:∀ k,¬ (zmB p n S x cl q/\ZH p.n (zbN p n S cl q) k)):zgd w base t p n S x cl q (.returned (.tuple #[True,(),.bool false])):=by
 have e:zej p n S x cl q=none:=zkb h;refine⟨.slice none 0 0,?_,?_⟩
 ·unfold zcL zgy;rw[e];rfl
 ·unfold zdO;rw[e];exact⟨rfl,.inl ⟨rfl,rfl⟩⟩
theorem zkd {p:zH}{S:Nat->qN}(a:zmB p n S x cl q)(h:ZH p.n (zbN p n S cl q) k)
  (b:w.ownsRow base t 4 v (n+1) (zw (ZE S n (λ_=>⟨x,(k:Int),q,false⟩)) (n+1))):zgd w base t p n S x cl q (.returned (.tuple #[v,(k:Int),.bool true])):=by
 have e:zej p n S x cl q=_:=zdL a h;refine⟨v,?_,?_⟩
 ·unfold zcL zgy;rw[e];rfl
 ·unfold zdP zcL zdO;rw[e];exact b
end
section
open Go.RowKit
variable{most x many:Int}{n base t:Nat}{w:World}{v:Value}
def zag (S:Nat->Qe)(j:Nat):Int:=(S j).who
def QN (S:Nat->Qe):Nat->Int
 | 0=>0
 | i+1=>QN S i+(S i).many
def Qx (most:Int)(n:Nat)(S:Nat->Qe):Prop :=
 In most 0 500/\n<=60/\(∀ i,i<n->In (S i).who 1 9999/\¬ Has (zag S) i (S i).who/\In (S i).many 1 20)/\QN S n<=most
theorem zek (S:Nat->Qe)(i:Nat)(h:∀ j,j<i->In (S j).many 1 20):0<=QN S i/\QN S i<=20*i:=by
 induction i with
 | zero=>exact⟨Int.le_refl _,by unfold QN;omega⟩
 | succ i ih =>
  have:=ih (λj hj=>h j (by omega))
  have a:=h i (by omega)
  unfold In at a;unfold QN
  omega
def Ze (S:Nat->Qe)(n:Nat)(x many:Int):Nat->Qe:=zam S n (λ_=>⟨x,many⟩)
def zck (most:Int)(n:Nat)(S:Nat->Qe)(x many:Int):Prop:=Qx most n S/\Qx most (n+1) (Ze S n x many)
open Classical in
noncomputable def zfg (most:Int)(n:Nat)(S:Nat->Qe)(x many:Int):Bool:=decide (zck most n S x many)
noncomputable def zdQ (most:Int)(n:Nat)(S:Nat->Qe)(x many:Int):Nat:=if zfg most n S x many then n+1 else 0
theorem zel {S:Nat->Qe}(h:zck most n S x many):zfg most n S x many=true:=by unfold zfg;simpa using h
theorem zfh {S:Nat->Qe}(h:¬ zck most n S x many):zfg most n S x many=false:=by unfold zfg;simpa using h
def zge (w':World)(base t:Nat)(most:Int)(n:Nat)(S:Nat->Qe)(x many:Int)(e:Ending):Prop :=
 ∃ v,e=.returned (.tuple #[v,.bool (zfg most n S x many)])/\w'.ownsRow base t 2 v (zdQ most n S x many) (zB (Ze S n x many) (zdQ most n S x many))
theorem zlM {S:Nat->Qe}(h:¬ zck most n S x many):zge w base t most n S x many (.returned (.tuple #[True,.bool false])):=by
 refine⟨_,by rw[zfh h],?_⟩
 unfold zdQ;rw[zfh h];exact⟨rfl,.inl ⟨rfl,rfl⟩⟩
theorem zke {S:Nat->Qe}(h:zck most n S x many)
  (a:w.ownsRow base t 2 v (n+1) (zB (Ze S n x many) (n+1))):zge w base t most n S x many (.returned (.tuple #[v,.bool true])):=by
 refine⟨v,by rw[zel h],?_⟩
 unfold zdQ;rw[zel h];exact a
end
end Go.Proofs.YtmdnjgihooflfaaGreatDoor
